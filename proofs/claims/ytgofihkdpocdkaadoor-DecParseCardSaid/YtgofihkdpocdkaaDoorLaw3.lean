/-
  LAYER 3's STATEMENTS, WALKED: texts as numbers.
-/
import Derived.Test.YtgofihkdpocdkaaDoorDec7
namespace Go.Proofs.YtgofihkdpocdkaaDoor
open Go.RowKit Go.Shelf

set_option maxRecDepth 100000 in
set_option maxHeartbeats 2000000 in
theorem known3_any (w : World) : Calls Tryd.prog 43 #[] w fun e w' => e = .returned (.bool true) ∧ Below w.heap.size w w' := by
  have h1 := fun w => natParse_any ⟨#[48, 48, 50, 53, 56]⟩ w (by decide)
  have h2 := fun w => natParse_any ⟨#[50, 97]⟩ w (by decide)
  have h3 := fun w => natTwos_any ⟨#[40]⟩ w (by decide)
  have h4 := fun w => natText_of ⟨#[1, 2]⟩ w (by decide)
  have h5 := fun w => natText_of ⟨#[]⟩ w (by decide)
  have h6 := fun w => natDigits_any ⟨#[1, 2]⟩ w (by decide)
  have e1 : parseOut ⟨#[48, 48, 50, 53, 56]⟩ = .tuple #[.string ⟨#[1, 2]⟩, .int .i64 0] := by
    rw [parseOut_ok _ (by decide) (by decide) (by decide)]
    have : Nt.E (Nt.dv (⟨#[48, 48, 50, 53, 56]⟩ : ByteArray).data.toList) = ⟨#[1, 2]⟩ := by decide
    rw [this]
  have e2 : parseOut ⟨#[50, 97]⟩ = .tuple #[.string ⟨#[]⟩, .int .i64 3] := parseOut_bad _ (Or.inl (by decide))
  have e3 : Nt.V ⟨#[40]⟩ = 40 := by decide
  have e4 : Nt.V ⟨#[1, 2]⟩ = 258 := by decide
  have e5 : Nt.V ⟨#[]⟩ = 0 := by decide
  have e6 : Nt.D 258 = ⟨#[50, 53, 56]⟩ := by decide
  have e7 : Nt.D 0 = ⟨#[48]⟩ := by decide
  rw [e1] at h1
  rw [e2] at h2
  rw [e3] at h3
  rw [e4, e6] at h4 h6
  rw [e5, e7] at h5
  have h3' := fun w => (h3 w).mono (fun e w' (h : TwosRel 40 e ∧ Below w.heap.size w w') => (by
    obtain ⟨h, hb⟩ := h
    rcases h with ⟨h, _⟩ | ⟨_, t, f, he, ht, hf⟩
    · cases h
    · have a1 : t = 3 := ht.eq ⟨by decide, by decide⟩
      have a2 : f = 1 := hf.eq ⟨by decide, by decide⟩
      subst a1 a2
      exact ⟨he, hb⟩ : e = .returned (.tuple #[.int .i64 3, .int .i64 1]) ∧ Below w.heap.size w w'))
  have H1 := Lib.hid h1
  have H2 := Lib.hid h2
  have H3 := Lib.hid h3'
  have H4 := Lib.hid h4
  have H5 := Lib.hid h5
  have H6 := Lib.hid h6
  have hB := Below.refl w.heap.size w
  clear h1 h2 h3 h3' h4 h5 h6 e1 e2 e3 e4 e5 e6 e7
  go_enter Tryd.func43, Tryd.ntmps43
  go_wp2_with fail
  refine (chain hB (H1.out _)).mono ?_; clear hB; rintro e w1 ⟨rfl, hB⟩
  go_wp2_with fail
  refine (chain hB (H2.out _)).mono ?_; clear hB; rintro e w1 ⟨rfl, hB⟩
  go_wp2_with fail
  refine (chain hB (H3.out _)).mono ?_; clear hB; rintro e w1 ⟨rfl, hB⟩
  go_wp2_with fail
  refine (chain hB (H4.out _)).mono ?_; clear hB; rintro e w1 ⟨rfl, hB⟩
  go_wp2_with fail
  refine (chain hB (H5.out _)).mono ?_; clear hB; rintro e w1 ⟨rfl, hB⟩
  go_wp2_with fail
  refine (chain hB (H6.out _)).mono ?_; clear hB; rintro e w1 ⟨rfl, hB⟩
  go_wp2
  go_ret
  exact ⟨rfl, hB⟩

/-- what is left of digits when zeros ahead are taken off. -/
def StripRel (x : Nat) (a : Value) : Prop := ∃ (k : Nat) (t : ByteArray), k < 400 ∧ a = .string t ∧ t = Nt.S (Nt.dcs x (k + 1)) ∧ x < 10 ^ (k + 1)
theorem strip_facts (x k : Nat) (hx : x < 10 ^ (k + 1)) : (Nt.S (Nt.dcs x (k + 1))).size = k + 1 ∧ (∀ h, ((Nt.S (Nt.dcs x (k + 1)))[0]'h).toNat = 48 + x / 10 ^ k) ∧
    (Nt.S (Nt.dcs x (k + 1))).extract 1 (Nt.S (Nt.dcs x (k + 1))).size = Nt.S (Nt.dcs x k) := by
  have hl : (Nt.dcs x (k + 1)).length = k + 1 := Nt.dcs_length _ _
  have hsz : (Nt.S (Nt.dcs x (k + 1))).size = k + 1 := by rw [Nt.S_size, hl]
  have hp : 0 < 10 ^ k := Nat.pow_pos (by omega)
  have hq : x / 10 ^ k < 10 := by rw [Nat.div_lt_iff_lt_mul hp, Nat.mul_comm, ← Nat.pow_succ]; exact hx
  refine ⟨hsz, fun h => ?_, ?_⟩
  · rw [Nt.S_get _ (fun y hy => by have := Nt.dcs_lt x (k + 1) y hy; omega), Nt.dcs_get, show k + 1 - 1 - 0 = k from by omega, Nat.mod_eq_of_lt hq]
  · rw [hsz]
    have e3 : ∀ (a b : ByteArray), a.data.toList = b.data.toList → a = b := fun a b hab => by
      obtain ⟨⟨x⟩⟩ := a; obtain ⟨⟨y⟩⟩ := b; simpa using hab
    apply e3
    rw [Lib.extract_data, Nt.S_toList, Nt.S_toList, Nt.dcs_one, List.map_cons, List.drop_one, List.tail_cons]
    exact List.take_of_length_le (by rw [List.length_map, Nt.dcs_length]; omega)
set_option maxRecDepth 100000 in
set_option maxHeartbeats 2000000 in
theorem decParse_any (s : ByteArray) (w : World) (hs : s.size ≤ maxLen) :
    Calls Tryd.prog 10 #[.string s] w fun e w' => e = .returned (.bool true) ∧ Below w.heap.size w w' := by
  have HK := Lib.hid known3_any
  have hB := Below.refl w.heap.size w
  have h1 := fun w => natParse_any s w hs
  have h2 := fun w => refParse_any s w hs
  by_cases hok : s.data.toList.all Nt.isDig = true ∧ 0 < s.size ∧ s.size ≤ 400
  · obtain ⟨ha, hp, hl⟩ := hok
    rw [parseOut_ok s ha hp hl] at h1 h2
    have hds : ∀ b ∈ s.data.toList, Nt.isDig b = true := fun b hb => List.all_eq_true.1 ha b hb
    have hxs := Nt.dv_size hds (by simpa using hl)
    have hsd := Nt.dcs_dv s.data.toList hds
    have hlt := Nt.dv_lt s.data.toList hds
    have hsl : s.data.toList.length = s.size := by simp
    rw [hsl] at hsd hlt
    have hS : s = Nt.S (Nt.dcs (Nt.dv s.data.toList) s.size) := by unfold Nt.S; rw [hsd]
    obtain ⟨x, hx⟩ : ∃ x, x = Nt.dv s.data.toList := ⟨_, rfl⟩
    rw [← hx] at h1 h2 hxs hlt hS
    have h3 := fun w => natText_of (Nt.E x) w (by omega)
    rw [Nt.V_E] at h3
    have H1 := Lib.hid h1
    have H2 := Lib.hid h2
    have H3 := Lib.hid h3
    have HS := Lib.hid hS
    have HLT := Lib.hid hlt
    obtain ⟨R, hR⟩ : ∃ R, R = Nt.D x := ⟨_, rfl⟩
    rw [← hR] at H3
    have HR := Lib.hid hR
    clear h1 h2 h3 hS hlt hsd hx hds ha hxs hsl hR
    go_enter Tryd.func10, Tryd.ntmps10
    go_wp2_with (first
      | (go_at_call 41; refine (chain hB (H1.out _)).mono ?_; clear hB; rintro e w1 ⟨rfl, hB⟩)
      | (go_at_call 42; refine (chain hB (H2.out _)).mono ?_; clear hB; rintro e w1 ⟨rfl, hB⟩))
    go_loop [7] (StripRel x) (fun a => strLen a)
    case atStart => exact ⟨s.size - 1, s, by omega, rfl, by rw [show s.size - 1 + 1 = s.size from by omega]; exact HS.out, by rw [show s.size - 1 + 1 = s.size from by omega]; exact HLT.out⟩
    case round =>
      obtain ⟨k, t, hk, rfl, ht, hxk⟩ := hrel
      have hf := strip_facts x k hxk
      rw [← ht] at hf
      obtain ⟨f1, f2, f3⟩ := hf
      have h0 : 0 < t.size := by omega
      have f2' := f2 h0
      have hp : 0 < 10 ^ k := Nat.pow_pos (by omega)
      by_cases hgo : 0 < k ∧ x < 10 ^ k
      · obtain ⟨hk0, hxl⟩ := hgo
        rw [Nat.div_eq_of_lt hxl] at f2'
        have c1 : ((t[0]'h0).toNat : Int) = 48 := by omega
        have c2 : (1 : Int) < (t.size : Int) := by omega
        have F3 := Lib.hid f3
        have F1 := Lib.hid f1
        have hle : 1 ≤ t.size := by omega
        clear f1 f2 f3 f2' ht hp hxk
        go_wp2
        refine ⟨⟨k - 1, _, by omega, rfl, by rw [show k - 1 + 1 = k from by omega]; exact F3.out, by rw [show k - 1 + 1 = k from by omega]; exact hxl⟩, ?_⟩
        show (t.extract 1 t.size).size < t.size
        simp; omega
      · have hde : Nt.dcs x (k + 1) = Nt.dec x := Nt.dcs_dec hxk (by omega)
        have htR : t = R := by rw [ht, hde, HR.out]; rfl
        have hcond : (¬ (1 : Int) < (t.size : Int)) ∨ ((1 : Int) < (t.size : Int) ∧ (((t[0]'h0).toNat : Int) == 48) = false) := by
          by_cases hk0 : 0 < k
          · right
            have hq : 0 < x / 10 ^ k := Nat.div_pos (by omega) hp
            refine ⟨by omega, ?_⟩
            simp; omega
          · left; omega
        subst htR
        clear f1 f2 f3 f2' ht hp hxk hde hgo
        rcases hcond with hcond | ⟨hc1, hc2⟩
        all_goals
          go_wp2_with (first
            | (go_at_call 44; refine (chain hB (H3.out _)).mono ?_; clear hB; rintro e w1 ⟨rfl, hB⟩)
            | (go_at_call 43; refine (chain hB (HK.out _)).mono ?_; clear hB; rintro e w1 ⟨rfl, hB⟩))
          go_ret
          exact ⟨rfl, hB⟩
  · have hc : parseOut s = .tuple #[.string ⟨#[]⟩, .int .i64 3] ∨ parseOut s = .tuple #[.string ⟨#[]⟩, .int .i64 9] := by
      by_cases hall : s.data.toList.all Nt.isDig = true
      · by_cases h0 : s.size = 0
        · exact Or.inl (parseOut_bad s (Or.inr h0))
        · exact Or.inr (parseOut_long s hall (by
            rcases Nat.lt_or_ge 400 s.size with h | h
            · exact h
            · exact absurd ⟨hall, by omega, h⟩ hok))
      · exact Or.inl (parseOut_bad s (Or.inl (by simpa using hall)))
    clear hok
    rcases hc with hc | hc
    all_goals
      rw [hc] at h1 h2
      have H1 := Lib.hid h1
      have H2 := Lib.hid h2
      clear h1 h2 hc
      go_enter Tryd.func10, Tryd.ntmps10
      go_wp2_with (first
        | (go_at_call 41; refine (chain hB (H1.out _)).mono ?_; clear hB; rintro e w1 ⟨rfl, hB⟩)
        | (go_at_call 42; refine (chain hB (H2.out _)).mono ?_; clear hB; rintro e w1 ⟨rfl, hB⟩)
        | (go_at_call 43; refine (chain hB (HK.out _)).mono ?_; clear hB; rintro e w1 ⟨rfl, hB⟩))
      go_ret
      exact ⟨rfl, hB⟩
end Go.Proofs.YtgofihkdpocdkaaDoor
