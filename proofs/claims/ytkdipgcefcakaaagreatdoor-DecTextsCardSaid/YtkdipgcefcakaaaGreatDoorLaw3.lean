/-
  LAYER 3's STATEMENTS, WALKED: texts as numbers.
-/
import Derived.Test.YtkdipgcefcakaaaGreatDoorDec7
namespace Go.Proofs.YtkdipgcefcakaaaGreatDoor
open Go.RowKit Go.Shelf

set_option maxRecDepth 100000 in
set_option maxHeartbeats 2000000 in
theorem known3_any (w : World) : Calls Tryz.prog 4 #[] w fun e w' => e = .returned (.bool true) ∧ Below w.heap.size w w' := by
  have h1 := fun w => natParse_any ⟨#[48, 48, 50, 53, 56]⟩ w (by decide)
  have h2 := fun w => natParse_any ⟨#[50, 97]⟩ w (by decide)
  have h3 := fun w => natTwos_any ⟨#[40]⟩ w (by decide)
  have h4 := fun w => natText_of ⟨#[1, 2]⟩ w (by decide)
  have h5 := fun w => natText_of ⟨#[]⟩ w (by decide)
  have h6 := fun w => natDigits_any ⟨#[1, 2]⟩ w (by decide)
  have e1 : parseOut ⟨#[48, 48, 50, 53, 56]⟩ = .tuple #[.string ⟨#[1, 2]⟩, .int .i64 0] := by
    rw [parseOut_ok _ (by decide) (by decide) (by decide)]
    have : Nt.E (Nt.dv (⟨#[48, 48, 50, 53, 56]⟩ : ByteArray).data.toList) = ⟨#[1, 2]⟩ := by decide
    rw [this]
  have e2 : parseOut ⟨#[50, 97]⟩ = .tuple #[.string ⟨#[]⟩, .int .i64 3] := parseOut_bad _ (Or.inl (by decide))
  have e3 : Nt.V ⟨#[40]⟩ = 40 := by decide
  have e4 : Nt.V ⟨#[1, 2]⟩ = 258 := by decide
  have e5 : Nt.V ⟨#[]⟩ = 0 := by decide
  have e6 : Nt.D 258 = ⟨#[50, 53, 56]⟩ := by decide
  have e7 : Nt.D 0 = ⟨#[48]⟩ := by decide
  rw [e1] at h1
  rw [e2] at h2
  rw [e3] at h3
  rw [e4, e6] at h4 h6
  rw [e5, e7] at h5
  have h3' := fun w => (h3 w).mono (fun e w' (h : TwosRel 40 e ∧ Below w.heap.size w w') => (by
    obtain ⟨h, hb⟩ := h
    rcases h with ⟨h, _⟩ | ⟨_, t, f, he, ht, hf⟩
    · cases h
    · have a1 : t = 3 := ht.eq ⟨by decide, by decide⟩
      have a2 : f = 1 := hf.eq ⟨by decide, by decide⟩
      subst a1 a2
      exact ⟨he, hb⟩ : e = .returned (.tuple #[.int .i64 3, .int .i64 1]) ∧ Below w.heap.size w w'))
  have H1 := Lib.hid h1
  have H2 := Lib.hid h2
  have H3 := Lib.hid h3'
  have H4 := Lib.hid h4
  have H5 := Lib.hid h5
  have H6 := Lib.hid h6
  have hB := Below.refl w.heap.size w
  clear h1 h2 h3 h3' h4 h5 h6 e1 e2 e3 e4 e5 e6 e7
  go_enter Tryz.func4, Tryz.ntmps4
  go_wp2_with fail
  refine (chain hB (H1.out _)).mono ?_; clear hB; rintro e w1 ⟨rfl, hB⟩
  go_wp2_with fail
  refine (chain hB (H2.out _)).mono ?_; clear hB; rintro e w1 ⟨rfl, hB⟩
  go_wp2_with fail
  refine (chain hB (H3.out _)).mono ?_; clear hB; rintro e w1 ⟨rfl, hB⟩
  go_wp2_with fail
  refine (chain hB (H4.out _)).mono ?_; clear hB; rintro e w1 ⟨rfl, hB⟩
  go_wp2_with fail
  refine (chain hB (H5.out _)).mono ?_; clear hB; rintro e w1 ⟨rfl, hB⟩
  go_wp2_with fail
  refine (chain hB (H6.out _)).mono ?_; clear hB; rintro e w1 ⟨rfl, hB⟩
  go_wp2
  go_ret
  exact ⟨rfl, hB⟩

/-- what is left of digits when zeros ahead are taken off. -/
def StripRel (x : Nat) (a : Value) : Prop := ∃ (k : Nat) (t : ByteArray), k < 400 ∧ a = .string t ∧ t = Nt.S (Nt.dcs x (k + 1)) ∧ x < 10 ^ (k + 1)
theorem strip_facts (x k : Nat) (hx : x < 10 ^ (k + 1)) : (Nt.S (Nt.dcs x (k + 1))).size = k + 1 ∧ (∀ h, ((Nt.S (Nt.dcs x (k + 1)))[0]'h).toNat = 48 + x / 10 ^ k) ∧
    (Nt.S (Nt.dcs x (k + 1))).extract 1 (Nt.S (Nt.dcs x (k + 1))).size = Nt.S (Nt.dcs x k) := by
  have hl : (Nt.dcs x (k + 1)).length = k + 1 := Nt.dcs_length _ _
  have hsz : (Nt.S (Nt.dcs x (k + 1))).size = k + 1 := by rw [Nt.S_size, hl]
  have hp : 0 < 10 ^ k := Nat.pow_pos (by omega)
  have hq : x / 10 ^ k < 10 := by rw [Nat.div_lt_iff_lt_mul hp, Nat.mul_comm, ← Nat.pow_succ]; exact hx
  refine ⟨hsz, fun h => ?_, ?_⟩
  · rw [Nt.S_get _ (fun y hy => by have := Nt.dcs_lt x (k + 1) y hy; omega), Nt.dcs_get, show k + 1 - 1 - 0 = k from by omega, Nat.mod_eq_of_lt hq]
  · rw [hsz]
    have e3 : ∀ (a b : ByteArray), a.data.toList = b.data.toList → a = b := fun a b hab => by
      obtain ⟨⟨x⟩⟩ := a; obtain ⟨⟨y⟩⟩ := b; simpa using hab
    apply e3
    rw [Lib.extract_data, Nt.S_toList, Nt.S_toList, Nt.dcs_one, List.map_cons, List.drop_one, List.tail_cons]
    exact List.take_of_length_le (by rw [List.length_map, Nt.dcs_length]; omega)
end Go.Proofs.YtkdipgcefcakaaaGreatDoor
