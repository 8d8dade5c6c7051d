/-
  HOW OFTEN 2 AND 5 DIVIDE A NUMBER: the program's Twos.
-/
import Derived.Test.YtkdipgcefcakaaaGreatDoorDec6
namespace Go.Proofs.YtkdipgcefcakaaaGreatDoor
open Go.RowKit Go.Shelf

theorem trimRight_split (l : List UInt8) : ∃ z, l = Lib.trimRightB l 0 ++ List.replicate z 0 ∧ (Lib.trimRightB l 0 = [] ∨ ∃ q b, Lib.trimRightB l 0 = q ++ [b] ∧ b ≠ 0) := by
  unfold Lib.trimRightB
  have e := List.takeWhile_append_dropWhile (p := (· == (0 : UInt8))) (l := l.reverse)
  have ha := List.all_takeWhile (p := (· == (0 : UInt8))) (l := l.reverse)
  obtain ⟨tw, htw⟩ : ∃ tw, tw = l.reverse.takeWhile (· == 0) := ⟨_, rfl⟩
  obtain ⟨d, hd⟩ : ∃ d, d = l.reverse.dropWhile (· == 0) := ⟨_, rfl⟩
  rw [← htw] at ha
  rw [← htw, ← hd] at e
  rw [← hd]
  have h1 : tw = List.replicate tw.length 0 := by
    rw [List.eq_replicate_iff]
    exact ⟨rfl, fun b hb => by simpa using List.all_eq_true.1 ha b hb⟩
  refine ⟨tw.length, ?_, ?_⟩
  · have e2 := congrArg List.reverse e
    rw [List.reverse_reverse, List.reverse_append] at e2
    conv => lhs; rw [← e2]
    congr 1
    rw [h1, List.reverse_replicate, List.length_replicate]
  · cases hdd : d with
    | nil => exact Or.inl rfl
    | cons b q =>
      refine Or.inr ⟨q.reverse, b, by rw [List.reverse_cons], fun hb => ?_⟩
      have h2 := List.head?_dropWhile_not (p := (· == (0 : UInt8))) (l := l.reverse)
      rw [← hd, hdd] at h2
      simp [hb] at h2
theorem val_more_zeros (l : List UInt8) (z : Nat) : Nt.val (l ++ List.replicate z 0) = Nt.val l * 256 ^ z := by
  induction z with
  | zero => simp
  | succ z ih =>
    rw [List.replicate_succ', ← List.append_assoc, Nt.val_snoc, ih, Nat.pow_succ, Nat.mul_assoc]; rfl
theorem ntz8_facts : ∀ b : Fin 256, b.val ≠ 0 → b.val % 2 ^ Lib.trailingZeros8 b.val = 0 ∧ b.val / 2 ^ Lib.trailingZeros8 b.val % 2 = 1 ∧ Lib.trailingZeros8 b.val < 8 := by decide +kernel
/-- a number's twos: those of its last byte that is not 0, and eight for each byte behind it. -/
theorem twos_of (x b z s : Nat) (h1 : b % 2 ^ s = 0) (h2 : b / 2 ^ s % 2 = 1) (h3 : s < 8) : Nt.Out ((x * 256 + b) * 256 ^ z) 2 (8 * z + s) (x * 2 ^ (8 - s) + b / 2 ^ s) := by
  refine ⟨?_, ?_⟩
  · have e1 : b = 2 ^ s * (b / 2 ^ s) := (Nat.mul_div_cancel' (Nat.dvd_of_mod_eq_zero h1)).symm
    have e2 : (256 : Nat) = 2 ^ s * 2 ^ (8 - s) := by rw [← Nat.pow_add, show s + (8 - s) = 8 from by omega]
    have e3 : x * 256 + b = 2 ^ s * (x * 2 ^ (8 - s) + b / 2 ^ s) := by
      rw [Nat.mul_add, ← e1]
      congr 1
      rw [← Nat.mul_assoc, Nat.mul_comm (2 ^ s) x, Nat.mul_assoc, ← e2]
    rw [e3, Nt.pow256, Nat.pow_add, Nat.mul_comm _ (2 ^ (8 * z)), Nat.mul_assoc]
  · obtain ⟨t, ht⟩ : ∃ t, 8 - s = t + 1 := ⟨7 - s, by omega⟩
    rw [ht, Nat.pow_succ]
    generalize b / 2 ^ s = y at *
    have : x * (2 ^ t * 2) = 2 * (x * 2 ^ t) := by rw [← Nat.mul_assoc, Nat.mul_comm]
    omega
theorem fives_of {n t o f : Nat} (h : n = 2 ^ t * o) (hf : Nt.IsVl 5 o f) : Nt.IsVl 5 n f := by
  refine ⟨by rw [h]; exact Nat.dvd_trans hf.1 (Nat.dvd_mul_left _ _), fun hd => hf.2 ?_⟩
  rw [h] at hd
  exact Nat.Coprime.dvd_of_dvd_mul_left (Nat.Coprime.pow _ _ (by decide)) hd
def TwosRel (n : Nat) (e : Ending) : Prop := (n = 0 ∧ e = .returned (.tuple #[.int .i64 0, .int .i64 0])) ∨
  (n ≠ 0 ∧ ∃ t f : Nat, e = .returned (.tuple #[.int .i64 (t : Int), .int .i64 (f : Int)]) ∧ Nt.IsVl 2 n t ∧ Nt.IsVl 5 n f)
set_option maxRecDepth 100000 in
set_option maxHeartbeats 1000000 in
theorem natTwos_any (a : ByteArray) (w : World) (ha : a.size ≤ 1000) :
    Calls Tryz.prog 6 #[.string a] w fun e w' => TwosRel (Nt.V a) e ∧ Below w.heap.size w w' := by
  have HB := Lib.hid (fun w => natBits_any a w (by omega))
  have hB := Below.refl w.heap.size w
  by_cases h0 : Nt.V a = 0
  · rw [h0, Nt.blen_zero] at HB
    have H0 := Lib.hid h0
    clear h0
    go_enter Tryz.func6, Tryz.ntmps6
    go_wp2_with (go_at_call 12; with_reducible refine (HB.out _).mono ?_; rintro e w1 ⟨rfl, rfl⟩)
    go_ret2
    exact ⟨Or.inl ⟨H0.out, rfl⟩, hB⟩
  · have hbb := (Nt.blen_bounds (Nt.V a) h0).2.2
    have hb0 : ((Nt.blen (Nt.V a) : Int) == 0) = false := by simp; omega
    obtain ⟨z, hz, hr⟩ := trimRight_split a.data.toList
    have htr := fun W => Tryz.strings_TrimRight_one a 0 (by decide) W (by omega)
    obtain ⟨T, hT⟩ : ∃ T : ByteArray, T = ⟨(Lib.trimRightB a.data.toList 0).toArray⟩ := ⟨_, rfl⟩
    rw [← hT] at htr
    rcases hr with hr | ⟨q, b, hqb, hbz⟩
    · exfalso
      apply h0
      show Nt.val a.data.toList = 0
      rw [hz, hr, val_more_zeros]; simp [Nt.val_nil]
    · have hTl : T.data.toList = q ++ [b] := by rw [hT, hqb]
      have hTs : T.size = q.length + 1 := by
        have := congrArg List.length hTl
        rw [List.length_append] at this
        simpa using this
      have has : a.size = T.size + z := by
        have h1 := congrArg List.length hz
        rw [List.length_append, List.length_replicate, hqb, ← hTl] at h1
        simpa using h1
      have hk : q.length < T.size := by omega
      have hTb : T[q.length]'hk = b := by
        have : T.data.toList[q.length]'(by rw [hTl]; simp) = b := by simp [hTl]
        simpa [ByteArray.getElem_eq_getElem_data] using this
      have hVn : Nt.V a = (Nt.val q * 256 + b.toNat) * 256 ^ z := by
        show Nt.val a.data.toList = _
        rw [hz, hqb, val_more_zeros, Nt.val_snoc]
      have hb1 : b.toNat ≠ 0 := fun h => hbz (by apply UInt8.toNat_inj.1; rw [h]; rfl)
      have hf8 := ntz8_facts ⟨b.toNat, UInt8.toNat_lt b⟩ hb1
      obtain ⟨s, hs⟩ : ∃ s, s = Lib.trailingZeros8 b.toNat := ⟨_, rfl⟩
      have hout := twos_of (Nt.val q) b.toNat z s (by rw [hs]; exact hf8.1) (by rw [hs]; exact hf8.2.1) (by rw [hs]; exact hf8.2.2)
      have hs8 : s < 8 := by rw [hs]; exact hf8.2.2
      rw [← hVn] at hout
      have htz := fun W => Tryz.bits_TrailingZeros8 (b.toNat : Int) W (by omega) (by have := UInt8.toNat_lt b; omega)
      rw [Int.toNat_natCast, ← hs] at htz
      obtain ⟨o, ho⟩ : ∃ o, o = Nt.val q * 2 ^ (8 - s) + b.toNat / 2 ^ s := ⟨_, rfl⟩
      rw [← ho] at hout
      obtain ⟨t, ht⟩ : ∃ t, t = 8 * z + s := ⟨_, rfl⟩
      rw [← ht] at hout
      have hop : 0 < o := by
        have := hout.2
        rcases Nat.eq_zero_or_pos o with h | h
        · rw [h] at this; exact absurd rfl this
        · exact h
      have hes := Nt.E_size_V a
      have hol : o ≤ Nt.V a := by rw [hout.1]; exact Nat.le_mul_of_pos_left _ (Nat.two_pow_pos _)
      have hos := Nat.le_trans (Nt.E_size_le hol) hes
      have hsh := fun W => natShr_any a (t : Int) W (by omega) (by omega)
      have hshn : shrNum (Nt.V a) (t : Int) = o := by
        rw [shrNum, if_neg (by omega), Int.toNat_natCast, hout.1, Nat.mul_div_cancel_left _ (Nat.two_pow_pos _)]
      rw [hshn] at hsh
      have hof := fun W => natOf_any 5 W (by omega)
      have hto := fun W => takeOut_any o (Nt.E o) 5 W (Nt.V_E _) hop (by omega) (by omega) (by decide) rfl
      have HTR := Lib.hid htr
      have HTZ := Lib.hid htz
      have HSH := Lib.hid hsh
      have HOF := Lib.hid hof
      have HTO := Lib.hid hto
      have HOUT := Lib.hid hout
      have H0 := Lib.hid h0
      have g1 : (a.size : Int) - (T.size : Int) = (z : Int) := by omega
      have g2 : (T.size : Int) - 1 = (q.length : Int) := by omega
      have g3 : (8 : Int) * (z : Int) + (s : Int) = (t : Int) := by omega
      have g4 : ((T[q.length]'hk).toNat : Int) = (b.toNat : Int) := by rw [hTb]
      have hTs2 : T.size ≤ a.size := by omega
      have hz2 : z ≤ 1000 := by omega
      clear has hTs htr htz hsh hof hto hout h0 hz hT hqb hTl hVn hf8 hs ho ht hop hes hol hos hshn hTb hbb hbz hb1
      go_enter Tryz.func6, Tryz.ntmps6
      go_wp2_with (first
        | (go_at_call 12; with_reducible refine (HB.out _).mono ?_; rintro e w1 ⟨rfl, rfl⟩)
        | (go_at_call 16; refine (HTR.out _).mono ?_; rintro e w1 ⟨rfl, rfl⟩)
        | (go_at_call 17; refine (HTZ.out _).mono ?_; rintro e w1 ⟨rfl, rfl⟩)
        | (go_at_call 19; with_reducible refine (chain hB (HSH.out _)).mono ?_; clear hB; rintro e w1 ⟨rfl, hB⟩)
        | (go_at_call 20; refine (chain hB (HOF.out _)).mono ?_; clear hB; rintro e w1 ⟨rfl, hB⟩)
        | (go_at_call 18; (with_reducible refine (HTO.out _).mono ?_); rintro e w2 ⟨⟨f, r, rfl, hf⟩, hb2⟩; have HF := Lib.hid hf; have hB2 := hB.trans (hb2.mono hB.size); clear hf hB hb2))
      go_ret2
      exact ⟨Or.inr ⟨H0.out, t, f, rfl, HOUT.out.vl (by omega), fives_of HOUT.out.1 (HF.out.vl (by omega))⟩, hB2⟩
end Go.Proofs.YtkdipgcefcakaaaGreatDoor
