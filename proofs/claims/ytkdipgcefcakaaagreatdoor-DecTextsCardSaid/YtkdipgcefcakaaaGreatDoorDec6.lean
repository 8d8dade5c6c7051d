/-
  HOW OFTEN A NUMBER DIVIDES: the program's takeOut, Twos.
-/
import Derived.Test.YtkdipgcefcakaaaGreatDoorDec5
namespace Go.Proofs.YtkdipgcefcakaaaGreatDoor
open Go.RowKit Go.Shelf

/-- p divides n just k times. -/
def Nt.IsVl (p n k : Nat) : Prop := p ^ k ∣ n ∧ ¬ p ^ (k + 1) ∣ n
theorem Nt.IsVl.le {p n k l : Nat} (h : Nt.IsVl p n k) (h' : Nt.IsVl p n l) : k ≤ l := by
  rcases Nat.lt_or_ge l k with hlt | hge
  · exact absurd (Nat.dvd_trans (Nat.pow_dvd_pow p hlt) h.1) h'.2
  · exact hge
theorem Nt.IsVl.eq {p n k l : Nat} (h : Nt.IsVl p n k) (h' : Nt.IsVl p n l) : k = l := Nat.le_antisymm (h.le h') (h'.le h)
theorem Nt.vl_none {p n : Nat} (h : n % p ≠ 0) : Nt.IsVl p n 0 := ⟨by rw [Nat.pow_zero]; exact Nat.one_dvd _, by rw [Nat.zero_add, Nat.pow_one]; exact fun hd => h (Nat.mod_eq_zero_of_dvd hd)⟩
/-- t times d is in n, r is left. -/
def Nt.Out (n d t r : Nat) : Prop := n = d ^ t * r ∧ r % d ≠ 0
theorem Nt.Out.vl {n d t r : Nat} (hd : 0 < d) (h : Nt.Out n d t r) : Nt.IsVl d n t := by
  obtain ⟨rfl, hr⟩ := h
  refine ⟨Nat.dvd_mul_right _ _, fun hh => hr ?_⟩
  rw [Nat.pow_succ] at hh
  exact Nat.mod_eq_zero_of_dvd (Nat.dvd_of_mul_dvd_mul_left (Nat.pow_pos hd) hh)
theorem Nt.out_more {n d s r : Nat} (h0 : n % d = 0) (h : Nt.Out (n / d) (d * d) s r) (hr : r % d = 0) : Nt.Out n d (1 + 2 * s + 1) (r / d) := by
  obtain ⟨h1, h2⟩ := h
  have e1 : n = d * (n / d) := (Nat.mul_div_cancel' (Nat.dvd_of_mod_eq_zero h0)).symm
  have e2 : r = d * (r / d) := (Nat.mul_div_cancel' (Nat.dvd_of_mod_eq_zero hr)).symm
  refine ⟨?_, fun h3 => h2 ?_⟩
  · rw [e1, h1, Nat.pow_add, Nat.pow_one, Nat.pow_add, Nat.pow_one, Nat.pow_mul]
    conv => lhs; rw [e2]
    rw [show d ^ 2 = d * d from by rw [Nat.pow_succ, Nat.pow_one]]
    rw [Nat.mul_assoc, Nat.mul_assoc]
  · rw [e2]
    exact Nat.mod_eq_zero_of_dvd (Nat.mul_dvd_mul_left d (Nat.dvd_of_mod_eq_zero h3))
theorem Nt.out_same {n d s r : Nat} (h0 : n % d = 0) (h : Nt.Out (n / d) (d * d) s r) (hr : r % d ≠ 0) : Nt.Out n d (1 + 2 * s) r := by
  obtain ⟨h1, h2⟩ := h
  have e1 : n = d * (n / d) := (Nat.mul_div_cancel' (Nat.dvd_of_mod_eq_zero h0)).symm
  refine ⟨?_, hr⟩
  rw [e1, h1, Nat.pow_add, Nat.pow_one, Nat.pow_mul, show d ^ 2 = d * d from by rw [Nat.pow_succ, Nat.pow_one], Nat.mul_assoc]
def TookRel (n d : Nat) (e : Ending) : Prop := ∃ t r : Nat, e = .returned (.tuple #[.int .i64 (t : Int), .string (Nt.E r)]) ∧ Nt.Out n d t r
theorem Nt.out_few {n d t r K : Nat} (hn : 0 < n) (hd : 2 ≤ d) (hs : n < 2 ^ K) (h : Nt.Out n d t r) : t < K ∧ r ≤ n ∧ 0 < r := by
  obtain ⟨h1, h2⟩ := h
  have hr : 0 < r := by
    rcases Nat.eq_zero_or_pos r with h | h
    · rw [h, Nat.mul_zero] at h1; omega
    · exact h
  have hp : 0 < d ^ t := Nat.pow_pos (by omega)
  have h3 : d ^ t ≤ n := by rw [h1]; exact Nat.le_mul_of_pos_right _ hr
  refine ⟨?_, by rw [h1]; exact Nat.le_mul_of_pos_left _ hp, hr⟩
  exact (Nat.pow_lt_pow_iff_right (a := 2) (by omega)).1 (Nat.lt_of_le_of_lt (Nat.le_trans (Nat.pow_le_pow_left hd t) h3) hs)
theorem Nt.lt_bits (n : Nat) : n < 2 ^ (8 * (Nt.E n).size) := by
  have h1 := Nt.V_lt (Nt.E n)
  rwa [Nt.V_E, Nt.pow256] at h1

set_option maxRecDepth 100000 in
set_option maxHeartbeats 1000000 in
theorem takeOut_any (n : Nat) : ∀ (a : ByteArray) (d : Nat) (w : World), Nt.V a = n → 0 < n → 2 ≤ d → a.size ≤ 1000 → (Nt.E d).size ≤ 2000 → a = Nt.E n →
    Calls Tryz.prog 18 #[.string a, .string (Nt.E d)] w fun e w' => TookRel n d e ∧ Below w.heap.size w w' := by
  induction n using Nat.strongRecOn with
  | _ n ih =>
    intro a d w hVa hn hd hs hds hae
    subst hae
    have hdm := fun W => divMod_ok (Nt.E n) (Nt.E d) W (by omega) hds
    rw [Nt.V_E, Nt.V_E, divOut, if_neg (by omega)] at hdm
    have hB := Below.refl w.heap.size w
    have HB16 := Lib.hid (Nt.lt_bits n)
    by_cases h0 : n % d = 0
    · have e0 : Nt.E 0 = ⟨#[]⟩ := rfl
      rw [h0, e0] at hdm
      have hdn : d ≤ n := Nat.le_of_dvd hn (Nat.dvd_of_mod_eq_zero h0)
      have hq0 : 0 < n / d := Nat.div_pos hdn (by omega)
      have hqn : n / d < n := Nat.div_lt_self hn hd
      have hds2 := Nt.E_size_le hdn
      have hqs := Nt.E_size_le (Nat.le_of_lt hqn)
      have hdd := Nt.sq_size d
      have hml := fun W => natMul_any (Nt.E d) (Nt.E d) W (by omega) (by omega)
      rw [Nt.V_E] at hml
      have hdd2 : 2 ≤ d * d := Nat.le_trans hd (Nat.le_mul_of_pos_left d (by omega))
      have hrec := fun W => ih (n / d) hqn (Nt.E (n / d)) (d * d) W (Nt.V_E _) hq0 hdd2 (by omega) (by omega) rfl
      have hq16 := Nat.lt_trans hqn HB16.out
      have HDM := Lib.hid hdm
      have HML := Lib.hid hml
      have HR := Lib.hid (fun W => (hrec W).mono (fun e w' (h : TookRel (n / d) (d * d) e ∧ Below W.heap.size W w') => (by
        obtain ⟨⟨t, r, he, ho⟩, hb⟩ := h
        have hf := Nt.out_few hq0 hdd2 hq16 ho
        exact ⟨⟨t, r, he, ho, Nat.lt_of_lt_of_le hf.1 (by omega), Nat.le_trans (Nt.E_size_le hf.2.1) hqs⟩, hb⟩ : (∃ t r : Nat, e = .returned (.tuple #[.int .i64 (t : Int), .string (Nt.E r)]) ∧ Nt.Out (n / d) (d * d) t r ∧ t < 8000 ∧ (Nt.E r).size ≤ (Nt.E n).size) ∧ Below W.heap.size W w')))
      have H0 := Lib.hid h0
      have HDS := Lib.hid hds
      have HS := Lib.hid hs

      have HDM2 := Lib.hid (fun (r : Nat) (hr : (Nt.E r).size ≤ 1000) W => (by
        have h := divMod_ok (Nt.E r) (Nt.E d) W (by omega) hds
        rw [Nt.V_E, Nt.V_E, divOut, if_neg (by omega)] at h
        exact h : Calls Tryz.prog 13 #[.string (Nt.E r), .string (Nt.E d)] W fun e w' => e = .returned (.tuple #[.string (Nt.E (r / d)), .string (Nt.E (r % d)), .int .i64 0]) ∧ Below W.heap.size W w'))
      clear hdm hml hrec h0 ih hq16 hdd hdn hqn hds2 hqs hs hds hq0 hdd2
      go_enter Tryz.func18, Tryz.ntmps18
      go_wp2_with (first
        | (go_at_call 13; with_reducible refine (chain hB (HDM.out _)).mono ?_; clear hB; rintro e w1 ⟨rfl, hB⟩)
        | (go_at_call 25; with_reducible refine (chain hB (HML.out _)).mono ?_; clear hB; rintro e w1 ⟨rfl, hB⟩)
        | (go_at_call 18; with_reducible refine (HR.out _).mono ?_; rintro e w2 ⟨⟨t, r, rfl, ho, ht, hrs⟩, hb2⟩; have HO := Lib.hid ho; have hB2 := hB.trans (hb2.mono hB.size); clear ho hB hb2))
      have hd2 := HDM2.out r (by have := HS.out; omega)
      by_cases hr0 : r % d = 0
      · have hout := Nt.out_more H0.out HO.out hr0
        have e0 : Nt.E 0 = ⟨#[]⟩ := rfl
        rw [hr0, e0] at hd2
        have HD2 := Lib.hid hd2
        have HOUT := Lib.hid hout
        clear hd2 hout hr0 e0
        refine (chain hB2 (HD2.out _)).mono ?_; clear hB2; rintro e w3 ⟨rfl, hB3⟩
        go_wp2
        go_ret2
        exact ⟨⟨1 + 2 * t + 1, r / d, by rw [show ((1 + 2 * t + 1 : Nat) : Int) = 1 + 2 * (t : Int) + 1 from by omega]; rfl, HOUT.out⟩, hB3⟩
      · have hout := Nt.out_same H0.out HO.out hr0
        have hne : ¬ (Nt.E (r % d)).toList = [] := E_toList_ne _ hr0
        have hne2 : (Nt.E (r % d)).toList.isEmpty = false := by simpa using hne
        generalize Nt.E (r % d) = R at *
        have HD2 := Lib.hid hd2
        have HOUT := Lib.hid hout
        clear hd2 hout hr0
        refine (chain hB2 (HD2.out _)).mono ?_; clear hB2; rintro e w3 ⟨rfl, hB3⟩
        go_wp2
        go_ret2
        exact ⟨⟨1 + 2 * t, r, by rw [show ((1 + 2 * t : Nat) : Int) = 1 + 2 * (t : Int) from by omega]; rfl, HOUT.out⟩, hB3⟩
    · have hne : ¬ (Nt.E (n % d)).toList = [] := E_toList_ne _ h0
      have hne2 : (Nt.E (n % d)).toList.isEmpty = false := by simpa using hne
      have hr : Hid (Nt.Out n d 0 n) := ⟨by rw [Nat.pow_zero, Nat.one_mul], h0⟩
      generalize Nt.E (n % d) = R at *
      have HDM := Lib.hid hdm
      clear hdm h0 ih
      go_enter Tryz.func18, Tryz.ntmps18
      go_wp2_with (go_at_call 13; with_reducible refine (chain hB (HDM.out _)).mono ?_; clear hB; rintro e w1 ⟨rfl, hB⟩)
      go_ret2
      exact ⟨⟨0, n, rfl, hr.out⟩, hB⟩
end Go.Proofs.YtkdipgcefcakaaaGreatDoor
