/-
  HOW OFTEN A NUMBER DIVIDES: the program's takeOut, Twos.
-/
import Derived.Test.YtjbpipbmcicjiaaGreatDoorDec5
namespace Go.Proofs.YtjbpipbmcicjiaaGreatDoor
open Go.RowKit Go.Shelf

/-- p divides n just k times. -/
def Nt.IsVl (p n k : Nat) : Prop := p ^ k ∣ n ∧ ¬ p ^ (k + 1) ∣ n
theorem Nt.IsVl.le {p n k l : Nat} (h : Nt.IsVl p n k) (h' : Nt.IsVl p n l) : k ≤ l := by
  rcases Nat.lt_or_ge l k with hlt | hge
  · exact absurd (Nat.dvd_trans (Nat.pow_dvd_pow p hlt) h.1) h'.2
  · exact hge
theorem Nt.IsVl.eq {p n k l : Nat} (h : Nt.IsVl p n k) (h' : Nt.IsVl p n l) : k = l := Nat.le_antisymm (h.le h') (h'.le h)
theorem Nt.vl_none {p n : Nat} (h : n % p ≠ 0) : Nt.IsVl p n 0 := ⟨by rw [Nat.pow_zero]; exact Nat.one_dvd _, by rw [Nat.zero_add, Nat.pow_one]; exact fun hd => h (Nat.mod_eq_zero_of_dvd hd)⟩
/-- t times d is in n, r is left. -/
def Nt.Out (n d t r : Nat) : Prop := n = d ^ t * r ∧ r % d ≠ 0
theorem Nt.Out.vl {n d t r : Nat} (hd : 0 < d) (h : Nt.Out n d t r) : Nt.IsVl d n t := by
  obtain ⟨rfl, hr⟩ := h
  refine ⟨Nat.dvd_mul_right _ _, fun hh => hr ?_⟩
  rw [Nat.pow_succ] at hh
  exact Nat.mod_eq_zero_of_dvd (Nat.dvd_of_mul_dvd_mul_left (Nat.pow_pos hd) hh)
theorem Nt.out_more {n d s r : Nat} (h0 : n % d = 0) (h : Nt.Out (n / d) (d * d) s r) (hr : r % d = 0) : Nt.Out n d (1 + 2 * s + 1) (r / d) := by
  obtain ⟨h1, h2⟩ := h
  have e1 : n = d * (n / d) := (Nat.mul_div_cancel' (Nat.dvd_of_mod_eq_zero h0)).symm
  have e2 : r = d * (r / d) := (Nat.mul_div_cancel' (Nat.dvd_of_mod_eq_zero hr)).symm
  refine ⟨?_, fun h3 => h2 ?_⟩
  · rw [e1, h1, Nat.pow_add, Nat.pow_one, Nat.pow_add, Nat.pow_one, Nat.pow_mul]
    conv => lhs; rw [e2]
    rw [show d ^ 2 = d * d from by rw [Nat.pow_succ, Nat.pow_one]]
    rw [Nat.mul_assoc, Nat.mul_assoc]
  · rw [e2]
    exact Nat.mod_eq_zero_of_dvd (Nat.mul_dvd_mul_left d (Nat.dvd_of_mod_eq_zero h3))
theorem Nt.out_same {n d s r : Nat} (h0 : n % d = 0) (h : Nt.Out (n / d) (d * d) s r) (hr : r % d ≠ 0) : Nt.Out n d (1 + 2 * s) r := by
  obtain ⟨h1, h2⟩ := h
  have e1 : n = d * (n / d) := (Nat.mul_div_cancel' (Nat.dvd_of_mod_eq_zero h0)).symm
  refine ⟨?_, hr⟩
  rw [e1, h1, Nat.pow_add, Nat.pow_one, Nat.pow_mul, show d ^ 2 = d * d from by rw [Nat.pow_succ, Nat.pow_one], Nat.mul_assoc]
def TookRel (n d : Nat) (e : Ending) : Prop := ∃ t r : Nat, e = .returned (.tuple #[.int .i64 (t : Int), .string (Nt.E r)]) ∧ Nt.Out n d t r
theorem Nt.out_few {n d t r K : Nat} (hn : 0 < n) (hd : 2 ≤ d) (hs : n < 2 ^ K) (h : Nt.Out n d t r) : t < K ∧ r ≤ n ∧ 0 < r := by
  obtain ⟨h1, h2⟩ := h
  have hr : 0 < r := by
    rcases Nat.eq_zero_or_pos r with h | h
    · rw [h, Nat.mul_zero] at h1; omega
    · exact h
  have hp : 0 < d ^ t := Nat.pow_pos (by omega)
  have h3 : d ^ t ≤ n := by rw [h1]; exact Nat.le_mul_of_pos_right _ hr
  refine ⟨?_, by rw [h1]; exact Nat.le_mul_of_pos_left _ hp, hr⟩
  exact (Nat.pow_lt_pow_iff_right (a := 2) (by omega)).1 (Nat.lt_of_le_of_lt (Nat.le_trans (Nat.pow_le_pow_left hd t) h3) hs)
theorem Nt.lt_bits (n : Nat) : n < 2 ^ (8 * (Nt.E n).size) := by
  have h1 := Nt.V_lt (Nt.E n)
  rwa [Nt.V_E, Nt.pow256] at h1

end Go.Proofs.YtjbpipbmcicjiaaGreatDoor
