/-
  THE PROGRAM: Root, out of what DivMod answers.
-/
import Derived.Test.YtkdipgcefcakaaaGreatDoorTwo
import Derived.Test.YtkdipgcefcakaaaGreatDoorAdd
import Derived.Test.YtkdipgcefcakaaaGreatDoorCmp
namespace Go.Proofs.YtkdipgcefcakaaaGreatDoor
open Go.RowKit Go.Shelf

/-- what DivMod is owed: it is proved apart. -/
def DivModOk : Prop := ∀ (a b : ByteArray) (w : World), a.size ≤ 2000 → b.size ≤ 2000 → Calls Tryz.prog 13 #[.string a, .string b] w fun e w' => e = .returned (divOut (Nt.V a) (Nt.V b)) ∧ Below w.heap.size w w'

theorem Nt.size_of_lt (x K M : Nat) (h : x < 2 ^ K) (hk : K ≤ 8 * M) : (Nt.E x).size ≤ M := Nt.size_le2 (Nat.lt_of_lt_of_le h (Nat.pow_le_pow_right (by omega) hk))
theorem Nt.four_le (x q : Nat) : 4 * (x * q) ≤ (x + q) * (x + q) := by
  have key : ∀ q d : Nat, 4 * ((q + d) * q) ≤ (q + d + q) * (q + d + q) ∧ 4 * (q * (q + d)) ≤ (q + (q + d)) * (q + (q + d)) := by
    intro q d
    have h1 : (q + d) * q = q * q + q * d := by rw [Nat.add_mul, Nat.mul_comm d q]
    have h2 : (q + d + q) * (q + d + q) = 4 * (q * q) + 4 * (q * d) + d * d := by
      simp only [Nat.add_mul, Nat.mul_add, Nat.mul_comm d q]; omega
    rw [Nat.mul_comm q (q + d), h1, show q + (q + d) = q + d + q from by omega, h2]; omega
  rcases Nat.le_total q x with h | h
  · obtain ⟨d, rfl⟩ := Nat.exists_eq_add_of_le h
    exact (key q d).1
  · obtain ⟨d, rfl⟩ := Nat.exists_eq_add_of_le h
    exact (key x d).2
theorem Nt.newton (v x : Nat) (hx : 0 < x) : v < ((x + v / x) / 2 + 1) * ((x + v / x) / 2 + 1) := by
  obtain ⟨q, hq⟩ : ∃ q, q = v / x := ⟨_, rfl⟩
  have h1 : v < x * (q + 1) := by rw [hq]; exact Nat.lt_mul_div_succ v hx
  rw [← hq]
  obtain ⟨y, hy⟩ : ∃ y, y = (x + q) / 2 + 1 := ⟨_, rfl⟩
  rw [← hy]
  have h2 : x + (q + 1) ≤ 2 * y := by omega
  have h3 := Nt.four_le x (q + 1)
  have h4 := Nat.mul_le_mul h2 h2
  have h5 : 2 * y * (2 * y) = 4 * (y * y) := by
    rw [Nat.mul_assoc, Nat.mul_left_comm y 2 y]; omega
  omega
theorem Nt.newton_end (v x : Nat) (h : x ≤ (x + v / x) / 2) : x * x ≤ v := by
  have h1 : x ≤ v / x := by omega
  exact Nat.le_trans (Nat.mul_le_mul (Nat.le_refl x) h1) (Nat.mul_div_le v x)
theorem Nt.newton_start (v L : Nat) (h : v < 2 ^ L) : v < (2 ^ ((L + 1) / 2) + 1) * (2 ^ ((L + 1) / 2) + 1) := by
  refine Nat.lt_of_lt_of_le h ?_
  refine Nat.le_trans (Nat.pow_le_pow_right (by omega) (show L ≤ (L + 1) / 2 + (L + 1) / 2 by omega)) ?_
  rw [Nat.pow_add]
  exact Nat.mul_le_mul (by omega) (by omega)

end Go.Proofs.YtkdipgcefcakaaaGreatDoor
