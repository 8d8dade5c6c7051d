/-
  ROOTS OF NUMBERS: the program's, the document's.
-/
import Derived.Test.YtbgmnpabclfjaaaGreatDoorRound5
namespace Go.Proofs.YtbgmnpabclfjaaaGreatDoor
open Go.RowKit Go.Shelf
set_option linter.unusedSimpArgs false
set_option linter.unusedVariables false

theorem div_gcd_one {a b : Nat} (hb : b ≠ 0) : Nat.gcd (a / Nat.gcd a b) (b / Nat.gcd a b) = 1 :=
  Nat.Coprime.gcd_eq_one (Nat.coprime_div_gcd_div_gcd (Nat.gcd_pos_of_pos_right _ (Nat.pos_of_ne_zero hb)))
theorem rt_le (v : Nat) : Nt.rt v ≤ v := by
  have := (Nt.rt_is v).1
  generalize Nt.rt v = r at *
  rcases Nat.eq_zero_or_pos r with h | h
  · omega
  · exact Nat.le_trans (Nat.le_mul_of_pos_left r h) this
def rootOkB (q : Rt) : Bool := decide (q.neg = false ∧ Nt.rt q.num * Nt.rt q.num = q.num ∧ Nt.rt q.den * Nt.rt q.den = q.den)
/-- the root, or why there is none. -/
def rootR (q : Rt) : Rt := if rootOkB q then ⟨false, Nt.rt q.num, Nt.rt q.den⟩ else ⟨false, 0, 0⟩
theorem root_yes {q : Rt} (h : rootOkB q = true) : rootR q = ⟨false, Nt.rt q.num, Nt.rt q.den⟩ := by unfold rootR; rw [if_pos h]
theorem root_no {q : Rt} (h : rootOkB q = false) : rootR q = ⟨false, 0, 0⟩ := by unfold rootR; rw [h]; rfl
theorem root_not {q : Rt} (h : ¬ (q.neg = false ∧ Nt.rt q.num * Nt.rt q.num = q.num ∧ Nt.rt q.den * Nt.rt q.den = q.den)) : rootOkB q = false := decide_eq_false h
end Go.Proofs.YtbgmnpabclfjaaaGreatDoor
