/-
  POWERS OF NUMBERS, WALKED: the document's, where it does not multiply.
-/
import Derived.Test.YtbgmnpabclfjaaaGreatDoorRound11
namespace Go.Proofs.YtbgmnpabclfjaaaGreatDoor
open Go.RowKit Go.Shelf
set_option linter.unusedSimpArgs false
set_option linter.unusedVariables false

theorem pow_zero_neg {n : Int} (h : n < 0) : powR ⟨false, 0, 1⟩ n = ⟨false, 0, 0⟩ ∧ powE ⟨false, 0, 1⟩ n = 5 := by
  have e0 : (0 : Nat) ^ n.natAbs = 0 := Nat.zero_pow (by omega)
  have e1 : (1 : Nat) ^ n.natAbs = 1 := Nat.one_pow _
  obtain ⟨r1, r2⟩ := pow_fit (q := ⟨false, 0, 1⟩) (n := n) (by show Nt.blen (0 ^ n.natAbs) ≤ 256; rw [e0]; decide) (by show Nt.blen (1 ^ n.natAbs) ≤ 256; rw [e1]; decide)
  rw [r1, r2]
  exact mk_zero (by unfold pwY; rw [if_pos h]; show ((0 ^ n.natAbs : Nat) : Int) = 0; rw [e0]; rfl)
theorem pow_one (s : Bool) (n : Int) : powR ⟨s, 1, 1⟩ n = ⟨s && pwO n, 1, 1⟩ ∧ powE ⟨s, 1, 1⟩ n = 0 := by
  have e1 : (1 : Nat) ^ n.natAbs = 1 := Nat.one_pow _
  obtain ⟨r1, r2⟩ := pow_fit (q := ⟨s, 1, 1⟩) (n := n) (by show Nt.blen (1 ^ n.natAbs) ≤ 256; rw [e1]; decide) (by show Nt.blen (1 ^ n.natAbs) ≤ 256; rw [e1]; decide)
  have ex : pwX ⟨s, 1, 1⟩ n = sI (s && pwO n) 1 := by unfold pwX; show sI (s && pwO n) (if n < 0 then 1 ^ n.natAbs else 1 ^ n.natAbs) = _; rw [e1]; simp
  have ey : pwY ⟨s, 1, 1⟩ n = sI false 1 := by unfold pwY; show ((if n < 0 then 1 ^ n.natAbs else 1 ^ n.natAbs : Nat) : Int) = _; rw [e1]; simp; rfl
  rw [r1, r2, ex, ey]
  obtain ⟨m1, _⟩ := mk_cop (s && pwO n) false 1 1 (by decide) (by decide) (by decide)
  rw [Bool.bne_false] at m1
  exact m1 ⟨by decide, by decide⟩
end Go.Proofs.YtbgmnpabclfjaaaGreatDoor
