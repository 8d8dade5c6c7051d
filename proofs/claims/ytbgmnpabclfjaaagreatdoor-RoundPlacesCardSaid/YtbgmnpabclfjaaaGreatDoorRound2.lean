/-
  NUMBERS, ROUNDED: up, the program's.
-/
import Derived.Test.YtbgmnpabclfjaaaGreatDoorRound1
namespace Go.Proofs.YtbgmnpabclfjaaaGreatDoor
open Go.RowKit Go.Shelf
set_option linter.unusedSimpArgs false
set_option linter.unusedVariables false

/-- behind a region that makes a box. -/
def Cut1 (s : World) (v0 v1 : Value) (p : Value) (wx : World) : Prop := ∃ Q, p = .pointer (some ⟨Q, 0, none⟩) ∧ s.heap.size ≤ Q ∧ wx.cell? ⟨Q, 0, none⟩ = some v0 ∧ wx.cell? ⟨Q, 1, none⟩ = some v1 ∧ Below s.heap.size s wx
end Go.Proofs.YtbgmnpabclfjaaaGreatDoor
