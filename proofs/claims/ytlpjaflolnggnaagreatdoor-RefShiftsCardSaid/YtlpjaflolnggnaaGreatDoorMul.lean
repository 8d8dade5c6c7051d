/-
  PRODUCTS IN THE PROGRAM.
  PRODUCTS IN THE DOCUMENT'S ANSWER.
  LAYER 1's STATEMENTS, WALKED: each returns true, and nothing that lay has turned.
  LAYER 1's THIRD STATEMENT, WALKED.
  THE DOCUMENT'S ANSWER FOR DIVISIONS: digit, DivMod, Mod, Div, Gcd.
  THE DOCUMENT'S ANSWER FOR DIVISIONS: DivMod, Mod, Div, Gcd.
  THE DOCUMENT'S ANSWER: Gcd.
  THE DOCUMENT'S ANSWER: Pow.
  POWERS IN THE PROGRAM: bits.Len of small ones, Pow.
  POWERS IN THE PROGRAM: Pow.
  THE DOCUMENT'S ANSWERS: Shl, Shr.
  THE DOCUMENT'S ANSWERS: Shl.
  THE DOCUMENT'S ANSWER: Root.
  THE PROGRAM: Shr.
-/
import Derived.Test.YtlpjaflolnggnaaGreatDoorMath
import Derived.StillTactics
import Derived.OwnWalk
namespace Go.Proofs.YtlpjaflolnggnaaGreatDoor
set_option linter.unusedSimpArgs false
set_option linter.unusedVariables false
open Go.RowKit Go.Shelf

end Go.Proofs.YtlpjaflolnggnaaGreatDoor
namespace Go.Proofs.YtlpjaflolnggnaaGreatDoor
open Go.RowKit Go.Shelf

end Go.Proofs.YtlpjaflolnggnaaGreatDoor
namespace Go.Proofs.YtlpjaflolnggnaaGreatDoor
open Go.RowKit Go.Shelf

theorem chain {P : Program} {f : FuncId} {args : Array Value} {w0 w : World} {r : Ending} (hB : Below w0.heap.size w0 w) (h : Calls P f args w fun e w' => e = r ∧ Below w.heap.size w w') :
    Calls P f args w fun e w' => e = r ∧ Below w0.heap.size w0 w' :=
  h.mono fun _ _ ⟨he, hb⟩ => ⟨he, hB.trans (hb.mono hB.size)⟩

end Go.Proofs.YtlpjaflolnggnaaGreatDoor
namespace Go.Proofs.YtlpjaflolnggnaaGreatDoor
open Go.RowKit Go.Shelf

end Go.Proofs.YtlpjaflolnggnaaGreatDoor
namespace Go.Proofs.YtlpjaflolnggnaaGreatDoor
open Go.RowKit Go.Shelf

end Go.Proofs.YtlpjaflolnggnaaGreatDoor
namespace Go.Proofs.YtlpjaflolnggnaaGreatDoor
open Go.RowKit Go.Shelf

end Go.Proofs.YtlpjaflolnggnaaGreatDoor
namespace Go.Proofs.YtlpjaflolnggnaaGreatDoor
open Go.RowKit Go.Shelf

end Go.Proofs.YtlpjaflolnggnaaGreatDoor
namespace Go.Proofs.YtlpjaflolnggnaaGreatDoor
open Go.RowKit Go.Shelf

end Go.Proofs.YtlpjaflolnggnaaGreatDoor
namespace Go.Proofs.YtlpjaflolnggnaaGreatDoor
open Go.RowKit Go.Shelf

end Go.Proofs.YtlpjaflolnggnaaGreatDoor
namespace Go.Proofs.YtlpjaflolnggnaaGreatDoor
open Go.RowKit Go.Shelf

end Go.Proofs.YtlpjaflolnggnaaGreatDoor
namespace Go.Proofs.YtlpjaflolnggnaaGreatDoor
open Go.RowKit Go.Shelf

end Go.Proofs.YtlpjaflolnggnaaGreatDoor
namespace Go.Proofs.YtlpjaflolnggnaaGreatDoor
open Go.RowKit Go.Shelf

end Go.Proofs.YtlpjaflolnggnaaGreatDoor
namespace Go.Proofs.YtlpjaflolnggnaaGreatDoor
open Go.RowKit Go.Shelf

end Go.Proofs.YtlpjaflolnggnaaGreatDoor
namespace Go.Proofs.YtlpjaflolnggnaaGreatDoor
open Go.RowKit Go.Shelf

end Go.Proofs.YtlpjaflolnggnaaGreatDoor
