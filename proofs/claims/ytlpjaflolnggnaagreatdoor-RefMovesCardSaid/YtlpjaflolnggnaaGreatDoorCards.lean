/-
  DERIVED. GIVEN WITH THE SEED: THE CARDS: each row of YtlpjaflolnggnaaGreatDoorRows.lean that lists a variable, with what it lists TIED to the program's text (the seventh form; the later family's looks); each row that meets fmt, with fmt's text TOLD by the authors' own Lean function (tested against real Go, not proved from fmt's source: count such statements apart). THE CARD IS WHAT COUNTS. Prove the row's statement (the work); the ties are given (YtlpjaflolnggnaaGreatDoorTie.lean); close each card by the builder's one call (the guide's Derived/Test/ToyasCard.lean, 'card_holds'). Laid BY PROGRAM, IN A SANDBOX (cutbox-door.mjs). By AI agents, Wed Nov 11 2026. No macro, syntax, notation, axiom, sorry.
-/
import Derived.Test.YtlpjaflolnggnaaGreatDoorRows
import GoSem.ClaimSeven
namespace Go.Proofs.YtlpjaflolnggnaaGreatDoor
namespace Rows

/-- THE TIED CARD OF 'abacistlaw11.RefMoves'. -/
def refMovesCard : Claim7 := { stood := { row := refMovesRow, standIns := [], harness := (true, "a449ca4abd62d1eae96f2aa51687df9a3be807c146910fd385ffa5571db949c6"), looks := true }, kinds := [], alts := [], laidByText := true, laidKinds := [.data, .data, .data, .data, .sentinel, .sentinel, .pinned, .pinned], laidTests := true, laidLooks := .later }
def RefMovesCardSaid : Prop := Claim7.holds Tryz.pinned (.plain (OpenSpec.ofChange refMovesSpec)) refMovesCard

/-- THE TIED CARD OF 'abacistlaw11.RefShifts'. -/
def refShiftsCard : Claim7 := { stood := { row := refShiftsRow, standIns := [], harness := (true, "a449ca4abd62d1eae96f2aa51687df9a3be807c146910fd385ffa5571db949c6"), looks := true }, kinds := [], alts := [], laidByText := true, laidKinds := [.data, .data, .data, .data, .sentinel, .sentinel, .pinned, .pinned], laidTests := true, laidLooks := .later }
def RefShiftsCardSaid : Prop := Claim7.holds Tryz.pinned (.plain (OpenSpec.ofChange refShiftsSpec)) refShiftsCard

/-- THE SECOND FORM's CARD OF 'abacistlaw11.RefMoves'. -/
def refMovesUptoCard : Claim7 := { stood := { row := refMovesUptoRow, standIns := [], harness := (true, "a449ca4abd62d1eae96f2aa51687df9a3be807c146910fd385ffa5571db949c6"), looks := true }, kinds := [], alts := [], laidByText := true, laidKinds := [.data, .data, .data, .data, .sentinel, .sentinel, .pinned, .pinned], laidTests := true, laidLooks := .later }
def RefMovesUptoCardSaid : Prop := Claim7.holds Tryz.pinned (.plain (OpenSpec.upto refMovesSpec)) refMovesUptoCard

/-- THE SECOND FORM's CARD OF 'abacistlaw11.RefShifts'. -/
def refShiftsUptoCard : Claim7 := { stood := { row := refShiftsUptoRow, standIns := [], harness := (true, "a449ca4abd62d1eae96f2aa51687df9a3be807c146910fd385ffa5571db949c6"), looks := true }, kinds := [], alts := [], laidByText := true, laidKinds := [.data, .data, .data, .data, .sentinel, .sentinel, .pinned, .pinned], laidTests := true, laidLooks := .later }
def RefShiftsUptoCardSaid : Prop := Claim7.holds Tryz.pinned (.plain (OpenSpec.upto refShiftsSpec)) refShiftsUptoCard
end Rows
end Go.Proofs.YtlpjaflolnggnaaGreatDoor
