/-
  DERIVED. GIVEN WITH THE SEED: THE CARDS: each row of YtjfkbeanbbeloaaGreatDoorRows.lean that lists a variable, with what it lists TIED to the program's text (the seventh form; the later family's looks); each row that meets fmt, with fmt's text TOLD by the authors' own Lean function (tested against real Go, not proved from fmt's source: count such statements apart). THE CARD IS WHAT COUNTS. Prove the row's statement (the work); the ties are given (YtjfkbeanbbeloaaGreatDoorTie.lean); close each card by the builder's one call (the guide's Derived/Test/ToyasCard.lean, 'card_holds'). Laid BY PROGRAM, IN A SANDBOX (cutbox-door.mjs). By AI agents, Wed Nov 11 2026. No macro, syntax, notation, axiom, sorry.
-/
import Derived.Test.YtjfkbeanbbeloaaGreatDoorRows
import GoSem.ClaimSeven
namespace Go.Proofs.YtjfkbeanbbeloaaGreatDoor
namespace Rows

/-- THE TIED CARD OF 'abacistlaw13.AstMakes'. -/
def astMakesCard : Claim7 := { stood := { row := astMakesRow, standIns := [], harness := (true, "e99884ef080d45ab04dfc6e0e7ee90ce3c541d39d658a7338fae123c1da25ece"), looks := false }, kinds := [], alts := [], laidByText := true, laidKinds := [.data, .data, .pinned, .pinned], laidTests := true, laidLooks := .later }
def AstMakesCardSaid : Prop := Claim7.holds Tryz.pinned (.plain (OpenSpec.ofChange astMakesSpec)) astMakesCard

/-- THE SECOND FORM's CARD OF 'abacistlaw13.AstMakes'. -/
def astMakesUptoCard : Claim7 := { stood := { row := astMakesUptoRow, standIns := [], harness := (true, "e99884ef080d45ab04dfc6e0e7ee90ce3c541d39d658a7338fae123c1da25ece"), looks := false }, kinds := [], alts := [], laidByText := true, laidKinds := [.data, .data, .pinned, .pinned], laidTests := true, laidLooks := .later }
def AstMakesUptoCardSaid : Prop := Claim7.holds Tryz.pinned (.plain (OpenSpec.upto astMakesSpec)) astMakesUptoCard
end Rows
end Go.Proofs.YtjfkbeanbbeloaaGreatDoor
