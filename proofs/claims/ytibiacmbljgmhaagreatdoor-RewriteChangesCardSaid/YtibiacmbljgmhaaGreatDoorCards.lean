/-
  DERIVED. GIVEN WITH THE SEED: THE CARDS: each row of YtibiacmbljgmhaaGreatDoorRows.lean that lists a variable, with what it lists TIED to the program's text (the seventh form; the later family's looks); each row that meets fmt, with fmt's text TOLD by the authors' own Lean function (tested against real Go, not proved from fmt's source: count such statements apart). THE CARD IS WHAT COUNTS. Prove the row's statement (the work); the ties are given (YtibiacmbljgmhaaGreatDoorTie.lean); close each card by the builder's one call (the guide's Derived/Test/ToyasCard.lean, 'card_holds'). Laid BY PROGRAM, IN A SANDBOX (cutbox-door.mjs). By AI agents, Wed Nov 11 2026. No macro, syntax, notation, axiom, sorry.
-/
import Derived.Test.YtibiacmbljgmhaaGreatDoorRows
import GoSem.ClaimSeven
namespace Go.Proofs.YtibiacmbljgmhaaGreatDoor
namespace Rows

/-- THE TIED CARD OF 'abacistlaw16.RewriteMoves'. -/
def rewriteMovesCard : Claim7 := { stood := { row := rewriteMovesRow, standIns := [], harness := (true, "5c95fbb95286a4b574495bd1b106a52f350c605240cf803003180ea4228e05cf"), looks := false }, kinds := [], alts := [], laidByText := true, laidKinds := [.data, .data, .pinned, .pinned], laidTests := true, laidLooks := .later }
def RewriteMovesCardSaid : Prop := Claim7.holds Tryz.pinned (.plain (OpenSpec.ofChange rewriteMovesSpec)) rewriteMovesCard

/-- THE TIED CARD OF 'abacistlaw16.RewriteChanges'. -/
def rewriteChangesCard : Claim7 := { stood := { row := rewriteChangesRow, standIns := [], harness := (true, "5c95fbb95286a4b574495bd1b106a52f350c605240cf803003180ea4228e05cf"), looks := false }, kinds := [], alts := [], laidByText := true, laidKinds := [.data, .data, .pinned, .pinned], laidTests := true, laidLooks := .later }
def RewriteChangesCardSaid : Prop := Claim7.holds Tryz.pinned (.plain (OpenSpec.ofChange rewriteChangesSpec)) rewriteChangesCard

/-- THE TIED CARD OF 'abacistlaw16.RewriteNames'. -/
def rewriteNamesCard : Claim7 := { stood := { row := rewriteNamesRow, standIns := [], harness := (true, "5c95fbb95286a4b574495bd1b106a52f350c605240cf803003180ea4228e05cf"), looks := false }, kinds := [], alts := [], laidByText := true, laidKinds := [.data, .data, .pinned, .pinned], laidTests := true, laidLooks := .later }
def RewriteNamesCardSaid : Prop := Claim7.holds Tryz.pinned (.plain (OpenSpec.ofChange rewriteNamesSpec)) rewriteNamesCard

/-- THE TIED CARD OF 'abacistlaw16.RewriteBack'. -/
def rewriteBackCard : Claim7 := { stood := { row := rewriteBackRow, standIns := [], harness := (true, "5c95fbb95286a4b574495bd1b106a52f350c605240cf803003180ea4228e05cf"), looks := false }, kinds := [], alts := [], laidByText := true, laidKinds := [.data, .data, .pinned, .pinned], laidTests := true, laidLooks := .later }
def RewriteBackCardSaid : Prop := Claim7.holds Tryz.pinned (.plain (OpenSpec.ofChange rewriteBackSpec)) rewriteBackCard

/-- THE SECOND FORM's CARD OF 'abacistlaw16.RewriteMoves'. -/
def rewriteMovesUptoCard : Claim7 := { stood := { row := rewriteMovesUptoRow, standIns := [], harness := (true, "5c95fbb95286a4b574495bd1b106a52f350c605240cf803003180ea4228e05cf"), looks := false }, kinds := [], alts := [], laidByText := true, laidKinds := [.data, .data, .pinned, .pinned], laidTests := true, laidLooks := .later }
def RewriteMovesUptoCardSaid : Prop := Claim7.holds Tryz.pinned (.plain (OpenSpec.upto rewriteMovesSpec)) rewriteMovesUptoCard

/-- THE SECOND FORM's CARD OF 'abacistlaw16.RewriteChanges'. -/
def rewriteChangesUptoCard : Claim7 := { stood := { row := rewriteChangesUptoRow, standIns := [], harness := (true, "5c95fbb95286a4b574495bd1b106a52f350c605240cf803003180ea4228e05cf"), looks := false }, kinds := [], alts := [], laidByText := true, laidKinds := [.data, .data, .pinned, .pinned], laidTests := true, laidLooks := .later }
def RewriteChangesUptoCardSaid : Prop := Claim7.holds Tryz.pinned (.plain (OpenSpec.upto rewriteChangesSpec)) rewriteChangesUptoCard

/-- THE SECOND FORM's CARD OF 'abacistlaw16.RewriteNames'. -/
def rewriteNamesUptoCard : Claim7 := { stood := { row := rewriteNamesUptoRow, standIns := [], harness := (true, "5c95fbb95286a4b574495bd1b106a52f350c605240cf803003180ea4228e05cf"), looks := false }, kinds := [], alts := [], laidByText := true, laidKinds := [.data, .data, .pinned, .pinned], laidTests := true, laidLooks := .later }
def RewriteNamesUptoCardSaid : Prop := Claim7.holds Tryz.pinned (.plain (OpenSpec.upto rewriteNamesSpec)) rewriteNamesUptoCard

/-- THE SECOND FORM's CARD OF 'abacistlaw16.RewriteBack'. -/
def rewriteBackUptoCard : Claim7 := { stood := { row := rewriteBackUptoRow, standIns := [], harness := (true, "5c95fbb95286a4b574495bd1b106a52f350c605240cf803003180ea4228e05cf"), looks := false }, kinds := [], alts := [], laidByText := true, laidKinds := [.data, .data, .pinned, .pinned], laidTests := true, laidLooks := .later }
def RewriteBackUptoCardSaid : Prop := Claim7.holds Tryz.pinned (.plain (OpenSpec.upto rewriteBackSpec)) rewriteBackUptoCard
end Rows
end Go.Proofs.YtibiacmbljgmhaaGreatDoor
