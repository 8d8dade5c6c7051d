/-
  DERIVED. GIVEN WITH THE SEED: THE CARDS: each row of YtbgmnpabclfjaaaGreatDoorRows.lean that lists a variable, with what it lists TIED to the program's text (the seventh form; the later family's looks); each row that meets fmt, with fmt's text TOLD by the authors' own Lean function (tested against real Go, not proved from fmt's source: count such statements apart). THE CARD IS WHAT COUNTS. Prove the row's statement (the work); the ties are given (YtbgmnpabclfjaaaGreatDoorTie.lean); close each card by the builder's one call (the guide's Derived/Test/ToyasCard.lean, 'card_holds'). Laid BY PROGRAM, IN A SANDBOX (cutbox-door.mjs). By AI agents, Wed Nov 11 2026. No macro, syntax, notation, axiom, sorry.
-/
import Derived.Test.YtbgmnpabclfjaaaGreatDoorRows
import GoSem.ClaimSeven
namespace Go.Proofs.YtbgmnpabclfjaaaGreatDoor
namespace Rows

/-- THE TIED CARD OF 'abacistlaw06.RoundWholes'. -/
def roundWholesCard : Claim7 := { stood := { row := roundWholesRow, standIns := [], harness := (true, "5e1c1b0cde4723563328e4e19558aa4a2516f74ac08ca380998767bc76c00e0b"), looks := false }, kinds := [], alts := [], laidByText := true, laidKinds := [.data, .pinned], laidTests := true, laidLooks := .later }
def RoundWholesCardSaid : Prop := Claim7.holds Tryz.pinned (.plain (OpenSpec.ofChange roundWholesSpec)) roundWholesCard

/-- THE TIED CARD OF 'abacistlaw06.RoundPlaces'. -/
def roundPlacesCard : Claim7 := { stood := { row := roundPlacesRow, standIns := [], harness := (true, "5e1c1b0cde4723563328e4e19558aa4a2516f74ac08ca380998767bc76c00e0b"), looks := false }, kinds := [], alts := [], laidByText := true, laidKinds := [.data, .pinned], laidTests := true, laidLooks := .later }
def RoundPlacesCardSaid : Prop := Claim7.holds Tryz.pinned (.plain (OpenSpec.ofChange roundPlacesSpec)) roundPlacesCard

/-- THE TIED CARD OF 'abacistlaw06.RoundPows'. -/
def roundPowsCard : Claim7 := { stood := { row := roundPowsRow, standIns := [], harness := (true, "5e1c1b0cde4723563328e4e19558aa4a2516f74ac08ca380998767bc76c00e0b"), looks := false }, kinds := [], alts := [], laidByText := true, laidKinds := [.data, .pinned], laidTests := true, laidLooks := .later }
def RoundPowsCardSaid : Prop := Claim7.holds Tryz.pinned (.plain (OpenSpec.ofChange roundPowsSpec)) roundPowsCard

/-- THE TIED CARD OF 'abacistlaw06.RoundMods'. -/
def roundModsCard : Claim7 := { stood := { row := roundModsRow, standIns := [], harness := (true, "5e1c1b0cde4723563328e4e19558aa4a2516f74ac08ca380998767bc76c00e0b"), looks := false }, kinds := [], alts := [], laidByText := true, laidKinds := [.data, .pinned], laidTests := true, laidLooks := .later }
def RoundModsCardSaid : Prop := Claim7.holds Tryz.pinned (.plain (OpenSpec.ofChange roundModsSpec)) roundModsCard

/-- THE TIED CARD OF 'abacistlaw06.RoundRoots'. -/
def roundRootsCard : Claim7 := { stood := { row := roundRootsRow, standIns := [], harness := (true, "5e1c1b0cde4723563328e4e19558aa4a2516f74ac08ca380998767bc76c00e0b"), looks := false }, kinds := [], alts := [], laidByText := true, laidKinds := [.data, .pinned], laidTests := true, laidLooks := .later }
def RoundRootsCardSaid : Prop := Claim7.holds Tryz.pinned (.plain (OpenSpec.ofChange roundRootsSpec)) roundRootsCard

/-- THE SECOND FORM's CARD OF 'abacistlaw06.RoundWholes'. -/
def roundWholesUptoCard : Claim7 := { stood := { row := roundWholesUptoRow, standIns := [], harness := (true, "5e1c1b0cde4723563328e4e19558aa4a2516f74ac08ca380998767bc76c00e0b"), looks := false }, kinds := [], alts := [], laidByText := true, laidKinds := [.data, .pinned], laidTests := true, laidLooks := .later }
def RoundWholesUptoCardSaid : Prop := Claim7.holds Tryz.pinned (.plain (OpenSpec.upto roundWholesSpec)) roundWholesUptoCard

/-- THE SECOND FORM's CARD OF 'abacistlaw06.RoundPlaces'. -/
def roundPlacesUptoCard : Claim7 := { stood := { row := roundPlacesUptoRow, standIns := [], harness := (true, "5e1c1b0cde4723563328e4e19558aa4a2516f74ac08ca380998767bc76c00e0b"), looks := false }, kinds := [], alts := [], laidByText := true, laidKinds := [.data, .pinned], laidTests := true, laidLooks := .later }
def RoundPlacesUptoCardSaid : Prop := Claim7.holds Tryz.pinned (.plain (OpenSpec.upto roundPlacesSpec)) roundPlacesUptoCard

/-- THE SECOND FORM's CARD OF 'abacistlaw06.RoundPows'. -/
def roundPowsUptoCard : Claim7 := { stood := { row := roundPowsUptoRow, standIns := [], harness := (true, "5e1c1b0cde4723563328e4e19558aa4a2516f74ac08ca380998767bc76c00e0b"), looks := false }, kinds := [], alts := [], laidByText := true, laidKinds := [.data, .pinned], laidTests := true, laidLooks := .later }
def RoundPowsUptoCardSaid : Prop := Claim7.holds Tryz.pinned (.plain (OpenSpec.upto roundPowsSpec)) roundPowsUptoCard

/-- THE SECOND FORM's CARD OF 'abacistlaw06.RoundMods'. -/
def roundModsUptoCard : Claim7 := { stood := { row := roundModsUptoRow, standIns := [], harness := (true, "5e1c1b0cde4723563328e4e19558aa4a2516f74ac08ca380998767bc76c00e0b"), looks := false }, kinds := [], alts := [], laidByText := true, laidKinds := [.data, .pinned], laidTests := true, laidLooks := .later }
def RoundModsUptoCardSaid : Prop := Claim7.holds Tryz.pinned (.plain (OpenSpec.upto roundModsSpec)) roundModsUptoCard

/-- THE SECOND FORM's CARD OF 'abacistlaw06.RoundRoots'. -/
def roundRootsUptoCard : Claim7 := { stood := { row := roundRootsUptoRow, standIns := [], harness := (true, "5e1c1b0cde4723563328e4e19558aa4a2516f74ac08ca380998767bc76c00e0b"), looks := false }, kinds := [], alts := [], laidByText := true, laidKinds := [.data, .pinned], laidTests := true, laidLooks := .later }
def RoundRootsUptoCardSaid : Prop := Claim7.holds Tryz.pinned (.plain (OpenSpec.upto roundRootsSpec)) roundRootsUptoCard
end Rows
end Go.Proofs.YtbgmnpabclfjaaaGreatDoor
