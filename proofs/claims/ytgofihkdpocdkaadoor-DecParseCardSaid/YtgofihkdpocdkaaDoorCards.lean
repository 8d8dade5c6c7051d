/-
  DERIVED. GIVEN WITH THE SEED: THE CARDS: each row of YtgofihkdpocdkaaDoorRows.lean that lists a variable, with what it lists TIED to the program's text (the seventh form; the later family's looks); each row that meets fmt, with fmt's text TOLD by the authors' own Lean function (tested against real Go, not proved from fmt's source: count such statements apart). THE CARD IS WHAT COUNTS. Prove the row's statement (the work); the ties are given (YtgofihkdpocdkaaDoorTie.lean); close each card by the builder's one call (the guide's Derived/Test/ToyasCard.lean, 'card_holds'). Laid BY PROGRAM, IN A SANDBOX (cutbox-door.mjs). By AI agents, Wed Nov 11 2026. No macro, syntax, notation, axiom, sorry.
-/
import Derived.Test.YtgofihkdpocdkaaDoorRows
import GoSem.ClaimSeven
namespace Go.Proofs.YtgofihkdpocdkaaDoor
namespace Rows

/-- THE TIED CARD OF 'abacistlaw01.NatSmalls'. -/
def natSmallsCard : Claim7 := { stood := { row := natSmallsRow, standIns := [], harness := (true, "2e21f7cb09cbced3388975a57945fca48c5aad32896b27befeb40a0cc8ed1639"), looks := true }, kinds := [], alts := [], laidByText := true, laidKinds := [.data, .pinned], laidTests := true, laidLooks := .later }
def NatSmallsCardSaid : Prop := Claim7.holds Tryd.pinned (.plain (OpenSpec.ofChange natSmallsSpec)) natSmallsCard

/-- THE TIED CARD OF 'abacistlaw01.NatTwo'. -/
def natTwoCard : Claim7 := { stood := { row := natTwoRow, standIns := [], harness := (true, "2e21f7cb09cbced3388975a57945fca48c5aad32896b27befeb40a0cc8ed1639"), looks := true }, kinds := [], alts := [], laidByText := true, laidKinds := [.data, .pinned], laidTests := true, laidLooks := .later }
def NatTwoCardSaid : Prop := Claim7.holds Tryd.pinned (.plain (OpenSpec.ofChange natTwoSpec)) natTwoCard

/-- THE TIED CARD OF 'abacistlaw01.NatRules'. -/
def natRulesCard : Claim7 := { stood := { row := natRulesRow, standIns := [], harness := (true, "2e21f7cb09cbced3388975a57945fca48c5aad32896b27befeb40a0cc8ed1639"), looks := true }, kinds := [], alts := [], laidByText := true, laidKinds := [.data, .pinned], laidTests := true, laidLooks := .later }
def NatRulesCardSaid : Prop := Claim7.holds Tryd.pinned (.plain (OpenSpec.ofChange natRulesSpec)) natRulesCard

/-- THE TIED CARD OF 'abacistlaw02.DivideMods'. -/
def divideModsCard : Claim7 := { stood := { row := divideModsRow, standIns := [], harness := (true, "2e21f7cb09cbced3388975a57945fca48c5aad32896b27befeb40a0cc8ed1639"), looks := true }, kinds := [], alts := [], laidByText := true, laidKinds := [.data, .pinned], laidTests := true, laidLooks := .later }
def DivideModsCardSaid : Prop := Claim7.holds Tryd.pinned (.plain (OpenSpec.ofChange divideModsSpec)) divideModsCard

/-- THE TIED CARD OF 'abacistlaw02.DivideGcds'. -/
def divideGcdsCard : Claim7 := { stood := { row := divideGcdsRow, standIns := [], harness := (true, "2e21f7cb09cbced3388975a57945fca48c5aad32896b27befeb40a0cc8ed1639"), looks := true }, kinds := [], alts := [], laidByText := true, laidKinds := [.data, .pinned], laidTests := true, laidLooks := .later }
def DivideGcdsCardSaid : Prop := Claim7.holds Tryd.pinned (.plain (OpenSpec.ofChange divideGcdsSpec)) divideGcdsCard

/-- THE TIED CARD OF 'abacistlaw02.DividePows'. -/
def dividePowsCard : Claim7 := { stood := { row := dividePowsRow, standIns := [], harness := (true, "2e21f7cb09cbced3388975a57945fca48c5aad32896b27befeb40a0cc8ed1639"), looks := true }, kinds := [], alts := [], laidByText := true, laidKinds := [.data, .pinned], laidTests := true, laidLooks := .later }
def DividePowsCardSaid : Prop := Claim7.holds Tryd.pinned (.plain (OpenSpec.ofChange dividePowsSpec)) dividePowsCard

/-- THE TIED CARD OF 'abacistlaw02.DivideRoots'. -/
def divideRootsCard : Claim7 := { stood := { row := divideRootsRow, standIns := [], harness := (true, "2e21f7cb09cbced3388975a57945fca48c5aad32896b27befeb40a0cc8ed1639"), looks := true }, kinds := [], alts := [], laidByText := true, laidKinds := [.data, .pinned], laidTests := true, laidLooks := .later }
def DivideRootsCardSaid : Prop := Claim7.holds Tryd.pinned (.plain (OpenSpec.ofChange divideRootsSpec)) divideRootsCard

/-- THE TIED CARD OF 'abacistlaw03.DecParse'. -/
def decParseCard : Claim7 := { stood := { row := decParseRow, standIns := [], harness := (true, "2e21f7cb09cbced3388975a57945fca48c5aad32896b27befeb40a0cc8ed1639"), looks := true }, kinds := [], alts := [], laidByText := true, laidKinds := [.data, .data, .data, .data, .sentinel, .sentinel, .pinned], laidTests := true, laidLooks := .later }
def DecParseCardSaid : Prop := Claim7.holds Tryd.pinned (.plain (OpenSpec.ofChange decParseSpec)) decParseCard

/-- THE SECOND FORM's CARD OF 'abacistlaw01.NatSmalls'. -/
def natSmallsUptoCard : Claim7 := { stood := { row := natSmallsUptoRow, standIns := [], harness := (true, "2e21f7cb09cbced3388975a57945fca48c5aad32896b27befeb40a0cc8ed1639"), looks := true }, kinds := [], alts := [], laidByText := true, laidKinds := [.data, .pinned], laidTests := true, laidLooks := .later }
def NatSmallsUptoCardSaid : Prop := Claim7.holds Tryd.pinned (.plain (OpenSpec.upto natSmallsSpec)) natSmallsUptoCard

/-- THE SECOND FORM's CARD OF 'abacistlaw01.NatTwo'. -/
def natTwoUptoCard : Claim7 := { stood := { row := natTwoUptoRow, standIns := [], harness := (true, "2e21f7cb09cbced3388975a57945fca48c5aad32896b27befeb40a0cc8ed1639"), looks := true }, kinds := [], alts := [], laidByText := true, laidKinds := [.data, .pinned], laidTests := true, laidLooks := .later }
def NatTwoUptoCardSaid : Prop := Claim7.holds Tryd.pinned (.plain (OpenSpec.upto natTwoSpec)) natTwoUptoCard

/-- THE SECOND FORM's CARD OF 'abacistlaw01.NatRules'. -/
def natRulesUptoCard : Claim7 := { stood := { row := natRulesUptoRow, standIns := [], harness := (true, "2e21f7cb09cbced3388975a57945fca48c5aad32896b27befeb40a0cc8ed1639"), looks := true }, kinds := [], alts := [], laidByText := true, laidKinds := [.data, .pinned], laidTests := true, laidLooks := .later }
def NatRulesUptoCardSaid : Prop := Claim7.holds Tryd.pinned (.plain (OpenSpec.upto natRulesSpec)) natRulesUptoCard

/-- THE SECOND FORM's CARD OF 'abacistlaw02.DivideMods'. -/
def divideModsUptoCard : Claim7 := { stood := { row := divideModsUptoRow, standIns := [], harness := (true, "2e21f7cb09cbced3388975a57945fca48c5aad32896b27befeb40a0cc8ed1639"), looks := true }, kinds := [], alts := [], laidByText := true, laidKinds := [.data, .pinned], laidTests := true, laidLooks := .later }
def DivideModsUptoCardSaid : Prop := Claim7.holds Tryd.pinned (.plain (OpenSpec.upto divideModsSpec)) divideModsUptoCard

/-- THE SECOND FORM's CARD OF 'abacistlaw02.DivideGcds'. -/
def divideGcdsUptoCard : Claim7 := { stood := { row := divideGcdsUptoRow, standIns := [], harness := (true, "2e21f7cb09cbced3388975a57945fca48c5aad32896b27befeb40a0cc8ed1639"), looks := true }, kinds := [], alts := [], laidByText := true, laidKinds := [.data, .pinned], laidTests := true, laidLooks := .later }
def DivideGcdsUptoCardSaid : Prop := Claim7.holds Tryd.pinned (.plain (OpenSpec.upto divideGcdsSpec)) divideGcdsUptoCard

/-- THE SECOND FORM's CARD OF 'abacistlaw02.DividePows'. -/
def dividePowsUptoCard : Claim7 := { stood := { row := dividePowsUptoRow, standIns := [], harness := (true, "2e21f7cb09cbced3388975a57945fca48c5aad32896b27befeb40a0cc8ed1639"), looks := true }, kinds := [], alts := [], laidByText := true, laidKinds := [.data, .pinned], laidTests := true, laidLooks := .later }
def DividePowsUptoCardSaid : Prop := Claim7.holds Tryd.pinned (.plain (OpenSpec.upto dividePowsSpec)) dividePowsUptoCard

/-- THE SECOND FORM's CARD OF 'abacistlaw02.DivideRoots'. -/
def divideRootsUptoCard : Claim7 := { stood := { row := divideRootsUptoRow, standIns := [], harness := (true, "2e21f7cb09cbced3388975a57945fca48c5aad32896b27befeb40a0cc8ed1639"), looks := true }, kinds := [], alts := [], laidByText := true, laidKinds := [.data, .pinned], laidTests := true, laidLooks := .later }
def DivideRootsUptoCardSaid : Prop := Claim7.holds Tryd.pinned (.plain (OpenSpec.upto divideRootsSpec)) divideRootsUptoCard

/-- THE SECOND FORM's CARD OF 'abacistlaw03.DecParse'. -/
def decParseUptoCard : Claim7 := { stood := { row := decParseUptoRow, standIns := [], harness := (true, "2e21f7cb09cbced3388975a57945fca48c5aad32896b27befeb40a0cc8ed1639"), looks := true }, kinds := [], alts := [], laidByText := true, laidKinds := [.data, .data, .data, .data, .sentinel, .sentinel, .pinned], laidTests := true, laidLooks := .later }
def DecParseUptoCardSaid : Prop := Claim7.holds Tryd.pinned (.plain (OpenSpec.upto decParseSpec)) decParseUptoCard
end Rows
end Go.Proofs.YtgofihkdpocdkaaDoor
