/-
  No cell of these rows narrows 'for every input' (looked for: loops, veiled, ifaces, maps, wideKeys, modest, calm, conditions, laid).
  DERIVED. THE GIVEN ROWS OF THIS SEAT. 5 by the template 'for every input the law returns true; each argument reads behind the call as it read before'; 0 by the template 'total and deterministic' (their statements: YtjjpfddgcilliaaTotals.lean).
  GIVEN WITH THE SEED: the statements are not yours to turn. If you find one false, say at which input.
  Laid BY PROGRAM, IN A SANDBOX (cutbox-rows.mjs): the forced cells as the released guide's own fill.sh prints them over the translation d4ebecd17dd72880… (all of the seat's roots in one cut). By AI agents, Wed Nov 11 2026. No macro, syntax, notation, axiom, sorry.
-/
import Derived.Test.YtjjpfddgcilliaaChecked
import GoSem.Claim
import GoSem.ClaimJoined
import GoSem.ClaimMapViews
import Derived.JoinedTies
import Derived.KernelRfl
namespace Go.Proofs.Ytjjpfddgcilliaa
/- THE CELL 'sum', in the pinned program and in every row, IS THE sha256 OF THE DUMP (.gsa) THAT YtjjpfddgcilliaaProg.lean LOADS. Nothing in Lean hashes anything: it is a label: what it is worth is what the hold of that sum in a sandbox is worth. -/
noncomputable def Try.pinned : Pinned := { name := "ytjjpfddgcilliaa", sum := "d4ebecd17dd72880a458f58059b8ee9b9d7e48a706cc1a88f3f845ca378e0f39", checked := Try.checked }
namespace Rows
def none {H : Type} : Left H := { results := [], args := [] }

/-- 'abacistlaw28.GraphPlays': WHATEVER THE INPUT: true; the input reads as it did. -/
def graphPlaysSpec : ChangeSpec := { name := "graphPlays", fn := fun _ => fun
  | [d] => { results := [.lit (.bool true)], args := [d] }
  | _ => none }
def graphPlaysRow : OpenClaim := { program := "ytjjpfddgcilliaa", sum := "d4ebecd17dd72880a458f58059b8ee9b9d7e48a706cc1a88f3f845ca378e0f39", func := "abacist/abacistlaw28.GraphPlays", spec := "graphPlays", unfollowed := true, recurses := true, plainKeys := false, apart := false }
def GraphPlaysSaid : Prop := graphPlaysRow.holds Try.pinned (OpenSpec.ofChange graphPlaysSpec)

/-- ITS FALSE NEIGHBOUR: 'it returns false'. Refute it at one input. -/
def graphPlaysWrong : ChangeSpec := { name := "graphPlays", fn := fun _ => fun
  | [d] => { results := [.lit (.bool false)], args := [d] }
  | _ => none }
def GraphPlaysWrongFalsely : Prop := graphPlaysRow.holds Try.pinned (OpenSpec.ofChange graphPlaysWrong)

/-- 'abacistlaw29.SccOf': WHATEVER THE INPUT: true; the input reads as it did. -/
def sccOfSpec : ChangeSpec := { name := "sccOf", fn := fun _ => fun
  | [d1, d2, d3] => { results := [.lit (.bool true)], args := [d1, d2, d3] }
  | _ => none }
def sccOfRow : OpenClaim := { program := "ytjjpfddgcilliaa", sum := "d4ebecd17dd72880a458f58059b8ee9b9d7e48a706cc1a88f3f845ca378e0f39", func := "abacist/abacistlaw29.SccOf", spec := "sccOf", unfollowed := true, recurses := true, plainKeys := false, apart := false }
def SccOfSaid : Prop := sccOfRow.holds Try.pinned (OpenSpec.ofChange sccOfSpec)

/-- ITS FALSE NEIGHBOUR: 'it returns false'. Refute it at one input. -/
def sccOfWrong : ChangeSpec := { name := "sccOf", fn := fun _ => fun
  | [d1, d2, d3] => { results := [.lit (.bool false)], args := [d1, d2, d3] }
  | _ => none }
def SccOfWrongFalsely : Prop := sccOfRow.holds Try.pinned (OpenSpec.ofChange sccOfWrong)

/-- 'abacistlaw29.SccLeads': WHATEVER THE INPUT: true; the input reads as it did. -/
def sccLeadsSpec : ChangeSpec := { name := "sccLeads", fn := fun _ => fun
  | [d1, d2, d3] => { results := [.lit (.bool true)], args := [d1, d2, d3] }
  | _ => none }
def sccLeadsRow : OpenClaim := { program := "ytjjpfddgcilliaa", sum := "d4ebecd17dd72880a458f58059b8ee9b9d7e48a706cc1a88f3f845ca378e0f39", func := "abacist/abacistlaw29.SccLeads", spec := "sccLeads", unfollowed := true, recurses := true, plainKeys := false, apart := false }
def SccLeadsSaid : Prop := sccLeadsRow.holds Try.pinned (OpenSpec.ofChange sccLeadsSpec)

/-- ITS FALSE NEIGHBOUR: 'it returns false'. Refute it at one input. -/
def sccLeadsWrong : ChangeSpec := { name := "sccLeads", fn := fun _ => fun
  | [d1, d2, d3] => { results := [.lit (.bool false)], args := [d1, d2, d3] }
  | _ => none }
def SccLeadsWrongFalsely : Prop := sccLeadsRow.holds Try.pinned (OpenSpec.ofChange sccLeadsWrong)

/-- 'abacistlaw30.TopoOrder': WHATEVER THE INPUT: true; the input reads as it did. -/
def topoOrderSpec : ChangeSpec := { name := "topoOrder", fn := fun _ => fun
  | [d] => { results := [.lit (.bool true)], args := [d] }
  | _ => none }
def topoOrderRow : OpenClaim := { program := "ytjjpfddgcilliaa", sum := "d4ebecd17dd72880a458f58059b8ee9b9d7e48a706cc1a88f3f845ca378e0f39", func := "abacist/abacistlaw30.TopoOrder", spec := "topoOrder", unfollowed := true, recurses := true, plainKeys := false, apart := false }
def TopoOrderSaid : Prop := topoOrderRow.holds Try.pinned (OpenSpec.ofChange topoOrderSpec)

/-- ITS FALSE NEIGHBOUR: 'it returns false'. Refute it at one input. -/
def topoOrderWrong : ChangeSpec := { name := "topoOrder", fn := fun _ => fun
  | [d] => { results := [.lit (.bool false)], args := [d] }
  | _ => none }
def TopoOrderWrongFalsely : Prop := topoOrderRow.holds Try.pinned (OpenSpec.ofChange topoOrderWrong)

/-- 'abacistlaw30.TopoStands': WHATEVER THE INPUT: true; the input reads as it did. -/
def topoStandsSpec : ChangeSpec := { name := "topoStands", fn := fun _ => fun
  | [d] => { results := [.lit (.bool true)], args := [d] }
  | _ => none }
def topoStandsRow : OpenClaim := { program := "ytjjpfddgcilliaa", sum := "d4ebecd17dd72880a458f58059b8ee9b9d7e48a706cc1a88f3f845ca378e0f39", func := "abacist/abacistlaw30.TopoStands", spec := "topoStands", unfollowed := true, recurses := true, plainKeys := false, apart := false }
def TopoStandsSaid : Prop := topoStandsRow.holds Try.pinned (OpenSpec.ofChange topoStandsSpec)

/-- ITS FALSE NEIGHBOUR: 'it returns false'. Refute it at one input. -/
def topoStandsWrong : ChangeSpec := { name := "topoStands", fn := fun _ => fun
  | [d] => { results := [.lit (.bool false)], args := [d] }
  | _ => none }
def TopoStandsWrongFalsely : Prop := topoStandsRow.holds Try.pinned (OpenSpec.ofChange topoStandsWrong)

/- THE SECOND FORM. 'bulk': how many values and letters a reading holds, each counted each time it is reached (what is shared counts as often as it is met; a slice's spare places count too). A statement '..UptoSaid' is the law's where the arguments, and the package variables that the reading takes, are together of bulk at most 1048576: NARROWER than '..Said'. Prove '..Said' where nothing that the law and all that it calls make is longer than what came in: it says more and counts as full. Else prove '..UptoSaid'. A law counts once. -/
mutual
def uptoBulk {H : Type} : DataW H → Nat
  | .lit (.string bytes) => bytes.length + 1
  | .lit _ => 1
  | .nil => 1
  | .ptr d => uptoBulk d + 1
  | .slice elems spare => uptoBulkAll elems + uptoBulkAll spare + 1
  | .agg parts => uptoBulkAll parts + 1
  | .iface _ d => uptoBulk d + 1
  | .map entries => uptoBulkEntries entries + 1
  | .held _ => 1
def uptoBulkAll {H : Type} : List (DataW H) → Nat
  | [] => 0
  | d :: r => uptoBulk d + uptoBulkAll r
def uptoBulkEntries {H : Type} : List (Lit × DataW H) → Nat
  | [] => 0
  | x :: r => uptoBulkEntry x + uptoBulkEntries r
def uptoBulkEntry {H : Type} : Lit × DataW H → Nat
  | (.string bytes, d) => bytes.length + uptoBulk d + 1
  | (_, d) => uptoBulk d + 1
 end
def uptoSmall : (H : Type) → List (DataW H) → Bool := fun _ ds => decide (uptoBulkAll ds ≤ 1048576)
def OpenSpec.upto (s : _root_.Go.ChangeSpec) : _root_.Go.OpenSpec := { _root_.Go.OpenSpec.ofChange s with cond := some uptoSmall }

/-- 'abacistlaw28.GraphPlays', WHERE WHAT IT READS IS OF BULK AT MOST 1048576: true; the input reads as it did. -/
def graphPlaysUptoRow : OpenClaim := { program := "ytjjpfddgcilliaa", sum := "d4ebecd17dd72880a458f58059b8ee9b9d7e48a706cc1a88f3f845ca378e0f39", func := "abacist/abacistlaw28.GraphPlays", spec := "graphPlays", unfollowed := true, recurses := true, plainKeys := false, apart := false, narrowed := true }
def GraphPlaysUptoSaid : Prop := graphPlaysUptoRow.holds Try.pinned (OpenSpec.upto graphPlaysSpec)

/-- 'abacistlaw29.SccOf', WHERE WHAT IT READS IS OF BULK AT MOST 1048576: true; the input reads as it did. -/
def sccOfUptoRow : OpenClaim := { program := "ytjjpfddgcilliaa", sum := "d4ebecd17dd72880a458f58059b8ee9b9d7e48a706cc1a88f3f845ca378e0f39", func := "abacist/abacistlaw29.SccOf", spec := "sccOf", unfollowed := true, recurses := true, plainKeys := false, apart := false, narrowed := true }
def SccOfUptoSaid : Prop := sccOfUptoRow.holds Try.pinned (OpenSpec.upto sccOfSpec)

/-- 'abacistlaw29.SccLeads', WHERE WHAT IT READS IS OF BULK AT MOST 1048576: true; the input reads as it did. -/
def sccLeadsUptoRow : OpenClaim := { program := "ytjjpfddgcilliaa", sum := "d4ebecd17dd72880a458f58059b8ee9b9d7e48a706cc1a88f3f845ca378e0f39", func := "abacist/abacistlaw29.SccLeads", spec := "sccLeads", unfollowed := true, recurses := true, plainKeys := false, apart := false, narrowed := true }
def SccLeadsUptoSaid : Prop := sccLeadsUptoRow.holds Try.pinned (OpenSpec.upto sccLeadsSpec)

/-- 'abacistlaw30.TopoOrder', WHERE WHAT IT READS IS OF BULK AT MOST 1048576: true; the input reads as it did. -/
def topoOrderUptoRow : OpenClaim := { program := "ytjjpfddgcilliaa", sum := "d4ebecd17dd72880a458f58059b8ee9b9d7e48a706cc1a88f3f845ca378e0f39", func := "abacist/abacistlaw30.TopoOrder", spec := "topoOrder", unfollowed := true, recurses := true, plainKeys := false, apart := false, narrowed := true }
def TopoOrderUptoSaid : Prop := topoOrderUptoRow.holds Try.pinned (OpenSpec.upto topoOrderSpec)

/-- 'abacistlaw30.TopoStands', WHERE WHAT IT READS IS OF BULK AT MOST 1048576: true; the input reads as it did. -/
def topoStandsUptoRow : OpenClaim := { program := "ytjjpfddgcilliaa", sum := "d4ebecd17dd72880a458f58059b8ee9b9d7e48a706cc1a88f3f845ca378e0f39", func := "abacist/abacistlaw30.TopoStands", spec := "topoStands", unfollowed := true, recurses := true, plainKeys := false, apart := false, narrowed := true }
def TopoStandsUptoSaid : Prop := topoStandsUptoRow.holds Try.pinned (OpenSpec.upto topoStandsSpec)

end Rows
end Go.Proofs.Ytjjpfddgcilliaa
