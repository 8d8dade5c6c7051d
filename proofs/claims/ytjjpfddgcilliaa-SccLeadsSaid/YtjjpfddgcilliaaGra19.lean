/-
  LAYER 28: THE FIXED CALLS, walked.
-/
import Derived.Test.YtjjpfddgcilliaaGra18
set_option linter.unusedSimpArgs false
set_option linter.unusedVariables false
namespace Go.Proofs.Ytjjpfddgcilliaa
open Go.RowKit Go.Shelf Go.Sort Go.Lib Go.Maps
set_option maxRecDepth 100000

theorem Trn.cell {T : Nat → Prop} {w w' : World} {b j : Nat} {v : Value} (h : Trn T w w') (hc : w.cell? ⟨b, j, none⟩ = some v) (hz : b < w.heap.size) (hn : ¬ T b) : w'.cell? ⟨b, j, none⟩ = some v := (World.cell?_of_block (a := ⟨b, j, none⟩) (h.block b hz hn)).trans hc
end Go.Proofs.Ytjjpfddgcilliaa
