/-
  LAYER 28's STATEMENT ON THE ORDER IN WHICH CELLS ARE SET, walked.
-/
import Derived.Test.YtjjpfddgcilliaaGra23
set_option linter.unusedSimpArgs false
set_option linter.unusedVariables false
namespace Go.Proofs.Ytjjpfddgcilliaa
open Go.RowKit Go.Shelf Go.Sort Go.Lib Go.Maps
set_option maxRecDepth 100000

end Go.Proofs.Ytjjpfddgcilliaa
