/-
  LAYER 28's STATEMENT ON A GRAPH THAT IS NOT THERE, walked.
-/
import Derived.Test.YtjjpfddgcilliaaGra19
set_option linter.unusedSimpArgs false
set_option linter.unusedVariables false
namespace Go.Proofs.Ytjjpfddgcilliaa
open Go.RowKit Go.Shelf Go.Sort Go.Lib Go.Maps
set_option maxRecDepth 100000

end Go.Proofs.Ytjjpfddgcilliaa
