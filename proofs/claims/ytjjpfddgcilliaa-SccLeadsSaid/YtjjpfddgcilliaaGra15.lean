/-
  LAYER 28: A CELL'S FORMULA IS TAKEN AWAY (Drop).
-/
import Derived.Test.YtjjpfddgcilliaaGra14
set_option linter.unusedSimpArgs false
set_option linter.unusedVariables false
namespace Go.Proofs.Ytjjpfddgcilliaa
open Go.RowKit Go.Shelf Go.Sort Go.Lib Go.Maps
set_option maxRecDepth 100000

end Go.Proofs.Ytjjpfddgcilliaa
