/-
  GRAPHS, the document's side: For and Cells.
-/
import Derived.Test.YtjjpfddgcilliaaGra28
set_option linter.unusedSimpArgs false
set_option linter.unusedVariables false
namespace Go.Proofs.Ytjjpfddgcilliaa
open Go.RowKit Go.Shelf Go.Sort Go.Lib Go.Maps
set_option maxRecDepth 100000

end Go.Proofs.Ytjjpfddgcilliaa
