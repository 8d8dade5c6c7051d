/-
  PRODUCTS IN THE PROGRAM.
  PRODUCTS IN THE DOCUMENT'S ANSWER.
-/
import Derived.Test.YtjjpfddgcilliaaLaw
import Derived.Test.YtjjpfddgcilliaaMath
import Derived.Test.YtjjpfddgcilliaaRef1
import Derived.StillTactics
set_option linter.unusedSimpArgs false
set_option linter.unusedVariables false
namespace Go.Proofs.Ytjjpfddgcilliaa
open Go.RowKit Go.Shelf

end Go.Proofs.Ytjjpfddgcilliaa
namespace Go.Proofs.Ytjjpfddgcilliaa
open Go.RowKit Go.Shelf

end Go.Proofs.Ytjjpfddgcilliaa
