/-
  SUMS IN THE PROGRAM.
  DIFFERENCES IN THE PROGRAM.
-/
import Derived.Test.YtjjpfddgcilliaaLaw
import Derived.Test.YtjjpfddgcilliaaRef1
import Derived.Test.YtjjpfddgcilliaaCmp
set_option linter.unusedSimpArgs false
set_option linter.unusedVariables false
namespace Go.Proofs.Ytjjpfddgcilliaa
open Go.RowKit Go.Shelf
attribute [local go_sem] Oper.semAt_some

end Go.Proofs.Ytjjpfddgcilliaa
namespace Go.Proofs.Ytjjpfddgcilliaa
open Go.RowKit Go.Shelf
attribute [local go_sem] Oper.semAt_some

end Go.Proofs.Ytjjpfddgcilliaa
