/-
  SUMS IN THE PROGRAM.
  DIFFERENCES IN THE PROGRAM.
-/
import Derived.Test.YtbfifgnookpfdaaLaw
import Derived.Test.YtbfifgnookpfdaaRef1
import Derived.Test.YtbfifgnookpfdaaCmp
set_option linter.unusedSimpArgs false
set_option linter.unusedVariables false
namespace Go.Proofs.Ytbfifgnookpfdaa
open Go.RowKit Go.Shelf
attribute [local go_sem] Oper.semAt_some

end Go.Proofs.Ytbfifgnookpfdaa
namespace Go.Proofs.Ytbfifgnookpfdaa
open Go.RowKit Go.Shelf
attribute [local go_sem] Oper.semAt_some

end Go.Proofs.Ytbfifgnookpfdaa
