/-
  PRODUCTS IN THE PROGRAM.
  PRODUCTS IN THE DOCUMENT'S ANSWER.
-/
import Derived.Test.YtbfifgnookpfdaaLaw
import Derived.Test.YtbfifgnookpfdaaMath
import Derived.Test.YtbfifgnookpfdaaRef1
import Derived.StillTactics
set_option linter.unusedSimpArgs false
set_option linter.unusedVariables false
namespace Go.Proofs.Ytbfifgnookpfdaa
open Go.RowKit Go.Shelf

end Go.Proofs.Ytbfifgnookpfdaa
namespace Go.Proofs.Ytbfifgnookpfdaa
open Go.RowKit Go.Shelf

end Go.Proofs.Ytbfifgnookpfdaa
