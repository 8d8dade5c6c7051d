/-
  LAYER 28's STATEMENT ON A GRAPH THAT IS NOT THERE, walked.
-/
import Derived.Test.YtbfifgnookpfdaaGra19
set_option linter.unusedSimpArgs false
set_option linter.unusedVariables false
namespace Go.Proofs.Ytbfifgnookpfdaa
open Go.RowKit Go.Shelf Go.Sort Go.Lib Go.Maps

end Go.Proofs.Ytbfifgnookpfdaa
