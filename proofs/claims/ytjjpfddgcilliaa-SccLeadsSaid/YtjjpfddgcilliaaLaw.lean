/-
  A RANGE OVER A TEXT'S DIGITS FROM BEHIND, FOR ITS CALLERS: what is owed is what holds between two rounds, and one round.
  A TEXT's DIGITS, FOUR BY FOUR.
-/
import Derived.Test.YtjjpfddgcilliaaTrim
import Derived.Test.YtjjpfddgcilliaaMath
import Derived.IntWalk
set_option linter.unusedSimpArgs false
set_option linter.unusedVariables false
namespace Go.Proofs.Ytjjpfddgcilliaa
open Go.RowKit Go.Shelf

end Go.Proofs.Ytjjpfddgcilliaa
namespace Go.Proofs.Ytjjpfddgcilliaa
open Go.RowKit Go.Shelf
attribute [local go_sem] Oper.semAt_some

end Go.Proofs.Ytjjpfddgcilliaa
