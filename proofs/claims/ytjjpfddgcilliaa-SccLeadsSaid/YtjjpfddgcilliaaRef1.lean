/-
  THE DOCUMENT'S ANSWERS FOR SMALL NUMBERS: Small, Byte, Of, Bits; the program's Of and Bits.
  WORDS OF 32 BITS AS A TEXT; a small number as a text.
  THE DOCUMENT'S ANSWERS FOR SUMS AND DIFFERENCES: at, turned, Add, Cmp, Sub.
-/
import Derived.Test.YtjjpfddgcilliaaTrim
import Derived.Deep.RegionWith
import Derived.Lib.Small
import Derived.Lib.BitFns
import Derived.Test.YtjjpfddgcilliaaMath
set_option linter.unusedSimpArgs false
set_option linter.unusedVariables false
namespace Go.Proofs.Ytjjpfddgcilliaa
open Go.RowKit Go.Shelf

end Go.Proofs.Ytjjpfddgcilliaa
namespace Go.Proofs.Ytjjpfddgcilliaa
open Go.RowKit Go.Shelf

end Go.Proofs.Ytjjpfddgcilliaa
namespace Go.Proofs.Ytjjpfddgcilliaa
open Go.RowKit Go.Shelf

end Go.Proofs.Ytjjpfddgcilliaa
