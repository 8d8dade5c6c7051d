/-
  THE LIBRARY's FUNCTIONS, laid at this program.
-/
import Derived.Shelf.Small.Bits
import Derived.Shelf.Strings.Repeat
import Derived.Test.YtkgkgdgbkkhblaaDoorRows
namespace Go.Proofs.YtkgkgdgbkkhblaaDoor
open Go.Shelf

end Go.Proofs.YtkgkgdgbkkhblaaDoor
