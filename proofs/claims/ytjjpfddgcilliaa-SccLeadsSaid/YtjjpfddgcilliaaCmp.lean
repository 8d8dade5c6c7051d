/-
  NUMBERS HELD AGAINST EACH OTHER: in the program, and in the document's answer.
  THE DOCUMENT'S ANSWER FOR DIFFERENCES.
-/
import Derived.Test.YtjjpfddgcilliaaRef1
set_option linter.unusedSimpArgs false
set_option linter.unusedVariables false
namespace Go.Proofs.Ytjjpfddgcilliaa
open Go.RowKit Go.Shelf

namespace Nt
end Nt
end Go.Proofs.Ytjjpfddgcilliaa
namespace Go.Proofs.Ytjjpfddgcilliaa
open Go.RowKit Go.Shelf

end Go.Proofs.Ytjjpfddgcilliaa
