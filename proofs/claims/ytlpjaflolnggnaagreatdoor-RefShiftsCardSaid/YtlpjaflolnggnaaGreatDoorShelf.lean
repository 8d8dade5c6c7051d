/-
  THE LIBRARY's FUNCTIONS, laid at this program.
-/
import Derived.Shelf.Small.Bits
import Derived.Shelf.Strings.Repeat
import Derived.Test.YtlpjaflolnggnaaGreatDoorRows
namespace Go.Proofs.YtlpjaflolnggnaaGreatDoor
open Go.Shelf

end Go.Proofs.YtlpjaflolnggnaaGreatDoor
