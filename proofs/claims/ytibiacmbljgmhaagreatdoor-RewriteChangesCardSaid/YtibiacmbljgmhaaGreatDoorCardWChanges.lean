import Derived.Test.YtibiacmbljgmhaaGreatDoorCardV
import Derived.Test.YtibiacmbljgmhaaGreatDoorKno1
set_option linter.all false
namespace Go.Proofs.YtibiacmbljgmhaaGreatDoor
theorem rewriteChanges_card:Rows.RewriteChangesCardSaid:=cardV fun s own sheet way a c w h g=>f9x s own sheet way a c w h g
