import Derived.Test.YtjnnkhmhjcjhdaaGreatDoorProg
import Derived.Test.YtjnnkhmhjcjhdaaGreatDoorSh
set_option linter.unusedVariables false
set_option maxRecDepth 100000
namespace Go.Proofs.YtjnnkhmhjcjhdaaGreatDoor
open Go.Abs Go.Abs.Sh

end Go.Proofs.YtjnnkhmhjcjhdaaGreatDoor
