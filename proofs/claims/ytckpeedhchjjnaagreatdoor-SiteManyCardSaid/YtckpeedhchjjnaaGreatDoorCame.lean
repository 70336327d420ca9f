import Derived.Test.YtckpeedhchjjnaaGreatDoorProg
import Derived.Test.YtckpeedhchjjnaaGreatDoorSh
set_option linter.unusedVariables false
set_option maxRecDepth 100000
namespace Go.Proofs.YtckpeedhchjjnaaGreatDoor
open Go.Abs Go.Abs.Sh

end Go.Proofs.YtckpeedhchjjnaaGreatDoor
