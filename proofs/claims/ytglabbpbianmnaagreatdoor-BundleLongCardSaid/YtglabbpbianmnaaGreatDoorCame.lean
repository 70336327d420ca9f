/-
  What came in, by its type.
-/
import Derived.Test.YtglabbpbianmnaaGreatDoorProg
import Derived.Test.YtglabbpbianmnaaGreatDoorSh
import Derived.KernelRfl
set_option linter.unusedVariables false
set_option maxRecDepth 100000
namespace Go.Proofs.YtglabbpbianmnaaGreatDoor
open Go.Abs Go.Abs.Sh

end Go.Proofs.YtglabbpbianmnaaGreatDoor
