/-
  The model's runs are what is told in Lean.
-/
import Derived.Test.YtabnbhknefibaaaDoorProg
import Derived.KernelRfl
import Derived.Test.YtabnbhknefibaaaDoorShelf
import Derived.Test.YtabnbhknefibaaaDoorIdx
import Derived.Test.YtabnbhknefibaaaDoorOkc1
set_option linter.unusedVariables false
set_option linter.unusedSimpArgs false
set_option maxHeartbeats 1000000
namespace Go.Proofs.YtabnbhknefibaaaDoor
open Go.Abs Go.Abs.Sh Tryd
end Go.Proofs.YtabnbhknefibaaaDoor
