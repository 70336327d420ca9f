/-
  What came in, by its type.
-/
import Derived.Test.YtjhpgfccojoajaaDoorProg
import Derived.Test.YtjhpgfccojoajaaDoorSh
import Derived.KernelRfl
set_option linter.unusedVariables false
namespace Go.Proofs.YtjhpgfccojoajaaDoor
open Go.Abs Go.Abs.Sh

end Go.Proofs.YtjhpgfccojoajaaDoor
