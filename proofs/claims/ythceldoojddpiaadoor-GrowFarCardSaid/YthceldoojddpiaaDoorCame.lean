/-
  What came in, by its type.
-/
import Derived.Test.YthceldoojddpiaaDoorProg
import Derived.Test.YthceldoojddpiaaDoorSh
import Derived.KernelRfl
set_option linter.unusedVariables false
set_option maxRecDepth 100000
namespace Go.Proofs.YthceldoojddpiaaDoor
open Go.Abs Go.Abs.Sh

end Go.Proofs.YthceldoojddpiaaDoor
