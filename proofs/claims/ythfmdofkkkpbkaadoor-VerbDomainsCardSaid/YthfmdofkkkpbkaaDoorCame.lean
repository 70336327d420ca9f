/-
  What came in, by its type.
-/
import Derived.Test.YthfmdofkkkpbkaaDoorProg
import Derived.Test.YthfmdofkkkpbkaaDoorSh
import Derived.KernelRfl
set_option linter.unusedVariables false
namespace Go.Proofs.YthfmdofkkkpbkaaDoor
open Go.Abs Go.Abs.Sh

end Go.Proofs.YthfmdofkkkpbkaaDoor
