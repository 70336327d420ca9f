/-
  What came in, by its type.
-/
import Derived.Test.YtpmngahekkagpaaDoorProg
import Derived.Test.YtpmngahekkagpaaDoorSh
import Derived.KernelRfl
set_option linter.unusedVariables false
namespace Go.Proofs.YtpmngahekkagpaaDoor
open Go.Abs Go.Abs.Sh

end Go.Proofs.YtpmngahekkagpaaDoor
