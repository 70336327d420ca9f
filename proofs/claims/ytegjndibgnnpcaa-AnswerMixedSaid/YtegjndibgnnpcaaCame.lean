/-
  What came in, by its type.
-/
import Derived.Test.YtegjndibgnnpcaaProg
import Derived.Test.YtegjndibgnnpcaaSh
import Derived.KernelRfl
set_option linter.unusedVariables false
namespace Go.Proofs.Ytegjndibgnnpcaa
open Go.Abs Go.Abs.Sh

end Go.Proofs.Ytegjndibgnnpcaa
