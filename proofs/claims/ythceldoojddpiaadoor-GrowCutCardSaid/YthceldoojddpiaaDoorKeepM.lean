import Derived.Test.YthceldoojddpiaaDoorNumM
namespace Go.Abs.Sh
set_option linter.unusedVariables false
end Go.Abs.Sh
