import Derived.Test.YtkgfjkfccpjcgaaDoorLoopM
namespace Go.Abs.Sh
set_option linter.unusedVariables false
set_option linter.unusedSimpArgs false
set_option maxRecDepth 10000
end Go.Abs.Sh
