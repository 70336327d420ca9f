import Derived.Test.YthfmdofkkkpbkaaGreatDoorVrbB
namespace Go.Abs.Sh
set_option linter.unusedVariables false
set_option linter.unusedSimpArgs false
set_option maxRecDepth 100000
/-! What a command's line is. -/
end Go.Abs.Sh
