import Derived.Test.YtohhijlgepnbeaaTreK
namespace Go.Abs.Sh
set_option linter.unusedVariables false
set_option linter.unusedSimpArgs false
end Go.Abs.Sh
