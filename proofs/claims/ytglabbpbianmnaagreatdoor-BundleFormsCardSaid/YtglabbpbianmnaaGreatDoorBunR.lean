import Derived.Test.YtglabbpbianmnaaGreatDoorBunQ
namespace Go.Abs.Sh
set_option linter.unusedVariables false
set_option linter.unusedSimpArgs false
set_option maxRecDepth 100000
end Go.Abs.Sh
