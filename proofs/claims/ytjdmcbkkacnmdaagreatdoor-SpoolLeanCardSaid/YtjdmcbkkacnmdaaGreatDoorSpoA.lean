import Derived.Test.YtjdmcbkkacnmdaaGreatDoorLoopM
namespace Go.Abs.Sh
set_option linter.unusedVariables false
set_option linter.unusedSimpArgs false
theorem wakes19 : wherrylaw19_wakes = some true := by kernel_rfl
end Go.Abs.Sh
