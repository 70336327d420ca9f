import Derived.Test.YtepkcpjfogjfhaaMatF
import Derived.KernelRfl
namespace Go.Abs.Sh
set_option linter.unusedVariables false
set_option linter.unusedSimpArgs false
set_option maxRecDepth 10000
theorem wakes04 : wherrylaw04_wakes = some true := by kernel_rfl
/-! A text's own tokens. -/
end Go.Abs.Sh
