import Derived.Test.YtofbofdggabfiaaDoorPatB
namespace Go.Abs.Sh
set_option linter.unusedVariables false
set_option linter.unusedSimpArgs false
def e0 : ByteArray := ⟨#[]⟩
end Go.Abs.Sh
