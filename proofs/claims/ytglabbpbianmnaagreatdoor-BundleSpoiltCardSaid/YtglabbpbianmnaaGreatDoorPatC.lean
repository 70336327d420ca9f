import Derived.Test.YtglabbpbianmnaaGreatDoorPatB
namespace Go.Abs.Sh
set_option linter.unusedVariables false
set_option linter.unusedSimpArgs false
def e0 : ByteArray := ⟨#[]⟩
theorem sb60 : sbytes (⟨#[60]⟩ : ByteArray) = [60] := rfl
end Go.Abs.Sh
