import Derived.Test.YthfmdofkkkpbkaaGreatDoorPatE
namespace Go.Abs.Sh
set_option linter.unusedVariables false
set_option linter.unusedSimpArgs false
theorem rtext_eq (p : T_Path) (h : Small p) : wherryref11_Text p = some (bstr (txtL p)) := by
  unfold wherryref11_Text txtL
  cases hn : p.Null
  · exact cnd_f rfl (cats p h _ _ rfl)
  · exact cnd_t rfl rfl
end Go.Abs.Sh
