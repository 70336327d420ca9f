import Derived.Test.YtgonanjdmdlkjaaDoorDotB
namespace Go.Abs.Sh
set_option linter.unusedVariables false
set_option linter.unusedSimpArgs false
def sd (ls : List (List Int)) : List (List Int) := ls.map stf ++ [[46]]
theorem sd_len (ls : List (List Int)) : (jn (sd ls)).length = tot (ls.map stf) + 3 := by
  rw [jn_len]; unfold sd; rw [tot_app]; rfl
end Go.Abs.Sh
