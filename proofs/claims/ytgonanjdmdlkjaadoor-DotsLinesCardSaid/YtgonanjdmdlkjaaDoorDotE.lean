import Derived.Test.YtgonanjdmdlkjaaDoorDotD
namespace Go.Abs.Sh
set_option linter.unusedVariables false
set_option linter.unusedSimpArgs false
theorem jn_take (ls : List (List Int)) {i : Nat} (h : i < ls.length) : jn (ls.take (i + 1)) = (jn (ls.take i) ++ ls[i]) ++ [13, 10] := by
  rw [List.take_succ_eq_append_getElem h, jn_app]; simp [jn]
end Go.Abs.Sh
