import Derived.Test.YtgonanjdmdlkjaaDoorDotC
namespace Go.Abs.Sh
set_option linter.unusedVariables false
set_option linter.unusedSimpArgs false
theorem get_of {b : List Int} {i : Nat} (h : i < b.length) : b[i]? = some b[i] := List.getElem?_eq_getElem h
end Go.Abs.Sh
