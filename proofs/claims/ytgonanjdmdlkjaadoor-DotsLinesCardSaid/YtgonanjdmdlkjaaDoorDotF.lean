import Derived.Test.YtgonanjdmdlkjaaDoorDotD
namespace Go.Abs.Sh
set_option linter.unusedVariables false
set_option linter.unusedSimpArgs false
def noEnd (x : Int) : Bool := !(x == 13 || x == 10)
theorem end_cln {a : List Int} (h : ∀ i, i < a.length → (a[i]?.all noEnd) = true) : cln a := by
  intro x hx
  obtain ⟨i, hi, rfl⟩ := List.mem_iff_getElem.1 hx
  have := h i hi
  rw [get_of hi] at this
  simp only [Option.all_some, noEnd, Bool.not_eq_true', Bool.or_eq_false_iff, beq_eq_false_iff_ne] at this
  exact this
end Go.Abs.Sh
