import Derived.Test.YtccfiglffammoaaDoorRepD
namespace Go.Abs.Sh
set_option linter.unusedVariables false
set_option linter.unusedSimpArgs false
theorem twin15 (l : List Int) (h : l.length < 4294967296) : wherrykeep_Twin l = some l := by
  unfold wherrykeep_Twin
  exact bnd (x := l) (by simp only [appO]; rw [if_pos (by simp; omega)]; simp) rfl
theorem len_tot15 : ∀ ls : List (List Int), ls.length ≤ tot ls
  | [] => by simp
  | l :: ls => by have := len_tot15 ls; simp only [tot, List.length_cons]; omega
end Go.Abs.Sh
