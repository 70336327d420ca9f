import Derived.Test.YtohhijlgepnbeaaTreI
namespace Go.Abs.Sh
set_option linter.unusedVariables false
set_option linter.unusedSimpArgs false
/-! all as many times as great -/
/-! how deep -/
section
variable {W0 : List Int} (h2 : 2 ≤ W0.length) (v : Inv W0 (W0.length - 1) (mst W0 (W0.length - 1)))
include h2 v
theorem taken {k : Nat} (hk : k < 2 * W0.length - 2) : ∃ j, j < 2 * W0.length - 2 ∧ (mst W0 (W0.length - 1)).C.getD j 0 = k ∧ ((mst W0 (W0.length - 1)).P.getD k 0).toNat = W0.length + j / 2 := by
  have hm : k ∈ (mst W0 (W0.length - 1)).C := (v.mem k).2 (by have := v.cnt; have := v.mg2; have := v.lf; omega)
  obtain ⟨j, hj, e⟩ := List.getElem_of_mem hm
  have e : (mst W0 (W0.length - 1)).C.getD j 0 = k := by rw [← e]; simp [hj]
  rw [v.cl] at hj
  refine ⟨j, by omega, e, ?_⟩
  have := v.par j hj
  rw [e] at this
  rw [this, Int.toNat_natCast]
end
end Go.Abs.Sh
