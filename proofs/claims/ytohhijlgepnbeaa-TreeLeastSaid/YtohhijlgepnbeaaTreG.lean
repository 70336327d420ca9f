import Derived.Test.YtohhijlgepnbeaaTreF
namespace Go.Abs.Sh
set_option linter.unusedVariables false
set_option linter.unusedSimpArgs false
/-! what stands where -/
theorem dep_len (w : List Int) : (dep w).length = w.length := by
  unfold dep
  split
  · simp
  · split
    · simp
    · rw [place_len]; simp
/-! halved -/
def hv (w : List Int) : List Int := w.map fun x => (x + 1) / 2
def hvN (w : List Int) : Nat → List Int
  | 0 => w
  | j + 1 => hv (hvN w j)
theorem hv_len (w : List Int) : (hv w).length = w.length := by simp [hv]
theorem hv_at (w : List Int) (i : Nat) : (hv w).getD i 0 = if i < w.length then (w.getD i 0 + 1) / 2 else 0 := by
  by_cases h : i < w.length
  · simp [hv, List.getD_eq_getElem?_getD, h]
  · simp [hv, List.getD_eq_getElem?_getD, h]
theorem hv_ok {w : List Int} (hw : okW w) : okW (hv w) := by
  refine ⟨by rw [hv_len]; exact hw.1, fun i hi => ?_⟩
  rw [hv_len] at hi
  rw [hv_at, if_pos hi]
  have := hw.2 i hi
  omega
theorem hvN_ok {w : List Int} (hw : okW w) : ∀ j, okW (hvN w j)
  | 0 => hw
  | j + 1 => hv_ok (hvN_ok hw j)
theorem hvN_len (w : List Int) : ∀ j, (hvN w j).length = w.length
  | 0 => rfl
  | j + 1 => by rw [hvN, hv_len]; exact hvN_len w j
/-! all weights the same -/
end Go.Abs.Sh
