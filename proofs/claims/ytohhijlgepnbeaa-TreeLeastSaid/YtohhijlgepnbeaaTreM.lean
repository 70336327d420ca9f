import Derived.Test.YtohhijlgepnbeaaTreL
import Derived.Test.YtohhijlgepnbeaaCanonM
namespace Go.Abs.Sh
set_option linter.unusedVariables false
set_option linter.unusedSimpArgs false
section
variable {W0 : List Int} (h2 : 2 ≤ W0.length) (v : Inv W0 (W0.length - 1) (mst W0 (W0.length - 1)))
include h2 v
end
def kx (D : List Int) (k : Nat) : Nat := 2 ^ (15 - (D.getD k 0).toNat)
/-! what lengths weigh -/
def g1 (x : Int) : Nat := if 0 < x then 2 ^ (15 - x.toNat) else 0
def wsum (l : List Int) : Nat := (l.map g1).sum
theorem ws_cons (x : Nat) (m : List Nat) : ∀ k, ws (x :: m) k = ws m k + (if 0 < x ∧ x ≤ k then 2 ^ (15 - x) else 0)
  | 0 => by simp [ws]; omega
  | k + 1 => by
    rw [ws, ws_cons x m k, ws, List.count_cons, Nat.add_mul]
    by_cases h : x = k + 1
    · subst h
      rw [if_neg (by omega), if_pos (show 0 < k + 1 ∧ k + 1 ≤ k + 1 by omega)]
      simp
      omega
    · rw [if_neg (show ¬ (x == k + 1) = true by simpa using h)]
      by_cases h3 : 0 < x ∧ x ≤ k
      · rw [if_pos h3, if_pos (by omega)]; omega
      · rw [if_neg h3, if_neg (by omega)]; omega
theorem ws_wsum : ∀ l : List Int, (∀ x ∈ l, x ≤ 15) → ws (l.map Int.toNat) 15 = wsum l
  | [], _ => by decide
  | x :: l, h => by
    rw [List.map_cons, ws_cons, ws_wsum l fun y hy => h y (by simp [hy])]
    have hx := h x (by simp)
    simp only [wsum, List.map_cons, List.sum_cons, g1]
    by_cases h0 : 0 < x
    · rw [if_pos (by omega), if_pos h0]; omega
    · rw [if_neg (by omega), if_neg h0]; omega
end Go.Abs.Sh
