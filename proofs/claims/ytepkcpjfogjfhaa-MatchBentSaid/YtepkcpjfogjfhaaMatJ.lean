import Derived.Test.YtepkcpjfogjfhaaMatI
namespace Go.Abs.Sh
set_option linter.unusedVariables false
set_option linter.unusedSimpArgs false
set_option maxRecDepth 10000
theorem best_beats {b : List Int} {at_ o : Nat} (h1 : 1 ≤ o) (h2 : o ≤ min at_ 2048) (h3 : 3 ≤ cmL b (at_ - o) at_) : cmL b (at_ - o) at_ < (bestS b at_).1 ∨ (cmL b (at_ - o) at_ = (bestS b at_).1 ∧ (bestS b at_).2 ≤ o) := by
  have hge := bestN_ge b at_ (min at_ 2048) o h1 h2
  have his := bestN_is b at_ (min at_ 2048)
  unfold bestS clp
  rw [if_neg (by omega)]
  by_cases he : cmL b (at_ - o) at_ < (bestN b at_ (min at_ 2048)).1
  · exact .inl he
  · refine .inr ⟨by omega, ?_⟩
    rcases his with h | ⟨_, _, h⟩
    · rw [h]; exact Nat.zero_le _
    · apply Classical.byContradiction
      intro hc
      have := h o h1 (by omega)
      omega
/-! One byte over and over. -/
end Go.Abs.Sh
