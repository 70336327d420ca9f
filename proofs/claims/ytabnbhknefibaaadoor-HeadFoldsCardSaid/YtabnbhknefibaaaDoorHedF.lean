import Derived.Test.YtabnbhknefibaaaDoorHedE
import Derived.Test.YtabnbhknefibaaaDoorPatQ
namespace Go.Abs.Sh
set_option linter.unusedVariables false
set_option linter.unusedSimpArgs false
def conB (l : List Int) : Bool := decide (l.head? = some 32) || decide (l.head? = some 9)
theorem conx_char (s : ByteArray) (hs : s.size < 4611686018427387904) : conx s = conB (sbytes s) := by
  have h1 : strings_HasPrefix s ⟨#[32]⟩ = some (decide ((sbytes s).head? = some 32)) := by
    unfold strings_HasPrefix
    refine bnd (hasPrefix_eq s _) ?_
    rw [show sbytes (⟨#[32]⟩ : ByteArray) = [32] from rfl]
    exact congrArg some (decide_eq_decide.2 (pre1 _ _))
  have h2 : strings_HasPrefix s ⟨#[9]⟩ = some (decide ((sbytes s).head? = some 9)) := by
    unfold strings_HasPrefix
    refine bnd (hasPrefix_eq s _) ?_
    rw [show sbytes (⟨#[9]⟩ : ByteArray) = [9] from rfl]
    exact congrArg some (decide_eq_decide.2 (pre1 _ _))
  have key : head_continues s = some (conB (sbytes s)) := by
    unfold head_continues conB
    by_cases h : (sbytes s).head? = some 32
    · rw [decide_eq_true h] at h1 ⊢
      exact bndL (s := true) (bnd h1 (cnd_t rfl rfl)) rfl
    · rw [decide_eq_false h] at h1 ⊢
      exact bndL (bnd h1 (cnd_f rfl (bnd h2 rfl))) rfl
  have := conx_eq hs
  rw [key] at this
  exact (Option.some.inj this).symm
end Go.Abs.Sh
