import Derived.Test.YtegjndibgnnpcaaAnsZ0
namespace Go.Abs.Sh
set_option linter.unusedVariables false

theorem mixed_all : (List.range 480).all (fun k => decide (wherrylaw13_AnswerMixed ((k / 8 : Nat) : Int) ((k % 8 : Nat) : Int) = some true)) = true := by kernel_rfl
theorem mixed_mod (code how : Int) : ∃ p q : Nat, p < 60 ∧ q < 8 ∧ wherrylaw13_AnswerMixed code how = wherrylaw13_AnswerMixed (p : Int) (q : Int) := by
  obtain ⟨p, hp, h1⟩ := u64_rem code 60 (by omega) (by omega)
  obtain ⟨q, hq, h2⟩ := u64_rem how 8 (by omega) (by omega)
  have wn : ∀ n : Nat, n < 100 → IntKind.u64.wrap (n : Int) = (n : Int) := by
    intro n hn
    have e : (2 : Int) ^ 64 = 18446744073709551616 := by decide
    simp only [IntKind.wrap, IntKind.bits, IntKind.signed]
    simp only [e, Bool.false_and, Bool.false_eq_true, if_false]
    omega
  have h1' : remO (IntKind.u64.wrap (p : Int)) 60 = some (p : Int) := by
    rw [wn p (by omega)]
    have := rem_nat p 60 (by omega)
    rw [Nat.mod_eq_of_lt hp] at this; exact this
  have h2' : remO (IntKind.u64.wrap (q : Int)) 8 = some (q : Int) := by
    rw [wn q (by omega)]
    have := rem_nat q 8 (by omega)
    rw [Nat.mod_eq_of_lt hq] at this; exact this
  have h1 : remO (IntKind.u64.wrap code) 60 = some (p : Int) := h1
  have h2 : remO (IntKind.u64.wrap how) 8 = some (q : Int) := h2
  have e1 : wherrylaw13_AnswerMixed code how = wherrylaw13_AnswerMixed (p : Int) how := by
    unfold wherrylaw13_AnswerMixed
    rw [Option.bind_some, Option.bind_some, h1, h1']
  have e2 : wherrylaw13_AnswerMixed (p : Int) how = wherrylaw13_AnswerMixed (p : Int) (q : Int) := by
    unfold wherrylaw13_AnswerMixed
    iterate 19 (refine congrArg (Option.bind _) (funext fun _ => ?_))
    rw [Option.bind_some, Option.bind_some, h2, h2']
  have e := e1.trans e2
  exact ⟨p, q, hp, hq, e⟩
theorem answerMixed_true (code how : Int) : wherrylaw13_AnswerMixed code how = some true := by
  obtain ⟨p, q, hp, hq, e⟩ := mixed_mod code how
  rw [e]
  have h8 : 8 * p + q < 480 := by omega
  have := List.all_eq_true.1 mixed_all (8 * p + q) (List.mem_range.2 h8)
  have e1 : (8 * p + q) / 8 = p := by omega
  have e2 : (8 * p + q) % 8 = q := by omega
  have h := of_decide_eq_true this
  rw [e1, e2] at h
  exact h
end Go.Abs.Sh
