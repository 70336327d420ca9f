import Derived.Test.YthfmdofkkkpbkaaDoorLoopM
namespace Go.Abs.Sh
set_option linter.unusedVariables false
set_option maxRecDepth 100000

theorem u64_n (z : Int) (n : Nat) (h0 : 0 < n) (hn : n < 1000000) : IntKind.u64.wrap (n : Int) = (n : Int) ∧ ∃ q : Nat, q < n ∧ remO (IntKind.u64.wrap z) (n : Int) = some (q : Int) := by
  have h : ∀ z : Int, IntKind.u64.wrap z = ((z % 18446744073709551616).toNat : Int) := by
    intro z
    simp only [IntKind.wrap, IntKind.bits, IntKind.signed]
    have e : (2 : Int) ^ 64 = 18446744073709551616 := by decide
    simp only [e, Bool.false_and, Bool.false_eq_true, if_false]
    omega
  refine ⟨by rw [h]; omega, ?_⟩
  rw [h]
  exact ⟨_, Nat.mod_lt _ h0, rem_nat _ n h0⟩
theorem verb_known_at : ∀ q : Nat, q < 26 → wherrylaw12_VerbKnown (q : Int) = some true :=
  of_all 26 (fun q => wherrylaw12_VerbKnown (q : Int)) (by kernel_rfl)
theorem verbKnown_true (i : Int) : wherrylaw12_VerbKnown i = some true := by
  obtain ⟨h1, q, hq, hr⟩ := u64_n i 26 (by decide) (by decide)
  obtain ⟨_, q2, hq2, hr2⟩ := u64_n (q : Int) 26 (by decide) (by decide)
  have e : wherrylaw12_VerbKnown i = wherrylaw12_VerbKnown (q : Int) := by
    unfold wherrylaw12_VerbKnown
    have hu : IntKind.u64.wrap (q : Int) = (q : Int) := (u64_n 0 (q + 1) (by omega) (by omega)).1 |> fun _ => by
      simp only [IntKind.wrap, IntKind.bits, IntKind.signed]
      have e : (2 : Int) ^ 64 = 18446744073709551616 := by decide
      simp only [e, Bool.false_and, Bool.false_eq_true, if_false]
      omega
    have hself : remO (IntKind.u64.wrap (q : Int)) ((26 : Nat) : Int) = some (q : Int) := by
      rw [hu, rem_nat _ 26 (by decide), Nat.mod_eq_of_lt hq]
    rw [Option.bind_some, Option.bind_some, Option.bind_some, Option.bind_some]
    have hc : IntKind.u64.wrap ((26 : Nat) : Int) = ((26 : Nat) : Int) := h1
    exact congrArg (fun x => Option.bind x _) (((congrArg (remO (IntKind.u64.wrap i)) hc).trans hr).trans ((congrArg (remO (IntKind.u64.wrap (q : Int))) hc).trans hself).symm)
  rw [e]
  exact verb_known_at q hq
end Go.Abs.Sh
