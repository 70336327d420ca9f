import Derived.Test.YtjhpgfccojoajaaDoorLoopM
namespace Go.Abs.Sh
set_option linter.unusedVariables false
set_option maxRecDepth 100000

theorem u64_five (z : Int) : ∃ q : Nat, q < 5 ∧ remO (IntKind.u64.wrap z) 5 = some (q : Int) := by
  have h : IntKind.u64.wrap z = z % 18446744073709551616 := by
    simp only [IntKind.wrap, IntKind.bits, IntKind.signed]
    have e : (2 : Int) ^ 64 = 18446744073709551616 := by decide
    simp only [e, Bool.false_and, Bool.false_eq_true, if_false]
  rw [h]
  refine ⟨(z % 18446744073709551616).toNat % 5, by omega, ?_⟩
  simp only [remO]
  rw [if_neg (by omega), Int.tmod_eq_emod_of_nonneg (by omega)]
  congr 1
  omega
theorem digestKnown_true (i : Int) : wherrylaw09_DigestKnown i = some true := by
  obtain ⟨q, hq, h⟩ := u64_five i
  unfold wherrylaw09_DigestKnown
  rw [Option.bind_some, h]
  have : q = 0 ∨ q = 1 ∨ q = 2 ∨ q = 3 ∨ q = 4 := by omega
  rcases this with rfl | rfl | rfl | rfl | rfl
  · refine Eq.trans (b := some true) ?_ rfl; kernel_rfl
  · refine Eq.trans (b := some true) ?_ rfl; kernel_rfl
  · refine Eq.trans (b := some true) ?_ rfl; kernel_rfl
  · refine Eq.trans (b := some true) ?_ rfl; kernel_rfl
  · refine Eq.trans (b := some true) ?_ rfl; kernel_rfl
end Go.Abs.Sh
