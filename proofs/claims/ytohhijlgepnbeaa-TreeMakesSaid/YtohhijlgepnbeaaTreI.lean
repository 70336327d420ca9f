import Derived.Test.YtohhijlgepnbeaaTreH
namespace Go.Abs.Sh
set_option linter.unusedVariables false
set_option linter.unusedSimpArgs false
theorem okL_15 (w : List Int) : okL w 15 := by
  unfold okL
  refine ⟨?_, by omega⟩
  split <;> omega
theorem remu_eq (x : Int) (n : Nat) (h0 : 0 < n) (hn : n < 1000000) : ∃ p : Nat, p < n ∧ remO (IntKind.u64.wrap x) (n : Int) = some (p : Int) := by
  have hx : 0 ≤ IntKind.u64.wrap x := by
    simp only [IntKind.wrap, IntKind.bits, IntKind.signed]
    have e : (2 : Int) ^ 64 = 18446744073709551616 := by decide
    simp only [e, Bool.false_and, Bool.false_eq_true, if_false]
    omega
  obtain ⟨m, hm⟩ : ∃ m : Nat, IntKind.u64.wrap x = (m : Int) := ⟨_, (Int.toNat_of_nonneg hx).symm⟩
  rw [hm]
  exact ⟨m % n, Nat.mod_lt _ h0, rem_nat m n h0⟩
theorem wrapu_nat (n : Nat) (h : n < 1000000) : IntKind.u64.wrap (n : Int) = (n : Int) := by
  simp only [IntKind.wrap, IntKind.bits, IntKind.signed]
  have e : (2 : Int) ^ 64 = 18446744073709551616 := by decide
  simp only [e, Bool.false_and, Bool.false_eq_true, if_false]
  omega
end Go.Abs.Sh
