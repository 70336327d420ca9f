import Derived.Test.YtofbofdggabfiaaDoorTalB
namespace Go.Abs.Sh
set_option linter.unusedVariables false
set_option linter.unusedSimpArgs false
set_option maxRecDepth 10000
theorem u64_nn26 (n : Int) : 0 ≤ IntKind.u64.wrap n := by
  simp only [IntKind.wrap, IntKind.bits, IntKind.signed]
  have e : (2 : Int) ^ 64 = 18446744073709551616 := by decide
  simp only [e, Bool.false_and, Bool.false_eq_true, if_false]
  omega
theorem mod26 (x : Int) (n : Nat) (h : 0 < n) (hn : n < 1000000000) : ∃ (A r : Nat), IntKind.u64.wrap x = (A : Int) ∧ remO (A : Int) (n : Int) = some (r : Int) ∧ r < n ∧ IntKind.i64.wrap (r : Int) = (r : Int) := by
  obtain ⟨A, hA⟩ : ∃ A : Nat, IntKind.u64.wrap x = (A : Int) := ⟨(IntKind.u64.wrap x).toNat, by have := u64_nn26 x; omega⟩
  have hlt := Nat.mod_lt A h
  exact ⟨A, A % n, hA, rem_nat A n h, hlt, wrap_nat _ (by omega)⟩
end Go.Abs.Sh
