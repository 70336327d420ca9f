import Derived.Test.YtbioodcjmceefaaSh
namespace Go.Abs.Sh
set_option linter.unusedVariables false
theorem wrap_i64 {n : Int} (h0 : -9223372036854775808 ≤ n) (h1 : n < 9223372036854775808) : IntKind.i64.wrap n = n := by
  simp only [IntKind.wrap, IntKind.bits, IntKind.signed]
  have e : (2 : Int) ^ 64 = 18446744073709551616 := by decide
  have e2 : (2 : Int) ^ (64 - 1) = 9223372036854775808 := by decide
  simp only [e, e2, Bool.true_and, decide_eq_true_eq]
  split <;> omega
theorem ixO_of {i n : Nat} (h : i < n) : ixO (i : Int) n = some i := by simp [ixO]; omega
end Go.Abs.Sh
