import Derived.Test.YthceldoojddpiaaDoorLawM
namespace Go.Abs.Sh
set_option linter.unusedVariables false
set_option linter.unusedSimpArgs false
theorem rem_nat (a m : Nat) (hm : 0 < m) : remO (a : Int) (m : Int) = some ((a % m : Nat) : Int) := by
  simp only [remO]
  rw [if_neg (by omega), Int.tmod_eq_emod_of_nonneg (by omega)]
  rfl
theorem quo_nat (a m : Nat) (hm : 0 < m) (ha : a < 9223372036854775808) : quoO .i64 (a : Int) (m : Int) = some ((a / m : Nat) : Int) := by
  simp only [quoO]
  have h1 : a / m ≤ a := Nat.div_le_self a m
  have e : (a : Int).tdiv (m : Int) = ((a / m : Nat) : Int) := by rw [Int.tdiv_eq_ediv_of_nonneg (by omega)]; rfl
  rw [if_neg (by omega), e]
  generalize a / m = x at h1
  rw [wrap_i64 (by omega) (by omega)]
end Go.Abs.Sh
