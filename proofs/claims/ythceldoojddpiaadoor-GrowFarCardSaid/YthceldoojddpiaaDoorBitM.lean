import Derived.Test.YthceldoojddpiaaDoorLawM
namespace Go.Abs.Sh
set_option linter.unusedVariables false
set_option linter.unusedSimpArgs false
theorem wrap_u8' (n : Int) : IntKind.u8.wrap n = n % 256 := by
  simp only [IntKind.wrap, IntKind.bits, IntKind.signed]
  have e : (2 : Int) ^ 8 = 256 := by decide
  simp [e]
theorem ofInt8 (a : Nat) (ha : a < 256) : (BitVec.ofInt 8 (a : Int)).toNat = a := by
  rw [BitVec.ofInt_natCast, BitVec.toNat_ofNat]; exact Nat.mod_eq_of_lt (by omega)
theorem ofInt64 (a : Nat) (ha : a < 9223372036854775808) : (BitVec.ofInt 64 (a : Int)).toNat = a := by
  rw [BitVec.ofInt_natCast, BitVec.toNat_ofNat]; exact Nat.mod_eq_of_lt (by omega)
theorem and1_u8 (a : Nat) (ha : a < 256) : bits .and .u8 (a : Int) 1 = ((a % 2 : Nat) : Int) := by
  show IntKind.u8.wrap ((BitVec.ofInt 8 (a : Int) &&& BitVec.ofInt 8 ((1 : Nat) : Int)).toNat : Int) = _
  rw [BitVec.toNat_and, ofInt8 a ha, ofInt8 1 (by omega), wrap_u8', Nat.and_one_is_mod]; omega
theorem shr_nat (k : IntKind) (a m : Nat) (hm : m ≤ k.bits) : shrO k (a : Int) (m : Int) = some ((a / 2 ^ m : Nat) : Int) := by
  simp only [shrO]
  rw [if_pos (by omega), Int.toNat_natCast, Nat.min_eq_left hm]
  have : (0 : Int) ≤ 2 ^ m := Int.pow_nonneg (by omega)
  rw [Int.fdiv_eq_ediv_of_nonneg _ this]
  congr 1
theorem rem_nat (a m : Nat) (hm : 0 < m) : remO (a : Int) (m : Int) = some ((a % m : Nat) : Int) := by
  simp only [remO]
  rw [if_neg (by omega), Int.tmod_eq_emod_of_nonneg (by omega)]
  rfl
theorem quo_nat (a m : Nat) (hm : 0 < m) (ha : a < 9223372036854775808) : quoO .i64 (a : Int) (m : Int) = some ((a / m : Nat) : Int) := by
  simp only [quoO]
  have h1 : a / m ≤ a := Nat.div_le_self a m
  have e : (a : Int).tdiv (m : Int) = ((a / m : Nat) : Int) := by rw [Int.tdiv_eq_ediv_of_nonneg (by omega)]; rfl
  rw [if_neg (by omega), e]
  generalize a / m = x at h1
  rw [wrap_i64 (by omega) (by omega)]
end Go.Abs.Sh
