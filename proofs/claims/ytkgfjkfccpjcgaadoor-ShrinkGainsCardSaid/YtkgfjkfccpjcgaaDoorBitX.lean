import Derived.Test.YtkgfjkfccpjcgaaDoorLoopM
namespace Go.Abs.Sh
set_option linter.unusedVariables false
set_option linter.unusedSimpArgs false
set_option maxRecDepth 10000
theorem wrap_u8' (n:Int):IntKind.u8.wrap n=n % 256:=by
 simp only [IntKind.wrap,IntKind.bits,IntKind.signed]
 have e:(2:Int) ^ 8=256:=by decide
 simp [e]
theorem ofInt8 (a:Nat) (ha:a<256):(BitVec.ofInt 8 (a:Int)).toNat=a:=by
 rw [BitVec.ofInt_natCast,BitVec.toNat_ofNat]; exact Nat.mod_eq_of_lt (by omega)
theorem ofInt64 (a:Nat) (ha:a<9223372036854775808):(BitVec.ofInt 64 (a:Int)).toNat=a:=by
 rw [BitVec.ofInt_natCast,BitVec.toNat_ofNat]; exact Nat.mod_eq_of_lt (by omega)
theorem and1_i64 (a:Nat) (ha:a<9223372036854775808):bits .and .i64 (a:Int) 1=((a % 2:Nat):Int):=by
 show IntKind.i64.wrap ((BitVec.ofInt 64 (a:Int) &&& BitVec.ofInt 64 ((1:Nat):Int)).toNat:Int)=_
 rw [BitVec.toNat_and,ofInt64 a ha,ofInt64 1 (by omega),Nat.and_one_is_mod,wrap_i64 (by omega) (by omega)]
theorem shr_nat (k:IntKind) (a m:Nat) (hm:m≤k.bits):shrO k (a:Int) (m:Int)=some ((a / 2 ^ m:Nat):Int):=by
 simp only [shrO]
 rw [if_pos (by omega),Int.toNat_natCast,Nat.min_eq_left hm]
 have:(0:Int)≤2 ^ m:=Int.pow_nonneg (by omega)
 rw [Int.fdiv_eq_ediv_of_nonneg _ this]
 congr 1
end Go.Abs.Sh
