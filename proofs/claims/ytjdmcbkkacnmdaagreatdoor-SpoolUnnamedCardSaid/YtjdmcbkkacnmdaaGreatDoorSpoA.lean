import Derived.Test.YtjdmcbkkacnmdaaGreatDoorLoopM
namespace Go.Abs.Sh
set_option linter.unusedVariables false
set_option linter.unusedSimpArgs false
theorem wakes19 : wherrylaw19_wakes = some true := by kernel_rfl
theorem spo_rem (z : Int) (n : Nat) (h0 : 0 < n) (hn : n ≤ 1000000) : ∃ q : Nat,q < n ∧ remO (IntKind.u64.wrap z) (IntKind.u64.wrap (n : Int)) = some (q : Int) := by
 have e : (2 : Int) ^ 64 = 18446744073709551616 := by decide
 have h0' : 0 ≤ IntKind.u64.wrap z := by
  simp only [IntKind.wrap,IntKind.bits,IntKind.signed]
  simp only [e,Bool.false_and,Bool.false_eq_true,if_false]
  omega
 have hnw : IntKind.u64.wrap (n : Int) = (n : Int) := by
  simp only [IntKind.wrap,IntKind.bits,IntKind.signed]
  simp only [e,Bool.false_and,Bool.false_eq_true,if_false]
  omega
 obtain ⟨m,hm⟩ : ∃ m : Nat,IntKind.u64.wrap z = (m : Int) := ⟨(IntKind.u64.wrap z).toNat,by omega⟩
 rw [hm,hnw]
 refine ⟨m % n,Nat.mod_lt _ h0,?_⟩
 rw [rem_nat _ _ h0]
end Go.Abs.Sh
