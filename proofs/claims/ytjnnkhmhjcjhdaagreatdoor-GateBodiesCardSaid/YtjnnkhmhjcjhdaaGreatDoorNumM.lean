import Derived.Test.YtjnnkhmhjcjhdaaGreatDoorSh
namespace Go.Abs.Sh
set_option linter.unusedVariables false
theorem qN {n:Int} (h0 : -9223372036854775808≤n) (h1:n<9223372036854775808):IntKind.i64.wrap n=n:=by
 simp only [IntKind.wrap,IntKind.bits,IntKind.signed]
 have e:(2:Int) ^ 64=18446744073709551616:=by decide
 have e2:(2:Int) ^ (64-1)=9223372036854775808:=by decide
 simp only [e,e2,Bool.true_and,decide_eq_true_eq]
 split <;> omega
theorem jg {i n:Nat} (h:i<n):fh (i:Int) n=some i:=by simp [fh]; omega
theorem gg {A:Type} {l:List A} {i:Nat} (h:i<l.length):cA l i=some l[i]:=by simp [cA,h]
end Go.Abs.Sh
