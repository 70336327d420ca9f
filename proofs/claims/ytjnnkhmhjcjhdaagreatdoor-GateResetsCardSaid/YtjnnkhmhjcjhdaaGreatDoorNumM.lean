import Derived.Test.YtjnnkhmhjcjhdaaGreatDoorSh
namespace Go.Abs.Sh
set_option linter.unusedVariables false
theorem Hf {n:Int} (h0 : -9223372036854775808≤n) (h1:n<9223372036854775808):IntKind.i64.wrap n=n:=by
 simp only [IntKind.wrap,IntKind.bits,IntKind.signed]
 have e:(2:Int) ^ 64=18446744073709551616:=by decide
 have e2:(2:Int) ^ (64-1)=9223372036854775808:=by decide
 simp only [e,e2,Bool.true_and,decide_eq_true_eq]
 split <;> omega
theorem gz {i n:Nat} (h:i<n):lL (i:Int) n=some i:=by simp [lL]; omega
theorem SK {A:Type} {l:List A} {i:Nat} (h:i<l.length):ga l i=some l[i]:=by simp [ga,h]
end Go.Abs.Sh
