/-
  SumsMix: its contract.
-/
import Derived.Test.YtcghjjldjfghgaaBytesArg
import Derived.Test.YtcghjjldjfghgaaSumsX
import Derived.Test.YtcghjjldjfghgaaOk1
namespace Go.Proofs.Ytcghjjldjfghgaa
open Go.ChangeShapes Go.WideShapes Go.ChangeAt Go.RowKit Go.Abs Go.Abs.Sh
set_option linter.unusedVariables false

theorem sumsMix_walk (W : World) (A : Option Addr) (len cap : Nat) (a : List Int) (ha : R (inG W) V0 W (.fl .shr 1 (List.map (Value.int .u8) a)) (.slice A len cap) [] ∧ a.length ≤ maxLen ∧ ∀ n ∈ a, (Lit.int .u8 n).wf = true)
    (A' : Option Addr) (len' cap' : Nat) (b : List Int) (hb : R (inG W) V0 W (.fl .shr 1 (List.map (Value.int .u8) b)) (.slice A' len' cap') [] ∧ b.length ≤ maxLen ∧ ∀ n ∈ b, (Lit.int .u8 n).wf = true)
    (A'' : Option Addr) (len'' cap'' : Nat) (c : List Int) (hc : R (inG W) V0 W (.fl .shr 1 (List.map (Value.int .u8) c)) (.slice A'' len'' cap'') [] ∧ c.length ≤ maxLen ∧ ∀ n ∈ c, (Lit.int .u8 n).wf = true) :
    Calls Try.prog 6 #[.slice A len cap, .slice A' len' cap', .slice A'' len'' cap''] W (fun e W' => e = .returned (.bool true) ∧ Below W.heap.size W W') :=
  walk_of_ok (ok_wherrylaw08_SumsMix a b c true (sumsMix_true _ _ _ (fun n hn => u8_of_wf (ha.2.2 n hn)) (fun n hn => u8_of_wf (hb.2.2 n hn)) (fun n hn => u8_of_wf (hc.2.2 n hn))))
    (args_cons ha.1 (args_cons hb.1 (args_cons hc.1 (args_nil _))))
end Go.Proofs.Ytcghjjldjfghgaa
