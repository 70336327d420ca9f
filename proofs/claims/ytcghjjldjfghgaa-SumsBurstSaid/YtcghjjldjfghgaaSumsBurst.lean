/-
  SumsBurst: its contract.
-/
import Derived.Test.YtcghjjldjfghgaaBytesArg
import Derived.Test.YtcghjjldjfghgaaSumsY
import Derived.Test.YtcghjjldjfghgaaOk1
namespace Go.Proofs.Ytcghjjldjfghgaa
open Go.ChangeShapes Go.WideShapes Go.ChangeAt Go.RowKit Go.Abs Go.Abs.Sh
set_option linter.unusedVariables false

theorem sumsBurst_walk (W : World) (A : Option Addr) (len cap : Nat) (b : List Int) (hb : R (inG W) V0 W (.fl .shr 1 (List.map (Value.int .u8) b)) (.slice A len cap) [] ∧ b.length ≤ maxLen ∧ ∀ n ∈ b, (Lit.int .u8 n).wf = true)
    (at_ : Int) (hw : (Lit.int .i64 at_).wf = true) (n : Int) (hn : (Lit.int .i64 n).wf = true) (wide : Bool) :
    Calls Try.prog 4 #[.slice A len cap, .int .i64 at_, .int .i64 n, .bool wide] W (fun e W' => e = .returned (.bool true) ∧ Below W.heap.size W W') :=
  walk_of_ok (ok_wherrylaw08_SumsBurst b at_ n wide true (sumsBurst_true _ _ _ _ (fun n hn => u8_of_wf (hb.2.2 n hn))))
    (args_cons hb.1 (args_cons (arg_v _ _) (args_cons (arg_v _ _) (args_cons (arg_v _ _) (args_nil _)))))
end Go.Proofs.Ytcghjjldjfghgaa
