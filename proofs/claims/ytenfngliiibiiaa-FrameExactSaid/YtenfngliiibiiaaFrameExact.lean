/-
  FrameExact: its contract.
-/
import Derived.Test.YtenfngliiibiiaaFrameArg
import Derived.Test.YtenfngliiibiiaaFrameE
import Derived.Test.YtenfngliiibiiaaOk3
namespace Go.Proofs.Ytenfngliiibiiaa
open Go.ChangeShapes Go.WideShapes Go.ChangeAt Go.RowKit Go.Abs Go.Abs.Sh
set_option linter.unusedVariables false

theorem frameExact_walk (W : World) (k n o s : Int) (x : Value) (l : List Int) (hx : R (inG W) V0 W (.fl .shr 1 (List.map (Value.int .u8) l)) x [] ∧ l.length ≤ maxLen ∧ ∀ n ∈ l, (Lit.int .u8 n).wf = true)
    (A : Option Addr) (len cap : Nat) (b : List Int) (hb : R (inG W) V0 W (.fl .shr 1 (List.map (Value.int .u8) b)) (.slice A len cap) [] ∧ b.length ≤ maxLen ∧ ∀ n ∈ b, (Lit.int .u8 n).wf = true)
    (at_ : Int) (hw : (Lit.int .i64 at_).wf = true) (p : Int) (hp : (Lit.int .i64 p).wf = true) :
    Calls Try.prog 3 #[.agg #[.int .i64 k, .int .i64 n, .int .i64 o, .int .i64 s, x], .slice A len cap, .int .i64 at_, .int .i64 p] W (fun e W' => e = .returned (.bool true) ∧ Below W.heap.size W W') :=
  walk_of_ok (ok_wherrylaw20_FrameExact (T_Frame.mk k n o s l) b at_ p true (frameExact_true _ _ _ _ (fun n hn => u8_of_wf (hx.2.2 n hn)) (fun n hn => u8_of_wf (hb.2.2 n hn))))
    (args_cons (arg_agg (args_cons (arg_v _ _) (args_cons (arg_v _ _) (args_cons (arg_v _ _) (args_cons (arg_v _ _) (args_cons hx.1 (args_nil _))))))) (args_cons hb.1 (args_cons (arg_v _ _) (args_cons (arg_v _ _) (args_nil _)))))
end Go.Proofs.Ytenfngliiibiiaa
