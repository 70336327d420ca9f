/-
  FrameWrong: its contract.
-/
import Derived.Test.YtenfngliiibiiaaFrameArg
import Derived.Test.YtenfngliiibiiaaFrameW
import Derived.Test.YtenfngliiibiiaaOk2
namespace Go.Proofs.Ytenfngliiibiiaa
open Go.ChangeShapes Go.WideShapes Go.ChangeAt Go.RowKit Go.Abs Go.Abs.Sh
set_option linter.unusedVariables false

theorem frameWrong_walk (W : World) (k n o s : Int) (x : Value) (l : List Int) (hx : R (inG W) V0 W (.fl .shr 1 (List.map (Value.int .u8) l)) x [] ∧ l.length ≤ maxLen ∧ ∀ n ∈ l, (Lit.int .u8 n).wf = true) (how : Int) (hw : (Lit.int .i64 how).wf = true) :
    Calls Try.prog 8 #[.agg #[.int .i64 k, .int .i64 n, .int .i64 o, .int .i64 s, x], .int .i64 how] W (fun e W' => e = .returned (.bool true) ∧ Below W.heap.size W W') :=
  walk_of_ok (ok_wherrylaw20_FrameWrong (T_Frame.mk k n o s l) how true (frameWrong_true _ _))
    (args_cons (arg_agg (args_cons (arg_v _ _) (args_cons (arg_v _ _) (args_cons (arg_v _ _) (args_cons (arg_v _ _) (args_cons hx.1 (args_nil _))))))) (args_cons (arg_v _ _) (args_nil _)))
end Go.Proofs.Ytenfngliiibiiaa
