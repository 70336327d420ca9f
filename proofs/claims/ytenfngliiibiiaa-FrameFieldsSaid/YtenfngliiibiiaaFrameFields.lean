/-
  FrameFields: its contract.
-/
import Derived.Test.YtenfngliiibiiaaFrameArg
import Derived.Test.YtenfngliiibiiaaFrameF
import Derived.Test.YtenfngliiibiiaaOk3
namespace Go.Proofs.Ytenfngliiibiiaa
open Go.ChangeShapes Go.WideShapes Go.ChangeAt Go.RowKit Go.Abs Go.Abs.Sh
set_option linter.unusedVariables false

theorem frameFields_walk (W : World) (k n o s : Int) (x : Value) (l : List Int) (hx : R (inG W) V0 W (.fl .shr 1 (List.map (Value.int .u8) l)) x [] ∧ l.length ≤ maxLen ∧ ∀ n ∈ l, (Lit.int .u8 n).wf = true) :
    Calls Try.prog 7 #[.agg #[.int .i64 k, .int .i64 n, .int .i64 o, .int .i64 s, x]] W (fun e W' => e = .returned (.bool true) ∧ Below W.heap.size W W') :=
  walk_of_ok (ok_wherrylaw20_FrameFields (T_Frame.mk k n o s l) true (frameFields_true _ (fun n hn => u8_of_wf (hx.2.2 n hn))))
    (args_cons (arg_agg (args_cons (arg_v _ _) (args_cons (arg_v _ _) (args_cons (arg_v _ _) (args_cons (arg_v _ _) (args_cons hx.1 (args_nil _))))))) (args_nil _))
end Go.Proofs.Ytenfngliiibiiaa
