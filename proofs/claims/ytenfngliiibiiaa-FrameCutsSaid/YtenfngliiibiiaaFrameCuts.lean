/-
  FrameCuts: its contract.
-/
import Derived.Test.YtenfngliiibiiaaFrameArg
import Derived.Test.YtenfngliiibiiaaFrameC
import Derived.Test.YtenfngliiibiiaaOk2
namespace Go.Proofs.Ytenfngliiibiiaa
open Go.ChangeShapes Go.WideShapes Go.ChangeAt Go.RowKit Go.Abs Go.Abs.Sh
set_option linter.unusedVariables false

theorem frameCuts_walk (W : World) (k n o s : Int) (x : Value) (l : List Int) (hx : R (inG W) V0 W (.fl .shr 1 (List.map (Value.int .u8) l)) x [] ∧ l.length ≤ maxLen ∧ ∀ n ∈ l, (Lit.int .u8 n).wf = true)
    (cut : Int) (hw : (Lit.int .i64 cut).wf = true) (more : Int) (hm : (Lit.int .u8 more).wf = true) :
    Calls Try.prog 6 #[.agg #[.int .i64 k, .int .i64 n, .int .i64 o, .int .i64 s, x], .int .i64 cut, .int .u8 more] W (fun e W' => e = .returned (.bool true) ∧ Below W.heap.size W W') :=
  walk_of_ok (ok_wherrylaw20_FrameCuts (T_Frame.mk k n o s l) cut more true (frameCuts_true _ _ _ (fun n hn => u8_of_wf (hx.2.2 n hn)) (u8_of_wf hm)))
    (args_cons (arg_agg (args_cons (arg_v _ _) (args_cons (arg_v _ _) (args_cons (arg_v _ _) (args_cons (arg_v _ _) (args_cons hx.1 (args_nil _))))))) (args_cons (arg_v _ _) (args_cons (arg_v _ _) (args_nil _))))
end Go.Proofs.Ytenfngliiibiiaa
