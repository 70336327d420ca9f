/-
  SenderReady: its contract.
-/
import Derived.Test.YtdligpdfcfbgpaaSendArg
import Derived.Test.YtdligpdfcfbgpaaArg
import Derived.Test.YtdligpdfcfbgpaaSendR
import Derived.Test.YtdligpdfcfbgpaaOkAll
namespace Go.Proofs.Ytdligpdfcfbgpaa
open Go.ChangeShapes Go.WideShapes Go.ChangeAt Go.RowKit Go.Abs Go.Abs.Sh
set_option linter.unusedVariables false

theorem senderReady_walk (W : World) (s_Number : Int) (x0_Data : Value) (s_Data : List Int) (s_Ready : Bool) (s_Base : Int) (s_Next : Int) (s_Wait : Int) (s_Over : Bool) (h0 : (Lit.int .i64 s_Number).wf = true ∧ (R (inG W) V0 W (.fl .shr 1 (List.map (Value.int .u8) s_Data)) x0_Data [] ∧ s_Data.length ≤ maxLen ∧ ∀ n ∈ s_Data, (Lit.int .u8 n).wf = true) ∧ (Lit.int .i64 s_Base).wf = true ∧ (Lit.int .i64 s_Next).wf = true ∧ (Lit.int .i64 s_Wait).wf = true)
    (piece : Int) (h1 : (Lit.int .i64 piece).wf = true) :
    Calls Try.prog 9 #[.agg #[.int .i64 s_Number, x0_Data, .bool s_Ready, .int .i64 s_Base, .int .i64 s_Next, .int .i64 s_Wait, .bool s_Over], .int .i64 piece] W (fun e W' => e = .returned (.bool true) ∧ Below W.heap.size W W') :=
  walk_of_ok (ok_wherrylaw21_SenderReady (T_Send.mk s_Number s_Data s_Ready s_Base s_Next s_Wait s_Over) piece true (senderReady_true _ _)) (args_cons (arg_agg (args_cons (arg_v _ _) (args_cons (h0.2.1).1 (args_cons (arg_v _ _) (args_cons (arg_v _ _) (args_cons (arg_v _ _) (args_cons (arg_v _ _) (args_cons (arg_v _ _) (args_nil _))))))))) (args_cons (arg_v _ _) (args_nil _)))
end Go.Proofs.Ytdligpdfcfbgpaa
