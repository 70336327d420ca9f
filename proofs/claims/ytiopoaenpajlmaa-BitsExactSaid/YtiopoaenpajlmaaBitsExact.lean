/-
  BitsExact: its contract.
-/
import Derived.Test.YtiopoaenpajlmaaBitsArg
import Derived.Test.YtiopoaenpajlmaaArg
import Derived.Test.YtiopoaenpajlmaaBytesArg
import Derived.Test.YtiopoaenpajlmaaBitsE
import Derived.Test.YtiopoaenpajlmaaOk2
namespace Go.Proofs.Ytiopoaenpajlmaa
open Go.ChangeShapes Go.WideShapes Go.ChangeAt Go.RowKit Go.Abs Go.Abs.Sh
set_option linter.unusedVariables false

theorem bitsExact_walk (W : World) (x0_B : Value) (s_B : List Int) (s_N : Int) (h0 : (R (inG W) V0 W (.fl .shr 1 (List.map (Value.int .u8) s_B)) x0_B [] ∧ s_B.length ≤ maxLen ∧ ∀ n ∈ s_B, (Lit.int .u8 n).wf = true) ∧ (Lit.int .i64 s_N).wf = true)
    (v : Int) (h1 : (Lit.int .i64 v).wf = true)
    (n : Int) (h2 : (Lit.int .i64 n).wf = true)
    (A3 : Option Addr) (len3 cap3 : Nat) (b : List Int) (h3 : R (inG W) V0 W (.fl .shr 1 (List.map (Value.int .u8) b)) (.slice A3 len3 cap3) [] ∧ b.length ≤ maxLen ∧ ∀ n ∈ b, (Lit.int .u8 n).wf = true)
    (at_ : Int) (h4 : (Lit.int .i64 at_).wf = true) :
    Calls Try.prog 3 #[.agg #[x0_B, .int .i64 s_N], .int .i64 v, .int .i64 n, .slice A3 len3 cap3, .int .i64 at_] W (fun e W' => e = .returned (.bool true) ∧ Below W.heap.size W W') :=
  walk_of_ok (ok_wherrylaw01_BitsExact (T_Bits.mk s_B s_N) v n b at_ true (bitsExact_true _ _ _ _ _ (fun n hn => u8_of_wf (h0.1.2.2 n hn)) (fun n hn => u8_of_wf (h3.2.2 n hn)) (i64_of_wf h1) (i64_of_wf h2) (i64_of_wf h4))) (args_cons (arg_agg (args_cons (h0.1).1 (args_cons (arg_v _ _) (args_nil _)))) (args_cons (arg_v _ _) (args_cons (arg_v _ _) (args_cons h3.1 (args_cons (arg_v _ _) (args_nil _))))))
end Go.Proofs.Ytiopoaenpajlmaa
