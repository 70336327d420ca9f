/-
  CanonExact: its contract.
-/
import Derived.Test.YtjnihhkkaioahaaArg
import Derived.Test.YtjnihhkkaioahaaBytesArg
import Derived.Test.YtjnihhkkaioahaaIntsArg
import Derived.Test.YtjnihhkkaioahaaCanonG
import Derived.Test.YtjnihhkkaioahaaOk2
namespace Go.Proofs.Ytjnihhkkaioahaa
open Go.ChangeShapes Go.WideShapes Go.ChangeAt Go.RowKit Go.Abs Go.Abs.Sh
set_option linter.unusedVariables false

theorem canonExact_walk (W : World) (A0 : Option Addr) (len0 cap0 : Nat) (l : List Int) (h0 : R (inG W) V0 W (.fl .shr 1 (List.map (Value.int .i64) l)) (.slice A0 len0 cap0) [] ∧ l.length ≤ maxLen ∧ ∀ n ∈ l, (Lit.int .i64 n).wf = true)
    (A1 : Option Addr) (len1 cap1 : Nat) (b : List Int) (h1 : R (inG W) V0 W (.fl .shr 1 (List.map (Value.int .u8) b)) (.slice A1 len1 cap1) [] ∧ b.length ≤ maxLen ∧ ∀ n ∈ b, (Lit.int .u8 n).wf = true)
    (i : Int) (h2 : (Lit.int .i64 i).wf = true) :
    Calls Try.prog 3 #[.slice A0 len0 cap0, .slice A1 len1 cap1, .int .i64 i] W (fun e W' => e = .returned (.bool true) ∧ Below W.heap.size W W') :=
  walk_of_ok (ok_wherrylaw02_CanonExact l b i true (canonExact_true l b i (fun n hn => u8_of_wf (h1.2.2 n hn)) (by have := bounds_i64 h2; omega))) (args_cons h0.1 (args_cons h1.1 (args_cons (arg_v _ _) (args_nil _))))
end Go.Proofs.Ytjnihhkkaioahaa
