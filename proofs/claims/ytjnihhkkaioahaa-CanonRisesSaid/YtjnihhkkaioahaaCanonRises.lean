/-
  CanonRises: its contract.
-/
import Derived.Test.YtjnihhkkaioahaaArg
import Derived.Test.YtjnihhkkaioahaaIntsArg
import Derived.Test.YtjnihhkkaioahaaCanonA
import Derived.Test.YtjnihhkkaioahaaOk2
namespace Go.Proofs.Ytjnihhkkaioahaa
open Go.ChangeShapes Go.WideShapes Go.ChangeAt Go.RowKit Go.Abs Go.Abs.Sh
set_option linter.unusedVariables false

theorem canonRises_walk (W : World) (A0 : Option Addr) (len0 cap0 : Nat) (l : List Int) (h0 : R (inG W) V0 W (.fl .shr 1 (List.map (Value.int .i64) l)) (.slice A0 len0 cap0) [] ∧ l.length ≤ maxLen ∧ ∀ n ∈ l, (Lit.int .i64 n).wf = true)
    (i : Int) (h1 : (Lit.int .i64 i).wf = true)
    (k : Int) (h2 : (Lit.int .i64 k).wf = true) :
    Calls Try.prog 7 #[.slice A0 len0 cap0, .int .i64 i, .int .i64 k] W (fun e W' => e = .returned (.bool true) ∧ Below W.heap.size W W') :=
  walk_of_ok (ok_wherrylaw02_CanonRises l i k true (canonRises_true l i k)) (args_cons h0.1 (args_cons (arg_v _ _) (args_cons (arg_v _ _) (args_nil _))))
end Go.Proofs.Ytjnihhkkaioahaa
