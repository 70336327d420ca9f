/-
  CanonBack: its contract.
-/
import Derived.Test.YtjnihhkkaioahaaArg
import Derived.Test.YtjnihhkkaioahaaIntsArg
import Derived.Test.YtjnihhkkaioahaaCanonQ
import Derived.Test.YtjnihhkkaioahaaOk3
namespace Go.Proofs.Ytjnihhkkaioahaa
open Go.ChangeShapes Go.WideShapes Go.ChangeAt Go.RowKit Go.Abs Go.Abs.Sh
set_option linter.unusedVariables false

theorem canonBack_walk (W : World) (A0 : Option Addr) (len0 cap0 : Nat) (l : List Int) (h0 : R (inG W) V0 W (.fl .shr 1 (List.map (Value.int .i64) l)) (.slice A0 len0 cap0) [] ∧ l.length ≤ maxLen ∧ ∀ n ∈ l, (Lit.int .i64 n).wf = true)
    (A1 : Option Addr) (len1 cap1 : Nat) (t : List Int) (h1 : R (inG W) V0 W (.fl .shr 1 (List.map (Value.int .i64) t)) (.slice A1 len1 cap1) [] ∧ t.length ≤ maxLen ∧ ∀ n ∈ t, (Lit.int .i64 n).wf = true) :
    Calls Try.prog 5 #[.slice A0 len0 cap0, .slice A1 len1 cap1] W (fun e W' => e = .returned (.bool true) ∧ Below W.heap.size W W') :=
  walk_of_ok (ok_wherrylaw02_CanonBack l t true (canonBack_true l t)) (args_cons h0.1 (args_cons h1.1 (args_nil _)))
end Go.Proofs.Ytjnihhkkaioahaa
