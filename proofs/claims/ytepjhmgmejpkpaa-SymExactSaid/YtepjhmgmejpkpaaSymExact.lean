/-
  SymExact: its contract.
-/
import Derived.Test.YtepjhmgmejpkpaaTokArg
import Derived.Test.YtepjhmgmejpkpaaSymH
import Derived.Test.YtepjhmgmejpkpaaOk3
namespace Go.Proofs.Ytepjhmgmejpkpaa
open Go.ChangeShapes Go.WideShapes Go.ChangeAt Go.RowKit Go.Abs Go.Abs.Sh
set_option linter.unusedVariables false

theorem symExact_walk (W : World) (n : Int) (hw : (Lit.int .i64 n).wf = true) (A : Option Addr) (len cap : Nat) (l : List T_Tok)
    (h : R (inG W) V0 W (.fl .shr 3 (List.flatten (List.map T_Tok.enc l))) (.slice A len cap) [] ∧ l.length ≤ maxLen ∧ ∀ t ∈ l, (Lit.int .u8 t.Byte).wf = true ∧ (Lit.int .i64 t.Len).wf = true ∧ (Lit.int .i64 t.Dist).wf = true) :
    Calls Try.prog 3 #[.int .i64 n, .slice A len cap] W (fun e W' => e = .returned (.bool true) ∧ Below W.heap.size W W') :=
  walk_of_ok (ok_wherrylaw05_SymExact n l true (symExact_true n l (fun t ht => u8_of_wf (h.2.2 t ht).1))) (args_cons (arg_v _ _) (args_cons h.1 (args_nil _)))
end Go.Proofs.Ytepjhmgmejpkpaa
