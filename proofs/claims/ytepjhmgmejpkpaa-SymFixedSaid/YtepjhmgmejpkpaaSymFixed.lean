/-
  SymFixed: its contract.
-/
import Derived.Test.YtepjhmgmejpkpaaArg
import Derived.Test.YtepjhmgmejpkpaaSymF
import Derived.Test.YtepjhmgmejpkpaaOk1
namespace Go.Proofs.Ytepjhmgmejpkpaa
open Go.ChangeShapes Go.WideShapes Go.ChangeAt Go.RowKit Go.Abs Go.Abs.Sh
set_option linter.unusedVariables false

theorem symFixed_walk (W : World) (i : Int) (hw : (Lit.int .i64 i).wf = true) :
    Calls Try.prog 6 #[.int .i64 i] W (fun e W' => e = .returned (.bool true) ∧ Below W.heap.size W W') :=
  walk_of_ok (ok_wherrylaw05_SymFixed i true (symFixed_true i)) (args_cons (arg_v _ _) (args_nil _))
end Go.Proofs.Ytepjhmgmejpkpaa
