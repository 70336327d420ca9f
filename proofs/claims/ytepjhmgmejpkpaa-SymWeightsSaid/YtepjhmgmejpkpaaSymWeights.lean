/-
  SymWeights: its contract.
-/
import Derived.Test.YtepjhmgmejpkpaaArg
import Derived.Test.YtepjhmgmejpkpaaBytesArg
import Derived.Test.YtepjhmgmejpkpaaSymW
import Derived.Test.YtepjhmgmejpkpaaOk4
namespace Go.Proofs.Ytepjhmgmejpkpaa
open Go.ChangeShapes Go.WideShapes Go.ChangeAt Go.RowKit Go.Abs Go.Abs.Sh
set_option linter.unusedVariables false

theorem symWeights_walk (W : World) (A0 : Option Addr) (len0 cap0 : Nat) (b : List Int) (h0 : R (inG W) V0 W (.fl .shr 1 (List.map (Value.int .u8) b)) (.slice A0 len0 cap0) [] ∧ b.length ≤ maxLen ∧ ∀ n ∈ b, (Lit.int .u8 n).wf = true) :
    Calls Try.prog 7 #[.slice A0 len0 cap0] W (fun e W' => e = .returned (.bool true) ∧ Below W.heap.size W W') :=
  walk_of_ok (ok_wherrylaw05_SymWeights b true (symWeights_true b (fun n hn => u8_of_wf (h0.2.2 n hn)))) (args_cons h0.1 (args_nil _))
end Go.Proofs.Ytepjhmgmejpkpaa
