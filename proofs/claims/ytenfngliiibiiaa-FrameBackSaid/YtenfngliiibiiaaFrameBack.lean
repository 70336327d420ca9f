/-
  FrameBack: its contract.
-/
import Derived.Test.YtenfngliiibiiaaFrameArg
import Derived.Test.YtenfngliiibiiaaFrameK
import Derived.Test.YtenfngliiibiiaaOk2
namespace Go.Proofs.Ytenfngliiibiiaa
open Go.ChangeShapes Go.WideShapes Go.ChangeAt Go.RowKit Go.Abs Go.Abs.Sh
set_option linter.unusedVariables false

theorem bytes_wf {l : List Int} (h : ∀ n ∈ l, (Lit.int .u8 n).wf = true) : isBytes l := fun n hn => u8_of_wf (h n hn)

theorem frameBack_walk (W : World) (k n o s : Int) (x : Value) (l : List Int) (hx : R (inG W) V0 W (.fl .shr 1 (List.map (Value.int .u8) l)) x [] ∧ l.length ≤ maxLen ∧ ∀ n ∈ l, (Lit.int .u8 n).wf = true)
    (k' n' o' s' : Int) (x' : Value) (l' : List Int) (hx' : R (inG W) V0 W (.fl .shr 1 (List.map (Value.int .u8) l')) x' [] ∧ l'.length ≤ maxLen ∧ ∀ n ∈ l', (Lit.int .u8 n).wf = true)
    (A : Option Addr) (len cap : Nat) (b : List Int) (hb : R (inG W) V0 W (.fl .shr 1 (List.map (Value.int .u8) b)) (.slice A len cap) [] ∧ b.length ≤ maxLen ∧ ∀ n ∈ b, (Lit.int .u8 n).wf = true) :
    Calls Try.prog 4 #[.agg #[.int .i64 k, .int .i64 n, .int .i64 o, .int .i64 s, x], .agg #[.int .i64 k', .int .i64 n', .int .i64 o', .int .i64 s', x'], .slice A len cap] W (fun e W' => e = .returned (.bool true) ∧ Below W.heap.size W W') :=
  walk_of_ok (ok_wherrylaw20_FrameBack (T_Frame.mk k n o s l) (T_Frame.mk k' n' o' s' l') b true (frameBack_true _ _ _ (bytes_wf hx.2.2) (bytes_wf hx'.2.2) (bytes_wf hb.2.2)))
    (args_cons (arg_agg (args_cons (arg_v _ _) (args_cons (arg_v _ _) (args_cons (arg_v _ _) (args_cons (arg_v _ _) (args_cons hx.1 (args_nil _)))))))
      (args_cons (arg_agg (args_cons (arg_v _ _) (args_cons (arg_v _ _) (args_cons (arg_v _ _) (args_cons (arg_v _ _) (args_cons hx'.1 (args_nil _))))))) (args_cons hb.1 (args_nil _))))
end Go.Proofs.Ytenfngliiibiiaa
