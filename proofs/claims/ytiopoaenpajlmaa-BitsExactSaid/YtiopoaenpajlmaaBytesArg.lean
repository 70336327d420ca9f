/-
  Rows of bytes that come in, opened.
-/
import Derived.Test.YtiopoaenpajlmaaArg
namespace Go.Proofs.Ytiopoaenpajlmaa
open Go.ChangeShapes Go.WideShapes Go.ChangeAt Go.RowKit Go.Abs
set_option linter.unusedVariables false

theorem open_bytes_row {H : Type} {enc : TypeId × Value → H} {W : World} {r : Reach} {b0 : Nat} {sp : Nat → Bool} {hd : Bool} {v : Value} {d : DataW H} {p : List MemPlace}
    (hv : Value.okWide Try.prog W r b0 22 v) (h : DataW.Trod enc Try.prog W 0 sp hd 22 v d p) :
    ∃ (A : Option Addr) (len cap : Nat) (l : List Int), v = .slice A len cap ∧
      (R (inG W) V0 W (.fl .shr 1 (List.map (Value.int .u8) l)) (.slice A len cap) [] ∧ l.length ≤ maxLen ∧ ∀ n ∈ l, (Lit.int .u8 n).wf = true) := by
  obtain ⟨A, len, cap, rfl⟩ := okWide_slice Try.underlying22 hv
  obtain ⟨fuel, hf⟩ := h
  obtain ⟨x, l, hx, hrow⟩ := row_open Try.underlying22 Try.underlying5 (by kernel_rfl) hf
  simp [Value.cells] at hx
  subst hx
  exact ⟨A, len, cap, l, rfl, hrow⟩
end Go.Proofs.Ytiopoaenpajlmaa
