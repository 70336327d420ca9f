/-
  A api.Bits that came in: its fields.
-/
import Derived.Test.YtiopoaenpajlmaaArg
namespace Go.Proofs.Ytiopoaenpajlmaa
open Go.ChangeShapes Go.WideShapes Go.ChangeAt Go.RowKit Go.Abs
set_option linter.unusedVariables false

theorem open_api_Bits {H : Type} {enc : TypeId × Value → H} {W : World} {r : Reach} {b0 : Nat} {sp : Nat → Bool} {hd : Bool} {v : Value} {d : DataW H} {p : List MemPlace}
    (hv : Value.okWide Try.prog W r b0 24 v) (h : DataW.Trod enc Try.prog W 0 sp hd 24 v d p) :
    ∃ (x_B : Value) (B : List Int) (N : Int), v = .agg #[x_B, .int .i64 N] ∧ (R (inG W) V0 W (.fl .shr 1 (List.map (Value.int .u8) B)) x_B [] ∧ B.length ≤ maxLen ∧ ∀ n ∈ B, (Lit.int .u8 n).wf = true) ∧ (Lit.int .i64 N).wf = true := by
  obtain ⟨cs, rfl, hsz⟩ := okWide_struct Try.underlying24 hv
  obtain ⟨fuel, hf⟩ := h
  obtain ⟨xs, m, _, _, hlen, hxs, hg⟩ := DataW.trod_struct Try.underlying24 hf
  have hcN : Try.prog.cellsOf 24 = 2 := by kernel_rfl
  have hc_bytes : Try.prog.cellsOf 22 = 1 := by kernel_rfl
  have hc_int : Try.prog.cellsOf 3 = 1 := by kernel_rfl
  have at_ : ∀ i, i < 2 → ∃ y, xs[i]? = some y := fun i hi => ⟨_, List.getElem?_eq_getElem (by rw [hxs]; exact hi)⟩
  obtain ⟨l⟩ := cs
  simp only [Value.cells] at hlen hg
  rw [hcN] at hlen
  obtain ⟨c0, c1, rfl⟩ : ∃ c0 c1, l = [c0, c1] := by
    match l, hlen with
    | [c0, c1], _ => exact ⟨_, _, rfl⟩
  obtain ⟨y0, e0⟩ := at_ 0 (by omega)
  have g0 : DataW.trod enc Try.prog W 0 sp hd m 22 (([c0, c1].drop 0).take (Try.prog.cellsOf 22)) = xs[0]? := hg 0 _ rfl
  rw [e0, hc_bytes] at g0
  obtain ⟨x0, l0, q0, w0⟩ := row_open Try.underlying22 Try.underlying5 (by kernel_rfl) g0
  obtain ⟨y1, e1⟩ := at_ 1 (by omega)
  have g1 : DataW.trod enc Try.prog W 0 sp hd m 3 (([c0, c1].drop 1).take (Try.prog.cellsOf 3)) = xs[1]? := hg 1 _ rfl
  rw [e1, hc_int] at g1
  obtain ⟨n1, q1, _, w1⟩ := DataW.trod_int Try.underlying3 g1
  simp at q0 q1
  subst q0 q1
  exact ⟨c0, l0, n1, rfl, w0, w1⟩
end Go.Proofs.Ytiopoaenpajlmaa
