/-
  A api.Frame that came in: its fields.
-/
import Derived.Test.YtdligpdfcfbgpaaArg
namespace Go.Proofs.Ytdligpdfcfbgpaa
open Go.ChangeShapes Go.WideShapes Go.ChangeAt Go.RowKit Go.Abs
set_option linter.unusedVariables false

theorem open_api_Frame {H : Type} {enc : TypeId × Value → H} {W : World} {r : Reach} {b0 : Nat} {sp : Nat → Bool} {hd : Bool} {v : Value} {d : DataW H} {p : List MemPlace}
    (hv : Value.okWide Try.prog W r b0 26 v) (h : DataW.Trod enc Try.prog W 0 sp hd 26 v d p) :
    ∃ (Kind : Int) (Number : Int) (Offset : Int) (Seq : Int) (x_Data : Value) (Data : List Int), v = .agg #[.int .i64 Kind, .int .i64 Number, .int .i64 Offset, .int .i64 Seq, x_Data] ∧ (Lit.int .i64 Kind).wf = true ∧ (Lit.int .i64 Number).wf = true ∧ (Lit.int .i64 Offset).wf = true ∧ (Lit.int .i64 Seq).wf = true ∧ (R (inG W) V0 W (.fl .shr 1 (List.map (Value.int .u8) Data)) x_Data [] ∧ Data.length ≤ maxLen ∧ ∀ n ∈ Data, (Lit.int .u8 n).wf = true) := by
  obtain ⟨cs, rfl, hsz⟩ := okWide_struct Try.underlying26 hv
  obtain ⟨fuel, hf⟩ := h
  obtain ⟨xs, m, _, _, hlen, hxs, hg⟩ := DataW.trod_struct Try.underlying26 hf
  have hcN : Try.prog.cellsOf 26 = 5 := by kernel_rfl
  have hc_bytes : Try.prog.cellsOf 22 = 1 := by kernel_rfl
  have hc_int : Try.prog.cellsOf 3 = 1 := by kernel_rfl
  have at_ : ∀ i, i < 5 → ∃ y, xs[i]? = some y := fun i hi => ⟨_, List.getElem?_eq_getElem (by rw [hxs]; exact hi)⟩
  obtain ⟨l⟩ := cs
  simp only [Value.cells] at hlen hg
  rw [hcN] at hlen
  obtain ⟨c0, c1, c2, c3, c4, rfl⟩ : ∃ c0 c1 c2 c3 c4, l = [c0, c1, c2, c3, c4] := by
    match l, hlen with
    | [c0, c1, c2, c3, c4], _ => exact ⟨_, _, _, _, _, rfl⟩
  obtain ⟨y0, e0⟩ := at_ 0 (by omega)
  have g0 : DataW.trod enc Try.prog W 0 sp hd m 3 (([c0, c1, c2, c3, c4].drop 0).take (Try.prog.cellsOf 3)) = xs[0]? := hg 0 _ rfl
  rw [e0, hc_int] at g0
  obtain ⟨n0, q0, _, w0⟩ := DataW.trod_int Try.underlying3 g0
  obtain ⟨y1, e1⟩ := at_ 1 (by omega)
  have g1 : DataW.trod enc Try.prog W 0 sp hd m 3 (([c0, c1, c2, c3, c4].drop 1).take (Try.prog.cellsOf 3)) = xs[1]? := hg 1 _ rfl
  rw [e1, hc_int] at g1
  obtain ⟨n1, q1, _, w1⟩ := DataW.trod_int Try.underlying3 g1
  obtain ⟨y2, e2⟩ := at_ 2 (by omega)
  have g2 : DataW.trod enc Try.prog W 0 sp hd m 3 (([c0, c1, c2, c3, c4].drop 2).take (Try.prog.cellsOf 3)) = xs[2]? := hg 2 _ rfl
  rw [e2, hc_int] at g2
  obtain ⟨n2, q2, _, w2⟩ := DataW.trod_int Try.underlying3 g2
  obtain ⟨y3, e3⟩ := at_ 3 (by omega)
  have g3 : DataW.trod enc Try.prog W 0 sp hd m 3 (([c0, c1, c2, c3, c4].drop 3).take (Try.prog.cellsOf 3)) = xs[3]? := hg 3 _ rfl
  rw [e3, hc_int] at g3
  obtain ⟨n3, q3, _, w3⟩ := DataW.trod_int Try.underlying3 g3
  obtain ⟨y4, e4⟩ := at_ 4 (by omega)
  have g4 : DataW.trod enc Try.prog W 0 sp hd m 22 (([c0, c1, c2, c3, c4].drop 4).take (Try.prog.cellsOf 22)) = xs[4]? := hg 4 _ rfl
  rw [e4, hc_bytes] at g4
  obtain ⟨x4, l4, q4, w4⟩ := row_open Try.underlying22 Try.underlying5 (by kernel_rfl) g4
  simp at q0 q1 q2 q3 q4
  subst q0 q1 q2 q3 q4
  exact ⟨n0, n1, n2, n3, c4, l4, rfl, w0, w1, w2, w3, w4⟩
end Go.Proofs.Ytdligpdfcfbgpaa
