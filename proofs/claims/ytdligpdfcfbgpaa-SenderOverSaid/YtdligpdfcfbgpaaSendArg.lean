/-
  A api.Send that came in: its fields.
-/
import Derived.Test.YtdligpdfcfbgpaaArg
namespace Go.Proofs.Ytdligpdfcfbgpaa
open Go.ChangeShapes Go.WideShapes Go.ChangeAt Go.RowKit Go.Abs
set_option linter.unusedVariables false

theorem open_api_Send {H : Type} {enc : TypeId × Value → H} {W : World} {r : Reach} {b0 : Nat} {sp : Nat → Bool} {hd : Bool} {v : Value} {d : DataW H} {p : List MemPlace}
    (hv : Value.okWide Try.prog W r b0 24 v) (h : DataW.Trod enc Try.prog W 0 sp hd 24 v d p) :
    ∃ (Number : Int) (x_Data : Value) (Data : List Int) (Ready : Bool) (Base : Int) (Next : Int) (Wait : Int) (Over : Bool), v = .agg #[.int .i64 Number, x_Data, .bool Ready, .int .i64 Base, .int .i64 Next, .int .i64 Wait, .bool Over] ∧ (Lit.int .i64 Number).wf = true ∧ (R (inG W) V0 W (.fl .shr 1 (List.map (Value.int .u8) Data)) x_Data [] ∧ Data.length ≤ maxLen ∧ ∀ n ∈ Data, (Lit.int .u8 n).wf = true) ∧ (Lit.int .i64 Base).wf = true ∧ (Lit.int .i64 Next).wf = true ∧ (Lit.int .i64 Wait).wf = true := by
  obtain ⟨cs, rfl, hsz⟩ := okWide_struct Try.underlying24 hv
  obtain ⟨fuel, hf⟩ := h
  obtain ⟨xs, m, _, _, hlen, hxs, hg⟩ := DataW.trod_struct Try.underlying24 hf
  have hcN : Try.prog.cellsOf 24 = 7 := by kernel_rfl
  have hc_bool : Try.prog.cellsOf 4 = 1 := by kernel_rfl
  have hc_bytes : Try.prog.cellsOf 22 = 1 := by kernel_rfl
  have hc_int : Try.prog.cellsOf 3 = 1 := by kernel_rfl
  have at_ : ∀ i, i < 7 → ∃ y, xs[i]? = some y := fun i hi => ⟨_, List.getElem?_eq_getElem (by rw [hxs]; exact hi)⟩
  obtain ⟨l⟩ := cs
  simp only [Value.cells] at hlen hg
  rw [hcN] at hlen
  obtain ⟨c0, c1, c2, c3, c4, c5, c6, rfl⟩ : ∃ c0 c1 c2 c3 c4 c5 c6, l = [c0, c1, c2, c3, c4, c5, c6] := by
    match l, hlen with
    | [c0, c1, c2, c3, c4, c5, c6], _ => exact ⟨_, _, _, _, _, _, _, rfl⟩
  obtain ⟨y0, e0⟩ := at_ 0 (by omega)
  have g0 : DataW.trod enc Try.prog W 0 sp hd m 3 (([c0, c1, c2, c3, c4, c5, c6].drop 0).take (Try.prog.cellsOf 3)) = xs[0]? := hg 0 _ rfl
  rw [e0, hc_int] at g0
  obtain ⟨n0, q0, _, w0⟩ := DataW.trod_int Try.underlying3 g0
  obtain ⟨y1, e1⟩ := at_ 1 (by omega)
  have g1 : DataW.trod enc Try.prog W 0 sp hd m 22 (([c0, c1, c2, c3, c4, c5, c6].drop 1).take (Try.prog.cellsOf 22)) = xs[1]? := hg 1 _ rfl
  rw [e1, hc_bytes] at g1
  obtain ⟨x1, l1, q1, w1⟩ := row_open Try.underlying22 Try.underlying5 (by kernel_rfl) g1
  obtain ⟨y2, e2⟩ := at_ 2 (by omega)
  have g2 : DataW.trod enc Try.prog W 0 sp hd m 4 (([c0, c1, c2, c3, c4, c5, c6].drop 2).take (Try.prog.cellsOf 4)) = xs[2]? := hg 2 _ rfl
  rw [e2, hc_bool] at g2
  obtain ⟨n2, q2, _⟩ := DataW.trod_bool Try.underlying4 g2
  obtain ⟨y3, e3⟩ := at_ 3 (by omega)
  have g3 : DataW.trod enc Try.prog W 0 sp hd m 3 (([c0, c1, c2, c3, c4, c5, c6].drop 3).take (Try.prog.cellsOf 3)) = xs[3]? := hg 3 _ rfl
  rw [e3, hc_int] at g3
  obtain ⟨n3, q3, _, w3⟩ := DataW.trod_int Try.underlying3 g3
  obtain ⟨y4, e4⟩ := at_ 4 (by omega)
  have g4 : DataW.trod enc Try.prog W 0 sp hd m 3 (([c0, c1, c2, c3, c4, c5, c6].drop 4).take (Try.prog.cellsOf 3)) = xs[4]? := hg 4 _ rfl
  rw [e4, hc_int] at g4
  obtain ⟨n4, q4, _, w4⟩ := DataW.trod_int Try.underlying3 g4
  obtain ⟨y5, e5⟩ := at_ 5 (by omega)
  have g5 : DataW.trod enc Try.prog W 0 sp hd m 3 (([c0, c1, c2, c3, c4, c5, c6].drop 5).take (Try.prog.cellsOf 3)) = xs[5]? := hg 5 _ rfl
  rw [e5, hc_int] at g5
  obtain ⟨n5, q5, _, w5⟩ := DataW.trod_int Try.underlying3 g5
  obtain ⟨y6, e6⟩ := at_ 6 (by omega)
  have g6 : DataW.trod enc Try.prog W 0 sp hd m 4 (([c0, c1, c2, c3, c4, c5, c6].drop 6).take (Try.prog.cellsOf 4)) = xs[6]? := hg 6 _ rfl
  rw [e6, hc_bool] at g6
  obtain ⟨n6, q6, _⟩ := DataW.trod_bool Try.underlying4 g6
  simp at q0 q1 q2 q3 q4 q5 q6
  subst q0 q1 q2 q3 q4 q5 q6
  exact ⟨n0, c1, l1, n2, n3, n4, n5, n6, rfl, w0, w1, w3, w4, w5⟩
end Go.Proofs.Ytdligpdfcfbgpaa
