/-
  A frame that came in: its fields.
-/
import Derived.Test.YtenfngliiibiiaaArg
namespace Go.Proofs.Ytenfngliiibiiaa
open Go.ChangeShapes Go.WideShapes Go.ChangeAt Go.RowKit Go.Abs
set_option linter.unusedVariables false

theorem open_api_Frame {H : Type} {enc : TypeId × Value → H} {W : World} {r : Reach} {b0 : Nat} {sp : Nat → Bool} {hd : Bool} {v : Value} {d : DataW H} {p : List MemPlace}
    (hv : Value.okWide Try.prog W r b0 24 v) (h : DataW.Trod enc Try.prog W 0 sp hd 24 v d p) :
    ∃ (k n o s : Int) (x : Value) (l : List Int), v = .agg #[.int .i64 k, .int .i64 n, .int .i64 o, .int .i64 s, x] ∧
      (R (inG W) V0 W (.fl .shr 1 (List.map (Value.int .u8) l)) x [] ∧ l.length ≤ maxLen ∧ ∀ n ∈ l, (Lit.int .u8 n).wf = true) := by
  obtain ⟨cs, rfl, hsz⟩ := okWide_struct Try.underlying24 hv
  obtain ⟨fuel, hf⟩ := h
  obtain ⟨xs, m, _, _, hlen, hxs, hg⟩ := DataW.trod_struct Try.underlying24 hf
  have hc5 : Try.prog.cellsOf 24 = 5 := by kernel_rfl
  have hci : Try.prog.cellsOf 3 = 1 := by kernel_rfl
  have hcb : Try.prog.cellsOf 22 = 1 := by kernel_rfl
  have at_ : ∀ i, i < 5 → ∃ y, xs[i]? = some y := fun i hi => ⟨_, List.getElem?_eq_getElem (by rw [hxs]; exact hi)⟩
  obtain ⟨l⟩ := cs
  simp only [Value.cells] at hlen hg
  rw [hc5] at hlen
  obtain ⟨c0, c1, c2, c3, c4, rfl⟩ : ∃ c0 c1 c2 c3 c4, l = [c0, c1, c2, c3, c4] := by
    match l, hlen with
    | [c0, c1, c2, c3, c4], _ => exact ⟨_, _, _, _, _, rfl⟩
  obtain ⟨y0, e0⟩ := at_ 0 (by omega)
  obtain ⟨y1, e1⟩ := at_ 1 (by omega)
  obtain ⟨y2, e2⟩ := at_ 2 (by omega)
  obtain ⟨y3, e3⟩ := at_ 3 (by omega)
  obtain ⟨y4, e4⟩ := at_ 4 (by omega)
  have g0 : DataW.trod enc Try.prog W 0 sp hd m 3 (([c0, c1, c2, c3, c4].drop 0).take (Try.prog.cellsOf 3)) = xs[0]? := hg 0 _ rfl
  have g1 : DataW.trod enc Try.prog W 0 sp hd m 3 (([c0, c1, c2, c3, c4].drop 1).take (Try.prog.cellsOf 3)) = xs[1]? := hg 1 _ rfl
  have g2 : DataW.trod enc Try.prog W 0 sp hd m 3 (([c0, c1, c2, c3, c4].drop 2).take (Try.prog.cellsOf 3)) = xs[2]? := hg 2 _ rfl
  have g3 : DataW.trod enc Try.prog W 0 sp hd m 3 (([c0, c1, c2, c3, c4].drop 3).take (Try.prog.cellsOf 3)) = xs[3]? := hg 3 _ rfl
  have g4 : DataW.trod enc Try.prog W 0 sp hd m 22 (([c0, c1, c2, c3, c4].drop 4).take (Try.prog.cellsOf 22)) = xs[4]? := hg 4 _ rfl
  rw [e0] at g0; rw [e1] at g1; rw [e2] at g2; rw [e3] at g3; rw [e4] at g4
  rw [hci] at g0 g1 g2 g3
  rw [hcb] at g4
  obtain ⟨k, hk, _⟩ := DataW.trod_int Try.underlying3 g0
  obtain ⟨n, hn, _⟩ := DataW.trod_int Try.underlying3 g1
  obtain ⟨o, ho, _⟩ := DataW.trod_int Try.underlying3 g2
  obtain ⟨s, hs, _⟩ := DataW.trod_int Try.underlying3 g3
  obtain ⟨x, l, hx, hrow⟩ := row_open Try.underlying22 Try.underlying5 (by kernel_rfl) g4
  simp at hk hn ho hs hx
  subst hk hn ho hs hx
  exact ⟨k, n, o, s, c4, l, rfl, hrow⟩
theorem open_bytes_row {H : Type} {enc : TypeId × Value → H} {W : World} {r : Reach} {b0 : Nat} {sp : Nat → Bool} {hd : Bool} {v : Value} {d : DataW H} {p : List MemPlace}
    (hv : Value.okWide Try.prog W r b0 22 v) (h : DataW.Trod enc Try.prog W 0 sp hd 22 v d p) :
    ∃ (A : Option Addr) (len cap : Nat) (l : List Int), v = .slice A len cap ∧
      (R (inG W) V0 W (.fl .shr 1 (List.map (Value.int .u8) l)) (.slice A len cap) [] ∧ l.length ≤ maxLen ∧ ∀ n ∈ l, (Lit.int .u8 n).wf = true) := by
  obtain ⟨A, len, cap, rfl⟩ := okWide_slice Try.underlying22 hv
  obtain ⟨fuel, hf⟩ := h
  obtain ⟨x, l, hx, hrow⟩ := row_open Try.underlying22 Try.underlying5 (by kernel_rfl) hf
  simp [Value.cells] at hx
  subst hx
  exact ⟨A, len, cap, l, rfl, hrow⟩
end Go.Proofs.Ytenfngliiibiiaa
