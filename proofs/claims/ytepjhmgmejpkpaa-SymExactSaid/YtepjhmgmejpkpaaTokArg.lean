/-
  Rows of tokens that come in, opened.
-/
import Derived.Test.YtepjhmgmejpkpaaArg
import Derived.Test.YtepjhmgmejpkpaaSh
namespace Go.Proofs.Ytepjhmgmejpkpaa
open Go.ChangeShapes Go.WideShapes Go.ChangeAt Go.RowKit Go.Abs Go.Abs.Sh
set_option linter.unusedVariables false

/-- One token's cells. -/
def tokAt (W : World) (a : Addr) (t : T_Tok) : Prop :=
  W.cell? (a.add 0) = some (.int .u8 t.Byte) ∧ W.cell? (a.add 1) = some (.int .i64 t.Len) ∧ W.cell? (a.add 2) = some (.int .i64 t.Dist) ∧
    (Lit.int .u8 t.Byte).wf = true ∧ (Lit.int .i64 t.Len).wf = true ∧ (Lit.int .i64 t.Dist).wf = true

theorem open_tok {H : Type} {enc : TypeId × Value → H} {W : World} {b0 : Nat} {sp : Nat → Bool} {hd : Bool} {fuel : Nat} {a : Addr} {y : DataW H × List MemPlace}
    (h : (W.cells? b0 a (Try.prog.cellsOf 48)).bind (DataW.trod enc Try.prog W b0 sp hd fuel 48) = some y) : ∃ t, tokAt W a t := by
  obtain ⟨cs, hcs, hy⟩ := Option.bind_eq_some_iff.1 h
  obtain ⟨xs, m, _, _, hlen, hxs, hg⟩ := DataW.trod_struct Try.underlying48 hy
  have hc3 : Try.prog.cellsOf 48 = 3 := by kernel_rfl
  have hci : Try.prog.cellsOf 3 = 1 := by kernel_rfl
  have hcb : Try.prog.cellsOf 5 = 1 := by kernel_rfl
  rw [hc3] at hcs hlen
  obtain ⟨hb, _, hcell⟩ := World.cells?_some hcs
  have at_ : ∀ i, i < 3 → ∃ y, xs[i]? = some y := fun i hi => ⟨_, List.getElem?_eq_getElem (by rw [hxs]; exact hi)⟩
  obtain ⟨c0, c1, c2, rfl⟩ : ∃ c0 c1 c2, cs = [c0, c1, c2] := by
    match cs, hlen with
    | [c0, c1, c2], _ => exact ⟨_, _, _, rfl⟩
  obtain ⟨y0, e0⟩ := at_ 0 (by omega)
  obtain ⟨y1, e1⟩ := at_ 1 (by omega)
  obtain ⟨y2, e2⟩ := at_ 2 (by omega)
  have g0 : DataW.trod enc Try.prog W b0 sp hd m 5 (([c0, c1, c2].drop 0).take (Try.prog.cellsOf 5)) = xs[0]? := hg 0 _ rfl
  have g1 : DataW.trod enc Try.prog W b0 sp hd m 3 (([c0, c1, c2].drop 1).take (Try.prog.cellsOf 3)) = xs[1]? := hg 1 _ rfl
  have g2 : DataW.trod enc Try.prog W b0 sp hd m 3 (([c0, c1, c2].drop 2).take (Try.prog.cellsOf 3)) = xs[2]? := hg 2 _ rfl
  rw [e0] at g0; rw [e1] at g1; rw [e2] at g2
  rw [hcb] at g0
  rw [hci] at g1 g2
  obtain ⟨k, hk, _, wk⟩ := DataW.trod_int Try.underlying5 g0
  obtain ⟨n, hn, _, wn⟩ := DataW.trod_int Try.underlying3 g1
  obtain ⟨o, ho, _, wo⟩ := DataW.trod_int Try.underlying3 g2
  simp at hk hn ho
  subst hk hn ho
  exact ⟨T_Tok.mk k n o, hcell 0 (by omega), hcell 1 (by omega), hcell 2 (by omega), wk, wn, wo⟩

theorem toks_read {W : World} : ∀ (l : List T_Tok) (a : Addr), (∀ i, ∀ h : i < l.length, tokAt W (a.add (i * 3)) l[i]) → ∀ (j : Nat) (u : Value), (List.flatten (List.map T_Tok.enc l))[j]? = some u → W.cell? (a.add j) = some u
  | [], a, _, j, u, h => by simp at h
  | t :: l, a, ht, j, u, h => by
    have h0 := ht 0 (by simp)
    simp only [Nat.zero_mul, List.getElem_cons_zero] at h0
    simp only [List.map_cons, List.flatten_cons, T_Tok.enc] at h
    obtain ⟨a0, a1, a2, _⟩ := h0
    rw [Addr.add_add, Nat.zero_add] at a0 a1 a2
    match j, h with
    | 0, h => simp at h; rw [← h]; exact a0
    | 1, h => simp at h; rw [← h]; exact a1
    | 2, h => simp at h; rw [← h]; exact a2
    | j + 3, h =>
      have ih := toks_read l (a.add 3) (fun i hi => by
        have := ht (i + 1) (by simpa using hi)
        simp only [List.getElem_cons_succ] at this
        rw [Addr.add_add, show 3 + i * 3 = (i + 1) * 3 by omega]; exact this) j u (by simpa using h)
      rw [Addr.add_add, show 3 + j = j + 3 by omega] at ih
      exact ih

theorem open_api_Tok_row {H : Type} {enc : TypeId × Value → H} {W : World} {r : Reach} {b0 : Nat} {sp : Nat → Bool} {hd : Bool} {v : Value} {d : DataW H} {p : List MemPlace}
    (hv : Value.okWide Try.prog W r b0 22 v) (h : DataW.Trod enc Try.prog W 0 sp hd 22 v d p) :
    ∃ (A : Option Addr) (len cap : Nat) (l : List T_Tok), v = .slice A len cap ∧
      (R (inG W) V0 W (.fl .shr 3 (List.flatten (List.map T_Tok.enc l))) (.slice A len cap) [] ∧ l.length ≤ maxLen ∧ ∀ t ∈ l, (Lit.int .u8 t.Byte).wf = true ∧ (Lit.int .i64 t.Len).wf = true ∧ (Lit.int .i64 t.Dist).wf = true) := by
  obtain ⟨A, len, cap, rfl⟩ := okWide_slice Try.underlying22 hv
  obtain ⟨fuel, hf⟩ := h
  rcases DataW.trod_slice Try.underlying22 hf with ⟨hcs, _⟩ | ⟨a, len', cap', elems, rest, n, _, hcs, _, hb, hl, hm, hlen, hel, _, _⟩
  · simp only [Value.cells, List.cons.injEq, and_true] at hcs
    cases hcs
    refine ⟨none, 0, 0, [], rfl, ?_, by simp, by simp⟩
    simp only [R]
    exact ⟨none, 0, 0, ⟨rfl, Nat.le_refl _⟩, rfl, by simp, fun h => absurd rfl h, by simp [modeOk]⟩
  · simp only [Value.cells, List.cons.injEq, and_true] at hcs
    cases hcs
    have hc3 : Try.prog.cellsOf 48 = 3 := by kernel_rfl
    have each : ∀ i, i < len → ∃ t, tokAt W (a.add (i * 3)) t := by
      intro i hi
      have h1 := hel i hi
      rw [List.getElem?_eq_getElem (by omega)] at h1
      have h2 := open_tok h1
      rwa [hc3] at h2
    have build : ∀ k, k ≤ len → ∃ l : List T_Tok, l.length = k ∧ ∀ i, ∀ h : i < l.length, tokAt W (a.add (i * 3)) l[i] := by
      intro k
      induction k with
      | zero => intro _; exact ⟨[], rfl, fun i h => by simp at h⟩
      | succ k ih =>
        intro hk
        obtain ⟨l, hl1, hl2⟩ := ih (by omega)
        obtain ⟨t, ht⟩ := each k (by omega)
        refine ⟨l ++ [t], by simp [hl1], fun i h => ?_⟩
        by_cases hi : i < l.length
        · rw [List.getElem_append_left hi]; exact hl2 i hi
        · have : i = l.length := by simp at h; omega
          subst this
          simp only [List.getElem_concat_length]
          rw [hl1]; exact ht
    obtain ⟨l, hl1, hl2⟩ := build len (Nat.le_refl _)
    have hlf : (List.flatten (List.map T_Tok.enc l)).length = l.length * 3 := by
      clear hl1 hl2
      induction l with
      | nil => rfl
      | cons t l ih => simp only [List.map_cons, List.flatten_cons, List.length_append, ih, T_Tok.len, List.length_cons]; omega
    refine ⟨some a, len, cap, l, rfl, ?_, by omega, fun t ht => ?_⟩
    · simp only [R]
      refine ⟨some a, len, cap, ⟨rfl, hl⟩, by rw [hlf, hl1], ?_, fun _ => ⟨a, rfl, toks_read l a hl2⟩, ?_⟩
      · intro u hu
        obtain ⟨q, hq, hu⟩ := List.mem_flatten.1 hu
        obtain ⟨t, _, rfl⟩ := List.mem_map.1 hq
        simp only [T_Tok.enc, List.mem_cons, List.not_mem_nil, or_false] at hu
        rcases hu with rfl | rfl | rfl <;> rfl
      · simp only [modeOk]
        refine ⟨trivial, fun hne => ⟨a, rfl, .inr ?_⟩⟩
        have hpos : 0 < l.length := by
          rcases Nat.eq_zero_or_pos l.length with h0 | h0
          · exact absurd (List.eq_nil_of_length_eq_zero (by rw [hlf]; omega)) hne
          · exact h0
        have h0 := (hl2 0 hpos).1
        have hb2 := World.block_lt_of_cell? W _ h0
        rw [block_of_add, block_of_add] at hb2
        exact hb2
    · obtain ⟨i, hi, rfl⟩ := List.getElem_of_mem ht
      have := hl2 i hi
      exact ⟨this.2.2.2.1, this.2.2.2.2.1, this.2.2.2.2.2⟩
end Go.Proofs.Ytepjhmgmejpkpaa
