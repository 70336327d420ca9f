/-
  From what is proved of the told program to a call's contract: what came in, as the logic of places knows it.
-/
import Derived.Test.YtdligpdfcfbgpaaFrame
import Derived.Test.YtdligpdfcfbgpaaAH
namespace Go.Proofs.Ytdligpdfcfbgpaa
open Go.ChangeShapes Go.WideShapes Go.ChangeAt Go.RowKit Go.Abs
set_option linter.unusedVariables false

/-- What came in: whatever lay there is not written. -/
def inG (W : World) : Gh := gh0 W (fun _ => False) (fun b => b < W.heap.size)

theorem walk_of_ok {f : FuncId} {avs : List AV} {xs : List Value} {W : World} {b : Bool} (ok : FnOK Try.prog f avs (.v (.bool b))) (hr : Rs (inG W) V0 W avs xs []) :
    Calls Try.prog f xs.toArray W (fun e W' => e = .returned (.bool b) ∧ Below W.heap.size W W') := by
  refine (ok _ _ W xs (fun b hb => by rcases hb with hb | hb; exact hb.elim; exact hb) hr).mono ?_
  rintro e W' ⟨x, rfl, hc, Imm', o, _, _, hR, _, _⟩
  simp only [R] at hR
  rw [hR.1]
  exact ⟨rfl, hc.os, hc.tape, hc.output, hc.size, fun k hk => hc.block k hk (by simp)⟩

theorem i64_of_wf {z : Int} (h : (Lit.int .i64 z).wf = true) : -9223372036854775808 ≤ z ∧ z < 9223372036854775808 := by
  have := bounds_i64 h; omega

theorem arg_v (W : World) (x : Value) : R (inG W) V0 W (.v x) x [] := by simp [R]
theorem args_nil (W : World) : Rs (inG W) V0 W [] [] [] := by simp [Rs]
theorem args_cons {W : World} {c : AV} {cs : List AV} {x : Value} {xs : List Value} (h : R (inG W) V0 W c x []) (hs : Rs (inG W) V0 W cs xs []) : Rs (inG W) V0 W (c :: cs) (x :: xs) [] := by
  simp only [Rs]; exact ⟨x, xs, [], [], rfl, rfl, h, hs⟩
theorem arg_agg {W : World} {cs : List AV} {xs : List Value} (hs : Rs (inG W) V0 W cs xs []) : R (inG W) V0 W (.agg cs) (.agg xs.toArray) [] := by
  simp only [R]; exact ⟨xs, rfl, hs⟩

theorem arg_row {W : World} {A : Option Addr} {n c : Nat} {vs : List Value} (h : Reads W W.heap.size 1 A n vs) (hc : n ≤ c) (h1 : ∀ u ∈ vs, u.oneCell' = true) : R (inG W) V0 W (.fl .shr 1 vs) (.slice A n c) [] := by
  simp only [R]
  have hpos : vs ≠ [] → 0 < n := fun hne => by
    have := h.1
    rcases Nat.eq_zero_or_pos n with h0 | h0
    · subst h0; exact absurd (List.eq_nil_of_length_eq_zero (by omega)) hne
    · exact h0
  refine ⟨A, n, c, ⟨rfl, hc⟩, h.1, h1, fun hne => ?_, ?_⟩
  · obtain ⟨ad, e, _, hr⟩ := h.2 (hpos hne)
    exact ⟨ad, e, hr⟩
  · simp only [modeOk]
    refine ⟨trivial, fun hne => ?_⟩
    obtain ⟨ad, e, hb, _⟩ := h.2 (hpos hne)
    exact ⟨ad, e, .inr hb⟩

theorem row_open {H : Type} {enc : TypeId × Value → H} {W : World} {t e : TypeId} {k : IntKind} {fuel : Nat} {cs : List Value} {sp : Nat → Bool} {hd : Bool} {y : DataW H × List MemPlace}
    (ht : Try.prog.underlying t = some (.slice e)) (he : Try.prog.underlying e = some (.int k)) (hce : Try.prog.cellsOf e = 1) (h : DataW.trod enc Try.prog W 0 sp hd fuel t cs = some y) :
    ∃ (x : Value) (l : List Int), cs = [x] ∧ R (inG W) V0 W (.fl .shr 1 (List.map (Value.int k) l)) x [] ∧ l.length ≤ maxLen ∧ ∀ n ∈ l, (Lit.int k n).wf = true := by
  rcases open_ints ht he hce h with ⟨hcs, _⟩ | ⟨x, len, cap, zs, hcs, _, hl, hm, hz, _, hcell, hwz⟩
  · exact ⟨_, [], hcs, by simp [R, reads, modeOk], by simp, by simp⟩
  · have hzl : len ≤ zs.length := by split at hz <;> omega
    exact ⟨_, zs.take len, hcs, arg_row (reads_of_cells hzl hcell) hl (by intro u hu; obtain ⟨n, _, rfl⟩ := List.mem_map.1 hu; rfl), by rw [List.length_take]; omega, fun n hn => hwz n (List.mem_of_mem_take hn)⟩
end Go.Proofs.Ytdligpdfcfbgpaa
