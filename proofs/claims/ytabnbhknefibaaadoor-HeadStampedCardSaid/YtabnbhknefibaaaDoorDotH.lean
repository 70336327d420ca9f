import Derived.Test.YtabnbhknefibaaaDoorDotA
import Derived.Test.YtabnbhknefibaaaDoorKeepM
namespace Go.Abs.Sh
set_option linter.unusedVariables false
set_option linter.unusedSimpArgs false
/-! DotB's and DotD's lemmas that stages without Stuff want too: Lines, the reference's Body. -/
theorem tot_mem {ls : List (List Int)} {l : List Int} (h : l ∈ ls) : l.length + 2 ≤ tot ls := by
  induction ls with
  | nil => simp at h
  | cons m ls ih =>
    simp only [tot]
    rcases List.mem_cons.1 h with rfl | h
    · omega
    · have := ih h; omega
def linesS : List Int → List (List Int) → Option (List (List Int) ⊕ Unit) := fun (x : (List Int)) (s7 : (List (List Int))) =>
      (appO 1 ([] : List Int) x).bind fun v2 =>
      (appO 24 s7 [v2]).bind fun v3 =>
      some (.inl v3)
theorem fol_lines : ∀ (ls s : List (List Int)), s.length * 24 + tot ls * 24 < 140737488355328 → folL linesS ls s = some (.inl (s ++ ls))
  | [], s, _ => by simp [folL]
  | l :: ls, s, hs => by
    simp only [tot] at hs
    have e : linesS l s = some (.inl (s ++ [l])) := by
      unfold linesS
      refine bnd (x := l) (by rw [app_of (by simp; omega) (by simp; omega)]; rfl) (bnd (app_of (by simp; omega) (by simp; omega)) rfl)
    simp only [folL]
    rw [e]
    refine (fol_lines ls _ (by simp only [List.length_append, List.length_cons, List.length_nil]; omega)).trans ?_
    simp
theorem lines14 {b : List Int} {ls : List (List Int)} {r : List Int} (H : Lns b ls r) (hb : byt b) (hl : b.length < 4000000000) : dots_Lines b = some ls := by
  have hj := lns_join H
  have ht : b.length = tot ls + r.length := by rw [hj, List.length_append, jn_len]
  unfold dots_Lines dots_lines
  refine bnd rfl ?_
  refine bndL (s := ls) (lines_range linesS H hb (by omega) _ _ ?_) rfl
  have := fol_lines ls [] (by simp; omega)
  simpa using this
end Go.Abs.Sh
