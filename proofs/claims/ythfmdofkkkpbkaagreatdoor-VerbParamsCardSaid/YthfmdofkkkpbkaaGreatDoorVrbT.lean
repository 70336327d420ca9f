import Derived.Test.YthfmdofkkkpbkaaGreatDoorVrbS
namespace Go.Abs.Sh
set_option linter.unusedVariables false
set_option linter.unusedSimpArgs false
set_option maxRecDepth 100000
/-! A command's line is read as the command. -/
theorem cutW_app {c : Int} {w L : List Int} (h : c ∉ w) : cutW c (w ++ c :: L) = (w, L, true) := by
  unfold cutW
  rw [idx1_app h]
  have e1 : (w ++ c :: L).take w.length = w := by simp
  have e2 : (w ++ c :: L).drop (w.length + 1) = L := by
    rw [← List.drop_drop]; simp
  simp only [e1, e2]
theorem cutW_cases (c : Int) (l : List Int) : (∃ a b, l = a ++ c :: b ∧ c ∉ a ∧ cutW c l = (a, b, true)) ∨ (c ∉ l ∧ cutW c l = (l, [], false)) := by
  cases h : idx1 c l with
  | none => exact .inr ⟨idx1_none.1 h, by unfold cutW; rw [h]⟩
  | some e =>
    have h2 := idx1_some h
    exact .inl ⟨l.take e, l.drop (e + 1), h2.2.1, h2.2.2, by unfold cutW; rw [h]⟩
theorem low_len (l : List Int) : (lowL l).length = l.length := by simp [lowL]
theorem kind_app {w L : List Int} (h : (32 : Int) ∉ w) : kindL (w ++ 32 :: L) = kindW (lowL w) := by
  unfold kindL; rw [cutW_app h]
theorem pfx_no {w a L : List Int} (hl : a.length = w.length) (h : lowL a ≠ lowL w) : pfx w (a ++ L) = none := by
  unfold pfx
  rw [if_neg]
  rintro ⟨_, h2⟩
  rw [← hl, List.take_left] at h2
  exact h h2
theorem pfx_yes {w a L : List Int} (h : lowL a = lowL w) : pfx w (a ++ L) = some L := by
  have hl : a.length = w.length := by rw [← low_len a, h, low_len]
  unfold pfx
  rw [if_pos ⟨by rw [List.length_append]; omega, by rw [← hl, List.take_left]; exact h⟩, ← hl, List.drop_left]
theorem pfx_some {w l L : List Int} (h : pfx w l = some L) : ∃ a, l = a ++ L ∧ lowL a = lowL w ∧ a.length = w.length := by
  unfold pfx at h
  split at h
  · rename_i h2
    cases h
    exact ⟨l.take w.length, (List.take_append_drop _ _).symm, h2.2, by rw [List.length_take]; omega⟩
  · cases h
theorem mech_no {a L : List Int} (hl : a.length = 5) (h : lowL a ≠ lowL wAuth) : mechB (a ++ L) = false := by
  unfold mechB
  rw [pfx_no hl h]
def fq (q : T_Param) : List Int := sbytes q.Key ++ 61 :: sbytes q.Val
theorem spl_sum (c : Int) : ∀ l : List Int, l.length + 1 = ((spl c l).map fun p => p.length + 1).sum
  | [] => rfl
  | x :: r => by
    have ih := spl_sum c r
    have hne := spl_ne c r
    unfold spl
    by_cases hx : x = c
    · rw [if_pos hx, List.map_cons, List.sum_cons, ← ih]; simp; omega
    · rw [if_neg hx]
      cases hs : spl c r with
      | nil => exact absurd hs hne
      | cons a ps =>
        rw [hs, List.map_cons, List.sum_cons] at ih
        simp only [List.map_cons, List.sum_cons, List.length_cons]
        omega
theorem spl_mem (c : Int) : ∀ (l p : List Int), p ∈ spl c l → ∀ x ∈ p, x ∈ l
  | [], p, h, x, hx => by
    simp only [spl, List.mem_cons, List.not_mem_nil, or_false] at h
    subst h; cases hx
  | y :: r, p, h, x, hx => by
    have ih := spl_mem c r
    have hne := spl_ne c r
    unfold spl at h
    by_cases hy : y = c
    · rw [if_pos hy] at h
      rcases List.mem_cons.1 h with rfl | h
      · cases hx
      · exact List.mem_cons_of_mem _ (ih p h x hx)
    · rw [if_neg hy] at h
      cases hs : spl c r with
      | nil => exact absurd hs hne
      | cons a ps =>
        rw [hs] at h ih
        rcases List.mem_cons.1 h with rfl | h
        · rcases List.mem_cons.1 hx with rfl | hx
          · exact List.mem_cons_self
          · exact List.mem_cons_of_mem _ (ih a List.mem_cons_self x hx)
        · exact List.mem_cons_of_mem _ (ih p (List.mem_cons_of_mem _ h) x hx)
structure ParOK (k : Int) (p : List Int) (q : T_Param) : Prop where
  again : paramL k (fq q) = some q
  len : (fq q).length = p.length
  no : (32 : Int) ∉ fq q
  pr : (fq q).all prB = true
theorem dg_pr {l : List Int} (h : l.all dgB = true) : l.all prB = true ∧ byt l ∧ (32 : Int) ∉ l := by
  have h2 : ∀ x ∈ l, 48 ≤ x ∧ x ≤ 57 := fun x hx => by
    have := List.all_eq_true.1 h x hx
    simpa only [dgB, Bool.and_eq_true, decide_eq_true_eq] using this
  refine ⟨List.all_eq_true.2 fun x hx => ?_, fun x hx => ?_, fun hx => ?_⟩
  · have := h2 x hx
    simp only [prB, Bool.and_eq_true, decide_eq_true_eq]; omega
  · have := h2 x hx; omega
  · have := h2 _ hx; omega
theorem num_dg {l : List Int} (h : numB l = true) : l.all dgB = true := by
  simp only [numB, Bool.and_eq_true] at h
  exact h.2.2.2
structure FolOK (k : Int) (ps : List (List Int)) (acc qs : List T_Param) : Prop where
  again : foldP k (qs.map fq) acc = some (acc ++ qs)
  len : ((qs.map fq).map fun p => p.length + 1).sum = (ps.map fun p => p.length + 1).sum
  cnt : qs.length = ps.length
  no : ∀ q ∈ qs, (32 : Int) ∉ fq q
  pr : ∀ q ∈ qs, (fq q).all prB = true
end Go.Abs.Sh
