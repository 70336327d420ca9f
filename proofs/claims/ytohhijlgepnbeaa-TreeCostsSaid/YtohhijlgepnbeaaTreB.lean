import Derived.Test.YtohhijlgepnbeaaTreA
namespace Go.Abs.Sh
set_option linter.unusedVariables false
set_option linter.unusedSimpArgs false
theorem twin03 (l : List Int) (h : l.length ≤ 1000000) : wherrykeep_TwinInts l = some l := by
  unfold wherrykeep_TwinInts
  exact bnd (app_of (by simp; omega) (by simp; omega)) (by simp)
theorem len_ne {a b : List Int} (h : a.length ≠ b.length) : ((a.length : Int) != (b.length : Int)) = true := by simp; omega
theorem len_eq {a b : List Int} (h : a.length = b.length) : ((a.length : Int) != (b.length : Int)) = false := by simp [h]
theorem cost_len {w l : List Int} (h : w.length ≠ l.length) : tree_Cost w l = some (0, 2) := by
  unfold tree_Cost; exact cnd_t (len_ne h) rfl
theorem cost_w {w l : List Int} (h : w.length = l.length) (hw : ¬ okW w) : tree_Cost w l = some (0, 1) := by
  unfold tree_Cost; exact cnd_f (len_eq h) (bnd ((validW_eq w).2 hw) (cnd_t rfl rfl))
theorem cost_step {w l : List Int} (h : w.length = l.length) (hw : okW w) {i : Nat} (hi : i < l.length) (hb : 0 ≤ costN w l i ∧ costN w l i ≤ 15728640 * (i : Int)) (hp : 0 ≤ l.getD i 0 ∧ l.getD i 0 ≤ 15) : IntKind.i64.wrap (w.getD i 0 * l.getD i 0) = w.getD i 0 * l.getD i 0 ∧ IntKind.i64.wrap (costN w l i + w.getD i 0 * l.getD i 0) = costN w l (i + 1) := by
  have h2 := hw.2 i (by omega)
  have h4 : 0 ≤ w.getD i 0 * l.getD i 0 := Int.mul_nonneg h2.1 hp.1
  have h5 : w.getD i 0 * l.getD i 0 ≤ 1048576 * 15 := Int.mul_le_mul h2.2 hp.2 hp.1 (by omega)
  have h6 := hw.1
  exact ⟨wrap_i64 (by omega) (by omega), wrap_i64 (by omega) (by omega)⟩
theorem cost_ok {w l : List Int} (h : w.length = l.length) (hw : okW w) (hl : okC l) : tree_Cost w l = some (costN w l w.length, 0) := by
  unfold tree_Cost
  refine cnd_f (len_eq h) (bnd ((validW_eq w).1 hw) (cnd_f rfl (bndL (s := costN w l w.length) ?_ rfl)))
  have hw1 := hw.1
  refine loop_from (fun i => (costN w l i, (i : Int))) l.length BIG rfl (by unfold BIG; omega) (fun i hi => ?_) (cnd_f (by simp) (by rw [h]))
  have hs := cost_step h hw hi (costN_bound hw hl h i (by omega)) (hl i hi)
  exact cnd_t (by simp; omega) (bnd (ixO_of hi) (bnd (getO_D hi) (bndL (s := false) (cnd_f (decide_eq_false (by have := hl i hi; omega)) (by rw [decide_eq_false (by have := hl i hi; omega)])) (cnd_f rfl (bnd (ixO_of (by omega)) (bnd (getO_D (by omega)) (bnd (by rw [hs.1]) (bnd (by rw [hs.2]) (bnd (x := ((i + 1 : Nat) : Int)) (by rw [wrap_succ (by omega)]) rfl)))))))))
theorem costN_bound' {w l : List Int} (hw : okW w) (he : w.length = l.length) : ∀ n, n ≤ w.length → (∀ i, i < n → 0 ≤ l.getD i 0 ∧ l.getD i 0 ≤ 15) → 0 ≤ costN w l n ∧ costN w l n ≤ 15728640 * (n : Int)
  | 0, _, _ => by simp [costN]
  | n + 1, h, hl => by
    have h1 := costN_bound' hw he n (by omega) (fun i hi => hl i (by omega))
    have h2 := hw.2 n (by omega)
    have h3 := hl n (by omega)
    have h4 : 0 ≤ w.getD n 0 * l.getD n 0 := Int.mul_nonneg h2.1 h3.1
    have h5 : w.getD n 0 * l.getD n 0 ≤ 1048576 * 15 := Int.mul_le_mul h2.2 h3.2 h3.1 (by omega)
    rw [costN]
    omega
theorem cost_l {w l : List Int} (h : w.length = l.length) (hw : okW w) (hl : ¬ okC l) : tree_Cost w l = some (0, 1) := by
  unfold tree_Cost
  have hw1 := hw.1
  rcases first_fail (fun i => decide (0 ≤ l.getD i 0 ∧ l.getD i 0 ≤ 15)) l.length with h1 | ⟨k, hk, h1, h2⟩
  · exact absurd (fun i hi => of_decide_eq_true (h1 i hi)) hl
  have h2 := of_decide_eq_false h2
  refine cnd_f (len_eq h) (bnd ((validW_eq w).1 hw) (cnd_f rfl (bndR (a := (0, 1)) ?_ rfl)))
  refine loop_from (fun i => (costN w l i, (i : Int))) k BIG rfl (by unfold BIG; omega) (fun i hi => ?_) ?_
  · have hp := of_decide_eq_true (h1 i hi)
    have hs := cost_step h hw (show i < l.length by omega) (costN_bound' hw h i (by omega) (fun j hj => of_decide_eq_true (h1 j (by omega)))) hp
    exact cnd_t (by simp; omega) (bnd (ixO_of (by omega)) (bnd (getO_D (by omega)) (bndL (s := false) (cnd_f (decide_eq_false (by omega)) (by rw [decide_eq_false (by omega)])) (cnd_f rfl (bnd (ixO_of (by omega)) (bnd (getO_D (by omega)) (bnd (by rw [hs.1]) (bnd (by rw [hs.2]) (bnd (x := ((i + 1 : Nat) : Int)) (by rw [wrap_succ (by omega)]) rfl)))))))))
  · refine cnd_t (by simp; omega) (bnd (ixO_of hk) (bnd (getO_D hk) (bndL (s := true) ?_ (cnd_t rfl rfl))))
    by_cases h0 : l.getD k 0 < 0
    · exact cnd_t (decide_eq_true h0) rfl
    · exact cnd_f (decide_eq_false h0) (by rw [decide_eq_true (by omega)])
theorem cost_cases (w l : List Int) : (∃ e, e ≠ 0 ∧ tree_Cost w l = some (0, e)) ∨ (w.length = l.length ∧ okW w ∧ okC l ∧ tree_Cost w l = some (costN w l w.length, 0)) := by
  by_cases h : w.length = l.length
  case neg => exact .inl ⟨2, by decide, cost_len h⟩
  by_cases hw : okW w
  case neg => exact .inl ⟨1, by decide, cost_w h hw⟩
  by_cases hl : okC l
  case neg => exact .inl ⟨1, by decide, cost_l h hw hl⟩
  exact .inr ⟨h, hw, hl, cost_ok h hw hl⟩
theorem costN_left {w l v k : List Int} (h : w.length = l.length) : ∀ n, n ≤ w.length → costN (w ++ v) (l ++ k) n = costN w l n
  | 0, _ => rfl
  | n + 1, hn => by
    rw [costN, costN, costN_left h n (by omega)]
    simp only [List.getD_eq_getElem?_getD, List.getElem?_append_left (show n < w.length by omega), List.getElem?_append_left (show n < l.length by omega)]
theorem costN_right {w l v k : List Int} (h : w.length = l.length) : ∀ n, costN (w ++ v) (l ++ k) (w.length + n) = costN w l w.length + costN v k n
  | 0 => by rw [costN, Nat.add_zero, costN_left h _ (Nat.le_refl _)]; omega
  | n + 1 => by
    rw [← Nat.add_assoc, costN, costN, costN_right h n]
    simp only [List.getD_eq_getElem?_getD, List.getElem?_append_right (Nat.le_add_right w.length n)]
    rw [List.getElem?_append_right (by omega), Nat.add_sub_cancel_left, show w.length + n - l.length = n by omega]
    omega
theorem okW_app {w v : List Int} (hw : okW w) (hv : okW v) (hl : w.length + v.length ≤ 300) : okW (w ++ v) := by
  refine ⟨by simp; omega, fun i hi => ?_⟩
  simp only [List.length_append] at hi
  by_cases h : i < w.length
  · simp only [List.getD_eq_getElem?_getD, List.getElem?_append_left h]
    exact hw.2 i h
  · simp only [List.getD_eq_getElem?_getD, List.getElem?_append_right (show w.length ≤ i by omega)]
    exact hv.2 _ (by omega)
theorem okC_app {w v : List Int} (hw : okC w) (hv : okC v) : okC (w ++ v) := by
  intro i hi
  simp only [List.length_append] at hi
  by_cases h : i < w.length
  · simp only [List.getD_eq_getElem?_getD, List.getElem?_append_left h]
    exact hw i h
  · simp only [List.getD_eq_getElem?_getD, List.getElem?_append_right (show w.length ≤ i by omega)]
    exact hv _ (by omega)
theorem treeCosts_true (w l v k : List Int) : wherrylaw03_TreeCosts w l v k = some true := by
  unfold wherrylaw03_TreeCosts
  by_cases h1 : 100 < w.length
  · exact bndL (s := true) (cnd_t (by simp; omega) rfl) (cnd_t rfl rfl)
  by_cases h2 : 100 < v.length
  · exact bndL (s := true) (cnd_f (by simp; omega) (cnd_t (by simp; omega) rfl)) (cnd_t rfl rfl)
  by_cases h3 : 100 < l.length
  · exact bndL (s := true) (cnd_f (by simp; omega) (cnd_f (by simp; omega) (cnd_t (by simp; omega) rfl))) (cnd_t rfl rfl)
  by_cases h4 : 100 < k.length
  · exact bndL (s := true) (cnd_f (by simp; omega) (cnd_f (by simp; omega) (cnd_f (by simp; omega) (by rw [decide_eq_true (by omega)])))) (cnd_t rfl rfl)
  refine bndL (s := false) (cnd_f (by simp; omega) (cnd_f (by simp; omega) (cnd_f (by simp; omega) (by rw [decide_eq_false (by omega)])))) (cnd_f rfl ?_)
  rcases cost_cases w l with ⟨e, he, hc⟩ | ⟨hwl, hw, hl, hc⟩
  · rcases cost_cases v k with ⟨f, hf, hd⟩ | ⟨hvk, hv, hk, hd⟩
    · exact bnd hc (bnd hd (bndL (s := true) (cnd_t (by simpa using he) rfl) (cnd_t rfl (bndL (s := true) (cnd_f (by simpa using he) (cnd_t rfl (cnd_f (by simpa using hf) (cnd_t rfl (bnd wakes03 rfl))))) rfl))))
    · exact bnd hc (bnd hd (bndL (s := true) (cnd_t (by simpa using he) rfl) (cnd_t rfl (bndL (s := true) (cnd_f (by simpa using he) (cnd_t rfl (cnd_t rfl (bnd wakes03 rfl)))) rfl))))
  rcases cost_cases v k with ⟨f, hf, hd⟩ | ⟨hvk, hv, hk, hd⟩
  · exact bnd hc (bnd hd (bndL (s := true) (cnd_f rfl (by simpa using hf)) (cnd_t rfl (bndL (s := true) (cnd_t rfl (cnd_f (by simpa using hf) (cnd_t rfl (bnd wakes03 rfl)))) rfl))))
  have hb := costN_bound hw hl hwl w.length (Nat.le_refl _)
  have hb2 := costN_bound hv hk hvk v.length (Nat.le_refl _)
  have hsum : costN (w ++ v) (l ++ k) (w ++ v).length = costN w l w.length + costN v k v.length := by rw [List.length_append, costN_right hwl]
  refine bnd hc (bnd hd (bndL (s := false) (cnd_f rfl rfl) (cnd_f rfl ?_)))
  refine bnd (twin03 w (by omega)) (bnd (app_of (by omega) (by omega)) (bnd (twin03 l (by omega)) (bnd (app_of (by omega) (by omega)) ?_)))
  refine bnd (cost_ok (by simp; omega) (okW_app hw hv (by omega)) (okC_app hl hk)) (bnd (twin03 w (by omega)) (bnd (app_of (by simp; omega) (by simp; omega)) (bnd (cost_len (by simp; omega)) ?_)))
  refine bndL (s := true) (cnd_t rfl (bnd (x := costN w l w.length + costN v k v.length) (by rw [wrap_i64 (by omega) (by omega)]) (cnd_t (by rw [hsum]; simp) (cnd_t rfl (bnd wakes03 rfl))))) rfl
end Go.Abs.Sh
