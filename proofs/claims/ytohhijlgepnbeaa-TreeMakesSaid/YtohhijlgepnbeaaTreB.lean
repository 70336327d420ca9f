import Derived.Test.YtohhijlgepnbeaaTreA
namespace Go.Abs.Sh
set_option linter.unusedVariables false
set_option linter.unusedSimpArgs false
theorem twin03 (l : List Int) (h : l.length ≤ 1000000) : wherrykeep_TwinInts l = some l := by
  unfold wherrykeep_TwinInts
  exact bnd (app_of (by simp; omega) (by simp; omega)) (by simp)
theorem len_ne {a b : List Int} (h : a.length ≠ b.length) : ((a.length : Int) != (b.length : Int)) = true := by simp; omega
theorem len_eq {a b : List Int} (h : a.length = b.length) : ((a.length : Int) != (b.length : Int)) = false := by simp [h]
theorem keepInts03 (a b : List Int) (hl : a.length < 4294967296) : wherrykeep_Ints a b = some (decide (a = b)) := by
  unfold wherrykeep_Ints
  by_cases hn : a.length = b.length
  case neg => exact cnd_t (len_ne hn) (by rw [decide_eq_false fun h => hn (by rw [h])])
  refine cnd_f (len_eq hn) ?_
  have hab : (∀ i, i < a.length → decide (a.getD i 0 = b.getD i 0) = true) ↔ a = b := by
    constructor
    · intro h
      apply List.ext_getElem hn
      intro i h1 h2
      have := of_decide_eq_true (h i h1)
      rw [getD_at h1, getD_at h2]; exact this
    · intro h i _
      rw [h]; simp
  have lp := fun (f : Int → Option (Int ⊕ (Unit ⊕ Bool))) => loop_all (f := f) (fun i => decide (a.getD i 0 = b.getD i 0)) a.length false (fuel := BIG) (by unfold BIG; omega)
  by_cases h : a = b
  · refine bndL (s := ()) ((lp _ ?_ ?_ ?_).trans (by rw [if_pos (hab.2 h)])) (by rw [decide_eq_true h])
    · intro i hi hp
      exact cnd_t (by simp; omega) (bnd (ixO_of hi) (bnd (getO_D hi) (bnd (ixO_of (by omega)) (bnd (getO_D (by omega)) (cnd_f (by simpa using hp) (bnd (x := ((i + 1 : Nat) : Int)) (by rw [wrap_succ (by omega)]) rfl))))))
    · intro i hi hp
      exact cnd_t (by simp; omega) (bnd (ixO_of hi) (bnd (getO_D hi) (bnd (ixO_of (by omega)) (bnd (getO_D (by omega)) (cnd_t (by simpa using hp) rfl)))))
    · exact cnd_f (by simp) rfl
  · refine bndR (a := false) ((lp _ ?_ ?_ ?_).trans (by rw [if_neg fun e => h (hab.1 e)])) (by rw [decide_eq_false h])
    · intro i hi hp
      exact cnd_t (by simp; omega) (bnd (ixO_of hi) (bnd (getO_D hi) (bnd (ixO_of (by omega)) (bnd (getO_D (by omega)) (cnd_f (by simpa using hp) (bnd (x := ((i + 1 : Nat) : Int)) (by rw [wrap_succ (by omega)]) rfl))))))
    · intro i hi hp
      exact cnd_t (by simp; omega) (bnd (ixO_of hi) (bnd (getO_D hi) (bnd (ixO_of (by omega)) (bnd (getO_D (by omega)) (cnd_t (by simpa using hp) rfl)))))
    · exact cnd_f (by simp) rfl
theorem cost_len {w l : List Int} (h : w.length ≠ l.length) : tree_Cost w l = some (0, 2) := by
  unfold tree_Cost; exact cnd_t (len_ne h) rfl
theorem cost_w {w l : List Int} (h : w.length = l.length) (hw : ¬ okW w) : tree_Cost w l = some (0, 1) := by
  unfold tree_Cost; exact cnd_f (len_eq h) (bnd ((validW_eq w).2 hw) (cnd_t rfl rfl))
theorem cost_step {w l : List Int} (h : w.length = l.length) (hw : okW w) {i : Nat} (hi : i < l.length) (hb : 0 ≤ costN w l i ∧ costN w l i ≤ 15728640 * (i : Int)) (hp : 0 ≤ l.getD i 0 ∧ l.getD i 0 ≤ 15) : IntKind.i64.wrap (w.getD i 0 * l.getD i 0) = w.getD i 0 * l.getD i 0 ∧ IntKind.i64.wrap (costN w l i + w.getD i 0 * l.getD i 0) = costN w l (i + 1) := by
  have h2 := hw.2 i (by omega)
  have h4 : 0 ≤ w.getD i 0 * l.getD i 0 := Int.mul_nonneg h2.1 hp.1
  have h5 : w.getD i 0 * l.getD i 0 ≤ 1048576 * 15 := Int.mul_le_mul h2.2 hp.2 hp.1 (by omega)
  have h6 := hw.1
  exact ⟨wrap_i64 (by omega) (by omega), wrap_i64 (by omega) (by omega)⟩
theorem cost_ok {w l : List Int} (h : w.length = l.length) (hw : okW w) (hl : okC l) : tree_Cost w l = some (costN w l w.length, 0) := by
  unfold tree_Cost
  refine cnd_f (len_eq h) (bnd ((validW_eq w).1 hw) (cnd_f rfl (bndL (s := costN w l w.length) ?_ rfl)))
  have hw1 := hw.1
  refine loop_from (fun i => (costN w l i, (i : Int))) l.length BIG rfl (by unfold BIG; omega) (fun i hi => ?_) (cnd_f (by simp) (by rw [h]))
  have hs := cost_step h hw hi (costN_bound hw hl h i (by omega)) (hl i hi)
  exact cnd_t (by simp; omega) (bnd (ixO_of hi) (bnd (getO_D hi) (bndL (s := false) (cnd_f (decide_eq_false (by have := hl i hi; omega)) (by rw [decide_eq_false (by have := hl i hi; omega)])) (cnd_f rfl (bnd (ixO_of (by omega)) (bnd (getO_D (by omega)) (bnd (by rw [hs.1]) (bnd (by rw [hs.2]) (bnd (x := ((i + 1 : Nat) : Int)) (by rw [wrap_succ (by omega)]) rfl)))))))))
theorem costN_bound' {w l : List Int} (hw : okW w) (he : w.length = l.length) : ∀ n, n ≤ w.length → (∀ i, i < n → 0 ≤ l.getD i 0 ∧ l.getD i 0 ≤ 15) → 0 ≤ costN w l n ∧ costN w l n ≤ 15728640 * (n : Int)
  | 0, _, _ => by simp [costN]
  | n + 1, h, hl => by
    have h1 := costN_bound' hw he n (by omega) (fun i hi => hl i (by omega))
    have h2 := hw.2 n (by omega)
    have h3 := hl n (by omega)
    have h4 : 0 ≤ w.getD n 0 * l.getD n 0 := Int.mul_nonneg h2.1 h3.1
    have h5 : w.getD n 0 * l.getD n 0 ≤ 1048576 * 15 := Int.mul_le_mul h2.2 h3.2 h3.1 (by omega)
    rw [costN]
    omega
theorem cost_l {w l : List Int} (h : w.length = l.length) (hw : okW w) (hl : ¬ okC l) : tree_Cost w l = some (0, 1) := by
  unfold tree_Cost
  have hw1 := hw.1
  rcases first_fail (fun i => decide (0 ≤ l.getD i 0 ∧ l.getD i 0 ≤ 15)) l.length with h1 | ⟨k, hk, h1, h2⟩
  · exact absurd (fun i hi => of_decide_eq_true (h1 i hi)) hl
  have h2 := of_decide_eq_false h2
  refine cnd_f (len_eq h) (bnd ((validW_eq w).1 hw) (cnd_f rfl (bndR (a := (0, 1)) ?_ rfl)))
  refine loop_from (fun i => (costN w l i, (i : Int))) k BIG rfl (by unfold BIG; omega) (fun i hi => ?_) ?_
  · have hp := of_decide_eq_true (h1 i hi)
    have hs := cost_step h hw (show i < l.length by omega) (costN_bound' hw h i (by omega) (fun j hj => of_decide_eq_true (h1 j (by omega)))) hp
    exact cnd_t (by simp; omega) (bnd (ixO_of (by omega)) (bnd (getO_D (by omega)) (bndL (s := false) (cnd_f (decide_eq_false (by omega)) (by rw [decide_eq_false (by omega)])) (cnd_f rfl (bnd (ixO_of (by omega)) (bnd (getO_D (by omega)) (bnd (by rw [hs.1]) (bnd (by rw [hs.2]) (bnd (x := ((i + 1 : Nat) : Int)) (by rw [wrap_succ (by omega)]) rfl)))))))))
  · refine cnd_t (by simp; omega) (bnd (ixO_of hk) (bnd (getO_D hk) (bndL (s := true) ?_ (cnd_t rfl rfl))))
    by_cases h0 : l.getD k 0 < 0
    · exact cnd_t (decide_eq_true h0) rfl
    · exact cnd_f (decide_eq_false h0) (by rw [decide_eq_true (by omega)])
end Go.Abs.Sh
