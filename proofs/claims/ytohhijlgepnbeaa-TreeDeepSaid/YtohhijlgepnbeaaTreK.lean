import Derived.Test.YtohhijlgepnbeaaTreJ
namespace Go.Abs.Sh
set_option linter.unusedVariables false
set_option linter.unusedSimpArgs false
theorem sum_perm {l m : List Int} (h : l.Perm m) : l.sum = m.sum := by
  induction h with
  | nil => rfl
  | cons x _ ih => rw [List.sum_cons, List.sum_cons, ih]
  | swap x y l => simp only [List.sum_cons]; omega
  | trans _ _ ih1 ih2 => exact ih1.trans ih2
theorem sum_posN {w : List Int} (hw : ∀ i, i < w.length → 0 ≤ w.getD i 0) : ∀ n, n ≤ w.length → ((posN w n).map fun x => w.getD x.toNat 0).sum = (w.take n).sum
  | 0, _ => rfl
  | n + 1, h => by
    have ih := sum_posN hw n (by omega)
    rw [take_succ_app (by omega), List.sum_append, posN]
    have := hw n (by omega)
    by_cases hp : 0 < w.getD n 0
    · rw [if_pos hp, List.map_append, List.sum_append, ih]
      simp
    · rw [if_neg hp, ih]
      simp only [List.sum_cons, List.sum_nil]
      omega
theorem wts_sum_eq {w : List Int} (hw : okW w) : (wts w).sum = w.sum := by
  have h1 := sum_posN (fun i hi => (hw.2 i hi).1) w.length (Nat.le_refl _)
  rw [List.take_length] at h1
  rw [← h1]
  exact sum_perm ((srt_perm w).map _)
theorem light_fits {w : List Int} (hw : okW w) (hs : w.sum < 2584) : fits w 15 := by
  intro i hi
  by_cases hp : 0 < w.getD i 0
  · by_cases h2 : 2 ≤ (pos w).length
    · obtain ⟨k, hk, e⟩ := srt_find hi hp
      have hd := dep_srt h2 hk
      rw [e, Int.toNat_natCast] at hd
      rw [hd]
      have hwl := wts_len w
      rcases (show 15 < (coreD (wts w)).getD k 0 ∨ (coreD (wts w)).getD k 0 ≤ 15 by omega) with h | h
      · have := depth_fib (W0 := wts w) (by omega) (inv_wts h2) (k := k) (d := 16) (by omega) (by omega)
        rw [wts_sum_eq hw] at this
        have e : ((fib (16 + 2) : Nat) : Int) = 2584 := by decide
        omega
      · exact h
    · have hc : (pos w).length = 1 := by
        have : 0 < (pos w).length := List.length_pos_of_mem (posN_mem w w.length i hi hp)
        omega
      rw [dep_one hc hi hp]; omega
  · rw [dep_zero hp]; omega
theorem lengths_zero {w : List Int} {limit : Int} (hw : okW w) (hL : okL w limit) (hf : fits w limit) : tree_Lengths w limit = some (dep w, 0) :=
  lengths_at hw hL (J := 0) (Nat.zero_le _) (fun j h => by omega) hf
theorem sum_take_le {w : List Int} (hw : ∀ i, i < w.length → 0 ≤ w.getD i 0 ∧ w.getD i 0 ≤ 1000) : ∀ n, n ≤ w.length → 0 ≤ (w.take n).sum ∧ (w.take n).sum ≤ 1000 * (n : Int)
  | 0, _ => by simp
  | n + 1, h => by
    have ih := sum_take_le hw n (by omega)
    have := hw n (by omega)
    rw [take_succ_app (by omega), List.sum_append]
    simp only [List.sum_cons, List.sum_nil]
    omega
theorem treeScales_true (w : List Int) (by_ : Int) : wherrylaw03_TreeScales w by_ = some true := by
  unfold wherrylaw03_TreeScales
  by_cases h60 : 60 < w.length
  · exact cnd_t (by simp; omega) rfl
  refine cnd_f (by simp; omega) ?_
  obtain ⟨p, hp, hr⟩ := remu_eq by_ 20 (by omega) (by omega)
  obtain ⟨b, hb⟩ : ∃ b : Int, b = ((p + 1 : Nat) : Int) := ⟨_, rfl⟩
  have hb0 : 0 < b := by omega
  have hb1 : b ≤ 20 := by omega
  refine bnd rfl (bnd hr (bnd (x := (p : Int)) (by rw [wrap_nat _ (by omega)]) (bnd (x := b) (by rw [wrap_i64 (by omega) (by omega)]; congr 1; omega) ?_)))
  have hmul : ∀ x : Int, 0 ≤ x ∧ x ≤ 1000 → 0 ≤ b * x ∧ b * x ≤ 20000 := fun x hx => by
    have h1 := Int.mul_nonneg (show 0 ≤ b by omega) hx.1
    have h2 : b * x ≤ 20 * 1000 := Int.mul_le_mul hb1 hx.2 hx.1 (by omega)
    omega
  have step : ∀ i, i < w.length → (∀ j, j ≤ i → 0 ≤ w.getD j 0 ∧ w.getD j 0 ≤ 1000) → 0 ≤ (w.take i).sum ∧ (w.take i).sum ≤ 1000 * (i : Int) → True := fun _ _ _ _ => trivial
  rcases first_fail (fun i => decide (0 ≤ w.getD i 0 ∧ w.getD i 0 ≤ 1000)) w.length with hall | ⟨k, hk, h1, h2⟩
  · have hall : ∀ i, i < w.length → 0 ≤ w.getD i 0 ∧ w.getD i 0 ≤ 1000 := fun i hi => of_decide_eq_true (hall i hi)
    refine bndL (s := (w.sum, w.map (b * ·))) ?_ ?_
    · refine loop_from (fun i => ((w.take i).sum, (w.take i).map (b * ·), (i : Int))) w.length BIG rfl (by unfold BIG; omega) (fun i hi => ?_) (cnd_f (by simp) (by rw [List.take_length]))
      have ha := hall i hi
      have hs := sum_take_le hall i (by omega)
      have hm := hmul _ ha
      refine cnd_t (by simp; omega) (bndL (s := false) (bnd (ixO_of hi) (bnd (getO_D hi) (cnd_f (decide_eq_false (by omega)) (bnd (ixO_of hi) (bnd (getO_D hi) (by rw [decide_eq_false (by omega)])))))) (cnd_f rfl ?_))
      refine bnd (ixO_of hi) (bnd (getO_D hi) (bnd (x := (w.take i).sum + w.getD i 0) (by rw [wrap_i64 (by omega) (by omega)]) (bnd (ixO_of hi) (bnd (getO_D hi) (bnd (x := b * w.getD i 0) (by rw [wrap_i64 (by omega) (by omega)]) (bnd (app_of (by simp; omega) (by simp; omega)) (bnd (x := ((i + 1 : Nat) : Int)) (by rw [wrap_succ (by omega)]) ?_)))))))
      rw [take_succ_app hi, List.sum_append, List.map_append]
      simp
    · by_cases hsum : 1500 ≤ w.sum
      · exact cnd_t (decide_eq_true hsum) rfl
      refine cnd_f (decide_eq_false hsum) ?_
      have hw : okW w := ⟨by omega, fun i hi => by have := hall i hi; omega⟩
      have hx : okW (w.map (b * ·)) := by
        refine ⟨by rw [List.length_map]; omega, fun i hi => ?_⟩
        rw [List.length_map] at hi
        rw [map_at]
        have := hmul _ (hall i hi)
        omega
      have hf := light_fits hw (by omega)
      have hf2 : fits (w.map (b * ·)) 15 := by
        unfold fits at *
        rw [scale_dep hb0, List.length_map]; exact hf
      have l1 := lengths_zero hw (okL_15 w) hf
      have l2 := lengths_zero hx (okL_15 _) hf2
      rw [scale_dep hb0] at l2
      have hdl := dep_len w
      exact bnd l1 (bnd l2 (bndL (s := true) (cnd_t rfl (cnd_t rfl (bnd (keepInts03 _ _ (by simp only; omega)) (cnd_t (by simp) (bnd wakes03 rfl))))) rfl))
  · have h2 := of_decide_eq_false h2
    have hlo : ∀ i, i < k → 0 ≤ w.getD i 0 ∧ w.getD i 0 ≤ 1000 := fun i hi => of_decide_eq_true (h1 i hi)
    have hsl : ∀ n, n ≤ k → 0 ≤ (w.take n).sum ∧ (w.take n).sum ≤ 1000 * (n : Int) := by
      intro n hn
      induction n with
      | zero => simp
      | succ n ih =>
        have ih := ih (by omega)
        have := hlo n (by omega)
        rw [take_succ_app (by omega), List.sum_append]
        simp only [List.sum_cons, List.sum_nil]
        omega
    refine bndR (a := true) ?_ rfl
    refine loop_from (fun i => ((w.take i).sum, (w.take i).map (b * ·), (i : Int))) k BIG rfl (by unfold BIG; omega) (fun i hi => ?_) ?_
    · have ha := hlo i hi
      have hi' : i < w.length := by omega
      have hs := hsl i (by omega)
      have hm := hmul _ ha
      refine cnd_t (by simp; omega) (bndL (s := false) (bnd (ixO_of hi') (bnd (getO_D hi') (cnd_f (decide_eq_false (by omega)) (bnd (ixO_of hi') (bnd (getO_D hi') (by rw [decide_eq_false (by omega)])))))) (cnd_f rfl ?_))
      refine bnd (ixO_of hi') (bnd (getO_D hi') (bnd (x := (w.take i).sum + w.getD i 0) (by rw [wrap_i64 (by omega) (by omega)]) (bnd (ixO_of hi') (bnd (getO_D hi') (bnd (x := b * w.getD i 0) (by rw [wrap_i64 (by omega) (by omega)]) (bnd (app_of (by simp; omega) (by simp; omega)) (bnd (x := ((i + 1 : Nat) : Int)) (by rw [wrap_succ (by omega)]) ?_)))))))
      rw [take_succ_app hi', List.sum_append, List.map_append]
      simp
    · refine cnd_t (by simp; omega) (bndL (s := true) (bnd (ixO_of hk) (bnd (getO_D hk) ?_)) (cnd_t rfl rfl))
      by_cases h0 : w.getD k 0 < 0
      · exact cnd_t (decide_eq_true h0) rfl
      · exact cnd_f (decide_eq_false h0) (bnd (ixO_of hk) (bnd (getO_D hk) (by rw [decide_eq_true (by omega)])))
end Go.Abs.Sh
