import Derived.Test.YtohhijlgepnbeaaTreG
namespace Go.Abs.Sh
set_option linter.unusedVariables false
set_option linter.unusedSimpArgs false
def fits (w : List Int) (limit : Int) : Prop := ∀ i, i < w.length → (dep w).getD i 0 ≤ limit
theorem ones_fits {w : List Int} {limit : Int} (hw : okW w) (hL : okL w limit) (h1 : ∀ i, i < w.length → w.getD i 0 ≤ 1) : fits w limit := by
  intro i hi
  unfold okL at hL
  have hlim : 5 ≤ limit := by
    have := hL.1
    split at this <;> omega
  by_cases hp : 0 < w.getD i 0
  · by_cases h2 : 2 ≤ (pos w).length
    · obtain ⟨k, hk, e⟩ := srt_find hi hp
      have hd := dep_srt h2 hk
      rw [e, Int.toNat_natCast] at hd
      rw [hd]
      have hwl := wts_len w
      have hone : ∀ k, k < (wts w).length → (wts w).getD k 0 = 1 := by
        intro k hk
        have h3 := wts_pos hk
        rw [hwl, ← srt_len] at hk
        rw [wts_at hk] at h3 ⊢
        have h4 := srt_mem hk
        have := h1 ((srt w).getD k 0).toNat (by omega)
        omega
      have hpl := pos_len w
      have hw1 := hw.1
      have hod := fun t r => ones_depth hone (by omega) t r
      have er : k = 2 * (wts w).length - 2 - (2 * (wts w).length - 2 - k) := by omega
      rw [er]
      by_cases h19 : (pos w).length ≤ 19
      · rw [if_pos h19] at hL
        have := hod 5 (2 * (wts w).length - 2 - k) (by simp only [Nat.reduceAdd, Nat.reducePow]; omega) (by omega)
        omega
      · rw [if_neg h19] at hL
        have := hod 9 (2 * (wts w).length - 2 - k) (by simp only [Nat.reduceAdd, Nat.reducePow]; omega) (by omega)
        omega
    · have hc : (pos w).length = 1 := by
        have := posN_mem w w.length i hi hp
        have : 0 < (pos w).length := List.length_pos_of_mem this
        omega
      rw [dep_one hc hi hp]; omega
  · rw [dep_zero hp]; omega
theorem contains_eq (l : List Int) (limit : Int) (hl : l.length ≤ 1000) : ((∀ i, i < l.length → l.getD i 0 ≤ limit) → slices_ContainsFunc_int_int_of_tree_Lengths_1 l limit = some false) ∧ (¬ (∀ i, i < l.length → l.getD i 0 ≤ limit) → slices_ContainsFunc_int_int_of_tree_Lengths_1 l limit = some true) := by
  have go : ∀ i, i < l.length → l.getD i 0 ≤ limit → ∀ {O : Type}, (cond ((decide ((i : Int) < (l.length : Int))))
        ((ixO (i : Int) l.length).bind fun v2 =>
        (getO l v2).bind fun v3 =>
        (tree_Lengths_1_cap v3 limit).bind fun v4 =>
        cond (v4)
          (some (.inr (.inr ((i : Int)))))
          ((some (IntKind.i64.wrap ((i : Int) + 1))).bind fun v6 =>
          some (.inl v6)))
        (some (.inr (.inl ())))) = (some (.inl ((i + 1 : Nat) : Int)) : Option (Int ⊕ (Unit ⊕ Int))) := by
    intro i hi hle O
    exact cnd_t (by simp; omega) (bnd (ixO_of hi) (bnd (getO_D hi) (bnd (x := false) (by unfold tree_Lengths_1_cap; rw [decide_eq_false (by omega)]) (cnd_f rfl (bnd (x := ((i + 1 : Nat) : Int)) (by rw [wrap_succ (by omega)]) rfl)))))
  constructor
  · intro h
    unfold slices_ContainsFunc_int_int_of_tree_Lengths_1
    refine bnd (x := -1) ?_ (by simp)
    unfold slices_IndexFunc_int_int_of_tree_Lengths_1
    refine bndL (s := ()) ?_ rfl
    exact loop_from (fun i => (i : Int)) l.length BIG rfl (by unfold BIG; omega) (fun i hi => go i hi (h i hi) (O := Unit)) (cnd_f (by simp) rfl)
  · intro h
    rcases first_fail (fun i => decide (l.getD i 0 ≤ limit)) l.length with h1 | ⟨k, hk, h1, h2⟩
    · exact absurd (fun i hi => of_decide_eq_true (h1 i hi)) h
    have h2 := of_decide_eq_false h2
    unfold slices_ContainsFunc_int_int_of_tree_Lengths_1
    refine bnd (x := (k : Int)) ?_ (by simp)
    unfold slices_IndexFunc_int_int_of_tree_Lengths_1
    refine bndR (a := (k : Int)) ?_ rfl
    refine loop_from (fun i => (i : Int)) k BIG rfl (by unfold BIG; omega) (fun i hi => go i (by omega) (of_decide_eq_true (h1 i hi)) (O := Unit)) ?_
    exact cnd_t (by simp; omega) (bnd (ixO_of hk) (bnd (getO_D hk) (bnd (x := true) (by unfold tree_Lengths_1_cap; rw [decide_eq_true (by omega)]) (cnd_t rfl rfl))))
def hvP (w : List Int) : Nat → List Int
  | 0 => w
  | i + 1 => (hvP w i).set i (((hvP w i).getD i 0 + 1) / 2)
theorem hvP_len (w : List Int) : ∀ i, (hvP w i).length = w.length
  | 0 => rfl
  | i + 1 => by rw [hvP, List.length_set]; exact hvP_len w i
theorem hvP_at (w : List Int) : ∀ i k, i ≤ w.length → (hvP w i).getD k 0 = if k < i then (w.getD k 0 + 1) / 2 else w.getD k 0
  | 0, k, _ => by simp [hvP]
  | i + 1, k, h => by
    rw [hvP]
    by_cases e : i = k
    · subst e
      rw [getD_set_eq (by rw [hvP_len]; omega), hvP_at w i i (by omega), if_neg (by omega), if_pos (by omega)]
    · rw [getD_set_ne e, hvP_at w i k (by omega)]
      by_cases h1 : k < i
      · rw [if_pos h1, if_pos (by omega)]
      · rw [if_neg h1, if_neg (by omega)]
theorem hvP_all (w : List Int) : hvP w w.length = hv w := by
  apply List.ext_getElem
  · rw [hvP_len, hv_len]
  · intro i h1 h2
    rw [getD_at h1, getD_at h2, hvP_at w _ _ (Nat.le_refl _), hv_at]
    rw [hvP_len] at h1
    rw [if_pos h1, if_pos h1]
theorem quo_two {x : Int} (h0 : 0 ≤ x) (h1 : x < 4611686018427387904) : quoO .i64 x 2 = some (x / 2) := by
  unfold quoO
  rw [if_neg (by omega), Int.tdiv_eq_ediv_of_nonneg h0, wrap_i64 (by omega) (by omega)]
theorem fits_first {w : List Int} {limit : Int} (hw : okW w) (hL : okL w limit) : ∃ J, J ≤ 20 ∧ (∀ j, j < J → ¬ fits (hvN w j) limit) ∧ fits (hvN w J) limit := by
  have h20 : fits (hvN w 20) limit := by
    refine ones_fits (hvN_ok hw 20) ?_ fun i hi => ?_
    · unfold okL at hL ⊢
      rw [hvN_pos hw]; exact hL
    · rw [hvN_len] at hi
      simpa using hvN_le hw 20 (Nat.le_refl _) i hi
  have : ∀ n, (∃ J, J < n ∧ (∀ j, j < J → ¬ fits (hvN w j) limit) ∧ fits (hvN w J) limit) ∨ ∀ j, j < n → ¬ fits (hvN w j) limit := by
    intro n
    induction n with
    | zero => exact .inr fun j h => by omega
    | succ n ih =>
      rcases ih with ⟨J, h1, h2⟩ | h
      · exact .inl ⟨J, by omega, h2⟩
      · by_cases hf : fits (hvN w n) limit
        · exact .inl ⟨n, by omega, h, hf⟩
        · refine .inr fun j hj => ?_
          by_cases e : j = n
          · subst e; exact hf
          · exact h j (by omega)
  rcases this 21 with ⟨J, h1, h2⟩ | h
  · exact ⟨J, by omega, h2⟩
  · exact absurd h20 (h 20 (by omega))
theorem clone03 (w : List Int) (h : w.length ≤ 300) : slices_Clone_int_int w = some w := by
  unfold slices_Clone_int_int
  rw [if_pos (by omega)]
theorem lengths_bad {w : List Int} {limit : Int} (h : ¬ (okW w ∧ okL w limit)) : tree_Lengths w limit = some ([], 1) := by
  unfold tree_Lengths
  by_cases hw : okW w
  · have hL : ¬ okL w limit := fun e => h ⟨hw, e⟩
    exact bndL (s := true) (bnd ((validW_eq w).1 hw) (cnd_f rfl (bnd ((validL_eq w limit hw.1).2 hL) rfl))) (cnd_t rfl rfl)
  · exact bndL (s := true) (bnd ((validW_eq w).2 hw) (cnd_t rfl rfl)) (cnd_t rfl rfl)
theorem lengths_at {w : List Int} {limit : Int} (hw : okW w) (hL : okL w limit) {J : Nat} (hJ : J ≤ 20) (hno : ∀ j, j < J → ¬ fits (hvN w j) limit) (hyes : fits (hvN w J) limit) : tree_Lengths w limit = some (dep (hvN w J), 0) := by
  unfold tree_Lengths
  refine bndL (s := false) (bnd ((validW_eq w).1 hw) (cnd_f rfl (bnd ((validL_eq w limit hw.1).1 hL) rfl))) (cnd_f rfl (bnd (clone03 w hw.1) ?_))
  refine bndR (a := (dep (hvN w J), 0)) ?_ rfl
  have hdl := fun j => dep_len (hvN w j)
  have hll := hvN_len w
  have hw1 := hw.1
  refine loop_from (fun j => hvN w j) J BIG rfl (by unfold BIG; omega) (fun j hj => ?_) ?_
  · have hok := hvN_ok hw j
    have hc := (contains_eq (dep (hvN w j)) limit (by rw [hdl, hll]; omega)).2 (fun h => hno j hj (fun i hi => h i (by rw [hdl]; exact hi)))
    refine bnd (depths_eq hok) (bnd hc (cnd_f rfl ?_))
    refine bndL (s := hv (hvN w j)) ?_ rfl
    rw [← hvP_all]
    refine loop_from (fun i => (hvP (hvN w j) i, (i : Int))) (hvN w j).length BIG rfl (by rw [hll]; unfold BIG; omega) (fun i hi => ?_) (cnd_f (by simp) rfl)
    have hpl := hvP_len (hvN w j) i
    have ha := hvP_at (hvN w j) i i (by omega)
    rw [if_neg (by omega)] at ha
    have hb := hok.2 i hi
    rw [hll] at hi
    exact cnd_t (by simp only [hll]; simp; omega) (bnd (ixO_of (by rw [hpl, hll]; exact hi)) (bnd (getO_D (by rw [hpl, hll]; exact hi)) (bnd (x := (hvP (hvN w j) i).getD i 0 + 1) (by rw [wrap_i64 (by omega) (by omega)]) (bnd (quo_two (by omega) (by omega)) (bnd (ixO_of (by rw [hpl, hll]; exact hi)) (bnd rfl (bnd (x := ((i + 1 : Nat) : Int)) (by rw [wrap_succ (by omega)]) rfl)))))))
  · have hc := (contains_eq (dep (hvN w J)) limit (by rw [hdl, hll]; omega)).1 (fun i hi => hyes i (by rw [hdl] at hi; exact hi))
    exact bnd (depths_eq (hvN_ok hw J)) (bnd hc (cnd_t rfl rfl))
theorem lengths_eq {w : List Int} {limit : Int} (hw : okW w) (hL : okL w limit) : ∃ J, J ≤ 20 ∧ (∀ j, j < J → ¬ fits (hvN w j) limit) ∧ fits (hvN w J) limit ∧ tree_Lengths w limit = some (dep (hvN w J), 0) := by
  obtain ⟨J, h0, h1, h2⟩ := fits_first hw hL
  exact ⟨J, h0, h1, h2, lengths_at hw hL h0 h1 h2⟩
end Go.Abs.Sh
