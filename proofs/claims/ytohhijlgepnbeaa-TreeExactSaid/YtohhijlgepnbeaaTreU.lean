import Derived.Test.YtohhijlgepnbeaaTreT
namespace Go.Abs.Sh
set_option linter.unusedVariables false
set_option linter.unusedSimpArgs false
theorem refW_eq (w : List Int) : (okW w → wherryref01_rightWeights w = some true) ∧ (¬ okW w → wherryref01_rightWeights w = some false) := by
  have main : w.length ≤ 300 → ∀ b : Bool, (b = true ↔ ∀ i, i < w.length → 0 ≤ w.getD i 0 ∧ w.getD i 0 ≤ 1048576) → wherryref01_rightWeights w = some b := by
    intro hl b hb
    unfold wherryref01_rightWeights
    refine cnd_f (decide_eq_false (by omega)) ?_
    have go : ∀ (r : Bool), loopF (S := (Int)) (O := (Unit) ⊕ Bool) (fun (s11 : Int) =>
        cond ((decide (s11 < (w.length : Int))))
          ((ixO s11 w.length).bind fun v3 =>
          (getO w v3).bind fun v4 =>
          (wherryref01_in v4 0 1048576).bind fun v5 =>
          cond ((!v5))
            (some (.inr (.inr (false))))
            ((some (IntKind.i64.wrap (s11 + 1))).bind fun v7 =>
            some (.inl v7)))
          (some (.inr (.inl ())))) BIG 0 = some (if ∀ i, i < w.length → decide (0 ≤ w.getD i 0 ∧ w.getD i 0 ≤ 1048576) = true then .inl () else .inr false) := by
      intro r
      refine loop_all (fun i => decide (0 ≤ w.getD i 0 ∧ w.getD i 0 ≤ 1048576)) w.length false (by unfold BIG; omega) ?_ ?_ ?_
      · intro i hi hp
        exact cnd_t (by simp; omega) (bnd (ixO_of hi) (bnd (getO_D hi) (bnd (ref01_in _ _ _) (cnd_f (by rw [hp]; rfl) (bnd (x := ((i + 1 : Nat) : Int)) (by rw [wrap_succ (by omega)]) rfl)))))
      · intro i hi hp
        exact cnd_t (by simp; omega) (bnd (ixO_of hi) (bnd (getO_D hi) (bnd (ref01_in _ _ _) (cnd_t (by rw [hp]; rfl) rfl))))
      · exact cnd_f (by simp) rfl
    cases b with
    | true => exact bndL (s := ()) ((go true).trans (by rw [if_pos fun i hi => decide_eq_true (hb.1 rfl i hi)])) rfl
    | false => exact bndR (a := false) ((go true).trans (by rw [if_neg fun h => by have := hb.2 (fun i hi => of_decide_eq_true (h i hi)); cases this])) rfl
  by_cases hl : w.length ≤ 300
  · exact ⟨fun h => main hl true ⟨fun _ => h.2, fun _ => rfl⟩, fun h => main hl false ⟨fun e => (by cases e), fun e => absurd ⟨hl, e⟩ h⟩⟩
  · refine ⟨fun h => absurd h.1 hl, fun _ => ?_⟩
    unfold wherryref01_rightWeights
    exact cnd_t (decide_eq_true (by omega)) rfl
theorem refL_eq (l : List Int) (hl : l.length ≤ 300) : (okC l → wherryref01_RightLengths l = some true) ∧ (¬ okC l → wherryref01_RightLengths l = some false) := by
  have main : ∀ b : Bool, (b = true ↔ okC l) → wherryref01_RightLengths l = some b := by
    intro b hb
    unfold wherryref01_RightLengths
    refine cnd_f (decide_eq_false (by omega)) ?_
    have go : loopF (S := (Int)) (O := (Unit) ⊕ Bool) (fun (s11 : Int) =>
        cond ((decide (s11 < (l.length : Int))))
          ((ixO s11 l.length).bind fun v3 =>
          (getO l v3).bind fun v4 =>
          (wherryref01_in v4 0 15).bind fun v5 =>
          cond ((!v5))
            (some (.inr (.inr (false))))
            ((some (IntKind.i64.wrap (s11 + 1))).bind fun v7 =>
            some (.inl v7)))
          (some (.inr (.inl ())))) BIG 0 = some (if ∀ i, i < l.length → decide (0 ≤ l.getD i 0 ∧ l.getD i 0 ≤ 15) = true then .inl () else .inr false) := by
      refine loop_all (fun i => decide (0 ≤ l.getD i 0 ∧ l.getD i 0 ≤ 15)) l.length false (by unfold BIG; omega) ?_ ?_ ?_
      · intro i hi hp
        exact cnd_t (by simp; omega) (bnd (ixO_of hi) (bnd (getO_D hi) (bnd (ref01_in _ _ _) (cnd_f (by rw [hp]; rfl) (bnd (x := ((i + 1 : Nat) : Int)) (by rw [wrap_succ (by omega)]) rfl)))))
      · intro i hi hp
        exact cnd_t (by simp; omega) (bnd (ixO_of hi) (bnd (getO_D hi) (bnd (ref01_in _ _ _) (cnd_t (by rw [hp]; rfl) rfl))))
      · exact cnd_f (by simp) rfl
    cases b with
    | true => exact bndL (s := ()) (go.trans (by rw [if_pos fun i hi => decide_eq_true (hb.1 rfl i hi)])) rfl
    | false => exact bndR (a := false) (go.trans (by rw [if_neg fun h => by have := hb.2 (fun i hi => of_decide_eq_true (h i hi)); cases this])) rfl
  exact ⟨fun h => main true ⟨fun _ => h, fun _ => rfl⟩, fun h => main false ⟨fun e => (by cases e), fun e => absurd e h⟩⟩
theorem refLengths_bad {w : List Int} {limit : Int} (h : ¬ (okW w ∧ okL w limit)) : wherryref01_Lengths w limit = some ([], 1) := by
  unfold wherryref01_Lengths
  by_cases hw : okW w
  case neg => exact bnd ((refW_eq w).2 hw) (cnd_t rfl rfl)
  have hL : ¬ okL w limit := fun e => h ⟨hw, e⟩
  have hw1 := hw.1
  refine bnd ((refW_eq w).1 hw) (cnd_f rfl (bndL (s := ((pos w).length : Int)) ?_ ?_))
  · refine loop_from (fun i => (((posN w i).length : Int), (i : Int))) w.length BIG rfl (by unfold BIG; omega) (fun i hi => ?_) (cnd_f (by simp) rfl)
    have := posN_len w i
    refine cnd_t (by simp; omega) ?_
    by_cases hp : 0 < w.getD i 0
    · exact bndL (s := ((posN w (i + 1)).length : Int)) (bnd (ixO_of hi) (bnd (getO_D hi) (cnd_t (decide_eq_true hp) (bnd (x := (((posN w i).length + 1 : Nat) : Int)) (by rw [wrap_succ (by omega)]) (by rw [posN, if_pos hp, List.length_append]; rfl))))) (bnd (x := ((i + 1 : Nat) : Int)) (by rw [wrap_succ (by omega)]) rfl)
    · exact bndL (s := ((posN w (i + 1)).length : Int)) (bnd (ixO_of hi) (bnd (getO_D hi) (cnd_f (decide_eq_false hp) (by rw [posN, if_neg hp])))) (bnd (x := ((i + 1 : Nat) : Int)) (by rw [wrap_succ (by omega)]) rfl)
  · refine bndL (s := true) ?_ (cnd_t rfl rfl)
    unfold okL at hL
    have h9 : ¬ (9 ≤ limit ∧ limit ≤ 15) := fun e => hL ⟨by split <;> omega, e.2⟩
    refine bnd (ref01_in limit 9 15) (cnd_t (by rw [decide_eq_false h9]; rfl) (bnd (ref01_in limit 5 15) ?_))
    by_cases h5 : 5 ≤ limit ∧ limit ≤ 15
    · refine cnd_t (decide_eq_true h5) ?_
      have : ¬ (((pos w).length : Int) ≤ 19) := fun e => hL ⟨by rw [if_pos (by omega)]; exact h5.1, h5.2⟩
      rw [decide_eq_false this]; rfl
    · exact cnd_f (decide_eq_false h5) rfl
theorem mx_fits {w : List Int} {limit : Int} (h0 : 0 ≤ limit) : mx (dep w) ≤ limit ↔ fits w limit := by
  have hdl := dep_len w
  constructor
  · intro h i hi
    have := mx_ge (dep w) _ (Nat.le_refl _) i (by omega)
    rw [List.take_length] at this
    omega
  · intro h
    have := mx_le (l := dep w) h0 (fun i hi => h i (by omega)) _ (Nat.le_refl _)
    rw [List.take_length] at this
    exact this
theorem refLengths_at {w : List Int} {limit : Int} (hw : okW w) (hL : okL w limit) {J : Nat} (hJ : J ≤ 20) (hno : ∀ j, j < J → ¬ fits (hvN w j) limit) (hyes : fits (hvN w J) limit) : wherryref01_Lengths w limit = some (dep (hvN w J), 0) := by
  unfold wherryref01_Lengths
  have hw1 := hw.1
  have hlim : 5 ≤ limit ∧ limit ≤ 15 := by
    have := hL
    unfold okL at this
    refine ⟨?_, this.2⟩
    have := this.1
    split at this <;> omega
  refine bnd ((refW_eq w).1 hw) (cnd_f rfl (bndL (s := ((pos w).length : Int)) ?_ ?_))
  · refine loop_from (fun i => (((posN w i).length : Int), (i : Int))) w.length BIG rfl (by unfold BIG; omega) (fun i hi => ?_) (cnd_f (by simp) rfl)
    have := posN_len w i
    refine cnd_t (by simp; omega) ?_
    by_cases hp : 0 < w.getD i 0
    · exact bndL (s := ((posN w (i + 1)).length : Int)) (bnd (ixO_of hi) (bnd (getO_D hi) (cnd_t (decide_eq_true hp) (bnd (x := (((posN w i).length + 1 : Nat) : Int)) (by rw [wrap_succ (by omega)]) (by rw [posN, if_pos hp, List.length_append]; rfl))))) (bnd (x := ((i + 1 : Nat) : Int)) (by rw [wrap_succ (by omega)]) rfl)
    · exact bndL (s := ((posN w (i + 1)).length : Int)) (bnd (ixO_of hi) (bnd (getO_D hi) (cnd_f (decide_eq_false hp) (by rw [posN, if_neg hp])))) (bnd (x := ((i + 1 : Nat) : Int)) (by rw [wrap_succ (by omega)]) rfl)
  refine bndL (s := false) ?_ (cnd_f rfl (bnd (twin03 w (by omega)) (bndR (a := (dep (hvN w J), 0)) ?_ rfl)))
  · refine bnd (ref01_in limit 9 15) ?_
    by_cases h9 : 9 ≤ limit ∧ limit ≤ 15
    · exact cnd_f (by rw [decide_eq_true h9]; rfl) rfl
    · refine cnd_t (by rw [decide_eq_false h9]; rfl) (bnd (ref01_in limit 5 15) (cnd_t (decide_eq_true hlim) ?_))
      have : ((pos w).length : Int) ≤ 19 := by
        have := hL
        unfold okL at this
        have := this.1
        split at this <;> omega
      rw [decide_eq_true this]; rfl
  have hdl := fun j => dep_len (hvN w j)
  have hll := hvN_len w
  have hmax : ∀ (A : Type) j, loopF (S := (Int × Int)) (O := (Int) ⊕ A) (fun ((s171, s172) : Int × Int) =>
      cond ((decide (s172 < ((dep (hvN w j)).length : Int))))
        ((ixO s172 (dep (hvN w j)).length).bind fun v56 =>
        (getO (dep (hvN w j)) v56).bind fun v57 =>
        (some (if v57 > s171 then v57 else s171)).bind fun v58 =>
        (some (IntKind.i64.wrap (s172 + 1))).bind fun v59 =>
        some (.inl (v58, v59)))
        (some (.inr (.inl s171)))) BIG (0, 0) = some (.inl (mx (dep (hvN w j)))) := by
    intro A j
    refine loop_from (fun i => (mx ((dep (hvN w j)).take i), (i : Int))) (dep (hvN w j)).length BIG rfl (by rw [hdl, hll]; unfold BIG; omega) (fun i hi => ?_) (cnd_f (by simp) (by rw [List.take_length]))
    have hi2 : i < w.length := by rw [hdl, hll] at hi; exact hi
    exact cnd_t (by simp; omega) (bnd (ixO_of hi) (bnd (getO_D hi) (bnd (x := mx ((dep (hvN w j)).take (i + 1))) (by rw [mx_take hi]) (bnd (x := ((i + 1 : Nat) : Int)) (by rw [wrap_succ (by omega)]) rfl))))
  refine loop_from (fun j => hvN w j) J BIG rfl (by unfold BIG; omega) (fun j hj => ?_) ?_
  · have hok := hvN_ok hw j
    refine bnd (ref_lengths_eq hok) (bndL (s := mx (dep (hvN w j))) (hmax _ j) (cnd_f (decide_eq_false fun e => hno j hj ((mx_fits (by omega)).1 e)) ?_))
    refine bndL (s := hv (hvN w j)) ?_ rfl
    rw [← hvP_all]
    refine loop_from (fun i => (hvP (hvN w j) i, (i : Int))) (hvN w j).length BIG rfl (by rw [hll]; unfold BIG; omega) (fun i hi => ?_) (cnd_f (by simp [hvP_len]) rfl)
    have hpl := hvP_len (hvN w j) i
    have ha := hvP_at (hvN w j) i i (by omega)
    rw [if_neg (by omega)] at ha
    have hb := hok.2 i hi
    rw [hll] at hi
    exact cnd_t (by simp only [hpl, hll]; simp; omega) (bnd (ixO_of (by rw [hpl, hll]; exact hi)) (bnd (getO_D (by rw [hpl, hll]; exact hi)) (bnd (x := (hvP (hvN w j) i).getD i 0 + 1) (by rw [wrap_i64 (by omega) (by omega)]) (bnd (quo_two (by omega) (by omega)) (bnd (ixO_of (by rw [hpl, hll]; exact hi)) (bnd rfl (bnd (x := ((i + 1 : Nat) : Int)) (by rw [wrap_succ (by omega)]) rfl)))))))
  · exact bnd (ref_lengths_eq (hvN_ok hw J)) (bndL (s := mx (dep (hvN w J))) (hmax _ J) (cnd_t (decide_eq_true ((mx_fits (by omega)).2 hyes)) rfl))
theorem lengths_same (w : List Int) (limit : Int) : ∃ x, tree_Lengths w limit = some x ∧ wherryref01_Lengths w limit = some x ∧ x.1.length ≤ 300 := by
  by_cases h : okW w ∧ okL w limit
  · obtain ⟨J, hJ, hno, hyes, hl⟩ := lengths_eq h.1 h.2
    refine ⟨_, hl, refLengths_at h.1 h.2 hJ hno hyes, ?_⟩
    rw [dep_len, hvN_len]
    exact h.1.1
  · exact ⟨_, lengths_bad h, refLengths_bad h, by simp⟩
theorem cost_same (w l : List Int) : ∃ x, tree_Cost w l = some x ∧ wherryref01_Cost w l = some x := by
  by_cases h : w.length = l.length
  case neg => exact ⟨_, cost_len h, by unfold wherryref01_Cost; exact cnd_t (len_ne h) rfl⟩
  by_cases hw : okW w
  case neg => exact ⟨_, cost_w h hw, by unfold wherryref01_Cost; exact cnd_f (len_eq h) (bndL (s := true) (bnd ((refW_eq w).2 hw) (cnd_t rfl rfl)) (cnd_t rfl rfl))⟩
  have hw1 := hw.1
  by_cases hl : okC l
  case neg => exact ⟨_, cost_l h hw hl, by unfold wherryref01_Cost; exact cnd_f (len_eq h) (bndL (s := true) (bnd ((refW_eq w).1 hw) (cnd_f rfl (bnd ((refL_eq l (by omega)).2 hl) rfl))) (cnd_t rfl rfl))⟩
  refine ⟨_, cost_ok h hw hl, ?_⟩
  unfold wherryref01_Cost
  refine cnd_f (len_eq h) (bndL (s := false) (bnd ((refW_eq w).1 hw) (cnd_f rfl (bnd ((refL_eq l (by omega)).1 hl) rfl))) (cnd_f rfl (bndL (s := costN w l w.length) ?_ rfl)))
  refine loop_from (fun i => (costN w l i, (i : Int))) w.length BIG rfl (by unfold BIG; omega) (fun i hi => ?_) (cnd_f (by simp) rfl)
  have hs := cost_step h hw (show i < l.length by omega) (costN_bound hw hl h i (by omega)) (hl i (by omega))
  exact cnd_t (by simp; omega) (bnd (ixO_of hi) (bnd (getO_D hi) (bnd (ixO_of (by omega)) (bnd (getO_D (by omega)) (bnd (by rw [hs.1]) (bnd (by rw [hs.2]) (bnd (x := ((i + 1 : Nat) : Int)) (by rw [wrap_succ (by omega)]) rfl)))))))
def plus5 (l : List Int) : Nat → List Int
  | 0 => l
  | i + 1 => (plus5 l i).set i (IntKind.i64.wrap ((plus5 l i).getD i 0 + 5))
theorem plus5_len (l : List Int) : ∀ i, (plus5 l i).length = l.length
  | 0 => rfl
  | i + 1 => by rw [plus5, List.length_set]; exact plus5_len l i
theorem treeExact_true (w : List Int) (limit : Int) (l : List Int) : wherrylaw03_TreeExact w limit l = some true := by
  unfold wherrylaw03_TreeExact
  by_cases h1 : 320 < w.length
  · exact bndL (s := true) (cnd_t (by simp; omega) rfl) (cnd_t rfl rfl)
  by_cases h2 : 320 < l.length
  · exact bndL (s := true) (cnd_f (by simp; omega) (by rw [decide_eq_true (by omega)])) (cnd_t rfl rfl)
  refine bndL (s := false) (cnd_f (by simp; omega) (by rw [decide_eq_false (by omega)])) (cnd_f rfl ?_)
  obtain ⟨⟨x, e⟩, l1, l2, hx⟩ := lengths_same w limit
  obtain ⟨⟨n, g⟩, c1, c2⟩ := cost_same w l
  simp only at hx
  refine bnd (twin03 w (by omega)) (bnd (twin03 l (by omega)) (bnd l1 (bnd l2 (bnd c1 (bnd c2 ?_)))))
  refine bndL (s := false) (cnd_f (by simp) (bnd (keepInts03 x x (by omega)) (cnd_f (by simp) (cnd_f (by simp) (by simp))))) (cnd_f rfl ?_)
  refine bndL (s := ()) ?_ ?_
  · refine loop_from (fun i => (plus5 x i, (i : Int))) x.length BIG rfl (by unfold BIG; omega) (fun i hi => ?_) (cnd_f (by simp [plus5_len]) rfl)
    have hl := plus5_len x i
    exact cnd_t (by simp [hl]; omega) (bnd (ixO_of (by omega)) (bnd (getO_D (by omega)) (bnd rfl (bnd (ixO_of (by omega)) (bnd rfl (bnd (x := ((i + 1 : Nat) : Int)) (by rw [wrap_succ (by omega)]) rfl))))))
  · exact bndL (s := true) (bnd (keepInts03 w w (by omega)) (cnd_t (by simp) (bnd (keepInts03 l l (by omega)) (cnd_t (by simp) (bnd wakes03 rfl))))) rfl
end Go.Abs.Sh
