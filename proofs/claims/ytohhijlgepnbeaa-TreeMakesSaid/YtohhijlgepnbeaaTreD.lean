import Derived.Test.YtohhijlgepnbeaaTreC
namespace Go.Abs.Sh
set_option linter.unusedVariables false
set_option linter.unusedSimpArgs false
theorem wrap_pred {n : Nat} (h : n < 4611686018427387904) : IntKind.i64.wrap (((n + 1 : Nat) : Int) - 1) = (n : Int) := by rw [wrap_i64 (by omega) (by omega)]; omega
theorem clo_eq {W P : List Int} (h : W.length = P.length) {n lf mg : Nat} (hn : n ≤ W.length) (hl : lf ≤ n) (hm : mg ≤ W.length) (h0 : lf < n ∨ mg < W.length) (hb : W.length ≤ 1000000) :
    tree_merge_1_clo (lf : Int) (n : Int) (mg : Int) (zw W P) = some (((lst n W lf mg).1 : Int), ((lst n W lf mg).2.1 : Int), (n : Int), ((lst n W lf mg).2.2 : Int), zw W P) := by
  have hz := zw_len h
  have fin : ∀ c : Bool, (c = true ↔ (lf < n ∧ (mg = W.length ∨ W.getD lf 0 ≤ W.getD mg 0))) →
      cond c ((some (IntKind.i64.wrap ((lf : Int) + 1))).bind fun v10 => (some (IntKind.i64.wrap (v10 - 1))).bind fun v11 => some ((v11, v10, (n : Int), (mg : Int), zw W P)))
        ((some (IntKind.i64.wrap ((mg : Int) + 1))).bind fun v12 => (some (IntKind.i64.wrap (v12 - 1))).bind fun v13 => some ((v13, (lf : Int), (n : Int), v12, zw W P))) = some (((lst n W lf mg).1 : Int), ((lst n W lf mg).2.1 : Int), (n : Int), ((lst n W lf mg).2.2 : Int), zw W P) := by
    intro c hc
    unfold lst
    cases c with
    | true =>
      rw [if_pos (hc.1 rfl)]
      exact cnd_t rfl (bnd (x := ((lf + 1 : Nat) : Int)) (by rw [wrap_succ (by omega)]) (bnd (x := (lf : Int)) (by rw [wrap_pred (by omega)]) rfl))
    | false =>
      rw [if_neg fun e => by have := hc.2 e; cases this]
      exact cnd_f rfl (bnd (x := ((mg + 1 : Nat) : Int)) (by rw [wrap_succ (by omega)]) (bnd (x := (mg : Int)) (by rw [wrap_pred (by omega)]) rfl))
  unfold tree_merge_1_clo
  by_cases h1 : lf < n
  · by_cases h2 : mg = W.length
    · exact bndL (s := true) (cnd_t (decide_eq_true (by omega)) (cnd_t (by rw [hz, h2]; simp) rfl)) (fin true ⟨fun _ => ⟨h1, .inl h2⟩, fun _ => rfl⟩)
    · refine bndL (s := decide (W.getD lf 0 ≤ W.getD mg 0)) (cnd_t (decide_eq_true (by omega)) (cnd_f (by rw [hz]; simp; omega) (bnd (ixO_of (by rw [hz]; omega)) (bnd (zw_get h (by omega)) (bnd (ixO_of (by rw [hz]; omega)) (bnd (zw_get h (by omega)) rfl)))))) (fin _ ⟨fun e => ⟨h1, .inr (of_decide_eq_true e)⟩, fun e => decide_eq_true ?_⟩)
      rcases e.2 with e | e
      · exact absurd e h2
      · exact e
  · exact bndL (s := false) (cnd_f (decide_eq_false (by omega)) rfl) (fin false ⟨fun e => (by cases e), fun e => absurd e.1 h1⟩)
theorem merge_eq {W0 : List Int} (hs : ∀ p q, p ≤ q → q < W0.length → W0.getD p 0 ≤ W0.getD q 0) (hp : ∀ k, k < W0.length → 1 ≤ W0.getD k 0) (h2 : 2 ≤ W0.length) (h3 : W0.length ≤ 300) (ht : W0.sum ≤ 1099511627776) :
    tree_merge (zw W0 (List.replicate W0.length 0)) = some (zw (mst W0 (W0.length - 1)).W (mst W0 (W0.length - 1)).P) := by
  unfold tree_merge
  have hzl : (zw W0 (List.replicate W0.length 0)).length = W0.length := zw_len (by simp)
  refine bndL (s := zw (mst W0 (W0.length - 1)).W (mst W0 (W0.length - 1)).P) ?_ rfl
  refine loop_from (fun i => (zw (mst W0 i).W (mst W0 i).P, (W0.length : Int), ((mst W0 i).lf : Int), ((mst W0 i).mg : Int))) (W0.length - 1) BIG ?_ (by unfold BIG; omega) (fun i hi => ?_) ?_
  · simp only [mst]
    rw [hzl]
    rfl
  · obtain ⟨v, v'⟩ : Inv W0 i (mst W0 i) ∧ Inv W0 (i + 1) (mst W0 (i + 1)) := ⟨inv_all hs hp i (by omega), inv_all hs hp (i + 1) (by omega)⟩
    have hst : mst W0 (i + 1) = mstep W0.length (mst W0 i) := rfl
    generalize mst W0 i = s at *
    generalize mst W0 (i + 1) = s' at *
    obtain ⟨wl, pl, lf, mg1, mg2, cnt, cl, par, clt, mem, nd, leaf, new, asc, low, mono, pos, tot, le⟩ := v
    have hWP : s.W.length = s.P.length := by omega
    have hsW : ∀ p q, p ≤ q → q < W0.length → s.W.getD p 0 ≤ s.W.getD q 0 := fun p q h1 h2 => by rw [leaf p (by omega), leaf q h2]; exact hs p q h1 h2
    have hmW : ∀ p q, s.mg ≤ p → p ≤ q → q < s.W.length → s.W.getD p 0 ≤ s.W.getD q 0 := fun p q h1 h2 h3 => mono p q (by omega) h2 (by omega)
    have c1 := clo_eq (W := s.W) (P := s.P) hWP (n := W0.length) (lf := s.lf) (mg := s.mg) (by omega) lf (by omega) (by omega) (by omega)
    obtain ⟨a, l1, m1, ea⟩ : ∃ a l1 m1, lst W0.length s.W s.lf s.mg = (a, l1, m1) := ⟨_, _, _, rfl⟩
    have pa := lst_pick (n := W0.length) (W := s.W) lf (show s.mg ≤ s.W.length by omega) (by omega) hsW hmW
    rw [ea] at pa c1
    have wa := pa.way
    simp only at wa c1
    have c2 := clo_eq (W := s.W) (P := s.P) hWP (n := W0.length) (lf := l1) (mg := m1) (by omega) (by omega) (by omega) (by omega) (by omega)
    obtain ⟨b, l2, m2, eb⟩ : ∃ b l2 m2, lst W0.length s.W l1 m1 = (b, l2, m2) := ⟨_, _, _, rfl⟩
    have pb := lst_pick (n := W0.length) (W := s.W) (lf := l1) (mg := m1) (by omega) (by omega) (by omega) hsW (fun p q h1 h2 h3 => hmW p q (by omega) h2 h3)
    rw [eb] at pb c2
    have wb := pb.way
    simp only at wb c2
    have hs' : s' = ⟨s.W ++ [s.W.getD a 0 + s.W.getD b 0], (s.P.set a (s.W.length : Int)).set b (s.W.length : Int) ++ [0], l2, m2, s.C ++ [a, b]⟩ := by
      rw [hst]
      unfold mstep
      rw [ea]
      simp only
      rw [eb]
    have haL : a < s.W.length := by omega
    have hbL : b < s.W.length := by omega
    have hsum : IntKind.i64.wrap (s.W.getD a 0 + s.W.getD b 0) = s.W.getD a 0 + s.W.getD b 0 := by
      have h4 := pos a (by omega)
      have h5 := pos b (by omega)
      have h6 := v'.le (W0.length + i) (by omega)
      have h7 := le a (by omega)
      have h8 := le b (by omega)
      exact wrap_i64 (by omega) (by omega)
    have hl1 : (s.P.set a (s.W.length : Int)).length = s.W.length := by simp; omega
    have hl2 : ((s.P.set a (s.W.length : Int)).set b (s.W.length : Int)).length = s.W.length := by simp; omega
    have hz0 := zw_len hWP
    refine bnd (x := ((2 * W0.length : Nat) : Int)) (by rw [wrap_i64 (by omega) (by omega)]; simp) (bnd (x := ((2 * W0.length - 1 : Nat) : Int)) (by rw [wrap_i64 (by omega) (by omega)]; congr 1; omega) (cnd_t (decide_eq_true (by rw [hz0]; omega)) (bnd c1 (bnd c2 ?_))))
    refine bnd (ixO_of (by simp only; rw [hz0]; exact haL)) (bnd (zw_get hWP haL) (bnd (x := zw s.W (s.P.set a (s.W.length : Int))) (by simp only; rw [hz0, zw_set hWP haL]) ?_))
    have hz1 := zw_len (W := s.W) (P := s.P.set a (s.W.length : Int)) hl1.symm
    refine bnd (ixO_of (by simp only; rw [hz0]; exact hbL)) (bnd (zw_get hl1.symm hbL) (bnd (x := zw s.W ((s.P.set a (s.W.length : Int)).set b (s.W.length : Int))) (by simp only; rw [hz0, zw_set hl1.symm hbL]) ?_))
    have hz2 := zw_len (W := s.W) (P := (s.P.set a (s.W.length : Int)).set b (s.W.length : Int)) hl2.symm
    refine bnd (ixO_of (by rw [hz2]; exact haL)) (bnd (zw_get hl2.symm haL) (bnd (ixO_of (by rw [hz2]; exact hbL)) (bnd (zw_get hl2.symm hbL) (bnd (x := s.W.getD a 0 + s.W.getD b 0) (by simp only; rw [hsum]) ?_))))
    refine bnd (app_of (by rw [hz2]; simp; omega) (by rw [hz2]; simp; omega)) ?_
    rw [hs', zw_app hl2.symm]
  · have v := inv_all hs hp (W0.length - 1) (by omega)
    have hz := zw_len (W := (mst W0 (W0.length - 1)).W) (P := (mst W0 (W0.length - 1)).P) (by rw [v.wl, v.pl])
    exact bnd (x := ((2 * W0.length : Nat) : Int)) (by rw [wrap_i64 (by omega) (by omega)]; simp) (bnd (x := ((2 * W0.length - 1 : Nat) : Int)) (by rw [wrap_i64 (by omega) (by omega)]; congr 1; omega) (cnd_f (decide_eq_false (by rw [hz, v.wl]; omega)) rfl))
end Go.Abs.Sh
