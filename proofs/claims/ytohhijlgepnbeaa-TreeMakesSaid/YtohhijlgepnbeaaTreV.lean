import Derived.Test.YtohhijlgepnbeaaTreU
namespace Go.Abs.Sh
set_option linter.unusedVariables false
set_option linter.unusedSimpArgs false
theorem C_ord {W0 : List Int} (hs : ∀ p q, p ≤ q → q < W0.length → W0.getD p 0 ≤ W0.getD q 0) (hp : ∀ k, k < W0.length → 1 ≤ W0.getD k 0) : ∀ i, i < W0.length ∨ i = 0 → ∀ j j', j < j' → j' < 2 * i →
    ((mst W0 i).C.getD j 0 < W0.length ∧ (mst W0 i).C.getD j' 0 < W0.length ∨ W0.length ≤ (mst W0 i).C.getD j 0 ∧ W0.length ≤ (mst W0 i).C.getD j' 0) → (mst W0 i).C.getD j 0 < (mst W0 i).C.getD j' 0
  | 0, _, j, j', _, h, _ => by omega
  | i + 1, h, j, j', hj, hj', hc => by
    have v := inv_all hs hp i (by omega)
    have ih := C_ord hs hp i (by omega) j j' hj
    have hCL := C_len W0 i
    have hst : mst W0 (i + 1) = mstep W0.length (mst W0 i) := rfl
    rw [hst] at hc ⊢
    generalize mst W0 i = s at *
    obtain ⟨wl, pl, lf, mg1, mg2, cnt, cl, par, clt, mem, nd, leaf, new, asc, low, mono, pos, tot, le⟩ := v
    have hsW : ∀ p q, p ≤ q → q < W0.length → s.W.getD p 0 ≤ s.W.getD q 0 := fun p q h1 h2 => by rw [leaf p (by omega), leaf q h2]; exact hs p q h1 h2
    have hmW : ∀ p q, s.mg ≤ p → p ≤ q → q < s.W.length → s.W.getD p 0 ≤ s.W.getD q 0 := fun p q h1 h2 h3 => mono p q (by omega) h2 (by omega)
    obtain ⟨a, l1, m1, ea⟩ : ∃ a l1 m1, lst W0.length s.W s.lf s.mg = (a, l1, m1) := ⟨_, _, _, rfl⟩
    have pa := lst_pick (n := W0.length) (W := s.W) lf (show s.mg ≤ s.W.length by omega) (by omega) hsW hmW
    rw [ea] at pa
    have wa := pa.way
    simp only at wa
    obtain ⟨b, l2, m2, eb⟩ : ∃ b l2 m2, lst W0.length s.W l1 m1 = (b, l2, m2) := ⟨_, _, _, rfl⟩
    have pb := lst_pick (n := W0.length) (W := s.W) (lf := l1) (mg := m1) (by omega) (by omega) (by omega) hsW (fun p q h1 h2 h3 => hmW p q (by omega) h2 h3)
    rw [eb] at pb
    have wb := pb.way
    simp only at wb
    have hC : (mstep W0.length s).C = s.C ++ [a, b] := by
      unfold mstep
      rw [ea]
      simp only
      rw [eb]
    rw [hC] at hc ⊢
    have gC : ∀ j, j < 2 * i → (s.C ++ [a, b]).getD j 0 = s.C.getD j 0 := fun j hj => getN_app_l (by omega)
    have gC2 := getN_two (C := s.C) (a := a) (b := b) cl
    have hin : ∀ j, j < 2 * i → s.C.getD j 0 < s.lf ∨ (W0.length ≤ s.C.getD j 0 ∧ s.C.getD j 0 < s.mg) := fun j hj => (mem _).1 (mem_C (by omega))
    by_cases h1 : j' < 2 * i
    · rw [gC j (by omega), gC j' h1] at hc ⊢
      exact ih h1 hc
    · by_cases h2 : j' = 2 * i
      · subst h2
        rw [gC2.1, gC j hj] at hc ⊢
        have := hin j hj
        omega
      · obtain rfl : j' = 2 * i + 1 := by omega
        rw [gC2.2] at hc ⊢
        by_cases h3 : j < 2 * i
        · rw [gC j h3] at hc ⊢
          have := hin j h3
          omega
        · obtain rfl : j = 2 * i := by omega
          rw [gC2.1] at hc ⊢
          omega
section
variable {W0 : List Int} (hs : ∀ p q, p ≤ q → q < W0.length → W0.getD p 0 ≤ W0.getD q 0) (hp : ∀ k, k < W0.length → 1 ≤ W0.getD k 0) (h2 : 2 ≤ W0.length)
include hs hp h2
theorem merged_mono : ∀ d u u', W0.length ≤ u → u ≤ u' → u' ≤ 2 * W0.length - 2 → 2 * W0.length - 2 - u ≤ d → (coreD W0).getD u' 0 ≤ (coreD W0).getD u 0 := by
  have v := inv_all hs hp (W0.length - 1) (by omega)
  have ho := C_ord hs hp (W0.length - 1) (by omega)
  intro d
  induction d with
  | zero =>
    intro u u' h1 h3 h4 h5
    obtain rfl : u = u' := by omega
    exact Int.le_refl _
  | succ d ih =>
    intro u u' h1 h3 h4 h5
    by_cases hr : u' = 2 * W0.length - 2
    · rw [hr, core_root h2 v]
      exact (dst_bound _ _ _ _).1
    by_cases hu : u = u'
    · subst hu; exact Int.le_refl _
    obtain ⟨j, hj, e, ep⟩ := taken h2 v (k := u) (by omega)
    obtain ⟨j', hj', e', ep'⟩ := taken h2 v (k := u') (by omega)
    have hjj : j < j' := by
      rcases Nat.lt_trichotomy j j' with h | h | h
      · exact h
      · subst h; omega
      · have := ho j' j h (by omega) (.inr (by omega))
        omega
    have c1 := core_eq h2 v u (by omega)
    have c2 := core_eq h2 v u' (by omega)
    rw [ep] at c1
    rw [ep'] at c2
    have hc := v.clt j (by omega)
    rw [e] at hc
    have := ih (W0.length + j / 2) (W0.length + j' / 2) (by omega) (by omega) (by omega) (by omega)
    omega
theorem leaf_mono {p q : Nat} (hq : q < W0.length) (hpq : p < q) : (coreD W0).getD q 0 ≤ (coreD W0).getD p 0 := by
  have v := inv_all hs hp (W0.length - 1) (by omega)
  have ho := C_ord hs hp (W0.length - 1) (by omega)
  obtain ⟨j, hj, e, ep⟩ := taken h2 v (k := p) (by omega)
  obtain ⟨j', hj', e', ep'⟩ := taken h2 v (k := q) (by omega)
  have hjj : j < j' := by
    rcases Nat.lt_trichotomy j j' with h | h | h
    · exact h
    · subst h; omega
    · have := ho j' j h (by omega) (.inl (by omega))
      omega
  have c1 := core_eq h2 v p (by omega)
  have c2 := core_eq h2 v q (by omega)
  rw [ep] at c1
  rw [ep'] at c2
  have := merged_mono hs hp h2 (2 * W0.length) (W0.length + j / 2) (W0.length + j' / 2) (by omega) (by omega) (by omega) (by omega)
  omega
end
theorem dep_mono {w : List Int} {i k : Nat} (hi : i < w.length) (hk : k < w.length) (h : w.getD k 0 < w.getD i 0) (h0 : 0 < w.getD k 0) : (dep w).getD i 0 ≤ (dep w).getD k 0 := by
  obtain ⟨q, hq, eq⟩ := srt_find hi (by omega)
  obtain ⟨p, hp, ep⟩ := srt_find hk h0
  have hsl := srt_len w
  have hwl := wts_len w
  have wq := wts_at (w := w) (i := q) (by omega)
  have wp := wts_at (w := w) (i := p) (by omega)
  rw [eq, Int.toNat_natCast] at wq
  rw [ep, Int.toNat_natCast] at wp
  have hpq : p < q := by
    rcases Nat.lt_or_ge p q with h1 | h1
    · exact h1
    · have := wts_asc (w := w) q p h1 (by omega)
      omega
  have h2 : 2 ≤ (pos w).length := by omega
  have d1 := dep_srt h2 hq
  have d2 := dep_srt h2 hp
  rw [eq, Int.toNat_natCast] at d1
  rw [ep, Int.toNat_natCast] at d2
  rw [d1, d2]
  exact leaf_mono wts_asc (fun k hk => wts_pos hk) (by omega) (by omega) hpq
theorem dep_pos {w : List Int} {i : Nat} (hi : i < w.length) (h : 0 < w.getD i 0) : 0 < (dep w).getD i 0 := by
  by_cases h2 : 2 ≤ (pos w).length
  · obtain ⟨k, hk, e⟩ := srt_find hi h
    have d := dep_srt h2 hk
    rw [e, Int.toNat_natCast] at d
    have := core_pos h2 hk
    omega
  · have hc : (pos w).length = 1 := by
      have : 0 < (pos w).length := List.length_pos_of_mem (posN_mem w w.length i hi h)
      omega
    rw [dep_one hc hi h]; omega
theorem hvN_iff {w : List Int} (hw : okW w) : ∀ j i, i < w.length → (0 < (hvN w j).getD i 0 ↔ 0 < w.getD i 0)
  | 0, i, _ => Iff.rfl
  | j + 1, i, hi => by
    rw [← hvN_iff hw j i hi, hvN, hv_at, if_pos (by rw [hvN_len]; exact hi)]
    have := (hvN_ok hw j).2 i (by rw [hvN_len]; exact hi)
    omega
theorem sum_take_ok {w : List Int} (hw : okW w) : ∀ n, n ≤ w.length → 0 ≤ (w.take n).sum ∧ (w.take n).sum ≤ 1048576 * (n : Int)
  | 0, _ => by simp
  | n + 1, h => by
    have ih := sum_take_ok hw n (by omega)
    have := hw.2 n (by omega)
    rw [take_succ_app (by omega), List.sum_append]
    simp only [List.sum_cons, List.sum_nil]
    omega
theorem treeMakes_true (w : List Int) (limit i k : Int) : wherrylaw03_TreeMakes w limit i k = some true := by
  unfold wherrylaw03_TreeMakes
  by_cases h1 : 300 < w.length
  · exact bndL (s := true) (cnd_t (by simp; omega) rfl) (cnd_t rfl rfl)
  by_cases h0 : w.length = 0
  · exact bndL (s := true) (cnd_f (by simp; omega) (by rw [h0]; rfl)) (cnd_t rfl rfl)
  refine bndL (s := false) (cnd_f (by simp; omega) (by simp; intro e; apply h0; rw [e]; rfl)) (cnd_f rfl ?_)
  by_cases hok : okW w ∧ okL w limit
  case neg => exact bnd (lengths_bad hok) (cnd_t rfl (bndL (s := true) (cnd_t rfl (cnd_t rfl (bnd wakes03 rfl))) rfl))
  obtain ⟨hw, hL⟩ := hok
  obtain ⟨J, hJ, hno, hyes, hl⟩ := lengths_eq hw hL
  have hlim : limit ≤ 15 := hL.2
  have hwJ := hvN_ok hw J
  have hchk := dep_check hwJ hyes hlim
  have hdl : (dep (hvN w J)).length = w.length := by rw [dep_len, hvN_len]
  have hdp : ∀ j, j < w.length → (0 < (dep (hvN w J)).getD j 0 ↔ 0 < w.getD j 0) := by
    intro j hj
    rw [← hvN_iff hw J j hj]
    constructor
    · intro h
      by_cases hz : 0 < (hvN w J).getD j 0
      · exact hz
      · rw [dep_zero hz] at h; omega
    · exact fun h => dep_pos (by rw [hvN_len]; exact hj) h
  have hdf : ∀ j, j < w.length → (dep (hvN w J)).getD j 0 ≤ limit := fun j hj => hyes j (by rw [hvN_len]; exact hj)
  have hJ0 : w.sum < 2500 → ∀ x, x = dep (hvN w J) → wherryref01_Lengths w 15 = some (x, 0) → dep (hvN w J) = dep w := by
    intro hs x hx hr
    have hf := light_fits hw (by omega)
    have := refLengths_at hw (okL_15 w) (J := 0) (Nat.zero_le _) (fun j h => by omega) hf
    rw [this] at hr
    have he : dep (hvN w 0) = x := by
      have := Option.some.inj hr
      exact (Prod.mk.inj this).1
    rw [← hx, ← he]
    rfl
  generalize dep (hvN w J) = D at *
  refine bnd hl (cnd_f rfl ?_)
  refine bndL (s := false) (cnd_f (by simp [hdl]) (bnd hchk rfl)) (cnd_f rfl ?_)
  refine bndL (s := ()) ?_ ?_
  · refine loop_from (fun j => (j : Int)) w.length BIG rfl (by unfold BIG; omega) (fun j hj => ?_) (cnd_f (by simp [hdl]) rfl)
    have hD : j < D.length := by omega
    have hb : ((decide (0 < D.getD j 0)) == (decide (0 < w.getD j 0))) = true := by
      have := hdp j hj
      by_cases h : 0 < w.getD j 0
      · rw [decide_eq_true h, decide_eq_true (this.2 h)]; rfl
      · rw [decide_eq_false h, decide_eq_false (fun e => h (this.1 e))]; rfl
    exact cnd_t (decide_eq_true (by show (j : Int) < (D.length : Int); omega)) (bndL (s := false) (bnd (ixO_of hD) (bnd (getO_D hD) (bnd (ixO_of hj) (bnd (getO_D hj) (bnd rfl (cnd_f (by rw [hb]; rfl) (bnd (ixO_of hD) (bnd (getO_D hD) (by rw [decide_eq_false (show ¬ limit < D.getD j 0 by have := hdf j hj; omega)]))))))))) (cnd_f rfl (bnd (x := ((j + 1 : Nat) : Int)) (by rw [wrap_succ (by omega)]) rfl)))
  have hst := sum_take_ok hw
  refine bndL (s := w.sum) ?_ ?_
  · refine loop_from (fun j => ((w.take j).sum, (j : Int))) w.length BIG rfl (by unfold BIG; omega) (fun j hj => ?_) (cnd_f (by simp) (by rw [List.take_length]))
    have hs1 := hst j (by omega)
    have hs2 := hst (j + 1) (by omega)
    have hsucc : (w.take (j + 1)).sum = (w.take j).sum + w.getD j 0 := by
      rw [take_succ_app hj, List.sum_append]; simp
    exact cnd_t (by simp; omega) (bnd (ixO_of hj) (bnd (getO_D hj) (bnd (x := (w.take (j + 1)).sum) (by rw [hsucc, wrap_i64 (by omega) (by omega)]) (bnd (x := (w.take (j + 1)).sum) (by rw [if_neg (by omega)]) (bnd (x := ((j + 1 : Nat) : Int)) (by rw [wrap_succ (by omega)]) rfl)))))
  obtain ⟨⟨x, e⟩, _, hr, hx⟩ := lengths_same w 15
  simp only at hx
  refine bnd hr ?_
  by_cases hsum : 2500 ≤ w.sum
  · exact bndL (s := true) (cnd_t (decide_eq_true hsum) rfl) (cnd_t rfl (bnd wakes03 rfl))
  by_cases he : e = 0
  case neg => exact bndL (s := true) (cnd_f (decide_eq_false hsum) (cnd_t (by simpa using he) rfl)) (cnd_t rfl (bnd wakes03 rfl))
  subst he
  by_cases hxe : x = D
  case neg => exact bndL (s := true) (cnd_f (decide_eq_false hsum) (cnd_f rfl (bnd (keepInts03 x D (by omega)) (by simp [hxe])))) (cnd_t rfl (bnd wakes03 rfl))
  have hDw := hJ0 (by omega) x hxe hr
  subst hxe
  obtain ⟨a, ha, hra⟩ := remu_eq i w.length (by omega) (by omega)
  obtain ⟨b, hb, hrb⟩ := remu_eq k w.length (by omega) (by omega)
  refine bndL (s := false) (cnd_f (decide_eq_false hsum) (cnd_f rfl (bnd (keepInts03 x x (by omega)) (by simp)))) (cnd_f rfl ?_)
  refine bnd rfl (bnd (x := (w.length : Int)) (by rw [wrapu_nat _ (by omega)]) (bnd hra (bnd (x := (a : Int)) (by rw [wrap_nat _ (by omega)]) (bnd rfl (bnd (x := (w.length : Int)) (by rw [wrapu_nat _ (by omega)]) (bnd hrb (bnd (x := (b : Int)) (by rw [wrap_nat _ (by omega)]) ?_)))))))
  refine bndL (s := true) (bnd (ixO_of ha) (bnd (getO_D ha) (bnd (ixO_of hb) (bnd (getO_D hb) ?_)))) rfl
  by_cases hab : w.getD a 0 ≤ w.getD b 0
  · exact cnd_t (decide_eq_true hab) (bnd wakes03 rfl)
  refine cnd_f (decide_eq_false hab) (bnd (ixO_of hb) (bnd (getO_D hb) ?_))
  by_cases hb0 : w.getD b 0 = 0
  · exact cnd_t (by simpa using hb0) (bnd wakes03 rfl)
  refine cnd_f (by simpa using hb0) (bnd (ixO_of (by show a < x.length; omega)) (bnd (getO_D (by show a < x.length; omega)) (bnd (ixO_of (by show b < x.length; omega)) (bnd (getO_D (by show b < x.length; omega)) (cnd_t (decide_eq_true ?_) (bnd wakes03 rfl))))))
  rw [hDw]
  exact dep_mono ha hb (by omega) (by have := hw.2 b hb; omega)
end Go.Abs.Sh
