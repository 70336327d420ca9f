import Derived.Test.YtohhijlgepnbeaaTreF
namespace Go.Abs.Sh
set_option linter.unusedVariables false
set_option linter.unusedSimpArgs false
/-! what stands where -/
theorem place_at {z u D : List Int} (hd : ∀ a b, a < u.length → b < u.length → (u.getD a 0).toNat = (u.getD b 0).toNat → a = b) (hz : ∀ a, a < u.length → (u.getD a 0).toNat < z.length) : ∀ i, i ≤ u.length → ∀ k, k < i → (place z u D i).getD (u.getD k 0).toNat 0 = D.getD k 0
  | 0, _, k, h => by omega
  | i + 1, hi, k, h => by
    rw [place]
    by_cases e : k = i
    · subst e; exact getD_set_eq (by rw [place_len]; exact hz k (by omega))
    · rw [getD_set_ne (fun h2 => e (hd k i (by omega) (by omega) h2.symm))]
      exact place_at hd hz i (by omega) k (by omega)
theorem place_out {z u D : List Int} {x : Nat} : ∀ i, (∀ k, k < i → (u.getD k 0).toNat ≠ x) → (place z u D i).getD x 0 = z.getD x 0
  | 0, _ => rfl
  | i + 1, h => by
    rw [place, getD_set_ne (h i (by omega))]
    exact place_out i fun k hk => h k (by omega)
theorem srt_dist {w : List Int} {a b : Nat} (ha : a < (srt w).length) (hb : b < (srt w).length) (h : ((srt w).getD a 0).toNat = ((srt w).getD b 0).toNat) : a = b := by
  have h1 := srt_mem ha
  have h2 := srt_mem hb
  have hn : (srt w).Nodup := (srt_perm w).nodup_iff.2 ((posN_asc w w.length).imp fun h => by omega)
  have e : (srt w)[a] = (srt w)[b] := by rw [getD_at ha, getD_at hb]; omega
  have hp := List.pairwise_iff_getElem.1 hn
  rcases Nat.lt_trichotomy a b with h3 | h3 | h3
  · exact absurd e (hp a b ha hb h3)
  · exact h3
  · exact absurd e.symm (hp b a hb ha h3)
theorem dep_len (w : List Int) : (dep w).length = w.length := by
  unfold dep
  split
  · simp
  · split
    · simp
    · rw [place_len]; simp
theorem rep_getD (n k : Nat) : (List.replicate n (0 : Int)).getD k 0 = 0 := by
  simp only [List.getD_eq_getElem?_getD, List.getElem?_replicate]; split <;> rfl
theorem dep_srt {w : List Int} (h2 : 2 ≤ (pos w).length) {k : Nat} (hk : k < (pos w).length) : (dep w).getD ((srt w).getD k 0).toNat 0 = (coreD (wts w)).getD k 0 := by
  rw [dep, if_neg (by omega), if_neg (by omega)]
  refine place_at (fun a b ha hb h => srt_dist ha hb h) (fun a ha => ?_) _ (Nat.le_refl _) k (by rw [srt_len]; exact hk)
  have := srt_mem ha
  simp only [List.length_replicate]; omega
theorem dep_zero {w : List Int} {i : Nat} (h : ¬ 0 < w.getD i 0) : (dep w).getD i 0 = 0 := by
  unfold dep
  split
  · exact rep_getD _ _
  · split
    · rename_i h1
      have hm : (pos w).getD 0 0 ∈ pos w := by rw [← getD_at (by omega)]; exact List.getElem_mem _
      have := posN_lt w w.length _ hm
      rw [getD_set_ne (fun e => by rw [e] at this; omega)]
      exact rep_getD _ _
    · rw [place_out _ (fun k hk e => by have := srt_mem hk; rw [e] at this; omega)]
      exact rep_getD _ _
theorem dep_one {w : List Int} (h1 : (pos w).length = 1) {i : Nat} (hi : i < w.length) (h : 0 < w.getD i 0) : (dep w).getD i 0 = 1 := by
  have hm := posN_mem w w.length i hi h
  have he : (pos w).getD 0 0 = (i : Int) := by
    obtain ⟨x, hx⟩ := List.length_eq_one_iff.1 h1
    have hm : (i : Int) ∈ pos w := hm
    rw [hx] at hm ⊢
    simp at hm
    simp [hm]
  rw [dep, if_neg (by omega), if_pos h1, he, Int.toNat_natCast, getD_set_eq (by simp; omega)]
theorem srt_find {w : List Int} {i : Nat} (hi : i < w.length) (h : 0 < w.getD i 0) : ∃ k, k < (pos w).length ∧ (srt w).getD k 0 = (i : Int) := by
  have hm := (srt_perm w).mem_iff.2 (posN_mem w w.length i hi h)
  obtain ⟨k, hk, e⟩ := mem_getD hm
  exact ⟨k, by rw [← srt_len]; exact hk, e.symm⟩
/-! halved -/
def hv (w : List Int) : List Int := w.map fun x => (x + 1) / 2
def hvN (w : List Int) : Nat → List Int
  | 0 => w
  | j + 1 => hv (hvN w j)
theorem hv_len (w : List Int) : (hv w).length = w.length := by simp [hv]
theorem hv_at (w : List Int) (i : Nat) : (hv w).getD i 0 = if i < w.length then (w.getD i 0 + 1) / 2 else 0 := by
  by_cases h : i < w.length
  · simp [hv, List.getD_eq_getElem?_getD, h]
  · simp [hv, List.getD_eq_getElem?_getD, h]
theorem posN_congr {w v : List Int} : ∀ n, (∀ i, i < n → (0 < w.getD i 0 ↔ 0 < v.getD i 0)) → posN w n = posN v n
  | 0, _ => rfl
  | n + 1, h => by
    have ih := posN_congr n fun i hi => h i (by omega)
    have h1 := h n (by omega)
    rw [posN, posN, ih]
    by_cases h2 : 0 < w.getD n 0
    · rw [if_pos h2, if_pos (h1.1 h2)]
    · rw [if_neg h2, if_neg (fun e => h2 (h1.2 e))]
theorem hv_pos {w : List Int} (hw : okW w) : pos (hv w) = pos w := by
  unfold pos
  rw [hv_len]
  refine posN_congr _ fun i hi => ?_
  rw [hv_at, if_pos hi]
  have := hw.2 i hi
  omega
theorem hv_ok {w : List Int} (hw : okW w) : okW (hv w) := by
  refine ⟨by rw [hv_len]; exact hw.1, fun i hi => ?_⟩
  rw [hv_len] at hi
  rw [hv_at, if_pos hi]
  have := hw.2 i hi
  omega
theorem hvN_ok {w : List Int} (hw : okW w) : ∀ j, okW (hvN w j)
  | 0 => hw
  | j + 1 => hv_ok (hvN_ok hw j)
theorem hvN_len (w : List Int) : ∀ j, (hvN w j).length = w.length
  | 0 => rfl
  | j + 1 => by rw [hvN, hv_len]; exact hvN_len w j
theorem hvN_pos {w : List Int} (hw : okW w) : ∀ j, pos (hvN w j) = pos w
  | 0 => rfl
  | j + 1 => by rw [hvN, hv_pos (hvN_ok hw j)]; exact hvN_pos hw j
theorem hvN_le {w : List Int} (hw : okW w) : ∀ j, j ≤ 20 → ∀ i, i < w.length → (hvN w j).getD i 0 ≤ ((2 ^ (20 - j) : Nat) : Int)
  | 0, _, i, hi => by have := hw.2 i hi; simpa [hvN] using this.2
  | j + 1, hj, i, hi => by
    have ih := hvN_le hw j (by omega) i hi
    rw [hvN, hv_at, if_pos (by rw [hvN_len]; exact hi)]
    have e : 2 ^ (20 - j) = 2 * 2 ^ (20 - (j + 1)) := by rw [show 20 - j = (20 - (j + 1)) + 1 by omega, Nat.pow_succ]; omega
    rw [e] at ih
    omega
/-! all weights the same -/
theorem ones_mst {W0 : List Int} (hs : ∀ k, k < W0.length → W0.getD k 0 = 1) : ∀ i, i < W0.length ∨ i = 0 → (mst W0 i).lf = min (2 * i) W0.length ∧ (mst W0 i).mg = W0.length + (2 * i - W0.length) ∧ ∀ j, j < 2 * i → (mst W0 i).C.getD j 0 = j
  | 0, _ => ⟨by simp [mst], by simp [mst], fun j h => by omega⟩
  | i + 1, h => by
    have hs1 : ∀ p q, p ≤ q → q < W0.length → W0.getD p 0 ≤ W0.getD q 0 := fun p q h1 h2 => by rw [hs p (by omega), hs q h2]; omega
    have v := inv_all hs1 (fun k hk => by rw [hs k hk]; omega) i (by omega)
    obtain ⟨e1, e2, e3⟩ := ones_mst hs i (by omega)
    obtain ⟨s, hse⟩ : ∃ s, s = mst W0 i := ⟨_, rfl⟩
    rw [← hse] at v e1 e2 e3
    have key : ∀ lf mg, lf + mg = s.lf + s.mg ∨ lf + mg = s.lf + s.mg + 1 → lf = min (lf + mg - W0.length) W0.length → W0.length ≤ mg → (lst W0.length s.W lf mg).1 = lf + mg - W0.length ∧ (lst W0.length s.W lf mg).2.1 + (lst W0.length s.W lf mg).2.2 = lf + mg + 1 ∧ (lst W0.length s.W lf mg).2.1 = min (lf + mg + 1 - W0.length) W0.length ∧ W0.length ≤ (lst W0.length s.W lf mg).2.2 := by
      intro lf mg h1 h2 h3
      have h4 := v.cnt
      have h5 := v.wl
      unfold lst
      by_cases hc : lf < W0.length
      · have hcond : lf < W0.length ∧ (mg = s.W.length ∨ s.W.getD lf 0 ≤ s.W.getD mg 0) := by
          refine ⟨hc, ?_⟩
          rcases Nat.lt_or_ge mg s.W.length with h6 | h6
          · right
            rw [v.leaf lf hc, hs lf hc]
            exact v.pos mg (by omega)
          · left
            have := v.mg2
            omega
        rw [if_pos hcond]
        refine ⟨?_, ?_, ?_, ?_⟩ <;> (try simp only) <;> omega
      · rw [if_neg (fun e => hc e.1)]
        refine ⟨?_, ?_, ?_, ?_⟩ <;> (try simp only) <;> omega
    have k1 := key s.lf s.mg (.inl rfl) (by have := v.cnt; omega) v.mg1
    have k2 := key (lst W0.length s.W s.lf s.mg).2.1 (lst W0.length s.W s.lf s.mg).2.2 (.inr (by omega)) (by rw [k1.2.2.1]; omega) k1.2.2.2
    have hcn := v.cnt
    have hcl := v.cl
    have g2 := getN_two (C := s.C) (a := (lst W0.length s.W s.lf s.mg).1) (b := (lst W0.length s.W (lst W0.length s.W s.lf s.mg).2.1 (lst W0.length s.W s.lf s.mg).2.2).1) hcl
    rw [mst, ← hse]
    unfold mstep
    simp only
    refine ⟨by omega, by omega, fun j hj => ?_⟩
    by_cases h1 : j < 2 * i
    · rw [getN_app_l (by omega)]; exact e3 j h1
    · by_cases h2 : j = 2 * i
      · subst h2; rw [g2.1]; omega
      · obtain rfl : j = 2 * i + 1 := by omega
        rw [g2.2]; omega
theorem ones_P {W0 : List Int} (hs : ∀ k, k < W0.length → W0.getD k 0 = 1) (h2 : 2 ≤ W0.length) (k : Nat) (hk : k < 2 * W0.length - 2) : (mst W0 (W0.length - 1)).P.getD k 0 = ((W0.length + k / 2 : Nat) : Int) := by
  have hs1 : ∀ p q, p ≤ q → q < W0.length → W0.getD p 0 ≤ W0.getD q 0 := fun p q h1 h2 => by rw [hs p (by omega), hs q h2]; omega
  have v := inv_all hs1 (fun k hk => by rw [hs k hk]; omega) (W0.length - 1) (by omega)
  have e := (ones_mst hs (W0.length - 1) (by omega)).2.2 k (by omega)
  have := v.par k (by omega)
  rw [e] at this
  exact this
theorem ones_depth {W0 : List Int} (hs : ∀ k, k < W0.length → W0.getD k 0 = 1) (h2 : 2 ≤ W0.length) : ∀ t r : Nat, r + 1 < 2 ^ (t + 1) → r ≤ 2 * W0.length - 2 → (coreD W0).getD (2 * W0.length - 2 - r) 0 ≤ (t : Int) := by
  have hs1 : ∀ p q, p ≤ q → q < W0.length → W0.getD p 0 ≤ W0.getD q 0 := fun p q h1 h2 => by rw [hs p (by omega), hs q h2]; omega
  have v := inv_all hs1 (fun k hk => by rw [hs k hk]; omega) (W0.length - 1) (by omega)
  have hP := inv_okP h2 v
  have hroot : (coreD W0).getD (2 * W0.length - 2) 0 = 0 := by
    have := dst_root (mst W0 (W0.length - 1)).P (L := 2 * W0.length - 1) (by omega)
    rw [show 2 * W0.length - 1 - 1 = 2 * W0.length - 2 by omega] at this
    exact this
  intro t
  induction t with
  | zero =>
    intro r h1 h3
    obtain rfl : r = 0 := by omega
    rw [Nat.sub_zero, hroot]; exact Int.le_refl _
  | succ t ih =>
    intro r h1 h3
    by_cases h0 : r = 0
    · subst h0; rw [Nat.sub_zero, hroot]; omega
    have e := dst_eq hP (2 * W0.length - 2 - r) (by omega)
    rw [show 2 * W0.length - 1 - 1 = 2 * W0.length - 2 by omega] at e
    rw [ones_P hs h2 _ (by omega), Int.toNat_natCast] at e
    have hp : 2 ^ (t + 1 + 1) = 2 * 2 ^ (t + 1) := by rw [Nat.pow_succ]; omega
    have := ih ((r - 1) / 2) (by omega) (by omega)
    rw [show 2 * W0.length - 2 - (r - 1) / 2 = W0.length + (2 * W0.length - 2 - r) / 2 by omega] at this
    unfold coreD at *
    omega
end Go.Abs.Sh
