import Derived.Test.YtohhijlgepnbeaaTreS
namespace Go.Abs.Sh
set_option linter.unusedVariables false
set_option linter.unusedSimpArgs false
theorem rank_at {u : List Int} {x : Int} (h : x ∈ u) : u.idxOf x < u.length ∧ u.getD (u.idxOf x) 0 = x := by
  have h1 := List.idxOf_lt_length_of_mem h
  refine ⟨h1, ?_⟩
  rw [← getD_at h1]
  exact List.getElem_idxOf h1
theorem pi_start {w : List Int} : PI w 0 ((pos w).map fun x => (srt w).idxOf x) (fun k => [(srt w).getD k 0]) (List.replicate w.length 0) := by
  have hwl := wts_len w
  have hsl := srt_len w
  have hm : ∀ x, x ∈ pos w → x ∈ srt w := fun x hx => (srt_perm w).mem_iff.2 hx
  have hr : ∀ x, x ∈ pos w → (srt w).idxOf x < (wts w).length ∧ (srt w).getD ((srt w).idxOf x) 0 = x := fun x hx => by
    have := rank_at (hm x hx)
    rw [hwl, ← hsl]; exact this
  refine ⟨?_, ?_, ?_, ?_, by simp, ?_, ?_⟩
  · rw [List.Nodup, List.pairwise_map]
    refine (posN_asc w w.length).imp_of_mem ?_
    intro x y hx hy hlt e
    have h1 := (hr x hx).2
    have h2 := (hr y hy).2
    rw [e, h2] at h1
    omega
  · intro k
    simp only [mst, List.mem_map]
    constructor
    · rintro ⟨x, hx, rfl⟩
      have := (hr x hx).1
      omega
    · intro h
      have hk : k < (srt w).length := by omega
      have hx : (srt w).getD k 0 ∈ srt w := by rw [← getD_at hk]; exact List.getElem_mem _
      refine ⟨(srt w).getD k 0, (srt_perm w).mem_iff.1 hx, ?_⟩
      have := rank_at hx
      exact srt_dist this.1 hk (by rw [this.2])
  · rw [List.pairwise_map]
    refine (posN_asc w w.length).imp_of_mem ?_
    intro x y hx hy hlt
    have h1 := hr x hx
    have h2 := hr y hy
    exact .inl ⟨h1.1, h2.1, by rw [h1.2, h2.2]; exact hlt⟩
  · rw [List.flatMap_map]
    have : ∀ l : List Int, (∀ x, x ∈ l → (srt w).getD ((srt w).idxOf x) 0 = x) → l.flatMap (fun x => [(srt w).getD ((srt w).idxOf x) 0]) = l := by
      intro l
      induction l with
      | nil => intro _; rfl
      | cons x l ih =>
        intro h
        rw [List.flatMap_cons, ih fun y hy => h y (by simp [hy]), h x (by simp)]
        rfl
    rw [this (pos w) fun x hx => (hr x hx).2]
  · intro κ hκ x hx
    obtain ⟨y, hy, rfl⟩ := List.mem_map.1 hκ
    have h1 := hr y hy
    simp only [List.mem_cons, List.not_mem_nil, or_false] at hx
    refine ⟨(srt w).idxOf y, h1.1, hx.symm, ?_⟩
    rw [rep_getD]
    omega
  · intro i hi _
    exact rep_getD _ _
theorem ref_lengths_eq {w : List Int} (hw : okW w) : wherryref01_lengths w = some (dep w) := by
  have hw1 := hw.1
  have hpl := pos_len w
  unfold wherryref01_lengths
  refine bnd (x := List.replicate w.length (0 : Int)) (by unfold mkO; rw [if_pos (by omega)]; simp) ?_
  have hnodes : ∀ i, i ≤ w.length → ((posN w i).map fun x => (⟨w.getD x.toNat 0, [x]⟩ : T_wherryref01_node)).length ≤ 300 := fun i hi => by
    have := posN_len w i
    rw [List.length_map]; omega
  refine bndL (s := (pos w).map fun x => (⟨w.getD x.toNat 0, [x]⟩ : T_wherryref01_node)) ?_ ?_
  · refine loop_from (fun i => ((posN w i).map fun x => (⟨w.getD x.toNat 0, [x]⟩ : T_wherryref01_node), (i : Int))) w.length BIG rfl (by unfold BIG; omega) (fun i hi => ?_) (cnd_f (by simp) rfl)
    have hn := hnodes i (by omega)
    refine cnd_t (by simp; omega) ?_
    by_cases hp : 0 < w.getD i 0
    · refine bndL (s := (posN w (i + 1)).map fun x => (⟨w.getD x.toNat 0, [x]⟩ : T_wherryref01_node)) (bnd (ixO_of hi) (bnd (getO_D hi) (cnd_t (decide_eq_true hp) (bnd (ixO_of hi) (bnd (getO_D hi) (bnd (app_of (by simp only [List.length_cons, List.length_nil]; omega) (by simp only [List.length_cons, List.length_nil]; omega)) ?_)))))) (bnd (x := ((i + 1 : Nat) : Int)) (by rw [wrap_succ (by omega)]) rfl)
      rw [posN, if_pos hp, List.map_append]
      simp
    · exact bndL (s := (posN w (i + 1)).map fun x => (⟨w.getD x.toNat 0, [x]⟩ : T_wherryref01_node)) (bnd (ixO_of hi) (bnd (getO_D hi) (cnd_f (decide_eq_false hp) (by rw [posN, if_neg hp])))) (bnd (x := ((i + 1 : Nat) : Int)) (by rw [wrap_succ (by omega)]) rfl)
  by_cases h1 : (pos w).length = 1
  · -- one node alone
    obtain ⟨x, hx⟩ := List.length_eq_one_iff.1 h1
    have hxm := posN_lt w w.length x (by show x ∈ pos w; rw [hx]; simp)
    rw [hx]
    refine bndL (s := (List.replicate w.length (0 : Int)).set x.toNat 1) (cnd_t (by simp) (bnd (x := 0) (by unfold ixO; simp) (bnd rfl (bnd (x := 0) (by unfold ixO; simp) (bnd rfl (bnd (x := x.toNat) (by unfold ixO; rw [if_pos (by simp only [List.length_replicate]; omega)]) (bnd rfl rfl))))))) ?_
    refine bndL (s := (List.replicate w.length (0 : Int)).set x.toNat 1) (loop_exit (cnd_f (by simp) rfl)) ?_
    rw [dep, if_neg (by omega), if_pos h1, hx]
    rfl
  refine bndL (s := List.replicate w.length (0 : Int)) (cnd_f (by simp; omega) rfl) ?_
  by_cases h0 : (pos w).length = 0
  · have : pos w = [] := List.eq_nil_of_length_eq_zero h0
    rw [this]
    refine bndL (s := List.replicate w.length (0 : Int)) (loop_exit (cnd_f (by simp) rfl)) ?_
    rw [dep, if_pos h0]
  have h2 : 2 ≤ (pos w).length := by omega
  have hwl := wts_len w
  have vf := inv_wts h2
  refine bndL (s := dep w) ?_ rfl
  refine loop_inv (fun i s => ∃ r wh, s.2 = r.map (nodeOf (mst (wts w) i).W wh) ∧ PI w i r wh s.1) ((wts w).length - 1) BIG 0 _ (Nat.zero_le _) (by unfold BIG; omega) ⟨_, _, ?_, pi_start⟩ ?_ ?_
  · rw [List.map_map]
    apply List.map_congr_left
    intro x hx
    have := rank_at ((srt_perm w).mem_iff.2 hx)
    simp only [Function.comp, nodeOf, mst]
    rw [wts_at this.1, this.2]
  · rintro i ⟨L, nodes⟩ hi ⟨r, wh, hn, hp⟩
    simp only at hn hp
    subst hn
    obtain ⟨a, b, ra, rb, wh', hr1, hra, hrb, era, erb, l1, l2, hwr, hmap, hin, hinj, hbd, hvl, hrl, hp'⟩ := pi_step hw h2 (by omega) hp
    have hll := hp.ll
    refine ⟨(incr L (wh a ++ wh b) (wh a ++ wh b).length, (((r.filter (· != a)).filter (· != b)) ++ [(wts w).length + i]).map (nodeOf (mst (wts w) (i + 1)).W wh')), ?_, _, _, rfl, hp'⟩
    have ga : getO (r.map (nodeOf (mst (wts w) i).W wh)) ra = some (nodeOf (mst (wts w) i).W wh a) := by rw [getO_of (by simpa using hra), List.getElem_map, nget hra, era]
    have gb : getO (r.map (nodeOf (mst (wts w) i).W wh)) rb = some (nodeOf (mst (wts w) i).W wh b) := by rw [getO_of (by simpa using hrb), List.getElem_map, nget hrb, erb]
    have ia : ixO (ra : Int) (r.map (nodeOf (mst (wts w) i).W wh)).length = some ra := ixO_of (by simpa using hra)
    have ib : ixO (rb : Int) (r.map (nodeOf (mst (wts w) i).W wh)).length = some rb := ixO_of (by simpa using hrb)
    have hvl2 : (wh a).length + (wh b).length ≤ 300 := by rw [← List.length_append]; exact hvl
    refine cnd_t (by simp; omega) (bnd l1 (bnd l2 (bnd ia (bnd ga (bnd ib (bnd gb (bnd (x := (mst (wts w) i).W.getD a 0 + (mst (wts w) i).W.getD b 0) (by simp only [nodeOf]; rw [hwr]) ?_)))))))
    refine bnd ia (bnd ga (bnd (x := wh a) (by rw [app_of (by simp only [nodeOf, List.length_nil]; omega) (by simp only [nodeOf, List.length_nil]; omega)]; rfl) (bnd ib (bnd gb (bnd (x := wh a ++ wh b) (by rw [app_of (by simp only [nodeOf]; omega) (by simp only [nodeOf]; omega)]; rfl) ?_)))))
    refine bndL (s := incr L (wh a ++ wh b) (wh a ++ wh b).length) (loop_inc (by omega) (by omega) hin hinj hbd) ?_
    refine bndL (s := ((r.filter (· != a)).filter (· != b)).map (nodeOf (mst (wts w) i).W wh)) (loop_del (by omega) hp.nd hra era hrb erb) ?_
    have hfl : (((r.filter (· != a)).filter (· != b)).map (nodeOf (mst (wts w) i).W wh)).length ≤ 300 := by
      rw [List.length_map]
      have h1 := List.length_filter_le (· != b) (r.filter (· != a))
      have h2 := List.length_filter_le (· != a) r
      omega
    refine bnd (app_of (by simp only [List.length_cons, List.length_nil]; omega) (by simp only [List.length_cons, List.length_nil]; omega)) ?_
    rw [hmap]
  · rintro ⟨L, nodes⟩ ⟨r, wh, hn, hp⟩
    simp only at hn hp
    subst hn
    have hmem : ∀ k, k ∈ r ↔ k = 2 * (wts w).length - 2 := by
      intro k
      rw [hp.mem k]
      have := vf.cnt; have := vf.mg2; have := vf.lf
      omega
    have hlen : ¬ 1 < r.length := by
      intro h
      have e0 := (hmem (r.getD 0 0)).1 (by rw [← nget (show 0 < r.length by omega)]; exact List.getElem_mem _)
      have e1 := (hmem (r.getD 1 0)).1 (by rw [← nget h]; exact List.getElem_mem _)
      have := inj_of hp.nd (show 0 < r.length by omega) h (by omega)
      omega
    refine cnd_f (by simp; omega) ?_
    have hL : L = dep w := by
      apply List.ext_getElem
      · rw [hp.ll, dep_len]
      · intro i q1 q2
        rw [getD_at q1, getD_at q2]
        rw [dep_len] at q2
        by_cases hpz : 0 < w.getD i 0
        · have hx := hp.per.mem_iff.2 (posN_mem w w.length i q2 hpz)
          obtain ⟨κ, hκ, hxi⟩ := List.mem_flatMap.1 hx
          obtain ⟨k, hk, e1, e2⟩ := hp.val κ hκ _ hxi
          have hkr := (hmem κ).1 hκ
          rw [hkr, core_root (by omega) vf, Int.toNat_natCast] at e2
          have := dep_srt h2 (k := k) (by omega)
          rw [e1, Int.toNat_natCast] at this
          omega
        · rw [dep_zero hpz, hp.zero i q2 hpz]
    rw [hL]
end Go.Abs.Sh
