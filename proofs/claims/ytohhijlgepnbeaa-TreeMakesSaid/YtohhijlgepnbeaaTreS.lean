import Derived.Test.YtohhijlgepnbeaaTreR
namespace Go.Abs.Sh
set_option linter.unusedVariables false
set_option linter.unusedSimpArgs false
theorem idx_of {r : List Nat} {a : Nat} (h : a ∈ r) : ∃ j, j < r.length ∧ r.getD j 0 = a := by
  obtain ⟨j, hj, e⟩ := List.getElem_of_mem h
  exact ⟨j, hj, by rw [← nget hj]; exact e⟩
theorem inj_of {r : List Nat} (hnd : r.Nodup) {x y : Nat} (hx : x < r.length) (hy : y < r.length) (e : r.getD x 0 = r.getD y 0) : x = y := by
  rw [← nget hx, ← nget hy] at e
  have hpw := List.pairwise_iff_getElem.1 hnd
  rcases Nat.lt_trichotomy x y with h3 | h3 | h3
  · exact absurd e (hpw x y hx hy h3)
  · exact h3
  · exact absurd e.symm (hpw y x hy hx h3)
theorem pi_step {w : List Int} (hw : okW w) (h2 : 2 ≤ (pos w).length) {i : Nat} (hi : i + 1 < (wts w).length) {r : List Nat} {wh : Nat → List Int} {L : List Int} (p : PI w i r wh L) :
    ∃ (a b ra rb : Nat) (wh' : Nat → List Int), 1 < r.length ∧ ra < r.length ∧ rb < r.length ∧ r.getD ra 0 = a ∧ r.getD rb 0 = b ∧
      wherryref01_least (r.map (nodeOf (mst (wts w) i).W wh)) (-1) = some (ra : Int) ∧ wherryref01_least (r.map (nodeOf (mst (wts w) i).W wh)) (ra : Int) = some (rb : Int) ∧
      IntKind.i64.wrap ((mst (wts w) i).W.getD a 0 + (mst (wts w) i).W.getD b 0) = (mst (wts w) i).W.getD a 0 + (mst (wts w) i).W.getD b 0 ∧
      ((r.filter (· != a)).filter (· != b)).map (nodeOf (mst (wts w) i).W wh) ++ [⟨(mst (wts w) i).W.getD a 0 + (mst (wts w) i).W.getD b 0, wh a ++ wh b⟩] = (((r.filter (· != a)).filter (· != b)) ++ [(wts w).length + i]).map (nodeOf (mst (wts w) (i + 1)).W wh') ∧
      (∀ x, x ∈ wh a ++ wh b → 0 ≤ x ∧ x < (L.length : Int)) ∧ (∀ x y, x < (wh a ++ wh b).length → y < (wh a ++ wh b).length → ((wh a ++ wh b).getD x 0).toNat = ((wh a ++ wh b).getD y 0).toNat → x = y) ∧ (∀ x, x ∈ wh a ++ wh b → -1000000 ≤ L.getD x.toNat 0 ∧ L.getD x.toNat 0 ≤ 1000000) ∧ (wh a ++ wh b).length ≤ 300 ∧ r.length ≤ 300 ∧
      PI w (i + 1) (((r.filter (· != a)).filter (· != b)) ++ [(wts w).length + i]) wh' (incr L (wh a ++ wh b) (wh a ++ wh b).length) := by
  have hwl := wts_len w
  have hpl := pos_len w
  have hw1 := hw.1
  have vf := inv_wts h2
  have vi := inv_all (W0 := wts w) wts_asc (fun k hk => wts_pos hk) i (by omega)
  have vi' := inv_all (W0 := wts w) wts_asc (fun k hk => wts_pos hk) (i + 1) (by omega)
  have hst : mst (wts w) (i + 1) = mstep (wts w).length (mst (wts w) i) := rfl
  have hstab := fun j hj => C_stab (wts w) (i + 1) j hj ((wts w).length - 1 - (i + 1))
  rw [show i + 1 + ((wts w).length - 1 - (i + 1)) = (wts w).length - 1 by omega] at hstab
  obtain ⟨nd, mem, ord, per, ll, val, zero⟩ := p
  have hsum := wts_sum hw
  have hD := fun k => dst_bound (mst (wts w) ((wts w).length - 1)).P (2 * (wts w).length - 1) (2 * (wts w).length - 2) k
  have hDe : ∀ k, (coreD (wts w)).getD k 0 = (dst (mst (wts w) ((wts w).length - 1)).P (2 * (wts w).length - 1) (2 * (wts w).length - 2)).getD k 0 := fun _ => rfl
  have hcoreP := core_eq (W0 := wts w) (by omega) vf
  have hparf := vf.par
  have hsW : ∀ p q, p ≤ q → q < (wts w).length → (mst (wts w) i).W.getD p 0 ≤ (mst (wts w) i).W.getD q 0 := fun p q h1 h2 => by rw [vi.leaf p (by omega), vi.leaf q h2]; exact wts_asc p q h1 h2
  have hmW : ∀ p q, (mst (wts w) i).mg ≤ p → p ≤ q → q < (mst (wts w) i).W.length → (mst (wts w) i).W.getD p 0 ≤ (mst (wts w) i).W.getD q 0 := fun p q h1 h2 h3 => vi.mono p q (by have := vi.mg1; omega) h2 (by have := vi.wl; omega)
  have hwL := vi.wl
  have hlf := vi.lf
  have hm1 := vi.mg1
  have hm2 := vi.mg2
  have hcn := vi.cnt
  have hle := vi.le
  have hle' := vi'.le
  have hpo := vi.pos
  have hleaf := vi.leaf
  have hnew' := vi'.new i (by omega)
  have hCL := C_len (wts w) i
  rw [hst] at hle' hnew'
  generalize hse : mst (wts w) i = s at *
  obtain ⟨a, l1, m1, ea⟩ : ∃ a l1 m1, lst (wts w).length s.W s.lf s.mg = (a, l1, m1) := ⟨_, _, _, rfl⟩
  have pa := lst_pick (n := (wts w).length) (W := s.W) hlf (show s.mg ≤ s.W.length by omega) (by omega) hsW hmW
  have ea1 : (lst (wts w).length s.W s.lf s.mg).1 = a := by rw [ea]
  have pa' := pa
  rw [ea] at pa'
  have wa := pa'.way
  simp only at wa
  obtain ⟨b, l2, m2, eb⟩ : ∃ b l2 m2, lst (wts w).length s.W l1 m1 = (b, l2, m2) := ⟨_, _, _, rfl⟩
  have pb := lst_pick (n := (wts w).length) (W := s.W) (lf := l1) (mg := m1) (by omega) (by omega) (by omega) hsW (fun p q h1 h2 h3 => hmW p q (by omega) h2 h3)
  have eb1 : (lst (wts w).length s.W l1 m1).1 = b := by rw [eb]
  have pb' := pb
  rw [eb] at pb'
  have wb := pb'.way
  simp only at wb
  have hs' : mst (wts w) (i + 1) = ⟨s.W ++ [s.W.getD a 0 + s.W.getD b 0], (s.P.set a (s.W.length : Int)).set b (s.W.length : Int) ++ [0], l2, m2, s.C ++ [a, b]⟩ := by
    rw [hst]
    unfold mstep
    rw [ea]
    simp only
    rw [eb]
  have haL : a < s.W.length := by omega
  have hbL : b < s.W.length := by omega
  have hab : a ≠ b := by omega
  have hamem : a ∈ r := (mem a).2 (by omega)
  have hbmem : b ∈ r := (mem b).2 (by omega)
  obtain ⟨ra, hra, era⟩ := idx_of hamem
  obtain ⟨rb, hrb, erb⟩ := idx_of hbmem
  have hrl : r.length ≤ 300 := by
    -- no more nodes than numbers
    have hsub : r.length ≤ (wts w).length - i := by
      have hperm : r.Perm ((List.range' s.lf ((wts w).length - s.lf)) ++ (List.range' s.mg ((wts w).length + i - s.mg))) := by
        refine (List.perm_ext_iff_of_nodup nd ?_).2 fun k => ?_
        · rw [List.nodup_append]
          refine ⟨List.nodup_range', List.nodup_range', fun x hx y hy => ?_⟩
          rw [List.mem_range'_1] at hx hy
          omega
        · rw [mem k, List.mem_append, List.mem_range'_1, List.mem_range'_1]
          omega
      have := hperm.length_eq
      rw [List.length_append, List.length_range', List.length_range'] at this
      omega
    omega
  have hr1 : 1 < r.length := by
    rcases Nat.lt_or_ge 1 r.length with h | h
    · exact h
    · have : ra = rb := by omega
      subst this
      omega
  -- who is in a and b
  have hflat : (r.flatMap wh).Perm (wh a ++ (wh b ++ (((r.filter (· != a)).filter (· != b)).flatMap wh))) :=
    (flat_filter nd hamem).trans ((flat_filter (nd.filter _) (List.mem_filter.2 ⟨hbmem, by simpa using Ne.symm hab⟩)).append_left _)
  have hpos : (wh a ++ (wh b ++ (((r.filter (· != a)).filter (· != b)).flatMap wh))).Perm (pos w) := hflat.symm.trans per
  have hnodup : (wh a ++ (wh b ++ (((r.filter (· != a)).filter (· != b)).flatMap wh))).Nodup := hpos.nodup_iff.2 ((posN_asc w w.length).imp fun h => by omega)
  have hv : ∀ x, x ∈ wh a ++ wh b → x ∈ pos w := fun x hx => hpos.mem_iff.1 (by
    rcases List.mem_append.1 hx with h | h
    · exact List.mem_append_left _ h
    · exact List.mem_append_right _ (List.mem_append_left _ h))
  have hvp : ∀ x, x ∈ wh a ++ wh b → 0 ≤ x ∧ x < (w.length : Int) ∧ 0 < w.getD x.toNat 0 := fun x hx => posN_lt w w.length x (hv x hx)
  have hvnd : (wh a ++ wh b).Nodup := by
    rw [← List.append_assoc] at hnodup
    exact (List.nodup_append.1 hnodup).1
  have hvlen : (wh a ++ wh b).length ≤ 300 := by
    have := hpos.length_eq
    simp only [List.length_append] at this ⊢
    omega
  have hinj : ∀ x y, x < (wh a ++ wh b).length → y < (wh a ++ wh b).length → ((wh a ++ wh b).getD x 0).toNat = ((wh a ++ wh b).getD y 0).toNat → x = y := by
    intro x y hx hy e
    have h1 := hvp ((wh a ++ wh b).getD x 0) (by rw [← getD_at hx]; exact List.getElem_mem _)
    have h2 := hvp ((wh a ++ wh b).getD y 0) (by rw [← getD_at hy]; exact List.getElem_mem _)
    have e' : (wh a ++ wh b)[x] = (wh a ++ wh b)[y] := by rw [getD_at hx, getD_at hy]; omega
    have hpw := List.pairwise_iff_getElem.1 hvnd
    rcases Nat.lt_trichotomy x y with h3 | h3 | h3
    · exact absurd e' (hpw x y hx hy h3)
    · exact h3
    · exact absurd e'.symm (hpw y x hy hx h3)
  -- the depths of a and b
  have hCn : (s.C ++ [a, b]).getD (2 * i) 0 = a ∧ (s.C ++ [a, b]).getD (2 * i + 1) 0 = b := getN_two hCL
  have hDa : (coreD (wts w)).getD a 0 = (coreD (wts w)).getD ((wts w).length + i) 0 + 1 := by
    have h1 := hstab (2 * i) (by omega)
    rw [hs', hCn.1] at h1
    have h3 := hparf (2 * i) (by omega)
    rw [h1] at h3
    have h4 := hcoreP a (by omega)
    rw [h3, Int.toNat_natCast, show 2 * i / 2 = i by omega] at h4
    exact h4
  have hDb : (coreD (wts w)).getD b 0 = (coreD (wts w)).getD ((wts w).length + i) 0 + 1 := by
    have h1 := hstab (2 * i + 1) (by omega)
    rw [hs', hCn.2] at h1
    have h3 := hparf (2 * i + 1) (by omega)
    rw [h1] at h3
    have h4 := hcoreP b (by omega)
    rw [h3, Int.toNat_natCast, show (2 * i + 1) / 2 = i by omega] at h4
    exact h4
  have hLb : ∀ x, x ∈ wh a ++ wh b → (-1000000 ≤ L.getD x.toNat 0 ∧ L.getD x.toNat 0 ≤ 1000000) ∧ ∃ k, k < (wts w).length ∧ (srt w).getD k 0 = x ∧ L.getD x.toNat 0 + 1 = (coreD (wts w)).getD k 0 - (coreD (wts w)).getD ((wts w).length + i) 0 := by
    intro x hx
    rcases List.mem_append.1 hx with h | h
    · obtain ⟨k, hk, e1, e2⟩ := val a hamem x h
      have d1 := hD k
      have d2 := hD a
      rw [← hDe] at d1 d2
      exact ⟨by omega, k, hk, e1, by omega⟩
    · obtain ⟨k, hk, e1, e2⟩ := val b hbmem x h
      have d1 := hD k
      have d2 := hD b
      rw [← hDe] at d1 d2
      exact ⟨by omega, k, hk, e1, by omega⟩
  have hfm : ∀ k, k ∈ (r.filter (· != a)).filter (· != b) ↔ k ∈ r ∧ k ≠ a ∧ k ≠ b := by
    intro k
    rw [List.mem_filter, List.mem_filter]
    simp only [bne_iff_ne, ne_eq, decide_eq_true_eq]
    constructor
    · rintro ⟨⟨h1, h2⟩, h3⟩; exact ⟨h1, h2, h3⟩
    · rintro ⟨h1, h2, h3⟩; exact ⟨⟨h1, h2⟩, h3⟩
  have hrn : ∀ k, k ∈ r → k < (wts w).length + i := fun k hk => by have := (mem k).1 hk; omega
  refine ⟨a, b, ra, rb, fun k => if k = (wts w).length + i then wh a ++ wh b else wh k, hr1, hra, hrb, era, erb, ?_, ?_, ?_, ?_, fun x hx => by have := hvp x hx; omega, hinj, fun x hx => (hLb x hx).1, hvlen, hrl, ?_⟩
  · exact find_least (bn := 0) (but := -1) (by omega) nd ord (fun k hk => hleaf k hk) (fun k hk _ => by have := (mem k).1 hk; omega) hm1 (by omega) pa (.inl rfl) (.inl rfl) hra (by rw [ea1]; exact era)
  · refine find_least (bn := a) (lf := l1) (mg := m1) (by omega) nd ord (fun k hk => hleaf k hk) (fun k hk h => ?_) (by omega) (by omega) pb (.inr ⟨ra, hra, rfl, era⟩) (.inr (by rw [eb1]; exact Ne.symm hab)) hrb (by rw [eb1]; exact erb)
    have := (mem k).1 hk
    rcases h with h | h
    · omega
    · omega
  · have h4 := hpo a (by omega)
    have h5 := hpo b (by omega)
    have h7 := hle a (by omega)
    have h8 := hle b (by omega)
    exact wrap_i64 (by omega) (by omega)
  · rw [List.map_append]
    congr 1
    · apply List.map_congr_left
      intro k hk
      have hk' := hrn k ((hfm k).1 hk).1
      simp only [nodeOf]
      rw [if_neg (by omega), hs']
      simp only
      rw [getD_app_l (by omega)]
    · simp only [List.map_cons, List.map_nil, nodeOf, if_true]
      rw [hs']
      simp only
      have := getD_app_n (l := s.W) (x := s.W.getD a 0 + s.W.getD b 0)
      rw [hwL] at this
      rw [this]
  · refine ⟨?_, ?_, ?_, ?_, by rw [incr_len]; exact ll, ?_, ?_⟩
    · rw [List.nodup_append]
      refine ⟨(nd.filter _).filter _, by simp, fun x hx y hy => ?_⟩
      have := hrn x ((hfm x).1 hx).1
      simp only [List.mem_cons, List.not_mem_nil, or_false] at hy
      omega
    · intro k
      rw [List.mem_append, hfm, mem k, hs']
      simp only [List.mem_cons, List.not_mem_nil, or_false]
      omega
    · rw [List.pairwise_append]
      refine ⟨(ord.filter _).filter _, by simp, fun x hx y hy => ?_⟩
      have := hrn x ((hfm x).1 hx).1
      simp only [List.mem_cons, List.not_mem_nil, or_false] at hy
      subst hy
      unfold rho
      omega
    · rw [List.flatMap_append]
      have e1 : ((r.filter (· != a)).filter (· != b)).flatMap (fun k => if k = (wts w).length + i then wh a ++ wh b else wh k) = ((r.filter (· != a)).filter (· != b)).flatMap wh := flat_congr fun k hk => by
        have := hrn k ((hfm k).1 hk).1
        rw [if_neg (by omega)]
      rw [e1]
      simp only [List.flatMap_cons, List.flatMap_nil, List.append_nil, if_true]
      refine List.Perm.trans ?_ hpos
      refine List.perm_append_comm.trans ?_
      rw [List.append_assoc]
    · intro κ hκ x hx
      rcases List.mem_append.1 hκ with hκ | hκ
      · have hk' := hrn κ ((hfm κ).1 hκ).1
        rw [if_neg (by omega)] at hx
        obtain ⟨k, hk, e1, e2⟩ := val κ ((hfm κ).1 hκ).1 x hx
        refine ⟨k, hk, e1, ?_⟩
        rw [incr_out _ fun q hq e => ?_]
        · exact e2
        · -- x is in neither
          have hxr : x ∈ ((r.filter (· != a)).filter (· != b)).flatMap wh := List.mem_flatMap.2 ⟨κ, hκ, hx⟩
          have hq' : (wh a ++ wh b).getD q 0 ∈ wh a ++ wh b := by rw [← getD_at hq]; exact List.getElem_mem _
          have h1 := hvp _ hq'
          have h3 := posN_lt w w.length x (hpos.mem_iff.1 (List.mem_append_right _ (List.mem_append_right _ hxr)))
          have he : (wh a ++ wh b).getD q 0 = x := by omega
          rw [← List.append_assoc] at hnodup
          exact (List.nodup_append.1 hnodup).2.2 _ hq' _ hxr he
      · simp only [List.mem_cons, List.not_mem_nil, or_false] at hκ
        subst hκ
        rw [if_pos rfl] at hx
        obtain ⟨_, k, hk, e1, e2⟩ := hLb x hx
        refine ⟨k, hk, e1, ?_⟩
        obtain ⟨q, hq, e⟩ := mem_getD hx
        have := incr_in (l := L) (v := wh a ++ wh b) hinj (fun q hq => by
          have := hvp ((wh a ++ wh b).getD q 0) (by rw [← getD_at hq]; exact List.getElem_mem _)
          omega) _ (Nat.le_refl _) q hq
        rw [← e] at this
        omega
    · intro j hj hz
      rw [incr_out _ fun q hq e => ?_]
      · exact zero j hj hz
      · have h1 := hvp ((wh a ++ wh b).getD q 0) (by rw [← getD_at hq]; exact List.getElem_mem _)
        rw [e] at h1
        omega
end Go.Abs.Sh
