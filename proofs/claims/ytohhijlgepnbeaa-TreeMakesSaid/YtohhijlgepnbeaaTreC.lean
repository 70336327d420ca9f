import Derived.Test.YtohhijlgepnbeaaTreB
namespace Go.Abs.Sh
set_option linter.unusedVariables false
set_option linter.unusedSimpArgs false
abbrev zw (W P : List Int) : List T_tree_node := List.zipWith T_tree_node.mk W P
theorem zw_len {W P : List Int} (h : W.length = P.length) : (zw W P).length = W.length := by simp [zw, h]
theorem zw_get {W P : List Int} (h : W.length = P.length) {k : Nat} (hk : k < W.length) : getO (zw W P) k = some ⟨W.getD k 0, P.getD k 0⟩ := by
  simp [getO, zw, List.getElem?_zipWith, hk, show k < P.length by omega]
theorem zw_set {W P : List Int} (h : W.length = P.length) {k : Nat} (hk : k < W.length) (x : Int) : (zw W P).set k ⟨W.getD k 0, x⟩ = zw W (P.set k x) := by
  apply List.ext_getElem?
  intro j
  simp only [zw, List.getElem?_set, List.getElem?_zipWith, List.length_zipWith]
  by_cases e : k = j
  · subst e
    simp [hk, show k < P.length by omega]
    omega
  · simp [e]
theorem zw_app {W P : List Int} (h : W.length = P.length) (x y : Int) : zw W P ++ [⟨x, y⟩] = zw (W ++ [x]) (P ++ [y]) := by
  simp [zw, List.zipWith_append h]
structure MS where
  W : List Int
  P : List Int
  lf : Nat
  mg : Nat
  C : List Nat
def lst (n : Nat) (W : List Int) (lf mg : Nat) : Nat × Nat × Nat := if lf < n ∧ (mg = W.length ∨ W.getD lf 0 ≤ W.getD mg 0) then (lf, lf + 1, mg) else (mg, lf, mg + 1)
def mstep (n : Nat) (s : MS) : MS :=
  let a := lst n s.W s.lf s.mg
  let b := lst n s.W a.2.1 a.2.2
  ⟨s.W ++ [s.W.getD a.1 0 + s.W.getD b.1 0], (s.P.set a.1 (s.W.length : Int)).set b.1 (s.W.length : Int) ++ [0], b.2.1, b.2.2, s.C ++ [a.1, b.1]⟩
def mst (W0 : List Int) : Nat → MS
  | 0 => ⟨W0, List.replicate W0.length 0, 0, W0.length, []⟩
  | i + 1 => mstep W0.length (mst W0 i)
structure Pick (n : Nat) (W : List Int) (lf mg : Nat) (r : Nat × Nat × Nat) : Prop where
  way : (r.1 = lf ∧ r.2.1 = lf + 1 ∧ r.2.2 = mg ∧ lf < n) ∨ (r.1 = mg ∧ r.2.1 = lf ∧ r.2.2 = mg + 1 ∧ mg < W.length)
  min : ∀ u, (lf ≤ u ∧ u < n) ∨ (mg ≤ u ∧ u < W.length) → W.getD r.1 0 ≤ W.getD u 0
theorem lst_pick {n : Nat} {W : List Int} {lf mg : Nat} (hl : lf ≤ n) (hm : mg ≤ W.length) (h : lf < n ∨ mg < W.length) (hs : ∀ p q, p ≤ q → q < n → W.getD p 0 ≤ W.getD q 0) (ho : ∀ p q, mg ≤ p → p ≤ q → q < W.length → W.getD p 0 ≤ W.getD q 0) : Pick n W lf mg (lst n W lf mg) := by
  unfold lst
  split
  · rename_i hc
    refine ⟨.inl ⟨rfl, rfl, rfl, hc.1⟩, fun u hu => ?_⟩
    rcases hu with hu | hu
    · exact hs _ _ hu.1 hu.2
    · rcases hc.2 with h1 | h1
      · omega
      · exact Int.le_trans h1 (ho _ _ (Nat.le_refl _) hu.1 hu.2)
  · rename_i hc
    have hmg : mg < W.length := by
      rcases h with h | h
      · rcases Nat.lt_or_ge mg W.length with h1 | h1
        · exact h1
        · exact absurd ⟨h, .inl (by omega)⟩ hc
      · exact h
    refine ⟨.inr ⟨rfl, rfl, rfl, hmg⟩, fun u hu => ?_⟩
    rcases hu with hu | hu
    · have h1 : ¬ (W.getD lf 0 ≤ W.getD mg 0) := fun h1 => hc ⟨by omega, .inr h1⟩
      have h2 := hs lf u hu.1 hu.2
      simp only
      omega
    · exact ho _ _ (Nat.le_refl _) hu.1 hu.2
def left (n : Nat) (W : List Int) (lf mg : Nat) : Int := ((W.take n).drop lf).sum + (W.drop mg).sum
theorem left_pick {n : Nat} {W : List Int} {lf mg : Nat} {r : Nat × Nat × Nat} (hn : n ≤ W.length) (h : Pick n W lf mg r) : left n W lf mg = W.getD r.1 0 + left n W r.2.1 r.2.2 := by
  unfold left
  rcases h.way with ⟨h1, h2, h3, h4⟩ | ⟨h1, h2, h3, h4⟩
  · rw [h1, h2, h3, List.drop_eq_getElem_cons (show lf < (W.take n).length by simp; omega), List.sum_cons]
    simp [show lf < W.length by omega]
    omega
  · rw [h1, h2, h3, List.drop_eq_getElem_cons h4, List.sum_cons]
    simp [h4]
    omega
theorem left_app {n : Nat} {W : List Int} {lf mg : Nat} (x : Int) (hn : n ≤ W.length) (hm : mg ≤ W.length) : left n (W ++ [x]) lf mg = left n W lf mg + x := by
  unfold left
  rw [List.take_append_of_le_length hn, List.drop_append_of_le_length hm, List.sum_append]
  simp
  omega
theorem sum_ge {l : List Int} (h : ∀ x ∈ l, 0 ≤ x) : 0 ≤ l.sum := by
  induction l with
  | nil => simp
  | cons x l ih =>
    rw [List.sum_cons]
    have := h x (by simp)
    have := ih fun y hy => h y (by simp [hy])
    omega
theorem getD_app_l {l m : List Int} {k : Nat} (h : k < l.length) : (l ++ m).getD k 0 = l.getD k 0 := by
  simp only [List.getD_eq_getElem?_getD, List.getElem?_append_left h]
theorem getD_app_n {l : List Int} {x : Int} : (l ++ [x]).getD l.length 0 = x := by simp
theorem getN_app_l {l m : List Nat} {k : Nat} (h : k < l.length) : (l ++ m).getD k 0 = l.getD k 0 := by
  simp only [List.getD_eq_getElem?_getD, List.getElem?_append_left h]
structure Inv (W0 : List Int) (i : Nat) (s : MS) : Prop where
  wl : s.W.length = W0.length + i
  pl : s.P.length = W0.length + i
  lf : s.lf ≤ W0.length
  mg1 : W0.length ≤ s.mg
  mg2 : s.mg ≤ W0.length + (i - 1)
  cnt : s.lf + s.mg = 2 * i + W0.length
  cl : s.C.length = 2 * i
  par : ∀ j, j < 2 * i → s.P.getD (s.C.getD j 0) 0 = ((W0.length + j / 2 : Nat) : Int)
  clt : ∀ j, j < 2 * i → s.C.getD j 0 < W0.length + j / 2
  mem : ∀ k, k ∈ s.C ↔ k < s.lf ∨ (W0.length ≤ k ∧ k < s.mg)
  nd : s.C.Nodup
  leaf : ∀ k, k < W0.length → s.W.getD k 0 = W0.getD k 0
  new : ∀ q, q < i → s.W.getD (W0.length + q) 0 = s.W.getD (s.C.getD (2 * q) 0) 0 + s.W.getD (s.C.getD (2 * q + 1) 0) 0
  asc : ∀ j j', j ≤ j' → j' < 2 * i → s.W.getD (s.C.getD j 0) 0 ≤ s.W.getD (s.C.getD j' 0) 0
  low : ∀ j u, j < 2 * i → (s.lf ≤ u ∧ u < W0.length) ∨ (s.mg ≤ u ∧ u < W0.length + i) → s.W.getD (s.C.getD j 0) 0 ≤ s.W.getD u 0
  mono : ∀ p q, W0.length ≤ p → p ≤ q → q < W0.length + i → s.W.getD p 0 ≤ s.W.getD q 0
  pos : ∀ k, k < W0.length + i → 1 ≤ s.W.getD k 0
  tot : left W0.length s.W s.lf s.mg = W0.sum
  le : ∀ k, k < W0.length + i → s.W.getD k 0 ≤ W0.sum
theorem le_sum {l : List Int} (h : ∀ x ∈ l, 0 ≤ x) {x : Int} (hx : x ∈ l) : x ≤ l.sum := by
  induction l with
  | nil => cases hx
  | cons y l ih =>
    rw [List.sum_cons]
    have h1 := h y (by simp)
    have h2 := sum_ge (l := l) fun z hz => h z (by simp [hz])
    rcases List.mem_cons.1 hx with rfl | hx
    · omega
    · have := ih (fun z hz => h z (by simp [hz])) hx; omega
theorem mem_getD {l : List Int} {x : Int} (h : x ∈ l) : ∃ k, k < l.length ∧ x = l.getD k 0 := by
  obtain ⟨k, hk, rfl⟩ := List.getElem_of_mem h
  exact ⟨k, hk, getD_at hk⟩
theorem inv_zero {W0 : List Int} (hp : ∀ k, k < W0.length → 1 ≤ W0.getD k 0) : Inv W0 0 (mst W0 0) where
  wl := rfl
  pl := by simp [mst]
  lf := Nat.zero_le _
  mg1 := Nat.le_refl _
  mg2 := Nat.le_refl _
  cnt := by simp [mst]
  cl := rfl
  par := fun j h => by omega
  clt := fun j h => by omega
  mem := fun k => by simp [mst]
  nd := List.nodup_nil
  leaf := fun _ _ => rfl
  new := fun q h => by omega
  asc := fun j j' _ h => by omega
  low := fun j u h => by omega
  mono := fun p q h1 h2 h3 => by omega
  pos := fun k h => hp k h
  tot := by simp [left, mst]
  le := fun k h => by
    refine le_sum (fun x hx => ?_) (x := W0.getD k 0) ?_
    · obtain ⟨j, hj, rfl⟩ := mem_getD hx
      have := hp j hj; omega
    · have h : k < W0.length := h
      rw [← getD_at h]; exact List.getElem_mem _
theorem getD_set_ne {l : List Int} {a k : Nat} {x : Int} (h : a ≠ k) : (l.set a x).getD k 0 = l.getD k 0 := by
  simp [List.getD_eq_getElem?_getD, List.getElem?_set, h]
theorem getD_set_eq {l : List Int} {a : Nat} {x : Int} (h : a < l.length) : (l.set a x).getD a 0 = x := by
  simp [List.getD_eq_getElem?_getD, h]
theorem getN_two {C : List Nat} {a b m : Nat} (hc : C.length = m) : (C ++ [a, b]).getD m 0 = a ∧ (C ++ [a, b]).getD (m + 1) 0 = b := by
  subst hc
  simp [List.getD_eq_getElem?_getD, List.getElem?_append_right]
theorem mem_C {C : List Nat} {j : Nat} (h : j < C.length) : C.getD j 0 ∈ C := by
  simp [List.getD_eq_getElem?_getD, h]
theorem inv_step {W0 : List Int} {i : Nat} {s : MS} (hs : ∀ p q, p ≤ q → q < W0.length → W0.getD p 0 ≤ W0.getD q 0) (hi : i + 1 < W0.length) (v : Inv W0 i s) : Inv W0 (i + 1) (mstep W0.length s) := by
  obtain ⟨wl, pl, lf, mg1, mg2, cnt, cl, par, clt, mem, nd, leaf, new, asc, low, mono, pos, tot, le⟩ := v
  have hsW : ∀ p q, p ≤ q → q < W0.length → s.W.getD p 0 ≤ s.W.getD q 0 := fun p q h1 h2 => by rw [leaf p (by omega), leaf q h2]; exact hs p q h1 h2
  have hmW : ∀ p q, s.mg ≤ p → p ≤ q → q < s.W.length → s.W.getD p 0 ≤ s.W.getD q 0 := fun p q h1 h2 h3 => mono p q (by omega) h2 (by omega)
  obtain ⟨a, l1, m1, ea⟩ : ∃ a l1 m1, lst W0.length s.W s.lf s.mg = (a, l1, m1) := ⟨_, _, _, rfl⟩
  have pa := lst_pick (n := W0.length) (W := s.W) lf (show s.mg ≤ s.W.length by omega) (by omega) hsW hmW
  rw [ea] at pa
  have wa := pa.way
  simp only at wa
  obtain ⟨b, l2, m2, eb⟩ : ∃ b l2 m2, lst W0.length s.W l1 m1 = (b, l2, m2) := ⟨_, _, _, rfl⟩
  have pb := lst_pick (n := W0.length) (W := s.W) (lf := l1) (mg := m1) (by omega) (by omega) (by omega) hsW (fun p q h1 h2 h3 => hmW p q (by omega) h2 h3)
  rw [eb] at pb
  have wb := pb.way
  simp only at wb
  have hst : mstep W0.length s = ⟨s.W ++ [s.W.getD a 0 + s.W.getD b 0], (s.P.set a (s.W.length : Int)).set b (s.W.length : Int) ++ [0], l2, m2, s.C ++ [a, b]⟩ := by
    unfold mstep
    rw [ea]
    simp only
    rw [eb]
  have haL : a < W0.length + i := by omega
  have hbL : b < W0.length + i := by omega
  have hab : a ≠ b := by omega
  have ha1 : s.W.getD a 0 ≤ s.W.getD b 0 := pa.min b (by omega)
  have haU : ∀ j, j < 2 * i → s.W.getD (s.C.getD j 0) 0 ≤ s.W.getD a 0 := fun j hj => low j a hj (by omega)
  have hbU : ∀ j, j < 2 * i → s.W.getD (s.C.getD j 0) 0 ≤ s.W.getD b 0 := fun j hj => low j b hj (by omega)
  have hpa := pos a haL
  have hpb := pos b hbL
  have hCa : ∀ j, j < 2 * i → s.C.getD j 0 ≠ a := fun j hj e => by
    have := (mem (s.C.getD j 0)).1 (mem_C (by omega)); omega
  have hCb : ∀ j, j < 2 * i → s.C.getD j 0 ≠ b := fun j hj e => by
    have := (mem (s.C.getD j 0)).1 (mem_C (by omega)); omega
  have hCl : ∀ j, j < 2 * i → s.C.getD j 0 < W0.length + i := fun j hj => by have := clt j hj; omega
  have gW : ∀ k, k < W0.length + i → (s.W ++ [s.W.getD a 0 + s.W.getD b 0]).getD k 0 = s.W.getD k 0 := fun k hk => getD_app_l (by omega)
  have gWn : (s.W ++ [s.W.getD a 0 + s.W.getD b 0]).getD (W0.length + i) 0 = s.W.getD a 0 + s.W.getD b 0 := by rw [← wl]; exact getD_app_n
  have gC : ∀ j, j < 2 * i → (s.C ++ [a, b]).getD j 0 = s.C.getD j 0 := fun j hj => getN_app_l (by omega)
  have gC2 := getN_two (C := s.C) (a := a) (b := b) cl
  have hlast : ∀ q, q < i → s.W.getD (W0.length + q) 0 ≤ s.W.getD a 0 + s.W.getD b 0 := fun q hq => by
    have h1 := new q hq
    have h2 := haU (2 * q) (by omega)
    have h3 := hbU (2 * q + 1) (by omega)
    omega
  have htA := left_pick (n := W0.length) (W := s.W) (by omega) pa
  have htB := left_pick (n := W0.length) (W := s.W) (by omega) pb
  simp only at htA htB
  have hnn : 0 ≤ left W0.length s.W l2 m2 := by
    unfold left
    have h1 : 0 ≤ ((s.W.take W0.length).drop l2).sum := sum_ge fun x hx => by
      obtain ⟨k, hk, rfl⟩ := mem_getD (List.mem_of_mem_take (List.mem_of_mem_drop hx))
      have := pos k (by omega); omega
    have h2 : 0 ≤ (s.W.drop m2).sum := sum_ge fun x hx => by
      obtain ⟨k, hk, rfl⟩ := mem_getD (List.mem_of_mem_drop hx)
      have := pos k (by omega); omega
    omega
  rw [hst]
  refine ⟨by simp; omega, by simp; omega, by simp only; omega, by simp only; omega, by simp only; omega, by simp only; omega, by simp; omega, ?_, ?_, ?_, ?_, ?_, ?_, ?_, ?_, ?_, ?_, ?_, ?_⟩
  · intro j hj
    simp only
    by_cases h1 : j < 2 * i
    · have h2 := hCl j h1
      rw [gC j h1, getD_app_l (by simp only [List.length_set]; omega), getD_set_ne (Ne.symm (hCb j h1)), getD_set_ne (Ne.symm (hCa j h1))]
      exact par j h1
    · by_cases h2 : j = 2 * i
      · subst h2
        rw [gC2.1, getD_app_l (by simp only [List.length_set]; omega), getD_set_ne (Ne.symm hab), getD_set_eq (by omega)]
        omega
      · obtain rfl : j = 2 * i + 1 := by omega
        rw [gC2.2, getD_app_l (by simp only [List.length_set]; omega), getD_set_eq (by simp; omega)]
        omega
  · intro j hj
    simp only
    by_cases h1 : j < 2 * i
    · rw [gC j h1]; exact clt j h1
    · by_cases h2 : j = 2 * i
      · subst h2; rw [gC2.1]; omega
      · obtain rfl : j = 2 * i + 1 := by omega
        rw [gC2.2]; omega
  · intro k
    simp only [List.mem_append, List.mem_cons, List.not_mem_nil, or_false]
    rw [mem k]
    omega
  · simp only
    rw [List.nodup_append]
    refine ⟨nd, by simp [hab], fun x hx y hy => ?_⟩
    have h1 := (mem x).1 hx
    simp only [List.mem_cons, List.not_mem_nil, or_false] at hy
    omega
  · intro k hk
    simp only
    rw [gW k (by omega)]; exact leaf k hk
  · intro q hq
    simp only
    by_cases h1 : q < i
    · rw [gW _ (by omega), gC _ (by omega), gC _ (by omega), gW _ (hCl _ (by omega)), gW _ (hCl _ (by omega))]
      exact new q h1
    · obtain rfl : q = i := by omega
      rw [gWn, gC2.1, gC2.2, gW _ haL, gW _ hbL]
  · intro j j' hjj hj'
    simp only
    by_cases h1 : j' < 2 * i
    · rw [gC _ (by omega), gC _ h1, gW _ (hCl _ (by omega)), gW _ (hCl _ h1)]
      exact asc j j' hjj h1
    · by_cases h2 : j' = 2 * i
      · subst h2
        rw [gC2.1, gW _ haL]
        by_cases h3 : j < 2 * i
        · rw [gC _ h3, gW _ (hCl _ h3)]; exact haU j h3
        · obtain rfl : j = 2 * i := by omega
          rw [gC2.1, gW _ haL]; exact Int.le_refl _
      · obtain rfl : j' = 2 * i + 1 := by omega
        rw [gC2.2, gW _ hbL]
        by_cases h3 : j < 2 * i
        · rw [gC _ h3, gW _ (hCl _ h3)]; exact hbU j h3
        · by_cases h4 : j = 2 * i
          · subst h4; rw [gC2.1, gW _ haL]; exact ha1
          · obtain rfl : j = 2 * i + 1 := by omega
            rw [gC2.2, gW _ hbL]; exact Int.le_refl _
  · intro j u hj hu
    simp only at hu ⊢
    have hmax : ∀ j, j < 2 * (i + 1) → (s.W ++ [s.W.getD a 0 + s.W.getD b 0]).getD ((s.C ++ [a, b]).getD j 0) 0 ≤ s.W.getD b 0 := by
      intro j hj
      by_cases h1 : j < 2 * i
      · rw [gC _ h1, gW _ (hCl _ h1)]; exact hbU j h1
      · by_cases h2 : j = 2 * i
        · subst h2; rw [gC2.1, gW _ haL]; exact ha1
        · obtain rfl : j = 2 * i + 1 := by omega
          rw [gC2.2, gW _ hbL]; exact Int.le_refl _
    refine Int.le_trans (hmax j hj) ?_
    by_cases h1 : u = W0.length + i
    · subst h1; rw [gWn]; omega
    · rw [gW u (by omega)]
      exact pb.min u (by omega)
  · intro p q h1 h2 h3
    simp only
    by_cases h4 : q < W0.length + i
    · rw [gW p (by omega), gW q h4]; exact mono p q h1 h2 h4
    · obtain rfl : q = W0.length + i := by omega
      rw [gWn]
      by_cases h5 : p = W0.length + i
      · subst h5; rw [gWn]; exact Int.le_refl _
      · rw [gW p (by omega)]
        have := hlast (p - W0.length) (by omega)
        rw [show W0.length + (p - W0.length) = p by omega] at this
        exact this
  · intro k hk
    simp only
    by_cases h1 : k < W0.length + i
    · rw [gW k h1]; exact pos k h1
    · obtain rfl : k = W0.length + i := by omega
      rw [gWn]; omega
  · simp only
    rw [left_app _ (by omega) (by omega)]
    omega
  · intro k hk
    simp only
    by_cases h1 : k < W0.length + i
    · rw [gW k h1]; exact le k h1
    · obtain rfl : k = W0.length + i := by omega
      rw [gWn]; omega
theorem inv_all {W0 : List Int} (hs : ∀ p q, p ≤ q → q < W0.length → W0.getD p 0 ≤ W0.getD q 0) (hp : ∀ k, k < W0.length → 1 ≤ W0.getD k 0) : ∀ i, i < W0.length ∨ i = 0 → Inv W0 i (mst W0 i)
  | 0, _ => inv_zero hp
  | i + 1, h => inv_step hs (by omega) (inv_all hs hp i (by omega))
end Go.Abs.Sh
