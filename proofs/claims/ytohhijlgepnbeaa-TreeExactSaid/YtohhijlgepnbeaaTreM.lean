import Derived.Test.YtohhijlgepnbeaaTreL
import Derived.Test.YtohhijlgepnbeaaCanonM
namespace Go.Abs.Sh
set_option linter.unusedVariables false
set_option linter.unusedSimpArgs false
def sumN (f : Nat → Nat) : Nat → Nat
  | 0 => 0
  | n + 1 => sumN f n + f n
theorem sumN_congr {f g : Nat → Nat} : ∀ n, (∀ i, i < n → f i = g i) → sumN f n = sumN g n
  | 0, _ => rfl
  | n + 1, h => by rw [sumN, sumN, sumN_congr n fun i hi => h i (by omega), h n (by omega)]
theorem sumN_add (f : Nat → Nat) (a : Nat) : ∀ b, sumN f (a + b) = sumN f a + sumN (fun i => f (a + i)) b
  | 0 => rfl
  | b + 1 => by rw [← Nat.add_assoc, sumN, sumN_add f a b, sumN]; omega
theorem sumN_list (f : Nat → Nat) (l : List Nat) : ∀ n, n ≤ l.length → sumN (fun j => f (l.getD j 0)) n = ((l.take n).map f).sum
  | 0, _ => rfl
  | n + 1, h => by
    rw [sumN, sumN_list f l n (by omega), List.take_add_one, List.map_append, List.sum_append]
    have : n < l.length := by omega
    simp [this]
theorem sumN_range (f : Nat → Nat) : ∀ n, sumN f n = ((List.range n).map f).sum
  | 0 => rfl
  | n + 1 => by rw [sumN, sumN_range f n, List.range_succ, List.map_append, List.sum_append]; simp
theorem nsum_perm {l m : List Nat} (h : l.Perm m) : l.sum = m.sum := by
  induction h with
  | nil => rfl
  | cons x _ ih => rw [List.sum_cons, List.sum_cons, ih]
  | swap x y l => simp only [List.sum_cons]; omega
  | trans _ _ ih1 ih2 => exact ih1.trans ih2
section
variable {W0 : List Int} (h2 : 2 ≤ W0.length) (v : Inv W0 (W0.length - 1) (mst W0 (W0.length - 1)))
include h2 v
theorem core_le {d : Int} (hd : ∀ k, k < W0.length → (coreD W0).getD k 0 ≤ d) : ∀ k, k < 2 * W0.length - 1 → (coreD W0).getD k 0 ≤ d := by
  intro k
  induction k using Nat.strongRecOn with
  | ind k ih =>
    intro hk
    by_cases h : k < W0.length
    · exact hd k h
    · obtain ⟨q, rfl⟩ : ∃ q, k = W0.length + q := ⟨k - W0.length, by omega⟩
      have hc := v.clt (2 * q) (by omega)
      have hp := v.par (2 * q) (by omega)
      have e := core_eq h2 v ((mst W0 (W0.length - 1)).C.getD (2 * q) 0) (by omega)
      rw [hp, Int.toNat_natCast, show W0.length + 2 * q / 2 = W0.length + q by omega] at e
      have := ih ((mst W0 (W0.length - 1)).C.getD (2 * q) 0) (by omega) (by omega)
      omega
end
def kx (D : List Int) (k : Nat) : Nat := 2 ^ (15 - (D.getD k 0).toNat)
theorem kraft {W0 : List Int} (h2 : 2 ≤ W0.length) (v : Inv W0 (W0.length - 1) (mst W0 (W0.length - 1))) (hd : ∀ k, k < W0.length → (coreD W0).getD k 0 ≤ 15) : sumN (kx (coreD W0)) W0.length = 32768 := by
  have hle := core_le h2 v hd
  have hnn : ∀ k, 0 ≤ (coreD W0).getD k 0 := fun k => (dst_bound _ _ _ k).1
  have hX : ∀ k, k < 2 * W0.length - 2 → kx (coreD W0) ((mst W0 (W0.length - 1)).P.getD k 0).toNat = 2 * kx (coreD W0) k := by
    intro k hk
    have e := core_eq h2 v k hk
    have h3 := hle k (by omega)
    have h4 := hnn ((mst W0 (W0.length - 1)).P.getD k 0).toNat
    unfold kx
    rw [show 15 - ((coreD W0).getD ((mst W0 (W0.length - 1)).P.getD k 0).toNat 0).toNat = (15 - ((coreD W0).getD k 0).toNat) + 1 by omega, Nat.pow_succ]
    omega
  have hC : ∀ j, j < 2 * (W0.length - 1) → (mst W0 (W0.length - 1)).C.getD j 0 < 2 * W0.length - 2 := fun j hj => by have := v.clt j hj; omega
  have hXC : ∀ j, j < 2 * (W0.length - 1) → kx (coreD W0) (W0.length + j / 2) = 2 * kx (coreD W0) ((mst W0 (W0.length - 1)).C.getD j 0) := by
    intro j hj
    have := hX _ (hC j hj)
    rw [v.par j hj, Int.toNat_natCast] at this
    exact this
  have s1 : ∀ m, m ≤ W0.length - 1 → sumN (fun j => kx (coreD W0) ((mst W0 (W0.length - 1)).C.getD j 0)) (2 * m) = sumN (fun q => kx (coreD W0) (W0.length + q)) m := by
    intro m
    induction m with
    | zero => intro _; rfl
    | succ m ih =>
      intro hm
      have e1 := hXC (2 * m) (by omega)
      have e2 := hXC (2 * m + 1) (by omega)
      rw [show 2 * m / 2 = m by omega] at e1
      rw [show (2 * m + 1) / 2 = m by omega] at e2
      rw [show 2 * (m + 1) = 2 * m + 1 + 1 by omega, sumN, sumN, ih (by omega), sumN]
      omega
  have s2 : sumN (fun j => kx (coreD W0) ((mst W0 (W0.length - 1)).C.getD j 0)) (2 * (W0.length - 1)) = sumN (kx (coreD W0)) (2 * (W0.length - 1)) := by
    rw [sumN_list _ _ _ (by rw [v.cl]; exact Nat.le_refl _), ← v.cl, List.take_length, sumN_range]
    refine nsum_perm (List.Perm.map _ ((List.perm_ext_iff_of_nodup v.nd List.nodup_range).2 fun k => ?_))
    rw [v.mem k, List.mem_range, v.cl]
    have := v.cnt; have := v.mg2; have := v.lf
    omega
  have s3 := s1 (W0.length - 1) (Nat.le_refl _)
  rw [s2, show 2 * (W0.length - 1) = W0.length + (W0.length - 2) by omega, sumN_add, show W0.length - 1 = (W0.length - 2) + 1 by omega, sumN] at s3
  have hroot : kx (coreD W0) (W0.length + (W0.length - 2)) = 32768 := by
    unfold kx
    rw [show W0.length + (W0.length - 2) = 2 * W0.length - 2 by omega, core_root h2 v]
    rfl
  omega
/-! what lengths weigh -/
def g1 (x : Int) : Nat := if 0 < x then 2 ^ (15 - x.toNat) else 0
def wsum (l : List Int) : Nat := (l.map g1).sum
theorem wsum_set {l : List Int} {a : Nat} {y : Int} (ha : a < l.length) (h0 : l.getD a 0 = 0) : wsum (l.set a y) = wsum l + g1 y := by
  induction l generalizing a with
  | nil => simp at ha
  | cons x l ih =>
    cases a with
    | zero =>
      have : x = 0 := by simpa using h0
      subst this
      simp [wsum, g1]
      omega
    | succ a =>
      have := ih (a := a) (by simpa using ha) (by simpa using h0)
      simp only [wsum, List.set_cons_succ, List.map_cons, List.sum_cons] at *
      omega
theorem wsum_zero : ∀ n, wsum (List.replicate n 0) = 0
  | 0 => rfl
  | n + 1 => by
    have := wsum_zero n
    simp only [wsum, List.replicate_succ, List.map_cons, List.sum_cons] at *
    simp [g1, this]
theorem wsum_place {n : Nat} {u D : List Int} (hd : ∀ a b, a < u.length → b < u.length → (u.getD a 0).toNat = (u.getD b 0).toNat → a = b) (hz : ∀ a, a < u.length → (u.getD a 0).toNat < n) : ∀ i, i ≤ u.length → wsum (place (List.replicate n 0) u D i) = sumN (fun k => g1 (D.getD k 0)) i
  | 0, _ => by rw [place, wsum_zero]; rfl
  | i + 1, h => by
    rw [place, wsum_set (by rw [place_len, List.length_replicate]; exact hz i (by omega)), wsum_place hd hz i (by omega), sumN]
    rw [place_out _ (fun k hk e => by have := hd k i (by omega) (by omega) e; omega)]
    exact rep_getD _ _
theorem ws_cons (x : Nat) (m : List Nat) : ∀ k, ws (x :: m) k = ws m k + (if 0 < x ∧ x ≤ k then 2 ^ (15 - x) else 0)
  | 0 => by simp [ws]; omega
  | k + 1 => by
    rw [ws, ws_cons x m k, ws, List.count_cons, Nat.add_mul]
    by_cases h : x = k + 1
    · subst h
      rw [if_neg (by omega), if_pos (show 0 < k + 1 ∧ k + 1 ≤ k + 1 by omega)]
      simp
      omega
    · rw [if_neg (show ¬ (x == k + 1) = true by simpa using h)]
      by_cases h3 : 0 < x ∧ x ≤ k
      · rw [if_pos h3, if_pos (by omega)]; omega
      · rw [if_neg h3, if_neg (by omega)]; omega
theorem ws_wsum : ∀ l : List Int, (∀ x ∈ l, x ≤ 15) → ws (l.map Int.toNat) 15 = wsum l
  | [], _ => by decide
  | x :: l, h => by
    rw [List.map_cons, ws_cons, ws_wsum l fun y hy => h y (by simp [hy])]
    have hx := h x (by simp)
    simp only [wsum, List.map_cons, List.sum_cons, g1]
    by_cases h0 : 0 < x
    · rw [if_pos (by omega), if_pos h0]; omega
    · rw [if_neg (by omega), if_neg h0]; omega
theorem dep_nn {w : List Int} : ∀ i, 0 ≤ (dep w).getD i 0 := by
  intro i
  by_cases hi : i < w.length
  · by_cases hp : 0 < w.getD i 0
    · by_cases h2 : 2 ≤ (pos w).length
      · obtain ⟨k, hk, e⟩ := srt_find hi hp
        have hd := dep_srt h2 hk
        rw [e, Int.toNat_natCast] at hd
        rw [hd]
        exact (dst_bound _ _ _ k).1
      · have hc : (pos w).length = 1 := by
          have : 0 < (pos w).length := List.length_pos_of_mem (posN_mem w w.length i hi hp)
          omega
        rw [dep_one hc hi hp]; omega
    · rw [dep_zero hp]; omega
  · have hl := dep_len w
    simp only [List.getD_eq_getElem?_getD, List.getElem?_eq_none (show (dep w).length ≤ i by omega)]
    simp
theorem core_pos {w : List Int} (h2 : 2 ≤ (pos w).length) {k : Nat} (hk : k < (pos w).length) : 1 ≤ (coreD (wts w)).getD k 0 := by
  have hwl := wts_len w
  have e := core_eq (by omega) (inv_wts h2) k (by omega)
  have : 0 ≤ (coreD (wts w)).getD ((mst (wts w) ((wts w).length - 1)).P.getD k 0).toNat 0 := (dst_bound _ _ _ _).1
  omega
theorem fits_core {w : List Int} {limit : Int} (h2 : 2 ≤ (pos w).length) (hf : fits w limit) {k : Nat} (hk : k < (pos w).length) : (coreD (wts w)).getD k 0 ≤ limit := by
  rw [← dep_srt h2 hk]
  have := srt_mem (w := w) (i := k) (by rw [srt_len]; exact hk)
  exact hf _ (by omega)
theorem dep_check {w : List Int} {limit : Int} (hw : okW w) (hf : fits w limit) (hl : limit ≤ 15) : canon_Check (dep w) = some 0 := by
  have hdl := dep_len w
  have h15 : ∀ x ∈ dep w, 0 ≤ x ∧ x ≤ 15 := by
    intro x hx
    obtain ⟨k, hk, rfl⟩ := mem_getD hx
    have := hf k (by omega)
    have := dep_nn (w := w) k
    omega
  have he : ints ((dep w).map Int.toNat) = dep w := ints_nats fun x hx => (h15 x hx).1
  have hw1 := hw.1
  have hc := check_ints ((dep w).map Int.toNat) (by rw [List.length_map]; omega)
  rw [he] at hc
  rw [hc, if_pos ⟨by rw [List.length_map]; omega, fun x hx => by
    obtain ⟨y, hy, rfl⟩ := List.mem_map.1 hx
    have := h15 y hy; omega⟩]
  have hforms : forms ((dep w).map Int.toNat) = true := by
    unfold forms
    by_cases h2 : 2 ≤ (pos w).length
    · have hk := kraft (W0 := wts w) (by rw [wts_len]; exact h2) (inv_wts h2) (fun k hk => by
        have := fits_core h2 hf (k := k) (by rw [wts_len] at hk; exact hk)
        omega)
      have : ws ((dep w).map Int.toNat) 15 = 32768 := by
        rw [ws_wsum _ fun x hx => (h15 x hx).2, dep, if_neg (by omega), if_neg (by omega)]
        rw [wsum_place (fun a b ha hb h => srt_dist ha hb h) (fun a ha => by have := srt_mem ha; omega) _ (Nat.le_refl _), srt_len, ← hk, wts_len]
        refine sumN_congr _ fun k hk => ?_
        have := core_pos h2 hk
        unfold g1 kx
        rw [if_pos (by omega)]
      simp [this]
    · by_cases h1 : (pos w).length = 1
      · have : ws ((dep w).map Int.toNat) 15 = 16384 := by
          have hm : (pos w).getD 0 0 ∈ pos w := by rw [← getD_at (by omega)]; exact List.getElem_mem _
          have hx := posN_lt w w.length _ hm
          rw [ws_wsum _ fun x hx => (h15 x hx).2, dep, if_neg (by omega), if_pos h1, wsum_set (by simp only [List.length_replicate]; omega) (rep_getD _ _), wsum_zero]
          decide
        -- one length of 1
        have ht : ints (tal ((dep w).map Int.toNat)) = 0 :: 1 :: List.replicate 14 0 := by
          have hd1 : ∀ x ∈ dep w, x = 0 ∨ x = 1 := by
            intro x hx
            obtain ⟨k, hk, rfl⟩ := mem_getD hx
            by_cases hp : 0 < w.getD k 0
            · exact .inr (dep_one h1 (by omega) hp)
            · exact .inl (dep_zero hp)
          have hcnt : ∀ n, 2 ≤ n → ((dep w).map Int.toNat).count n = 0 := by
            intro n hn
            rw [List.count_eq_zero]
            intro hmem
            obtain ⟨y, hy, e⟩ := List.mem_map.1 hmem
            have := hd1 y hy
            omega
          have hone : ((dep w).map Int.toNat).count 1 = 1 := by
            have hz : ∀ k, ws ((dep w).map Int.toNat) (k + 1) = ((dep w).map Int.toNat).count 1 * 16384 := by
              intro k
              induction k with
              | zero => simp [ws]
              | succ k ih => rw [ws, ih, hcnt (k + 1 + 1) (by omega)]; omega
            have h14 := hz 14
            rw [show 14 + 1 = 15 from rfl, this] at h14
            omega
          apply List.ext_getElem
          · simp [ints_len, tal_len]
          · intro i q1 q2
            have hi : i < 16 := by simpa [ints_len, tal_len] using q1
            have ht := tal_at ((dep w).map Int.toNat) (n := i) (by rw [tal_len]; exact hi)
            simp only [ints, List.getElem_map]
            rw [ht]
            match i, hi with
            | 0, _ => rfl
            | 1, _ => rw [if_neg (by omega), hone]; rfl
            | i + 2, hi =>
              rw [if_neg (by omega), hcnt (i + 2) (by omega)]
              simp only [List.getElem_cons_succ, List.getElem_replicate]
              rfl
        simp [ht]
      · have ht : ints (tal ((dep w).map Int.toNat)) = List.replicate 16 0 := by
          have h0 : (pos w).length = 0 := by omega
          have hd : dep w = List.replicate w.length 0 := by rw [dep, if_pos h0]
          rw [hd, List.map_replicate]
          apply List.ext_getElem
          · simp [ints_len, tal_len]
          · intro i q1 q2
            have hi : i < 16 := by simpa [ints_len, tal_len] using q1
            have ht := tal_at (List.replicate w.length (Int.toNat 0)) (n := i) (by rw [tal_len]; exact hi)
            simp only [ints, List.getElem_map]
            rw [ht, List.getElem_replicate]
            by_cases h : i = 0
            · rw [if_pos h]; rfl
            · rw [if_neg h, List.count_replicate, if_neg (by simp; omega)]; rfl
        simp [ht]
  rw [hforms]
  rfl
end Go.Abs.Sh
