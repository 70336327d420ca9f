import Derived.Test.YtohhijlgepnbeaaTreD
namespace Go.Abs.Sh
set_option linter.unusedVariables false
set_option linter.unusedSimpArgs false
def dst (P : List Int) (L : Nat) : Nat → List Int
  | 0 => List.replicate L 0
  | j + 1 => (dst P L j).set (L - 2 - j) ((dst P L j).getD (P.getD (L - 2 - j) 0).toNat 0 + 1)
theorem dst_len (P : List Int) (L : Nat) : ∀ j, (dst P L j).length = L
  | 0 => by simp [dst]
  | j + 1 => by rw [dst, List.length_set]; exact dst_len P L j
def okP (P : List Int) (L : Nat) : Prop := ∀ k, k + 1 < L → (k : Int) < P.getD k 0 ∧ P.getD k 0 < (L : Int)
theorem dst_above (P : List Int) (L : Nat) : ∀ j k, j + 1 ≤ L → L - 1 - j ≤ k → ∀ j', j ≤ j' → j' + 1 ≤ L → (dst P L j').getD k 0 = (dst P L j).getD k 0 := by
  intro j k h1 h2 j' h3 h4
  obtain ⟨d, rfl⟩ : ∃ d, j' = j + d := ⟨j' - j, by omega⟩
  induction d with
  | zero => rfl
  | succ d ih =>
    rw [← Nat.add_assoc, dst, getD_set_ne (by omega)]
    exact ih (by omega) (by omega)
theorem dst_eq {P : List Int} {L : Nat} (hP : okP P L) (k : Nat) (hk : k + 1 < L) : (dst P L (L - 1)).getD k 0 = (dst P L (L - 1)).getD (P.getD k 0).toNat 0 + 1 := by
  have h := hP k hk
  have h1 : (dst P L (L - 1)).getD k 0 = (dst P L (L - 1 - k)).getD k 0 := dst_above P L (L - 1 - k) k (by omega) (by omega) (L - 1) (by omega) (by omega)
  obtain ⟨j, hj⟩ : ∃ j, L - 1 - k = j + 1 := ⟨L - 2 - k, by omega⟩
  rw [h1, hj, dst, show L - 2 - j = k by omega, getD_set_eq (by rw [dst_len]; omega)]
  rw [dst_above P L j (P.getD k 0).toNat (by omega) (by omega) (L - 1) (by omega) (by omega)]
theorem dst_root (P : List Int) {L : Nat} (hL : 0 < L) : (dst P L (L - 1)).getD (L - 1) 0 = 0 := by
  rw [dst_above P L 0 (L - 1) (by omega) (by omega) (L - 1) (by omega) (by omega)]
  simp only [dst, List.getD_eq_getElem?_getD, List.getElem?_replicate]
  split <;> rfl
theorem dst_bound (P : List Int) (L : Nat) : ∀ j k, 0 ≤ (dst P L j).getD k 0 ∧ (dst P L j).getD k 0 ≤ (j : Int)
  | 0, k => by
    simp only [dst, List.getD_eq_getElem?_getD, List.getElem?_replicate]
    split <;> simp
  | j + 1, k => by
    rw [dst]
    have ih := dst_bound P L j
    by_cases e : L - 2 - j = k
    · subst e
      by_cases h : L - 2 - j < (dst P L j).length
      · rw [getD_set_eq h]
        have := ih (P.getD (L - 2 - j) 0).toNat
        omega
      · have : ((dst P L j).set (L - 2 - j) ((dst P L j).getD (P.getD (L - 2 - j) 0).toNat 0 + 1)).getD (L - 2 - j) 0 = 0 := by
          simp only [List.getD_eq_getElem?_getD, List.getElem?_set]
          simp [h]
        omega
    · rw [getD_set_ne e]
      have := ih k
      omega
def place (z u D : List Int) : Nat → List Int
  | 0 => z
  | i + 1 => (place z u D i).set (u.getD i 0).toNat (D.getD i 0)
theorem place_len (z u D : List Int) : ∀ i, (place z u D i).length = z.length
  | 0 => rfl
  | i + 1 => by rw [place, List.length_set]; exact place_len z u D i
def srt (w : List Int) : List Int := sortBy w (pos w)
def wts (w : List Int) : List Int := (srt w).map fun x => w.getD x.toNat 0
def coreD (W0 : List Int) : List Int := dst (mst W0 (W0.length - 1)).P (2 * W0.length - 1) (2 * W0.length - 2)
def dep (w : List Int) : List Int :=
  if (pos w).length = 0 then List.replicate w.length 0
  else if (pos w).length = 1 then (List.replicate w.length 0).set ((pos w).getD 0 0).toNat 1
  else place (List.replicate w.length 0) (srt w) (coreD (wts w)) (srt w).length
theorem srt_perm (w : List Int) : (srt w).Perm (pos w) := sortBy_perm w (pos w)
theorem srt_len (w : List Int) : (srt w).length = (pos w).length := (srt_perm w).length_eq
theorem wts_len (w : List Int) : (wts w).length = (pos w).length := by rw [wts, List.length_map, srt_len]
theorem srt_mem {w : List Int} {i : Nat} (h : i < (srt w).length) : 0 ≤ (srt w).getD i 0 ∧ (srt w).getD i 0 < (w.length : Int) ∧ 0 < w.getD ((srt w).getD i 0).toNat 0 := by
  have h1 : (srt w).getD i 0 ∈ srt w := by rw [← getD_at h]; exact List.getElem_mem _
  have := posN_lt w w.length _ ((srt_perm w).mem_iff.1 h1)
  exact this
theorem wts_at {w : List Int} {i : Nat} (h : i < (srt w).length) : (wts w).getD i 0 = w.getD ((srt w).getD i 0).toNat 0 := by
  simp [wts, List.getD_eq_getElem?_getD, h]
theorem wts_pos {w : List Int} {i : Nat} (h : i < (wts w).length) : 1 ≤ (wts w).getD i 0 := by
  rw [wts_len, ← srt_len] at h
  rw [wts_at h]
  have := srt_mem h
  omega
theorem wts_asc {w : List Int} : ∀ p q, p ≤ q → q < (wts w).length → (wts w).getD p 0 ≤ (wts w).getD q 0 := by
  intro p q h1 h2
  rw [wts_len, ← srt_len] at h2
  rw [wts_at (by omega), wts_at h2]
  rcases Nat.lt_or_eq_of_le h1 with h3 | h3
  · have h4 := (List.pairwise_iff_getElem.1 (sortBy_pw w (pos w))) p q (by show p < (srt w).length; omega) h2 h3
    rw [leB_iff] at h4
    have e1 : (sortBy w (pos w))[p]'(by show p < (srt w).length; omega) = (srt w).getD p 0 := getD_at (l := srt w) (by omega)
    have e2 : (sortBy w (pos w))[q]'h2 = (srt w).getD q 0 := getD_at (l := srt w) h2
    rw [e1, e2] at h4
    omega
  · subst h3; exact Int.le_refl _
theorem sum_le_of {l : List Int} {B : Int} (h : ∀ x ∈ l, x ≤ B) : l.sum ≤ B * (l.length : Int) := by
  induction l with
  | nil => simp
  | cons x l ih =>
    have h1 := h x (by simp)
    have h2 := ih fun y hy => h y (by simp [hy])
    rw [List.sum_cons, List.length_cons]
    have : B * ((l.length + 1 : Nat) : Int) = B * (l.length : Int) + B := by rw [Int.natCast_add, Int.mul_add]; simp
    omega
theorem wts_le {w : List Int} (hw : okW w) : ∀ x ∈ wts w, x ≤ 1048576 := by
  intro x hx
  obtain ⟨k, hk, rfl⟩ := mem_getD hx
  rw [wts_len, ← srt_len] at hk
  rw [wts_at hk]
  have h1 := srt_mem hk
  have := hw.2 ((srt w).getD k 0).toNat (by omega)
  omega
theorem pos_len (w : List Int) : (pos w).length ≤ w.length := posN_len w w.length
theorem wts_sum {w : List Int} (hw : okW w) : (wts w).sum ≤ 314572800 := by
  have h1 := sum_le_of (wts_le hw)
  have h2 := pos_len w
  have h3 := hw.1
  rw [wts_len] at h1
  omega
theorem sort_eq {w : List Int} (hw : okW w) (h0 : 0 < (pos w).length) : slices_SortStable w (pos w) = some (srt w) := by
  have h2 := pos_len w
  have h3 := hw.1
  have : sortOk w (pos w) = true := by
    simp only [sortOk, Bool.and_eq_true, decide_eq_true_eq, List.all_eq_true]
    refine ⟨⟨⟨⟨⟨h0, by omega⟩, by omega⟩, fun x hx => ?_⟩, fun y hy => ?_⟩, ?_⟩
    · have := posN_lt w w.length x hx; omega
    · obtain ⟨k, hk, rfl⟩ := mem_getD hy
      have := hw.2 k hk; omega
    · exact (posN_asc w w.length).imp fun h => Int.le_of_lt h
  unfold slices_SortStable
  rw [if_pos this]
  rfl
end Go.Abs.Sh
