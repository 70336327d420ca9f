import Derived.Test.YtohhijlgepnbeaaTreP
namespace Go.Abs.Sh
set_option linter.unusedVariables false
set_option linter.unusedSimpArgs false
def rho (u : List Int) (n k k' : Nat) : Prop := (k < n ∧ k' < n ∧ u.getD k 0 < u.getD k' 0) ∨ (k < n ∧ n ≤ k') ∨ (n ≤ k ∧ k < k')
theorem lst_strict {n : Nat} {W u : List Int} {lf mg k : Nat} (hsu : ∀ p q, p < q → q < n → W.getD p 0 < W.getD q 0 ∨ (W.getD p 0 = W.getD q 0 ∧ u.getD p 0 ≤ u.getD q 0)) (hk : (lf ≤ k ∧ k < n) ∨ (mg ≤ k ∧ k < W.length)) (hmg : n ≤ mg) (hm : mg ≤ W.length)
    (hr : rho u n k (lst n W lf mg).1) : W.getD (lst n W lf mg).1 0 < W.getD k 0 := by
  unfold lst at *
  split at hr
  · rename_i hc
    rw [if_pos hc]
    simp only at hr ⊢
    unfold rho at hr
    rcases hr with ⟨h1, h2, h3⟩ | h | h
    · have hne : lf ≠ k := fun e => by subst e; omega
      rcases hsu lf k (by omega) (by omega) with h | h
      · exact h
      · omega
    · omega
    · omega
  · rename_i hc
    rw [if_neg hc]
    simp only at hr ⊢
    unfold rho at hr
    rcases hr with ⟨h1, h2, h3⟩ | h | h
    · omega
    · have h4 : ¬ (W.getD lf 0 ≤ W.getD mg 0) := fun e => hc ⟨by omega, .inr e⟩
      by_cases e : lf = k
      · subst e; omega
      · have := hsu lf k (by omega) (by omega)
        omega
    · omega
theorem nget {r : List Nat} {j : Nat} (h : j < r.length) : r[j] = r.getD j 0 := by simp [h]
theorem map_get {r : List Nat} (f : Nat → T_wherryref01_node) {j : Nat} (h : j < r.length) : (r.map f)[j]! = f (r.getD j 0) := by
  rw [getElem!_pos _ _ (by simpa using h), List.getElem_map, nget h]
theorem ref01_in (x lo hi : Int) : wherryref01_in x lo hi = some (decide (lo ≤ x ∧ x ≤ hi)) := by
  unfold wherryref01_in
  by_cases h1 : lo ≤ x
  · refine bndL (s := decide (x ≤ hi)) (cnd_t (decide_eq_true h1) rfl) ?_
    simp [h1]
  · refine bndL (s := false) (cnd_f (decide_eq_false h1) rfl) ?_
    simp [h1]
def incr (l v : List Int) : Nat → List Int
  | 0 => l
  | j + 1 => (incr l v j).set (v.getD j 0).toNat ((incr l v j).getD (v.getD j 0).toNat 0 + 1)
theorem incr_len (l v : List Int) : ∀ j, (incr l v j).length = l.length
  | 0 => rfl
  | j + 1 => by rw [incr, List.length_set]; exact incr_len l v j
theorem incr_out {l v : List Int} {x : Nat} : ∀ j, (∀ k, k < j → (v.getD k 0).toNat ≠ x) → (incr l v j).getD x 0 = l.getD x 0
  | 0, _ => rfl
  | j + 1, h => by
    rw [incr, getD_set_ne (h j (by omega))]
    exact incr_out j fun k hk => h k (by omega)
theorem incr_in {l v : List Int} (hd : ∀ a b, a < v.length → b < v.length → (v.getD a 0).toNat = (v.getD b 0).toNat → a = b) (hl : ∀ a, a < v.length → (v.getD a 0).toNat < l.length) : ∀ j, j ≤ v.length → ∀ k, k < j → (incr l v j).getD (v.getD k 0).toNat 0 = l.getD (v.getD k 0).toNat 0 + 1
  | 0, _, k, h => by omega
  | j + 1, hj, k, h => by
    rw [incr]
    by_cases e : k = j
    · subst e
      rw [getD_set_eq (by rw [incr_len]; exact hl k (by omega)), incr_out k fun q hq e => by have := hd q k (by omega) (by omega) e; omega]
    · rw [getD_set_ne (fun e2 => e (hd k j (by omega) (by omega) e2.symm))]
      exact incr_in hd hl j (by omega) k (by omega)
structure PI (w : List Int) (i : Nat) (r : List Nat) (wh : Nat → List Int) (L : List Int) : Prop where
  nd : r.Nodup
  mem : ∀ k, k ∈ r ↔ ((mst (wts w) i).lf ≤ k ∧ k < (wts w).length) ∨ ((mst (wts w) i).mg ≤ k ∧ k < (wts w).length + i)
  ord : r.Pairwise (rho (srt w) (wts w).length)
  per : (r.flatMap wh).Perm (pos w)
  ll : L.length = w.length
  val : ∀ κ, κ ∈ r → ∀ x, x ∈ wh κ → ∃ k, k < (wts w).length ∧ (srt w).getD k 0 = x ∧ L.getD x.toNat 0 = (coreD (wts w)).getD k 0 - (coreD (wts w)).getD κ 0
  zero : ∀ i, i < w.length → ¬ 0 < w.getD i 0 → L.getD i 0 = 0
def nodeOf (W : List Int) (wh : Nat → List Int) (k : Nat) : T_wherryref01_node := ⟨W.getD k 0, wh k⟩
theorem flat_filter {r : List Nat} {wh : Nat → List Int} {a : Nat} (hn : r.Nodup) (ha : a ∈ r) : (r.flatMap wh).Perm (wh a ++ (r.filter (· != a)).flatMap wh) := by
  induction r with
  | nil => cases ha
  | cons x r ih =>
    rw [List.nodup_cons] at hn
    by_cases e : x = a
    · subst e
      have : (x :: r).filter (· != x) = r := by
        rw [List.filter_cons_of_neg (by simp)]
        exact List.filter_eq_self.2 fun y hy => by simp; intro e; subst e; exact hn.1 hy
      rw [this, List.flatMap_cons]
    · have ha' : a ∈ r := by
        rcases List.mem_cons.1 ha with h | h
        · exact absurd h.symm e
        · exact h
      rw [List.filter_cons_of_pos (by simpa using e), List.flatMap_cons, List.flatMap_cons]
      refine ((ih hn.2 ha').append_left (wh x)).trans ?_
      rw [← List.append_assoc, ← List.append_assoc]
      exact List.perm_append_comm.append_right _
theorem flat_congr {r : List Nat} {f g : Nat → List Int} (h : ∀ k, k ∈ r → f k = g k) : r.flatMap f = r.flatMap g := by
  induction r with
  | nil => rfl
  | cons x r ih => rw [List.flatMap_cons, List.flatMap_cons, h x (by simp), ih fun k hk => h k (by simp [hk])]
theorem sorted_u {w : List Int} {p q : Nat} (h1 : p < q) (h2 : q < (wts w).length) : (wts w).getD p 0 < (wts w).getD q 0 ∨ ((wts w).getD p 0 = (wts w).getD q 0 ∧ (srt w).getD p 0 ≤ (srt w).getD q 0) := by
  rw [wts_len, ← srt_len] at h2
  rw [wts_at (by omega), wts_at h2]
  have h4 := (List.pairwise_iff_getElem.1 (sortBy_pw w (pos w))) p q (by show p < (srt w).length; omega) h2 h1
  rw [leB_iff] at h4
  have e1 : (sortBy w (pos w))[p]'(by show p < (srt w).length; omega) = (srt w).getD p 0 := getD_at (l := srt w) (by omega)
  have e2 : (sortBy w (pos w))[q]'h2 = (srt w).getD q 0 := getD_at (l := srt w) h2
  rw [e1, e2] at h4
  exact h4
theorem find_least {w : List Int} {r : List Nat} {wh : Nat → List Int} {W : List Int} {lf mg : Nat} {but : Int} {bn : Nat} (hlen : r.length ≤ 1000) (hnd : r.Nodup) (ho : r.Pairwise (rho (srt w) (wts w).length))
    (hW : ∀ k, k < (wts w).length → W.getD k 0 = (wts w).getD k 0) (hmem : ∀ k, k ∈ r → (k : Int) ≠ (bn : Int) ∨ but = -1 → (lf ≤ k ∧ k < (wts w).length) ∨ (mg ≤ k ∧ k < W.length)) (hmg : (wts w).length ≤ mg) (hm : mg ≤ W.length) (hp : Pick (wts w).length W lf mg (lst (wts w).length W lf mg))
    (hbut : but = -1 ∨ ∃ j, j < r.length ∧ but = (j : Int) ∧ r.getD j 0 = bn) (hne : but = -1 ∨ (lst (wts w).length W lf mg).1 ≠ bn) {ra : Nat} (hra : ra < r.length) (hea : r.getD ra 0 = (lst (wts w).length W lf mg).1) :
    wherryref01_least (r.map (nodeOf W wh)) but = some (ra : Int) := by
  have inj : ∀ a b, a < r.length → b < r.length → r.getD a 0 = r.getD b 0 → a = b := by
    intro a b ha hb e
    rw [← nget ha, ← nget hb] at e
    have hpw := List.pairwise_iff_getElem.1 hnd
    rcases Nat.lt_trichotomy a b with h3 | h3 | h3
    · exact absurd e (hpw a b ha hb h3)
    · exact h3
    · exact absurd e.symm (hpw b a hb ha h3)
  have hok : ∀ j, j < r.length → (j : Int) ≠ but → (lf ≤ r.getD j 0 ∧ r.getD j 0 < (wts w).length) ∨ (mg ≤ r.getD j 0 ∧ r.getD j 0 < W.length) := by
    intro j hj hjb
    refine hmem _ (by rw [← nget hj]; exact List.getElem_mem _) ?_
    rcases hbut with h | ⟨q, hq, h, hqe⟩
    · exact .inr h
    · left
      intro e
      have : r.getD j 0 = r.getD q 0 := by omega
      have := inj j q hj hq this
      omega
  refine least_eq (by simpa using hlen) (by simpa using hra) ?_ ?_ ?_
  · intro e
    rcases hbut with h | ⟨q, hq, h, hqe⟩
    · omega
    · have : ra = q := by omega
      subst this
      rcases hne with h' | h'
      · omega
      · exact h' (by omega)
  · intro j hj hjb
    rw [List.length_map] at hj
    rw [map_get _ hra, map_get _ hj]
    show W.getD (r.getD ra 0) 0 ≤ W.getD (r.getD j 0) 0
    rw [hea]
    exact hp.min _ (hok j hj hjb)
  · intro j hj hjb
    rw [map_get _ hra, map_get _ (by omega)]
    show W.getD (r.getD ra 0) 0 < W.getD (r.getD j 0) 0
    have hr := (List.pairwise_iff_getElem.1 ho) j ra (by omega) hra hj
    rw [nget (by omega), nget hra] at hr
    rw [hea] at hr ⊢
    exact lst_strict (u := srt w) (fun p q h1 h2 => by rw [hW p (by omega), hW q h2]; exact sorted_u h1 h2) (hok j (by omega) hjb) hmg hm hr
end Go.Abs.Sh
