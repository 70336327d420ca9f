import Derived.Test.YtohhijlgepnbeaaTreK
namespace Go.Abs.Sh
set_option linter.unusedVariables false
set_option linter.unusedSimpArgs false
theorem ones_exact {W0 : List Int} (hs : ∀ k, k < W0.length → W0.getD k 0 = 1) (h2 : 2 ≤ W0.length) : ∀ t r : Nat, 2 ^ t ≤ r + 1 → r + 1 < 2 ^ (t + 1) → r ≤ 2 * W0.length - 2 → (coreD W0).getD (2 * W0.length - 2 - r) 0 = (t : Int) := by
  have hs1 : ∀ p q, p ≤ q → q < W0.length → W0.getD p 0 ≤ W0.getD q 0 := fun p q h1 h2 => by rw [hs p (by omega), hs q h2]; omega
  have v := inv_all hs1 (fun k hk => by rw [hs k hk]; omega) (W0.length - 1) (by omega)
  intro t
  induction t with
  | zero =>
    intro r h1 h3 h4
    obtain rfl : r = 0 := by omega
    rw [Nat.sub_zero, core_root h2 v]; rfl
  | succ t ih =>
    intro r h1 h3 h4
    have hp : 2 ^ (t + 1 + 1) = 2 * 2 ^ (t + 1) := by rw [Nat.pow_succ]; omega
    have hp2 : 2 ^ (t + 1) = 2 * 2 ^ t := by rw [Nat.pow_succ]; omega
    have hp3 : 0 < 2 ^ t := Nat.pow_pos (by omega)
    have e := core_eq h2 v (2 * W0.length - 2 - r) (by omega)
    rw [ones_P hs h2 _ (by omega), Int.toNat_natCast] at e
    have := ih ((r - 1) / 2) (by omega) (by omega) (by omega)
    rw [show 2 * W0.length - 2 - (r - 1) / 2 = W0.length + (2 * W0.length - 2 - r) / 2 by omega] at this
    omega
theorem rep_at {n i : Nat} {x : Int} (h : i < n) : (List.replicate n x).getD i 0 = x := by
  simp [List.getD_eq_getElem?_getD, h]
theorem posN_rep {x : Int} (hx : 0 < x) (n : Nat) : ∀ m, m ≤ n → (posN (List.replicate n x) m).length = m
  | 0, _ => rfl
  | m + 1, h => by
    rw [posN, rep_at (by omega), if_pos hx, List.length_append, posN_rep hx n m (by omega)]
    rfl
theorem even_dep {x : Int} (hx : 0 < x) (a i : Nat) (ha : 1 ≤ a) (hi : i < 2 ^ a) : (dep (List.replicate (2 ^ a) x)).getD i 0 = (a : Int) := by
  have hn : 2 ≤ 2 ^ a := by
    have := Nat.pow_le_pow_right (show 1 ≤ 2 by omega) ha
    simpa using this
  have hpl : (pos (List.replicate (2 ^ a) x)).length = 2 ^ a := by
    unfold pos
    rw [List.length_replicate, posN_rep hx _ _ (Nat.le_refl _)]
  obtain ⟨k, hk, e⟩ := srt_find (w := List.replicate (2 ^ a) x) (i := i) (by simpa using hi) (by rw [rep_at hi]; exact hx)
  have hd := dep_srt (by omega) hk
  rw [e, Int.toNat_natCast] at hd
  rw [hd]
  have hw : wts (List.replicate (2 ^ a) x) = (List.replicate (2 ^ a) 1).map (x * ·) := by
    apply List.ext_getElem
    · rw [wts_len, hpl]; simp
    · intro j h1 h2
      rw [getD_at h1]
      rw [wts_len, ← srt_len] at h1
      have hm := srt_mem h1
      rw [List.length_replicate] at hm
      rw [wts_at h1, rep_at (by omega)]
      simp
  rw [hw, core_scale hx]
  have hp : 2 ^ (a + 1) = 2 * 2 ^ a := by rw [Nat.pow_succ]; omega
  have := ones_exact (W0 := List.replicate (2 ^ a) 1) (fun k hk => rep_at (by simpa using hk)) (by simpa using hn) a (2 * 2 ^ a - 2 - k) (by omega) (by omega) (by simp)
  rw [List.length_replicate, show 2 * 2 ^ a - 2 - (2 * 2 ^ a - 2 - k) = k by omega] at this
  exact this
theorem shl_small : ∀ a : Nat, a < 9 → shlO .i64 1 (a : Int) = some ((2 ^ a : Nat) : Int) ∧ 2 ^ a ≤ 256 := by
  intro a h
  have : a = 0 ∨ a = 1 ∨ a = 2 ∨ a = 3 ∨ a = 4 ∨ a = 5 ∨ a = 6 ∨ a = 7 ∨ a = 8 := by omega
  rcases this with rfl | rfl | rfl | rfl | rfl | rfl | rfl | rfl | rfl <;> exact ⟨by decide, by decide⟩
theorem treeEven_true (k w : Int) : wherrylaw03_TreeEven k w = some true := by
  unfold wherrylaw03_TreeEven
  obtain ⟨a, ha, hr⟩ := remu_eq k 9 (by omega) (by omega)
  obtain ⟨p, hp, hr2⟩ := remu_eq w 1000 (by omega) (by omega)
  obtain ⟨x, hx⟩ : ∃ x : Int, x = ((p + 1 : Nat) : Int) := ⟨_, rfl⟩
  obtain ⟨hsh, h256⟩ := shl_small a ha
  refine bnd rfl (bnd hr (bnd (x := (a : Int)) (by rw [wrap_nat _ (by omega)]) (bnd rfl (bnd hr2 (bnd (x := (p : Int)) (by rw [wrap_nat _ (by omega)]) (bnd (x := x) (by rw [wrap_i64 (by omega) (by omega)]; congr 1; omega) ?_))))))
  have hx0 : 0 < x := by omega
  obtain ⟨n, hn⟩ : ∃ n, n = 2 ^ a := ⟨_, rfl⟩
  rw [← hn] at hsh h256
  refine bndL (s := List.replicate n x) ?_ ?_
  · refine loop_from (fun i => (List.replicate i x, (i : Int))) n BIG rfl (by unfold BIG; omega) (fun i hi => ?_) (bnd (x := (a : Int)) (by rw [wrapu_nat _ (by omega)]) (bnd hsh (cnd_f (by simp) rfl)))
    refine bnd (x := (a : Int)) (by rw [wrapu_nat _ (by omega)]) (bnd hsh (cnd_t (decide_eq_true (by omega)) (bnd (app_of (by simp; omega) (by simp; omega)) (bnd (x := ((i + 1 : Nat) : Int)) (by rw [wrap_succ (by omega)]) ?_))))
    rw [← List.replicate_succ']
  have hmax : (if (1 : Int) > (a : Int) then (1 : Int) else (a : Int)) = (if a = 0 then 1 else (a : Int)) := by
    by_cases h : a = 0
    · subst h; rfl
    · rw [if_neg (by omega), if_neg h]
  have hdv : ∀ i, i < n → (dep (List.replicate n x)).getD i 0 = (if a = 0 then 1 else (a : Int)) := by
    intro i hi
    by_cases h : a = 0
    · subst h
      rw [if_pos rfl]
      refine dep_one ?_ (by simpa using hi) (by rw [rep_at hi]; exact hx0)
      unfold pos
      rw [List.length_replicate, posN_rep hx0 _ _ (Nat.le_refl _), hn]
    · rw [if_neg h]
      have := even_dep hx0 a i (by omega) (by omega)
      rw [← hn] at this; exact this
  have hw : okW (List.replicate n x) := ⟨by simp; omega, fun i hi => by rw [List.length_replicate] at hi; rw [rep_at hi]; omega⟩
  have hf : fits (List.replicate n x) 15 := fun i hi => by
    rw [List.length_replicate] at hi
    rw [hdv i hi]
    split <;> omega
  have hl := lengths_zero hw (okL_15 _) hf
  have hdl := dep_len (List.replicate n x)
  rw [List.length_replicate] at hdl
  refine bnd hl (bndL (s := false) (cnd_f rfl (by simp [hdl])) (cnd_f rfl ?_))
  refine bndL (s := ()) ?_ (bnd wakes03 rfl)
  refine loop_from (fun i => (i : Int)) n BIG rfl (by unfold BIG; omega) (fun i hi => ?_) (cnd_f (by simp [hdl]) rfl)
  exact cnd_t (decide_eq_true (by show (i : Int) < ((dep (List.replicate n x)).length : Int); omega)) (bnd (ixO_of (by show i < (dep (List.replicate n x)).length; omega)) (bnd (getO_D (by show i < (dep (List.replicate n x)).length; omega)) (bnd (x := if a = 0 then 1 else (a : Int)) (by rw [hmax]) (cnd_f (by simp only [hdv i hi]; simp) (bnd (x := ((i + 1 : Nat) : Int)) (by rw [wrap_succ (by omega)]) rfl)))))
end Go.Abs.Sh
