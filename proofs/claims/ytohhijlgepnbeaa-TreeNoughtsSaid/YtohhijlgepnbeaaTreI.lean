import Derived.Test.YtohhijlgepnbeaaTreH
namespace Go.Abs.Sh
set_option linter.unusedVariables false
set_option linter.unusedSimpArgs false
def ins0 (w : List Int) (a : Nat) : List Int := w.take a ++ 0 :: w.drop a
def shf (a : Nat) (x : Int) : Int := if x < (a : Int) then x else x + 1
theorem ins0_len (w : List Int) (a : Nat) : (ins0 w a).length = w.length + 1 := by simp [ins0]; omega
theorem ins0_at {w : List Int} {a : Nat} (ha : a ≤ w.length) (i : Nat) : (ins0 w a).getD i 0 = if i < a then w.getD i 0 else if i = a then 0 else w.getD (i - 1) 0 := by
  unfold ins0
  simp only [List.getD_eq_getElem?_getD]
  have hl : (w.take a).length = a := by simp; omega
  by_cases h1 : i < a
  · rw [List.getElem?_append_left (by omega), if_pos h1, List.getElem?_take, if_pos h1]
  · rw [List.getElem?_append_right (by omega), hl, if_neg h1]
    by_cases h2 : i = a
    · subst h2; rw [if_pos rfl, Nat.sub_self]; rfl
    · rw [if_neg h2]
      obtain ⟨d, hd⟩ : ∃ d, i - a = d + 1 := ⟨i - a - 1, by omega⟩
      rw [hd, List.getElem?_cons_succ, List.getElem?_drop]
      congr 2; omega
theorem ins0_eq {l m : List Int} {a : Nat} (ha : a ≤ m.length) (hl : l.length = m.length + 1) (h : ∀ i, i < l.length → l.getD i 0 = if i < a then m.getD i 0 else if i = a then 0 else m.getD (i - 1) 0) : l = ins0 m a := by
  apply List.ext_getElem
  · rw [ins0_len, hl]
  · intro i h1 h2
    rw [getD_at h1, getD_at h2, ins0_at ha, h i h1]
theorem ins0_hv {w : List Int} {a : Nat} (ha : a ≤ w.length) : hv (ins0 w a) = ins0 (hv w) a := by
  refine ins0_eq (by rw [hv_len]; exact ha) (by rw [hv_len, hv_len, ins0_len]) fun i hi => ?_
  rw [hv_len, ins0_len] at hi
  rw [hv_at, if_pos (by rw [ins0_len]; exact hi), ins0_at ha]
  by_cases h1 : i < a
  · rw [if_pos h1, if_pos h1, hv_at, if_pos (by omega)]
  · rw [if_neg h1, if_neg h1]
    by_cases h2 : i = a
    · rw [if_pos h2, if_pos h2]; rfl
    · rw [if_neg h2, if_neg h2, hv_at, if_pos (by omega)]
theorem ins0_hvN {w : List Int} {a : Nat} (ha : a ≤ w.length) : ∀ j, hvN (ins0 w a) j = ins0 (hvN w j) a
  | 0 => rfl
  | j + 1 => by rw [hvN, ins0_hvN ha j, ins0_hv (by rw [hvN_len]; exact ha)]; rfl
theorem ins0_posN {w : List Int} {a : Nat} (ha : a ≤ w.length) : ∀ d, a + d ≤ w.length → posN (ins0 w a) (a + d + 1) = (posN w (a + d)).map (shf a)
  | 0, _ => by
    have h1 : posN (ins0 w a) a = posN w a := posN_congr a fun i hi => by rw [ins0_at ha, if_pos hi]
    have h2 : (posN w a).map (shf a) = posN w a := by
      conv => rhs; rw [← List.map_id (posN w a)]
      apply List.map_congr_left
      intro x hx
      have := posN_lt w a x hx
      unfold shf
      rw [if_pos (by omega)]; rfl
    show posN (ins0 w a) (a + 1) = (posN w a).map (shf a)
    rw [posN, ins0_at ha, if_neg (by omega), h1, h2]
  | d + 1, hn => by
    have ih := ins0_posN ha d (by omega)
    have e : (ins0 w a).getD (a + d + 1) 0 = w.getD (a + d) 0 := by rw [ins0_at ha, if_neg (by omega), if_neg (by omega)]; rfl
    rw [← Nat.add_assoc, posN, e, ih, posN]
    by_cases h : 0 < w.getD (a + d) 0
    · rw [if_pos h, if_pos h, List.map_append]
      congr 1
      simp only [List.map_cons, List.map_nil, shf]
      rw [if_neg (by omega)]; simp
    · rw [if_neg h, if_neg h]
theorem ins0_pos {w : List Int} {a : Nat} (ha : a ≤ w.length) : pos (ins0 w a) = (pos w).map (shf a) := by
  have := ins0_posN ha (w.length - a) (by omega)
  rw [show a + (w.length - a) = w.length by omega] at this
  unfold pos
  rw [ins0_len]; exact this
theorem ins0_shf {w : List Int} {a : Nat} (ha : a ≤ w.length) {x : Int} (h0 : 0 ≤ x) : (ins0 w a).getD (shf a x).toNat 0 = w.getD x.toNat 0 := by
  unfold shf
  split
  · rw [ins0_at ha, if_pos (by omega)]
  · rw [ins0_at ha, if_neg (by omega), if_neg (by omega)]; congr 1; omega
theorem ins0_srt {w : List Int} {a : Nat} (ha : a ≤ w.length) : srt (ins0 w a) = (srt w).map (shf a) := by
  have hnn : ∀ x ∈ srt w, 0 ≤ x := fun x hx => (posN_lt w w.length x ((srt_perm w).mem_iff.1 hx)).1
  refine perm_pw_eq (ws := ins0 w a) ((srt_perm _).trans (by rw [ins0_pos ha]; exact ((srt_perm w).map _).symm)) (sortBy_pw _ _) ?_
  rw [List.pairwise_map]
  refine (sortBy_pw w (pos w)).imp_of_mem ?_
  intro x y hx hy h
  have h1 := hnn x hx
  have h2 := hnn y hy
  rw [leB_iff] at h ⊢
  rw [ins0_shf ha h1, ins0_shf ha h2]
  unfold shf
  split <;> split <;> omega
theorem ins0_wts {w : List Int} {a : Nat} (ha : a ≤ w.length) : wts (ins0 w a) = wts w := by
  unfold wts
  rw [ins0_srt ha, List.map_map]
  apply List.map_congr_left
  intro x hx
  exact ins0_shf ha (posN_lt w w.length x ((srt_perm w).mem_iff.1 hx)).1
theorem ins0_dep {w : List Int} {a : Nat} (ha : a ≤ w.length) : dep (ins0 w a) = ins0 (dep w) a := by
  have hpl : (pos (ins0 w a)).length = (pos w).length := by rw [ins0_pos ha, List.length_map]
  refine ins0_eq (by rw [dep_len]; exact ha) (by rw [dep_len, dep_len, ins0_len]) fun i hi => ?_
  rw [dep_len, ins0_len] at hi
  -- what stands at i in the longer row
  have hcase : ∀ i' : Nat, i' < w.length → ∀ i, (ins0 w a).getD i 0 = w.getD i' 0 → shf a (i' : Int) = (i : Int) → (dep (ins0 w a)).getD i 0 = (dep w).getD i' 0 := by
    intro i' hi' i he hsh
    have hii : i < (ins0 w a).length := by
      rw [ins0_len]
      unfold shf at hsh
      split at hsh <;> omega
    by_cases hp : 0 < w.getD i' 0
    · by_cases h2 : 2 ≤ (pos w).length
      · obtain ⟨k, hk, e⟩ := srt_find hi' hp
        have d1 := dep_srt h2 hk
        have d2 := dep_srt (w := ins0 w a) (by omega) (k := k) (by omega)
        rw [ins0_wts ha, ins0_srt ha] at d2
        have e2 : ((srt w).map (shf a)).getD k 0 = (i : Int) := by
          have hk' : k < (srt w).length := by rw [srt_len]; exact hk
          simp only [List.getD_eq_getElem?_getD, List.getElem?_map, List.getElem?_eq_getElem hk', Option.map_some, Option.getD_some]
          rw [getD_at hk', e, hsh]
        rw [e2, Int.toNat_natCast] at d2
        rw [e, Int.toNat_natCast] at d1
        rw [d1, d2]
      · have hc : (pos w).length = 1 := by
          have := List.length_pos_of_mem (posN_mem w w.length i' hi' hp)
          have : 0 < (pos w).length := this
          omega
        rw [dep_one hc hi' hp, dep_one (by omega) hii (by rw [he]; exact hp)]
    · rw [dep_zero hp, dep_zero (by rw [he]; exact hp)]
  have hat := ins0_at ha i
  by_cases h1 : i < a
  · rw [if_pos h1] at hat ⊢
    exact hcase i (by omega) i hat (by unfold shf; rw [if_pos (by omega)])
  · rw [if_neg h1] at hat ⊢
    by_cases h2 : i = a
    · rw [if_pos h2] at hat ⊢
      exact dep_zero (by omega)
    · rw [if_neg h2] at hat ⊢
      exact hcase (i - 1) (by omega) i hat (by unfold shf; rw [if_neg (by omega)]; omega)
theorem ins0_ok {w : List Int} {a : Nat} (ha : a ≤ w.length) (hl : w.length ≤ 299) : okW (ins0 w a) ↔ okW w := by
  constructor
  · intro h
    refine ⟨by omega, fun i hi => ?_⟩
    by_cases h1 : i < a
    · have := h.2 i (by rw [ins0_len]; omega)
      rw [ins0_at ha, if_pos h1] at this; exact this
    · have := h.2 (i + 1) (by rw [ins0_len]; omega)
      rw [ins0_at ha, if_neg (by omega), if_neg (by omega)] at this; exact this
  · intro h
    refine ⟨by rw [ins0_len]; omega, fun i hi => ?_⟩
    rw [ins0_len] at hi
    rw [ins0_at ha]
    split
    · exact h.2 i (by omega)
    · split
      · omega
      · exact h.2 _ (by omega)
theorem ins0_fits {w : List Int} {a : Nat} (ha : a ≤ w.length) {limit : Int} (h0 : 0 ≤ limit) : fits (ins0 w a) limit ↔ fits w limit := by
  unfold fits
  rw [ins0_dep ha, ins0_len]
  have hd := dep_len w
  constructor
  · intro h i hi
    by_cases h1 : i < a
    · have := h i (by omega)
      rw [ins0_at (by omega), if_pos h1] at this; exact this
    · have := h (i + 1) (by omega)
      rw [ins0_at (by omega), if_neg (by omega), if_neg (by omega)] at this; exact this
  · intro h i hi
    rw [ins0_at (by omega)]
    split
    · exact h i (by omega)
    · split
      · exact h0
      · exact h _ (by omega)
theorem okL_15 (w : List Int) : okL w 15 := by
  unfold okL
  refine ⟨?_, by omega⟩
  split <;> omega
theorem remu_eq (x : Int) (n : Nat) (h0 : 0 < n) (hn : n < 1000000) : ∃ p : Nat, p < n ∧ remO (IntKind.u64.wrap x) (n : Int) = some (p : Int) := by
  have hx : 0 ≤ IntKind.u64.wrap x := by
    simp only [IntKind.wrap, IntKind.bits, IntKind.signed]
    have e : (2 : Int) ^ 64 = 18446744073709551616 := by decide
    simp only [e, Bool.false_and, Bool.false_eq_true, if_false]
    omega
  obtain ⟨m, hm⟩ : ∃ m : Nat, IntKind.u64.wrap x = (m : Int) := ⟨_, (Int.toNat_of_nonneg hx).symm⟩
  rw [hm]
  exact ⟨m % n, Nat.mod_lt _ h0, rem_nat m n h0⟩
theorem wrapu_nat (n : Nat) (h : n < 1000000) : IntKind.u64.wrap (n : Int) = (n : Int) := by
  simp only [IntKind.wrap, IntKind.bits, IntKind.signed]
  have e : (2 : Int) ^ 64 = 18446744073709551616 := by decide
  simp only [e, Bool.false_and, Bool.false_eq_true, if_false]
  omega
theorem treeNoughts_true (w : List Int) (at_ : Int) : wherrylaw03_TreeNoughts w at_ = some true := by
  unfold wherrylaw03_TreeNoughts
  by_cases h290 : 290 < w.length
  · exact cnd_t (by simp; omega) rfl
  refine cnd_f (by simp; omega) ?_
  obtain ⟨a, ha, hr⟩ := remu_eq at_ (w.length + 1) (by omega) (by omega)
  have ha' : a ≤ w.length := by omega
  refine bnd rfl (bnd (x := ((w.length + 1 : Nat) : Int)) (by rw [wrap_succ (by omega)]) (bnd (x := ((w.length + 1 : Nat) : Int)) (by rw [wrapu_nat _ (by omega)]) (bnd hr (bnd (x := (a : Int)) (by rw [wrap_nat _ (by omega)]) ?_))))
  refine bnd (sli_nat w (a := 0) (b := a) (Nat.zero_le _) ha') (bnd (x := w.take a) (by rw [app_of (by simp; omega) (by simp; omega)]; simp) (bnd (app_of (by simp; omega) (by simp; omega)) (bnd (sli_nat w ha' (Nat.le_refl _)) (bnd (x := ins0 w a) (by rw [app_of (by simp; omega) (by simp; omega)]; simp [ins0, List.take_of_length_le]) ?_))))
  by_cases hw : okW w
  case neg =>
    have hx : ¬ okW (ins0 w a) := fun h => hw ((ins0_ok ha' (by omega)).1 h)
    exact bnd (lengths_bad fun h => hw h.1) (bnd (lengths_bad fun h => hx h.1) (cnd_f rfl (cnd_t rfl (bnd wakes03 rfl))))
  have hx : okW (ins0 w a) := (ins0_ok ha' (by omega)).2 hw
  obtain ⟨J, hJ, hno, hyes, hlen⟩ := lengths_eq hw (okL_15 w)
  have hf : ∀ j, fits (hvN (ins0 w a) j) 15 ↔ fits (hvN w j) 15 := fun j => by rw [ins0_hvN ha']; exact ins0_fits (by rw [hvN_len]; exact ha') (by omega)
  have hlen2 := lengths_at hx (okL_15 _) hJ (fun j hj h => hno j hj ((hf j).1 h)) ((hf J).2 hyes)
  have hd2 : dep (hvN (ins0 w a) J) = ins0 (dep (hvN w J)) a := by rw [ins0_hvN ha', ins0_dep (by rw [hvN_len]; exact ha')]
  rw [hd2] at hlen2
  have hdl : (dep (hvN w J)).length = w.length := by rw [dep_len, hvN_len]
  generalize dep (hvN w J) = D at *
  have haD : a ≤ D.length := by omega
  have hil := ins0_len D a
  refine bnd hlen (bnd hlen2 (cnd_f rfl (cnd_f rfl ?_)))
  refine bndL (s := false) (bnd (x := ((D.length + 1 : Nat) : Int)) (by simp only; rw [wrap_succ (by omega)]) (cnd_f (by simp [hil]) (bnd (ixO_of (by show a < (ins0 D a).length; omega)) (bnd (getO_D (by show a < (ins0 D a).length; omega)) (by rw [ins0_at haD, if_neg (by omega), if_pos rfl]; rfl))))) (cnd_f rfl ?_)
  refine bndL (s := true) (bnd (sli_nat (ins0 D a) (a := 0) (b := a) (Nat.zero_le _) (by omega)) (bnd (twin03 _ (by simp; omega)) (bnd (x := ((a + 1 : Nat) : Int)) (by rw [wrap_succ (by omega)]) (bnd (sli_nat (ins0 D a) (a := a + 1) (by show a + 1 ≤ (ins0 D a).length; omega) (Nat.le_refl _)) (bnd (x := D) ?_ (bnd (keepInts03 D D (by omega)) (cnd_t (by simp) (bnd wakes03 rfl)))))))) rfl
  rw [app_of (by simp; omega) (by simp; omega)]
  congr 1
  have e1 : ((ins0 D a).drop 0).take (a - 0) = D.take a := by
    rw [List.drop_zero, Nat.sub_zero]
    unfold ins0
    rw [List.take_append_of_le_length (by simp; omega), List.take_take, Nat.min_self]
  have e2 : ((ins0 D a).drop (a + 1)).take ((ins0 D a).length - (a + 1)) = D.drop a := by
    rw [List.take_of_length_le (by simp)]
    unfold ins0
    rw [List.drop_append, List.drop_of_length_le (by simp; omega), List.nil_append, show a + 1 - (D.take a).length = 1 by simp; omega]
    rfl
  rw [e1, e2, List.take_append_drop]
end Go.Abs.Sh
