import Derived.Test.YtjnihhkkaioahaaCanonA
namespace Go.Abs.Sh
set_option linter.unusedVariables false
set_option linter.unusedSimpArgs false

theorem keepInts_eq (a b : List Int) (hl : a.length < 4294967296) : wherrykeep_Ints a b = some (decide (a = b)) := by
  unfold wherrykeep_Ints
  by_cases hn : a.length = b.length
  case neg =>
    have : a ≠ b := fun h => hn (by rw [h])
    have h2 : ((a.length : Int) != (b.length : Int)) = true := by simp; omega
    simp [h2, this]
  have h2 : ((a.length : Int) != (b.length : Int)) = false := by simp; omega
  simp only [h2, cond_false]
  have key : ∀ (k fuel i : Nat), a.length - i = k → i ≤ a.length → k < fuel → a.take i = b.take i →
      loopF (S := Int) (O := Unit ⊕ Bool) (fun (s12 : Int) =>
        cond ((decide (s12 < (a.length : Int))))
          ((ixO s12 a.length).bind fun v3 =>
          (getO a v3).bind fun v4 =>
          (ixO s12 b.length).bind fun v5 =>
          (getO b v5).bind fun v6 =>
          cond ((v4 != v6))
            (some (.inr (.inr (false))))
            ((some (IntKind.i64.wrap (s12 + 1))).bind fun v8 =>
            some (.inl v8)))
          (some (.inr (.inl ())))) fuel (i : Int) = some (if a = b then .inl () else .inr false) := by
    intro k
    induction k with
    | zero =>
      intro fuel i hk hi hf ht
      obtain ⟨f, rfl⟩ : ∃ f, fuel = f + 1 := ⟨fuel - 1, by omega⟩
      have hia : i = a.length := by omega
      subst hia
      have hab : a = b := by rw [List.take_of_length_le (Nat.le_refl _), List.take_of_length_le (by omega)] at ht; exact ht
      simp [loopF, hab]
    | succ k ih =>
      intro fuel i hk hi hf ht
      obtain ⟨f, rfl⟩ : ∃ f, fuel = f + 1 := ⟨fuel - 1, by omega⟩
      have hlt : i < a.length := by omega
      have hltb : i < b.length := by omega
      have hd : decide ((i : Int) < (a.length : Int)) = true := by simp; omega
      unfold loopF
      simp only [hd, cond_true, ixO_of hlt, ixO_of hltb, getO_of hlt, getO_of hltb, Option.bind_some]
      by_cases he : a[i] = b[i]
      · have hb : (a[i] != b[i]) = false := by simp [he]
        have hw : IntKind.i64.wrap ((i : Int) + 1) = ((i + 1 : Nat) : Int) := by
          rw [wrap_i64 (by omega) (by omega)]; simp
        simp only [hb, cond_false, hw]
        exact ih f (i + 1) (by omega) hlt (by omega) (by rw [List.take_add_one, List.take_add_one, ht]; simp [hlt, hltb, he])
      · have hb : (a[i] != b[i]) = true := by simp [he]
        have hab : a ≠ b := fun h => he (by subst h; rfl)
        simp [hb, hab]
  have := key (a.length - 0) BIG 0 rfl (Nat.zero_le _) (by unfold BIG; omega) (by simp)
  simp only [Int.cast_ofNat_Int] at this
  by_cases hab : a = b
  · simp only [hab, if_true] at this
    subst hab
    simp only [bindS]
    rw [this]; simp
  · simp only [hab, if_false] at this
    simp only [bindS]
    rw [this]; simp [hab]

theorem app8 (l m : List Int) (h : l.length + m.length < 1000000) : appO 8 l m = some (l ++ m) := by
  simp only [appO]; rw [if_pos (by omega)]
theorem twinInts_eq (l : List Int) (h : l.length < 1000000) : wherrykeep_TwinInts l = some l := by
  unfold wherrykeep_TwinInts
  exact bnd (app8 [] l (by simpa using h)) rfl

def nat (l : List Int) : List Nat := l.map Int.toNat
def valid (l : List Int) : Prop := l.length ≤ 300 ∧ ∀ n ∈ l, 0 ≤ n ∧ n ≤ 15
instance (l : List Int) : Decidable (valid l) := by unfold valid; infer_instance
def err (l : List Int) : Int := if valid l then (if forms (nat l) then 0 else 4) else 1
theorem nat_ints {l : List Int} (h : valid l) : ints (nat l) = l := ints_nats fun n hn => (h.2 n hn).1
theorem nat_le {l : List Int} (h : valid l) : ∀ x ∈ nat l, x ≤ 15 := by
  intro x hx
  obtain ⟨n, hn, rfl⟩ := List.mem_map.1 hx
  have := h.2 n hn; omega
theorem nat_len (l : List Int) : (nat l).length = l.length := by simp [nat]
theorem check_eq2 (l : List Int) (hl : l.length ≤ 1000) : canon_Check l = some (err l) := by
  unfold err
  by_cases hv : valid l
  · rw [if_pos hv]
    have := check_ints (nat l) (by rw [nat_len]; exact hl)
    rw [if_pos ⟨by rw [nat_len]; exact hv.1, nat_le hv⟩, nat_ints hv] at this
    exact this
  · rw [if_neg hv]
    unfold canon_Check
    refine bnd (valid_eq l) (cnd_t ?_ rfl)
    rw [decide_eq_false (show ¬ (l.length ≤ 300 ∧ ∀ n ∈ l, 0 ≤ n ∧ n ≤ 15) from hv)]; rfl
theorem codes_eq2 (l : List Int) (hl : l.length ≤ 1000) : canon_Codes l = some (if err l = 0 then (ints (codes (nat l)), 0) else ([], err l)) := by
  by_cases he : err l = 0
  · rw [if_pos he]
    have hv : valid l := by
      refine Classical.byContradiction fun h => ?_
      rw [err, if_neg h] at he; omega
    have hf : forms (nat l) = true := by
      cases h : forms (nat l)
      · rw [err, if_pos hv, h] at he; simp at he
      · rfl
    have := codes_eq (nat l) (by rw [nat_len]; exact hv.1) (nat_le hv) hf
    rwa [nat_ints hv] at this
  · rw [if_neg he]
    unfold canon_Codes
    exact bnd (check_eq2 l hl) (cnd_t (by simp [he]) rfl)
theorem weigh_eq2 (l : List Int) (hl : l.length ≤ 1000) : canon_Weigh l = some (if valid l then ((ws (nat l) 15 : Nat) : Int) else 0) := by
  unfold canon_Weigh
  refine bnd (valid_eq l) ?_
  by_cases hv : valid l
  · rw [if_pos hv, decide_eq_true (show l.length ≤ 300 ∧ ∀ n ∈ l, 0 ≤ n ∧ n ≤ 15 from hv)]
    have h1 := count_eq (nat l) (nat_le hv) (by rw [nat_len]; exact hl)
    rw [nat_ints hv] at h1
    exact cnd_f rfl (bnd h1 (bnd (weight_eq (nat l) (by rw [nat_len]; exact hl)) rfl))
  · rw [if_neg hv, decide_eq_false (show ¬ (l.length ≤ 300 ∧ ∀ n ∈ l, 0 ≤ n ∧ n ≤ 15) from hv)]
    rfl

/-- The same lengths but for a 0 among them. -/
def with0 (m : List Nat) (p : Nat) : List Nat := m.take p ++ 0 :: m.drop p
theorem with0_count (m : List Nat) (p n : Nat) (h : n ≠ 0) : (with0 m p).count n = m.count n := by
  rw [with0, List.count_append, List.count_cons]
  have h2 : (0 == n) = false := by simp; omega
  rw [h2]
  conv => rhs; rw [← List.take_append_drop p m, List.count_append]
  simp
theorem with0_tal (m : List Nat) (p : Nat) : tal (with0 m p) = tal m := by
  unfold tal
  refine List.map_congr_left fun n _ => ?_
  by_cases h : n = 0
  · simp [h]
  · rw [if_neg h, if_neg h, with0_count m p n h]
theorem with0_ws (m : List Nat) (p : Nat) : ∀ k, ws (with0 m p) k = ws m k
  | 0 => rfl
  | k + 1 => by rw [ws, ws, with0_ws m p k, with0_count m p (k + 1) (by omega)]
theorem with0_forms (m : List Nat) (p : Nat) : forms (with0 m p) = forms m := by
  unfold forms; rw [with0_tal, with0_ws]
theorem with0_fst (m : List Nat) (p : Nat) : ∀ n, fst (with0 m p) n = fst m n
  | 0 => rfl
  | 1 => rfl
  | n + 2 => by rw [fst, fst, with0_fst m p (n + 1), with0_count m p (n + 1) (by omega)]
theorem with0_code (m : List Nat) (p : Nat) (hp : p ≤ m.length) (j : Nat) : code (with0 m p) j = if j < p then code m j else if j = p then 0 else code m (j - 1) := by
  have hl : (m.take p).length = p := by simp [hp]
  by_cases h1 : j < p
  · rw [if_pos h1]
    have hg : (with0 m p).getD j 0 = m.getD j 0 := by
      simp only [with0, List.getD_eq_getElem?_getD]
      rw [List.getElem?_append_left (by omega), List.getElem?_take, if_pos h1]
    have ht : (with0 m p).take j = m.take j := by
      rw [with0, List.take_append_of_le_length (by omega), List.take_take, Nat.min_eq_left (by omega)]
    unfold code
    rw [hg, ht, with0_fst]
  · rw [if_neg h1]
    by_cases h2 : j = p
    · rw [if_pos h2]
      have hg : (with0 m p).getD j 0 = 0 := by
        simp only [with0, List.getD_eq_getElem?_getD]
        rw [List.getElem?_append_right (by omega), hl, h2]; simp
      rw [code, if_pos hg]
    · rw [if_neg h2]
      obtain ⟨d, hd⟩ : ∃ d, j = p + (d + 1) := ⟨j - p - 1, by omega⟩
      have hg : (with0 m p).getD j 0 = m.getD (j - 1) 0 := by
        simp only [with0, List.getD_eq_getElem?_getD]
        rw [List.getElem?_append_right (by omega), hl, hd, show p + (d + 1) - p = d + 1 by omega, List.getElem?_cons_succ, List.getElem?_drop, show p + (d + 1) - 1 = p + d by omega]
      have ht : ∀ n, n ≠ 0 → ((with0 m p).take j).count n = (m.take (j - 1)).count n := by
        intro n hn
        have e1 : (with0 m p).take j = m.take p ++ 0 :: (m.drop p).take d := by
          rw [with0, List.take_append, hl, hd, show p + (d + 1) - p = d + 1 by omega, List.take_succ_cons, List.take_of_length_le (by omega)]
        have e2 : m.take (j - 1) = m.take p ++ (m.drop p).take d := by
          rw [hd, show p + (d + 1) - 1 = p + d by omega, List.take_add]
        rw [e1, e2, List.count_append, List.count_append, List.count_cons]
        have h2 : (0 == n) = false := by simp; omega
        rw [h2]; simp
      unfold code
      rw [hg]
      by_cases hz : m.getD (j - 1) 0 = 0
      · rw [if_pos hz, if_pos hz]
      · rw [if_neg hz, if_neg hz, ht _ hz, with0_fst]
theorem with0_len (m : List Nat) (p : Nat) : (with0 m p).length = m.length + 1 := by
  simp only [with0, List.length_append, List.length_take, List.length_cons, List.length_drop]; omega
theorem with0_codes (m : List Nat) (p : Nat) (hp : p ≤ m.length) : codes (with0 m p) = (codes m).take p ++ 0 :: (codes m).drop p := by
  have hl : ((codes m).take p).length = p := by simp [codes_len, hp]
  apply List.ext_getElem?
  intro j
  by_cases hj : j < m.length + 1
  · have e : (codes (with0 m p))[j]? = some (code (with0 m p) j) := by
      simp only [codes, with0_len, List.getElem?_map]
      rw [List.getElem?_range hj]; rfl
    have g : ∀ i, i < m.length → (codes m)[i]? = some (code m i) := by
      intro i hi
      simp only [codes, List.getElem?_map]
      rw [List.getElem?_range hi]; rfl
    rw [e, with0_code m p hp]
    by_cases h1 : j < p
    · rw [if_pos h1, List.getElem?_append_left (by omega), List.getElem?_take, if_pos h1, g j (by omega)]
    · rw [if_neg h1, List.getElem?_append_right (by omega), hl]
      by_cases h2 : j = p
      · rw [if_pos h2, h2, Nat.sub_self]; rfl
      · rw [if_neg h2]
        obtain ⟨d, hd⟩ : ∃ d, j = p + (d + 1) := ⟨j - p - 1, by omega⟩
        rw [hd, show p + (d + 1) - p = d + 1 by omega, List.getElem?_cons_succ, List.getElem?_drop, show p + (d + 1) - 1 = p + d by omega, g (p + d) (by omega)]
  · rw [List.getElem?_eq_none (by rw [codes_len, with0_len]; omega), List.getElem?_eq_none (by simp [codes_len]; omega)]

theorem canonNoughts_true (l : List Int) (at_ : Int) : wherrylaw02_CanonNoughts l at_ = some true := by
  unfold wherrylaw02_CanonNoughts
  by_cases l1 : 290 < l.length
  · exact cnd_t (by simp; omega) rfl
  refine cnd_f (by simp; omega) ?_
  obtain ⟨a, p, ha, hn, hr, hwp, hp⟩ := pick_of at_ (l.length + 1) (by omega) (by omega)
  have w1 : IntKind.i64.wrap ((l.length : Int) + 1) = ((l.length + 1 : Nat) : Int) := by rw [wrap_i64 (by omega) (by omega)]; simp
  have s1 : sliO l 0 (p : Int) = some (l.take p) := by simp only [sliO]; rw [if_pos (by omega)]; simp
  have s2 : sliO l (p : Int) (l.length : Int) = some (l.drop p) := by
    simp only [sliO]; rw [if_pos (by omega)]; simp
    exact List.take_of_length_le (by simp)
  refine bnd (x := (a : Int)) (by rw [ha]) (bnd (x := ((l.length + 1 : Nat) : Int)) (by rw [w1]) (bnd (x := ((l.length + 1 : Nat) : Int)) (by rw [hn]) (bnd hr (bnd (x := (p : Int)) (by rw [hwp]) (bnd s1 (bnd (app8 [] _ (by simp; omega)) (bnd (app8 _ _ (by simp; omega)) (bnd s2 (bnd (app8 _ _ (by simp; omega)) ?_)))))))))
  have hK : [] ++ l.take p ++ [0] ++ l.drop p = l.take p ++ 0 :: l.drop p := by simp
  rw [hK]
  generalize hKd : l.take p ++ 0 :: l.drop p = K
  have hKl : K.length = l.length + 1 := by rw [← hKd]; simp; omega
  have hKn : nat K = with0 (nat l) p := by rw [← hKd]; simp [nat, with0, List.map_take, List.map_drop]
  have hmem : (∀ n ∈ K, 0 ≤ n ∧ n ≤ 15) ↔ ∀ n ∈ l, 0 ≤ n ∧ n ≤ 15 := by
    rw [← hKd]
    constructor
    · intro h n hn
      rw [← List.take_append_drop p l, List.mem_append] at hn
      exact h n (by simp only [List.mem_append, List.mem_cons]; rcases hn with h1 | h1 <;> simp [h1])
    · intro h n hn
      simp only [List.mem_append, List.mem_cons] at hn
      rcases hn with h1 | h1 | h1
      · exact h n (List.mem_of_mem_take h1)
      · omega
      · exact h n (List.mem_of_mem_drop h1)
  have hvi : valid K ↔ valid l := by
    unfold valid
    rw [hmem, hKl]
    constructor <;> rintro ⟨h1, h2⟩ <;> exact ⟨by omega, h2⟩
  have herr : err K = err l := by
    unfold err
    by_cases hv : valid l
    · rw [if_pos hv, if_pos (hvi.2 hv), hKn, with0_forms]
    · rw [if_neg hv, if_neg (fun h => hv (hvi.1 h))]
  have hwe : canon_Weigh K = canon_Weigh l := by
    rw [weigh_eq2 K (by omega), weigh_eq2 l (by omega)]
    by_cases hv : valid l
    · rw [if_pos hv, if_pos (hvi.2 hv), hKn, with0_ws]
    · rw [if_neg hv, if_neg (fun h => hv (hvi.1 h))]
  have hcl := codes_eq2 l (by omega)
  have hcK := codes_eq2 K (by omega)
  rw [herr] at hcK
  by_cases he : err l = 0
  case neg =>
    rw [if_neg he] at hcl hcK
    refine bnd hcl (bnd hcK (bndL (s := false) (cnd_f (by simp) (bnd (weigh_eq2 l (by omega)) (bnd (hwe.trans (weigh_eq2 l (by omega))) (cnd_f (by simp) (bnd (check_eq2 l (by omega)) (bnd (check_eq2 K (by omega)) ?_)))))) (cnd_f rfl (cnd_t (by simp [he]) (bnd wakes02 rfl)))))
    rw [herr]; simp
  rw [if_pos he] at hcl hcK
  refine bnd hcl (bnd hcK (bndL (s := false) (cnd_f (by simp) (bnd (weigh_eq2 l (by omega)) (bnd (hwe.trans (weigh_eq2 l (by omega))) (cnd_f (by simp) (bnd (check_eq2 l (by omega)) (bnd (check_eq2 K (by omega)) ?_)))))) (cnd_f rfl (cnd_f rfl ?_))))
  · rw [herr]; simp
  have hpl : p ≤ (nat l).length := by rw [nat_len]; omega
  rw [hKn]
  have hcc := with0_codes (nat l) p hpl
  have hlen1 : (ints (codes (nat l))).length = l.length := by rw [ints_len, codes_len, nat_len]
  have hlen2 : (ints (codes (with0 (nat l) p))).length = l.length + 1 := by rw [ints_len, codes_len, with0_len, nat_len]
  have w2 : IntKind.i64.wrap (((ints (codes (nat l))).length : Int) + 1) = ((l.length + 1 : Nat) : Int) := by rw [hlen1, w1]
  have hget : getO (ints (codes (with0 (nat l) p))) p = some 0 := by
    rw [codes_get _ (by rw [with0_len]; omega), with0_code _ _ hpl, if_neg (by omega), if_pos rfl]; rfl
  have e3 : ints (codes (with0 (nat l) p)) = (ints (codes (nat l))).take p ++ 0 :: (ints (codes (nat l))).drop p := by
    rw [hcc]; simp [ints, List.map_take, List.map_drop]
  have t1 : sliO (ints (codes (with0 (nat l) p))) 0 (p : Int) = some ((ints (codes (nat l))).take p) := by
    simp only [sliO]; rw [if_pos (by omega), e3]
    simp only [Int.toNat_zero, List.drop_zero, Nat.sub_zero, Int.toNat_natCast]
    rw [List.take_append_of_le_length (by simp; omega), List.take_take, Nat.min_self]
  have hpK : p < (ints (codes (with0 (nat l) p))).length := by omega
  have w3 : IntKind.i64.wrap ((p : Int) + 1) = ((p + 1 : Nat) : Int) := by rw [wrap_i64 (by omega) (by omega)]; simp
  have t2 : sliO (ints (codes (with0 (nat l) p))) ((p + 1 : Nat) : Int) ((ints (codes (with0 (nat l) p))).length : Int) = some ((ints (codes (nat l))).drop p) := by
    simp only [sliO]; rw [if_pos (by omega), Int.toNat_natCast, Int.toNat_natCast, List.take_of_length_le (by simp), e3]
    have hA : ((ints (codes (nat l))).take p).length = p := by simp; omega
    rw [List.drop_append, List.drop_of_length_le (by omega), hA, show p + 1 - p = 1 by omega]
    rfl
  refine bndL (s := false) (bnd (x := ((l.length + 1 : Nat) : Int)) (by rw [w2]) (cnd_f ?_ (bnd (ixO_of hpK) (bnd hget rfl)))) (cnd_f rfl ?_)
  · rw [hlen2]; simp
  refine bndL (s := true) (bnd t1 (bnd (twinInts_eq _ (by simp; omega)) (bnd (x := ((p + 1 : Nat) : Int)) (by rw [w3]) (bnd t2 (bnd (app8 _ _ (by simp; omega)) (bnd (keepInts_eq _ _ (by simp; omega)) (cnd_t ?_ (bnd wakes02 rfl)))))))) rfl
  rw [List.take_append_drop]; simp
end Go.Abs.Sh
