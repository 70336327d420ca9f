import Derived.Test.YtepkcpjfogjfhaaMatJ
namespace Go.Abs.Sh
set_option linter.unusedVariables false
set_option linter.unusedSimpArgs false
set_option maxRecDepth 10000
def btS (v6 : List T_Tok) (v10 : Int) : ((Int × Int)) → Option ((Int × Int) ⊕ ((Int) ⊕ Bool)) := (fun ((s20, s21) : Int × Int) =>
        cond ((decide (s21 < v10)))
          ((ixO s21 v6.length).bind fun v12 =>
          (getO v6 v12).bind fun v13 =>
          (some (if v13.Len > 1 then v13.Len else 1)).bind fun v14 =>
          (some (IntKind.i64.wrap (s20 + v14))).bind fun v15 =>
          (some (IntKind.i64.wrap (s21 + 1))).bind fun v16 =>
          some (.inl (v15, v16)))
          (some (.inr (.inl s20))))
theorem set_split {A : Type} (l : List A) (i : Nat) (x : A) (h : i < l.length) : l.set i x = l.take i ++ x :: l.drop (i + 1) := by
  rw [List.set_eq_take_append_cons_drop, if_pos h]
theorem chk_bad {l : List T_Tok} {i m n : Nat} {t : T_Tok} (hi : i < l.length) (hc : chkF l 0 = some n) (hm : tlS (l.take i) = m) (hb : okT t m = false) : chkF (l.set i t) 0 = none := by
  have h1 : chkF (l.take i) 0 = some m := by
    rw [← List.take_append_drop i l, chkF_app] at hc
    cases h : chkF (l.take i) 0 with
    | none => rw [h] at hc; cases hc
    | some k =>
      have := chkF_tlS _ _ _ h
      rw [show k = m by omega]
  rw [set_split l i t hi, chkF_app, h1]
  show chkF (t :: _) m = none
  simp only [chkF]
  rw [if_neg (by rw [hb]; decide)]
theorem matchBent_true (b : List Int) (at_ what : Int) (hb : wfL (wfI .u8) b) : wherrylaw04_MatchBent b at_ what = some true := by
  unfold wherrylaw04_MatchBent
  by_cases h1 : 1200 < b.length
  · exact bndL (s := true) (cnd_t (decide_eq_true (by omega)) rfl) (cnd_t rfl rfl)
  by_cases h0 : b.length = 0
  · exact bndL (s := true) (cnd_f (decide_eq_false (by omega)) (inl_ofB (beq_iff_eq.2 (by omega)))) (cnd_t rfl rfl)
  refine bndL (s := false) (cnd_f (decide_eq_false (by omega)) (inl_ofB (beq_eq_false_iff_ne.2 (by omega)))) (cnd_f rfl ?_)
  have hc := chk_toksS b
  have hle := chkF_le _ _ _ hc
  have hall := chkF_all _ _ _ hc
  have hsum := chkF_tlS _ _ _ hc
  have hl1 : 1 ≤ (toksS b).length := by omega
  have hl2 : (toksS b).length ≤ 1200 := by omega
  have ht : wherrylaw04_wherryToks b = some (toksS b) := bnd (ref_tokens (by omega)) rfl
  have hck0 : ckE (toksS b) = 0 := by
    unfold ckE
    rw [hc]
    show (if 4096 < b.length then _ else _) = _
    rw [if_neg (by omega)]
  have hce := check_eq (l := toksS b) (by omega)
  rw [hck0] at hce
  generalize toksS b = l at *
  obtain ⟨A, i, hA, hr, hi, hw⟩ := mod_arg at_ l.length (by omega) (by omega)
  have hwl : IntKind.u64.wrap (l.length : Int) = (l.length : Int) := wrap_u64s (by omega) (by omega)
  obtain ⟨m, hm⟩ : ∃ m, tlS (l.take i) = m := ⟨_, rfl⟩
  have htk : ∀ j, tlS (l.take j) ≤ 258 * 1200 := fun j => by
    have := tlS_le (l := l.take j) fun t ht => hall t (List.mem_of_mem_take ht)
    have hl2 : (l.take j).length ≤ 1200 := by simp only [List.length_take]; omega
    omega
  have hlp : loopF (btS l (i : Int)) BIG (0, 0) = some (.inl (m : Int)) := by
    refine loop_from (fun j => (((tlS (l.take j) : Nat) : Int), ((j : Nat) : Int))) i BIG rfl (by simp only [BIG]; omega) (fun j hj => ?_) ?_
    · have hj2 : j < l.length := by omega
      have hmx := max_tl (hall _ (List.getElem_mem hj2))
      have htl : tl l[j] ≤ 258 := by have := hall _ (List.getElem_mem hj2); unfold tl; split <;> omega
      have hb := htk j
      have e : tlS (l.take (j + 1)) = tlS (l.take j) + tl l[j] := by
        rw [List.take_succ_eq_append_getElem hj2, tlS_app]; simp [tlS]
      have hw : IntKind.i64.wrap (((tlS (l.take j) : Nat) : Int) + ((tl l[j] : Nat) : Int)) = ((tlS (l.take (j + 1)) : Nat) : Int) := by rw [e, wrap_i64 (by omega) (by omega)]; omega
      exact cnd_t (decide_eq_true (by omega)) (bnd (ixO_of hj2) (bnd (getO_of hj2) (bnd (congrArg some hmx) (bnd (congrArg some hw) (bnd (congrArg some (wrap_succ (n := j) (by omega))) rfl)))))
    · rw [hm]
      exact cnd_f (decide_eq_false (by omega)) rfl
  have hmb := htk i
  rw [hm] at hmb
  have htw : wherrykeep_TwinToks l = some l := by
    unfold wherrykeep_TwinToks
    exact bnd (app_of (by simp only [List.length_nil]; omega) (by simp only [List.length_nil]; omega)) rfl
  obtain ⟨B, r, hB, hr4, hr5, _⟩ := mod_arg what 4 (by omega) (by omega)
  obtain ⟨u, hu⟩ : ∃ u, getO l i = some u := ⟨_, getO_of hi⟩
  have fin : ∀ t : T_Tok, okT t m = false → ((match_Expand (l.set i t)).bind fun v71 =>
                bindS (S := Bool) (A := Bool)
                  ((match_Check l).bind fun v72 =>
                  cond ((v72 == 0))
                    ((match_Check (l.set i t)).bind fun v73 =>
                    cond ((v73 == 1))
                      (cond ((v71.2 == 1))
                        (cond (((v71.1.length : Int) == 0))
                          ((wherrylaw04_wakes ).bind fun v74 =>
                          some (.inl v74))
                          (some (.inl false)))
                        (some (.inl false)))
                      (some (.inl false)))
                    (some (.inl false)))
                  (fun (s75 : Bool) =>
                    some (s75)) some) = some true := by
    intro t hbad
    have hcb := chk_bad hi hc hm hbad
    have hxl : (l.set i t).length ≤ 1000000 := by rw [List.length_set]; omega
    have hce2 := check_eq hxl
    have hex2 := expand_eq hxl
    unfold ckE at hce2
    unfold exE at hex2
    rw [hcb] at hce2 hex2
    exact bnd hex2 (bndL (s := true) (bnd hce (cnd_t rfl (bnd hce2 (cnd_t rfl (cnd_t rfl (cnd_t rfl (bnd wakes04 rfl))))))) rfl)
  refine bnd ht (bnd (congrArg some hA) (bnd (congrArg some hwl) (bnd hr (bnd (congrArg some hw) (bndL hlp (bnd htw ?_))))))
  have hrr : r = 0 ∨ r = 1 ∨ r = 2 ∨ r = 3 := by omega
  have hw1 : IntKind.i64.wrap ((m : Int) + 1) = ((m + 1 : Nat) : Int) := wrap_succ (by omega)
  rcases hrr with rfl | rfl | rfl | rfl
  · refine bndL (s := l.set i ⟨0, 3, ((m + 1 : Nat) : Int)⟩) (bnd (congrArg some hB) (bnd hr4 (bndL (s := l.set i ⟨0, 3, ((m + 1 : Nat) : Int)⟩) (cnd_t rfl (bnd (congrArg some hw1) (bnd (ixO_of hi) (bnd hu rfl)))) rfl))) (fin _ ?_)
    unfold okT
    rw [decide_eq_false_iff_not]
    rintro (h | h)
    · exact absurd (show (3 : Int) = 0 from h.1) (by decide)
    · have := h.2
      simp only at this
      omega
  · refine bndL (s := l.set i ⟨0, 2, 1⟩) (bnd (congrArg some hB) (bnd hr4 (bndL (s := l.set i ⟨0, 2, 1⟩) (cnd_f rfl (cnd_t rfl (bnd (ixO_of hi) (bnd hu rfl)))) rfl))) (fin _ ?_)
    unfold okT
    rw [decide_eq_false_iff_not]
    rintro (h | h)
    · exact absurd h.1 (by decide)
    · exact absurd h.1.2.1 (by decide)
  · refine bndL (s := l.set i ⟨0, 259, 1⟩) (bnd (congrArg some hB) (bnd hr4 (bndL (s := l.set i ⟨0, 259, 1⟩) (cnd_f rfl (cnd_f rfl (cnd_t rfl (bnd (ixO_of hi) (bnd hu rfl))))) rfl))) (fin _ ?_)
    unfold okT
    rw [decide_eq_false_iff_not]
    rintro (h | h)
    · exact absurd h.1 (by decide)
    · exact absurd h.1.2.2.1 (by decide)
  · refine bndL (s := l.set i ⟨1, 3, 1⟩) (bnd (congrArg some hB) (bnd hr4 (bndL (s := l.set i ⟨1, 3, 1⟩) (cnd_f rfl (cnd_f rfl (cnd_f rfl (bnd (ixO_of hi) (bnd hu rfl))))) rfl))) (fin _ ?_)
    unfold okT
    rw [decide_eq_false_iff_not]
    rintro (h | h)
    · exact absurd h.1 (by decide)
    · exact absurd h.1.1 (by decide)
/-! A text twice over. -/
theorem cm_app {b : List Int} (c : List Int) {p at_ : Nat} (hp : p ≤ at_) (ha : at_ ≤ b.length) : cmL b p at_ ≤ cmL (b ++ c) p at_ := by
  have hle := cm_le b (p := p) (at_ := at_)
  refine cm_ge hle.1 hp (by rw [List.length_append]; omega) fun j hj => ?_
  rw [List.getElem?_append_left (by omega), List.getElem?_append_left (by omega)]
  exact cm_get hj
theorem cm_cut {b c : List Int} {p at_ m : Nat} (hp : p ≤ at_) (hm : at_ + m ≤ b.length) (h : m ≤ cmL (b ++ c) p at_) : m ≤ cmL b p at_ := by
  have hle := cm_le (b ++ c) (p := p) (at_ := at_)
  refine cm_ge (by omega) hp hm fun j hj => ?_
  have := cm_get (b := b ++ c) (p := p) (at_ := at_) (k := j) (by omega)
  rwa [List.getElem?_append_left (by omega), List.getElem?_append_left (by omega)] at this
theorem best_ge {b : List Int} {at_ o m : Nat} (h1 : 1 ≤ o) (h2 : o ≤ min at_ 2048) (h3 : 3 ≤ m) (h : m ≤ cmL b (at_ - o) at_) : m ≤ (bestS b at_).1 := by
  rcases best_beats (b := b) h1 h2 (by omega) with h4 | h4 <;> omega
theorem twice_count {b : List Int} (hl : b.length ≤ 600) : ∀ (k q : Nat), b.length ≤ q → q ≤ 2 * b.length → 2 * b.length - q ≤ k → (toks (b ++ b) k q).length ≤ (2 * b.length - q) / 258 + 2
  | 0, q, h1, h2, hk => by simp [toks]
  | k + 1, q, h1, h2, hk => by
    have hbl : (b ++ b).length = 2 * b.length := by rw [List.length_append]; omega
    by_cases hq : q < 2 * b.length
    case neg => rw [toks_end (by omega)]; simp
    by_cases h3 : 2 * b.length - q < 3
    · have := toks_len (b ++ b) (k + 1) q
      omega
    unfold toks
    rw [if_pos (by omega)]
    have hcm : min 258 (2 * b.length - q) ≤ cmL (b ++ b) (q - b.length) q := by
      refine cm_ge (by omega) (by omega) (by omega) fun j hj => ?_
      rw [List.getElem?_append_left (by omega), List.getElem?_append_right (by omega)]
      congr 1
      omega
    have hge := best_ge (b := b ++ b) (at_ := q) (o := b.length) (by omega) (by omega) (by omega) hcm
    have hs := bestS_cases (b ++ b) q
    rcases hs with h0 | ⟨c1, c2, c3, _⟩
    · rw [h0] at hge; simp at hge; omega
    · rw [if_neg (by omega), List.length_cons]
      by_cases hbig : 2 * b.length - q ≤ 258
      · rw [toks_end (by omega)]
        simp
      · have := twice_count hl k (q + (bestS (b ++ b) q).1) (by omega) (by omega) (by omega)
        omega
theorem twice_le {b : List Int} (hl : b.length ≤ 600) : ∀ (k at_ : Nat), at_ ≤ b.length → b.length - at_ ≤ k → ∀ k2, 2 * b.length - at_ ≤ k2 → (toks (b ++ b) k2 at_).length ≤ (toks b k at_).length + (b.length / 258 + 2)
  | 0, at_, ha, hk, k2, hk2 => by
    have := twice_count hl k2 at_ (by omega) (by omega) hk2
    have e : 2 * b.length - at_ = b.length := by omega
    rw [e] at this
    omega
  | k + 1, at_, ha, hk, k2, hk2 => by
    have hbl : (b ++ b).length = 2 * b.length := by rw [List.length_append]; omega
    by_cases he : at_ < b.length
    case neg =>
      have := twice_count hl k2 at_ (by omega) (by omega) hk2
      have e : 2 * b.length - at_ = b.length := by omega
      rw [e] at this
      omega
    obtain ⟨k3, rfl⟩ : ∃ k3, k2 = k3 + 1 := ⟨k2 - 1, by omega⟩
    have hA := bestS_cases (b ++ b) at_
    have hB := bestS_cases b at_
    have up : (bestS b at_).1 ≤ (bestS (b ++ b) at_).1 := by
      rcases hB with h | ⟨c1, c2, c3, c4, c5, c6⟩
      · rw [h]; exact Nat.zero_le _
      · have := cm_app b (b := b) (p := at_ - (bestS b at_).2) (at_ := at_) (by omega) (by omega)
        exact best_ge (b := b ++ b) (at_ := at_) (o := (bestS b at_).2) c4 c5 c1 (by omega)
    by_cases hfit : at_ + (bestS (b ++ b) at_).1 ≤ b.length
    · have down : (bestS (b ++ b) at_).1 ≤ (bestS b at_).1 := by
        rcases hA with h | ⟨c1, c2, c3, c4, c5, c6⟩
        · rw [h]; exact Nat.zero_le _
        · have := cm_cut (b := b) (c := b) (p := at_ - (bestS (b ++ b) at_).2) (at_ := at_) (m := (bestS (b ++ b) at_).1) (by omega) hfit (by omega)
          exact best_ge (b := b) (at_ := at_) (o := (bestS (b ++ b) at_).2) c4 c5 c1 this
      have heq : (bestS (b ++ b) at_).1 = (bestS b at_).1 := by omega
      unfold toks
      rw [if_pos (by omega), if_pos he, heq]
      by_cases hz : (bestS b at_).1 = 0
      · rw [if_pos hz, if_pos hz, List.length_cons, List.length_cons]
        have := twice_le hl k (at_ + 1) (by omega) (by omega) k3 (by omega)
        omega
      · rw [if_neg hz, if_neg hz, List.length_cons, List.length_cons]
        have := twice_le hl k (at_ + (bestS b at_).1) (by omega) (by omega) k3 (by omega)
        omega
    · have h1 : 1 ≤ (toks b (k + 1) at_).length := by
        unfold toks
        rw [if_pos he]
        split <;> simp
      have hz : ¬ (bestS (b ++ b) at_).1 = 0 := by omega
      have hc3 : at_ + (bestS (b ++ b) at_).1 ≤ 2 * b.length := by
        rcases hA with h | ⟨c1, c2, c3, _⟩
        · rw [h] at hz; exact absurd rfl hz
        · omega
      have := twice_count hl k3 (at_ + (bestS (b ++ b) at_).1) (by omega) hc3 (by omega)
      have hd : (2 * b.length - (at_ + (bestS (b ++ b) at_).1)) / 258 ≤ b.length / 258 := Nat.div_le_div_right (by omega)
      have hlen : (toks (b ++ b) (k3 + 1) at_).length = (toks (b ++ b) k3 (at_ + (bestS (b ++ b) at_).1)).length + 1 := by
        conv => lhs; unfold toks
        rw [if_pos (by omega), if_neg hz, List.length_cons]
      omega
theorem matchLonger_true (b : List Int) (hb : wfL (wfI .u8) b) : wherrylaw04_MatchLonger b = some true := by
  unfold wherrylaw04_MatchLonger
  by_cases h1 : 600 < b.length
  · exact bndL (s := true) (cnd_t (decide_eq_true (by omega)) rfl) (cnd_t rfl rfl)
  by_cases h0 : b.length < 3
  · exact bndL (s := true) (cnd_f (decide_eq_false (by omega)) (inl_ofB (decide_eq_true (by omega)))) (cnd_t rfl rfl)
  refine bndL (s := false) (cnd_f (decide_eq_false (by omega)) (inl_ofB (decide_eq_false (by omega)))) (cnd_f rfl ?_)
  have hy := bys hb
  have hy2 : ∀ n ∈ b ++ b, 0 ≤ n ∧ n < 256 := fun n hn => by
    rcases List.mem_append.1 hn with h | h
    · exact hy n h
    · exact hy n h
  have htw : wherrykeep_Twin b = some b := by
    unfold wherrykeep_Twin
    exact bnd (app_of (by simp only [List.length_nil]; omega) (by simp only [List.length_nil]; omega)) rfl
  have hbl : (b ++ b).length = 2 * b.length := by rw [List.length_append]; omega
  have hle := twice_le (b := b) (by omega) b.length 0 (by omega) (by omega) (b ++ b).length (by omega)
  have hl1 := toksS_len b
  have hl2 := toksS_len (b ++ b)
  have hq := quo_nat b.length 258 (by omega) (by omega)
  have hd : b.length / 258 ≤ b.length := Nat.div_le_self _ _
  have hw1 : IntKind.i64.wrap (((toksS b).length : Int) + ((b.length / 258 : Nat) : Int)) = (((toksS b).length + b.length / 258 : Nat) : Int) := by rw [wrap_i64 (by omega) (by omega)]; omega
  have hw2 : IntKind.i64.wrap ((((toksS b).length + b.length / 258 : Nat) : Int) + 3) = (((toksS b).length + b.length / 258 + 3 : Nat) : Int) := by rw [wrap_i64 (by omega) (by omega)]; omega
  have hfin : decide (((toksS (b ++ b)).length : Int) ≤ (((toksS b).length + b.length / 258 + 3 : Nat) : Int)) = true := decide_eq_true (by unfold toksS; omega)
  exact bnd htw (bnd (app_of (by omega) (by omega)) (bnd (tokens_eq hy2 (by omega)) (bnd (tokens_eq hy (by omega)) (bndL (s := false) (cnd_f rfl rfl) (cnd_f rfl (bndL (s := true) (bnd hq (bnd (congrArg some hw1) (bnd (congrArg some hw2) (cnd_t hfin (bnd wakes04 rfl))))) rfl))))))
end Go.Abs.Sh
