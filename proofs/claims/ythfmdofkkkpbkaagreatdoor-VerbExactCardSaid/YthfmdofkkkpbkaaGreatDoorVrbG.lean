import Derived.Test.YthfmdofkkkpbkaaGreatDoorVrbW
namespace Go.Abs.Sh
set_option linter.unusedVariables false
set_option linter.unusedSimpArgs false
set_option maxRecDepth 100000
/-! The page's reader of a line. -/
theorem loop_scan {R : Type} {f : Int → Option (Int ⊕ (Int ⊕ R))} (c : Int) (l : List Int) {fuel : Nat} (hf : l.length < fuel)
    (hgo : ∀ i, i < l.length → l.getD i 0 ≠ c → f (i : Int) = some (.inl ((i + 1 : Nat) : Int))) (hno : ∀ i, i < l.length → l.getD i 0 = c → f (i : Int) = some (.inr (.inl (i : Int)))) (hend : f (l.length : Int) = some (.inr (.inl (l.length : Int)))) :
    loopF f fuel 0 = some (.inl (((match idx1 c l with | none => l.length | some e => e) : Nat) : Int)) := by
  cases hi : idx1 c l with
  | none =>
    have h := idx1_none.1 hi
    refine loop_from (fun i => (i : Int)) l.length fuel rfl hf (fun i hi => hgo i hi ?_) hend
    intro e
    apply h
    rw [← e, List.getD_eq_getElem?_getD, List.getElem?_eq_getElem hi]
    exact List.getElem_mem hi
  | some e =>
    obtain ⟨h1, h2, h3⟩ := idx1_some hi
    refine loop_from (fun i => (i : Int)) e fuel rfl (by omega) (fun i hi => hgo i (by omega) ?_) (hno e (by omega) ?_)
    · intro he
      apply h3
      rw [← he, List.getD_eq_getElem?_getD, List.getElem?_eq_getElem (show i < l.length by omega)]
      exact List.mem_take_iff_getElem.2 ⟨i, by omega, rfl⟩
    · rw [h2, List.getD_eq_getElem?_getD, List.getElem?_append_right (by simp; omega)]
      have : (l.take e).length = e := by simp; omega
      rw [this, Nat.sub_self]; rfl
theorem begins_eq (s w : ByteArray) (hs : s.size < 140737488355328) (hw : lowL (sbytes w) = sbytes w) : wherryref11_begins s w = some (match pfx (sbytes w) (sbytes s) with | none => (e0, false) | some r => (bstr r, true)) := by
  unfold wherryref11_begins pfx
  rw [sbytes_len, sbytes_len]
  by_cases h : s.size < w.size
  · rw [if_neg (by omega)]
    exact bndL (s := true) (cnd_t (decide_eq_true (by omega)) rfl) (cnd_t rfl rfl)
  · have h1 := sub_of (s := s) (a := 0) (b := w.size) (by omega) (by omega)
    rw [List.drop_zero, Nat.sub_zero] at h1
    have hbt : byt ((sbytes s).take w.size) := byt_take (byt_sbytes s) _
    have h2 := rfold_eq (bstr ((sbytes s).take w.size)) (by rw [bstr_size, List.length_take, sbytes_len]; omega)
    have h4 : ((lowS (bstr ((sbytes s).take w.size))).toList == w.toList) = decide (lowL ((sbytes s).take w.size) = lowL (sbytes w)) := by
      rw [eqL, sbytes_low, sbytes_bstr hbt, hw]
    by_cases hq : lowL ((sbytes s).take w.size) = lowL (sbytes w)
    · rw [if_pos ⟨by omega, hq⟩]
      rw [decide_eq_true hq] at h4
      have h3 := sub_of (s := s) (a := w.size) (b := s.size) (by omega) (by omega)
      rw [List.take_of_length_le (by rw [List.length_drop, sbytes_len]; exact Nat.le_refl _)] at h3
      exact bndL (s := false) (cnd_f (decide_eq_false (by omega)) (bnd h1 (bnd h2 (by rw [h4]; rfl)))) (cnd_f rfl (bnd h3 rfl))
    · rw [if_neg (fun h => hq h.2)]
      rw [decide_eq_false hq] at h4
      exact bndL (s := true) (cnd_f (decide_eq_false (by omega)) (bnd h1 (bnd h2 (by rw [h4]; rfl)))) (cnd_t rfl rfl)
theorem first_eq (s : ByteArray) (hs : s.size < 140737488355328) : wherryref11_first s = some (lowS (bstr (cutW 32 (sbytes s)).1)) := by
  unfold wherryref11_first
  have hl : (sbytes s).length = s.size := sbytes_len s
  have hstep := loop_find (R := ByteArray) (f := fun (s10 : Int) =>
      cond ((decide (s10 < (s.size : Int))))
        ((chrO s s10).bind fun v2 =>
        cond ((v2 == 32))
          ((subO s 0 s10).bind fun v4 =>
          (wherryref11_Fold v4).bind fun v5 =>
          some (.inr (.inr (v5))))
          ((some (IntKind.i64.wrap (s10 + 1))).bind fun v6 =>
          some (.inl v6)))
        (some (.inr (.inl ())))) 32 (sbytes s) (fun i => lowS (bstr ((sbytes s).take i))) (fuel := BIG) (by simp only [BIG]; omega)
    (fun i hi hne => cnd_t (decide_eq_true (by omega)) (bnd (chrD (by omega)) (cnd_f (beq_eq_false_iff_ne.2 hne) (bnd (some_wrap (by omega) (by omega)) rfl))))
    (fun i hi he => by
      have h1 := sub_of (s := s) (a := 0) (b := i) (by omega) (by omega)
      rw [List.drop_zero, Nat.sub_zero] at h1
      exact cnd_t (decide_eq_true (by omega)) (bnd (chrD (by omega)) (cnd_t (beq_iff_eq.2 he) (bnd h1 (bnd (rfold_eq _ (by rw [bstr_size, List.length_take]; omega)) rfl)))))
    (cnd_f (decide_eq_false (by omega)) rfl)
  unfold cutW
  cases hi : idx1 32 (sbytes s) with
  | none =>
    rw [hi] at hstep
    simp only [bstr_sbytes]
    exact bndL hstep (bnd (rfold_eq s hs) rfl)
  | some e =>
    rw [hi] at hstep
    exact bndR hstep rfl
theorem among_eq (v : ByteArray) (l : List ByteArray) (hl : l.length < 1000) : wherryref11_among v l = some (l.any fun x => decide (sbytes x = sbytes v)) := by
  unfold wherryref11_among
  have hc : ∀ i (h : i < l.length), (l[i].toList == v.toList) = decide (sbytes l[i] = sbytes v) := fun i h => eqL _ _
  rcases first_fail (fun i => decide (∀ h : i < l.length, ¬ sbytes l[i] = sbytes v)) l.length with h | ⟨k, hk, hb, hf⟩
  · have hall : ∀ i (h : i < l.length), ¬ sbytes l[i] = sbytes v := fun i hi => of_decide_eq_true (h i hi) hi
    have hany : (l.any fun x => decide (sbytes x = sbytes v)) = false := by
      refine List.any_eq_false.2 fun x hx => ?_
      obtain ⟨i, hi, rfl⟩ := List.mem_iff_getElem.1 hx
      simpa using hall i hi
    rw [hany]
    exact bndL (s := ()) (loop_from (fun i => (i : Int)) l.length _ rfl (by simp only [BIG]; omega) (fun i hi => cnd_t (decide_eq_true (by omega)) (bnd (ixO_of hi) (bnd (getO_of hi) (cnd_f (by rw [hc i hi, decide_eq_false (hall i hi)]) (bnd (some_wrap (by omega) (by omega)) rfl))))) (cnd_f (decide_eq_false (by omega)) rfl)) rfl
  · have hkk : sbytes l[k] = sbytes v := by
      have := of_decide_eq_false hf
      by_cases h : sbytes l[k] = sbytes v
      · exact h
      · exact absurd (fun _ => h) this
    have hbb : ∀ i (h : i < k), ¬ sbytes l[i] = sbytes v := fun i hi => of_decide_eq_true (hb i hi) (by omega)
    have hany : (l.any fun x => decide (sbytes x = sbytes v)) = true := List.any_eq_true.2 ⟨l[k], List.getElem_mem hk, decide_eq_true hkk⟩
    rw [hany]
    exact bndR (loop_from (fun i => (i : Int)) k _ rfl (by simp only [BIG]; omega) (fun i hi => cnd_t (decide_eq_true (by omega)) (bnd (ixO_of (by omega)) (bnd (getO_of (by omega)) (cnd_f (by rw [hc i (by omega), decide_eq_false (hbb i hi)]) (bnd (some_wrap (by omega) (by omega)) rfl))))) (cnd_t (decide_eq_true (by omega)) (bnd (ixO_of hk) (bnd (getO_of hk) (cnd_t (by rw [hc k hk, decide_eq_true hkk]) rfl))))) rfl
def numV : List Int → Int → Int
  | [], n => n
  | c :: l, n => numV l (10 * n + (c - 48))
theorem numV_snoc : ∀ (l : List Int) (c n : Int), numV (l ++ [c]) n = 10 * numV l n + (c - 48)
  | [], c, n => rfl
  | x :: l, c, n => by
    rw [List.cons_append]
    unfold numV
    exact numV_snoc l c _
theorem numV_bound : ∀ (l : List Int) (n : Int), l.all dgB = true → 0 ≤ n → 0 ≤ numV l n ∧ numV l n < (n + 1) * 10 ^ l.length
  | [], n, _, hn => by unfold numV; simp; omega
  | c :: l, n, h, hn => by
    rw [List.all_cons, Bool.and_eq_true] at h
    have hc : 48 ≤ c ∧ c ≤ 57 := by
      have := h.1
      simpa only [dgB, Bool.and_eq_true, decide_eq_true_eq] using this
    have ih := numV_bound l (10 * n + (c - 48)) h.2 (by omega)
    unfold numV
    refine ⟨ih.1, Int.lt_of_lt_of_le ih.2 ?_⟩
    rw [List.length_cons, Int.pow_succ, Int.mul_comm ((10 : Int) ^ l.length) 10, ← Int.mul_assoc]
    exact Int.mul_le_mul_of_nonneg_right (by omega) (Int.le_of_lt (Int.pow_pos (by decide)))
theorem rdig {c : Int} : wherryref11_digit c = some (dgB c) := rdigit c
theorem rnum_eq (s : ByteArray) (hs : s.size < 140737488355328) : ∃ n, wherryref11_number s 9 = some n ∧ decide (0 ≤ n) = numB (sbytes s) := by
  unfold wherryref11_number numB
  have hl : (sbytes s).length = s.size := sbytes_len s
  have hin := in_eq (s.size : Int) 1 9
  by_cases he : sbytes s = []
  · have h0 : s.size = 0 := by rw [← hl, he]; rfl
    rw [h0] at hin
    refine ⟨-1, bndL (s := true) (bnd (by rw [h0]; exact hin) (cnd_t rfl rfl)) (cnd_t rfl rfl), ?_⟩
    rw [he]; rfl
  · have h0 : 0 < s.size := by rw [← hl]; exact List.length_pos_iff.2 he
    have hne : (sbytes s).isEmpty = false := by
      cases h : (sbytes s).isEmpty with
      | false => rfl
      | true => exact absurd (List.isEmpty_iff.1 h) he
    rw [hne]
    by_cases h9 : s.size ≤ 9
    · rw [decide_eq_true (p := 1 ≤ (s.size : Int)) (by omega), decide_eq_true (p := (s.size : Int) ≤ 9) (by omega)] at hin
      rw [decide_eq_true (p := (sbytes s).length ≤ 9) (by omega)]
      have hc := chrD h0
      have hh := head_getD he
      have hguard : (cond ((decide (1 < (s.size : Int))))
        ((chrO s 0).bind fun v2 =>
        some (.inl (v2 == 48)))
        (some (.inl false)) : Option (Bool ⊕ Int)) = some (.inl ((sbytes s).head? == some 48 && decide (sbytes s ≠ [48]))) := by
        rw [hh]
        by_cases h1 : 1 < s.size
        · have hn1 : sbytes s ≠ [48] := fun h => by rw [← hl, h] at h1; simp at h1
          refine cnd_t (decide_eq_true (by omega)) (bnd hc ?_)
          rw [decide_eq_true hn1, Bool.and_true]
          by_cases h48 : (sbytes s).getD 0 0 = 48
          · rw [h48]; rfl
          · rw [beq_eq_false_iff_ne.2 h48, beq_eq_false_iff_ne.2 fun h => h48 (Option.some.inj h)]
        · refine cnd_f (decide_eq_false (by omega)) ?_
          obtain ⟨x, hx⟩ : ∃ x, sbytes s = [x] := List.length_eq_one_iff.1 (by omega)
          rw [hx]
          by_cases h48 : x = 48
          · rw [h48]; rfl
          · have : ([x].getD 0 0 : Int) = x := rfl
            rw [this, beq_eq_false_iff_ne.2 fun h => h48 (Option.some.inj h)]; rfl
      cases hq : ((sbytes s).head? == some 48 && decide (sbytes s ≠ [48])) with
      | true =>
        rw [hq] at hguard
        exact ⟨-1, bndL (s := true) (bnd hin (cnd_f rfl hguard)) (cnd_t rfl rfl), rfl⟩
      | false =>
        rw [hq] at hguard
        have w48 : ∀ c : Int, 48 ≤ c ∧ c ≤ 57 → some (IntKind.u8.wrap (c - 48)) = some (c - 48) := fun c hc => by rw [u8_wrap (by omega) (by omega)]
        rcases first_fail (fun i => dgB ((sbytes s).getD i 0)) s.size with h | ⟨k, hk, hb, hf⟩
        · have hd : (sbytes s).all dgB = true := (all_iff_get _ _).2 (by rw [hl]; exact h)
          have hb := numV_bound (sbytes s) 0 hd (Int.le_refl 0)
          refine ⟨numV (sbytes s) 0, bndL (s := false) (bnd hin (cnd_f rfl hguard)) (cnd_f rfl (bndL (s := numV (sbytes s) 0) (loop_from (fun i => (numV ((sbytes s).take i) 0, (i : Int))) s.size _ rfl (by simp only [BIG]; omega) (fun i hi => ?_) ?_) rfl)), by rw [decide_eq_true hb.1, hd]; rfl⟩
          · have hi' : i < (sbytes s).length := by omega
            have hc := chrD hi
            have hdi := h i hi
            have hcc : 48 ≤ (sbytes s).getD i 0 ∧ (sbytes s).getD i 0 ≤ 57 := by
              simpa only [dgB, Bool.and_eq_true, decide_eq_true_eq] using hdi
            have hdt : ((sbytes s).take i).all dgB = true := List.all_eq_true.2 fun x hx => List.all_eq_true.1 hd x (List.mem_of_mem_take hx)
            have hbt := numV_bound ((sbytes s).take i) 0 hdt (Int.le_refl 0)
            have hlt : ((sbytes s).take i).length = i := by rw [List.length_take]; omega
            have hp : (10 : Int) ^ i ≤ 10 ^ 9 := by
              have : (10 : Nat) ^ i ≤ 10 ^ 9 := Nat.pow_le_pow_right (by decide) (by omega)
              exact_mod_cast this
            rw [hlt] at hbt
            have e9 : (10 : Int) ^ 9 = 1000000000 := by decide
            have hsn : numV ((sbytes s).take (i + 1)) 0 = 10 * numV ((sbytes s).take i) 0 + ((sbytes s).getD i 0 - 48) := by
              rw [List.take_add_one, List.getElem?_eq_getElem hi', Option.toList_some, numV_snoc, List.getD_eq_getElem?_getD, List.getElem?_eq_getElem hi']; rfl
            refine cnd_t (decide_eq_true (by omega)) (bnd hc (bnd rdig (cnd_f (by rw [hdi]; rfl) (bnd (some_wrap (by omega) (by omega)) (bnd hc (bnd (w48 _ hcc) (bnd (some_wrap (by omega) (by omega)) (bnd (some_wrap (by omega) (by omega)) (bnd (some_wrap (by omega) (by omega)) ?_)))))))))
            rw [hsn]
            rfl
          · rw [List.take_of_length_le (by omega)]
            exact cnd_f (decide_eq_false (by omega)) rfl
        · have hd : (sbytes s).all dgB = false := by
            refine all_iff_false fun h => ?_
            have := h k (by omega)
            rw [this] at hf; cases hf
          refine ⟨-1, bndL (s := false) (bnd hin (cnd_f rfl hguard)) (cnd_f rfl (bndR (a := -1) (loop_from (fun i => (numV ((sbytes s).take i) 0, (i : Int))) k BIG rfl (by simp only [BIG]; omega) (fun i hi => ?_) ?_) rfl)), by rw [hd]; simp⟩
          · have hi' : i < (sbytes s).length := by omega
            have hc := chrD (s := s) (i := i) (by omega)
            have hdi := hb i hi
            have hcc : 48 ≤ (sbytes s).getD i 0 ∧ (sbytes s).getD i 0 ≤ 57 := by
              simpa only [dgB, Bool.and_eq_true, decide_eq_true_eq] using hdi
            have hdt : ((sbytes s).take i).all dgB = true := (all_iff_get _ _).2 fun j hj => by
              rw [List.length_take] at hj
              have := hb j (by omega)
              rw [List.getD_eq_getElem?_getD, List.getElem?_take_of_lt (by omega), ← List.getD_eq_getElem?_getD]; exact this
            have hbt := numV_bound ((sbytes s).take i) 0 hdt (Int.le_refl 0)
            have hlt : ((sbytes s).take i).length = i := by rw [List.length_take]; omega
            have hp : (10 : Int) ^ i ≤ 10 ^ 9 := by
              have : (10 : Nat) ^ i ≤ 10 ^ 9 := Nat.pow_le_pow_right (by decide) (by omega)
              exact_mod_cast this
            rw [hlt] at hbt
            have e9 : (10 : Int) ^ 9 = 1000000000 := by decide
            have hsn : numV ((sbytes s).take (i + 1)) 0 = 10 * numV ((sbytes s).take i) 0 + ((sbytes s).getD i 0 - 48) := by
              rw [List.take_add_one, List.getElem?_eq_getElem hi', Option.toList_some, numV_snoc, List.getD_eq_getElem?_getD, List.getElem?_eq_getElem hi']; rfl
            refine cnd_t (decide_eq_true (by omega)) (bnd hc (bnd rdig (cnd_f (by rw [hdi]; rfl) (bnd (some_wrap (by omega) (by omega)) (bnd hc (bnd (w48 _ hcc) (bnd (some_wrap (by omega) (by omega)) (bnd (some_wrap (by omega) (by omega)) (bnd (some_wrap (by omega) (by omega)) ?_)))))))))
            rw [hsn]
            rfl
          · exact cnd_t (decide_eq_true (by omega)) (bnd (chrD (by omega)) (bnd rdig (cnd_t (by rw [hf]; rfl) rfl)))
    · rw [decide_eq_true (p := 1 ≤ (s.size : Int)) (by omega), decide_eq_false (p := (s.size : Int) ≤ 9) (by omega)] at hin
      refine ⟨-1, bndL (s := true) (bnd hin (cnd_t rfl rfl)) (cnd_t rfl rfl), ?_⟩
      rw [decide_eq_false (p := (sbytes s).length ≤ 9) (by omega)]; rfl
end Go.Abs.Sh
