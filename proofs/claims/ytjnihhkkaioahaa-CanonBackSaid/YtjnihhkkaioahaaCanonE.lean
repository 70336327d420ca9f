import Derived.Test.YtjnihhkkaioahaaCanonD
import Derived.Test.YtjnihhkkaioahaaKeepM
namespace Go.Abs.Sh
set_option linter.unusedVariables false
set_option linter.unusedSimpArgs false

theorem valid_ints {m : List Nat} (hl : m.length ≤ 300) (hm : ∀ x ∈ m, x ≤ 15) : valid (ints m) := by
  refine ⟨by rw [ints_len]; exact hl, fun n hn => ?_⟩
  obtain ⟨x, hx, rfl⟩ := List.mem_map.1 hn
  have := hm x hx; omega
theorem refCheck_eq (l : List Int) (hl : l.length ≤ 1000) : wherryref01_CheckLengths l = some (err l) := by
  unfold wherryref01_CheckLengths err
  refine bnd (right_eq l hl) ?_
  by_cases hv : valid l
  · rw [if_pos hv, decide_eq_true hv]
    have := makes_eq (nat l) (by rw [nat_len]; exact hv.1) (nat_le hv)
    rw [nat_ints hv] at this
    refine cnd_f rfl (bnd this ?_)
    cases forms (nat l) <;> rfl
  · rw [if_neg hv, decide_eq_false hv]; rfl
theorem refWeigh_eq2 (l : List Int) (hl : l.length ≤ 1000) : wherryref01_Weigh l = some (if valid l then ((ws (nat l) 15 : Nat) : Int) else 0) := by
  by_cases hv : valid l
  · rw [if_pos hv]
    have := refWeigh_eq (nat l) (by rw [nat_len]; exact hv.1) (nat_le hv)
    rwa [nat_ints hv] at this
  · rw [if_neg hv]
    unfold wherryref01_Weigh
    exact bnd (right_eq l hl) (cnd_t (by rw [decide_eq_false hv]; rfl) rfl)

/-- Where the codes of a length end. -/
def endOf (m : List Nat) : Nat → Nat
  | 0 => 0
  | k + 1 => fst m (k + 1) + m.count (k + 1)
theorem fst_end (m : List Nat) {n : Nat} (h : 1 ≤ n) : fst m n = 2 * endOf m (n - 1) := by
  rcases n with _ | _ | n
  · omega
  · rfl
  · rfl
def oc (m : List Nat) (n i : Nat) : List Nat := (List.range m.length).map fun j => if m.getD j 0 = 0 then 0 else if m.getD j 0 < n then code m j else if m.getD j 0 = n ∧ j < i then code m j else 0
theorem oc_len (m : List Nat) (n i : Nat) : (oc m n i).length = m.length := by simp [oc]
theorem oc_set (m : List Nat) (n i : Nat) (h : i < m.length) (hn : m[i] = n) (h0 : 0 < n) : (oc m n i).set i (code m i) = oc m n (i + 1) := by
  apply List.ext_getElem
  · simp [oc]
  · intro j h1 h2
    rw [List.getElem_set]
    simp only [oc, List.getElem_map, List.getElem_range]
    by_cases hij : i = j
    · subst hij
      have hd : m.getD i 0 = n := by rw [getD_of h]; exact hn
      rw [if_pos rfl, hd, if_neg (by omega), if_neg (by omega), if_pos ⟨rfl, by omega⟩]
    · rw [if_neg hij]
      by_cases hz : m.getD j 0 = 0
      · rw [if_pos hz, if_pos hz]
      · rw [if_neg hz, if_neg hz]
        by_cases hlt : m.getD j 0 < n
        · rw [if_pos hlt, if_pos hlt]
        · rw [if_neg hlt, if_neg hlt]
          by_cases hj : m.getD j 0 = n ∧ j < i
          · rw [if_pos hj, if_pos ⟨hj.1, by omega⟩]
          · rw [if_neg hj, if_neg (fun h => hj ⟨h.1, by omega⟩)]
theorem oc_skip (m : List Nat) (n i : Nat) (h : i < m.length) (hn : m[i] ≠ n) : oc m n (i + 1) = oc m n i := by
  refine List.map_congr_left fun j hj => ?_
  by_cases hz : m.getD j 0 = 0
  · rw [if_pos hz, if_pos hz]
  · rw [if_neg hz, if_neg hz]
    by_cases hlt : m.getD j 0 < n
    · rw [if_pos hlt, if_pos hlt]
    · rw [if_neg hlt, if_neg hlt]
      by_cases hj2 : m.getD j 0 = n ∧ j < i
      · rw [if_pos hj2, if_pos ⟨hj2.1, by omega⟩]
      · rw [if_neg hj2, if_neg]
        rintro ⟨h1, h2⟩
        by_cases hji : j = i
        · subst hji; rw [getD_of h] at h1; exact hn h1
        · exact hj2 ⟨h1, by omega⟩
theorem oc_next (m : List Nat) (n : Nat) : oc m n m.length = oc m (n + 1) 0 := by
  refine List.map_congr_left fun j hj => ?_
  have hjl := List.mem_range.1 hj
  by_cases hz : m.getD j 0 = 0
  · rw [if_pos hz, if_pos hz]
  · rw [if_neg hz, if_neg hz]
    by_cases hlt : m.getD j 0 < n
    · rw [if_pos hlt, if_pos (by omega)]
    · rw [if_neg hlt]
      by_cases he : m.getD j 0 = n
      · rw [if_pos ⟨he, hjl⟩, if_pos (by omega)]
      · rw [if_neg (fun h => he h.1), if_neg (by omega), if_neg (fun h => by omega)]
theorem oc_all (m : List Nat) (hm : ∀ x ∈ m, x ≤ 15) : oc m 16 0 = codes m := by
  refine List.map_congr_left fun j hj => ?_
  have hjl := List.mem_range.1 hj
  have := hm _ (List.getElem_mem hjl)
  by_cases hz : m.getD j 0 = 0
  · rw [if_pos hz, code, if_pos hz]
  · rw [if_neg hz, if_pos (by rw [getD_of hjl]; omega)]
theorem oc_none (m : List Nat) : oc m 1 0 = List.replicate m.length 0 := by
  apply List.ext_getElem
  · simp [oc]
  · intro j h1 h2
    simp only [oc, List.getElem_map, List.getElem_range, List.getElem_replicate]
    by_cases hz : m.getD j 0 = 0
    · rw [if_pos hz]
    · rw [if_neg hz, if_neg (by omega), if_neg (fun h => by omega)]

theorem refCodes_eq (m : List Nat) (hl : m.length ≤ 300) (hm : ∀ x ∈ m, x ≤ 15) (hf : forms m = true) : wherryref01_codes (ints m) = some (ints (codes m)) := by
  have hw := forms_ws hf
  unfold wherryref01_codes
  have hmk : mkO 8 ((ints m).length : Int) (0 : Int) = some (ints (oc m 1 0)) := by
    simp only [mkO]
    rw [if_pos ⟨by omega, by rw [ints_len]; omega⟩, ints_len, oc_none, ints, List.map_replicate]; rfl
  have inner : ∀ n : Nat, 1 ≤ n → n ≤ 15 → ∀ (k fuel i : Nat), m.length - i = k → i ≤ m.length → k < fuel →
          loopF (S := ((List Int) × Int × Int)) (O := ((List Int) × Int) ⊕ (((List Int) × Int × Int) ⊕ (((List Int)) ⊕ (List Int)))) (fun ((s184, s185, s186) : (List Int) × Int × Int) =>
            cond ((decide (s186 < ((ints m).length : Int))))
              (bindS (S := (List Int) × Int) (A := (((List Int) × Int × Int) ⊕ (((List Int) × Int) ⊕ (((List Int) × Int × Int) ⊕ (((List Int)) ⊕ (List Int))))))
                ((ixO s186 (ints m).length).bind fun v5 =>
                (getO (ints m) v5).bind fun v6 =>
                cond ((v6 == (n : Int)))
                  ((ixO s186 s184.length).bind fun v8 =>
                  (some (s184.set v8 s185)).bind fun v9 =>
                  (some (IntKind.i64.wrap (s185 + 1))).bind fun v10 =>
                  some (.inl (v9, v10)))
                  (some (.inl (s184, s185))))
                (fun ((s205, s206) : (List Int) × Int) =>
                  (some (IntKind.i64.wrap (s186 + 1))).bind fun v17 =>
                  some (.inl (s205, s206, v17))) some)
              (some (.inr (.inl (s184, s185))))) fuel (ints (oc m n i), ((fst m n + (m.take i).count n : Nat) : Int), (i : Int)) = some (.inl (ints (oc m n m.length), ((fst m n + m.count n : Nat) : Int))) := by
    intro n hn1 hn15 k
    induction k with
    | zero =>
      intro fuel i hk hi hf
      obtain ⟨f, rfl⟩ : ∃ f, fuel = f + 1 := ⟨fuel - 1, by omega⟩
      have : i = m.length := by omega
      subst this
      refine loop_exit (cnd_f (by simp [ints_len]) ?_)
      rw [List.take_length]
    | succ k ih =>
      intro fuel i hk hi hf
      obtain ⟨f, rfl⟩ : ∃ f, fuel = f + 1 := ⟨fuel - 1, by omega⟩
      have hlt : i < m.length := by omega
      have hlt' : i < (ints m).length := by rw [ints_len]; exact hlt
      have hw1 : IntKind.i64.wrap ((i : Int) + 1) = ((i + 1 : Nat) : Int) := by rw [wrap_i64 (by omega) (by omega)]; simp
      have hle := fst_le hw hn1 hn15
      have hp := pow_le15 hn15
      refine (loop_next (s' := (ints (oc m n (i + 1)), ((fst m n + (m.take (i + 1)).count n : Nat) : Int), ((i + 1 : Nat) : Int))) (cnd_t (by simp; omega) (bndL (s := (ints (oc m n (i + 1)), ((fst m n + (m.take (i + 1)).count n : Nat) : Int))) (bnd (ixO_of hlt') (bnd (ints_get hlt) ?_)) (bnd (x := ((i + 1 : Nat) : Int)) (by rw [hw1]) rfl)))).trans (ih f (i + 1) (by omega) (by omega) (by omega))
      by_cases he : m[i] = n
      · have hc := count_take_lt hlt
        rw [he] at hc
        have hcode : code m i = fst m n + (m.take i).count n := by rw [code_of hlt (by omega), he]
        have hcl : i < (ints (oc m n i)).length := by rw [ints_len, oc_len]; exact hlt
        have hset : (ints (oc m n i)).set i ((fst m n + (m.take i).count n : Nat) : Int) = ints (oc m n (i + 1)) := by
          rw [← oc_set m n i hlt he (by omega), hcode, ints, ints, List.map_set]
        have hcnt : (m.take (i + 1)).count n = (m.take i).count n + 1 := by rw [take_snoc hlt, List.count_append, he]; simp
        have w3 : IntKind.i64.wrap (((fst m n + (m.take i).count n : Nat) : Int) + 1) = ((fst m n + (m.take (i + 1)).count n : Nat) : Int) := by rw [hcnt, wrap_i64 (by omega) (by omega)]; simp; omega
        exact cnd_t (by simp [he]) (bnd (ixO_of hcl) (bnd (x := ints (oc m n (i + 1))) (by rw [hset]) (bnd (x := ((fst m n + (m.take (i + 1)).count n : Nat) : Int)) (by rw [w3]) rfl)))
      · have hcnt : (m.take (i + 1)).count n = (m.take i).count n := by
          rw [take_snoc hlt, List.count_append]
          have : List.count n [m[i]] = 0 := by simp [List.count_cons, he]
          rw [this]; rfl
        refine cnd_f (by rw [beq_eq_false_iff_ne]; omega) ?_
        rw [oc_skip m n i hlt he, hcnt]
  have outer : ∀ (k fuel n : Nat), 16 - n = k → 1 ≤ n → n ≤ 16 → k < fuel →
      loopF (S := ((List Int) × Int × Int)) (O := ((List Int)) ⊕ (List Int)) (fun ((s107, s108, s109) : (List Int) × Int × Int) =>
      cond ((decide (s109 ≤ 15)))
        ((some (IntKind.i64.wrap (2 * s108))).bind fun v3 =>
        bindS (S := ((List Int) × Int)) (A := (((List Int) × Int × Int) ⊕ (((List Int)) ⊕ (List Int))))
          (loopF (S := ((List Int) × Int × Int)) (O := ((List Int) × Int) ⊕ (((List Int) × Int × Int) ⊕ (((List Int)) ⊕ (List Int)))) (fun ((s184, s185, s186) : (List Int) × Int × Int) =>
            cond ((decide (s186 < ((ints m).length : Int))))
              (bindS (S := (List Int) × Int) (A := (((List Int) × Int × Int) ⊕ (((List Int) × Int) ⊕ (((List Int) × Int × Int) ⊕ (((List Int)) ⊕ (List Int))))))
                ((ixO s186 (ints m).length).bind fun v5 =>
                (getO (ints m) v5).bind fun v6 =>
                cond ((v6 == s109))
                  ((ixO s186 s184.length).bind fun v8 =>
                  (some (s184.set v8 s185)).bind fun v9 =>
                  (some (IntKind.i64.wrap (s185 + 1))).bind fun v10 =>
                  some (.inl (v9, v10)))
                  (some (.inl (s184, s185))))
                (fun ((s205, s206) : (List Int) × Int) =>
                  (some (IntKind.i64.wrap (s186 + 1))).bind fun v17 =>
                  some (.inl (s205, s206, v17))) some)
              (some (.inr (.inl (s184, s185)))))
            BIG (s107, v3, 0))
          (fun ((s195, s196) : (List Int) × Int) =>
            (some (IntKind.i64.wrap (s109 + 1))).bind fun v56 =>
            some (.inl (s195, s196, v56))) some)
        (some (.inr (.inl s107)))) fuel (ints (oc m n 0), ((endOf m (n - 1) : Nat) : Int), (n : Int)) = some (.inl (ints (codes m))) := by
    intro k
    induction k with
    | zero =>
      intro fuel n hk h1 hi hf
      obtain ⟨f, rfl⟩ : ∃ f, fuel = f + 1 := ⟨fuel - 1, by omega⟩
      have : n = 16 := by omega
      subst this
      refine loop_exit (cnd_f (by simp) ?_)
      rw [oc_all m hm]
    | succ k ih =>
      intro fuel n hk h1 hi hf
      obtain ⟨f, rfl⟩ : ∃ f, fuel = f + 1 := ⟨fuel - 1, by omega⟩
      have h15 : n ≤ 15 := by omega
      have hle := fst_le hw h1 h15
      have hp := pow_le15 h15
      have he := fst_end m h1
      have w2 : IntKind.i64.wrap (2 * ((endOf m (n - 1) : Nat) : Int)) = ((fst m n : Nat) : Int) := by rw [he, wrap_i64 (by omega) (by omega)]; simp
      have hw1 : IntKind.i64.wrap ((n : Int) + 1) = ((n + 1 : Nat) : Int) := by rw [wrap_i64 (by omega) (by omega)]; simp
      have hin := inner n h1 h15 m.length BIG 0 (by omega) (Nat.zero_le _) (by unfold BIG; omega)
      rw [List.take_zero, List.count_nil, Nat.add_zero] at hin
      have hend : endOf m (n + 1 - 1) = fst m n + m.count n := by
        obtain ⟨q, rfl⟩ : ∃ q, n = q + 1 := ⟨n - 1, by omega⟩
        rfl
      refine (loop_next (s' := (ints (oc m (n + 1) 0), ((endOf m (n + 1 - 1) : Nat) : Int), ((n + 1 : Nat) : Int))) (cnd_t (by simp; omega) (bnd (x := ((fst m n : Nat) : Int)) (by rw [w2]) (bndL hin ?_)))).trans (ih f (n + 1) (by omega) (by omega) (by omega) (by omega))
      rw [oc_next, hend]
      exact bnd (x := ((n + 1 : Nat) : Int)) (by rw [hw1]) rfl
  exact bnd hmk (bndL (outer 15 BIG 1 rfl (by omega) (by omega) (by unfold BIG; omega)) rfl)

theorem refCodes2 (l : List Int) (hl : l.length ≤ 1000) : wherryref01_Codes l = some (if err l = 0 then (ints (codes (nat l)), 0) else ([], err l)) := by
  unfold wherryref01_Codes
  refine bnd (refCheck_eq l hl) ?_
  by_cases he : err l = 0
  · rw [if_pos he]
    have hv : valid l := by
      refine Classical.byContradiction fun h => ?_
      rw [err, if_neg h] at he; omega
    have hf : forms (nat l) = true := by
      cases h : forms (nat l)
      · rw [err, if_pos hv, h] at he; simp at he
      · rfl
    have := refCodes_eq (nat l) (by rw [nat_len]; exact hv.1) (nat_le hv) hf
    rw [nat_ints hv] at this
    exact cnd_f (by simp [he]) (bnd this rfl)
  · rw [if_neg he]
    exact cnd_t (by simp [he]) rfl
end Go.Abs.Sh
