import Derived.Test.YtjnihhkkaioahaaCanonC
namespace Go.Abs.Sh
set_option linter.unusedVariables false
set_option linter.unusedSimpArgs false

theorem in_eqc (n lo hi : Int) : wherryref01_in n lo hi = some (decide (lo ≤ n) && decide (n ≤ hi)) := by
  unfold wherryref01_in
  cases h : decide (lo ≤ n) <;> rfl

theorem right_eq (l : List Int) (hl : l.length ≤ 1000) : wherryref01_RightLengths l = some (decide (valid l)) := by
  unfold wherryref01_RightLengths
  by_cases l1 : 300 < l.length
  · refine cnd_t (by simp; omega) ?_
    rw [decide_eq_false (fun h => by have := h.1; omega)]
  refine cnd_f (by simp; omega) ?_
  have key : ∀ (k fuel i : Nat), l.length - i = k → i ≤ l.length → k < fuel →
      loopF (S := (Int)) (O := (Unit) ⊕ Bool) (fun (s11 : Int) =>
        cond ((decide (s11 < (l.length : Int))))
          ((ixO s11 l.length).bind fun v3 =>
          (getO l v3).bind fun v4 =>
          (wherryref01_in v4 0 15).bind fun v5 =>
          cond ((!v5))
            (some (.inr (.inr (false))))
            ((some (IntKind.i64.wrap (s11 + 1))).bind fun v7 =>
            some (.inl v7)))
          (some (.inr (.inl ())))) fuel (i : Int) = some (if ∀ n ∈ l.drop i, 0 ≤ n ∧ n ≤ 15 then .inl () else .inr false) := by
    intro k
    induction k with
    | zero =>
      intro fuel i hk hi hf
      obtain ⟨f, rfl⟩ : ∃ f, fuel = f + 1 := ⟨fuel - 1, by omega⟩
      have : i = l.length := by omega
      subst this
      refine loop_exit (cnd_f (by simp) ?_)
      rw [if_pos (by simp)]
    | succ k ih =>
      intro fuel i hk hi hf
      obtain ⟨f, rfl⟩ : ∃ f, fuel = f + 1 := ⟨fuel - 1, by omega⟩
      have hlt : i < l.length := by omega
      have hw : IntKind.i64.wrap ((i : Int) + 1) = ((i + 1 : Nat) : Int) := by rw [wrap_i64 (by omega) (by omega)]; simp
      have hdr : l.drop i = l[i] :: l.drop (i + 1) := List.drop_eq_getElem_cons hlt
      by_cases hv : 0 ≤ l[i] ∧ l[i] ≤ 15
      · refine (loop_next (cnd_t (by simp; omega) (bnd (ixO_of hlt) (bnd (getO_of hlt) (bnd (in_eqc _ _ _) (cnd_f (by simp [hv]) (bnd (x := ((i + 1 : Nat) : Int)) (by rw [hw]) rfl))))))).trans ?_
        rw [ih f (i + 1) (by omega) (by omega) (by omega), hdr]
        simp only [List.mem_cons, forall_eq_or_imp, hv, true_and, and_self]
      · refine loop_exit (cnd_t (by simp; omega) (bnd (ixO_of hlt) (bnd (getO_of hlt) (bnd (in_eqc _ _ _) (cnd_t ?_ ?_)))))
        · by_cases h0 : 0 ≤ l[i]
          · have : ¬ l[i] ≤ 15 := fun h => hv ⟨h0, h⟩
            simp [this]
          · simp [h0]
        · rw [hdr, if_neg (fun h => hv (h l[i] (List.mem_cons_self)))]
  have := key l.length BIG 0 (by omega) (Nat.zero_le _) (by unfold BIG; omega)
  rw [List.drop_zero] at this
  by_cases hv : ∀ n ∈ l, 0 ≤ n ∧ n ≤ 15
  · rw [if_pos hv] at this
    refine bndL (s := ()) this ?_
    rw [decide_eq_true (show valid l from ⟨by omega, hv⟩)]
  · rw [if_neg hv] at this
    refine bndR (a := false) this ?_
    rw [decide_eq_false (fun h => hv h.2)]

theorem take_snoc {m : List Nat} {i : Nat} (h : i < m.length) : m.take (i + 1) = m.take i ++ [m[i]] := by rw [List.take_add_one]; simp [h]
theorem ws_snoc0 (m : List Nat) : ∀ k, ws (m ++ [0]) k = ws m k
  | 0 => rfl
  | k + 1 => by
    rw [ws, ws, ws_snoc0 m k, List.count_append]
    have : List.count (k + 1) [0] = 0 := by simp [List.count_cons]
    rw [this, Nat.add_zero]
theorem ws_nil : ∀ k, ws [] k = 0
  | 0 => rfl
  | k + 1 => by rw [ws, ws_nil k]; simp

theorem refWeigh_eq (m : List Nat) (hl : m.length ≤ 300) (hm : ∀ x ∈ m, x ≤ 15) : wherryref01_Weigh (ints m) = some ((ws m 15 : Nat) : Int) := by
  unfold wherryref01_Weigh
  have hv : valid (ints m) := by
    refine ⟨by rw [ints_len]; exact hl, fun n hn => ?_⟩
    obtain ⟨x, hx, rfl⟩ := List.mem_map.1 hn
    have := hm x hx; omega
  refine bnd (right_eq _ (by rw [ints_len]; omega)) (cnd_f (by rw [decide_eq_true hv]; rfl) ?_)
  have hbig : ∀ i, ws (m.take i) 15 ≤ 15 * (300 * 32768) := by
    intro i
    refine Nat.le_trans (ws_le _ 15) (Nat.mul_le_mul_left _ (Nat.mul_le_mul_right _ ?_))
    simp; omega
  have key : ∀ (k fuel i : Nat), m.length - i = k → i ≤ m.length → k < fuel →
      loopF (S := (Int × Int)) (O := (Int) ⊕ Int) (fun ((s28, s29) : Int × Int) =>
        cond ((decide (s29 < ((ints m).length : Int))))
          (bindS (S := Int) (A := ((Int × Int) ⊕ ((Int) ⊕ Int)))
            ((ixO s29 (ints m).length).bind fun v4 =>
            (getO (ints m) v4).bind fun v5 =>
            cond ((decide (0 < v5)))
              ((ixO s29 (ints m).length).bind fun v7 =>
              (getO (ints m) v7).bind fun v8 =>
              (some (IntKind.i64.wrap (15 - v8))).bind fun v9 =>
              (some (IntKind.u64.wrap v9)).bind fun v10 =>
              (shlO .i64 1 v10).bind fun v11 =>
              (some (IntKind.i64.wrap (s28 + v11))).bind fun v12 =>
              some (.inl v12))
              (some (.inl s28)))
            (fun (s46 : Int) =>
              (some (IntKind.i64.wrap (s29 + 1))).bind fun v18 =>
              some (.inl (s46, v18))) some)
          (some (.inr (.inl s28)))) fuel (((ws (m.take i) 15 : Nat) : Int), (i : Int)) = some (.inl ((ws m 15 : Nat) : Int)) := by
    intro k
    induction k with
    | zero =>
      intro fuel i hk hi hf
      obtain ⟨f, rfl⟩ : ∃ f, fuel = f + 1 := ⟨fuel - 1, by omega⟩
      have : i = m.length := by omega
      subst this
      refine loop_exit (cnd_f (by simp [ints_len]) ?_)
      rw [List.take_length]
    | succ k ih =>
      intro fuel i hk hi hf
      obtain ⟨f, rfl⟩ : ∃ f, fuel = f + 1 := ⟨fuel - 1, by omega⟩
      have hlt : i < m.length := by omega
      have hlt' : i < (ints m).length := by rw [ints_len]; exact hlt
      have hw : IntKind.i64.wrap ((i : Int) + 1) = ((i + 1 : Nat) : Int) := by rw [wrap_i64 (by omega) (by omega)]; simp
      have hx := hm m[i] (List.getElem_mem hlt)
      have hb1 := hbig i
      have hb2 := hbig (i + 1)
      refine (loop_next (s' := (((ws (m.take (i + 1)) 15 : Nat) : Int), ((i + 1 : Nat) : Int))) (cnd_t (by simp; omega) (bndL (s := ((ws (m.take (i + 1)) 15 : Nat) : Int)) (bnd (ixO_of hlt') (bnd (ints_get hlt) ?_)) (bnd (x := ((i + 1 : Nat) : Int)) (by rw [hw]) rfl)))).trans (ih f (i + 1) (by omega) (by omega) (by omega))
      by_cases h0 : 0 < m[i]
      · have v1 : IntKind.i64.wrap (15 - ((m[i] : Nat) : Int)) = ((15 - m[i] : Nat) : Int) := by rw [wrap_i64 (by omega) (by omega)]; omega
        have u1 : IntKind.u64.wrap ((15 - m[i] : Nat) : Int) = ((15 - m[i] : Nat) : Int) := wrap_u64c (by omega) (by omega)
        have hp := pow_le15 (n := 15 - m[i]) (by omega)
        have sh := shl_nat 1 (15 - m[i]) (by omega) (by omega)
        rw [Nat.one_mul] at sh
        have hs : ws (m.take (i + 1)) 15 = ws (m.take i) 15 + 2 ^ (15 - m[i]) := by
          rw [take_snoc hlt, ws_snoc _ _ h0 hx, if_pos hx]
        have w3 : IntKind.i64.wrap (((ws (m.take i) 15 : Nat) : Int) + ((2 ^ (15 - m[i]) : Nat) : Int)) = ((ws (m.take (i + 1)) 15 : Nat) : Int) := by
          rw [hs]
          generalize 2 ^ (15 - m[i]) = y at *
          rw [wrap_i64 (by omega) (by omega)]; simp
        exact cnd_t (by simp; omega) (bnd (ixO_of hlt') (bnd (ints_get hlt) (bnd (x := ((15 - m[i] : Nat) : Int)) (by rw [v1]) (bnd (x := ((15 - m[i] : Nat) : Int)) (by rw [u1]) (bnd sh (bnd (x := ((ws (m.take (i + 1)) 15 : Nat) : Int)) (by rw [w3]) rfl))))))
      · have hz : m[i] = 0 := by omega
        refine cnd_f (by simp; omega) ?_
        rw [take_snoc hlt, hz, ws_snoc0]
  have := key m.length BIG 0 (by omega) (Nat.zero_le _) (by unfold BIG; omega)
  rw [List.take_zero, ws_nil] at this
  exact bndL this rfl

/-- How many symbols have a code; the last one's length. -/
def nz (m : List Nat) : Nat := m.countP (fun x => decide (0 < x))
def lastz : List Nat → Nat → Nat
  | [], d => d
  | x :: l, d => lastz l (if 0 < x then x else d)
theorem lastz_snoc : ∀ (m : List Nat) (x d : Nat), lastz (m ++ [x]) d = if 0 < x then x else lastz m d
  | [], x, d => rfl
  | y :: m, x, d => by simp only [List.cons_append, lastz, lastz_snoc m]
theorem nz_zero {m : List Nat} : nz m = 0 ↔ ∀ x ∈ m, x = 0 := by
  unfold nz
  rw [List.countP_eq_zero]
  constructor
  · intro h x hx
    have := h x hx
    simpa using this
  · intro h x hx
    have := h x hx
    simp [this]
theorem tal_zero {m : List Nat} (hm : ∀ x ∈ m, x ≤ 15) : ints (tal m) = List.replicate 16 0 ↔ nz m = 0 := by
  rw [nz_zero]
  constructor
  · intro h x hx
    refine Classical.byContradiction fun hx0 => ?_
    have h15 := hm x hx
    have := tal_get m (n := x) (by omega) (by omega)
    rw [h] at this
    simp only [getO, List.getElem?_replicate] at this
    rw [if_pos (by omega)] at this
    have hc : m.count x = 0 := by simp at this; omega
    exact absurd (List.count_pos_iff.2 hx) (by omega)
  · intro h
    have e : tal m = List.replicate 16 0 := by
      apply List.ext_getElem
      · simp [tal]
      · intro i h1 h2
        rw [tal_at, List.getElem_replicate]
        split
        · rfl
        · refine List.count_eq_zero.2 fun hi => ?_
          have := h i hi; omega
    rw [e]; decide
theorem nz_count (m : List Nat) : ∀ (hm : ∀ x ∈ m, x = 0 ∨ x = 1), nz m = m.count 1 := by
  intro hm
  unfold nz
  rw [List.count]
  refine List.countP_congr fun x hx => ?_
  rcases hm x hx with h | h <;> simp [h]
theorem lastz_one : ∀ (m : List Nat) (d : Nat), (∀ x ∈ m, x = 0 ∨ x = 1) → lastz m d = if m.count 1 = 0 then d else 1
  | [], d, _ => by simp [lastz]
  | x :: m, d, h => by
    rw [lastz, lastz_one m _ (fun y hy => h y (by simp [hy]))]
    rcases h x (by simp) with hx | hx
    · subst hx; simp [List.count_cons]
    · subst hx
      rw [List.count_cons]
      simp
theorem lastz_mem : ∀ (m : List Nat) (d : Nat), nz m = 1 → ∀ x ∈ m, x = 0 ∨ x = lastz m d
  | [], d, h, x, hx => by cases hx
  | y :: m, d, h, x, hx => by
    rw [lastz]
    unfold nz at h
    rw [List.countP_cons] at h
    by_cases hy : 0 < y
    · have hd : decide (0 < y) = true := by simp [hy]
      rw [hd] at h
      simp only [if_true] at h
      have h0 : nz m = 0 := by unfold nz; omega
      have hz := nz_zero.1 h0
      rw [if_pos hy]
      have hl : lastz m y = y := by
        rw [lastz_one m y (fun z hz' => .inl (hz z hz'))]
        have : m.count 1 = 0 := List.count_eq_zero.2 fun h1 => by have := hz 1 h1; omega
        rw [if_pos this]
      rcases List.mem_cons.1 hx with rfl | hx
      · exact .inr hl.symm
      · exact .inl (hz x hx)
    · have hd : decide (0 < y) = false := by simp; omega
      rw [hd] at h
      rw [if_neg hy]
      rcases List.mem_cons.1 hx with rfl | hx
      · exact .inl (by omega)
      · exact lastz_mem m d (by simpa [nz] using h) x hx
theorem tal_lone {m : List Nat} (hm : ∀ x ∈ m, x ≤ 15) : ints (tal m) = 0 :: 1 :: List.replicate 14 0 ↔ nz m = 1 ∧ lastz m 0 = 1 := by
  constructor
  · intro h
    have hc : ∀ n, 0 < n → n < 16 → m.count n = if n = 1 then 1 else 0 := by
      intro n h0 h16
      have := tal_get m h16 h0
      rw [h] at this
      simp only [getO] at this
      by_cases h1 : n = 1
      · subst h1; simp at this; simp; omega
      · obtain ⟨k, rfl⟩ : ∃ k, n = k + 2 := ⟨n - 2, by omega⟩
        simp only [List.getElem?_cons_succ, List.getElem?_replicate] at this
        rw [if_pos (by omega)] at this
        simp at this
        rw [if_neg h1]; omega
    have h01 : ∀ x ∈ m, x = 0 ∨ x = 1 := by
      intro x hx
      by_cases h0 : x = 0
      · exact .inl h0
      · have := hc x (by omega) (by have := hm x hx; omega)
        have hp := List.count_pos_iff.2 hx
        by_cases h1 : x = 1
        · exact .inr h1
        · rw [if_neg h1] at this; omega
    have h1 := hc 1 (by omega) (by omega)
    rw [if_pos rfl] at h1
    refine ⟨(nz_count m h01).trans h1, ?_⟩
    rw [lastz_one m 0 h01, if_neg (by omega)]
  · rintro ⟨h1, h2⟩
    have h01 : ∀ x ∈ m, x = 0 ∨ x = 1 := by
      intro x hx
      have := lastz_mem m 0 h1 x hx
      rwa [h2] at this
    have hc1 : m.count 1 = 1 := (nz_count m h01).symm.trans h1
    have e : tal m = 0 :: 1 :: List.replicate 14 0 := by
      apply List.ext_getElem
      · simp [tal]
      · intro i hi1 hi2
        rw [tal_at]
        rcases i with _ | _ | i
        · rfl
        · simp [hc1]
        · simp only [List.getElem_cons_succ, List.getElem_replicate]
          rw [if_neg (by omega)]
          refine List.count_eq_zero.2 fun hi => ?_
          have := h01 _ hi; omega
    rw [e]; decide

theorem makes_eq (m : List Nat) (hl : m.length ≤ 300) (hm : ∀ x ∈ m, x ≤ 15) : wherryref01_makes (ints m) = some (forms m) := by
  unfold wherryref01_makes
  have key : ∀ (k fuel i : Nat), m.length - i = k → i ≤ m.length → k < fuel →
    loopF (S := (Int × Int × Int)) (O := (Int × Int) ⊕ Bool) (fun ((s26, s27, s28) : Int × Int × Int) =>
      cond ((decide (s28 < ((ints m).length : Int))))
        (bindS (S := Int × Int) (A := ((Int × Int × Int) ⊕ ((Int × Int) ⊕ Bool)))
          ((ixO s28 (ints m).length).bind fun v2 =>
          (getO (ints m) v2).bind fun v3 =>
          cond ((decide (0 < v3)))
            ((some (IntKind.i64.wrap (s26 + 1))).bind fun v5 =>
            (ixO s28 (ints m).length).bind fun v6 =>
            (getO (ints m) v6).bind fun v7 =>
            some (.inl (v5, v7)))
            (some (.inl (s26, s27))))
          (fun ((s47, s48) : Int × Int) =>
            (some (IntKind.i64.wrap (s28 + 1))).bind fun v14 =>
            some (.inl (s47, s48, v14))) some)
        (some (.inr (.inl (s26, s27))))) fuel (((nz (m.take i) : Nat) : Int), ((lastz (m.take i) 0 : Nat) : Int), (i : Int)) = some (.inl (((nz m : Nat) : Int), ((lastz m 0 : Nat) : Int))) := by
    intro k
    induction k with
    | zero =>
      intro fuel i hk hi hf
      obtain ⟨f, rfl⟩ : ∃ f, fuel = f + 1 := ⟨fuel - 1, by omega⟩
      have : i = m.length := by omega
      subst this
      refine loop_exit (cnd_f (by simp [ints_len]) ?_)
      rw [List.take_length]
    | succ k ih =>
      intro fuel i hk hi hf
      obtain ⟨f, rfl⟩ : ∃ f, fuel = f + 1 := ⟨fuel - 1, by omega⟩
      have hlt : i < m.length := by omega
      have hlt' : i < (ints m).length := by rw [ints_len]; exact hlt
      have hw : IntKind.i64.wrap ((i : Int) + 1) = ((i + 1 : Nat) : Int) := by rw [wrap_i64 (by omega) (by omega)]; simp
      have hn : nz (m.take i) ≤ 300 := Nat.le_trans (List.countP_le_length) (by simp; omega)
      have hns : nz (m.take (i + 1)) = nz (m.take i) + if 0 < m[i] then 1 else 0 := by
        rw [take_snoc hlt, nz, List.countP_append]
        simp [nz, List.countP_cons]
      have hls : lastz (m.take (i + 1)) 0 = if 0 < m[i] then m[i] else lastz (m.take i) 0 := by rw [take_snoc hlt, lastz_snoc]
      refine (loop_next (s' := (((nz (m.take (i + 1)) : Nat) : Int), ((lastz (m.take (i + 1)) 0 : Nat) : Int), ((i + 1 : Nat) : Int))) (cnd_t (by simp; omega) (bndL (s := (((nz (m.take (i + 1)) : Nat) : Int), ((lastz (m.take (i + 1)) 0 : Nat) : Int))) (bnd (ixO_of hlt') (bnd (ints_get hlt) ?_)) (bnd (x := ((i + 1 : Nat) : Int)) (by rw [hw]) rfl)))).trans (ih f (i + 1) (by omega) (by omega) (by omega))
      by_cases h0 : 0 < m[i]
      · have w3 : IntKind.i64.wrap (((nz (m.take i) : Nat) : Int) + 1) = ((nz (m.take (i + 1)) : Nat) : Int) := by rw [hns, if_pos h0, wrap_i64 (by omega) (by omega)]; simp
        refine cnd_t (by simp; omega) (bnd (x := ((nz (m.take (i + 1)) : Nat) : Int)) (by rw [w3]) (bnd (ixO_of hlt') (bnd (ints_get hlt) ?_)))
        rw [hls, if_pos h0]
      · refine cnd_f (by simp; omega) ?_
        rw [hns, hls, if_neg h0, if_neg h0]
        rfl
  have := key m.length BIG 0 (by omega) (Nat.zero_le _) (by unfold BIG; omega)
  rw [List.take_zero] at this
  refine bndL this ?_
  have hwg := refWeigh_eq m hl hm
  have z1 := tal_zero hm
  have z2 := tal_lone hm
  have ew : (((ws m 15 : Nat) : Int) == 32768) = decide (ws m 15 = 32768) := by
    by_cases h : ws m 15 = 32768
    · simp [h]
    · have : ((ws m 15 : Nat) : Int) ≠ 32768 := by omega
      simp [h, this]
  refine bndL (s := forms m) ?_ rfl
  by_cases h0 : nz m = 0
  · refine cnd_t (by simp [h0]) ?_
    rw [forms, decide_eq_true (z1.2 h0)]; rfl
  refine cnd_f (by simp; omega) ?_
  rw [forms, decide_eq_false (fun h => h0 (z1.1 h))]
  by_cases h1 : nz m = 1
  · refine cnd_t (by simp [h1]) ?_
    by_cases h2 : lastz m 0 = 1
    · refine cnd_t (by simp [h2]) ?_
      rw [decide_eq_true (z2.2 ⟨h1, h2⟩)]; simp
    · refine cnd_f (by simp; omega) (bnd hwg ?_)
      rw [decide_eq_false (fun h => h2 (z2.1 h).2), ew]; simp
  · refine cnd_f (by simp; omega) (bnd hwg ?_)
    rw [decide_eq_false (fun h => h1 (z2.1 h).1), ew]; simp
end Go.Abs.Sh
