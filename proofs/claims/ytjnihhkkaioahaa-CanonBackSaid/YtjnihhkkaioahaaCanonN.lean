import Derived.Test.YtjnihhkkaioahaaCanonM
namespace Go.Abs.Sh
set_option linter.unusedVariables false
set_option linter.unusedSimpArgs false

theorem pow_split {n : Nat} (h : n ≤ 15) : 2 ^ n * 2 ^ (15 - n) = 32768 := by
  rw [← Nat.pow_add, show n + (15 - n) = 15 by omega]
theorem fst_step (m : List Nat) {n : Nat} (h0 : 1 ≤ n) (h : n ≤ 15) : fst m n * 2 ^ (15 - n) = ws m (n - 1) := by
  have := fst_ws m (n - 1) (by omega)
  rwa [show n - 1 + 1 = n by omega, show 14 - (n - 1) = 15 - n by omega] at this
theorem ws_step (m : List Nat) {n : Nat} (h0 : 1 ≤ n) (h : n ≤ 15) : (fst m n + m.count n) * 2 ^ (15 - n) = ws m n := by
  rw [Nat.add_mul, fst_step m h0 h]
  obtain ⟨k, rfl⟩ : ∃ k, n = k + 1 := ⟨n - 1, by omega⟩
  rfl
theorem fst_le {m : List Nat} (hw : ws m 15 ≤ 32768) {n : Nat} (h0 : 1 ≤ n) (h : n ≤ 15) : fst m n + m.count n ≤ 2 ^ n := by
  have h1 := ws_step m h0 h
  have h2 := ws_mono m h
  have hp : 0 < 2 ^ (15 - n) := Nat.pow_pos (by omega)
  refine Nat.le_of_mul_le_mul_right ?_ hp
  rw [h1, pow_split h]
  omega
theorem pow_le15 {n : Nat} (h : n ≤ 15) : 2 ^ n ≤ 32768 := Nat.pow_le_pow_right (show 0 < 2 by omega) h
theorem fst_small {m : List Nat} (hw : ws m 15 ≤ 32768) {n : Nat} (h : n ≤ 15) : fst m n ≤ 32768 := by
  rcases Nat.eq_zero_or_pos n with h0 | h0
  · subst h0; simp [fst]
  · have := fst_le hw h0 h
    have := pow_le15 h
    omega

def fl (m : List Nat) (i : Nat) : List Nat := (List.range 16).map fun n => if n < i then fst m n else 0
theorem fl_len (m : List Nat) (i : Nat) : (fl m i).length = 16 := by simp [fl]
theorem fl_set (m : List Nat) (i : Nat) (h : i < 16) : (fl m i).set i (fst m i) = fl m (i + 1) := by
  apply List.ext_getElem
  · simp [fl]
  · intro j h1 h2
    rw [List.getElem_set]
    simp only [fl, List.getElem_map, List.getElem_range]
    by_cases hij : i = j
    · subst hij; simp
    · rw [if_neg hij]
      by_cases hj : j < i
      · rw [if_pos hj, if_pos (by omega)]
      · rw [if_neg hj, if_neg (by omega)]

theorem firsts_eq (m : List Nat) (hl : m.length ≤ 1000) (hw : ws m 15 ≤ 32768) : canon_firsts (ints (tal m)) = some (ints (fl m 16)) := by
  unfold canon_firsts
  have key : ∀ (k fuel i : Nat), 16 - i = k → i ≤ 16 → 2 ≤ i → k < fuel →
    loopF (S := ((List Int) × Int)) (O := ((List Int)) ⊕ (List Int)) (fun ((s16, s17) : (List Int) × Int) =>
      cond ((decide (s17 ≤ 15)))
        ((some (IntKind.i64.wrap (s17 - 1))).bind fun v2 =>
        (ixO v2 16).bind fun v3 =>
        (getO s16 v3).bind fun v4 =>
        (some (IntKind.i64.wrap (s17 - 1))).bind fun v5 =>
        (ixO v5 16).bind fun v6 =>
        (getO (ints (tal m)) v6).bind fun v7 =>
        (some (IntKind.i64.wrap (v4 + v7))).bind fun v8 =>
        (some (IntKind.i64.wrap (2 * v8))).bind fun v9 =>
        (ixO s17 16).bind fun v10 =>
        (setO s16 v10 v9).bind fun v11 =>
        (some (IntKind.i64.wrap (s17 + 1))).bind fun v12 =>
        some (.inl (v11, v12)))
        (some (.inr (.inl s16)))) fuel (ints (fl m i), (i : Int)) = some (.inl (ints (fl m 16))) := by
    intro k
    induction k with
    | zero =>
      intro fuel i hk hi h2 hf
      obtain ⟨f, rfl⟩ : ∃ f, fuel = f + 1 := ⟨fuel - 1, by omega⟩
      have : i = 16 := by omega
      subst this
      exact loop_exit (cnd_f (by simp) rfl)
    | succ k ih =>
      intro fuel i hk hi h2 hf
      obtain ⟨f, rfl⟩ : ∃ f, fuel = f + 1 := ⟨fuel - 1, by omega⟩
      have h16 : i < 16 := by omega
      have w1 : IntKind.i64.wrap ((i : Int) - 1) = ((i - 1 : Nat) : Int) := by rw [wrap_i64 (by omega) (by omega)]; omega
      have w2 : IntKind.i64.wrap ((i : Int) + 1) = ((i + 1 : Nat) : Int) := by rw [wrap_i64 (by omega) (by omega)]; simp
      have hx : i - 1 < 16 := by omega
      have hfl : i - 1 < (fl m i).length := by rw [fl_len]; exact hx
      have hg : (fl m i)[i - 1] = fst m (i - 1) := by simp [fl]; omega
      have hb := fst_le hw (n := i - 1) (by omega) (by omega)
      have hb2 := pow_le15 (n := i - 1) (by omega)
      have w3 : IntKind.i64.wrap (((fst m (i - 1) : Nat) : Int) + ((m.count (i - 1) : Nat) : Int)) = ((fst m (i - 1) + m.count (i - 1) : Nat) : Int) := by rw [wrap_i64 (by omega) (by omega)]; simp
      have hstep : fst m i = 2 * (fst m (i - 1) + m.count (i - 1)) := by
        obtain ⟨j, rfl⟩ : ∃ j, i = j + 2 := ⟨i - 2, by omega⟩
        rfl
      have w4 : IntKind.i64.wrap (2 * ((fst m (i - 1) + m.count (i - 1) : Nat) : Int)) = ((fst m i : Nat) : Int) := by rw [hstep, wrap_i64 (by omega) (by omega)]; simp
      have hset := ints_set (fl m i) i (fst m i) (by rw [fl_len]; exact h16)
      rw [fl_set m i h16] at hset
      refine (loop_next (cnd_t (by simp; omega) (bnd (x := ((i - 1 : Nat) : Int)) (by rw [w1]) (bnd (ixO_of hx) (bnd (x := ((fst m (i - 1) : Nat) : Int)) (by rw [ints_get hfl, hg]) (bnd (x := ((i - 1 : Nat) : Int)) (by rw [w1]) (bnd (ixO_of hx) (bnd (tal_get m hx (by omega))
        (bnd (x := ((fst m (i - 1) + m.count (i - 1) : Nat) : Int)) (by rw [w3]) (bnd (x := ((fst m i : Nat) : Int)) (by rw [w4]) (bnd (ixO_of h16) (bnd hset (bnd (x := ((i + 1 : Nat) : Int)) (by rw [w2]) rfl))))))))))))).trans ?_
      exact ih f (i + 1) (by omega) (by omega) (by omega) (by omega)
  have h0 : ints (fl m 2) = List.replicate 16 (0 : Int) := by
    have : fl m 2 = List.replicate 16 0 := by
      apply List.ext_getElem
      · simp [fl]
      · intro j h1 h2
        simp only [fl, List.getElem_map, List.getElem_range, List.getElem_replicate]
        split
        · rename_i h
          have : j = 0 ∨ j = 1 := by omega
          rcases this with rfl | rfl <;> rfl
        · rfl
    rw [this]; decide
  have hk := key 14 BIG 2 rfl (by omega) (by omega) (by unfold BIG; omega)
  rw [h0] at hk
  have l16 : lnO 16 (ints (fl m 16)) = some (ints (fl m 16)) := by simp [lnO, ints_len, fl_len]
  have l0 : lnO 16 (List.replicate 16 (0 : Int)) = some (List.replicate 16 (0 : Int)) := by decide
  exact bndL hk (bnd l16 (bnd l0 (bnd l16 (bnd l16 rfl))))

/-- A symbol's code. -/
def code (m : List Nat) (j : Nat) : Nat := if m.getD j 0 = 0 then 0 else fst m (m.getD j 0) + (m.take j).count (m.getD j 0)
def codes (m : List Nat) : List Nat := (List.range m.length).map (code m)
def nx (m : List Nat) (i : Nat) : List Nat := (List.range 16).map fun n => if n = 0 then 0 else fst m n + (m.take i).count n
def cd (m : List Nat) (i : Nat) : List Nat := (List.range m.length).map fun j => if j < i then code m j else 0
theorem nx_len (m : List Nat) (i : Nat) : (nx m i).length = 16 := by simp [nx]
theorem cd_len (m : List Nat) (i : Nat) : (cd m i).length = m.length := by simp [cd]
theorem codes_len (m : List Nat) : (codes m).length = m.length := by simp [codes]
theorem codes_get (m : List Nat) {j : Nat} (h : j < m.length) : getO (ints (codes m)) j = some ((code m j : Nat) : Int) := by
  rw [ints_get (by rw [codes_len]; exact h)]
  simp [codes]
theorem nx_set (m : List Nat) (i : Nat) (h : i < m.length) (hx : m[i] ≤ 15) (h0 : 0 < m[i]) : (nx m i).set m[i] (fst m m[i] + (m.take i).count m[i] + 1) = nx m (i + 1) := by
  have htk : m.take (i + 1) = m.take i ++ [m[i]] := by rw [List.take_add_one]; simp [h]
  apply List.ext_getElem
  · simp [nx]
  · intro j h1 h2
    rw [List.getElem_set]
    simp only [nx, List.getElem_map, List.getElem_range, htk, List.count_append]
    by_cases hij : m[i] = j
    · rw [if_pos hij, if_neg (by omega), hij]; simp [hij]; omega
    · rw [if_neg hij]
      have : List.count j [m[i]] = 0 := by simp [List.count_cons, hij]
      rw [this]; rfl
theorem nx_zero (m : List Nat) (i : Nat) (h : i < m.length) (h0 : m[i] = 0) : nx m (i + 1) = nx m i := by
  have htk : m.take (i + 1) = m.take i ++ [m[i]] := by rw [List.take_add_one]; simp [h]
  apply List.ext_getElem
  · simp [nx]
  · intro j h1 h2
    simp only [nx, List.getElem_map, List.getElem_range, htk, List.count_append]
    by_cases hj : j = 0
    · simp [hj]
    · have : List.count j [m[i]] = 0 := by simp [List.count_cons, h0]; omega
      rw [this]; rfl
theorem cd_set (m : List Nat) (i : Nat) (h : i < m.length) : (cd m i).set i (code m i) = cd m (i + 1) := by
  apply List.ext_getElem
  · simp [cd]
  · intro j h1 h2
    rw [List.getElem_set]
    simp only [cd, List.getElem_map, List.getElem_range]
    by_cases hij : i = j
    · subst hij; simp
    · rw [if_neg hij]
      by_cases hj : j < i
      · rw [if_pos hj, if_pos (by omega)]
      · rw [if_neg hj, if_neg (by omega)]
theorem cd_zero (m : List Nat) (i : Nat) (h : i < m.length) (h0 : m[i] = 0) : cd m (i + 1) = cd m i := by
  apply List.ext_getElem
  · simp [cd]
  · intro j h1 h2
    simp only [cd, List.getElem_map, List.getElem_range]
    by_cases hij : j = i
    · subst hij
      have : code m j = 0 := by simp [code, List.getD_eq_getElem?_getD, h, h0]
      simp [this]
    · by_cases hj : j < i
      · rw [if_pos hj, if_pos (by omega)]
      · rw [if_neg hj, if_neg (by omega)]

theorem codes_eq (m : List Nat) (hl : m.length ≤ 300) (hm : ∀ x ∈ m, x ≤ 15) (hf : forms m = true) : canon_Codes (ints m) = some (ints (codes m), 0) := by
  have hw := forms_ws hf
  unfold canon_Codes
  have hck := check_ints m (by omega)
  rw [if_pos ⟨hl, hm⟩, if_pos hf] at hck
  have l16 : lnO 16 (ints (fl m 16)) = some (ints (fl m 16)) := by simp [lnO, ints_len, fl_len]
  have l0 : lnO 16 (List.replicate 16 (0 : Int)) = some (List.replicate 16 (0 : Int)) := by decide
  have hmk : mkO 8 ((ints m).length : Int) (0 : Int) = some (ints (cd m 0)) := by
    simp only [mkO]
    rw [if_pos ⟨by omega, by rw [ints_len]; omega⟩, ints_len]
    congr 1
    apply List.ext_getElem
    · simp [ints, cd]
    · intro j h1 h2; simp [ints, cd]
  have hn0 : nx m 0 = fl m 16 := by
    apply List.ext_getElem
    · simp [nx, fl]
    · intro j h1 h2
      have hj : j < 16 := by rw [nx_len] at h1; exact h1
      simp only [nx, fl, List.getElem_map, List.getElem_range, List.take_zero, List.count_nil, Nat.add_zero, hj, if_true]
      split
      · rename_i h; subst h; rfl
      · rfl
  refine bnd hck (cnd_f rfl (bnd (count_eq m hm (by omega)) (bnd (firsts_eq m (by omega) hw) (bnd l0 (bnd l16 (bnd hmk ?_))))))
  have key : ∀ (k fuel i : Nat), m.length - i = k → i ≤ m.length → k < fuel →
      loopF (S := ((List Int) × (List Int) × Int)) (O := ((List Int)) ⊕ ((List Int) × Int)) (fun ((s39, s40, s41) : (List Int) × (List Int) × Int) =>
        cond ((decide (s41 < ((ints m).length : Int))))
          (bindS (S := (List Int) × (List Int)) (A := (((List Int) × (List Int) × Int) ⊕ (((List Int)) ⊕ ((List Int) × Int))))
            ((ixO s41 (ints m).length).bind fun v9 =>
            (getO (ints m) v9).bind fun v10 =>
            cond ((decide (0 < v10)))
              ((ixO v10 16).bind fun v12 =>
              (getO s39 v12).bind fun v13 =>
              (ixO s41 s40.length).bind fun v14 =>
              (some (s40.set v14 v13)).bind fun v15 =>
              (ixO v10 16).bind fun v16 =>
              (getO s39 v16).bind fun v17 =>
              (some (IntKind.i64.wrap (v17 + 1))).bind fun v18 =>
              (ixO v10 16).bind fun v19 =>
              (setO s39 v19 v18).bind fun v20 =>
              some (.inl (v20, v15)))
              (some (.inl (s39, s40))))
            (fun ((s59, s60) : (List Int) × (List Int)) =>
              (some (IntKind.i64.wrap (s41 + 1))).bind fun v27 =>
              some (.inl (s59, s60, v27))) some)
          (some (.inr (.inl s40)))) fuel (ints (nx m i), ints (cd m i), (i : Int)) = some (.inl (ints (cd m m.length))) := by
    intro k
    induction k with
    | zero =>
      intro fuel i hk hi hf
      obtain ⟨f, rfl⟩ : ∃ f, fuel = f + 1 := ⟨fuel - 1, by omega⟩
      have : i = m.length := by omega
      subst this
      exact loop_exit (cnd_f (by simp [ints_len]) rfl)
    | succ k ih =>
      intro fuel i hk hi hf
      obtain ⟨f, rfl⟩ : ∃ f, fuel = f + 1 := ⟨fuel - 1, by omega⟩
      have hlt : i < m.length := by omega
      have hlt' : i < (ints m).length := by rw [ints_len]; exact hlt
      have hw1 : IntKind.i64.wrap ((i : Int) + 1) = ((i + 1 : Nat) : Int) := by rw [wrap_i64 (by omega) (by omega)]; simp
      have hx := hm m[i] (List.getElem_mem hlt)
      refine (loop_next (s' := (ints (nx m (i + 1)), ints (cd m (i + 1)), ((i + 1 : Nat) : Int))) (cnd_t (by simp; omega) (bndL (s := (ints (nx m (i + 1)), ints (cd m (i + 1)))) (bnd (ixO_of hlt') (bnd (ints_get hlt) ?_)) (bnd (x := ((i + 1 : Nat) : Int)) (by rw [hw1]) rfl)))).trans (ih f (i + 1) (by omega) (by omega) (by omega))
      by_cases h0 : 0 < m[i]
      · have h16 : m[i] < 16 := by omega
        have hnl : m[i] < (nx m i).length := by rw [nx_len]; exact h16
        have hng : (nx m i)[m[i]] = fst m m[i] + (m.take i).count m[i] := by simp [nx]; omega
        have hcode : code m i = fst m m[i] + (m.take i).count m[i] := by
          have : m.getD i 0 = m[i] := by simp [List.getD_eq_getElem?_getD, hlt]
          rw [code, this, if_neg (by omega)]
        have hc : (m.take i).count m[i] ≤ m.length := Nat.le_trans List.count_le_length (by simp; omega)
        have hfs := fst_small hw hx
        have w5 : IntKind.i64.wrap (((fst m m[i] + (m.take i).count m[i] : Nat) : Int) + 1) = ((fst m m[i] + (m.take i).count m[i] + 1 : Nat) : Int) := by rw [wrap_i64 (by omega) (by omega)]; simp
        have hg : getO (ints (nx m i)) m[i] = some ((fst m m[i] + (m.take i).count m[i] : Nat) : Int) := by rw [ints_get hnl, hng]
        have hcl : i < (ints (cd m i)).length := by rw [ints_len, cd_len]; exact hlt
        have hset := ints_set (nx m i) m[i] (fst m m[i] + (m.take i).count m[i] + 1) hnl
        rw [nx_set m i hlt hx h0] at hset
        have hcs : (ints (cd m i)).set i (((fst m m[i] + (m.take i).count m[i] : Nat)) : Int) = ints (cd m (i + 1)) := by
          rw [← cd_set m i hlt, hcode, ints, ints, List.map_set]
        refine cnd_t (by simp; omega) (bnd (ixO_of h16) (bnd hg (bnd (ixO_of hcl) (bnd (x := ints (cd m (i + 1))) (by rw [hcs]) (bnd (ixO_of h16) (bnd hg (bnd (x := ((fst m m[i] + (m.take i).count m[i] + 1 : Nat) : Int)) (by rw [w5]) (bnd (ixO_of h16) (bnd hset rfl)))))))))
      · have hz : m[i] = 0 := by omega
        refine cnd_f (by simp; omega) ?_
        rw [nx_zero m i hlt hz, cd_zero m i hlt hz]
  have hk := key m.length BIG 0 (by omega) (Nat.zero_le _) (by unfold BIG; omega)
  rw [hn0] at hk
  have he : cd m m.length = codes m := by
    apply List.ext_getElem
    · simp [cd, codes]
    · intro j h1 h2
      have : j < m.length := by rw [cd_len] at h1; exact h1
      simp [cd, codes, this]
  rw [he] at hk
  exact bndL hk rfl

/-- What any lengths' codes are. -/
theorem codes_cases (l : List Int) (hl : l.length ≤ 1000) : (∃ m, l = ints m ∧ m.length ≤ 300 ∧ (∀ x ∈ m, x ≤ 15) ∧ forms m = true ∧ canon_Codes l = some (ints (codes m), 0) ∧ canon_Check l = some 0) ∨
    (canon_Codes l = some ([], 1) ∧ canon_Check l = some 1) ∨ (canon_Codes l = some ([], 4) ∧ canon_Check l = some 4) := by
  by_cases hv : l.length ≤ 300 ∧ ∀ n ∈ l, 0 ≤ n ∧ n ≤ 15
  · have e := ints_nats (l := l) (fun n hn => (hv.2 n hn).1)
    have hm : ∀ x ∈ l.map Int.toNat, x ≤ 15 := by
      intro x hx
      obtain ⟨n, hn, rfl⟩ := List.mem_map.1 hx
      have := hv.2 n hn; omega
    have hck := check_ints (l.map Int.toNat) (by simpa using hl)
    rw [if_pos ⟨by simpa using hv.1, hm⟩, e] at hck
    by_cases hf : forms (l.map Int.toNat) = true
    · rw [if_pos hf] at hck
      have hc := codes_eq _ (by simpa using hv.1) hm hf
      rw [e] at hc
      exact .inl ⟨_, e.symm, by simpa using hv.1, hm, hf, hc, hck⟩
    · rw [if_neg hf] at hck
      refine .inr (.inr ⟨?_, hck⟩)
      unfold canon_Codes
      exact bnd hck (cnd_t rfl rfl)
  · have hck : canon_Check l = some 1 := by
      unfold canon_Check
      refine bnd (valid_eq l) (cnd_t ?_ rfl)
      rw [decide_eq_false hv]; rfl
    refine .inr (.inl ⟨?_, hck⟩)
    unfold canon_Codes
    exact bnd hck (cnd_t rfl rfl)
end Go.Abs.Sh
