import Derived.Test.YtjnihhkkaioahaaCanonE
namespace Go.Abs.Sh
set_option linter.unusedVariables false
set_option linter.unusedSimpArgs false

theorem nth_eq (m : List Nat) (n q : Nat) (hl : m.length ≤ 1000) (hq : q < m.count n) : ∃ j, ∃ h : j < m.length, m[j] = n ∧ (m.take j).count n = q ∧ canon_nth (ints m) (n : Int) (q : Int) = some (j : Int) := by
  have hcl : m.count n ≤ m.length := List.count_le_length
  have key : ∀ (k fuel i : Nat), m.length - i = k → i ≤ m.length → k < fuel → (m.take i).count n ≤ q →
    ∃ j, ∃ h : j < m.length, m[j] = n ∧ (m.take j).count n = q ∧ loopF (S := (Int × Int)) (O := (Unit) ⊕ Int) (fun ((s25, s26) : Int × Int) =>
      cond ((decide (s26 < ((ints m).length : Int))))
        (bindS (S := Int) (A := ((Int × Int) ⊕ ((Unit) ⊕ Int)))
          ((ixO s26 (ints m).length).bind fun v2 =>
          (getO (ints m) v2).bind fun v3 =>
          cond ((v3 != (n : Int)))
            (some (.inl s25))
            (cond ((s25 == 0))
              (some (.inr (.inr (.inr (s26)))))
              ((some (IntKind.i64.wrap (s25 - 1))).bind fun v6 =>
              some (.inl v6))))
          (fun (s45 : Int) =>
            (some (IntKind.i64.wrap (s26 + 1))).bind fun v13 =>
            some (.inl (s45, v13))) some)
        (some (.inr (.inl ())))) fuel (((q - (m.take i).count n : Nat) : Int), (i : Int)) = some (.inr (j : Int)) := by
    intro k
    induction k with
    | zero =>
      intro fuel i hk hi hf hc
      have : i = m.length := by omega
      subst this
      rw [List.take_length] at hc
      omega
    | succ k ih =>
      intro fuel i hk hi hf hc
      obtain ⟨f, rfl⟩ : ∃ f, fuel = f + 1 := ⟨fuel - 1, by omega⟩
      have hlt : i < m.length := by omega
      have hlt' : i < (ints m).length := by rw [ints_len]; exact hlt
      have hw : IntKind.i64.wrap ((i : Int) + 1) = ((i + 1 : Nat) : Int) := by rw [wrap_i64 (by omega) (by omega)]; simp
      by_cases h1 : m[i] = n
      · by_cases h2 : (m.take i).count n = q
        · refine ⟨i, hlt, h1, h2, loop_exit (cnd_t (by simp; omega) (bndR (a := .inr (.inr (i : Int))) (bnd (ixO_of hlt') (bnd (ints_get hlt) (cnd_f (by simp [h1]) (cnd_t (by rw [h2]; simp) rfl)))) rfl))⟩
        · have hcnt : (m.take (i + 1)).count n = (m.take i).count n + 1 := by rw [take_snoc hlt, List.count_append, h1]; simp
          obtain ⟨j, hj, e1, e2, hr⟩ := ih f (i + 1) (by omega) (by omega) (by omega) (by omega)
          have w3 : IntKind.i64.wrap (((q - (m.take i).count n : Nat) : Int) - 1) = ((q - (m.take (i + 1)).count n : Nat) : Int) := by rw [hcnt, wrap_i64 (by omega) (by omega)]; omega
          refine ⟨j, hj, e1, e2, (loop_next (cnd_t (by simp; omega) (bndL (s := ((q - (m.take (i + 1)).count n : Nat) : Int)) (bnd (ixO_of hlt') (bnd (ints_get hlt) (cnd_f (by simp [h1]) (cnd_f ?_ (bnd (x := ((q - (m.take (i + 1)).count n : Nat) : Int)) (by rw [w3]) rfl))))) (bnd (x := ((i + 1 : Nat) : Int)) (by rw [hw]) rfl)))).trans hr⟩
          rw [beq_eq_false_iff_ne]; omega
      · have hcnt : (m.take (i + 1)).count n = (m.take i).count n := by
          rw [take_snoc hlt, List.count_append]
          have : List.count n [m[i]] = 0 := by simp [List.count_cons, h1]
          rw [this]; rfl
        obtain ⟨j, hj, e1, e2, hr⟩ := ih f (i + 1) (by omega) (by omega) (by omega) (by omega)
        rw [hcnt] at hr
        refine ⟨j, hj, e1, e2, (loop_next (cnd_t (by simp; omega) (bndL (s := ((q - (m.take i).count n : Nat) : Int)) (bnd (ixO_of hlt') (bnd (ints_get hlt) (cnd_t ?_ rfl))) (bnd (x := ((i + 1 : Nat) : Int)) (by rw [hw]) rfl)))).trans hr⟩
        simp only [bne_iff_ne, ne_eq]; omega
  obtain ⟨j, hj, e1, e2, hr⟩ := key m.length BIG 0 (by omega) (Nat.zero_le _) (by unfold BIG; omega) (by simp)
  rw [List.take_zero, List.count_nil, Nat.sub_zero] at hr
  refine ⟨j, hj, e1, e2, ?_⟩
  unfold canon_nth
  exact bndR (a := (j : Int)) hr rfl

theorem and1_i64c (a : Nat) (ha : a < 9223372036854775808) : bits .and .i64 (a : Int) 1 = ((a % 2 : Nat) : Int) := and1_i64 a ha
theorem refBit_eq (b : List Int) (p : Nat) (x : Nat) (hp : p / 8 < b.length) (hbl : b.length ≤ 1000) (hx : b[p / 8] = (x : Int)) (hx256 : x < 256) : wherryref01_bit b (p : Int) = some ((x / 2 ^ (p % 8) % 2 : Nat) : Int) := by
  unfold wherryref01_bit
  have q8 := quo_nat p 8 (by omega) (by omega)
  have r8 := rem_nat p 8 (by omega)
  rw [show ((8 : Nat) : Int) = 8 from rfl] at q8 r8
  have hr8 : p % 8 < 8 := Nat.mod_lt _ (by omega)
  have u : IntKind.u64.wrap ((p % 8 : Nat) : Int) = ((p % 8 : Nat) : Int) := wrap_u64c (by omega) (by omega)
  have hsh := shr_nat .u8 x (p % 8) (by simp only [IntKind.bits]; omega)
  have hdv : x / 2 ^ (p % 8) < 256 := Nat.lt_of_le_of_lt (Nat.div_le_self _ _) hx256
  have w : IntKind.i64.wrap ((x / 2 ^ (p % 8) : Nat) : Int) = ((x / 2 ^ (p % 8) : Nat) : Int) := by
    generalize x / 2 ^ (p % 8) = z at *
    exact wrap_i64 (by omega) (by omega)
  exact bnd q8 (bnd (ixO_of hp) (bnd (x := (x : Int)) (by rw [getO_of hp, hx]) (bnd r8 (bnd (x := ((p % 8 : Nat) : Int)) (by rw [u]) (bnd hsh (bnd (x := ((x / 2 ^ (p % 8) : Nat) : Int)) (by rw [w]) (bnd (x := ((x / 2 ^ (p % 8) % 2 : Nat) : Int)) (by rw [and1_i64 _ (by omega)]) rfl)))))))

/-- The page's search among the symbols of one length. -/
theorem search_eq (m : List Nat) (hl : m.length ≤ 300) (n c P : Nat) (v : Int) (hv : IntKind.i64.wrap ((P : Int) + (n : Int)) = v) :
    ∀ (k fuel i : Nat), m.length - i = k → i ≤ m.length → k < fuel →
     ((∀ j, i ≤ j → ∀ h : j < m.length, m[j] = n → code m j ≠ c) →
      loopF (S := (Int)) (O := (Unit) ⊕ ((Int × Int) ⊕ ((Unit) ⊕ (Int × Int)))) (fun (s154 : Int) =>
                cond ((decide (s154 < ((ints m).length : Int))))
                  (bindS (S := Bool) (A := ((Int) ⊕ ((Unit) ⊕ ((Int × Int) ⊕ ((Unit) ⊕ (Int × Int))))))
                    ((ixO s154 (ints m).length).bind fun v14 =>
                    (getO (ints m) v14).bind fun v15 =>
                    cond ((v15 == (n : Int)))
                      ((ixO s154 (ints (codes m)).length).bind fun v16 =>
                      (getO (ints (codes m)) v16).bind fun v17 =>
                      some (.inl (v17 == (c : Int))))
                      (some (.inl false)))
                    (fun (s168 : Bool) =>
                      cond (s168)
                        ((some (IntKind.i64.wrap ((P : Int) + (n : Int)))).bind fun v23 =>
                        some (.inr (.inr (.inr (.inr ((s154, v23)))))))
                        ((some (IntKind.i64.wrap (s154 + 1))).bind fun v24 =>
                        some (.inl v24))) some)
                  (some (.inr (.inl ())))) fuel (i : Int) = some (.inl ())) ∧
     (∀ j, i ≤ j → ∀ h : j < m.length, m[j] = n → code m j = c → (∀ j', i ≤ j' → j' < j → ∀ h' : j' < m.length, m[j'] = n → code m j' ≠ c) →
      loopF (S := (Int)) (O := (Unit) ⊕ ((Int × Int) ⊕ ((Unit) ⊕ (Int × Int)))) (fun (s154 : Int) =>
                cond ((decide (s154 < ((ints m).length : Int))))
                  (bindS (S := Bool) (A := ((Int) ⊕ ((Unit) ⊕ ((Int × Int) ⊕ ((Unit) ⊕ (Int × Int))))))
                    ((ixO s154 (ints m).length).bind fun v14 =>
                    (getO (ints m) v14).bind fun v15 =>
                    cond ((v15 == (n : Int)))
                      ((ixO s154 (ints (codes m)).length).bind fun v16 =>
                      (getO (ints (codes m)) v16).bind fun v17 =>
                      some (.inl (v17 == (c : Int))))
                      (some (.inl false)))
                    (fun (s168 : Bool) =>
                      cond (s168)
                        ((some (IntKind.i64.wrap ((P : Int) + (n : Int)))).bind fun v23 =>
                        some (.inr (.inr (.inr (.inr ((s154, v23)))))))
                        ((some (IntKind.i64.wrap (s154 + 1))).bind fun v24 =>
                        some (.inl v24))) some)
                  (some (.inr (.inl ())))) fuel (i : Int) = some (.inr (.inr (.inr ((j : Int), v))))) := by
  intro k
  induction k with
  | zero =>
    intro fuel i hk hi hf
    obtain ⟨f, rfl⟩ : ∃ f, fuel = f + 1 := ⟨fuel - 1, by omega⟩
    have : i = m.length := by omega
    subst this
    exact ⟨fun _ => loop_exit (cnd_f (by simp [ints_len]) rfl), fun j h1 h2 => by omega⟩
  | succ k ih =>
    intro fuel i hk hi hf
    obtain ⟨f, rfl⟩ : ∃ f, fuel = f + 1 := ⟨fuel - 1, by omega⟩
    have hlt : i < m.length := by omega
    have hlt' : i < (ints m).length := by rw [ints_len]; exact hlt
    have hltc : i < (ints (codes m)).length := by rw [ints_len, codes_len]; exact hlt
    have hw : IntKind.i64.wrap ((i : Int) + 1) = ((i + 1 : Nat) : Int) := by rw [wrap_i64 (by omega) (by omega)]; simp
    have hd : decide ((i : Int) < ((ints m).length : Int)) = true := by simp; omega
    obtain ⟨ih1, ih2⟩ := ih f (i + 1) (by omega) (by omega) (by omega)
    by_cases hit : m[i] = n ∧ code m i = c
    · refine ⟨fun h => absurd hit.2 (h i (Nat.le_refl _) hlt hit.1), fun j hij hj e1 e2 hno => ?_⟩
      have : j = i := by
        refine Classical.byContradiction fun hne => ?_
        exact hno i (Nat.le_refl _) (by omega) hlt hit.1 hit.2
      subst this
      exact loop_exit (cnd_t hd (bndL (s := true) (bnd (ixO_of hlt') (bnd (ints_get hlt) (cnd_t (by simp [hit.1]) (bnd (ixO_of hltc) (bnd (codes_get m hlt) (by rw [hit.2]; simp)))))) (cnd_t rfl (bnd (x := v) (by rw [hv]) rfl))))
    · have hgo : ∀ {r}, r = loopF (S := (Int)) (O := (Unit) ⊕ ((Int × Int) ⊕ ((Unit) ⊕ (Int × Int)))) (fun (s154 : Int) =>
                cond ((decide (s154 < ((ints m).length : Int))))
                  (bindS (S := Bool) (A := ((Int) ⊕ ((Unit) ⊕ ((Int × Int) ⊕ ((Unit) ⊕ (Int × Int))))))
                    ((ixO s154 (ints m).length).bind fun v14 =>
                    (getO (ints m) v14).bind fun v15 =>
                    cond ((v15 == (n : Int)))
                      ((ixO s154 (ints (codes m)).length).bind fun v16 =>
                      (getO (ints (codes m)) v16).bind fun v17 =>
                      some (.inl (v17 == (c : Int))))
                      (some (.inl false)))
                    (fun (s168 : Bool) =>
                      cond (s168)
                        ((some (IntKind.i64.wrap ((P : Int) + (n : Int)))).bind fun v23 =>
                        some (.inr (.inr (.inr (.inr ((s154, v23)))))))
                        ((some (IntKind.i64.wrap (s154 + 1))).bind fun v24 =>
                        some (.inl v24))) some)
                  (some (.inr (.inl ())))) f ((i + 1 : Nat) : Int) → loopF (S := (Int)) (O := (Unit) ⊕ ((Int × Int) ⊕ ((Unit) ⊕ (Int × Int)))) (fun (s154 : Int) =>
                cond ((decide (s154 < ((ints m).length : Int))))
                  (bindS (S := Bool) (A := ((Int) ⊕ ((Unit) ⊕ ((Int × Int) ⊕ ((Unit) ⊕ (Int × Int))))))
                    ((ixO s154 (ints m).length).bind fun v14 =>
                    (getO (ints m) v14).bind fun v15 =>
                    cond ((v15 == (n : Int)))
                      ((ixO s154 (ints (codes m)).length).bind fun v16 =>
                      (getO (ints (codes m)) v16).bind fun v17 =>
                      some (.inl (v17 == (c : Int))))
                      (some (.inl false)))
                    (fun (s168 : Bool) =>
                      cond (s168)
                        ((some (IntKind.i64.wrap ((P : Int) + (n : Int)))).bind fun v23 =>
                        some (.inr (.inr (.inr (.inr ((s154, v23)))))))
                        ((some (IntKind.i64.wrap (s154 + 1))).bind fun v24 =>
                        some (.inl v24))) some)
                  (some (.inr (.inl ())))) (f + 1) (i : Int) = r := by
        intro r hr
        subst hr
        refine loop_next (cnd_t hd (bndL (s := false) (bnd (ixO_of hlt') (bnd (ints_get hlt) ?_)) (cnd_f rfl (bnd (x := ((i + 1 : Nat) : Int)) (by rw [hw]) rfl))))
        by_cases h1 : m[i] = n
        · have h2 : code m i ≠ c := fun h => hit ⟨h1, h⟩
          refine cnd_t (by simp [h1]) (bnd (ixO_of hltc) (bnd (codes_get m hlt) ?_))
          have : (((code m i : Nat) : Int) == (c : Int)) = false := by rw [beq_eq_false_iff_ne]; omega
          rw [this]
        · exact cnd_f (by rw [beq_eq_false_iff_ne]; omega) rfl
      refine ⟨fun h => hgo (ih1 fun j hj => h j (by omega)).symm, fun j hij hj e1 e2 hno => ?_⟩
      have hne : j ≠ i := fun h => by subst h; exact hit ⟨e1, e2⟩
      exact hgo (ih2 j (by omega) hj e1 e2 fun j' h1 h2 => hno j' (by omega) h2).symm

theorem read_both (m : List Nat) (hl : m.length ≤ 300) (hm : ∀ x ∈ m, x ≤ 15) (hf : forms m = true) (b : List Int) (hb : ∀ n ∈ b, 0 ≤ n ∧ n < 256) (hbl : b.length ≤ 1000) (P : Nat) (hP : P ≤ 8 * b.length) :
    (∃ j s : Nat, canon_Read (ints m) b (P : Int) = some ((j : Int), (s : Int), 0) ∧ wherryref01_read (ints m) (ints (codes m)) b (P : Int) = some ((j : Int), (s : Int))) ∨
    (canon_Read (ints m) b (P : Int) = some (0, 0, 3) ∧ wherryref01_read (ints m) (ints (codes m)) b (P : Int) = some (-1, 0)) := by
  have hwl := forms_ws hf
  have hck := check_ints m (by omega)
  rw [if_pos ⟨hl, hm⟩, if_pos hf] at hck
  have l16 : lnO 16 (ints (fl m 16)) = some (ints (fl m 16)) := by simp [lnO, ints_len, fl_len]
  have l16t : lnO 16 (ints (tal m)) = some (ints (tal m)) := by simp [lnO, ints_len, tal_len]
  have l0 : lnO 16 (List.replicate 16 (0 : Int)) = some (List.replicate 16 (0 : Int)) := by decide
  have w8 : IntKind.i64.wrap (8 * (b.length : Int)) = ((8 * b.length : Nat) : Int) := by rw [wrap_i64 (by omega) (by omega)]; simp
  have key : ∀ (k fuel n c : Nat), 16 - n = k → 1 ≤ n → n ≤ 16 → k < fuel → c < 2 ^ (n - 1) → endOf m (n - 1) ≤ c →
      (∃ j s : Nat, loopF (S := (Int × Int × Int)) (O := (Unit) ⊕ (Int × Int × Int)) (fun ((s52, s53, s54) : Int × Int × Int) =>
              bindS (S := Bool) (A := ((Int × Int × Int) ⊕ ((Unit) ⊕ (Int × Int × Int))))
                (cond ((decide (s54 ≤ 15)))
                  ((some (IntKind.i64.wrap (8 * (b.length : Int)))).bind fun v16 =>
                  some (.inl ((decide (s52 < v16)))))
                  (some (.inl false)))
                (fun (s67 : Bool) =>
                  cond (s67)
                    ((shlO .i64 s53 1).bind fun v22 =>
                    (quoO .i64 s52 8).bind fun v23 =>
                    (ixO v23 b.length).bind fun v24 =>
                    (getO b v24).bind fun v25 =>
                    (remO s52 8).bind fun v26 =>
                    (shrO .u8 v25 v26).bind fun v27 =>
                    (some (bits .and .u8 v27 1)).bind fun v28 =>
                    (some (IntKind.i64.wrap v28)).bind fun v29 =>
                    (some (bits .or .i64 v22 v29)).bind fun v30 =>
                    (some (IntKind.i64.wrap (s52 + 1))).bind fun v31 =>
                    (ixO s54 16).bind fun v32 =>
                    (getO (ints (fl m 16)) v32).bind fun v33 =>
                    (ixO s54 16).bind fun v34 =>
                    (getO (ints (tal m)) v34).bind fun v35 =>
                    (some (IntKind.i64.wrap (v33 + v35))).bind fun v36 =>
                    cond ((decide (v30 < v36)))
                      ((ixO s54 16).bind fun v38 =>
                      (getO (ints (fl m 16)) v38).bind fun v39 =>
                      (some (IntKind.i64.wrap (v30 - v39))).bind fun v40 =>
                      (canon_nth (ints m) s54 v40).bind fun v41 =>
                      some (.inr (.inr ((v41, v31, 0)))))
                      ((some (IntKind.i64.wrap (s54 + 1))).bind fun v42 =>
                      some (.inl (v31, v30, v42))))
                    (some (.inr (.inl ())))) some) fuel (((P + n - 1 : Nat) : Int), (c : Int), (n : Int)) = some (.inr ((j : Int), (s : Int), 0)) ∧
      loopF (S := (Int × Int)) (O := (Unit) ⊕ (Int × Int)) (fun ((s91, s92) : Int × Int) =>
      bindS (S := Bool) (A := ((Int × Int) ⊕ ((Unit) ⊕ (Int × Int))))
        (cond ((decide (s92 ≤ 15)))
          ((some (IntKind.i64.wrap ((P : Int) + s92))).bind fun v1 =>
          (some (IntKind.i64.wrap (8 * (b.length : Int)))).bind fun v2 =>
          some (.inl ((decide (v1 ≤ v2)))))
          (some (.inl false)))
        (fun (s136 : Bool) =>
          cond (s136)
            ((some (IntKind.i64.wrap (2 * s91))).bind fun v8 =>
            (some (IntKind.i64.wrap ((P : Int) + s92))).bind fun v9 =>
            (some (IntKind.i64.wrap (v9 - 1))).bind fun v10 =>
            (wherryref01_bit b v10).bind fun v11 =>
            (some (IntKind.i64.wrap (v8 + v11))).bind fun v12 =>
            bindS (S := (Unit)) (A := ((Int × Int) ⊕ ((Unit) ⊕ (Int × Int))))
              (loopF (S := (Int)) (O := (Unit) ⊕ ((Int × Int) ⊕ ((Unit) ⊕ (Int × Int)))) (fun (s154 : Int) =>
                cond ((decide (s154 < ((ints m).length : Int))))
                  (bindS (S := Bool) (A := ((Int) ⊕ ((Unit) ⊕ ((Int × Int) ⊕ ((Unit) ⊕ (Int × Int))))))
                    ((ixO s154 (ints m).length).bind fun v14 =>
                    (getO (ints m) v14).bind fun v15 =>
                    cond ((v15 == s92))
                      ((ixO s154 (ints (codes m)).length).bind fun v16 =>
                      (getO (ints (codes m)) v16).bind fun v17 =>
                      some (.inl (v17 == v12)))
                      (some (.inl false)))
                    (fun (s168 : Bool) =>
                      cond (s168)
                        ((some (IntKind.i64.wrap ((P : Int) + s92))).bind fun v23 =>
                        some (.inr (.inr (.inr (.inr ((s154, v23)))))))
                        ((some (IntKind.i64.wrap (s154 + 1))).bind fun v24 =>
                        some (.inl v24))) some)
                  (some (.inr (.inl ()))))
                BIG 0)
              (fun (() : Unit) =>
                (some (IntKind.i64.wrap (s92 + 1))).bind fun v51 =>
                some (.inl (v12, v51))) some)
            (some (.inr (.inl ())))) some) fuel ((c : Int), (n : Int)) = some (.inr ((j : Int), (s : Int)))) ∨
      (loopF (S := (Int × Int × Int)) (O := (Unit) ⊕ (Int × Int × Int)) (fun ((s52, s53, s54) : Int × Int × Int) =>
              bindS (S := Bool) (A := ((Int × Int × Int) ⊕ ((Unit) ⊕ (Int × Int × Int))))
                (cond ((decide (s54 ≤ 15)))
                  ((some (IntKind.i64.wrap (8 * (b.length : Int)))).bind fun v16 =>
                  some (.inl ((decide (s52 < v16)))))
                  (some (.inl false)))
                (fun (s67 : Bool) =>
                  cond (s67)
                    ((shlO .i64 s53 1).bind fun v22 =>
                    (quoO .i64 s52 8).bind fun v23 =>
                    (ixO v23 b.length).bind fun v24 =>
                    (getO b v24).bind fun v25 =>
                    (remO s52 8).bind fun v26 =>
                    (shrO .u8 v25 v26).bind fun v27 =>
                    (some (bits .and .u8 v27 1)).bind fun v28 =>
                    (some (IntKind.i64.wrap v28)).bind fun v29 =>
                    (some (bits .or .i64 v22 v29)).bind fun v30 =>
                    (some (IntKind.i64.wrap (s52 + 1))).bind fun v31 =>
                    (ixO s54 16).bind fun v32 =>
                    (getO (ints (fl m 16)) v32).bind fun v33 =>
                    (ixO s54 16).bind fun v34 =>
                    (getO (ints (tal m)) v34).bind fun v35 =>
                    (some (IntKind.i64.wrap (v33 + v35))).bind fun v36 =>
                    cond ((decide (v30 < v36)))
                      ((ixO s54 16).bind fun v38 =>
                      (getO (ints (fl m 16)) v38).bind fun v39 =>
                      (some (IntKind.i64.wrap (v30 - v39))).bind fun v40 =>
                      (canon_nth (ints m) s54 v40).bind fun v41 =>
                      some (.inr (.inr ((v41, v31, 0)))))
                      ((some (IntKind.i64.wrap (s54 + 1))).bind fun v42 =>
                      some (.inl (v31, v30, v42))))
                    (some (.inr (.inl ())))) some) fuel (((P + n - 1 : Nat) : Int), (c : Int), (n : Int)) = some (.inl ()) ∧
      loopF (S := (Int × Int)) (O := (Unit) ⊕ (Int × Int)) (fun ((s91, s92) : Int × Int) =>
      bindS (S := Bool) (A := ((Int × Int) ⊕ ((Unit) ⊕ (Int × Int))))
        (cond ((decide (s92 ≤ 15)))
          ((some (IntKind.i64.wrap ((P : Int) + s92))).bind fun v1 =>
          (some (IntKind.i64.wrap (8 * (b.length : Int)))).bind fun v2 =>
          some (.inl ((decide (v1 ≤ v2)))))
          (some (.inl false)))
        (fun (s136 : Bool) =>
          cond (s136)
            ((some (IntKind.i64.wrap (2 * s91))).bind fun v8 =>
            (some (IntKind.i64.wrap ((P : Int) + s92))).bind fun v9 =>
            (some (IntKind.i64.wrap (v9 - 1))).bind fun v10 =>
            (wherryref01_bit b v10).bind fun v11 =>
            (some (IntKind.i64.wrap (v8 + v11))).bind fun v12 =>
            bindS (S := (Unit)) (A := ((Int × Int) ⊕ ((Unit) ⊕ (Int × Int))))
              (loopF (S := (Int)) (O := (Unit) ⊕ ((Int × Int) ⊕ ((Unit) ⊕ (Int × Int)))) (fun (s154 : Int) =>
                cond ((decide (s154 < ((ints m).length : Int))))
                  (bindS (S := Bool) (A := ((Int) ⊕ ((Unit) ⊕ ((Int × Int) ⊕ ((Unit) ⊕ (Int × Int))))))
                    ((ixO s154 (ints m).length).bind fun v14 =>
                    (getO (ints m) v14).bind fun v15 =>
                    cond ((v15 == s92))
                      ((ixO s154 (ints (codes m)).length).bind fun v16 =>
                      (getO (ints (codes m)) v16).bind fun v17 =>
                      some (.inl (v17 == v12)))
                      (some (.inl false)))
                    (fun (s168 : Bool) =>
                      cond (s168)
                        ((some (IntKind.i64.wrap ((P : Int) + s92))).bind fun v23 =>
                        some (.inr (.inr (.inr (.inr ((s154, v23)))))))
                        ((some (IntKind.i64.wrap (s154 + 1))).bind fun v24 =>
                        some (.inl v24))) some)
                  (some (.inr (.inl ()))))
                BIG 0)
              (fun (() : Unit) =>
                (some (IntKind.i64.wrap (s92 + 1))).bind fun v51 =>
                some (.inl (v12, v51))) some)
            (some (.inr (.inl ())))) some) fuel ((c : Int), (n : Int)) = some (.inl ())) := by
    intro k
    induction k with
    | zero =>
      intro fuel n c hk h1 h16 hfu hc he
      obtain ⟨f, rfl⟩ : ∃ f, fuel = f + 1 := ⟨fuel - 1, by omega⟩
      have : n = 16 := by omega
      subst this
      exact .inr ⟨loop_exit (bndL (s := false) (cnd_f (by simp) rfl) (cnd_f rfl rfl)), loop_exit (bndL (s := false) (cnd_f (by simp) rfl) (cnd_f rfl rfl))⟩
    | succ k ih =>
      intro fuel n c hk h1 hn16 hfu hc he
      obtain ⟨f, rfl⟩ : ∃ f, fuel = f + 1 := ⟨fuel - 1, by omega⟩
      have h16 : n < 16 := by omega
      have h15 : n ≤ 15 := by omega
      have d15 : decide ((n : Int) ≤ 15) = true := by simp; omega
      have wP : IntKind.i64.wrap ((P : Int) + (n : Int)) = ((P + n : Nat) : Int) := by rw [wrap_i64 (by omega) (by omega)]; simp
      by_cases hend : P + n ≤ 8 * b.length
      case neg =>
        refine .inr ⟨loop_exit (bndL (s := false) (cnd_t d15 (bnd (x := ((8 * b.length : Nat) : Int)) (by rw [w8]) ?_)) (cnd_f rfl rfl)), loop_exit (bndL (s := false) (cnd_t d15 (bnd (x := ((P + n : Nat) : Int)) (by rw [wP]) (bnd (x := ((8 * b.length : Nat) : Int)) (by rw [w8]) ?_))) (cnd_f rfl rfl))⟩
        · rw [decide_eq_false (by omega)]
        · rw [decide_eq_false (by omega)]
      have hp := pow_le15 (n := n - 1) (by omega)
      have hj : (P + n - 1) / 8 < b.length := by omega
      have hx := hb b[(P + n - 1) / 8] (List.getElem_mem hj)
      obtain ⟨x, hxe⟩ : ∃ x : Nat, b[(P + n - 1) / 8] = (x : Int) := ⟨b[(P + n - 1) / 8].toNat, by omega⟩
      have hx256 : x < 256 := by omega
      have hrb := refBit_eq b (P + n - 1) x hj hbl hxe hx256
      have q8 := quo_nat (P + n - 1) 8 (by omega) (by omega)
      have r8 := rem_nat (P + n - 1) 8 (by omega)
      rw [show ((8 : Nat) : Int) = 8 from rfl] at q8 r8
      have hr8 : (P + n - 1) % 8 < 8 := Nat.mod_lt _ (by omega)
      have hsh := shr_nat .u8 x ((P + n - 1) % 8) (by simp only [IntKind.bits]; omega)
      have hdv : x / 2 ^ ((P + n - 1) % 8) < 256 := Nat.lt_of_le_of_lt (Nat.div_le_self _ _) hx256
      have hand := and1_u8 _ hdv
      have hy : x / 2 ^ ((P + n - 1) % 8) % 2 < 2 := Nat.mod_lt _ (by omega)
      generalize x / 2 ^ ((P + n - 1) % 8) % 2 = y at *
      have sh1 := shl_nat c 1 (by omega) (by omega)
      rw [Nat.pow_one, Nat.mul_comm c 2, show ((1 : Nat) : Int) = 1 from rfl] at sh1
      have wy : IntKind.i64.wrap (y : Int) = (y : Int) := wrap_i64 (by omega) (by omega)
      have hor := or_bit c y (by omega) hy
      have w1 : IntKind.i64.wrap (((P + n - 1 : Nat) : Int) + 1) = ((P + (n + 1) - 1 : Nat) : Int) := by rw [wrap_i64 (by omega) (by omega)]; omega
      have w2 : IntKind.i64.wrap ((n : Int) + 1) = ((n + 1 : Nat) : Int) := by rw [wrap_i64 (by omega) (by omega)]; simp
      have v8 : IntKind.i64.wrap (2 * (c : Int)) = ((2 * c : Nat) : Int) := by rw [wrap_i64 (by omega) (by omega)]; simp
      have v10 : IntKind.i64.wrap (((P + n : Nat) : Int) - 1) = ((P + n - 1 : Nat) : Int) := by rw [wrap_i64 (by omega) (by omega)]; omega
      have v12 : IntKind.i64.wrap (((2 * c : Nat) : Int) + (y : Int)) = ((2 * c + y : Nat) : Int) := by rw [wrap_i64 (by omega) (by omega)]; simp
      have hfl : n < (fl m 16).length := by rw [fl_len]; exact h16
      have hfg : (fl m 16)[n] = fst m n := by simp [fl, h16]
      have hg1 : getO (ints (fl m 16)) n = some ((fst m n : Nat) : Int) := by rw [ints_get hfl, hfg]
      have hg2 := tal_get m h16 (by omega)
      have hle := fst_le hwl h1 h15
      have hp2 := pow_le15 h15
      have hfe := fst_end m h1
      have w3 : IntKind.i64.wrap (((fst m n : Nat) : Int) + ((m.count n : Nat) : Int)) = ((fst m n + m.count n : Nat) : Int) := by rw [wrap_i64 (by omega) (by omega)]; simp
      have hc2 : 2 * c + y < 2 ^ n := by
        have : 2 ^ n = 2 * 2 ^ (n - 1) := by rw [← Nat.pow_succ']; congr 1; omega
        omega
      have hgo : decide ((((P + n - 1 : Nat) : Int)) < ((8 * b.length : Nat) : Int)) = true := by simp; omega
      have hgo2 : decide ((((P + n : Nat) : Int)) ≤ ((8 * b.length : Nat) : Int)) = true := by simp; omega
      obtain ⟨S1, S2⟩ := search_eq m hl n (2 * c + y) P ((P + n : Nat) : Int) wP m.length BIG 0 (by omega) (Nat.zero_le _) (by unfold BIG; omega)
      by_cases hin : 2 * c + y < fst m n + m.count n
      · have w4 : IntKind.i64.wrap (((2 * c + y : Nat) : Int) - ((fst m n : Nat) : Int)) = ((2 * c + y - fst m n : Nat) : Int) := by rw [wrap_i64 (by omega) (by omega)]; omega
        obtain ⟨j, hjl, e1, e2, hnth⟩ := nth_eq m n (2 * c + y - fst m n) (by omega) (by omega)
        have hcode : code m j = 2 * c + y := by rw [code_of hjl (by omega), e1, e2]; omega
        refine .inl ⟨j, P + n, loop_exit (bndL (s := true) (cnd_t d15 (bnd (x := ((8 * b.length : Nat) : Int)) (by rw [w8]) (by rw [hgo]))) (cnd_t rfl (bnd sh1 (bnd q8 (bnd (ixO_of hj) (bnd (x := (x : Int)) (by rw [getO_of hj, hxe]) (bnd r8 (bnd hsh (bnd (x := (y : Int)) (by rw [hand])
          (bnd (x := (y : Int)) (by rw [wy]) (bnd (x := ((2 * c + y : Nat) : Int)) (by rw [hor]) (bnd (x := ((P + (n + 1) - 1 : Nat) : Int)) (by rw [w1]) (bnd (ixO_of h16) (bnd hg1 (bnd (ixO_of h16) (bnd hg2 (bnd (x := ((fst m n + m.count n : Nat) : Int)) (by rw [w3]) (cnd_t (by simp; omega)
          (bnd (ixO_of h16) (bnd hg1 (bnd (x := ((2 * c + y - fst m n : Nat) : Int)) (by rw [w4]) (bnd hnth ?_)))))))))))))))))))))), loop_exit ?_⟩
        · rw [show P + (n + 1) - 1 = P + n by omega]
        · refine bndL (s := true) (cnd_t d15 (bnd (x := ((P + n : Nat) : Int)) (by rw [wP]) (bnd (x := ((8 * b.length : Nat) : Int)) (by rw [w8]) (by rw [hgo2])))) (cnd_t rfl (bnd (x := ((2 * c : Nat) : Int)) (by rw [v8]) (bnd (x := ((P + n : Nat) : Int)) (by rw [wP]) (bnd (x := ((P + n - 1 : Nat) : Int)) (by rw [v10]) (bnd hrb (bnd (x := ((2 * c + y : Nat) : Int)) (by rw [v12]) ?_))))))
          refine bndR (a := .inr (.inr ((j : Int), ((P + n : Nat) : Int)))) (S2 j (Nat.zero_le _) hjl e1 hcode fun j' _ hlt h' e' => ?_) rfl
          have := code_same h' hjl (by omega) (by omega) hlt
          omega
      · have hno : ∀ j, 0 ≤ j → ∀ h : j < m.length, m[j] = n → code m j ≠ 2 * c + y := by
          intro j _ h e1 e2
          have hct := count_take_lt h
          rw [code_of h (by omega), e1] at e2
          rw [e1] at hct
          omega
        have hend2 : endOf m (n + 1 - 1) = fst m n + m.count n := by
          obtain ⟨q, rfl⟩ : ∃ q, n = q + 1 := ⟨n - 1, by omega⟩
          rfl
        rcases ih f (n + 1) (2 * c + y) (by omega) (by omega) (by omega) (by omega) (by rw [Nat.add_sub_cancel]; exact hc2) (by rw [hend2]; omega) with ⟨j, s, r1, r2⟩ | ⟨r1, r2⟩
        · refine .inl ⟨j, s, (loop_next ?_).trans r1, (loop_next ?_).trans r2⟩
          · exact bndL (s := true) (cnd_t d15 (bnd (x := ((8 * b.length : Nat) : Int)) (by rw [w8]) (by rw [hgo]))) (cnd_t rfl (bnd sh1 (bnd q8 (bnd (ixO_of hj) (bnd (x := (x : Int)) (by rw [getO_of hj, hxe]) (bnd r8 (bnd hsh (bnd (x := (y : Int)) (by rw [hand])
          (bnd (x := (y : Int)) (by rw [wy]) (bnd (x := ((2 * c + y : Nat) : Int)) (by rw [hor]) (bnd (x := ((P + (n + 1) - 1 : Nat) : Int)) (by rw [w1]) (bnd (ixO_of h16) (bnd hg1 (bnd (ixO_of h16) (bnd hg2 (bnd (x := ((fst m n + m.count n : Nat) : Int)) (by rw [w3]) (cnd_f (by simp; omega)
          (bnd (x := ((n + 1 : Nat) : Int)) (by rw [w2]) rfl))))))))))))))))))
          · exact bndL (s := true) (cnd_t d15 (bnd (x := ((P + n : Nat) : Int)) (by rw [wP]) (bnd (x := ((8 * b.length : Nat) : Int)) (by rw [w8]) (by rw [hgo2])))) (cnd_t rfl (bnd (x := ((2 * c : Nat) : Int)) (by rw [v8]) (bnd (x := ((P + n : Nat) : Int)) (by rw [wP]) (bnd (x := ((P + n - 1 : Nat) : Int)) (by rw [v10]) (bnd hrb (bnd (x := ((2 * c + y : Nat) : Int)) (by rw [v12]) (bndL (s := ()) (S1 hno) (bnd (x := ((n + 1 : Nat) : Int)) (by rw [w2]) rfl))))))))
        · refine .inr ⟨(loop_next ?_).trans r1, (loop_next ?_).trans r2⟩
          · exact bndL (s := true) (cnd_t d15 (bnd (x := ((8 * b.length : Nat) : Int)) (by rw [w8]) (by rw [hgo]))) (cnd_t rfl (bnd sh1 (bnd q8 (bnd (ixO_of hj) (bnd (x := (x : Int)) (by rw [getO_of hj, hxe]) (bnd r8 (bnd hsh (bnd (x := (y : Int)) (by rw [hand])
          (bnd (x := (y : Int)) (by rw [wy]) (bnd (x := ((2 * c + y : Nat) : Int)) (by rw [hor]) (bnd (x := ((P + (n + 1) - 1 : Nat) : Int)) (by rw [w1]) (bnd (ixO_of h16) (bnd hg1 (bnd (ixO_of h16) (bnd hg2 (bnd (x := ((fst m n + m.count n : Nat) : Int)) (by rw [w3]) (cnd_f (by simp; omega)
          (bnd (x := ((n + 1 : Nat) : Int)) (by rw [w2]) rfl))))))))))))))))))
          · exact bndL (s := true) (cnd_t d15 (bnd (x := ((P + n : Nat) : Int)) (by rw [wP]) (bnd (x := ((8 * b.length : Nat) : Int)) (by rw [w8]) (by rw [hgo2])))) (cnd_t rfl (bnd (x := ((2 * c : Nat) : Int)) (by rw [v8]) (bnd (x := ((P + n : Nat) : Int)) (by rw [wP]) (bnd (x := ((P + n - 1 : Nat) : Int)) (by rw [v10]) (bnd hrb (bnd (x := ((2 * c + y : Nat) : Int)) (by rw [v12]) (bndL (s := ()) (S1 hno) (bnd (x := ((n + 1 : Nat) : Int)) (by rw [w2]) rfl))))))))
  have hk := key 15 BIG 1 0 rfl (by omega) (by omega) (by unfold BIG; omega) (by decide) (by simp [endOf])
  rw [show P + 1 - 1 = P by omega] at hk
  have pre : ∀ {X : Option (Int × Int × Int)} {r}, X = r → bindS (S := Bool) (A := (Int × Int × Int))
      (cond ((decide ((P : Int) < 0)))
        (some (.inl true))
        ((some (IntKind.i64.wrap (8 * (b.length : Int)))).bind fun v3 =>
        some (.inl ((decide (v3 < (P : Int))))))) (fun (s4 : Bool) => cond (s4) (some ((0, 0, 1))) X) some = r := by
    intro X r h
    refine bndL (s := false) (cnd_f (by simp) (bnd (x := ((8 * b.length : Nat) : Int)) (by rw [w8]) ?_)) (cnd_f rfl h)
    rw [decide_eq_false (by omega)]
  rcases hk with ⟨j, s, r1, r2⟩ | ⟨r1, r2⟩
  · refine .inl ⟨j, s, ?_, ?_⟩
    · unfold canon_Read
      exact bnd hck (cnd_f rfl (pre (bnd (count_eq m hm (by omega)) (bnd l0 (bnd l16t (bnd l16t (bnd (firsts_eq m (by omega) hwl) (bnd l0 (bnd l16 (bndR (a := ((j : Int), (s : Int), 0)) r1 rfl))))))))))
    · unfold wherryref01_read
      exact bndR (a := ((j : Int), (s : Int))) r2 rfl
  · refine .inr ⟨?_, ?_⟩
    · unfold canon_Read
      exact bnd hck (cnd_f rfl (pre (bnd (count_eq m hm (by omega)) (bnd l0 (bnd l16t (bnd l16t (bnd (firsts_eq m (by omega) hwl) (bnd l0 (bnd l16 (bndL (s := ()) r1 rfl))))))))))
    · unfold wherryref01_read
      exact bndL (s := ()) r2 rfl
end Go.Abs.Sh
