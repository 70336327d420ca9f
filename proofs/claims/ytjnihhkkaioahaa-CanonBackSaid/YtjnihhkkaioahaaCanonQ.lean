import Derived.Test.YtjnihhkkaioahaaCanonP
namespace Go.Abs.Sh
set_option linter.unusedVariables false
set_option linter.unusedSimpArgs false

def readS (lengths b v9 v13 : List Int) : ((Int × Int × Int)) → Option ((Int × Int × Int) ⊕ ((Unit) ⊕ (Int × Int × Int))) := (fun ((s52, s53, s54) : Int × Int × Int) =>
          bindS (S := Bool) (A := ((Int × Int × Int) ⊕ ((Unit) ⊕ (Int × Int × Int))))
            (cond ((decide (s54 ≤ 15)))
              ((some (IntKind.i64.wrap (8 * (b.length : Int)))).bind fun v16 =>
              some (.inl ((decide (s52 < v16)))))
              (some (.inl false)))
            (fun (s67 : Bool) =>
              cond (s67)
                ((shlO .i64 s53 1).bind fun v22 =>
                (quoO .i64 s52 8).bind fun v23 =>
                (ixO v23 b.length).bind fun v24 =>
                (getO b v24).bind fun v25 =>
                (remO s52 8).bind fun v26 =>
                (shrO .u8 v25 v26).bind fun v27 =>
                (some (bits .and .u8 v27 1)).bind fun v28 =>
                (some (IntKind.i64.wrap v28)).bind fun v29 =>
                (some (bits .or .i64 v22 v29)).bind fun v30 =>
                (some (IntKind.i64.wrap (s52 + 1))).bind fun v31 =>
                (ixO s54 16).bind fun v32 =>
                (getO v13 v32).bind fun v33 =>
                (ixO s54 16).bind fun v34 =>
                (getO v9 v34).bind fun v35 =>
                (some (IntKind.i64.wrap (v33 + v35))).bind fun v36 =>
                cond ((decide (v30 < v36)))
                  ((ixO s54 16).bind fun v38 =>
                  (getO v13 v38).bind fun v39 =>
                  (some (IntKind.i64.wrap (v30 - v39))).bind fun v40 =>
                  (canon_nth lengths s54 v40).bind fun v41 =>
                  some (.inr (.inr ((v41, v31, 0)))))
                  ((some (IntKind.i64.wrap (s54 + 1))).bind fun v42 =>
                  some (.inl (v31, v30, v42))))
                (some (.inr (.inl ())))) some)
def backS (l c text : List Int) : (((List Int) × (List Int) × Int × Int)) → Option (((List Int) × (List Int) × Int × Int) ⊕ (((List Int) × (List Int) × Int) ⊕ Bool)) := (fun ((s85, s86, s87, s88) : (List Int) × (List Int) × Int × Int) =>
              bindS (S := Bool) (A := (((List Int) × (List Int) × Int × Int) ⊕ (((List Int) × (List Int) × Int) ⊕ Bool)))
                (cond ((decide (s88 < (text.length : Int))))
                  (some (.inl ((decide (0 < (l.length : Int))))))
                  (some (.inl false)))
                (fun (s121 : Bool) =>
                  cond (s121)
                    (bindS (S := (List Int) × (List Int) × Int) (A := (((List Int) × (List Int) × Int × Int) ⊕ (((List Int) × (List Int) × Int) ⊕ Bool)))
                      ((ixO s88 text.length).bind fun v22 =>
                      (getO text v22).bind fun v23 =>
                      (some (IntKind.u64.wrap v23)).bind fun v24 =>
                      (some (IntKind.u64.wrap (l.length : Int))).bind fun v25 =>
                      (remO v24 v25).bind fun v26 =>
                      (some (IntKind.i64.wrap v26)).bind fun v27 =>
                      (ixO v27 l.length).bind fun v28 =>
                      (getO l v28).bind fun v29 =>
                      cond ((v29 == 0))
                        (some (.inl (s85, s86, s87)))
                        ((ixO v27 c.length).bind fun v31 =>
                        (getO c v31).bind fun v32 =>
                        (ixO v27 l.length).bind fun v33 =>
                        (getO l v33).bind fun v34 =>
                        (bits_Turn v32 v34).bind fun v35 =>
                        (ixO v27 l.length).bind fun v36 =>
                        (getO l v36).bind fun v37 =>
                        (bits_Put (T_Bits.mk s86 s87) v35.1 v37).bind fun v38 =>
                        bindS (S := Bool) (A := (((List Int) × (List Int) × Int) ⊕ (((List Int) × (List Int) × Int × Int) ⊕ (((List Int) × (List Int) × Int) ⊕ Bool))))
                          (cond ((v35.2 != 0))
                            (some (.inl true))
                            (some (.inl (v38.2 != 0))))
                          (fun (s139 : Bool) =>
                            cond (s139)
                              (some (.inr (.inr (.inr (false)))))
                              ((appO 8 s85 [v27]).bind fun v44 =>
                              some (.inl (v44, v38.1.B, v38.1.N)))) some))
                      (fun ((s132, s133, s134) : (List Int) × (List Int) × Int) =>
                        (some (IntKind.i64.wrap (s88 + 1))).bind fun v57 =>
                        some (.inl (s132, s133, s134, v57))) some)
                    (some (.inr (.inl (s85, s86, s87))))) some)
def backR (l s112 s113 : List Int) : ((Int × Int)) → Option ((Int × Int) ⊕ ((Int) ⊕ Bool)) := (fun ((s165, s166) : Int × Int) =>
                  cond ((decide (s166 < (s112.length : Int))))
                    ((canon_Read l s113 s165).bind fun v145 =>
                    bindS (S := Bool) (A := ((Int × Int) ⊕ ((Int) ⊕ Bool)))
                      (cond ((v145.2.2 != 0))
                        (some (.inl true))
                        ((ixO s166 s112.length).bind fun v146 =>
                        (getO s112 v146).bind fun v147 =>
                        cond ((v145.1 != v147))
                          (some (.inl true))
                          ((ixO v145.1 l.length).bind fun v148 =>
                          (getO l v148).bind fun v149 =>
                          (some (IntKind.i64.wrap (s165 + v149))).bind fun v150 =>
                          some (.inl (v145.2.1 != v150)))))
                      (fun (s181 : Bool) =>
                        cond (s181)
                          (some (.inr (.inr (false))))
                          ((some (IntKind.i64.wrap (s166 + 1))).bind fun v156 =>
                          some (.inl (v145.2.1, v156)))) some)
                    (some (.inr (.inl s165))))

/-- A bit as it is read. -/
theorem code_pre {m : List Nat} (hm : ∀ x ∈ m, x ≤ 15) {j : Nat} (hj : j < m.length) (h0 : m[j] ≠ 0) {n : Nat} (h1 : 1 ≤ n) (hn : n < m[j]) : fst m n + m.count n ≤ code m j / 2 ^ (m[j] - n) := by
  have xj := hm _ (List.getElem_mem hj)
  have a1 := ws_step m h1 (show n ≤ 15 by omega)
  have a2 := fst_step m (n := m[j]) (by omega) xj
  have a3 := ws_mono m (a := n) (b := m[j] - 1) (by omega)
  have e2 : 2 ^ (15 - n) = 2 ^ (m[j] - n) * 2 ^ (15 - m[j]) := by rw [← Nat.pow_add]; congr 1; omega
  rw [e2, ← Nat.mul_assoc] at a1
  have h3 : (fst m n + m.count n) * 2 ^ (m[j] - n) ≤ fst m m[j] := by
    refine Nat.le_of_mul_le_mul_right ?_ (Nat.pow_pos (show 0 < 2 by omega) (n := 15 - m[j]))
    omega
  refine (Nat.le_div_iff_mul_le (Nat.pow_pos (by omega))).2 ?_
  rw [code_of hj h0]
  omega

theorem read_code {m : List Nat} (hl : m.length ≤ 300) (hm : ∀ x ∈ m, x ≤ 15) (hf : forms m = true) {B : List Int} (hB : isB B) (hbl : B.length ≤ 1000) {j : Nat} (hj : j < m.length) (h0 : m[j] ≠ 0) (P : Nat) (hP : P + m[j] ≤ 8 * B.length)
    (hbits : ∀ i, i < m[j] → bitC B (P + i) = (code m j).testBit (m[j] - 1 - i)) : canon_Read (ints m) B (P : Int) = some ((j : Int), ((P + m[j] : Nat) : Int), 0) := by
  have hwl := forms_ws hf
  have hck := check_ints m (by omega)
  rw [if_pos ⟨hl, hm⟩, if_pos hf] at hck
  have l16 : lnO 16 (ints (fl m 16)) = some (ints (fl m 16)) := by simp [lnO, ints_len, fl_len]
  have l16t : lnO 16 (ints (tal m)) = some (ints (tal m)) := by simp [lnO, ints_len, tal_len]
  have l0 : lnO 16 (List.replicate 16 (0 : Int)) = some (List.replicate 16 (0 : Int)) := by decide
  have w8 : IntKind.i64.wrap (8 * (B.length : Int)) = ((8 * B.length : Nat) : Int) := by rw [wrap_i64 (by omega) (by omega)]; simp
  have xj := hm _ (List.getElem_mem hj)
  have hcl := code_lt hwl hm hj h0
  have key : ∀ (k fuel n : Nat), m[j] - n = k → 1 ≤ n → n ≤ m[j] → k < fuel →
      loopF (readS (ints m) B (ints (tal m)) (ints (fl m 16))) fuel (((P + n - 1 : Nat) : Int), ((code m j / 2 ^ (m[j] - (n - 1)) : Nat) : Int), (n : Int)) = some (.inr ((j : Int), ((P + m[j] : Nat) : Int), 0)) := by
    intro k
    induction k with
    | zero =>
      intro fuel n hk h1 hn hfu
      have hne : n = m[j] := by omega
      obtain ⟨f, rfl⟩ : ∃ f, fuel = f + 1 := ⟨fuel - 1, by omega⟩
      have h16 : n < 16 := by omega
      have h15 : n ≤ 15 := by omega
      have hpq : (P + n - 1) / 8 < B.length := by omega
      have hx := hB _ (List.getElem_mem hpq)
      obtain ⟨x, hxe⟩ : ∃ x : Nat, B[(P + n - 1) / 8] = (x : Int) := ⟨B[(P + n - 1) / 8].toNat, by omega⟩
      have hx256 : x < 256 := by omega
      have q8 := quo_nat (P + n - 1) 8 (by omega) (by omega)
      have r8 := rem_nat (P + n - 1) 8 (by omega)
      rw [show ((8 : Nat) : Int) = 8 from rfl] at q8 r8
      have hr8 : (P + n - 1) % 8 < 8 := Nat.mod_lt _ (by omega)
      have hsh := shr_nat .u8 x ((P + n - 1) % 8) (by simp only [IntKind.bits]; omega)
      have hdv : x / 2 ^ ((P + n - 1) % 8) < 256 := Nat.lt_of_le_of_lt (Nat.div_le_self _ _) hx256
      have hand := and1_u8 _ hdv
      have hb := hbits (n - 1) (by omega)
      have hbx : bitC B (P + (n - 1)) = x.testBit ((P + n - 1) % 8) := by
        rw [show P + (n - 1) = P + n - 1 by omega]
        simp [bitC, List.getD_eq_getElem?_getD, hpq, hxe]
      rw [hbx, Nat.testBit_eq_decide_div_mod_eq, Nat.testBit_eq_decide_div_mod_eq, show m[j] - 1 - (n - 1) = m[j] - n by omega] at hb
      have hy : x / 2 ^ ((P + n - 1) % 8) % 2 = code m j / 2 ^ (m[j] - n) % 2 := by
        have a1 : x / 2 ^ ((P + n - 1) % 8) % 2 < 2 := Nat.mod_lt _ (by omega)
        have a2 : code m j / 2 ^ (m[j] - n) % 2 < 2 := Nat.mod_lt _ (by omega)
        rcases Nat.lt_or_ge (x / 2 ^ ((P + n - 1) % 8) % 2) 1 with h | h
        · have e1 : ¬ x / 2 ^ ((P + n - 1) % 8) % 2 = 1 := by omega
          rw [decide_eq_false e1] at hb
          have := of_decide_eq_false hb.symm
          omega
        · have e1 : x / 2 ^ ((P + n - 1) % 8) % 2 = 1 := by omega
          rw [decide_eq_true e1] at hb
          have := of_decide_eq_true hb.symm
          omega
      have hc2 : 2 * (code m j / 2 ^ (m[j] - (n - 1))) + code m j / 2 ^ (m[j] - n) % 2 = code m j / 2 ^ (m[j] - n) := by
        rw [show m[j] - (n - 1) = (m[j] - n) + 1 by omega, Nat.pow_succ, ← Nat.div_div_eq_div_mul]
        omega
      have hcs : code m j / 2 ^ (m[j] - (n - 1)) ≤ 32768 := Nat.le_trans (Nat.div_le_self _ _) (by have := pow_le15 xj; omega)
      have hcs2 : code m j / 2 ^ (m[j] - n) ≤ 32768 := Nat.le_trans (Nat.div_le_self _ _) (by have := pow_le15 xj; omega)
      rw [hy] at hand
      have hyl : code m j / 2 ^ (m[j] - n) % 2 < 2 := Nat.mod_lt _ (by omega)
      generalize code m j / 2 ^ (m[j] - (n - 1)) = c at *
      have hor := or_bit c (code m j / 2 ^ (m[j] - n) % 2) (by omega) hyl
      rw [hc2] at hor
      have sh1 := shl_nat c 1 (by omega) (by omega)
      rw [Nat.pow_one, Nat.mul_comm c 2, show ((1 : Nat) : Int) = 1 from rfl] at sh1
      generalize hCd : code m j / 2 ^ (m[j] - n) = C at *
      have wy : IntKind.i64.wrap ((C % 2 : Nat) : Int) = ((C % 2 : Nat) : Int) := wrap_i64 (by omega) (by omega)
      have w1 : IntKind.i64.wrap (((P + n - 1 : Nat) : Int) + 1) = ((P + m[j] : Nat) : Int) := by rw [wrap_i64 (by omega) (by omega)]; omega
      have hfl : n < (fl m 16).length := by rw [fl_len]; exact h16
      have hfg : (fl m 16)[n] = fst m n := by simp [fl, h16]
      have hg1 : getO (ints (fl m 16)) n = some ((fst m n : Nat) : Int) := by rw [ints_get hfl, hfg]
      have hg2 := tal_get m h16 (by omega)
      have hle := fst_le hwl h1 h15
      have hp2 := pow_le15 h15
      have w3 : IntKind.i64.wrap (((fst m n : Nat) : Int) + ((m.count n : Nat) : Int)) = ((fst m n + m.count n : Nat) : Int) := by rw [wrap_i64 (by omega) (by omega)]; simp
      have hgo : decide ((((P + n - 1 : Nat) : Int)) < ((8 * B.length : Nat) : Int)) = true := by simp; omega
      have d15 : decide ((n : Int) ≤ 15) = true := by simp; omega
      have hC : C = code m j := by rw [← hCd, hne, Nat.sub_self, Nat.pow_zero, Nat.div_one]
      have hct := count_take_lt hj
      have hcode := code_of hj h0
      rw [← hne] at hct hcode
      obtain ⟨j', hj', e1, e2, hnth⟩ := nth_eq m n (C - fst m n) (by omega) (by omega)
      have hjj : j' = j := by
        have hc' := code_of hj' (by omega)
        rw [e1] at hc'
        rcases Nat.lt_trichotomy j' j with h | h | h
        · have := code_same hj' hj (by omega) (by omega) h; omega
        · exact h
        · have := code_same hj hj' h0 (by omega) h; omega
      rw [hjj] at hnth
      have w4 : IntKind.i64.wrap ((C : Int) - ((fst m n : Nat) : Int)) = ((C - fst m n : Nat) : Int) := by rw [wrap_i64 (by omega) (by omega)]; omega
      refine loop_exit ?_
      unfold readS
      exact bndL (s := true) (cnd_t d15 (bnd (x := ((8 * B.length : Nat) : Int)) (by rw [w8]) (by rw [hgo]))) (cnd_t rfl (bnd sh1 (bnd q8 (bnd (ixO_of hpq) (bnd (x := (x : Int)) (by rw [getO_of hpq, hxe]) (bnd r8 (bnd hsh (bnd (x := ((C % 2 : Nat) : Int)) (by rw [hand])
          (bnd (x := ((C % 2 : Nat) : Int)) (by rw [wy]) (bnd (x := (C : Int)) (by rw [hor]) (bnd (x := ((P + m[j] : Nat) : Int)) (by rw [w1]) (bnd (ixO_of h16) (bnd hg1 (bnd (ixO_of h16) (bnd hg2 (bnd (x := ((fst m n + m.count n : Nat) : Int)) (by rw [w3]) (cnd_t (by simp; omega)
          (bnd (ixO_of h16) (bnd hg1 (bnd (x := ((C - fst m n : Nat) : Int)) (by rw [w4]) (bnd hnth rfl)))))))))))))))))))))
    | succ k ih =>
      intro fuel n hk h1 hn hfu
      obtain ⟨f, rfl⟩ : ∃ f, fuel = f + 1 := ⟨fuel - 1, by omega⟩
      have h16 : n < 16 := by omega
      have h15 : n ≤ 15 := by omega
      have hpq : (P + n - 1) / 8 < B.length := by omega
      have hx := hB _ (List.getElem_mem hpq)
      obtain ⟨x, hxe⟩ : ∃ x : Nat, B[(P + n - 1) / 8] = (x : Int) := ⟨B[(P + n - 1) / 8].toNat, by omega⟩
      have hx256 : x < 256 := by omega
      have q8 := quo_nat (P + n - 1) 8 (by omega) (by omega)
      have r8 := rem_nat (P + n - 1) 8 (by omega)
      rw [show ((8 : Nat) : Int) = 8 from rfl] at q8 r8
      have hr8 : (P + n - 1) % 8 < 8 := Nat.mod_lt _ (by omega)
      have hsh := shr_nat .u8 x ((P + n - 1) % 8) (by simp only [IntKind.bits]; omega)
      have hdv : x / 2 ^ ((P + n - 1) % 8) < 256 := Nat.lt_of_le_of_lt (Nat.div_le_self _ _) hx256
      have hand := and1_u8 _ hdv
      have hb := hbits (n - 1) (by omega)
      have hbx : bitC B (P + (n - 1)) = x.testBit ((P + n - 1) % 8) := by
        rw [show P + (n - 1) = P + n - 1 by omega]
        simp [bitC, List.getD_eq_getElem?_getD, hpq, hxe]
      rw [hbx, Nat.testBit_eq_decide_div_mod_eq, Nat.testBit_eq_decide_div_mod_eq, show m[j] - 1 - (n - 1) = m[j] - n by omega] at hb
      have hy : x / 2 ^ ((P + n - 1) % 8) % 2 = code m j / 2 ^ (m[j] - n) % 2 := by
        have a1 : x / 2 ^ ((P + n - 1) % 8) % 2 < 2 := Nat.mod_lt _ (by omega)
        have a2 : code m j / 2 ^ (m[j] - n) % 2 < 2 := Nat.mod_lt _ (by omega)
        rcases Nat.lt_or_ge (x / 2 ^ ((P + n - 1) % 8) % 2) 1 with h | h
        · have e1 : ¬ x / 2 ^ ((P + n - 1) % 8) % 2 = 1 := by omega
          rw [decide_eq_false e1] at hb
          have := of_decide_eq_false hb.symm
          omega
        · have e1 : x / 2 ^ ((P + n - 1) % 8) % 2 = 1 := by omega
          rw [decide_eq_true e1] at hb
          have := of_decide_eq_true hb.symm
          omega
      have hc2 : 2 * (code m j / 2 ^ (m[j] - (n - 1))) + code m j / 2 ^ (m[j] - n) % 2 = code m j / 2 ^ (m[j] - n) := by
        rw [show m[j] - (n - 1) = (m[j] - n) + 1 by omega, Nat.pow_succ, ← Nat.div_div_eq_div_mul]
        omega
      have hcs : code m j / 2 ^ (m[j] - (n - 1)) ≤ 32768 := Nat.le_trans (Nat.div_le_self _ _) (by have := pow_le15 xj; omega)
      have hcs2 : code m j / 2 ^ (m[j] - n) ≤ 32768 := Nat.le_trans (Nat.div_le_self _ _) (by have := pow_le15 xj; omega)
      have hpre := code_pre hm hj h0 h1 (by omega)
      have hr := ih f (n + 1) (by omega) (by omega) (by omega) (by omega)
      rw [show n + 1 - 1 = n by omega] at hr
      rw [hy] at hand
      have hyl : code m j / 2 ^ (m[j] - n) % 2 < 2 := Nat.mod_lt _ (by omega)
      generalize code m j / 2 ^ (m[j] - (n - 1)) = c at *
      have hor := or_bit c (code m j / 2 ^ (m[j] - n) % 2) (by omega) hyl
      rw [hc2] at hor
      have sh1 := shl_nat c 1 (by omega) (by omega)
      rw [Nat.pow_one, Nat.mul_comm c 2, show ((1 : Nat) : Int) = 1 from rfl] at sh1
      generalize hCd : code m j / 2 ^ (m[j] - n) = C at *
      have wy : IntKind.i64.wrap ((C % 2 : Nat) : Int) = ((C % 2 : Nat) : Int) := wrap_i64 (by omega) (by omega)
      have w1 : IntKind.i64.wrap (((P + n - 1 : Nat) : Int) + 1) = ((P + (n + 1) - 1 : Nat) : Int) := by rw [wrap_i64 (by omega) (by omega)]; omega
      have w2 : IntKind.i64.wrap ((n : Int) + 1) = ((n + 1 : Nat) : Int) := by rw [wrap_i64 (by omega) (by omega)]; simp
      have hfl : n < (fl m 16).length := by rw [fl_len]; exact h16
      have hfg : (fl m 16)[n] = fst m n := by simp [fl, h16]
      have hg1 : getO (ints (fl m 16)) n = some ((fst m n : Nat) : Int) := by rw [ints_get hfl, hfg]
      have hg2 := tal_get m h16 (by omega)
      have hle := fst_le hwl h1 h15
      have hp2 := pow_le15 h15
      have w3 : IntKind.i64.wrap (((fst m n : Nat) : Int) + ((m.count n : Nat) : Int)) = ((fst m n + m.count n : Nat) : Int) := by rw [wrap_i64 (by omega) (by omega)]; simp
      have hgo : decide ((((P + n - 1 : Nat) : Int)) < ((8 * B.length : Nat) : Int)) = true := by simp; omega
      have d15 : decide ((n : Int) ≤ 15) = true := by simp; omega
      refine (loop_next ?_).trans hr
      unfold readS
      exact bndL (s := true) (cnd_t d15 (bnd (x := ((8 * B.length : Nat) : Int)) (by rw [w8]) (by rw [hgo]))) (cnd_t rfl (bnd sh1 (bnd q8 (bnd (ixO_of hpq) (bnd (x := (x : Int)) (by rw [getO_of hpq, hxe]) (bnd r8 (bnd hsh (bnd (x := ((C % 2 : Nat) : Int)) (by rw [hand])
          (bnd (x := ((C % 2 : Nat) : Int)) (by rw [wy]) (bnd (x := (C : Int)) (by rw [hor]) (bnd (x := ((P + (n + 1) - 1 : Nat) : Int)) (by rw [w1]) (bnd (ixO_of h16) (bnd hg1 (bnd (ixO_of h16) (bnd hg2 (bnd (x := ((fst m n + m.count n : Nat) : Int)) (by rw [w3]) (cnd_f (by simp; omega)
          (bnd (x := ((n + 1 : Nat) : Int)) (by rw [w2]) rfl))))))))))))))))))
  have hk := key (m[j] - 1) BIG 1 rfl (by omega) (by omega) (by unfold BIG; omega)
  rw [show P + 1 - 1 = P by omega, Nat.sub_self, Nat.sub_zero, Nat.div_eq_of_lt (by omega)] at hk
  unfold canon_Read
  refine bnd hck (cnd_f rfl (bndL (s := false) (cnd_f (by simp) (bnd (x := ((8 * B.length : Nat) : Int)) (by rw [w8]) ?_)) (cnd_f rfl (bnd (count_eq m hm (by omega)) (bnd l0 (bnd l16t (bnd l16t (bnd (firsts_eq m (by omega) hwl) (bnd l0 (bnd l16 (bndR (a := ((j : Int), ((P + m[j] : Nat) : Int), 0)) hk rfl)))))))))))
  rw [decide_eq_false (by omega)]

/-- How many bits symbols take. -/
def width (m : List Nat) : List Nat → Nat
  | [] => 0
  | k :: ks => m.getD k 0 + width m ks
theorem width_app (m : List Nat) : ∀ (a b : List Nat), width m (a ++ b) = width m a + width m b
  | [], b => by simp [width]
  | k :: a, b => by simp only [List.cons_append, width, width_app m a b]; omega
theorem width_le (m : List Nat) (hm : ∀ x ∈ m, x ≤ 15) : ∀ (ks : List Nat), width m ks ≤ 15 * ks.length
  | [] => by simp [width]
  | k :: ks => by
    have := width_le m hm ks
    have h1 : m.getD k 0 ≤ 15 := by
      rw [List.getD_eq_getElem?_getD]
      cases h : m[k]? with
      | none => simp
      | some x => simpa using hm x (List.mem_of_getElem? h)
    simp only [width, List.length_cons]; omega

/-- The bits spell the symbols' codes. -/
def Spelt (m : List Nat) (B : List Int) (ks : List Nat) : Prop :=
  ∀ a k b, ks = a ++ k :: b → ∀ i, i < m.getD k 0 → bitC B (width m a + i) = (code m k).testBit (m.getD k 0 - 1 - i)

theorem back_loop {m : List Nat} (hl : m.length ≤ 300) (hm : ∀ x ∈ m, x ≤ 15) (hf : forms m = true) (text : List Int) (ht : text.length ≤ 60) (hpos : 0 < m.length) : ∀ (k fuel i : Nat) (ks : List Nat) (B : List Int), text.length - i = k → i ≤ text.length → k < fuel →
    ks.length ≤ i → (∀ k ∈ ks, k < m.length ∧ m.getD k 0 ≠ 0) → Good B (width m ks) → Spelt m B ks →
    ∃ ks' B', loopF (backS (ints m) (ints (codes m)) text) fuel (ints ks, B, ((width m ks : Nat) : Int), (i : Int)) = some (.inl (ints ks', B', ((width m ks' : Nat) : Int))) ∧ ks'.length ≤ 60 ∧ (∀ k ∈ ks', k < m.length ∧ m.getD k 0 ≠ 0) ∧ Good B' (width m ks') ∧ Spelt m B' ks' := by
  have hwl := forms_ws hf
  have hpl : decide (0 < ((ints m).length : Int)) = true := by rw [ints_len]; simp; omega
  intro k
  induction k with
  | zero =>
    intro fuel i ks B hk hi hfu h1 h2 h3 h4
    obtain ⟨f, rfl⟩ : ∃ f, fuel = f + 1 := ⟨fuel - 1, by omega⟩
    have : i = text.length := by omega
    subst this
    refine ⟨ks, B, loop_exit ?_, by omega, h2, h3, h4⟩
    unfold backS
    exact bndL (s := false) (cnd_f (by simp) rfl) (cnd_f rfl rfl)
  | succ k ih =>
    intro fuel i ks B hk hi hfu h1 h2 h3 h4
    obtain ⟨f, rfl⟩ : ∃ f, fuel = f + 1 := ⟨fuel - 1, by omega⟩
    have hlt : i < text.length := by omega
    have hw : IntKind.i64.wrap ((i : Int) + 1) = ((i + 1 : Nat) : Int) := by rw [wrap_i64 (by omega) (by omega)]; simp
    have hlen := ints_len m
    obtain ⟨a, p, ha, hn, hr, hwp, hp⟩ := pick_of text[i] m.length hpos (by omega)
    have hp' : p < (ints m).length := by omega
    have hpc : p < (ints (codes m)).length := by rw [ints_len, codes_len]; exact hp
    have hgo : decide ((i : Int) < (text.length : Int)) = true := by simp; omega
    have xp := hm _ (List.getElem_mem hp)
    by_cases hz : m[p] = 0
    · obtain ⟨ks', B', r1, r2⟩ := ih f (i + 1) ks B (by omega) (by omega) (by omega) (by omega) h2 h3 h4
      refine ⟨ks', B', (loop_next ?_).trans r1, r2⟩
      unfold backS
      exact bndL (s := true) (cnd_t hgo (by rw [hpl])) (cnd_t rfl (bndL (s := (ints ks, B, ((width m ks : Nat) : Int))) (bnd (ixO_of hlt) (bnd (getO_of hlt) (bnd (x := (a : Int)) (by rw [ha]) (bnd (x := (m.length : Int)) (by rw [hlen, hn]) (bnd hr (bnd (x := (p : Int)) (by rw [hwp]) (bnd (ixO_of hp') (bnd (ints_get hp) (cnd_t (by simp [hz]) rfl)))))))))
        (bnd (x := ((i + 1 : Nat) : Int)) (by rw [hw]) rfl)))
    · have hgd : m.getD p 0 = m[p] := getD_of hp
      have hcl := code_lt hwl hm hp hz
      have hwd := width_le m hm ks
      obtain ⟨v, v1, v2, v3⟩ := turn_eq (code m p) m[p] (by omega) (by omega)
      obtain ⟨B2, p1, p2, p3, p4⟩ := put_eq h3 v m[p] (by omega) v2 (by omega)
      have hwa : width m (ks ++ [p]) = width m ks + m[p] := by rw [width_app, width, width, hgd, Nat.add_zero]
      have hsp : Spelt m B2 (ks ++ [p]) := by
        intro a k b hab q hq
        rcases List.append_eq_append_iff.1 hab with ⟨c, h5, h6⟩ | ⟨c, h5, h6⟩
        · -- a = ks ++ c, [p] = c ++ k :: b
          have hc : c = [] ∧ k = p ∧ b = [] := by
            cases c with
            | nil => simp at h6; exact ⟨rfl, h6.1.symm, h6.2⟩
            | cons y c => simp at h6
          obtain ⟨rfl, rfl, rfl⟩ := hc
          rw [List.append_nil] at h5
          subst h5
          rw [hgd] at hq ⊢
          rw [p4 q hq, v3 q hq]
        · -- ks = a ++ c, k :: b = c ++ [p]
          cases c with
          | nil =>
            simp at h6
            obtain ⟨rfl, rfl⟩ := h6
            rw [List.append_nil] at h5
            subst h5
            rw [hgd] at hq ⊢
            rw [p4 q hq, v3 q hq]
          | cons y c =>
            simp only [List.cons_append, List.cons.injEq] at h6
            obtain ⟨rfl, h6⟩ := h6
            have hwk : width m ks = width m a + (m.getD k 0 + width m c) := by rw [h5, width_app, width]
            rw [p3 _ (by omega)]
            exact h4 a k c h5 q hq
      rw [← hwa] at p2
      obtain ⟨ks', B', r1, r2⟩ := ih f (i + 1) (ks ++ [p]) B2 (by omega) (by omega) (by omega) (by simp; omega) (fun k hk => by
        rcases List.mem_append.1 hk with h | h
        · exact h2 k h
        · simp at h; subst h; exact ⟨hp, by rw [hgd]; exact hz⟩) p2 hsp
      have happ : appO 8 (ints ks) [(p : Int)] = some (ints (ks ++ [p])) := by
        rw [app8 _ _ (by rw [ints_len]; simp; omega)]; simp [ints]
      refine ⟨ks', B', (loop_next ?_).trans r1, r2⟩
      rw [hwa]
      unfold backS
      exact bndL (s := true) (cnd_t hgo (by rw [hpl])) (cnd_t rfl (bndL (s := (ints (ks ++ [p]), B2, ((width m ks + m[p] : Nat) : Int))) (bnd (ixO_of hlt) (bnd (getO_of hlt) (bnd (x := (a : Int)) (by rw [ha]) (bnd (x := (m.length : Int)) (by rw [hlen, hn]) (bnd hr (bnd (x := (p : Int)) (by rw [hwp]) (bnd (ixO_of hp') (bnd (ints_get hp) (cnd_f (by simp; omega)
        (bnd (ixO_of hpc) (bnd (codes_get m hp) (bnd (ixO_of hp') (bnd (ints_get hp) (bnd v1 (bnd (ixO_of hp') (bnd (ints_get hp) (bnd p1 (bndL (s := false) (cnd_f rfl rfl) (cnd_f rfl (bnd happ rfl))))))))))))))))))))
        (bnd (x := ((i + 1 : Nat) : Int)) (by rw [hw]) rfl)))

theorem back_read {m : List Nat} (hl : m.length ≤ 300) (hm : ∀ x ∈ m, x ≤ 15) (hf : forms m = true) (ks : List Nat) (hkl : ks.length ≤ 60) (B : List Int) (hk2 : ∀ k ∈ ks, k < m.length ∧ m.getD k 0 ≠ 0) (hG : Good B (width m ks)) (hS : Spelt m B ks) : ∀ (k fuel i : Nat), ks.length - i = k → i ≤ ks.length → k < fuel →
    loopF (backR (ints m) (ints ks) B) fuel (((width m (ks.take i) : Nat) : Int), (i : Int)) = some (.inl ((width m ks : Nat) : Int)) := by
  intro k
  induction k with
  | zero =>
    intro fuel i hk hi hfu
    obtain ⟨f, rfl⟩ : ∃ f, fuel = f + 1 := ⟨fuel - 1, by omega⟩
    have : i = ks.length := by omega
    subst this
    refine loop_exit ?_
    rw [List.take_length]
    unfold backR
    exact cnd_f (by simp [ints_len]) rfl
  | succ k ih =>
    intro fuel i hk hi hfu
    obtain ⟨f, rfl⟩ : ∃ f, fuel = f + 1 := ⟨fuel - 1, by omega⟩
    have hlt : i < ks.length := by omega
    have hlt' : i < (ints ks).length := by rw [ints_len]; exact hlt
    have hw : IntKind.i64.wrap ((i : Int) + 1) = ((i + 1 : Nat) : Int) := by rw [wrap_i64 (by omega) (by omega)]; simp
    obtain ⟨hj, hz⟩ := hk2 _ (List.getElem_mem hlt)
    have hsplit : ks = ks.take i ++ ks[i] :: ks.drop (i + 1) := by rw [← List.drop_eq_getElem_cons hlt, List.take_append_drop]
    have hgd : m.getD ks[i] 0 = m[ks[i]] := getD_of hj
    have hsp := hS _ _ _ hsplit
    rw [hgd] at hsp hz
    have hwk : width m ks = width m (ks.take i) + (m[ks[i]] + width m (ks.drop (i + 1))) := by
      conv => lhs; rw [hsplit, width_app, width, hgd]
    have hwd := width_le m hm ks
    have hGl := hG.len
    have hread := read_code hl hm hf hG.bytes (by omega) hj hz (width m (ks.take i)) (by omega) hsp
    have hwt : width m (ks.take (i + 1)) = width m (ks.take i) + m[ks[i]] := by rw [take_snoc hlt, width_app, width, width, hgd, Nat.add_zero]
    have hj' : ks[i] < (ints m).length := by rw [ints_len]; exact hj
    have xp := hm _ (List.getElem_mem hj)
    have w2 : IntKind.i64.wrap (((width m (ks.take i) : Nat) : Int) + ((m[ks[i]] : Nat) : Int)) = ((width m (ks.take i) + m[ks[i]] : Nat) : Int) := by rw [wrap_i64 (by omega) (by omega)]; simp
    refine (loop_next (s' := (((width m (ks.take (i + 1)) : Nat) : Int), ((i + 1 : Nat) : Int))) ?_).trans (ih f (i + 1) (by omega) (by omega) (by omega))
    rw [hwt]
    unfold backR
    refine cnd_t (by simp; omega) (bnd hread (bndL (s := false) (cnd_f rfl (bnd (ixO_of hlt') (bnd (ints_get hlt) (cnd_f (by simp) (bnd (ixO_of hj') (bnd (ints_get hj) (bnd (x := ((width m (ks.take i) + m[ks[i]] : Nat) : Int)) (by rw [w2]) (by simp)))))))) (cnd_f rfl (bnd (x := ((i + 1 : Nat) : Int)) (by rw [hw]) rfl))))

theorem canonBack_true (l text : List Int) : wherrylaw02_CanonBack l text = some true := by
  unfold wherrylaw02_CanonBack
  by_cases l1 : 300 < l.length
  · exact bndL (s := true) (cnd_t (by simp; omega) rfl) (cnd_t rfl rfl)
  by_cases l2 : 60 < text.length
  · refine bndL (s := true) (cnd_f (by simp; omega) ?_) (cnd_t rfl rfl)
    rw [decide_eq_true (by omega)]
  refine bndL (s := false) (cnd_f (by simp; omega) ?_) (cnd_f rfl ?_)
  · rw [decide_eq_false (by omega)]
  rcases codes_cases l (by omega) with ⟨m, rfl, hl, hm, hf, hc, _⟩ | ⟨hc, _⟩ | ⟨hc, _⟩
  case inr.inl => exact bnd hc (bndL (s := true) (cnd_t rfl rfl) (cnd_t rfl (bndL (s := true) (cnd_t rfl (bnd wakes02 rfl)) rfl)))
  case inr.inr => exact bnd hc (bndL (s := true) (cnd_t rfl rfl) (cnd_t rfl (bndL (s := true) (cnd_t rfl (bnd wakes02 rfl)) rfl)))
  have hlen := ints_len m
  have hcl : (ints (codes m)).length = m.length := by rw [ints_len, codes_len]
  refine bnd hc (bndL (s := false) (cnd_f rfl ?_) (cnd_f rfl ?_))
  · have : (((ints (codes m)).length : Int) != ((ints m).length : Int)) = false := by rw [hcl, hlen]; simp
    exact congrArg some (congrArg Sum.inl this)
  by_cases hpos : 0 < m.length
  case neg =>
    have hm0 : m = [] := List.eq_nil_of_length_eq_zero (by omega)
    subst hm0
    refine bndL (s := ([], [], 0)) (loop_exit (n := BIG - 1) (bndL (s := false) ?_ (cnd_f rfl rfl))) (bndL (s := 0) (loop_exit (n := BIG - 1) (cnd_f rfl rfl)) (bndL (s := true) (cnd_t rfl (bnd wakes02 rfl)) rfl))
    by_cases ht0 : 0 < text.length
    · exact cnd_t (decide_eq_true (by omega)) rfl
    · exact cnd_f (decide_eq_false (by omega)) rfl
  have hG0 : Good [] (width m []) := ⟨by simp [width], fun n hn => by simp at hn, fun q _ => by simp [bitC]⟩
  obtain ⟨ks, B, r1, r2, r3, r4, r5⟩ := back_loop hl hm hf text (by omega) hpos text.length BIG 0 [] [] (by omega) (Nat.zero_le _) (by unfold BIG; omega) (by simp) (by simp) hG0 (fun a k b h => by simp at h)
  have hr := back_read hl hm hf ks r2 B r3 r4 r5 ks.length BIG 0 (by omega) (Nat.zero_le _) (by unfold BIG; omega)
  exact bndL r1 (bndL hr (bndL (s := true) (cnd_t (by simp) (bnd wakes02 rfl)) rfl))
end Go.Abs.Sh
