import Derived.Test.YtiopoaenpajlmaaBitsQ
namespace Go.Abs.Sh
set_option linter.unusedVariables false
set_option linter.unusedSimpArgs false

def rputS (v n : Int) : (((List Int) × Int × Int)) → Option (((List Int) × Int × Int) ⊕ (((List Int) × Int) ⊕ T_Bits)) := (fun ((s36, s37, s38) : (List Int) × Int × Int) =>
  cond ((decide (s38 < n)))
    (bindS (S := (List Int)) (A := (((List Int) × Int × Int) ⊕ (((List Int) × Int) ⊕ T_Bits)))
      ((remO s37 8).bind fun v2 =>
      cond ((v2 == 0))
        ((appO 1 s36 [0]).bind fun v4 =>
        some (.inl v4))
        (some (.inl s36)))
      (fun (s56 : (List Int)) =>
        (quoO .i64 s37 8).bind fun v10 =>
        (quoO .i64 s37 8).bind fun v11 =>
        (ixO v11 s56.length).bind fun v12 =>
        (getO s56 v12).bind fun v13 =>
        (some (IntKind.u64.wrap s38)).bind fun v14 =>
        (shrO .i64 v v14).bind fun v15 =>
        (some (bits .and .i64 v15 1)).bind fun v16 =>
        (some (IntKind.u8.wrap v16)).bind fun v17 =>
        (remO s37 8).bind fun v18 =>
        (some (IntKind.u64.wrap v18)).bind fun v19 =>
        (shlO .u8 v17 v19).bind fun v20 =>
        (some (bits .or .u8 v13 v20)).bind fun v21 =>
        (ixO v10 s56.length).bind fun v22 =>
        (some (s56.set v22 v21)).bind fun v23 =>
        (some (IntKind.i64.wrap (s37 + 1))).bind fun v24 =>
        (some (IntKind.i64.wrap (s38 + 1))).bind fun v25 =>
        some (.inl (v23, v24, v25))) some)
    (some (.inr (.inl (s36, s37)))))
def getS (b : List Int) (at_ n v10 : Int) : ((Int × Int)) → Option ((Int × Int) ⊕ ((Int) ⊕ (Int × Int × Int))) := (fun ((s25, s26) : Int × Int) =>
          (some (IntKind.i64.wrap (at_ + n))).bind fun v11 =>
          (bits_bytesFor v11).bind fun v12 =>
          cond ((decide (s26 < v12)))
            ((ixO s26 b.length).bind fun v14 =>
            (getO b v14).bind fun v15 =>
            (some (IntKind.u32.wrap v15)).bind fun v16 =>
            (some (IntKind.i64.wrap (s26 - v10))).bind fun v17 =>
            (some (IntKind.i64.wrap (8 * v17))).bind fun v18 =>
            (shlO .u32 v16 v18).bind fun v19 =>
            (some (bits .or .u32 s25 v19)).bind fun v20 =>
            (some (IntKind.i64.wrap (s26 + 1))).bind fun v21 =>
            some (.inl (v20, v21)))
            (some (.inr (.inl s25))))
def rgetS (b : List Int) (at_ n : Int) : ((Int × Int)) → Option ((Int × Int) ⊕ ((Int) ⊕ (Int × Int × Int))) := (fun ((s22, s23) : Int × Int) =>
          cond ((decide (s23 < n)))
            ((some (IntKind.i64.wrap (at_ + s23))).bind fun v13 =>
            (wherryref01_bit b v13).bind fun v14 =>
            (some (IntKind.u64.wrap s23)).bind fun v15 =>
            (shlO .i64 v14 v15).bind fun v16 =>
            (some (bits .or .i64 s22 v16)).bind fun v17 =>
            (some (IntKind.i64.wrap (s23 + 1))).bind fun v18 =>
            some (.inl (v17, v18)))
            (some (.inr (.inl s22))))
def rturnS (v n : Int) : ((Int × Int)) → Option ((Int × Int) ⊕ ((Int) ⊕ Int)) := (fun ((s11, s12) : Int × Int) =>
  cond ((decide (s12 < n)))
    ((shlO .i64 s11 1).bind fun v2 =>
    (some (IntKind.u64.wrap s12)).bind fun v3 =>
    (shrO .i64 v v3).bind fun v4 =>
    (some (bits .and .i64 v4 1)).bind fun v5 =>
    (some (bits .or .i64 v2 v5)).bind fun v6 =>
    (some (IntKind.i64.wrap (s12 + 1))).bind fun v7 =>
    some (.inl (v6, v7)))
    (some (.inr (.inl s11))))

theorem and_u32n (a b : Nat) (ha : a < 4294967296) (hb : b < 4294967296) : bits .and .u32 (a : Int) (b : Int) = ((a &&& b : Nat) : Int) := by
  have hx : a &&& b < 2 ^ 32 := Nat.and_lt_two_pow _ (by omega)
  show IntKind.u32.wrap ((BitVec.ofInt 32 (a : Int) &&& BitVec.ofInt 32 (b : Int)).toNat : Int) = _
  rw [BitVec.toNat_and, ofInt32 a ha, ofInt32 b hb, wrap_u32c (by omega) (by omega)]
theorem or_u32n (a b : Nat) (ha : a < 4294967296) (hb : b < 4294967296) : bits .or .u32 (a : Int) (b : Int) = ((a ||| b : Nat) : Int) := by
  have hx : a ||| b < 2 ^ 32 := Nat.or_lt_two_pow (by omega) (by omega)
  show IntKind.u32.wrap ((BitVec.ofInt 32 (a : Int) ||| BitVec.ofInt 32 (b : Int)).toNat : Int) = _
  rw [BitVec.toNat_or, ofInt32 a ha, ofInt32 b hb, wrap_u32c (by omega) (by omega)]
theorem or_i64n (a b : Nat) (ha : a < 4294967296) (hb : b < 4294967296) : bits .or .i64 (a : Int) (b : Int) = ((a ||| b : Nat) : Int) := by
  have hx : a ||| b < 2 ^ 32 := Nat.or_lt_two_pow (by omega) (by omega)
  show IntKind.i64.wrap ((BitVec.ofInt 64 (a : Int) ||| BitVec.ofInt 64 (b : Int)).toNat : Int) = _
  rw [BitVec.toNat_or, ofInt64 a (by omega), ofInt64 b (by omega), wrap_i64 (by omega) (by omega)]

theorem good_ext {B C : List Int} {N : Nat} (hB : Good B N) (hC : Good C N) (h : ∀ q, q < N → bitC B q = bitC C q) : B = C := by
  have hl : B.length = C.length := by rw [hB.len, hC.len]
  apply List.ext_getElem hl
  intro i h1 h2
  have hb := hB.bytes _ (List.getElem_mem h1)
  have hc := hC.bytes _ (List.getElem_mem h2)
  have : B[i].toNat = C[i].toNat := by
    apply Nat.eq_of_testBit_eq
    intro j
    by_cases hj : j < 8
    · have e : bitC B (8 * i + j) = bitC C (8 * i + j) := by
        by_cases hq : 8 * i + j < N
        · exact h _ hq
        · rw [hB.zero _ (by omega), hC.zero _ (by omega)]
      simp only [bitC, List.getD_eq_getElem?_getD] at e
      rw [show (8 * i + j) / 8 = i by omega, show (8 * i + j) % 8 = j by omega] at e
      simpa [h1, h2] using e
    · rw [Nat.testBit_lt_two_pow (Nat.lt_of_lt_of_le (show B[i].toNat < 2 ^ 8 by omega) (Nat.pow_le_pow_right (by omega) (by omega))), Nat.testBit_lt_two_pow (Nat.lt_of_lt_of_le (show C[i].toNat < 2 ^ 8 by omega) (Nat.pow_le_pow_right (by omega) (by omega)))]
  omega

theorem b2n_lt (b : Bool) : b2n b < 2 := by cases b <;> decide
theorem b2n_bit (V i : Nat) : V / 2 ^ i % 2 = b2n (V.testBit i) := by
  rw [b2n, Nat.testBit_eq_decide_div_mod_eq]
  have := Nat.mod_two_eq_zero_or_one (V / 2 ^ i)
  rcases this with h | h <;> simp [h]
theorem b2n_shift (b : Bool) (m j : Nat) : (b2n b * 2 ^ m).testBit j = (decide (j = m) && b) := by
  rw [Nat.mul_comm, Nat.testBit_two_pow_mul]
  cases b
  · simp [b2n]
  · by_cases h : j = m
    · subst h; simp [b2n]
    · by_cases h2 : m ≤ j
      · have : (1 : Nat).testBit (j - m) = false := Nat.testBit_lt_two_pow (Nat.lt_of_lt_of_le (show 1 < 2 ^ 1 by decide) (Nat.pow_le_pow_right (by omega) (by omega)))
        simp [b2n, this, h]
      · simp [h, h2]
theorem shl_u8b (b : Bool) (m : Nat) (hm : m < 8) : shlO .u8 ((b2n b : Nat) : Int) (m : Int) = some ((b2n b * 2 ^ m : Nat) : Int) := by
  have := b2n_lt b
  have hp : 2 ^ m ≤ 2 ^ 7 := Nat.pow_le_pow_right (by omega) (by omega)
  have e7 : (2 : Nat) ^ 7 = 128 := by decide
  have hle : b2n b * 2 ^ m ≤ 1 * 128 := Nat.mul_le_mul (by omega) (by omega)
  simp only [shlO, IntKind.bits]
  rw [if_pos (by omega), Int.toNat_natCast, Nat.min_eq_left (by omega)]
  have e : ((b2n b : Nat) : Int) * 2 ^ m = ((b2n b * 2 ^ m : Nat) : Int) := by push_cast; rfl
  rw [e]
  generalize b2n b * 2 ^ m = y at *
  rw [wrap_u8']; congr 1; omega

theorem rput_loop (V n N : Nat) (hV : V < 2 ^ 24) (hNn : N + n ≤ 40000) : ∀ (k fuel i : Nat) (B : List Int), n - i = k → i ≤ n → n ≤ 24 → k < fuel → Good B (N + i) →
    ∃ B', loopF (rputS (V : Int) (n : Int)) fuel (B, ((N + i : Nat) : Int), (i : Int)) = some (.inl (B', ((N + n : Nat) : Int))) ∧ Good B' (N + n) ∧ (∀ q, q < N + i → bitC B' q = bitC B q) ∧ ∀ j, i ≤ j → j < n → bitC B' (N + j) = V.testBit j := by
  intro k
  induction k with
  | zero =>
    intro fuel i B hk hi hn hf hG
    obtain ⟨f, rfl⟩ : ∃ f, fuel = f + 1 := ⟨fuel - 1, by omega⟩
    have e : i = n := by omega
    subst e
    refine ⟨B, loop_exit ?_, hG, fun q hq => rfl, fun j h1 h2 => by omega⟩
    unfold rputS
    exact cnd_f (by simp) rfl
  | succ k ih =>
    intro fuel i B hk hi hn hf hG
    obtain ⟨f, rfl⟩ : ∃ f, fuel = f + 1 := ⟨fuel - 1, by omega⟩
    obtain ⟨M, hM⟩ : ∃ M, M = N + i := ⟨_, rfl⟩
    rw [← hM] at hG ⊢
    have r8 := rem_nat M 8 (by omega)
    have q8 := quo_nat M 8 (by omega) (by omega)
    rw [show ((8 : Nat) : Int) = 8 from rfl] at r8 q8
    have hBl := hG.len
    obtain ⟨Z, hZ1, hZl, hZb, hZbit⟩ : ∃ Z : List Int, (∀ R (c : Option (List Int ⊕ R)), cond (((M % 8 : Nat) : Int) == 0) ((appO 1 B [0]).bind fun v4 => some (.inl v4)) (some (.inl B)) = (some (.inl Z) : Option (List Int ⊕ R))) ∧ Z.length = M / 8 + 1 ∧ isB Z ∧ ∀ q, bitC Z q = bitC B q := by
      by_cases h0 : M % 8 = 0
      · refine ⟨B ++ [0], fun R _ => cnd_t (by simp [h0]) (bnd (x := B ++ [0]) (by simp only [appO]; rw [if_pos (by simp; omega)]) rfl), by simp; omega, ?_, ?_⟩
        · intro x hx
          rcases List.mem_append.1 hx with hx | hx
          · exact hG.bytes x hx
          · simp at hx; omega
        · intro q
          simp only [bitC, List.getD_eq_getElem?_getD]
          by_cases hq : q / 8 < B.length
          · rw [List.getElem?_append_left hq]
          · rw [List.getElem?_append_right (by omega), List.getElem?_eq_none (l := B) (by omega)]
            by_cases h1 : q / 8 - B.length = 0
            · simp [h1]
            · rw [List.getElem?_eq_none (by simp; omega)]
      · exact ⟨B, fun R _ => cnd_f (by simp; omega) rfl, by omega, hG.bytes, fun _ => rfl⟩
    have hlt : M / 8 < Z.length := by omega
    have hx := hZb _ (List.getElem_mem hlt)
    obtain ⟨x, hxe⟩ : ∃ x : Nat, Z[M / 8] = (x : Int) := ⟨Z[M / 8].toNat, by omega⟩
    have hm : M % 8 < 8 := Nat.mod_lt _ (by omega)
    have wi : IntKind.u64.wrap (i : Int) = (i : Int) := wrap_u64n (by omega) (by omega)
    have wm : IntKind.u64.wrap ((M % 8 : Nat) : Int) = ((M % 8 : Nat) : Int) := wrap_u64n (by omega) (by omega)
    have shr := shr_nat .i64 V i (by simp only [IntKind.bits]; omega)
    have hdl : V / 2 ^ i ≤ V := Nat.div_le_self _ _
    have e24 : (2 : Nat) ^ 24 = 16777216 := by decide
    have a1 : bits .and .i64 ((V / 2 ^ i : Nat) : Int) 1 = ((b2n (V.testBit i) : Nat) : Int) := by
      rw [← b2n_bit]
      generalize V / 2 ^ i = y at *
      exact and1_i64 y (by omega)
    have hb2 := b2n_lt (V.testBit i)
    have w8 : IntKind.u8.wrap ((b2n (V.testBit i) : Nat) : Int) = ((b2n (V.testBit i) : Nat) : Int) := by rw [wrap_u8']; omega
    have shl := shl_u8b (V.testBit i) (M % 8) hm
    have hp : 2 ^ (M % 8) ≤ 2 ^ 7 := Nat.pow_le_pow_right (by omega) (by omega)
    have e7 : (2 : Nat) ^ 7 = 128 := by decide
    have hle : b2n (V.testBit i) * 2 ^ (M % 8) ≤ 1 * 128 := Nat.mul_le_mul (by omega) (by omega)
    have hor := or_u8 x (b2n (V.testBit i) * 2 ^ (M % 8)) (by omega) (by omega)
    have hol : x ||| (b2n (V.testBit i) * 2 ^ (M % 8)) < 2 ^ 8 := Nat.or_lt_two_pow (by omega) (by omega)
    have wM : IntKind.i64.wrap ((M : Int) + 1) = ((M + 1 : Nat) : Int) := by rw [wrap_i64 (by omega) (by omega)]; simp
    have wi1 : IntKind.i64.wrap ((i : Int) + 1) = ((i + 1 : Nat) : Int) := by rw [wrap_i64 (by omega) (by omega)]; simp
    have hnew : ∀ q, bitC (Z.set (M / 8) ((x ||| (b2n (V.testBit i) * 2 ^ (M % 8)) : Nat) : Int)) q = (bitC B q || (decide (q = M) && V.testBit i)) := by
      intro q
      rw [bitC_set _ _ _ _ hlt]
      by_cases h8 : q / 8 = M / 8
      · rw [if_pos h8, Int.toNat_natCast, Nat.testBit_or, b2n_shift, ← hZbit]
        have hbx : bitC Z q = x.testBit (q % 8) := by
          have hlq : q / 8 < Z.length := by omega
          have : Z[q / 8] = (x : Int) := by rw [← hxe]; simp only [h8]
          simp [bitC, List.getD_eq_getElem?_getD, hlq, this]
        rw [hbx]
        have e : decide (q % 8 = M % 8) = decide (q = M) := by
          by_cases h : q = M
          · subst h; simp
          · have : q % 8 ≠ M % 8 := by omega
            simp [h, this]
        rw [e]
      · rw [if_neg h8, hZbit]
        have : q ≠ M := fun e => h8 (by rw [e])
        simp [this]
    have hG2 : Good (Z.set (M / 8) ((x ||| (b2n (V.testBit i) * 2 ^ (M % 8)) : Nat) : Int)) (N + (i + 1)) := by
      refine ⟨by rw [List.length_set]; omega, fun y hy => ?_, fun q hq => ?_⟩
      · rcases List.mem_or_eq_of_mem_set hy with h | h
        · exact hZb y h
        · omega
      · rw [hnew, hG.zero q (by omega)]
        have : q ≠ M := by omega
        simp [this]
    obtain ⟨B', h1, h2, h3, h4⟩ := ih f (i + 1) _ (by omega) (by omega) hn (by omega) hG2
    rw [show N + (i + 1) = M + 1 by omega] at h1
    refine ⟨B', (loop_next ?_).trans h1, h2, fun q hq => ?_, fun j hj1 hj2 => ?_⟩
    · unfold rputS
      refine cnd_t (by simp; omega) (bndL (s := Z) (bnd r8 (hZ1 _ none)) ?_)
      exact bnd q8 (bnd q8 (bnd (ixO_of hlt) (bnd (x := (x : Int)) (by rw [getO_of hlt, hxe]) (bnd (x := (i : Int)) (by rw [wi]) (bnd shr (bnd (x := ((b2n (V.testBit i) : Nat) : Int)) (by rw [a1]) (bnd (x := ((b2n (V.testBit i) : Nat) : Int)) (by rw [w8]) (bnd r8 (bnd (x := ((M % 8 : Nat) : Int)) (by rw [wm]) (bnd shl (bnd (x := ((x ||| (b2n (V.testBit i) * 2 ^ (M % 8)) : Nat) : Int)) (by rw [hor]) (bnd (ixO_of hlt) (bnd rfl (bnd (x := ((M + 1 : Nat) : Int)) (by rw [wM]) (bnd (x := ((i + 1 : Nat) : Int)) (by rw [wi1]) rfl)))))))))))))))
    · rw [h3 q (by omega), hnew]
      have : q ≠ M := by omega
      simp [this]
    · by_cases e : j = i
      · subst e
        rw [h3 (N + j) (by omega), hnew, ← hM, hG.zero M (Nat.le_refl _)]
        simp
      · exact h4 j (by omega) hj2

theorem put_same {B : List Int} {N : Nat} (h : Good B N) (V n : Nat) (hn : n ≤ 24) (hV : V < 2 ^ n) (hN : N + n ≤ 40000) :
    ∃ B', bits_Put (T_Bits.mk B (N : Int)) (V : Int) (n : Int) = some (T_Bits.mk B' ((N + n : Nat) : Int), 0) ∧ wherryref01_put (T_Bits.mk B (N : Int)) (V : Int) (n : Int) = some (T_Bits.mk B' ((N + n : Nat) : Int)) ∧ Good B' (N + n) := by
  obtain ⟨B1, h1, h2, h3, h4⟩ := put_eq h V n hn hV hN
  have hV24 : V < 2 ^ 24 := Nat.lt_of_lt_of_le hV (Nat.pow_le_pow_right (by omega) hn)
  obtain ⟨B2, k1, k2, k3, k4⟩ := rput_loop V n N hV24 hN n BIG 0 B (by omega) (Nat.zero_le _) hn (by unfold BIG; omega) h
  have e : B2 = B1 := good_ext k2 h2 fun q hq => by
    by_cases h5 : q < N
    · rw [k3 q (by omega), h3 q h5]
    · have := k4 (q - N) (by omega) (by omega)
      have h6 := h4 (q - N) (by omega)
      rw [show N + (q - N) = q by omega] at this h6
      rw [this, h6]
  subst e
  refine ⟨B2, h1, ?_, k2⟩
  unfold wherryref01_put
  exact bndL k1 rfl
end Go.Abs.Sh
