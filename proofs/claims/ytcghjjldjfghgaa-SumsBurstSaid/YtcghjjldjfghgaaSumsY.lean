import Derived.Test.YtcghjjldjfghgaaSumsX
namespace Go.Abs.Sh
set_option linter.unusedVariables false
set_option linter.unusedSimpArgs false

def bitS (l : List Int) (q : Nat) : Bool := (l.getD (q / 8) 0).toNat.testBit (q % 8)
theorem bitS_set (s : List Int) (j q : Nat) (x : Int) (hj : j < s.length) : bitS (s.set j x) q = if q / 8 = j then x.toNat.testBit (q % 8) else bitS s q := by
  simp only [bitS, List.getD_eq_getElem?_getD, List.getElem?_set]
  by_cases h : j = q / 8
  · subst h; simp [hj]
  · rw [if_neg h, if_neg (fun e => h e.symm)]
theorem bytesS_set {s : List Int} (hs : ∀ n ∈ s, 0 ≤ n ∧ n < 256) (j : Nat) (x : Int) (hx : 0 ≤ x ∧ x < 256) : ∀ n ∈ s.set j x, 0 ≤ n ∧ n < 256 := by
  intro n hn
  rcases List.mem_or_eq_of_mem_set hn with h | h
  · exact hs n h
  · subst h; exact hx
theorem wrap_u64s {n : Int} (h0 : 0 ≤ n) (h1 : n < 18446744073709551616) : IntKind.u64.wrap n = n := by
  simp only [IntKind.wrap, IntKind.bits, IntKind.signed]
  have e : (2 : Int) ^ 64 = 18446744073709551616 := by decide
  simp only [e, Bool.false_and, Bool.false_eq_true, if_false]
  omega
theorem wrap_u64s_nn (n : Int) : 0 ≤ IntKind.u64.wrap n := by
  simp only [IntKind.wrap, IntKind.bits, IntKind.signed]
  have e : (2 : Int) ^ 64 = 18446744073709551616 := by decide
  simp only [e, Bool.false_and, Bool.false_eq_true, if_false]
  omega
theorem shl1_u8s : ∀ r : Nat, r < 8 → shlO .u8 1 (r : Int) = some ((2 ^ r : Nat) : Int) := by decide

theorem twist (b : List Int) (F M K : Nat) (hb : ∀ n ∈ b, 0 ≤ n ∧ n < 256) (hl : b.length ≤ 1000) (hF : F < 8 * b.length) (hM : M < 4294967296) (hK : K ≤ 32) :
    ∀ (k fuel i : Nat) (s : List Int), K - i = k → i ≤ K → k < fuel → s.length = b.length → (∀ n ∈ s, 0 ≤ n ∧ n < 256) →
      ∃ s', loopF (S := ((List Int) × Int)) (O := ((List Int)) ⊕ Bool) (fun ((s66, s67) : (List Int) × Int) =>
                bindS (S := Bool) (A := (((List Int) × Int) ⊕ (((List Int)) ⊕ Bool)))
                  (cond ((decide (s67 < (K : Int))))
                    ((some (IntKind.i64.wrap ((F : Int) + s67))).bind fun v23 =>
                    (some (IntKind.i64.wrap (8 * (b.length : Int)))).bind fun v24 =>
                    some (.inl ((decide (v23 < v24)))))
                    (some (.inl false)))
                  (fun (s86 : Bool) =>
                    cond (s86)
                      (bindS (S := (List Int)) (A := (((List Int) × Int) ⊕ (((List Int)) ⊕ Bool)))
                        ((some (IntKind.u64.wrap s67)).bind fun v30 =>
                        (shrO .i64 (M : Int) v30).bind fun v31 =>
                        (some (bits .and .i64 v31 1)).bind fun v32 =>
                        cond ((v32 == 1))
                          ((some (IntKind.i64.wrap ((F : Int) + s67))).bind fun v34 =>
                          (quoO .i64 v34 8).bind fun v35 =>
                          (some (IntKind.i64.wrap ((F : Int) + s67))).bind fun v36 =>
                          (quoO .i64 v36 8).bind fun v37 =>
                          (ixO v37 s66.length).bind fun v38 =>
                          (getO s66 v38).bind fun v39 =>
                          (some (IntKind.i64.wrap ((F : Int) + s67))).bind fun v40 =>
                          (remO v40 8).bind fun v41 =>
                          (some (IntKind.u64.wrap v41)).bind fun v42 =>
                          (shlO .u8 1 v42).bind fun v43 =>
                          (some (bits .xor .u8 v39 v43)).bind fun v44 =>
                          (ixO v35 s66.length).bind fun v45 =>
                          (some (s66.set v45 v44)).bind fun v46 =>
                          some (.inl v46))
                          (some (.inl s66)))
                        (fun (s92 : (List Int)) =>
                          (some (IntKind.i64.wrap (s67 + 1))).bind fun v52 =>
                          some (.inl (s92, v52))) some)
                      (some (.inr (.inl s66)))) some) fuel (s, (i : Int)) = some (.inl s') ∧ s'.length = b.length ∧ (∀ n ∈ s', 0 ≤ n ∧ n < 256) ∧
        ∀ q, q < 8 * b.length → bitS s' q = (bitS s q ^^ (decide (F + i ≤ q) && decide (q < F + K) && M.testBit (q - F))) := by
  intro k
  induction k with
  | zero =>
    intro fuel i s hk hi hf hs hsb
    obtain ⟨f, rfl⟩ : ∃ f, fuel = f + 1 := ⟨fuel - 1, by omega⟩
    have hiK : i = K := by omega
    refine ⟨s, loop_exit (bndL (s := false) (cnd_f (by simp; omega) rfl) (cnd_f rfl rfl)), hs, hsb, fun q hq => ?_⟩
    by_cases h : F + i ≤ q
    · have : ¬ q < F + K := by omega
      simp [this]
    · simp [h]
  | succ k ih =>
    intro fuel i s hk hi hf hs hsb
    obtain ⟨f, rfl⟩ : ∃ f, fuel = f + 1 := ⟨fuel - 1, by omega⟩
    have hiK : i < K := by omega
    have w1 : IntKind.i64.wrap ((F : Int) + (i : Int)) = ((F + i : Nat) : Int) := by rw [wrap_i64 (by omega) (by omega)]; simp
    have w2 : IntKind.i64.wrap (8 * (b.length : Int)) = ((8 * b.length : Nat) : Int) := by rw [wrap_i64 (by omega) (by omega)]; simp
    have w3 : IntKind.i64.wrap ((i : Int) + 1) = ((i + 1 : Nat) : Int) := by rw [wrap_i64 (by omega) (by omega)]; simp
    have wu : IntKind.u64.wrap (i : Int) = (i : Int) := wrap_u64s (by omega) (by omega)
    have hd1 : decide ((i : Int) < (K : Int)) = true := by simp; omega
    by_cases hp : F + i < 8 * b.length
    case neg =>
      refine ⟨s, loop_exit (bndL (s := false) (cnd_t hd1 (bnd (x := ((F + i : Nat) : Int)) (by rw [w1]) (bnd (x := ((8 * b.length : Nat) : Int)) (by rw [w2]) ?_))) (cnd_f rfl rfl)), hs, hsb, fun q hq => ?_⟩
      · have : decide ((((F + i : Nat) : Int)) < ((8 * b.length : Nat) : Int)) = false := by simp; omega
        rw [this]
      · have : ¬ F + i ≤ q := by omega
        simp [this]
    have hsh : shrO .i64 (M : Int) (i : Int) = some ((M / 2 ^ i : Nat) : Int) := shr_nat .i64 M i (by simp only [IntKind.bits]; omega)
    have hMi : M / 2 ^ i < 9223372036854775808 := Nat.lt_of_le_of_lt (Nat.div_le_self _ _) (by omega)
    have hgo : ∀ (s1 : List Int) (r : Option (((List Int) × Int) ⊕ (((List Int)) ⊕ Bool))), r = some (.inl (s1, ((i + 1 : Nat) : Int))) → r = some (.inl (s1, ((i + 1 : Nat) : Int))) := fun _ _ h => h
    have hhead : ∀ {X : Bool → Option (((List Int) × Int) ⊕ (((List Int)) ⊕ Bool))} {r}, X true = r → bindS (S := Bool) (A := (((List Int) × Int) ⊕ (((List Int)) ⊕ Bool)))
                  (cond ((decide ((i : Int) < (K : Int))))
                    ((some (IntKind.i64.wrap ((F : Int) + (i : Int)))).bind fun v23 =>
                    (some (IntKind.i64.wrap (8 * (b.length : Int)))).bind fun v24 =>
                    some (.inl ((decide (v23 < v24)))))
                    (some (.inl false))) X some = r := by
      intro X r h
      refine bndL (s := true) (cnd_t hd1 (bnd (x := ((F + i : Nat) : Int)) (by rw [w1]) (bnd (x := ((8 * b.length : Nat) : Int)) (by rw [w2]) ?_))) h
      have : decide ((((F + i : Nat) : Int)) < ((8 * b.length : Nat) : Int)) = true := by simp; omega
      rw [this]
    cases hb2 : M.testBit i with
    | true =>
      have hj : (F + i) / 8 < s.length := by omega
      have hx := hsb s[(F + i) / 8] (List.getElem_mem hj)
      obtain ⟨x, hxe⟩ : ∃ x : Nat, s[(F + i) / 8] = (x : Int) := ⟨s[(F + i) / 8].toNat, by omega⟩
      have hx256 : x < 256 := by omega
      have hr : (F + i) % 8 < 8 := Nat.mod_lt _ (by omega)
      have hpw := shl1_u8s ((F + i) % 8) hr
      have hp256 : 2 ^ ((F + i) % 8) < 256 := (Nat.pow_lt_pow_right (by omega) hr : 2 ^ ((F + i) % 8) < 2 ^ 8)
      have hxr : x ^^^ 2 ^ ((F + i) % 8) < 2 ^ 8 := Nat.xor_lt_two_pow (n := 8) hx256 hp256
      have q8 := quo_nat (F + i) 8 (by omega) (by omega)
      have r8 := rem_nat (F + i) 8 (by omega)
      rw [show ((8 : Nat) : Int) = 8 from rfl] at q8 r8
      have wr : IntKind.u64.wrap (((F + i) % 8 : Nat) : Int) = (((F + i) % 8 : Nat) : Int) := wrap_u64s (by omega) (by omega)
      obtain ⟨s', h1, h2, h3, h4⟩ := ih f (i + 1) (s.set ((F + i) / 8) ((x ^^^ 2 ^ ((F + i) % 8) : Nat) : Int)) (by omega) (by omega) (by omega) (by simp [hs]) (bytesS_set hsb _ _ (by omega))
      refine ⟨s', (loop_next ?_).trans h1, h2, h3, fun q hq => ?_⟩
      · refine hhead (cnd_t rfl (bndL (s := s.set ((F + i) / 8) ((x ^^^ 2 ^ ((F + i) % 8) : Nat) : Int)) (bnd (x := (i : Int)) (by rw [wu]) (bnd hsh (bnd (x := ((M / 2 ^ i % 2 : Nat) : Int)) (by rw [and1_i64 _ hMi]) ?_))) (bnd (x := ((i + 1 : Nat) : Int)) (by rw [w3]) rfl)))
        rw [bit_eq, hb2]
        exact cnd_t rfl (bnd (x := ((F + i : Nat) : Int)) (by rw [w1]) (bnd q8 (bnd (x := ((F + i : Nat) : Int)) (by rw [w1]) (bnd q8 (bnd (ixO_of hj) (bnd (x := (x : Int)) (by rw [getO_of hj, hxe]) (bnd (x := ((F + i : Nat) : Int)) (by rw [w1]) (bnd r8
          (bnd (x := (((F + i) % 8 : Nat) : Int)) (by rw [wr]) (bnd hpw (bnd (x := ((x ^^^ 2 ^ ((F + i) % 8) : Nat) : Int)) (by rw [xor_u8 x _ hx256 hp256]) (bnd (ixO_of hj) (bnd rfl rfl)))))))))))))
      · rw [h4 q hq, bitS_set s _ q _ hj]
        by_cases he : q = F + i
        · subst he
          have hb1 : bitS s (F + i) = x.testBit ((F + i) % 8) := by
            simp [bitS, List.getD_eq_getElem?_getD, hj, hxe]
          have hq16 : F + i < F + K := by omega
          have hsub : F + i - F = i := by omega
          have hni : ¬ i + 1 ≤ i := by omega
          rw [if_pos rfl, Int.toNat_natCast, Nat.testBit_xor, Nat.testBit_two_pow, hb1, hsub, hb2]
          simp [hiK, hni]
        · have e1 : decide (F + (i + 1) ≤ q) = decide (F + i ≤ q) := by by_cases h : F + i ≤ q <;> simp [h] <;> omega
          rw [e1]
          by_cases h8 : q / 8 = (F + i) / 8
          · have hb1 : bitS s q = x.testBit (q % 8) := by
              simp [bitS, List.getD_eq_getElem?_getD, h8, hj, hxe]
            have hm : ¬ (F + i) % 8 = q % 8 := by omega
            rw [if_pos h8, Int.toNat_natCast, Nat.testBit_xor, Nat.testBit_two_pow, hb1]
            simp [hm]
          · rw [if_neg h8]
    | false =>
      obtain ⟨s', h1, h2, h3, h4⟩ := ih f (i + 1) s (by omega) (by omega) (by omega) hs hsb
      refine ⟨s', (loop_next ?_).trans h1, h2, h3, fun q hq => ?_⟩
      · refine hhead (cnd_t rfl (bndL (s := s) (bnd (x := (i : Int)) (by rw [wu]) (bnd hsh (bnd (x := ((M / 2 ^ i % 2 : Nat) : Int)) (by rw [and1_i64 _ hMi]) ?_))) (bnd (x := ((i + 1 : Nat) : Int)) (by rw [w3]) rfl)))
        rw [bit_eq, hb2]
        exact cnd_f rfl rfl
      · rw [h4 q hq]
        by_cases he : q = F + i
        · subst he
          have hq16 : F + i < F + K := by omega
          have hsub : F + i - F = i := by omega
          rw [hsub, hb2]
          simp
        · have e1 : decide (F + (i + 1) ≤ q) = decide (F + i ≤ q) := by by_cases h : F + i ≤ q <;> simp [h] <;> omega
          rw [e1]

theorem or1 (n : Int) (m : Nat) (hm : m < 4294967296) : ∃ M : Nat, bits .or .i64 (bits .and .i64 n (m : Int)) 1 = (M : Int) ∧ M < 4294967296 ∧ M.testBit 0 = true := by
  have e : bits .and .i64 n (m : Int) = (((BitVec.ofInt 64 n).toNat &&& m : Nat) : Int) := by
    show IntKind.i64.wrap ((BitVec.ofInt 64 n &&& BitVec.ofInt 64 (m : Int)).toNat : Int) = _
    have hle := Nat.and_le_right (n := (BitVec.ofInt 64 n).toNat) (m := m)
    rw [BitVec.toNat_and, ofInt64 m (by omega)]
    generalize (BitVec.ofInt 64 n).toNat &&& m = y at *
    rw [wrap_i64 (by omega) (by omega)]
  have hle := Nat.and_le_right (n := (BitVec.ofInt 64 n).toNat) (m := m)
  rw [e]
  generalize (BitVec.ofInt 64 n).toNat &&& m = y at *
  have hy : y < 2 ^ 32 := by omega
  have ho : y ||| 1 < 2 ^ 32 := Nat.or_lt_two_pow hy (by omega)
  refine ⟨y ||| 1, ?_, ho, by simp⟩
  show IntKind.i64.wrap ((BitVec.ofInt 64 (y : Int) ||| BitVec.ofInt 64 ((1 : Nat) : Int)).toNat : Int) = _
  rw [BitVec.toNat_or, ofInt64 y (by omega), ofInt64 1 (by omega)]
  generalize y ||| 1 = z at *
  rw [wrap_i64 (by omega) (by omega)]

theorem sumsBurst_true (b : List Int) (at_ n : Int) (wide : Bool) (hb : ∀ n ∈ b, 0 ≤ n ∧ n < 256) : wherrylaw08_SumsBurst b at_ n wide = some true := by
  unfold wherrylaw08_SumsBurst
  by_cases l1 : 600 < b.length
  · exact bndL (s := true) (cnd_t (by simp; omega) rfl) (cnd_t rfl rfl)
  by_cases l2 : b.length = 0
  · exact bndL (s := true) (cnd_f (by simp; omega) (by simp [l2])) (cnd_t rfl rfl)
  have e0 : ((b.length : Int) == 0) = false := by rw [beq_eq_false_iff_ne]; omega
  refine bndL (s := false) (cnd_f (by simp; omega) (by rw [e0])) (cnd_f rfl ?_)
  have w2 : IntKind.i64.wrap (8 * (b.length : Int)) = ((8 * b.length : Nat) : Int) := by rw [wrap_i64 (by omega) (by omega)]; simp
  have w8 : IntKind.u64.wrap ((8 * b.length : Nat) : Int) = ((8 * b.length : Nat) : Int) := wrap_u64s (by omega) (by omega)
  obtain ⟨A, hA⟩ : ∃ A : Nat, IntKind.u64.wrap at_ = (A : Int) := ⟨(IntKind.u64.wrap at_).toNat, by have := wrap_u64s_nn at_; omega⟩
  have hr := rem_nat A (8 * b.length) (by omega)
  have hF : A % (8 * b.length) < 8 * b.length := Nat.mod_lt _ (by omega)
  generalize A % (8 * b.length) = F at *
  have wF : IntKind.i64.wrap (F : Int) = (F : Int) := wrap_i64 (by omega) (by omega)
  refine bnd (x := (A : Int)) (by rw [hA]) (bnd (x := ((8 * b.length : Nat) : Int)) (by rw [w2]) (bnd (x := ((8 * b.length : Nat) : Int)) (by rw [w8]) (bnd hr (bnd (x := (F : Int)) (by rw [wF]) ?_))))
  have hne : ∀ (d w K : Nat) (s : List Int) (M : Nat), 2 ^ w ≤ d → d < 2 ^ (w + 1) → K ≤ w + 1 → 0 < K → s.length = b.length → (∀ n ∈ s, 0 ≤ n ∧ n < 256) → M.testBit 0 = true →
      (∀ q, q < 8 * b.length → bitS s q = (bitS b q ^^ (decide (F + 0 ≤ q) && decide (q < F + K) && M.testBit (q - F)))) → crc d (w + 1) (nats b) ≠ crc d (w + 1) (nats s) := by
    intro d w K s M hd hd2 hK hK0 hsl hsb hM0 hbits
    refine crc_ne (burstG d w K hd hd2 hK _ _ F M (nats_bytes hb) (nats_bytes hsb) (by simp [nats, hsl]) (by simpa [nats] using hF) hK0 hM0 ?_ _)
    intro q hq
    have := hbits q (by simpa [nats] using hq)
    simp only [bitS, Nat.add_zero] at this
    rw [nats_getD', nats_getD']
    exact this
  cases wide with
  | true =>
    obtain ⟨M, hM, hM1, hM0⟩ := or1 n 4294967295 (by omega)
    rw [show ((4294967295 : Nat) : Int) = 4294967295 from rfl] at hM
    refine bndL (s := 32) (cnd_t rfl rfl) ?_
    refine bnd (x := 32) (by decide) (bnd (x := 4294967296) (by decide) (bnd (x := 4294967295) (by decide) (bnd rfl (bnd (x := (M : Int)) (by rw [hM]) (bnd (twin_eqS b (by omega)) ?_)))))
    obtain ⟨s, h1, h2, h3, h4⟩ := twist b F M 32 hb (by omega) hF hM1 (by omega) 32 BIG 0 b rfl (by omega) (by unfold BIG; omega) rfl hb
    refine bndL (s := s) h1 (cnd_t rfl (bndL (s := true) (bnd (long_eq s h3 (by omega)) (bnd (long_eq b hb (by omega)) (cnd_t ?_ (bnd wakes08 rfl)))) rfl))
    have := hne 3988292384 31 32 s M (by decide) (by decide) (by omega) (by omega) h2 h3 hM0 h4
    simp only [bne_iff_ne, ne_eq]
    intro e
    exact this (Int.ofNat.inj e).symm
  | false =>
    obtain ⟨M, hM, hM1, hM0⟩ := or1 n 65535 (by omega)
    rw [show ((65535 : Nat) : Int) = 65535 from rfl] at hM
    refine bndL (s := 16) (cnd_f rfl rfl) ?_
    refine bnd (x := 16) (by decide) (bnd (x := 65536) (by decide) (bnd (x := 65535) (by decide) (bnd rfl (bnd (x := (M : Int)) (by rw [hM]) (bnd (twin_eqS b (by omega)) ?_)))))
    obtain ⟨s, h1, h2, h3, h4⟩ := twist b F M 16 hb (by omega) hF hM1 (by omega) 16 BIG 0 b rfl (by omega) (by unfold BIG; omega) rfl hb
    refine bndL (s := s) h1 (cnd_f rfl (bndL (s := true) (bnd (short_eq' s h3 (by omega)) (bnd (short_eq' b hb (by omega)) (cnd_t ?_ (bnd (long_eq s h3 (by omega)) (bnd (long_eq b hb (by omega)) (cnd_t ?_ (bnd wakes08 rfl))))))) rfl))
    · have := hne 33800 15 16 s M (by decide) (by decide) (by omega) (by omega) h2 h3 hM0 h4
      simp only [bne_iff_ne, ne_eq]
      intro e
      exact this (Int.ofNat.inj e).symm
    · have := hne 3988292384 31 16 s M (by decide) (by decide) (by omega) (by omega) h2 h3 hM0 h4
      simp only [bne_iff_ne, ne_eq]
      intro e
      exact this (Int.ofNat.inj e).symm
end Go.Abs.Sh
