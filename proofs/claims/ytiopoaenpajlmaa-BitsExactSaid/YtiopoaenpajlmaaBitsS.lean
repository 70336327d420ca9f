import Derived.Test.YtiopoaenpajlmaaBitsR
namespace Go.Abs.Sh
set_option linter.unusedVariables false
set_option linter.unusedSimpArgs false

theorem get_loop (b : List Int) (hb : isB b) (hl : b.length ≤ 600) (at_ n : Nat) (hn : n ≤ 24) (hat : at_ + n ≤ 8 * b.length) : ∀ (k fuel i all : Nat), (at_ + n + 7) / 8 - i = k → at_ / 8 ≤ i → i ≤ max (at_ / 8) ((at_ + n + 7) / 8) → k < fuel → all < 2 ^ (8 * (i - at_ / 8)) →
    (∀ q, all.testBit q = (decide (q < 8 * (i - at_ / 8)) && bitC b (8 * (at_ / 8) + q))) →
    ∃ all' : Nat, loopF (getS b (at_ : Int) (n : Int) ((at_ / 8 : Nat) : Int)) fuel ((all : Int), (i : Int)) = some (.inl (all' : Int)) ∧ all' < 4294967296 ∧ ∀ q, q < at_ % 8 + n → all'.testBit q = bitC b (8 * (at_ / 8) + q) := by
  intro k
  have w : IntKind.i64.wrap ((at_ : Int) + (n : Int)) = ((at_ + n : Nat) : Int) := by rw [wrap_i64 (by omega) (by omega)]; simp
  have hbf := bytesFor_eq (at_ + n) (by omega)
  induction k with
  | zero =>
    intro fuel i all hk h1 h2 hf hall hbits
    obtain ⟨f, rfl⟩ : ∃ f, fuel = f + 1 := ⟨fuel - 1, by omega⟩
    refine ⟨all, loop_exit ?_, ?_, fun q hq => ?_⟩
    · unfold getS
      exact bnd (x := ((at_ + n : Nat) : Int)) (by rw [w]) (bnd hbf (cnd_f (by simp; omega) rfl))
    · have : 8 * (i - at_ / 8) ≤ 32 := by omega
      have hp : 2 ^ (8 * (i - at_ / 8)) ≤ 2 ^ 32 := Nat.pow_le_pow_right (by omega) this
      have e : (2 : Nat) ^ 32 = 4294967296 := by decide
      omega
    · rw [hbits q, decide_eq_true (by omega)]; simp
  | succ k ih =>
    intro fuel i all hk h1 h2 hf hall hbits
    obtain ⟨f, rfl⟩ : ∃ f, fuel = f + 1 := ⟨fuel - 1, by omega⟩
    have hlt : i < b.length := by omega
    have hx := hb _ (List.getElem_mem hlt)
    obtain ⟨x, hxe⟩ : ∃ x : Nat, b[i] = (x : Int) := ⟨b[i].toNat, by omega⟩
    obtain ⟨j, hj⟩ : ∃ j, j = i - at_ / 8 := ⟨_, rfl⟩
    have hj3 : j ≤ 3 := by omega
    have wx : IntKind.u32.wrap (x : Int) = (x : Int) := wrap_u32c (by omega) (by omega)
    have w2 : IntKind.i64.wrap ((i : Int) - ((at_ / 8 : Nat) : Int)) = (j : Int) := by rw [wrap_i64 (by omega) (by omega)]; omega
    have w3 : IntKind.i64.wrap (8 * (j : Int)) = ((8 * j : Nat) : Int) := by rw [wrap_i64 (by omega) (by omega)]; simp
    have hp : 2 ^ (8 * j) ≤ 2 ^ 24 := Nat.pow_le_pow_right (by omega) (by omega)
    have e24 : (2 : Nat) ^ 24 = 16777216 := by decide
    have hle : x * 2 ^ (8 * j) ≤ 255 * 16777216 := Nat.mul_le_mul (by omega) (by omega)
    have shl := shl_u32 x (8 * j) (by omega) (by omega)
    rw [← hj] at hall hbits
    have hor := or_u32n all (x * 2 ^ (8 * j)) (by omega) (by omega)
    have w1 : IntKind.i64.wrap ((i : Int) + 1) = ((i + 1 : Nat) : Int) := by rw [wrap_i64 (by omega) (by omega)]; simp
    have hbit2 : ∀ q, (all ||| x * 2 ^ (8 * j)).testBit q = (decide (q < 8 * (j + 1)) && bitC b (8 * (at_ / 8) + q)) := by
      intro q
      rw [Nat.testBit_or, hbits, Nat.mul_comm x, Nat.testBit_two_pow_mul]
      by_cases c1 : q < 8 * j
      · have c2 : q < 8 * (j + 1) := by omega
        have c3 : ¬ 8 * j ≤ q := by omega
        simp [c1, c2, c3]
      · have c3 : 8 * j ≤ q := by omega
        by_cases c2 : q < 8 * (j + 1)
        · have e1 : (8 * (at_ / 8) + q) / 8 = i := by omega
          have e2 : (8 * (at_ / 8) + q) % 8 = q - 8 * j := by omega
          have e3 : bitC b (8 * (at_ / 8) + q) = x.testBit (q - 8 * j) := by
            simp only [bitC, e1, e2]
            simp [List.getD_eq_getElem?_getD, hlt, hxe]
          simp [c1, c2, c3, e3]
        · have : x.testBit (q - 8 * j) = false := Nat.testBit_lt_two_pow (Nat.lt_of_lt_of_le (show x < 2 ^ 8 by omega) (Nat.pow_le_pow_right (by omega) (by omega)))
          simp [c1, c2, this]
    have hj2 : i + 1 - at_ / 8 = j + 1 := by omega
    have hall2 : (all ||| x * 2 ^ (8 * j)) < 2 ^ (8 * (i + 1 - at_ / 8)) := by
      rw [hj2]
      refine Nat.lt_pow_two_of_testBit _ fun q hq => ?_
      rw [hbit2]
      have : ¬ q < 8 * (j + 1) := by omega
      simp [this]
    obtain ⟨all', h3, h4, h5⟩ := ih f (i + 1) _ (by omega) (by omega) (by omega) (by omega) hall2 (by rw [hj2]; exact hbit2)
    refine ⟨all', (loop_next ?_).trans h3, h4, h5⟩
    unfold getS
    exact bnd (x := ((at_ + n : Nat) : Int)) (by rw [w]) (bnd hbf (cnd_t (by simp; omega) (bnd (ixO_of hlt) (bnd (x := (x : Int)) (by rw [getO_of hlt, hxe]) (bnd (x := (x : Int)) (by rw [wx]) (bnd (x := (j : Int)) (by rw [w2]) (bnd (x := ((8 * j : Nat) : Int)) (by rw [w3]) (bnd shl (bnd (x := ((all ||| x * 2 ^ (8 * j) : Nat) : Int)) (by rw [hor]) (bnd (x := ((i + 1 : Nat) : Int)) (by rw [w1]) rfl))))))))))

theorem rget_loop (b : List Int) (hb : isB b) (hl : b.length ≤ 600) (at_ n : Nat) (hn : n ≤ 24) (hat : at_ + n ≤ 8 * b.length) : ∀ (k fuel i v : Nat), n - i = k → i ≤ n → k < fuel → v < 2 ^ i → (∀ q, v.testBit q = (decide (q < i) && bitC b (at_ + q))) →
    ∃ v' : Nat, loopF (rgetS b (at_ : Int) (n : Int)) fuel ((v : Int), (i : Int)) = some (.inl (v' : Int)) ∧ v' < 2 ^ n ∧ ∀ q, v'.testBit q = (decide (q < n) && bitC b (at_ + q)) := by
  intro k
  induction k with
  | zero =>
    intro fuel i v hk hi hf hv hbits
    obtain ⟨f, rfl⟩ : ∃ f, fuel = f + 1 := ⟨fuel - 1, by omega⟩
    have e : i = n := by omega
    subst e
    refine ⟨v, loop_exit ?_, hv, hbits⟩
    unfold rgetS
    exact cnd_f (by simp) rfl
  | succ k ih =>
    intro fuel i v hk hi hf hv hbits
    obtain ⟨f, rfl⟩ : ∃ f, fuel = f + 1 := ⟨fuel - 1, by omega⟩
    have w : IntKind.i64.wrap ((at_ : Int) + (i : Int)) = ((at_ + i : Nat) : Int) := by rw [wrap_i64 (by omega) (by omega)]; simp
    have hbt := bit_eqb hb (by omega) (show at_ + i < 8 * b.length by omega)
    have wi : IntKind.u64.wrap (i : Int) = (i : Int) := wrap_u64n (by omega) (by omega)
    have hp : 2 ^ i ≤ 2 ^ 24 := Nat.pow_le_pow_right (by omega) (by omega)
    have e24 : (2 : Nat) ^ 24 = 16777216 := by decide
    have hb2 := b2n_lt (bitC b (at_ + i))
    have hle : b2n (bitC b (at_ + i)) * 2 ^ i ≤ 1 * 16777216 := Nat.mul_le_mul (by omega) (by omega)
    have shl := shl_nat (b2n (bitC b (at_ + i))) i (by omega) (by omega)
    have hor := or_i64n v (b2n (bitC b (at_ + i)) * 2 ^ i) (by omega) (by omega)
    have w1 : IntKind.i64.wrap ((i : Int) + 1) = ((i + 1 : Nat) : Int) := by rw [wrap_i64 (by omega) (by omega)]; simp
    have hbit2 : ∀ q, (v ||| b2n (bitC b (at_ + i)) * 2 ^ i).testBit q = (decide (q < i + 1) && bitC b (at_ + q)) := by
      intro q
      rw [Nat.testBit_or, hbits, b2n_shift]
      by_cases c1 : q < i
      · have c2 : q < i + 1 := by omega
        have c3 : q ≠ i := by omega
        simp [c1, c2, c3]
      · by_cases c3 : q = i
        · subst c3; simp
        · have c2 : ¬ q < i + 1 := by omega
          simp [c1, c2, c3]
    obtain ⟨v', h3, h4, h5⟩ := ih f (i + 1) _ (by omega) (by omega) (by omega) (Nat.lt_pow_two_of_testBit _ fun q hq => by
      rw [hbit2]
      have : ¬ q < i + 1 := by omega
      simp [this]) hbit2
    refine ⟨v', (loop_next ?_).trans h3, h4, h5⟩
    unfold rgetS
    exact cnd_t (by simp; omega) (bnd (x := ((at_ + i : Nat) : Int)) (by rw [w]) (bnd hbt (bnd (x := (i : Int)) (by rw [wi]) (bnd shl (bnd (x := ((v ||| b2n (bitC b (at_ + i)) * 2 ^ i : Nat) : Int)) (by rw [hor]) (bnd (x := ((i + 1 : Nat) : Int)) (by rw [w1]) rfl))))))

theorem get_same (b : List Int) (hb : isB b) (hl : b.length ≤ 600) (at_ n : Int) (h64 : -9223372036854775808 ≤ n ∧ n < 9223372036854775808) (h64' : -9223372036854775808 ≤ at_ ∧ at_ < 9223372036854775808) : ∃ r, bits_Get b at_ n = some r ∧ wherryref01_Get b at_ n = some r := by
  have w8 : IntKind.i64.wrap (8 * ((b.length : Nat) : Int)) = ((8 * b.length : Nat) : Int) := by rw [wrap_i64 (by omega) (by omega)]; simp
  unfold bits_Get wherryref01_Get
  by_cases h0 : n < 0
  · exact ⟨(0, 0, 1), bndL (s := true) (cnd_t (by simpa using h0) rfl) (cnd_t rfl rfl), bndL (s := true) (bnd (in_eqb _ _ _) (cnd_t (by simp; omega) rfl)) (cnd_t rfl rfl)⟩
  by_cases h1 : 24 < n
  · exact ⟨(0, 0, 1), bndL (s := true) (cnd_f (by simpa using h0) (cnd_t (by simpa using h1) rfl)) (cnd_t rfl rfl), bndL (s := true) (bnd (in_eqb _ _ _) (cnd_t (by simp; omega) rfl)) (cnd_t rfl rfl)⟩
  by_cases h2 : at_ < 0
  · refine ⟨(0, 0, 1), bndL (s := true) (cnd_f (by simpa using h0) (cnd_f (by simpa using h1) (cnd_t (by simpa using h2) rfl))) (cnd_t rfl rfl), bndL (s := true) (bnd (in_eqb _ _ _) (cnd_f (by simp; omega) (bnd (x := ((8 * b.length : Nat) : Int)) (by rw [w8]) (bnd (in_eqb _ _ _) ?_)))) (cnd_t rfl rfl)⟩
    have : (!(decide (0 ≤ at_) && decide (at_ ≤ ((8 * b.length : Nat) : Int)))) = true := by simp; omega
    rw [this]
  by_cases h3 : ((8 * b.length : Nat) : Int) < at_
  · refine ⟨(0, 0, 1), bndL (s := true) (cnd_f (by simpa using h0) (cnd_f (by simpa using h1) (cnd_f (by simpa using h2) (bnd (x := ((8 * b.length : Nat) : Int)) (by rw [w8]) ?_)))) (cnd_t rfl rfl), bndL (s := true) (bnd (in_eqb _ _ _) (cnd_f (by simp; omega) (bnd (x := ((8 * b.length : Nat) : Int)) (by rw [w8]) (bnd (in_eqb _ _ _) ?_)))) (cnd_t rfl rfl)⟩
    · rw [decide_eq_true h3]
    · have : (!(decide (0 ≤ at_) && decide (at_ ≤ ((8 * b.length : Nat) : Int)))) = true := by simp; omega
      rw [this]
  obtain ⟨N, rfl⟩ : ∃ N : Nat, n = (N : Int) := ⟨n.toNat, by omega⟩
  obtain ⟨A, rfl⟩ : ∃ A : Nat, at_ = (A : Int) := ⟨at_.toNat, by omega⟩
  have wA : IntKind.i64.wrap ((A : Int) + (N : Int)) = ((A + N : Nat) : Int) := by rw [wrap_i64 (by omega) (by omega)]; simp
  have wB : IntKind.i64.wrap (((8 * b.length : Nat) : Int) - (A : Int)) = ((8 * b.length - A : Nat) : Int) := by rw [wrap_i64 (by omega) (by omega)]; omega
  have in3 : (!(decide (0 ≤ (A : Int)) && decide ((A : Int) ≤ ((8 * b.length : Nat) : Int)))) = false := by simp; omega
  have d3 : decide (((8 * b.length : Nat) : Int) < (A : Int)) = false := by simpa using h3
  by_cases h4 : 8 * b.length < A + N
  · refine ⟨(0, 0, 3), bndL (s := false) (cnd_f (by simp) (cnd_f (by simpa using h1) (cnd_f (by simp) (bnd (x := ((8 * b.length : Nat) : Int)) (by rw [w8]) ?_)))) (cnd_f rfl (bnd (x := ((A + N : Nat) : Int)) (by rw [wA]) (bnd (x := ((8 * b.length : Nat) : Int)) (by rw [w8]) (cnd_t (by simp; omega) rfl)))),
      bndL (s := false) (bnd (in_eqb _ _ _) (cnd_f (by simp; omega) (bnd (x := ((8 * b.length : Nat) : Int)) (by rw [w8]) (bnd (in_eqb _ _ _) ?_)))) (cnd_f rfl (bnd (x := ((8 * b.length : Nat) : Int)) (by rw [w8]) (bnd (x := ((8 * b.length - A : Nat) : Int)) (by rw [wB]) (cnd_t (by simp; omega) rfl))))⟩
    · rw [d3]
    · rw [in3]
  obtain ⟨all, g1, g2, g3⟩ := get_loop b hb hl A N (by omega) (by omega) ((A + N + 7) / 8 - A / 8) BIG (A / 8) 0 rfl (Nat.le_refl _) (by omega) (by unfold BIG; omega) (by rw [Nat.sub_self]; decide) (fun q => by simp)
  obtain ⟨v, k1, k2, k3⟩ := rget_loop b hb hl A N (by omega) (by omega) N BIG 0 0 rfl (Nat.zero_le _) (by unfold BIG; omega) (by decide) (fun q => by simp)
  have q8 := quo_nat A 8 (by omega) (by omega)
  have r8 := rem_nat A 8 (by omega)
  rw [show ((8 : Nat) : Int) = 8 from rfl] at q8 r8
  have hp : 2 ^ N ≤ 2 ^ 24 := Nat.pow_le_pow_right (by omega) (by omega)
  have hp0 := Nat.two_pow_pos N
  have e24 : (2 : Nat) ^ 24 = 16777216 := by decide
  have shl := shl_u32 1 N (by omega) (by omega)
  rw [Nat.one_mul] at shl
  have wm : IntKind.u32.wrap (((2 ^ N : Nat) : Int) - 1) = ((2 ^ N - 1 : Nat) : Int) := by
    generalize 2 ^ N = Y at *
    rw [wrap_u32c (by omega) (by omega)]; omega
  have hm8 : A % 8 < 8 := Nat.mod_lt _ (by omega)
  have shr := shr_nat .u32 all (A % 8) (by simp only [IntKind.bits]; omega)
  have hand : bits .and .u32 ((all / 2 ^ (A % 8) : Nat) : Int) ((2 ^ N - 1 : Nat) : Int) = (v : Int) := by
    have hle : all / 2 ^ (A % 8) ≤ all := Nat.div_le_self _ _
    rw [and_u32n _ _ (by omega) (by omega)]
    congr 1
    apply Nat.eq_of_testBit_eq
    intro q
    rw [Nat.testBit_and, Nat.testBit_two_pow_sub_one, Nat.testBit_div_two_pow, k3]
    by_cases c : q < N
    · rw [g3 (q + A % 8) (by omega), show 8 * (A / 8) + (q + A % 8) = A + q by omega]
      simp [c]
    · simp [c]
  have wv : IntKind.i64.wrap (v : Int) = (v : Int) := wrap_i64 (by omega) (by omega)
  refine ⟨((v : Int), ((A + N : Nat) : Int), 0), ?_, ?_⟩
  · refine bndL (s := false) (cnd_f (by simp) (cnd_f (by simpa using h1) (cnd_f (by simp) (bnd (x := ((8 * b.length : Nat) : Int)) (by rw [w8]) (by rw [d3]))))) (cnd_f rfl (bnd (x := ((A + N : Nat) : Int)) (by rw [wA]) (bnd (x := ((8 * b.length : Nat) : Int)) (by rw [w8]) (cnd_f (by simp; omega) (bnd q8 (bndL g1 ?_))))))
    exact bnd shl (bnd (x := ((2 ^ N - 1 : Nat) : Int)) (by rw [wm]) (bnd r8 (bnd shr (bnd (x := (v : Int)) (by rw [hand]) (bnd (x := (v : Int)) (by rw [wv]) (bnd (x := ((A + N : Nat) : Int)) (by rw [wA]) rfl))))))
  · exact bndL (s := false) (bnd (in_eqb _ _ _) (cnd_f (by simp; omega) (bnd (x := ((8 * b.length : Nat) : Int)) (by rw [w8]) (bnd (in_eqb _ _ _) (by rw [in3]))))) (cnd_f rfl (bnd (x := ((8 * b.length : Nat) : Int)) (by rw [w8]) (bnd (x := ((8 * b.length - A : Nat) : Int)) (by rw [wB]) (cnd_f (by simp; omega) (bndL k1 (bnd (x := ((A + N : Nat) : Int)) (by rw [wA]) rfl))))))

theorem rturn_loop (V n : Nat) (hn : n ≤ 24) (hV : V < 2 ^ n) : ∀ (k fuel t r : Nat), n - t = k → t ≤ n → k < fuel → r < 2 ^ t → (∀ i, i < t → r.testBit i = V.testBit (t - 1 - i)) →
    ∃ r' : Nat, loopF (rturnS (V : Int) (n : Int)) fuel ((r : Int), (t : Int)) = some (.inl (r' : Int)) ∧ r' < 2 ^ n ∧ ∀ i, i < n → r'.testBit i = V.testBit (n - 1 - i) := by
  intro k
  induction k with
  | zero =>
    intro fuel t r hk ht hf hr hb
    obtain ⟨f, rfl⟩ : ∃ f, fuel = f + 1 := ⟨fuel - 1, by omega⟩
    have e : t = n := by omega
    subst e
    refine ⟨r, loop_exit ?_, hr, hb⟩
    unfold rturnS
    exact cnd_f (by simp) rfl
  | succ k ih =>
    intro fuel t r hk ht hf hr hb
    obtain ⟨f, rfl⟩ : ∃ f, fuel = f + 1 := ⟨fuel - 1, by omega⟩
    have hp : 2 ^ t ≤ 2 ^ 24 := Nat.pow_le_pow_right (by omega) (by omega)
    have hpn : 2 ^ n ≤ 2 ^ 24 := Nat.pow_le_pow_right (by omega) (by omega)
    have e24 : (2 : Nat) ^ 24 = 16777216 := by decide
    have sh := shl_nat r 1 (by omega) (by omega)
    rw [Nat.pow_one, show ((1 : Nat) : Int) = 1 from rfl] at sh
    have wt : IntKind.u64.wrap (t : Int) = (t : Int) := wrap_u64n (by omega) (by omega)
    have shr := shr_nat .i64 V t (by simp only [IntKind.bits]; omega)
    have hdl : V / 2 ^ t ≤ V := Nat.div_le_self _ _
    have a1 : bits .and .i64 ((V / 2 ^ t : Nat) : Int) 1 = ((b2n (V.testBit t) : Nat) : Int) := by
      rw [← b2n_bit]
      generalize V / 2 ^ t = y at *
      exact and1_i64 y (by omega)
    have hb2 := b2n_lt (V.testBit t)
    have hadd := Nat.shiftLeft_add_eq_or_of_lt (a := r) (b := b2n (V.testBit t)) (i := 1) (by omega)
    rw [Nat.shiftLeft_eq, Nat.pow_one] at hadd
    have hor := or_i64n (r * 2) (b2n (V.testBit t)) (by omega) (by omega)
    rw [← hadd] at hor
    have w1 : IntKind.i64.wrap ((t : Int) + 1) = ((t + 1 : Nat) : Int) := by rw [wrap_i64 (by omega) (by omega)]; simp
    obtain ⟨r', h1, h2, h3⟩ := ih f (t + 1) (r * 2 + b2n (V.testBit t)) (by omega) (by omega) (by omega) (by rw [Nat.pow_succ]; omega) (fun i hi => by
      cases i with
      | zero =>
        rw [Nat.testBit_zero, show t + 1 - 1 - 0 = t by omega]
        cases hv : V.testBit t <;> simp [b2n] <;> omega
      | succ i =>
        rw [Nat.testBit_succ, show (r * 2 + b2n (V.testBit t)) / 2 = r by omega, hb i (by omega)]
        congr 1; omega)
    refine ⟨r', (loop_next ?_).trans h1, h2, h3⟩
    unfold rturnS
    exact cnd_t (by simp; omega) (bnd sh (bnd (x := (t : Int)) (by rw [wt]) (bnd shr (bnd (x := ((b2n (V.testBit t) : Nat) : Int)) (by rw [a1]) (bnd (x := ((r * 2 + b2n (V.testBit t) : Nat) : Int)) (by rw [hor]) (bnd (x := ((t + 1 : Nat) : Int)) (by rw [w1]) rfl))))))

theorem turn_same (v n : Int) (hv : -9223372036854775808 ≤ v ∧ v < 9223372036854775808) : ∃ r, bits_Turn v n = some r ∧ wherryref01_Turn v n = some r := by
  obtain ⟨f, h1, h2, h3⟩ := fits_both v n hv.1 hv.2
  cases f with
  | false =>
    refine ⟨(0, 1), ?_, ?_⟩
    · unfold bits_Turn; exact bnd h1 (cnd_t rfl rfl)
    · unfold wherryref01_Turn; exact bnd h2 (cnd_t rfl rfl)
  | true =>
    obtain ⟨V, M, rfl, rfl, hM, hV⟩ := h3 rfl
    obtain ⟨r, t1, t2, t3⟩ := turn_eq V M hM hV
    obtain ⟨r', k1, k2, k3⟩ := rturn_loop V M hM hV M BIG 0 0 rfl (Nat.zero_le _) (by unfold BIG; omega) (by decide) (fun i hi => by omega)
    have e : r' = r := by
      apply Nat.eq_of_testBit_eq
      intro i
      by_cases hi : i < M
      · rw [k3 i hi, t3 i hi]
      · rw [Nat.testBit_lt_two_pow (Nat.lt_of_lt_of_le k2 (Nat.pow_le_pow_right (by omega) (by omega))), Nat.testBit_lt_two_pow (Nat.lt_of_lt_of_le t2 (Nat.pow_le_pow_right (by omega) (by omega)))]
    subst e
    refine ⟨((r' : Int), 0), t1, ?_⟩
    unfold wherryref01_Turn
    refine bnd h2 (cnd_f rfl (bnd (x := (r' : Int)) ?_ rfl))
    unfold wherryref01_turn
    exact bndL k1 rfl

theorem bits_wakes : wherrylaw01_wakes = some true := by kernel_rfl
end Go.Abs.Sh
