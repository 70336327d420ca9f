import Derived.Test.YtiopoaenpajlmaaLawM
import Derived.Test.YtiopoaenpajlmaaBitM
namespace Go.Abs.Sh
set_option linter.unusedVariables false
set_option linter.unusedSimpArgs false

theorem shl_nat (a k : Nat) (hk : k ≤ 64) (h : a * 2 ^ k < 9223372036854775808) : shlO .i64 (a : Int) (k : Int) = some ((a * 2 ^ k : Nat) : Int) := by
  simp only [shlO, IntKind.bits]
  rw [if_pos (by omega), Int.toNat_natCast, Nat.min_eq_left hk]
  have e : (a : Int) * 2 ^ k = ((a * 2 ^ k : Nat) : Int) := by push_cast; rfl
  rw [e]
  generalize a * 2 ^ k = y at *
  rw [wrap_i64 (by omega) (by omega)]


def turnS : ((Int × Int × Int)) → Option ((Int × Int × Int) ⊕ ((Int) ⊕ (Int × Int))) := (fun ((s14, s15, s16) : Int × Int × Int) =>
    cond ((decide (0 < s14)))
      ((shlO .u32 s15 1).bind fun v5 =>
      (some (bits .and .u32 s16 1)).bind fun v6 =>
      (some (bits .or .u32 v5 v6)).bind fun v7 =>
      (shrO .u32 s16 1).bind fun v8 =>
      (some (IntKind.i64.wrap (s14 - 1))).bind fun v9 =>
      some (.inl (v9, v7, v8)))
      (some (.inr (.inl s15))))
def putS : (((List Int) × Int × Int)) → Option (((List Int) × Int × Int) ⊕ (((List Int)) ⊕ (T_Bits × Int))) := (fun ((s28, s29, s30) : (List Int) × Int × Int) =>
        cond ((decide (s30 < (s28.length : Int))))
          ((ixO s30 s28.length).bind fun v16 =>
          (getO s28 v16).bind fun v17 =>
          (some (IntKind.u8.wrap s29)).bind fun v18 =>
          (some (bits .or .u8 v17 v18)).bind fun v19 =>
          (ixO s30 s28.length).bind fun v20 =>
          (some (s28.set v20 v19)).bind fun v21 =>
          (shrO .u32 s29 8).bind fun v22 =>
          (some (IntKind.i64.wrap (s30 + 1))).bind fun v23 =>
          some (.inl (v21, v22, v23)))
          (some (.inr (.inl s28))))

def isB (l : List Int) : Prop := ∀ n ∈ l, 0 ≤ n ∧ n < 256
def bitC (l : List Int) (q : Nat) : Bool := (l.getD (q / 8) 0).toNat.testBit (q % 8)
/-- A right row of bits. -/
structure Good (B : List Int) (N : Nat) : Prop where
  len : B.length = (N + 7) / 8
  bytes : isB B
  zero : ∀ q, N ≤ q → bitC B q = false

theorem wrap_u32c {n : Int} (h0 : 0 ≤ n) (h1 : n < 4294967296) : IntKind.u32.wrap n = n := by
  simp only [IntKind.wrap, IntKind.bits, IntKind.signed]
  have e : (2 : Int) ^ 32 = 4294967296 := by decide
  simp only [e, Bool.false_and, Bool.false_eq_true, if_false]
  omega
theorem ofInt32 (a : Nat) (ha : a < 4294967296) : (BitVec.ofInt 32 (a : Int)).toNat = a := by
  rw [BitVec.ofInt_natCast, BitVec.toNat_ofNat]; exact Nat.mod_eq_of_lt (by omega)
theorem and1_u32 (a : Nat) (ha : a < 4294967296) : bits .and .u32 (a : Int) 1 = ((a % 2 : Nat) : Int) := by
  show IntKind.u32.wrap ((BitVec.ofInt 32 (a : Int) &&& BitVec.ofInt 32 ((1 : Nat) : Int)).toNat : Int) = _
  rw [BitVec.toNat_and, ofInt32 a ha, ofInt32 1 (by omega), Nat.and_one_is_mod, wrap_u32c (by omega) (by omega)]
theorem or_u32 (c x : Nat) (hc : c < 1000000000) (hx : x < 2) : bits .or .u32 ((2 * c : Nat) : Int) (x : Int) = ((2 * c + x : Nat) : Int) := by
  have h := Nat.shiftLeft_add_eq_or_of_lt (a := c) (b := x) (i := 1) (by omega)
  rw [Nat.shiftLeft_eq, Nat.pow_one, Nat.mul_comm] at h
  show IntKind.u32.wrap ((BitVec.ofInt 32 ((2 * c : Nat) : Int) ||| BitVec.ofInt 32 (x : Int)).toNat : Int) = _
  rw [BitVec.toNat_or, ofInt32 _ (by omega), ofInt32 _ (by omega), ← h, wrap_u32c (by omega) (by omega)]
theorem shl_u32 (a k : Nat) (hk : k ≤ 32) (h : a * 2 ^ k < 4294967296) : shlO .u32 (a : Int) (k : Int) = some ((a * 2 ^ k : Nat) : Int) := by
  simp only [shlO, IntKind.bits]
  rw [if_pos (by omega), Int.toNat_natCast, Nat.min_eq_left hk]
  have e : (a : Int) * 2 ^ k = ((a * 2 ^ k : Nat) : Int) := by push_cast; rfl
  rw [e]
  generalize a * 2 ^ k = y at *
  rw [wrap_u32c (by omega) (by omega)]
theorem or_u8 (a b : Nat) (ha : a < 256) (hb : b < 256) : bits .or .u8 (a : Int) (b : Int) = ((a ||| b : Nat) : Int) := by
  have hx : a ||| b < 2 ^ 8 := Nat.or_lt_two_pow (by omega) (by omega)
  show IntKind.u8.wrap ((BitVec.ofInt 8 (a : Int) ||| BitVec.ofInt 8 (b : Int)).toNat : Int) = _
  rw [BitVec.toNat_or, ofInt8 a ha, ofInt8 b hb, wrap_u8']; omega

theorem fits_eq (v n : Nat) (hn : n ≤ 24) (hv : v < 2 ^ n) : bits_fits (v : Int) (n : Int) = some true := by
  have hp : 2 ^ n ≤ 2 ^ 24 := Nat.pow_le_pow_right (by omega) hn
  have e : (2 : Nat) ^ 24 = 16777216 := by decide
  have sh := shl_nat 1 n (by omega) (by omega)
  rw [Nat.one_mul] at sh
  unfold bits_fits
  refine bndL (s := true) (cnd_t (by simp) (cnd_t (by simp; omega) (cnd_t (by simp) (bnd sh ?_)))) rfl
  rw [decide_eq_true (by omega)]

theorem turn_loop (v n : Nat) (hn : n ≤ 24) (hv : v < 2 ^ n) : ∀ (k fuel t r : Nat), n - t = k → t ≤ n → k < fuel → r < 2 ^ t → (∀ i, i < t → r.testBit i = v.testBit (t - 1 - i)) →
    ∃ r' : Nat, loopF turnS fuel (((n - t : Nat) : Int), (r : Int), ((v / 2 ^ t : Nat) : Int)) = some (.inl (r' : Int)) ∧ r' < 2 ^ n ∧ ∀ i, i < n → r'.testBit i = v.testBit (n - 1 - i) := by
  have hp : 2 ^ n ≤ 2 ^ 24 := Nat.pow_le_pow_right (by omega) hn
  have e24 : (2 : Nat) ^ 24 = 16777216 := by decide
  intro k
  induction k with
  | zero =>
    intro fuel t r hk ht hf hr hb
    obtain ⟨f, rfl⟩ : ∃ f, fuel = f + 1 := ⟨fuel - 1, by omega⟩
    have : t = n := by omega
    subst this
    refine ⟨r, loop_exit ?_, hr, hb⟩
    unfold turnS
    exact cnd_f (by simp) rfl
  | succ k ih =>
    intro fuel t r hk ht hf hr hb
    obtain ⟨f, rfl⟩ : ∃ f, fuel = f + 1 := ⟨fuel - 1, by omega⟩
    have hp2 : 2 ^ t ≤ 2 ^ 24 := Nat.pow_le_pow_right (by omega) (by omega)
    have hvt : v / 2 ^ t < 4294967296 := Nat.lt_of_le_of_lt (Nat.div_le_self _ _) (by omega)
    have sh := shl_u32 r 1 (by omega) (by omega)
    rw [Nat.pow_one, Nat.mul_comm, show ((1 : Nat) : Int) = 1 from rfl] at sh
    have hy : v / 2 ^ t % 2 < 2 := Nat.mod_lt _ (by omega)
    have hor := or_u32 r (v / 2 ^ t % 2) (by omega) hy
    have hsr := shr_nat .u32 (v / 2 ^ t) 1 (by decide)
    rw [Nat.pow_one, Nat.div_div_eq_div_mul, ← Nat.pow_succ, show ((1 : Nat) : Int) = 1 from rfl] at hsr
    have w : IntKind.i64.wrap (((n - t : Nat) : Int) - 1) = ((n - (t + 1) : Nat) : Int) := by rw [wrap_i64 (by omega) (by omega)]; omega
    have hand := and1_u32 _ hvt
    have hbit : ∀ i, i < t + 1 → (2 * r + v / 2 ^ t % 2).testBit i = v.testBit (t + 1 - 1 - i) := by
      intro i hi
      have h1 : 2 * r + v / 2 ^ t % 2 = 2 ^ 1 * r + v / 2 ^ t % 2 := by rw [Nat.pow_one]
      rw [h1, Nat.testBit_two_pow_mul_add _ (by omega)]
      by_cases h0 : i < 1
      · have : i = 0 := by omega
        subst this
        rw [if_pos h0, Nat.testBit_eq_decide_div_mod_eq (x := v)]
        simp [Nat.testBit_zero]
      · rw [if_neg h0, hb (i - 1) (by omega)]
        congr 1; omega
    have hr2 : 2 * r + v / 2 ^ t % 2 < 2 ^ (t + 1) := by rw [Nat.pow_succ]; omega
    obtain ⟨r', h1, h2, h3⟩ := ih f (t + 1) (2 * r + v / 2 ^ t % 2) (by omega) (by omega) (by omega) hr2 hbit
    refine ⟨r', (loop_next ?_).trans h1, h2, h3⟩
    unfold turnS
    exact cnd_t (by simp; omega) (bnd sh (bnd (x := ((v / 2 ^ t % 2 : Nat) : Int)) (by rw [hand]) (bnd (x := ((2 * r + v / 2 ^ t % 2 : Nat) : Int)) (by rw [hor]) (bnd hsr (bnd (x := ((n - (t + 1) : Nat) : Int)) (by rw [w]) rfl)))))
theorem turn_eq (v n : Nat) (hn : n ≤ 24) (hv : v < 2 ^ n) : ∃ r : Nat, bits_Turn (v : Int) (n : Int) = some ((r : Int), 0) ∧ r < 2 ^ n ∧ ∀ i, i < n → r.testBit i = v.testBit (n - 1 - i) := by
  have hp : 2 ^ n ≤ 2 ^ 24 := Nat.pow_le_pow_right (by omega) hn
  have e24 : (2 : Nat) ^ 24 = 16777216 := by decide
  obtain ⟨r, h1, h2, h3⟩ := turn_loop v n hn hv n BIG 0 0 (by omega) (Nat.zero_le _) (by unfold BIG; omega) (by simp) (by omega)
  rw [Nat.sub_zero, Nat.pow_zero, Nat.div_one] at h1
  refine ⟨r, ?_, h2, h3⟩
  unfold bits_Turn
  have w1 : IntKind.u32.wrap (v : Int) = (v : Int) := wrap_u32c (by omega) (by omega)
  have w2 : IntKind.i64.wrap (r : Int) = (r : Int) := wrap_i64 (by omega) (by omega)
  exact bnd (fits_eq v n hn hv) (cnd_f rfl (bnd (x := (v : Int)) (by rw [w1]) (bndL h1 (bnd (x := (r : Int)) (by rw [w2]) rfl))))

theorem bytesFor_eq (N : Nat) (h : N ≤ 100000) : bits_bytesFor (N : Int) = some (((N + 7) / 8 : Nat) : Int) := by
  unfold bits_bytesFor
  have w : IntKind.i64.wrap ((N : Int) + 7) = ((N + 7 : Nat) : Int) := by rw [wrap_i64 (by omega) (by omega)]; simp
  have q := quo_nat (N + 7) 8 (by omega) (by omega)
  rw [show ((8 : Nat) : Int) = 8 from rfl] at q
  exact bnd (x := ((N + 7 : Nat) : Int)) (by rw [w]) (bnd q rfl)

theorem check_good {B : List Int} {N : Nat} (h : Good B N) (hN : N ≤ 40000) : bits_Check (T_Bits.mk B (N : Int)) = some 0 := by
  unfold bits_Check
  have hb := bytesFor_eq N (by omega)
  have r8 := rem_nat N 8 (by omega)
  rw [show ((8 : Nat) : Int) = 8 from rfl] at r8
  have hl := h.len
  refine bndL (s := false) (cnd_f (by simp) (cnd_f (by simp; omega) (bnd hb ?_))) (cnd_f rfl (bnd r8 ?_))
  · have : (((B.length : Nat) : Int) != (((N + 7) / 8 : Nat) : Int)) = false := by rw [hl]; simp
    exact congrArg some (congrArg Sum.inl this)
  refine bndL (s := false) ?_ (cnd_f rfl rfl)
  by_cases h0 : N % 8 = 0
  · exact cnd_f (by simp [h0]) rfl
  have hlt : B.length - 1 < B.length := by omega
  have w : IntKind.i64.wrap (((B.length : Nat) : Int) - 1) = ((B.length - 1 : Nat) : Int) := by rw [wrap_i64 (by omega) (by omega)]; omega
  have hx := h.bytes _ (List.getElem_mem hlt)
  obtain ⟨x, hxe⟩ : ∃ x : Nat, B[B.length - 1] = (x : Int) := ⟨B[B.length - 1].toNat, by omega⟩
  have hr : N % 8 < 8 := Nat.mod_lt _ (by omega)
  have hxs : x < 2 ^ (N % 8) := by
    refine Nat.lt_pow_two_of_testBit _ fun i hi => ?_
    by_cases h8 : i < 8
    · have := h.zero (8 * (B.length - 1) + i) (by omega)
      simp only [bitC] at this
      rw [show (8 * (B.length - 1) + i) / 8 = B.length - 1 by omega, show (8 * (B.length - 1) + i) % 8 = i by omega] at this
      simpa [List.getD_eq_getElem?_getD, hlt, hxe] using this
    · exact Nat.testBit_lt_two_pow (Nat.lt_of_lt_of_le (show x < 2 ^ 8 by omega) (Nat.pow_le_pow_right (by omega) (by omega)))
  have hsh := shr_nat .u8 x (N % 8) (by simp only [IntKind.bits]; omega)
  rw [Nat.div_eq_of_lt hxs] at hsh
  refine cnd_t (by simp; omega) (bnd (x := ((B.length - 1 : Nat) : Int)) (by rw [← w]) (bnd (ixO_of hlt) (bnd (x := (x : Int)) (by rw [getO_of hlt, hxe]) (bnd hsh rfl))))

theorem bitC_set (s : List Int) (j q : Nat) (x : Int) (hj : j < s.length) : bitC (s.set j x) q = if q / 8 = j then x.toNat.testBit (q % 8) else bitC s q := by
  simp only [bitC, List.getD_eq_getElem?_getD, List.getElem?_set]
  by_cases h : j = q / 8
  · subst h; simp [hj]
  · rw [if_neg h, if_neg (fun e => h e.symm)]

theorem put_loop (X D : Nat) : ∀ (k fuel i : Nat) (s : List Int), s.length - i = k → i ≤ s.length → D ≤ i → k < fuel → s.length ≤ 10000 → isB s → X / 256 ^ (i - D) < 4294967296 →
    ∃ s', loopF putS fuel (s, ((X / 256 ^ (i - D) : Nat) : Int), (i : Int)) = some (.inl s') ∧ s'.length = s.length ∧ isB s' ∧
      ∀ q, q < 8 * s.length → bitC s' q = (bitC s q || (decide (8 * i ≤ q) && X.testBit (q - 8 * D))) := by
  intro k
  induction k with
  | zero =>
    intro fuel i s hk hi hD hf hl hs hX
    obtain ⟨f, rfl⟩ : ∃ f, fuel = f + 1 := ⟨fuel - 1, by omega⟩
    refine ⟨s, loop_exit ?_, rfl, hs, fun q hq => ?_⟩
    · unfold putS; exact cnd_f (by simp; omega) rfl
    · have : ¬ 8 * i ≤ q := by omega
      simp [this]
  | succ k ih =>
    intro fuel i s hk hi hD hf hl hs hX
    obtain ⟨f, rfl⟩ : ∃ f, fuel = f + 1 := ⟨fuel - 1, by omega⟩
    have hlt : i < s.length := by omega
    have hx := hs _ (List.getElem_mem hlt)
    obtain ⟨x, hxe⟩ : ∃ x : Nat, s[i] = (x : Int) := ⟨s[i].toNat, by omega⟩
    have hb : X / 256 ^ (i - D) % 256 < 256 := Nat.mod_lt _ (by omega)
    have hor := or_u8 x (X / 256 ^ (i - D) % 256) (by omega) hb
    have hxo : x ||| (X / 256 ^ (i - D) % 256) < 2 ^ 8 := Nat.or_lt_two_pow (by omega) (by omega)
    have w8 : IntKind.u8.wrap ((X / 256 ^ (i - D) : Nat) : Int) = ((X / 256 ^ (i - D) % 256 : Nat) : Int) := by rw [wrap_u8']; rfl
    have hsr := shr_nat .u32 (X / 256 ^ (i - D)) 8 (by decide)
    rw [show (2 : Nat) ^ 8 = 256 from rfl, Nat.div_div_eq_div_mul, ← Nat.pow_succ, show ((8 : Nat) : Int) = 8 from rfl, show (i - D).succ = i + 1 - D by omega] at hsr
    have w1 : IntKind.i64.wrap ((i : Int) + 1) = ((i + 1 : Nat) : Int) := by rw [wrap_i64 (by omega) (by omega)]; simp
    have hX2 : X / 256 ^ (i + 1 - D) < 4294967296 := by
      rw [show i + 1 - D = (i - D) + 1 by omega, Nat.pow_succ, ← Nat.div_div_eq_div_mul]
      exact Nat.lt_of_le_of_lt (Nat.div_le_self _ _) hX
    obtain ⟨s', h1, h2, h3, h4⟩ := ih f (i + 1) (s.set i ((x ||| (X / 256 ^ (i - D) % 256) : Nat) : Int)) (by rw [List.length_set]; omega) (by rw [List.length_set]; omega) (by omega) (by omega) (by rw [List.length_set]; omega)
      (fun n hn => by
        rcases List.mem_or_eq_of_mem_set hn with h | h
        · exact hs n h
        · omega) hX2
    refine ⟨s', (loop_next ?_).trans h1, by rw [h2, List.length_set], h3, fun q hq => ?_⟩
    · unfold putS
      exact cnd_t (by simp; omega) (bnd (ixO_of hlt) (bnd (x := (x : Int)) (by rw [getO_of hlt, hxe]) (bnd (x := ((X / 256 ^ (i - D) % 256 : Nat) : Int)) (by rw [w8]) (bnd (x := ((x ||| (X / 256 ^ (i - D) % 256) : Nat) : Int)) (by rw [hor]) (bnd (ixO_of hlt) (bnd rfl (bnd hsr (bnd (x := ((i + 1 : Nat) : Int)) (by rw [w1]) rfl))))))))
    · rw [h4 q (by rw [List.length_set]; exact hq), bitC_set s i q _ hlt]
      by_cases h8 : q / 8 = i
      · have hbx : bitC s q = x.testBit (q % 8) := by simp [bitC, List.getD_eq_getElem?_getD, h8, hlt, hxe]
        have e1 : ¬ 8 * (i + 1) ≤ q := by omega
        have e2 : 8 * i ≤ q := by omega
        rw [if_pos h8, Int.toNat_natCast, Nat.testBit_or, hbx]
        have e3 : (X / 256 ^ (i - D) % 256).testBit (q % 8) = X.testBit (q - 8 * D) := by
          have e256 : (256 : Nat) = 2 ^ 8 := rfl
          rw [e256, ← Nat.pow_mul, Nat.testBit_mod_two_pow, Nat.testBit_div_two_pow]
          have : q % 8 < 8 := Nat.mod_lt _ (by omega)
          rw [decide_eq_true this, Bool.true_and]
          congr 1; omega
        simp [e1, e2, e3]
      · rw [if_neg h8]
        have e1 : decide (8 * (i + 1) ≤ q) = decide (8 * i ≤ q) := by
          by_cases h : 8 * i ≤ q
          · have : 8 * (i + 1) ≤ q := by omega
            simp [h, this]
          · have : ¬ 8 * (i + 1) ≤ q := by omega
            simp [h, this]
        rw [e1]

theorem put_eq {B : List Int} {N : Nat} (h : Good B N) (v n : Nat) (hn : n ≤ 24) (hv : v < 2 ^ n) (hN : N + n ≤ 40000) :
    ∃ B', bits_Put (T_Bits.mk B (N : Int)) (v : Int) (n : Int) = some (T_Bits.mk B' ((N + n : Nat) : Int), 0) ∧ Good B' (N + n) ∧ (∀ q, q < N → bitC B' q = bitC B q) ∧ ∀ i, i < n → bitC B' (N + i) = v.testBit i := by
  have hp : 2 ^ n ≤ 2 ^ 24 := Nat.pow_le_pow_right (by omega) hn
  have e24 : (2 : Nat) ^ 24 = 16777216 := by decide
  have hl := h.len
  have wN : IntKind.i64.wrap ((N : Int) + (n : Int)) = ((N + n : Nat) : Int) := by rw [wrap_i64 (by omega) (by omega)]; simp
  have hbf := bytesFor_eq (N + n) (by omega)
  have hmk : mkO 1 (((N + n + 7) / 8 : Nat) : Int) (0 : Int) = some (List.replicate ((N + n + 7) / 8) 0) := by
    simp only [mkO, Int.toNat_natCast]; rw [if_pos (by omega)]
  generalize hZd : copyL (List.replicate ((N + n + 7) / 8) (0 : Int)) B = Z
  have hZ : Z = B ++ List.replicate ((N + n + 7) / 8 - B.length) 0 := by
    rw [← hZd, copyL, List.length_replicate, Nat.min_eq_left (by omega), List.take_length, List.drop_replicate]
  have hZl : Z.length = (N + n + 7) / 8 := by rw [hZ, List.length_append, List.length_replicate]; omega
  have hZb : isB Z := by
    intro x hx
    rw [hZ] at hx
    rcases List.mem_append.1 hx with hx | hx
    · exact h.bytes x hx
    · have := List.eq_of_mem_replicate hx; omega
  have hZbit : ∀ q, bitC Z q = bitC B q := by
    intro q
    simp only [bitC, List.getD_eq_getElem?_getD]
    rw [hZ]
    by_cases hq : q / 8 < B.length
    · rw [List.getElem?_append_left hq]
    · rw [List.getElem?_append_right (by omega), List.getElem?_replicate, List.getElem?_eq_none (l := B) (by omega)]
      split <;> rfl
  have wv : IntKind.u32.wrap (v : Int) = (v : Int) := wrap_u32c (by omega) (by omega)
  have r8 := rem_nat N 8 (by omega)
  have q8 := quo_nat N 8 (by omega) (by omega)
  rw [show ((8 : Nat) : Int) = 8 from rfl] at r8 q8
  have hr : N % 8 < 8 := Nat.mod_lt _ (by omega)
  have hpr : 2 ^ (N % 8) ≤ 2 ^ 7 := Nat.pow_le_pow_right (by omega) (by omega)
  have hX : v * 2 ^ (N % 8) < 4294967296 := by
    have := Nat.mul_le_mul (show v ≤ 16777216 by omega) hpr
    have e7 : (2 : Nat) ^ 7 = 128 := by decide
    omega
  have sh := shl_u32 v (N % 8) (by omega) hX
  obtain ⟨s, h1, h2, h3, h4⟩ := put_loop (v * 2 ^ (N % 8)) (N / 8) (Z.length - N / 8) BIG (N / 8) Z rfl (by omega) (Nat.le_refl _) (by unfold BIG; omega) (by omega) hZb (by rw [Nat.sub_self, Nat.pow_zero, Nat.div_one]; exact hX)
  rw [Nat.sub_self, Nat.pow_zero, Nat.div_one] at h1
  have hXbit : ∀ k, (v * 2 ^ (N % 8)).testBit k = (decide (N % 8 ≤ k) && v.testBit (k - N % 8)) := by
    intro k
    rw [Nat.mul_comm, Nat.testBit_two_pow_mul]
  have hout : ∀ q, 8 * s.length ≤ q → bitC s q = false := by
    intro q hq
    simp only [bitC, List.getD_eq_getElem?_getD]
    rw [List.getElem?_eq_none (by omega)]; simp
  refine ⟨s, ?_, ⟨by rw [h2, hZl], h3, fun q hq => ?_⟩, fun q hq => ?_, fun i hi => ?_⟩
  · unfold bits_Put
    exact bnd (check_good h (by omega)) (cnd_f rfl (bnd (fits_eq v n hn hv) (cnd_f rfl (bnd (x := ((N + n : Nat) : Int)) (by rw [wN]) (cnd_f (by simp; omega) (bnd (x := ((N + n : Nat) : Int)) (by rw [wN]) (bnd hbf (bnd hmk (bnd (x := Z) (by rw [hZd]) (bnd (x := (v : Int)) (by rw [wv]) (bnd r8 (bnd sh (bnd q8 (bndL h1 (bnd (x := ((N + n : Nat) : Int)) (by rw [wN]) rfl)))))))))))))))
  · by_cases hq2 : q < 8 * Z.length
    · rw [h4 q hq2, hZbit, h.zero q (by omega), hXbit]
      have : v.testBit (q - 8 * (N / 8) - N % 8) = false := Nat.testBit_lt_two_pow (Nat.lt_of_lt_of_le hv (Nat.pow_le_pow_right (by omega) (by omega)))
      rw [this]; simp
    · exact hout q (by omega)
  · rw [h4 q (by omega), hZbit, hXbit]
    have : ¬ (8 * (N / 8) ≤ q ∧ N % 8 ≤ q - 8 * (N / 8)) := by omega
    by_cases a1 : 8 * (N / 8) ≤ q
    · have a2 : ¬ N % 8 ≤ q - 8 * (N / 8) := fun h => this ⟨a1, h⟩
      simp [a2]
    · simp [a1]
  · rw [h4 (N + i) (by omega), hZbit, h.zero _ (by omega), hXbit, decide_eq_true (show 8 * (N / 8) ≤ N + i by omega), decide_eq_true (show N % 8 ≤ N + i - 8 * (N / 8) by omega)]
    simp only [Bool.false_or, Bool.true_and]
    congr 1; omega
end Go.Abs.Sh
