import Derived.Test.YtglabbpbianmnaaGreatDoorBunK
namespace Go.Abs.Sh
set_option linter.unusedVariables false
set_option linter.unusedSimpArgs false
set_option maxRecDepth 10000
theorem wrap_u8' (n : Int) : IntKind.u8.wrap n = n % 256 := by
  simp only [IntKind.wrap, IntKind.bits, IntKind.signed]
  have e : (2 : Int) ^ 8 = 256 := by decide
  simp [e]
theorem ofInt8 (a : Nat) (ha : a < 256) : (BitVec.ofInt 8 (a : Int)).toNat = a := by
  rw [BitVec.ofInt_natCast, BitVec.toNat_ofNat]; exact Nat.mod_eq_of_lt (by omega)
theorem ofInt64 (a : Nat) (ha : a < 9223372036854775808) : (BitVec.ofInt 64 (a : Int)).toNat = a := by
  rw [BitVec.ofInt_natCast, BitVec.toNat_ofNat]; exact Nat.mod_eq_of_lt (by omega)
theorem xor_u8 (a b : Nat) (ha : a < 256) (hb : b < 256) : bits .xor .u8 (a : Int) (b : Int) = ((a ^^^ b : Nat) : Int) := by
  have hx : a ^^^ b < 2 ^ 8 := Nat.xor_lt_two_pow (by omega) (by omega)
  show IntKind.u8.wrap ((BitVec.ofInt 8 (a : Int) ^^^ BitVec.ofInt 8 (b : Int)).toNat : Int) = _
  rw [BitVec.toNat_xor, ofInt8 a ha, ofInt8 b hb, wrap_u8']; omega
theorem and1_i64 (a : Nat) (ha : a < 9223372036854775808) : bits .and .i64 (a : Int) 1 = ((a % 2 : Nat) : Int) := by
  show IntKind.i64.wrap ((BitVec.ofInt 64 (a : Int) &&& BitVec.ofInt 64 ((1 : Nat) : Int)).toNat : Int) = _
  rw [BitVec.toNat_and, ofInt64 a ha, ofInt64 1 (by omega), Nat.and_one_is_mod, wrap_i64 (by omega) (by omega)]
theorem shr_nat (k : IntKind) (a m : Nat) (hm : m ≤ k.bits) : shrO k (a : Int) (m : Int) = some ((a / 2 ^ m : Nat) : Int) := by
  simp only [shrO]
  rw [if_pos (by omega), Int.toNat_natCast, Nat.min_eq_left hm]
  have : (0 : Int) ≤ 2 ^ m := Int.pow_nonneg (by omega)
  rw [Int.fdiv_eq_ediv_of_nonneg _ this]
  congr 1
theorem bit_eq (a k : Nat) : (((a / 2 ^ k % 2 : Nat) : Int) == 1) = a.testBit k := by
  rw [Nat.testBit_eq_decide_div_mod_eq]
  by_cases h : a / 2 ^ k % 2 = 1
  · simp [h]
  · simp only [h, decide_false]; rw [beq_eq_false_iff_ne]; omega
theorem wrap_u32 {n : Int} (h0 : 0 ≤ n) (h1 : n < 4294967296) : IntKind.u32.wrap n = n := by
  simp only [IntKind.wrap, IntKind.bits, IntKind.signed]
  have e : (2 : Int) ^ 32 = 4294967296 := by decide
  simp only [e, Bool.false_and, Bool.false_eq_true, if_false]
  omega
theorem u32_ofInt (a : Nat) (ha : a < 4294967296) : (BitVec.ofInt 32 (a : Int)).toNat = a := by
  rw [BitVec.ofInt_natCast, BitVec.toNat_ofNat]; exact Nat.mod_eq_of_lt (by omega)
theorem xor_u32 (a b : Nat) (ha : a < 4294967296) (hb : b < 4294967296) : bits .xor .u32 (a : Int) (b : Int) = ((a ^^^ b : Nat) : Int) := by
  have hx : a ^^^ b < 2 ^ 32 := Nat.xor_lt_two_pow (by omega) (by omega)
  show IntKind.u32.wrap ((BitVec.ofInt 32 (a : Int) ^^^ BitVec.ofInt 32 (b : Int)).toNat : Int) = _
  rw [BitVec.toNat_xor, u32_ofInt a ha, u32_ofInt b hb, wrap_u32 (by omega) (by omega)]
def tab16 : List Nat := [0, 4225, 8450, 12675, 16900, 21125, 25350, 29575, 33800, 38025, 42250, 46475, 50700, 54925, 59150, 63375]
def nib (r : Nat) : Nat := r / 16 ^^^ tab16.getD (r % 16) 0
def byteStep (r x : Nat) : Nat := nib (nib (r ^^^ x))
def short (l : List Nat) : Nat := l.foldl byteStep 65535 ^^^ 65535
def nats (l : List Int) : List Nat := l.map Int.toNat
theorem nats_bytes {l : List Int} (h : ∀ n ∈ l, 0 ≤ n ∧ n < 256) : ∀ x ∈ nats l, x < 256 := by
  intro x hx
  obtain ⟨n, hn, rfl⟩ := List.mem_map.1 hx
  have := h n hn; omega
def s0 (d x : Nat) : Nat := x / 2 ^^^ (if x % 2 = 1 then d else 0)
def sn (d : Nat) : Nat → Nat → Nat
  | 0, x => x
  | n + 1, x => sn d n (s0 d x)
theorem xor_mod2 (a b : Nat) : (a ^^^ b) % 2 = (a % 2 + b % 2) % 2 := by
  have h := Nat.xor_mod_two_pow (a := a) (b := b) (n := 1)
  simp only [Nat.pow_one] at h
  rw [h]
  have h1 : a % 2 = 0 ∨ a % 2 = 1 := by omega
  have h2 : b % 2 = 0 ∨ b % 2 = 1 := by omega
  rcases h1 with h1 | h1 <;> rcases h2 with h2 | h2 <;> rw [h1, h2] <;> rfl
theorem s0_xor (d a b : Nat) : s0 d (a ^^^ b) = s0 d a ^^^ s0 d b := by
  unfold s0
  rw [Nat.xor_div_two, xor_mod2]
  have h1 : a % 2 = 0 ∨ a % 2 = 1 := by omega
  have h2 : b % 2 = 0 ∨ b % 2 = 1 := by omega
  rcases h1 with h1 | h1 <;> rcases h2 with h2 | h2 <;> rw [h1, h2]
  · simp
  · simp [Nat.xor_assoc]
  · simp; rw [Nat.xor_assoc, Nat.xor_assoc, Nat.xor_comm d]
  · simp; rw [Nat.xor_assoc, Nat.xor_comm (b / 2) d, ← Nat.xor_assoc d d, Nat.xor_self, Nat.zero_xor]
theorem sn_xor (d n a b : Nat) : sn d n (a ^^^ b) = sn d n a ^^^ sn d n b := by
  induction n generalizing a b with
  | zero => rfl
  | succ n ih => simp only [sn]; rw [s0_xor, ih]
theorem s0_even (d x : Nat) : s0 d (2 * x) = x := by
  unfold s0; rw [if_neg (by omega), Nat.xor_zero]; omega
theorem sn_shift (d n x : Nat) : sn d n (2 ^ n * x) = x := by
  induction n generalizing x with
  | zero => simp [sn]
  | succ n ih => rw [sn, Nat.pow_succ, Nat.mul_comm (2 ^ n) 2, Nat.mul_assoc, s0_even, ih]
theorem sn_add (d m n x : Nat) : sn d (m + n) x = sn d n (sn d m x) := by
  induction m generalizing x with
  | zero => simp [sn]
  | succ m ih => rw [Nat.succ_add, sn, sn, ih]
theorem s0_lt (d x w : Nat) (hd : d < 2 ^ w) (hx : x < 2 ^ w) : s0 d x < 2 ^ w := by
  unfold s0
  refine Nat.xor_lt_two_pow (by omega) ?_
  split
  · exact hd
  · exact Nat.pow_pos (by omega)
theorem sn_lt (d x w n : Nat) (hd : d < 2 ^ w) (hx : x < 2 ^ w) : sn d n x < 2 ^ w := by
  induction n generalizing x with
  | zero => exact hx
  | succ n ih => exact ih _ (s0_lt d x w hd hx)
theorem xor_add_shift (a b k : Nat) (ha : a < 2 ^ k) : a + 2 ^ k * b = a ^^^ 2 ^ k * b := by
  apply Nat.eq_of_testBit_eq
  intro i
  rw [Nat.testBit_xor, Nat.add_comm, Nat.testBit_two_pow_mul_add _ ha, Nat.testBit_two_pow_mul]
  by_cases hi : i < k
  · have : ¬ (i ≥ k) := by omega
    simp [hi, this]
  · have h2 : k ≤ i := by omega
    have h3 : a.testBit i = false := Nat.testBit_lt_two_pow (Nat.lt_of_lt_of_le ha (Nat.pow_le_pow_right (by omega) h2))
    simp [hi, h2, h3]
theorem xor_zero {a b : Nat} (h : a ^^^ b = 0) : a = b := by
  have : (a ^^^ b) ^^^ b = b := by rw [h, Nat.zero_xor]
  rw [Nat.xor_assoc, Nat.xor_self, Nat.xor_zero] at this
  exact this
theorem s0_inj (d x w : Nat) (hd : 2 ^ w ≤ d) (hx : x < 2 ^ (w + 1)) (h : s0 d x = 0) : x = 0 := by
  unfold s0 at h
  have hp : 2 ^ (w + 1) = 2 * 2 ^ w := by rw [Nat.pow_succ]; omega
  rcases (show x % 2 = 0 ∨ x % 2 = 1 by omega) with h1 | h1
  · rw [if_neg (by omega), Nat.xor_zero] at h; omega
  · rw [if_pos h1] at h
    have := xor_zero h
    omega
theorem sn_inj (d w : Nat) (hd : 2 ^ w ≤ d) (hd2 : d < 2 ^ (w + 1)) : ∀ (n x : Nat), x < 2 ^ (w + 1) → sn d n x = 0 → x = 0
  | 0, x, _, h => h
  | n + 1, x, hx, h => s0_inj d x w hd hx (sn_inj d w hd hd2 n _ (s0_lt d x (w + 1) hd2 hx) h)
def bv : List Nat → Nat
  | [] => 0
  | x :: l => x + 2 ^ 8 * bv l
def reg (d : Nat) (l : List Nat) (r : Nat) : Nat := sn d (8 * l.length) (r ^^^ bv l)
theorem reg_nil (d r : Nat) : reg d [] r = r := by simp [reg, bv, sn]
theorem reg_cons (d r x : Nat) (l : List Nat) (hx : x < 256) : reg d (x :: l) r = reg d l (sn d 8 (r ^^^ x)) := by
  unfold reg
  have h : bv (x :: l) = x ^^^ 2 ^ 8 * bv l := by
    rw [bv, ← xor_add_shift _ _ 8 hx]
  rw [h, List.length_cons, show 8 * (l.length + 1) = 8 + 8 * l.length by omega, sn_add, ← Nat.xor_assoc, sn_xor d 8, sn_shift]
theorem bv_testBit : ∀ (l : List Nat) (q : Nat), (∀ x ∈ l, x < 256) → (bv l).testBit q = (l.getD (q / 8) 0).testBit (q % 8)
  | [], q, _ => by simp [bv]
  | x :: l, q, h => by
    have hx : x < 2 ^ 8 := h x (by simp)
    rw [bv, Nat.add_comm, Nat.testBit_two_pow_mul_add _ hx]
    by_cases hq : q < 8
    · rw [if_pos hq, show q / 8 = 0 by omega, show q % 8 = q by omega]; rfl
    · rw [if_neg hq, bv_testBit l (q - 8) (fun y hy => h y (by simp [hy])), show q / 8 = (q - 8) / 8 + 1 by omega, show (q - 8) % 8 = q % 8 by omega]
      rfl
theorem bv_lt : ∀ (l : List Nat), (∀ x ∈ l, x < 256) → bv l < 2 ^ (8 * l.length)
  | [], _ => by simp [bv]
  | x :: l, h => by
    have hx : x < 256 := h x (by simp)
    have := bv_lt l (fun y hy => h y (by simp [hy]))
    rw [bv, List.length_cons, show 8 * (l.length + 1) = 8 + 8 * l.length by omega, Nat.pow_add]
    have e : (2 : Nat) ^ 8 = 256 := rfl
    rw [e]
    have : 256 * (bv l + 1) ≤ 256 * 2 ^ (8 * l.length) := Nat.mul_le_mul_left _ this
    omega
theorem sn4_split (d r : Nat) : sn d 4 r = r / 16 ^^^ sn d 4 (r % 16) := by
  have h : r = r % 16 ^^^ 2 ^ 4 * (r / 16) := by
    rw [← xor_add_shift _ _ 4 (by omega)]; omega
  conv => lhs; rw [h]
  rw [sn_xor, sn_shift, Nat.xor_comm]
theorem sn8_split (d r : Nat) : sn d 8 r = sn d 4 (sn d 4 r) := sn_add d 4 4 r
theorem shr4' (r : Nat) : shrO .u32 (r : Int) 4 = some ((r / 16 : Nat) : Int) := by
  have := shr_nat .u32 r 4 (by decide)
  rw [show ((4 : Nat) : Int) = 4 from rfl] at this
  rw [this, show (2 : Nat) ^ 4 = 16 from rfl]
def crc (d w : Nat) (l : List Nat) : Nat := reg d l (2 ^ w - 1) ^^^ (2 ^ w - 1)
theorem reg_lt (d w : Nat) (hd : d < 2 ^ w) (hw : 8 ≤ w) : ∀ (l : List Nat) (r : Nat), r < 2 ^ w → (∀ x ∈ l, x < 256) → reg d l r < 2 ^ w
  | [], r, hr, _ => by rw [reg_nil]; exact hr
  | x :: l, r, hr, h => by
    have hx := h x (by simp)
    rw [reg_cons _ _ _ _ hx]
    have h2 : 2 ^ 8 ≤ 2 ^ w := Nat.pow_le_pow_right (by omega) hw
    exact reg_lt d w hd hw l _ (sn_lt d _ w 8 hd (Nat.xor_lt_two_pow hr (by omega))) fun y hy => h y (by simp [hy])
theorem sum_gen (d w : Nat) (T : List Nat) (W D : Int) (hw : 8 ≤ w) (hw2 : w ≤ 32) (hd : d < 2 ^ w) (hl16 : T.length = 16) (htab : sums_table D = some (T.map (fun n : Nat => (n : Int))))
    (hT : ∀ i, i < 16 → T.getD i 0 = sn d 4 i) (hones : ((shlO .u32 1 W).bind fun v => some (IntKind.u32.wrap (v - 1))) = some ((2 ^ w - 1 : Nat) : Int))
    (b : List Int) (hb : ∀ n ∈ b, 0 ≤ n ∧ n < 256) (hl : b.length < 4294967296) : sums_sum b W D = some ((crc d w (nats b) : Nat) : Int) := by
  have hpw : 2 ^ w ≤ 2 ^ 32 := Nat.pow_le_pow_right (by omega) hw2
  have hpw0 : 0 < 2 ^ w := Nat.pow_pos (by omega)
  have h256 : 2 ^ 8 ≤ 2 ^ w := Nat.pow_le_pow_right (by omega) hw
  have e32 : (2 : Nat) ^ 32 = 4294967296 := by decide
  have e8 : (2 : Nat) ^ 8 = 256 := by decide
  have hat : ∀ i, i < 16 → getO (T.map (fun n : Nat => (n : Int))) i = some ((sn d 4 i : Nat) : Int) := by
    intro i hi
    rw [← hT i hi]
    have : i < T.length := by omega
    simp [getO, List.getD, this]
  have hTl : ∀ i, i < 16 → sn d 4 i < 2 ^ w := fun i hi => sn_lt d i w 4 hd (by omega)
  have key : ∀ (k fuel i r : Nat), b.length - i = k → i ≤ b.length → k < fuel → r < 2 ^ w →
      loopF (S := (Int × Int)) (O := (Int) ⊕ Int) (fun ((s25, s26) : Int × Int) =>
      cond ((decide (s26 < (b.length : Int))))
        ((ixO s26 b.length).bind fun v7 =>
        (getO b v7).bind fun v8 =>
        (some (IntKind.u32.wrap v8)).bind fun v9 =>
        (some (bits .xor .u32 s25 v9)).bind fun v10 =>
        (shrO .u32 v10 4).bind fun v11 =>
        (remO v10 16).bind fun v12 =>
        (ixO v12 16).bind fun v13 =>
        (getO (T.map (fun n : Nat => (n : Int))) v13).bind fun v14 =>
        (some (bits .xor .u32 v11 v14)).bind fun v15 =>
        (shrO .u32 v15 4).bind fun v16 =>
        (remO v15 16).bind fun v17 =>
        (ixO v17 16).bind fun v18 =>
        (getO (T.map (fun n : Nat => (n : Int))) v18).bind fun v19 =>
        (some (bits .xor .u32 v16 v19)).bind fun v20 =>
        (some (IntKind.i64.wrap (s26 + 1))).bind fun v21 =>
        some (.inl (v20, v21)))
        (some (.inr (.inl s25)))) fuel ((r : Int), (i : Int)) = some (.inl ((reg d (nats (b.drop i)) r : Nat) : Int)) := by
    intro k
    induction k with
    | zero =>
      intro fuel i r hk hi hf hr
      obtain ⟨f, rfl⟩ : ∃ f, fuel = f + 1 := ⟨fuel - 1, by omega⟩
      have hia : i = b.length := by omega
      subst hia
      refine loop_exit (cnd_f (by simp) ?_)
      rw [List.drop_length, show nats [] = [] from rfl, reg_nil]
    | succ k ih =>
      intro fuel i r hk hi hf hr
      obtain ⟨f, rfl⟩ : ∃ f, fuel = f + 1 := ⟨fuel - 1, by omega⟩
      have hlt : i < b.length := by omega
      have hbi := hb b[i] (List.getElem_mem hlt)
      obtain ⟨x, hx⟩ : ∃ x : Nat, b[i] = (x : Int) := ⟨b[i].toNat, by omega⟩
      have hx256 : x < 256 := by omega
      have hw1 : IntKind.i64.wrap ((i : Int) + 1) = ((i + 1 : Nat) : Int) := by
        rw [wrap_i64 (by omega) (by omega)]; simp
      have a1 : r ^^^ x < 2 ^ w := Nat.xor_lt_two_pow hr (by omega)
      have m1 : (r ^^^ x) % 16 < 16 := Nat.mod_lt _ (by omega)
      have a2 : sn d 4 (r ^^^ x) < 2 ^ w := sn_lt d _ w 4 hd a1
      have m2 : sn d 4 (r ^^^ x) % 16 < 16 := Nat.mod_lt _ (by omega)
      have a3 : sn d 8 (r ^^^ x) < 2 ^ w := sn_lt d _ w 8 hd a1
      have e1 : (r ^^^ x) / 16 ^^^ sn d 4 ((r ^^^ x) % 16) = sn d 4 (r ^^^ x) := (sn4_split d _).symm
      have e2 : sn d 4 (r ^^^ x) / 16 ^^^ sn d 4 (sn d 4 (r ^^^ x) % 16) = sn d 8 (r ^^^ x) := by rw [← sn4_split, sn8_split]
      have hdr : b.drop i = b[i] :: b.drop (i + 1) := List.drop_eq_getElem_cons hlt
      have t1 := hTl _ m1
      have t2 := hTl _ m2
      have r16a := rem_nat (r ^^^ x) 16 (by omega)
      have r16b := rem_nat (sn d 4 (r ^^^ x)) 16 (by omega)
      rw [show ((16 : Nat) : Int) = 16 from rfl] at r16a r16b
      refine (loop_next (cnd_t (by simp; omega) (bnd (ixO_of hlt) (bnd (x := (x : Int)) (by rw [getO_of hlt, hx]) (bnd (x := (x : Int)) (by rw [wrap_u32 (by omega) (by omega)])
        (bnd (x := ((r ^^^ x : Nat) : Int)) (by rw [xor_u32 r x (by omega) (by omega)]) (bnd (shr4' _) (bnd r16a (bnd (ixO_of m1) (bnd (hat _ m1)
        (bnd (x := ((sn d 4 (r ^^^ x) : Nat) : Int)) (by rw [xor_u32 _ _ (by omega) (by omega), e1]) (bnd (shr4' _) (bnd r16b (bnd (ixO_of m2) (bnd (hat _ m2)
        (bnd (x := ((sn d 8 (r ^^^ x) : Nat) : Int)) (by rw [xor_u32 _ _ (by omega) (by omega), e2]) (bnd (x := ((i + 1 : Nat) : Int)) (by rw [hw1]) rfl))))))))))))))))).trans ?_
      rw [ih f (i + 1) _ (by omega) hlt (by omega) a3, hdr]
      have : nats (b[i] :: b.drop (i + 1)) = x :: nats (b.drop (i + 1)) := by simp [nats, hx]
      rw [this, reg_cons _ _ _ _ hx256]
  have hz : 2 ^ w - 1 < 2 ^ w := by omega
  have hlt := reg_lt d w hd hw (nats b) (2 ^ w - 1) hz (nats_bytes hb)
  have hc : crc d w (nats b) < 2 ^ w := Nat.xor_lt_two_pow hlt hz
  unfold sums_sum
  have l16 : lnO 16 (T.map (fun n : Nat => (n : Int))) = some (T.map (fun n : Nat => (n : Int))) := by simp [lnO, hl16]
  have l0 : lnO 16 (List.replicate 16 (0 : Int)) = some (List.replicate 16 (0 : Int)) := by decide
  obtain ⟨v, hv, hv2⟩ := bind_some hones
  refine bnd htab (bnd l0 (bnd l16 (bnd hv (bnd hv2 ?_))))
  refine bndL (key b.length BIG 0 (2 ^ w - 1) (by omega) (Nat.zero_le _) (by unfold BIG; omega) hz) ?_
  refine bnd (x := ((crc d w (nats b) : Nat) : Int)) (by rw [List.drop_zero, xor_u32 _ _ (by omega) (by omega)]; rfl) (bnd (x := ((crc d w (nats b) : Nat) : Int)) (by rw [wrap_i64 (by omega) (by omega)]) rfl)
def tabL : List Nat := (List.range 16).map (sn 3988292384 4)
theorem tableL : sums_table 3988292384 = some (tabL.map (fun n : Nat => (n : Int))) := by kernel_rfl
theorem long_eq (b : List Int) (hb : ∀ n ∈ b, 0 ≤ n ∧ n < 256) (hl : b.length < 4294967296) : sums_Long b = some ((crc 3988292384 32 (nats b) : Nat) : Int) := by
  unfold sums_Long
  refine bnd (sum_gen 3988292384 32 tabL 32 3988292384 (by omega) (by omega) (by decide) (by decide) tableL ?_ (by decide) b hb hl) rfl
  intro i hi
  have : ∀ i, i < 16 → tabL.getD i 0 = sn 3988292384 4 i := by decide
  exact this i hi
theorem burstG (d w K : Nat) (hd : 2 ^ w ≤ d) (hd2 : d < 2 ^ (w + 1)) (hK : K ≤ w + 1) (a b : List Nat) (F : Nat) (M : Nat) (ha : ∀ x ∈ a, x < 256) (hb : ∀ x ∈ b, x < 256) (hl : a.length = b.length) (hF : F < 8 * a.length) (hK0 : 0 < K) (hM0 : M.testBit 0 = true)
    (h : ∀ q, q < 8 * a.length → (b.getD (q / 8) 0).testBit (q % 8) = ((a.getD (q / 8) 0).testBit (q % 8) ^^ (decide (F ≤ q) && decide (q < F + K) && M.testBit (q - F)))) (r : Nat) :
    reg d a r ≠ reg d b r := by
  intro he
  have hD : ∀ q, (bv a ^^^ bv b).testBit q = (decide (q < 8 * a.length) && (decide (F ≤ q) && decide (q < F + K) && M.testBit (q - F))) := by
    intro q
    by_cases hq : q < 8 * a.length
    · rw [Nat.testBit_xor, bv_testBit a q ha, bv_testBit b q hb, h q hq]
      simp only [hq, decide_true, Bool.true_and]
      cases (a.getD (q / 8) 0).testBit (q % 8) <;> simp
    · have h1 : (bv a).testBit q = false := Nat.testBit_lt_two_pow (Nat.lt_of_lt_of_le (bv_lt a ha) (Nat.pow_le_pow_right (by omega) (by omega)))
      have h2 : (bv b).testBit q = false := Nat.testBit_lt_two_pow (Nat.lt_of_lt_of_le (bv_lt b hb) (Nat.pow_le_pow_right (by omega) (by omega)))
      rw [Nat.testBit_xor, h1, h2]
      simp [hq]
  have hz : sn d (8 * a.length) (bv a ^^^ bv b) = 0 := by
    have e : bv a ^^^ bv b = (r ^^^ bv a) ^^^ (r ^^^ bv b) := by
      rw [Nat.xor_comm r (bv a), Nat.xor_assoc, ← Nat.xor_assoc r r, Nat.xor_self, Nat.zero_xor]
    rw [e, sn_xor]
    unfold reg at he
    rw [he, ← hl, Nat.xor_self]
  generalize hDd : bv a ^^^ bv b = D at *
  have hsplit : D = 2 ^ F * (D / 2 ^ F) := by
    refine Nat.eq_of_testBit_eq fun q => ?_
    rw [Nat.testBit_two_pow_mul, Nat.testBit_div_two_pow]
    by_cases hq : F ≤ q
    · simp [hq]
    · rw [hD q]; simp [hq]
  have hm : D / 2 ^ F < 2 ^ (w + 1) := by
    refine Nat.lt_pow_two_of_testBit _ fun i hi => ?_
    rw [Nat.testBit_div_two_pow, hD]
    have : ¬ i + F < F + K := by omega
    simp [this]
  have hm0 : D / 2 ^ F ≠ 0 := by
    intro h0
    have : (D / 2 ^ F).testBit 0 = true := by
      rw [Nat.testBit_div_two_pow, hD]
      simp [hF, hM0, hK0]
    rw [h0] at this
    simp at this
  apply hm0
  refine sn_inj d w hd hd2 (8 * a.length - F) _ hm ?_
  rw [show 8 * a.length = F + (8 * a.length - F) by omega, sn_add] at hz
  rw [hsplit, sn_shift] at hz
  exact hz
theorem crc_ne {d w : Nat} {a b : List Nat} (h : reg d a (2 ^ w - 1) ≠ reg d b (2 ^ w - 1)) : crc d w a ≠ crc d w b := by
  intro e
  apply h
  unfold crc at e
  have := congrArg (fun n => n ^^^ (2 ^ w - 1)) e
  simpa [Nat.xor_assoc] using this
theorem nats_getD' (l : List Int) (i : Nat) : (nats l).getD i 0 = (l.getD i 0).toNat := by
  simp only [nats, List.getD_eq_getElem?_getD, List.getElem?_map]
  cases l[i]? <;> simp
def bitS (l : List Int) (q : Nat) : Bool := (l.getD (q / 8) 0).toNat.testBit (q % 8)
theorem bitS_set (s : List Int) (j q : Nat) (x : Int) (hj : j < s.length) : bitS (s.set j x) q = if q / 8 = j then x.toNat.testBit (q % 8) else bitS s q := by
  simp only [bitS, List.getD_eq_getElem?_getD, List.getElem?_set]
  by_cases h : j = q / 8
  · subst h; simp [hj]
  · rw [if_neg h, if_neg (fun e => h e.symm)]
theorem bytesS_set {s : List Int} (hs : ∀ n ∈ s, 0 ≤ n ∧ n < 256) (j : Nat) (x : Int) (hx : 0 ≤ x ∧ x < 256) : ∀ n ∈ s.set j x, 0 ≤ n ∧ n < 256 := by
  intro n hn
  rcases List.mem_or_eq_of_mem_set hn with h | h
  · exact hs n h
  · subst h; exact hx
theorem wrap_u64s {n : Int} (h0 : 0 ≤ n) (h1 : n < 18446744073709551616) : IntKind.u64.wrap n = n := by
  simp only [IntKind.wrap, IntKind.bits, IntKind.signed]
  have e : (2 : Int) ^ 64 = 18446744073709551616 := by decide
  simp only [e, Bool.false_and, Bool.false_eq_true, if_false]
  omega
theorem wrap_u64s_nn (n : Int) : 0 ≤ IntKind.u64.wrap n := by
  simp only [IntKind.wrap, IntKind.bits, IntKind.signed]
  have e : (2 : Int) ^ 64 = 18446744073709551616 := by decide
  simp only [e, Bool.false_and, Bool.false_eq_true, if_false]
  omega
theorem shl1_u8s : ∀ r : Nat, r < 8 → shlO .u8 1 (r : Int) = some ((2 ^ r : Nat) : Int) := by decide
theorem or1 (n : Int) (m : Nat) (hm : m < 4294967296) : ∃ M : Nat, bits .or .i64 (bits .and .i64 n (m : Int)) 1 = (M : Int) ∧ M < 4294967296 ∧ M.testBit 0 = true := by
  have e : bits .and .i64 n (m : Int) = (((BitVec.ofInt 64 n).toNat &&& m : Nat) : Int) := by
    show IntKind.i64.wrap ((BitVec.ofInt 64 n &&& BitVec.ofInt 64 (m : Int)).toNat : Int) = _
    have hle := Nat.and_le_right (n := (BitVec.ofInt 64 n).toNat) (m := m)
    rw [BitVec.toNat_and, ofInt64 m (by omega)]
    generalize (BitVec.ofInt 64 n).toNat &&& m = y at *
    rw [wrap_i64 (by omega) (by omega)]
  have hle := Nat.and_le_right (n := (BitVec.ofInt 64 n).toNat) (m := m)
  rw [e]
  generalize (BitVec.ofInt 64 n).toNat &&& m = y at *
  have hy : y < 2 ^ 32 := by omega
  have ho : y ||| 1 < 2 ^ 32 := Nat.or_lt_two_pow hy (by omega)
  refine ⟨y ||| 1, ?_, ho, by simp⟩
  show IntKind.i64.wrap ((BitVec.ofInt 64 (y : Int) ||| BitVec.ofInt 64 ((1 : Nat) : Int)).toNat : Int) = _
  rw [BitVec.toNat_or, ofInt64 y (by omega), ofInt64 1 (by omega)]
  generalize y ||| 1 = z at *
  rw [wrap_i64 (by omega) (by omega)]
end Go.Abs.Sh
