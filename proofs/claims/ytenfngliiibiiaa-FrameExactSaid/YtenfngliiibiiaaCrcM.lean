import Derived.Test.YtenfngliiibiiaaSumsM
namespace Go.Abs.Sh
set_option linter.unusedVariables false
set_option linter.unusedSimpArgs false

/-- One bit is shifted out of a cyclic sum's register. -/
def s0 (d x : Nat) : Nat := x / 2 ^^^ (if x % 2 = 1 then d else 0)
def sn (d : Nat) : Nat → Nat → Nat
  | 0, x => x
  | n + 1, x => sn d n (s0 d x)

theorem xor_mod2 (a b : Nat) : (a ^^^ b) % 2 = (a % 2 + b % 2) % 2 := by
  have h := Nat.xor_mod_two_pow (a := a) (b := b) (n := 1)
  simp only [Nat.pow_one] at h
  rw [h]
  have h1 : a % 2 = 0 ∨ a % 2 = 1 := by omega
  have h2 : b % 2 = 0 ∨ b % 2 = 1 := by omega
  rcases h1 with h1 | h1 <;> rcases h2 with h2 | h2 <;> rw [h1, h2] <;> rfl
theorem s0_xor (d a b : Nat) : s0 d (a ^^^ b) = s0 d a ^^^ s0 d b := by
  unfold s0
  rw [Nat.xor_div_two, xor_mod2]
  have h1 : a % 2 = 0 ∨ a % 2 = 1 := by omega
  have h2 : b % 2 = 0 ∨ b % 2 = 1 := by omega
  rcases h1 with h1 | h1 <;> rcases h2 with h2 | h2 <;> rw [h1, h2]
  · simp
  · simp [Nat.xor_assoc]
  · simp; rw [Nat.xor_assoc, Nat.xor_assoc, Nat.xor_comm d]
  · simp; rw [Nat.xor_assoc, Nat.xor_comm (b / 2) d, ← Nat.xor_assoc d d, Nat.xor_self, Nat.zero_xor]
theorem sn_xor (d n a b : Nat) : sn d n (a ^^^ b) = sn d n a ^^^ sn d n b := by
  induction n generalizing a b with
  | zero => rfl
  | succ n ih => simp only [sn]; rw [s0_xor, ih]
theorem s0_even (d x : Nat) : s0 d (2 * x) = x := by
  unfold s0; rw [if_neg (by omega), Nat.xor_zero]; omega
theorem sn_shift (d n x : Nat) : sn d n (2 ^ n * x) = x := by
  induction n generalizing x with
  | zero => simp [sn]
  | succ n ih => rw [sn, Nat.pow_succ, Nat.mul_comm (2 ^ n) 2, Nat.mul_assoc, s0_even, ih]
theorem sn_add (d m n x : Nat) : sn d (m + n) x = sn d n (sn d m x) := by
  induction m generalizing x with
  | zero => simp [sn]
  | succ m ih => rw [Nat.succ_add, sn, sn, ih]
theorem sn_zero (d n : Nat) : sn d n 0 = 0 := by
  have := sn_shift d n 0
  simpa using this
theorem s0_lt (d x w : Nat) (hd : d < 2 ^ w) (hx : x < 2 ^ w) : s0 d x < 2 ^ w := by
  unfold s0
  refine Nat.xor_lt_two_pow (by omega) ?_
  split
  · exact hd
  · exact Nat.pow_pos (by omega)
theorem sn_lt (d x w n : Nat) (hd : d < 2 ^ w) (hx : x < 2 ^ w) : sn d n x < 2 ^ w := by
  induction n generalizing x with
  | zero => exact hx
  | succ n ih => exact ih _ (s0_lt d x w hd hx)
theorem xor_add_shift (a b k : Nat) (ha : a < 2 ^ k) : a + 2 ^ k * b = a ^^^ 2 ^ k * b := by
  apply Nat.eq_of_testBit_eq
  intro i
  rw [Nat.testBit_xor, Nat.add_comm, Nat.testBit_two_pow_mul_add _ ha, Nat.testBit_two_pow_mul]
  by_cases hi : i < k
  · have : ¬ (i ≥ k) := by omega
    simp [hi, this]
  · have h2 : k ≤ i := by omega
    have h3 : a.testBit i = false := Nat.testBit_lt_two_pow (Nat.lt_of_lt_of_le ha (Nat.pow_le_pow_right (by omega) h2))
    simp [hi, h2, h3]
theorem xor_zero {a b : Nat} (h : a ^^^ b = 0) : a = b := by
  have : (a ^^^ b) ^^^ b = b := by rw [h, Nat.zero_xor]
  rw [Nat.xor_assoc, Nat.xor_self, Nat.xor_zero] at this
  exact this
/-- Nothing but nought is shifted out to nought. -/
theorem s0_inj (d x w : Nat) (hd : 2 ^ w ≤ d) (hx : x < 2 ^ (w + 1)) (h : s0 d x = 0) : x = 0 := by
  unfold s0 at h
  have hp : 2 ^ (w + 1) = 2 * 2 ^ w := by rw [Nat.pow_succ]; omega
  rcases (show x % 2 = 0 ∨ x % 2 = 1 by omega) with h1 | h1
  · rw [if_neg (by omega), Nat.xor_zero] at h; omega
  · rw [if_pos h1] at h
    have := xor_zero h
    omega
theorem sn_inj (d w : Nat) (hd : 2 ^ w ≤ d) (hd2 : d < 2 ^ (w + 1)) : ∀ (n x : Nat), x < 2 ^ (w + 1) → sn d n x = 0 → x = 0
  | 0, x, _, h => h
  | n + 1, x, hx, h => s0_inj d x w hd hx (sn_inj d w hd hd2 n _ (s0_lt d x (w + 1) hd2 hx) h)

/-- Bytes as one number, the first one the lowest. -/
def bv : List Nat → Nat
  | [] => 0
  | x :: l => x + 2 ^ 8 * bv l
def reg (d : Nat) (l : List Nat) (r : Nat) : Nat := sn d (8 * l.length) (r ^^^ bv l)
theorem reg_nil (d r : Nat) : reg d [] r = r := by simp [reg, bv, sn]
theorem reg_cons (d r x : Nat) (l : List Nat) (hx : x < 256) : reg d (x :: l) r = reg d l (sn d 8 (r ^^^ x)) := by
  unfold reg
  have h : bv (x :: l) = x ^^^ 2 ^ 8 * bv l := by
    rw [bv, ← xor_add_shift _ _ 8 hx]
  rw [h, List.length_cons, show 8 * (l.length + 1) = 8 + 8 * l.length by omega, sn_add, ← Nat.xor_assoc, sn_xor d 8, sn_shift]
theorem reg_append (d : Nat) (b : List Nat) : ∀ (a : List Nat) (r : Nat), (∀ x ∈ a, x < 256) → reg d (a ++ b) r = reg d b (reg d a r)
  | [], r, _ => by rw [reg_nil]; rfl
  | x :: a, r, h => by rw [List.cons_append, reg_cons _ _ _ _ (h x (by simp)), reg_cons _ _ _ _ (h x (by simp)), reg_append d b a _ (fun y hy => h y (by simp [hy]))]
theorem bv_testBit : ∀ (l : List Nat) (q : Nat), (∀ x ∈ l, x < 256) → (bv l).testBit q = (l.getD (q / 8) 0).testBit (q % 8)
  | [], q, _ => by simp [bv]
  | x :: l, q, h => by
    have hx : x < 2 ^ 8 := h x (by simp)
    rw [bv, Nat.add_comm, Nat.testBit_two_pow_mul_add _ hx]
    by_cases hq : q < 8
    · rw [if_pos hq, show q / 8 = 0 by omega, show q % 8 = q by omega]; rfl
    · rw [if_neg hq, bv_testBit l (q - 8) (fun y hy => h y (by simp [hy])), show q / 8 = (q - 8) / 8 + 1 by omega, show (q - 8) % 8 = q % 8 by omega]
      rfl
theorem bv_lt : ∀ (l : List Nat), (∀ x ∈ l, x < 256) → bv l < 2 ^ (8 * l.length)
  | [], _ => by simp [bv]
  | x :: l, h => by
    have hx : x < 256 := h x (by simp)
    have := bv_lt l (fun y hy => h y (by simp [hy]))
    rw [bv, List.length_cons, show 8 * (l.length + 1) = 8 + 8 * l.length by omega, Nat.pow_add]
    have e : (2 : Nat) ^ 8 = 256 := rfl
    rw [e]
    have : 256 * (bv l + 1) ≤ 256 * 2 ^ (8 * l.length) := Nat.mul_le_mul_left _ this
    omega
theorem sn4_split (d r : Nat) : sn d 4 r = r / 16 ^^^ sn d 4 (r % 16) := by
  have h : r = r % 16 ^^^ 2 ^ 4 * (r / 16) := by
    rw [← xor_add_shift _ _ 4 (by omega)]; omega
  conv => lhs; rw [h]
  rw [sn_xor, sn_shift, Nat.xor_comm]
theorem sn8_split (d r : Nat) : sn d 8 r = sn d 4 (sn d 4 r) := sn_add d 4 4 r

theorem nib_sn (r : Nat) : nib r = sn 33800 4 r := by
  rw [sn4_split, nib]
  congr 1
  have h : ∀ i, i < 16 → tab16.getD i 0 = sn 33800 4 i := by decide
  exact h _ (Nat.mod_lt _ (by omega))
theorem byteStep_sn (r x : Nat) : byteStep r x = sn 33800 8 (r ^^^ x) := by
  rw [byteStep, nib_sn, nib_sn, sn8_split]
theorem fold_reg : ∀ (l : List Nat) (r : Nat), (∀ x ∈ l, x < 256) → l.foldl byteStep r = reg 33800 l r
  | [], r, _ => by rw [reg_nil]; rfl
  | x :: l, r, h => by
    rw [List.foldl_cons, fold_reg l _ (fun y hy => h y (by simp [hy])), reg_cons _ _ _ _ (h x (by simp)), byteStep_sn]

/-- Bytes with their own sum behind them come to one number. -/
theorem reg_sealed (p : List Nat) (lo hi : Nat) (hp : ∀ x ∈ p, x < 256) (hlo : lo < 256) (hhi : hi < 256) (h : short p = hi * 256 + lo) : reg 33800 (p ++ [lo, hi]) 65535 = sn 33800 16 65535 := by
  rw [reg_append _ _ _ _ hp, ← fold_reg _ _ hp]
  have e : p.foldl byteStep 65535 = (hi * 256 + lo) ^^^ 65535 := by
    rw [← h, short, Nat.xor_assoc, Nat.xor_self, Nat.xor_zero]
  rw [e, reg, show bv [lo, hi] = hi * 256 + lo by simp [bv]; omega]
  rw [show ((hi * 256 + lo) ^^^ 65535) ^^^ (hi * 256 + lo) = 65535 by rw [Nat.xor_comm, ← Nat.xor_assoc, Nat.xor_self, Nat.zero_xor]]
  rfl

/-- Bits side by side, up to sixteen, make another sum. -/
theorem burst (a b : List Nat) (F : Nat) (M : Nat) (ha : ∀ x ∈ a, x < 256) (hb : ∀ x ∈ b, x < 256) (hl : a.length = b.length) (hF : F < 8 * a.length) (hM0 : M.testBit 0 = true)
    (h : ∀ q, q < 8 * a.length → (b.getD (q / 8) 0).testBit (q % 8) = ((a.getD (q / 8) 0).testBit (q % 8) ^^ (decide (F ≤ q) && decide (q < F + 16) && M.testBit (q - F)))) (r : Nat) :
    reg 33800 a r ≠ reg 33800 b r := by
  intro he
  have hD : ∀ q, (bv a ^^^ bv b).testBit q = (decide (q < 8 * a.length) && (decide (F ≤ q) && decide (q < F + 16) && M.testBit (q - F))) := by
    intro q
    by_cases hq : q < 8 * a.length
    · rw [Nat.testBit_xor, bv_testBit a q ha, bv_testBit b q hb, h q hq]
      simp only [hq, decide_true, Bool.true_and]
      cases (a.getD (q / 8) 0).testBit (q % 8) <;> simp
    · have h1 : (bv a).testBit q = false := Nat.testBit_lt_two_pow (Nat.lt_of_lt_of_le (bv_lt a ha) (Nat.pow_le_pow_right (by omega) (by omega)))
      have h2 : (bv b).testBit q = false := Nat.testBit_lt_two_pow (Nat.lt_of_lt_of_le (bv_lt b hb) (Nat.pow_le_pow_right (by omega) (by omega)))
      rw [Nat.testBit_xor, h1, h2]
      simp [hq]
  have hz : sn 33800 (8 * a.length) (bv a ^^^ bv b) = 0 := by
    have e : bv a ^^^ bv b = (r ^^^ bv a) ^^^ (r ^^^ bv b) := by
      rw [Nat.xor_comm r (bv a), Nat.xor_assoc, ← Nat.xor_assoc r r, Nat.xor_self, Nat.zero_xor]
    rw [e, sn_xor]
    unfold reg at he
    rw [he, ← hl, Nat.xor_self]
  generalize hDd : bv a ^^^ bv b = D at *
  have hsplit : D = 2 ^ F * (D / 2 ^ F) := by
    refine Nat.eq_of_testBit_eq fun q => ?_
    rw [Nat.testBit_two_pow_mul, Nat.testBit_div_two_pow]
    by_cases hq : F ≤ q
    · simp [hq]
    · rw [hD q]; simp [hq]
  have hm : D / 2 ^ F < 2 ^ (15 + 1) := by
    refine Nat.lt_pow_two_of_testBit _ fun i hi => ?_
    rw [Nat.testBit_div_two_pow, hD]
    have : ¬ i + F < F + 16 := by omega
    simp [this]
  have hm0 : D / 2 ^ F ≠ 0 := by
    intro h0
    have : (D / 2 ^ F).testBit 0 = true := by
      rw [Nat.testBit_div_two_pow, hD]
      simp [hF, hM0]
    rw [h0] at this
    simp at this
  apply hm0
  refine sn_inj 33800 15 (by decide) (by decide) (8 * a.length - F) _ hm ?_
  rw [show 8 * a.length = F + (8 * a.length - F) by omega, sn_add] at hz
  rw [hsplit, sn_shift] at hz
  exact hz
end Go.Abs.Sh
