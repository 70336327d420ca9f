/-
  Plain numbers: the register of a cyclic sum as a natural number; a text's bits fed at once.
-/
import Derived.Test.YtcghjjldjfghgaaBval
namespace Go.Proofs.Ytcghjjldjfghgaa
open Go.RowKit

/-- one bit is shifted out -/
def s0 (d x : Nat) : Nat := x / 2 ^^^ (if x % 2 = 1 then d else 0)
def sn (d : Nat) : Nat → Nat → Nat
  | 0, x => x
  | n + 1, x => sn d n (s0 d x)

theorem xor_div2 (a b : Nat) : (a ^^^ b) / 2 = a / 2 ^^^ b / 2 := Nat.xor_div_two
theorem xor_mod2 (a b : Nat) : (a ^^^ b) % 2 = (a % 2 + b % 2) % 2 := by
  have h := Nat.xor_mod_two_pow (a := a) (b := b) (n := 1)
  simp only [Nat.pow_one] at h
  rw [h]
  have h1 : a % 2 = 0 ∨ a % 2 = 1 := by omega
  have h2 : b % 2 = 0 ∨ b % 2 = 1 := by omega
  rcases h1 with h1 | h1 <;> rcases h2 with h2 | h2 <;> rw [h1, h2] <;> rfl
theorem s0_xor (d a b : Nat) : s0 d (a ^^^ b) = s0 d a ^^^ s0 d b := by
  unfold s0
  rw [xor_div2, xor_mod2]
  have h1 : a % 2 = 0 ∨ a % 2 = 1 := by omega
  have h2 : b % 2 = 0 ∨ b % 2 = 1 := by omega
  rcases h1 with h1 | h1 <;> rcases h2 with h2 | h2 <;> rw [h1, h2]
  · simp
  · simp [Nat.xor_assoc]
  · simp; rw [Nat.xor_assoc, Nat.xor_assoc, Nat.xor_comm d]
  · simp; rw [Nat.xor_assoc, Nat.xor_comm (b / 2) d, ← Nat.xor_assoc d d, Nat.xor_self, Nat.zero_xor]
theorem sn_xor (d n a b : Nat) : sn d n (a ^^^ b) = sn d n a ^^^ sn d n b := by
  induction n generalizing a b with
  | zero => rfl
  | succ n ih => simp only [sn]; rw [s0_xor, ih]
theorem s0_even (d x : Nat) : s0 d (2 * x) = x := by
  unfold s0; rw [if_neg (by omega), Nat.xor_zero]; omega
theorem sn_shift (d n x : Nat) : sn d n (2 ^ n * x) = x := by
  induction n generalizing x with
  | zero => simp [sn]
  | succ n ih => rw [sn, Nat.pow_succ, Nat.mul_comm (2 ^ n) 2, Nat.mul_assoc, s0_even, ih]
theorem sn_add (d m n x : Nat) : sn d (m + n) x = sn d n (sn d m x) := by
  induction m generalizing x with
  | zero => simp [sn]
  | succ m ih => rw [Nat.succ_add, sn, sn, ih]
theorem sn_zero (d n : Nat) : sn d n 0 = 0 := by
  have := sn_shift d n 0
  simpa using this
theorem s0_lt (d x w : Nat) (hd : d < 2 ^ w) (hx : x < 2 ^ w) : s0 d x < 2 ^ w := by
  unfold s0
  refine Nat.xor_lt_two_pow (by omega) ?_
  split
  · exact hd
  · exact Nat.pow_pos (by omega)
theorem sn_lt (d x w n : Nat) (hd : d < 2 ^ w) (hx : x < 2 ^ w) : sn d n x < 2 ^ w := by
  induction n generalizing x with
  | zero => exact hx
  | succ n ih => exact ih _ (s0_lt d x w hd hx)
theorem xor_add_shift (a b k : Nat) (ha : a < 2 ^ k) : a + 2 ^ k * b = a ^^^ 2 ^ k * b := by
  apply Nat.eq_of_testBit_eq
  intro i
  rw [Nat.testBit_xor, Nat.add_comm, Nat.testBit_two_pow_mul_add _ ha, Nat.testBit_two_pow_mul]
  by_cases hi : i < k
  · have : ¬ (i ≥ k) := by omega
    simp [hi, this]
  · have h2 : k ≤ i := by omega
    have h3 : a.testBit i = false := Nat.testBit_lt_two_pow (Nat.lt_of_lt_of_le ha (Nat.pow_le_pow_right (by omega) h2))
    simp [hi, h2, h3]

/-- the register behind a text -/
def reg (d : Nat) (l : List UInt8) (r : Nat) : Nat := sn d (8 * l.length) (r ^^^ bval l)
theorem reg_nil (d r : Nat) : reg d [] r = r := by simp [reg, bval, sn]
theorem reg_cons (d r : Nat) (x : UInt8) (l : List UInt8) : reg d (x :: l) r = reg d l (sn d 8 (r ^^^ x.toNat)) := by
  unfold reg
  have h : bval (x :: l) = x.toNat ^^^ 2 ^ 8 * bval l := by
    rw [bval, ← xor_add_shift _ _ 8 (by simpa using x.toNat_lt)]
  rw [h, List.length_cons, show 8 * (l.length + 1) = 8 + 8 * l.length by omega, sn_add, ← Nat.xor_assoc, sn_xor d 8, sn_shift]
theorem reg_append (d r : Nat) (a b : List UInt8) : reg d (a ++ b) r = reg d b (reg d a r) := by
  induction a generalizing r with
  | nil => rw [reg_nil]; rfl
  | cons x a ih => rw [List.cons_append, reg_cons, reg_cons, ih]
theorem reg_lt (d r w : Nat) (l : List UInt8) (hd : d < 2 ^ w) (hr : r < 2 ^ w) (hw : 8 ≤ w) : reg d l r < 2 ^ w := by
  induction l generalizing r with
  | nil => rw [reg_nil]; exact hr
  | cons x l ih =>
    rw [reg_cons]
    refine ih _ (sn_lt d _ w 8 hd (Nat.xor_lt_two_pow hr ?_))
    have := x.toNat_lt
    have h2 : 2 ^ 8 ≤ 2 ^ w := Nat.pow_le_pow_right (by omega) hw
    omega
/-- a nibble at a time, by the table -/
theorem sn4_split (d r : Nat) : sn d 4 r = r / 16 ^^^ sn d 4 (r % 16) := by
  have h : r = r % 16 ^^^ 2 ^ 4 * (r / 16) := by
    rw [← xor_add_shift _ _ 4 (by omega)]; omega
  conv => lhs; rw [h]
  rw [sn_xor, sn_shift, Nat.xor_comm]
theorem sn8_split (d r : Nat) : sn d 8 r = sn d 4 (sn d 4 r) := sn_add d 4 4 r
/-- the sum: the register begins as w ones, and is turned about at the end -/
def crc (d w : Nat) (l : List UInt8) : Nat := reg d l (2 ^ w - 1) ^^^ (2 ^ w - 1)
theorem reg_xor (d r s : Nat) (a b : List UInt8) (h : a.length = b.length) (c : List UInt8) (hc : c.length = a.length) (hv : bval c = bval a ^^^ bval b) : reg d c (r ^^^ s) = reg d a r ^^^ reg d b s := by
  unfold reg
  rw [hc, hv, ← h, ← sn_xor]
  congr 1
  rw [Nat.xor_assoc, Nat.xor_assoc]
  congr 1
  rw [← Nat.xor_assoc, Nat.xor_comm s, Nat.xor_assoc]
end Go.Proofs.Ytcghjjldjfghgaa
