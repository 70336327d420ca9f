/-
  Plain numbers: a row of bytes as a number, the lowest byte first; bits of machine words as natural numbers.
-/
import Derived.Laws.BitsAllLaws
import Derived.Laws.BitsLemmas
import Derived.RowKit
namespace Go.Proofs.Ytiopoaenpajlmaa
open Go.RowKit

/-- a row of bytes as a number, the lowest byte first -/
def bval : List UInt8 → Nat
  | [] => 0
  | x :: l => x.toNat + 256 * bval l

theorem pow256 (n : Nat) : 256 ^ n = 2 ^ (8 * n) := by rw [show (256 : Nat) = 2 ^ 8 from rfl, ← Nat.pow_mul]
theorem bval_lt (l : List UInt8) : bval l < 256 ^ l.length := by
  induction l with
  | nil => simp [bval]
  | cons x l ih =>
    have := x.toNat_lt
    simp only [bval, List.length_cons, Nat.pow_succ]
    omega
theorem bval_append (a b : List UInt8) : bval (a ++ b) = bval a + 256 ^ a.length * bval b := by
  induction a with
  | nil => simp [bval]
  | cons x a ih => simp only [List.cons_append, bval, ih, List.length_cons, Nat.pow_succ, Nat.mul_add]; rw [Nat.mul_comm (256 ^ a.length) 256, Nat.mul_assoc]; omega
theorem bval_replicate (n : Nat) : bval (List.replicate n 0) = 0 := by
  induction n with
  | zero => rfl
  | succ n ih => simp [List.replicate_succ, bval, ih]
theorem bval_inj : ∀ (a b : List UInt8), a.length = b.length → bval a = bval b → a = b
  | [], [], _, _ => rfl
  | x :: a, y :: b, hl, h => by
    simp only [bval] at h
    have hx := x.toNat_lt
    have hy := y.toNat_lt
    have h1 : x.toNat = y.toNat := by omega
    have h2 : bval a = bval b := by omega
    rw [UInt8.toNat_inj.mp h1, bval_inj a b (by simpa using hl) h2]
theorem bval_set (l : List UInt8) (k : Nat) (hk : k < l.length) (x : UInt8) : bval (l.set k x) + 256 ^ k * l[k].toNat = bval l + 256 ^ k * x.toNat := by
  induction l generalizing k with
  | nil => simp at hk
  | cons y l ih =>
    cases k with
    | zero => simp [bval]; omega
    | succ k =>
      have hk' : k < l.length := by simpa using hk
      have := ih k hk'
      simp only [List.set_cons_succ, bval, List.getElem_cons_succ, Nat.pow_succ]
      have e1 : 256 ^ k * 256 * l[k].toNat = 256 * (256 ^ k * l[k].toNat) := by rw [Nat.mul_comm (256 ^ k) 256, Nat.mul_assoc]
      have e2 : 256 ^ k * 256 * x.toNat = 256 * (256 ^ k * x.toNat) := by rw [Nat.mul_comm (256 ^ k) 256, Nat.mul_assoc]
      omega
theorem bval_take_drop (l : List UInt8) (k : Nat) (hk : k ≤ l.length) : bval l = bval (l.take k) + 256 ^ k * bval (l.drop k) := by
  conv => lhs; rw [← List.take_append_drop k l]
  rw [bval_append, List.length_take, Nat.min_eq_left hk]
theorem bval_get (l : List UInt8) (k : Nat) (hk : k < l.length) : l[k].toNat = bval l / 256 ^ k % 256 := by
  rw [bval_take_drop l k (by omega), List.drop_eq_getElem_cons hk]
  have h1 := bval_lt (l.take k)
  rw [List.length_take, Nat.min_eq_left (by omega)] at h1
  simp only [bval]
  rw [Nat.add_mul_div_left _ _ (Nat.pow_pos (by omega)), Nat.div_eq_of_lt h1]
  have := (l[k]).toNat_lt
  omega
theorem bval_take (l : List UInt8) (k : Nat) (hk : k ≤ l.length) : bval (l.take k) = bval l % 256 ^ k := by
  rw [bval_take_drop l k hk, Nat.add_mul_mod_self_left]
  have h1 := bval_lt (l.take k)
  rw [List.length_take, Nat.min_eq_left hk] at h1
  rw [Nat.mod_eq_of_lt h1]

/-! machine words -/
theorem pow2_cast (n : Nat) : (2 : Int) ^ n = ((2 ^ n : Nat) : Int) := by simp
theorem i64_ofInt (a : Nat) (ha : a < 9223372036854775808) : (BitVec.ofInt 64 (a : Int)).toNat = a := by
  rw [BitVec.ofInt_natCast, BitVec.toNat_ofNat]; exact Nat.mod_eq_of_lt (by omega)
theorem and_i64 (a b : Nat) (ha : a < 9223372036854775808) (hb : b < 9223372036854775808) : bits .and .i64 (a : Int) (b : Int) = ((a &&& b : Nat) : Int) := by
  have hx : a &&& b < 2 ^ 63 := Nat.and_lt_two_pow _ (by omega)
  show IntKind.i64.wrap ((BitVec.ofInt 64 (a : Int) &&& BitVec.ofInt 64 (b : Int)).toNat : Int) = _
  rw [BitVec.toNat_and, i64_ofInt a ha, i64_ofInt b hb, IntKind.wrap_i64]
  omega
theorem or_i64 (a b : Nat) (ha : a < 9223372036854775808) (hb : b < 9223372036854775808) : bits .or .i64 (a : Int) (b : Int) = ((a ||| b : Nat) : Int) := by
  have hx : a ||| b < 2 ^ 63 := Nat.or_lt_two_pow (by omega) (by omega)
  show IntKind.i64.wrap ((BitVec.ofInt 64 (a : Int) ||| BitVec.ofInt 64 (b : Int)).toNat : Int) = _
  rw [BitVec.toNat_or, i64_ofInt a ha, i64_ofInt b hb, IntKind.wrap_i64]
  omega
theorem xor_i64 (a b : Nat) (ha : a < 9223372036854775808) (hb : b < 9223372036854775808) : bits .xor .i64 (a : Int) (b : Int) = ((a ^^^ b : Nat) : Int) := by
  have hx : a ^^^ b < 2 ^ 63 := Nat.xor_lt_two_pow (by omega) (by omega)
  show IntKind.i64.wrap ((BitVec.ofInt 64 (a : Int) ^^^ BitVec.ofInt 64 (b : Int)).toNat : Int) = _
  rw [BitVec.toNat_xor, i64_ofInt a ha, i64_ofInt b hb, IntKind.wrap_i64]
  omega
/-- any int masked by 2^k - 1 -/
theorem mask_i64 (x : Int) (k : Nat) (hk : k < 63) : bits .and .i64 x ((2 ^ k - 1 : Nat) : Int) = x % 2 ^ k := by
  show IntKind.i64.wrap ((BitVec.ofInt 64 x &&& BitVec.ofInt 64 ((2 ^ k - 1 : Nat) : Int)).toNat : Int) = _
  have hp : 2 ^ k < 2 ^ 63 := Nat.pow_lt_pow_right (by omega) hk
  have hk64 : (2 : Nat) ^ 64 = 2 ^ k * 2 ^ (64 - k) := by rw [← Nat.pow_add]; congr 1; omega
  rw [BitVec.toNat_and, i64_ofInt _ (by omega), Nat.and_two_pow_sub_one_eq_mod, IntKind.wrap_i64]
  have h1 : (BitVec.ofInt 64 x).toNat = (x % 18446744073709551616).toNat := by
    rw [BitVec.toNat_ofInt]; rfl
  rw [h1]
  have h2 : (((x % 18446744073709551616).toNat % 2 ^ k : Nat) : Int) = x % 2 ^ k := by
    have hnn : 0 ≤ x % 18446744073709551616 := Int.emod_nonneg _ (by decide)
    rw [Int.natCast_emod, Int.toNat_of_nonneg hnn, ← pow2_cast]
    have : (18446744073709551616 : Int) = 2 ^ k * 2 ^ (64 - k) := by
      have : ((2 ^ 64 : Nat) : Int) = ((2 ^ k * 2 ^ (64 - k) : Nat) : Int) := by rw [← hk64]
      rw [Int.natCast_mul, ← pow2_cast, ← pow2_cast, ← pow2_cast] at this
      rw [← this]; rfl
    rw [this, Int.emod_emod_of_dvd _ (Int.dvd_mul_right _ _)]
  rw [h2]
  have h3 : 0 ≤ x % 2 ^ k := Int.emod_nonneg _ (by have : (0 : Int) < 2 ^ k := Int.pow_pos (by decide); omega)
  have h4 : x % 2 ^ k < 2 ^ k := Int.emod_lt_of_pos _ (Int.pow_pos (by decide))
  have h5 : (2 : Int) ^ k < 9223372036854775808 := by rw [pow2_cast]; omega
  omega
theorem bit_i64 (x j : Nat) (hx : x < 9223372036854775808) : bits .and .i64 ((x : Int) / 2 ^ j) 1 = ((x / 2 ^ j % 2 : Nat) : Int) := by
  have h4 : x / 2 ^ j ≤ x := Nat.div_le_self _ _
  rw [pow2_cast, ← Int.natCast_ediv, show (1 : Int) = ((1 : Nat) : Int) from rfl, and_i64 _ _ (by omega) (by omega), Nat.and_one_is_mod]
theorem or_add (a b k : Nat) (ha : a < 2 ^ k) : a ||| b * 2 ^ k = a + b * 2 ^ k := by
  rw [Nat.add_comm, Nat.mul_comm, Nat.two_pow_add_eq_or_of_lt ha, Nat.or_comm]
theorem pow_le24 (n : Nat) (h : n ≤ 24) : 2 ^ n ≤ 16777216 := Nat.pow_le_pow_right (n := 2) (by omega) h
/-! what the laws' own arithmetic comes to: 'int(uint(n) % m)', '1<<uint(k) - 1' -/
theorem uint_mod (n : Int) (m : Nat) (h0 : 0 < m) (h1 : m < 9223372036854775808) : ∃ K : Nat, K < m ∧ wrap64 ((IntKind.u64.wrap n).tmod m) = (K : Int) := by
  rw [IntKind.wrap_u64]
  have hnn : 0 ≤ n % 18446744073709551616 := Int.emod_nonneg _ (by decide)
  rw [Int.tmod_eq_emod_of_nonneg hnn]
  have h2 : 0 ≤ n % 18446744073709551616 % m := Int.emod_nonneg _ (by omega)
  have h3 : n % 18446744073709551616 % m < m := Int.emod_lt_of_pos _ (by omega)
  refine ⟨(n % 18446744073709551616 % m).toNat, by omega, ?_⟩
  rw [Int.toNat_of_nonneg h2]
  generalize n % 18446744073709551616 % m = x at *
  unfold wrap64; omega
theorem u64_nat (K : Nat) (h : K < 18446744073709551616) : IntKind.u64.wrap (K : Int) = K := by rw [IntKind.wrap_u64]; omega
theorem wrap64_nat (K : Nat) (h : K < 9223372036854775808) : wrap64 (K : Int) = K := by unfold wrap64; omega
theorem shl_one (K : Nat) (h : K < 63) : wrap64 (2 ^ min (IntKind.u64.wrap (K : Int)).toNat 64) = ((2 ^ K : Nat) : Int) := by
  have hp : 2 ^ K < 2 ^ 63 := Nat.pow_lt_pow_right (by omega) h
  rw [u64_nat K (by omega), Int.toNat_natCast, Nat.min_eq_left (by omega), pow2_cast, wrap64_nat _ (by omega)]
theorem mask_of (K : Nat) (h : K < 63) : wrap64 (wrap64 (2 ^ min (IntKind.u64.wrap (K : Int)).toNat 64) - 1) = ((2 ^ K - 1 : Nat) : Int) := by
  have hp : 2 ^ K < 2 ^ 63 := Nat.pow_lt_pow_right (by omega) h
  have h0 : 0 < 2 ^ K := Nat.pow_pos (by omega)
  rw [shl_one K h, show ((2 ^ K : Nat) : Int) - 1 = ((2 ^ K - 1 : Nat) : Int) by omega, wrap64_nat _ (by omega)]
theorem masked (v : Int) (K : Nat) (h : K < 63) : ∃ V : Nat, V < 2 ^ K ∧ bits .and .i64 v (wrap64 (wrap64 (2 ^ min (IntKind.u64.wrap (K : Int)).toNat 64) - 1)) = (V : Int) := by
  rw [mask_of K h, mask_i64 v K h]
  have h3 : 0 ≤ v % 2 ^ K := Int.emod_nonneg _ (by have : (0 : Int) < 2 ^ K := Int.pow_pos (by decide); omega)
  have h4 : v % 2 ^ K < 2 ^ K := Int.emod_lt_of_pos _ (Int.pow_pos (by decide))
  refine ⟨(v % 2 ^ K).toNat, ?_, by omega⟩
  rw [pow2_cast] at h4 h3 ⊢
  omega
end Go.Proofs.Ytiopoaenpajlmaa
