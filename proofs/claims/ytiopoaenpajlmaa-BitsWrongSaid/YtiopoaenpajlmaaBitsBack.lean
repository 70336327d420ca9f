/-
  BitsBack: numbers put one behind the other, each in its own count of bits, are got so; there are just as many bits as were put.
-/
import Derived.Test.YtiopoaenpajlmaaBfill
import Derived.StillTailTactics
namespace Go.Proofs.Ytiopoaenpajlmaa
open Go.RowKit

/-- the count of bits of number i; its value; the bits of the first j; the row that they make -/
def szI (l2 : List Int) (i : Nat) : Nat := ((l2[i]?.getD 0) % 18446744073709551616 % 25).toNat
def vlI (l1 l2 : List Int) (i : Nat) : Nat := ((l1[i]?.getD 0) % 2 ^ szI l2 i).toNat
def szT (l2 : List Int) : Nat → Nat
  | 0 => 0
  | j + 1 => szT l2 j + szI l2 j
def vlT (l1 l2 : List Int) : Nat → Nat
  | 0 => 0
  | j + 1 => vlT l1 l2 j + vlI l1 l2 j * 2 ^ szT l2 j
theorem szI_le (l2 : List Int) (i : Nat) : szI l2 i ≤ 24 := by
  unfold szI
  generalize (l2[i]?.getD 0) % 18446744073709551616 = x
  omega
theorem szT_le (l2 : List Int) (j : Nat) : szT l2 j ≤ 24 * j := by
  induction j with
  | zero => simp [szT]
  | succ j ih => have := szI_le l2 j; simp only [szT]; omega
theorem szT_mono (l2 : List Int) (i j : Nat) (h : i ≤ j) : szT l2 i ≤ szT l2 j := by
  induction j with
  | zero => have : i = 0 := by omega
            subst this; exact Nat.le_refl _
  | succ j ih =>
    rcases Nat.eq_or_lt_of_le h with rfl | h'
    · exact Nat.le_refl _
    · have := ih (by omega); simp only [szT]; omega
theorem vlI_lt (l1 l2 : List Int) (i : Nat) : vlI l1 l2 i < 2 ^ szI l2 i := by
  unfold vlI
  have h3 : 0 ≤ (l1[i]?.getD 0) % 2 ^ szI l2 i := Int.emod_nonneg _ (by have : (0 : Int) < 2 ^ szI l2 i := Int.pow_pos (by decide); omega)
  have h4 : (l1[i]?.getD 0) % 2 ^ szI l2 i < 2 ^ szI l2 i := Int.emod_lt_of_pos _ (Int.pow_pos (by decide))
  rw [pow2_cast] at h3 h4 ⊢
  omega
theorem vlT_lt (l1 l2 : List Int) (j : Nat) : vlT l1 l2 j < 2 ^ szT l2 j := by
  induction j with
  | zero => simp [vlT, szT]
  | succ j ih =>
    have := vlI_lt l1 l2 j
    simp only [vlT, szT]
    have h2 := Nat.mul_le_mul_right (2 ^ szT l2 j) (show vlI l1 l2 j + 1 ≤ 2 ^ szI l2 j from this)
    rw [Nat.add_mul, ← Nat.pow_add, Nat.add_comm (szI l2 j)] at h2
    omega
theorem vlT_get (l1 l2 : List Int) (i j : Nat) (h : i < j) : vlT l1 l2 j / 2 ^ szT l2 i % 2 ^ szI l2 i = vlI l1 l2 i := by
  induction j with
  | zero => omega
  | succ j ih =>
    simp only [vlT]
    rcases Nat.eq_or_lt_of_le (show i ≤ j by omega) with rfl | h'
    · rw [Nat.add_mul_div_right _ _ (Nat.pow_pos (by omega)), Nat.div_eq_of_lt (vlT_lt _ _ _), Nat.zero_add, Nat.mod_eq_of_lt (vlI_lt _ _ _)]
    · have hm := szT_mono l2 (i + 1) j h'
      simp only [szT] at hm
      have e : vlI l1 l2 j * 2 ^ szT l2 j = 2 ^ szT l2 i * (2 ^ szI l2 i * (vlI l1 l2 j * 2 ^ (szT l2 j - szT l2 i - szI l2 i))) := by
        rw [show szT l2 j = szT l2 i + (szI l2 i + (szT l2 j - szT l2 i - szI l2 i)) by omega, Nat.pow_add, Nat.pow_add]
        rw [show szT l2 i + (szI l2 i + (szT l2 j - szT l2 i - szI l2 i)) - szT l2 i - szI l2 i = szT l2 j - szT l2 i - szI l2 i by omega]
        simp only [Nat.mul_left_comm, Nat.mul_comm, Nat.mul_assoc]
      rw [e, Nat.add_mul_div_left _ _ (Nat.pow_pos (by omega)), Nat.add_mul_mod_self_left, ih h']
theorem szI_walk (z : Int) : wrap64 ((IntKind.u64.wrap z).tmod 25) = ((z % 18446744073709551616 % 25).toNat : Int) := by
  rw [IntKind.wrap_u64]
  have hnn : 0 ≤ z % 18446744073709551616 := Int.emod_nonneg _ (by decide)
  rw [Int.tmod_eq_emod_of_nonneg hnn]
  generalize z % 18446744073709551616 = x at *
  unfold wrap64; omega
theorem vlI_walk (z : Int) (K : Nat) (hK : K ≤ 24) : bits .and .i64 z (wrap64 (wrap64 (2 ^ min (IntKind.u64.wrap (K : Int)).toNat 64) - 1)) = ((z % 2 ^ K).toNat : Int) := by
  rw [mask_of K (by omega), mask_i64 z K (by omega)]
  have h3 : 0 ≤ z % 2 ^ K := Int.emod_nonneg _ (by have : (0 : Int) < 2 ^ K := Int.pow_pos (by decide); omega)
  omega
theorem i64w (n : Int) : IntKind.i64.wrap n = wrap64 n := by rw [IntKind.wrap_i64, wrap64]
theorem vlI_walk' (z : Int) (K : Nat) (hK : K ≤ 24) : bits .and .i64 z (IntKind.i64.wrap (IntKind.i64.wrap (2 ^ min (IntKind.u64.wrap (K : Int)).toNat 64) - 1)) = ((z % 2 ^ K).toNat : Int) := by
  rw [i64w, i64w]; exact vlI_walk z K hK
end Go.Proofs.Ytiopoaenpajlmaa
