/-
  Contracts of bits.Put and bits.Fill.
-/
import Derived.Test.YtiopoaenpajlmaaBits
import Derived.Test.YtiopoaenpajlmaaKeep
import Derived.Laws.CopyOwn
namespace Go.Proofs.Ytiopoaenpajlmaa
open Go.RowKit

/-- the n lowest bytes of a number -/
def nbytes : Nat → Nat → List UInt8
  | 0, _ => []
  | n + 1, x => UInt8.ofNat (x % 256) :: nbytes n (x / 256)
@[simp] theorem nbytes_length (n x : Nat) : (nbytes n x).length = n := by
  induction n generalizing x with
  | zero => rfl
  | succ n ih => simp [nbytes, ih]
theorem bval_nbytes (n x : Nat) : bval (nbytes n x) = x % 256 ^ n := by
  induction n generalizing x with
  | zero => simp [nbytes, bval, Nat.mod_one]
  | succ n ih =>
    simp only [nbytes, bval, ih]
    have h1 : (UInt8.ofNat (x % 256)).toNat = x % 256 := by simp
    rw [h1, Nat.pow_succ, Nat.mul_comm (256 ^ n) 256, Nat.mod_mul]
def putL (l : List UInt8) (N v k : Nat) : List UInt8 := nbytes ((N + k + 7) / 8) (bval l + v * 2 ^ N)

theorem madeCells_eq (z : Value) (n : Nat) : madeCells #[z] n = (List.replicate n z).toArray := by
  apply Array.ext'
  rw [madeCells]
  simp only [Array.toList_map, Array.toList_range, List.size_toArray, List.length_cons, List.length_nil, Nat.zero_add, Nat.mod_one]
  apply List.ext_getElem?
  intro i
  by_cases h : i < n <;> simp [h]
theorem replicate_bv (n : Nat) : List.replicate n (Value.int .u8 0) = bv (List.replicate n 0) := by simp [bv]

/-- one byte more is put -/
theorem put_byte (l L : List UInt8) (N R j : Nat) (hl : bval l < 2 ^ N) (hL : bval L = bval l + 2 ^ (8 * (N / 8)) * (R % 256 ^ j)) (hd : R % 2 ^ (N % 8) = 0) (hi : N / 8 + j < L.length) :
    bits .or .u8 ((L[N / 8 + j].toNat : Nat) : Int) (((R / 256 ^ j : Nat) : Int) % 256) = (((L[N / 8 + j].toNat + R / 256 ^ j % 256) : Nat) : Int) ∧ L[N / 8 + j].toNat + R / 256 ^ j % 256 < 256 := by
  have hx := (L[N / 8 + j]).toNat_lt
  have hy : R / 256 ^ j % 256 < 256 := Nat.mod_lt _ (by omega)
  have hNe : N = 8 * (N / 8) + N % 8 := by omega
  have key : ∃ q, L[N / 8 + j].toNat < 2 ^ (N % 8) ∧ R / 256 ^ j % 256 = q * 2 ^ (N % 8) ∧ q * 2 ^ (N % 8) + 2 ^ (N % 8) ≤ 256 ∨ L[N / 8 + j].toNat = 0 := by
    rw [bval_get _ _ hi, hL]
    rcases Nat.eq_zero_or_pos j with h0 | h0
    · subst h0
      refine ⟨R % 256 / 2 ^ (N % 8), .inl ⟨?_, ?_, ?_⟩⟩
      · have h1 : bval l + 2 ^ (8 * (N / 8)) * (R % 256 ^ 0) = bval l := by simp [Nat.mod_one]
        rw [h1, Nat.add_zero, pow256]
        refine Nat.lt_of_le_of_lt (Nat.mod_le _ _) ?_
        rw [Nat.div_lt_iff_lt_mul (Nat.pow_pos (by omega)), Nat.mul_comm, ← Nat.pow_add, ← hNe]
        exact hl
      · have : 2 ^ (N % 8) ∣ R % 256 := by
          rw [Nat.dvd_mod_iff (by exact Nat.pow_dvd_pow 2 (n := 8) (by omega))]
          exact Nat.dvd_of_mod_eq_zero hd
        simp only [Nat.pow_zero, Nat.div_one]
        rw [Nat.div_mul_cancel this]
      · have hq : R % 256 / 2 ^ (N % 8) < 2 ^ (8 - N % 8) := by
          rw [Nat.div_lt_iff_lt_mul (Nat.pow_pos (by omega)), ← Nat.pow_add]
          rw [show 8 - N % 8 + N % 8 = 8 by omega]
          exact Nat.mod_lt _ (by omega)
        have := Nat.mul_le_mul_right (2 ^ (N % 8)) (show R % 256 / 2 ^ (N % 8) + 1 ≤ 2 ^ (8 - N % 8) from hq)
        rw [← Nat.pow_add, show 8 - N % 8 + N % 8 = 8 by omega, Nat.add_mul] at this
        simpa using this
    · refine ⟨0, .inr ?_⟩
      rw [Nat.div_eq_of_lt]
      have h1 : R % 256 ^ j + 1 ≤ 256 ^ j := Nat.mod_lt _ (Nat.pow_pos (by omega))
      have h2 := Nat.mul_le_mul_left (2 ^ (8 * (N / 8))) h1
      have h3 : 256 ^ (N / 8 + j) = 2 ^ (8 * (N / 8)) * 256 ^ j := by rw [Nat.pow_add, pow256 (N / 8)]
      rw [h3]
      -- bval l < 2 ^ N ≤ 2 ^ (8 * (N / 8)) * 2 ^ (N % 8)
      rcases Nat.eq_zero_or_pos (N % 8) with hz | hz
      · rw [hNe, hz, Nat.add_zero] at hl
        rw [Nat.mul_add, Nat.mul_one] at h2
        omega
      · -- R % 256 ^ j is a multiple of 2 ^ (N % 8)
        have hdv : 2 ^ (N % 8) ∣ R % 256 ^ j := by
          rw [Nat.dvd_mod_iff (by rw [pow256]; exact Nat.pow_dvd_pow 2 (by omega))]
          exact Nat.dvd_of_mod_eq_zero hd
        obtain ⟨q, hq⟩ := hdv
        have hq2 : q + 1 ≤ 2 ^ (8 * j - N % 8) := by
          have h5 : R % 256 ^ j < 256 ^ j := Nat.mod_lt _ (Nat.pow_pos (by omega))
          rw [hq, pow256, show 8 * j = N % 8 + (8 * j - N % 8) by omega, Nat.pow_add] at h5
          exact Nat.lt_of_mul_lt_mul_left h5
        have h6 := Nat.mul_le_mul_left (2 ^ (8 * (N / 8)) * 2 ^ (N % 8)) hq2
        rw [hq]
        have h7 : 2 ^ (8 * (N / 8)) * 256 ^ j = 2 ^ (8 * (N / 8)) * 2 ^ (N % 8) * 2 ^ (8 * j - N % 8) := by
          rw [pow256, Nat.mul_assoc, ← Nat.pow_add (m := N % 8), show N % 8 + (8 * j - N % 8) = 8 * j by omega]
        rw [h7]
        have h8 : bval l < 2 ^ (8 * (N / 8)) * 2 ^ (N % 8) := by rw [← Nat.pow_add, ← hNe]; exact hl
        rw [Nat.mul_add, Nat.mul_one, Nat.mul_assoc (2 ^ (8 * (N / 8)))] at h6
        omega
  obtain ⟨q, ⟨h1, h2, h3⟩ | h1⟩ := key
  · refine ⟨?_, by omega⟩
    rw [show ((R / 256 ^ j : Nat) : Int) % 256 = ((R / 256 ^ j % 256 : Nat) : Int) by omega, u8_or_nat _ _ hx hy, h2, or_add _ _ _ h1]
  · refine ⟨?_, by omega⟩
    rw [show ((R / 256 ^ j : Nat) : Int) % 256 = ((R / 256 ^ j % 256 : Nat) : Int) by omega, u8_or_nat _ _ hx hy, h1, Nat.zero_or, Nat.zero_add]
end Go.Proofs.Ytiopoaenpajlmaa
