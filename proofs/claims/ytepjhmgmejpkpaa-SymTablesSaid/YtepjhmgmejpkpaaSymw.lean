/-
  Contracts of package sym: a scale's symbols; the symbol of a value.
-/
import Derived.Test.YtepjhmgmejpkpaaMem
import Derived.Test.YtepjhmgmejpkpaaBval
import Derived.Deep.LoopGhost
namespace Go.Proofs.Ytepjhmgmejpkpaa
open Go.RowKit

/-- the least value of a scale's symbol, its count of bits -/
def leastN (L S G s : Nat) : Nat := if s < S then L + s else L + S + G * (2 ^ ((s - S) / G + 1) - 2) + (s - S) % G * 2 ^ ((s - S) / G + 1)
def moreN (S G s : Nat) : Nat := if s < S then 0 else (s - S) / G + 1

theorem lens_any (w : World) : Calls Try.prog 28 #[] w fun e w' => e = .returned (.agg #[.int .i64 3, .int .i64 8, .int .i64 4]) ∧ Below w.heap.size w w' := by
  go_enter Try.func28, Try.ntmps28
  go_wp2
  refine bodyPost_ret (v := .agg #[.int .i64 3, .int .i64 8, .int .i64 4]) (by simp [results, Try.results28, go_sem]) rfl ⟨rfl, ?_⟩
  repeat (first | exact (Below.refl _ _).alloc (Nat.le_refl _) _ | refine Below.setCell ?_ (by simp) _)
theorem dists_any (w : World) : Calls Try.prog 32 #[] w fun e w' => e = .returned (.agg #[.int .i64 1, .int .i64 4, .int .i64 2]) ∧ Below w.heap.size w w' := by
  go_enter Try.func32, Try.ntmps32
  go_wp2
  refine bodyPost_ret (v := .agg #[.int .i64 1, .int .i64 4, .int .i64 2]) (by simp [results, Try.results32, go_sem]) rfl ⟨rfl, ?_⟩
  repeat (first | exact (Below.refl _ _).alloc (Nat.le_refl _) _ | refine Below.setCell ?_ (by simp) _)

theorem shl_small (a k : Nat) (ha : a ≤ 8) (hk : k ≤ 30) : wrap64 ((a : Int) * 2 ^ k) = ((a * 2 ^ k : Nat) : Int) := by
  have h1 : 2 ^ k ≤ 2 ^ 30 := Nat.pow_le_pow_right (by omega) hk
  have h2 : a * 2 ^ k ≤ 8 * 2 ^ 30 := Nat.mul_le_mul ha h1
  rw [pow2_cast, ← Int.natCast_mul, wrap64_nat _ (by omega)]

set_option maxHeartbeats 1000000 in
theorem symbol_lens (s : Nat) (w : World) (hs : s ≤ 40) :
    Calls Try.prog 33 #[.agg #[.int .i64 3, .int .i64 8, .int .i64 4], .int .i64 s] w fun e w' => e = .returned (.tuple #[.int .i64 (leastN 3 8 4 s), .int .i64 (moreN 8 4 s)]) ∧ Below w.heap.size w w' := by
  by_cases hlt : s < 8
  · have e1 : Hid (leastN 3 8 4 s = 3 + s) := if_pos hlt
    have e2 : Hid (moreN 8 4 s = 0) := if_pos hlt
    go_enter Try.func33, Try.ntmps33
    go_wp2
    go_ret2
    rw [e1.out, e2.out]
    exact ⟨ret_i2 (by omega) (by omega), (Below.refl _ _).alloc (Nat.le_refl _) _⟩
  · have hge : 8 ≤ s := by omega
    have hq20 : (s - 8) / 4 ≤ 28 := by omega
    clear hlt
    go_enter Try.func33, Try.ntmps33
    go_wp2
    go_loopg [1, 4, 6] ((s - 8) / 4) (fun g a l k wx => (w.alloc (.cells #[.int .i64 3, .int .i64 8, .int .i64 4] 52)) = wx ∧ ∃ j : Nat, j ≤ (s - 8) / 4 ∧ g = (s - 8) / 4 - j ∧ a = .int .i64 ((s - 8 - 4 * j : Nat) : Int) ∧ l = .int .i64 ((3 + 8 + 4 * (2 ^ (j + 1) - 2) : Nat) : Int) ∧ k = .int .i64 ((j + 1 : Nat) : Int))
    case atStart => exact ⟨rfl, 0, by omega, rfl, by simp; omega, by simp, rfl⟩
    case round =>
      obtain ⟨rfl, j, hj, rfl, rfl, rfl, rfl⟩ := hrel
      have hp30 : 2 ^ (j + 1) ≤ 2 ^ 29 := Nat.pow_le_pow_right (by omega) (by omega)
      have hp0 : 2 ^ 1 ≤ 2 ^ (j + 1) := Nat.pow_le_pow_right (by omega) (by omega)
      by_cases hlt : j < (s - 8) / 4
      · have hsh := shl_small 4 (j + 1) (by omega) (by omega)
        rw [show (((4 : Nat) : Int)) = 4 from rfl] at hsh
        have hp2 : Hid (2 ^ (j + 1 + 1) = 2 * 2 ^ (j + 1)) := by unfold Hid; rw [Nat.pow_succ]; omega
        go_wp2
        go_roundg ((s - 8) / 4 - (j + 1))
        case measure => omega
        case rel => exact ⟨rfl, j + 1, by omega, rfl, by go_num, by refine congrArg (Value.int .i64) ?_; have h9 := hp2.out; rw [pow2_cast]; clear hp2 hsh; generalize (2 ^ (j + 1 + 1) : Nat) = y at *; generalize (2 ^ (j + 1) : Nat) = x at *; unfold wrap64; omega, by go_num⟩
      · have hje : j = (s - 8) / 4 := by omega
        have hr : s - 8 - 4 * j = (s - 8) % 4 := by omega
        have hsh := shl_small ((s - 8) % 4) (j + 1) (by omega) (by omega)
        have e1 : Hid (leastN 3 8 4 s = 3 + 8 + 4 * (2 ^ (j + 1) - 2) + (s - 8) % 4 * 2 ^ (j + 1)) := by unfold Hid leastN; rw [if_neg (by omega), hje]
        have e2 : Hid (moreN 8 4 s = j + 1) := by unfold Hid moreN; rw [if_neg (by omega), hje]
        have hmul : (s - 8) % 4 * 2 ^ (j + 1) ≤ 4 * 2 ^ 29 := Nat.mul_le_mul (by omega) hp30
        rw [← hr] at hsh hmul e1
        clear hr hje
        go_wp2
        go_ret2
        rw [e1.out, e2.out]
        refine ⟨ret_i2 ?_ ?_, (Below.refl _ _).alloc (Nat.le_refl _) _⟩
        · rw [pow2_cast, ← Int.natCast_mul]
          clear hsh e1 e2
          generalize hz : (s - 8 - 4 * j) * 2 ^ (j + 1) = z at *
          clear hz
          generalize (2 ^ (j + 1) : Nat) = x at *
          unfold wrap64; omega
        · omega

set_option maxHeartbeats 1000000 in
theorem symbol_dists (s : Nat) (w : World) (hs : s ≤ 40) :
    Calls Try.prog 33 #[.agg #[.int .i64 1, .int .i64 4, .int .i64 2], .int .i64 s] w fun e w' => e = .returned (.tuple #[.int .i64 (leastN 1 4 2 s), .int .i64 (moreN 4 2 s)]) ∧ Below w.heap.size w w' := by
  by_cases hlt : s < 4
  · have e1 : Hid (leastN 1 4 2 s = 1 + s) := if_pos hlt
    have e2 : Hid (moreN 4 2 s = 0) := if_pos hlt
    go_enter Try.func33, Try.ntmps33
    go_wp2
    go_ret2
    rw [e1.out, e2.out]
    exact ⟨ret_i2 (by omega) (by omega), (Below.refl _ _).alloc (Nat.le_refl _) _⟩
  · have hge : 4 ≤ s := by omega
    have hq20 : (s - 4) / 2 ≤ 28 := by omega
    clear hlt
    go_enter Try.func33, Try.ntmps33
    go_wp2
    go_loopg [1, 4, 6] ((s - 4) / 2) (fun g a l k wx => (w.alloc (.cells #[.int .i64 1, .int .i64 4, .int .i64 2] 52)) = wx ∧ ∃ j : Nat, j ≤ (s - 4) / 2 ∧ g = (s - 4) / 2 - j ∧ a = .int .i64 ((s - 4 - 2 * j : Nat) : Int) ∧ l = .int .i64 ((1 + 4 + 2 * (2 ^ (j + 1) - 2) : Nat) : Int) ∧ k = .int .i64 ((j + 1 : Nat) : Int))
    case atStart => exact ⟨rfl, 0, by omega, rfl, by simp; omega, by simp, rfl⟩
    case round =>
      obtain ⟨rfl, j, hj, rfl, rfl, rfl, rfl⟩ := hrel
      have hp30 : 2 ^ (j + 1) ≤ 2 ^ 29 := Nat.pow_le_pow_right (by omega) (by omega)
      have hp0 : 2 ^ 1 ≤ 2 ^ (j + 1) := Nat.pow_le_pow_right (by omega) (by omega)
      by_cases hlt : j < (s - 4) / 2
      · have hsh := shl_small 2 (j + 1) (by omega) (by omega)
        rw [show (((2 : Nat) : Int)) = 2 from rfl] at hsh
        have hp2 : Hid (2 ^ (j + 1 + 1) = 2 * 2 ^ (j + 1)) := by unfold Hid; rw [Nat.pow_succ]; omega
        go_wp2
        go_roundg ((s - 4) / 2 - (j + 1))
        case measure => omega
        case rel => exact ⟨rfl, j + 1, by omega, rfl, by go_num, by refine congrArg (Value.int .i64) ?_; have h9 := hp2.out; rw [pow2_cast]; clear hp2 hsh; generalize (2 ^ (j + 1 + 1) : Nat) = y at *; generalize (2 ^ (j + 1) : Nat) = x at *; unfold wrap64; omega, by go_num⟩
      · have hje : j = (s - 4) / 2 := by omega
        have hr : s - 4 - 2 * j = (s - 4) % 2 := by omega
        have hsh := shl_small ((s - 4) % 2) (j + 1) (by omega) (by omega)
        have e1 : Hid (leastN 1 4 2 s = 1 + 4 + 2 * (2 ^ (j + 1) - 2) + (s - 4) % 2 * 2 ^ (j + 1)) := by unfold Hid leastN; rw [if_neg (by omega), hje]
        have e2 : Hid (moreN 4 2 s = j + 1) := by unfold Hid moreN; rw [if_neg (by omega), hje]
        have hmul : (s - 4) % 2 * 2 ^ (j + 1) ≤ 2 * 2 ^ 29 := Nat.mul_le_mul (by omega) hp30
        rw [← hr] at hsh hmul e1
        clear hr hje
        go_wp2
        go_ret2
        rw [e1.out, e2.out]
        refine ⟨ret_i2 ?_ ?_, (Below.refl _ _).alloc (Nat.le_refl _) _⟩
        · rw [pow2_cast, ← Int.natCast_mul]
          clear hsh e1 e2
          generalize hz : (s - 4 - 2 * j) * 2 ^ (j + 1) = z at *
          clear hz
          generalize (2 ^ (j + 1) : Nat) = x at *
          unfold wrap64; omega
        · omega

end Go.Proofs.Ytepjhmgmejpkpaa
