/-
  Contract of bits.Get: the number that stands in bits at .. at + n - 1 of a row of bytes.
-/
import Derived.Test.YtiopoaenpajlmaaBits
namespace Go.Proofs.Ytiopoaenpajlmaa
open Go.RowKit

/-- bits at .. at+n-1 -/
def getN (l : List UInt8) (a n : Nat) : Nat := bval l / 2 ^ a % 2 ^ n
def part (l : List UInt8) (f j : Nat) : Nat := bval ((l.drop f).take j)
theorem part_lt (l : List UInt8) (f j : Nat) : part l f j < 256 ^ j := by
  unfold part
  have h := bval_lt ((l.drop f).take j)
  have : ((l.drop f).take j).length ≤ j := List.length_take_le _ _
  have := Nat.pow_le_pow_right (n := 256) (by omega) this
  omega
theorem part_eq (l : List UInt8) (f j : Nat) (h : f + j ≤ l.length) : part l f j = bval l / 256 ^ f % 256 ^ j := by
  unfold part
  rw [bval_take _ _ (by rw [List.length_drop]; omega), bval_take_drop l f (by omega)]
  have h1 := bval_lt (l.take f)
  rw [List.length_take, Nat.min_eq_left (by omega)] at h1
  rw [Nat.add_mul_div_left _ _ (Nat.pow_pos (by omega)), Nat.div_eq_of_lt h1, Nat.zero_add]
theorem part_succ (l : List UInt8) (f j : Nat) (h : f + j < l.length) : part l f (j + 1) = part l f j + l[f + j].toNat * 256 ^ j := by
  unfold part
  have h2 : j < (l.drop f).length := by rw [List.length_drop]; omega
  rw [List.take_succ_eq_append_getElem h2, bval_append, List.length_take, Nat.min_eq_left (by omega)]
  simp [bval, Nat.mul_comm]
theorem div_mod_part (X u m n : Nat) (h : u + n ≤ 8 * m) : X % 256 ^ m / 2 ^ u % 2 ^ n = X / 2 ^ u % 2 ^ n := by
  rw [pow256]
  have e : 2 ^ (8 * m) = 2 ^ u * 2 ^ (8 * m - u) := by rw [← Nat.pow_add]; congr 1; omega
  rw [e, Nat.mod_mul_right_div_self, Nat.mod_mod_of_dvd _ (Nat.pow_dvd_pow 2 (by omega))]
theorem get_end (l : List UInt8) (a n m : Nat) (hm : m = (a + n + 7) / 8 - a / 8) (h : a + n ≤ 8 * l.length) (hn : a / 8 ≤ (a + n + 7) / 8) : part l (a / 8) m / 2 ^ (a % 8) % 2 ^ n = getN l a n := by
  rw [part_eq _ _ _ (by omega), div_mod_part _ _ _ _ (by omega), getN, Nat.div_div_eq_div_mul, pow256, ← Nat.pow_add]
  congr 3; omega
theorem get_round (p j x : Nat) (hp : p < 256 ^ j) (hj : j ≤ 3) (hx : x < 256) : bits .or .u32 (p : Int) ((x : Int) % 4294967296 * 2 ^ (8 * j) % 4294967296) = ((p + x * 256 ^ j : Nat) : Int) := by
  have h3 : (256 : Nat) ^ j ≤ 256 ^ 3 := Nat.pow_le_pow_right (by omega) hj
  have h4 : x * 256 ^ j ≤ 255 * 256 ^ 3 := Nat.mul_le_mul (by omega) h3
  rw [show (x : Int) % 4294967296 = x by omega, pow2_cast, ← Int.natCast_mul, ← pow256]
  rw [show (((x * 256 ^ j : Nat) : Int) % 4294967296) = ((x * 256 ^ j : Nat) : Int) by omega, u32_or_nat _ _ (by omega) (by omega)]
  rw [pow256] at *
  rw [or_add _ _ _ hp]
theorem get_mask (p u n : Nat) (hp : p < 4294967296) (hn : n ≤ 24) : bits .and .u32 ((p : Int) / 2 ^ u) (((2 : Int) ^ n - 1) % 4294967296) = ((p / 2 ^ u % 2 ^ n : Nat) : Int) := by
  have h3 := pow_le24 n hn
  have h4 : p / 2 ^ u ≤ p := Nat.div_le_self _ _
  have h5 : 0 < 2 ^ n := Nat.pow_pos (by omega)
  rw [pow2_cast, pow2_cast, ← Int.natCast_ediv, show (((2 ^ n : Nat) : Int) - 1) % 4294967296 = ((2 ^ n - 1 : Nat) : Int) by omega, u32_and_nat _ _ (by omega) (by omega), Nat.and_two_pow_sub_one_eq_mod]

set_option maxHeartbeats 1000000 in
theorem get_yes (A : Option Addr) (n c : Nat) (l : List UInt8) (a k : Nat) (w : World) (B : Nat) (h : ByteS w B A n l) (hl : n < 140737488355328) (hk : k ≤ 24) (ha : a + k ≤ 8 * n) :
    Calls Try.prog 18 #[.slice A n c, .int .i64 a, .int .i64 k] w fun e w' => e = .returned (.tuple #[.int .i64 (getN l a k), .int .i64 ((a + k : Nat) : Int), .int .i64 0]) ∧ w = w' := by
  have hln := Lib.hid h.len
  have d0 : decide ((k : Int) < 0) = false := by simp
  have d1 : decide ((24 : Int) < k) = false := by simp; omega
  have d2 : decide ((a : Int) < 0) = false := by simp
  have d3 : decide (8 * (n : Int) < a) = false := by simp; omega
  have d4 : ¬ (8 * (n : Int) < a + k) := by omega
  go_enter Try.func18, Try.ntmps18
  go_wp2
  go_loop [9, 11] (fun t i => ∃ j : Nat, a / 8 + j ≤ (a + k + 7) / 8 ∧ t = .int .u32 (part l (a / 8) j) ∧ i = .int .i64 ((a / 8 + j : Nat) : Int)) (fun _ i => n - (intOf i).toNat)
  case atStart => exact ⟨0, by omega, by simp [part, bval], by simp⟩
  case round =>
    obtain ⟨j, hj, rfl, rfl⟩ := hrel
    by_cases hlt : a / 8 + j < (a + k + 7) / 8
    · obtain ⟨b, o, rfl, _, hc⟩ := h.at_ (k := a / 8 + j) (by have := hln.out; omega)
      go_wp2_with (go_at_call 28; refine (bytesFor_any _ _ (by omega) (by omega)).mono ?_; rintro e w' ⟨rfl, rfl⟩)
      have hp := part_lt l (a / 8) j
      have hs := part_succ l (a / 8) j (by have := hln.out; omega)
      have hg := get_round _ j _ hp (by omega) (UInt8.toNat_lt (l[a / 8 + j]'(by have := hln.out; omega)))
      go_round
      case rel => exact ⟨j + 1, by omega, by rw [hg, hs], by go_num⟩
      case measure => simp [intOf]; omega
    · have hj2 : j = (a + k + 7) / 8 - a / 8 := by omega
      have hp := part_lt l (a / 8) j
      have h4 : (256 : Nat) ^ j ≤ 256 ^ 4 := Nat.pow_le_pow_right (by omega) (by omega)
      have he := get_end l a k j hj2 (by have := hln.out; omega) (by omega)
      have hm := get_mask (part l (a / 8) j) (a % 8) k (by omega) hk
      have hlt2 : getN l a k < 2 ^ k := Nat.mod_lt _ (Nat.pow_pos (by omega))
      have hp24 := pow_le24 k hk
      rw [he] at hm
      have HM := Lib.hid hm
      clear hm he hj2
      go_wp2_with (go_at_call 28; refine (bytesFor_any _ _ (by omega) (by omega)).mono ?_; rintro e w' ⟨rfl, rfl⟩)
      go_ret3
      exact ⟨ret_i3 (by rw [HM.out]; unfold wrap64; omega) (by omega) rfl, rfl⟩

set_option maxHeartbeats 1000000 in
theorem get_short (A : Option Addr) (n c : Nat) (a k : Nat) (w : World) (hl : n < 140737488355328) (hk : k ≤ 24) (ha : 8 * n < a + k) (ha2 : a ≤ 8 * n) :
    Calls Try.prog 18 #[.slice A n c, .int .i64 a, .int .i64 k] w fun e w' => e = .returned (.tuple #[.int .i64 0, .int .i64 0, .int .i64 3]) ∧ w = w' := by
  have d0 : decide ((k : Int) < 0) = false := by simp
  have d1 : decide ((24 : Int) < k) = false := by simp; omega
  have d2 : decide ((a : Int) < 0) = false := by simp
  have d3 : decide (8 * (n : Int) < a) = false := by simp; omega
  have d4 : 8 * (n : Int) < a + k := by omega
  go_enter Try.func18, Try.ntmps18
  go_wp2
  go_ret3
  exact ⟨rfl, rfl⟩

set_option maxHeartbeats 1000000 in
theorem get_bad (A : Option Addr) (n c : Nat) (a k : Int) (w : World) (hl : n < 140737488355328) (hb : k < 0 ∨ 24 < k ∨ a < 0 ∨ 8 * (n : Int) < a) :
    Calls Try.prog 18 #[.slice A n c, .int .i64 a, .int .i64 k] w fun e w' => e = .returned (.tuple #[.int .i64 0, .int .i64 0, .int .i64 1]) ∧ w = w' := by
  by_cases h0 : k < 0
  · have d0 : decide (k < 0) = true := by simp; omega
    go_enter Try.func18, Try.ntmps18
    go_wp2
    go_ret3
    exact ⟨rfl, rfl⟩
  · have d0 : decide (k < 0) = false := by simp; omega
    by_cases h1 : 24 < k
    · have d1 : decide ((24 : Int) < k) = true := by simp; omega
      go_enter Try.func18, Try.ntmps18
      go_wp2
      go_ret3
      exact ⟨rfl, rfl⟩
    · have d1 : decide ((24 : Int) < k) = false := by simp; omega
      by_cases h2 : a < 0
      · have d2 : decide (a < 0) = true := by simp; omega
        go_enter Try.func18, Try.ntmps18
        go_wp2
        go_ret3
        exact ⟨rfl, rfl⟩
      · have d2 : decide (a < 0) = false := by simp; omega
        have d3 : decide (8 * (n : Int) < a) = true := by simp; omega
        go_enter Try.func18, Try.ntmps18
        go_wp2
        go_ret3
        exact ⟨rfl, rfl⟩
end Go.Proofs.Ytiopoaenpajlmaa
