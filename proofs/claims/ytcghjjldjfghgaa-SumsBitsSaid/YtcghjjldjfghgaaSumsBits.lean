/-
  SumsBits: the sum of width 1 by the divisor 1 tells whether a text's ones, and one more, are an odd number.
-/
import Derived.Test.YtcghjjldjfghgaaSwakes
namespace Go.Proofs.Ytcghjjldjfghgaa
open Go.RowKit

def pop (x : Nat) : Nat → Nat
  | 0 => 0
  | k + 1 => pop x k + x / 2 ^ k % 2
def popL (l : List UInt8) : Nat := (l.map fun x => pop x.toNat 8).sum
theorem pop_le (x k : Nat) : pop x k ≤ k := by
  induction k with
  | zero => simp [pop]
  | succ k ih => simp only [pop]; omega
theorem pop_step : ∀ x : Fin 256, ∀ r : Fin 2, sn 1 8 (r.val ^^^ x.val) = (r.val + pop x.val 8) % 2 := by decide +kernel
theorem popL_le (l : List UInt8) : popL l ≤ 8 * l.length := by
  unfold popL
  induction l with
  | nil => simp
  | cons x l ih => have := pop_le x.toNat 8; simp only [List.map_cons, List.sum_cons, List.length_cons]; omega
theorem popL_snoc (l : List UInt8) (x : UInt8) : popL (l ++ [x]) = popL l + pop x.toNat 8 := by simp [popL]
theorem reg_bits (l : List UInt8) (r : Nat) (hr : r < 2) : reg 1 l r = (r + popL l) % 2 := by
  induction l generalizing r with
  | nil => rw [reg_nil]; simp [popL]; omega
  | cons x l ih =>
    have h := pop_step ⟨x.toNat, x.toNat_lt⟩ ⟨r, hr⟩
    simp only at h
    rw [reg_cons, h, ih _ (Nat.mod_lt _ (by omega))]
    simp only [popL, List.map_cons, List.sum_cons]
    omega
theorem crc_bits (l : List UInt8) : crc 1 1 l = popL l % 2 := by
  rw [crc, reg_bits _ _ (by omega)]
  have h : (2 ^ 1 - 1 + popL l) % 2 = 0 ∨ (2 ^ 1 - 1 + popL l) % 2 = 1 := by omega
  rcases h with h | h
  · rw [h]; simp; omega
  · rw [h]; simp; omega
theorem bit_u8 (x : UInt8) (k : Nat) : bits .and .u8 ((x.toNat : Int) / 2 ^ k) 1 = ((x.toNat / 2 ^ k % 2 : Nat) : Int) := by
  have hx := x.toNat_lt
  have h4 : x.toNat / 2 ^ k ≤ x.toNat := Nat.div_le_self _ _
  rw [pow2_cast, ← Int.natCast_ediv, show (1 : Int) = ((1 : Nat) : Int) from rfl, u8_and_nat _ _ (by omega) (by omega), Nat.and_one_is_mod]

set_option maxHeartbeats 1000000 in
theorem sumsBits_walk (w : World) (A : Option Addr) (len c : Nat) (l : List UInt8) (hb : ByteS w w.heap.size A len l) (_hm : len ≤ maxLen) :
    Calls Try.prog 8 #[.slice A len c] w fun e w' => e = .returned (.bool true) ∧ Below w.heap.size w w' := by
  have hln := Lib.hid hb.len
  by_cases h1 : 600 < len
  · go_enter Try.func8, Try.ntmps8
    go_wp2_with fail
    go_ret
    exact ⟨rfl, Below.refl _ _⟩
  · clear _hm
    go_enter Try.func8, Try.ntmps8
    go_wp2_with fail
    go_loopg [3, 4, 5] len (fun g n i _ wx => w = wx ∧ ∃ j : Nat, j ≤ len ∧ g = len - j ∧ i = .int .i64 (j : Int) ∧ n = .int .i64 (popL (l.take j) : Int))
    case atStart => exact ⟨rfl, 0, by omega, rfl, rfl, by simp [popL]⟩
    case round =>
      obtain ⟨rfl, j, hj, rfl, rfl, rfl⟩ := hrel
      by_cases hlt : j < len
      · have hjl : j < l.length := by have := hln.out; omega
        obtain ⟨b, o, rfl, _, hc⟩ := hb.at_ hjl
        have hp := popL_le (l.take j)
        have hp2 : (l.take j).length ≤ j := List.length_take_le _ _
        go_wp2_with fail
        go_loopg [3, 5] 8 (fun g n i wx => w = wx ∧ ∃ k : Nat, k ≤ 8 ∧ g = 8 - k ∧ i = .int .i64 (k : Int) ∧ n = .int .i64 ((popL (l.take j) + pop l[j].toNat k : Nat) : Int))
        case atStart => exact ⟨rfl, 0, by omega, rfl, rfl, by simp [pop]⟩
        case round =>
          obtain ⟨rfl, k, hk, rfl, rfl, rfl⟩ := hrel
          have hpk := pop_le l[j].toNat k
          by_cases hk8 : k < 8
          · have hbit := bit_u8 l[j] k
            go_wp2_with fail
            go_roundg (8 - (k + 1))
            case measure => omega
            case rel => exact ⟨rfl, k + 1, by omega, rfl, by go_num, by simp [pop, Int.add_assoc]⟩
          · obtain rfl : k = 8 := by omega
            have hs := popL_snoc (l.take j) l[j]
            rw [← List.take_succ_eq_append_getElem hjl] at hs
            have HS := Lib.hid hs
            clear hs
            go_wp2_with fail
            go_roundg (len - (j + 1))
            case measure => omega
            case rel => exact ⟨rfl, j + 1, by omega, rfl, by go_num, by rw [HS.out]⟩
      · obtain rfl : len = j := by omega
        have hcrc : Hid (crc 1 1 l = popL (l.take len) % 2) := by unfold Hid; rw [crc_bits, List.take_of_length_le (by have := hln.out; omega)]
        have hp := popL_le (l.take len)
        have hp2 : (l.take len).length ≤ len := List.length_take_le _ _
        go_wp2_with fail
        refine (carry_yes A len c l 1 1 w hb (by omega) (by omega) (by omega) (by omega)).mono ?_
        rw [hcrc.out]
        rintro e w1 ⟨rfl, hb1⟩
        go_wp2_with fail
        refine (wakes_any _).mono ?_
        rintro e w2 ⟨rfl, hb2⟩
        go_wp2
        go_ret
        exact ⟨rfl, hb1.trans (hb2.mono hb1.size)⟩
end Go.Proofs.Ytcghjjldjfghgaa
