/-
  The closed text that each statement of layer 8 ends with; Carry.
-/
import Derived.Test.YtcghjjldjfghgaaSums
import Derived.Test.YtcghjjldjfghgaaKeep
import Derived.Lib.SlBytesConst
namespace Go.Proofs.Ytcghjjldjfghgaa
open Go.RowKit

set_option maxHeartbeats 2000000 in
theorem wakes_any (w : World) :
    Calls Try.prog 12 #[] w fun e w' => e = .returned (.bool true) ∧ Below w.heap.size w w' := by
  have kc := fun (w : World) (C : Array Value) (n c : Nat) => Lib.run_convert_bytes_const (P := Try.prog) w 22 5 C n c Try.underlying22 Try.underlying5
  have g1 : crc 33800 16 [49, 50, 51, 52, 53, 54, 55, 56, 57] = 36974 := by decide +kernel
  have g2 : crc 3988292384 32 [49, 50, 51, 52, 53, 54, 55, 56, 57] = 3421780262 := by decide +kernel
  have g3 : crc 33800 16 [] = 0 := by decide +kernel
  have G1 := Lib.hid g1
  have G2 := Lib.hid g2
  have G3 := Lib.hid g3
  clear g1 g2 g3
  go_enter Try.func12, Try.ntmps12
  go_wp2_with fail
  have hb : ByteS (w.alloc (.cells (bv [49, 50, 51, 52, 53, 54, 55, 56, 57]).toArray 5 (9, 10))) _ (some ⟨w.heap.size, 0, none⟩) 9 [49, 50, 51, 52, 53, 54, 55, 56, 57] := new_bytes_fr w _ _ _ _ rfl
  refine (short_any _ _ 9 [49, 50, 51, 52, 53, 54, 55, 56, 57] _ hb (by omega)).mono ?_
  rw [G1.out]
  rintro e w1 ⟨rfl, hb1⟩
  have hb' := ByteS.below' hb hb1
  go_wp2_with fail
  refine (long_any _ _ 9 [49, 50, 51, 52, 53, 54, 55, 56, 57] _ hb' (by omega)).mono ?_
  rw [G2.out]
  rintro e w2 ⟨rfl, hb2⟩
  go_wp2_with fail
  refine (short_any none 0 0 [] _ Reads.none_ (by omega)).mono ?_
  rw [G3.out]
  rintro e w3 ⟨rfl, hb3⟩
  go_wp2
  go_ret
  exact ⟨rfl, (((Below.refl _ _).alloc (Nat.le_refl _) _).trans (hb1.mono (by simp))).trans ((hb2.trans (hb3.mono hb2.size)).mono (by have := hb1.size; simp at this; omega))⟩

def rightCarry (k d : Int) : Bool := decide (1 ≤ k ∧ k ≤ 32 ∧ 0 ≤ d ∧ d < 2 ^ k.toNat)
theorem shl_one_i (k : Nat) (h : k ≤ 32) : wrap64 (2 ^ k) = ((2 ^ k : Nat) : Int) := by
  have h1 : 2 ^ k ≤ 2 ^ 32 := Nat.pow_le_pow_right (by omega) h
  rw [pow2_cast, wrap64_nat _ (by omega)]
set_option maxHeartbeats 1000000 in
theorem carry_yes (A : Option Addr) (n c : Nat) (l : List UInt8) (k d : Nat) (w : World) (h : ByteS w w.heap.size A n l) (hl : n < 140737488355328) (hk0 : 1 ≤ k) (hk : k ≤ 32) (hd : d < 2 ^ k) :
    Calls Try.prog 10 #[.slice A n c, .int .i64 k, .int .i64 d] w fun e w' => e = .returned (.tuple #[.int .i64 (crc d k l), .int .i64 0]) ∧ Below w.heap.size w w' := by
  have h1 : 2 ^ k ≤ 2 ^ 32 := Nat.pow_le_pow_right (by omega) hk
  have d0 : decide ((k : Int) < 1) = false := by simp; omega
  have d1 : decide ((32 : Int) < k) = false := by simp; omega
  have d2 : decide ((d : Int) < 0) = false := by simp
  have d3 : decide (wrap64 (2 ^ k) ≤ (d : Int)) = false := by rw [shl_one_i k hk, decide_eq_false_iff_not]; clear h1; generalize 2 ^ k = p at *; omega
  have d4 : d < 4294967296 := by omega
  go_enter Try.func10, Try.ntmps10
  go_wp2_with fail
  refine (sum_any A n c l k d w h hl hk0 hk d4).mono ?_
  rintro e w1 ⟨rfl, hb1⟩
  go_wp2
  go_ret2
  exact ⟨rfl, hb1⟩
end Go.Proofs.Ytcghjjldjfghgaa
