/-
  BitsTurned: turned twice a number is itself; turned, its bits are got the other way about.
-/
import Derived.Test.YtiopoaenpajlmaaBfill
namespace Go.Proofs.Ytiopoaenpajlmaa
open Go.RowKit

theorem rev_bit (v j i : Nat) (hi : i < j) : rev v j / 2 ^ i % 2 = v / 2 ^ (j - 1 - i) % 2 := by
  induction j generalizing i with
  | zero => omega
  | succ j ih =>
    simp only [rev]
    cases i with
    | zero => simp only [Nat.pow_zero, Nat.div_one]; rw [show j + 1 - 1 - 0 = j by omega]; omega
    | succ i =>
      rw [Nat.pow_succ, Nat.mul_comm (2 ^ i) 2, ← Nat.div_div_eq_div_mul, show (2 * rev v j + v / 2 ^ j % 2) / 2 = rev v j by omega, ih i (by omega)]
      rw [show j + 1 - 1 - (i + 1) = j - 1 - i by omega]
theorem eq_of_bits (a b n : Nat) (ha : a < 2 ^ n) (hb : b < 2 ^ n) (h : ∀ i, i < n → a / 2 ^ i % 2 = b / 2 ^ i % 2) : a = b := by
  induction n generalizing a b with
  | zero => simp at ha hb; omega
  | succ n ih =>
    have h0 := h 0 (by omega)
    simp only [Nat.pow_zero, Nat.div_one] at h0
    rw [Nat.pow_succ] at ha hb
    have h1 : a / 2 = b / 2 := ih (a / 2) (b / 2) (by omega) (by omega) fun i hi => by
      have := h (i + 1) (by omega)
      rwa [Nat.pow_succ, Nat.mul_comm, ← Nat.div_div_eq_div_mul, ← Nat.div_div_eq_div_mul] at this
    omega
theorem rev_rev (v n : Nat) (h : v < 2 ^ n) : rev (rev v n) n = v :=
  eq_of_bits _ _ n (rev_lt _ _) h fun i hi => by rw [rev_bit _ _ _ hi, rev_bit _ _ _ (by omega)]; congr 2; congr 1; omega

set_option maxHeartbeats 1000000 in
theorem bitsTurned_walk (w : World) (v : Int) (_wv : (Lit.int .i64 v).wf = true) (n : Int) (_wn : (Lit.int .i64 n).wf = true) :
    Calls Try.prog 5 #[.int .i64 v, .int .i64 n] w fun e w' => e = .returned (.bool true) ∧ Below w.heap.size w w' := by
  go_enter Try.func5, Try.ntmps5
  go_wp2_with fail
  obtain ⟨K, hK, eK⟩ := uint_mod n 25 (by omega) (by omega)
  rw [show ((25 : Nat) : Int) = 25 from rfl] at eK
  simp only [eK]
  obtain ⟨V, hV, eV⟩ := masked v K (by omega)
  rw [eV]
  have EK := Lib.hid eK
  have EV := Lib.hid eV
  have hr := rev_lt V K
  have hrr := rev_rev V K hV
  have hp := pow_le24 K (by omega)
  have HRR := Lib.hid hrr
  clear eK eV hrr
  refine (turn_yes V K w (by omega) hV).mono ?_
  rintro e w1 ⟨rfl, rfl⟩
  go_wp2_with fail
  refine (turn_yes (rev V K) K w (by omega) hr).mono ?_
  rw [HRR.out]
  rintro e w1 ⟨rfl, rfl⟩
  go_wp2_with fail
  go_loop [9] (fun i => ∃ j : Nat, j ≤ K ∧ i = .int .i64 (j : Int)) (fun i => K - (intOf i).toNat)
  case atStart => exact ⟨0, Nat.zero_le _, rfl⟩
  case round =>
    obtain ⟨j, hj, rfl⟩ := hrel
    by_cases hlt : j < K
    · have hb : (bits .and .i64 ((rev V K : Int) / 2 ^ j) 1 != bits .and .i64 ((V : Int) / 2 ^ (K - 1 - j)) 1) = false := by
        rw [bit_i64 _ _ (by omega), bit_i64 _ _ (by omega), rev_bit V K j hlt]; simp
      go_wp2_with fail
      go_round
      case rel => exact ⟨j + 1, by omega, by go_num⟩
      case measure => simp [intOf]; omega
    · have hf : fitsB (wrap64 (2 ^ K)) K = false := by
        rw [pow2_cast, wrap64_nat _ (by omega)]
        simp only [fitsB, decide_eq_false_iff_not]
        rintro ⟨_, _, _, h⟩
        rw [Int.toNat_natCast, pow2_cast] at h
        omega
      have HF := Lib.hid hf
      clear hf
      go_wp2_with fail
      refine (turn_no _ K w HF.out).mono ?_
      rintro e w1 ⟨rfl, rfl⟩
      have hlt2 : (rev V K : Int) < wrap64 (2 ^ K) := by rw [pow2_cast, wrap64_nat _ (by omega)]; omega
      go_wp2_with fail
      refine (wakes_any w).mono ?_
      rintro e w1 ⟨rfl, hb1⟩
      go_wp2
      go_ret
      exact ⟨rfl, hb1⟩
end Go.Proofs.Ytiopoaenpajlmaa
