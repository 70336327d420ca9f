/-
  BitsParts: a number got at once is its parts, got one behind the other: the lower one first.
-/
import Derived.Test.YtiopoaenpajlmaaBfill
namespace Go.Proofs.Ytiopoaenpajlmaa
open Go.RowKit

theorem get_some (A : Option Addr) (n c : Nat) (l : List UInt8) (a k : Nat) (w : World) (B : Nat) (h : ByteS w B A n l) (hl : n < 140737488355328) (hk : k ≤ 24) (ha : a ≤ 8 * n) :
    Calls Try.prog 18 #[.slice A n c, .int .i64 a, .int .i64 k] w fun e w' => ∃ x y z : Int, e = .returned (.tuple #[.int .i64 x, .int .i64 y, .int .i64 z]) ∧ w = w' := by
  by_cases h1 : a + k ≤ 8 * n
  · exact (get_yes A n c l a k w B h hl hk h1).mono fun e w' ⟨he, hw⟩ => ⟨_, _, _, he, hw⟩
  · exact (get_short A n c a k w hl hk (by omega) ha).mono fun e w' ⟨he, hw⟩ => ⟨_, _, _, he, hw⟩
theorem getN_parts (l : List UInt8) (a n k : Nat) : getN l a (n + k) = getN l a n + getN l (a + n) k * 2 ^ n := by
  unfold getN
  rw [Nat.pow_add 2 n k, Nat.mod_mul, Nat.div_div_eq_div_mul, ← Nat.pow_add]
  rw [Nat.mul_comm]
theorem parts_or (x y n k : Nat) (hx : x < 2 ^ n) (hy : y < 2 ^ k) (h : n + k ≤ 24) : bits .or .i64 (x : Int) (wrap64 ((y : Int) * 2 ^ n)) = ((x + y * 2 ^ n : Nat) : Int) := by
  have h1 : y * 2 ^ n < 2 ^ k * 2 ^ n := Nat.mul_lt_mul_of_pos_right hy (Nat.pow_pos (by omega))
  rw [← Nat.pow_add] at h1
  have h2 := pow_le24 (k + n) (by omega)
  have h3 := pow_le24 n (by omega)
  rw [pow2_cast, ← Int.natCast_mul, wrap64_nat _ (by omega), or_i64 _ _ (by omega) (by omega), or_add _ _ _ hx]

set_option maxHeartbeats 2000000 in
theorem bitsParts_walk (w : World) (A : Option Addr) (len c : Nat) (l : List UInt8) (hb : ByteS w w.heap.size A len l) (_hm : len ≤ maxLen) (a : Int) (_wa : (Lit.int .i64 a).wf = true) (n : Int) (_wn : (Lit.int .i64 n).wf = true) (k : Int) (_wk : (Lit.int .i64 k).wf = true) :
    Calls Try.prog 6 #[.slice A len c, .int .i64 a, .int .i64 n, .int .i64 k] w fun e w' => e = .returned (.bool true) ∧ Below w.heap.size w w' := by
  by_cases h1 : 600 < len
  · have d1 : decide ((600 : Int) < len) = true := by simp; omega
    go_enter Try.func6, Try.ntmps6
    go_wp2
    go_ret
    exact ⟨rfl, Below.refl _ _⟩
  · have d1 : decide ((600 : Int) < len) = false := by simp; omega
    by_cases h0 : len = 0
    · have d2 : ((len : Int) == 0) = true := by simp [h0]
      go_enter Try.func6, Try.ntmps6
      go_wp2
      go_ret
      exact ⟨rfl, Below.refl _ _⟩
    · have d2 : ((len : Int) == 0) = false := by simp [h0]
      have h0' : 0 < len := by omega
      clear h0
      go_enter Try.func6, Try.ntmps6
      go_wp2_with fail
      obtain ⟨a', ha, ea⟩ := uint_mod a (8 * len) (by omega) (by omega)
      obtain ⟨n', hn, en⟩ := uint_mod n 13 (by omega) (by omega)
      obtain ⟨k', hk, ek⟩ := uint_mod k 12 (by omega) (by omega)
      rw [show ((8 * len : Nat) : Int) = 8 * (len : Int) by omega] at ea
      rw [show ((13 : Nat) : Int) = 13 from rfl] at en
      rw [show ((12 : Nat) : Int) = 12 from rfl] at ek
      simp only [ea, en, ek]
      clear ea en ek
      by_cases c1 : a' + n' ≤ 8 * len
      · have hx : getN l a' n' < 2 ^ n' := Nat.mod_lt _ (Nat.pow_pos (by omega))
        have hy : getN l (a' + n') k' < 2 ^ k' := Nat.mod_lt _ (Nat.pow_pos (by omega))
        have hpx := pow_le24 n' (by omega)
        have hpy := pow_le24 k' (by omega)
        refine (get_yes A len c l a' n' w _ hb (by omega) (by omega) c1).mono ?_
        rintro e w1 ⟨rfl, rfl⟩
        go_wp2_with fail
        rw [show (a' : Int) + n' = ((a' + n' : Nat) : Int) by omega]
        by_cases c2 : a' + n' + k' ≤ 8 * len
        · refine (get_yes A len c l (a' + n') k' w _ hb (by omega) (by omega) c2).mono ?_
          rintro e w1 ⟨rfl, rfl⟩
          go_wp2_with fail
          rw [show (n' : Int) + k' = ((n' + k' : Nat) : Int) by omega]
          have hor := parts_or _ _ n' k' hx hy (by omega)
          rw [← getN_parts] at hor
          refine (get_yes A len c l a' (n' + k') w _ hb (by omega) (by omega) (by omega)).mono ?_
          rintro e w1 ⟨rfl, rfl⟩
          have d3 : ((getN l a' (n' + k') : Int) == bits .or .i64 (getN l a' n') (wrap64 ((getN l (a' + n') k' : Int) * 2 ^ n'))) = true := by rw [hor]; simp
          have d4 : ((a' : Int) + n' + k' == a' + (n' + k')) = true := by simp; omega
          clear hor
          go_wp2_with fail
          refine (wakes_any w).mono ?_
          rintro e w1 ⟨rfl, hb1⟩
          go_wp2
          go_ret
          exact ⟨rfl, hb1⟩
        · refine (get_short A len c (a' + n') k' w (by omega) (by omega) (by omega) (by omega)).mono ?_
          rintro e w1 ⟨rfl, rfl⟩
          go_wp2_with fail
          rw [show (n' : Int) + k' = ((n' + k' : Nat) : Int) by omega]
          refine (get_short A len c a' (n' + k') w (by omega) (by omega) (by omega) (by omega)).mono ?_
          rintro e w1 ⟨rfl, rfl⟩
          go_wp2_with fail
          refine (wakes_any w).mono ?_
          rintro e w1 ⟨rfl, hb1⟩
          go_wp2
          go_ret
          exact ⟨rfl, hb1⟩
      · refine (get_short A len c a' n' w (by omega) (by omega) (by omega) (by omega)).mono ?_
        rintro e w1 ⟨rfl, rfl⟩
        go_wp2_with fail
        refine (get_some A len c l 0 k' w _ hb (by omega) (by omega) (by omega)).mono ?_
        rintro e w1 ⟨x, y, z, rfl, rfl⟩
        go_wp2_with fail
        rw [show (n' : Int) + k' = ((n' + k' : Nat) : Int) by omega]
        refine (get_short A len c a' (n' + k') w (by omega) (by omega) (by omega) (by omega)).mono ?_
        rintro e w1 ⟨rfl, rfl⟩
        go_wp2_with fail
        refine (wakes_any w).mono ?_
        rintro e w1 ⟨rfl, hb1⟩
        go_wp2
        go_ret
        exact ⟨rfl, hb1⟩
end Go.Proofs.Ytiopoaenpajlmaa
