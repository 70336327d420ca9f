/-
  SumsExact: the sums of any text, of any width and divisor, or why there is none, are the page's.
-/
import Derived.Test.YtcghjjldjfghgaaSumsRef
import Derived.Test.YtcghjjldjfghgaaApp
namespace Go.Proofs.Ytcghjjldjfghgaa
open Go.RowKit

theorem refShort_any (A : Option Addr) (n c : Nat) (l : List UInt8) (w : World) (B : Nat) (h : ByteS w B A n l) (hl : n < 140737488355328) :
    Calls Try.prog 15 #[.slice A n c] w fun e w' => e = .returned (.int .i64 (crc 33800 16 l)) ∧ w = w' := by
  go_enter Try.func15, Try.ntmps15
  go_wp2_with fail
  refine (refCarry_any A n c l 16 33800 w B h hl (by omega) (by omega) (by omega)).mono ?_
  rintro e w1 ⟨rfl, rfl⟩
  go_wp2
  go_ret
  exact ⟨rfl, rfl⟩
theorem refLong_any (A : Option Addr) (n c : Nat) (l : List UInt8) (w : World) (B : Nat) (h : ByteS w B A n l) (hl : n < 140737488355328) :
    Calls Try.prog 17 #[.slice A n c] w fun e w' => e = .returned (.int .i64 (crc 3988292384 32 l)) ∧ w = w' := by
  go_enter Try.func17, Try.ntmps17
  go_wp2_with fail
  refine (refCarry_any A n c l 32 3988292384 w B h hl (by omega) (by omega) (by omega)).mono ?_
  rintro e w1 ⟨rfl, rfl⟩
  go_wp2
  go_ret
  exact ⟨rfl, rfl⟩

set_option maxHeartbeats 1000000 in
theorem carry_no (A : Option Addr) (n c : Nat) (k d : Int) (w : World) (h : rightCarry k d = false) :
    Calls Try.prog 10 #[.slice A n c, .int .i64 k, .int .i64 d] w fun e w' => e = .returned (.tuple #[.int .i64 0, .int .i64 1]) ∧ w = w' := by
  simp only [rightCarry, decide_eq_false_iff_not] at h
  by_cases h1 : k < 1
  · have d1 : decide (k < 1) = true := by simp; omega
    go_enter Try.func10, Try.ntmps10
    go_wp2_with fail
    go_ret2
    exact ⟨rfl, rfl⟩
  · have d1 : decide (k < 1) = false := by simp; omega
    by_cases h2 : 32 < k
    · have d2 : decide (32 < k) = true := by simp; omega
      go_enter Try.func10, Try.ntmps10
      go_wp2_with fail
      go_ret2
      exact ⟨rfl, rfl⟩
    · have d2 : decide (32 < k) = false := by simp; omega
      obtain ⟨K, rfl⟩ := Int.eq_ofNat_of_zero_le (show 0 ≤ k by omega)
      by_cases h3 : d < 0
      · have d3 : decide (d < 0) = true := by simp; omega
        clear h
        go_enter Try.func10, Try.ntmps10
        go_wp2_with fail
        go_ret2
        exact ⟨rfl, rfl⟩
      · have d3 : decide (d < 0) = false := by simp; omega
        have d4 : decide (wrap64 (2 ^ K) ≤ d) = true := by
          rw [shl_one_i K (by omega), decide_eq_true_eq]
          rw [Int.toNat_natCast, pow2_cast] at h
          omega
        clear h
        go_enter Try.func10, Try.ntmps10
        go_wp2_with fail
        go_ret2
        exact ⟨rfl, rfl⟩

set_option maxRecDepth 100000 in
set_option maxHeartbeats 2000000 in
theorem sumsExact_walk (w : World) (A : Option Addr) (n c : Nat) (l : List UInt8) (hb : ByteS w w.heap.size A n l) (_hm : n ≤ maxLen) (k : Int) (_wk : (Lit.int .i64 k).wf = true) (d : Int) (_wd : (Lit.int .i64 d).wf = true) :
    Calls Try.prog 3 #[.slice A n c, .int .i64 k, .int .i64 d] w fun e w' => e = .returned (.bool true) ∧ Below w.heap.size w w' := by
  by_cases h1 : 600 < n
  · go_enter Try.func3, Try.ntmps3
    go_wp2_with fail
    go_ret
    exact ⟨rfl, Below.refl _ _⟩
  · clear _hm
    have hln := hb.len
    have hl6 : l.length ≤ 600 := by omega
    clear hln
    go_enter Try.func3, Try.ntmps3
    go_wp2_with fail
    refine (twin_any A n c l w _ hb (by omega)).mono ?_
    rintro e w1 ⟨v1, rfl, hn1⟩
    obtain ⟨A1, c1, rfl, hr1⟩ := hn1.slice
    have hb1 := hb.below' hn1.2
    go_wp2_with fail
    by_cases hr : rightCarry k d = true
    · have hr' := hr
      simp only [rightCarry, decide_eq_true_eq] at hr'
      obtain ⟨K, rfl⟩ := Int.eq_ofNat_of_zero_le (show 0 ≤ k by omega)
      obtain ⟨D, rfl⟩ := Int.eq_ofNat_of_zero_le (show 0 ≤ d by omega)
      obtain ⟨q1, q2, q3, q4⟩ := hr'
      rw [Int.toNat_natCast, pow2_cast] at q4
      have q5 : D < 2 ^ K := by omega
      have q6 : D < 4294967296 := by have : 2 ^ K ≤ 2 ^ 32 := Nat.pow_le_pow_right (by omega) (by omega); omega
      have HR := Lib.hid hr
      have Q5 := Lib.hid q5
      clear hr q4 q5
      refine (carry_yes A1 l.length c1 l K D w1 hr1 (by omega) (by omega) (by omega) Q5.out).mono ?_
      rintro e w2 ⟨rfl, x2⟩
      have hb2 := hb1.below' x2
      have hr2 := hr1.below' x2
      go_wp2_with fail
      refine (rightCarry_any K D w2).mono ?_
      rw [HR.out]
      rintro e w3 ⟨rfl, rfl⟩
      go_wp2_with fail
      refine (refCarry_any A n c l K D w2 _ hb2 (by omega) (by omega) (by omega) q6).mono ?_
      rintro e w3 ⟨rfl, rfl⟩
      go_wp2_with fail
      refine (short_any A1 l.length c1 l w2 hr2 (by omega)).mono ?_
      rintro e w3 ⟨rfl, x3⟩
      have hb3 := hb2.below' x3
      have hr3 := hr2.below' x3
      go_wp2_with fail
      refine (refShort_any A n c l w3 _ hb3 (by omega)).mono ?_
      rintro e w4 ⟨rfl, rfl⟩
      go_wp2_with fail
      refine (long_any A1 l.length c1 l w3 hr3 (by omega)).mono ?_
      rintro e w4 ⟨rfl, x4⟩
      have hb4 := hb3.below' x4
      have hr4 := hr3.below' x4
      go_wp2_with fail
      refine (refLong_any A n c l w4 _ hb4 (by omega)).mono ?_
      rintro e w5 ⟨rfl, rfl⟩
      go_wp2_with fail
      refine (keepBytes_any A1 A l.length n l l c1 c w4 _ hr4 hb4 (by omega)).mono ?_
      rintro e w5 ⟨rfl, m, rfl⟩
      go_wp2_with fail
      refine (wakes_any _).mono ?_
      rintro e wz ⟨rfl, xz⟩
      go_wp2_with fail
      go_ret
      exact ⟨by simp, hn1.2.trans (((x2.trans ((x3.trans ((below_drewN x4 m).trans (xz.mono (below_drewN x4 m).size) |>.mono x3.size)).mono x2.size))).mono hn1.2.size)⟩
    · have hr0 : rightCarry k d = false := by simpa using hr
      clear hr
      have hr' := Lib.hid hr0
      clear hr0
      refine (carry_no A1 l.length c1 k d w1 hr'.out).mono ?_
      rintro e w2 ⟨rfl, rfl⟩
      go_wp2_with fail
      refine (rightCarry_any k d w1).mono ?_
      rw [hr'.out]
      rintro e w3 ⟨rfl, rfl⟩
      go_wp2_with fail
      refine (wakes_any _).mono ?_
      rintro e wz ⟨rfl, xz⟩
      go_wp2_with fail
      go_ret
      exact ⟨rfl, hn1.2.trans (xz.mono hn1.2.size)⟩
end Go.Proofs.Ytcghjjldjfghgaa
