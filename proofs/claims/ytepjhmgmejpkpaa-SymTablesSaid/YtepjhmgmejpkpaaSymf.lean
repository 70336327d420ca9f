/-
  The symbol of a value; Len, Dist, LenOf, DistOf.
-/
import Derived.Test.YtepjhmgmejpkpaaSymw
namespace Go.Proofs.Ytepjhmgmejpkpaa
open Go.RowKit

theorem step_lens : ∀ j : Fin 32, leastN 3 8 4 (j.val + 1) = leastN 3 8 4 j.val + 2 ^ moreN 8 4 j.val := by decide +kernel
theorem top_lens : ∀ j : Fin 41, 27 < j.val → 257 < leastN 3 8 4 j.val := by decide +kernel
theorem more_lens : ∀ j : Fin 41, moreN 8 4 j.val ≤ 20 ∧ leastN 3 8 4 j.val ≤ 4000000 := by decide +kernel
/-- the symbol of n is the one whose values hold n -/
def Sym_lens (n j : Nat) : Prop := j ≤ 27 ∧ leastN 3 8 4 j ≤ n ∧ n < leastN 3 8 4 j + 2 ^ moreN 8 4 j
set_option maxHeartbeats 1000000 in
theorem find_lens (n : Nat) (w : World) (h0 : 3 ≤ n) (h1 : n ≤ 257) :
    Calls Try.prog 29 #[.agg #[.int .i64 3, .int .i64 8, .int .i64 4], .int .i64 n] w fun e w' => ∃ j, Sym_lens n j ∧ e = .returned (.tuple #[.int .i64 (j : Int), .int .i64 (moreN 8 4 j), .int .i64 ((n - leastN 3 8 4 j : Nat) : Int)]) ∧ Below w.heap.size w w' := by
  go_enter Try.func29, Try.ntmps29
  go_wp2
  go_loopg [4, 7, 8] 28 (fun g s _ _ wx => ∃ j : Nat, j ≤ 27 ∧ g = 28 - j ∧ s = .int .i64 (j : Int) ∧ leastN 3 8 4 j ≤ n ∧ wx.cell? ⟨w.heap.size, 0, none⟩ = some (.int .i64 3) ∧ wx.cell? ⟨w.heap.size, 1, none⟩ = some (.int .i64 8) ∧ wx.cell? ⟨w.heap.size, 2, none⟩ = some (.int .i64 4) ∧ Below w.heap.size w wx ∧ w.heap.size < wx.heap.size)
  case atStart => exact ⟨0, by omega, rfl, rfl, h0, by simp [go_sem], by simp [go_sem], by simp [go_sem], (Below.refl _ _).alloc (Nat.le_refl _) _, by simp⟩
  case round =>
    obtain ⟨j, hj, rfl, rfl, hle, g0, g1, g2, hb, hsz⟩ := hrel
    have hst := step_lens ⟨j, by omega⟩
    have hmo := more_lens ⟨j, by omega⟩
    have htp := top_lens ⟨j + 1, by omega⟩
    simp only at hst hmo htp
    obtain ⟨hm1, hm2⟩ := hmo
    have hsh := shl_small 1 (moreN 8 4 j) (by omega) (by omega)
    have hp30 : 2 ^ moreN 8 4 j ≤ 2 ^ 20 := Nat.pow_le_pow_right (by omega) hm1
    rw [show (((1 : Nat) : Int)) = 1 from rfl, Int.one_mul, Nat.one_mul] at hsh
    have HST := Lib.hid hst
    have HTP := Lib.hid htp
    clear hst htp
    go_wp2_with fail
    refine (symbol_lens j wr (by omega)).mono ?_
    rintro e w1 ⟨rfl, hb1⟩
    have q0 := (hb1.cell (p := ⟨w.heap.size, 0, none⟩) hsz).trans g0
    have q1 := (hb1.cell (p := ⟨w.heap.size, 1, none⟩) hsz).trans g1
    have q2 := (hb1.cell (p := ⟨w.heap.size, 2, none⟩) hsz).trans g2
    have hbw := hb.trans (hb1.mono hb.size)
    have hszw := Nat.lt_of_lt_of_le hsz hb1.size
    by_cases hlt : n < leastN 3 8 4 j + 2 ^ moreN 8 4 j
    · have hd : Hid (Sym_lens n j) := ⟨hj, hle, hlt⟩
      have d1 : decide ((n : Int) - leastN 3 8 4 j < wrap64 (2 ^ moreN 8 4 j)) = true := by rw [hsh, decide_eq_true_eq]; clear hsh; generalize 2 ^ moreN 8 4 j = x at *; omega
      have d2 : (n : Int) - leastN 3 8 4 j = ((n - leastN 3 8 4 j : Nat) : Int) := by omega
      have D2 := Lib.hid d2
      clear d2 hsh
      go_wp2
      go_ret3
      refine ⟨j, hd.out, ?_, hbw⟩
      exact ret_i3 rfl rfl (by first | exact D2.out | (rw [wrap64_nat _ (by omega)]) | omega)
    · have d1 : decide ((n : Int) - leastN 3 8 4 j < wrap64 (2 ^ moreN 8 4 j)) = false := by rw [hsh, decide_eq_false_iff_not]; clear hsh; generalize 2 ^ moreN 8 4 j = x at *; omega
      clear hsh
      have hle2 : Hid (leastN 3 8 4 (j + 1) ≤ n) := by unfold Hid; rw [HST.out]; omega
      have hj2 : j + 1 ≤ 27 := by
        have h8 := hle2.out
        rcases Nat.lt_or_ge 27 (j + 1) with h9 | h9
        · have := HTP.out h9; omega
        · exact h9
      go_wp2
      go_roundg (28 - (j + 1))
      case measure => omega
      case rel => exact ⟨j + 1, hj2, rfl, by go_num, hle2.out, q0, q1, q2, hbw, hszw⟩

theorem step_dists : ∀ j : Fin 32, leastN 1 4 2 (j.val + 1) = leastN 1 4 2 j.val + 2 ^ moreN 4 2 j.val := by decide +kernel
theorem top_dists : ∀ j : Fin 41, 29 < j.val → 32768 < leastN 1 4 2 j.val := by decide +kernel
theorem more_dists : ∀ j : Fin 41, moreN 4 2 j.val ≤ 20 ∧ leastN 1 4 2 j.val ≤ 4000000 := by decide +kernel
/-- the symbol of n is the one whose values hold n -/
def Sym_dists (n j : Nat) : Prop := j ≤ 29 ∧ leastN 1 4 2 j ≤ n ∧ n < leastN 1 4 2 j + 2 ^ moreN 4 2 j
set_option maxHeartbeats 1000000 in
theorem find_dists (n : Nat) (w : World) (h0 : 1 ≤ n) (h1 : n ≤ 32768) :
    Calls Try.prog 29 #[.agg #[.int .i64 1, .int .i64 4, .int .i64 2], .int .i64 n] w fun e w' => ∃ j, Sym_dists n j ∧ e = .returned (.tuple #[.int .i64 (j : Int), .int .i64 (moreN 4 2 j), .int .i64 ((n - leastN 1 4 2 j : Nat) : Int)]) ∧ Below w.heap.size w w' := by
  go_enter Try.func29, Try.ntmps29
  go_wp2
  go_loopg [4, 7, 8] 30 (fun g s _ _ wx => ∃ j : Nat, j ≤ 29 ∧ g = 30 - j ∧ s = .int .i64 (j : Int) ∧ leastN 1 4 2 j ≤ n ∧ wx.cell? ⟨w.heap.size, 0, none⟩ = some (.int .i64 1) ∧ wx.cell? ⟨w.heap.size, 1, none⟩ = some (.int .i64 4) ∧ wx.cell? ⟨w.heap.size, 2, none⟩ = some (.int .i64 2) ∧ Below w.heap.size w wx ∧ w.heap.size < wx.heap.size)
  case atStart => exact ⟨0, by omega, rfl, rfl, h0, by simp [go_sem], by simp [go_sem], by simp [go_sem], (Below.refl _ _).alloc (Nat.le_refl _) _, by simp⟩
  case round =>
    obtain ⟨j, hj, rfl, rfl, hle, g0, g1, g2, hb, hsz⟩ := hrel
    have hst := step_dists ⟨j, by omega⟩
    have hmo := more_dists ⟨j, by omega⟩
    have htp := top_dists ⟨j + 1, by omega⟩
    simp only at hst hmo htp
    obtain ⟨hm1, hm2⟩ := hmo
    have hsh := shl_small 1 (moreN 4 2 j) (by omega) (by omega)
    have hp30 : 2 ^ moreN 4 2 j ≤ 2 ^ 20 := Nat.pow_le_pow_right (by omega) hm1
    rw [show (((1 : Nat) : Int)) = 1 from rfl, Int.one_mul, Nat.one_mul] at hsh
    have HST := Lib.hid hst
    have HTP := Lib.hid htp
    clear hst htp
    go_wp2_with fail
    refine (symbol_dists j wr (by omega)).mono ?_
    rintro e w1 ⟨rfl, hb1⟩
    have q0 := (hb1.cell (p := ⟨w.heap.size, 0, none⟩) hsz).trans g0
    have q1 := (hb1.cell (p := ⟨w.heap.size, 1, none⟩) hsz).trans g1
    have q2 := (hb1.cell (p := ⟨w.heap.size, 2, none⟩) hsz).trans g2
    have hbw := hb.trans (hb1.mono hb.size)
    have hszw := Nat.lt_of_lt_of_le hsz hb1.size
    by_cases hlt : n < leastN 1 4 2 j + 2 ^ moreN 4 2 j
    · have hd : Hid (Sym_dists n j) := ⟨hj, hle, hlt⟩
      have d1 : decide ((n : Int) - leastN 1 4 2 j < wrap64 (2 ^ moreN 4 2 j)) = true := by rw [hsh, decide_eq_true_eq]; clear hsh; generalize 2 ^ moreN 4 2 j = x at *; omega
      have d2 : (n : Int) - leastN 1 4 2 j = ((n - leastN 1 4 2 j : Nat) : Int) := by omega
      have D2 := Lib.hid d2
      clear d2 hsh
      go_wp2
      go_ret3
      refine ⟨j, hd.out, ?_, hbw⟩
      exact ret_i3 rfl rfl (by first | exact D2.out | (rw [wrap64_nat _ (by omega)]) | omega)
    · have d1 : decide ((n : Int) - leastN 1 4 2 j < wrap64 (2 ^ moreN 4 2 j)) = false := by rw [hsh, decide_eq_false_iff_not]; clear hsh; generalize 2 ^ moreN 4 2 j = x at *; omega
      clear hsh
      have hle2 : Hid (leastN 1 4 2 (j + 1) ≤ n) := by unfold Hid; rw [HST.out]; omega
      have hj2 : j + 1 ≤ 29 := by
        have h8 := hle2.out
        rcases Nat.lt_or_ge 29 (j + 1) with h9 | h9
        · have := HTP.out h9; omega
        · exact h9
      go_wp2
      go_roundg (30 - (j + 1))
      case measure => omega
      case rel => exact ⟨j + 1, hj2, rfl, by go_num, hle2.out, q0, q1, q2, hbw, hszw⟩

theorem ret_i4 {k1 k2 k3 k4 : IntKind} {a a' b b' c c' d d' : Int} (h1 : a = a') (h2 : b = b') (h3 : c = c') (h4 : d = d') : Ending.returned (.tuple #[.int k1 a, .int k2 b, .int k3 c, .int k4 d]) = .returned (.tuple #[.int k1 a', .int k2 b', .int k3 c', .int k4 d']) := by rw [h1, h2, h3, h4]

set_option maxHeartbeats 1000000 in
theorem len_yes (n : Nat) (w : World) (h0 : 3 ≤ n) (h1 : n ≤ 257) :
    Calls Try.prog 9 #[.int .i64 n] w fun e w' => ∃ j, Sym_lens n j ∧ e = .returned (.tuple #[.int .i64 ((257 + j : Nat) : Int), .int .i64 (moreN 8 4 j), .int .i64 ((n - leastN 3 8 4 j : Nat) : Int), .int .i64 0]) ∧ Below w.heap.size w w' := by
  have d1 : decide ((n : Int) < 3) = false := by simp; omega
  have d2 : decide ((258 : Int) < n) = false := by simp; omega
  have d3 : ((n : Int) == 258) = false := by simp; omega
  go_enter Try.func9, Try.ntmps9
  go_wp2_with fail
  refine (lens_any w).mono ?_
  rintro e w1 ⟨rfl, hb1⟩
  go_wp2_with fail
  refine (find_lens n w1 h0 h1).mono ?_
  rintro e w2 ⟨j, hj, rfl, hb2⟩
  have hj27 := hj.1
  go_wp2_with fail
  refine bodyPost_ret (v := .tuple #[.int .i64 (257 + (j : Int)), .int .i64 (moreN 8 4 j), .int .i64 ((n - leastN 3 8 4 j : Nat) : Int), .int .i64 0]) (by simp [results, Try.results9, go_sem]) rfl ⟨j, hj, ret_i4 (by omega) rfl rfl rfl, hb1.trans (hb2.mono hb1.size)⟩
theorem len_top (w : World) :
    Calls Try.prog 9 #[.int .i64 258] w fun e w' => e = .returned (.tuple #[.int .i64 285, .int .i64 0, .int .i64 0, .int .i64 0]) ∧ Below w.heap.size w w' := by
  go_enter Try.func9, Try.ntmps9
  go_wp2_with fail
  refine bodyPost_ret (v := .tuple #[.int .i64 285, .int .i64 0, .int .i64 0, .int .i64 0]) (by simp [results, Try.results9, go_sem]) rfl ⟨rfl, Below.refl _ _⟩
theorem len_no (n : Int) (w : World) (h : n < 3 ∨ 258 < n) :
    Calls Try.prog 9 #[.int .i64 n] w fun e w' => e = .returned (.tuple #[.int .i64 0, .int .i64 0, .int .i64 0, .int .i64 1]) ∧ Below w.heap.size w w' := by
  by_cases h0 : n < 3
  · have d1 : decide (n < 3) = true := by simp; omega
    go_enter Try.func9, Try.ntmps9
    go_wp2_with fail
    refine bodyPost_ret (v := .tuple #[.int .i64 0, .int .i64 0, .int .i64 0, .int .i64 1]) (by simp [results, Try.results9, go_sem]) rfl ⟨rfl, Below.refl _ _⟩
  · have d1 : decide (n < 3) = false := by simp; omega
    have d2 : decide (258 < n) = true := by simp; omega
    go_enter Try.func9, Try.ntmps9
    go_wp2_with fail
    refine bodyPost_ret (v := .tuple #[.int .i64 0, .int .i64 0, .int .i64 0, .int .i64 1]) (by simp [results, Try.results9, go_sem]) rfl ⟨rfl, Below.refl _ _⟩
set_option maxHeartbeats 1000000 in
theorem dist_yes (n : Nat) (w : World) (h0 : 1 ≤ n) (h1 : n ≤ 32768) :
    Calls Try.prog 11 #[.int .i64 n] w fun e w' => ∃ j, Sym_dists n j ∧ e = .returned (.tuple #[.int .i64 (j : Int), .int .i64 (moreN 4 2 j), .int .i64 ((n - leastN 1 4 2 j : Nat) : Int), .int .i64 0]) ∧ Below w.heap.size w w' := by
  have d1 : decide ((n : Int) < 1) = false := by simp; omega
  have d2 : decide ((32768 : Int) < n) = false := by simp; omega
  go_enter Try.func11, Try.ntmps11
  go_wp2_with fail
  refine (dists_any w).mono ?_
  rintro e w1 ⟨rfl, hb1⟩
  go_wp2_with fail
  refine (find_dists n w1 h0 h1).mono ?_
  rintro e w2 ⟨j, hj, rfl, hb2⟩
  go_wp2_with fail
  refine bodyPost_ret (v := .tuple #[.int .i64 (j : Int), .int .i64 (moreN 4 2 j), .int .i64 ((n - leastN 1 4 2 j : Nat) : Int), .int .i64 0]) (by simp [results, Try.results11, go_sem]) rfl ⟨j, hj, rfl, hb1.trans (hb2.mono hb1.size)⟩
theorem dist_int (n : Int) (w : World) (h0 : 1 ≤ n) (h1 : n ≤ 32768) :
    Calls Try.prog 11 #[.int .i64 n] w fun e w' => ∃ j, Sym_dists n.toNat j ∧ e = .returned (.tuple #[.int .i64 (j : Int), .int .i64 (moreN 4 2 j), .int .i64 (n - (leastN 1 4 2 j : Int)), .int .i64 0]) ∧ Below w.heap.size w w' := by
  obtain ⟨P, rfl⟩ := Int.eq_ofNat_of_zero_le (show 0 ≤ n by omega)
  refine (dist_yes P w (by omega) (by omega)).mono ?_
  rintro e w' ⟨j, hj, rfl, hb⟩
  have hle := hj.2.1
  refine ⟨j, by rw [Int.toNat_natCast]; exact hj, ret_i4 rfl rfl (by omega) rfl, hb⟩
theorem dist_no (n : Int) (w : World) (h : n < 1 ∨ 32768 < n) :
    Calls Try.prog 11 #[.int .i64 n] w fun e w' => e = .returned (.tuple #[.int .i64 0, .int .i64 0, .int .i64 0, .int .i64 1]) ∧ Below w.heap.size w w' := by
  by_cases h0 : n < 1
  · have d1 : decide (n < 1) = true := by simp; omega
    go_enter Try.func11, Try.ntmps11
    go_wp2_with fail
    refine bodyPost_ret (v := .tuple #[.int .i64 0, .int .i64 0, .int .i64 0, .int .i64 1]) (by simp [results, Try.results11, go_sem]) rfl ⟨rfl, Below.refl _ _⟩
  · have d1 : decide (n < 1) = false := by simp; omega
    have d2 : decide (32768 < n) = true := by simp; omega
    go_enter Try.func11, Try.ntmps11
    go_wp2_with fail
    refine bodyPost_ret (v := .tuple #[.int .i64 0, .int .i64 0, .int .i64 0, .int .i64 1]) (by simp [results, Try.results11, go_sem]) rfl ⟨rfl, Below.refl _ _⟩
set_option maxHeartbeats 1000000 in
theorem lenOf_yes (s : Nat) (w : World) (h1 : s ≤ 27) :
    Calls Try.prog 13 #[.int .i64 ((257 + s : Nat) : Int)] w fun e w' => e = .returned (.tuple #[.int .i64 (leastN 3 8 4 s), .int .i64 (moreN 8 4 s), .int .i64 0]) ∧ Below w.heap.size w w' := by
  obtain ⟨q, hq⟩ : ∃ q : Nat, q = 257 + s := ⟨_, rfl⟩
  rw [← hq]
  have d1 : decide ((q : Int) < 257) = false := by simp; omega
  have d2 : decide ((285 : Int) < q) = false := by simp; omega
  have d3 : ((q : Int) == 285) = false := by simp; omega
  have hs : s = q - 257 := by omega
  have hq0 : 257 ≤ q := by omega
  have hq1 : q ≤ 284 := by omega
  have HS := Lib.hid hs
  clear hs hq
  go_enter Try.func13, Try.ntmps13
  go_wp2_with fail
  refine (lens_any w).mono ?_
  rintro e w1 ⟨rfl, hb1⟩
  go_wp2_with fail
  rw [show (q : Int) - 257 = (s : Int) by have := HS.out; omega]
  refine (symbol_lens s w1 (by omega)).mono ?_
  rintro e w2 ⟨rfl, hb2⟩
  go_wp2_with fail
  go_ret3
  exact ⟨rfl, hb1.trans (hb2.mono hb1.size)⟩
theorem lenOf_top (w : World) :
    Calls Try.prog 13 #[.int .i64 285] w fun e w' => e = .returned (.tuple #[.int .i64 258, .int .i64 0, .int .i64 0]) ∧ Below w.heap.size w w' := by
  go_enter Try.func13, Try.ntmps13
  go_wp2_with fail
  go_ret3
  exact ⟨rfl, Below.refl _ _⟩
theorem lenOf_no (n : Int) (w : World) (h : n < 257 ∨ 285 < n) :
    Calls Try.prog 13 #[.int .i64 n] w fun e w' => e = .returned (.tuple #[.int .i64 0, .int .i64 0, .int .i64 1]) ∧ Below w.heap.size w w' := by
  by_cases h0 : n < 257
  · have d1 : decide (n < 257) = true := by simp; omega
    go_enter Try.func13, Try.ntmps13
    go_wp2_with fail
    go_ret3
    exact ⟨rfl, Below.refl _ _⟩
  · have d1 : decide (n < 257) = false := by simp; omega
    have d2 : decide (285 < n) = true := by simp; omega
    go_enter Try.func13, Try.ntmps13
    go_wp2_with fail
    go_ret3
    exact ⟨rfl, Below.refl _ _⟩
set_option maxHeartbeats 1000000 in
theorem distOf_yes (s : Nat) (w : World) (h1 : s ≤ 29) :
    Calls Try.prog 15 #[.int .i64 (s : Int)] w fun e w' => e = .returned (.tuple #[.int .i64 (leastN 1 4 2 s), .int .i64 (moreN 4 2 s), .int .i64 0]) ∧ Below w.heap.size w w' := by
  have d1 : decide ((s : Int) < 0) = false := by simp
  have d2 : decide ((30 : Int) ≤ s) = false := by simp; omega
  go_enter Try.func15, Try.ntmps15
  go_wp2_with fail
  refine (dists_any w).mono ?_
  rintro e w1 ⟨rfl, hb1⟩
  go_wp2_with fail
  refine (symbol_dists s w1 (by omega)).mono ?_
  rintro e w2 ⟨rfl, hb2⟩
  go_wp2_with fail
  go_ret3
  exact ⟨rfl, hb1.trans (hb2.mono hb1.size)⟩
theorem distOf_no (n : Int) (w : World) (h : n < 0 ∨ 30 ≤ n) :
    Calls Try.prog 15 #[.int .i64 n] w fun e w' => e = .returned (.tuple #[.int .i64 0, .int .i64 0, .int .i64 1]) ∧ Below w.heap.size w w' := by
  by_cases h0 : n < 0
  · have d1 : decide (n < 0) = true := by simp; omega
    go_enter Try.func15, Try.ntmps15
    go_wp2_with fail
    go_ret3
    exact ⟨rfl, Below.refl _ _⟩
  · have d1 : decide (n < 0) = false := by simp; omega
    have d2 : decide (30 ≤ n) = true := by simp; omega
    go_enter Try.func15, Try.ntmps15
    go_wp2_with fail
    go_ret3
    exact ⟨rfl, Below.refl _ _⟩
set_option maxHeartbeats 1000000 in
theorem wakes_any (w : World) :
    Calls Try.prog 24 #[] w fun e w' => e = .returned (.bool true) ∧ Below w.heap.size w w' := by
  have u1 : ∀ j, Sym_lens 11 j → j = 8 := by
    intro j hj
    have h : ∀ j : Fin 28, leastN 3 8 4 j.val ≤ 11 → 11 < leastN 3 8 4 j.val + 2 ^ moreN 8 4 j.val → j.val = 8 := by decide +kernel
    exact h ⟨j, by have := hj.1; omega⟩ hj.2.1 hj.2.2
  have u2 : ∀ j, Sym_dists 5 j → j = 4 := by
    intro j hj
    have h : ∀ j : Fin 30, leastN 1 4 2 j.val ≤ 5 → 5 < leastN 1 4 2 j.val + 2 ^ moreN 4 2 j.val → j.val = 4 := by decide +kernel
    exact h ⟨j, by have := hj.1; omega⟩ hj.2.1 hj.2.2
  go_enter Try.func24, Try.ntmps24
  go_wp2_with fail
  refine (len_yes 11 w (by omega) (by omega)).mono ?_
  rintro e w1 ⟨j, hj, rfl, hb1⟩
  obtain rfl := u1 j hj
  go_wp2_with fail
  refine (dist_yes 5 w1 (by omega) (by omega)).mono ?_
  rintro e w2 ⟨j, hj', rfl, hb2⟩
  obtain rfl := u2 j hj'
  go_wp2
  go_ret
  exact ⟨rfl, hb1.trans (hb2.mono hb1.size)⟩
end Go.Proofs.Ytepjhmgmejpkpaa
