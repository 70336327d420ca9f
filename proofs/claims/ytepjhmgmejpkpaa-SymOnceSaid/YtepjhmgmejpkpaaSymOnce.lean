/-
  SymOnce: each length, each Dist, is its symbol's least one and what its bits more say, which fit; a greater one has no lesser symbol.
-/
import Derived.Test.YtepjhmgmejpkpaaSymf
namespace Go.Proofs.Ytepjhmgmejpkpaa
open Go.RowKit

theorem next_lens (n j k : Nat) (hj : Sym_lens n j) (hk : Sym_lens (n + 1) k) : j ≤ k ∧ k ≤ j + 1 := by
  obtain ⟨h1, h2, h3⟩ := hj
  obtain ⟨g1, g2, g3⟩ := hk
  have mono : ∀ a b : Fin 33, a.val ≤ b.val → leastN 3 8 4 a.val ≤ leastN 3 8 4 b.val := by decide +kernel
  have st := step_lens ⟨j, by omega⟩
  have st2 := step_lens ⟨k, by omega⟩
  have st3 := step_lens ⟨j + 1, by omega⟩
  simp only at st st2 st3
  constructor
  · rcases Nat.lt_or_ge k j with hlt | hge
    · have := mono ⟨k + 1, by omega⟩ ⟨j, by omega⟩ hlt
      simp only at this; omega
    · exact hge
  · rcases Nat.lt_or_ge (j + 1) k with hlt | hge
    · have := mono ⟨j + 1 + 1, by omega⟩ ⟨k, by omega⟩ hlt
      have hp : 0 < 2 ^ moreN 8 4 (j + 1) := Nat.pow_pos (by omega)
      simp only at this; omega
    · exact hge
theorem next_dists (n j k : Nat) (hj : Sym_dists n j) (hk : Sym_dists (n + 1) k) : j ≤ k ∧ k ≤ j + 1 := by
  obtain ⟨h1, h2, h3⟩ := hj
  obtain ⟨g1, g2, g3⟩ := hk
  have mono : ∀ a b : Fin 33, a.val ≤ b.val → leastN 1 4 2 a.val ≤ leastN 1 4 2 b.val := by decide +kernel
  have st := step_dists ⟨j, by omega⟩
  have st2 := step_dists ⟨k, by omega⟩
  have st3 := step_dists ⟨j + 1, by omega⟩
  simp only at st st2 st3
  constructor
  · rcases Nat.lt_or_ge k j with hlt | hge
    · have := mono ⟨k + 1, by omega⟩ ⟨j, by omega⟩ hlt
      simp only at this; omega
    · exact hge
  · rcases Nat.lt_or_ge (j + 1) k with hlt | hge
    · have := mono ⟨j + 1 + 1, by omega⟩ ⟨k, by omega⟩ hlt
      have hp : 0 < 2 ^ moreN 4 2 (j + 1) := Nat.pow_pos (by omega)
      simp only at this; omega
    · exact hge
theorem last_lens (j : Nat) (h : Sym_lens 257 j) : j = 27 := by
  have hh : ∀ j : Fin 28, leastN 3 8 4 j.val ≤ 257 → 257 < leastN 3 8 4 j.val + 2 ^ moreN 8 4 j.val → j.val = 27 := by decide +kernel
  exact hh ⟨j, by have := h.1; omega⟩ h.2.1 h.2.2

set_option maxRecDepth 100000 in
set_option maxHeartbeats 1000000 in
theorem symOnce_walk (w : World) (n : Int) (_wn : (Lit.int .i64 n).wf = true) (m : Int) (_wm : (Lit.int .i64 m).wf = true) :
    Calls Try.prog 4 #[.int .i64 n, .int .i64 m] w fun e w' => e = .returned (.bool true) ∧ Below w.heap.size w w' := by
  go_enter Try.func4, Try.ntmps4
  go_wp2_with fail
  obtain ⟨K, hK, eK⟩ := uint_mod n 256 (by omega) (by omega)
  obtain ⟨M, hM, eM⟩ := uint_mod m 32768 (by omega) (by omega)
  rw [show ((256 : Nat) : Int) = 256 from rfl] at eK
  rw [show ((32768 : Nat) : Int) = 32768 from rfl] at eM
  simp only [eK, eM]
  clear eK eM
  obtain ⟨N, hN⟩ : ∃ N : Nat, N = 3 + K := ⟨_, rfl⟩
  obtain ⟨P, hP⟩ : ∃ P : Int, P = 1 + M := ⟨_, rfl⟩
  have eN : wrap64 (3 + (K : Int)) = (N : Int) := by unfold wrap64; omega
  have eP : wrap64 (1 + (M : Int)) = P := by unfold wrap64; omega
  have n0 : 3 ≤ N := by omega
  have n1 : N ≤ 258 := by omega
  have p0 : 1 ≤ P := by omega
  have p1 : P ≤ 32768 := by omega
  simp only [eN, eP]
  clear eN eP hN hP hK hM
  by_cases cN : N ≤ 256
  · refine (len_yes N w (by omega) (by omega)).mono ?_
    rintro e w1 ⟨j, hj, rfl, hb1⟩
    have hj27 := hj.1
    have hm1 := (more_lens ⟨j, by omega⟩).1
    have hm2 := (more_lens ⟨j, by omega⟩).2
    simp only at hm1 hm2
    have hl1 := hj.2.1
    have hl2 := Lib.hid hj.2.2
    have hp20 : 2 ^ moreN 8 4 j ≤ 2 ^ 20 := Nat.pow_le_pow_right (by omega) hm1
    go_wp2_with fail
    rw [show (257 : Int) + (j : Int) = ((257 + j : Nat) : Int) by omega]
    refine (lenOf_yes j w1 (by omega)).mono ?_
    rintro e w2 ⟨rfl, hb2⟩
    have hbw := hb1.trans (hb2.mono hb1.size)
    have t1 : decide (wrap64 (2 ^ moreN 8 4 j) ≤ ((N - leastN 3 8 4 j : Nat) : Int)) = false := by
      rw [pow2_cast, wrap64_nat _ (by omega), decide_eq_false_iff_not]; have := hl2.out; generalize (2 ^ moreN 8 4 j : Nat) = x at *; omega
    have t2 : (((leastN 3 8 4 j : Nat) : Int) + ((N - leastN 3 8 4 j : Nat) : Int) != N) = false := by rw [bne_eq_false_iff_eq]; omega
    have t3 : decide ((257 : Int) + (j : Int) < 257) = false := by rw [decide_eq_false_iff_not]; omega
    have t4 : decide ((285 : Int) < (257 : Int) + (j : Int)) = false := by rw [decide_eq_false_iff_not]; omega
    have t5 : decide (((N - leastN 3 8 4 j : Nat) : Int) < 0) = false := by rw [decide_eq_false_iff_not]; omega
    clear hp20
    go_wp2_with fail
    refine (dist_int P w2 (by omega) (by omega)).mono ?_
    rintro e v1 ⟨i, hi, rfl, gb1⟩
    have hi29 := hi.1
    have gm1 := (more_dists ⟨i, by omega⟩).1
    have gm2 := (more_dists ⟨i, by omega⟩).2
    simp only at gm1 gm2
    have gl1 := hi.2.1
    have gl2 := Lib.hid hi.2.2
    have gp20 : 2 ^ moreN 4 2 i ≤ 2 ^ 20 := Nat.pow_le_pow_right (by omega) gm1
    go_wp2_with fail
    refine (distOf_yes i v1 (by omega)).mono ?_
    rintro e v2 ⟨rfl, gb2⟩
    have gbw := hbw.trans ((gb1.trans (gb2.mono gb1.size)).mono hbw.size)
    have s1 : decide (wrap64 (2 ^ moreN 4 2 i) ≤ P - (leastN 1 4 2 i : Int)) = false := by
      rw [pow2_cast, wrap64_nat _ (by omega), decide_eq_false_iff_not]; have := gl2.out; generalize (2 ^ moreN 4 2 i : Nat) = x at *; omega
    have s2 : ((leastN 1 4 2 i : Int) + (P - (leastN 1 4 2 i : Int)) != P) = false := by rw [bne_eq_false_iff_eq]; omega
    have s3 : decide ((i : Int) < 0) = false := by rw [decide_eq_false_iff_not]; omega
    have s4 : decide ((29 : Int) < (i : Int)) = false := by rw [decide_eq_false_iff_not]; omega
    have s5 : decide (P - (leastN 1 4 2 i : Int) < 0) = false := by rw [decide_eq_false_iff_not]; omega
    clear gp20
    go_wp2_with fail
    rw [show (N : Int) + 1 = ((N + 1 : Nat) : Int) by omega]
    refine (len_yes (N + 1) v2 (by omega) (by omega)).mono ?_
    rintro e w3 ⟨k, hk, rfl, hb3⟩
    obtain ⟨hk1, hk2⟩ := next_lens N j k hj hk
    have r1 : decide ((257 : Int) + (k : Int) < (257 : Int) + (j : Int)) = false := by rw [decide_eq_false_iff_not]; omega
    have r2 : decide ((257 : Int) + (j : Int) + 1 < (257 : Int) + (k : Int)) = false := by rw [decide_eq_false_iff_not]; omega
    have r3 : decide ((k : Int) < (j : Int)) = false := by rw [decide_eq_false_iff_not]; omega
    by_cases cP : P < 32768
    · have cPd : decide (P < 32768) = true := by rw [decide_eq_true_eq]; omega
      have CP := Lib.hid cP
      have p2 : P ≤ 40000 := by omega
      clear cP p1
      go_wp2_with fail
      refine (dist_int (P + 1) w3 (by omega) (by have := CP.out; omega)).mono ?_
      rintro e w4 ⟨q, hq, rfl, hb4⟩
      obtain ⟨hq1, hq2⟩ := next_dists P.toNat i q hi (by rw [show P.toNat + 1 = (P + 1).toNat by omega]; exact hq)
      have r4 : decide ((q : Int) < (i : Int)) = false := by rw [decide_eq_false_iff_not]; omega
      have r5 : decide ((i : Int) + 1 < (q : Int)) = false := by rw [decide_eq_false_iff_not]; omega
      go_wp2_with fail
      refine (wakes_any w4).mono ?_
      rintro e wz ⟨rfl, hz⟩
      go_wp2_with fail
      go_ret
      exact ⟨rfl, (((gbw).trans (hb3.mono (gbw).size)).trans (hb4.mono ((gbw).trans (hb3.mono (gbw).size)).size)).trans (hz.mono (((gbw).trans (hb3.mono (gbw).size)).trans (hb4.mono ((gbw).trans (hb3.mono (gbw).size)).size)).size)⟩
    · have cPd : decide (P < 32768) = false := by rw [decide_eq_false_iff_not]; omega
      have p2 : P ≤ 40000 := by omega
      clear cP p1
      go_wp2_with fail
      refine (wakes_any w3).mono ?_
      rintro e wz ⟨rfl, hz⟩
      go_wp2_with fail
      go_ret
      exact ⟨rfl, ((gbw).trans (hb3.mono (gbw).size)).trans (hz.mono ((gbw).trans (hb3.mono (gbw).size)).size)⟩
  · by_cases cM : N = 257
    · subst cM
      refine (len_yes 257 w (by omega) (by omega)).mono ?_
      rintro e w1 ⟨j, hj, rfl, hb1⟩
      have hj27 := hj.1
      have hm1 := (more_lens ⟨j, by omega⟩).1
      have hm2 := (more_lens ⟨j, by omega⟩).2
      simp only at hm1 hm2
      have hl1 := hj.2.1
      have hl2 := Lib.hid hj.2.2
      have hp20 : 2 ^ moreN 8 4 j ≤ 2 ^ 20 := Nat.pow_le_pow_right (by omega) hm1
      go_wp2_with fail
      rw [show (257 : Int) + (j : Int) = ((257 + j : Nat) : Int) by omega]
      refine (lenOf_yes j w1 (by omega)).mono ?_
      rintro e w2 ⟨rfl, hb2⟩
      have hbw := hb1.trans (hb2.mono hb1.size)
      have t1 : decide (wrap64 (2 ^ moreN 8 4 j) ≤ ((257 - leastN 3 8 4 j : Nat) : Int)) = false := by
        rw [pow2_cast, wrap64_nat _ (by omega), decide_eq_false_iff_not]; have := hl2.out; generalize (2 ^ moreN 8 4 j : Nat) = x at *; omega
      have t2 : (((leastN 3 8 4 j : Nat) : Int) + ((257 - leastN 3 8 4 j : Nat) : Int) != 257) = false := by rw [bne_eq_false_iff_eq]; omega
      have t3 : decide ((257 : Int) + (j : Int) < 257) = false := by rw [decide_eq_false_iff_not]; omega
      have t4 : decide ((285 : Int) < (257 : Int) + (j : Int)) = false := by rw [decide_eq_false_iff_not]; omega
      have t5 : decide (((257 - leastN 3 8 4 j : Nat) : Int) < 0) = false := by rw [decide_eq_false_iff_not]; omega
      clear hp20
      go_wp2_with fail
      obtain rfl := last_lens j hj
      refine (dist_int P w2 (by omega) (by omega)).mono ?_
      rintro e v1 ⟨i, hi, rfl, gb1⟩
      have hi29 := hi.1
      have gm1 := (more_dists ⟨i, by omega⟩).1
      have gm2 := (more_dists ⟨i, by omega⟩).2
      simp only at gm1 gm2
      have gl1 := hi.2.1
      have gl2 := Lib.hid hi.2.2
      have gp20 : 2 ^ moreN 4 2 i ≤ 2 ^ 20 := Nat.pow_le_pow_right (by omega) gm1
      go_wp2_with fail
      refine (distOf_yes i v1 (by omega)).mono ?_
      rintro e v2 ⟨rfl, gb2⟩
      have gbw := hbw.trans ((gb1.trans (gb2.mono gb1.size)).mono hbw.size)
      have s1 : decide (wrap64 (2 ^ moreN 4 2 i) ≤ P - (leastN 1 4 2 i : Int)) = false := by
        rw [pow2_cast, wrap64_nat _ (by omega), decide_eq_false_iff_not]; have := gl2.out; generalize (2 ^ moreN 4 2 i : Nat) = x at *; omega
      have s2 : ((leastN 1 4 2 i : Int) + (P - (leastN 1 4 2 i : Int)) != P) = false := by rw [bne_eq_false_iff_eq]; omega
      have s3 : decide ((i : Int) < 0) = false := by rw [decide_eq_false_iff_not]; omega
      have s4 : decide ((29 : Int) < (i : Int)) = false := by rw [decide_eq_false_iff_not]; omega
      have s5 : decide (P - (leastN 1 4 2 i : Int) < 0) = false := by rw [decide_eq_false_iff_not]; omega
      clear gp20
      go_wp2_with fail
      refine (len_top v2).mono ?_
      rintro e w3 ⟨rfl, hb3⟩
      by_cases cP : P < 32768
      · have cPd : decide (P < 32768) = true := by rw [decide_eq_true_eq]; omega
        have CP := Lib.hid cP
        have p2 : P ≤ 40000 := by omega
        clear cP p1
        go_wp2_with fail
        refine (dist_int (P + 1) w3 (by omega) (by have := CP.out; omega)).mono ?_
        rintro e w4 ⟨q, hq, rfl, hb4⟩
        obtain ⟨hq1, hq2⟩ := next_dists P.toNat i q hi (by rw [show P.toNat + 1 = (P + 1).toNat by omega]; exact hq)
        have r4 : decide ((q : Int) < (i : Int)) = false := by rw [decide_eq_false_iff_not]; omega
        have r5 : decide ((i : Int) + 1 < (q : Int)) = false := by rw [decide_eq_false_iff_not]; omega
        go_wp2_with fail
        refine (wakes_any w4).mono ?_
        rintro e wz ⟨rfl, hz⟩
        go_wp2_with fail
        go_ret
        exact ⟨rfl, (((gbw).trans (hb3.mono (gbw).size)).trans (hb4.mono ((gbw).trans (hb3.mono (gbw).size)).size)).trans (hz.mono (((gbw).trans (hb3.mono (gbw).size)).trans (hb4.mono ((gbw).trans (hb3.mono (gbw).size)).size)).size)⟩
      · have cPd : decide (P < 32768) = false := by rw [decide_eq_false_iff_not]; omega
        have p2 : P ≤ 40000 := by omega
        clear cP p1
        go_wp2_with fail
        refine (wakes_any w3).mono ?_
        rintro e wz ⟨rfl, hz⟩
        go_wp2_with fail
        go_ret
        exact ⟨rfl, ((gbw).trans (hb3.mono (gbw).size)).trans (hz.mono ((gbw).trans (hb3.mono (gbw).size)).size)⟩
    · obtain rfl : N = 258 := by omega
      refine (len_top w).mono ?_
      rintro e w1 ⟨rfl, hb1⟩
      go_wp2_with fail
      refine (lenOf_top w1).mono ?_
      rintro e w2 ⟨rfl, hb2⟩
      have hbw := hb1.trans (hb2.mono hb1.size)
      go_wp2_with fail
      refine (dist_int P w2 (by omega) (by omega)).mono ?_
      rintro e v1 ⟨i, hi, rfl, gb1⟩
      have hi29 := hi.1
      have gm1 := (more_dists ⟨i, by omega⟩).1
      have gm2 := (more_dists ⟨i, by omega⟩).2
      simp only at gm1 gm2
      have gl1 := hi.2.1
      have gl2 := Lib.hid hi.2.2
      have gp20 : 2 ^ moreN 4 2 i ≤ 2 ^ 20 := Nat.pow_le_pow_right (by omega) gm1
      go_wp2_with fail
      refine (distOf_yes i v1 (by omega)).mono ?_
      rintro e v2 ⟨rfl, gb2⟩
      have gbw := hbw.trans ((gb1.trans (gb2.mono gb1.size)).mono hbw.size)
      have s1 : decide (wrap64 (2 ^ moreN 4 2 i) ≤ P - (leastN 1 4 2 i : Int)) = false := by
        rw [pow2_cast, wrap64_nat _ (by omega), decide_eq_false_iff_not]; have := gl2.out; generalize (2 ^ moreN 4 2 i : Nat) = x at *; omega
      have s2 : ((leastN 1 4 2 i : Int) + (P - (leastN 1 4 2 i : Int)) != P) = false := by rw [bne_eq_false_iff_eq]; omega
      have s3 : decide ((i : Int) < 0) = false := by rw [decide_eq_false_iff_not]; omega
      have s4 : decide ((29 : Int) < (i : Int)) = false := by rw [decide_eq_false_iff_not]; omega
      have s5 : decide (P - (leastN 1 4 2 i : Int) < 0) = false := by rw [decide_eq_false_iff_not]; omega
      clear gp20
      by_cases cP : P < 32768
      · have cPd : decide (P < 32768) = true := by rw [decide_eq_true_eq]; omega
        have CP := Lib.hid cP
        have p2 : P ≤ 40000 := by omega
        clear cP p1
        go_wp2_with fail
        refine (dist_int (P + 1) v2 (by omega) (by have := CP.out; omega)).mono ?_
        rintro e w4 ⟨q, hq, rfl, hb4⟩
        obtain ⟨hq1, hq2⟩ := next_dists P.toNat i q hi (by rw [show P.toNat + 1 = (P + 1).toNat by omega]; exact hq)
        have r4 : decide ((q : Int) < (i : Int)) = false := by rw [decide_eq_false_iff_not]; omega
        have r5 : decide ((i : Int) + 1 < (q : Int)) = false := by rw [decide_eq_false_iff_not]; omega
        go_wp2_with fail
        refine (wakes_any w4).mono ?_
        rintro e wz ⟨rfl, hz⟩
        go_wp2_with fail
        go_ret
        exact ⟨rfl, ((gbw).trans (hb4.mono (gbw).size)).trans (hz.mono ((gbw).trans (hb4.mono (gbw).size)).size)⟩
      · have cPd : decide (P < 32768) = false := by rw [decide_eq_false_iff_not]; omega
        have p2 : P ≤ 40000 := by omega
        clear cP p1
        go_wp2_with fail
        refine (wakes_any v2).mono ?_
        rintro e wz ⟨rfl, hz⟩
        go_wp2_with fail
        go_ret
        exact ⟨rfl, (gbw).trans (hz.mono (gbw).size)⟩
end Go.Proofs.Ytepjhmgmejpkpaa
