/-
  SymSpans: behind the lengths, the Dists, of a symbol stand those of the next one, without a gap; the last length stands alone.
-/
import Derived.Test.YtepjhmgmejpkpaaSymf
namespace Go.Proofs.Ytepjhmgmejpkpaa
open Go.RowKit

theorem span_eq (a b k : Nat) (h : b = a + 2 ^ k) (hk : k ≤ 20) (ha : a ≤ 4000000) : ((b : Int) == wrap64 ((a : Int) + wrap64 (2 ^ k))) = true ∧ ((b : Int) != (a : Int) + wrap64 (2 ^ k)) = false ∧ ((b : Int) == (a : Int) + wrap64 (2 ^ k)) = true := by
  have h1 : 2 ^ k ≤ 2 ^ 20 := Nat.pow_le_pow_right (by omega) hk
  have h2 : wrap64 (2 ^ k) = ((2 ^ k : Nat) : Int) := by rw [pow2_cast, wrap64_nat _ (by omega)]
  rw [h2]
  generalize (2 ^ k : Nat) = x at *
  refine ⟨?_, ?_, ?_⟩
  · rw [beq_iff_eq]; unfold wrap64; omega
  · rw [bne_eq_false_iff_eq]; omega
  · rw [beq_iff_eq]; omega

set_option maxRecDepth 100000 in
set_option maxHeartbeats 1000000 in
theorem symSpans_walk (w : World) (i : Int) (_wi : (Lit.int .i64 i).wf = true) :
    Calls Try.prog 8 #[.int .i64 i] w fun e w' => e = .returned (.bool true) ∧ Below w.heap.size w w' := by
  obtain ⟨K, hK, eK⟩ := uint_mod i 29 (by omega) (by omega)
  rw [show ((29 : Nat) : Int) = 29 from rfl] at eK
  have z1 : Hid (leastN 1 4 2 29 = 24577) := by unfold Hid; decide +kernel
  have z2 : Hid (moreN 4 2 29 = 13) := by unfold Hid; decide +kernel
  have sd := step_dists ⟨K, by omega⟩
  have md := more_dists ⟨K, by omega⟩
  simp only at sd md
  obtain ⟨sd1, sd2, sd3⟩ := span_eq _ _ _ sd md.1 md.2
  have sl := step_lens ⟨K, by omega⟩
  have ml := more_lens ⟨K, by omega⟩
  simp only at sl ml
  obtain ⟨sl1, sl2, sl3⟩ := span_eq _ _ _ sl ml.1 ml.2
  obtain ⟨md1, md2⟩ := md
  obtain ⟨ml1, ml2⟩ := ml
  clear sd sl
  by_cases hlt : K < 27
  · go_enter Try.func8, Try.ntmps8
    go_wp2_with fail
    simp only [eK]
    clear eK
    rw [show (257 : Int) + (K : Int) = ((257 + K : Nat) : Int) by omega]
    refine (lenOf_yes K w (by omega)).mono ?_
    rintro e w1 ⟨rfl, h1⟩
    go_wp2_with fail
    rw [show (258 : Int) + (K : Int) = ((257 + (K + 1) : Nat) : Int) by omega]
    refine (lenOf_yes (K + 1) w1 (by omega)).mono ?_
    rintro e w2 ⟨rfl, h2⟩
    have hb := h1.trans (h2.mono h1.size)
    go_wp2_with fail
    refine (distOf_yes K w2 (by omega)).mono ?_
    rintro e v1 ⟨rfl, g1⟩
    go_wp2_with fail
    rw [show (K : Int) + 1 = ((K + 1 : Nat) : Int) by omega]
    refine (distOf_yes (K + 1) v1 (by omega)).mono ?_
    rintro e v2 ⟨rfl, g2⟩
    go_wp2_with fail
    refine (len_top v2).mono ?_
    rintro e v3 ⟨rfl, g3⟩
    go_wp2_with fail
    refine (distOf_yes 29 v3 (by omega)).mono ?_
    rw [z1.out, z2.out]
    rintro e v4 ⟨rfl, g4⟩
    have hgs := hb.trans ((g1.trans ((g2.trans ((g3.trans (g4.mono g3.size)).mono g2.size)).mono g1.size)).mono hb.size)
    go_wp2_with fail
    refine (wakes_any _).mono ?_
    rintro e wz ⟨rfl, hz⟩
    go_wp2_with fail
    go_ret
    exact ⟨rfl, hgs.trans (hz.mono hgs.size)⟩
  · go_enter Try.func8, Try.ntmps8
    go_wp2_with fail
    simp only [eK]
    clear eK
    have hb : Below w.heap.size w w := Below.refl _ _
    refine (distOf_yes K w (by omega)).mono ?_
    rintro e v1 ⟨rfl, g1⟩
    go_wp2_with fail
    rw [show (K : Int) + 1 = ((K + 1 : Nat) : Int) by omega]
    refine (distOf_yes (K + 1) v1 (by omega)).mono ?_
    rintro e v2 ⟨rfl, g2⟩
    go_wp2_with fail
    refine (len_top v2).mono ?_
    rintro e v3 ⟨rfl, g3⟩
    go_wp2_with fail
    refine (distOf_yes 29 v3 (by omega)).mono ?_
    rw [z1.out, z2.out]
    rintro e v4 ⟨rfl, g4⟩
    have hgs := hb.trans ((g1.trans ((g2.trans ((g3.trans (g4.mono g3.size)).mono g2.size)).mono g1.size)).mono hb.size)
    go_wp2_with fail
    refine (wakes_any _).mono ?_
    rintro e wz ⟨rfl, hz⟩
    go_wp2_with fail
    go_ret
    exact ⟨rfl, hgs.trans (hz.mono hgs.size)⟩
end Go.Proofs.Ytepjhmgmejpkpaa
