/-
  SymTables: the symbols' least lengths and bits are RFC 1951's tables.
-/
import Derived.Test.YtepjhmgmejpkpaaSymf
import Derived.Deep.DeepCutAuto
namespace Go.Proofs.Ytepjhmgmejpkpaa
open Go.RowKit

def tLens : List Int := [3, 4, 5, 6, 7, 8, 9, 10, 11, 13, 15, 17, 19, 23, 27, 31, 35, 43, 51, 59, 67, 83, 99, 115, 131, 163, 195, 227, 258]
def tMore : List Int := [0, 0, 0, 0, 0, 0, 0, 0, 1, 1, 1, 1, 2, 2, 2, 2, 3, 3, 3, 3, 4, 4, 4, 4, 5, 5, 5, 5, 0]
def tDists : List Int := [1, 2, 3, 4, 5, 7, 9, 13, 17, 25, 33, 49, 65, 97, 129, 193, 257, 385, 513, 769, 1025, 1537, 2049, 3073, 4097, 6145, 8193, 12289, 16385, 24577]
theorem tab1 : ∀ i : Fin 28, tLens[i.val]? = some ((leastN 3 8 4 i.val : Nat) : Int) ∧ tMore[i.val]? = some ((moreN 8 4 i.val : Nat) : Int) := by decide +kernel
theorem tab2 : ∀ i : Fin 30, tDists[i.val]? = some ((leastN 1 4 2 i.val : Nat) : Int) ∧ ((moreN 4 2 i.val : Nat) : Int) = max 0 ((i.val : Int) / 2 - 1) := by decide +kernel

set_option maxRecDepth 100000 in
set_option maxHeartbeats 1000000 in
theorem symTables_walk (w : World) (i : Int) (_wi : (Lit.int .i64 i).wf = true) :
    Calls Try.prog 5 #[.int .i64 i] w fun e w' => e = .returned (.bool true) ∧ Below w.heap.size w w' := by
  obtain ⟨K, hK, eK⟩ := uint_mod i 30 (by omega) (by omega)
  rw [show ((30 : Nat) : Int) = 30 from rfl] at eK
  go_enter Try.func5, Try.ntmps5
  go_upto_region 5 with fail
  simp only [eK]
  clear eK
  obtain ⟨W, hW⟩ : ∃ W, W = ((w.alloc (.cells (iv tLens).toArray 3)).alloc (.cells (iv tMore).toArray 3)).alloc (.cells (iv tDists).toArray 3) := ⟨_, rfl⟩
  have hbW : Below w.heap.size w W := by rw [hW]; exact (((Below.refl _ _).alloc (Nat.le_refl _) _).alloc (by simp) _).alloc (by simp; omega) _
  have b1 : Blk W w.heap.size 3 (iv tLens).toArray := by rw [hW]; exact ((Blk.new w _ _).alloc _).alloc _
  have b2 : Blk W (w.heap.size + 1) 3 (iv tMore).toArray := by
    rw [hW]
    have h := (Blk.new (w.alloc (.cells (iv tLens).toArray 3)) 3 (iv tMore).toArray).alloc (.cells (iv tDists).toArray 3)
    simpa using h
  have b3 : Blk W (w.heap.size + 1 + 1) 3 (iv tDists).toArray := by
    rw [hW]
    have h := Blk.new ((w.alloc (.cells (iv tLens).toArray 3)).alloc (.cells (iv tMore).toArray 3)) 3 (iv tDists).toArray
    simpa using h
  rw [show ((w.alloc (.cells (iv tLens).toArray 3)).alloc (.cells (iv tMore).toArray 3)).alloc (.cells (iv tDists).toArray 3) = ((w.alloc (.cells #[.int .i64 3, .int .i64 4, .int .i64 5, .int .i64 6, .int .i64 7, .int .i64 8, .int .i64 9, .int .i64 10, .int .i64 11, .int .i64 13, .int .i64 15, .int .i64 17, .int .i64 19, .int .i64 23, .int .i64 27, .int .i64 31, .int .i64 35, .int .i64 43, .int .i64 51, .int .i64 59, .int .i64 67, .int .i64 83, .int .i64 99, .int .i64 115, .int .i64 131, .int .i64 163, .int .i64 195, .int .i64 227, .int .i64 258] 3)).alloc (.cells #[.int .i64 0, .int .i64 0, .int .i64 0, .int .i64 0, .int .i64 0, .int .i64 0, .int .i64 0, .int .i64 0, .int .i64 1, .int .i64 1, .int .i64 1, .int .i64 1, .int .i64 2, .int .i64 2, .int .i64 2, .int .i64 2, .int .i64 3, .int .i64 3, .int .i64 3, .int .i64 3, .int .i64 4, .int .i64 4, .int .i64 4, .int .i64 4, .int .i64 5, .int .i64 5, .int .i64 5, .int .i64 5, .int .i64 0] 3)).alloc (.cells #[.int .i64 1, .int .i64 2, .int .i64 3, .int .i64 4, .int .i64 5, .int .i64 7, .int .i64 9, .int .i64 13, .int .i64 17, .int .i64 25, .int .i64 33, .int .i64 49, .int .i64 65, .int .i64 97, .int .i64 129, .int .i64 193, .int .i64 257, .int .i64 385, .int .i64 513, .int .i64 769, .int .i64 1025, .int .i64 1537, .int .i64 2049, .int .i64 3073, .int .i64 4097, .int .i64 6145, .int .i64 8193, .int .i64 12289, .int .i64 16385, .int .i64 24577] 3) from rfl] at hW
  rw [← hW]
  clear hW
  have c3 : W.cell? ⟨w.heap.size + 1 + 1, K, none⟩ = some (.int .i64 ((leastN 1 4 2 K : Nat) : Int)) := by
    rw [b3.cell]; simp [iv, (tab2 ⟨K, hK⟩).1]
  have B3 := Lib.hid b3
  have T2 := Lib.hid (tab2 ⟨K, hK⟩).2
  clear b3
  by_cases h29 : K < 29
  · by_cases h28 : K < 28
    · have c1 : W.cell? ⟨w.heap.size, K, none⟩ = some (.int .i64 ((leastN 3 8 4 K : Nat) : Int)) := by
        rw [b1.cell]; simp [iv, (tab1 ⟨K, h28⟩).1]
      have c2 : W.cell? ⟨w.heap.size + 1, K, none⟩ = some (.int .i64 ((moreN 8 4 K : Nat) : Int)) := by
        rw [b2.cell]; simp [iv, (tab1 ⟨K, h28⟩).2]
      have l1 := b1.lt
      have l2 := b2.lt
      clear b1 b2
      go_wp2_with fail
      rw [show (257 : Int) + (K : Int) = ((257 + K : Nat) : Int) by omega]
      refine (lenOf_yes K W (by omega)).mono ?_
      rintro e w1 ⟨rfl, h1⟩
      have q1 := (h1.cell (p := ⟨w.heap.size, K, none⟩) l1).trans c1
      have q2 := (h1.cell (p := ⟨w.heap.size + 1, K, none⟩) l2).trans c2
      go_wp2_with fail
      refine (distOf_yes K w1 (by omega)).mono ?_
      rintro e v1 ⟨rfl, g1⟩
      go_wp2_with fail
      refine (lenOf_no 286 v1 (by omega)).mono ?_
      rintro e v2 ⟨rfl, g2⟩
      go_wp2_with fail
      refine (distOf_no 30 v2 (by omega)).mono ?_
      rintro e v3 ⟨rfl, g3⟩
      have hgs := h1.trans ((g1.trans ((g2.trans (g3.mono g2.size)).mono g1.size)).mono h1.size)
      have q3 : v3.cell? ⟨w.heap.size + 1 + 1, K, none⟩ = some (.int .i64 ((leastN 1 4 2 K : Nat) : Int)) := (hgs.cell (by show w.heap.size + 1 + 1 < W.heap.size; exact B3.out.lt)).trans c3
      by_cases hk4 : K < 4
      · have t7 : (((moreN 4 2 K : Nat) : Int) == 0) = true := by rw [T2.out, beq_iff_eq]; omega
        go_wp2_with fail
        refine (wakes_any _).mono ?_
        rintro e wz ⟨rfl, hz⟩
        go_wp2_with fail
        go_ret
        exact ⟨rfl, hbW.trans ((hgs.trans (hz.mono hgs.size)).mono hbW.size)⟩
      · have t7 : (((moreN 4 2 K : Nat) : Int) == (K : Int) / 2 - 1) = true := by rw [T2.out, beq_iff_eq]; omega
        go_wp2_with fail
        refine (wakes_any _).mono ?_
        rintro e wz ⟨rfl, hz⟩
        go_wp2_with fail
        go_ret
        exact ⟨rfl, hbW.trans ((hgs.trans (hz.mono hgs.size)).mono hbW.size)⟩
    · have hk28 : K = 28 := by omega
      have c1 : W.cell? ⟨w.heap.size, K, none⟩ = some (.int .i64 258) := by
        rw [b1.cell, hk28]; rfl
      have c2 : W.cell? ⟨w.heap.size + 1, K, none⟩ = some (.int .i64 0) := by
        rw [b2.cell, hk28]; rfl
      have l1 := b1.lt
      have l2 := b2.lt
      have HK := Lib.hid hk28
      clear b1 b2 hk28
      go_wp2_with fail
      rw [show (257 : Int) + (K : Int) = 285 by have := HK.out; omega]
      refine (lenOf_top W).mono ?_
      rintro e w1 ⟨rfl, h1⟩
      have q1 := (h1.cell (p := ⟨w.heap.size, K, none⟩) l1).trans c1
      have q2 := (h1.cell (p := ⟨w.heap.size + 1, K, none⟩) l2).trans c2
      go_wp2_with fail
      refine (distOf_yes K w1 (by omega)).mono ?_
      rintro e v1 ⟨rfl, g1⟩
      go_wp2_with fail
      refine (lenOf_no 286 v1 (by omega)).mono ?_
      rintro e v2 ⟨rfl, g2⟩
      go_wp2_with fail
      refine (distOf_no 30 v2 (by omega)).mono ?_
      rintro e v3 ⟨rfl, g3⟩
      have hgs := h1.trans ((g1.trans ((g2.trans (g3.mono g2.size)).mono g1.size)).mono h1.size)
      have q3 : v3.cell? ⟨w.heap.size + 1 + 1, K, none⟩ = some (.int .i64 ((leastN 1 4 2 K : Nat) : Int)) := (hgs.cell (by show w.heap.size + 1 + 1 < W.heap.size; exact B3.out.lt)).trans c3
      have hk4 : ¬ K < 4 := by omega
      have t7 : (((moreN 4 2 K : Nat) : Int) == (K : Int) / 2 - 1) = true := by rw [T2.out, beq_iff_eq]; omega
      go_wp2_with fail
      refine (wakes_any _).mono ?_
      rintro e wz ⟨rfl, hz⟩
      go_wp2_with fail
      go_ret
      exact ⟨rfl, hbW.trans ((hgs.trans (hz.mono hgs.size)).mono hbW.size)⟩
  · have h1 : Below W.heap.size W W := Below.refl _ _
    clear b1 b2
    go_wp2_with fail
    refine (distOf_yes K W (by omega)).mono ?_
    rintro e v1 ⟨rfl, g1⟩
    go_wp2_with fail
    refine (lenOf_no 286 v1 (by omega)).mono ?_
    rintro e v2 ⟨rfl, g2⟩
    go_wp2_with fail
    refine (distOf_no 30 v2 (by omega)).mono ?_
    rintro e v3 ⟨rfl, g3⟩
    have hgs := h1.trans ((g1.trans ((g2.trans (g3.mono g2.size)).mono g1.size)).mono h1.size)
    have q3 : v3.cell? ⟨w.heap.size + 1 + 1, K, none⟩ = some (.int .i64 ((leastN 1 4 2 K : Nat) : Int)) := (hgs.cell (by show w.heap.size + 1 + 1 < W.heap.size; exact B3.out.lt)).trans c3
    have hk4 : ¬ K < 4 := by omega
    have t7 : (((moreN 4 2 K : Nat) : Int) == (K : Int) / 2 - 1) = true := by rw [T2.out, beq_iff_eq]; omega
    go_wp2_with fail
    refine (wakes_any _).mono ?_
    rintro e wz ⟨rfl, hz⟩
    go_wp2_with fail
    go_ret
    exact ⟨rfl, hbW.trans ((hgs.trans (hz.mono hgs.size)).mono hbW.size)⟩
end Go.Proofs.Ytepjhmgmejpkpaa
