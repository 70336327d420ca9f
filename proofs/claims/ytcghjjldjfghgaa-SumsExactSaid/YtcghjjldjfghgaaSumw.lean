/-
  Contracts of package sums: the table of nibbles, the sum, Short, Long, Carry.
-/
import Derived.Test.YtcghjjldjfghgaaMem
import Derived.Test.YtcghjjldjfghgaaCrc
import Derived.Deep.LoopGhost
import Derived.Laws.Rows
namespace Go.Proofs.Ytcghjjldjfghgaa
open Go.RowKit

theorem sn_succ' (d k x : Nat) : sn d (k + 1) x = s0 d (sn d k x) := by rw [sn_add]; rfl
theorem and1_u32 (x : Nat) (hx : x < 4294967296) : bits .and .u32 (x : Int) 1 = ((x % 2 : Nat) : Int) := by
  rw [show (1 : Int) = ((1 : Nat) : Int) from rfl, u32_and_nat _ _ hx (by omega), Nat.and_one_is_mod]
theorem step_odd (d x : Nat) (hd : d < 4294967296) (hx : x < 4294967296) (h : x % 2 = 1) : bits .xor .u32 ((x : Int) / 2) (d : Int) = ((s0 d x : Nat) : Int) := by
  rw [show (x : Int) / 2 = ((x / 2 : Nat) : Int) by omega, u32_xor_nat _ _ (by omega) hd, s0, if_pos h]
theorem step_even (d x : Nat) (h : ¬ x % 2 = 1) : (x : Int) / 2 = ((s0 d x : Nat) : Int) := by
  rw [s0, if_neg h, Nat.xor_zero]; omega
def tv (d j k : Nat) : Nat := if k < j then sn d 4 k else 0
def tabL (d j : Nat) : List Value := (List.range 16).map fun k => .int .u32 (tv d j k)
theorem tabL_len (d j : Nat) : (tabL d j).length = 16 := by simp [tabL]
theorem tabL_get (d j k : Nat) (h : k < 16) : (tabL d j)[k]? = some (.int .u32 (tv d j k)) := by simp [tabL, h]
theorem tabL_set (d j : Nat) (h : j < 16) : (tabL d j).set j (.int .u32 (sn d 4 j)) = tabL d (j + 1) := by
  apply List.ext_getElem?
  intro i
  rw [List.getElem?_set]
  by_cases hi : i < 16
  · rw [tabL_get d (j + 1) i hi, tabL_get d j i hi, tabL_len]
    by_cases hj : j = i
    · subst hj; simp [h, tv]
    · rw [if_neg hj]
      have : (i < j) ↔ (i < j + 1) := by omega
      simp [tv, this]
  · rw [List.getElem?_eq_none (by rw [tabL_len]; omega), List.getElem?_eq_none (by rw [tabL_len]; omega)]
    split
    · rw [if_neg (by rw [tabL_len]; omega)]
    · rfl

set_option maxHeartbeats 2000000 in
theorem table_any (d : Nat) (w : World) (hd : d < 4294967296) :
    Calls Try.prog 21 #[.int .u32 d] w fun e w' => e = .returned (.agg (tabL d 16).toArray) ∧ Below w.heap.size w w' := by
  go_enter Try.func21, Try.ntmps21
  go_wp2
  go_loopg [4, 5, 6, 7] 16 (fun g _ _ _ i wr => ∃ j : Nat, j ≤ 16 ∧ g = 16 - j ∧ i = .int .i64 (j : Int) ∧ Blk wr (w.heap.size + 1) 40 (tabL d j).toArray ∧ Blk wr w.heap.size 40 (tabL 0 0).toArray ∧ Below w.heap.size w wr ∧ w.heap.size + 1 < wr.heap.size)
  case atStart =>
    refine ⟨0, by omega, rfl, rfl, ?_, ?_, ((Below.refl _ _).alloc (Nat.le_refl _) _).alloc (by simp) _, by simp⟩
    · have h := Blk.new (w.alloc (.cells (tabL 0 0).toArray 40)) 40 (tabL d 0).toArray
      have h2 : (w.alloc (.cells (tabL 0 0).toArray 40)).heap.size = w.heap.size + 1 := by simp
      rw [h2] at h
      exact h
    · have h := (Blk.new w 40 (tabL 0 0).toArray).alloc (.cells (tabL d 0).toArray 40)
      exact h
  case round =>
    obtain ⟨j, hj, rfl, rfl, hblk, hblk0, hb, hsz⟩ := hrel
    by_cases hlt : j < 16
    · have HB := Lib.hid hblk
      have HB0 := Lib.hid hblk0
      clear hblk hblk0
      go_wp2
      go_loopg [5, 6, 12] 4 (fun g r _ c wx => wr = wx ∧ ∃ k : Nat, k ≤ 4 ∧ g = 4 - k ∧ c = .int .i64 (k : Int) ∧ r = .int .u32 ((sn d k j : Nat) : Int))
      case atStart => exact ⟨rfl, 0, by omega, rfl, rfl, by simp [sn]⟩
      case round =>
        obtain ⟨rfl, k, hk, rfl, rfl, rfl⟩ := hrel
        have hlt32 : sn d k j < 4294967296 := sn_lt d j 32 k hd (by omega)
        by_cases hk4 : k < 4
        · have ha := and1_u32 (sn d k j) hlt32
          have hs := sn_succ' d k j
          by_cases ho : sn d k j % 2 = 1
          · have t1 : (bits .and .u32 ((sn d k j : Nat) : Int) 1 == 1) = true := by rw [ha, ho]; rfl
            have t2 := step_odd d _ hd hlt32 ho
            have HS := Lib.hid hs
            clear ha hs ho
            go_wp2
            go_roundg (4 - (k + 1))
            case measure => omega
            case rel => exact ⟨rfl, k + 1, by omega, rfl, by go_num, by rw [HS.out]⟩
          · have t1 : (bits .and .u32 ((sn d k j : Nat) : Int) 1 == 1) = false := by rw [ha, beq_eq_false_iff_ne]; omega
            have t2 := step_even d _ ho
            have HS := Lib.hid hs
            clear ha hs ho
            go_wp2
            go_roundg (4 - (k + 1))
            case measure => omega
            case rel => exact ⟨rfl, k + 1, by omega, rfl, by go_num, by rw [HS.out]⟩
        · obtain rfl : k = 4 := by omega
          have hcell : wr.cell? ⟨w.heap.size + 1, j, none⟩ = some (.int .u32 (tv d j j)) := by rw [HB.out.cell]; simpa using tabL_get d j j hlt
          have hfrz : wr.frozen? ⟨w.heap.size + 1, j, none⟩ = false := HB.out.frozen _
          go_wp2
          go_roundg (16 - (j + 1))
          case measure => omega
          case rel =>
            refine ⟨j + 1, by omega, rfl, by go_num, ?_, HB0.out.far (by simp) _, hb.setCell (by simp) _, by simpa [World.setCell] using hsz⟩
            have h := HB.out.set_ j (.int .u32 ((sn d 4 j : Nat) : Int))
            rw [List.setIfInBounds_toArray, tabL_set d j hlt] at h
            exact h
    · obtain rfl : j = 16 := by omega
      have g1 : ∀ i, i < 16 → wr.cell? ⟨w.heap.size + 1, i, none⟩ = some (.int .u32 (tv d 16 i)) := fun i hi => by rw [hblk.cell]; simpa using tabL_get d 16 i hi
      have g2 : ∀ i, i < 16 → wr.cell? ⟨w.heap.size, i, none⟩ = some (.int .u32 (tv 0 0 i)) := fun i hi => by rw [hblk0.cell]; simpa using tabL_get 0 0 i hi
      have g3 : ∀ i, wr.frozen? ⟨w.heap.size, i, none⟩ = false := fun i => hblk0.frozen i
      clear hblk hblk0
      go_wp2
      refine bodyPost_ret (v := .agg (tabL d 16).toArray) ?r1 rfl ⟨rfl, ?_⟩
      case r1 =>
        simp [results, Try.results21, go_sem, g2]
        rfl
      repeat (refine Below.setCell ?_ (by simp) _)
      exact hb

theorem tabL_lit (d : Nat) : (tabL d 16).toArray = #[.int .u32 (tv d 16 0), .int .u32 (tv d 16 1), .int .u32 (tv d 16 2), .int .u32 (tv d 16 3), .int .u32 (tv d 16 4), .int .u32 (tv d 16 5), .int .u32 (tv d 16 6), .int .u32 (tv d 16 7), .int .u32 (tv d 16 8), .int .u32 (tv d 16 9), .int .u32 (tv d 16 10), .int .u32 (tv d 16 11), .int .u32 (tv d 16 12), .int .u32 (tv d 16 13), .int .u32 (tv d 16 14), .int .u32 (tv d 16 15)] := rfl
end Go.Proofs.Ytcghjjldjfghgaa
