/-
  Contracts of bits.Fill, of wherrykeep.Bits, and the closed text that each statement of this layer ends with.
-/
import Derived.Test.YtiopoaenpajlmaaBputw
import Derived.Test.YtiopoaenpajlmaaBget
import Derived.Deep.RegionLaw
import Derived.Deep.RegionHeld3
namespace Go.Proofs.Ytiopoaenpajlmaa
open Go.RowKit Go.Deep

set_option maxHeartbeats 1000000 in
theorem keepBits_any (A1 A2 : Option Addr) (n1 n2 : Nat) (l1 l2 : List UInt8) (c1 c2 : Nat) (N1 N2 : Int) (w : World) (h1 : ByteS w w.heap.size A1 n1 l1) (h2 : ByteS w w.heap.size A2 n2 l2) (hl : n1 < 140737488355328) :
    Calls Try.prog 17 #[.agg #[.slice A1 n1 c1, .int .i64 N1], .agg #[.slice A2 n2 c2, .int .i64 N2]] w fun e w' => e = .returned (.bool (decide (N1 = N2) && (l1 == l2))) ∧ Below w.heap.size w w' := by
  by_cases hN : N1 = N2
  · subst hN
    go_enter Try.func17, Try.ntmps17
    go_wp2_with fail
    refine (keepBytes_any A1 A2 n1 n2 l1 l2 c1 c2 _ w.heap.size ((h1.alloc (Nat.le_refl _) _).alloc (by simp) _) ((h2.alloc (Nat.le_refl _) _).alloc (by simp) _) hl).mono ?_
    rintro e w1 ⟨rfl, m, rfl⟩
    go_wp2
    go_ret
    exact ⟨ret_bool (by simp), below_drewN (((Below.refl _ _).alloc (Nat.le_refl _) _).alloc (by simp) _) _⟩
  · have hN' : (N1 == N2) = false := by simp [hN]
    go_enter Try.func17, Try.ntmps17
    go_wp2
    go_ret
    exact ⟨ret_bool (by simp [hN]), ((Below.refl _ _).alloc (Nat.le_refl _) _).alloc (by simp) _⟩

set_option maxHeartbeats 2000000 in
theorem fill_yes (A : Option Addr) (n c : Nat) (l : List UInt8) (N : Nat) (w : World) (h : ByteS w w.heap.size A n l) (hr : RightBits l N) :
    Calls Try.prog 14 #[.agg #[.slice A n c, .int .i64 N]] w fun e w' => ∃ v, e = .returned (.tuple #[.agg #[v, .int .i64 ((8 * n : Nat) : Int)], .int .i64 0]) ∧ NewBytes w w' l v := by
  have hln := Lib.hid h.len
  have hck : Hid (checkI l N = 0) := checkI_yes hr
  have hnn : n ≤ 5000 := by have := hr.2.2.1; have := hr.2.1; have := hln.out; omega
  obtain ⟨i0, hi0, hz0, hz1, hz2⟩ := info_parts Try.infoU8
  go_enter Try.func14, Try.ntmps14
  go_wp2_with fail
  refine (check_any A n c l N _ w.heap.size ((h.alloc (Nat.le_refl _) _).alloc (by simp) _) (by simp; omega) (by omega)).mono ?_
  rw [hck.out]
  rintro e w1 ⟨rfl, hb1⟩
  obtain ⟨hc1, hf1⟩ := bcell hb1
  have hsz1 : w.heap.size + 1 < w1.heap.size := by have := hb1.size; simp at this; omega
  have hsz0 : w.heap.size < w1.heap.size := by omega
  have h1 : ByteS w1 w.heap.size A n l := ((h.alloc (Nat.le_refl _) _).alloc (by simp) _).below (hb1.mono (by simp; omega))
  have hl0 : w1.cell? ⟨w.heap.size, 0, none⟩ = some (.slice A n c) := by rw [hc1 _ _ (by simp; omega)]; simp [go_sem]
  have hl1 : w1.cell? ⟨w.heap.size + 1, 0, none⟩ = some (.slice none 0 0) := by rw [hc1 _ _ (by simp)]; simp [go_sem]
  have hl2 : w1.cell? ⟨w.heap.size + 1, 1, none⟩ = some (.int .i64 0) := by rw [hc1 _ _ (by simp)]; simp [go_sem]
  have hl3 : w1.frozen? ⟨w.heap.size + 1, 0, none⟩ = false := by rw [hf1 _ _ (by simp)]; simp [go_sem]
  have hl4 : w1.frozen? ⟨w.heap.size + 1, 1, none⟩ = false := by rw [hf1 _ _ (by simp)]; simp [go_sem]
  go_wp2
  go_region_held3 (fun w' => w'.cell? ⟨w.heap.size, 0, none⟩ = some (.slice A n c)) (first | go_keep | (rw [hgrow.cell_far _ (by simp; omega) (by simp [Value.ownBlock])]; assumption)) ((refine step_append_any _ (by rfl) _ _ _ (by rfl) w1.heap.size 5 i0 _ 1 1 Try.underlying22 hi0 hz0 hz1 hz2 rfl (by omega) (.slice none 0 0) 0 [] (by rfl) ⟨by simp, .inl ⟨rfl, rfl⟩⟩ w.heap.size A n c (bv l) (by rfl) h1.drew (bv_one l) (by simp only [maxLen]; omega) (by omega) (by simp) ?_; intro v1 w2 hown1 hgrow hat1; obtain ⟨A1, k1, rfl, hrd1⟩ := own_slice hown1; have g1 : w2.cell? ⟨w.heap.size + 1, 0, none⟩ = some (.slice none 0 0) := (hgrow.cell_far _ (by simp; omega) (by simp [Value.ownBlock])).trans hl1; have g2 : w2.cell? ⟨w.heap.size + 1, 1, none⟩ = some (.int .i64 0) := (hgrow.cell_far _ (by simp; omega) (by simp [Value.ownBlock])).trans hl2; have g3 : w2.frozen? ⟨w.heap.size + 1, 0, none⟩ = false := (hgrow.frozen_far _ (by simp; omega) (by simp [Value.ownBlock])).trans hl3; have g4 : w2.frozen? ⟨w.heap.size + 1, 1, none⟩ = false := (hgrow.frozen_far _ (by simp; omega) (by simp [Value.ownBlock])).trans hl4))
  have hown2 : w2.ownsRow w1.heap.size 5 1 (.slice A1 n k1) n (bv l) := by simpa using hown1
  have hat2 : ∀ g, (Value.slice A1 n k1).ownBlock = some g → g ≠ w.heap.size + 1 := by intro g hg; rcases hat1 with e | e <;> rw [Nat.zero_add, hg] at e <;> simp [Value.ownBlock] at e <;> omega
  have HO := Lib.hid hown2
  have HA := Lib.hid hat2
  clear hown2 hat2 hown1 hat1
  go_wp2
  refine bodyPost_ret (v := .tuple #[.agg #[.slice A1 n k1, .int .i64 (IntKind.i64.wrap (8 * (n : Int)))], .int .i64 0]) ?r1 rfl ⟨.slice A1 n k1, ?_, ?_, ?_⟩
  case r1 => simp [results, Try.results14, go_sem, g1, g2]
  · rw [show IntKind.i64.wrap (8 * (n : Int)) = ((8 * n : Nat) : Int) by rw [IntKind.wrap_i64]; omega]
  · rw [hln.out]; exact own_base (own_setCell (own_setCell HO.out _ _ HA.out) _ _ HA.out) (by omega)
  · exact (((((((Below.refl _ _).alloc (Nat.le_refl _) _).alloc (by simp) _).trans (hb1.mono (by simp; omega))).drew).grown hgrow (by simp; omega) (by simp [Value.ownBlock])).setCell (by simp) _).setCell (by simp) _

set_option maxHeartbeats 2000000 in
theorem wakes_any (w : World) :
    Calls Try.prog 24 #[] w fun e w' => e = .returned (.bool true) ∧ Below w.heap.size w w' := by
  have hg : getN (putL (putL [] 0 5 3) 3 1 2) 0 3 = 5 := by decide
  have hv : putL (putL [] 0 5 3) 3 1 2 = [13] := by decide
  have HG := Lib.hid hg
  have HV := Lib.hid hv
  clear hg hv
  go_enter Try.func24, Try.ntmps24
  go_wp2_with fail
  refine (put_yes none 0 0 [] 0 5 3 _ Reads.none_ (by decide) (by omega) (by omega) (by omega)).mono ?_
  rintro e w1 ⟨A1, c1, rfl, hn1⟩
  go_wp2_with fail
  obtain ⟨_, hr1⟩ := hn1.bytes
  obtain ⟨hc1, hf1⟩ := bcell hn1.2
  refine (put_yes A1 1 c1 (putL [] 0 5 3) 3 1 2 _ (hr1.alloc' _) (by decide) (by omega) (by omega) (by omega)).mono ?_
  rintro e w2 ⟨A2, c2, rfl, hn2⟩
  obtain ⟨_, hr2⟩ := hn2.bytes
  obtain ⟨hc2, hf2⟩ := bcell hn2.2
  have hs2 : w1.heap.size < w2.heap.size := by have := hn2.2.size; simp at this; omega
  go_wp2_with fail
  have hne : ∀ g, (Value.slice A2 ((3 + 2 + 7) / 8) c2).ownBlock = some g → g ≠ w1.heap.size := fun g hg => by have := own_ge hn2.1 g hg; simp at this; omega
  have o2 := own_reads (own_setCell (own_setCell hn2.1 ⟨w1.heap.size, 0, none⟩ (.slice A2 1 c2) hne) ⟨w1.heap.size, 1, none⟩ (.int .i64 5) hne)
  have H2 := Lib.hid o2
  clear o2 hne
  refine (get_yes A2 1 c2 _ 0 3 _ _ H2.out (by omega) (by omega) (by omega)).mono ?_
  rw [HG.out]
  rintro e w3 ⟨rfl, rfl⟩
  go_wp2_with fail
  refine (keepBits_any A2 (some ⟨w2.heap.size, 0, none⟩) 1 1 _ [13] c2 1 5 5 _ (ByteS.alloc' H2.out _) (new_bytes_at ((w2.setCell ⟨w1.heap.size, 0, none⟩ (.slice A2 1 c2)).setCell ⟨w1.heap.size, 1, none⟩ (.int .i64 5)) [13] 5 w2.heap.size (by simp [World.setCell])) (by omega)).mono ?_
  rw [HV.out]
  rintro e w4 ⟨rfl, hb4⟩
  go_wp2
  go_ret
  exact ⟨rfl, (((((hn1.2.alloc hn1.2.size _).trans (hn2.2.mono (by have := hn1.2.size; simp; omega))).setCell (by have := hn1.2.size; simp; omega) _).setCell (by have := hn1.2.size; simp; omega) _).alloc (by have := hn1.2.size; have := hn2.2.size; simp at *; omega) _).trans (hb4.mono (by have := hn1.2.size; have := hn2.2.size; simp at *; omega))⟩
end Go.Proofs.Ytiopoaenpajlmaa
