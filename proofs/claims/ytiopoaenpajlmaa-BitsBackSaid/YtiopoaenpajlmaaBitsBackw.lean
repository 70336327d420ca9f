/-
  BitsBack, the walk: numbers put one behind the other are got so.
-/
import Derived.Test.YtiopoaenpajlmaaBitsBack
import Derived.Deep.RegionHeld3
import Derived.Deep.LoopGhost
import Derived.Deep.DeepCutAuto
namespace Go.Proofs.Ytiopoaenpajlmaa
open Go.RowKit Go.Deep

/-- what holds of the row at the head of each round: the variable's two cells, the row that it holds -/
def Row1 (w wr : World) (l1 l2 : List Int) (j : Nat) : Prop :=
  ∃ A n c L, wr.cell? ⟨w.heap.size, 0, none⟩ = some (.slice A n c) ∧ wr.cell? ⟨w.heap.size, 1, none⟩ = some (.int .i64 (szT l2 j)) ∧ wr.frozen? ⟨w.heap.size, 0, none⟩ = false ∧ wr.frozen? ⟨w.heap.size, 1, none⟩ = false ∧
    wr.ownsRow (w.heap.size + 1) 5 1 (.slice A n c) n (bv L) ∧ n = (szT l2 j + 7) / 8 ∧ bval L = vlT l1 l2 j ∧ Below w.heap.size w wr ∧ w.heap.size < wr.heap.size

set_option maxRecDepth 100000 in
set_option maxHeartbeats 2000000 in
theorem bitsBack_walk (w : World) (A1 : Option Addr) (len1 c1 : Nat) (l1 : List Int) (h1 : IntS w w.heap.size A1 len1 l1) (_m1 : len1 ≤ maxLen ∧ ∀ n ∈ l1, (Lit.int .i64 n).wf = true)
    (A2 : Option Addr) (len2 c2 : Nat) (l2 : List Int) (h2 : IntS w w.heap.size A2 len2 l2) (_m2 : len2 ≤ maxLen ∧ ∀ n ∈ l2, (Lit.int .i64 n).wf = true) :
    Calls Try.prog 4 #[.slice A1 len1 c1, .slice A2 len2 c2] w fun e w' => e = .returned (.bool true) ∧ Below w.heap.size w w' := by
  clear _m1 _m2
  have e1 := Lib.hid h1.len
  have e2 := Lib.hid h2.len
  by_cases h300 : 300 < min len1 len2
  · by_cases hc : len2 < len1
    all_goals
      go_enter Try.func4, Try.ntmps4
      go_wp2_with fail
      go_ret
      exact ⟨rfl, Below.refl _ _⟩
  · obtain ⟨M, hM⟩ : ∃ M, M = min len1 len2 := ⟨_, rfl⟩
    have hM1 : M ≤ len1 := by omega
    have hM2 : M ≤ len2 := by omega
    have hM3 : M ≤ 300 := by omega
    have hms : (len2 < len1 ∧ len2 ≤ 300 ∧ ((len2 : Nat) : Int) = (M : Int)) ∨ (¬ len2 < len1 ∧ len1 ≤ 300 ∧ ((len1 : Nat) : Int) = (M : Int)) := by omega
    clear hM h300
    rcases hms with ⟨hc, h3, hM⟩ | ⟨hc, h3, hM⟩
    all_goals
      have HM := Lib.hid hM
      clear hM
      go_enter Try.func4, Try.ntmps4
      go_wp2_with fail
      simp only [HM.out]
      go_loopg [7, 8, 9, 10, 11] (M) (fun g t i _ _ _ wr => ∃ j : Nat, j ≤ M ∧ g = M - j ∧ t = .int .i64 (szT l2 j) ∧ i = .int .i64 (j : Int) ∧ Row1 w wr l1 l2 j)
      case atStart =>
        refine ⟨0, Nat.zero_le _, rfl, rfl, rfl, none, 0, 0, [], by simp [go_sem], by simp [go_sem, szT], by simp [go_sem], by simp [go_sem], ⟨by simp, .inl ⟨rfl, rfl⟩⟩, by simp [szT], rfl, (Below.refl _ _).alloc (Nat.le_refl _) _, by simp⟩
      case round =>
        obtain ⟨j, hj, rfl, rfl, rfl, hrow⟩ := hrel
        by_cases hlt : j < M
        · obtain ⟨A, n, c, L, g0, g1, g2, g3, hown, hn, hL, hbw, hsz⟩ := hrow
          have hN := Lib.hid hn
          have HL := Lib.hid hL
          clear hn hL
          have hj1 : j < l1.length := by have := e1.out; omega
          have hj2 : j < l2.length := by have := e2.out; omega
          have hr1 : IntS wr w.heap.size A1 len1 l1 := h1.below hbw
          have hr2 : IntS wr w.heap.size A2 len2 l2 := h2.below hbw
          obtain ⟨b1, o1, rfl, hb1, k1⟩ := hr1.at_ hj1
          obtain ⟨b2, o2, rfl, hb2, k2⟩ := hr2.at_ hj2
          have z2 := szI_walk l2[j]
          have z1 := vlI_walk l1[j] (l2[j] % 18446744073709551616 % 25).toNat (by generalize l2[j] % 18446744073709551616 = x; omega)
          have y2 : (l2[j] % 18446744073709551616 % 25).toNat = szI l2 j := by simp [szI, hj2]
          have y1 : (l1[j] % 2 ^ szI l2 j).toNat = vlI l1 l2 j := by simp [vlI, hj1]
          rw [y2] at z2 z1
          rw [y1] at z1
          have z1' := vlI_walk' l1[j] (szI l2 j) (szI_le l2 j)
          rw [y1] at z1'
          clear y1 y2
          have hs24 := szI_le l2 j
          have hsT := szT_le l2 j
          have hvl := vlI_lt l1 l2 j
          have hRB : Hid (RightBits L (szT l2 j)) := by
            have := vlT_lt l1 l2 j
            have h3 := hN.out
            have h4 := (own_reads hown).1
            refine ⟨by omega, by omega, ?_, by rw [HL.out, Int.toNat_natCast]; exact this⟩
            simp at h4; omega
          have hown' := Lib.hid hown
          clear hown
          have d0 : (0 : Int) ≤ (j : Int) := by omega
          have d1 : (j : Int) < (len1 : Int) := by omega
          have d2 : (j : Int) < (len2 : Int) := by omega
          go_wp2_with fail
          have en1 := World.new_ne wr _ g0
          have en2 := World.new_ne wr _ k1
          go_upto_region 10 with fail
          simp only [z2]
          clear z2
          go_cut [10, 11] from 25 to 57 (fun x e wx => ∃ gx A' c', x = .pointer (some ⟨gx, 0, none⟩) ∧ e = .int .i64 0 ∧ w.heap.size < gx ∧ wx.cell? ⟨gx, 0, none⟩ = some (.slice A' ((szT l2 j + szI l2 j + 7) / 8) c') ∧ wx.cell? ⟨gx, 1, none⟩ = some (.int .i64 ((szT l2 j + szI l2 j : Nat) : Int)) ∧ wx.cell? ⟨w.heap.size, 0, none⟩ = some (.slice A n c) ∧ wx.cell? ⟨w.heap.size, 1, none⟩ = some (.int .i64 (szT l2 j)) ∧ wx.frozen? ⟨w.heap.size, 0, none⟩ = false ∧ wx.frozen? ⟨w.heap.size, 1, none⟩ = false ∧ wx.ownsRow (w.heap.size + 1) 5 1 (.slice A' ((szT l2 j + szI l2 j + 7) / 8) c') ((szT l2 j + szI l2 j + 7) / 8) (bv (putL L (szT l2 j) (vlI l1 l2 j) (szI l2 j))) ∧ Below w.heap.size w wx ∧ w.heap.size < wx.heap.size)
          case first =>
            go_region_held3 (fun w' => w'.cell? ⟨w.heap.size, 0, none⟩ = some (.slice A n c) ∧ w'.cell? ⟨w.heap.size, 1, none⟩ = some (.int .i64 (szT l2 j)) ∧ w'.cell? ⟨b1, o1 + j, none⟩ = some (.int .i64 l1[j])) (first | go_keep | (go_split_ands; refine ⟨?_, ?_, ?_⟩ <;> assumption)) (first | (go_at_call 12; refine (put_yes A n c L (szT l2 j) (vlI l1 l2 j) (szI l2 j) wr.drew (own_reads hown'.out) hRB.out hs24 hvl (by omega)).mono ?_; rintro e w2 ⟨A', c', rfl, hn2⟩; have hbx : Below wr.heap.size wr w2 := ((Below.refl _ _).drew).trans hn2.2; have hb2x : ∀ (p : Addr) v, wr.cell? p = some v → w2.cell? p = some v := fun p v h => (hbx.cell (World.block_lt_of_cell? _ _ h)).trans h; have q0 : w2.cell? ⟨w.heap.size, 0, none⟩ = some (.slice A n c) := hb2x _ _ g0; have q1 : w2.cell? ⟨w.heap.size, 1, none⟩ = some (.int .i64 (szT l2 j)) := hb2x _ _ g1; have q4 : w2.cell? ⟨b1, o1 + j, none⟩ = some (.int .i64 l1[j]) := hb2x _ _ k1; have n1 := World.new_ne w2 _ q0; have n2 := World.new_ne w2 _ q4) | (go_at_call 12; refine (put_yes A n c L (szT l2 j) (vlI l1 l2 j) (szI l2 j) (wr.alloc (.cells #[.slice none 0 0, .int .i64 0] 24)).drew (ByteS.alloc' (own_reads hown'.out) _) hRB.out hs24 hvl (by omega)).mono ?_; rintro e w2 ⟨A', c', rfl, hn2⟩; have hbx : Below wr.heap.size wr w2 := (((Below.refl _ _).alloc (Nat.le_refl _) _).drew).trans (hn2.2.mono (by simp)); have hb2x : ∀ (p : Addr) v, wr.cell? p = some v → w2.cell? p = some v := fun p v h => (hbx.cell (World.block_lt_of_cell? _ _ h)).trans h; have r0 : w2.cell? ⟨wr.heap.size, 0, none⟩ = some (.slice none 0 0) := (hn2.2.cell (by simp)).trans (by simp [go_sem]); have r1 : w2.cell? ⟨wr.heap.size, 1, none⟩ = some (.int .i64 0) := (hn2.2.cell (by simp)).trans (by simp [go_sem]); have r2 : w2.frozen? ⟨wr.heap.size, 0, none⟩ = false := (hn2.2.frozen (by simp)).trans (by simp [go_sem]); have r3 : w2.frozen? ⟨wr.heap.size, 1, none⟩ = false := (hn2.2.frozen (by simp)).trans (by simp [go_sem]); have q0 : w2.cell? ⟨w.heap.size, 0, none⟩ = some (.slice A n c) := hb2x _ _ g0; have q1 : w2.cell? ⟨w.heap.size, 1, none⟩ = some (.int .i64 (szT l2 j)) := hb2x _ _ g1; have q4 : w2.cell? ⟨b1, o1 + j, none⟩ = some (.int .i64 l1[j]) := hb2x _ _ k1; have n1 := World.new_ne w2 _ q0; have n2 := World.new_ne w2 _ q4))
            · go_wp2_with fail
              go_meet
              have hW := hbx.alloc hbx.size (.cells #[.slice A' ((szT l2 j + szI l2 j + 7) / 8) c', .int .i64 ((szT l2 j : Int) + (szI l2 j : Int))] 24)
              refine ⟨w2.heap.size, A', c', rfl, rfl, by have := hbx.size; omega, by simp [go_sem], by simp [go_sem], (hW.cell hsz).trans g0, (hW.cell hsz).trans g1, (hW.frozen hsz).trans g2, (hW.frozen hsz).trans g3, ?_, hbw.trans (hW.mono (by omega)), Nat.lt_of_lt_of_le hsz hW.size⟩
              have ho := own_below hn2.1 ((Below.refl _ _).alloc (Nat.le_refl _) (.cells #[.slice A' ((szT l2 j + szI l2 j + 7) / 8) c', .int .i64 ((szT l2 j : Int) + (szI l2 j : Int))] 24))
              rw [show (putL L (szT l2 j) (vlI l1 l2 j) (szI l2 j)).length = (szT l2 j + szI l2 j + 7) / 8 by simp [putL]] at ho
              exact own_base ho (by simp; omega)
            · go_wp2_with fail
              go_meet
              have hW := (hbx.setCell (p := ⟨wr.heap.size, 0, none⟩) (Nat.le_refl _) (.slice A' ((szT l2 j + szI l2 j + 7) / 8) c')).setCell (p := ⟨wr.heap.size, 1, none⟩) (Nat.le_refl _) (.int .i64 ((szT l2 j : Int) + (szI l2 j : Int)))
              refine ⟨wr.heap.size, A', c', rfl, rfl, hsz, by simp [go_sem, r0], by simp [go_sem, r1], (hW.cell hsz).trans g0, (hW.cell hsz).trans g1, (hW.frozen hsz).trans g2, (hW.frozen hsz).trans g3, ?_, hbw.trans (hW.mono (by omega)), Nat.lt_of_lt_of_le hsz hW.size⟩
              have ho := hn2.1
              rw [show (putL L (szT l2 j) (vlI l1 l2 j) (szI l2 j)).length = (szT l2 j + szI l2 j + 7) / 8 by simp [putL]] at ho
              have hne : ∀ g, (Value.slice A' ((szT l2 j + szI l2 j + 7) / 8) c').ownBlock = some g → g ≠ wr.heap.size := fun g hg => by have := own_ge ho g hg; simp at this; omega
              exact own_base (own_setCell (own_setCell ho ⟨wr.heap.size, 0, none⟩ _ hne) ⟨wr.heap.size, 1, none⟩ _ hne) (by simp; omega)
          case rest =>
            obtain ⟨gx, A', c', rfl, rfl, hgx, x0, x1, y0, y1, y2, y3, ho, hbx, hsx⟩ := hcut
            have HO := Lib.hid ho
            clear ho
            go_wp2
            go_roundg (M - (j + 1))
            case measure => omega
            case rel =>
              have hput : (putL L (szT l2 j) (vlI l1 l2 j) (szI l2 j)).length = (szT l2 j + szI l2 j + 7) / 8 := by simp [putL]
              have hne : ∀ g, (Value.slice A' ((szT l2 j + szI l2 j + 7) / 8) c').ownBlock = some g → g ≠ w.heap.size := fun g hg => by have := own_ge HO.out g hg; omega
              refine ⟨j + 1, by omega, rfl, by simp [szT], by go_num, A', _, c', putL L (szT l2 j) (vlI l1 l2 j) (szI l2 j), ?_, ?_, ?_, ?_, own_setCell (own_setCell HO.out ⟨w.heap.size, 0, none⟩ _ hne) ⟨w.heap.size, 1, none⟩ _ hne, by simp [szT], ?_, ?_, ?_⟩
              · simp [go_sem, y0]
              · simp [go_sem, y1, szT]
              · simp [go_sem, y2]
              · simp [go_sem, y3]
              · rw [putL, bval_nbytes, HL.out, vlT, Nat.mod_eq_of_lt]
                have h5 := vlT_lt l1 l2 (j + 1)
                simp only [vlT, szT] at h5
                have h6 : 2 ^ (szT l2 j + szI l2 j) ≤ 256 ^ ((szT l2 j + szI l2 j + 7) / 8) := by rw [pow256]; exact Nat.pow_le_pow_right (by omega) (by omega)
                omega
              · exact (hbx.setCell (Nat.le_refl _) _).setCell (Nat.le_refl _) _
              · simpa [World.setCell] using hsx
        · obtain rfl : M = j := by omega
          obtain ⟨A, n, c, L, g0, g1, g2, g3, hown, hn, hL, hbw, hsz⟩ := hrow
          have hN := Lib.hid hn
          have HL := Lib.hid hL
          clear hn hL
          have hr1 : IntS wr w.heap.size A1 len1 l1 := h1.below hbw
          have hr2 : IntS wr w.heap.size A2 len2 l2 := h2.below hbw
          have hsT := szT_le l2 (M)
          have hown' := Lib.hid hown
          clear hown
          go_wp2_with fail
          go_loopg [12, 13, 14, 15, 16, 17] (M) (fun g a i _ _ _ _ wx => wr = wx ∧ ∃ j : Nat, j ≤ M ∧ g = M - j ∧ a = .int .i64 (szT l2 j) ∧ i = .int .i64 (j : Int))
          case atStart => exact ⟨rfl, 0, Nat.zero_le _, rfl, rfl, rfl⟩
          case round =>
            obtain ⟨rfl, j, hj', rfl, rfl, rfl⟩ := hrel
            by_cases hlt2 : j < M
            · have hj1 : j < l1.length := by have := e1.out; omega
              have hj2 : j < l2.length := by have := e2.out; omega
              obtain ⟨b1, o1, rfl, hb1, k1⟩ := hr1.at_ hj1
              obtain ⟨b2, o2, rfl, hb2, k2⟩ := hr2.at_ hj2
              have z2 := szI_walk l2[j]
              have z1 := vlI_walk l1[j] (l2[j] % 18446744073709551616 % 25).toNat (by generalize l2[j] % 18446744073709551616 = x; omega)
              have y2 : (l2[j] % 18446744073709551616 % 25).toNat = szI l2 j := by simp [szI, hj2]
              have y1 : (l1[j] % 2 ^ szI l2 j).toNat = vlI l1 l2 j := by simp [vlI, hj1]
              rw [y2] at z2 z1
              rw [y1] at z1
              clear y1 y2
              have t1 : ((vlI l1 l2 j : Int) != bits .and .i64 l1[j] (wrap64 (wrap64 (2 ^ min (IntKind.u64.wrap (szI l2 j : Int)).toNat 64) - 1))) = false := by rw [z1]; simp
              have t2 := t1
              rw [show min (IntKind.u64.wrap (szI l2 j : Int)).toNat 64 = szI l2 j by have := szI_le l2 j; rw [u64_nat _ (by omega), Int.toNat_natCast]; omega] at t2
              clear z1 t1
              have hs24 := szI_le l2 j
              have hget : Hid (getN L (szT l2 j) (szI l2 j) = vlI l1 l2 j) := by unfold Hid; rw [getN, HL.out]; exact vlT_get l1 l2 j _ hlt2
              have hm : szT l2 j + szI l2 j ≤ 8 * n := by
                have h3 := szT_mono l2 (j + 1) (M) hlt2
                simp only [szT] at h3
                have h4 := hN.out; omega
              have hnn : n < 140737488355328 := by have := hN.out; omega
              go_wp2_with fail
              refine (get_yes A n c L (szT l2 j) (szI l2 j) _ _ (own_reads hown'.out) hnn hs24 hm).mono ?_
              rw [hget.out]
              rintro e w3 ⟨rfl, rfl⟩
              go_wp2_with fail
              go_roundg (M - (j + 1))
              case measure => omega
              case rel => exact ⟨rfl, j + 1, by omega, rfl, by simp [szT], by go_num⟩
            · obtain rfl : M = j := by omega
              have hRB : Hid (RightBits L (szT l2 (M))) := by
                have := vlT_lt l1 l2 (M)
                have h3 := hN.out
                have h4 := (own_reads hown'.out).1
                refine ⟨by omega, by omega, ?_, by rw [HL.out, Int.toNat_natCast]; exact this⟩
                simp at h4; omega
              have hck : Hid (checkI L (szT l2 (M)) = 0) := checkI_yes hRB.out
              have hnn : n < 140737488355328 := by have := hN.out; omega
              have t1 : ((n : Int) == ((szT l2 (M) : Int) + 7) / 8) = true := by have := hN.out; simp; omega
              go_wp2_with fail
              refine (check_any A n c L _ _ _ (own_reads hown'.out) (Nat.le_refl _) hnn).mono ?_
              rw [hck.out]
              rintro e w3 ⟨rfl, hb3⟩
              go_wp2_with fail
              refine (wakes_any _).mono ?_
              rintro e w4 ⟨rfl, hb4⟩
              go_wp2_with fail
              go_ret
              exact ⟨rfl, hbw.trans ((hb3.trans (hb4.mono hb3.size)).mono (by omega))⟩
end Go.Proofs.Ytiopoaenpajlmaa
