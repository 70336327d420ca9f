/-
  BitsWrong, the walk.
-/
import Derived.Test.YtiopoaenpajlmaaBitsWrong
namespace Go.Proofs.Ytiopoaenpajlmaa
open Go.RowKit Go.Deep

set_option maxRecDepth 100000 in
set_option maxHeartbeats 4000000 in
theorem bitsWrong_walk (w : World) (A : Option Addr) (n c : Nat) (l : List UInt8) (hb : ByteS w w.heap.size A n l) (_m : n ≤ maxLen) (k : Int) (_wk : (Lit.int .i64 k).wf = true) (how : Int) (_wh : (Lit.int .i64 how).wf = true) :
    Calls Try.prog 8 #[.slice A n c, .int .i64 k, .int .i64 how] w fun e w' => e = .returned (.bool true) ∧ Below w.heap.size w w' := by
  clear _m _wk _wh
  have hln := Lib.hid hb.len
  by_cases h1 : 200 < n
  · go_enter Try.func8, Try.ntmps8
    go_wp2_with fail
    go_ret
    exact ⟨rfl, Below.refl _ _⟩
  by_cases h2 : n = 0
  · subst h2
    go_enter Try.func8, Try.ntmps8
    go_wp2_with fail
    go_ret
    exact ⟨rfl, Below.refl _ _⟩
  obtain ⟨last, rfl⟩ : ∃ last, n = last + 1 := ⟨n - 1, by omega⟩
  obtain ⟨K, hK, eK⟩ := uint_mod k 8 (by omega) (by omega)
  obtain ⟨J, hJ, eJ⟩ : ∃ J : Nat, J < 3 ∧ (IntKind.u64.wrap how).tmod 3 = (J : Int) := by
    rw [IntKind.wrap_u64]
    have hnn : 0 ≤ how % 18446744073709551616 := Int.emod_nonneg _ (by decide)
    rw [Int.tmod_eq_emod_of_nonneg hnn]
    generalize how % 18446744073709551616 = x at *
    exact ⟨(x % 3).toNat, by omega, by omega⟩
  have hi : last < l.length := by have := hln.out; omega
  have d1 : decide ((200 : Int) < (last : Int) + 1) = false := by simp; omega
  have d2 : ((last : Int) + 1 == 0) = false := by simp; omega
  have eK' : wrap64 ((IntKind.u64.wrap k).tmod 8) = (K : Int) := eK
  have EJ := Lib.hid eJ
  have eN : wrap64 (8 * (last : Int) + 1 + (K : Int)) = 8 * (last : Int) + 1 + (K : Int) := by unfold wrap64; omega
  clear eK eJ
  go_enter Try.func8, Try.ntmps8
  go_wp2_with fail
  simp only [eK']
  refine (twin_any A (last + 1) c l w _ hb (by omega)).mono ?_
  rintro e w1 ⟨v1, rfl, hn1⟩
  obtain ⟨A1, c1, rfl, hr1⟩ := hn1.slice
  have hown1 := hn1.1
  rw [hln.out] at hown1
  rw [hln.out]
  go_wp2_with fail
  have eP : 8 * (last : Int) + 1 + (K : Int) - 8 * (last : Int) = ((K + 1 : Nat) : Int) := by omega
  simp only [eP]
  clear eP eK' eN
  obtain ⟨W, hW⟩ : ∃ W, W = w1.alloc (.cells #[.slice A1 (last + 1) c1, .int .i64 (8 * (last : Int) + 1 + (K : Int))] 24) := ⟨_, rfl⟩
  have s0 : W.cell? ⟨w1.heap.size, 0, none⟩ = some (.slice A1 (last + 1) c1) := by rw [hW]; simp [go_sem]
  have s1 : W.cell? ⟨w1.heap.size, 1, none⟩ = some (.int .i64 (8 * (last : Int) + 1 + (K : Int))) := by rw [hW]; simp [go_sem]
  have hWb1 : Below w1.heap.size w1 W := by rw [hW]; exact (Below.refl _ _).alloc (Nat.le_refl _) _
  have hsW : w1.heap.size < W.heap.size := by rw [hW]; simp
  have hWb : Below w.heap.size w W := hn1.2.trans (hWb1.mono hn1.2.size)
  have hownW := own_below hown1 hWb1
  have hlt1 := own_lt hown1
  rw [← hW]
  clear hW
  obtain ⟨g1, rfl, hg1, hg1b, kc1, kf1, kset1⟩ := own_store hownW last hi
  have hg11 : g1 < w1.heap.size := hlt1 g1 rfl
  have hx := (l[last]).toNat_lt
  obtain ⟨Y, hY⟩ : ∃ Y, Y = l[last].toNat % 2 ^ (K + 1) := ⟨_, rfl⟩
  have hY2 : Y < 2 ^ (K + 1) := by rw [hY]; exact Nat.mod_lt _ (Nat.pow_pos (by omega))
  have hp8 : 2 ^ (K + 1) ≤ 2 ^ 8 := Nat.pow_le_pow_right (by omega) (by omega)
  have hY256 : Y < 256 := by omega
  have em0 : (((l[last].toNat : Nat) : Int) % 2 ^ (K + 1)).toNat = Y := by rw [hY, pow2_cast]; omega
  have em := vlI_walk ((l[last].toNat : Nat) : Int) (K + 1) (by omega)
  rw [em0, show min (IntKind.u64.wrap ((K + 1 : Nat) : Int)).toNat 64 = min (K + 1) 64 by rw [u64_nat _ (by omega), Int.toNat_natCast]] at em
  have ew : IntKind.i64.wrap ((l[last].toNat : Nat) : Int) = ((l[last].toNat : Nat) : Int) := by rw [IntKind.wrap_i64]; omega
  have ey : IntKind.u8.wrap (Y : Int) = (Y : Int) := by rw [IntKind.wrap_u8]; omega
  clear em0 hY
  have en1 := World.new_ne W _ s0
  have en2 := World.new_ne W _ kc1
  have z0 : (0 : Int) ≤ (last : Int) := by omega
  have z1 : (last : Int) < (last : Int) + 1 := by omega
  have ng : g1 ≠ w1.heap.size := by omega
  have ng' : w1.heap.size ≠ g1 := by omega
  go_still_tail 16, (by kernel_rfl)
  change wpList _ _ _ _ _ W.drew
  go_wp2_with fail
  obtain ⟨y, hy⟩ : ∃ y : UInt8, y.toNat = Y := ⟨UInt8.ofNat Y, by rw [UInt8.toNat_ofNat']; omega⟩
  rw [show ((Y : Int) % 256) = ((y.toNat : Nat) : Int) by omega]
  rw [← hy] at hY2
  obtain ⟨V, hV⟩ : ∃ V, V = (W.setCell ⟨g1, last, none⟩ (.int .u8 ((y.toNat : Nat) : Int))).drew := ⟨_, rfl⟩
  have t0 : V.cell? ⟨w1.heap.size, 0, none⟩ = some (.slice (some ⟨g1, 0, none⟩) (last + 1) c1) := by rw [hV]; simp [go_sem, s0]
  have t1 : V.cell? ⟨w1.heap.size, 1, none⟩ = some (.int .i64 (8 * (last : Int) + 1 + (K : Int))) := by rw [hV]; simp [go_sem, s1]
  have hVb : Below w.heap.size w V := by rw [hV]; exact (hWb.setCell hg1b _).drew
  have hsV : w1.heap.size < V.heap.size := by rw [hV]; simpa [World.setCell] using hsW
  have hVo : V.ownsRow w.heap.size 5 1 (.slice (some ⟨g1, 0, none⟩) (last + 1) c1) (last + 1) (bv (l.set last y)) := by rw [hV]; exact kset1 y
  rw [← hV]
  clear hV hownW hown1 hn1 hr1 hlt1 kset1 kc1 kf1 s0 s1 em ew ey en1 en2 hWb1 hsW hWb hg1 hp8 hY256 hy
  have hVr : ByteS V V.heap.size (some ⟨g1, 0, none⟩) (last + 1) (l.set last y) := own_reads hVo
  have hRB := right_masked l last K hln.out hK (by have := hln.out; omega) y hY2
  have hck : Hid (checkI (l.set last y) (8 * (last : Int) + 1 + (K : Int)) = 0) := by
    unfold Hid
    rw [show 8 * (last : Int) + 1 + (K : Int) = ((8 * last + (K + 1) : Nat) : Int) by omega]; exact checkI_yes hRB
  clear hRB
  refine (check_any (some ⟨g1, 0, none⟩) (last + 1) c1 (l.set last y) _ V _ hVr (Nat.le_refl _) (by omega)).mono ?_
  rw [hck.out]
  rintro e w3 ⟨rfl, hb3⟩
  have u0 : w3.cell? ⟨w1.heap.size, 0, none⟩ = some (.slice (some ⟨g1, 0, none⟩) (last + 1) c1) := (hb3.cell hsV).trans t0
  have u1 : w3.cell? ⟨w1.heap.size, 1, none⟩ = some (.int .i64 (8 * (last : Int) + 1 + (K : Int))) := (hb3.cell hsV).trans t1
  have hr3 : ByteS w3 w3.heap.size (some ⟨g1, 0, none⟩) (last + 1) (l.set last y) := ByteS.below' hVr hb3
  have h3b : Below w.heap.size w w3 := hVb.trans (hb3.mono hVb.size)
  clear t0 t1 hVo hVr hb3 hVb hck hsV
  go_wp2_with fail
  refine (twin_any (some ⟨g1, 0, none⟩) (last + 1) c1 (l.set last y) w3 _ hr3 (by omega)).mono ?_
  rintro e w4 ⟨v4, rfl, hn4⟩
  have hl4 : (l.set last y).length = last + 1 := by rw [List.length_set]; exact hln.out
  obtain ⟨A4, c4, rfl, _⟩ := hn4.slice
  rw [hl4] at hn4
  rw [hl4]
  have hown4 := hn4.1
  rw [hl4] at hown4
  have h4b : Below w.heap.size w w4 := h3b.trans (hn4.2.mono h3b.size)
  have hA4 := own_lt hown4
  have EN := Lib.hid (show 8 * (last : Int) + 1 + (K : Int) = ((8 * last + (K + 1) : Nat) : Int) by omega)
  rcases (show J = 0 ∨ J = 1 ∨ J = 2 by omega) with rfl | rfl | rfl
  · have e0 : (IntKind.u64.wrap how).tmod 3 = 0 := EJ.out
    obtain ⟨g4, rfl, hg4, hg4b, kc4, kf4, kset4⟩ := own_store hown4 last (by omega)
    rw [show (l.set last y)[last] = y by simp] at kc4
    by_cases hK7 : K = 7
    · have dk : ((K : Int) + 1 == 8) = true := by simp; omega
      go_wp2_with fail
      refine (wakes_any _).mono ?_
      rintro e pz ⟨rfl, hbz⟩
      go_wp2_with fail
      go_ret
      exact ⟨rfl, (h4b.alloc h4b.size _).trans (hbz.mono (by have := h4b.size; simp; omega))⟩
    have dk : ((K : Int) + 1 == 8) = false := by simp; omega
    have hp7 : 2 ^ (K + 1) ≤ 2 ^ 7 := Nat.pow_le_pow_right (by omega) (by omega)
    obtain ⟨Z, hZ⟩ : ∃ Z, Z = y.toNat + 2 ^ (K + 1) := ⟨_, rfl⟩
    have hZ256 : Z < 256 := by omega
    have eo : bits .or .i64 ((y.toNat : Nat) : Int) (wrap64 (2 ^ min (K + 1) 64)) = (Z : Int) := by
      have h := shl_one (K + 1) (by omega)
      rw [u64_nat _ (by omega), Int.toNat_natCast] at h
      rw [h, or_i64 _ _ (by omega) (by omega), hZ]
      have h2 := or_add y.toNat 1 (K + 1) hY2
      rw [Nat.one_mul] at h2
      rw [h2]
    have ew : IntKind.i64.wrap ((y.toNat : Nat) : Int) = ((y.toNat : Nat) : Int) := by rw [IntKind.wrap_i64]; omega
    have ey : IntKind.u8.wrap (Z : Int) = (Z : Int) := by rw [IntKind.wrap_u8]; omega
    have hZ2 : 2 ^ (K + 1) ≤ Z := by omega
    clear hZ hp7
    go_wp2_with fail
    obtain ⟨W5, hW5⟩ : ∃ X, X = w4.alloc (.cells #[.slice (some ⟨g4, 0, none⟩) (last + 1) c4, .int .i64 (8 * (last : Int) + 1 + (K : Int))] 24) := ⟨_, rfl⟩
    have g0 : W5.cell? ⟨w4.heap.size, 0, none⟩ = some (.slice (some ⟨g4, 0, none⟩) (last + 1) c4) := by rw [hW5]; simp [go_sem]
    have g1' : W5.cell? ⟨w4.heap.size, 1, none⟩ = some (.int .i64 (8 * (last : Int) + 1 + (K : Int))) := by rw [hW5]; simp [go_sem]
    have hb5 : Below w4.heap.size w4 W5 := by rw [hW5]; exact (Below.refl _ _).alloc (Nat.le_refl _) _
    have hs5 : w4.heap.size < W5.heap.size := by rw [hW5]; simp
    have kc5 : W5.cell? ⟨g4, last, none⟩ = some (.int .u8 ((y.toNat : Nat) : Int)) := (hb5.cell hg4).trans kc4
    have kf5 : W5.frozen? ⟨g4, last, none⟩ = false := (hb5.frozen hg4).trans kf4
    have hown5 := own_below hown4 hb5
    rw [← hW5]
    clear hW5 kset4 kc4 kf4
    go_still_tail 15, (by kernel_rfl)
    change wpList _ _ _ _ _ W5.drew
    go_wp2_with fail
    obtain ⟨z, hz⟩ : ∃ z : UInt8, z.toNat = Z := ⟨UInt8.ofNat Z, by rw [UInt8.toNat_ofNat']; omega⟩
    rw [show ((Z : Int) % 256) = ((z.toNat : Nat) : Int) by omega]
    obtain ⟨g5, hg5, _, hg5b, _, _, kset5⟩ := own_store hown5 last (by omega)
    injection hg5 with hg5
    injection hg5 with hg5
    subst hg5
    have ng4 : g4 ≠ w4.heap.size := by omega
    obtain ⟨X, hX⟩ : ∃ X, X = (W5.setCell ⟨g4, last, none⟩ (.int .u8 ((z.toNat : Nat) : Int))).drew := ⟨_, rfl⟩
    rw [← hX]
    have x0 : X.cell? ⟨w4.heap.size, 0, none⟩ = some (.slice (some ⟨g4, 0, none⟩) (last + 1) c4) := by rw [hX]; simp [go_sem, g0]
    have x1 : X.cell? ⟨w4.heap.size, 1, none⟩ = some (.int .i64 (8 * (last : Int) + 1 + (K : Int))) := by rw [hX]; simp [go_sem, g1']
    have hsX : w4.heap.size < X.heap.size := by rw [hX]; simpa [World.setCell] using hs5
    have hXb : Below w.heap.size w X := by rw [hX]; exact ((h4b.trans (hb5.mono h4b.size)).setCell (Nat.le_trans h3b.size hg4b) _).drew
    have hr : ByteS X X.heap.size (some ⟨g4, 0, none⟩) (last + 1) ((l.set last y).set last z) := by rw [hX]; exact own_reads (kset5 z)
    have hno : ¬ RightBits ((l.set last y).set last z) (8 * (last : Int) + 1 + (K : Int)) := by
      rw [EN.out]; exact wrong_bit _ _ _ hl4 z (by omega)
    have hnl : last + 1 < 140737488355328 := by omega
    clear hX g0 g1' hb5 hs5 kc5 kf5 hown5 kset5 hown4
    refine (put_no (some ⟨g4, 0, none⟩) (last + 1) c4 ((l.set last y).set last z) _ 0 1 X hr hnl hno).mono ?_
    rintro e p1 ⟨rfl, hb1⟩
    have a0 := (hb1.cell hsX).trans x0
    have a1 := (hb1.cell hsX).trans x1
    have r1 := ByteS.below' hr hb1
    have P1 : Below w.heap.size w p1 := hXb.trans (hb1.mono hXb.size)
    have hs1 : w4.heap.size < p1.heap.size := Nat.lt_of_lt_of_le hsX hb1.size
    go_wp2_with fail
    refine (fill_no (some ⟨g4, 0, none⟩) (last + 1) c4 ((l.set last y).set last z) _ _ (r1.alloc' _) hnl hno).mono ?_
    rintro e p2 ⟨rfl, hb2⟩
    have hs12 : p1.heap.size < p2.heap.size := by have := hb2.size; simp at this; omega
    have hs2 : w4.heap.size < p2.heap.size := by omega
    have b12 : Below p1.heap.size p1 p2 := ((Below.refl _ _).alloc (Nat.le_refl _) _).trans (hb2.mono (by simp))
    have q0 := (b12.cell hs1).trans a0
    have q1 := (b12.cell hs1).trans a1
    have q2 : p2.cell? ⟨p1.heap.size, 1, none⟩ = some (.int .i64 0) := (hb2.cell (by simp)).trans (by simp [go_sem])
    have r2 := ByteS.below' r1 b12
    go_wp2_with fail
    refine (check_any (some ⟨g4, 0, none⟩) (last + 1) c4 ((l.set last y).set last z) _ _ _ (r2.alloc' _) (Nat.le_refl _) hnl).mono ?_
    rw [checkI_no hno]
    rintro e p3 ⟨rfl, hb3⟩
    have b23 : Below p2.heap.size p2 p3 := ((Below.refl _ _).alloc (Nat.le_refl _) _).trans (hb3.mono (by simp))
    have q3 := (b23.cell hs12).trans q2
    go_wp2_with fail
    refine (wakes_any _).mono ?_
    rintro e pz ⟨rfl, hbz⟩
    have PZ : Below w.heap.size w pz := P1.trans ((b12.trans ((b23.trans (hbz.mono b23.size)).mono b12.size)).mono P1.size)
    go_wp2_with fail
    go_ret
    exact ⟨rfl, PZ⟩
  · have e0 : (IntKind.u64.wrap how).tmod 3 = 1 := EJ.out
    go_wp2_with (at_builtin; refine wpList_append_new rfl (.tmp 99) (.tmp 100) _ rfl Try.underlying22 w3 _ (l.set last y) [0] (.slice A4 (last + 1) c4) ?_ rfl (some ⟨w4.heap.size + 1, 0, none⟩) 1 1 rfl ?_ ?_ ?_; exact (hn4.below ((Below.refl _ _).alloc (Nat.le_refl _) _)).below ((Below.refl _ _).alloc (Nat.le_refl _) _); exact ⟨_, new_bytes_at _ [0] _ (w4.heap.size + 1) (by simp)⟩; (rw [hl4]; omega); intro A5 k5 w5 hn5 hg5; have g0 : w5.cell? ⟨w4.heap.size, 0, none⟩ = some (.slice A4 (last + 1) c4) := (hg5.cell_far _ (by simp; omega) (by intro e; have := hA4 _ e.symm; simp at this)).trans (by simp [go_sem]); have g2 : w5.cell? ⟨w4.heap.size, 1, none⟩ = some (.int .i64 (8 * (last : Int) + 1 + (K : Int))) := (hg5.cell_far _ (by simp; omega) (by intro e; have := hA4 _ e.symm; simp at this)).trans (by simp [go_sem]); have g3 : w5.frozen? ⟨w4.heap.size, 0, none⟩ = false := (hg5.frozen_far _ (by simp; omega) (by intro e; have := hA4 _ e.symm; simp at this)).trans (by simp [go_sem]))
    obtain ⟨X, hX⟩ : ∃ X, X = w5.setCell ⟨w4.heap.size, 0, none⟩ (.slice A5 (last + 1 + 1) k5) := ⟨_, rfl⟩
    rw [← hX]
    have x0 : X.cell? ⟨w4.heap.size, 0, none⟩ = some (.slice A5 (last + 1 + 1) k5) := by rw [hX]; simp [go_sem, g0]
    have x1 : X.cell? ⟨w4.heap.size, 1, none⟩ = some (.int .i64 (8 * (last : Int) + 1 + (K : Int))) := by rw [hX]; simp [go_sem, g2]
    have hsX : w4.heap.size < X.heap.size := by rw [hX]; have := World.block_lt_of_cell? _ _ g0; simpa [World.setCell] using this
    have hXb : Below w.heap.size w X := by rw [hX]; exact (h3b.trans (hn5.2.mono h3b.size)).setCell (h4b.size) _
    have hr : ByteS X X.heap.size A5 (last + 1 + 1) (l.set last y ++ [0]) := by
      have ho := hn5.1
      have hne : ∀ g, (Value.slice A5 ((l.set last y).length + 1) k5).ownBlock = some g → g ≠ w4.heap.size := by
        intro g hg e
        subst e
        have h5 := own_type ho _ hg
        have h6 := hg5.block w4.heap.size (by simp; omega) (by intro e; have := hA4 _ e.symm; omega)
        obtain ⟨cur, h5⟩ := h5
        rw [h5, Below.heap_alloc _ _ _ (by simp), heap_alloc_new] at h6
        have h8 := Option.some.inj h6
        injection h8 with _ h9
        exact absurd h9 (by decide)
      rw [hX]
      have h7 := own_reads (own_setCell ho ⟨w4.heap.size, 0, none⟩ (.slice A5 (last + 1 + 1) k5) hne)
      rw [hl4] at h7
      exact h7
    have hno : ¬ RightBits (l.set last y ++ [0]) (8 * (last : Int) + 1 + (K : Int)) := by
      rw [EN.out]; exact wrong_len _ _ (by rw [List.length_append, hl4]; simp; omega)
    have hnl : last + 1 + 1 < 140737488355328 := by omega
    clear hX g0 g2 g3 hn5 hg5
    refine (put_no A5 (last + 1 + 1) k5 (l.set last y ++ [0]) _ 0 1 X hr hnl hno).mono ?_
    rintro e p1 ⟨rfl, hb1⟩
    have a0 := (hb1.cell hsX).trans x0
    have a1 := (hb1.cell hsX).trans x1
    have r1 := ByteS.below' hr hb1
    have P1 : Below w.heap.size w p1 := hXb.trans (hb1.mono hXb.size)
    have hs1 : w4.heap.size < p1.heap.size := Nat.lt_of_lt_of_le hsX hb1.size
    go_wp2_with fail
    refine (fill_no A5 (last + 1 + 1) k5 (l.set last y ++ [0]) _ _ (r1.alloc' _) hnl hno).mono ?_
    rintro e p2 ⟨rfl, hb2⟩
    have hs12 : p1.heap.size < p2.heap.size := by have := hb2.size; simp at this; omega
    have hs2 : w4.heap.size < p2.heap.size := by omega
    have b12 : Below p1.heap.size p1 p2 := ((Below.refl _ _).alloc (Nat.le_refl _) _).trans (hb2.mono (by simp))
    have q0 := (b12.cell hs1).trans a0
    have q1 := (b12.cell hs1).trans a1
    have q2 : p2.cell? ⟨p1.heap.size, 1, none⟩ = some (.int .i64 0) := (hb2.cell (by simp)).trans (by simp [go_sem])
    have r2 := ByteS.below' r1 b12
    go_wp2_with fail
    refine (check_any A5 (last + 1 + 1) k5 (l.set last y ++ [0]) _ _ _ (r2.alloc' _) (Nat.le_refl _) hnl).mono ?_
    rw [checkI_no hno]
    rintro e p3 ⟨rfl, hb3⟩
    have b23 : Below p2.heap.size p2 p3 := ((Below.refl _ _).alloc (Nat.le_refl _) _).trans (hb3.mono (by simp))
    have q3 := (b23.cell hs12).trans q2
    go_wp2_with fail
    refine (wakes_any _).mono ?_
    rintro e pz ⟨rfl, hbz⟩
    have PZ : Below w.heap.size w pz := P1.trans ((b12.trans ((b23.trans (hbz.mono b23.size)).mono b12.size)).mono P1.size)
    go_wp2_with fail
    go_ret
    exact ⟨rfl, PZ⟩
  · have e0 : (IntKind.u64.wrap how).tmod 3 = 2 := EJ.out
    have hc4 : (last : Int) ≤ (c4 : Int) := by
      rcases hown4.2 with ⟨_, h0⟩ | ⟨g, cap, cur, he, _, _, h1, _⟩
      · omega
      · injection he with e1 e2 e3
        omega
    obtain ⟨g4, rfl, hg4, hg4b, _, _, _⟩ := own_store hown4 last (by omega)
    go_wp2_with fail
    obtain ⟨X, hX⟩ : ∃ X, X = w4.alloc (.cells #[.slice (some ⟨g4, 0, none⟩) last c4, .int .i64 (8 * (last : Int) + 1 + (K : Int))] 24) := ⟨_, rfl⟩
    rw [← hX]
    have x0 : X.cell? ⟨w4.heap.size, 0, none⟩ = some (.slice (some ⟨g4, 0, none⟩) last c4) := by rw [hX]; simp [go_sem]
    have x1 : X.cell? ⟨w4.heap.size, 1, none⟩ = some (.int .i64 (8 * (last : Int) + 1 + (K : Int))) := by rw [hX]; simp [go_sem]
    have hsX : w4.heap.size < X.heap.size := by rw [hX]; simp
    have hXb : Below w.heap.size w X := by rw [hX]; exact h4b.alloc h4b.size _
    have hr : ByteS X X.heap.size (some ⟨g4, 0, none⟩) last ((l.set last y).take last) := by
      rw [hX]; exact bytes_take (ByteS.alloc' (own_reads hown4) _) last (by omega)
    have hno : ¬ RightBits ((l.set last y).take last) (8 * (last : Int) + 1 + (K : Int)) := by
      rw [EN.out]; exact wrong_len _ _ (by rw [List.length_take, hl4]; omega)
    have hnl : last < 140737488355328 := by omega
    clear hX hown4
    refine (put_no (some ⟨g4, 0, none⟩) (last) c4 ((l.set last y).take last) _ 0 1 X hr hnl hno).mono ?_
    rintro e p1 ⟨rfl, hb1⟩
    have a0 := (hb1.cell hsX).trans x0
    have a1 := (hb1.cell hsX).trans x1
    have r1 := ByteS.below' hr hb1
    have P1 : Below w.heap.size w p1 := hXb.trans (hb1.mono hXb.size)
    have hs1 : w4.heap.size < p1.heap.size := Nat.lt_of_lt_of_le hsX hb1.size
    go_wp2_with fail
    refine (fill_no (some ⟨g4, 0, none⟩) (last) c4 ((l.set last y).take last) _ _ (r1.alloc' _) hnl hno).mono ?_
    rintro e p2 ⟨rfl, hb2⟩
    have hs12 : p1.heap.size < p2.heap.size := by have := hb2.size; simp at this; omega
    have hs2 : w4.heap.size < p2.heap.size := by omega
    have b12 : Below p1.heap.size p1 p2 := ((Below.refl _ _).alloc (Nat.le_refl _) _).trans (hb2.mono (by simp))
    have q0 := (b12.cell hs1).trans a0
    have q1 := (b12.cell hs1).trans a1
    have q2 : p2.cell? ⟨p1.heap.size, 1, none⟩ = some (.int .i64 0) := (hb2.cell (by simp)).trans (by simp [go_sem])
    have r2 := ByteS.below' r1 b12
    go_wp2_with fail
    refine (check_any (some ⟨g4, 0, none⟩) (last) c4 ((l.set last y).take last) _ _ _ (r2.alloc' _) (Nat.le_refl _) hnl).mono ?_
    rw [checkI_no hno]
    rintro e p3 ⟨rfl, hb3⟩
    have b23 : Below p2.heap.size p2 p3 := ((Below.refl _ _).alloc (Nat.le_refl _) _).trans (hb3.mono (by simp))
    have q3 := (b23.cell hs12).trans q2
    go_wp2_with fail
    refine (wakes_any _).mono ?_
    rintro e pz ⟨rfl, hbz⟩
    have PZ : Below w.heap.size w pz := P1.trans ((b12.trans ((b23.trans (hbz.mono b23.size)).mono b12.size)).mono P1.size)
    go_wp2_with fail
    go_ret
    exact ⟨rfl, PZ⟩
end Go.Proofs.Ytiopoaenpajlmaa
