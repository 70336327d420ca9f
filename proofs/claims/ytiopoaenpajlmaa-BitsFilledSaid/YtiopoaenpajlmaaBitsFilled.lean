/-
  BitsFilled: a filled row has a whole number of bytes, the same ones; what is put behind begins at a byte.
-/
import Derived.Test.YtiopoaenpajlmaaBitsBack
import Derived.Test.YtiopoaenpajlmaaAppS
import Derived.Deep.RegionHeld3
import Derived.Deep.LoopGhost
import Derived.Deep.DeepCutAuto
namespace Go.Proofs.Ytiopoaenpajlmaa
open Go.RowKit Go.Deep

def v3 (l : List Int) (i : Nat) : Nat := ((l[i]?.getD 0) % 8).toNat
def s3 (l : List Int) : Nat → Nat
  | 0 => 0
  | j + 1 => s3 l j + v3 l j * 2 ^ (3 * j)
theorem v3_lt (l : List Int) (i : Nat) : v3 l i < 2 ^ 3 := by unfold v3; omega
theorem s3_lt (l : List Int) (j : Nat) : s3 l j < 2 ^ (3 * j) := by
  induction j with
  | zero => simp [s3]
  | succ j ih =>
    have := v3_lt l j
    simp only [s3, Nat.mul_add, Nat.pow_add]
    have h2 := Nat.mul_le_mul_right (2 ^ (3 * j)) (show v3 l j + 1 ≤ 2 ^ 3 from this)
    rw [Nat.add_mul] at h2
    omega
theorem v3_walk (z : Int) : bits .and .i64 z 7 = ((z % 8).toNat : Int) := by
  have h := mask_i64 z 3 (by omega)
  simp at h
  rw [h]; omega
/-- a byte put behind whole bytes -/
theorem putL_byte (l : List UInt8) (x : UInt8) : putL l (8 * l.length) x.toNat 8 = l ++ [x] := by
  have h1 := bval_lt l
  have h2 := x.toNat_lt
  apply bval_inj
  · simp only [putL, nbytes_length, List.length_append, List.length_singleton]; omega
  · rw [putL, bval_nbytes, bval_append, ← pow256, Nat.mod_eq_of_lt, Nat.mul_comm]
    · simp [bval]
    · rw [show (8 * l.length + 8 + 7) / 8 = l.length + 1 by omega, Nat.pow_succ]
      have h3 := Nat.mul_le_mul_right (256 ^ l.length) (show x.toNat + 1 ≤ 256 by omega)
      rw [Nat.add_mul] at h3
      omega

/-- what holds of the row at the head of each round -/
def Row3 (w wr : World) (l : List Int) (j : Nat) : Prop :=
  ∃ A n c L, wr.cell? ⟨w.heap.size, 0, none⟩ = some (.slice A n c) ∧ wr.cell? ⟨w.heap.size, 1, none⟩ = some (.int .i64 ((3 * j : Nat) : Int)) ∧ wr.frozen? ⟨w.heap.size, 0, none⟩ = false ∧ wr.frozen? ⟨w.heap.size, 1, none⟩ = false ∧
    wr.ownsRow (w.heap.size + 1) 5 1 (.slice A n c) n (bv L) ∧ n = (3 * j + 7) / 8 ∧ bval L = s3 l j ∧ Below w.heap.size w wr ∧ w.heap.size < wr.heap.size

set_option maxRecDepth 100000 in
set_option maxHeartbeats 9000000 in
theorem bitsFilled_walk (w : World) (A1 : Option Addr) (len1 c1 : Nat) (l1 : List Int) (h1 : IntS w w.heap.size A1 len1 l1) (_m1 : len1 ≤ maxLen ∧ ∀ n ∈ l1, (Lit.int .i64 n).wf = true) (v : UInt8) :
    Calls Try.prog 7 #[.slice A1 len1 c1, .int .u8 (v.toNat : Int)] w fun e w' => e = .returned (.bool true) ∧ Below w.heap.size w w' := by
  clear _m1
  have e1 := Lib.hid h1.len
  by_cases h60 : 60 < len1
  · go_enter Try.func7, Try.ntmps7
    go_wp2_with fail
    go_ret
    exact ⟨rfl, Below.refl _ _⟩
  · go_enter Try.func7, Try.ntmps7
    go_wp2_with fail
    go_loopg [6, 7, 8] (len1) (fun g i _ _ wr => ∃ j : Nat, j ≤ len1 ∧ g = len1 - j ∧ i = .int .i64 (j : Int) ∧ Row3 w wr l1 j)
    case atStart =>
      refine ⟨0, Nat.zero_le _, rfl, rfl, none, 0, 0, [], by simp [go_sem], by simp [go_sem], by simp [go_sem], by simp [go_sem], ⟨by simp, .inl ⟨rfl, rfl⟩⟩, by simp, rfl, (Below.refl _ _).alloc (Nat.le_refl _) _, by simp⟩
    case round =>
      obtain ⟨j, hj, rfl, rfl, hrow⟩ := hrel
      by_cases hlt : j < len1
      · obtain ⟨A, n, c, L, g0, g1, g2, g3, hown, hn, hL, hbw, hsz⟩ := hrow
        have hN := Lib.hid hn
        have HL := Lib.hid hL
        clear hn hL
        have hj1 : j < l1.length := by have := e1.out; omega
        have hr1 : IntS wr w.heap.size A1 len1 l1 := h1.below hbw
        obtain ⟨b1, o1, rfl, hb1, k1⟩ := hr1.at_ hj1
        have z1 := v3_walk l1[j]
        have y1 : (l1[j] % 8).toNat = v3 l1 j := by simp [v3, hj1]
        rw [y1] at z1
        clear y1
        have hvl := v3_lt l1 j
        have hRB : Hid (RightBits L ((3 * j : Nat) : Int)) := by
          have := s3_lt l1 j
          have h3 := hN.out
          have h4 := (own_reads hown).1
          refine ⟨by omega, by omega, ?_, by rw [HL.out, Int.toNat_natCast]; exact this⟩
          simp at h4; omega
        have hown' := Lib.hid hown
        clear hown
        have d0 : (0 : Int) ≤ (j : Int) := by omega
        have d1 : (j : Int) < (len1 : Int) := by omega
        go_wp2_with fail
        have en1 := World.new_ne wr _ g0
        have en2 := World.new_ne wr _ k1
        go_cut [7, 8] from 16 to 34 (fun x e wx => ∃ gx A' c', x = .pointer (some ⟨gx, 0, none⟩) ∧ e = .int .i64 0 ∧ w.heap.size < gx ∧ wx.cell? ⟨gx, 0, none⟩ = some (.slice A' ((3 * j + 3 + 7) / 8) c') ∧ wx.cell? ⟨gx, 1, none⟩ = some (.int .i64 ((3 * j + 3 : Nat) : Int)) ∧ wx.cell? ⟨w.heap.size, 0, none⟩ = some (.slice A n c) ∧ wx.cell? ⟨w.heap.size, 1, none⟩ = some (.int .i64 ((3 * j : Nat) : Int)) ∧ wx.frozen? ⟨w.heap.size, 0, none⟩ = false ∧ wx.frozen? ⟨w.heap.size, 1, none⟩ = false ∧ wx.ownsRow (w.heap.size + 1) 5 1 (.slice A' ((3 * j + 3 + 7) / 8) c') ((3 * j + 3 + 7) / 8) (bv (putL L (3 * j) (v3 l1 j) 3)) ∧ Below w.heap.size w wx ∧ w.heap.size < wx.heap.size)
        case first =>
          go_region_held3 (fun w' => w'.cell? ⟨w.heap.size, 0, none⟩ = some (.slice A n c) ∧ w'.cell? ⟨w.heap.size, 1, none⟩ = some (.int .i64 ((3 * j : Nat) : Int)) ∧ w'.cell? ⟨b1, o1 + j, none⟩ = some (.int .i64 l1[j])) (first | go_keep | (go_split_ands; refine ⟨?_, ?_, ?_⟩ <;> assumption)) (first | (go_at_call 12; refine (put_yes A n c L (3 * j) (v3 l1 j) 3 wr.drew (own_reads hown'.out) hRB.out (by omega) hvl (by omega)).mono ?_; rintro e w2 ⟨A', c', rfl, hn2⟩; have hbx : Below wr.heap.size wr w2 := ((Below.refl _ _).drew).trans hn2.2; have hb2x : ∀ (p : Addr) v, wr.cell? p = some v → w2.cell? p = some v := fun p v h => (hbx.cell (World.block_lt_of_cell? _ _ h)).trans h; have q0 : w2.cell? ⟨w.heap.size, 0, none⟩ = some (.slice A n c) := hb2x _ _ g0; have q1 : w2.cell? ⟨w.heap.size, 1, none⟩ = some (.int .i64 ((3 * j : Nat) : Int)) := hb2x _ _ g1; have q4 : w2.cell? ⟨b1, o1 + j, none⟩ = some (.int .i64 l1[j]) := hb2x _ _ k1; have n1 := World.new_ne w2 _ q0; have n2 := World.new_ne w2 _ q4) | (go_at_call 12; refine (put_yes A n c L (3 * j) (v3 l1 j) 3 (wr.alloc (.cells #[.slice none 0 0, .int .i64 0] 24)).drew (ByteS.alloc' (own_reads hown'.out) _) hRB.out (by omega) hvl (by omega)).mono ?_; rintro e w2 ⟨A', c', rfl, hn2⟩; have hbx : Below wr.heap.size wr w2 := (((Below.refl _ _).alloc (Nat.le_refl _) _).drew).trans (hn2.2.mono (by simp)); have hb2x : ∀ (p : Addr) v, wr.cell? p = some v → w2.cell? p = some v := fun p v h => (hbx.cell (World.block_lt_of_cell? _ _ h)).trans h; have r0 : w2.cell? ⟨wr.heap.size, 0, none⟩ = some (.slice none 0 0) := (hn2.2.cell (by simp)).trans (by simp [go_sem]); have r1 : w2.cell? ⟨wr.heap.size, 1, none⟩ = some (.int .i64 0) := (hn2.2.cell (by simp)).trans (by simp [go_sem]); have r2 : w2.frozen? ⟨wr.heap.size, 0, none⟩ = false := (hn2.2.frozen (by simp)).trans (by simp [go_sem]); have r3 : w2.frozen? ⟨wr.heap.size, 1, none⟩ = false := (hn2.2.frozen (by simp)).trans (by simp [go_sem]); have q0 : w2.cell? ⟨w.heap.size, 0, none⟩ = some (.slice A n c) := hb2x _ _ g0; have q1 : w2.cell? ⟨w.heap.size, 1, none⟩ = some (.int .i64 ((3 * j : Nat) : Int)) := hb2x _ _ g1; have q4 : w2.cell? ⟨b1, o1 + j, none⟩ = some (.int .i64 l1[j]) := hb2x _ _ k1; have n1 := World.new_ne w2 _ q0; have n2 := World.new_ne w2 _ q4))
          · go_wp2_with fail
            go_meet
            have hW := hbx.alloc hbx.size (.cells #[.slice A' ((3 * j + 3 + 7) / 8) c', .int .i64 ((3 * j + 3 : Nat) : Int)] 24)
            refine ⟨w2.heap.size, A', c', rfl, rfl, by have := hbx.size; omega, by simp [go_sem], by simp [go_sem], (hW.cell hsz).trans g0, (hW.cell hsz).trans g1, (hW.frozen hsz).trans g2, (hW.frozen hsz).trans g3, ?_, hbw.trans (hW.mono (by omega)), Nat.lt_of_lt_of_le hsz hW.size⟩
            have ho := own_below hn2.1 ((Below.refl _ _).alloc (Nat.le_refl _) (.cells #[.slice A' ((3 * j + 3 + 7) / 8) c', .int .i64 ((3 * j + 3 : Nat) : Int)] 24))
            rw [show (putL L (3 * j) (v3 l1 j) 3).length = (3 * j + 3 + 7) / 8 by simp [putL]] at ho
            exact own_base ho (by simp; omega)
          · go_wp2_with fail
            go_meet
            have hW := (hbx.setCell (p := ⟨wr.heap.size, 0, none⟩) (Nat.le_refl _) (.slice A' ((3 * j + 3 + 7) / 8) c')).setCell (p := ⟨wr.heap.size, 1, none⟩) (Nat.le_refl _) (.int .i64 ((3 * j + 3 : Nat) : Int))
            refine ⟨wr.heap.size, A', c', rfl, rfl, hsz, by simp [go_sem, r0], by simp [go_sem, r1], (hW.cell hsz).trans g0, (hW.cell hsz).trans g1, (hW.frozen hsz).trans g2, (hW.frozen hsz).trans g3, ?_, hbw.trans (hW.mono (by omega)), Nat.lt_of_lt_of_le hsz hW.size⟩
            have ho := hn2.1
            rw [show (putL L (3 * j) (v3 l1 j) 3).length = (3 * j + 3 + 7) / 8 by simp [putL]] at ho
            have hne : ∀ g, (Value.slice A' ((3 * j + 3 + 7) / 8) c').ownBlock = some g → g ≠ wr.heap.size := fun g hg => by have := own_ge ho g hg; simp at this; omega
            exact own_base (own_setCell (own_setCell ho ⟨wr.heap.size, 0, none⟩ _ hne) ⟨wr.heap.size, 1, none⟩ _ hne) (by simp; omega)
        case rest =>
          obtain ⟨gx, A', c', rfl, rfl, hgx, x0, x1, y0, y1, y2, y3, ho, hbx, hsx⟩ := hcut
          have HO := Lib.hid ho
          clear ho
          go_wp2
          go_roundg (len1 - (j + 1))
          case measure => omega
          case rel =>
            have hput : (putL L (3 * j) (v3 l1 j) 3).length = (3 * j + 3 + 7) / 8 := by simp [putL]
            have hne : ∀ g, (Value.slice A' ((3 * j + 3 + 7) / 8) c').ownBlock = some g → g ≠ w.heap.size := fun g hg => by have := own_ge HO.out g hg; omega
            refine ⟨j + 1, by omega, rfl, by go_num, A', _, c', putL L (3 * j) (v3 l1 j) 3, ?_, ?_, ?_, ?_, own_setCell (own_setCell HO.out ⟨w.heap.size, 0, none⟩ _ hne) ⟨w.heap.size, 1, none⟩ _ hne, by simp [Nat.mul_add], ?_, ?_, ?_⟩
            · simp [go_sem, y0]
            · simp [go_sem, y1, Nat.mul_add]
            · simp [go_sem, y2]
            · simp [go_sem, y3]
            · rw [putL, bval_nbytes, HL.out, s3, Nat.mod_eq_of_lt]
              have h5 := s3_lt l1 (j + 1)
              simp only [s3] at h5
              have h6 : 2 ^ (3 * (j + 1)) ≤ 256 ^ ((3 * j + 3 + 7) / 8) := by rw [pow256]; exact Nat.pow_le_pow_right (by omega) (by omega)
              omega
            · exact (hbx.setCell (Nat.le_refl _) _).setCell (Nat.le_refl _) _
            · simpa [World.setCell] using hsx
      · obtain rfl : len1 = j := by omega
        obtain ⟨A, n, c, L, g0, g1, g2, g3, hown, hn, hL, hbw, hsz⟩ := hrow
        have hN := Lib.hid hn
        have HL := Lib.hid hL
        clear hn hL
        have hnn : n ≤ 24 := by have := hN.out; omega
        have hRB : Hid (RightBits L ((3 * len1 : Nat) : Int)) := by
          have := s3_lt l1 len1
          have h3 := hN.out
          have h4 := (own_reads hown).1
          refine ⟨by omega, by omega, ?_, by rw [HL.out, Int.toNat_natCast]; exact this⟩
          simp at h4; omega
        have hRd := own_reads hown
        have hLn : L.length = n := ByteS.len hRd
        have hRB2 : Hid (RightBits L ((8 * n : Nat) : Int)) := ⟨by omega, by omega, by omega, by rw [Int.toNat_natCast, ← hLn, ← pow256]; exact bval_lt L⟩
        have hput : Hid (putL L (8 * n) v.toNat 8 = L ++ [v]) := by unfold Hid; rw [← hLn]; exact putL_byte L v
        have hv8 := v.toNat_lt
        go_wp2_with fail
        refine (fill_yes A n c L (3 * len1) wr hRd hRB.out).mono ?_
        rintro e w2 ⟨vf, rfl, hn2⟩
        obtain ⟨A2, c2, rfl, hr2⟩ := hn2.slice
        rw [hLn] at hr2
        rw [hLn]
        go_wp2_with fail
        refine (put_yes A2 n c2 L (8 * n) v.toNat 8 _ (hr2.alloc' _) hRB2.out (by omega) (by omega) (by omega)).mono ?_
        rw [hput.out, show (8 * n + 8 + 7) / 8 = n + 1 by omega]
        rintro e w3 ⟨A3, c3, rfl, hn3⟩
        have b12 : Below wr.heap.size wr w3 := (hn2.2.alloc hn2.2.size _).trans (hn3.2.mono (by have := hn2.2.size; simp; omega))
        have hs3 : w2.heap.size < w3.heap.size := by have := hn3.2.size; simp at this; omega
        have f0 : w3.cell? ⟨w2.heap.size, 0, none⟩ = some (.slice A2 n c2) := (hn3.2.cell (by simp)).trans (by simp [go_sem])
        have f1 : w3.cell? ⟨w2.heap.size, 1, none⟩ = some (.int .i64 ((8 * n : Nat) : Int)) := (hn3.2.cell (by simp)).trans (by simp [go_sem])
        have q0 : w3.cell? ⟨w.heap.size, 0, none⟩ = some (.slice A n c) := (b12.cell hsz).trans g0
        have q1 : w3.cell? ⟨w.heap.size, 1, none⟩ = some (.int .i64 ((3 * len1 : Nat) : Int)) := (b12.cell hsz).trans g1
        have hsz3 : w.heap.size < w3.heap.size := by have := b12.size; omega
        have hr23 : ByteS w3 w3.heap.size A2 n L := ByteS.below' (hr2.alloc' (.cells #[Value.slice A2 n c2, .int .i64 ((8 * n : Nat) : Int)] 24)) hn3.2
        have hrd3 : ByteS w3 w3.heap.size A n L := ByteS.below' hRd b12
        have t1 : ((8 * (n : Int)) != IntKind.i64.wrap (8 * (n : Int))) = false := by rw [IntKind.wrap_i64]; simp; omega
        have u1 : 3 * len1 ≤ 8 * n := by have := hN.out; omega
        have u2 : 8 * n ≤ 3 * len1 + 7 := by have := hN.out; omega
        have t2 : decide ((7 : Int) < 8 * (n : Int) - 3 * (len1 : Int)) = false := by simp; omega
        have t2' : decide ((7 : Int) < IntKind.i64.wrap (8 * (n : Int) - 3 * (len1 : Int))) = false := by
          rw [show IntKind.i64.wrap (8 * (n : Int) - 3 * (len1 : Int)) = 8 * (n : Int) - 3 * (len1 : Int) by rw [IntKind.wrap_i64]; omega]; exact t2
        have t3 : decide (8 * (n : Int) < 3 * (len1 : Int)) = false := by simp; omega
        go_wp2_with fail
        refine (keepBytes_any A2 A n n L L c2 c _ w3.heap.size (hr23.alloc (Nat.le_refl _) _) (hrd3.alloc (Nat.le_refl _) _) (by omega)).mono ?_
        rw [beq_self_eq_true]
        rintro e w4 ⟨rfl, m, hw4⟩
        have x34 : Below w3.heap.size w3 w4 := by rw [← hw4]; exact below_drewN ((Below.refl _ _).alloc (Nat.le_refl _) _) m
        have p0 : w4.cell? ⟨w3.heap.size, 0, none⟩ = some (.slice A3 (n + 1) c3) := by rw [← hw4]; simp [go_sem]
        have p1 : w4.cell? ⟨w.heap.size, 0, none⟩ = some (.slice A n c) := (x34.cell hsz3).trans q0
        have p2 : w4.cell? ⟨w.heap.size, 1, none⟩ = some (.int .i64 ((3 * len1 : Nat) : Int)) := (x34.cell hsz3).trans q1
        have p3 : w4.cell? ⟨w2.heap.size, 0, none⟩ = some (.slice A2 n c2) := (x34.cell hs3).trans f0
        have p4 : w4.cell? ⟨w2.heap.size, 1, none⟩ = some (.int .i64 ((8 * n : Nat) : Int)) := (x34.cell hs3).trans f1
        have hs34 : w3.heap.size < w4.heap.size := by rw [← hw4]; simp
        have hrd4 : ByteS w4 w4.heap.size A n L := ByteS.below' hrd3 x34
        have hn34 : NewBytes (w2.alloc (.cells #[Value.slice A2 n c2, .int .i64 ((8 * n : Nat) : Int)] 24)) w4 (L ++ [v]) (.slice A3 (n + 1) c3) := hn3.below x34
        have hg4 : ByteS w4 w4.heap.size A3 (n + 1) (L ++ [v]) := hn34.bytes.2
        have en1 := World.new_ne w4 _ p0
        have en2 := World.new_ne w4 _ p1
        clear hw4 q0 q1 f0 f1
        have hs4 : w.heap.size < w4.heap.size := by omega
        go_wp2_with fail
        have hnl : n < 140737488355328 := by omega
        have hnl1 : n + 1 < 140737488355328 := by omega
        have hLl : L.length + 1 < 140737488355328 := by omega
        have hback : ∀ w', Below w4.heap.size w4 w' → Below w.heap.size w w' := fun w' hb => hbw.trans ((b12.trans ((x34.trans (hb.mono x34.size)).mono b12.size)).mono (by omega))
        clear hRB hRB2 hput hv8 hr2 hn2 hn3 hn34 t1 t2 t2' t3 u1 u2 g0 g1 g2 g3 hown hN HL hnn hRd hLn hr23 hrd3 h1 e1 h60 hlt hj b12 hbw hs3 hsz3 hsz p2 p3 p4
        go_region_held3 (fun w' => w'.cell? ⟨w3.heap.size, 0, none⟩ = some (.slice A3 (n + 1) c3) ∧ w'.cell? ⟨w.heap.size, 0, none⟩ = some (.slice A n c)) (first | go_keep | (go_split_ands; refine ⟨?_, ?_⟩ <;> assumption)) (first | (go_at_call 10; refine (twin_any A n c L w4.drew _ hrd4.drew hnl).mono ?_; rintro e w5 ⟨v5, rfl, hn5⟩; have b5 : Below w4.heap.size w4 w5 := ((Below.refl _ _).drew).trans hn5.2; have hn5b : NewBytes w4 w5 L v5 := hn5.before ((Below.refl _ _).drew); clear hn5; have o0 : w5.cell? ⟨w3.heap.size, 0, none⟩ = some (.slice A3 (n + 1) c3) := (b5.cell hs34).trans p0; have o1 : w5.cell? ⟨w.heap.size, 0, none⟩ = some (.slice A n c) := (b5.cell hs4).trans p1; have ne1 := World.new_ne w5 _ o0; have ne2 := World.new_ne w5 _ o1) | (go_at_call 10; refine (twin_any A n c L (w4.alloc (.cells #[.int .u8 (v.toNat : Int)] 5)).drew w4.heap.size (hrd4.alloc (Nat.le_refl _) _).drew hnl).mono ?_; rintro e w5 ⟨v5, rfl, hn5⟩; have b5 : Below w4.heap.size w4 w5 := (((Below.refl _ _).alloc (Nat.le_refl _) _).drew).trans (hn5.2.mono (by simp)); have hn5b : NewBytes w4 w5 L v5 := hn5.before (((Below.refl _ _).alloc (Nat.le_refl _) _).drew); have x5 := ByteS.below' (new_bytes w4 [v] 5).drew hn5.2; clear hn5; have o0 : w5.cell? ⟨w3.heap.size, 0, none⟩ = some (.slice A3 (n + 1) c3) := (b5.cell hs34).trans p0; have o1 : w5.cell? ⟨w.heap.size, 0, none⟩ = some (.slice A n c) := (b5.cell hs4).trans p1; have ne1 := World.new_ne w5 _ o0; have ne2 := World.new_ne w5 _ o1) | (refine step_append_new (by rfl) _ _ _ (by rfl) Try.underlying22 w4 _ L [v] v5 (by rfl) hn5b (some ⟨w4.heap.size, 0, none⟩) 1 1 (by rfl) ⟨_, x5⟩ hLl ?_; intro A6 k6 w6 hn6 hg6; have o0 : w6.cell? ⟨w3.heap.size, 0, none⟩ = some (.slice A3 (n + 1) c3) := (hn6.2.cell hs34).trans p0; have o1 : w6.cell? ⟨w.heap.size, 0, none⟩ = some (.slice A n c) := (hn6.2.cell hs4).trans p1; have ne1 := World.new_ne w6 _ o0; have ne2 := World.new_ne w6 _ o1) | (refine step_append_new (by rfl) _ _ _ (by rfl) Try.underlying22 w4 _ L [v] v5 (by rfl) (hn5b.below ((Below.refl _ _).alloc (Nat.le_refl _) _)) (some ⟨w5.heap.size, 0, none⟩) 1 1 (by rfl) ⟨_, new_bytes w5 [v] _⟩ hLl ?_; intro A6 k6 w6 hn6 hg6; have o0 : w6.cell? ⟨w3.heap.size, 0, none⟩ = some (.slice A3 (n + 1) c3) := (hn6.2.cell hs34).trans p0; have o1 : w6.cell? ⟨w.heap.size, 0, none⟩ = some (.slice A n c) := (hn6.2.cell hs4).trans p1; have ne1 := World.new_ne w6 _ o0; have ne2 := World.new_ne w6 _ o1) | (go_at_call 23; refine (keepBytes_any A3 A6 (n + 1) (L.length + 1) (L ++ [v]) (L ++ [v]) c3 k6 _ w6.heap.size (ByteS.below' hg4 hn6.2) hn6.bytes.2 hnl1).mono ?_; rw [beq_self_eq_true]; rintro e w7 ⟨rfl, m7, hw7⟩; have b7 : Below w4.heap.size w4 w7 := (by rw [← hw7]; exact below_drewN hn6.2 m7); clear hw7; have o0 : w7.cell? ⟨w3.heap.size, 0, none⟩ = some (.slice A3 (n + 1) c3) := (b7.cell hs34).trans p0; have o1 : w7.cell? ⟨w.heap.size, 0, none⟩ = some (.slice A n c) := (b7.cell hs4).trans p1; have ne1 := World.new_ne w7 _ o0; have ne2 := World.new_ne w7 _ o1) | (go_at_call 24; refine (wakes_any _).mono ?_; rintro e wz ⟨rfl, xz⟩; have b8 : Below w4.heap.size w4 wz := b7.trans (xz.mono b7.size); have o0 : wz.cell? ⟨w3.heap.size, 0, none⟩ = some (.slice A3 (n + 1) c3) := (b8.cell hs34).trans p0; have o1 : wz.cell? ⟨w.heap.size, 0, none⟩ = some (.slice A n c) := (b8.cell hs4).trans p1; have ne1 := World.new_ne wz _ o0; have ne2 := World.new_ne wz _ o1))
        all_goals
          go_wp2_with fail
          go_ret
          exact ⟨rfl, hback _ b8⟩
end Go.Proofs.Ytiopoaenpajlmaa
