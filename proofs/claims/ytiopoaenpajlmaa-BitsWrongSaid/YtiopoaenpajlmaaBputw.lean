/-
  Contracts of bits.Put and bits.Fill: a row with a number's bits behind it; why not.
-/
import Derived.Test.YtiopoaenpajlmaaBput
import Derived.Deep.OwnRows
namespace Go.Proofs.Ytiopoaenpajlmaa
open Go.RowKit Go.Deep

theorem put_last (l L : List UInt8) (N v k j m : Nat) (hL : bval L = bval l + 2 ^ (8 * (N / 8)) * (v * 2 ^ (N % 8) % 256 ^ j)) (hlen : L.length = m) (hv : v < 2 ^ k) (hm : m = (N + k + 7) / 8) (hj : N / 8 + j = m) : L = putL l N v k := by
  have h1 : v * 2 ^ (N % 8) < 256 ^ j := by
    have h2 : v * 2 ^ (N % 8) < 2 ^ k * 2 ^ (N % 8) := Nat.mul_lt_mul_of_pos_right hv (Nat.pow_pos (by omega))
    have h3 : 2 ^ k * 2 ^ (N % 8) ≤ 256 ^ j := by rw [← Nat.pow_add, pow256]; exact Nat.pow_le_pow_right (by omega) (by omega)
    omega
  have hNe : N = 8 * (N / 8) + N % 8 := by omega
  have h4 : bval L = bval l + v * 2 ^ N := by
    rw [hL, Nat.mod_eq_of_lt h1, Nat.mul_comm, Nat.mul_assoc, ← Nat.pow_add, Nat.add_comm (N % 8), ← hNe]
  refine bval_inj _ _ (by simp [putL, hlen, hm]) ?_
  rw [putL, bval_nbytes, h4, ← hm, Nat.mod_eq_of_lt]
  rw [← h4, ← hlen]; exact bval_lt L

set_option maxRecDepth 100000 in
set_option maxHeartbeats 2000000 in
theorem put_yes (A : Option Addr) (n c : Nat) (l : List UInt8) (N v k : Nat) (w : World) (h : ByteS w w.heap.size A n l) (hr : RightBits l N) (hk : k ≤ 24) (hv : v < 2 ^ k) (hN : N + k ≤ 40000) :
    Calls Try.prog 12 #[.agg #[.slice A n c, .int .i64 N], .int .i64 v, .int .i64 k] w fun e w' => ∃ A' c', e = .returned (.tuple #[.agg #[.slice A' ((N + k + 7) / 8) c', .int .i64 ((N + k : Nat) : Int)], .int .i64 0]) ∧
      NewBytes w w' (putL l N v k) (.slice A' ((N + k + 7) / 8) c') := by
  have hln := Lib.hid h.len
  have hck : Hid (checkI l N = 0) := checkI_yes hr
  have hft : Hid (fitsB v k = true) := by
    unfold Hid
    simp only [fitsB, decide_eq_true_eq]; refine ⟨by omega, by omega, by omega, ?_⟩
    rw [Int.toNat_natCast]; exact_mod_cast hv
  have hnn : n ≤ (N + k + 7) / 8 := by have := hr.2.2.1; have := hln.out; omega
  have hv2 : v < 16777216 := by have := pow_le24 k hk; omega
  have hbl : bval l < 2 ^ N := by have := hr.2.2.2; simpa using this
  have em : ((N : Int) + k + 7) / 8 = (((N + k + 7) / 8 : Nat) : Int) := by omega
  have hmk : ∀ W : World, (Instr.makeSlice 22 (.int .i64 (((N : Int) + k + 7) / 8)) (.int .i64 (((N : Int) + k + 7) / 8))).run Try.prog W = .ok (.slice (some ⟨W.heap.size, 0, none⟩) ((N + k + 7) / 8) ((N + k + 7) / 8)) (W.alloc (.cells (madeCells #[.int .u8 0] ((N + k + 7) / 8)) 5)) := fun W => by
    rw [em]; exact run_make_row' _ _ _ 1 Try.underlying22 Try.infoU8 rfl _ _ _ (by omega) (by omega) W
  have em' := Lib.hid em
  clear em
  go_enter Try.func12, Try.ntmps12
  go_wp2_with fail
  refine (check_any A n c l N _ w.heap.size ((h.alloc (Nat.le_refl _) _).alloc (by simp) _) (by simp; omega) (by omega)).mono ?_
  rw [hck.out]
  rintro e w1 ⟨rfl, hb1⟩
  obtain ⟨hc1, hf1⟩ := bcell hb1
  have hsz1 : w.heap.size + 1 < w1.heap.size := by have := hb1.size; simp at this; omega
  have hsz0 : w.heap.size < w1.heap.size := by omega
  have h1 : ByteS w1 w.heap.size A n l := ((h.alloc (Nat.le_refl _) _).alloc (by simp) _).below (hb1.mono (by simp; omega))
  have hpos : 0 < (bv l).length → ∃ ad, A = some ad ∧ ∀ j v, (bv l)[j]? = some v → (w1.alloc (.cells (madeCells #[.int .u8 0] ((N + k + 7) / 8)) 5)).cell? (ad.add j) = some v := fun hp => by
    obtain ⟨ad, e, _, hcl⟩ := (Reads.alloc h1 (by omega) (.cells (madeCells #[.int .u8 0] ((N + k + 7) / 8)) 5)).2 (by rw [bv_length, hln.out] at hp; exact hp)
    exact ⟨ad, e, hcl⟩
  have HP := Lib.hid hpos
  have HC3 : Hid ((bv l).length = Nat.min n ((N + k + 7) / 8)) := by unfold Hid; rw [bv_length, hln.out]; exact (Nat.min_eq_left hnn).symm
  have HC4 : Hid (0 + (bv l).length ≤ (List.replicate ((N + k + 7) / 8) (Value.int .u8 0)).length) := by unfold Hid; rw [bv_length, hln.out, List.length_replicate]; omega
  have HB : Hid (∀ W : World, (W.alloc (.cells (madeCells #[.int .u8 0] ((N + k + 7) / 8)) 5)).heap[W.heap.size]? = some (.cells (List.replicate ((N + k + 7) / 8) (Value.int .u8 0)).toArray 5 (0, 0))) := by
    intro W; rw [← madeCells_eq]; exact heap_alloc_new _ _
  clear hpos
  go_wp2_with (first | (go_at_call 27; refine (fits_any _ _ _).mono ?_; rw [hft.out]; rintro e w' ⟨rfl, rfl⟩) | (go_at_call 28; refine (bytesFor_any _ _ (by omega) (by omega)).mono ?_; rintro e w' ⟨rfl, rfl⟩) | ((with_reducible refine wpList_copy_splice (o := ⟨some 38, _, _, _, _, _⟩) rfl (.tmp 35) (.tmp 37) 22 22 rfl 5 Try.underlying22 Try.sizeU8 (some ⟨w1.heap.size, 0, none⟩) A ((N + k + 7) / 8) ((N + k + 7) / 8) n c ?d1 ?d2 w1.heap.size 0 (List.replicate ((N + k + 7) / 8) (.int .u8 0)) 5 (HB.out _) (bv l) HC3.out (fun hp => ⟨rfl, HP.out hp⟩) HC4.out (bv_one l) w1.heap.size w1 ((Below.refl _ _).alloc (Nat.le_refl _) _) (Nat.le_refl _) ?_); exact rfl; exact rfl; intro w2 hblk hb2; obtain ⟨hc2, hf2⟩ := bcell hb2; have hsz2 : w1.heap.size ≤ w2.heap.size := hb2.size))
  obtain ⟨R, hR⟩ : ∃ R, R = v * 2 ^ (N % 8) := ⟨_, rfl⟩
  have hR31 : R < 2147483648 := by
    have h1 : 2 ^ (N % 8) ≤ 2 ^ 7 := Nat.pow_le_pow_right (by omega) (by omega)
    have h2 : v * 2 ^ (N % 8) ≤ v * 2 ^ 7 := Nat.mul_le_mul_left _ h1
    omega
  have HR := Lib.hid hR
  clear hR
  have hL0 : ∃ L : List UInt8, L.length = (N + k + 7) / 8 ∧ bval L = bval l + 2 ^ (8 * (N / 8)) * (R % 256 ^ 0) ∧ splice (List.replicate ((N + k + 7) / 8) (Value.int .u8 0)) 0 (bv l) = bv L := by
    refine ⟨l ++ List.replicate ((N + k + 7) / 8 - n) 0, by have := hln.out; simp; omega, ?_, ?_⟩
    · rw [bval_append, bval_replicate]; simp [Nat.mod_one]
    · rw [bv_append, replicate_bv, splice]; have := hln.out; simp [bv, this]
  obtain ⟨L0, hL1, hL2, hL3⟩ := hL0
  rw [hL3] at hblk
  have hblk0 : Hid (Blk w2 w1.heap.size 5 (bv L0).toArray) := hblk.out
  clear hblk hL3
  have HL1 := Lib.hid hL1
  have HL2 := Lib.hid hL2
  clear hL1 hL2
  go_loopw [10, 11] (fun r i wr => ∃ (j : Nat) (L : List UInt8), N / 8 + j ≤ (N + k + 7) / 8 ∧ r = .int .u32 ((R / 256 ^ j : Nat) : Int) ∧ i = .int .i64 ((N / 8 + j : Nat) : Int) ∧ Hid (L.length = (N + k + 7) / 8) ∧ Hid (bval L = bval l + 2 ^ (8 * (N / 8)) * (R % 256 ^ j)) ∧ Hid (Blk wr w1.heap.size 5 (bv L).toArray) ∧ Below w1.heap.size w1 wr) (fun _ i _ => (N + k + 7) / 8 - (intOf i).toNat)
  case atStart =>
    refine ⟨0, L0, by omega, ?_, ?_, HL1, HL2, hblk0, hb2⟩
    · rw [Nat.pow_zero, Nat.div_one]
      have e := HR.out
      refine congrArg (Value.int IntKind.u32) ?_
      rw [pow2_cast, ← Int.natCast_mul, ← e]; omega
    · simp
  case round =>
    obtain ⟨j, L, hj, rfl, rfl, hLl, hLv, hblk, hb⟩ := hrel
    obtain ⟨hcr, hfr⟩ := bcell hb
    have hszr : w1.heap.size ≤ wr.heap.size := hb.size
    have hRj : R / 256 ^ j ≤ R := Nat.div_le_self _ _
    by_cases hlt : N / 8 + j < (N + k + 7) / 8
    · have hi : N / 8 + j < L.length := by have := hLl.out; omega
      have hcell : wr.cell? ⟨w1.heap.size, N / 8 + j, none⟩ = some (.int .u8 (L[N / 8 + j].toNat : Int)) := by
        rw [hblk.out.cell]; simp [bv, hi]
      have hfrz : wr.frozen? ⟨w1.heap.size, N / 8 + j, none⟩ = false := hblk.out.frozen _
      obtain ⟨hp1, hp2⟩ := put_byte l L N R j hbl hLv.out (by rw [HR.out]; exact Nat.mul_mod_left _ _) hi
      have HP1 := Lib.hid hp1
      clear hp1
      go_wp2
      go_roundw
      case rel =>
        refine ⟨j + 1, L.set (N / 8 + j) (UInt8.ofNat (L[N / 8 + j].toNat + R / 256 ^ j % 256)), by omega, ?_, by go_num, by unfold Hid; rw [List.length_set]; exact hLl.out, ?_, ?_, hb.setCell (by simp) _⟩
        · refine congrArg (Value.int IntKind.u32) ?_
          rw [Nat.pow_succ, ← Nat.div_div_eq_div_mul]
          simp
        · unfold Hid
          have hs := bval_set L (N / 8 + j) hi (UInt8.ofNat (L[N / 8 + j].toNat + R / 256 ^ j % 256))
          have e : (UInt8.ofNat (L[N / 8 + j].toNat + R / 256 ^ j % 256)).toNat = L[N / 8 + j].toNat + R / 256 ^ j % 256 := by simp; omega
          rw [e, Nat.mul_add, hLv.out] at hs
          have e2 : R % 256 ^ (j + 1) = R % 256 ^ j + 256 ^ j * (R / 256 ^ j % 256) := by rw [Nat.pow_succ, Nat.mod_mul]
          rw [e2, Nat.mul_add, ← Nat.mul_assoc, ← pow256, ← Nat.pow_add]
          rw [← pow256] at hs
          omega
        · unfold Hid
          have h3 := hblk.out.set_ (N / 8 + j) (.int .u8 (bits .or .u8 ((L[N / 8 + j].toNat : Nat) : Int) (((R / 256 ^ j : Nat) : Int) % 256)))
          have e : (UInt8.ofNat (L[N / 8 + j].toNat + R / 256 ^ j % 256)).toNat = L[N / 8 + j].toNat + R / 256 ^ j % 256 := by simp; omega
          have e3 : (bv (L.set (N / 8 + j) (UInt8.ofNat (L[N / 8 + j].toNat + R / 256 ^ j % 256)))).toArray = (bv L).toArray.setIfInBounds (N / 8 + j) (.int .u8 ((L[N / 8 + j].toNat + R / 256 ^ j % 256 : Nat) : Int)) := by
            rw [← e]; simp [bv, List.map_set]
          rw [e3, ← HP1.out, show (R : Int) / 256 ^ j = ((R / 256 ^ j : Nat) : Int) by simp]
          exact h3
      case measure => simp [intOf]; omega
    · have hje : N / 8 + j = (N + k + 7) / 8 := by omega
      have hput := put_last l L N v k j _ (by rw [← HR.out]; exact hLv.out) hLl.out hv rfl hje
      have hown : Hid (wr.ownsRow w.heap.size 5 1 (.slice (some ⟨w1.heap.size, 0, none⟩) ((N + k + 7) / 8) ((N + k + 7) / 8)) ((N + k + 7) / 8) (bv L)) := by
        refine ⟨by rw [bv_length, hLl.out, Nat.mul_one], .inr ⟨w1.heap.size, (N + k + 7) / 8, (bv L).toArray, rfl, by omega, hblk.out, Nat.le_refl _, by unfold maxLen; omega, by simp [hLl.out], ?_⟩⟩
        rw [Nat.mul_one, List.take_of_length_le]; simp [hLl.out]
      have HPU := Lib.hid hput
      clear hput hje
      go_wp2
      refine bodyPost_ret (v := .tuple #[.agg #[.slice (some ⟨w1.heap.size, 0, none⟩) ((N + k + 7) / 8) ((N + k + 7) / 8), .int .i64 ((N : Int) + k)], .int .i64 0]) ?r1 rfl ⟨_, _, rfl, ?_, ?_⟩
      case r1 =>
        simp [results, Try.results12, go_sem, hcr, hc1, hsz1]
      · rw [← HPU.out, hLl.out]
        exact own_setCell (own_setCell hown.out _ _ (by simp [Value.ownBlock]; omega)) _ _ (by simp [Value.ownBlock]; omega)
      · exact ((((((Below.refl _ _).alloc (Nat.le_refl _) _).alloc (by simp) _).trans (hb1.mono (by simp; omega))).trans (hb.mono (by omega))).setCell (by simp) _).setCell (by simp) _

set_option maxHeartbeats 2000000 in
theorem put_no (A : Option Addr) (n c : Nat) (l : List UInt8) (N v k : Int) (w : World) (h : ByteS w w.heap.size A n l) (hl : n < 140737488355328) (hr : ¬ RightBits l N) :
    Calls Try.prog 12 #[.agg #[.slice A n c, .int .i64 N], .int .i64 v, .int .i64 k] w fun e w' => e = .returned (.tuple #[.agg #[.slice none 0 0, .int .i64 0], .int .i64 1]) ∧ Below w.heap.size w w' := by
  have hck : Hid (checkI l N = 1) := checkI_no hr
  go_enter Try.func12, Try.ntmps12
  go_wp2_with fail
  refine (check_any A n c l N _ w.heap.size ((h.alloc (Nat.le_refl _) _).alloc (by simp) _) (by simp; omega) (by omega)).mono ?_
  rw [hck.out]
  rintro e w1 ⟨rfl, hb1⟩
  obtain ⟨hc1, hf1⟩ := bcell hb1
  have hsz1 : w.heap.size + 1 < w1.heap.size := by have := hb1.size; simp at this; omega
  have hsz0 : w.heap.size < w1.heap.size := by omega
  go_wp2
  refine bodyPost_ret (v := .tuple #[.agg #[.slice none 0 0, .int .i64 0], .int .i64 1]) ?r1 rfl ⟨rfl, ?_⟩
  case r1 => simp [results, Try.results12, go_sem, hc1]
  exact (((((Below.refl _ _).alloc (Nat.le_refl _) _).alloc (by simp) _).trans (hb1.mono (by simp; omega))).setCell (by simp) _).setCell (by simp) _
set_option maxHeartbeats 2000000 in
theorem put_unfit (A : Option Addr) (n c : Nat) (l : List UInt8) (N v k : Int) (w : World) (h : ByteS w w.heap.size A n l) (hr : RightBits l N) (hf : fitsB v k = false) :
    Calls Try.prog 12 #[.agg #[.slice A n c, .int .i64 N], .int .i64 v, .int .i64 k] w fun e w' => e = .returned (.tuple #[.agg #[.slice none 0 0, .int .i64 0], .int .i64 1]) ∧ Below w.heap.size w w' := by
  have hck : Hid (checkI l N = 0) := checkI_yes hr
  have hft := Lib.hid hf
  clear hf
  have hn : n < 140737488355328 := by have := h.len; have := hr.2.1; have := hr.2.2.1; omega
  go_enter Try.func12, Try.ntmps12
  go_wp2_with fail
  refine (check_any A n c l N _ w.heap.size ((h.alloc (Nat.le_refl _) _).alloc (by simp) _) (by simp; omega) (by omega)).mono ?_
  rw [hck.out]
  rintro e w1 ⟨rfl, hb1⟩
  obtain ⟨hc1, hf1⟩ := bcell hb1
  have hsz1 : w.heap.size + 1 < w1.heap.size := by have := hb1.size; simp at this; omega
  have hsz0 : w.heap.size < w1.heap.size := by omega
  go_wp2_with (go_at_call 27; refine (fits_any _ _ _).mono ?_; rw [hft.out]; rintro e w' ⟨rfl, rfl⟩)
  refine bodyPost_ret (v := .tuple #[.agg #[.slice none 0 0, .int .i64 0], .int .i64 1]) ?r1 rfl ⟨rfl, ?_⟩
  case r1 => simp [results, Try.results12, go_sem, hc1]
  exact (((((Below.refl _ _).alloc (Nat.le_refl _) _).alloc (by simp) _).trans (hb1.mono (by simp; omega))).setCell (by simp) _).setCell (by simp) _
set_option maxHeartbeats 2000000 in
theorem put_long (A : Option Addr) (n c : Nat) (l : List UInt8) (N v k : Int) (w : World) (h : ByteS w w.heap.size A n l) (hr : RightBits l N) (hf : fitsB v k = true) (hN : 40000 < N + k) :
    Calls Try.prog 12 #[.agg #[.slice A n c, .int .i64 N], .int .i64 v, .int .i64 k] w fun e w' => e = .returned (.tuple #[.agg #[.slice none 0 0, .int .i64 0], .int .i64 2]) ∧ Below w.heap.size w w' := by
  have hck : Hid (checkI l N = 0) := checkI_yes hr
  have hft := Lib.hid hf
  have hn : n < 140737488355328 := by have := h.len; have := hr.2.1; have := hr.2.2.1; omega
  have hN0 := hr.1
  have hN1 := hr.2.1
  have hk0 : 0 ≤ k ∧ k ≤ 24 := by simp only [fitsB, decide_eq_true_eq] at hf; omega
  obtain ⟨hk0, hk1⟩ := hk0
  clear hf
  go_enter Try.func12, Try.ntmps12
  go_wp2_with fail
  refine (check_any A n c l N _ w.heap.size ((h.alloc (Nat.le_refl _) _).alloc (by simp) _) (by simp; omega) (by omega)).mono ?_
  rw [hck.out]
  rintro e w1 ⟨rfl, hb1⟩
  obtain ⟨hc1, hf1⟩ := bcell hb1
  have hsz1 : w.heap.size + 1 < w1.heap.size := by have := hb1.size; simp at this; omega
  have hsz0 : w.heap.size < w1.heap.size := by omega
  go_wp2_with (go_at_call 27; refine (fits_any _ _ _).mono ?_; rw [hft.out]; rintro e w' ⟨rfl, rfl⟩)
  refine bodyPost_ret (v := .tuple #[.agg #[.slice none 0 0, .int .i64 0], .int .i64 2]) ?r1 rfl ⟨rfl, ?_⟩
  case r1 => simp [results, Try.results12, go_sem, hc1]
  exact (((((Below.refl _ _).alloc (Nat.le_refl _) _).alloc (by simp) _).trans (hb1.mono (by simp; omega))).setCell (by simp) _).setCell (by simp) _
end Go.Proofs.Ytiopoaenpajlmaa
