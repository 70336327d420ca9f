/-
  Contract of sums.sum, Short, Long, Carry.
-/
import Derived.Test.YtcghjjldjfghgaaSumw
namespace Go.Proofs.Ytcghjjldjfghgaa
open Go.RowKit

theorem ones_u32 (k : Nat) (h : k ≤ 32) : ((2 : Int) ^ k % 4294967296 - 1) % 4294967296 = ((2 ^ k - 1 : Nat) : Int) := by
  have h1 : 2 ^ k ≤ 2 ^ 32 := Nat.pow_le_pow_right (by omega) h
  have h2 : 0 < 2 ^ k := Nat.pow_pos (by omega)
  rw [pow2_cast]
  omega

/-- a byte is fed, a nibble at a time: the words as the walk meets them -/
theorem feed (d r : Nat) (x : UInt8) (hr : r < 4294967296) (hd : d < 4294967296) : ∃ R1 R2 R3 : Nat, R1 < 4294967296 ∧ R2 < 4294967296 ∧ R3 < 4294967296 ∧ R3 = sn d 8 (r ^^^ x.toNat) ∧
    bits .xor .u32 (r : Int) ((x.toNat : Int) % 4294967296) = (R1 : Int) ∧ bits .xor .u32 ((R1 : Int) / 16) ((sn d 4 (R1 % 16) : Nat) : Int) = (R2 : Int) ∧ bits .xor .u32 ((R2 : Int) / 16) ((sn d 4 (R2 % 16) : Nat) : Int) = (R3 : Int) := by
  have hx := x.toNat_lt
  have h1 : r ^^^ x.toNat < 2 ^ 32 := Nat.xor_lt_two_pow (by omega) (by omega)
  have h2 : sn d 4 (r ^^^ x.toNat) < 2 ^ 32 := sn_lt d _ 32 4 hd h1
  have h3 : sn d 4 (sn d 4 (r ^^^ x.toNat)) < 2 ^ 32 := sn_lt d _ 32 4 hd h2
  have step : ∀ R : Nat, R < 2 ^ 32 → bits .xor .u32 ((R : Int) / 16) ((sn d 4 (R % 16) : Nat) : Int) = ((sn d 4 R : Nat) : Int) := fun R hR => by
    have h4 : sn d 4 (R % 16) < 2 ^ 32 := sn_lt d _ 32 4 hd (by omega)
    rw [show (R : Int) / 16 = ((R / 16 : Nat) : Int) by omega, u32_xor_nat _ _ (by omega) (by omega), ← sn4_split]
  refine ⟨r ^^^ x.toNat, _, _, h1, h2, h3, (sn8_split d _).symm, ?_, step _ h1, step _ h2⟩
  rw [show (x.toNat : Int) % 4294967296 = (x.toNat : Int) by omega, u32_xor_nat _ _ hr (by omega)]

set_option maxHeartbeats 2000000 in
theorem sum_any (A : Option Addr) (n c : Nat) (l : List UInt8) (k d : Nat) (w : World) (h : ByteS w w.heap.size A n l) (hl : n < 140737488355328) (hk0 : 1 ≤ k) (hk : k ≤ 32) (hd : d < 4294967296) :
    Calls Try.prog 19 #[.slice A n c, .int .i64 k, .int .u32 d] w fun e w' => e = .returned (.int .i64 (crc d k l)) ∧ Below w.heap.size w w' := by
  have hln := Lib.hid h.len
  go_enter Try.func19, Try.ntmps19
  go_wp2_with fail
  refine (table_any d _ hd).mono ?_
  rw [tabL_lit]
  rintro e w1 ⟨rfl, hb1⟩
  go_wp2_with fail
  obtain ⟨W, hW⟩ : ∃ W, W = w1.alloc (.cells (tabL d 16).toArray 40) := ⟨_, rfl⟩
  have hTab : Blk W w1.heap.size 40 (tabL d 16).toArray := by rw [hW]; exact Blk.new _ _ _
  have hbW : Below w.heap.size w W := by rw [hW]; exact hb1.alloc hb1.size _
  rw [tabL_lit] at hW
  rw [← hW]
  clear hW
  have hr : ByteS W w.heap.size A n l := h.below hbW
  have T : ∀ i, i < 16 → W.cell? ⟨w1.heap.size, i, none⟩ = some (.int .u32 ((sn d 4 i : Nat) : Int)) := fun i hi => by
    rw [hTab.cell]; simpa [tv, hi] using tabL_get d 16 i hi
  have HT := Lib.hid T
  clear T hTab hb1
  obtain ⟨ones, h1⟩ : ∃ o, o = 2 ^ k - 1 := ⟨_, rfl⟩
  have ho32 : ones < 4294967296 := by have : 2 ^ k ≤ 2 ^ 32 := Nat.pow_le_pow_right (by omega) hk; have : 0 < 2 ^ k := Nat.pow_pos (by omega); omega
  have ho := ones_u32 k hk
  rw [← h1] at ho
  simp only [ho]
  clear ho
  have H1 := Lib.hid h1
  clear h1
  go_loopg [9, 11, 20] n (fun g r _ i wx => W = wx ∧ ∃ j : Nat, j ≤ n ∧ g = n - j ∧ i = .int .i64 (j : Int) ∧ r = .int .u32 ((reg d (l.take j) ones : Nat) : Int))
  case atStart => exact ⟨rfl, 0, by omega, rfl, rfl, by simp [reg_nil]⟩
  case round =>
    obtain ⟨rfl, j, hj, rfl, rfl, rfl⟩ := hrel
    have hR : reg d (l.take j) ones < 4294967296 := reg_lt d ones 32 _ hd ho32 (by omega)
    by_cases hlt : j < n
    · have hjl : j < l.length := by have := hln.out; omega
      obtain ⟨b, o, rfl, _, hc⟩ := hr.at_ hjl
      obtain ⟨R1, R2, R3, q1, q2, q3, hR3, e1, e2, e3⟩ := feed d _ l[j] hR hd
      have hnext : Hid (R3 = reg d (l.take (j + 1)) ones) := by
        unfold Hid
        rw [List.take_succ_eq_append_getElem hjl, reg_append, reg_cons, reg_nil]; exact hR3
      clear hR3
      have c1 := HT.out (R1 % 16) (by omega)
      have c2 := HT.out (R2 % 16) (by omega)
      go_wp2_with fail
      go_roundg (n - (j + 1))
      case measure => omega
      case rel => exact ⟨rfl, j + 1, by omega, rfl, by go_num, by rw [hnext.out]⟩
    · obtain rfl : n = j := by omega
      have hcrc : Hid (crc d k l = reg d (l.take n) ones ^^^ ones) := by
        unfold Hid; rw [List.take_of_length_le (by have := hln.out; omega), crc, ← H1.out]
      have hlt2 : crc d k l < 2 ^ 32 := by rw [hcrc.out]; exact Nat.xor_lt_two_pow (by omega) (by omega)
      have e1 : bits .xor .u32 ((reg d (l.take n) ones : Nat) : Int) (ones : Int) = ((crc d k l : Nat) : Int) := by rw [u32_xor_nat _ _ hR ho32, ← hcrc.out]
      go_wp2_with fail
      go_ret
      exact ⟨ret_int (by first | rfl | exact wrap64_nat _ (by omega)), hbW⟩

theorem short_any (A : Option Addr) (n c : Nat) (l : List UInt8) (w : World) (h : ByteS w w.heap.size A n l) (hl : n < 140737488355328) :
    Calls Try.prog 14 #[.slice A n c] w fun e w' => e = .returned (.int .i64 (crc 33800 16 l)) ∧ Below w.heap.size w w' := by
  go_enter Try.func14, Try.ntmps14
  go_wp2_with fail
  refine (sum_any A n c l 16 33800 w h hl (by omega) (by omega) (by omega)).mono ?_
  rintro e w1 ⟨rfl, hb1⟩
  go_wp2
  go_ret
  exact ⟨rfl, hb1⟩
theorem long_any (A : Option Addr) (n c : Nat) (l : List UInt8) (w : World) (h : ByteS w w.heap.size A n l) (hl : n < 140737488355328) :
    Calls Try.prog 16 #[.slice A n c] w fun e w' => e = .returned (.int .i64 (crc 3988292384 32 l)) ∧ Below w.heap.size w w' := by
  go_enter Try.func16, Try.ntmps16
  go_wp2_with fail
  refine (sum_any A n c l 32 3988292384 w h hl (by omega) (by omega) (by omega)).mono ?_
  rintro e w1 ⟨rfl, hb1⟩
  go_wp2
  go_ret
  exact ⟨rfl, hb1⟩
end Go.Proofs.Ytcghjjldjfghgaa
