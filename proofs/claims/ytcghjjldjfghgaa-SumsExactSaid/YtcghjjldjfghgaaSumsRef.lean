/-
  The page's sums: bit by bit; whether a width and a divisor may be; that they are the code's.
-/
import Derived.Test.YtcghjjldjfghgaaSwakes
namespace Go.Proofs.Ytcghjjldjfghgaa
open Go.RowKit

def rk (d r x k : Nat) : Nat := sn d k (r ^^^ (x % 2 ^ k))
theorem rk_zero (d r x : Nat) : rk d r x 0 = r := by simp [rk, sn, Nat.mod_one]
theorem rk_eight (d r : Nat) (x : UInt8) : rk d r x.toNat 8 = sn d 8 (r ^^^ x.toNat) := by
  rw [rk, Nat.mod_eq_of_lt (by have := x.toNat_lt; omega)]
theorem rk_succ (d r x k : Nat) : rk d r x (k + 1) = s0 d (rk d r x k ^^^ (x / 2 ^ k % 2)) := by
  have h : x % 2 ^ (k + 1) = x % 2 ^ k ^^^ 2 ^ k * (x / 2 ^ k % 2) := by
    rw [← xor_add_shift _ _ k (Nat.mod_lt _ (Nat.pow_pos (by omega))), Nat.pow_succ, Nat.mod_mul]
  rw [rk, sn_succ', h, ← Nat.xor_assoc, sn_xor, sn_shift, rk]
theorem rk_lt (d r x k : Nat) (hd : d < 2 ^ 32) (hr : r < 2 ^ 32) (hk : k ≤ 8) : rk d r x k < 2 ^ 32 := by
  refine sn_lt d _ 32 k hd (Nat.xor_lt_two_pow hr ?_)
  have h1 : x % 2 ^ k < 2 ^ k := Nat.mod_lt _ (Nat.pow_pos (by omega))
  have h2 : 2 ^ k ≤ 2 ^ 8 := Nat.pow_le_pow_right (by omega) hk
  omega
theorem s0_bit (d r b : Nat) (hb : b < 2) : s0 d (r ^^^ b) = if r % 2 = b then r / 2 else r / 2 ^^^ d := by
  unfold s0
  rw [xor_div2, xor_mod2, show b / 2 = 0 by omega, Nat.xor_zero]
  by_cases h : r % 2 = b
  · rw [if_pos h, if_neg (by omega), Nat.xor_zero]
  · rw [if_neg h, if_pos (by omega)]

theorem in_any (n lo hi : Int) (w : World) : Calls Try.prog 20 #[.int .i64 n, .int .i64 lo, .int .i64 hi] w fun e w' => e = .returned (.bool (decide (lo ≤ n) && decide (n ≤ hi))) ∧ w = w' := by
  by_cases h : lo ≤ n
  · have d1 : decide (lo ≤ n) = true := by simp [h]
    go_enter Try.func20, Try.ntmps20
    go_wp2
    go_ret
    exact ⟨ret_bool (by simp [h]), rfl⟩
  · have d1 : decide (lo ≤ n) = false := by simp; omega
    go_enter Try.func20, Try.ntmps20
    go_wp2
    go_ret
    exact ⟨ret_bool (by simp), rfl⟩

theorem shl_u (k : Nat) (h : k ≤ 32) : wrap64 (2 ^ min (IntKind.u64.wrap (k : Int)).toNat 64) = ((2 ^ k : Nat) : Int) := shl_one k (by omega)

set_option maxHeartbeats 1000000 in
theorem rightCarry_any (k d : Int) (w : World) : Calls Try.prog 11 #[.int .i64 k, .int .i64 d] w fun e w' => e = .returned (.bool (rightCarry k d)) ∧ w = w' := by
  by_cases hk : 1 ≤ k ∧ k ≤ 32
  · obtain ⟨K, rfl⟩ := Int.eq_ofNat_of_zero_le (show 0 ≤ k by omega)
    obtain ⟨hk1, hk2⟩ := hk
    have dd : (decide ((1 : Int) ≤ K) && decide ((K : Int) ≤ 32)) = true := by simp; omega
    by_cases hd : 0 ≤ d
    · have d2 : decide (0 ≤ d) = true := by simp [hd]
      have hs := shl_u K (by omega)
      have hs2 := shl_one_i K (by omega)
      have hr : Hid (rightCarry K d = decide (d < ((2 ^ K : Nat) : Int))) := by
        unfold Hid rightCarry; rw [Int.toNat_natCast, pow2_cast]; simp only [decide_eq_decide]; omega
      have DD := Lib.hid dd
      clear dd
      go_enter Try.func11, Try.ntmps11
      go_wp2_with fail
      refine (in_any _ _ _ w).mono ?_
      rw [DD.out]
      rintro e w1 ⟨rfl, rfl⟩
      go_wp2
      go_ret
      exact ⟨ret_bool (by rw [hr.out, ← pow2_cast]), rfl⟩
    · have d2 : decide (0 ≤ d) = false := by simp; omega
      have DD := Lib.hid dd
      clear dd
      go_enter Try.func11, Try.ntmps11
      go_wp2_with fail
      refine (in_any _ _ _ w).mono ?_
      rw [DD.out]
      rintro e w1 ⟨rfl, rfl⟩
      go_wp2
      go_ret
      exact ⟨ret_bool (Eq.symm (by simp only [rightCarry, decide_eq_false_iff_not]; omega)), rfl⟩
  · have dd : Hid ((decide ((1 : Int) ≤ k) && decide (k ≤ 32)) = false) := by unfold Hid; simp; omega
    go_enter Try.func11, Try.ntmps11
    go_wp2_with fail
    refine (in_any _ _ _ w).mono ?_
    rw [dd.out]
    rintro e w1 ⟨rfl, rfl⟩
    go_wp2
    go_ret
    exact ⟨ret_bool (Eq.symm (by simp only [rightCarry, decide_eq_false_iff_not]; omega)), rfl⟩

set_option maxHeartbeats 1000000 in
theorem refCarry_any (A : Option Addr) (n c : Nat) (l : List UInt8) (k d : Nat) (w : World) (B : Nat) (h : ByteS w B A n l) (hl : n < 140737488355328) (hk0 : 1 ≤ k) (hk : k ≤ 32) (hd : d < 4294967296) :
    Calls Try.prog 13 #[.slice A n c, .int .i64 k, .int .i64 d] w fun e w' => e = .returned (.int .i64 (crc d k l)) ∧ w = w' := by
  have hln := Lib.hid h.len
  obtain ⟨ones, h1⟩ : ∃ o, o = 2 ^ k - 1 := ⟨_, rfl⟩
  have ho32 : ones < 4294967296 := by have : 2 ^ k ≤ 2 ^ 32 := Nat.pow_le_pow_right (by omega) hk; have : 0 < 2 ^ k := Nat.pow_pos (by omega); omega
  have ho := mask_of k (by omega)
  rw [← h1] at ho
  have ho2 : wrap64 (wrap64 (2 ^ k) - 1) = (ones : Int) := by rw [shl_one_i k hk, h1]; have : 0 < 2 ^ k := Nat.pow_pos (by omega); have : 2 ^ k ≤ 2 ^ 32 := Nat.pow_le_pow_right (by omega) hk; generalize 2 ^ k = x at *; unfold wrap64; omega
  have H1 := Lib.hid h1
  clear h1
  go_enter Try.func13, Try.ntmps13
  go_wp2_with fail
  go_loopg [7, 8, 9, 10] n (fun g r i _ _ wx => w = wx ∧ ∃ j : Nat, j ≤ n ∧ g = n - j ∧ i = .int .i64 (j : Int) ∧ r = .int .i64 ((reg d (l.take j) ones : Nat) : Int))
  case atStart => exact ⟨rfl, 0, by omega, rfl, rfl, by simp [reg_nil, ho2]⟩
  case round =>
    obtain ⟨rfl, j, hj, rfl, rfl, rfl⟩ := hrel
    have hR : reg d (l.take j) ones < 2 ^ 32 := reg_lt d ones 32 _ hd ho32 (by omega)
    by_cases hlt : j < n
    · have hjl : j < l.length := by have := hln.out; omega
      obtain ⟨b, o, rfl, _, hc⟩ := h.at_ hjl
      go_wp2_with fail
      go_loopg [7, 9, 10] 8 (fun g r i _ wx => w = wx ∧ ∃ q : Nat, q ≤ 8 ∧ g = 8 - q ∧ i = .int .i64 (q : Int) ∧ r = .int .i64 ((rk d (reg d (l.take j) ones) l[j].toNat q : Nat) : Int))
      case atStart => exact ⟨rfl, 0, by omega, rfl, rfl, by rw [rk_zero]⟩
      case round =>
        obtain ⟨rfl, q, hq, rfl, rfl, rfl⟩ := hrel
        have hRq := rk_lt d (reg d (l.take j) ones) l[j].toNat q hd hR hq
        by_cases hq8 : q < 8
        · have hb := bit_i64 l[j].toNat q (by have := l[j].toNat_lt; omega)
          have hs := s0_bit d (rk d (reg d (l.take j) ones) l[j].toNat q) (l[j].toNat / 2 ^ q % 2) (by omega)
          rw [← rk_succ] at hs
          have ha : bits .and .i64 ((rk d (reg d (l.take j) ones) l[j].toNat q : Nat) : Int) 1 = ((rk d (reg d (l.take j) ones) l[j].toNat q % 2 : Nat) : Int) := by
            rw [show (1 : Int) = ((1 : Nat) : Int) from rfl, and_i64 _ _ (by omega) (by omega), Nat.and_one_is_mod]
          have hw : wrap64 ((l[j].toNat : Int) / 2 ^ q) = (l[j].toNat : Int) / 2 ^ q := by
            have h5 : l[j].toNat / 2 ^ q ≤ l[j].toNat := Nat.div_le_self _ _
            have h6 := l[j].toNat_lt
            rw [pow2_cast, ← Int.natCast_ediv]; exact wrap64_nat _ (by omega)
          generalize hrr : rk d (reg d (l.take j) ones) l[j].toNat q = R at *
          by_cases he : R % 2 = l[j].toNat / 2 ^ q % 2
          · rw [if_pos he] at hs
            have t1 : (bits .and .i64 (R : Int) 1 != bits .and .i64 ((l[j].toNat : Int) / 2 ^ q) 1) = false := by rw [ha, hb, he]; simp
            have HS := Lib.hid hs
            clear hs he ha hb hrr
            go_wp2_with fail
            go_roundg (8 - (q + 1))
            case measure => omega
            case rel => exact ⟨rfl, q + 1, by omega, rfl, by go_num, by rw [HS.out]; simp⟩
          · rw [if_neg he] at hs
            have t1 : (bits .and .i64 (R : Int) 1 != bits .and .i64 ((l[j].toNat : Int) / 2 ^ q) 1) = true := by rw [ha, hb, bne_iff_ne]; omega
            have t2 : bits .xor .i64 ((R : Int) / 2) (d : Int) = ((R / 2 ^^^ d : Nat) : Int) := by rw [show (R : Int) / 2 = ((R / 2 : Nat) : Int) by omega, xor_i64 _ _ (by omega) (by omega)]
            have HS := Lib.hid hs
            clear hs he ha hb hrr
            go_wp2_with fail
            go_roundg (8 - (q + 1))
            case measure => omega
            case rel => exact ⟨rfl, q + 1, by omega, rfl, by go_num, by rw [HS.out]⟩
        · obtain rfl : q = 8 := by omega
          have hnext : Hid (rk d (reg d (l.take j) ones) l[j].toNat 8 = reg d (l.take (j + 1)) ones) := by
            unfold Hid
            rw [rk_eight, List.take_succ_eq_append_getElem hjl, reg_append, reg_cons, reg_nil]
          go_wp2_with fail
          go_roundg (n - (j + 1))
          case measure => omega
          case rel => exact ⟨rfl, j + 1, by omega, rfl, by go_num, by rw [hnext.out]⟩
    · obtain rfl : n = j := by omega
      have hcrc : Hid (crc d k l = reg d (l.take n) ones ^^^ ones) := by
        unfold Hid; rw [List.take_of_length_le (by have := hln.out; omega), crc, ← H1.out]
      have e1 : bits .xor .i64 ((reg d (l.take n) ones : Nat) : Int) (ones : Int) = ((crc d k l : Nat) : Int) := by rw [xor_i64 _ _ (by omega) (by omega), ← hcrc.out]
      go_wp2_with fail
      go_ret
      exact ⟨ret_int (by first | rfl | exact e1 | (rw [ho2]; exact e1)), rfl⟩
end Go.Proofs.Ytcghjjldjfghgaa
