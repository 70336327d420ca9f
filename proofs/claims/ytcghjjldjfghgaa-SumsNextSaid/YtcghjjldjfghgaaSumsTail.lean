/-
  SumsTail: with its own sum behind it, the lowest byte first, any text has one sum.
-/
import Derived.Test.YtcghjjldjfghgaaSwakes
import Derived.Test.YtcghjjldjfghgaaApp
namespace Go.Proofs.Ytcghjjldjfghgaa
open Go.RowKit

theorem crc_tail (d w : Nat) (l t : List UInt8) (ht : 8 * t.length = w) (hv : bval t = crc d w l) : crc d w (l ++ t) = sn d w (2 ^ w - 1) ^^^ (2 ^ w - 1) := by
  rw [crc, reg_append]
  congr 1
  rw [reg, hv, ht]
  congr 1
  rw [crc, ← Nat.xor_assoc, Nat.xor_self, Nat.zero_xor]
theorem crc_lt (d w : Nat) (l : List UInt8) (hd : d < 2 ^ w) (hw : 8 ≤ w) : crc d w l < 2 ^ w :=
  Nat.xor_lt_two_pow (reg_lt d _ w l hd (by have : 0 < 2 ^ w := Nat.pow_pos (by omega); omega) hw) (by have : 0 < 2 ^ w := Nat.pow_pos (by omega); omega)
/-- two, four bytes of a number, as the walk meets them -/
theorem two_bytes (s : Nat) (hs : s < 65536) : ∃ u0 u1 : UInt8, bval [u0, u1] = s ∧ (s : Int) % 256 = (u0.toNat : Int) ∧ (s : Int) / 256 = (u1.toNat : Int) := by
  refine ⟨UInt8.ofNat s, UInt8.ofNat (s / 256), ?_, ?_, ?_⟩ <;> simp [bval] <;> omega
theorem four_bytes (s : Nat) (hs : s < 4294967296) : ∃ u0 u1 u2 u3 : UInt8, bval [u0, u1, u2, u3] = s ∧ (s : Int) % 256 = (u0.toNat : Int) ∧ (s : Int) / 256 % 256 = (u1.toNat : Int) ∧ (s : Int) / 65536 % 256 = (u2.toNat : Int) ∧ (s : Int) / 16777216 = (u3.toNat : Int) := by
  refine ⟨UInt8.ofNat s, UInt8.ofNat (s / 256), UInt8.ofNat (s / 65536), UInt8.ofNat (s / 16777216), ?_, ?_, ?_, ?_, ?_⟩ <;> simp [bval] <;> omega

set_option maxRecDepth 100000 in
set_option maxHeartbeats 2000000 in
theorem sumsTail_walk (w : World) (A1 : Option Addr) (n1 c1 : Nat) (l1 : List UInt8) (h1 : ByteS w w.heap.size A1 n1 l1) (_m1 : n1 ≤ maxLen) (A2 : Option Addr) (n2 c2 : Nat) (l2 : List UInt8) (h2 : ByteS w w.heap.size A2 n2 l2) (_m2 : n2 ≤ maxLen) :
    Calls Try.prog 5 #[.slice A1 n1 c1, .slice A2 n2 c2] w fun e w' => e = .returned (.bool true) ∧ Below w.heap.size w w' := by
  clear _m1 _m2
  by_cases d1 : 600 < n1
  · have d1' : decide ((600 : Int) < n1) = true := by simp; omega
    go_enter Try.func5, Try.ntmps5
    go_wp2_with fail
    go_ret
    exact ⟨rfl, Below.refl _ _⟩
  · have d1' : decide ((600 : Int) < n1) = false := by simp; omega
    by_cases d2 : 600 < n2
    · have d2' : decide ((600 : Int) < n2) = true := by simp; omega
      go_enter Try.func5, Try.ntmps5
      go_wp2_with fail
      go_ret
      exact ⟨rfl, Below.refl _ _⟩
    · have d2' : decide ((600 : Int) < n2) = false := by simp; omega
      obtain ⟨i0, hi0, hz0, hz1, hz2⟩ := info_parts Try.infoU8
      have b1 := crc_lt 33800 16 l1 (by omega) (by omega)
      have b2 := crc_lt 33800 16 l2 (by omega) (by omega)
      have b3 := crc_lt 3988292384 32 l1 (by omega) (by omega)
      have b4 := crc_lt 3988292384 32 l2 (by omega) (by omega)
      obtain ⟨s, hs⟩ : ∃ s, s = crc 33800 16 l1 := ⟨_, rfl⟩
      obtain ⟨t, ht⟩ : ∃ s, s = crc 33800 16 l2 := ⟨_, rfl⟩
      obtain ⟨p, hp⟩ : ∃ s, s = crc 3988292384 32 l1 := ⟨_, rfl⟩
      obtain ⟨q, hq⟩ : ∃ s, s = crc 3988292384 32 l2 := ⟨_, rfl⟩
      rw [← hs] at b1
      rw [← ht] at b2
      rw [← hp] at b3
      rw [← hq] at b4
      obtain ⟨s0, s1, hsv, es0, es1⟩ := two_bytes s b1
      obtain ⟨t0, t1, htv, et0, et1⟩ := two_bytes t b2
      obtain ⟨p0, p1, p2, p3, hpv, ep0, ep1, ep2, ep3⟩ := four_bytes p b3
      obtain ⟨q0, q1, q2, q3, hqv, eq0, eq1, eq2, eq3⟩ := four_bytes q b4
      have k1 : Hid (crc 33800 16 (l1 ++ [s0, s1]) = sn 33800 16 65535 ^^^ 65535) := crc_tail 33800 16 l1 _ rfl (by rw [hsv, hs])
      have k2 : Hid (crc 33800 16 (l2 ++ [t0, t1]) = sn 33800 16 65535 ^^^ 65535) := crc_tail 33800 16 l2 _ rfl (by rw [htv, ht])
      have k3 : Hid (crc 3988292384 32 (l1 ++ [p0, p1, p2, p3]) = sn 3988292384 32 4294967295 ^^^ 4294967295) := crc_tail 3988292384 32 l1 _ rfl (by rw [hpv, hp])
      have k4 : Hid (crc 3988292384 32 (l2 ++ [q0, q1, q2, q3]) = sn 3988292384 32 4294967295 ^^^ 4294967295) := crc_tail 3988292384 32 l2 _ rfl (by rw [hqv, hq])
      have HS := Lib.hid hs
      have HT := Lib.hid ht
      have HP := Lib.hid hp
      have HQ := Lib.hid hq
      clear hs ht hp hq hsv htv hpv hqv
      go_enter Try.func5, Try.ntmps5
      go_wp2_with fail
      refine (short_any A1 n1 c1 l1 w h1 (by omega)).mono ?_
      rw [← HS.out]
      rintro e w1 ⟨rfl, x1⟩
      have h1a := h1.below' x1
      have h2a := h2.below' x1
      go_wp2_with fail
      refine (short_any A2 n2 c2 l2 w1 h2a (by omega)).mono ?_
      rw [← HT.out]
      rintro e w2 ⟨rfl, x2⟩
      have h1b := h1a.below' x2
      have h2b := h2a.below' x2
      go_wp2_with fail
      refine (long_any A1 n1 c1 l1 w2 h1b (by omega)).mono ?_
      rw [← HP.out]
      rintro e w3 ⟨rfl, x3⟩
      have h1c := h1b.below' x3
      have h2c := h2b.below' x3
      go_wp2_with fail
      refine (long_any A2 n2 c2 l2 w3 h2c (by omega)).mono ?_
      rw [← HQ.out]
      rintro e w4 ⟨rfl, x4⟩
      have h1d := h1c.below' x4
      have h2d := h2c.below' x4
      have y4 : Below w.heap.size w w4 := x1.trans ((x2.trans ((x3.trans (x4.mono x3.size)).mono x2.size)).mono x1.size)
      clear x1 x2 x3 x4 h1a h2a h1b h2b h1c h2c
      go_wp2_with fail
      refine (twin_any A1 n1 c1 l1 w4 _ h1d (by omega)).mono ?_
      rintro e w5 ⟨v5, rfl, hn5⟩
      go_wp2_with (at_builtin; refine wpList_append_new rfl (.tmp 30) (.tmp 36) _ rfl Try.underlying22 w4 _ l1 [s0, s1] v5 ?_ rfl (some ⟨w5.heap.size, 0, none⟩) 2 2 rfl ?_ ?_ ?_; exact hn5.below ((Below.refl _ _).alloc (Nat.le_refl _) _); exact ⟨_, new_bytes w5 [s0, s1] _⟩; (have := h1d.len; omega); intro A6 k6 w6 hn6 hg6)
      go_wp2_with fail
      refine (short_any A6 _ k6 (l1 ++ [s0, s1]) w6 hn6.bytes.2 (by have := h1d.len; omega)).mono ?_
      rw [k1.out]
      rintro e w7 ⟨rfl, x7⟩
      have hn7 := hn6.2.trans (x7.mono hn6.2.size)
      have h1e := h1d.below' hn7
      have h2e := h2d.below' hn7
      have y7 := y4.trans (hn7.mono y4.size)
      go_wp2_with fail
      have h1w7 := h1e
      have h2w7 := h2e
      refine (twin_any A2 n2 c2 l2 w7 _ h2w7 (by omega)).mono ?_
      rintro e wt2 ⟨vt2, rfl, hnt2⟩
      go_wp2_with (at_builtin; refine wpList_append_new rfl (.tmp 40) (.tmp 46) _ rfl Try.underlying22 w7 _ l2 [t0, t1] vt2 ?_ rfl (some ⟨wt2.heap.size, 0, none⟩) 2 2 rfl ?_ ?_ ?_; exact hnt2.below ((Below.refl _ _).alloc (Nat.le_refl _) _); exact ⟨_, new_bytes wt2 [t0, t1] _⟩; (have := h2w7.len; omega); intro Aa2 ka2 wa2 hna2 hga2)
      go_wp2_with fail
      refine (short_any Aa2 _ ka2 (l2 ++ [t0, t1]) wa2 hna2.bytes.2 (by have := h2w7.len; omega)).mono ?_
      rw [k2.out]
      rintro e ws2 ⟨rfl, xs2⟩
      have hns2 := hna2.2.trans (xs2.mono hna2.2.size)
      have h1ws2 := h1w7.below' hns2
      have h2ws2 := h2w7.below' hns2
      have yws2 := y7.trans (hns2.mono y7.size)
      go_wp2_with fail
      refine (twin_any A1 n1 c1 l1 ws2 _ h1ws2 (by omega)).mono ?_
      rintro e wt3 ⟨vt3, rfl, hnt3⟩
      go_wp2_with (at_builtin; refine wpList_append_new rfl (.tmp 50) (.tmp 62) _ rfl Try.underlying22 ws2 _ l1 [p0, p1, p2, p3] vt3 ?_ rfl (some ⟨wt3.heap.size, 0, none⟩) 4 4 rfl ?_ ?_ ?_; exact hnt3.below ((Below.refl _ _).alloc (Nat.le_refl _) _); exact ⟨_, new_bytes wt3 [p0, p1, p2, p3] _⟩; (have := h1ws2.len; omega); intro Aa3 ka3 wa3 hna3 hga3)
      go_wp2_with fail
      refine (long_any Aa3 _ ka3 (l1 ++ [p0, p1, p2, p3]) wa3 hna3.bytes.2 (by have := h1ws2.len; omega)).mono ?_
      rw [k3.out]
      rintro e ws3 ⟨rfl, xs3⟩
      have hns3 := hna3.2.trans (xs3.mono hna3.2.size)
      have h1ws3 := h1ws2.below' hns3
      have h2ws3 := h2ws2.below' hns3
      have yws3 := yws2.trans (hns3.mono yws2.size)
      go_wp2_with fail
      refine (twin_any A2 n2 c2 l2 ws3 _ h2ws3 (by omega)).mono ?_
      rintro e wt4 ⟨vt4, rfl, hnt4⟩
      go_wp2_with (at_builtin; refine wpList_append_new rfl (.tmp 66) (.tmp 78) _ rfl Try.underlying22 ws3 _ l2 [q0, q1, q2, q3] vt4 ?_ rfl (some ⟨wt4.heap.size, 0, none⟩) 4 4 rfl ?_ ?_ ?_; exact hnt4.below ((Below.refl _ _).alloc (Nat.le_refl _) _); exact ⟨_, new_bytes wt4 [q0, q1, q2, q3] _⟩; (have := h2ws3.len; omega); intro Aa4 ka4 wa4 hna4 hga4)
      go_wp2_with fail
      refine (long_any Aa4 _ ka4 (l2 ++ [q0, q1, q2, q3]) wa4 hna4.bytes.2 (by have := h2ws3.len; omega)).mono ?_
      rw [k4.out]
      rintro e ws4 ⟨rfl, xs4⟩
      have hns4 := hna4.2.trans (xs4.mono hna4.2.size)
      have h1ws4 := h1ws3.below' hns4
      have h2ws4 := h2ws3.below' hns4
      have yws4 := yws3.trans (hns4.mono yws3.size)
      go_wp2_with fail
      refine (wakes_any _).mono ?_
      rintro e wz ⟨rfl, xz⟩
      go_wp2_with fail
      go_ret
      exact ⟨rfl, yws4.trans (xz.mono yws4.size)⟩
end Go.Proofs.Ytcghjjldjfghgaa
