/-
  SumsNext: texts of one sum, made so by their own sums, go on alike.
-/
import Derived.Test.YtcghjjldjfghgaaSumsTail
namespace Go.Proofs.Ytcghjjldjfghgaa
open Go.RowKit

theorem crc_next (d w : Nat) (l t c : List UInt8) (ht : 8 * t.length = w) (hv : bval t = crc d w l) : crc d w (l ++ t ++ c) = reg d c (sn d w (2 ^ w - 1)) ^^^ (2 ^ w - 1) := by
  rw [crc, reg_append, reg_append]
  congr 2
  rw [reg, hv, ht]
  congr 1
  rw [crc, ← Nat.xor_assoc, Nat.xor_self, Nat.zero_xor]

set_option maxRecDepth 100000 in
set_option maxHeartbeats 2000000 in
theorem sumsNext_walk (w : World) (A1 : Option Addr) (n1 c1 : Nat) (l1 : List UInt8) (h1 : ByteS w w.heap.size A1 n1 l1) (_m1 : n1 ≤ maxLen) (A2 : Option Addr) (n2 c2 : Nat) (l2 : List UInt8) (h2 : ByteS w w.heap.size A2 n2 l2) (_m2 : n2 ≤ maxLen) (A3 : Option Addr) (n3 c3 : Nat) (l3 : List UInt8) (h3 : ByteS w w.heap.size A3 n3 l3) (_m3 : n3 ≤ maxLen) :
    Calls Try.prog 7 #[.slice A1 n1 c1, .slice A2 n2 c2, .slice A3 n3 c3] w fun e w' => e = .returned (.bool true) ∧ Below w.heap.size w w' := by
  clear _m1 _m2 _m3
  by_cases d1 : 600 < n1 ∨ 600 < n2 ∨ 600 < n3
  · have e1 : (decide ((600 : Int) < n1) || decide ((600 : Int) < n2) || decide ((600 : Int) < n3)) = true := by simp; omega
    rcases d1 with d1 | d1 | d1
    · have d1' : decide ((600 : Int) < n1) = true := by simp; omega
      go_enter Try.func7, Try.ntmps7
      go_wp2_with fail
      go_ret
      exact ⟨rfl, Below.refl _ _⟩
    · have d1' : decide ((600 : Int) < n2) = true := by simp; omega
      by_cases d2 : 600 < n1
      all_goals
        go_enter Try.func7, Try.ntmps7
        go_wp2_with fail
        go_ret
        exact ⟨rfl, Below.refl _ _⟩
    · have d1' : decide ((600 : Int) < n3) = true := by simp; omega
      by_cases d2 : 600 < n1
      all_goals by_cases d3 : 600 < n2
      all_goals
        go_enter Try.func7, Try.ntmps7
        go_wp2_with fail
        go_ret
        exact ⟨rfl, Below.refl _ _⟩
  · have d1' : decide ((600 : Int) < n1) = false := by simp; omega
    have d2' : decide ((600 : Int) < n2) = false := by simp; omega
    have d3' : decide ((600 : Int) < n3) = false := by simp; omega
    have b3 := crc_lt 3988292384 32 l1 (by omega) (by omega)
    have b4 := crc_lt 3988292384 32 l2 (by omega) (by omega)
    obtain ⟨p, hp⟩ : ∃ s, s = crc 3988292384 32 l1 := ⟨_, rfl⟩
    obtain ⟨q, hq⟩ : ∃ s, s = crc 3988292384 32 l2 := ⟨_, rfl⟩
    rw [← hp] at b3
    rw [← hq] at b4
    obtain ⟨p0, p1, p2, p3, hpv, ep0, ep1, ep2, ep3⟩ := four_bytes p b3
    obtain ⟨q0, q1, q2, q3, hqv, eq0, eq1, eq2, eq3⟩ := four_bytes q b4
    have k3 : Hid (crc 3988292384 32 (l1 ++ [p0, p1, p2, p3] ++ l3) = reg 3988292384 l3 (sn 3988292384 32 4294967295) ^^^ 4294967295) := crc_next 3988292384 32 l1 _ l3 rfl (by rw [hpv, hp])
    have k4 : Hid (crc 3988292384 32 (l2 ++ [q0, q1, q2, q3] ++ l3) = reg 3988292384 l3 (sn 3988292384 32 4294967295) ^^^ 4294967295) := crc_next 3988292384 32 l2 _ l3 rfl (by rw [hqv, hq])
    have HP := Lib.hid hp
    have HQ := Lib.hid hq
    clear hp hq hpv hqv
    have L1 := h1.len
    have L2 := h2.len
    have L3 := h3.len
    have q1' : l1.length ≤ 600 := by omega
    have q2' : l2.length ≤ 600 := by omega
    have q3' : l3.length ≤ 600 := by omega
    have q4' : n3 ≤ 600 := by omega
    have q5' : n1 ≤ 600 := by omega
    have q6' : n2 ≤ 600 := by omega
    clear L1 L2 L3 d1
    go_enter Try.func7, Try.ntmps7
    go_wp2_with fail
    refine (long_any A1 n1 c1 l1 w h1 (by omega)).mono ?_
    rw [← HP.out]
    rintro e w1 ⟨rfl, x1⟩
    have h1a := h1.below' x1
    have h2a := h2.below' x1
    have h3a := h3.below' x1
    go_wp2_with fail
    refine (long_any A2 n2 c2 l2 w1 h2a (by omega)).mono ?_
    rw [← HQ.out]
    rintro e w2 ⟨rfl, x2⟩
    have h1b := h1a.below' x2
    have h2b := h2a.below' x2
    have h3b := h3a.below' x2
    have y2 : Below w.heap.size w w2 := x1.trans (x2.mono x1.size)
    go_wp2_with fail
    refine (twin_any A1 n1 c1 l1 w2 _ h1b (by omega)).mono ?_
    rintro e w3 ⟨v3, rfl, hn3⟩
    go_wp2_with (at_builtin; refine wpList_append_new rfl (.tmp 29) (.tmp 41) _ rfl Try.underlying22 w2 _ l1 [p0, p1, p2, p3] v3 ?_ rfl (some ⟨w3.heap.size, 0, none⟩) 4 4 rfl ?_ ?_ ?_; exact hn3.below ((Below.refl _ _).alloc (Nat.le_refl _) _); exact ⟨_, new_bytes w3 [p0, p1, p2, p3] _⟩; omega; intro A4 k4' w4 hn4 hg4)
    have h2d := h2b.below' hn4.2
    have h3d := h3b.below' hn4.2
    go_wp2_with fail
    refine (twin_any A2 n2 c2 l2 w4 _ h2d (by omega)).mono ?_
    rintro e w5 ⟨v5, rfl, hn5⟩
    go_wp2_with (first | (at_builtin; refine wpList_append_new rfl (.tmp 44) (.tmp 56) _ rfl Try.underlying22 w4 _ l2 [q0, q1, q2, q3] v5 ?_ rfl (some ⟨w5.heap.size, 0, none⟩) 4 4 rfl ?_ ?_ ?_; exact hn5.below ((Below.refl _ _).alloc (Nat.le_refl _) _); exact ⟨_, new_bytes w5 [q0, q1, q2, q3] _⟩; omega; intro A6 k6 w6 hn6 hg6) | (at_builtin; refine wpList_append_new rfl (.tmp 58) (.tmp 59) _ rfl Try.underlying22 w2 _ (l1 ++ [p0, p1, p2, p3]) l3 (.slice A4 (l1.length + 4) k4') ?_ rfl A3 n3 c3 rfl ?_ ?_ ?_; exact hn4.below hn6.2; exact ⟨_, h3d.below' hn6.2⟩; (simp; omega); intro A7 k7 w7 hn7 hg7))
    refine (long_any A7 (l1.length + 4 + n3) k7 (l1 ++ [p0, p1, p2, p3] ++ l3) w7 (by have := hn7.bytes.2; rw [List.length_append] at this; exact this) (by omega)).mono ?_
    rw [k3.out]
    rintro e w8 ⟨rfl, x8⟩
    have hy7 : NewBytes w2 w7 (l2 ++ [q0, q1, q2, q3]) (.slice A6 (l2.length + 4) k6) := by
      refine ⟨own_grown (own_base hn6.1 hn4.2.size) hg7 (fun g hv => ?_), hn7.2⟩
      intro e
      have a1 := own_ge hn6.1 g hv
      have a2 := own_lt hn4.1 g e.symm
      omega
    have hy8 := hy7.below x8
    have h3e := h3b.below' (hn7.2.trans (x8.mono hn7.2.size))
    go_wp2_with (at_builtin; refine wpList_append_new rfl (.tmp 62) (.tmp 63) _ rfl Try.underlying22 w2 _ (l2 ++ [q0, q1, q2, q3]) l3 (.slice A6 (l2.length + 4) k6) ?_ rfl A3 n3 c3 rfl ?_ ?_ ?_; exact hy8; exact ⟨_, h3e⟩; (simp; omega); intro A9 k9 w9 hn9 hg9)
    refine (long_any A9 (l2.length + 4 + n3) k9 (l2 ++ [q0, q1, q2, q3] ++ l3) w9 (by have := hn9.bytes.2; rw [List.length_append] at this; exact this) (by omega)).mono ?_
    rw [k4.out]
    rintro e w10 ⟨rfl, x10⟩
    go_wp2_with fail
    refine (wakes_any _).mono ?_
    rintro e wz ⟨rfl, xz⟩
    go_wp2_with fail
    go_ret
    exact ⟨rfl, y2.trans ((hn9.2.trans ((x10.trans (xz.mono x10.size)).mono hn9.2.size)).mono y2.size)⟩
end Go.Proofs.Ytcghjjldjfghgaa
