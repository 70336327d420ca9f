/-
  The comparers and copiers of package wherrykeep over byte slices: Bytes tells whether two byte slices read alike; Twin makes a fresh one that reads as the old.
-/
import Derived.Test.YtiopoaenpajlmaaMem
namespace Go.Proofs.Ytiopoaenpajlmaa
open Go.RowKit

theorem u8_ne (a b : UInt8) (h : ((a.toNat : Int) != (b.toNat : Int)) = true) : a ≠ b := by
  rintro rfl; simp at h
theorem u8_eq (a b : UInt8) (h : ((a.toNat : Int) != (b.toNat : Int)) = false) : a = b := by
  have h' : (a.toNat : Int) = b.toNat := by simpa using h
  exact UInt8.toNat_inj.mp (by omega)

theorem take_next {α : Type} {l1 l2 : List α} {k : Nat} (h1 : k < l1.length) (h2 : k < l2.length) (he : l1.take k = l2.take k) (hc : l1[k] = l2[k]) : l1.take (k + 1) = l2.take (k + 1) := by
  rw [List.take_succ_eq_append_getElem h1, List.take_succ_eq_append_getElem h2, he, hc]

set_option maxHeartbeats 400000 in
theorem keepBytes_any (A1 A2 : Option Addr) (n1 n2 : Nat) (l1 l2 : List UInt8) (c1 c2 : Nat) (w : World) (B : Nat) (h1 : ByteS w B A1 n1 l1) (h2 : ByteS w B A2 n2 l2) (hl : n1 < 140737488355328) :
    Calls Try.prog 23 #[.slice A1 n1 c1, .slice A2 n2 c2] w fun e w' => e = .returned (.bool (l1 == l2)) ∧ ∃ n, w.drewN n = w' := by
  have e1 := h1.len
  have e2 := h2.len
  by_cases hlen : n1 = n2
  · subst hlen
    have hle : n1 ≤ l1.length := by omega
    have hle2 : n1 ≤ l2.length := by omega
    have hge : l1.length ≤ n1 := by omega
    have E1 := Lib.hid e1
    have E2 := Lib.hid e2
    clear e1 e2
    go_enter Try.func23, Try.ntmps23
    go_wp2
    go_loopw [5] (fun i wr => ∃ k : Nat, k ≤ n1 ∧ i = .int .i64 k ∧ Hid (l1.take k = l2.take k) ∧ ∃ n, Hid (wr = w.drewN n)) (fun i _ => n1 - (intOf i).toNat)
    case atStart => exact ⟨0, Nat.zero_le _, rfl, rfl, 0, rfl⟩
    case round =>
      obtain ⟨k, hk, rfl, he, n, hw⟩ := hrel
      obtain rfl := hw
      by_cases hlt : k < n1
      · have hk1 : k < l1.length := by omega
        have hk2 : k < l2.length := by omega
        obtain ⟨b1, o1, rfl, _, hc1⟩ := h1.at_ hk1
        obtain ⟨b2, o2, rfl, _, hc2⟩ := h2.at_ hk2
        go_wp2
        go_quiet (fail)
        go_wp2
        · go_ret
          rename_i hne
          refine ⟨ret_bool ?_, n + nq, by rw [World.drewN_drewN]⟩
          symm; rw [beq_eq_false_iff_ne]; intro h
          exact u8_ne _ _ hne (by simp only [h])
        · go_roundw
          case rel =>
            have hh : l1[k] = l2[k] := u8_eq _ _ (by assumption)
            exact ⟨k + 1, by omega, by go_num, take_next hk1 hk2 he.out hh, _, rfl⟩
          case measure => simp [intOf]; omega
      · go_wp2
        go_ret
        refine ⟨ret_bool ?_, _, rfl⟩
        have := he.out
        rw [List.take_of_length_le (by omega), List.take_of_length_le (by have := E2.out; omega)] at this
        rw [this]; simp
  · have hne : (((n1 : Int) != (n2 : Int))) = true := by simp; omega
    go_enter Try.func23, Try.ntmps23
    go_wp2
    go_ret
    exact ⟨ret_bool (by symm; rw [beq_eq_false_iff_ne]; intro h; exact hlen (by rw [← e1, ← e2, h])), 0, rfl⟩

theorem Try.infoU8 : (Try.prog.info? 5).map (fun i => (i.zero, i.size, i.bytes)) = some (some (.int .u8 0), 1, 1) := by kernel_rfl
theorem Try.sizeU8 : (Try.prog.info? 5).map (·.size) = some 1 := by kernel_rfl
/-- the value is a slice of its own that reads as l, in new memory -/
def NewBytes (w w' : World) (l : List UInt8) (v : Value) : Prop :=
  w'.ownsRow w.heap.size 5 1 v l.length (bv l) ∧ Below w.heap.size w w'
theorem NewBytes.bytes {w w' : World} {l : List UInt8} {A : Option Addr} {n c : Nat} (h : NewBytes w w' l (.slice A n c)) : l.length = n ∧ ByteS w' w'.heap.size A n l := by
  obtain ⟨A', c', e, hr⟩ := own_slice h.1
  injection e with e1 e2 e3
  subst e1; subst e2
  exact ⟨rfl, hr⟩
theorem NewBytes.slice {w w' : World} {l : List UInt8} {v : Value} (h : NewBytes w w' l v) : ∃ A c, v = .slice A l.length c ∧ ByteS w' w'.heap.size A l.length l := by
  obtain ⟨A, c, e, hr⟩ := own_slice h.1
  exact ⟨A, c, e, hr⟩
set_option maxHeartbeats 400000 in
theorem twin_any (A : Option Addr) (n c : Nat) (l : List UInt8) (w : World) (B : Nat) (h : ByteS w B A n l) (hl : n < 140737488355328) :
    Calls Try.prog 10 #[.slice A n c] w fun e w' => ∃ v, e = .returned v ∧ NewBytes w w' l v := by
  have hln := h.len
  obtain ⟨i0, hi0, hz0, hz1, hz2⟩ := info_parts Try.infoU8
  subst hln
  go_enter Try.func10, Try.ntmps10
  go_wp2_with (at_builtin; refine wpList_append_any _ rfl (.tmp 4) (.tmp 5) _ rfl w.heap.size 5 i0 _ 1 1 Try.underlying22 hi0 hz0 hz1 hz2 rfl (by omega) (.slice none 0 0) 0 [] rfl ⟨by simp, .inl ⟨rfl, rfl⟩⟩ B A l.length c (bv l) rfl h (bv_one l) (by simp only [maxLen]; omega) (by omega) (Nat.le_refl _) ?_; intro v1 w1 hown1 hg1 hat1)
  go_ret
  exact ⟨v1, rfl, by simpa using hown1, (Below.refl _ _).grown hg1 (Nat.le_refl _) (by simp [Value.ownBlock])⟩
end Go.Proofs.Ytiopoaenpajlmaa
