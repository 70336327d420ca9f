/-
  Contracts of package bits (bytesFor, fits, Check), over rows of bytes as numbers.
-/
import Derived.Test.YtiopoaenpajlmaaMem
import Derived.Test.YtiopoaenpajlmaaBval
namespace Go.Proofs.Ytiopoaenpajlmaa
open Go.RowKit

theorem bytesFor_any (n : Int) (w : World) (h0 : 0 ≤ n) (h1 : n < 4611686018427387904) :
    Calls Try.prog 28 #[.int .i64 n] w fun e w' => e = .returned (.int .i64 ((n + 7) / 8)) ∧ w = w' := by
  go_enter Try.func28, Try.ntmps28
  go_wp2
  go_ret
  exact ⟨rfl, rfl⟩

def fitsB (v n : Int) : Bool := decide (0 ≤ n ∧ n ≤ 24 ∧ 0 ≤ v ∧ v < 2 ^ n.toNat)
theorem wrap64_pow24 (n : Int) (h : n ≤ 24) : wrap64 (2 ^ n.toNat) = 2 ^ n.toNat := by
  have h1 := pow_le24 n.toNat (by omega)
  rw [pow2_cast]
  generalize 2 ^ n.toNat = x at *
  unfold wrap64; omega
set_option maxHeartbeats 400000 in
theorem fits_any (v n : Int) (w : World) :
    Calls Try.prog 27 #[.int .i64 v, .int .i64 n] w fun e w' => e = .returned (.bool (fitsB v n)) ∧ w = w' := by
  by_cases h1 : 0 ≤ n
  · by_cases h2 : n ≤ 24
    · by_cases h3 : 0 ≤ v
      · go_enter Try.func27, Try.ntmps27
        go_wp2
        go_ret
        exact ⟨ret_bool (by rw [wrap64_pow24 n h2]; simp [fitsB, h1, h2, h3]), rfl⟩
      · skip
        go_enter Try.func27, Try.ntmps27
        go_wp2
        go_ret
        exact ⟨ret_bool (Eq.symm (by simp only [fitsB, decide_eq_false_iff_not]; omega)), rfl⟩
    · skip
      go_enter Try.func27, Try.ntmps27
      go_wp2
      go_ret
      exact ⟨ret_bool (Eq.symm (by simp only [fitsB, decide_eq_false_iff_not]; omega)), rfl⟩
  · skip
    go_enter Try.func27, Try.ntmps27
    go_wp2
    go_ret
    exact ⟨ret_bool (Eq.symm (by simp only [fitsB, decide_eq_false_iff_not]; omega)), rfl⟩

/-- is a row of n bits right: just its bytes, no bit behind its end -/
def RightBits (l : List UInt8) (n : Int) : Prop := 0 ≤ n ∧ n ≤ 40000 ∧ (l.length : Int) = (n + 7) / 8 ∧ bval l < 2 ^ n.toNat
instance (l : List UInt8) (n : Int) : Decidable (RightBits l n) := by unfold RightBits; infer_instance
def checkI (l : List UInt8) (n : Int) : Int := if RightBits l n then 0 else 1

theorem last_small (l : List UInt8) (n u k : Nat) (hk : l.length = k + 1) (hn : n = 8 * k + u) (hk' : k < l.length) : bval l < 2 ^ n ↔ l[k].toNat / 2 ^ u = 0 := by
  subst hn
  rw [bval_take_drop l k (by omega), List.drop_eq_getElem_cons hk', List.drop_eq_nil_of_le (by omega)]
  have h1 := bval_lt (l.take k)
  rw [List.length_take, Nat.min_eq_left (by omega), pow256] at h1
  simp only [bval]
  rw [pow256, Nat.pow_add, Nat.div_eq_zero_iff_lt (Nat.pow_pos (by omega))]
  have hp : 0 < 2 ^ (8 * k) := Nat.pow_pos (by omega)
  generalize 2 ^ (8 * k) = p at *
  generalize 2 ^ u = q at *
  generalize bval (l.take k) = t at *
  generalize l[k].toNat = x at *
  constructor
  · intro h
    rcases Nat.lt_or_ge x q with hx | hx
    · exact hx
    · have := Nat.mul_le_mul_left p hx
      simp only [Nat.mul_zero, Nat.add_zero] at h
      omega
  · intro h
    have := Nat.mul_le_mul_left p (show x + 1 ≤ q from h)
    simp only [Nat.mul_zero, Nat.add_zero]
    rw [Nat.mul_add] at this
    omega

theorem checkI_no {l : List UInt8} {n : Int} (h : ¬ RightBits l n) : checkI l n = 1 := if_neg h
theorem checkI_yes {l : List UInt8} {n : Int} (h : RightBits l n) : checkI l n = 0 := if_pos h
set_option maxHeartbeats 1000000 in
theorem check_any (A : Option Addr) (n c : Nat) (l : List UInt8) (N : Int) (w : World) (B : Nat) (h : ByteS w B A n l) (hB : B ≤ w.heap.size) (hl : n < 140737488355328) :
    Calls Try.prog 16 #[.agg #[.slice A n c, .int .i64 N]] w fun e w' => e = .returned (.int .i64 (checkI l N)) ∧ Below w.heap.size w w' := by
  have hln := Lib.hid h.len
  by_cases h1 : N < 0
  · go_enter Try.func16, Try.ntmps16
    go_wp2
    go_quiet ((go_at_call 28; exact q_same (bytesFor_any _ _ (by omega) (by omega))))
    go_wp2
    go_ret
    exact ⟨ret_int (checkI_no (by unfold RightBits; omega)).symm, below_drewN ((Below.refl _ _).alloc (Nat.le_refl _) _) _⟩
  · have h1' : decide (N < 0) = false := by simp; omega
    by_cases h2 : 40000 < N
    · go_enter Try.func16, Try.ntmps16
      go_wp2
      go_quiet ((go_at_call 28; exact q_same (bytesFor_any _ _ (by omega) (by omega))))
      go_wp2
      go_ret
      exact ⟨ret_int (checkI_no (by unfold RightBits; omega)).symm, below_drewN ((Below.refl _ _).alloc (Nat.le_refl _) _) _⟩
    · have h2' : decide (40000 < N) = false := by simp; omega
      by_cases h3 : (n : Int) = (N + 7) / 8
      · have h3' : ((n : Int) != (N + 7) / 8) = false := by simp [h3]
        have H3 := Lib.hid h3
        clear h3
        by_cases h4 : N % 8 = 0
        · have h4' : (N % 8 != 0) = false := by simp [h4]
          have H4 := Lib.hid h4
          clear h4
          go_enter Try.func16, Try.ntmps16
          go_wp2
          go_quiet ((go_at_call 28; exact q_same (bytesFor_any _ _ (by omega) (by omega))))
          go_wp2
          go_ret
          refine ⟨ret_int (checkI_yes ?_).symm, below_drewN ((Below.refl _ _).alloc (Nat.le_refl _) _) _⟩
          have e3 := H3.out; have e4 := H4.out; have e := hln.out
          refine ⟨by omega, by omega, by omega, ?_⟩
          have := bval_lt l
          rw [pow256] at this
          rw [show N.toNat = 8 * l.length from by omega]; exact this
        · have h4' : (N % 8 != 0) = true := by simp [h4]
          obtain ⟨k, rfl⟩ : ∃ k, n = k + 1 := ⟨n - 1, by have := H3.out; omega⟩
          have hkl : k < l.length := by have := hln.out; omega
          obtain ⟨b, o, rfl, _, hc⟩ := h.at_ hkl
          have hc' : (w.alloc (.cells #[.slice (some ⟨b, o, none⟩) (k + 1) c, .int .i64 N] 24)).cell? ⟨b, o + k, none⟩ = some (.int .u8 (l[k].toNat : Int)) := by
            rw [World.cell?_alloc_lt _ _ _ (by simp; omega)]; exact hc
          have hls := last_small l N.toNat (N % 8).toNat k hln.out (by have := H3.out; omega) hkl
          by_cases h5 : l[k].toNat / 2 ^ (N % 8).toNat = 0
          · have h5' : (((l[k].toNat : Nat) : Int) / 2 ^ (N % 8).toNat != 0) = false := by
              rw [pow2_cast, ← Int.natCast_ediv, h5]; rfl
            have hr : Hid (RightBits l N) := ⟨by omega, by omega, by have := hln.out; have := H3.out; omega, hls.2 h5⟩
            clear hls h5
            have HC := Lib.hid hc; clear hc
            go_enter Try.func16, Try.ntmps16
            go_wp2
            go_quiet ((go_at_call 28; exact q_same (bytesFor_any _ _ (by omega) (by omega))))
            go_wp2
            go_ret
            exact ⟨ret_int (checkI_yes hr.out).symm, below_drewN ((Below.refl _ _).alloc (Nat.le_refl _) _) _⟩
          · have h5' : (((l[k].toNat : Nat) : Int) / 2 ^ (N % 8).toNat != 0) = true := by
              rw [pow2_cast, ← Int.natCast_ediv, bne_iff_ne]; omega
            have hr : Hid (¬ RightBits l N) := fun h => h5 (hls.1 h.2.2.2)
            clear hls h5
            have HC := Lib.hid hc; clear hc
            go_enter Try.func16, Try.ntmps16
            go_wp2
            go_quiet ((go_at_call 28; exact q_same (bytesFor_any _ _ (by omega) (by omega))))
            go_wp2
            go_ret
            exact ⟨ret_int (checkI_no hr.out).symm, below_drewN ((Below.refl _ _).alloc (Nat.le_refl _) _) _⟩
      · have h3' : ((n : Int) != (N + 7) / 8) = true := by simp [h3]
        go_enter Try.func16, Try.ntmps16
        go_wp2
        go_quiet ((go_at_call 28; exact q_same (bytesFor_any _ _ (by omega) (by omega))))
        go_wp2
        go_ret
        exact ⟨ret_int (checkI_no (by unfold RightBits; have := hln.out; omega)).symm, below_drewN ((Below.refl _ _).alloc (Nat.le_refl _) _) _⟩

/-! ### Turn -/
def rev (v : Nat) : Nat → Nat
  | 0 => 0
  | j + 1 => 2 * rev v j + v / 2 ^ j % 2
theorem rev_lt (v j : Nat) : rev v j < 2 ^ j := by
  induction j with
  | zero => simp [rev]
  | succ j ih => simp only [rev, Nat.pow_succ]; omega
theorem turn_round (v n j : Nat) (hn : n ≤ 24) (hj : j < n) (hv : v < 2 ^ n) :
    bits .or .u32 ((rev v j : Int) * 2 % 4294967296) (bits .and .u32 ((v : Int) / 2 ^ j) 1) = (rev v (j + 1) : Nat) := by
  have h1 := rev_lt v j
  have h2 : 2 ^ j ≤ 2 ^ n := Nat.pow_le_pow_right (by omega) (by omega)
  have h3 := pow_le24 n hn
  have h4 : v / 2 ^ j ≤ v := Nat.div_le_self _ _
  rw [pow2_cast, ← Int.natCast_ediv, show (1 : Int) = ((1 : Nat) : Int) from rfl, u32_and_nat _ _ (by omega) (by omega), show (rev v j : Int) * 2 % 4294967296 = ((rev v j * 2 : Nat) : Int) by omega,
    u32_or_nat _ _ (by omega) (by have := Nat.and_le_right (n := v / 2 ^ j) (m := 1); omega)]
  rw [Nat.and_one_is_mod, rev]
  have h5 : v / 2 ^ j % 2 < 2 ^ 1 := by omega
  have := or_add (v / 2 ^ j % 2) (rev v j) 1 h5
  rw [Nat.or_comm]
  simp only [Nat.pow_one] at this
  rw [this]; omega

set_option maxHeartbeats 400000 in
theorem turn_yes (v n : Nat) (w : World) (hn : n ≤ 24) (hv : v < 2 ^ n) :
    Calls Try.prog 20 #[.int .i64 v, .int .i64 n] w fun e w' => e = .returned (.tuple #[.int .i64 (rev v n), .int .i64 0]) ∧ w = w' := by
  have hf : Hid (fitsB v n = true) := by
    unfold Hid
    simp only [fitsB, decide_eq_true_eq]; refine ⟨by omega, by omega, by omega, ?_⟩
    rw [Int.toNat_natCast]; exact_mod_cast hv
  have hv2 : v < 16777216 := by
    have := pow_le24 n hn; omega
  go_enter Try.func20, Try.ntmps20
  go_wp2_with (go_at_call 27; refine (fits_any _ _ _).mono ?_; rw [hf.out]; rintro e w' ⟨rfl, rfl⟩)
  go_loop [1, 6, 7] (fun m t r => ∃ j : Nat, j ≤ n ∧ m = .int .i64 ((n - j : Nat) : Int) ∧ t = .int .u32 (rev v j) ∧ r = .int .u32 ((v : Int) / 2 ^ j)) (fun m _ _ => (intOf m).toNat)
  case atStart => exact ⟨0, Nat.zero_le _, rfl, rfl, by simp⟩
  case round =>
    obtain ⟨j, hj, rfl, rfl, rfl⟩ := hrel
    have hr := rev_lt v j
    have h2 : 2 ^ j ≤ 2 ^ n := Nat.pow_le_pow_right (by omega) hj
    by_cases hlt : j < n
    · have ht := Lib.hid (turn_round v n j hn hlt hv)
      go_wp2
      go_round
      case rel => exact ⟨j + 1, by omega, by go_num, by rw [ht.out], by rw [Int.pow_succ, Int.ediv_ediv_of_nonneg (Int.pow_nonneg (by decide))]⟩
      case measure => simp [intOf]; omega
    · obtain rfl : j = n := by omega
      have h3 := pow_le24 j hn
      go_wp2
      go_ret2
      exact ⟨rfl, rfl⟩

set_option maxHeartbeats 400000 in
theorem turn_no (v n : Int) (w : World) (hf : fitsB v n = false) :
    Calls Try.prog 20 #[.int .i64 v, .int .i64 n] w fun e w' => e = .returned (.tuple #[.int .i64 0, .int .i64 1]) ∧ w = w' := by
  have HF := Lib.hid hf
  clear hf
  go_enter Try.func20, Try.ntmps20
  go_wp2_with (go_at_call 27; refine (fits_any _ _ _).mono ?_; rw [HF.out]; rintro e w' ⟨rfl, rfl⟩)
  go_ret2
  exact ⟨rfl, rfl⟩
end Go.Proofs.Ytiopoaenpajlmaa
