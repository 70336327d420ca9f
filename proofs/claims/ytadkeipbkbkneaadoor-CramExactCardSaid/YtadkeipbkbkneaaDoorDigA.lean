import Derived.Test.YtadkeipbkbkneaaDoorLoopM
namespace Go.Abs.Sh
set_option linter.unusedVariables false
set_option maxRecDepth 100000

/-! One step of a block. -/
def fkD (i : Nat) (q r t : Int) : Int × Nat :=
  if i / 16 = 0 then (bits .or .u32 (bits .and .u32 q r) (bits .and .u32 (bits .xor .u32 4294967295 q) t), i)
  else if i / 16 = 1 then (bits .or .u32 (bits .and .u32 q t) (bits .andNot .u32 r t), (5 * i + 1) % 16)
  else if i / 16 = 2 then (bits .xor .u32 (bits .xor .u32 q r) t, (3 * i + 5) % 16)
  else (bits .xor .u32 r (bits .or .u32 q (bits .xor .u32 4294967295 t)), 7 * i % 16)
theorem fk_lt (i : Nat) (hi : i < 64) (q r t : Int) : (fkD i q r t).2 < 16 := by
  unfold fkD
  split
  · show i < 16; omega
  · split
    · show (5 * i + 1) % 16 < 16; omega
    · split
      · show (3 * i + 5) % 16 < 16; omega
      · show 7 * i % 16 < 16; omega
theorem eq_nat (a b : Nat) : ((a : Int) == (b : Int)) = decide (a = b) := by
  by_cases h : a = b <;> simp [h]; omega
theorem step_eq (i : Nat) (hi : i < 64) (q r t : Int) : digest_step (i : Int) q r t = some ((fkD i q r t).1, ((fkD i q r t).2 : Int)) := by
  unfold digest_step fkD
  refine bnd (quo_nat i 16 (by decide) (by omega)) ?_
  have e0 : (((i / 16 : Nat) : Int) == 0) = decide (i / 16 = 0) := eq_nat _ 0
  have e1 : (((i / 16 : Nat) : Int) == 1) = decide (i / 16 = 1) := eq_nat _ 1
  have e2 : (((i / 16 : Nat) : Int) == 2) = decide (i / 16 = 2) := eq_nat _ 2
  rw [e0, e1, e2]
  by_cases h0 : i / 16 = 0
  · simp only [h0, decide_true, if_true, cond_true, Option.bind_some]
  · simp only [h0, decide_false, if_false, cond_false]
    by_cases h1 : i / 16 = 1
    · simp only [h1, decide_true, if_true, cond_true]
      refine bnd rfl (bnd rfl (bnd rfl (bnd (some_wrap (by omega) (by omega)) (bnd (some_wrap (by omega) (by omega)) ?_))))
      have := rem_nat (5 * i + 1) 16 (by decide)
      refine bnd (by simpa using this) rfl
    · simp only [h1, decide_false, if_false, cond_false]
      by_cases h2 : i / 16 = 2
      · simp only [h2, decide_true, if_true, cond_true]
        refine bnd rfl (bnd rfl (bnd (some_wrap (by omega) (by omega)) (bnd (some_wrap (by omega) (by omega)) ?_)))
        have := rem_nat (3 * i + 5) 16 (by decide)
        refine bnd (by simpa using this) rfl
      · simp only [h2, decide_false, if_false, cond_false]
        refine bnd rfl (bnd rfl (bnd rfl (bnd (some_wrap (by omega) (by omega)) ?_)))
        have := rem_nat (7 * i) 16 (by decide)
        refine bnd (by simpa using this) rfl

/-! The words of a block. -/
def wordsI (b : List Int) : Nat → List Int
  | 0 => List.replicate 16 0
  | i + 1 => (wordsI b i).set (i / 4) (bits .or .u32 ((wordsI b i).getD (i / 4) 0) (IntKind.u32.wrap (IntKind.u32.wrap (b.getD i 0) * 2 ^ (8 * (i % 4)))))
theorem wordsI_len (b : List Int) : ∀ i, (wordsI b i).length = 16
  | 0 => rfl
  | i + 1 => by simp only [wordsI, List.length_set, wordsI_len b i]
theorem getD_of {A : Type} {l : List A} {i : Nat} (d : A) (h : i < l.length) : getO l i = some (l.getD i d) := by
  simp [getO, List.getD, h]
theorem set_of {A : Type} {l : List A} {i : Nat} (x : A) (h : i < l.length) : setO l i x = some (l.set i x) := by simp [setO, h]
theorem shl_of (k : IntKind) (a : Int) (m : Nat) (hm : m ≤ k.bits) : shlO k a (m : Int) = some (k.wrap (a * 2 ^ m)) := by
  simp only [shlO]
  rw [if_pos (by omega)]
  simp only [Int.toNat_natCast, Nat.min_eq_left hm]
theorem shr_of (k : IntKind) (a : Int) (m : Nat) (hm : m ≤ k.bits) : shrO k a (m : Int) = some (a.fdiv (2 ^ m)) := by
  simp only [shrO]
  rw [if_pos (by omega)]
  simp only [Int.toNat_natCast, Nat.min_eq_left hm]
theorem quo_c (a b : Nat) (c : Int) (hc : c = b) (hb : 0 < b) (ha : a < 9223372036854775808) : quoO .i64 (a : Int) c = some ((a / b : Nat) : Int) := by subst hc; exact quo_nat a b hb ha
theorem rem_c (a b : Nat) (c : Int) (hc : c = b) (hb : 0 < b) : remO (a : Int) c = some ((a % b : Nat) : Int) := by subst hc; exact rem_nat a b hb
theorem ln_of {A : Type} {l : List A} {n : Nat} (h : l.length = n) : lnO n l = some l := by simp [lnO, h]

/-! The turns. -/
def turnN (i : Nat) : Nat := [7, 12, 17, 22, 5, 9, 14, 20, 4, 11, 16, 23, 6, 10, 15, 21].getD (i / 16 * 4 + i % 4) 0
theorem turn_at (j : Nat) (hj : j < 16) : getO digest_turns j = some (([7, 12, 17, 22, 5, 9, 14, 20, 4, 11, 16, 23, 6, 10, 15, 21].getD j 0 : Nat) : Int) := by
  revert j; decide
theorem turn_le (i : Nat) (hi : i < 64) : turnN i ≤ 32 := by
  revert i; decide
def stepD (w : List Int) (i : Nat) (x : Int × Int × Int × Int) : Int × Int × Int × Int :=
  let z := IntKind.u32.wrap ((fkD i x.2.1 x.2.2.1 x.2.2.2).1 + IntKind.u32.wrap (IntKind.u32.wrap (x.1 + digest_sines.getD i 0) + w.getD (fkD i x.2.1 x.2.2.1 x.2.2.2).2 0))
  (x.2.2.2, IntKind.u32.wrap (x.2.1 + bits .or .u32 (IntKind.u32.wrap (z * 2 ^ turnN i)) (z.fdiv (2 ^ (32 - turnN i)))), x.2.1, x.2.2.1)
def stepsD (w : List Int) (x : Int × Int × Int × Int) : Nat → Int × Int × Int × Int
  | 0 => x
  | i + 1 => stepD w i (stepsD w x i)
def addD (s : List Int) (x : Int × Int × Int × Int) : List Int :=
  [IntKind.u32.wrap (s.getD 0 0 + x.1), IntKind.u32.wrap (s.getD 1 0 + x.2.1), IntKind.u32.wrap (s.getD 2 0 + x.2.2.1), IntKind.u32.wrap (s.getD 3 0 + x.2.2.2)]
def blockD (s b : List Int) : List Int := addD s (stepsD (wordsI b 64) (s.getD 0 0, s.getD 1 0, s.getD 2 0, s.getD 3 0) 64)
theorem blockD_len (s b : List Int) : (blockD s b).length = 4 := rfl

theorem block_eq (s b : List Int) (hs : s.length = 4) (hb : b.length = 64) : digest_state_block s b = some (blockD s b) := by
  unfold digest_state_block
  refine bndL (s := wordsI b 64) (loop_from (fun i => (wordsI b i, (i : Int))) 64 _ rfl (by decide) (fun i hi => ?_) ?_) ?_
  · refine cnd_t (decide_eq_true (by rw [hb]; omega)) ?_
    refine bnd (ixO_of (by omega)) (bnd (getD_of 0 (by omega)) (bnd (quo_c i 4 4 rfl (by decide) (by omega)) (bnd (ixO_of (by omega)) (bnd (getD_of 0 (by rw [wordsI_len]; omega)) (bnd rfl (bnd (rem_c i 4 4 rfl (by decide)) ?_))))))
    refine bnd (some_wrap (by omega) (by omega)) ?_
    have e : (8 : Int) * ((i % 4 : Nat) : Int) = ((8 * (i % 4) : Nat) : Int) := by omega
    rw [e]
    refine bnd (shl_of .u32 _ _ (by simp only [IntKind.bits]; omega)) (bnd rfl (bnd (ixO_of (by omega)) (bnd (set_of _ (by rw [wordsI_len]; omega)) (bnd (some_wrap (by omega) (by omega)) ?_))))
    simp only [wordsI]
    rfl
  · refine cnd_f (decide_eq_false (by rw [hb]; omega)) rfl
  · refine bnd (ixO_of (i := 0) (by decide)) (bnd (getD_of 0 (by omega)) (bnd (ixO_of (i := 1) (by decide)) (bnd (getD_of 0 (by omega)) (bnd (ixO_of (i := 2) (by decide)) (bnd (getD_of 0 (by omega)) (bnd (ixO_of (i := 3) (by decide)) (bnd (getD_of 0 (by omega)) ?_)))))))
    refine bndL (s := stepsD (wordsI b 64) (s.getD 0 0, s.getD 1 0, s.getD 2 0, s.getD 3 0) 64) (loop_from (fun i => ((stepsD (wordsI b 64) (s.getD 0 0, s.getD 1 0, s.getD 2 0, s.getD 3 0) i).1, (stepsD (wordsI b 64) (s.getD 0 0, s.getD 1 0, s.getD 2 0, s.getD 3 0) i).2.1, (stepsD (wordsI b 64) (s.getD 0 0, s.getD 1 0, s.getD 2 0, s.getD 3 0) i).2.2.1, (stepsD (wordsI b 64) (s.getD 0 0, s.getD 1 0, s.getD 2 0, s.getD 3 0) i).2.2.2, (i : Int))) 64 _ rfl (by decide) (fun i hi => ?_) ?_) ?_
    · generalize hx : stepsD (wordsI b 64) (s.getD 0 0, s.getD 1 0, s.getD 2 0, s.getD 3 0) i = x
      have hx1 : stepsD (wordsI b 64) (s.getD 0 0, s.getD 1 0, s.getD 2 0, s.getD 3 0) (i + 1) = stepD (wordsI b 64) i x := by rw [← hx]; rfl
      rw [hx1]
      obtain ⟨p, q, r, t⟩ := x
      refine cnd_t (decide_eq_true (by omega)) ?_
      refine bnd (ixO_of (by omega)) (bnd (getD_of 0 (show i < 64 from hi)) (bnd (step_eq i hi q r t) (bnd rfl ?_)))
      have hk := fk_lt i hi q r t
      refine bnd (ixO_of hk) (bnd (getD_of 0 (by rw [wordsI_len]; exact hk)) (bnd rfl (bnd rfl (bnd (quo_c i 16 16 rfl (by decide) (by omega)) (bnd (rem_c i 4 4 rfl (by decide)) (bnd (ixO_of (by omega)) (bnd (ixO_of (by omega)) ?_)))))))
      have hj : 0 + i / 16 * 4 + i % 4 * 1 = i / 16 * 4 + i % 4 := by omega
      rw [hj]
      have ht : getO digest_turns (i / 16 * 4 + i % 4) = some ((turnN i : Nat) : Int) := turn_at _ (by omega)
      have hle := turn_le i hi
      refine bnd ht (bnd (shl_of .u32 _ _ (by simpa [IntKind.bits] using hle)) (bnd (some_wrap (by omega) (by omega)) ?_))
      have e : (32 : Int) - ((turnN i : Nat) : Int) = ((32 - turnN i : Nat) : Int) := by omega
      rw [e]
      refine bnd (shr_of .u32 _ _ (by simp only [IntKind.bits]; omega)) (bnd rfl (bnd rfl (bnd (some_wrap (by omega) (by omega)) ?_)))
      rfl
    · exact cnd_f (by decide) rfl
    · refine bnd (ixO_of (i := 0) (by decide)) (bnd (getD_of 0 (by omega)) (bnd rfl (bnd (ixO_of (i := 1) (by decide)) (bnd (getD_of 0 (by omega)) (bnd rfl (bnd (ixO_of (i := 2) (by decide)) (bnd (getD_of 0 (by omega)) (bnd rfl (bnd (ixO_of (i := 3) (by decide)) (bnd (getD_of 0 (by omega)) (bnd rfl ?_)))))))))))
      exact bnd (ln_of rfl) (bnd (ln_of rfl) (bnd (ln_of rfl) rfl))
end Go.Abs.Sh
