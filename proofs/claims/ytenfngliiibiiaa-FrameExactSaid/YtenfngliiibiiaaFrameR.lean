import Derived.Test.YtenfngliiibiiaaFrameB
namespace Go.Abs.Sh
set_option linter.unusedVariables false
set_option linter.unusedSimpArgs false

theorem i64_ofInt' (a : Nat) (ha : a < 9223372036854775808) : (BitVec.ofInt 64 (a : Int)).toNat = a := by
  rw [BitVec.ofInt_natCast, BitVec.toNat_ofNat]; exact Nat.mod_eq_of_lt (by omega)
theorem or_nat (a b : Nat) (ha : a < 9223372036854775808) (hb : b < 9223372036854775808) : bits .or .i64 (a : Int) (b : Int) = ((a ||| b : Nat) : Int) := by
  have hx : a ||| b < 2 ^ 63 := Nat.or_lt_two_pow (by omega) (by omega)
  show IntKind.i64.wrap ((BitVec.ofInt 64 (a : Int) ||| BitVec.ofInt 64 (b : Int)).toNat : Int) = _
  rw [BitVec.toNat_or, i64_ofInt' a ha, i64_ofInt' b hb, wrap_i64 (by omega) (by omega)]
/-- Two bytes as a number: the high one first. -/
theorem or_hi (x y : Int) (hx : 0 ≤ x ∧ x < 256) (hy : 0 ≤ y ∧ y < 256) : bits .or .i64 (x * 256) y = x * 256 + y := by
  obtain ⟨a, rfl⟩ : ∃ a : Nat, x = (a : Int) := ⟨x.toNat, by omega⟩
  obtain ⟨b, rfl⟩ : ∃ b : Nat, y = (b : Int) := ⟨y.toNat, by omega⟩
  have h : a <<< 8 + b = a <<< 8 ||| b := Nat.shiftLeft_add_eq_or_of_lt (by omega) a
  rw [Nat.shiftLeft_eq] at h
  have e : (a : Int) * 256 = ((a * 2 ^ 8 : Nat) : Int) := by simp
  rw [e, or_nat _ _ (by omega) (by omega), ← h]
  simp
theorem or_lo (x y : Int) (hx : 0 ≤ x ∧ x < 256) (hy : 0 ≤ y ∧ y < 256) : bits .or .i64 y (x * 256) = x * 256 + y := by
  obtain ⟨a, rfl⟩ : ∃ a : Nat, x = (a : Int) := ⟨x.toNat, by omega⟩
  obtain ⟨b, rfl⟩ : ∃ b : Nat, y = (b : Int) := ⟨y.toNat, by omega⟩
  have h : a <<< 8 + b = a <<< 8 ||| b := Nat.shiftLeft_add_eq_or_of_lt (by omega) a
  rw [Nat.shiftLeft_eq] at h
  have e : (a : Int) * 256 = ((a * 2 ^ 8 : Nat) : Int) := by simp
  rw [e, or_nat _ _ (by omega) (by omega), Nat.or_comm, ← h]
  simp
theorem shl8 (n : Int) (h : 0 ≤ n ∧ n < 256) : shlO .i64 n 8 = some (n * 256) := by
  simp only [shlO, IntKind.bits]
  rw [if_pos (by omega)]
  have e : (2 : Int) ^ min (8 : Int).toNat 64 = 256 := by decide
  rw [e, wrap_i64 (by omega) (by omega)]

def zeroF : T_Frame := T_Frame.mk 0 0 0 0 []

/-- What is read of bytes. -/
theorem read_eq (a0 a1 a2 a3 a4 a5 a6 : Int) (d : List Int) (q0 q1 : Int) (hp : isBytes (a0 :: a1 :: a2 :: a3 :: a4 :: a5 :: a6 :: d)) (h0 : 0 ≤ q0 ∧ q0 < 256) (h1 : 0 ≤ q1 ∧ q1 < 256) (hd : d.length ≤ 48) :
    frame_Read ((a0 :: a1 :: a2 :: a3 :: a4 :: a5 :: a6 :: d) ++ [q0, q1]) =
      (if sumOf (a0 :: a1 :: a2 :: a3 :: a4 :: a5 :: a6 :: d) ≠ q1 * 256 + q0 then some (zeroF, 6)
       else if a6 ≠ (d.length : Int) ∨ good (T_Frame.mk a0 (a1 * 256 + a2) (a3 * 256 + a4) a5 d) = false then some (zeroF, 3)
       else some (T_Frame.mk a0 (a1 * 256 + a2) (a3 * 256 + a4) a5 d, 0)) := by
  generalize hpe : (a0 :: a1 :: a2 :: a3 :: a4 :: a5 :: a6 :: d) = p at *
  have hpl : p.length = 7 + d.length := by rw [← hpe]; simp; omega
  have hbl : (p ++ [q0, q1]).length = p.length + 2 := by simp
  unfold frame_Read
  have c1 : decide (((p ++ [q0, q1]).length : Int) < 9) = false := by simp; omega
  have c2 : decide (57 < ((p ++ [q0, q1]).length : Int)) = false := by simp; omega
  rw [c1, c2]
  refine bndL (s := false) rfl ?_
  have w2 : IntKind.i64.wrap (((p ++ [q0, q1]).length : Int) - 2) = (p.length : Int) := by rw [wrap_i64 (by omega) (by omega)]; omega
  have s1 : sliO (p ++ [q0, q1]) 0 (p.length : Int) = some p := by
    simp only [sliO]; rw [if_pos (by omega)]; simp
  have s2 : sliO (p ++ [q0, q1]) (p.length : Int) ((p ++ [q0, q1]).length : Int) = some [q0, q1] := by
    simp only [sliO]; rw [if_pos (by omega)]; simp
    exact List.take_of_length_le (by simp; omega)
  have hb0 : ∀ x ∈ p, 0 ≤ x ∧ x < 256 := hp
  have k0 := hp a0 (by rw [← hpe]; simp)
  have k1 := hp a1 (by rw [← hpe]; simp)
  have k2 := hp a2 (by rw [← hpe]; simp)
  have k3 := hp a3 (by rw [← hpe]; simp)
  have k4 := hp a4 (by rw [← hpe]; simp)
  have k5 := hp a5 (by rw [← hpe]; simp)
  have k6 := hp a6 (by rw [← hpe]; simp)
  have wr : ∀ x : Int, 0 ≤ x ∧ x < 256 → IntKind.i64.wrap x = x := fun x h => wrap_i64 (by omega) (by omega)
  have g : ∀ (i : Nat) (x : Int), (a0 :: a1 :: a2 :: a3 :: a4 :: a5 :: a6 :: d)[i]? = some x → i < 7 → getO p i = some x := by
    intro i x h _; rw [← hpe]; exact h
  have ix : ∀ i : Nat, i < 7 → ixO (i : Int) p.length = some i := fun i hi => ixO_of (by omega)
  simp only [cond_false]
  refine bnd (x := (p.length : Int)) (by rw [w2]) (bnd s1 (bnd (x := (p.length : Int)) (by rw [w2]) (bnd s2 (bnd (x := sumOf p) (short_eq p hb0 (by omega)) ?_))))
  refine bnd (x := 0) rfl (bnd (x := q0) rfl (bnd (x := q0) (by rw [wr _ h0]) (bnd (x := 1) rfl (bnd (x := q1) rfl (bnd (x := q1) (by rw [wr _ h1]) (bnd (shl8 q1 h1) (bnd (x := q1 * 256 + q0) (by rw [or_lo _ _ h1 h0]) ?_)))))))
  by_cases hs : sumOf p = q1 * 256 + q0
  case neg =>
    have e : (sumOf p != q1 * 256 + q0) = true := by simp [hs]
    rw [e, if_pos hs]; rfl
  have e : (sumOf p != q1 * 256 + q0) = false := by simp [hs]
  rw [e, if_neg (by simp [hs])]
  simp only [cond_false]
  refine bnd (x := 0) (ix 0 (by omega)) (bnd (x := a0) (g 0 a0 rfl (by omega)) (bnd (x := a0) (by rw [wr _ k0]) ?_))
  refine bnd (x := 1) (ix 1 (by omega)) (bnd (x := a1) (g 1 a1 rfl (by omega)) (bnd (x := a1) (by rw [wr _ k1]) (bnd (shl8 a1 k1) ?_)))
  refine bnd (x := 2) (ix 2 (by omega)) (bnd (x := a2) (g 2 a2 rfl (by omega)) (bnd (x := a2) (by rw [wr _ k2]) (bnd (x := a1 * 256 + a2) (by rw [or_hi _ _ k1 k2]) ?_)))
  refine bnd (x := 3) (ix 3 (by omega)) (bnd (x := a3) (g 3 a3 rfl (by omega)) (bnd (x := a3) (by rw [wr _ k3]) (bnd (shl8 a3 k3) ?_)))
  refine bnd (x := 4) (ix 4 (by omega)) (bnd (x := a4) (g 4 a4 rfl (by omega)) (bnd (x := a4) (by rw [wr _ k4]) (bnd (x := a3 * 256 + a4) (by rw [or_hi _ _ k3 k4]) ?_)))
  refine bnd (x := 5) (ix 5 (by omega)) (bnd (x := a5) (g 5 a5 rfl (by omega)) (bnd (x := a5) (by rw [wr _ k5]) ?_))
  have s3 : sliO p 7 (p.length : Int) = some d := by
    simp only [sliO]; rw [if_pos (by omega)]
    have : p.drop (7 : Int).toNat = d := by rw [← hpe]; rfl
    rw [this, List.take_of_length_le (by omega)]
  refine bnd s3 (bnd (x := d) (by rw [app_of _ _ (by simp; omega)]; rfl) ?_)
  by_cases h6 : a6 = (d.length : Int)
  · cases hg : good (T_Frame.mk a0 (a1 * 256 + a2) (a3 * 256 + a4) a5 d)
    · rw [if_pos (.inr rfl)]
      refine bndL (s := true) ?_ rfl
      refine bnd (x := 6) (ix 6 (by omega)) (bnd (x := a6) (g 6 a6 rfl (by omega)) (bnd (x := a6) (by rw [wr _ k6]) ?_))
      have e6 : (a6 != (d.length : Int)) = false := by simp [h6]
      rw [e6]
      exact bnd (check_eq _) (by rw [hg]; rfl)
    · rw [if_neg (by simp [h6])]
      refine bndL (s := false) ?_ rfl
      refine bnd (x := 6) (ix 6 (by omega)) (bnd (x := a6) (g 6 a6 rfl (by omega)) (bnd (x := a6) (by rw [wr _ k6]) ?_))
      have e6 : (a6 != (d.length : Int)) = false := by simp [h6]
      rw [e6]
      exact bnd (check_eq _) (by rw [hg]; rfl)
  · rw [if_pos (.inl h6)]
    refine bndL (s := true) ?_ rfl
    refine bnd (x := 6) (ix 6 (by omega)) (bnd (x := a6) (g 6 a6 rfl (by omega)) (bnd (x := a6) (by rw [wr _ k6]) ?_))
    have e6 : (a6 != (d.length : Int)) = true := by simp [h6]
    rw [e6]; rfl
end Go.Abs.Sh
