import Derived.Test.YthceldoojddpiaaDoorGrqA
namespace Go.Abs.Sh
set_option linter.unusedVariables false
set_option linter.unusedSimpArgs false
set_option maxRecDepth 10000
def bgS (b : List Int) (at_ n v10 : Int) : ((Int × Int)) → Option ((Int × Int) ⊕ ((Int) ⊕ (Int × Int × Int))) := (fun ((s25, s26) : Int × Int) =>
          (some (IntKind.i64.wrap (at_ + n))).bind fun v11 =>
          (bits_bytesFor v11).bind fun v12 =>
          cond ((decide (s26 < v12)))
            ((ixO s26 b.length).bind fun v14 =>
            (getO b v14).bind fun v15 =>
            (some (IntKind.u32.wrap v15)).bind fun v16 =>
            (some (IntKind.i64.wrap (s26 - v10))).bind fun v17 =>
            (some (IntKind.i64.wrap (8 * v17))).bind fun v18 =>
            (shlO .u32 v16 v18).bind fun v19 =>
            (some (bits .or .u32 s25 v19)).bind fun v20 =>
            (some (IntKind.i64.wrap (s26 + 1))).bind fun v21 =>
            some (.inl (v20, v21)))
            (some (.inr (.inl s25))))
theorem or_u32n (a b : Nat) (ha : a < 4294967296) (hb : b < 4294967296) : bits .or .u32 (a : Int) (b : Int) = ((a ||| b : Nat) : Int) := by
  have hx : a ||| b < 2 ^ 32 := Nat.or_lt_two_pow (by omega) (by omega)
  show IntKind.u32.wrap ((BitVec.ofInt 32 (a : Int) ||| BitVec.ofInt 32 (b : Int)).toNat : Int) = _
  rw [BitVec.toNat_or, ofInt32 a ha, ofInt32 b hb, wrap_u32c (by omega) (by omega)]
theorem and_u32n (a b : Nat) (ha : a < 4294967296) (hb : b < 4294967296) : bits .and .u32 (a : Int) (b : Int) = ((a &&& b : Nat) : Int) := by
  have hx : a &&& b < 2 ^ 32 := Nat.and_lt_two_pow a (by omega)
  show IntKind.u32.wrap ((BitVec.ofInt 32 (a : Int) &&& BitVec.ofInt 32 (b : Int)).toNat : Int) = _
  rw [BitVec.toNat_and, ofInt32 a ha, ofInt32 b hb, wrap_u32c (by omega) (by omega)]
theorem shr_u32n (a k : Nat) (hk : k ≤ 32) : shrO .u32 (a : Int) (k : Int) = some ((a / 2 ^ k : Nat) : Int) := shr_nat .u32 a k hk
theorem wrapS {n : Nat} (h : n < 4611686018427387904) : IntKind.i64.wrap ((n : Int) + 1) = ((n + 1 : Nat) : Int) := by rw [wrap_i64 (by omega) (by omega)]; omega
theorem wrapN (n : Nat) (h : n < 4611686018427387904) : IntKind.i64.wrap (n : Int) = (n : Int) := wrap_i64 (by omega) (by omega)
theorem get_eq {b : List Int} (hb : isB b) (hbl : b.length ≤ 1000) (p n : Nat) (hn : n ≤ 24) (hp : p + n ≤ 8 * b.length) :
    ∃ v : Nat, bits_Get b (p : Int) (n : Int) = some ((v : Int), ((p + n : Nat) : Int), 0) ∧ v < 2 ^ n ∧ ∀ i, i < n → v.testBit i = bitC b (p + i) := by
  have w8 : some (IntKind.i64.wrap (8 * (b.length : Int))) = some ((8 * b.length : Nat) : Int) := by rw [wrap_i64 (by omega) (by omega)]; simp
  have wn : some (IntKind.i64.wrap ((p : Int) + (n : Int))) = some ((p + n : Nat) : Int) := by rw [wrap_i64 (by omega) (by omega)]; simp
  have hbf := bytesFor_eq (p + n) (by omega)
  have key : ∀ (k i acc fuel : Nat), i + k = (p + n + 7) / 8 → p / 8 ≤ i → k < fuel → acc < 2 ^ (8 * (i - p / 8)) → (∀ t, t < 8 * (i - p / 8) → acc.testBit t = bitC b (8 * (p / 8) + t)) →
      ∃ r : Nat, loopF (bgS b (p : Int) (n : Int) ((p / 8 : Nat) : Int)) fuel ((acc : Int), (i : Int)) = some (.inl (r : Int)) ∧ r < 4294967296 ∧ ∀ t, t < 8 * ((p + n + 7) / 8 - p / 8) → r.testBit t = bitC b (8 * (p / 8) + t) := by
    intro k
    induction k with
    | zero =>
      intro i acc fuel hi hpi hf ha hbit
      obtain ⟨fu, rfl⟩ : ∃ fu, fuel = fu + 1 := ⟨fuel - 1, by omega⟩
      obtain rfl : i = (p + n + 7) / 8 := by omega
      refine ⟨acc, loop_exit (by unfold bgS; exact bnd wn (bnd hbf (cnd_f (decide_eq_false (by omega)) rfl))), ?_, hbit⟩
      have : 2 ^ (8 * ((p + n + 7) / 8 - p / 8)) ≤ 2 ^ 32 := Nat.pow_le_pow_right (by omega) (by omega)
      omega
    | succ k ih =>
      intro i acc fuel hi hpi hf ha hbit
      obtain ⟨fu, rfl⟩ : ∃ fu, fuel = fu + 1 := ⟨fuel - 1, by omega⟩
      have hib : i < b.length := by omega
      obtain ⟨x, hx, hx2⟩ : ∃ x : Nat, b[i] = (x : Int) ∧ x < 256 := ⟨b[i].toNat, by have := hb _ (List.getElem_mem hib); omega, by have := hb _ (List.getElem_mem hib); omega⟩
      have hg : getO b i = some (x : Int) := by rw [← hx]; simp [getO, hib]
      have w0 : IntKind.u32.wrap (x : Int) = (x : Int) := wrap_u32c (by omega) (by omega)
      have w1 : some (IntKind.i64.wrap ((i : Int) - ((p / 8 : Nat) : Int))) = some ((i - p / 8 : Nat) : Int) := by rw [wrap_i64 (by omega) (by omega)]; congr 1; omega
      have w2 : some (IntKind.i64.wrap (8 * ((i - p / 8 : Nat) : Int))) = some ((8 * (i - p / 8) : Nat) : Int) := by rw [wrap_i64 (by omega) (by omega)]; simp
      have hm : i - p / 8 ≤ 3 := by omega
      have hpw : 2 ^ (8 * (i - p / 8)) ≤ 2 ^ 24 := Nat.pow_le_pow_right (by omega) (by omega)
      have e24 : (2 : Nat) ^ 24 = 16777216 := by decide
      have hxs : x * 2 ^ (8 * (i - p / 8)) < 4294967296 := by
        have := Nat.mul_le_mul_left x hpw
        omega
      have hsh := shl_u32 x (8 * (i - p / 8)) (by omega) hxs
      have hor := or_u32n acc (x * 2 ^ (8 * (i - p / 8))) (by omega) hxs
      have hlt : acc ||| x * 2 ^ (8 * (i - p / 8)) < 2 ^ (8 * (i + 1 - p / 8)) := by
        refine Nat.or_lt_two_pow (Nat.lt_of_lt_of_le ha (Nat.pow_le_pow_right (by omega) (by omega))) ?_
        rw [show 8 * (i + 1 - p / 8) = 8 + 8 * (i - p / 8) by omega, Nat.pow_add]
        exact Nat.mul_lt_mul_of_pos_right (by omega) (Nat.two_pow_pos _)
      obtain ⟨r, r1, r2, r3⟩ := ih (i + 1) (acc ||| x * 2 ^ (8 * (i - p / 8))) fu (by omega) (by omega) (by omega) hlt (fun t ht => by
        rw [Nat.testBit_or, Nat.mul_comm, Nat.testBit_two_pow_mul]
        by_cases h : t < 8 * (i - p / 8)
        · rw [hbit t h, decide_eq_false (by omega)]; simp
        · have h0 : acc.testBit t = false := Nat.testBit_lt_two_pow (Nat.lt_of_lt_of_le ha (Nat.pow_le_pow_right (by omega) (by omega)))
          rw [h0, decide_eq_true (by omega : t ≥ 8 * (i - p / 8))]
          simp only [bitC, Bool.true_and, Bool.false_or]
          have e1 : (8 * (p / 8) + t) / 8 = i := by omega
          have e2 : (8 * (p / 8) + t) % 8 = t - 8 * (i - p / 8) := by omega
          rw [e1, e2, List.getD_eq_getElem?_getD, List.getElem?_eq_getElem hib, Option.getD_some, hx]
          rfl)
      refine ⟨r, (loop_next (by unfold bgS; exact bnd wn (bnd hbf (cnd_t (decide_eq_true (by omega)) (bnd (ixO_of hib) (bnd hg (bnd (congrArg some w0) (bnd w1 (bnd w2 (bnd hsh (bnd (congrArg some hor) (bnd (congrArg some (wrapS (n := i) (by omega))) rfl)))))))))))).trans r1, r2, r3⟩
  obtain ⟨acc, hacc, hac2, hac3⟩ := key ((p + n + 7) / 8 - p / 8) (p / 8) 0 BIG (by omega) (Nat.le_refl _) (by simp only [BIG]; omega) (by simp) (by intro t ht; omega)
  have e1 : shlO .u32 1 (n : Int) = some ((1 * 2 ^ n : Nat) : Int) := shl_u32 1 n (by omega) (by have : 2 ^ n ≤ 2 ^ 24 := Nat.pow_le_pow_right (by omega) hn; omega)
  rw [Nat.one_mul] at e1
  have hpn : 2 ^ n ≤ 2 ^ 24 := Nat.pow_le_pow_right (by omega) hn
  have hp0 := Nat.two_pow_pos n
  have e24 : (2 : Nat) ^ 24 = 16777216 := by decide
  have e2 : IntKind.u32.wrap (((2 ^ n : Nat) : Int) - 1) = ((2 ^ n - 1 : Nat) : Int) := by rw [wrap_u32c (by omega) (by omega)]; omega
  have e3 := shr_u32n acc (p % 8) (by omega)
  have hsm : acc / 2 ^ (p % 8) < 4294967296 := Nat.lt_of_le_of_lt (Nat.div_le_self _ _) hac2
  have e4 := and_u32n (acc / 2 ^ (p % 8)) (2 ^ n - 1) hsm (by omega)
  rw [Nat.and_two_pow_sub_one_eq_mod] at e4
  have hv : acc / 2 ^ (p % 8) % 2 ^ n < 2 ^ n := Nat.mod_lt _ hp0
  refine ⟨acc / 2 ^ (p % 8) % 2 ^ n, ?_, hv, fun i hi => ?_⟩
  · unfold bits_Get
    exact bndL (s := false) (cnd_f (decide_eq_false (by omega)) (cnd_f (decide_eq_false (by omega)) (cnd_f (decide_eq_false (by omega)) (bnd w8 (by rw [decide_eq_false (by omega)]))))) (cnd_f rfl (bnd wn (bnd w8 (cnd_f (decide_eq_false (by omega)) (bnd (quo_nat p 8 (by omega) (by omega)) (bndL hacc (bnd e1 (bnd (congrArg some e2) (bnd (rem_nat p 8 (by omega)) (bnd e3 (bnd (congrArg some e4) (bnd (congrArg some (wrapN _ (by omega))) (bnd wn rfl)))))))))))))
  · rw [Nat.testBit_mod_two_pow, decide_eq_true hi, Bool.true_and, Nat.testBit_div_two_pow, hac3 _ (by omega)]
    congr 1
    omega
end Go.Abs.Sh
