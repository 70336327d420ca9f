import Derived.Test.YtadkeipbkbkneaaDoorDigY
namespace Go.Abs.Sh
set_option linter.unusedVariables false
set_option maxRecDepth 100000

theorem wrap32 (n : Int) : IntKind.u32.wrap n = n % 4294967296 := by
  simp only [IntKind.wrap, IntKind.bits, IntKind.signed]
  have e : (2 : Int) ^ 32 = 4294967296 := by decide
  simp only [e, Bool.false_and, Bool.false_eq_true, if_false]
theorem wrap_bv (x : BitVec 32) : IntKind.u32.wrap (x.toNat : Int) = (x.toNat : Int) := by
  rw [wrap32]; have := x.isLt; omega
theorem ofInt_bv (x : BitVec 32) : BitVec.ofInt 32 (x.toNat : Int) = x := by
  rw [BitVec.ofInt_natCast, BitVec.ofNat_toNat, BitVec.setWidth_eq]
theorem or0 (y : Int) : bits .or .u32 0 (IntKind.u32.wrap y) = IntKind.u32.wrap y := by
  show IntKind.u32.wrap ((BitVec.ofInt 32 0 ||| BitVec.ofInt 32 (IntKind.u32.wrap y)).toNat : Int) = _
  have h0 : BitVec.ofInt 32 0 = 0#32 := by decide
  rw [h0, BitVec.zero_or, wrap_bv, wrap32]
  obtain ⟨m, hm⟩ : ∃ m : Nat, y % 4294967296 = (m : Int) := ⟨(y % 4294967296).toNat, by omega⟩
  rw [hm, BitVec.ofInt_natCast, BitVec.toNat_ofNat]
  omega
theorem andnot (r t : Int) : bits .andNot .u32 r t = bits .and .u32 (bits .xor .u32 4294967295 t) r := by
  show IntKind.u32.wrap ((BitVec.ofInt 32 r &&& ~~~ BitVec.ofInt 32 t).toNat : Int) = IntKind.u32.wrap ((BitVec.ofInt 32 (IntKind.u32.wrap ((BitVec.ofInt 32 4294967295 ^^^ BitVec.ofInt 32 t).toNat : Int)) &&& BitVec.ofInt 32 r).toNat : Int)
  rw [wrap_bv (BitVec.ofInt 32 4294967295 ^^^ BitVec.ofInt 32 t), ofInt_bv]
  generalize BitVec.ofInt 32 r = x
  generalize BitVec.ofInt 32 t = y
  congr 2
  have h1 : BitVec.ofInt 32 4294967295 = BitVec.allOnes 32 := by decide
  rw [h1]
  congr 1
  rw [BitVec.allOnes_xor, BitVec.and_comm]

/-! The words. -/
def partW (b : List Int) (g : Nat) : Nat → Int
  | 0 => 0
  | k + 1 => if k < 4 then bits .or .u32 (partW b g k) (IntKind.u32.wrap (IntKind.u32.wrap (b.getD (4 * g + k) 0) * 2 ^ (8 * k))) else partW b g k
theorem words_part (b : List Int) (g : Nat) (hg : g < 16) : ∀ n, n ≤ 64 → (wordsI b n).getD g 0 = partW b g (n - 4 * g)
  | 0, _ => by
    rw [Nat.zero_sub]
    simp only [wordsI, partW, List.getD, List.getElem?_replicate, if_pos hg, Option.getD_some]
  | n + 1, h => by
    have ih := words_part b g hg n (by omega)
    simp only [wordsI]
    have hl := wordsI_len b n
    by_cases e : n / 4 = g
    · have hset : ((wordsI b n).set (n / 4) (bits .or .u32 ((wordsI b n).getD (n / 4) 0) (IntKind.u32.wrap (IntKind.u32.wrap (b.getD n 0) * 2 ^ (8 * (n % 4)))))).getD g 0 = bits .or .u32 ((wordsI b n).getD g 0) (IntKind.u32.wrap (IntKind.u32.wrap (b.getD n 0) * 2 ^ (8 * (n % 4)))) := by
        rw [e, List.getD, List.getElem?_set_self (by omega)]; rfl
      rw [hset, ih]
      have h1 : n + 1 - 4 * g = n % 4 + 1 := by omega
      have h2 : n - 4 * g = n % 4 := by omega
      rw [h1, h2]
      simp only [partW]
      rw [if_pos (by omega), show 4 * g + n % 4 = n by omega]
    · have hset : ((wordsI b n).set (n / 4) (bits .or .u32 ((wordsI b n).getD (n / 4) 0) (IntKind.u32.wrap (IntKind.u32.wrap (b.getD n 0) * 2 ^ (8 * (n % 4)))))).getD g 0 = (wordsI b n).getD g 0 := by
        rw [List.getD, List.getElem?_set_ne e]; rfl
      rw [hset, ih]
      by_cases h3 : n < 4 * g
      · rw [show n + 1 - 4 * g = 0 by omega, show n - 4 * g = 0 by omega]
      · obtain ⟨k, hk⟩ : ∃ k, n - 4 * g = k := ⟨_, rfl⟩
        rw [show n + 1 - 4 * g = k + 1 by omega, hk]
        simp only [partW]
        rw [if_neg (by omega)]
theorem getD_chunk (x : List Int) (a i : Nat) (hi : i < 64) : ((x.drop a).take 64).getD i 0 = x.getD (a + i) 0 := by
  simp only [List.getD, List.getElem?_take, List.getElem?_drop, if_pos hi]
theorem word_eq (x : List Int) (a g : Nat) (hg : g < 16) (ha : a + 64 ≤ x.length) (hx : x.length < 1000000000) :
    wherryref08_word x ((a + 4 * g : Nat) : Int) = some ((wordsI ((x.drop a).take 64) 64).getD g 0) := by
  unfold wherryref08_word
  refine bnd (ixO_of (by omega)) (bnd (getD_of 0 (by omega)) (bnd rfl (bnd (some_wrap (by omega) (by omega)) ?_)))
  have e1 : ((a + 4 * g : Nat) : Int) + 1 = ((a + 4 * g + 1 : Nat) : Int) := by omega
  have e2 : ((a + 4 * g : Nat) : Int) + 2 = ((a + 4 * g + 2 : Nat) : Int) := by omega
  have e3 : ((a + 4 * g : Nat) : Int) + 3 = ((a + 4 * g + 3 : Nat) : Int) := by omega
  rw [e1, e2, e3]
  refine bnd (ixO_of (by omega)) (bnd (getD_of 0 (by omega)) (bnd rfl (bnd (shl_of .u32 _ 8 (by decide)) (bnd rfl (bnd (some_wrap (by omega) (by omega)) ?_)))))
  refine bnd (ixO_of (by omega)) (bnd (getD_of 0 (by omega)) (bnd rfl (bnd (shl_of .u32 _ 16 (by decide)) (bnd rfl (bnd (some_wrap (by omega) (by omega)) ?_)))))
  refine bnd (ixO_of (by omega)) (bnd (getD_of 0 (by omega)) (bnd rfl (bnd (shl_of .u32 _ 24 (by decide)) (bnd rfl ?_))))
  rw [words_part _ g hg 64 (Nat.le_refl _)]
  have hp : ∀ b : List Int, ∀ k, partW b g (4 + k) = bits .or .u32 (bits .or .u32 (bits .or .u32 (IntKind.u32.wrap (b.getD (4 * g) 0)) (IntKind.u32.wrap (IntKind.u32.wrap (b.getD (4 * g + 1) 0) * 2 ^ 8))) (IntKind.u32.wrap (IntKind.u32.wrap (b.getD (4 * g + 2) 0) * 2 ^ 16))) (IntKind.u32.wrap (IntKind.u32.wrap (b.getD (4 * g + 3) 0) * 2 ^ 24)) := by
    intro b k
    induction k with
    | zero =>
      simp only [partW, Nat.reduceLT, if_true, Nat.mul_zero, Int.pow_zero, Int.mul_one, Nat.add_zero, Nat.mul_one, Nat.reduceMul]
      rw [or0]
      have : IntKind.u32.wrap (IntKind.u32.wrap (b.getD (4 * g) 0)) = IntKind.u32.wrap (b.getD (4 * g) 0) := by rw [wrap32, wrap32]; omega
      rw [this]
    | succ k ih =>
      rw [show 4 + (k + 1) = (4 + k) + 1 by omega]
      simp only [partW]
      rw [if_neg (by omega), ih]
  rw [show 64 - 4 * g = 4 + (60 - 4 * g) by omega, hp, getD_chunk x a (4 * g) (by omega), getD_chunk x a (4 * g + 1) (by omega), getD_chunk x a (4 * g + 2) (by omega), getD_chunk x a (4 * g + 3) (by omega)]
  rfl
theorem rturn_eq (i : Nat) (hi : i < 64) : wherryref08_turns (i : Int) = some ((turnN i : Nat) : Int) := by
  unfold wherryref08_turns
  refine bnd (quo_c i 16 16 rfl (by decide) (by omega)) (bnd (some_wrap (by omega) (by omega)) (bnd (rem_c i 4 4 rfl (by decide)) (bnd (some_wrap (by omega) (by omega)) ?_)))
  have e : ((i / 16 : Nat) : Int) * 4 + ((i % 4 : Nat) : Int) = ((i / 16 * 4 + i % 4 : Nat) : Int) := by omega
  rw [e]
  refine bnd (ixO_of (by simp only [List.length_cons, List.length_nil]; omega)) (bnd (turn_at _ (by omega)) rfl)

/-! A block of the page. -/
def padX (b : List Int) : List Int := b ++ 128 :: List.replicate (padN (b.length % 64) - b.length % 64 - 9) 0 ++ lenB b.length
theorem padX_len (b : List Int) : (padX b).length = 64 * (b.length / 64 + padN (b.length % 64) / 64) := by
  have hlt : b.length % 64 < 64 := Nat.mod_lt _ (by decide)
  have hdm := Nat.div_add_mod b.length 64
  simp only [padX, lenB, List.length_append, List.length_cons, List.length_replicate, List.length_map, List.length_range]
  unfold padN
  split <;> omega
theorem padX_eq (b : List Int) : padX b = b.take (b.length / 64 * 64) ++ padD (b.drop (b.length / 64 * 64)) b.length := by
  have hrl : (b.drop (b.length / 64 * 64)).length = b.length % 64 := by rw [List.length_drop]; omega
  simp only [padX, padD, hrl]
  rw [← List.append_assoc, ← List.append_assoc, List.take_append_drop]
theorem run_pre (s l1 l2 : List Int) : ∀ k, 64 * k ≤ l1.length → runD s (l1 ++ l2) k = runD s l1 k
  | 0, _ => rfl
  | k + 1, h => by
    simp only [runD]
    rw [run_pre s l1 l2 k (by omega), List.drop_append_of_le_length (by omega), List.take_append_of_le_length (by rw [List.length_drop]; omega)]
theorem run_more (s l1 l2 : List Int) (k : Nat) (h : l1.length = 64 * k) : ∀ j, runD s (l1 ++ l2) (k + j) = runD (runD s (l1 ++ l2) k) l2 j
  | 0 => rfl
  | j + 1 => by
    rw [← Nat.add_assoc]
    simp only [runD]
    rw [run_more s l1 l2 k h j, List.drop_append, List.drop_of_length_le (by omega), List.nil_append, h, show 64 * (k + j) - 64 * k = 64 * j by omega]
theorem sumD_run (b : List Int) : sumD b = outD (runD initD (padX b) (b.length / 64 + padN (b.length % 64) / 64)) := by
  have h1 : (b.take (b.length / 64 * 64)).length = 64 * (b.length / 64) := by rw [List.length_take]; omega
  rw [padX_eq, run_more _ _ _ _ h1, run_pre _ _ _ _ (by omega)]
  unfold sumD
  congr 2
  have := run_pre initD (b.take (b.length / 64 * 64)) (b.drop (b.length / 64 * 64)) (b.length / 64) (by omega)
  rw [List.take_append_drop] at this
  exact this
theorem rsines : wherryref08_sines = some digest_sines := rfl
end Go.Abs.Sh
