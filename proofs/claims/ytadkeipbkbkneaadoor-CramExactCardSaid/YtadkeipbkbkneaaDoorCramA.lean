import Derived.Test.YtadkeipbkbkneaaDoorLoopM
import Derived.Test.YtadkeipbkbkneaaDoorStrM
namespace Go.Abs.Sh
set_option linter.unusedVariables false
set_option linter.unusedSimpArgs false
set_option maxRecDepth 100000

def cI (n : Nat) : Int := (n : Int)
def sgB : ByteArray := ⟨#[65, 66, 67, 68, 69, 70, 71, 72, 73, 74, 75, 76, 77, 78, 79, 80, 81, 82, 83, 84, 85, 86, 87, 88, 89, 90, 97, 98, 99, 100, 101, 102, 103, 104, 105, 106, 107, 108, 109, 110, 111, 112, 113, 114, 115, 116, 117, 118, 119, 120, 121, 122, 48, 49, 50, 51, 52, 53, 54, 55, 56, 57, 43, 47]⟩
def sgL : List Nat := sgB.data.toList.map UInt8.toNat
def sg (v : Nat) : Nat := sgL.getD v 0
theorem sg_lt (v : Nat) (h : v < 64) : sg v < 256 ∧ sg v ≠ 61 := by
  have : ∀ v, v < 64 → sg v < 256 ∧ sg v ≠ 61 := by decide +kernel
  exact this v h
theorem sg_chr (v : Nat) (h : v < 64) : chrO sgB (v : Int) = some (cI (sg v)) := by
  have : ∀ v : Nat, v < 64 → chrO sgB (v : Int) = some (cI (sg v)) := by decide +kernel
  exact this v h
/-- The value of a group. -/
def gv (p : List Nat) : Nat := p.getD 0 0 * 65536 + p.getD 1 0 * 256 + p.getD 2 0
def symL (g : Nat) : List Nat := [sg (g / 262144 % 64), sg (g / 4096 % 64), sg (g / 64 % 64), sg (g % 64)]
/-- A group's characters. -/
def grp (p : List Nat) : List Nat := (symL (gv p)).take (p.length + 1) ++ List.replicate (3 - p.length) 61
def encN : List Nat → List Nat
  | a :: b :: c :: r => grp [a, b, c] ++ encN r
  | [] => []
  | p => grp p
theorem encN_app : ∀ (k : Nat) (p r : List Nat), p.length = 3 * k → encN (p ++ r) = encN p ++ encN r
  | 0, p, r, h => by
    obtain rfl := List.eq_nil_of_length_eq_zero (by omega : p.length = 0)
    rfl
  | k + 1, p, r, h => by
    match p, h with
    | a :: b :: c :: q, h =>
      have := encN_app k q r (by simp only [List.length_cons] at h; omega)
      simp only [List.cons_append, encN, this, List.append_assoc]
theorem encN_one (p : List Nat) (h0 : 0 < p.length) (h : p.length ≤ 3) : encN p = grp p := by
  match p, h0, h with
  | [a], _, _ => rfl
  | [a, b], _, _ => rfl
  | [a, b, c], _, _ => rw [encN]; simp [encN]
theorem grp_len (p : List Nat) (h : p.length ≤ 3) : (grp p).length = 4 := by
  simp only [grp, List.length_append, List.length_take, List.length_replicate, symL, List.length_cons, List.length_nil]; omega
theorem symL_lt (g : Nat) : ∀ x ∈ symL g, x < 256 := by
  intro x hx
  simp only [symL, List.mem_cons, List.not_mem_nil, or_false] at hx
  rcases hx with rfl | rfl | rfl | rfl <;> exact (sg_lt _ (Nat.mod_lt _ (by decide))).1
theorem grp_lt (p : List Nat) : ∀ x ∈ grp p, x < 256 := by
  intro x hx
  rcases List.mem_append.1 hx with h | h
  · exact symL_lt _ x (List.mem_of_mem_take h)
  · rw [(List.mem_replicate.1 h).2]; decide
theorem encN_lt : ∀ (k : Nat) (p : List Nat), p.length ≤ k → ∀ x ∈ encN p, x < 256
  | 0, p, h => by
    obtain rfl := List.eq_nil_of_length_eq_zero (by omega : p.length = 0)
    intro x hx; cases hx
  | k + 1, p, h => by
    match p, h with
    | [], _ => intro x hx; cases hx
    | [a], _ => exact grp_lt [a]
    | [a, b], _ => exact grp_lt [a, b]
    | a :: b :: c :: r, h =>
      intro x hx
      rcases List.mem_append.1 hx with h1 | h1
      · exact grp_lt _ x h1
      · exact encN_lt k r (by simp only [List.length_cons] at h; omega) x h1
theorem encN_len : ∀ (k : Nat) (p : List Nat), p.length ≤ k → (encN p).length = (p.length + 2) / 3 * 4
  | 0, p, h => by
    obtain rfl := List.eq_nil_of_length_eq_zero (by omega : p.length = 0)
    rfl
  | k + 1, p, h => by
    match p, h with
    | [], _ => rfl
    | [a], _ => rw [show encN [a] = grp [a] from rfl, grp_len [a] (by simp)]; simp
    | [a, b], _ => rw [show encN [a, b] = grp [a, b] from rfl, grp_len [a, b] (by simp)]; simp
    | a :: b :: c :: r, h =>
      have := encN_len k r (by simp only [List.length_cons] at h; omega)
      simp only [encN, List.length_append, grp_len [a, b, c] (by simp), this, List.length_cons]
      omega

/-! Bits. -/
theorem wrp32 (n : Int) : IntKind.u32.wrap n = n % 4294967296 := by
  simp only [IntKind.wrap, IntKind.bits, IntKind.signed]
  have e : (2 : Int) ^ 32 = 4294967296 := by decide
  simp only [e, Bool.false_and, Bool.false_eq_true, if_false]
theorem wrap32n (n : Nat) (h : n < 4294967296) : IntKind.u32.wrap (n : Int) = (n : Int) := by rw [wrp32]; omega
theorem ofInt32n (a : Nat) (ha : a < 4294967296) : (BitVec.ofInt 32 (a : Int)).toNat = a := by
  rw [BitVec.ofInt_natCast, BitVec.toNat_ofNat]; omega
theorem or32 (a b : Nat) (ha : a < 4294967296) (hb : b < 4294967296) : bits .or .u32 (a : Int) (b : Int) = ((a ||| b : Nat) : Int) := by
  show IntKind.u32.wrap ((BitVec.ofInt 32 (a : Int) ||| BitVec.ofInt 32 (b : Int)).toNat : Int) = _
  have : a ||| b < 2 ^ 32 := Nat.or_lt_two_pow (by omega) (by omega)
  rw [BitVec.toNat_or, ofInt32n a ha, ofInt32n b hb, wrap32n _ (by omega)]
theorem and63 (a : Nat) (ha : a < 4294967296) : bits .and .u32 (a : Int) 63 = ((a % 64 : Nat) : Int) := by
  show IntKind.u32.wrap ((BitVec.ofInt 32 (a : Int) &&& BitVec.ofInt 32 ((63 : Nat) : Int)).toNat : Int) = _
  rw [BitVec.toNat_and, ofInt32n a ha, ofInt32n 63 (by omega), show (63 : Nat) = 2 ^ 6 - 1 from rfl, Nat.and_two_pow_sub_one_eq_mod, wrap32n _ (by omega)]
theorem shl_u32 (a m : Nat) (hm : m ≤ 32) (h : a * 2 ^ m < 4294967296) : shlO .u32 (a : Int) (m : Int) = some ((a * 2 ^ m : Nat) : Int) := by
  simp only [shlO]
  rw [if_pos (by omega), Int.toNat_natCast, Nat.min_eq_left (by simpa [IntKind.bits] using hm)]
  have e : (a : Int) * 2 ^ m = ((a * 2 ^ m : Nat) : Int) := by simp
  rw [e, wrap32n _ h]
theorem shr_n (k : IntKind) (a m : Nat) (hm : m ≤ k.bits) : shrO k (a : Int) (m : Int) = some ((a / 2 ^ m : Nat) : Int) := by
  simp only [shrO]
  rw [if_pos (by omega), Int.toNat_natCast, Nat.min_eq_left hm]
  have e : (2 : Int) ^ m = ((2 ^ m : Nat) : Int) := by simp
  rw [e, Int.fdiv_eq_ediv_of_nonneg _ (Int.natCast_nonneg _)]
  rfl
theorem or_hi (a b k : Nat) (h : b < 2 ^ k) : 2 ^ k * a ||| b = 2 ^ k * a + b := (Nat.two_pow_add_eq_or_of_lt h a).symm
theorem gv_lt (p : List Nat) (hp : ∀ x ∈ p, x < 256) : gv p < 16777216 := by
  have hd : ∀ i, p.getD i 0 < 256 := by
    intro i
    by_cases h : i < p.length
    · rw [List.getD_eq_getElem?_getD, List.getElem?_eq_getElem h]; exact hp _ (List.getElem_mem h)
    · rw [List.getD_eq_getElem?_getD, List.getElem?_eq_none (by omega)]; decide
  have h0 := hd 0; have h1 := hd 1; have h2 := hd 2
  unfold gv; omega
theorem getD_take {p : List Nat} {i j : Nat} : (p.take i).getD j 0 = if j < i then p.getD j 0 else 0 := by
  simp only [List.getD_eq_getElem?_getD, List.getElem?_take]
  split <;> rfl
/-- One byte more of a group. -/
theorem gv_next (p : List Nat) (hp : ∀ x ∈ p, x < 256) (h3 : p.length ≤ 3) (i : Nat) (hi : i < p.length) : bits .or .u32 (gv (p.take i) : Int) ((p.getD i 0 * 2 ^ (16 - 8 * i) : Nat) : Int) = (gv (p.take (i + 1)) : Int) := by
  have hd : ∀ i, p.getD i 0 < 256 := by
    intro i
    by_cases h : i < p.length
    · rw [List.getD_eq_getElem?_getD, List.getElem?_eq_getElem h]; exact hp _ (List.getElem_mem h)
    · rw [List.getD_eq_getElem?_getD, List.getElem?_eq_none (by omega)]; decide
  have h0 := hd 0; have h1 := hd 1; have h2 := hd 2
  have hi3 : i = 0 ∨ i = 1 ∨ i = 2 := by omega
  simp only [gv, getD_take]
  rcases hi3 with rfl | rfl | rfl
  · simp only [Nat.lt_irrefl, if_false, Nat.not_lt_zero, Nat.zero_mul, Nat.zero_add, Nat.lt_add_one, if_true, Nat.mul_zero, Nat.sub_zero, Nat.add_zero]
    rw [or32 _ _ (by decide) (by omega), Nat.zero_or]
    rw [if_neg (by decide), Nat.add_zero]
  · simp only [Nat.lt_irrefl, if_false, if_true, Nat.zero_mul, Nat.add_zero, Nat.one_lt_two, Nat.zero_lt_one, Nat.reduceAdd, Nat.reduceMul, Nat.reduceSub, Nat.reducePow, Nat.reduceLT]
    rw [or32 _ _ (by omega) (by omega)]
    have := or_hi (p.getD 0 0) (p.getD 1 0 * 256) 16 (by omega)
    have e : p.getD 0 0 * 65536 = 2 ^ 16 * p.getD 0 0 := by omega
    rw [e, this]
  · simp only [Nat.lt_irrefl, if_false, if_true, Nat.add_zero, Nat.reduceAdd, Nat.reduceMul, Nat.reduceSub, Nat.reducePow, Nat.reduceLT]
    rw [or32 _ _ (by omega) (by omega)]
    have := or_hi (p.getD 0 0 * 256 + p.getD 1 0) (p.getD 2 0 * 1) 8 (by omega)
    have e : p.getD 0 0 * 65536 + p.getD 1 0 * 256 = 2 ^ 8 * (p.getD 0 0 * 256 + p.getD 1 0) := by omega
    rw [e, this]; congr 1; omega
end Go.Abs.Sh
