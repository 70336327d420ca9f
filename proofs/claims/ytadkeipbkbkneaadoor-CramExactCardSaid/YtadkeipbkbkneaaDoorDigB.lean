import Derived.Test.YtadkeipbkbkneaaDoorDigA
namespace Go.Abs.Sh
set_option linter.unusedVariables false
set_option maxRecDepth 100000

/-! The last blocks. -/
def lenB (n : Nat) : List Int := (List.range 8).map fun i => IntKind.u8.wrap ((IntKind.u64.wrap ((n : Int) * 2 ^ 3)).fdiv (2 ^ (8 * i)))
def padN (m : Nat) : Nat := if 55 < m then 128 else 64
def padD (rest : List Int) (n : Nat) : List Int := rest ++ 128 :: List.replicate (padN rest.length - rest.length - 9) 0 ++ lenB n
theorem padD_len (rest : List Int) (n : Nat) (h : rest.length < 64) : (padD rest n).length = padN rest.length := by
  simp only [padD, padN, lenB, List.length_append, List.length_cons, List.length_replicate, List.length_map, List.length_range]
  split <;> omega
theorem copy_zeros (k : Nat) (l : List Int) (h : l.length ≤ k) : copyL (List.replicate k (0 : Int)) l = l ++ List.replicate (k - l.length) 0 := by
  unfold copyL
  rw [List.length_replicate, Nat.min_eq_left h, List.take_length, List.drop_replicate]
theorem u64_nat (n : Nat) (h : n < 18446744073709551616) : IntKind.u64.wrap (n : Int) = (n : Int) := by
  have e : IntKind.u64.wrap (n : Int) = (n : Int) % 18446744073709551616 := by
    simp only [IntKind.wrap, IntKind.bits, IntKind.signed]
    have e : (2 : Int) ^ 64 = 18446744073709551616 := by decide
    simp only [e, Bool.false_and, Bool.false_eq_true, if_false]
  rw [e]; omega
theorem set_len {A : Type} (a : List A) (x y : A) (r : List A) (i : Nat) (h : i = a.length) : (a ++ x :: r).set i y = a ++ y :: r := by
  subst h; rw [List.set_append_right _ _ (Nat.le_refl _)]; simp
theorem padded_eq (rest : List Int) (n : Nat) (h : rest.length < 64) (hn : n < 1000000000) : digest_padded rest (n : Int) = some (padD rest n) := by
  unfold digest_padded
  refine bndL (s := ((padN rest.length : Nat) : Int)) ?_ ?_
  · refine bnd (some_wrap (by omega) (by omega)) (bnd (some_wrap (by omega) (by omega)) ?_)
    by_cases h1 : 55 < rest.length
    · refine cnd_t (decide_eq_true (by omega)) ?_
      simp only [padN, if_pos h1]; rfl
    · refine cnd_f (decide_eq_false (by omega)) ?_
      simp only [padN, if_neg h1]; rfl
  generalize hm : padN rest.length = m
  have hm1 : rest.length + 9 ≤ m ∧ m ≤ 128 := by rw [← hm]; unfold padN; split <;> omega
  have hmk : mkO 1 (m : Int) (0 : Int) = some (List.replicate m 0) := by
    unfold mkO
    rw [if_pos (by simp only [Int.toNat_natCast]; omega), Int.toNat_natCast]
  refine bnd hmk (bnd rfl ?_)
  rw [copy_zeros m rest (by omega)]
  refine bnd (ixO_of (by simp only [List.length_append, List.length_replicate]; omega)) (bnd rfl (bnd rfl (bnd (shl_of .u64 _ 3 (by decide)) ?_)))
  rw [u64_nat n (by omega)]
  obtain ⟨z, hz⟩ : ∃ z, m - rest.length = z + 9 := ⟨m - rest.length - 9, by omega⟩
  have hset : (rest ++ List.replicate (m - rest.length) (0 : Int)).set rest.length 128 = rest ++ 128 :: List.replicate (z + 8) 0 := by
    rw [hz, List.replicate_succ]
    exact set_len rest 0 128 _ _ rfl
  rw [hset]
  refine bndL (s := padD rest n) (loop_from (fun i => (rest ++ 128 :: List.replicate z 0 ++ ((lenB n).take i ++ List.replicate (8 - i) 0), (i : Int))) 8 _ ?_ (by decide) (fun i hi => ?_) ?_) ?_
  · simp only [List.take_zero, List.nil_append, Nat.sub_zero, List.append_assoc, List.cons_append, List.replicate_append_replicate]
    rfl
  · have hl8 : (lenB n).length = 8 := rfl
    refine cnd_t (decide_eq_true (by omega)) ?_
    refine bnd (some_wrap (by omega) (by omega)) (bnd (some_wrap (by omega) (by omega)) (bnd (some_wrap (by omega) (by omega)) ?_))
    have e : (8 : Int) * (i : Int) = ((8 * i : Nat) : Int) := by omega
    rw [e]
    refine bnd (shr_of .u64 _ _ (by simp only [IntKind.bits]; omega)) (bnd rfl ?_)
    have e2 : (m : Int) - 8 + (i : Int) = ((m - 8 + i : Nat) : Int) := by omega
    rw [e2]
    refine bnd (ixO_of (by simp only [List.length_append, List.length_cons, List.length_replicate, List.length_take, hl8]; omega)) (bnd rfl (bnd (some_wrap (by omega) (by omega)) ?_))
    obtain ⟨q, hq⟩ : ∃ q, 8 - i = q + 1 := ⟨8 - i - 1, by omega⟩
    have hq' : 8 - (i + 1) = q := by omega
    rw [hq, hq', List.replicate_succ]
    have ht : (lenB n).take (i + 1) = (lenB n).take i ++ [IntKind.u8.wrap ((IntKind.u64.wrap ((n : Int) * 2 ^ 3)).fdiv (2 ^ (8 * i)))] := by
      rw [List.take_add_one]
      congr 1
      simp only [lenB, List.getElem?_map, List.getElem?_range hi, Option.map_some, Option.toList_some]
    rw [ht]
    have := set_len (rest ++ 128 :: List.replicate z 0 ++ (lenB n).take i) (0 : Int) (IntKind.u8.wrap ((IntKind.u64.wrap ((n : Int) * 2 ^ 3)).fdiv (2 ^ (8 * i)))) (List.replicate q 0) (m - 8 + i) (by
      simp only [List.length_append, List.length_cons, List.length_replicate, List.length_take, hl8]; omega)
    simp only [List.append_assoc, List.cons_append, List.nil_append] at this ⊢
    rw [this]
    rfl
  · refine cnd_f (by decide) ?_
    have : (lenB n).take 8 = lenB n := rfl
    rw [this]
    simp only [Nat.sub_self, List.replicate_zero, List.append_nil, padD]
    have : padN rest.length - rest.length - 9 = z := by omega
    rw [this]
  · rfl

/-! A row, block by block. -/
def runD (s l : List Int) : Nat → List Int
  | 0 => s
  | i + 1 => blockD (runD s l i) ((l.drop (64 * i)).take 64)
theorem runD_len (s l : List Int) (hs : s.length = 4) : ∀ i, (runD s l i).length = 4
  | 0 => hs
  | i + 1 => rfl
def initD : List Int := [1732584193, 4023233417, 2562383102, 271733878]
def outD (s : List Int) : List Int := (List.range 16).map fun i => IntKind.u8.wrap ((s.getD (i / 4) 0).fdiv (2 ^ (8 * (i % 4))))
theorem outD_len (s : List Int) : (outD s).length = 16 := rfl
def sumD (b : List Int) : List Int :=
  outD (runD (runD initD b (b.length / 64)) (padD (b.drop (b.length / 64 * 64)) b.length) (padN (b.length % 64) / 64))
theorem sumD_len (b : List Int) : (sumD b).length = 16 := rfl
theorem out_loop (s : List Int) (hs : s.length = 4) {A : Type} {f : List Int × Int → Option ((List Int × Int) ⊕ (List Int ⊕ A))}
    (hf : ∀ (l : List Int) (i : Nat), i < 16 → l.length = 16 → f (l, (i : Int)) = some (.inl (l.set i (IntKind.u8.wrap ((s.getD (i / 4) 0).fdiv (2 ^ (8 * (i % 4))))), ((i + 1 : Nat) : Int)))) (he : ∀ l, f (l, 16) = some (.inr (.inl l))) :
    loopF f BIG (List.replicate 16 0, 0) = some (.inl (outD s)) := by
  refine loop_from (fun i => ((outD s).take i ++ List.replicate (16 - i) 0, (i : Int))) 16 _ rfl (by decide) (fun i hi => ?_) ?_
  · have hl : ((outD s).take i).length = i := by rw [List.length_take, outD_len]; omega
    rw [hf _ i hi (by rw [List.length_append, hl, List.length_replicate]; omega)]
    obtain ⟨q, hq⟩ : ∃ q, 16 - i = q + 1 := ⟨16 - i - 1, by omega⟩
    have hq' : 16 - (i + 1) = q := by omega
    rw [hq, hq', List.replicate_succ, set_len _ _ _ _ i hl.symm]
    have ht : (outD s).take (i + 1) = (outD s).take i ++ [IntKind.u8.wrap ((s.getD (i / 4) 0).fdiv (2 ^ (8 * (i % 4))))] := by
      rw [List.take_add_one]
      congr 1
      simp only [outD, List.getElem?_map, List.getElem?_range hi, Option.map_some, Option.toList_some]
    rw [ht, List.append_assoc]
    rfl
  · rw [show ((outD s).take 16 ++ List.replicate (16 - 16) (0 : Int)) = outD s from by rw [List.take_of_length_le (by rw [outD_len]; decide)]; simp]
    exact he _
theorem sum_eq (b : List Int) (hb : b.length < 100000000) : digest_Sum b = some (sumD b) := by
  unfold digest_Sum
  refine bnd (ln_of rfl) (bnd (ln_of rfl) (bnd (quo_c _ 64 64 rfl (by decide) (by omega)) (bnd (some_wrap (by omega) (by omega)) ?_)))
  have e : ((b.length / 64 : Nat) : Int) * 64 = ((b.length / 64 * 64 : Nat) : Int) := by omega
  rw [e]
  have hdm := Nat.div_add_mod b.length 64
  refine bndL (s := runD initD b (b.length / 64)) (loop_from (fun i => (runD initD b i, ((64 * i : Nat) : Int))) (b.length / 64) _ rfl (by simp only [BIG]; omega) (fun i hi => ?_) ?_) ?_
  · refine cnd_t (decide_eq_true (by omega)) ?_
    refine bnd (ln_of (runD_len _ _ rfl i)) (bnd (some_wrap (by omega) (by omega)) ?_)
    have e : ((64 * i : Nat) : Int) + 64 = ((64 * i + 64 : Nat) : Int) := by omega
    rw [e]
    refine bnd (sli_nat b (by omega) (by omega)) ?_
    rw [show 64 * i + 64 - 64 * i = 64 by omega]
    refine bnd (block_eq _ _ (runD_len _ _ rfl i) (by simp only [List.length_take, List.length_drop]; omega)) (bnd (ln_of (runD_len _ _ rfl i)) (bnd (ln_of rfl) (bnd (some_wrap (by omega) (by omega)) ?_)))
    rw [show 64 * (i + 1) = 64 * i + 64 by omega]
    simp only [runD]
  · exact cnd_f (decide_eq_false (by omega)) rfl
  have hsl : sliO b ((b.length / 64 * 64 : Nat) : Int) (b.length : Int) = some (b.drop (b.length / 64 * 64)) := by
    rw [sli_nat b (by omega) (Nat.le_refl _), List.take_of_length_le (by rw [List.length_drop]; omega)]
  refine bnd hsl ?_
  have hrl : (b.drop (b.length / 64 * 64)).length = b.length % 64 := by rw [List.length_drop]; omega
  have hlt : b.length % 64 < 64 := Nat.mod_lt _ (by decide)
  refine bnd (padded_eq _ b.length (by omega) (by omega)) ?_
  generalize hs1 : runD initD b (b.length / 64) = s1
  have hs1l : s1.length = 4 := by rw [← hs1]; exact runD_len _ _ rfl _
  have hpl := padD_len (b.drop (b.length / 64 * 64)) b.length (by omega)
  rw [hrl] at hpl
  have hp2 : padN (b.length % 64) = padN (b.length % 64) / 64 * 64 ∧ padN (b.length % 64) ≤ 128 := by unfold padN; split <;> decide
  refine bndL (s := runD s1 (padD (b.drop (b.length / 64 * 64)) b.length) (padN (b.length % 64) / 64)) (loop_from (fun i => (runD s1 (padD (b.drop (b.length / 64 * 64)) b.length) i, padD (b.drop (b.length / 64 * 64)) b.length, ((64 * i : Nat) : Int))) (padN (b.length % 64) / 64) _ rfl (by simp only [BIG]; omega) (fun i hi => ?_) ?_) ?_
  · refine cnd_t (decide_eq_true (by rw [hpl]; omega)) ?_
    refine bnd (ln_of (runD_len _ _ hs1l i)) (bnd (some_wrap (by omega) (by omega)) ?_)
    have e : ((64 * i : Nat) : Int) + 64 = ((64 * i + 64 : Nat) : Int) := by omega
    rw [e]
    refine bnd (sli_nat _ (by omega) (by omega)) ?_
    rw [show 64 * i + 64 - 64 * i = 64 by omega]
    refine bnd (block_eq _ _ (runD_len _ _ hs1l i) (by simp only [List.length_take, List.length_drop, hpl]; omega)) (bnd (ln_of (runD_len _ _ hs1l i)) (bnd (ln_of rfl) (bnd (some_wrap (by omega) (by omega)) ?_)))
    rw [show 64 * (i + 1) = 64 * i + 64 by omega]
    simp only [runD]
  · exact cnd_f (decide_eq_false (by rw [hpl]; omega)) rfl
  have hs2l := runD_len s1 (padD (b.drop (b.length / 64 * 64)) b.length) hs1l (padN (b.length % 64) / 64)
  unfold sumD
  rw [hs1]
  generalize runD s1 (padD (b.drop (b.length / 64 * 64)) b.length) (padN (b.length % 64) / 64) = s2 at hs2l
  refine bndL (out_loop s2 hs2l (fun l i hi hl => ?_) (fun l => cnd_f (by decide) rfl)) ?_
  · refine cnd_t (decide_eq_true (by omega)) ?_
    refine bnd (quo_c i 4 4 rfl (by decide) (by omega)) (bnd (ixO_of (by omega)) (bnd (getD_of 0 (by omega)) (bnd (rem_c i 4 4 rfl (by decide)) (bnd (some_wrap (by omega) (by omega)) ?_))))
    have e : (8 : Int) * ((i % 4 : Nat) : Int) = ((8 * (i % 4) : Nat) : Int) := by omega
    rw [e]
    refine bnd (shr_of .u32 _ _ (by simp only [IntKind.bits]; omega)) (bnd rfl (bnd (ixO_of hi) (bnd (set_of _ (by omega)) (bnd (some_wrap (by omega) (by omega)) rfl))))
  · exact bnd (ln_of rfl) (bnd (ln_of rfl) (bnd (ln_of rfl) (bnd (ln_of rfl) rfl)))
end Go.Abs.Sh
