import Derived.Test.YtadkeipbkbkneaaDoorCramB
namespace Go.Abs.Sh
set_option linter.unusedVariables false
set_option linter.unusedSimpArgs false
set_option maxRecDepth 100000

/-! What is decoded. -/
def ixv (c : Nat) : Nat := (((strings_IndexByte sgB (c : Int)).map fun v => bits .and .i64 v 63).getD 0).toNat
theorem ix_eq (c : Nat) (h : c < 256) : (strings_IndexByte sgB (c : Int)).map (fun v => bits .and .i64 v 63) = some ((ixv c : Nat) : Int) ∧ ixv c < 64 := by
  have : ∀ c, c < 256 → (strings_IndexByte sgB ((c : Nat) : Int)).map (fun v => bits .and .i64 v 63) = some ((ixv c : Nat) : Int) ∧ ixv c < 64 := by decide +kernel
  exact this c h
theorem ix_sg (v : Nat) (h : v < 64) : ixv (sg v) = v := by
  have : ∀ v, v < 64 → ixv (sg v) = v := by decide +kernel
  exact this v h
def iat (c : List Nat) (i : Nat) : Nat := if i < c.length then ixv (c.getD i 0) else 0
def gd (c : List Nat) : Nat := iat c 0 * 262144 + iat c 1 * 4096 + iat c 2 * 64 + iat c 3
def decG (c : List Nat) : List Nat := [gd c / 65536 % 256, gd c / 256 % 256, gd c % 256].take (c.length - 1)
theorem iat_lt (c : List Nat) (hc : ∀ x ∈ c, x < 256) (i : Nat) : iat c i < 64 := by
  unfold iat
  split
  · next h =>
    rw [List.getD_eq_getElem?_getD, List.getElem?_eq_getElem h]
    exact (ix_eq _ (hc _ (List.getElem_mem h))).2
  · decide
theorem iat_take (c : List Nat) (i j : Nat) (h : i ≤ c.length) : iat (c.take i) j = if j < i then iat c j else 0 := by
  unfold iat
  rw [List.length_take, getD_take]
  by_cases hj : j < i
  · rw [if_pos (show j < min i c.length by omega)]; simp only [hj, if_true]; rw [if_pos (by omega)]
  · rw [if_neg (show ¬ j < min i c.length by omega), if_neg hj]
theorem gd_next (c : List Nat) (hc : ∀ x ∈ c, x < 256) (h4 : c.length ≤ 4) (i : Nat) (hi : i < c.length) : bits .or .u32 (gd (c.take i) : Int) ((iat c i * 2 ^ (18 - 6 * i) : Nat) : Int) = (gd (c.take (i + 1)) : Int) := by
  have h0 := iat_lt c hc 0; have h1 := iat_lt c hc 1; have h2 := iat_lt c hc 2; have h3 := iat_lt c hc 3
  have hi3 : i = 0 ∨ i = 1 ∨ i = 2 ∨ i = 3 := by omega
  simp only [gd, iat_take c i _ (by omega), iat_take c (i + 1) _ (by omega)]
  rcases hi3 with rfl | rfl | rfl | rfl
  · simp only [Nat.not_lt_zero, if_false, Nat.zero_mul, Nat.zero_add, Nat.zero_lt_one, if_true, Nat.mul_zero, Nat.sub_zero, Nat.reduceLT, Nat.add_zero, Nat.reducePow]
    rw [or32 _ _ (by decide) (by omega), Nat.zero_or]
  · simp only [if_false, if_true, Nat.zero_mul, Nat.add_zero, Nat.reduceAdd, Nat.reduceMul, Nat.reduceSub, Nat.reducePow, Nat.reduceLT]
    rw [or32 _ _ (by omega) (by omega)]
    have := or_hi (iat c 0) (iat c 1 * 4096) 18 (by omega)
    have e : iat c 0 * 262144 = 2 ^ 18 * iat c 0 := by omega
    rw [e, this]
  · simp only [if_false, if_true, Nat.zero_mul, Nat.add_zero, Nat.reduceAdd, Nat.reduceMul, Nat.reduceSub, Nat.reducePow, Nat.reduceLT]
    rw [or32 _ _ (by omega) (by omega)]
    have := or_hi (iat c 0 * 64 + iat c 1) (iat c 2 * 64) 12 (by omega)
    have e : iat c 0 * 262144 + iat c 1 * 4096 = 2 ^ 12 * (iat c 0 * 64 + iat c 1) := by omega
    rw [e, this]
  · simp only [if_false, if_true, Nat.add_zero, Nat.reduceAdd, Nat.reduceMul, Nat.reduceSub, Nat.reducePow, Nat.reduceLT]
    rw [or32 _ _ (by omega) (by omega)]
    have := or_hi (iat c 0 * 4096 + iat c 1 * 64 + iat c 2) (iat c 3 * 1) 6 (by omega)
    have e : iat c 0 * 262144 + iat c 1 * 4096 + iat c 2 * 64 = 2 ^ 6 * (iat c 0 * 4096 + iat c 1 * 64 + iat c 2) := by omega
    rw [e, this]; congr 1; omega
theorem gd_lt (c : List Nat) (hc : ∀ x ∈ c, x < 256) : gd c < 16777216 := by
  have h0 := iat_lt c hc 0; have h1 := iat_lt c hc 1; have h2 := iat_lt c hc 2; have h3 := iat_lt c hc 3
  unfold gd; omega
theorem u8_mod (n : Nat) : IntKind.u8.wrap (n : Int) = ((n % 256 : Nat) : Int) := by
  simp only [IntKind.wrap, IntKind.bits, IntKind.signed]
  have e : (2 : Int) ^ 8 = 256 := by decide
  simp only [e, Bool.false_and, Bool.false_eq_true, if_false]
  omega
theorem tx_size (l : List Nat) : (tx l).size = l.length := by rw [tx, bstr_size, List.length_map]
theorem tx_chr {l : List Nat} (h : ∀ x ∈ l, x < 256) {i : Nat} (hi : i < l.length) : chrO (tx l) (i : Int) = some (cI (l.getD i 0)) := by
  have hs : i < (tx l).size := by rw [tx_size]; exact hi
  rw [chr_of hs]
  congr 1
  have : (sbytes (tx l))[i]? = some (cI (l.getD i 0)) := by
    rw [tx_bytes h, List.getElem?_map, List.getElem?_eq_getElem hi, List.getD_eq_getElem?_getD, List.getElem?_eq_getElem hi]; rfl
  rw [List.getElem?_eq_getElem (by rw [sbytes_len]; exact hs)] at this
  exact Option.some.inj this
theorem tx_sub {l : List Nat} (h : ∀ x ∈ l, x < 256) {a b : Nat} (h1 : a ≤ b) (h2 : b ≤ l.length) : subO (tx l) (a : Int) (b : Int) = some (tx ((l.drop a).take (b - a))) := by
  rw [sub_of h1 (by rw [tx_size]; exact h2), tx_bytes h, tx, List.map_take, List.map_drop]
theorem decG_eq (c : List Nat) (hc : ∀ x ∈ c, x < 256) (h4 : c.length ≤ 4) : cram_decodeGroup (tx c) = some ((decG c).map cI) := by
  unfold cram_decodeGroup
  have hg := gd_lt c hc
  refine bndL (s := (gd c : Int)) (loop_from (fun i => ((gd (c.take i) : Int), (i : Int))) c.length _ (by simp [gd, iat]) (by simp only [BIG]; omega) (fun i hi => ?_) ?_) ?_
  · refine cnd_t (decide_eq_true (by rw [tx_size]; omega)) ?_
    have hxb : c.getD i 0 < 256 := by
      rw [List.getD_eq_getElem?_getD, List.getElem?_eq_getElem hi]; exact hc _ (List.getElem_mem _)
    obtain ⟨hx, hx64⟩ := ix_eq _ hxb
    obtain ⟨v, hv, hv2⟩ := Option.map_eq_some_iff.1 hx
    refine bnd (tx_chr hc hi) (bnd (x := v) hv ?_)
    rw [hv2]
    have ei : iat c i = ixv (c.getD i 0) := by unfold iat; rw [if_pos hi]
    refine bnd rfl (bnd rfl (bnd (some_wrap (by omega) (by omega)) (bnd (some_wrap (by omega) (by omega)) ?_)))
    have e2 : (18 : Int) - 6 * (i : Int) = ((18 - 6 * i : Nat) : Int) := by omega
    rw [e2, wrap32n _ (by omega)]
    have h18 : ixv (c.getD i 0) * 2 ^ (18 - 6 * i) < 4294967296 := by
      have : 2 ^ (18 - 6 * i) ≤ 2 ^ 18 := Nat.pow_le_pow_right (by decide) (by omega)
      calc ixv (c.getD i 0) * 2 ^ (18 - 6 * i) ≤ 63 * 2 ^ 18 := Nat.mul_le_mul (by omega) this
        _ < 4294967296 := by decide
    refine bnd (shl_u32 _ _ (by omega) h18) (bnd rfl ?_)
    rw [← ei, gd_next c hc h4 i hi]
    exact bnd (some_wrap (by omega) (by omega)) rfl
  · refine cnd_f (decide_eq_false (by rw [tx_size]; omega)) ?_
    rw [List.take_length]
  refine bnd (some_wrap (by rw [tx_size]; omega) (by rw [tx_size]; omega)) ?_
  obtain ⟨k, hk⟩ : ∃ k, c.length - 1 = k := ⟨_, rfl⟩
  refine bndL (s := (decG c).map cI) (loop_from (fun i => (((decG c).take i).map cI, (i : Int))) k _ rfl (by simp only [BIG]; omega) (fun i hi => ?_) ?_) rfl
  · refine cnd_t (decide_eq_true (by rw [tx_size]; omega)) ?_
    refine bnd (some_wrap (by omega) (by omega)) (bnd (some_wrap (by omega) (by omega)) ?_)
    have e2 : (16 : Int) - 8 * (i : Int) = ((16 - 8 * i : Nat) : Int) := by omega
    rw [e2]
    refine bnd (shr_n .u32 _ _ (by simp only [IntKind.bits]; omega)) (bnd rfl ?_)
    rw [u8_mod]
    have hdl : (decG c).length ≤ 3 := by simp only [decG, List.length_take, List.length_cons, List.length_nil]; omega
    refine bnd (app1 _ _ (by simp only [List.length_map, List.length_take, List.length_cons, List.length_nil]; omega)) (bnd (some_wrap (by omega) (by omega)) ?_)
    have hget : (decG c)[i]? = some (gd c / 2 ^ (16 - 8 * i) % 256) := by
      rw [decG, hk, List.getElem?_take, if_pos hi]
      have h3 : i = 0 ∨ i = 1 ∨ i = 2 := by omega
      rcases h3 with rfl | rfl | rfl <;> simp
    rw [List.take_add_one, hget, List.map_append]
    rfl
  · refine cnd_f (decide_eq_false (by rw [tx_size]; omega)) ?_
    rw [List.take_of_length_le (by simp only [decG, List.length_take, List.length_cons, List.length_nil]; omega)]

/-! What fills is cut off. -/
def trimN (l : List Nat) : List Nat := (l.reverse.dropWhile (fun x => x == 61)).reverse
theorem trim_loop (f : ByteArray → Option (ByteArray ⊕ (ByteArray ⊕ ByteArray)))
    (hf : ∀ (l : List Nat) (x : Nat), (∀ y ∈ l ++ [x], y < 256) → l.length ≤ 10 → f (tx (l ++ [x])) = some (if x = 61 then .inl (tx l) else .inr (.inl (tx (l ++ [x]))))) (h0 : f (tx []) = some (.inr (.inl (tx [])))) :
    ∀ (r : List Nat) (fuel : Nat), (∀ y ∈ r, y < 256) → r.length ≤ 10 → r.length < fuel → loopF f fuel (tx r.reverse) = some (.inl (tx (r.dropWhile (fun x => x == 61)).reverse))
  | [], fuel, _, _, hfu => by
    obtain ⟨k, rfl⟩ : ∃ k, fuel = k + 1 := ⟨fuel - 1, by simp at hfu; omega⟩
    exact loop_exit h0
  | x :: r, fuel, hr, hl, hfu => by
    obtain ⟨k, rfl⟩ : ∃ k, fuel = k + 1 := ⟨fuel - 1, by simp at hfu; omega⟩
    have h1 := hf r.reverse x (fun y hy => hr y (by simp at hy ⊢; exact hy.symm)) (by simp at hl ⊢; omega)
    rw [List.reverse_cons]
    by_cases hx : x = 61
    · rw [if_pos hx] at h1
      rw [loop_next h1, List.dropWhile_cons_of_pos (by simpa using hx)]
      exact trim_loop f hf h0 r k (fun y hy => hr y (by simp [hy])) (by simp at hl; omega) (by simp at hfu; omega)
    · rw [if_neg hx] at h1
      rw [loop_exit h1, List.dropWhile_cons_of_neg (by simpa using hx), List.reverse_cons]
theorem trim_eq (l : List Nat) (hl : ∀ x ∈ l, x < 256) (h : 0 < l.length) (h4 : l.length ≤ 4) : strings_TrimRight (tx l) (⟨#[61]⟩ : ByteArray) = some (tx (trimN l)) := by
  unfold strings_TrimRight
  have hne : ((tx l).toList == (⟨#[]⟩ : ByteArray).toList) = false := by
    rw [toList_beq]
    refine decide_eq_false fun e => ?_
    have := congrArg ByteArray.size e
    rw [tx_size] at this
    have h0 : (⟨#[]⟩ : ByteArray).size = 0 := rfl
    omega
  refine bndL (s := false) (cnd_f hne (by kernel_rfl)) (cnd_f rfl ?_)
  refine bndL (s := true) (by kernel_rfl) (cnd_t rfl ?_)
  refine bnd (x := 61) (by kernel_rfl) ?_
  have key : strings_trimRightByte (tx l) 61 = some (tx (trimN l)) := by
    unfold strings_trimRightByte
    have := trim_loop (fun (s16 : ByteArray) =>
      bindS (S := Bool) (A := ((ByteArray) ⊕ ((ByteArray) ⊕ ByteArray)))
        (cond ((decide (0 < (s16.size : Int))))
          ((some (IntKind.i64.wrap ((s16.size : Int) - 1))).bind fun v1 =>
          (chrO s16 v1).bind fun v2 =>
          some (.inl (v2 == 61)))
          (some (.inl false)))
        (fun (s29 : Bool) =>
          cond (s29)
            ((some (IntKind.i64.wrap ((s16.size : Int) - 1))).bind fun v8 =>
            (subO s16 0 v8).bind fun v9 =>
            some (.inl v9))
            (some (.inr (.inl s16)))) some) (by
        intro l x hb hlen
        have hsz : (tx (l ++ [x])).size = l.length + 1 := by rw [tx_size]; simp
        have e1 : ((tx (l ++ [x])).size : Int) - 1 = ((l.length : Nat) : Int) := by rw [hsz]; omega
        have hw : some (IntKind.i64.wrap (((tx (l ++ [x])).size : Int) - 1)) = some ((l.length : Nat) : Int) := by rw [e1]; exact some_wrap (by omega) (by omega)
        refine bndL (s := (cI x == 61)) (cnd_t (decide_eq_true (by rw [hsz]; omega)) (bnd hw (bnd (tx_chr hb (by simp)) (by simp [List.getD])))) ?_
        by_cases hx : x = 61
        · subst hx
          rw [if_pos rfl]
          refine cnd_t rfl (bnd hw ?_)
          have := tx_sub hb (a := 0) (b := l.length) (by omega) (by simp)
          refine bnd this ?_
          simp
        · rw [if_neg hx]
          refine cnd_f ?_ rfl
          simp only [cI, beq_eq_false_iff_ne, ne_eq]; omega) (by kernel_rfl) l.reverse BIG (fun y hy => hl y (by simpa using hy)) (by simp; omega) (by simp only [BIG, List.length_reverse]; omega)
    rw [List.reverse_reverse] at this
    exact bndL this rfl
  exact bnd key rfl
theorem trimN_mem (l : List Nat) : ∀ x ∈ trimN l, x ∈ l := by
  intro x hx
  have := (List.dropWhile_sublist (fun x => x == 61)).subset (List.mem_reverse.1 hx)
  simpa using this
theorem trimN_len (l : List Nat) : (trimN l).length ≤ l.length := by
  have := (List.dropWhile_sublist (l := l.reverse) (fun x => x == 61)).length_le
  simpa [trimN] using this
end Go.Abs.Sh
