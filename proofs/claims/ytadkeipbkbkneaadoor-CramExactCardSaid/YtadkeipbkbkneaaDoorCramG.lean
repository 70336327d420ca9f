import Derived.Test.YtadkeipbkbkneaaDoorCramP
namespace Go.Abs.Sh
set_option linter.unusedVariables false
set_option linter.unusedSimpArgs false
set_option maxRecDepth 100000

theorem wrap_i (n : Nat) (h : n < 9223372036854775808) : IntKind.i64.wrap (n : Int) = (n : Int) := wrap_nat n h
theorem ofInt64n (a : Nat) (ha : a < 9223372036854775808) : (BitVec.ofInt 64 (a : Int)).toNat = a := by
  rw [BitVec.ofInt_natCast, BitVec.toNat_ofNat]; omega
theorem or64 (a b : Nat) (ha : a < 4294967296) (hb : b < 4294967296) : bits .or .i64 (a : Int) (b : Int) = ((a ||| b : Nat) : Int) := by
  show IntKind.i64.wrap ((BitVec.ofInt 64 (a : Int) ||| BitVec.ofInt 64 (b : Int)).toNat : Int) = _
  have : a ||| b < 2 ^ 32 := Nat.or_lt_two_pow (by omega) (by omega)
  rw [BitVec.toNat_or, ofInt64n a (by omega), ofInt64n b (by omega), wrap_i _ (by omega)]
theorem and64 (a : Nat) (ha : a < 4294967296) : bits .and .i64 (a : Int) 63 = ((a % 64 : Nat) : Int) := by
  show IntKind.i64.wrap ((BitVec.ofInt 64 (a : Int) &&& BitVec.ofInt 64 ((63 : Nat) : Int)).toNat : Int) = _
  rw [BitVec.toNat_and, ofInt64n a (by omega), ofInt64n 63 (by omega), show (63 : Nat) = 2 ^ 6 - 1 from rfl, Nat.and_two_pow_sub_one_eq_mod, wrap_i _ (by omega)]
theorem shl_i64 (a m : Nat) (hm : m ≤ 64) (h : a * 2 ^ m < 9223372036854775808) : shlO .i64 (a : Int) (m : Int) = some ((a * 2 ^ m : Nat) : Int) := by
  simp only [shlO]
  rw [if_pos (by omega), Int.toNat_natCast, Nat.min_eq_left (by simpa [IntKind.bits] using hm)]
  have e : (a : Int) * 2 ^ m = ((a * 2 ^ m : Nat) : Int) := by simp
  rw [e, wrap_i _ h]
theorem sg_sub (v : Nat) (h : v < 64) : subO sgB (v : Int) ((v : Int) + 1) = some (tx [sg v]) := by
  have : ∀ v : Nat, v < 64 → subO sgB (v : Int) ((v : Int) + 1) = some (tx [sg v]) := by decide +kernel
  exact this v h
theorem grp_get (p : List Nat) (h0 : 0 < p.length) (h3 : p.length ≤ 3) (j : Nat) (hj : j < 4) : (grp p)[j]? = some (if j ≤ p.length then (symL (gv p)).getD j 0 else 61) := by
  have hj4 : j = 0 ∨ j = 1 ∨ j = 2 ∨ j = 3 := by omega
  match p, h0, h3 with
  | [a], _, _ => rcases hj4 with rfl | rfl | rfl | rfl <;> rfl
  | [a, b], _, _ => rcases hj4 with rfl | rfl | rfl | rfl <;> rfl
  | [a, b, c], _, _ => rcases hj4 with rfl | rfl | rfl | rfl <;> rfl
/-- A group's value, from the left. -/
def lv (p : List Nat) : Nat → Nat
  | 0 => 0
  | j + 1 => lv p j * 256 + p.getD j 0
theorem lv_lt (p : List Nat) (hp : ∀ x ∈ p, x < 256) : ∀ j, lv p j < 256 ^ j
  | 0 => by simp [lv]
  | j + 1 => by
    have h1 := lv_lt p hp j
    have h2 : p.getD j 0 < 256 := by
      by_cases h : j < p.length
      · rw [List.getD_eq_getElem?_getD, List.getElem?_eq_getElem h]; exact hp _ (List.getElem_mem h)
      · rw [List.getD_eq_getElem?_getD, List.getElem?_eq_none (by omega)]; decide
    simp only [lv, Nat.pow_succ]; omega
theorem lv_gv (p : List Nat) : lv p 3 = gv p := by simp only [lv, gv]; omega
theorem renc_eq (B : List Nat) (hB : ∀ x ∈ B, x < 256) (hl : B.length ≤ 100000) : wherryref08_Encode (B.map cI) = some (tx (encN B)) := by
  have hlen : (B.map cI).length = B.length := List.length_map _
  obtain ⟨m, hm⟩ : ∃ m, (B.length + 2) / 3 = m := ⟨_, rfl⟩
  unfold wherryref08_Encode
  refine bndL (s := tx (encN B)) (loop_from (fun i => (tx (encN (B.take (3 * i))), ((3 * i : Nat) : Int))) m _ rfl (by simp only [BIG]; omega) (fun i hi => ?_) ?_) rfl
  · refine cnd_t (decide_eq_true (by rw [hlen]; omega)) ?_
    have hacc : (encN (B.take (3 * i))).length ≤ 200000 := by
      rw [encN_len _ _ (Nat.le_refl _), List.length_take]; omega
    have haccb : ∀ x ∈ encN (B.take (3 * i)), x < 256 := encN_lt _ _ (Nat.le_refl _)
    obtain ⟨p, hp⟩ : ∃ p, (B.drop (3 * i)).take 3 = p := ⟨_, rfl⟩
    obtain ⟨n, hn⟩ : ∃ n, p.length = n := ⟨_, rfl⟩
    have hn1 : n = min 3 (B.length - 3 * i) := by rw [← hn, ← hp, List.length_take, List.length_drop]
    have hp0 : 0 < n ∧ n ≤ 3 := by omega
    have hpb : ∀ x ∈ p, x < 256 := fun x hx => hB x (by rw [← hp] at hx; exact List.mem_of_mem_drop (List.mem_of_mem_take hx))
    have hpj : ∀ j, p.getD j 0 < 256 := by
      intro j
      by_cases h : j < p.length
      · rw [List.getD_eq_getElem?_getD, List.getElem?_eq_getElem h]; exact hpb _ (List.getElem_mem h)
      · rw [List.getD_eq_getElem?_getD, List.getElem?_eq_none (by omega)]; decide
    have hnext : encN (B.take (3 * (i + 1))) = encN (B.take (3 * i)) ++ grp p := by
      have e : B.take (3 * (i + 1)) = B.take (3 * i) ++ p := by
        rw [← hp, show 3 * (i + 1) = 3 * i + 3 by omega, List.take_add]
      rw [e, encN_app i _ _ (by rw [List.length_take]; omega), encN_one p (by omega) (by omega)]
    refine bnd (some_wrap (by rw [hlen]; omega) (by rw [hlen]; omega)) ?_
    have hv3 : (if ((B.map cI).length : Int) - ((3 * i : Nat) : Int) < 3 then ((B.map cI).length : Int) - ((3 * i : Nat) : Int) else 3) = (n : Int) := by
      rw [hlen]; split <;> omega
    rw [hv3]
    refine bnd rfl ?_
    refine bndL (s := ((gv p : Nat) : Int)) (loop_from (fun j => ((lv p j : Int), (j : Int))) 3 _ rfl (by decide) (fun j hj => ?_) ?_) ?_
    · have hlv := lv_lt p hpb j
      have hlv2 : lv p j < 65536 := Nat.lt_of_lt_of_le hlv (by calc 256 ^ j ≤ 256 ^ 2 := Nat.pow_le_pow_right (by decide) (by omega)
                                                                 _ ≤ 65536 := by decide)
      have hpj' := hpj j
      refine cnd_t (decide_eq_true (by omega)) ?_
      refine bndL (s := ((lv p (j + 1) : Nat) : Int)) ?_ (bnd (some_wrap (by omega) (by omega)) rfl)
      refine bnd (shl_i64 _ 8 (by decide) (by omega)) ?_
      by_cases h : j < n
      · refine cnd_t (decide_eq_true (by omega)) ?_
        have e1 : ((3 * i : Nat) : Int) + (j : Int) = ((3 * i + j : Nat) : Int) := by omega
        refine bnd (some_wrap (by omega) (by omega)) ?_
        rw [e1]
        have hbj : B.getD (3 * i + j) 0 = p.getD j 0 := by
          rw [← hp]
          simp only [List.getD_eq_getElem?_getD, List.getElem?_take, List.getElem?_drop]
          rw [if_pos (by omega)]
        refine bnd (ixO_of (by rw [hlen]; omega)) (bnd (getB B (by omega)) ?_)
        rw [hbj]
        refine bnd (some_wrap (by simp only [cI]; omega) (by simp only [cI]; omega)) (bnd rfl ?_)
        rw [show cI (p.getD j 0) = ((p.getD j 0 : Nat) : Int) from rfl, or64 _ _ (by omega) (by omega)]
        have := or_hi (lv p j) (p.getD j 0) 8 (by omega)
        rw [show lv p j * 2 ^ 8 = 2 ^ 8 * lv p j by omega, this]
        simp only [lv]
        congr 3
        try omega
      · refine cnd_f (decide_eq_false (by omega)) ?_
        have : p.getD j 0 = 0 := by rw [List.getD_eq_getElem?_getD, List.getElem?_eq_none (by omega)]; rfl
        simp only [lv, this, Nat.add_zero]
    · refine cnd_f (by decide) ?_
      rw [lv_gv]
    have hg := gv_lt p hpb
    rw [hnext]
    refine bndL (s := tx (encN (B.take (3 * i)) ++ grp p)) (loop_from (fun j => (tx (encN (B.take (3 * i)) ++ (grp p).take j), (j : Int))) 4 _ (by simp) (by decide) (fun j hj => ?_) ?_) ?_
    · have hgl := grp_len p (by omega)
      have hgb := grp_lt p
      have hab : ∀ x ∈ encN (B.take (3 * i)) ++ (grp p).take j, x < 256 := by
        intro x hx
        rcases List.mem_append.1 hx with h | h
        · exact haccb x h
        · exact hgb x (List.mem_of_mem_take h)
      have hget := grp_get p (by omega) (by omega) j hj
      have hcat : ∀ c : Nat, c < 256 → (grp p)[j]? = some c → catO (tx (encN (B.take (3 * i)) ++ (grp p).take j)) (tx [c]) = some (tx (encN (B.take (3 * i)) ++ (grp p).take (j + 1))) := by
        intro c hc hcg
        rw [cat_tx hab (by intro x hx; simp only [List.mem_cons, List.not_mem_nil, or_false] at hx; omega) (by simp only [List.length_append, List.length_take, List.length_cons, List.length_nil]; omega), List.take_add_one, hcg, List.append_assoc]
        rfl
      refine cnd_t (decide_eq_true (by omega)) ?_
      refine bndL (s := tx (encN (B.take (3 * i)) ++ (grp p).take (j + 1))) ?_ (bnd (some_wrap (by omega) (by omega)) rfl)
      by_cases h : j ≤ n
      · refine cnd_t (decide_eq_true (by omega)) ?_
        refine bnd (some_wrap (by omega) (by omega)) (bnd (some_wrap (by omega) (by omega)) ?_)
        have e5 : (18 : Int) - 6 * (j : Int) = ((18 - 6 * j : Nat) : Int) := by omega
        rw [e5, u64_nat _ (by omega)]
        have hq : gv p / 2 ^ (18 - 6 * j) < 4294967296 := Nat.lt_of_le_of_lt (Nat.div_le_self _ _) (by omega)
        refine bnd rfl (bnd (shr_n .i64 _ _ (by simp only [IntKind.bits]; omega)) (bnd rfl ?_))
        rw [and64 _ hq]
        have hlt : gv p / 2 ^ (18 - 6 * j) % 64 < 64 := Nat.mod_lt _ (by decide)
        refine bnd (show wherryref08_signs = some sgB from rfl) (bnd (some_wrap (by omega) (by omega)) (bnd (sg_sub _ hlt) ?_))
        refine bnd (hcat _ (sg_lt _ hlt).1 ?_) rfl
        rw [hget, hn, if_pos h, sym_at _ j hj hg]
      · refine cnd_f (decide_eq_false (by omega)) ?_
        refine bnd (hcat 61 (by decide) ?_) rfl
        rw [hget, hn, if_neg h]
    · refine cnd_f (by decide) ?_
      rw [show (grp p).take 4 = grp p from List.take_of_length_le (by rw [grp_len p (by omega)]; decide)]
    · refine bnd (some_wrap (by omega) (by omega)) ?_
      congr 4
  · refine cnd_f (decide_eq_false (by rw [hlen]; omega)) ?_
    rw [List.take_of_length_le (by omega)]
end Go.Abs.Sh
