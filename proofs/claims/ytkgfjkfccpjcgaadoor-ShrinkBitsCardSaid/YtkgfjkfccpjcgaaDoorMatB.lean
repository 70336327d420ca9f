import Derived.Test.YtkgfjkfccpjcgaaDoorMatA
namespace Go.Abs.Sh
set_option linter.unusedVariables false
set_option linter.unusedSimpArgs false
set_option maxRecDepth 10000
def cmS (x : T_match_index) (p at_ v2 : Int) : ((Int)) → Option ((Int) ⊕ ((Int) ⊕ (Int × T_match_index))) := (fun (s21 : Int) =>
 bindS (S := Bool) (A := ((Int) ⊕ ((Int) ⊕ (Int × T_match_index))))
  (cond ((decide (s21 < v2)))
   ((some (IntKind.i64.wrap (p + s21))).bind fun v3 =>
   (ixO v3 x.b.length).bind fun v4 =>
   (getO x.b v4).bind fun v5 =>
   (some (IntKind.i64.wrap (at_ + s21))).bind fun v6 =>
   (ixO v6 x.b.length).bind fun v7 =>
   (getO x.b v7).bind fun v8 =>
   some (.inl (v5 == v8)))
   (some (.inl false)))
  (fun (s34 : Bool) =>
   cond (s34)
    ((some (IntKind.i64.wrap (s21 + 1))).bind fun v14 =>
    some (.inl v14))
    (some (.inr (.inl s21)))) some)
/-! What is known of the places gone by. -/
def prv (b : List Int) (f : Nat) (k : List Int) : Nat → Nat
 | 0 => 0
 | p + 1 => if f ≤ p ∧ key b p = k then p + 1 else prv b f k p
theorem prv_le (b : List Int) (f : Nat) (k : List Int) : ∀ p,prv b f k p ≤ p
 | 0 => Nat.le_refl _
 | p + 1 => by
  have := prv_le b f k p
  unfold prv
  split <;> omega
theorem prv_is (b : List Int) (f : Nat) (k : List Int) : ∀ p q,prv b f k p = q + 1 → f ≤ q ∧ q < p ∧ key b q = k
 | 0,q,h => by simp [prv] at h
 | p + 1,q,h => by
  unfold prv at h
  split at h
  ·rename_i hc
   obtain rfl : p = q := by omega
   exact ⟨hc.1,by omega,hc.2⟩
  ·obtain ⟨h1,h2,h3⟩ := prv_is b f k p q h
   exact ⟨h1,by omega,h3⟩
theorem prv_no (b : List Int) (f : Nat) (k : List Int) : ∀ p q,prv b f k p ≤ q → q < p → f ≤ q → key b q ≠ k
 | 0,q,_,h,_ => by omega
 | p + 1,q,h1,h2,h3 => by
  unfold prv at h1
  split at h1
  ·omega
  ·rename_i hc
   by_cases e : q = p
   ·subst e
    exact fun hk => hc ⟨h3,hk⟩
   ·exact prv_no b f k p q h1 (by omega) h3
theorem prv_skip {b : List Int} {f p : Nat} {k : List Int} (h : key b p ≠ k) : prv b f k (p + 1) = prv b f k p := by
 conv => lhs; unfold prv
 rw [if_neg fun hc => h hc.2]
theorem prv_hit {b : List Int} {f p : Nat} (h : f ≤ p) : prv b f (key b p) (p + 1) = p + 1 := by
 unfold prv
 rw [if_pos ⟨h,rfl⟩]
structure Ixd (b : List Int) (f cur : Nat) (x : T_match_index) : Prop where
 hb : x.b = b
 hf : x.from_ = (f : Int)
 la : ∀ k : List Int,k.length = 3 → (x.last.lookup k).getD 0 = ((prv b f k cur : Nat) : Int)
 bk : ∀ p,f ≤ p → p < cur → p + 3 ≤ b.length → x.back[p - f]? = some ((prv b f (key b p) p : Nat) : Int)
 bl : x.back.length = min cur (b.length - 2) - f
 ll : x.last.length ≤ cur
theorem ln_of {A : Type} {n : Nat} {l : List A} (h : l.length = n) : lnO n l = some l := by unfold lnO; rw [if_pos h]
theorem prv_f (b : List Int) (f : Nat) (k : List Int) : prv b f k f = 0 := by
 cases h : prv b f k f with
 | zero => rfl
 | succ q => have := prv_is b f k f q h; omega
theorem ix_new (b : List Int) (f : Nat) : Ixd b f f (T_match_index.mk b [] [] (f : Int)) :=
 ⟨rfl,rfl,fun k _ => by rw [prv_f]; rfl,fun p h1 h2 => by omega,by simp; omega,Nat.zero_le _⟩
theorem key_byB {b : List Int} (hb : ∀ n ∈ b,0 ≤ n ∧ n < 256) (p : Nat) : byB (key b p) = true := by
 unfold byB
 rw [List.all_eq_true]
 intro x hx
 have := hb x (List.mem_of_mem_drop (List.mem_of_mem_take hx))
 simpa using this
theorem start_eq {b : List Int} {f cur at_ : Nat} {x : T_match_index} (h : Ixd b f cur x) (hl : b.length ≤ 5000) (ha : at_ ≤ b.length) :
  match_index_startAt x (at_ : Int) = some (if b.length < at_ + 3 then ([0,0,0],false,x) else (key b at_,true,x)) := by
 unfold match_index_startAt
 have hw : IntKind.i64.wrap ((at_ : Int) + 3) = ((at_ + 3 : Nat) : Int) := by rw [wrap_i64 (by omega) (by omega)]; simp
 rw [h.hb]
 refine bnd (congrArg some hw) ?_
 by_cases hc : b.length < at_ + 3
 ·rw [if_pos hc]
  exact cnd_t (decide_eq_true (by omega)) (bnd (ln_of rfl) (bnd (ln_of rfl) (bnd (ln_of rfl) rfl)))
 ·rw [if_neg hc]
  have hk3 : (key b at_).length = 3 := by rw [key_len]; omega
  have hs := sli_nat b (a := at_) (b := at_ + 3) (by omega) (by omega)
  have e : (b.drop at_).take (at_ + 3 - at_) = key b at_ := by unfold key; rw [Nat.add_sub_cancel_left]
  rw [e] at hs
  have har : arrO 3 (key b at_) = some (key b at_) := by
   unfold arrO
   rw [if_pos (by omega),List.take_of_length_le (by omega)]
  exact cnd_f (decide_eq_false (by omega)) (bnd (congrArg some hw) (bnd hs (bnd har (bnd (ln_of rfl) (bnd (ln_of hk3) (bnd (ln_of hk3) rfl))))))
theorem getO_q {A : Type} {l : List A} {i : Nat} (h : i < l.length) : ∃ v,getO l i = some v ∧ l[i]? = some v := ⟨l[i],getO_of h,List.getElem?_eq_getElem h⟩
theorem common_eq {b : List Int} {p at_ : Nat} {x : T_match_index} (hxb : x.b = b) (hl : b.length ≤ 5000) (hp : p < at_) (h3 : at_ + 3 ≤ b.length) (hk : key b p = key b at_) :
  match_index_common x (p : Int) (at_ : Int) = some (((cmL b p at_ : Nat) : Int),x) := by
 have hm := (cm_key (by omega) h3).1 hk
 have hle := cm_le b (p := p) (at_ := at_)
 unfold match_index_common
 rw [hxb]
 have hw : IntKind.i64.wrap ((b.length : Int) - (at_ : Int)) = ((b.length - at_ : Nat) : Int) := by rw [wrap_i64 (by omega) (by omega)]; omega
 have hv2 : (if ((b.length - at_ : Nat) : Int) < 258 then ((b.length - at_ : Nat) : Int) else 258) = ((min 258 (b.length - at_) : Nat) : Int) := by
  by_cases h : b.length - at_ < 258
  ·rw [if_pos (by omega)]; omega
  ·rw [if_neg (by omega)]; omega
 refine bnd (congrArg some hw) (bnd (congrArg some hv2) (bndL (s := ((cmL b p at_ : Nat) : Int)) ?_ rfl))
 have hgo : ∀ i : Nat,i < min 258 (b.length - at_) → ∃ u v : Int,b[p + i]? = some u ∧ b[at_ + i]? = some v ∧ ((cond ((decide ((i : Int) < ((min 258 (b.length - at_) : Nat) : Int))))
     ((some (IntKind.i64.wrap ((p : Int) + (i : Int)))).bind fun v3 =>
     (ixO v3 b.length).bind fun v4 =>
     (getO b v4).bind fun v5 =>
     (some (IntKind.i64.wrap ((at_ : Int) + (i : Int)))).bind fun v6 =>
     (ixO v6 b.length).bind fun v7 =>
     (getO b v7).bind fun v8 =>
     some (.inl (v5 == v8)))
     (some (.inl false)) : Option (Bool ⊕ (Int ⊕ (Int ⊕ (Int × T_match_index))))) = some (.inl (u == v))) := by
  intro i hi
  obtain ⟨u,hu,hu2⟩ := getO_q (l := b) (i := p + i) (by omega)
  obtain ⟨v,hv,hv2⟩ := getO_q (l := b) (i := at_ + i) (by omega)
  refine ⟨u,v,hu2,hv2,cnd_t (decide_eq_true (by omega)) (bnd (x := ((p + i : Nat) : Int)) (by rw [wrap_i64 (by omega) (by omega)]; simp) (bnd (ixO_of (by omega)) (bnd hu (bnd (x := ((at_ + i : Nat) : Int)) (by rw [wrap_i64 (by omega) (by omega)]; simp) (bnd (ixO_of (by omega)) (bnd hv rfl))))))⟩
 rw [show (3 : Int) = ((3 : Nat) : Int) from rfl]
 have hlp := loop_from (f := cmS { x with b := b } (p : Int) (at_ : Int) ((min 258 (b.length - at_) : Nat) : Int)) (s := ((3 : Nat) : Int)) (o := .inl ((cmL b p at_ : Nat) : Int)) (fun i => ((3 + i : Nat) : Int)) (cmL b p at_ - 3) BIG rfl (by simp only [BIG]; omega) (fun i hi => by
   obtain ⟨u,v,hu,hv,he⟩ := hgo (3 + i) (by omega)
   have := cm_get (b := b) (p := p) (at_ := at_) (k := 3 + i) (by omega)
   rw [hu,hv] at this
   obtain rfl := Option.some.inj this
   rw [beq_self_eq_true] at he
   exact bndL he (cnd_t rfl (bnd (congrArg some (wrap_succ (n := 3 + i) (by omega))) rfl)))
  (by
   have e3 : 3 + (cmL b p at_ - 3) = cmL b p at_ := by omega
   rw [e3]
   by_cases hend : cmL b p at_ < min 258 (b.length - at_)
   ·obtain ⟨u,v,hu,hv,he⟩ := hgo (cmL b p at_) hend
    have := cm_stop (b := b) (p := p) (at_ := at_) (by omega) (by omega) (by omega)
    rw [hu,hv] at this
    have hne : (u == v) = false := beq_eq_false_iff_ne.2 fun h => this (by rw [h])
    rw [hne] at he
    exact bndL he (cnd_f rfl rfl)
   ·exact bndL (s := false) (cnd_f (decide_eq_false (by omega)) rfl) (cnd_f rfl rfl))
 exact hlp
theorem add_eq {b : List Int} {f cur : Nat} {x : T_match_index} (h : Ixd b f cur x) (hb : ∀ n ∈ b,0 ≤ n ∧ n < 256) (hl : b.length ≤ 5000) (hc : cur < b.length) (hfc : f ≤ cur) : ∃ y,match_index_add x (cur : Int) = some y ∧ Ixd b f (cur + 1) y := by
 have hs := start_eq h hl (Nat.le_of_lt hc)
 unfold match_index_add
 by_cases h3 : b.length < cur + 3
 ·rw [if_pos h3] at hs
  refine ⟨x,bnd hs (bnd (ln_of rfl) (bnd (ln_of rfl) (cnd_t rfl rfl))),h.hb,h.hf,fun k hk => ?_,fun p h1 h2 h4 => ?_,?_,Nat.le_succ_of_le h.ll⟩
  ·rw [prv_skip (fun e => by have := congrArg List.length e; rw [key_len] at this; omega)]
   exact h.la k hk
  ·exact h.bk p h1 (by omega) h4
  ·rw [h.bl]; omega
 ·rw [if_neg h3] at hs
  have hk3 : (key b cur).length = 3 := by rw [key_len]; omega
  have hla := h.la _ hk3
  have hbl : x.back.length = cur - f := by rw [h.bl]; omega
  have hg : mgetO 3 x.last (key b cur) = some ((prv b f (key b cur) cur : Nat) : Int) := by
   unfold mgetO
   rw [if_pos ⟨hk3,key_byB hb cur⟩,hla]
  have hap : appO 8 x.back [((prv b f (key b cur) cur : Nat) : Int)] = some (x.back ++ [((prv b f (key b cur) cur : Nat) : Int)]) := app_of (by simp only [List.length_cons,List.length_nil]; omega) (by simp only [List.length_cons,List.length_nil]; omega)
  have hll := h.ll
  have hp : mputO 3 x.last (key b cur) ((cur + 1 : Nat) : Int) = some ((key b cur,((cur + 1 : Nat) : Int)) :: x.last) := by
   unfold mputO
   rw [if_pos ⟨⟨hk3,key_byB hb cur⟩,by omega,by omega,by omega⟩]
  refine ⟨T_match_index.mk x.b ((key b cur,((cur + 1 : Nat) : Int)) :: x.last) (x.back ++ [((prv b f (key b cur) cur : Nat) : Int)]) x.from_,bnd hs (bnd (ln_of rfl) (bnd (ln_of hk3) (cnd_f rfl (bnd (ln_of hk3) (bnd hg (bnd hap (bnd (ln_of hk3) (bnd (congrArg some (wrap_succ (n := cur) (by omega))) (bnd hp rfl))))))))),h.hb,h.hf,fun k hk => ?_,fun p h1 h2 h4 => ?_,?_,?_⟩
  ·show (((key b cur,((cur + 1 : Nat) : Int)) :: x.last).lookup k).getD 0 = _
   rw [List.lookup_cons]
   by_cases e : k = key b cur
   ·subst e
    rw [beq_self_eq_true,prv_hit hfc]
    rfl
   ·have : (k == key b cur) = false := beq_eq_false_iff_ne.2 e
    rw [this,prv_skip (fun h => e h.symm)]
    exact h.la k hk
  ·show (x.back ++ [((prv b f (key b cur) cur : Nat) : Int)])[p - f]? = _
   by_cases e : p = cur
   ·subst e
    rw [List.getElem?_append_right (by omega),hbl]
    simp
   ·rw [List.getElem?_append_left (by omega)]
    exact h.bk p h1 (by omega) h4
  ·show (x.back ++ [_]).length = _
   rw [List.length_append,hbl,List.length_cons,List.length_nil]; omega
  ·show x.last.length + 1 ≤ cur + 1
   omega
end Go.Abs.Sh
