import Derived.Test.YtkgfjkfccpjcgaaDoorMatC
import Derived.KernelRfl
namespace Go.Abs.Sh
set_option linter.unusedVariables false
set_option linter.unusedSimpArgs false
set_option maxRecDepth 10000
def tkS (b : List Int) : (((List T_Tok) × (List Int) × (List ((List Int) × Int)) × (List Int) × Int × Int)) → Option (((List T_Tok) × (List Int) × (List ((List Int) × Int)) × (List Int) × Int × Int) ⊕ (((List T_Tok)) ⊕ ((List T_Tok) × Int))) := (fun ((s88,s89,s90,s91,s92,s93) : (List T_Tok) × (List Int) × (List ((List Int) × Int)) × (List Int) × Int × Int) =>
   cond ((decide (s93 < (b.length : Int))))
    ((match_index_best (T_match_index.mk s89 s90 s91 s92) s93).bind fun v6 =>
    bindS (S := Int × Int) (A := (((List T_Tok) × (List Int) × (List ((List Int) × Int)) × (List Int) × Int × Int) ⊕ (((List T_Tok)) ⊕ ((List T_Tok) × Int))))
     (cond ((v6.1 == 0))
      ((ixO s93 b.length).bind fun v8 =>
      (getO b v8).bind fun v9 =>
      some (.inl (v9,1)))
      (some (.inl (0,v6.1))))
     (fun ((s138,s139) : Int × Int) =>
      (appO 24 s88 [(T_Tok.mk s138 v6.1 v6.2.1)]).bind fun v16 =>
      bindS (S := ((List Int) × (List ((List Int) × Int)) × (List Int) × Int × Int)) (A := (((List T_Tok) × (List Int) × (List ((List Int) × Int)) × (List Int) × Int × Int) ⊕ (((List T_Tok)) ⊕ ((List T_Tok) × Int))))
       (loopF (S := ((List Int) × (List ((List Int) × Int)) × (List Int) × Int × Int × Int)) (O := ((List Int) × (List ((List Int) × Int)) × (List Int) × Int × Int) ⊕ (((List T_Tok) × (List Int) × (List ((List Int) × Int)) × (List Int) × Int × Int) ⊕ (((List T_Tok)) ⊕ ((List T_Tok) × Int)))) (fun ((s152,s153,s154,s155,s156,s157) : (List Int) × (List ((List Int) × Int)) × (List Int) × Int × Int × Int) =>
        cond ((decide (0 < s157)))
         ((match_index_add (T_match_index.mk s152 s153 s154 s155) s156).bind fun v18 =>
         (some (IntKind.i64.wrap (s156 + 1))).bind fun v19 =>
         (some (IntKind.i64.wrap (s157 - 1))).bind fun v20 =>
         some (.inl (v18.b,v18.last,v18.back,v18.from_,v19,v20)))
         (some (.inr (.inl (s152,s153,s154,s155,s156)))))
        BIG (v6.2.2.b,v6.2.2.last,v6.2.2.back,v6.2.2.from_,s93,s139))
       (fun ((s159,s160,s161,s162,s163) : (List Int) × (List ((List Int) × Int)) × (List Int) × Int × Int) =>
        some (.inl (v16,s159,s160,s161,s162,s163))) some) some)
    (some (.inr (.inl s88))))
def taS : (((List Int) × (List ((List Int) × Int)) × (List Int) × Int × Int × Int)) → Option (((List Int) × (List ((List Int) × Int)) × (List Int) × Int × Int × Int) ⊕ (((List Int) × (List ((List Int) × Int)) × (List Int) × Int × Int) ⊕ (((List T_Tok) × (List Int) × (List ((List Int) × Int)) × (List Int) × Int × Int) ⊕ (((List T_Tok)) ⊕ ((List T_Tok) × Int))))) := (fun ((s152,s153,s154,s155,s156,s157) : (List Int) × (List ((List Int) × Int)) × (List Int) × Int × Int × Int) =>
        cond ((decide (0 < s157)))
         ((match_index_add (T_match_index.mk s152 s153 s154 s155) s156).bind fun v18 =>
         (some (IntKind.i64.wrap (s156 + 1))).bind fun v19 =>
         (some (IntKind.i64.wrap (s157 - 1))).bind fun v20 =>
         some (.inl (v18.b,v18.last,v18.back,v18.from_,v19,v20)))
         (some (.inr (.inl (s152,s153,s154,s155,s156)))))
theorem bestS_cases (b : List Int) (at_ : Nat) : bestS b at_ = (0,0) ∨ (3 ≤ (bestS b at_).1 ∧ (bestS b at_).1 ≤ 258 ∧ at_ + (bestS b at_).1 ≤ b.length ∧ 1 ≤ (bestS b at_).2 ∧ (bestS b at_).2 ≤ min at_ 2048 ∧ cmL b (at_ - (bestS b at_).2) at_ = (bestS b at_).1) := by
 have h1 := bestN_le b at_ (min at_ 2048)
 have h2 := bestN_is b at_ (min at_ 2048)
 unfold bestS clp
 by_cases h : (bestN b at_ (min at_ 2048)).1 < 3
 ·rw [if_pos h]; exact .inl rfl
 ·rw [if_neg h]
  rcases h2 with h2 | ⟨h3,h4,h5⟩
  ·rw [h2] at h; exact absurd (by decide) h
  ·exact .inr ⟨by omega,h1.1,by omega,h3,h1.2.2,h4.symm⟩
def toks (b : List Int) : Nat → Nat → List T_Tok
 | 0,_ => []
 | k + 1,at_ => if at_ < b.length then (if (bestS b at_).1 = 0 then ⟨b.getD at_ 0,0,0⟩ :: toks b k (at_ + 1) else ⟨0,((bestS b at_).1 : Int),((bestS b at_).2 : Int)⟩ :: toks b k (at_ + (bestS b at_).1)) else []
def toksS (b : List Int) : List T_Tok := toks b b.length 0
theorem toks_end {b : List Int} {at_ : Nat} (h : b.length ≤ at_) : ∀ k,toks b k at_ = []
 | 0 => rfl
 | k + 1 => by unfold toks; rw [if_neg (by omega)]
theorem toks_len (b : List Int) : ∀ k at_,(toks b k at_).length ≤ b.length - at_
 | 0,_ => Nat.zero_le _
 | k + 1,at_ => by
  unfold toks
  split
  ·split
   ·have := toks_len b k (at_ + 1)
    simp only [List.length_cons]; omega
   ·have := toks_len b k (at_ + (bestS b at_).1)
    simp only [List.length_cons]; omega
  ·simp
theorem ta_loop {b : List Int} (hb : ∀ n ∈ b,0 ≤ n ∧ n < 256) (hl : b.length ≤ 5000) : ∀ (n cur fuel : Nat) (x : T_match_index),Ixd b 0 cur x → cur + n ≤ b.length → n < fuel →
  ∃ y,Ixd b 0 (cur + n) y ∧ loopF taS fuel (x.b,x.last,x.back,x.from_,(cur : Int),(n : Int)) = some (.inl (y.b,y.last,y.back,y.from_,((cur + n : Nat) : Int)))
 | 0,cur,fuel,x,h,hc,hf => by
  obtain ⟨fu,rfl⟩ : ∃ fu,fuel = fu + 1 := ⟨fuel - 1,by omega⟩
  exact ⟨x,h,loop_exit (show taS (x.b,x.last,x.back,x.from_,(cur : Int),((0 : Nat) : Int)) = some (.inr (.inl (x.b,x.last,x.back,x.from_,(cur : Int)))) from rfl)⟩
 | n + 1,cur,fuel,x,h,hc,hf => by
  obtain ⟨fu,rfl⟩ : ∃ fu,fuel = fu + 1 := ⟨fuel - 1,by omega⟩
  obtain ⟨y,hy,hi⟩ := add_eq h hb hl (by omega) (Nat.zero_le _)
  obtain ⟨z,hz,hlp⟩ := ta_loop hb hl n (cur + 1) fu y hi (by omega) (by omega)
  refine ⟨z,by rw [show cur + (n + 1) = cur + 1 + n by omega]; exact hz,?_⟩
  have hw : IntKind.i64.wrap (((n + 1 : Nat) : Int) - 1) = (n : Int) := by rw [wrap_i64 (by omega) (by omega)]; omega
  have hstep : taS (x.b,x.last,x.back,x.from_,(cur : Int),((n + 1 : Nat) : Int)) = some (.inl (y.b,y.last,y.back,y.from_,((cur + 1 : Nat) : Int),(n : Int))) :=
   cnd_t (decide_eq_true (by omega)) (bnd hy (bnd (congrArg some (wrap_succ (n := cur) (by omega))) (bnd (congrArg some hw) rfl)))
  rw [show ((cur + (n + 1) : Nat) : Int) = ((cur + 1 + n : Nat) : Int) by omega]
  exact (loop_next hstep).trans hlp
theorem tk_loop {b : List Int} (hb : ∀ n ∈ b,0 ≤ n ∧ n < 256) (hl : b.length ≤ 5000) : ∀ (k at_ fuel : Nat) (l : List T_Tok) (x : T_match_index),Ixd b 0 at_ x → at_ ≤ b.length → b.length - at_ ≤ k → k < fuel → l.length ≤ at_ →
  loopF (tkS b) fuel (l,x.b,x.last,x.back,x.from_,(at_ : Int)) = some (.inl (l ++ toks b k at_))
 | 0,at_,fuel,l,x,h,ha,hk,hf,hll => by
  obtain ⟨fu,rfl⟩ : ∃ fu,fuel = fu + 1 := ⟨fuel - 1,by omega⟩
  rw [toks,List.append_nil]
  exact loop_exit (cnd_f (decide_eq_false (by omega)) rfl)
 | k + 1,at_,fuel,l,x,h,ha,hk,hf,hll => by
  obtain ⟨fu,rfl⟩ : ∃ fu,fuel = fu + 1 := ⟨fuel - 1,by omega⟩
  by_cases he : at_ < b.length
  case neg =>
   rw [toks_end (by omega),List.append_nil]
   exact loop_exit (cnd_f (decide_eq_false (by omega)) rfl)
  have hbe := best_eq h hb hl he (by omega)
  have hg : getO b at_ = some (b.getD at_ 0) := by
   rw [List.getD_eq_getElem?_getD,List.getElem?_eq_getElem he,Option.getD_some]; exact getO_of he
  unfold toks
  rw [if_pos he]
  have hap : ∀ t : T_Tok,appO 24 l [t] = some (l ++ [t]) := fun t => app_of (by simp only [List.length_cons,List.length_nil]; omega) (by simp only [List.length_cons,List.length_nil]; omega)
  rcases bestS_cases b at_ with h0 | ⟨c1,c2,c3,c4,c5,c6⟩
  ·rw [h0] at hbe ⊢
   rw [if_pos rfl]
   obtain ⟨y,hy,hlp⟩ := ta_loop hb hl 1 at_ BIG x h (by omega) (by simp only [BIG]; omega)
   have hn := tk_loop hb hl k (at_ + 1) fu (l ++ [⟨b.getD at_ 0,0,0⟩]) y hy (by omega) (by omega) (by omega) (by simp; omega)
   rw [List.append_assoc] at hn
   exact (loop_next (cnd_t (decide_eq_true (by omega)) (bnd hbe (bndL (s := (b.getD at_ 0,1)) (cnd_t rfl (bnd (ixO_of he) (bnd hg rfl))) (bnd (hap _) (bndL hlp rfl)))))).trans hn
  ·rw [if_neg (by omega)]
   obtain ⟨y,hy,hlp⟩ := ta_loop hb hl (bestS b at_).1 at_ BIG x h (by omega) (by simp only [BIG]; omega)
   have hn := tk_loop hb hl k (at_ + (bestS b at_).1) fu (l ++ [⟨0,((bestS b at_).1 : Int),((bestS b at_).2 : Int)⟩]) y hy (by omega) (by omega) (by omega) (by simp; omega)
   rw [List.append_assoc] at hn
   exact (loop_next (cnd_t (decide_eq_true (by omega)) (bnd hbe (bndL (s := (0,((bestS b at_).1 : Int))) (cnd_f (beq_eq_false_iff_ne.2 (by show (((bestS b at_).1 : Nat) : Int) ≠ 0; omega)) rfl) (bnd (hap _) (bndL hlp rfl)))))).trans hn
theorem tokens_eq {b : List Int} (hb : ∀ n ∈ b,0 ≤ n ∧ n < 256) (hl : b.length ≤ 4096) : match_Tokens b = some (toksS b,0) := by
 unfold match_Tokens
 have hlp := tk_loop hb (by omega) b.length 0 BIG [] (T_match_index.mk b [] [] 0) (ix_new b 0) (Nat.zero_le _) (by omega) (by simp only [BIG]; omega) (Nat.zero_le _)
 refine cnd_f (decide_eq_false (by omega)) (bnd (x := some (T_match_index.mk b [] [] 0)) rfl ?_)
 show bindS _ _ _ = _
 exact bndL hlp rfl
def BestI (b : List Int) (at_ : Int) : Int × Int := if at_ < 0 ∨ (b.length : Int) ≤ at_ ∨ 4096 < b.length then (0,0) else (((bestS b at_.toNat).1 : Int),((bestS b at_.toNat).2 : Int))
def rbS (b : List Int) (at_ : Int) : ((Int × Int × Int)) → Option ((Int × Int × Int) ⊕ ((Int × Int) ⊕ (Int × Int))) := (fun ((s161,s162,s163) : Int × Int × Int) =>
    bindS (S := Bool) (A := ((Int × Int × Int) ⊕ ((Int × Int) ⊕ (Int × Int))))
     (cond ((decide (s163 ≤ at_)))
      (some (.inl ((decide (s163 ≤ 2048)))))
      (some (.inl false)))
     (fun (s242 : Bool) =>
      cond (s242)
       (bindS (S := Int × Int) (A := ((Int × Int × Int) ⊕ ((Int × Int) ⊕ (Int × Int))))
        (bindS (S := (Int)) (A := ((Int × Int) ⊕ ((Int × Int × Int) ⊕ ((Int × Int) ⊕ (Int × Int)))))
         (loopF (S := (Int)) (O := (Int) ⊕ ((Int × Int) ⊕ ((Int × Int × Int) ⊕ ((Int × Int) ⊕ (Int × Int))))) (fun (s293 : Int) =>
          bindS (S := Bool) (A := ((Int) ⊕ ((Int) ⊕ ((Int × Int) ⊕ ((Int × Int × Int) ⊕ ((Int × Int) ⊕ (Int × Int)))))))
           (cond ((decide (s293 < 258)))
            ((some (IntKind.i64.wrap (at_ + s293))).bind fun v13 =>
            cond ((decide (v13 < (b.length : Int))))
             ((some (IntKind.i64.wrap (at_ + s293))).bind fun v14 =>
             (ixO v14 b.length).bind fun v15 =>
             (getO b v15).bind fun v16 =>
             (some (IntKind.i64.wrap (at_ + s293))).bind fun v17 =>
             (some (IntKind.i64.wrap (v17 - s163))).bind fun v18 =>
             (ixO v18 b.length).bind fun v19 =>
             (getO b v19).bind fun v20 =>
             some (.inl (v16 == v20)))
             (some (.inl false)))
            (some (.inl false)))
           (fun (s306 : Bool) =>
            cond (s306)
             ((some (IntKind.i64.wrap (s293 + 1))).bind fun v26 =>
             some (.inl v26))
             (some (.inr (.inl s293)))) some)
          BIG 0)
         (fun (s299 : Int) =>
          cond ((decide (s161 < s299)))
           (some (.inl (s299,s163)))
           (some (.inl (s161,s162)))) some)
        (fun ((s277,s278) : Int × Int) =>
         (some (IntKind.i64.wrap (s163 + 1))).bind fun v87 =>
         some (.inl (s277,s278,v87))) some)
       (some (.inr (.inl (s161,s162))))) some)
def rcS (b : List Int) (at_ s163 : Int) : ((Int)) → Option ((Int) ⊕ ((Int) ⊕ ((Int × Int) ⊕ ((Int × Int × Int) ⊕ ((Int × Int) ⊕ (Int × Int)))))) := (fun (s293 : Int) =>
          bindS (S := Bool) (A := ((Int) ⊕ ((Int) ⊕ ((Int × Int) ⊕ ((Int × Int × Int) ⊕ ((Int × Int) ⊕ (Int × Int)))))))
           (cond ((decide (s293 < 258)))
            ((some (IntKind.i64.wrap (at_ + s293))).bind fun v13 =>
            cond ((decide (v13 < (b.length : Int))))
             ((some (IntKind.i64.wrap (at_ + s293))).bind fun v14 =>
             (ixO v14 b.length).bind fun v15 =>
             (getO b v15).bind fun v16 =>
             (some (IntKind.i64.wrap (at_ + s293))).bind fun v17 =>
             (some (IntKind.i64.wrap (v17 - s163))).bind fun v18 =>
             (ixO v18 b.length).bind fun v19 =>
             (getO b v19).bind fun v20 =>
             some (.inl (v16 == v20)))
             (some (.inl false)))
            (some (.inl false)))
           (fun (s306 : Bool) =>
            cond (s306)
             ((some (IntKind.i64.wrap (s293 + 1))).bind fun v26 =>
             some (.inl v26))
             (some (.inr (.inl s293)))) some)
def rtS (b : List Int) : (((List T_Tok) × Int)) → Option (((List T_Tok) × Int) ⊕ (((List T_Tok)) ⊕ (List T_Tok))) := (fun ((s26,s27) : (List T_Tok) × Int) =>
 cond ((decide (s27 < (b.length : Int))))
  (bindS (S := (List T_Tok) × Int) (A := (((List T_Tok) × Int) ⊕ (((List T_Tok)) ⊕ (List T_Tok))))
   ((wherryref01_Best b s27).bind fun v2 =>
   cond ((v2.1 == 0))
    ((ixO s27 b.length).bind fun v4 =>
    (getO b v4).bind fun v5 =>
    (appO 24 s26 [(T_Tok.mk v5 0 0)]).bind fun v6 =>
    (some (IntKind.i64.wrap (s27 + 1))).bind fun v7 =>
    some (.inl (v6,v7)))
    ((appO 24 s26 [(T_Tok.mk 0 v2.1 v2.2)]).bind fun v8 =>
    (some (IntKind.i64.wrap (s27 + v2.1))).bind fun v9 =>
    some (.inl (v8,v9))))
   (fun ((s45,s46) : (List T_Tok) × Int) =>
    some (.inl (s45,s46))) some)
  (some (.inr (.inl s26))))
theorem rin_eq (n lo hi : Int) : wherryref01_in n lo hi = some (decide (lo ≤ n) && decide (n ≤ hi)) := by
 unfold wherryref01_in
 by_cases h : lo ≤ n
 ·rw [decide_eq_true h]; exact bndL (s := decide (n ≤ hi)) (cnd_t rfl rfl) rfl
 ·rw [decide_eq_false h]; exact bndL (s := false) (cnd_f rfl rfl) rfl
theorem rc_loop {b : List Int} {at_ o : Nat} (hl : b.length ≤ 5000) (ha : at_ < b.length) (ho : 1 ≤ o) (ho2 : o ≤ at_) :
  loopF (rcS b (at_ : Int) (o : Int)) BIG 0 = some (.inl ((cmL b (at_ - o) at_ : Nat) : Int)) := by
 have hle := cm_le b (p := at_ - o) (at_ := at_)
 have hgo : ∀ i : Nat,i < 258 → at_ + i < b.length → ∃ u v : Int,b[at_ - o + i]? = some u ∧ b[at_ + i]? = some v ∧ (((cond ((decide ((i : Int) < 258)))
              ((some (IntKind.i64.wrap ((at_ : Int) + (i : Int)))).bind fun v13 =>
              cond ((decide (v13 < (b.length : Int))))
               ((some (IntKind.i64.wrap ((at_ : Int) + (i : Int)))).bind fun v14 =>
               (ixO v14 b.length).bind fun v15 =>
               (getO b v15).bind fun v16 =>
               (some (IntKind.i64.wrap ((at_ : Int) + (i : Int)))).bind fun v17 =>
               (some (IntKind.i64.wrap (v17 - (o : Int)))).bind fun v18 =>
               (ixO v18 b.length).bind fun v19 =>
               (getO b v19).bind fun v20 =>
               some (.inl (v16 == v20)))
               (some (.inl false)))
              (some (.inl false))) : Option (Bool ⊕ (Int ⊕ (Int ⊕ ((Int × Int) ⊕ ((Int × Int × Int) ⊕ ((Int × Int) ⊕ (Int × Int)))))))) = some (.inl (v == u))) := by
  intro i hi hn
  obtain ⟨u,hu,hu2⟩ := getO_q (l := b) (i := at_ - o + i) (by omega)
  obtain ⟨v,hv,hv2⟩ := getO_q (l := b) (i := at_ + i) hn
  have hw : IntKind.i64.wrap ((at_ : Int) + (i : Int)) = ((at_ + i : Nat) : Int) := by rw [wrap_i64 (by omega) (by omega)]; simp
  have hw2 : IntKind.i64.wrap (((at_ + i : Nat) : Int) - (o : Int)) = ((at_ - o + i : Nat) : Int) := by rw [wrap_i64 (by omega) (by omega)]; omega
  exact ⟨u,v,hu2,hv2,cnd_t (decide_eq_true (by omega)) (bnd (congrArg some hw) (cnd_t (decide_eq_true (by omega)) (bnd (congrArg some hw) (bnd (ixO_of hn) (bnd hv (bnd (congrArg some hw) (bnd (congrArg some hw2) (bnd (ixO_of (by omega)) (bnd hu rfl)))))))))⟩
 refine loop_from (fun i => ((i : Nat) : Int)) (cmL b (at_ - o) at_) BIG rfl (by simp only [BIG]; omega) (fun i hi => ?_) ?_
 ·obtain ⟨u,v,hu,hv,he⟩ := hgo i (by omega) (by omega)
  have := cm_get (b := b) (p := at_ - o) (at_ := at_) hi
  rw [hu,hv] at this
  obtain rfl := Option.some.inj this
  rw [beq_self_eq_true] at he
  exact bndL he (cnd_t rfl (bnd (congrArg some (wrap_succ (n := i) (by omega))) rfl))
 ·by_cases h258 : cmL b (at_ - o) at_ < 258
  ·by_cases hn : at_ + cmL b (at_ - o) at_ < b.length
   ·obtain ⟨u,v,hu,hv,he⟩ := hgo _ h258 hn
    have := cm_stop (b := b) (p := at_ - o) (at_ := at_) (by omega) h258 hn
    rw [hu,hv] at this
    have hne : (v == u) = false := beq_eq_false_iff_ne.2 fun h => this (by rw [h])
    rw [hne] at he
    exact bndL he (cnd_f rfl rfl)
   ·have hw : IntKind.i64.wrap ((at_ : Int) + ((cmL b (at_ - o) at_ : Nat) : Int)) = ((at_ + cmL b (at_ - o) at_ : Nat) : Int) := by rw [wrap_i64 (by omega) (by omega)]; simp
    exact bndL (s := false) (cnd_t (decide_eq_true (by omega)) (bnd (congrArg some hw) (cnd_f (decide_eq_false (by omega)) rfl))) (cnd_f rfl rfl)
  ·exact bndL (s := false) (cnd_f (decide_eq_false (by omega)) rfl) (cnd_f rfl rfl)
theorem rb_loop {b : List Int} {at_ : Nat} (hl : b.length ≤ 5000) (ha : at_ < b.length) : loopF (rbS b (at_ : Int)) BIG (0,0,1) = some (.inl (((bestN b at_ (min at_ 2048)).1 : Int),((bestN b at_ (min at_ 2048)).2 : Int))) := by
 refine loop_from (fun i => (((bestN b at_ i).1 : Int),((bestN b at_ i).2 : Int),((i + 1 : Nat) : Int))) (min at_ 2048) BIG rfl (by simp only [BIG]; omega) (fun i hi => ?_) ?_
 ·have hr := rc_loop hl ha (o := i + 1) (by omega) (by omega)
  have hfirst : (cond ((decide (((i + 1 : Nat) : Int) ≤ (at_ : Int)))) (some (.inl ((decide (((i + 1 : Nat) : Int) ≤ 2048))))) (some (.inl false)) : Option (Bool ⊕ ((Int × Int × Int) ⊕ ((Int × Int) ⊕ (Int × Int))))) = some (.inl true) :=
   cnd_t (decide_eq_true (by omega)) (by rw [decide_eq_true (by omega)])
  refine bndL hfirst (cnd_t rfl (bndL (s := (((bestN b at_ (i + 1)).1 : Int),((bestN b at_ (i + 1)).2 : Int))) (bndL hr ?_) (bnd (congrArg some (wrap_succ (n := i + 1) (by omega))) rfl)))
  show cond (decide (((bestN b at_ i).1 : Int) < ((cmL b (at_ - (i + 1)) at_ : Nat) : Int))) _ _ = some (Sum.inl (((upd1 (bestN b at_ i) (i + 1) (cmL b (at_ - (i + 1)) at_)).1 : Int),((upd1 (bestN b at_ i) (i + 1) (cmL b (at_ - (i + 1)) at_)).2 : Int)))
  unfold upd1
  by_cases h : (bestN b at_ i).1 < cmL b (at_ - (i + 1)) at_
  ·rw [if_pos h]
   exact cnd_t (decide_eq_true (by omega)) rfl
  ·rw [if_neg h]
   exact cnd_f (decide_eq_false (by omega)) rfl
 ·refine bndL (s := false) ?_ (cnd_f rfl rfl)
  by_cases h : min at_ 2048 + 1 ≤ at_
  ·exact cnd_t (decide_eq_true (by omega)) (by rw [decide_eq_false (by omega)])
  ·exact cnd_f (decide_eq_false (by omega)) rfl
theorem ref_best {b : List Int} (hl : b.length < 4294967296) (at_ : Int) : wherryref01_Best b at_ = some (BestI b at_) := by
 unfold wherryref01_Best BestI
 by_cases h3 : 4096 < b.length
 ·rw [if_pos (.inr (.inr h3))]
  exact bndL (s := true) (cnd_t (decide_eq_true (by omega)) rfl) (cnd_t rfl rfl)
 have hw : IntKind.i64.wrap ((b.length : Int) - 1) = (b.length : Int) - 1 := wrap_i64 (by omega) (by omega)
 by_cases h1 : at_ < 0 ∨ (b.length : Int) ≤ at_
 ·rw [if_pos (by omega)]
  refine bndL (s := true) (cnd_f (decide_eq_false (by omega)) (bnd (congrArg some hw) (bnd (rin_eq _ _ _) ?_))) (cnd_t rfl rfl)
  have : (decide (0 ≤ at_) && decide (at_ ≤ (b.length : Int) - 1)) = false := by
   rw [Bool.and_eq_false_iff,decide_eq_false_iff_not,decide_eq_false_iff_not]; omega
  rw [this]; rfl
 rw [if_neg (by omega)]
 obtain ⟨n,rfl⟩ : ∃ n : Nat,at_ = (n : Int) := ⟨at_.toNat,by omega⟩
 rw [Int.toNat_natCast]
 have hin : (decide (0 ≤ (n : Int)) && decide ((n : Int) ≤ (b.length : Int) - 1)) = true := by
  rw [Bool.and_eq_true,decide_eq_true_eq,decide_eq_true_eq]; omega
 refine bndL (s := false) (cnd_f (decide_eq_false (by omega)) (bnd (congrArg some hw) (bnd (rin_eq _ _ _) (by rw [hin]; rfl)))) (cnd_f rfl (bndL (rb_loop (by omega) (by omega)) ?_))
 unfold bestS clp
 by_cases h : (bestN b n (min n 2048)).1 < 3
 ·rw [if_pos h]
  exact cnd_t (decide_eq_true (by show ((bestN b n (min n 2048)).1 : Int) < 3; omega)) rfl
 ·rw [if_neg h]
  exact cnd_f (decide_eq_false (by show ¬ ((bestN b n (min n 2048)).1 : Int) < 3; omega)) rfl
theorem rt_loop {b : List Int} (hl : b.length ≤ 4096) : ∀ (k at_ fuel : Nat) (l : List T_Tok),at_ ≤ b.length → b.length - at_ ≤ k → k < fuel → l.length ≤ at_ →
  loopF (rtS b) fuel (l,(at_ : Int)) = some (.inl (l ++ toks b k at_))
 | 0,at_,fuel,l,ha,hk,hf,hll => by
  obtain ⟨fu,rfl⟩ : ∃ fu,fuel = fu + 1 := ⟨fuel - 1,by omega⟩
  rw [toks,List.append_nil]
  exact loop_exit (cnd_f (decide_eq_false (by omega)) rfl)
 | k + 1,at_,fuel,l,ha,hk,hf,hll => by
  obtain ⟨fu,rfl⟩ : ∃ fu,fuel = fu + 1 := ⟨fuel - 1,by omega⟩
  by_cases he : at_ < b.length
  case neg =>
   rw [toks_end (by omega),List.append_nil]
   exact loop_exit (cnd_f (decide_eq_false (by omega)) rfl)
  have hbe := ref_best (b := b) (by omega) (at_ : Int)
  unfold BestI at hbe
  rw [if_neg (by omega),Int.toNat_natCast] at hbe
  have hg : getO b at_ = some (b.getD at_ 0) := by
   rw [List.getD_eq_getElem?_getD,List.getElem?_eq_getElem he,Option.getD_some]; exact getO_of he
  unfold toks
  rw [if_pos he]
  have hap : ∀ t : T_Tok,appO 24 l [t] = some (l ++ [t]) := fun t => app_of (by simp only [List.length_cons,List.length_nil]; omega) (by simp only [List.length_cons,List.length_nil]; omega)
  rcases bestS_cases b at_ with h0 | ⟨c1,c2,c3,c4,c5,c6⟩
  ·rw [h0] at hbe ⊢
   rw [if_pos rfl]
   have hn := rt_loop hl k (at_ + 1) fu (l ++ [⟨b.getD at_ 0,0,0⟩]) (by omega) (by omega) (by omega) (by simp; omega)
   rw [List.append_assoc] at hn
   exact (loop_next (cnd_t (decide_eq_true (by omega)) (bndL (s := (l ++ [⟨b.getD at_ 0,0,0⟩],((at_ + 1 : Nat) : Int))) (bnd hbe (cnd_t rfl (bnd (ixO_of he) (bnd hg (bnd (hap _) (bnd (congrArg some (wrap_succ (n := at_) (by omega))) rfl)))))) rfl))).trans hn
  ·rw [if_neg (by omega)]
   have hw : IntKind.i64.wrap ((at_ : Int) + ((bestS b at_).1 : Int)) = ((at_ + (bestS b at_).1 : Nat) : Int) := by rw [wrap_i64 (by omega) (by omega)]; simp
   have hn := rt_loop hl k (at_ + (bestS b at_).1) fu (l ++ [⟨0,((bestS b at_).1 : Int),((bestS b at_).2 : Int)⟩]) (by omega) (by omega) (by omega) (by simp; omega)
   rw [List.append_assoc] at hn
   exact (loop_next (cnd_t (decide_eq_true (by omega)) (bndL (s := (l ++ [⟨0,((bestS b at_).1 : Int),((bestS b at_).2 : Int)⟩],((at_ + (bestS b at_).1 : Nat) : Int))) (bnd hbe (cnd_f (beq_eq_false_iff_ne.2 (by show (((bestS b at_).1 : Nat) : Int) ≠ 0; omega)) (bnd (hap _) (bnd (congrArg some hw) rfl)))) rfl))).trans hn
theorem ref_tokens {b : List Int} (hl : b.length ≤ 4096) : wherryref01_Tokens b = some (toksS b,0) := by
 unfold wherryref01_Tokens
 refine cnd_f (decide_eq_false (by omega)) (bnd (x := toksS b) ?_ rfl)
 unfold wherryref01_tokens
 exact bndL (rt_loop hl b.length 0 BIG [] (Nat.zero_le _) (by omega) (by simp only [BIG]; omega) (Nat.zero_le _)) rfl
def mcS (l : List T_Tok) : ((Int × Int)) → Option ((Int × Int) ⊕ ((Int) ⊕ Int)) := (fun ((s115,s116) : Int × Int) =>
 cond ((decide (s116 < (l.length : Int))))
  (bindS (S := Int) (A := ((Int × Int) ⊕ ((Int) ⊕ Int)))
   ((ixO s116 l.length).bind fun v2 =>
   (getO l v2).bind fun v3 =>
   bindS (S := Int) (A := (Int ⊕ ((Int × Int) ⊕ ((Int) ⊕ Int))))
    (bindS (S := Bool) (A := (Int ⊕ (Int ⊕ ((Int × Int) ⊕ ((Int) ⊕ Int)))))
     (cond ((v3.Len == 0))
      (some (.inl (v3.Dist == 0)))
      (some (.inl false)))
     (fun (s220 : Bool) =>
      cond (s220)
       ((some (IntKind.i64.wrap (s115 + 1))).bind fun v9 =>
       some (.inl v9))
       (bindS (S := Bool) (A := (Int ⊕ (Int ⊕ ((Int × Int) ⊕ ((Int) ⊕ Int)))))
        ((match_validMatch v3).bind fun v10 =>
        cond (v10)
         (some (.inl ((decide (v3.Dist ≤ s115)))))
         (some (.inl false)))
        (fun (s225 : Bool) =>
         cond (s225)
          ((some (IntKind.i64.wrap (s115 + v3.Len))).bind fun v16 =>
          some (.inl v16))
          (some (.inr (.inr (.inr (.inr (1))))))) some)) some)
    (fun (s216 : Int) =>
     some (.inl s216)) some)
   (fun (s202 : Int) =>
    (some (IntKind.i64.wrap (s116 + 1))).bind fun v59 =>
    some (.inl (s202,v59))) some)
  (some (.inr (.inl s115))))
/-! Rows of tokens: what is right,and what they stand for. -/
def okT (t : T_Tok) (n : Int) : Bool := decide ((t.Len = 0 ∧ t.Dist = 0) ∨ ((t.Byte = 0 ∧ 3 ≤ t.Len ∧ t.Len ≤ 258 ∧ 1 ≤ t.Dist ∧ t.Dist ≤ 2048) ∧ t.Dist ≤ n))
def tl (t : T_Tok) : Nat := if t.Len = 0 then 1 else t.Len.toNat
def chkF : List T_Tok → Nat → Option Nat
 | [],n => some n
 | t :: l,n => if okT t n = true then chkF l (n + tl t) else none
theorem tl_le {t : T_Tok} {n : Int} (h : okT t n = true) : 1 ≤ tl t ∧ tl t ≤ 258 := by
 unfold okT at h
 rw [decide_eq_true_eq] at h
 unfold tl
 split <;> omega
def vT (t : T_Tok) : Bool := decide (t.Byte = 0 ∧ 3 ≤ t.Len ∧ t.Len ≤ 258 ∧ 1 ≤ t.Dist ∧ t.Dist ≤ 2048)
theorem mvalid_eq (t : T_Tok) : match_validMatch t = some (vT t) := by
 unfold match_validMatch
 by_cases h1 : t.Byte = 0
 case neg =>
  have e : vT t = false := decide_eq_false fun h => h1 h.1
  rw [e]
  exact bndL (s := false) (cnd_f (beq_eq_false_iff_ne.2 h1) rfl) rfl
 by_cases h2 : 3 ≤ t.Len
 case neg =>
  have e : vT t = false := decide_eq_false fun h => h2 h.2.1
  rw [e]
  exact bndL (s := false) (cnd_t (beq_iff_eq.2 h1) (cnd_f (decide_eq_false h2) rfl)) rfl
 by_cases h3 : t.Len ≤ 258
 case neg =>
  have e : vT t = false := decide_eq_false fun h => h3 h.2.2.1
  rw [e]
  exact bndL (s := false) (cnd_t (beq_iff_eq.2 h1) (cnd_t (decide_eq_true h2) (cnd_f (decide_eq_false h3) rfl))) rfl
 by_cases h4 : 1 ≤ t.Dist
 case neg =>
  have e : vT t = false := decide_eq_false fun h => h4 h.2.2.2.1
  rw [e]
  exact bndL (s := false) (cnd_t (beq_iff_eq.2 h1) (cnd_t (decide_eq_true h2) (cnd_t (decide_eq_true h3) (cnd_f (decide_eq_false h4) rfl)))) rfl
 have e : vT t = decide (t.Dist ≤ 2048) := decide_eq_decide.2 ⟨fun h => h.2.2.2.2,fun h => ⟨h1,h2,h3,h4,h⟩⟩
 rw [e]
 exact bndL (s := decide (t.Dist ≤ 2048)) (cnd_t (beq_iff_eq.2 h1) (cnd_t (decide_eq_true h2) (cnd_t (decide_eq_true h3) (cnd_t (decide_eq_true h4) rfl)))) rfl
theorem mc_step (l : List T_Tok) {i : Nat} {n : Nat} (hi : i < l.length) (hil : i < 1000000000) (hn : n ≤ 1000000000000) : mcS l ((n : Int),(i : Int)) = some (if okT l[i] n = true then .inl (((n + tl l[i] : Nat) : Int),((i + 1 : Nat) : Int)) else .inr (.inr 1)) := by
 have hg := getO_of hi
 generalize l[i] = t at hg
 have hw1 : IntKind.i64.wrap ((n : Int) + 1) = ((n + 1 : Nat) : Int) := wrap_succ (by omega)
 have hwi : IntKind.i64.wrap ((i : Int) + 1) = ((i + 1 : Nat) : Int) := wrap_succ (by omega)
 by_cases hz : t.Len = 0 ∧ t.Dist = 0
 ·have ho : okT t n = true := by unfold okT; rw [decide_eq_true_eq]; exact .inl hz
  rw [if_pos ho]
  have htl : tl t = 1 := by unfold tl; rw [if_pos hz.1]
  rw [htl]
  exact cnd_t (decide_eq_true (by omega)) (bndL (s := ((n + 1 : Nat) : Int)) (bnd (ixO_of hi) (bnd hg (bndL (s := ((n + 1 : Nat) : Int)) (bndL (s := true) (cnd_t (beq_iff_eq.2 hz.1) (by rw [beq_iff_eq.2 hz.2])) (cnd_t rfl (bnd (congrArg some hw1) rfl))) rfl))) (bnd (congrArg some hwi) rfl))
 ·have hfirst : ∀ {A : Type},(cond ((t.Len == 0)) (some (.inl (t.Dist == 0))) (some (.inl false)) : Option (Bool ⊕ A)) = some (.inl false) := by
   intro A
   by_cases h : t.Len = 0
   ·exact cnd_t (beq_iff_eq.2 h) (by rw [beq_eq_false_iff_ne.2 fun e => hz ⟨h,e⟩])
   ·exact cnd_f (beq_eq_false_iff_ne.2 h) rfl
  by_cases hv : t.Byte = 0 ∧ 3 ≤ t.Len ∧ t.Len ≤ 258 ∧ 1 ≤ t.Dist ∧ t.Dist ≤ 2048
  ·have hve := mvalid_eq t
   rw [show vT t = true from decide_eq_true hv] at hve
   by_cases hd : t.Dist ≤ (n : Int)
   ·have ho : okT t n = true := by unfold okT; rw [decide_eq_true_eq]; exact .inr ⟨hv,hd⟩
    rw [if_pos ho]
    have hw : IntKind.i64.wrap ((n : Int) + t.Len) = ((n + tl t : Nat) : Int) := by
     unfold tl
     rw [if_neg (by omega),wrap_i64 (by omega) (by omega)]; omega
    exact cnd_t (decide_eq_true (by omega)) (bndL (s := ((n + tl t : Nat) : Int)) (bnd (ixO_of hi) (bnd hg (bndL (s := ((n + tl t : Nat) : Int)) (bndL hfirst (cnd_f rfl (bndL (s := true) (bnd hve (cnd_t rfl (by rw [decide_eq_true hd]))) (cnd_t rfl (bnd (congrArg some hw) rfl))))) rfl))) (bnd (congrArg some hwi) rfl))
   ·have ho : ¬ okT t n = true := by unfold okT; rw [decide_eq_true_eq]; rintro (h | h); exact hz h; exact hd h.2
    rw [if_neg ho]
    exact cnd_t (decide_eq_true (by omega)) (bndR (a := .inr (.inr 1)) (bnd (ixO_of hi) (bnd hg (bndR (a := .inr (.inr (.inr 1))) (bndL hfirst (cnd_f rfl (bndL (s := false) (bnd hve (cnd_t rfl (by rw [decide_eq_false hd]))) (cnd_f rfl rfl)))) rfl))) rfl)
  ·have hve := mvalid_eq t
   rw [show vT t = false from decide_eq_false hv] at hve
   have ho : ¬ okT t n = true := by unfold okT; rw [decide_eq_true_eq]; rintro (h | h); exact hz h; exact hv h.1
   rw [if_neg ho]
   exact cnd_t (decide_eq_true (by omega)) (bndR (a := .inr (.inr 1)) (bnd (ixO_of hi) (bnd hg (bndR (a := .inr (.inr (.inr 1))) (bndL hfirst (cnd_f rfl (bndL (s := false) (bnd hve (cnd_f rfl rfl)) (cnd_f rfl rfl)))) rfl))) rfl)
theorem mc_loop (l : List T_Tok) (hl : l.length ≤ 1000000) : ∀ (k i fuel n : Nat),i + k = l.length → k < fuel → n ≤ 258 * i → loopF (mcS l) fuel ((n : Int),(i : Int)) = some (match chkF (l.drop i) n with | some m => .inl (m : Int) | none => .inr 1)
 | 0,i,fuel,n,hk,hf,hn => by
  obtain ⟨fu,rfl⟩ : ∃ fu,fuel = fu + 1 := ⟨fuel - 1,by omega⟩
  rw [List.drop_of_length_le (by omega)]
  exact loop_exit (cnd_f (decide_eq_false (by omega)) rfl)
 | k + 1,i,fuel,n,hk,hf,hn => by
  obtain ⟨fu,rfl⟩ : ∃ fu,fuel = fu + 1 := ⟨fuel - 1,by omega⟩
  have hi : i < l.length := by omega
  have hs := mc_step l hi (by omega) (by omega : n ≤ 1000000000000)
  rw [List.drop_eq_getElem_cons hi]
  simp only [chkF]
  by_cases ho : okT l[i] n = true
  ·rw [if_pos ho] at hs ⊢
   have := tl_le ho
   exact (loop_next hs).trans (mc_loop l hl k (i + 1) fu (n + tl l[i]) (by omega) (by omega) (by omega))
  ·rw [if_neg ho] at hs ⊢
   exact loop_exit hs
def ckE (l : List T_Tok) : Int := match chkF l 0 with | some n => if 4096 < n then 2 else 0 | none => 1
theorem check_eq {l : List T_Tok} (hl : l.length ≤ 1000000) : match_Check l = some (ckE l) := by
 have h := mc_loop l hl l.length 0 BIG 0 (by omega) (by simp only [BIG]; omega) (by omega)
 rw [List.drop_zero] at h
 unfold match_Check ckE
 cases hc : chkF l 0 with
 | none =>
  rw [hc] at h
  exact bndR h rfl
 | some n =>
  rw [hc] at h
  refine bndL h ?_
  by_cases h4 : 4096 < n
  ·simp only [if_pos h4]; exact cnd_t (decide_eq_true (by omega)) rfl
  ·simp only [if_neg h4]; exact cnd_f (decide_eq_false (by omega)) rfl
/-! A text's own tokens. -/
theorem chk_toks (b : List Int) (m : Nat) : ∀ (k at_ : Nat),b.length - at_ ≤ k → at_ ≤ b.length → chkF (toks b k at_) (m + at_) = some (m + b.length)
 | 0,at_,hk,ha => by
  obtain rfl : at_ = b.length := by omega
  rfl
 | k + 1,at_,hk,ha => by
  unfold toks
  split
  ·rename_i he
   rcases bestS_cases b at_ with h0 | ⟨c1,c2,c3,c4,c5,c6⟩
   ·rw [h0,if_pos rfl]
    simp only [chkF]
    have ho : okT ⟨b.getD at_ 0,0,0⟩ ((m + at_ : Nat) : Int) = true := by unfold okT; rw [decide_eq_true_eq]; exact .inl ⟨rfl,rfl⟩
    rw [if_pos ho]
    exact chk_toks b m k (at_ + 1) (by omega) (by omega)
   ·rw [if_neg (by omega)]
    simp only [chkF]
    have ho : okT ⟨0,((bestS b at_).1 : Int),((bestS b at_).2 : Int)⟩ ((m + at_ : Nat) : Int) = true := by
     unfold okT; rw [decide_eq_true_eq]
     exact .inr ⟨⟨rfl,by show (3 : Int) ≤ ((bestS b at_).1 : Int); omega,by show ((bestS b at_).1 : Int) ≤ 258; omega,by show (1 : Int) ≤ ((bestS b at_).2 : Int); omega,by show ((bestS b at_).2 : Int) ≤ 2048; omega⟩,by show ((bestS b at_).2 : Int) ≤ ((m + at_ : Nat) : Int); omega⟩
    rw [if_pos ho]
    have htl : tl ⟨0,((bestS b at_).1 : Int),((bestS b at_).2 : Int)⟩ = (bestS b at_).1 := by unfold tl; rw [if_neg (by show ¬ ((bestS b at_).1 : Int) = 0; omega)]; simp
    rw [htl,Nat.add_assoc]
    exact chk_toks b m k (at_ + (bestS b at_).1) (by omega) (by omega)
  ·simp only [chkF]
   rw [show at_ = b.length by omega]
theorem bys {l : List Int} (h : wfL (wfI .u8) l) : ∀ n ∈ l,0 ≤ n ∧ n < 256 := by
 intro x hx
 have := h.2 x hx
 unfold wfI at this
 have h1 : IntKind.u8.min = 0 := by decide
 have h2 : IntKind.u8.max = 255 := by decide
 simp [Lit.wf,h1,h2] at this
 omega
theorem toksS_len (b : List Int) : (toksS b).length ≤ b.length := by
 have := toks_len b b.length 0
 unfold toksS; omega
theorem chk_toksS (b : List Int) : chkF (toksS b) 0 = some b.length := by
 have := chk_toks b 0 b.length 0 (by omega) (by omega)
 simpa [toksS] using this
end Go.Abs.Sh
