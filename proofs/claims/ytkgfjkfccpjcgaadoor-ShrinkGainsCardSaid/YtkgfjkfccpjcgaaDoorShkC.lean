import Derived.Test.YtkgfjkfccpjcgaaDoorShkT
import Derived.KernelRfl
namespace Go.Abs.Sh
set_option linter.unusedVariables false
set_option linter.unusedSimpArgs false
set_option maxRecDepth 100000
def wtS (l:List T_Tok):(((List Int)×(List Int)×Int))→Option (((List Int)×(List Int)×Int)⊕(((List Int)×(List Int))⊕((List Int)×(List Int)×Int))):=(fun ((s46,s47,s48):(List Int)×(List Int)×Int) =>
  cond ((decide (s48<(l.length:Int))))
   (bindS (S:=(List Int)×(List Int)) (A:=(((List Int)×(List Int)×Int)⊕(((List Int)×(List Int))⊕((List Int)×(List Int)×Int))))
    ((ixO s48 l.length).bind fun v8 =>
    (getO l v8).bind fun v9 =>
    cond ((v9.Len==0))
     ((ixO v9.Byte s46.length).bind fun v11 =>
     (getO s46 v11).bind fun v12 =>
     (some (IntKind.i64.wrap (v12+1))).bind fun v13 =>
     (ixO v9.Byte s46.length).bind fun v14 =>
     (some (s46.set v14 v13)).bind fun v15 =>
     some (.inl (v15,s47)))
     ((sym_Len v9.Len).bind fun v16 =>
     (sym_Dist v9.Dist).bind fun v17 =>
     (ixO v16.1 s46.length).bind fun v18 =>
     (getO s46 v18).bind fun v19 =>
     (some (IntKind.i64.wrap (v19+1))).bind fun v20 =>
     (ixO v16.1 s46.length).bind fun v21 =>
     (some (s46.set v21 v20)).bind fun v22 =>
     (ixO v17.1 s47.length).bind fun v23 =>
     (getO s47 v23).bind fun v24 =>
     (some (IntKind.i64.wrap (v24+1))).bind fun v25 =>
     (ixO v17.1 s47.length).bind fun v26 =>
     (some (s47.set v26 v25)).bind fun v27 =>
     some (.inl (v22,v27))))
    (fun ((s67,s68):(List Int)×(List Int)) =>
     (some (IntKind.i64.wrap (s48+1))).bind fun v34 =>
     some (.inl (s67,s68,v34))) some)
   (some (.inr (.inl (s46,s47)))))
/-! Weights. -/
def inc (a:List Nat) (s:Nat):List Nat:=a.set s (a.getD s 0+1)
theorem inc_len (a:List Nat) (s:Nat):(inc a s).length=a.length:=by simp [inc]
theorem inc_at {a:List Nat} {s j:Nat} (hs:s<a.length):(inc a s).getD j 0=if j=s then a.getD j 0+1 else a.getD j 0:=by
 simp only [inc,List.getD_eq_getElem?_getD,List.getElem?_set]
 by_cases h:s=j
 ·subst h; simp [hs]
 ·rw [if_neg h,if_neg (fun e=>h e.symm)]
theorem inc_le {a:List Nat} {s c:Nat} (h:∀ x∈a,x≤c):∀ x∈inc a s,x≤c+1:=by
 intro x hx
 rcases List.mem_or_eq_of_mem_set hx with k | k
 ·have:=h x k; omega
 ·rw [k]
  have:a.getD s 0≤c:=by
   rw [List.getD_eq_getElem?_getD]
   cases hj:a[s]? with
   | none=>simp
   | some y=>simpa using h y (List.mem_of_getElem? hj)
  omega
theorem inc_ix {a:List Nat} {s:Nat} {x:Int} (hx:x=(s:Int)) (hs:s<a.length):ixO x (ints a).length=some s∧getO (ints a) s=some ((a.getD s 0:Nat):Int):=by
 subst hx
 refine ⟨ixO_of (by rw [ints_len]; exact hs),?_⟩
 rw [ints_get hs,List.getD_eq_getElem?_getD,List.getElem?_eq_getElem hs,Option.getD_some]
theorem set_ints (a:List Nat) (s v:Nat):(ints a).set s (v:Int)=ints (a.set s v):=by
 simp [ints,List.map_set]
def wtA (x:List Nat×List Nat) (t:T_Tok):List Nat×List Nat :=
 if t.Len=0 then (inc x.1 t.Byte.toNat,x.2) else (inc x.1 (lnN t.Len.toNat).1,inc x.2 (dsN t.Dist.toNat).1)
def wts0:List Nat×List Nat:=((List.replicate 286 0).set 256 1,List.replicate 30 0)
def wtN (l:List T_Tok):List Nat×List Nat:=l.foldl wtA wts0
structure WtI (x:List Nat×List Nat) (c:Nat):Prop where
 la:x.1.length=286
 ld:x.2.length=30
 ba:∀ y∈x.1,y≤c
 bd:∀ y∈x.2,y≤c
theorem wtI_step {x:List Nat×List Nat} {c:Nat} (h:WtI x c) (t:T_Tok):WtI (wtA x t) (c+1):=by
 unfold wtA
 split
 ·exact ⟨by rw [inc_len]; exact h.la,h.ld,inc_le h.ba,fun y hy=>Nat.le_succ_of_le (h.bd y hy)⟩
 ·exact ⟨by rw [inc_len]; exact h.la,by rw [inc_len]; exact h.ld,inc_le h.ba,inc_le h.bd⟩
theorem wtI_fold:∀ (l:List T_Tok) (x:List Nat×List Nat) (c:Nat),WtI x c→WtI (l.foldl wtA x) (c+l.length)
 | [],x,c,h=>h
 | t::l,x,c,h=>by
  have:=wtI_fold l (wtA x t) (c+1) (wtI_step h t)
  rw [List.length_cons,show c+(l.length+1)=c+1+l.length by omega]
  exact this
theorem wtI0:WtI wts0 1:=⟨by simp [wts0],by simp [wts0],of_decide_eq_true (by kernel_rfl),of_decide_eq_true (by kernel_rfl)⟩
theorem wt_step {l:List T_Tok} {i:Nat} (hi:i<l.length) (hil:l.length≤5000) (ht:okTk l[i]) {x:List Nat×List Nat} {c:Nat} (h:WtI x c) (hc:c≤1000000) :
  wtS l (ints x.1,ints x.2,(i:Int))=some (.inl (ints (wtA x l[i]).1,ints (wtA x l[i]).2,((i+1:Nat):Int))):=by
 have hg:=getO_of hi
 have hw:=wrap_succ (n:=i) (by omega)
 have hgd:∀ (a:List Nat) (s:Nat),(∀ y∈a,y≤c)→a.getD s 0≤c:=fun a s ha=>by
  rw [List.getD_eq_getElem?_getD]
  cases hj:a[s]? with
  | none=>simp
  | some y=>simpa using ha y (List.mem_of_getElem? hj)
 unfold wtA
 by_cases h0:l[i].Len=0
 ·rw [if_pos h0]
  have hs:l[i].Byte.toNat<x.1.length:=by rw [h.la]; have:=ht.1; omega
  obtain ⟨i1,i2⟩:=inc_ix (a:=x.1) (x:=l[i].Byte) (s:=l[i].Byte.toNat) (by have:=ht.1; omega) hs
  have:=hgd x.1 l[i].Byte.toNat h.ba
  exact cnd_t (decide_eq_true (by omega)) (bndL (s:=(ints (inc x.1 l[i].Byte.toNat),ints x.2)) (bnd (ixO_of hi) (bnd hg (cnd_t (beq_iff_eq.2 h0) (bnd i1 (bnd i2 (bnd (congrArg some (wrap_succ (n:=x.1.getD l[i].Byte.toNat 0) (by omega))) (bnd i1 (bnd (congrArg some (set_ints x.1 l[i].Byte.toNat _)) rfl)))))))) (bnd (congrArg some hw) rfl))
 ·rw [if_neg h0]
  rcases ht.2 with h1 | ⟨h1,h2,h3,h4⟩
  ·exact absurd h1 h0
  obtain ⟨l1,l2,l3,l4,l5⟩:=ln_ok (n:=l[i].Len.toNat) (by omega) (by omega)
  obtain ⟨d1,d2,d3,d4⟩:=ds_ok (n:=l[i].Dist.toNat) (by omega) (by omega)
  rw [show ((l[i].Len.toNat:Nat):Int)=l[i].Len by omega] at l1
  rw [show ((l[i].Dist.toNat:Nat):Int)=l[i].Dist by omega] at d1
  obtain ⟨i1,i2⟩:=inc_ix (a:=x.1) (s:=(lnN l[i].Len.toNat).1) rfl (by rw [h.la]; omega)
  obtain ⟨j1,j2⟩:=inc_ix (a:=x.2) (s:=(dsN l[i].Dist.toNat).1) rfl (by rw [h.ld]; omega)
  have q1:=hgd x.1 (lnN l[i].Len.toNat).1 h.ba
  have q2:=hgd x.2 (dsN l[i].Dist.toNat).1 h.bd
  exact cnd_t (decide_eq_true (by omega)) (bndL (s:=(ints (inc x.1 (lnN l[i].Len.toNat).1),ints (inc x.2 (dsN l[i].Dist.toNat).1))) (bnd (ixO_of hi) (bnd hg (cnd_f (beq_eq_false_iff_ne.2 h0) (bnd l1 (bnd d1 (bnd i1 (bnd i2 (bnd (congrArg some (wrap_succ (n:=x.1.getD (lnN l[i].Len.toNat).1 0) (by omega))) (bnd i1 (bnd (congrArg some (set_ints x.1 _ _)) (bnd j1 (bnd j2 (bnd (congrArg some (wrap_succ (n:=x.2.getD (dsN l[i].Dist.toNat).1 0) (by omega))) (bnd j1 (bnd (congrArg some (set_ints x.2 _ _)) rfl))))))))))))))) (bnd (congrArg some hw) rfl))
theorem wt_loop {l:List T_Tok} (hil:l.length≤5000) (ht:∀ t∈l,okTk t):∀ (k i fuel:Nat) (x:List Nat×List Nat) (c:Nat),i+k=l.length→k<fuel→WtI x c→c+k≤900000 →
  loopF (wtS l) fuel (ints x.1,ints x.2,(i:Int))=some (.inl (ints ((l.drop i).foldl wtA x).1,ints ((l.drop i).foldl wtA x).2))
 | 0,i,fuel,x,c,hk,hf,h,hc=>by
  obtain ⟨fu,rfl⟩:∃ fu,fuel=fu+1:=⟨fuel-1,by omega⟩
  rw [List.drop_eq_nil_of_le (by omega)]
  exact loop_exit (cnd_f (decide_eq_false (by omega)) rfl)
 | k+1,i,fuel,x,c,hk,hf,h,hc=>by
  obtain ⟨fu,rfl⟩:∃ fu,fuel=fu+1:=⟨fuel-1,by omega⟩
  have hi:i<l.length:=by omega
  rw [List.drop_eq_getElem_cons hi,List.foldl_cons]
  exact (loop_next (wt_step hi hil (ht _ (List.getElem_mem hi)) h (by omega))).trans (wt_loop hil ht k (i+1) fu (wtA x l[i]) (c+1) (by omega) (by omega) (wtI_step h _) (by omega))
theorem weights_eq {l:List T_Tok} (hil:l.length≤5000) (ht:∀ t∈l,okTk t) (hck:match_Check l=some 0):sym_Weights l=some (ints (wtN l).1,ints (wtN l).2,0):=by
 have m1:mkO 8 286 (0:Int)=some (List.replicate 286 0):=by kernel_rfl
 have m2:mkO 8 30 (0:Int)=some (List.replicate 30 0):=by kernel_rfl
 have hx:ixO 256 (List.replicate 286 (0:Int)).length=some 256:=by rw [List.length_replicate]; rfl
 have e1:(List.replicate 286 (0:Int)).set 256 1=ints wts0.1:=by kernel_rfl
 have e2:List.replicate 30 (0:Int)=ints wts0.2:=by kernel_rfl
 have hlp:=wt_loop hil ht l.length 0 BIG wts0 1 (by omega) (by simp only [BIG]; omega) wtI0 (by omega)
 rw [List.drop_zero,← e1,← e2] at hlp
 unfold sym_Weights
 exact bnd hck (cnd_f rfl (bnd m1 (bnd m2 (bnd hx (bnd rfl (bndL hlp rfl))))))
theorem wts_I (l:List T_Tok):WtI (wtN l) (1+l.length):=wtI_fold l wts0 1 wtI0
/-! What only grows. -/
theorem inc_mono (a:List Nat) (s j:Nat):a.getD j 0≤(inc a s).getD j 0:=by
 by_cases hs:s<a.length
 ·rw [inc_at hs]; split <;> omega
 ·rw [inc,List.set_eq_of_length_le (by omega)]; exact Nat.le_refl _
theorem wtA_mono (x:List Nat×List Nat) (t:T_Tok) (j:Nat):x.1.getD j 0≤(wtA x t).1.getD j 0∧x.2.getD j 0≤(wtA x t).2.getD j 0:=by
 unfold wtA
 split
 ·exact ⟨inc_mono _ _ _,Nat.le_refl _⟩
 ·exact ⟨inc_mono _ _ _,inc_mono _ _ _⟩
theorem fold_mono:∀ (l:List T_Tok) (x:List Nat×List Nat) (j:Nat),x.1.getD j 0≤(l.foldl wtA x).1.getD j 0∧x.2.getD j 0≤(l.foldl wtA x).2.getD j 0
 | [],x,j=>⟨Nat.le_refl _,Nat.le_refl _⟩
 | t::l,x,j=>by
  have h1:=wtA_mono x t j
  have h2:=fold_mono l (wtA x t) j
  exact ⟨Nat.le_trans h1.1 h2.1,Nat.le_trans h1.2 h2.2⟩
def used (x:List Nat×List Nat) (t:T_Tok):Prop:=if t.Len=0 then 0<x.1.getD t.Byte.toNat 0 else 0<x.1.getD (lnN t.Len.toNat).1 0∧0<x.2.getD (dsN t.Dist.toNat).1 0
theorem used_step {x:List Nat×List Nat} {c:Nat} (h:WtI x c) {t:T_Tok} (ht:okTk t):used (wtA x t) t:=by
 unfold used wtA
 by_cases h0:t.Len=0
 ·rw [if_pos h0,if_pos h0,inc_at (by rw [h.la]; have:=ht.1; omega),if_pos rfl]; omega
 ·rw [if_neg h0,if_neg h0]
  rcases ht.2 with h1 | ⟨h1,h2,h3,h4⟩
  ·exact absurd h1 h0
  obtain ⟨l1,l2,l3,l4,l5⟩:=ln_ok (n:=t.Len.toNat) (by omega) (by omega)
  obtain ⟨d1,d2,d3,d4⟩:=ds_ok (n:=t.Dist.toNat) (by omega) (by omega)
  rw [inc_at (by rw [h.la]; omega),if_pos rfl,inc_at (by rw [h.ld]; omega),if_pos rfl]
  omega
theorem used_mono {x y:List Nat×List Nat} (h:∀ j,x.1.getD j 0≤y.1.getD j 0∧x.2.getD j 0≤y.2.getD j 0) {t:T_Tok} (hu:used x t):used y t:=by
 unfold used at *
 split
 ·rename_i h0
  rw [if_pos h0] at hu
  exact Nat.lt_of_lt_of_le hu (h _).1
 ·rename_i h0
  rw [if_neg h0] at hu
  exact ⟨Nat.lt_of_lt_of_le hu.1 (h _).1,Nat.lt_of_lt_of_le hu.2 (h _).2⟩
theorem used_fold:∀ (l:List T_Tok) (x:List Nat×List Nat) (c:Nat),WtI x c→(∀ t∈l,okTk t)→∀ t∈l,used (l.foldl wtA x) t
 | t0::l,x,c,h,ho,t,ht=>by
  rw [List.foldl_cons]
  rcases List.mem_cons.1 ht with rfl | hm
  ·exact used_mono (fold_mono l (wtA x t)) (used_step h (ho t List.mem_cons_self))
  ·exact used_fold l (wtA x t0) (c+1) (wtI_step h t0) (fun y hy=>ho y (List.mem_cons_of_mem _ hy)) t hm
theorem used_end (l:List T_Tok):0<(wtN l).1.getD 256 0:=by
 have h1:wts0.1.getD 256 0=1:=by kernel_rfl
 have h2:=(fold_mono l wts0 256).1
 unfold wtN
 omega
theorem ints_D (w:List Nat) (j:Nat):(ints w).getD j 0=((w.getD j 0:Nat):Int):=by
 simp only [ints,List.getD_eq_getElem?_getD,List.getElem?_map]
 cases w[j]? <;> simp
end Go.Abs.Sh
