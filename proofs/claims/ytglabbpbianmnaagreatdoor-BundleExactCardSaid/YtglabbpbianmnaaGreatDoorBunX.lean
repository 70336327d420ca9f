import Derived.Test.YtglabbpbianmnaaGreatDoorBunF
set_option linter.unusedVariables false
set_option linter.unusedSimpArgs false
set_option linter.unusedSectionVars false
namespace Go.Abs.Sh
set_option linter.unusedVariables false
set_option linter.unusedSimpArgs false
set_option maxRecDepth 100000
def tr (c:Int):Bool:=decide (48≤c)&&decide (c≤57)
theorem IX (s t:Li):(s.toList==t.toList)=decide (ao s=ao t):=by
 rw [cq]
 exact decide_eq_decide.2 kq
theorem sY {l:List Int} {p:Int→Bool} (h:¬ ∀ i,i<l.length→p (l.getD i 0)=true):l.all p=false:=by
 cases e:l.all p with
 | false=>rfl
 | true=>exact absurd ((mu l p).1 e) h
theorem DU {b:UInt8} (h:48≤b.toNat∧b.toNat≤57):Lib.digitVal b=some (b.toNat-48):=by
 unfold Lib.digitVal; rw [if_pos h]
theorem zB (s:Li) (hs:s.size<4611686018427387904):(aT (S:=(Int)) (O:=(Unit)⊕(Int×Bool)) (fun (s24:Int) =>
     cond ((decide (s24<(s.size:Int))))
      (aI (S:=Bool) (A:=((Int)⊕((Unit)⊕(Int×Bool))))
       ((dk s s24).bind fun v9 =>
       cond ((decide (v9<48)))
        (some (.inl true))
        ((dk s s24).bind fun v10 =>
        some (.inl ((decide (57<v10))))))
       (fun (s38:Bool) =>
        cond (s38)
         (some (.inr (.inr ((0,false)))))
         ((some (IntKind.i64.wrap (s24+1))).bind fun v16 =>
         some (.inl v16))) some)
      (some (.inr (.inl ()))))
     bX 0)=some (if (ao s).all tr=true then .inl () else .inr (0,false)):=by
 have hstep:∀ i:Nat,i<s.size→((dk s (i:Int)).bind fun v9 =>
       cond ((decide (v9<48)))
        (some (.inl true))
        ((dk s (i:Int)).bind fun v10 =>
        some (.inl ((decide (57<v10))))):Option (Bool⊕((Int)⊕((Unit)⊕(Int×Bool)))))=some (.inl (!tr ((ao s).getD i 0))):=by
  intro i hi
  have hc:=jT hi
  refine ar hc ?_
  unfold tr
  by_cases h1:(ao s).getD i 0<48
  ·rw [decide_eq_true h1,decide_eq_false (p:=48≤(ao s).getD i 0) (by omega)]; rfl
  ·rw [decide_eq_false h1,decide_eq_true (p:=48≤(ao s).getD i 0) (by omega)]
   refine ar hc ?_
   by_cases h2:(ao s).getD i 0≤57
   ·rw [decide_eq_true h2,decide_eq_false (by omega)]; rfl
   ·rw [decide_eq_false h2,decide_eq_true (by omega)]; rfl
 have hloop:=gK (R:=Int×Bool) (f:=fun (s24:Int) =>
     cond ((decide (s24<(s.size:Int))))
      (aI (S:=Bool) (A:=((Int)⊕((Unit)⊕(Int×Bool))))
       ((dk s s24).bind fun v9 =>
       cond ((decide (v9<48)))
        (some (.inl true))
        ((dk s s24).bind fun v10 =>
        some (.inl ((decide (57<v10))))))
       (fun (s38:Bool) =>
        cond (s38)
         (some (.inr (.inr ((0,false)))))
         ((some (IntKind.i64.wrap (s24+1))).bind fun v16 =>
         some (.inl v16))) some)
      (some (.inr (.inl ())))) (fun i=>tr ((ao s).getD i 0)) s.size (0,false) (fuel:=bX) (by simp only [bX]; omega)
  (fun i hi hp=>by
   replace hp:tr ((ao s).getD i 0)=true:=hp
   have:=hstep i hi
   rw [hp] at this
   exact ap (decide_eq_true (by omega)) (aL this (ak rfl (ar (nm (by omega) (by omega)) rfl))))
  (fun i hi hp=>by
   replace hp:tr ((ao s).getD i 0)=false:=hp
   have:=hstep i hi
   rw [hp] at this
   exact ap (decide_eq_true (by omega)) (aL this (ap rfl rfl)))
  (ak (decide_eq_false (by omega)) rfl)
 rw [hloop]
 congr 1
 by_cases h:∀ i,i<s.size→tr ((ao s).getD i 0)=true
 ·rw [if_pos h,if_pos ((mu _ _).2 (by rw [aN]; exact h))]
 ·rw [if_neg h,if_neg (by rw [sY (by rw [aN]; exact h)]; simp)]
def nY:Nat→List Int→Nat
 | acc,[]=>acc
 | acc,c::l=>nY (acc * 10+(c-48).toNat) l
theorem yL:∀ (l:List UInt8) (acc:Nat),(∀ b∈l,48≤b.toNat∧b.toNat≤57)→Lib.decFrom acc l=some (nY acc (l.map fun b=>((b.toNat:Nat):Int)))
 | [],acc,_=>rfl
 | b::r,acc,h=>by
  have hb:=h b List.mem_cons_self
  unfold Lib.decFrom
  rw [DU hb]
  show Lib.decFrom (acc * 10+(b.toNat-48)) r=_
  rw [yL r _ fun x hx=>h x (List.mem_cons_of_mem _ hx)]
  have e:(((b.toNat:Nat):Int)-48).toNat=b.toNat-48:=by omega
  simp only [List.map_cons,nY,e]
theorem CY (s:Li) (h0:ao s≠[]) (h:(ao s).all tr=true) (hs:s.size≤18):strconv_Atoi s=some (((nY 0 (ao s):Nat):Int),()):=by
 unfold strconv_Atoi
 rw [if_pos hs]
 have hb:∀ b∈s.data.toList,48≤b.toNat∧b.toNat≤57:=by
  intro b hb
  have:((b.toNat:Nat):Int)∈ao s:=by
   unfold ao
   exact List.mem_map.2 ⟨b,hb,rfl⟩
  have:=List.all_eq_true.1 h _ this
  simp only [tr,Bool.and_eq_true,decide_eq_true_eq] at this
  omega
 have hv:=yL s.data.toList 0 hb
 have hsb:ao s=s.data.toList.map fun b=>((b.toNat:Nat):Int):=rfl
 rw [← hsb] at hv
 cases hl:s.data.toList with
 | nil=>exact absurd (by unfold ao; rw [hl]; rfl) h0
 | cons b r =>
  rw [hl] at hb hv
  have hbb:=hb b List.mem_cons_self
  have h45:(b==45)=false:=beq_eq_false_iff_ne.2 fun e=>by rw [e] at hbb; exact absurd hbb.1 (by decide)
  have h43:(b==43)=false:=beq_eq_false_iff_ne.2 fun e=>by rw [e] at hbb; exact absurd hbb.1 (by decide)
  have he:Lib.atoi (b::r)=some ((nY 0 (ao s):Nat):Int):=by
   unfold Lib.atoi
   simp only [h45,h43,Bool.false_eq_true,if_false,Lib.decNat,List.isEmpty_cons,hv]
   rfl
  rw [he]
  rfl
theorem yT:∀ (k n:Nat) (acc:List Int),n<10 ^ (k+1)→nY 0 (kM k n acc)=nY n acc
 | 0,n,acc,hn=>by
  show nY (0 * 10+(48+(n:Int)-48).toNat) acc=_
  congr 1; omega
 | k+1,n,acc,hn=>by
  unfold kM
  by_cases h9:n≤9
  ·rw [if_pos h9]
   show nY (0 * 10+(48+(n:Int)-48).toNat) acc=_
   congr 1; omega
  ·rw [if_neg h9,yT k _ _ (by rw [Nat.pow_succ] at hn; omega)]
   show nY (n / 10 * 10+(48+((n % 10:Nat):Int)-48).toNat) acc=_
   congr 1; omega
theorem xd:∀ (k n:Nat) (acc:List Int),1≤n→n<10 ^ (k+1)→∃ c t,kM k n acc=c::t∧49≤c
 | 0,n,acc,h1,hn=>⟨48+(n:Int),acc,rfl,by omega⟩
 | k+1,n,acc,h1,hn=>by
  unfold kM
  by_cases h9:n≤9
  ·rw [if_pos h9]; exact ⟨_,_,rfl,by omega⟩
  ·rw [if_neg h9]; exact xd k _ _ (by omega) (by rw [Nat.pow_succ] at hn; omega)
theorem Dp:∀ (k:Nat) (acc:List Int),kM k 0 acc=48::acc
 | 0,_=>rfl
 | k+1,acc=>by unfold kM; rw [if_pos (by omega)]; rfl
theorem zx:∀ (k j n:Nat) (acc:List Int),n<10 ^ (j+1)→j≤k→(kM k n acc).length≤acc.length+j+1
 | 0,j,n,acc,_,_=>by show acc.length+1≤acc.length+j+1; omega
 | k+1,j,n,acc,hn,hj=>by
  unfold kM
  by_cases h9:n≤9
  ·rw [if_pos h9]; simp only [List.length_cons]; omega
  ·rw [if_neg h9]
   cases j with
   | zero=>exact absurd (show n<10 from hn) (by omega)
   | succ j =>
    have:=zx k j (n / 10) ((48+((n % 10:Nat):Int))::acc) (by rw [Nat.pow_succ] at hn; omega) (by omega)
    simp only [List.length_cons] at this
    omega
def du (l:List Int):Bool := !l.isEmpty&&(decide (l.length≤10)&&(!(l.head? == some 48&&decide (l≠[48]))&&l.all tr))
theorem ru (s:Li):∃ n,fN s 10=some (n,du (ao s))∧(du (ao s)=true→n=((nY 0 (ao s):Nat):Int)):=by
 unfold fN du
 have hE:=Ft s
 cases he:(ao s).isEmpty with
 | true=>exact ⟨0,aL (s:=true) (ap (by rw [hE,he]) rfl) (ap rfl rfl),fun h=>by cases h⟩
 | false =>
  rw [he] at hE
  by_cases hl:(ao s).length≤10
  ·rw [decide_eq_true hl]
   rw [aN] at hl
   have hne:ao s≠[]:=by intro h; rw [h] at he; cases he
   have h0:0<s.size:=by
    rw [← aN]; exact List.length_pos_iff.2 hne
   have hc:=jT h0
   have hh:=lp hne
   have hz:((s.toList==(⟨#[48]⟩:Li).toList))=decide (ao s=[48]):=by rw [IX]; rfl
   have hcond:∀ (Z:Option (Bool⊕(Int×Bool))),Z=((dk s 0).bind fun v2 =>
    cond ((v2==48))
     (some (.inl ((!(s.toList==(⟨#[48]⟩:Li).toList)))))
     (some (.inl false)))→Z=some (.inl ((ao s).head? == some 48&&decide (ao s≠[48]))):=by
    intro Z hZ
    rw [hZ]
    refine ar hc ?_
    rw [hh,hz]
    by_cases h48:(ao s).getD 0 0=48
    ·rw [h48]
     by_cases h1:ao s=[48]
     ·simp [h1]
     ·simp [h1]
    ·have e1:((ao s).getD 0 0==48)=false:=beq_eq_false_iff_ne.2 h48
     rw [e1]
     have e2:(some ((ao s).getD 0 0)==some (48:Int))=false:=beq_eq_false_iff_ne.2 fun h=>h48 (Option.some.inj h)
     rw [e2]; rfl
   have hfirst:=hcond _ rfl
   cases hq:((ao s).head? == some 48&&decide (ao s≠[48])) with
   | true =>
    rw [hq] at hfirst
    exact ⟨0,aL (s:=true) (ak hE (ar (x:=10) rfl (ak (decide_eq_false (by omega)) hfirst))) (ap rfl rfl),fun h=>by cases h⟩
   | false =>
    rw [hq] at hfirst
    cases hd:(ao s).all tr with
    | true =>
     have hr:=CY s hne hd (by omega)
     have hlp:=zB s (by omega)
     rw [hd,if_pos rfl] at hlp
     exact ⟨_,aL (s:=false) (ak hE (ar (x:=10) rfl (ak (decide_eq_false (by omega)) hfirst))) (ak rfl (aL hlp (ar hr rfl))),fun _=>rfl⟩
    | false =>
     have hlp:=zB s (by omega)
     rw [hd,if_neg (by simp)] at hlp
     exact ⟨0,aL (s:=false) (ak hE (ar (x:=10) rfl (ak (decide_eq_false (by omega)) hfirst))) (ak rfl (jW hlp rfl)),fun h=>by cases h⟩
  ·rw [decide_eq_false hl]
   rw [aN] at hl
   exact ⟨0,aL (s:=true) (ak hE (ar (x:=10) rfl (ap (decide_eq_true (by omega)) rfl))) (ap rfl rfl),fun h=>by cases h⟩
theorem vq {n:Nat} (h:n<10 ^ 18):∀ x∈kM 20 n [],Aq x:=by
 obtain ⟨t,h1,h2,h3,h4⟩:=uF 20 n [] (by omega)
 rw [h1,List.append_nil]
 exact h2
theorem Eb {n:Nat} (h:n<10 ^ 10):fN (aO (kM 20 n [])) 10=some ((n:Int),true):=by
 obtain ⟨hb,_⟩:=rU (n:=n) (by omega)
 have hd:=vq (n:=n) (by omega)
 obtain ⟨t,h1,h2,h3,h4⟩:=uF 20 n [] (by omega)
 rw [List.append_nil] at h1
 have hl:=zx 20 9 n [] (by omega) (by omega)
 obtain ⟨m,hm,hv⟩:=ru (aO (kM 20 n []))
 rw [aK hb] at hm hv
 have hT:du (kM 20 n [])=true:=by
  unfold du
  have e1:(kM 20 n []).isEmpty=false:=by
   cases he:kM 20 n [] with
   | nil=>rw [← h1,he] at h3; exact absurd h3 (by simp)
   | cons=>rfl
  have e2:(kM 20 n []).all tr=true:=by
   rw [List.all_eq_true]
   intro x hx
   have:=hd x hx
   unfold Aq at this
   simp only [tr,Bool.and_eq_true,decide_eq_true_eq]
   exact this
  rw [e1,e2,decide_eq_true (by simpa using hl)]
  by_cases hn:n=0
  ·subst hn
   rw [Dp]; rfl
  ·obtain ⟨c,r,hc,hc2⟩:=xd 20 n [] (by omega) (by omega)
   rw [hc]
   have:(some c==some (48:Int))=false:=beq_eq_false_iff_ne.2 fun h=>by have:=Option.some.inj h; omega
   simp only [List.head?_cons,this]
   rfl
 rw [hT] at hm
 rw [hm,hv hT,yT 20 n [] (by omega)]
 rfl
set_option maxRecDepth 100000
def KT (sep:Li) (sepSave v14:Int):((Li×(List Li)×Int))→Option ((Li×(List Li)×Int)⊕((Li×(List Li)×Int)⊕(List Li))):=(fun ((s65,s66,s67):Li×(List Li)×Int) =>
 cond ((decide (s67<v14)))
  ((di s65 sep).bind fun v16 =>
  cond ((decide (v16<0)))
   (some (.inr (.inl (s65,s66,s67))))
   ((some (IntKind.i64.wrap (v16+sepSave))).bind fun v18 =>
   (fL s65 0 v18).bind fun v19 =>
   (cl s67 s66.length).bind fun v20 =>
   (some (s66.set v20 v19)).bind fun v21 =>
   (some (IntKind.i64.wrap (v16+(sep.size:Int)))).bind fun v22 =>
   (fL s65 v22 (s65.size:Int)).bind fun v23 =>
   (some (IntKind.i64.wrap (s67+1))).bind fun v24 =>
   some (.inl (v23,v21,v24))))
  (some (.inr (.inl (s65,s66,s67)))))
def IV (v9:List Li):(((List Int)×Int))→Option (((List Int)×Int)⊕(((List Int))⊕(aX×Bool))):=(fun ((s22,s23):(List Int)×Int) =>
 cond ((decide (s23<(v9.length:Int))))
  ((cl s23 v9.length).bind fun v11 =>
  (aQ v9 v11).bind fun v12 =>
  (fN v12 10).bind fun v13 =>
  cond ((!v13.2))
   (some (.inr (.inr (((aX.mk 0 0 0 0),false)))))
   ((cl s23 5).bind fun v15 =>
   (xo s22 v15 v13.1).bind fun v16 =>
   (some (IntKind.i64.wrap (s23+1))).bind fun v17 =>
   some (.inl (v16,v17))))
  (some (.inr (.inl s22))))
theorem tF:∀ (l:List UInt8),(fa 32 (l.map fun b=>((b.toNat:Nat):Int))).length=Lib.countByte l 32+1
 | []=>rfl
 | b::l=>by
  have ih:=tF l
  unfold Lib.countByte at ih ⊢
  rw [List.map_cons,List.count_cons]
  unfold fa
  by_cases h:b=32
  ·subst h
   rw [if_pos (by decide),List.length_cons,ih]
   simp
  ·have h2:¬ ((b.toNat:Nat):Int)=32:=fun e=>h (UInt8.toNat_inj.1 (show b.toNat=32 by omega))
   rw [if_neg h2]
   have h3:(b==32)=false:=beq_eq_false_iff_ne.2 h
   rw [h3]
   cases hs:fa 32 (l.map fun b=>((b.toNat:Nat):Int)) with
   | nil=>exact absurd hs (ji _ _)
   | cons p ps=>rw [hs] at ih; simpa using ih
theorem tG {c:Int} {l:List Int} (h:c∈l):∃ p r,l=p++c::r∧c ∉ p:=by
 cases hi:jg c l with
 | none=>exact absurd h (ny.1 hi)
 | some e =>
  obtain ⟨h1,h2,h3⟩:=kb hi
  exact ⟨_,_,h2,h3⟩
theorem xn {A:Type} (L:List A) (x e:A) (k:Nat):(L++List.replicate (k+1) e).set L.length x=(L++[x])++List.replicate k e:=by
 rw [List.set_append_right _ _ (Nat.le_refl _),Nat.sub_self,List.replicate_succ,List.set_cons_zero,List.append_assoc]
 rfl
theorem za:∀ (k:Nat) (l:List Int) (L:List Li) (fuel:Nat),bM l→(fa 32 l).length=k+1→k<fuel→l.length<1000000→L.length+k<1000000 →
  ∃ a x,fa 32 l=a++[x]∧aT (KT (⟨#[32]⟩:Li) 0 ((L.length+k:Nat):Int)) fuel (aO l,L++List.replicate (k+1) (⟨#[]⟩:Li),(L.length:Int))=some (.inl (aO x,L++a.map aO++[(⟨#[]⟩:Li)],((L.length+k:Nat):Int)))
 | 0,l,L,fuel,hb,hl,hf,hL,hk=>by
  obtain ⟨f,rfl⟩:∃ f,fuel=f+1:=⟨fuel-1,by omega⟩
  have h32:(32:Int) ∉ l:=by
   intro h
   obtain ⟨p,r,e,hp⟩:=tG h
   rw [e,oW hp,List.length_cons] at hl
   have:=List.length_pos_iff.2 (ji 32 r)
   omega
  refine ⟨[],l,by rw [pq h32]; rfl,?_⟩
  exact aV (ak (decide_eq_false (by omega)) (by simp))
 | k+1,l,L,fuel,hb,hl,hf,hL,hk=>by
  obtain ⟨f,rfl⟩:∃ f,fuel=f+1:=⟨fuel-1,by omega⟩
  have h32:(32:Int)∈l:=by
   apply Classical.byContradiction
   intro h
   rw [pq h] at hl
   simp at hl
  obtain ⟨p,r,e,hp⟩:=tG h32
  have hsp:fa 32 l=p::fa 32 r:=by rw [e,oW hp]
  have hbp:bM p:=fun x hx=>hb x (by rw [e]; exact List.mem_append_left _ hx)
  have hbr:bM r:=fun x hx=>hb x (by rw [e]; exact List.mem_append_right _ (List.mem_cons_of_mem _ hx))
  have hlen:l.length=p.length+(r.length+1):=by rw [e]; simp
  have hix:=qp (n:=32) (by decide) (aO l)
  rw [aK hb,show ((32:Nat):Int)=32 from rfl,e,rA hp,← e] at hix
  have hsz:(aO l).size=l.length:=cX l
  have s1:=fX (s:=aO l) (a:=0) (b:=p.length) (by omega) (by omega)
  have s2:=fX (s:=aO l) (a:=p.length+1) (b:=(aO l).size) (by omega) (by omega)
  have e1:((ao (aO l)).drop 0).take (p.length-0)=p:=by rw [aK hb,e]; simp
  have e2:((ao (aO l)).drop (p.length+1)).take ((aO l).size-(p.length+1))=r:=by
   rw [aK hb,hsz,hlen]
   have:l=(p++[32])++r:=by rw [e]; simp
   rw [this,List.drop_append_of_le_length (by simp),List.drop_of_length_le (by simp),List.nil_append,List.take_of_length_le (by omega)]
  rw [e1] at s1
  rw [e2] at s2
  obtain ⟨a,x,ha,hr⟩:=za k r (L++[aO p]) f hbr (by rw [hsp] at hl; simpa using hl) (by omega) (by omega) (by simp; omega)
  refine ⟨p::a,x,by rw [hsp,ha]; rfl,?_⟩
  have hw:((L.length+(k+1):Nat):Int)=(((L++[aO p]).length+k:Nat):Int):=by simp; omega
  rw [hw]
  refine (bC (ap (decide_eq_true (by simp; omega)) (ar hix (ak (decide_eq_false (by simp)) (ar (nm (n:=(p.length:Int)+0) (by omega) (by omega)) (ar (x:=aO p) (by rw [Int.add_zero]; exact s1)
   (ar (bk (i:=L.length) (by simp)) (ar (congrArg some (xn _ _ _ _)) (ar (x:=((p.length+1:Nat):Int)) (by rw [show (((⟨#[32]⟩:Li).size:Nat):Int)=1 from rfl]; exact congrArg some (aZ (by omega)))
   (ar s2 (ar (congrArg some (aZ (n:=L.length) (by omega))) rfl))))))))))).trans ?_
  have:=hr
  simp only [List.length_append,List.length_cons,List.length_nil] at this ⊢
  rw [this]
  simp
theorem BT {l:List Int} (hb:bM l) (hl:l.length≤5000):gJ (aO l) (⟨#[32]⟩:Li)=some ((fa 32 l).map aO):=by
 have hc:=tF (aO l).data.toList
 have hsb:(aO l).data.toList.map (fun b=>((b.toNat:Nat):Int))=l:=aK hb
 rw [hsb] at hc
 have hcL:Lib.countByte (aO l).data.toList 32≤l.length:=by
  unfold Lib.countByte
  refine Nat.le_trans List.count_le_length ?_
  have:(aO l).data.toList.length=l.length:=by
   have:=congrArg List.length hsb
   simpa using this
  omega
 generalize hk:Lib.countByte (aO l).data.toList 32=k at *
 have hcnt:gI (aO l) (⟨#[32]⟩:Li)=some (k:Int):=by rw [← hk]; rfl
 obtain ⟨a,x,ha,hloop⟩:=za k l [] bX hb hc (by simp only [bX]; omega) (by omega) (by simp; omega)
 have hsz:(aO l).size=l.length:=cX l
 simp only [List.length_nil,List.nil_append,Nat.zero_add] at hloop
 have hal:a.length=k:=by rw [ha] at hc; simpa using hc
 unfold gJ gE
 refine ar (ak rfl (ak (by rw [Ft]; rfl) (aL (ap rfl (ar hcnt (ar (congrArg some (aZ (n:=k) (by omega))) rfl))) (ar (congrArg some (aZ (n:=(aO l).size) (by omega))) (ar (x:=((k+1:Nat):Int)) (by rw [if_neg (by omega)])
  (ar (x:=List.replicate (k+1) (⟨#[]⟩:Li)) ?_ (ar (x:=(k:Int)) (by rw [dO (by omega) (by omega)]; congr 1; omega) (aL hloop ?_)))))))) rfl
 ·unfold IM
  rw [if_pos (by omega)]
  simp
 ·have hset:(a.map aO++[(⟨#[]⟩:Li)]).set k (aO x)=(fa 32 l).map aO:=by
   have:=xn (a.map aO) (aO x) (⟨#[]⟩:Li) 0
   rw [List.length_map,hal] at this
   rw [show [(⟨#[]⟩:Li)]=List.replicate (0+1) (⟨#[]⟩:Li) from rfl,this,ha]
   simp
  have hsl:=dB ((fa 32 l).map aO) (a:=0) (b:=k+1) (by omega) (by rw [List.length_map,hc]; exact Nat.le_refl _)
  refine ar (bk (i:=k) (by simp [hal])) (ar (congrArg some hset) (ar (congrArg some (aZ (n:=k) (by omega))) (ar hsl ?_)))
  rw [List.drop_zero,Nat.sub_zero,List.take_of_length_le (by rw [List.length_map,hc]; exact Nat.le_refl _)]
set_option maxRecDepth 100000
def zH:aX:=aX.mk 0 0 0 0
theorem vT {v9:List Li} {i:Nat} {w arr:List Int} (hi:i<5) (hl:v9.length=5) (hg:aQ v9 i=some (aO w)) (hb:bM w) (hn:du w=false):IV v9 (arr,(i:Int))=some (.inr (.inr (zH,false))):=by
 obtain ⟨m,hm,_⟩:=ru (aO w)
 rw [aK hb,hn] at hm
 exact ap (decide_eq_true (by omega)) (ar (bk (by omega)) (ar hg (ar hm (ap rfl rfl))))
theorem rI {v9:List Li} {i:Nat} {w arr arr':List Int} (hi:i<5) (hl:v9.length=5) (hg:aQ v9 i=some (aO w)) (hb:bM w) (hn:du w=true) (hs:xo arr i ((nY 0 w:Nat):Int)=some arr'):IV v9 (arr,(i:Int))=some (.inl (arr',((i+1:Nat):Int))):=by
 obtain ⟨m,hm,hv⟩:=ru (aO w)
 rw [aK hb] at hm hv
 rw [hv hn,hn] at hm
 exact ap (decide_eq_true (by omega)) (ar (bk (by omega)) (ar hg (ar hm (ak rfl (ar (bk hi) (ar hs (ar (congrArg some (aZ (n:=i) (by omega))) rfl)))))))
theorem Gd {v9:List Li} {arr:List Int} (hl:v9.length=5):IV v9 (arr,((4+1:Nat):Int))=some (.inr (.inl arr)):=ak (decide_eq_false (by omega)) rfl
def vI (w:List Int):Int:=((nY 0 w:Nat):Int)
theorem Dz (a b c d e:List Int) (ha:bM a) (hb:bM b) (hc:bM c) (hd:bM d) (he:bM e) :
  aT (IV [aO a,aO b,aO c,aO d,aO e]) bX (List.replicate 5 (0:Int),0)=some (if (du a&&(du b&&(du c&&(du d&&du e))))=true then .inl [vI a,vI b,vI c,vI d,vI e] else .inr (zH,false)):=by
 cases na:du a
 ·exact aV (vT (i:=0) (by omega) rfl rfl ha na)
 refine (bC (rI (i:=0) (arr':=[vI a,0,0,0,0]) (by omega) rfl rfl ha na rfl)).trans ?_
 cases nb:du b
 ·exact aV (vT (i:=1) (by omega) rfl rfl hb nb)
 refine (bC (rI (i:=1) (arr':=[vI a,vI b,0,0,0]) (by omega) rfl rfl hb nb rfl)).trans ?_
 cases nc:du c
 ·exact aV (vT (i:=2) (by omega) rfl rfl hc nc)
 refine (bC (rI (i:=2) (arr':=[vI a,vI b,vI c,0,0]) (by omega) rfl rfl hc nc rfl)).trans ?_
 cases nd:du d
 ·exact aV (vT (i:=3) (by omega) rfl rfl hd nd)
 refine (bC (rI (i:=3) (arr':=[vI a,vI b,vI c,vI d,0]) (by omega) rfl rfl hd nd rfl)).trans ?_
 cases ne:du e
 ·exact aV (vT (i:=4) (by omega) rfl rfl he ne)
 refine (bC (rI (i:=4) (arr':=[vI a,vI b,vI c,vI d,vI e]) (by omega) rfl rfl he ne rfl)).trans ?_
 exact aV (Gd rfl)
def sE:List (List Int)→aX×Bool
 | [w,a,b,c,d,e]=>if w=fR then (if (du a&&(du b&&(du c&&(du d&&du e))))=true then (⟨vI a,vI b,vI d,vI e⟩,decide (vI a≤1)) else (zH,false)) else (zH,false)
 | _=>(zH,false)
def pb (l:List Int):aX×Bool:=sE (fa 32 l)
theorem Kw {A:Type} {l:List A} (h:l.length=6):∃ w a b c d e,l=[w,a,b,c,d,e]:=by
 match l,h with
 | [w,a,b,c,d,e],_=>exact ⟨w,a,b,c,d,e,rfl⟩
theorem zw {ws:List (List Int)} (h:ws.length≠6):sE ws=(zH,false):=by
 unfold sE
 split
 ·exact absurd rfl h
 ·rfl
theorem uV:∀ {l:List Int},bM l→∀ p∈fa 32 l,bM p
 | [],_=>by intro p hp; simp only [fa,List.mem_singleton] at hp; rw [hp]; exact dx
 | x::l,h=>by
  have hl:bM l:=fun y hy=>h y (List.mem_cons_of_mem _ hy)
  have hx:=h x List.mem_cons_self
  have ih:=uV hl
  intro p hp
  unfold fa at hp
  split at hp
  ·rcases List.mem_cons.1 hp with rfl | hp
   ·exact dx
   ·exact ih p hp
  ·cases hs:fa 32 l with
   | nil=>exact absurd hs (ji _ _)
   | cons q qs =>
    rw [hs] at hp ih
    rcases List.mem_cons.1 hp with rfl | hp
    ·exact dj hx (ih q List.mem_cons_self)
    ·exact ih p (List.mem_cons_of_mem _ hp)
theorem km {l:List Int} (hb:bM l) (hl:l.length≤5000):dS (aO l)=some (pb l):=by
 have hsp:=BT hb hl
 have hby:=uV hb
 unfold dS pb
 refine ar hsp ?_
 generalize fa 32 l=ws at hby
 by_cases h6:ws.length=6
 case neg =>
  rw [zw h6]
  exact aL (s:=true) (ap (by rw [List.length_map]; exact bne_iff_ne.2 (by omega)) rfl) (ap rfl rfl)
 obtain ⟨w,a,b,c,d,e,rfl⟩:=Kw h6
 have bw:=hby w (by simp)
 have hv:=Dz a b c d e (hby a (by simp)) (hby b (by simp)) (hby c (by simp)) (hby d (by simp)) (hby e (by simp))
 have hq:((aO w).toList==(⟨#[66,85,78,68,76,69]⟩:Li).toList)=decide (w=fR):=by
  rw [IX,aK bw]; rfl
 refine aL (s := !decide (w=fR)) (ak rfl (ar (x:=0) rfl (ar (x:=aO w) rfl (by rw [hq])))) ?_
 unfold sE
 by_cases hw:w=fR
 ·rw [decide_eq_true hw]
  simp only [if_pos hw]
  refine ak rfl (ar (x:=[aO a,aO b,aO c,aO d,aO e]) rfl ?_)
  by_cases hn:(du a&&(du b&&(du c&&(du d&&du e))))=true
  ·simp only [if_pos hn] at hv ⊢
   exact aL hv (ar (x:=0) rfl (ar rfl (ar (x:=1) rfl (ar rfl (ar (x:=3) rfl (ar rfl (ar (x:=4) rfl (ar rfl rfl))))))))
  ·simp only [if_neg hn] at hv ⊢
   exact jW hv rfl
 ·rw [decide_eq_false hw]
  simp only [if_neg hw]
  exact ap rfl rfl
theorem Da {n:Nat} (h:n<10 ^ 18):(32:Int) ∉ kM 20 n []:=fun hx=>by
 have:=vq h _ hx
 unfold Aq at this
 omega
theorem yN:∀ (ns:List Nat) (p:List Int),(∀ n∈ns,n<10 ^ 18)→(32:Int) ∉ p→fa 32 (p++fW ns)=p::ns.map fun n=>kM 20 n []
 | [],p,_,hp=>by simp only [fW,List.append_nil]; rw [pq hp]; rfl
 | n::ns,p,hn,hp=>by
  simp only [fW]
  rw [oW hp,yN ns _ (fun m hm=>hn m (List.mem_cons_of_mem _ hm)) (Da (hn n List.mem_cons_self))]
  rfl
theorem sD {n:Nat} (h:n<10 ^ 10):du (kM 20 n [])=true∧vI (kM 20 n [])=(n:Int):=by
 have h1:=Eb h
 obtain ⟨hb,_⟩:=rU (n:=n) (by omega)
 obtain ⟨m,hm,hv⟩:=ru (aO (kM 20 n []))
 rw [aK hb] at hm hv
 rw [h1] at hm
 have:=Prod.mk.inj (Option.some.inj hm)
 refine ⟨this.2.symm,?_⟩
 unfold vI
 rw [← hv this.2.symm,← this.1]
theorem HB:(32:Int) ∉ fR:=by decide
theorem Al {o n k s v:Nat} (ho:o<10 ^ 10) (hn:n<10 ^ 10) (hk:k<10 ^ 10) (hs:s<10 ^ 10) (hv:v<10 ^ 10):pb (fR++fW [o,n,k,s,v])=(⟨o,n,s,v⟩,decide ((o:Int)≤1)):=by
 unfold pb
 rw [yN _ _ (by intro m hm; simp only [List.mem_cons,List.not_mem_nil,or_false] at hm; omega) HB]
 obtain ⟨a1,a2⟩:=sD ho
 obtain ⟨b1,b2⟩:=sD hn
 obtain ⟨c1,c2⟩:=sD hk
 obtain ⟨d1,d2⟩:=sD hs
 obtain ⟨e1,e2⟩:=sD hv
 show sE [fR,kM 20 o [],kM 20 n [],kM 20 k [],kM 20 s [],kM 20 v []]=_
 unfold sE
 simp only [a1,b1,c1,d1,e1,a2,b2,d2,e2,Bool.and_self,if_true]
set_option maxRecDepth 10000
theorem rm (a:Nat) (ha:a<9223372036854775808):(BitVec.ofInt 64 (a:Int)).toNat=a:=by
 rw [BitVec.ofInt_natCast,BitVec.toNat_ofNat]; exact Nat.mod_eq_of_lt (by omega)
theorem pJ (a:Nat) (ha:a<9223372036854775808):bits .and .i64 (a:Int) 1=((a % 2:Nat):Int):=by
 show IntKind.i64.wrap ((BitVec.ofInt 64 (a:Int) &&& BitVec.ofInt 64 ((1:Nat):Int)).toNat:Int)=_
 rw [BitVec.toNat_and,rm a ha,rm 1 (by omega),Nat.and_one_is_mod,dO (by omega) (by omega)]
theorem vg (k:IntKind) (a m:Nat) (hm:m≤k.bits):mf k (a:Int) (m:Int)=some ((a / 2 ^ m:Nat):Int):=by
 simp only [mf]
 rw [if_pos (by omega),Int.toNat_natCast,Nat.min_eq_left hm]
 have:(0:Int)≤2 ^ m:=Int.pow_nonneg (by omega)
 rw [Int.fdiv_eq_ediv_of_nonneg _ this]
 congr 1
theorem wH {n:Int} (h0:0≤n) (h1:n<4294967296):IntKind.u32.wrap n=n:=by
 simp only [IntKind.wrap,IntKind.bits,IntKind.signed]
 have e:(2:Int) ^ 32=4294967296:=by decide
 simp only [e,Bool.false_and,Bool.false_eq_true,if_false]
 omega
theorem tM (a:Nat) (ha:a<4294967296):(BitVec.ofInt 32 (a:Int)).toNat=a:=by
 rw [BitVec.ofInt_natCast,BitVec.toNat_ofNat]; exact Nat.mod_eq_of_lt (by omega)
theorem rf (a b:Nat) (ha:a<4294967296) (hb:b<4294967296):bits .xor .u32 (a:Int) (b:Int)=((a ^^^ b:Nat):Int):=by
 have hx:a ^^^ b<2 ^ 32:=Nat.xor_lt_two_pow (by omega) (by omega)
 show IntKind.u32.wrap ((BitVec.ofInt 32 (a:Int) ^^^ BitVec.ofInt 32 (b:Int)).toNat:Int)=_
 rw [BitVec.toNat_xor,tM a ha,tM b hb,wH (by omega) (by omega)]
def ID:List Nat:=[0,4225,8450,12675,16900,21125,25350,29575,33800,38025,42250,46475,50700,54925,59150,63375]
def Ki (r:Nat):Nat:=r / 16 ^^^ ID.getD (r % 16) 0
def Bz (r x:Nat):Nat:=Ki (Ki (r ^^^ x))
def FH (l:List Nat):Nat:=l.foldl Bz 65535 ^^^ 65535
def kK (l:List Int):List Nat:=l.map Int.toNat
theorem nX {l:List Int} (h:∀ n∈l,0≤n∧n<256):∀ x∈kK l,x<256:=by
 intro x hx
 obtain ⟨n,hn,rfl⟩:=List.mem_map.1 hx
 have:=h n hn; omega
def s0 (d x:Nat):Nat:=x / 2 ^^^ (if x % 2=1 then d else 0)
def sn (d:Nat):Nat→Nat→Nat
 | 0,x=>x
 | n+1,x=>sn d n (s0 d x)
theorem vY (a b:Nat):(a ^^^ b) % 2=(a % 2+b % 2) % 2:=by
 have h:=Nat.xor_mod_two_pow (a:=a) (b:=b) (n:=1)
 simp only [Nat.pow_one] at h
 rw [h]
 have h1:a % 2=0∨a % 2=1:=by omega
 have h2:b % 2=0∨b % 2=1:=by omega
 rcases h1 with h1 | h1 <;> rcases h2 with h2 | h2 <;> rw [h1,h2] <;> rfl
theorem Gj (d a b:Nat):s0 d (a ^^^ b)=s0 d a ^^^ s0 d b:=by
 unfold s0
 rw [Nat.xor_div_two,vY]
 have h1:a % 2=0∨a % 2=1:=by omega
 have h2:b % 2=0∨b % 2=1:=by omega
 rcases h1 with h1 | h1 <;> rcases h2 with h2 | h2 <;> rw [h1,h2]
 ·simp
 ·simp [Nat.xor_assoc]
 ·simp; rw [Nat.xor_assoc,Nat.xor_assoc,Nat.xor_comm d]
 ·simp; rw [Nat.xor_assoc,Nat.xor_comm (b / 2) d,← Nat.xor_assoc d d,Nat.xor_self,Nat.zero_xor]
theorem Cs (d n a b:Nat):sn d n (a ^^^ b)=sn d n a ^^^ sn d n b:=by
 induction n generalizing a b with
 | zero=>rfl
 | succ n ih=>simp only [sn]; rw [Gj,ih]
theorem DM (d x:Nat):s0 d (2 * x)=x:=by
 unfold s0; rw [if_neg (by omega),Nat.xor_zero]; omega
theorem wQ (d n x:Nat):sn d n (2 ^ n * x)=x:=by
 induction n generalizing x with
 | zero=>simp [sn]
 | succ n ih=>rw [sn,Nat.pow_succ,Nat.mul_comm (2 ^ n) 2,Nat.mul_assoc,DM,ih]
theorem xJ (d m n x:Nat):sn d (m+n) x=sn d n (sn d m x):=by
 induction m generalizing x with
 | zero=>simp [sn]
 | succ m ih=>rw [Nat.succ_add,sn,sn,ih]
theorem Ib (d x w:Nat) (hd:d<2 ^ w) (hx:x<2 ^ w):s0 d x<2 ^ w:=by
 unfold s0
 refine Nat.xor_lt_two_pow (by omega) ?_
 split
 ·exact hd
 ·exact Nat.pow_pos (by omega)
theorem vD (d x w n:Nat) (hd:d<2 ^ w) (hx:x<2 ^ w):sn d n x<2 ^ w:=by
 induction n generalizing x with
 | zero=>exact hx
 | succ n ih=>exact ih _ (Ib d x w hd hx)
theorem nO (a b k:Nat) (ha:a<2 ^ k):a+2 ^ k * b=a ^^^ 2 ^ k * b:=by
 apply Nat.eq_of_testBit_eq
 intro i
 rw [Nat.testBit_xor,Nat.add_comm,Nat.testBit_two_pow_mul_add _ ha,Nat.testBit_two_pow_mul]
 by_cases hi:i<k
 ·have:¬ (i≥k):=by omega
  simp [hi,this]
 ·have h2:k≤i:=by omega
  have h3:a.testBit i=false:=Nat.testBit_lt_two_pow (Nat.lt_of_lt_of_le ha (Nat.pow_le_pow_right (by omega) h2))
  simp [hi,h2,h3]
theorem xor_zero {a b:Nat} (h:a ^^^ b=0):a=b:=by
 have:(a ^^^ b) ^^^ b=b:=by rw [h,Nat.zero_xor]
 rw [Nat.xor_assoc,Nat.xor_self,Nat.xor_zero] at this
 exact this
def bv:List Nat→Nat
 | []=>0
 | x::l=>x+2 ^ 8 * bv l
def Bl (d:Nat) (l:List Nat) (r:Nat):Nat:=sn d (8 * l.length) (r ^^^ bv l)
theorem uU (d r:Nat):Bl d [] r=r:=by simp [Bl,bv,sn]
theorem rS (d r x:Nat) (l:List Nat) (hx:x<256):Bl d (x::l) r=Bl d l (sn d 8 (r ^^^ x)):=by
 unfold Bl
 have h:bv (x::l)=x ^^^ 2 ^ 8 * bv l:=by
  rw [bv,← nO _ _ 8 hx]
 rw [h,List.length_cons,show 8 * (l.length+1)=8+8 * l.length by omega,xJ,← Nat.xor_assoc,Cs d 8,wQ]
theorem tK (d r:Nat):sn d 4 r=r / 16 ^^^ sn d 4 (r % 16):=by
 have h:r=r % 16 ^^^ 2 ^ 4 * (r / 16):=by
  rw [← nO _ _ 4 (by omega)]; omega
 conv=>lhs; rw [h]
 rw [Cs,wQ,Nat.xor_comm]
theorem Be (d r:Nat):sn d 8 r=sn d 4 (sn d 4 r):=xJ d 4 4 r
theorem FA (r:Nat):mf .u32 (r:Int) 4=some ((r / 16:Nat):Int):=by
 have:=vg .u32 r 4 (by decide)
 rw [show ((4:Nat):Int)=4 from rfl] at this
 rw [this,show (2:Nat) ^ 4=16 from rfl]
def FP (d w:Nat) (l:List Nat):Nat:=Bl d l (2 ^ w-1) ^^^ (2 ^ w-1)
theorem uQ (d w:Nat) (hd:d<2 ^ w) (hw:8≤w):∀ (l:List Nat) (r:Nat),r<2 ^ w→(∀ x∈l,x<256)→Bl d l r<2 ^ w
 | [],r,hr,_=>by rw [uU]; exact hr
 | x::l,r,hr,h=>by
  have hx:=h x (by simp)
  rw [rS _ _ _ _ hx]
  have h2:2 ^ 8≤2 ^ w:=Nat.pow_le_pow_right (by omega) hw
  exact uQ d w hd hw l _ (vD d _ w 8 hd (Nat.xor_lt_two_pow hr (by omega))) fun y hy=>h y (by simp [hy])
theorem Er (d w:Nat) (T:List Nat) (W D:Int) (hw:8≤w) (hw2:w≤32) (hd:d<2 ^ w) (hl16:T.length=16) (htab:kA D=some (T.map (fun n:Nat=>(n:Int))))
  (hT:∀ i,i<16→T.getD i 0=sn d 4 i) (hones:((vZ .u32 1 W).bind fun v=>some (IntKind.u32.wrap (v-1)))=some ((2 ^ w-1:Nat):Int))
  (b:List Int) (hb:∀ n∈b,0≤n∧n<256) (hl:b.length<4294967296):mr b W D=some ((FP d w (kK b):Nat):Int):=by
 have hpw:2 ^ w≤2 ^ 32:=Nat.pow_le_pow_right (by omega) hw2
 have hpw0:0<2 ^ w:=Nat.pow_pos (by omega)
 have h256:2 ^ 8≤2 ^ w:=Nat.pow_le_pow_right (by omega) hw
 have e32:(2:Nat) ^ 32=4294967296:=by decide
 have e8:(2:Nat) ^ 8=256:=by decide
 have hat:∀ i,i<16→aQ (T.map (fun n:Nat=>(n:Int))) i=some ((sn d 4 i:Nat):Int):=by
  intro i hi
  rw [← hT i hi]
  have:i<T.length:=by omega
  simp [aQ,List.getD,this]
 have hTl:∀ i,i<16→sn d 4 i<2 ^ w:=fun i hi=>vD d i w 4 hd (by omega)
 have key:∀ (k fuel i r:Nat),b.length-i=k→i≤b.length→k<fuel→r<2 ^ w →
   aT (S:=(Int×Int)) (O:=(Int)⊕Int) (fun ((s25,s26):Int×Int) =>
   cond ((decide (s26<(b.length:Int))))
    ((cl s26 b.length).bind fun v7 =>
    (aQ b v7).bind fun v8 =>
    (some (IntKind.u32.wrap v8)).bind fun v9 =>
    (some (bits .xor .u32 s25 v9)).bind fun v10 =>
    (mf .u32 v10 4).bind fun v11 =>
    (nL v10 16).bind fun v12 =>
    (cl v12 16).bind fun v13 =>
    (aQ (T.map (fun n:Nat=>(n:Int))) v13).bind fun v14 =>
    (some (bits .xor .u32 v11 v14)).bind fun v15 =>
    (mf .u32 v15 4).bind fun v16 =>
    (nL v15 16).bind fun v17 =>
    (cl v17 16).bind fun v18 =>
    (aQ (T.map (fun n:Nat=>(n:Int))) v18).bind fun v19 =>
    (some (bits .xor .u32 v16 v19)).bind fun v20 =>
    (some (IntKind.i64.wrap (s26+1))).bind fun v21 =>
    some (.inl (v20,v21)))
    (some (.inr (.inl s25)))) fuel ((r:Int),(i:Int))=some (.inl ((Bl d (kK (b.drop i)) r:Nat):Int)):=by
  intro k
  induction k with
  | zero =>
   intro fuel i r hk hi hf hr
   obtain ⟨f,rfl⟩:∃ f,fuel=f+1:=⟨fuel-1,by omega⟩
   have hia:i=b.length:=by omega
   subst hia
   refine aV (ak (by simp) ?_)
   rw [List.drop_length,show kK []=[] from rfl,uU]
  | succ k ih =>
   intro fuel i r hk hi hf hr
   obtain ⟨f,rfl⟩:∃ f,fuel=f+1:=⟨fuel-1,by omega⟩
   have hlt:i<b.length:=by omega
   have hbi:=hb b[i] (List.getElem_mem hlt)
   obtain ⟨x,hx⟩:∃ x:Nat,b[i]=(x:Int):=⟨b[i].toNat,by omega⟩
   have hx256:x<256:=by omega
   have hw1:IntKind.i64.wrap ((i:Int)+1)=((i+1:Nat):Int):=by
    rw [dO (by omega) (by omega)]; simp
   have a1:r ^^^ x<2 ^ w:=Nat.xor_lt_two_pow hr (by omega)
   have m1:(r ^^^ x) % 16<16:=Nat.mod_lt _ (by omega)
   have a2:sn d 4 (r ^^^ x)<2 ^ w:=vD d _ w 4 hd a1
   have m2:sn d 4 (r ^^^ x) % 16<16:=Nat.mod_lt _ (by omega)
   have a3:sn d 8 (r ^^^ x)<2 ^ w:=vD d _ w 8 hd a1
   have e1:(r ^^^ x) / 16 ^^^ sn d 4 ((r ^^^ x) % 16)=sn d 4 (r ^^^ x):=(tK d _).symm
   have e2:sn d 4 (r ^^^ x) / 16 ^^^ sn d 4 (sn d 4 (r ^^^ x) % 16)=sn d 8 (r ^^^ x):=by rw [← tK,Be]
   have hdr:b.drop i=b[i]::b.drop (i+1):=List.drop_eq_getElem_cons hlt
   have t1:=hTl _ m1
   have t2:=hTl _ m2
   have r16a:=uE (r ^^^ x) 16 (by omega)
   have r16b:=uE (sn d 4 (r ^^^ x)) 16 (by omega)
   rw [show ((16:Nat):Int)=16 from rfl] at r16a r16b
   refine (bC (ap (by simp; omega) (ar (bk hlt) (ar (x:=(x:Int)) (by rw [cA hlt,hx]) (ar (x:=(x:Int)) (by rw [wH (by omega) (by omega)])
    (ar (x:=((r ^^^ x:Nat):Int)) (by rw [rf r x (by omega) (by omega)]) (ar (FA _) (ar r16a (ar (bk m1) (ar (hat _ m1)
    (ar (x:=((sn d 4 (r ^^^ x):Nat):Int)) (by rw [rf _ _ (by omega) (by omega),e1]) (ar (FA _) (ar r16b (ar (bk m2) (ar (hat _ m2)
    (ar (x:=((sn d 8 (r ^^^ x):Nat):Int)) (by rw [rf _ _ (by omega) (by omega),e2]) (ar (x:=((i+1:Nat):Int)) (by rw [hw1]) rfl))))))))))))))))).trans ?_
   rw [ih f (i+1) _ (by omega) hlt (by omega) a3,hdr]
   have:kK (b[i]::b.drop (i+1))=x::kK (b.drop (i+1)):=by simp [kK,hx]
   rw [this,rS _ _ _ _ hx256]
 have hz:2 ^ w-1<2 ^ w:=by omega
 have hlt:=uQ d w hd hw (kK b) (2 ^ w-1) hz (nX hb)
 have hc:FP d w (kK b)<2 ^ w:=Nat.xor_lt_two_pow hlt hz
 unfold mr
 have l16:Ct 16 (T.map (fun n:Nat=>(n:Int)))=some (T.map (fun n:Nat=>(n:Int))):=by simp [Ct,hl16]
 have l0:Ct 16 (List.replicate 16 (0:Int))=some (List.replicate 16 (0:Int)):=by decide
 obtain ⟨v,hv,hv2⟩:=bind_some hones
 refine ar htab (ar l0 (ar l16 (ar hv (ar hv2 ?_))))
 refine aL (key b.length bX 0 (2 ^ w-1) (by omega) (Nat.zero_le _) (by unfold bX; omega) hz) ?_
 refine ar (x:=((FP d w (kK b):Nat):Int)) (by rw [List.drop_zero,rf _ _ (by omega) (by omega)]; rfl) (ar (x:=((FP d w (kK b):Nat):Int)) (by rw [dO (by omega) (by omega)]) rfl)
def GI:List Nat:=(List.range 16).map (sn 3988292384 4)
theorem GA:kA 3988292384=some (GI.map (fun n:Nat=>(n:Int))):=by kernel_rfl
theorem EC (b:List Int) (hb:∀ n∈b,0≤n∧n<256) (hl:b.length<4294967296):gC b=some ((FP 3988292384 32 (kK b):Nat):Int):=by
 unfold gC
 refine ar (Er 3988292384 32 GI 32 3988292384 (by omega) (by omega) (by decide) (by decide) GA ?_ (by decide) b hb hl) rfl
 intro i hi
 have:∀ i,i<16→GI.getD i 0=sn 3988292384 4 i:=by decide
 exact this i hi
theorem Bf {n:Int} (h0:0≤n) (h1:n<18446744073709551616):IntKind.u64.wrap n=n:=by
 simp only [IntKind.wrap,IntKind.bits,IntKind.signed]
 have e:(2:Int) ^ 64=18446744073709551616:=by decide
 simp only [e,Bool.false_and,Bool.false_eq_true,if_false]
 omega
set_option maxRecDepth 100000
set_option maxRecDepth 100000
theorem Ee:cB=some true:=by kernel_rfl
theorem wA (b s:List Int):eH b s=dy b s:=rfl
theorem yH {m:ae} (h:ae.wz m):Hk m∧bM m.KY:=by
 obtain ⟨⟨_,h1,h2⟩,⟨h3,h4⟩,⟨h5,hb⟩,_,h6,_⟩:=h
 simp only [FC,reachBytes] at h1 h2 h6
 simp only [reachBytes] at h3 h5
 refine ⟨⟨by omega,by omega,by omega,by omega,by omega,fun p hp => ?_⟩,tQ ⟨by unfold maxLen; omega,hb⟩⟩
 have:=h4 p hp
 simp only [aj.wz,FC,reachBytes] at this
 omega
theorem wV {line c:List Int} (hb:bM line) (hc:bM c) (h13:∀ x∈line,x≠13) (hl:line.length+c.length≤100000):eH (line++13::10::c) [13,10]=some (line,c,true):=by
 rw [wA]
 have hby:bM (line++13::10::c):=bP hb (dj (by omega) (dj (by omega) hc))
 have hlen:(line++13::10::c).length=line.length+(c.length+2):=by simp
 rw [jq hby (by omega) (kW h13)]
 congr 1
 refine Prod.ext (by simp) (Prod.ext ?_ rfl)
 show (line++13::10::c).drop (line.length+2)=c
 rw [List.drop_append]
 simp
theorem Ju {l:List Nat} (h:∀ n∈l,n<10 ^ 18):∀ x∈fW l,x≠13:=by
 induction l with
 | nil=>intro x hx; cases hx
 | cons n l ih =>
  intro x hx
  simp only [fW,List.mem_cons,List.mem_append] at hx
  rcases hx with rfl | hx | hx
  ·decide
  ·have:=vq (h n List.mem_cons_self) x hx
   unfold Aq at this; omega
  ·exact ih (fun m hm=>h m (List.mem_cons_of_mem _ hm)) x hx
theorem Hg {l:List Nat} (h:∀ n∈l,n<10 ^ 18):∀ x∈fR++fW l,x≠13:=by
 intro x hx
 rcases List.mem_append.1 hx with hx | hx
 ·simp only [fR,List.mem_cons,List.not_mem_nil,or_false] at hx; omega
 ·exact Ju h x hx
theorem Bq:bM fR:=by intro x hx; simp only [fR,List.mem_cons,List.not_mem_nil,or_false] at hx; omega
theorem CT (l:List Nat) (h:∀ x∈l,x<256):FP 3988292384 32 l<4294967296:=by
 have hz:2 ^ 32-1<2 ^ 32:=by decide
 exact Nat.xor_lt_two_pow (n:=32) (uQ 3988292384 32 (by decide) (by omega) l _ hz h) hz
theorem rn:∀ (l:List aj),bM (iN l)
 | []=>dx
 | p::l=>bP (bP (by intro x hx; simp only [jx,List.mem_cons,List.not_mem_nil,or_false] at hx; omega) (bP (gQ p) (by intro x hx; simp only [List.mem_cons,List.not_mem_nil,or_false] at hx; omega))) (rn l)
theorem zm {m:ae} (h:Vm m):bM (qy m):=by
 obtain ⟨ls,h1,h2,h3⟩:=h.bd
 have hl:=(fI h.lm).2.2.1
 have ht:dZ ls≤20000:=by rw [← cw,← h3]; exact hl
 have hs:=mA h1 h2 (by omega:dZ ls<1000000000)
 rw [← h3] at hs
 have e:eX m.KY=jn (ls.map lQ++[[46]]):=by unfold eX; rw [hs]; rfl
 have hst:bM (eX m.KY):=by
  rw [e]
  refine kJ fun l hl => ?_
  rcases List.mem_append.1 hl with hl | hl
  ·obtain ⟨k,hk,rfl⟩:=List.mem_map.1 hl
   exact rh (h2 k hk)
  ·rw [List.mem_singleton.1 hl]; intro x hx; simp only [List.mem_cons,List.not_mem_nil,or_false] at hx; omega
 refine bP (bP (by intro x hx; simp only [iT,List.mem_cons,List.not_mem_nil,or_false] at hx; omega) (bP (gQ _) (by intro x hx; simp only [List.mem_cons,List.not_mem_nil,or_false] at hx; omega))) (bP (rn _) (bP (by intro x hx; simp only [List.mem_cons,List.not_mem_nil,or_false] at hx; omega) hst))
theorem ww:∀ {l:List ae},(∀ m∈l,Vm m)→bM (dw l)
 | [],_=>dx
 | m::l,h=>bP (zm (h m List.mem_cons_self)) (ww fun x hx=>h x (List.mem_cons_of_mem _ hx))
def iw:List Int:=[81,85,73,84,13,10]
def eP (l:List ae):List Int:=dw l++iw
def mg (l:List Int):Nat:=FP 3988292384 32 (kK l)
theorem sk {l:List ae} (h:∀ m∈l,Vm m):bM (eP l):=bP (ww h) (by intro x hx; simp only [iw,List.mem_cons,List.not_mem_nil,or_false] at hx; omega)
theorem rj {l:List Int} (hb:bM l) (hl:l.length<4294967296):gC l=some ((mg l:Nat):Int):=EC l hb hl
theorem va {l:List Int} (hb:bM l):mg l<4294967296:=CT _ (nX hb)
def iS (b:az):List Nat:=[b.Lg.toNat,b.Lf.toNat,b.Ld.length,(eP b.Ld).length,mg (eP b.Ld)]
def dW (b:az):List Int:=(fR++fW (iS b))++13::10::eP b.Ld
theorem oX {b:az} (hm:∀ m∈b.Ld,LM m∧bM m.KY) (hl:b.Ld.length≤20) :
  (∃ e,bp b=some ([],e)∧(e=5∨e=2))∨(cS b=some 0∧(b.Lg=0∨b.Lg=1)∧1≤b.Lf∧b.Lf≤65535∧1≤b.Ld.length∧b.Ld.length≤4∧(∀ m∈b.Ld,Vm m)∧(dW b).length≤4096∧bp b=some (dW b,0)):=by
 obtain ⟨e,he,h5,h0⟩:=BK hm hl
 rcases h5 with rfl | rfl
 case inr=>exact .inl ⟨5,by unfold bp; exact ar he (ap rfl rfl),.inl rfl⟩
 obtain ⟨ho,hn1,hn2,hl1,hl4,hv⟩:=h0 rfl
 have hlen:=jy hv
 have hlen2:b.Ld.length * 1000000≤4 * 1000000:=Nat.mul_le_mul_right _ hl4
 have hcl:(eP b.Ld).length≤4000006:=by simp only [eP,iw,List.length_append,List.length_cons,List.length_nil]; omega
 have hcb:=sk hv
 have hns:[b.Lg,b.Lf,(b.Ld.length:Int),((dw b.Ld++[81,85,73,84,13,10]).length:Int),((mg (eP b.Ld):Nat):Int)]=(iS b).map (fun n:Nat=>(n:Int)):=by
  show _=[((b.Lg.toNat:Nat):Int),((b.Lf.toNat:Nat):Int),((b.Ld.length:Nat):Int),(((eP b.Ld).length:Nat):Int),((mg (eP b.Ld):Nat):Int)]
  rw [show ((b.Lg.toNat:Nat):Int)=b.Lg by omega,show ((b.Lf.toNat:Nat):Int)=b.Lf by omega]
  rfl
 have hsl:=va hcb
 have hn:∀ n∈iS b,n<10 ^ 18:=by
  intro n hn
  simp only [iS,List.mem_cons,List.not_mem_nil,or_false] at hn
  rcases hn with rfl | rfl | rfl | rfl | rfl <;> omega
 have hby:=xl he hv hl (rj hcb (by show (eP b.Ld).length<_; omega)) hns hn
 have ew:(fR++fW (iS b))++[13,10]++(dw b.Ld++[81,85,73,84,13,10])=dW b:=by simp [dW,eP,iw]
 rw [ew] at hby
 by_cases h:4096<(dW b).length
 ·rw [if_pos h] at hby
  exact .inl ⟨2,hby,.inr rfl⟩
 ·rw [if_neg h] at hby
  exact .inr ⟨he,ho,hn1,hn2,hl1,hl4,hv,by omega,hby⟩
theorem qx {b:az} (ho:b.Lg=0∨b.Lg=1) (hn1:1≤b.Lf) (hn2:b.Lf≤65535) (hl4:b.Ld.length≤4) (hv:∀ m∈b.Ld,Vm m) (hw:(dW b).length≤4096) :
  bM (fR++fW (iS b))∧bM (eP b.Ld)∧(∀ x∈fR++fW (iS b),x≠13)∧(fR++fW (iS b)).length≤4096∧(eP b.Ld).length≤4096∧6≤(eP b.Ld).length ∧
  pb (fR++fW (iS b))=(⟨b.Lg,b.Lf,((eP b.Ld).length:Int),((mg (eP b.Ld):Nat):Int)⟩,true):=by
 have hcb:=sk hv
 have hsl:=va hcb
 have hlen:(dW b).length=(fR++fW (iS b)).length+((eP b.Ld).length+2):=by simp [dW]; omega
 have h6:6≤(eP b.Ld).length:=by simp [eP,iw]
 have hn:∀ n∈iS b,n<10 ^ 18:=by
  intro n hn
  simp only [iS,List.mem_cons,List.not_mem_nil,or_false] at hn
  rcases hn with rfl | rfl | rfl | rfl | rfl <;> omega
 refine ⟨bP Bq (oZ hn).1,hcb,Hg hn,by omega,by omega,h6,?_⟩
 have:=Al (o:=b.Lg.toNat) (n:=b.Lf.toNat) (k:=b.Ld.length) (s:=(eP b.Ld).length) (v:=mg (eP b.Ld)) (by omega) (by omega) (by omega) (by omega) (by omega)
 rw [show ((b.Lg.toNat:Nat):Int)=b.Lg by omega,show ((b.Lf.toNat:Nat):Int)=b.Lf by omega] at this
 rw [show iS b=[b.Lg.toNat,b.Lf.toNat,b.Ld.length,(eP b.Ld).length,mg (eP b.Ld)] from rfl,this,decide_eq_true (by omega)]
set_option maxRecDepth 100000
theorem Fw {c:Int} {P:Int→Bool} (hP:P c=false) {l:List Int} (h:l.all P=true):c ∉ l:=by
 intro hm
 have:=List.all_eq_true.1 h c hm
 rw [hP] at this
 cases this
theorem ur {P:List Int→Bool} {c:Int} (Q:Int→Bool) (hQ:Q c=true) (hPQ:∀ l,P l=true→l.all Q=true):∀ l,(fa c l).all P=true→l.all Q=true
 | [],_=>rfl
 | x::r,h=>by
  have hne:=ji c r
  unfold fa at h
  by_cases hx:x=c
  ·rw [if_pos hx] at h
   simp only [List.all_cons,Bool.and_eq_true] at h
   rw [List.all_cons,hx,hQ,ur Q hQ hPQ r h.2]; rfl
  ·rw [if_neg hx] at h
   cases hs:fa c r with
   | nil=>exact absurd hs hne
   | cons a ps =>
    rw [hs] at h
    simp only [List.all_cons,Bool.and_eq_true] at h
    have h1:=hPQ _ h.1
    simp only [List.all_cons,Bool.and_eq_true] at h1
    have key:∀ (r:List Int) (a:List Int) (ps:List (List Int)),fa c r=a::ps→a.all Q=true→ps.all P=true→r.all Q=true:=by
     intro r
     induction r with
     | nil=>intros; rfl
     | cons y r ih =>
      intro a ps e ha hps
      unfold fa at e
      by_cases hy:y=c
      ·rw [if_pos hy] at e
       cases e
       cases hs2:fa c r with
       | nil=>exact absurd hs2 (ji c r)
       | cons b qs =>
        rw [hs2] at hps
        simp only [List.all_cons,Bool.and_eq_true] at hps
        rw [List.all_cons,hy,hQ,ih b qs hs2 (hPQ _ hps.1) hps.2]; rfl
      ·rw [if_neg hy] at e
       cases hs2:fa c r with
       | nil=>exact absurd hs2 (ji c r)
       | cons b qs =>
        rw [hs2] at e
        cases e
        simp only [List.all_cons,Bool.and_eq_true] at ha
        rw [List.all_cons,ha.1,ih b ps hs2 ha.2 hps]; rfl
    rw [List.all_cons,h1.1,key r a ps hs h1.2 h.2]; rfl
def IL (c:Int):Bool:=Bw c||c==46
def IG (c:Int):Bool:=yc c||c==46
theorem DI {l:List Int} (h:ov l=true):l.all IL=true:=by
 unfold ov at h
 rw [Bool.and_eq_true] at h
 refine ur IL (by decide) (fun p hp => ?_) l h.2
 unfold ng at hp
 rw [Bool.and_eq_true] at hp
 rw [List.all_eq_true] at *
 intro x hx
 unfold IL
 rw [hp.2 x hx]; rfl
theorem DC {l:List Int} (h:pZ l=true):l.all IG=true:=by
 unfold pZ at h
 rw [Bool.and_eq_true] at h
 refine ur IG (by decide) (fun p hp => ?_) l h.2
 unfold qY at hp
 simp only [Bool.and_eq_true] at hp
 have hp:True∧p.all yc=true:=⟨trivial,hp.2.2.2.2⟩
 rw [List.all_eq_true] at *
 intro x hx
 unfold IG
 rw [hp.2 x hx]; rfl
theorem Dd {c:Int} (hc:IL c=false) {l:List Int} (h:ov l=true):c ∉ l:=Fw hc (DI h)
theorem GU {c:Int} (hc:IG c=false) {l:List Int} (h:pZ l=true):c ∉ l:=Fw hc (DC h)
theorem CP {l:List Int} (h:ov l=true):l.length≤64:=by
 unfold ov at h; rw [Bool.and_eq_true] at h; simpa using h.1
theorem BF {l:List Int} (h:pZ l=true):l.length≤255:=by
 unfold pZ at h; rw [Bool.and_eq_true] at h; simpa using h.1
theorem vl (p:aj) (h:eI p=true):su (fw p)=some p:=by
 obtain ⟨n,l,d⟩:=p
 cases n
 ·have hh:=h
  unfold eI at h
  simp only [cond_false,Bool.and_eq_true] at h
  have n64:(64:Int) ∉ ao l:=Dd (by decide) h.1
  unfold su fw
  simp only [cond_false]
  rw [if_neg (by intro e; have:=congrArg List.length e; simp at this; omega)]
  have e:(60::(ao l++64::(ao d++[62])):List Int)=60::((ao l++64::ao d)++[62]):=by simp
  rw [e,DW]
  simp only [Dc,rA n64]
  have e1:(ao l++64::ao d).take (ao l).length=ao l:=by simp
  have e2:(ao l++64::ao d).drop ((ao l).length+1)=ao d:=by
   rw [← List.drop_drop]; simp
  rw [e1,e2,ir,ir,if_pos hh]
 ·unfold eI at h
  simp only [cond_true,Bool.and_eq_true,List.isEmpty_iff] at h
  have e1:l=e0:=iZ (by rw [h.1]; rfl)
  have e2:d=e0:=iZ (by rw [h.2]; rfl)
  subst e1 e2
  rfl
theorem ze {l:List Int} {p:aj} (hb:bM l) (h:su l=some p):fw p=l∧eI p=true:=by
 unfold su at h
 split at h
 ·rename_i e
  cases h
  exact ⟨e.symm,rfl⟩
 ·rcases pQ l with ⟨m,hm,hmid⟩ | hmid
  ·rw [hmid] at h
   simp only [Dc] at h
   cases hi:jg 64 m with
   | none=>rw [hi] at h; cases h
   | some e =>
    rw [hi] at h
    dsimp only at h
    split at h
    ·rename_i hp
     cases h
     obtain ⟨h1,h2,h3⟩:=kb hi
     have hbm:bM m:=by
      rw [hm] at hb
      intro x hx
      exact hb x (by simp [hx])
     refine ⟨?_,hp⟩
     unfold fw
     simp only [cond_false]
     rw [aK (eT hbm _),aK (dr hbm _),hm]
     conv=>rhs; rw [h2]
     simp
    ·cases h
  ·rw [hmid] at h; cases h
theorem tH:∀ (ls:List (List Int)),(∀ l∈ls,l≠[46])∨∃ a r,ls=a++[46]::r∧∀ l∈a,l≠[46]
 | [] => .inl fun _ h=>by cases h
 | x::ls=>by
  by_cases hx:x=[46]
  ·exact .inr ⟨[],ls,by rw [hx]; rfl,fun _ h=>by cases h⟩
  ·rcases tH ls with h | ⟨a,r,h1,h2⟩
   ·exact .inl fun l hl=>by
     rcases List.mem_cons.1 hl with rfl | hl
     ·exact hx
     ·exact h l hl
   ·exact .inr ⟨x::a,r,by rw [h1]; rfl,fun l hl=>by
     rcases List.mem_cons.1 hl with rfl | hl
     ·exact hx
     ·exact h2 l hl⟩
theorem wJ {ls:List (List Int)} (h:∀ l∈ls,bM l):∀ l∈ls.map sR,bM l:=by
 intro l hl
 obtain ⟨k,hk,rfl⟩:=List.mem_map.1 hl
 unfold sR
 split
 ·exact fun x hx=>h k hk x (List.mem_of_mem_tail hx)
 ·exact h k hk
theorem zj:∀ ls:List (List Int),dZ (ls.map sR)≤dZ ls
 | []=>Nat.le_refl _
 | l::ls=>by
  have h1:=zj ls
  have h2:=uC l
  simp only [List.map_cons,dZ]; omega
theorem tu {b:List Int} (hb:bM b) (hl:b.length<1000000):∃ body e,∃ n:Nat,dz b=some (body,(n:Int),e)∧n≤b.length∧bM body∧body.length≤b.length:=by
 obtain ⟨ls,r,H⟩:=sS b.length b (Nat.le_refl _)
 rcases tH ls with hn | ⟨a,rs,hls,ha⟩
 ·exact ⟨[],9,0,rT (tw H hb hn (by omega)),Nat.zero_le _,dx,Nat.zero_le _⟩
 have hj:=mY H
 have hlb:=lD H hb
 have hab:∀ l∈a,bM l:=fun l hl=>hlb l (by rw [hls]; exact List.mem_append_left _ hl)
 have hbl:b.length=dZ a+(3+(dZ rs+r.length)):=by
  rw [hj,List.length_append,cw,hls,jo]
  simp only [dZ,List.length_cons,List.length_nil]; omega
 have hlast:cR b=some ((dZ a:Int),true):=by
  unfold cR da
  refine ar rfl ?_
  refine jW (a:=(dZ a:Int)) (ei nS H hb (by omega) _ _ ?_) rfl
  rw [hls]
  refine (mK a _ 0 (fun l hl=>⟨hab l hl,ha l hl⟩) (by omega)).trans ?_
  simp only [jQ,rJ]
  simp
 have e1:eO b 0 (dZ a:Int)=some (jn a):=by
  have:=dB b (a:=0) (b:=dZ a) (by omega) (by omega)
  rw [show ((0:Nat):Int)=0 from rfl] at this
  rw [this,hj,hls,pM,List.append_assoc,List.drop_zero,Nat.sub_zero,← cw,List.take_left]
 have hja:(jn a).length=dZ a:=cw a
 rcases kT (kJ hab) (by omega) with hc | ⟨ms,c1,c2,c3⟩
 ·exact ⟨[],5,0,by unfold dz; exact ar hlast (ak rfl (ar e1 (ar hc (ap rfl rfl)))),Nat.zero_le _,dx,Nat.zero_le _⟩
 have htm:dZ ms=dZ a:=by rw [← cw,← c3,hja]
 refine ⟨jn (ms.map sR),0,dZ a+3,?_,by omega,kJ (wJ c2),by rw [cw]; have:=zj ms; omega⟩
 unfold dz
 have hchk:cM (jn a)=some 0:=by rw [c3]; exact kx c1 c2 (by omega)
 refine ar hlast (ak rfl (ar e1 (ar hchk (ak rfl (ar e1 ?_)))))
 unfold da
 refine ar rfl ?_
 refine aL (s:=jn (ms.map sR)) (ei ql (by rw [c3]; exact rY c1) (kJ hab) (by omega) _ _ ?_) ?_
 ·have:=nu ms [] c2 (by simp; omega)
  simpa using this
 ·refine ar (cN (by omega) (by omega)) ?_
  simp
theorem FE {p:aj} (h:eI p=true):∀ x∈fw p,x≠13:=by
 intro x hx
 unfold fw at hx
 unfold eI at h
 cases hp:p.Le
 ·rw [hp] at h hx
  simp only [cond_false,Bool.and_eq_true] at h
  simp only [cond_false,List.mem_cons,List.mem_append,List.not_mem_nil,or_false] at hx
  rcases hx with rfl | hx | rfl | hx | rfl
  ·decide
  ·exact fun e=>Dd (c:=13) (by decide) h.1 (e ▸ hx)
  ·decide
  ·exact fun e=>GU (c:=13) (by decide) h.2 (e ▸ hx)
  ·decide
 ·rw [hp] at hx
  simp only [cond_true,List.mem_cons,List.not_mem_nil,or_false] at hx
  rcases hx with rfl | rfl <;> decide
theorem vC {p:aj} (h:eI p=true):pW p≤319∧Small p:=by
 unfold eI at h
 cases hp:p.Le
 ·rw [hp] at h
  simp only [cond_false,Bool.and_eq_true] at h
  have h1:=CP h.1
  have h2:=BF h.2
  rw [aN] at h1 h2
  exact ⟨by simp only [pW]; omega,by omega,by omega⟩
 ·rw [hp] at h
  simp only [cond_true,Bool.and_eq_true,List.isEmpty_iff] at h
  have h1:=congrArg List.length h.1
  have h2:=congrArg List.length h.2
  rw [aN] at h1 h2
  simp only [List.length_nil] at h1 h2
  exact ⟨by simp only [pW]; omega,by omega,by omega⟩
theorem CF {word:Li} {w:List Int} {p:aj} {more:List Int} (hw:ao word=w) (h13:∀ x∈w,x≠13) (hwl:w.length≤100) (hp:eI p=true) (hm:bM more) (hl:more.length≤50000) :
  bY (pL w p++more) word=some (p,more,true):=by
 have hwb:bM w:=by rw [← hw]; exact cv word
 obtain ⟨hpw,hps⟩:=vC hp
 have htl:=qZ (p:=p) (by omega)
 have hline:bM (w++fw p):=bP hwb (gQ p)
 have e:pL w p++more=(w++fw p)++13::10::more:=by simp [pL]
 have hc:=wV (line:=w++fw p) (c:=more) hline hm (by
  intro x hx
  rcases List.mem_append.1 hx with hx | hx
  ·exact h13 x hx
  ·exact FE hp x hx) (by simp only [List.length_append]; omega)
 have hcp:=iG (aO (w++fw p)) word
 rw [aK hline,hw,if_pos (List.prefix_append w (fw p))] at hcp
 have hsz:word.size=w.length:=by rw [← hw,aN]
 rw [hsz,List.drop_left] at hcp
 have hpa:=wD (aO (fw p)) (by rw [cX]; omega)
 rw [aK (gQ p),vl p hp] at hpa
 rw [e]
 unfold bY
 exact ar hc (ar rfl (ar hcp (aL (s:=false) (ak rfl rfl) (ak rfl (ar hpa rfl)))))
theorem FF {word:Li} {w line more:List Int} (hw:ao word=w) (h13:∀ x∈line,x≠13) (hb:bM line) (hll:line.length≤1000) (hm:bM more) (hl:more.length≤50000) (hno:¬ w <+: line) :
  bY (line++13::10::more) word=some (nK,[],false):=by
 have hc:=wV (line:=line) (c:=more) hb hm h13 (by omega)
 have hcp:=iG (aO line) word
 rw [aK hb,hw,if_neg hno] at hcp
 unfold bY
 exact ar hc (ar rfl (ar hcp (aL (s:=true) (ak rfl rfl) (ap rfl rfl))))
theorem CL {word:Li} {c:List Int} (hc:bM c) (hl:c.length≤50000):∃ p r ok,bY c word=some (p,r,ok)∧bM r∧r.length≤c.length∧(ok=true→eI p=true∧r.length+2≤c.length):=by
 unfold bY
 cases hi:gH c with
 | none =>
  have hcp:=iG (aO c) word
  refine ⟨nK,[],false,ar ((wA _ _).trans <| sb hc (by omega) hi) (ar rfl (ar hcp (aL (s:=true) (ap rfl rfl) (ap rfl rfl)))),dx,Nat.zero_le _,fun h=>by cases h⟩
 | some e =>
  obtain ⟨h1,h2⟩:=fU hi
  have hlb:bM (c.take e):=eT hc e
  have hrb:bM (c.drop (e+2)):=dr hc _
  have hcp:=iG (aO (c.take e)) word
  rw [aK hlb] at hcp
  by_cases hpre:ao word <+: c.take e
  ·rw [if_pos hpre] at hcp
   have htb:bM ((c.take e).drop word.size):=dr hlb _
   have hpa:=wD (aO ((c.take e).drop word.size)) (by rw [cX,List.length_drop,List.length_take]; omega)
   rw [aK htb] at hpa
   cases hpl:su ((c.take e).drop word.size) with
   | none =>
    rw [hpl] at hpa
    exact ⟨nK,_,false,ar ((wA _ _).trans <| jq hc (by omega) hi) (ar rfl (ar hcp (aL (s:=false) (ak rfl rfl) (ak rfl (ar hpa rfl))))),hrb,by rw [List.length_drop]; omega,fun h=>by cases h⟩
   | some p =>
    rw [hpl] at hpa
    exact ⟨p,_,true,ar ((wA _ _).trans <| jq hc (by omega) hi) (ar rfl (ar hcp (aL (s:=false) (ak rfl rfl) (ak rfl (ar hpa rfl))))),hrb,by rw [List.length_drop]; omega,fun _=>⟨(ze htb hpl).2,by rw [List.length_drop]; omega⟩⟩
  ·rw [if_neg hpre] at hcp
   exact ⟨nK,[],false,ar ((wA _ _).trans <| jq hc (by omega) hi) (ar rfl (ar hcp (aL (s:=true) (ak rfl rfl) (ap rfl rfl)))),dx,Nat.zero_le _,fun h=>by cases h⟩
set_option maxRecDepth 100000
def Ko:(((List aj)×(List Int)))→Option (((List aj)×(List Int))⊕(((List aj)×(List Int))⊕(ae×(List Int)×Bool))):=(fun ((s37,s38):(List aj)×(List Int)) =>
 cond ((decide ((s37.length:Int)≤8)))
  ((bY s38 (⟨#[82,67,80,84,32,84,79,58]⟩:Li)).bind fun v4 =>
  cond ((!v4.2.2))
   (some (.inr (.inl (s37,s38))))
   ((cr 40 s37 [v4.1]).bind fun v6 =>
   some (.inl (v6,v4.2.1))))
  (some (.inr (.inl (s37,s38)))))
def KD:(((List Int)×(List ae)))→Option (((List Int)×(List ae))⊕(((List ae))⊕(List ae))):=(fun ((s9,s10):(List Int)×(List ae)) =>
 cond ((decide ((s10.length:Int)≤4)))
  ((cf s9).bind fun v2 =>
  cond ((!v2.2.2))
   (some (.inr (.inl s10)))
   ((cr 120 s10 [(ae.mk (aj.mk v2.1.La.Le v2.1.La.Lc v2.1.La.KZ) v2.1.To v2.1.KY v2.1.Lh v2.1.Lb v2.1.At)]).bind fun v4 =>
   some (.inl (v2.2.1,v4))))
  (some (.inr (.inl s10))))
theorem Gi {p r:List Int} (hl:p.length+r.length≤100000):cj (p++r) p=some true:=by
 unfold cj
 have e1:eO (p++r) 0 (p.length:Int)=some p:=by
  have:=dB (p++r) (a:=0) (b:=p.length) (by omega) (by simp)
  rw [show ((0:Nat):Int)=0 from rfl] at this
  rw [this,List.drop_zero,Nat.sub_zero,List.take_left]
 refine aL (s:=true) (ap (decide_eq_true (by rw [List.length_append]; omega)) (ar e1 (ar (x:=true) ?_ rfl))) rfl
 unfold eN
 refine ar rfl (ar rfl ?_)
 rw [cq,decide_eq_true rfl]
theorem xr {b p:List Int} (hl:b.length≤100000):∃ x,cj b p=some x∧(x=true→p.length≤b.length):=by
 unfold cj
 by_cases h:p.length≤b.length
 ·have e1:=dB b (a:=0) (b:=p.length) (by omega) h
  rw [show ((0:Nat):Int)=0 from rfl] at e1
  exact ⟨_,aL (ap (decide_eq_true (by omega)) (ar e1 (ar (by unfold eN; exact ar rfl (ar rfl rfl)) rfl))) rfl,fun _=>h⟩
 ·exact ⟨false,aL (s:=false) (ak (decide_eq_false (by omega)) rfl) rfl,fun h=>by cases h⟩
theorem Hd {p r:List Int} (hl:p.length+r.length≤100000):dm (p++r) p=some (r,true):=by
 unfold dm
 have e1:eO (p++r) (p.length:Int) ((p++r).length:Int)=some r:=by
  have:=dB (p++r) (a:=p.length) (b:=(p++r).length) (by simp) (by omega)
  rw [this,List.drop_left,List.length_append,Nat.add_sub_cancel_left,List.take_length]
 exact ar (Gi hl) (ak rfl (ar e1 rfl))
theorem xz {b p:List Int} (hb:bM b) (hl:b.length≤100000):∃ r x,dm b p=some (r,x)∧bM r∧r.length≤b.length:=by
 obtain ⟨x,hx,hp⟩:=xr (p:=p) hl
 unfold dm
 cases x
 ·exact ⟨b,false,ar hx (ap rfl rfl),hb,Nat.le_refl _⟩
 ·have e1:=dB b (a:=p.length) (b:=b.length) (hp rfl) (Nat.le_refl _)
  exact ⟨_,true,ar hx (ak rfl (ar e1 rfl)),eT (dr hb _) _,by rw [List.length_take,List.length_drop]; omega⟩
def fS:List Int:=[68,65,84,65]
theorem Kq:∀ x∈jx,x≠13:=by decide
theorem Ks:∀ x∈iT,x≠13:=by decide
theorem Ic:∀ x∈fS,x≠13:=by decide
theorem Ds:bM fS:=by intro x hx; simp only [fS,List.mem_cons,List.not_mem_nil,or_false] at hx; omega
theorem Fe:ao (⟨#[82,67,80,84,32,84,79,58]⟩:Li)=jx:=rfl
theorem Ek:ao (⟨#[77,65,73,76,32,70,82,79,77,58]⟩:Li)=iT:=rfl
theorem DZ {l:List aj} (hp:∀ p∈l,eI p=true) (hl:l.length≤8) {more:List Int} (hm:bM more) (hml:(iN l).length+more.length≤49000) :
  aT Ko bX ([],iN l++(fS++13::10::more))=some (.inl (l,fS++13::10::more)):=by
 have hD:bM (fS++13::10::more):=bP Ds (dj (by omega) (dj (by omega) hm))
 have hDl:(fS++13::10::more).length=more.length+6:=by simp [fS]
 have split:∀ i,iN l=iN (l.take i)++iN (l.drop i):=fun i=>by rw [← ph,List.take_append_drop]
 refine bS (fun i=>(l.take i,iN (l.drop i)++(fS++13::10::more))) l.length bX (by simp) (by simp only [bX]; omega) (fun i hi => ?_) ?_
 ·have e:l.drop i=l[i]::l.drop (i+1):=List.drop_eq_getElem_cons hi
  have hlen:=congrArg List.length (split (i+1))
  rw [List.length_append] at hlen
  have htl:(l.take i).length=i:=by simp; omega
  have hpp:=CF (more:=iN (l.drop (i+1))++(fS++13::10::more)) Fe Kq (by decide) (hp _ (List.getElem_mem hi)) (bP (rn _) hD) (by rw [List.length_append,hDl]; omega)
  have e2:iN (l.drop i)++(fS++13::10::more)=pL jx l[i]++(iN (l.drop (i+1))++(fS++13::10::more)):=by rw [e]; simp only [iN,List.append_assoc]
  rw [e2]
  refine ap (decide_eq_true (by show ((l.take i).length:Int)≤8; omega)) (ar hpp (ak rfl (ar (cF (by simp only [htl,List.length_cons,List.length_nil]; omega) (by simp only [htl,List.length_cons,List.length_nil]; omega)) ?_)))
  rw [List.take_succ_eq_append_getElem hi]
 ·rw [List.drop_length,List.take_length]
  have hno:=FF (more:=more) Fe Ic Ds (by decide) hm (by omega) (by decide)
  exact ap (decide_eq_true (by show (l.length:Int)≤8; omega)) (ar hno (ap rfl rfl))
theorem Dh:∀ (k:Nat) (acc:List aj) (c:List Int) (fuel:Nat),9-acc.length=k→acc.length≤9→k<fuel→(∀ p∈acc,eI p=true)→bM c→c.length≤10000 →
  ∃ a d,aT Ko fuel (acc,c)=some (.inl (a,d))∧a.length≤9∧(∀ p∈a,eI p=true)∧bM d∧d.length≤c.length
 | 0,acc,c,fuel,hk,ha,hf,hp,hc,hl=>by
  obtain ⟨f,rfl⟩:∃ f,fuel=f+1:=⟨fuel-1,by omega⟩
  exact ⟨acc,c,aV (ak (decide_eq_false (by omega)) rfl),ha,hp,hc,Nat.le_refl _⟩
 | k+1,acc,c,fuel,hk,ha,hf,hp,hc,hl=>by
  obtain ⟨f,rfl⟩:∃ f,fuel=f+1:=⟨fuel-1,by omega⟩
  obtain ⟨p,r,ok,h1,h2,h3,h4⟩:=CL (word:=(⟨#[82,67,80,84,32,84,79,58]⟩:Li)) hc (by omega)
  cases ok
  ·exact ⟨acc,c,aV (ap (decide_eq_true (by omega)) (ar h1 (ap rfl rfl))),ha,hp,hc,Nat.le_refl _⟩
  ·obtain ⟨a,d,g1,g2,g3,g4,g5⟩:=Dh k (acc++[p]) r f (by simp; omega) (by simp; omega) (by omega) (by
    intro q hq
    rcases List.mem_append.1 hq with hq | hq
    ·exact hp q hq
    ·rw [List.mem_singleton.1 hq]; exact (h4 rfl).1) h2 (by omega)
   exact ⟨a,d,(bC (ap (decide_eq_true (by omega)) (ar h1 (ak rfl (ar (cF (by simp only [List.length_cons,List.length_nil]; omega) (by simp only [List.length_cons,List.length_nil]; omega)) rfl))))).trans g1,g2,g3,g4,by omega⟩
structure Pm (m:ae):Prop where
 pf:eI m.La=true
 pt:∀ p∈m.To,eI p=true
 tl:m.To.length≤8
 bd:∃ ls,(∀ l∈ls,nZ l)∧(∀ l∈ls,bM l)∧m.KY=jn ls
 bl:m.KY.length≤4096
 qu:m.Lh=false
 he:m.Lb=e0
 ad:m.At=0
theorem FD {m:ae} (h:Pm m):ae.mk m.La m.To m.KY false (⟨#[]⟩:Li) 0=m:=by
 obtain ⟨a,b,c,d,e,f⟩:=m
 have h1:=h.qu; have h2:=h.he; have h3:=h.ad
 simp only at h1 h2 h3
 subst h1 h2 h3
 rfl
theorem GO {m:ae} (h:Pm m) {more:List Int} (hm:bM more) (hl:(qy m).length+more.length≤45000):cf (qy m++more)=some (m,more,true):=by
 obtain ⟨ls,c1,c2,c3⟩:=h.bd
 have hbl:=h.bl
 have ht:dZ ls≤4096:=by rw [← cw,← c3]; exact hbl
 have hs:=mA c1 c2 (by omega:dZ ls<1000000000)
 rw [← c3] at hs
 have e:eX m.KY=jn (ls.map lQ++[[46]]):=by unfold eX; rw [hs]; rfl
 have hst:bM (eX m.KY):=by
  rw [e]
  refine kJ fun l hl => ?_
  rcases List.mem_append.1 hl with hl | hl
  ·obtain ⟨k,hk,rfl⟩:=List.mem_map.1 hl
   exact rh (c2 k hk)
  ·rw [List.mem_singleton.1 hl]; intro x hx; simp only [List.mem_cons,List.not_mem_nil,or_false] at hx; omega
 have hcl:(qy m).length=(pL iT m.La).length+((iN m.To).length+(6+(eX m.KY).length)):=by simp only [qy,List.length_append,List.length_cons,List.length_nil]
 have hsm:bM (eX m.KY++more):=bP hst hm
 have hsl:(eX m.KY++more).length=(eX m.KY).length+more.length:=by rw [List.length_append]
 have hD:bM (fS++13::10::(eX m.KY++more)):=bP Ds (dj (by omega) (dj (by omega) hsm))
 have e1:qy m++more=pL iT m.La++(iN m.To++(fS++13::10::(eX m.KY++more))):=by simp [qy,fS]
 have hpp:=CF (more:=iN m.To++(fS++13::10::(eX m.KY++more))) Ek Ks (by decide) h.pf (bP (rn _) hD) (by simp only [List.length_append,fS,List.length_cons,List.length_nil]; omega)
 have hlp:=DZ h.pt h.tl hsm (by omega)
 have hcp:=Hd (p:=[68,65,84,65,13,10]) (r:=eX m.KY++more) (by rw [hsl]; simp only [List.length_cons,List.length_nil]; omega)
 have hlen:(eX m.KY++more).length=dZ (ls.map lQ)+3+more.length:=by
  rw [hsl,e,cw,jo]; rfl
 have hstr:=vV (ls:=ls.map lQ) (more:=more) (by
  intro l hl; obtain ⟨k,hk,rfl⟩:=List.mem_map.1 hl; exact yJ (c1 k hk)) (by
  intro l hl; obtain ⟨k,hk,rfl⟩:=List.mem_map.1 hl; exact rh (c2 k hk)) (by
  intro l hl; obtain ⟨k,hk,rfl⟩:=List.mem_map.1 hl; exact zM k) hm (by omega)
 rw [← e,zD,← c3] at hstr
 have hsli:eO (eX m.KY++more) ((dZ (ls.map lQ)+3:Nat):Int) ((eX m.KY++more).length:Int)=some more:=by
  have:=dB (eX m.KY++more) (a:=dZ (ls.map lQ)+3) (b:=(eX m.KY++more).length) (by omega) (by omega)
  have hx:(eX m.KY).length=dZ (ls.map lQ)+3:=by rw [e,cw,jo]; rfl
  rw [this,← hx,List.drop_left,hsl,Nat.add_sub_cancel_left,List.take_length]
 rw [e1]
 unfold cf
 refine ar hpp (ak rfl (aL hlp (ar (x:=(eX m.KY++more,true)) ?_ (ak rfl (ar hstr (ak rfl (ar hsli ?_)))))))
 ·have:fS++13::10::(eX m.KY++more)=[68,65,84,65,13,10]++(eX m.KY++more):=rfl
  rw [this]; exact hcp
 ·rw [FD h]
theorem Hc {c:List Int} (hc:bM c) (hl:c.length≤10000):∃ m r ok,cf c=some (m,r,ok)∧bM r∧r.length≤c.length∧(ok=true→LM m∧bM m.KY):=by
 obtain ⟨p,r,ok,h1,h2,h3,h4⟩:=CL (word:=(⟨#[77,65,73,76,32,70,82,79,77,58]⟩:Li)) hc (by omega)
 unfold cf
 cases ok
 ·exact ⟨_,[],false,ar h1 (ap rfl rfl),dx,Nat.zero_le _,fun h=>by cases h⟩
 obtain ⟨a,d,g1,g2,g3,g4,g5⟩:=Dh 9 [] r bX rfl (by decide) (by simp only [bX]; omega) (fun _ h=>by cases h) h2 (by omega)
 obtain ⟨x,y,k1,k2,k3⟩:=xz (p:=[68,65,84,65,13,10]) g4 (by omega)
 cases y
 ·exact ⟨_,[],false,ar h1 (ak rfl (aL g1 (ar k1 (ap rfl rfl)))),dx,Nat.zero_le _,fun h=>by cases h⟩
 obtain ⟨body,e,n,s1,s2,s3,s4⟩:=tu k2 (by omega)
 by_cases he:e=0
 case neg=>exact ⟨_,[],false,ar h1 (ak rfl (aL g1 (ar k1 (ak rfl (ar s1 (ap (bne_iff_ne.2 he) rfl)))))),dx,Nat.zero_le _,fun h=>by cases h⟩
 subst he
 have hs:=dB x (a:=n) (b:=x.length) s2 (Nat.le_refl _)
 refine ⟨_,_,true,ar h1 (ak rfl (aL g1 (ar k1 (ak rfl (ar s1 (ak rfl (ar hs rfl))))))),eT (dr k2 _) _,by rw [List.length_take,List.length_drop]; omega,fun _=>⟨⟨by show a.length≤40; omega,?_⟩,s3⟩⟩
 have w1:=(vC (h4 rfl).1).1
 have w2:=po 319 a fun p hp=>(vC (g3 p hp)).1
 have w3:a.length * 319≤9 * 319:=Nat.mul_le_mul_right _ g2
 simp only [pW] at w1
 show body.length+(⟨#[]⟩:Li).size+p.Lc.size+p.KZ.size+lG a≤20000
 have:(⟨#[]⟩:Li).size=0:=rfl
 omega
theorem GC:∀ x∈[81,85,73,84],x≠(13:Int):=by decide
theorem Jw:bM [81,85,73,84]:=by intro x hx; simp only [List.mem_cons,List.not_mem_nil,or_false] at hx; omega
theorem Ga {l:List ae} (hp:∀ m∈l,Pm m) (hb:∀ m∈l,bM (qy m)) (hl:l.length≤4) (hcl:(dw l).length≤40000):cm (eP l)=some l:=by
 have split:∀ i,dw l=dw (l.take i)++dw (l.drop i):=fun i=>by rw [← ln,List.take_append_drop]
 have hcb:∀ (k:List ae),(∀ m∈k,m∈l)→bM (dw k):=by
  intro k
  induction k with
  | nil=>intro _; exact dx
  | cons m k ih=>intro h; exact bP (hb m (h m List.mem_cons_self)) (ih fun x hx=>h x (List.mem_cons_of_mem _ hx))
 have hqb:bM iw:=by intro x hx; simp only [iw,List.mem_cons,List.not_mem_nil,or_false] at hx; omega
 unfold cm
 refine aL (s:=l) (bS (f:=KD) (fun i=>(dw (l.drop i)++iw,l.take i)) l.length bX (by simp [eP]) (by simp only [bX]; omega) (fun i hi => ?_) ?_) rfl
 ·have e:l.drop i=l[i]::l.drop (i+1):=List.drop_eq_getElem_cons hi
  have hmem:∀ m∈l.drop (i+1),m∈l:=fun m hm=>List.mem_of_mem_drop hm
  have hlen:=congrArg List.length (split i)
  rw [e] at hlen
  simp only [dw,List.length_append] at hlen
  have htl:(l.take i).length=i:=by simp; omega
  have hpm:=GO (hp _ (List.getElem_mem hi)) (more:=dw (l.drop (i+1))++iw) (bP (hcb _ hmem) hqb) (by simp only [List.length_append,iw,List.length_cons,List.length_nil]; omega)
  have e2:dw (l.drop i)++iw=qy l[i]++(dw (l.drop (i+1))++iw):=by rw [e]; simp only [dw,List.append_assoc]
  rw [e2]
  refine ap (decide_eq_true (by show ((l.take i).length:Int)≤4; omega)) (ar hpm (ak rfl (ar (cF (by simp only [htl,List.length_cons,List.length_nil]; omega) (by simp only [htl,List.length_cons,List.length_nil]; omega)) ?_)))
  rw [List.take_succ_eq_append_getElem hi]
 ·rw [List.drop_length,List.take_length]
  have hno:=FF (more:=[]) Ek GC Jw (by decide) dx (by decide) (by decide)
  have hpm:cf iw=some (ae.mk nK [] [] false (⟨#[]⟩:Li) 0,[],false):=by
   unfold cf
   exact ar (by simpa [iw] using hno) (ap rfl rfl)
  exact ap (decide_eq_true (by show (l.length:Int)≤4; omega)) (ar (x:=(ae.mk nK [] [] false (⟨#[]⟩:Li) 0,[],false)) hpm (ap rfl rfl))
theorem Fm:∀ (k:Nat) (acc:List ae) (c:List Int) (fuel:Nat),5-acc.length=k→acc.length≤5→k<fuel→(∀ m∈acc,LM m∧bM m.KY)→bM c→c.length≤10000 →
  ∃ a,aT KD fuel (c,acc)=some (.inl a)∧a.length≤5∧∀ m∈a,LM m∧bM m.KY
 | 0,acc,c,fuel,hk,ha,hf,hp,hc,hl=>by
  obtain ⟨f,rfl⟩:∃ f,fuel=f+1:=⟨fuel-1,by omega⟩
  exact ⟨acc,aV (ak (decide_eq_false (by omega)) rfl),ha,hp⟩
 | k+1,acc,c,fuel,hk,ha,hf,hp,hc,hl=>by
  obtain ⟨f,rfl⟩:∃ f,fuel=f+1:=⟨fuel-1,by omega⟩
  obtain ⟨m,r,ok,h1,h2,h3,h4⟩:=Hc hc hl
  cases ok
  ·exact ⟨acc,aV (ap (decide_eq_true (by omega)) (ar h1 (ap rfl rfl))),ha,hp⟩
  ·obtain ⟨a,g1,g2,g3⟩:=Fm k (acc++[m]) r f (by simp; omega) (by simp; omega) (by omega) (by
    intro q hq
    rcases List.mem_append.1 hq with hq | hq
    ·exact hp q hq
    ·rw [List.mem_singleton.1 hq]; exact h4 rfl) h2 (by omega)
   exact ⟨a,(bC (ap (decide_eq_true (by omega)) (ar h1 (ak rfl (ar (cF (by simp only [List.length_cons,List.length_nil]; omega) (by simp only [List.length_cons,List.length_nil]; omega)) rfl))))).trans g1,g2,g3⟩
theorem GH {c:List Int} (hc:bM c) (hl:c.length≤10000):∃ l,cm c=some l∧l.length≤5∧∀ m∈l,LM m∧bM m.KY:=by
 obtain ⟨a,h1,h2,h3⟩:=Fm 5 [] c bX rfl (by decide) (by simp only [bX]; omega) (fun _ h=>by cases h) hc hl
 exact ⟨a,by unfold cm; exact aL h1 rfl,h2,h3⟩
set_option maxRecDepth 100000
theorem ju {A:Type} (d:A) (p:A→Bool):∀ (l:List A),(∀ i,i<l.length→p (l.getD i d)=true)↔l.all p=true:=by
 intro l
 rw [List.all_eq_true]
 constructor
 ·intro h x hx
  obtain ⟨i,hi,rfl⟩:=List.getElem_of_mem hx
  have:=h i hi
  rwa [List.getD_eq_getElem?_getD,List.getElem?_eq_getElem hi,Option.getD_some] at this
 ·intro h i hi
  rw [List.getD_eq_getElem?_getD,List.getElem?_eq_getElem hi,Option.getD_some]
  exact h _ (List.getElem_mem hi)
theorem nQ {A:Type} {l:List A} {i:Nat} (d:A) (h:i<l.length):aQ l i=some (l.getD i d):=by
 rw [List.getD_eq_getElem?_getD,List.getElem?_eq_getElem h,Option.getD_some]; exact cA h
theorem EQ {A:Type} {l:List A} {i:Nat} (d:A) (h:i<l.length):l.getD i d∈l:=by
 rw [List.getD_eq_getElem?_getD,List.getElem?_eq_getElem h,Option.getD_some]; exact List.getElem_mem h
def uZ (p:aj):Bool:=eI p && !p.Le
def xP (m:ae):Bool:=eI m.La&&(decide (1≤m.To.length∧m.To.length≤8)&&m.To.all uZ)
theorem zP {m:ae} (h:LM m):eU m=some (xP m):=by
 obtain ⟨hs1,hs2,hs3,hs4⟩:=fI h
 unfold eU xP
 cases hF:eI m.La
 ·exact aL (s:=true) (ar (ff _ hs1) (ap (by rw [hF]; rfl) rfl)) (ap rfl rfl)
 by_cases h1:1≤m.To.length∧m.To.length≤8
 case neg =>
  rw [decide_eq_false h1]
  refine aL (s:=true) (ar (ff _ hs1) (ak (by rw [hF]; rfl) ?_)) (ap rfl rfl)
  by_cases h2:m.To.length<1
  ·exact ap (decide_eq_true (by omega)) rfl
  ·exact ak (decide_eq_false (by omega)) (cG (decide_eq_true (by omega)))
 rw [decide_eq_true h1]
 have hstep:∀ i:Nat,i<m.To.length→((eC (m.To.getD i nK)).bind fun v10=>cond ((v10 != 0)) (some (.inl true)) (some (.inl (m.To.getD i nK).Le)):Option (Bool⊕(Int⊕(Unit⊕Bool))))=some (.inl (!uZ (m.To.getD i nK))):=by
  intro i hi
  refine ar (ff _ (hs2 _ (EQ nK hi))) ?_
  unfold uZ
  cases eI (m.To.getD i nK)
  ·rfl
  ·exact ak rfl (cG (by simp))
 have hloop:=gK (f:=IJ m) (R:=Bool) (fun i=>uZ (m.To.getD i nK)) m.To.length false (fuel:=bX) (by simp only [bX]; omega)
  (fun i hi hp=>by
   replace hp:uZ (m.To.getD i nK)=true:=hp
   have:=hstep i hi
   rw [hp] at this
   exact ap (decide_eq_true (by omega)) (ar (bk hi) (ar (nQ nK hi) (aL this (ak rfl (ar (congrArg some (aZ (n:=i) (by omega))) rfl))))))
  (fun i hi hp=>by
   replace hp:uZ (m.To.getD i nK)=false:=hp
   have:=hstep i hi
   rw [hp] at this
   exact ap (decide_eq_true (by omega)) (ar (bk hi) (ar (nQ nK hi) (aL this (ap rfl rfl)))))
  (ak (decide_eq_false (by omega)) rfl)
 refine aL (s:=false) (ar (ff _ hs1) (ak (by rw [hF]; rfl) (ak (decide_eq_false (by omega)) (cG (decide_eq_false (by omega)))))) (ak rfl ?_)
 by_cases ha:m.To.all uZ=true
 ·rw [if_pos ((ju nK uZ m.To).2 ha)] at hloop
  rw [ha]
  exact aL hloop rfl
 ·rw [if_neg fun h=>ha ((ju nK uZ m.To).1 h)] at hloop
  rw [Bool.eq_false_iff.2 ha]
  exact jW hloop rfl
def CN (b:List Int):Bool:=decide (cM b=some 0)
def vk (m:ae):Bool:=xP m&&(decide (m.KY.length≤4096)&&CN m.KY)
theorem Cu {m:ae} (h:LM m) (hb:bM m.KY):cI m=some (vk m):=by
 have hl:=(fI h).2.2.1
 unfold cI vk
 have he:=zP h
 generalize xP m=x at he ⊢
 cases x
 ·exact aL (s:=false) (ar he (ak rfl rfl)) rfl
 by_cases h4:m.KY.length≤4096
 ·rw [decide_eq_true h4]
  unfold CN
  rcases kT hb (by omega) with hd | ⟨ls,a,c,d⟩
  ·exact aL (s:=false) (ar he (ap rfl (ap (decide_eq_true (by omega)) (ar hd rfl)))) (by rw [hd]; rfl)
  ·have hd:cM m.KY=some 0:=by rw [d]; exact kx a c (by rw [← cw,← d]; omega)
   exact aL (s:=true) (ar he (ap rfl (ap (decide_eq_true (by omega)) (ar hd rfl)))) (by rw [hd]; rfl)
 ·rw [decide_eq_false h4]
  exact aL (s:=false) (ar he (ap rfl (ak (decide_eq_false (by omega)) rfl))) rfl
def pD (m:ae):Bool:=vk m&&(!m.Lh&&(decide (m.Lb=e0)&&decide (m.At=0)))
def nD (b:az):Bool:=decide ((b.Lg=0∨b.Lg=1)∧1≤b.Lf∧b.Lf≤65535)&&(decide (1≤b.Ld.length∧b.Ld.length≤4)&&b.Ld.all pD)
def iz:ae:=ae.mk nK [] [] false e0 0
theorem ni {b:az} (hm:∀ m∈b.Ld,LM m∧bM m.KY) (hl:b.Ld.length≤20):cS b=some (cond (nD b) 0 5):=by
 unfold cS nD
 have first:∀ {A:Type},(cond (b.Lg != 0) (cond (b.Lg != 1) (some (.inl true)) (cond (decide (b.Lf<1)) (some (.inl true)) (some (.inl (decide (65535<b.Lf)))))) (cond (decide (b.Lf<1)) (some (.inl true)) (some (.inl (decide (65535<b.Lf))))):Option (Bool⊕A))=some (.inl (!decide ((b.Lg=0∨b.Lg=1)∧1≤b.Lf∧b.Lf≤65535))):=by
  intro A
  have tail:(cond (decide (b.Lf<1)) (some (.inl true)) (some (.inl (decide (65535<b.Lf)))):Option (Bool⊕A))=some (.inl (!decide (1≤b.Lf∧b.Lf≤65535))):=by
   by_cases h:b.Lf<1
   ·rw [decide_eq_false (p:=1≤b.Lf∧b.Lf≤65535) (by omega)]; exact ap (decide_eq_true h) rfl
   ·refine ak (decide_eq_false h) (cG ?_)
    by_cases h2:b.Lf≤65535
    ·rw [decide_eq_true (p:=1≤b.Lf∧b.Lf≤65535) (by omega),decide_eq_false (by omega)]; rfl
    ·rw [decide_eq_false (p:=1≤b.Lf∧b.Lf≤65535) (by omega),decide_eq_true (by omega)]; rfl
  by_cases o:b.Lg=0∨b.Lg=1
  ·have e:decide ((b.Lg=0∨b.Lg=1)∧1≤b.Lf∧b.Lf≤65535)=decide (1≤b.Lf∧b.Lf≤65535):=decide_eq_decide.2 ⟨fun h=>h.2,fun h=>⟨o,h⟩⟩
   rw [e]
   rcases o with o | o
   ·exact ak (by rw [o]; rfl) tail
   ·exact ap (by rw [o]; rfl) (ak (by rw [o]; rfl) tail)
  ·have o0:b.Lg≠0:=fun h=>o (.inl h)
   have o1:b.Lg≠1:=fun h=>o (.inr h)
   rw [decide_eq_false (p:=(b.Lg=0∨b.Lg=1)∧1≤b.Lf∧b.Lf≤65535) fun h=>o h.1]
   exact ap (by simpa using o0) (ap (by simpa using o1) rfl)
 by_cases nn:(b.Lg=0∨b.Lg=1)∧1≤b.Lf∧b.Lf≤65535
 case neg =>
  have f1:=first (A:=Int)
  rw [decide_eq_false nn] at f1 ⊢
  exact aL f1 (ap rfl rfl)
 have f1:=first (A:=Int)
 rw [decide_eq_true nn] at f1 ⊢
 refine aL f1 (ak rfl ?_)
 by_cases ml:1≤b.Ld.length∧b.Ld.length≤4
 case neg =>
  rw [decide_eq_false ml]
  refine aL (s:=true) ?_ (ap rfl rfl)
  by_cases h:b.Ld.length<1
  ·exact ap (decide_eq_true (by omega)) rfl
  ·exact ak (decide_eq_false (by omega)) (cG (decide_eq_true (by omega)))
 rw [decide_eq_true ml]
 refine aL (s:=false) (ak (decide_eq_false (by omega)) (cG (decide_eq_false (by omega)))) (ak rfl ?_)
 have hstep:∀ i:Nat,i<b.Ld.length→((cI (b.Ld.getD i iz)).bind fun v14=>cond ((!v14)) (some (.inl true)) (cond ((b.Ld.getD i iz).Lh) (some (.inl true)) (cond ((!((b.Ld.getD i iz).Lb.toList==(⟨#[]⟩:Li).toList))) (some (.inl true)) (some (.inl ((b.Ld.getD i iz).At != 0))))):Option (Bool⊕(Int⊕(Unit⊕Int))))=some (.inl (!pD (b.Ld.getD i iz))):=by
  intro i hi
  obtain ⟨h3,h4⟩:=hm _ (EQ iz hi)
  refine ar (Cu h3 h4) ?_
  unfold pD
  cases vk (b.Ld.getD i iz)
  ·rfl
  cases (b.Ld.getD i iz).Lh
  case true=>rfl
  refine ak rfl (ak rfl ?_)
  rw [cq]
  by_cases hh:(b.Ld.getD i iz).Lb=e0
  ·have hh2:(b.Ld.getD i iz).Lb=({ data := #[] }:Li):=hh
   rw [decide_eq_true hh,decide_eq_true hh2]
   refine ak rfl (cG ?_)
   by_cases ha:(b.Ld.getD i iz).At=0
   ·rw [decide_eq_true ha,ha]; rfl
   ·rw [decide_eq_false ha,bne_iff_ne.2 ha]; rfl
  ·have hh2:¬ (b.Ld.getD i iz).Lb=({ data := #[] }:Li):=hh
   rw [decide_eq_false hh,decide_eq_false hh2]
   exact ap rfl rfl
 have hloop:=gK (f:=IH b) (R:=Int) (fun i=>pD (b.Ld.getD i iz)) b.Ld.length 5 (fuel:=bX) (by simp only [bX]; omega)
  (fun i hi hp=>by
   replace hp:pD (b.Ld.getD i iz)=true:=hp
   have:=hstep i hi
   rw [hp] at this
   exact ap (decide_eq_true (by omega)) (ar (bk hi) (ar (nQ iz hi) (aL this (ak rfl (ar (congrArg some (aZ (n:=i) (by omega))) rfl))))))
  (fun i hi hp=>by
   replace hp:pD (b.Ld.getD i iz)=false:=hp
   have:=hstep i hi
   rw [hp] at this
   exact ap (decide_eq_true (by omega)) (ar (bk hi) (ar (nQ iz hi) (aL this (ap rfl rfl)))))
  (ak (decide_eq_false (by omega)) rfl)
 by_cases ha:b.Ld.all pD=true
 ·rw [if_pos ((ju iz pD b.Ld).2 ha)] at hloop
  rw [ha]
  exact aL hloop rfl
 ·rw [if_neg fun h=>ha ((ju iz pD b.Ld).1 h)] at hloop
  rw [Bool.eq_false_iff.2 ha]
  exact jW hloop rfl
theorem Iv {m:ae} (hb:bM m.KY) (h:pD m=true):Pm m∧(∀ p∈m.To,p.Le=false)∧1≤m.To.length:=by
 simp only [pD,vk,xP,Bool.and_eq_true,decide_eq_true_eq,Bool.not_eq_true',List.all_eq_true,uZ] at h
 obtain ⟨⟨⟨h1,h2,h3⟩,h4,h5⟩,h6,h7,h8⟩:=h
 have hbd:∃ ls,(∀ l∈ls,nZ l)∧(∀ l∈ls,bM l)∧m.KY=jn ls:=by
  rcases kT hb (by omega) with hd | hd
  ·unfold CN at h5
   rw [hd] at h5
   exact absurd h5 (by decide)
  ·exact hd
 exact ⟨⟨h1,fun p hp=>(h3 p hp).1,h2.2,hbd,h4,h6,h7,h8⟩,fun p hp=>(h3 p hp).2,h2.1⟩
set_option maxRecDepth 100000
theorem iQ (a b:aj):eB a b=some (decide (a=b)):=by
 unfold eB
 refine aL (s:=decide (a=b)) (ar rfl ?_) rfl
 rw [cq,cq]
 obtain ⟨an,al,ad⟩:=a
 obtain ⟨bn,bl,bd⟩:=b
 cases h:an==bn
 ·have:an≠bn:=by simpa using h
  refine ak rfl ?_
  simp [this]
 ·have:an=bn:=by simpa using h
  refine ap rfl ?_
  subst this
  by_cases h2:al=bl
  ·rw [decide_eq_true h2]
   subst h2
   refine ap rfl ?_
   simp
  ·rw [decide_eq_false h2]
   refine ak rfl ?_
   simp [h2]
def KV (a b:List aj):((Int))→Option ((Int)⊕((Unit)⊕Bool)):=(fun (s13:Int) =>
 cond ((decide (s13<(a.length:Int))))
  ((cl s13 a.length).bind fun v3 =>
  (aQ a v3).bind fun v4 =>
  (cl s13 b.length).bind fun v5 =>
  (aQ b v5).bind fun v6 =>
  (eB v4 v6).bind fun v7 =>
  cond ((!v7))
   (some (.inr (.inr (false))))
   ((some (IntKind.i64.wrap (s13+1))).bind fun v9 =>
   some (.inl v9)))
  (some (.inr (.inl ()))))
theorem gF (a b:List aj) (hl:a.length<4294967296):fC a b=some (decide (a=b)):=by
 unfold fC
 by_cases hlen:a.length=b.length
 ·refine ak (by simp [hlen]) ?_
  have h:=gK (R:=Bool) (f:=KV a b) (fun i=>decide (a[i]? = b[i]?)) a.length false (fuel:=bX) (by simp only [bX]; omega) (fun i hi hp => ?_) (fun i hi hp => ?_) (ak (decide_eq_false (by omega)) rfl)
  ·by_cases he:a=b
   ·rw [decide_eq_true he]
    rw [if_pos (fun i _=>by rw [he]; simp)] at h
    exact aL h rfl
   ·rw [decide_eq_false he]
    rw [if_neg (fun hh=>he (List.ext_getElem? fun i=>by
     by_cases hi:i<a.length
     ·exact of_decide_eq_true (hh i hi)
     ·rw [List.getElem?_eq_none (by omega),List.getElem?_eq_none (by omega)]))] at h
    exact jW h rfl
  ·have hb:i<b.length:=by omega
   have e:=of_decide_eq_true hp
   rw [List.getElem?_eq_getElem hi,List.getElem?_eq_getElem hb] at e
   exact ap (decide_eq_true (by omega)) (ar (bk hi) (ar (by simp [aQ,hi]:aQ a i=some a[i]) (ar (bk hb) (ar (by simp [aQ,hb]:aQ b i=some b[i]) (ar (iQ _ _) (ak (by rw [decide_eq_true (Option.some.inj e)]; rfl) (ar (congrArg some (aZ (n:=i) (by omega))) rfl)))))))
  ·have hb:i<b.length:=by omega
   have e:=of_decide_eq_false hp
   rw [List.getElem?_eq_getElem hi,List.getElem?_eq_getElem hb] at e
   exact ap (decide_eq_true (by omega)) (ar (bk hi) (ar (by simp [aQ,hi]:aQ a i=some a[i]) (ar (bk hb) (ar (by simp [aQ,hb]:aQ b i=some b[i]) (ar (iQ _ _) (ap (by rw [decide_eq_false (fun h=>e (congrArg some h))]; rfl) rfl))))))
 ·rw [decide_eq_false (fun h=>hlen (by rw [h]))]
  exact ap (by simp only [bne_iff_ne,ne_eq]; omega) rfl
theorem qA (a b:ae) (h1:a.To.length<4294967296) (h2:a.KY.length<4294967296):ez a b=some (decide (a=b)):=by
 unfold ez
 obtain ⟨af,at_,ab,aq,ah,aa⟩:=a
 obtain ⟨bf,bt,bb,bq,bh,ba⟩:=b
 by_cases e1:af=bf
 ·by_cases e2:at_=bt
  ·by_cases e3:ab=bb
   ·by_cases e4:aq=bq
    ·by_cases e5:ah=bh
     ·by_cases e6:aa=ba
      ·subst e1; subst e2; subst e3; subst e4; subst e5; subst e6
       rw [decide_eq_true rfl]
       exact aL (s:=true) (ar (iQ _ _) (ap (decide_eq_true rfl) (ar (gF _ _ h1) (ap (decide_eq_true rfl) (ar (fh _ _ h2) (ap (decide_eq_true rfl) (ar rfl (ap (beq_self_eq_true _) (ap (by rw [cq]; exact decide_eq_true rfl) (cG (beq_self_eq_true _))))))))))) rfl
      ·rw [decide_eq_false (fun h=>e6 (by injection h))]
       exact aL (s:=false) (ar (iQ _ _) (ap (decide_eq_true e1) (ar (gF _ _ h1) (ap (decide_eq_true e2) (ar (fh _ _ h2) (ap (decide_eq_true e3) (ar rfl (ap (beq_iff_eq.2 e4) (ap (by rw [cq]; exact decide_eq_true e5) (cG (beq_eq_false_iff_ne.2 e6)))))))))))  rfl
     ·rw [decide_eq_false (fun h=>e5 (by injection h))]
      exact aL (s:=false) (ar (iQ _ _) (ap (decide_eq_true e1) (ar (gF _ _ h1) (ap (decide_eq_true e2) (ar (fh _ _ h2) (ap (decide_eq_true e3) (ar rfl (ap (beq_iff_eq.2 e4) (ak (by rw [cq]; exact decide_eq_false e5) rfl))))))))) rfl
    ·rw [decide_eq_false (fun h=>e4 (by injection h))]
     exact aL (s:=false) (ar (iQ _ _) (ap (decide_eq_true e1) (ar (gF _ _ h1) (ap (decide_eq_true e2) (ar (fh _ _ h2) (ap (decide_eq_true e3) (ar rfl (ak (beq_eq_false_iff_ne.2 e4) rfl)))))))) rfl
   ·rw [decide_eq_false (fun h=>e3 (by injection h))]
    exact aL (s:=false) (ar (iQ _ _) (ap (decide_eq_true e1) (ar (gF _ _ h1) (ap (decide_eq_true e2) (ar (fh _ _ h2) (ak (decide_eq_false e3) rfl)))))) rfl
  ·rw [decide_eq_false (fun h=>e2 (by injection h))]
   exact aL (s:=false) (ar (iQ _ _) (ap (decide_eq_true e1) (ar (gF _ _ h1) (ak (decide_eq_false e2) rfl)))) rfl
 ·rw [decide_eq_false (fun h=>e1 (by injection h))]
  exact aL (s:=false) (ar (iQ _ _) (ak (decide_eq_false e1) rfl)) rfl
theorem GX (a b:List Int):eN a b=some (decide (aO a=aO b)):=by
 unfold eN
 exact ar rfl (ar rfl (by rw [cq]))
theorem sG (b:az) (hl:b.Ld.length<1000) (hm:∀ m∈b.Ld,m.To.length<4294967296∧m.KY.length<4294967296):bU b b=some true:=by
 unfold bU
 have h1:(cond ((b.Lg != b.Lg)) (some (.inl true)) (cond ((b.Lf != b.Lf)) (some (.inl true)) (some (.inl (((b.Ld.length:Int) != (b.Ld.length:Int)))))):Option (Bool⊕Bool))=some (.inl false):=by
  simp only [bne_self_eq_false]; rfl
 refine aL h1 (ak rfl (aL (s:=()) (bS (fun i=>((i:Nat):Int)) b.Ld.length bX rfl (by simp only [bX]; omega) (fun i hi => ?_) (ak (decide_eq_false (by omega)) rfl)) rfl))
 have hg:=cA hi
 obtain ⟨t1,t2⟩:=hm _ (List.getElem_mem hi)
 have hk:=qA b.Ld[i] b.Ld[i] t1 t2
 rw [decide_eq_true rfl] at hk
 exact ap (decide_eq_true (by omega)) (ar (bk hi) (ar hg (ar (bk hi) (ar hg (ar hk (ak rfl (ar (congrArg some (aZ (n:=i) (by omega))) rfl)))))))
theorem xZ {m:ae} (h:LM m):m.To.length<4294967296∧m.KY.length<4294967296:=by
 obtain ⟨h1,h2⟩:=h
 simp only [mW] at h2
 exact ⟨by omega,by omega⟩
theorem Gn {b:az} (hm:∀ m∈b.Ld,LM m∧bM m.KY) (hl:b.Ld.length≤20) (hc:cS b=some 0):∀ m∈b.Ld,Pm m:=by
 have h:=ni hm hl
 rw [hc] at h
 have hb:nD b=true:=by
  cases hh:nD b with
  | true=>rfl
  | false=>rw [hh] at h; exact absurd (Option.some.inj h) (by decide)
 unfold nD at hb
 simp only [Bool.and_eq_true,List.all_eq_true] at hb
 exact fun m hmm=>(Iv (hm m hmm).2 (hb.2.2 m hmm)).1
set_option maxRecDepth 100000
set_option maxRecDepth 10000
theorem yC (n lo hi:Int):bI n lo hi=some (decide (lo≤n)&&decide (n≤hi)):=by
 unfold bI
 cases decide (lo≤n) <;> rfl
def BS (c:Int):Bool:=decide (97≤c)&&decide (c≤122)||decide (65≤c)&&decide (c≤90)
def yo (c:Int):Bool:=decide (48≤c)&&decide (c≤57)
theorem EL (c:Int):cP c=some (BS c):=by
 unfold cP BS
 cases decide (97≤c) <;> cases decide (c≤122) <;> cases decide (65≤c) <;> cases decide (c≤90) <;> rfl
theorem xQ (c:Int):cz c=some (yo c):=by
 unfold cz yo
 cases decide (48≤c) <;> rfl
theorem HQ (c:Int):yc c=(BS c||(yo c||c==45)):=by
 unfold yc Jm BS yo
 cases decide (97≤c) <;> cases decide (c≤122) <;> cases decide (65≤c) <;> cases decide (c≤90) <;> cases decide (48≤c) <;> cases decide (c≤57) <;> simp
def sN (q:Int→Int→Bool):Int→List Int→Bool
 | _,[]=>true
 | p,x::r=>q p x&&sN q x r
theorem xm (q:Int→Int→Bool):∀ (l:List Int) (p:Int),(∀ i,i<l.length→q ((p::l).getD i 0) (l.getD i 0)=true)↔sN q p l=true
 | [],p=>by simp [sN]
 | x::r,p=>by
  unfold sN
  rw [Bool.and_eq_true,← xm q r x]
  constructor
  ·intro h
   exact ⟨by simpa using h 0 (by simp),fun i hi=>by simpa using h (i+1) (by simpa using hi)⟩
  ·rintro ⟨h0,h1⟩ i hi
   cases i with
   | zero=>simpa using h0
   | succ i=>simpa using h1 i (by simpa using hi)
def uM (l:List Int):Bool:=decide (1≤l.length)&&(decide (l.length≤63)&&(l.getD 0 0 != 45&&l.getD (l.length-1) 0 != 45))
theorem xE (l:List Int):qY l=(uM l&&l.all yc):=by
 unfold qY uM
 cases l with
 | nil=>rfl
 | cons x r =>
  rw [np (by simp),lp (by simp)]
  have:decide (1≤(x::r).length)=true:=by simp
  rw [this]
  simp only [List.isEmpty_cons,Bool.not_false,Bool.true_and]
  have e1:(some ((x::r).getD 0 0) != some 45)=((x::r).getD 0 0 != 45):=by rw [Bool.eq_iff_iff]; simp
  have e2:(some ((x::r).getD ((x::r).length-1) 0) != some 45)=((x::r).getD ((x::r).length-1) 0 != 45):=by rw [Bool.eq_iff_iff]; simp
  rw [e1,e2]
  simp only [Bool.and_assoc]
def tj:List Int→List Int→Bool
 | cur,[]=>uM cur
 | cur,x::r=>if x=46 then uM cur&&tj [] r else yc x&&tj (cur++[x]) r
theorem sP:∀ (l cur:List Int),cur.all yc=true→tj cur l=match fa 46 l with
  | []=>true
  | a::ps=>qY (cur++a)&&ps.all qY
 | [],cur,h=>by simp [tj,fa,xE,h]
 | x::r,cur,h=>by
  have hne:=ji 46 r
  unfold tj fa
  by_cases hx:x=46
  ·rw [if_pos hx,if_pos hx,sP r [] rfl]
   cases hs:fa 46 r with
   | nil=>exact absurd hs hne
   | cons a ps=>simp [xE,h]
  ·rw [if_neg hx,if_neg hx]
   cases hs:fa 46 r with
   | nil=>exact absurd hs hne
   | cons a ps =>
    cases hl:yc x
    ·simp [xE,hl]
    ·have:=sP r (cur++[x]) (by simp [h,hl])
     rw [this,hs]
     simp
theorem Hs (l:List Int):(fa 46 l).all qY=tj [] l:=by
 rw [sP l [] rfl]
 cases hs:fa 46 l with
 | nil=>exact absurd hs (ji 46 l)
 | cons a ps=>simp
def py (s:Li):Int×Int→Option ((Int×Int)⊕(Unit⊕Bool)):=(fun ((s88,s89):Int×Int) =>
 cond ((decide (s89≤(s.size:Int))))
  (aI (S:=Int) (A:=((Int×Int)⊕((Unit)⊕Bool)))
   (aI (S:=Bool) (A:=(Int⊕((Int×Int)⊕((Unit)⊕Bool))))
    (cond ((decide (s89<(s.size:Int))))
     ((dk s s89).bind fun v4 =>
     some (.inl (v4 != 46)))
     (some (.inl false)))
    (fun (s151:Bool) =>
     cond (s151)
      (aI (S:=Bool) (A:=(Int⊕((Int×Int)⊕((Unit)⊕Bool))))
       ((dk s s89).bind fun v10 =>
       (cP v10).bind fun v11 =>
       cond ((!v11))
        ((dk s s89).bind fun v12 =>
        (cz v12).bind fun v13 =>
        cond ((!v13))
         ((dk s s89).bind fun v14 =>
         some (.inl (v14 != 45)))
         (some (.inl false)))
        (some (.inl false)))
       (fun (s156:Bool) =>
        cond (s156)
         (some (.inr (.inr (.inr (false)))))
         (some (.inl s88))) some)
      (aI (S:=Bool) (A:=(Int⊕((Int×Int)⊕((Unit)⊕Bool))))
       ((some (IntKind.i64.wrap (s89-s88))).bind fun v20 =>
       (bI v20 1 63).bind fun v21 =>
       cond ((!v21))
        (some (.inl true))
        ((dk s s88).bind fun v22 =>
        cond ((v22==45))
         (some (.inl true))
         ((some (IntKind.i64.wrap (s89-1))).bind fun v23 =>
         (dk s v23).bind fun v24 =>
         some (.inl (v24==45)))))
       (fun (s161:Bool) =>
        cond (s161)
         (some (.inr (.inr (.inr (false)))))
         ((some (IntKind.i64.wrap (s89+1))).bind fun v30 =>
         some (.inl v30))) some)) some)
   (fun (s147:Int) =>
    (some (IntKind.i64.wrap (s89+1))).bind fun v50 =>
    some (.inl (s147,v50))) some)
  (some (.inr (.inl ()))))
theorem Ia {R:Type} (s:Li) (f i:Nat) (cur:List Int) (hi:i≤s.size) (hs:s.size<4611686018427387904) (hl:f+cur.length=i) (hc:∀ j,j<cur.length→(ao s).getD (f+j) 0=cur.getD j 0) (A:Option (R⊕((Int×Int)⊕(Unit⊕Bool)))) (B:Option (R⊕((Int×Int)⊕(Unit⊕Bool)))) :
  (aI (S:=Bool) (A:=(R⊕((Int×Int)⊕((Unit)⊕Bool))))
     ((some (IntKind.i64.wrap ((i:Int)-(f:Int)))).bind fun v20 =>
     (bI v20 1 63).bind fun v21 =>
     cond ((!v21))
      (some (.inl true))
      ((dk s (f:Int)).bind fun v22 =>
      cond ((v22==45))
       (some (.inl true))
       ((some (IntKind.i64.wrap ((i:Int)-1))).bind fun v23 =>
       (dk s v23).bind fun v24 =>
       some (.inl (v24==45)))))
     (fun (s161:Bool) =>
      cond (s161) A B) some)=cond (uM cur) B A:=by
 have w:some (IntKind.i64.wrap ((i:Int)-(f:Int)))=some (cur.length:Int):=by rw [hH (by omega) (by omega)]; congr 1; omega
 have hin:=yC (cur.length:Int) 1 63
 unfold uM
 by_cases h1:1≤cur.length
 ·by_cases h2:cur.length≤63
  ·rw [decide_eq_true (by omega),decide_eq_true (by omega)] at hin
   rw [decide_eq_true h1,decide_eq_true h2]
   have c0:=jT (s:=s) (i:=f) (by omega)
   have e0:=hc 0 (by omega)
   rw [Nat.add_zero] at e0
   rw [e0] at c0
   have c1:=jT (s:=s) (i:=i-1) (by omega)
   have e1:=hc (cur.length-1) (by omega)
   rw [show f+(cur.length-1)=i-1 by omega] at e1
   rw [e1,show ((i-1:Nat):Int)=(i:Int)-1 by omega] at c1
   by_cases h3:cur.getD 0 0=45
   ·refine aL (s:=true) (ar w (ar hin (ak rfl (ar c0 (ap (by rw [h3]; rfl) rfl))))) ?_
    rw [h3]; rfl
   ·have x3:(cur.getD 0 0==45)=false:=by simpa using h3
    have y3:(cur.getD 0 0 != 45)=true:=by simpa using h3
    refine aL (s:=(cur.getD (cur.length-1) 0==45)) (ar w (ar hin (ak rfl (ar c0 (ak x3 (ar (hH (by omega) (by omega)) (ar c1 rfl))))))) ?_
    rw [y3]
    unfold bne
    cases (cur.getD (cur.length-1) 0==45) <;> rfl
  ·rw [decide_eq_true (by omega),decide_eq_false (by omega)] at hin
   rw [decide_eq_true h1,decide_eq_false h2]
   exact aL (s:=true) (ar w (ar hin rfl)) rfl
 ·rw [decide_eq_false (by omega)] at hin
  rw [decide_eq_false h1]
  exact aL (s:=true) (ar w (ar hin rfl)) rfl
theorem pU (s:Li) (hs:s.size<4611686018427387904):∀ (rest cur:List Int) (f i fuel:Nat),f+cur.length=i→(ao s).drop i=rest→i≤s.size→(∀ j,j<cur.length→(ao s).getD (f+j) 0=cur.getD j 0)→rest.length+1<fuel →
  aT (py s) fuel ((f:Int),(i:Int))=some (if tj cur rest=true then .inl () else .inr false)
 | [],cur,f,i,fuel,hl,hd,hi,hc,hf=>by
  have hi2:i=s.size:=by
   have:=congrArg List.length hd
   rw [List.length_drop,aN] at this
   simp at this; omega
  obtain ⟨k,rfl⟩:∃ k,fuel=k+1+1:=⟨fuel-2,by simp at hf; omega⟩
  have hr:=Ia (R:=Int) s f i cur hi hs hl hc (some (.inr (.inr (.inr false)))) ((some (IntKind.i64.wrap ((i:Int)+1))).bind fun v30=>some (.inl v30))
  have w:some (IntKind.i64.wrap ((i:Int)+1))=some ((i+1:Nat):Int):=by rw [aZ (by omega)]
  have hd0:tj cur []=uM cur:=rfl
  rw [hd0]
  cases hlab:uM cur
  ·rw [hlab,cond_false] at hr
   rw [aV (o := .inr false)]
   ·rfl
   ·unfold py
    exact ap (decide_eq_true (by omega)) (jW (a := .inr (.inr false)) (aL (s:=false) (ak (decide_eq_false (by omega)) rfl) (ak rfl hr)) rfl)
  ·rw [hlab,cond_true] at hr
   rw [bC (s':=(((i+1:Nat):Int),((i+1:Nat):Int))),aV (o := .inl ())]
   ·rfl
   ·unfold py
    exact ak (decide_eq_false (by omega)) rfl
   ·unfold py
    exact ap (decide_eq_true (by omega)) (aL (s:=((i+1:Nat):Int)) (aL (s:=false) (ak (decide_eq_false (by omega)) rfl) (ak rfl (hr.trans (ar w rfl)))) (ar w rfl))
 | x::rest,cur,f,i,fuel,hl,hd,hi,hc,hf=>by
  have hlt:i<s.size:=by
   have:=congrArg List.length hd
   rw [List.length_drop,aN] at this
   simp at this; omega
  have hx:(ao s).getD i 0=x:=by
   have:=congrArg List.head? hd
   rw [List.head?_drop] at this
   rw [List.getD_eq_getElem?_getD,this]; rfl
  have hd2:(ao s).drop (i+1)=rest:=by
   rw [← List.drop_drop,hd]; rfl
  obtain ⟨k,rfl⟩:∃ k,fuel=k+1:=⟨fuel-1,by omega⟩
  have hchr:=jT hlt
  rw [hx] at hchr
  have w:some (IntKind.i64.wrap ((i:Int)+1))=some ((i+1:Nat):Int):=by rw [aZ (by omega)]
  have lt:decide ((i:Int)≤(s.size:Int))=true:=decide_eq_true (by omega)
  have lt2:decide ((i:Int)<(s.size:Int))=true:=decide_eq_true (by omega)
  unfold tj
  by_cases h46:x=46
  ·rw [if_pos h46]
   have hr:=Ia (R:=Int) s f i cur hi hs hl hc (some (.inr (.inr (.inr false)))) ((some (IntKind.i64.wrap ((i:Int)+1))).bind fun v30=>some (.inl v30))
   cases hlab:uM cur
   ·rw [hlab,cond_false] at hr
    rw [aV (o := .inr false)]
    ·rfl
    ·unfold py
     exact ap lt (jW (a := .inr (.inr false)) (aL (s:=false) (ap lt2 (ar hchr (by rw [h46]; rfl))) (ak rfl hr)) rfl)
   ·rw [hlab,cond_true] at hr
    rw [bC (s':=(((i+1:Nat):Int),((i+1:Nat):Int)))]
    ·rw [Bool.true_and]
     exact pU s hs rest [] (i+1) (i+1) k (by simp) hd2 (by omega) (by simp) (by simp at hf; omega)
    ·unfold py
     exact ap lt (aL (s:=((i+1:Nat):Int)) (aL (s:=false) (ap lt2 (ar hchr (by rw [h46]; rfl))) (ak rfl (hr.trans (ar w rfl)))) (ar w rfl))
  ·rw [if_neg h46]
   have hx46:(x != 46)=true:=by simpa using h46
   have hlb:=HQ x
   have hin:((dk s (i:Int)).bind fun v10 =>
       (cP v10).bind fun v11 =>
       cond ((!v11))
        ((dk s (i:Int)).bind fun v12 =>
        (cz v12).bind fun v13 =>
        cond ((!v13))
         ((dk s (i:Int)).bind fun v14 =>
         some (Sum.inl (β:=(Int⊕((Int×Int)⊕((Unit)⊕Bool)))) (v14 != 45)))
         (some (.inl false)))
        (some (.inl false)))=some (.inl (!yc x)):=by
    rw [hlb]
    refine ar hchr (ar (EL x) ?_)
    cases BS x
    ·refine ap rfl (ar hchr (ar (xQ x) ?_))
     cases yo x
     ·exact ap rfl (ar hchr rfl)
     ·rfl
    ·rfl
   cases hl1:yc x
   ·rw [hl1] at hin
    rw [aV (o := .inr false)]
    ·rfl
    ·unfold py
     exact ap lt (jW (a := .inr (.inr false)) (aL (s:=true) (ap lt2 (ar hchr (by rw [hx46]))) (ap rfl (aL (s:=true) hin rfl))) rfl)
   ·rw [hl1] at hin
    rw [bC (s':=((f:Int),((i+1:Nat):Int)))]
    ·rw [Bool.true_and]
     refine pU s hs rest (cur++[x]) f (i+1) k (by simp; omega) hd2 (by omega) (fun j hj => ?_) (by simp at hf; omega)
     simp at hj
     by_cases hj2:j<cur.length
     ·rw [hc j hj2,List.getD_eq_getElem?_getD,List.getD_eq_getElem?_getD,List.getElem?_append_left hj2]
     ·have hj3:j=cur.length:=by omega
      subst hj3
      rw [hl,hx]
      simp
    ·unfold py
     exact ap lt (aL (s:=(f:Int)) (aL (s:=true) (ap lt2 (ar hchr (by rw [hx46]))) (ap rfl (aL (s:=false) hin rfl))) (ar w rfl))
theorem DJ (s:Li):eR s=some (pZ (ao s)):=by
 unfold eR pZ
 rw [aN]
 have hin:=yC (s.size:Int) 1 255
 by_cases h:1≤s.size∧s.size≤255
 ·rw [decide_eq_true (by omega),decide_eq_true (by omega)] at hin
  refine ar hin (ak rfl ?_)
  rw [decide_eq_true h.2,Bool.true_and,Hs]
  have:=pU s (by omega) (ao s) [] 0 0 bX rfl rfl (by omega) (by simp) (by rw [aN]; unfold bX; omega)
  change aI (aT (py s) bX ((0:Nat),(0:Nat))) _ _=_
  rw [this]
  cases tj [] (ao s) <;> rfl
 ·have hn:(decide ((1:Int)≤(s.size:Int))&&decide ((s.size:Int)≤255))=false:=by
   by_cases h1:1≤s.size
   ·rw [decide_eq_true (by omega),decide_eq_false (by omega)]; rfl
   ·rw [decide_eq_false (by omega)]; rfl
  rw [hn] at hin
  refine ar hin (ap rfl ?_)
  by_cases h1:1≤s.size
  ·rw [decide_eq_false (by omega)]; rfl
  ·have:ao s=[]:=List.eq_nil_of_length_eq_zero (by rw [aN]; omega)
   rw [this]
   simp [fa,qY]
theorem Ae:(List.range 256).all (fun k=>decide (dX ((k:Nat):Int)=some (Bw ((k:Nat):Int))))=true:=by kernel_rfl
theorem FJ {c:Int} (hc:0≤c∧c<256):dX c=some (Bw c):=by
 simpa using uN (fun c=>decide (dX c=some (Bw c))) Ae hc
def oU (p x:Int):Bool:=if x=46 then decide (p≠46) else Bw x
def uR (p:Int) (l:List Int):Bool:=sN oU p l&&decide ((p::l).getLast? ≠ some 46)
theorem sh:∀ (l:List Int) (p:Int),uR p l=match fa 46 l with
  | []=>true
  | a::ps=>(if p=46 then ng a else a.all Bw)&&ps.all ng
 | [],p=>by
  unfold uR
  simp only [sN,fa,Bool.true_and,List.getLast?_singleton,List.all_nil,Bool.and_true]
  by_cases h:p=46
  ·simp [h,ng]
  ·simp [h]
 | x::r,p=>by
  have ih:=sh r x
  have hne:=ji 46 r
  unfold fa
  have e:uR p (x::r)=(oU p x&&uR x r):=by
   unfold uR
   simp only [sN,List.getLast?_cons_cons,Bool.and_assoc]
  rw [e,ih]
  cases hs:fa 46 r with
  | nil=>exact absurd hs hne
  | cons a ps =>
   by_cases hx:x=46
   ·subst hx
    simp only [oU,if_true,List.all_cons]
    by_cases hp:p=46
    ·subst hp; simp [ng]
    ·simp [hp]
   ·simp only [oU,if_neg hx,List.all_cons]
    by_cases hp:p=46
    ·subst hp; simp [ng,Bool.and_assoc]
    ·simp [hp,Bool.and_assoc]
theorem DV (l:List Int) (hne:l≠[]) (h46:l.head? ≠ some 46) (hl:l.getLast? ≠ some 46):(fa 46 l).all ng=sN oU 0 l:=by
 have h:=sh l 46
 have e1:uR 46 l=sN oU 0 l:=by
  cases l with
  | nil=>exact absurd rfl hne
  | cons x r =>
   have hx:x≠46:=by simpa using h46
   unfold uR
   simp only [sN,List.getLast?_cons_cons,oU,if_neg hx]
   rw [decide_eq_true hl,Bool.and_true]
 rw [← e1,h]
 cases hs:fa 46 l with
 | nil=>exact absurd hs (ji 46 l)
 | cons a ps=>simp
theorem Ah {l:List Int} (h:l.head? = some 46):(fa 46 l).all ng=false:=by
 cases l with
 | nil=>simp at h
 | cons x r=>simp at h; subst h; simp [fa,ng]
theorem Bo {l:List Int} (h:l.getLast? = some 46):(fa 46 l).all ng=false:=by
 have h2:=sh l 46
 have e:(fa 46 l).all ng=uR 46 l:=by
  rw [h2]
  cases hs:fa 46 l with
  | nil=>exact absurd hs (ji 46 l)
  | cons a ps=>simp
 rw [e]
 unfold uR
 cases l with
 | nil=>simp at h
 | cons x r=>rw [List.getLast?_cons_cons,h]; simp
theorem Ed (s:Li):fj s=some (ov (ao s)):=by
 unfold fj ov
 rw [aN]
 by_cases h:1≤s.size∧s.size≤64
 ·have hn:(decide ((1:Int)≤(s.size:Int))&&decide ((s.size:Int)≤64))=true:=by rw [decide_eq_true (by omega),decide_eq_true (by omega)]; rfl
  have hin:=yC (s.size:Int) 1 64
  rw [hn] at hin
  have hne:ao s≠[]:=by intro e; have:=aN s; rw [e] at this; simp at this; omega
  have hh:=lp hne
  have hg:=np hne
  rw [aN] at hg
  have c0:=jT (s:=s) (i:=0) (by omega)
  have c1:=jT (s:=s) (i:=s.size-1) (by omega)
  have e1:((s.size-1:Nat):Int)=(s.size:Int)-1:=by omega
  rw [e1] at c1
  rw [decide_eq_true h.2,Bool.true_and]
  by_cases h0:(ao s).getD 0 0=46
  ·rw [h0] at hh c0
   rw [Ah hh]
   exact aL (s:=true) (ar hin (ak rfl (ar c0 (ap rfl rfl)))) rfl
  ·by_cases hl:(ao s).getD (s.size-1) 0=46
   ·rw [hl] at hg c1
    rw [Bo hg]
    exact aL (s:=true) (ar hin (ak rfl (ar c0 (ak (by simpa using h0) (ar (hH (by omega) (by omega)) (ar c1 rfl)))))) rfl
   ·rw [DV _ hne (by rw [hh]; simpa using h0) (by rw [hg]; simpa using hl)]
    refine aL (s:=false) (ar hin (ak rfl (ar c0 (ak (by simpa using h0) (ar (hH (by omega) (by omega)) (ar c1 (by rw [show ((ao s).getD (s.size-1) 0==46)=false by simpa using hl])))))) ) (ak rfl ?_)
    let q:Nat→Bool:=fun i=>oU ((0::ao s).getD i 0) ((ao s).getD i 0)
    have hl2:=fun (g:Int→Option (Int⊕(Unit⊕Bool)))=>gK (R:=Bool) (f:=g) q s.size false (fuel:=bX) (by unfold bX; omega)
    have hiff:=xm oU (ao s) 0
    rw [aN] at hiff
    have prev:∀ i,i<s.size→(ao s).getD i 0=46→dk s ((i:Int)-1)=some ((0::ao s).getD i 0):=by
     intro i hi h46
     cases i with
     | zero=>exact absurd h46 h0
     | succ i =>
      have:=jT (s:=s) (i:=i) (by omega)
      have e:((i+1:Nat):Int)-1=(i:Int):=by omega
      rw [e,this]; rfl
    rw [show sN oU 0 (ao s)=decide (∀ i,i<s.size→q i=true) by rw [Bool.eq_iff_iff,decide_eq_true_eq]; exact hiff.symm]
    refine (congrArg (fun m=>aI m _ _) (hl2 _ ?_ ?_ ?_)).trans ?_
    ·intro i hi hq
     have w:some (IntKind.i64.wrap ((i:Int)-1))=some ((i:Int)-1):=hH (by omega) (by omega)
     have w2:some (IntKind.i64.wrap ((i:Int)+1))=some ((i+1:Nat):Int):=by rw [aZ (by omega)]
     refine ap (decide_eq_true (by omega)) (aL (s:=false) (ar (jT hi) ?_) (ak rfl (ar w2 rfl)))
     by_cases h46:(ao s).getD i 0=46
     ·refine ap (by rw [h46]; rfl) (ar w (ar (prev i hi h46) ?_))
      have hp:(0::ao s).getD i 0≠46:=by
       simp only [q,oU,if_pos h46,decide_eq_true_eq] at hq
       exact hq
      exact ak (by simpa using hp) (ar (jT hi) (ak (by rw [h46]; rfl) rfl))
     ·refine ak (by simpa using h46) (ar (jT hi) (ap (by simpa using h46) (ar (jT hi) (ar (FJ (nw s hi)) ?_))))
      simp only [q,oU,if_neg h46] at hq
      rw [hq]; rfl
    ·intro i hi hq
     have w:some (IntKind.i64.wrap ((i:Int)-1))=some ((i:Int)-1):=hH (by omega) (by omega)
     refine ap (decide_eq_true (by omega)) (aL (s:=true) (ar (jT hi) ?_) (ap rfl rfl))
     by_cases h46:(ao s).getD i 0=46
     ·refine ap (by rw [h46]; rfl) (ar w (ar (prev i hi h46) ?_))
      have hp:(0::ao s).getD i 0=46:=by
       simp only [q,oU,if_pos h46,decide_eq_false_iff_not,ne_eq] at hq
       exact Decidable.not_not.1 hq
      exact ap (by rw [hp]; rfl) rfl
     ·refine ak (by simpa using h46) (ar (jT hi) (ap (by simpa using h46) (ar (jT hi) (ar (FJ (nw s hi)) ?_))))
      simp only [q,oU,if_neg h46] at hq
      rw [hq]; rfl
    ·exact ak (decide_eq_false (by omega)) rfl
    ·by_cases hall:∀ i,i<s.size→q i=true
     ·rw [if_pos hall,decide_eq_true hall]; rfl
     ·rw [if_neg hall,decide_eq_false hall]; rfl
 ·have hn:(decide ((1:Int)≤(s.size:Int))&&decide ((s.size:Int)≤64))=false:=by
   by_cases h1:1≤s.size
   ·rw [decide_eq_true (by omega),decide_eq_false (by omega)]; rfl
   ·rw [decide_eq_false (by omega)]; rfl
  have hin:=yC (s.size:Int) 1 64
  rw [hn] at hin
  refine aL (s:=true) (ar hin rfl) (ap rfl ?_)
  by_cases h1:1≤s.size
  ·rw [decide_eq_false (by omega)]; rfl
  ·have:ao s=[]:=List.eq_nil_of_length_eq_zero (by rw [aN]; omega)
   rw [this]
   simp [fa,ng]
theorem kt (p:aj):cV p=some (eI p):=by
 unfold cV eI
 rw [Ft,Ft]
 cases hn:p.Le
 ·refine ak rfl (aL (s:=ov (ao p.Lc)&&pZ (ao p.KZ)) (ar (Ed p.Lc) ?_) rfl)
  cases ov (ao p.Lc)
  ·rfl
  ·exact ap rfl (ar (DJ p.KZ) rfl)
 ·refine ap rfl (aL (s:=(ao p.Lc).isEmpty&&(ao p.KZ).isEmpty) ?_ rfl)
  cases (ao p.Lc).isEmpty <;> rfl
theorem CX (p:aj) (h:Small p):cJ p=some (aO (fw p)):=by
 unfold cJ fw
 cases hn:p.Le
 ·exact ak rfl (Iz p h _ _ rfl)
 ·exact ap rfl rfl
def Dw:Int→List Int→Prop
 | _,[]=>True
 | p,x::l=>(x=13→l.head? = some 10)∧(x=10→p=13)∧Dw x l
theorem xj:∀ (b:List Int) (p:Int),Dw p b→p≠13→b.getLast? = some 10→∃ l r,b=l++13::10::r∧nZ l∧Dw 10 r∧(r=[]∨r.getLast? = some 10)
 | [],p,_,_,h=>by simp at h
 | x::t,p,h,hp,hl=>by
  obtain ⟨h1,h2,h3⟩:=h
  by_cases hx:x=13
  ·subst hx
   cases t with
   | nil=>simp at hl
   | cons y r =>
    have hy:=h1 rfl
    simp at hy
    subst hy
    refine ⟨[],r,rfl,fun z hz=>by simp at hz,h3.2.2,?_⟩
    cases r with
    | nil=>exact .inl rfl
    | cons z r=>right; rw [List.getLast?_cons_cons,List.getLast?_cons_cons] at hl; exact hl
  ·have hx2:x≠10:=fun e=>hp (h2 e)
   cases t with
   | nil=>simp at hl; exact absurd hl hx2
   | cons y t =>
    rw [List.getLast?_cons_cons] at hl
    obtain ⟨l,r,e,hc,ho,hr⟩:=xj (y::t) x h3 hx hl
    refine ⟨x::l,r,by rw [e]; rfl,fun z hz => ?_,ho,hr⟩
    rcases List.mem_cons.1 hz with rfl | hz
    ·exact ⟨hx,hx2⟩
    ·exact hc z hz
theorem tv:∀ (n:Nat) (b:List Int) (p:Int),b.length≤n→Dw p b→p≠13→(b=[]∨b.getLast? = some 10)→∃ ls,(∀ l∈ls,nZ l)∧b=jn ls
 | 0,b,p,hn,_,_,_=>⟨[],fun l hl=>by simp at hl,by cases b with | nil=>rfl | cons=>simp at hn⟩
 | n+1,b,p,hn,ho,hp,hl=>by
  rcases hl with rfl | hl
  ·exact ⟨[],fun l hl=>by simp at hl,rfl⟩
  ·obtain ⟨l,r,e,hc,ho2,hr⟩:=xj b p ho hp hl
   obtain ⟨ls,h1,h2⟩:=tv n r 10 (by rw [e] at hn; simp at hn; omega) ho2 (by decide) hr
   refine ⟨l::ls,fun m hm => ?_,by rw [e,h2]; rfl⟩
   rcases List.mem_cons.1 hm with rfl | hm
   ·exact hc
   ·exact h1 m hm
def yb (b:List Int) (i:Nat):Bool:=if b[i]? = some 13 then decide (b[i+1]? ≠ some 10) else if b[i]? = some 10 then decide (i=0∨b[i-1]? ≠ some 13) else false
theorem CQ:∀ (b:List Int) (p:Int),(∀ i,i<b.length→(b[i]? = some 13→b[i+1]? = some 10)∧(b[i]? = some 10→(if i=0 then some p else b[i-1]?)=some 13))→Dw p b
 | [],_,_=>trivial
 | x::l,p,h=>by
  refine ⟨fun e => ?_,fun e => ?_,CQ l x fun i hi => ?_⟩
  ·have:=(h 0 (by simp)).1 (by simp [e])
   cases l with
   | nil=>simp at this
   | cons y l=>simpa using this
  ·have:=(h 0 (by simp)).2 (by simp [e])
   simpa using this
  ·have:=h (i+1) (by simp; omega)
   refine ⟨fun e=>by simpa using this.1 (by simpa using e),fun e => ?_⟩
   have h2:=this.2 (by simpa using e)
   rw [if_neg (by omega)] at h2
   cases i with
   | zero=>simpa using h2
   | succ i=>simpa using h2
theorem Gu {b:List Int} (h:∀ i,i<b.length→(!yb b i)=true):Dw 0 b:=by
 refine CQ b 0 fun i hi => ?_
 have h1:=h i hi
 simp only [yb,Bool.not_eq_true'] at h1
 refine ⟨fun e => ?_,fun e => ?_⟩
 ·rw [if_pos e,decide_eq_false_iff_not,Classical.not_not] at h1; exact h1
 ·rw [e] at h1
  rw [if_neg (by simp),if_pos rfl,decide_eq_false_iff_not,not_or,Classical.not_not] at h1
  rw [if_neg h1.1]; exact h1.2
theorem qi {b:List Int} {i:Nat} (h:i<b.length):b[i]? = some b[i]:=List.getElem?_eq_getElem h
theorem nt (b:List Int) {i:Nat} (hi:i<b.length) (hl:b.length<4611686018427387904) :
  ((cl (i:Int) b.length).bind fun v2 =>
     (aQ b v2).bind fun v3 =>
     cond ((v3==13))
      ((some (IntKind.i64.wrap ((i:Int)+1))).bind fun v4 =>
      cond ((decide ((b.length:Int)≤v4)))
       (some (.inl true))
       ((some (IntKind.i64.wrap ((i:Int)+1))).bind fun v5 =>
       (cl v5 b.length).bind fun v6 =>
       (aQ b v6).bind fun v7 =>
       cond ((v7 != 10))
        (some (.inl true))
        ((cl (i:Int) b.length).bind fun v8 =>
        (aQ b v8).bind fun v9 =>
        cond ((v9==10))
         (cond (((i:Int)==0))
          (some (.inl true))
          ((some (IntKind.i64.wrap ((i:Int)-1))).bind fun v10 =>
          (cl v10 b.length).bind fun v11 =>
          (aQ b v11).bind fun v12 =>
          some (.inl (v12 != 13))))
         (some (.inl false)))))
      ((cl (i:Int) b.length).bind fun v13 =>
      (aQ b v13).bind fun v14 =>
      cond ((v14==10))
       (cond (((i:Int)==0))
        (some (.inl true))
        ((some (IntKind.i64.wrap ((i:Int)-1))).bind fun v15 =>
        (cl v15 b.length).bind fun v16 =>
        (aQ b v16).bind fun v17 =>
        some (.inl (v17 != 13))))
       (some (.inl false))):Option (Bool⊕((Int)⊕((Unit)⊕Bool))))=some (.inl (yb b i)):=by
 have e0:some (IntKind.i64.wrap ((i:Int)+1))=some ((i+1:Nat):Int):=by rw [cN (by omega) (by omega)]; simp
 refine ar (bk hi) (ar (cA hi) ?_)
 by_cases h13:b[i]=13
 ·refine ap (by rw [h13]; rfl) (ar e0 ?_)
  unfold yb
  rw [qi hi,if_pos (by rw [h13])]
  by_cases hn:i+1<b.length
  ·refine ak (decide_eq_false (by omega)) (ar e0 (ar (bk hn) (ar (cA hn) ?_)))
   rw [qi hn]
   by_cases h10:b[i+1]=10
   ·refine ak (by rw [h10]; rfl) (ar (bk hi) (ar (cA hi) (ak (by rw [h13]; rfl) ?_)))
    simp [h10]
   ·refine ap (by simpa using h10) ?_
    simp [h10]
  ·refine ap (decide_eq_true (by omega)) ?_
   rw [List.getElem?_eq_none (by omega)]; rfl
 ·refine ak (by simpa using h13) (ar (bk hi) (ar (cA hi) ?_))
  unfold yb
  rw [qi hi,if_neg (by simpa using h13)]
  by_cases h10:b[i]=10
  ·refine ap (by rw [h10]; rfl) ?_
   rw [if_pos (by rw [h10])]
   cases i with
   | zero=>rfl
   | succ i =>
    refine ak (by rw [beq_eq_false_iff_ne]; omega) (ar (x:=((i:Nat):Int)) (by rw [cN (by omega) (by omega)]; simp) (ar (bk (by omega)) (ar (cA (by omega)) ?_)))
    rw [show i+1-1=i by omega,qi (by omega)]
    congr 2
    rw [Bool.eq_iff_iff,bne_iff_ne,decide_eq_true_eq]
    simp
  ·refine ak (by simpa using h10) ?_
   rw [if_neg (by simpa using h10)]
theorem wC (b:List Int) (hb:bM b) (hl:b.length<4294967281):bL b=some false∨(bL b=some true∧∃ ls,(∀ l∈ls,nZ l)∧(∀ l∈ls,bM l)∧b=jn ls):=by
 have hloop:=gK (R:=Bool) (f:=fun (s31:Int)=>cond ((decide (s31<(b.length:Int))))
    (aI (S:=Bool) (A:=((Int)⊕((Unit)⊕Bool)))
     ((cl s31 b.length).bind fun v2 =>
     (aQ b v2).bind fun v3 =>
     cond ((v3==13))
      ((some (IntKind.i64.wrap (s31+1))).bind fun v4 =>
      cond ((decide ((b.length:Int)≤v4)))
       (some (.inl true))
       ((some (IntKind.i64.wrap (s31+1))).bind fun v5 =>
       (cl v5 b.length).bind fun v6 =>
       (aQ b v6).bind fun v7 =>
       cond ((v7 != 10))
        (some (.inl true))
        ((cl s31 b.length).bind fun v8 =>
        (aQ b v8).bind fun v9 =>
        cond ((v9==10))
         (cond ((s31==0))
          (some (.inl true))
          ((some (IntKind.i64.wrap (s31-1))).bind fun v10 =>
          (cl v10 b.length).bind fun v11 =>
          (aQ b v11).bind fun v12 =>
          some (.inl (v12 != 13))))
         (some (.inl false)))))
      ((cl s31 b.length).bind fun v13 =>
      (aQ b v13).bind fun v14 =>
      cond ((v14==10))
       (cond ((s31==0))
        (some (.inl true))
        ((some (IntKind.i64.wrap (s31-1))).bind fun v15 =>
        (cl v15 b.length).bind fun v16 =>
        (aQ b v16).bind fun v17 =>
        some (.inl (v17 != 13))))
       (some (.inl false))))
     (fun (s45:Bool) =>
      cond (s45)
       (some (.inr (.inr (false))))
       ((some (IntKind.i64.wrap (s31+1))).bind fun v23 =>
       some (.inl v23))) some)
    (some (.inr (.inl ())))) (fun i => !yb b i) b.length false (fuel:=bX) (by unfold bX; omega)
  (fun i hi hp=>ap (decide_eq_true (by omega)) (aL (s:=yb b i) (nt b hi (by omega)) (ak (by simpa using hp) (ar (nm (by omega) (by omega)) rfl))))
  (fun i hi hp=>ap (decide_eq_true (by omega)) (aL (s:=yb b i) (nt b hi (by omega)) (ap (by simpa using hp) rfl)))
  (ak (decide_eq_false (by omega)) rfl)
 by_cases hall:∀ i,i<b.length→(!yb b i)=true
 ·rw [if_pos hall] at hloop
  have ho:=Gu hall
  cases hbn:b with
  | nil=>right; subst hbn; exact ⟨rfl,[],fun l hl=>by simp at hl,fun l hl=>by simp at hl,rfl⟩
  | cons y t =>
   rw [← hbn]
   have hpos:0<b.length:=by rw [hbn]; simp
   have hlast:b.getLast? = some (b[b.length-1]'(by omega)):=by rw [List.getLast?_eq_getElem?,qi (by omega)]
   have key:bL b=some (b[b.length-1]'(by omega)==10):=by
    unfold bL
    refine aL (s:=()) hloop (aL (s:=(b[b.length-1]'(by omega)==10)) (ak (by rw [beq_eq_false_iff_ne]; omega) (ar (x:=((b.length-1:Nat):Int)) (by rw [cN (by omega) (by omega)]; congr 1; omega) (ar (bk (by omega)) (ar (cA (by omega)) rfl)))) rfl)
   by_cases h10:b[b.length-1]'(by omega)=10
   ·right
    rw [key,h10]
    obtain ⟨ls,h1,h2⟩:=tv b.length b 0 (Nat.le_refl _) ho (by decide) (.inr (by rw [hlast,h10]))
    exact ⟨rfl,ls,h1,Gf (by rw [← h2]; exact hb),h2⟩
   ·left
    rw [key,beq_eq_false_iff_ne.2 h10]
 ·rw [if_neg hall] at hloop
  left
  unfold bL
  exact jW (a:=false) hloop rfl
theorem EP:∀ (k n:Nat) (acc:List Int) (fuel:Nat),n<10 ^ (k+1)→n<9000000000000000000→k<fuel→bM acc→acc.length+k<1000 →
  aI (S:=(Int×Li)) (A:=Li)
 (aT (S:=(Int×Li)) (O:=(Int×Li)⊕Li) (fun ((s11,s12):Int×Li) =>
  cond ((decide (9<s11)))
   ((nL s11 10).bind fun v2 =>
   (nL s11 10).bind fun v3 =>
   (some (IntKind.i64.wrap (v3+1))).bind fun v4 =>
   (fL (⟨#[48,49,50,51,52,53,54,55,56,57]⟩:Li) v2 v4).bind fun v5 =>
   (bQ v5 s12).bind fun v6 =>
   (uW .i64 s11 10).bind fun v7 =>
   some (.inl (v7,v6)))
   (some (.inr (.inl (s11,s12)))))
  fuel ((n:Int),aO acc))
 (fun ((s14,s15):Int×Li) =>
  (some (IntKind.i64.wrap (s14+1))).bind fun v23 =>
  (fL (⟨#[48,49,50,51,52,53,54,55,56,57]⟩:Li) s14 v23).bind fun v24 =>
  (bQ v24 s15).bind fun v25 =>
  some (v25)) some=some (aO (kM k n acc)):=by
 intro k
 induction k with
 | zero =>
  intro n acc fuel hn _ hf hb hl
  cases fuel with
  | zero=>omega
  | succ fuel =>
   have h9:n≤9:=by simp at hn; omega
   unfold kM
   exact aL (aV (ak (decide_eq_false (by omega)) rfl)) (ar (by rw [aZ (by omega)]) (ar (vA (by omega)) (ar (oz (aK (Ck h9)) (aK hb) (by simp; omega)) rfl)))
 | succ k ih =>
  intro n acc fuel hn hbig hf hb hl
  cases fuel with
  | zero=>omega
  | succ fuel =>
   by_cases h9:n≤9
   ·unfold kM
    rw [if_pos h9]
    exact aL (aV (ak (decide_eq_false (by omega)) rfl)) (ar (by rw [aZ (by omega)]) (ar (vA (by omega)) (ar (oz (aK (Ck h9)) (aK hb) (by simp; omega)) rfl)))
   ·have hd:bM [48+((n % 10:Nat):Int)]:=dj (by omega) dx
    have hr:nL (n:Int) 10=some ((n % 10:Nat):Int):=uE n 10 (by decide)
    have hq:uW .i64 (n:Int) 10=some ((n / 10:Nat):Int):=Fc n 10 (by decide) (by omega)
    have hn2:n / 10<10 ^ (k+1):=by rw [Nat.pow_succ] at hn; omega
    have hih:=ih (n / 10) ((48+((n % 10:Nat):Int))::acc) fuel hn2 (by omega) (by omega) (dj (by omega) hb) (by simp; omega)
    have e:kM (k+1) n acc=kM k (n / 10) ((48+((n % 10:Nat):Int))::acc):=by rw [kM,if_neg h9]
    rw [e,← hih]
    congr 1
    exact bC (ap (decide_eq_true (by omega)) (ar hr (ar hr (ar (by rw [aZ (by omega)]) (ar (vA (by omega)) (ar (oz (aK hd) (aK hb) (by simp; omega)) (ar hq rfl)))))))
theorem Ex (k n:Nat) (h:n<10 ^ (k+1)) (h2:n<9000000000000000000) (hk:k<900):aJ (n:Int)=some (aO (kM k n [])) :=
 EP k n [] bX h h2 (by unfold bX; omega) dx (by simpa using by omega)
set_option maxRecDepth 100000
def KC (m:ae):((Int))→Option ((Int)⊕((Unit)⊕Bool)):=(fun (s28:Int) =>
 cond ((decide (s28<(m.To.length:Int))))
  (aI (S:=Bool) (A:=((Int)⊕((Unit)⊕Bool)))
   ((cl s28 m.To.length).bind fun v10 =>
   (aQ m.To v10).bind fun v11 =>
   (cV v11).bind fun v12 =>
   cond ((!v12))
    (some (.inl true))
    ((cl s28 m.To.length).bind fun v13 =>
    (aQ m.To v13).bind fun v14 =>
    some (.inl v14.Le)))
   (fun (s42:Bool) =>
    cond (s42)
     (some (.inr (.inr (false))))
     ((some (IntKind.i64.wrap (s28+1))).bind fun v20 =>
     some (.inl v20))) some)
  (some (.inr (.inl ()))))
def Kr (b:az):((Int))→Option ((Int)⊕((Unit)⊕Bool)):=(fun (s26:Int) =>
 cond ((decide (s26<(b.Ld.length:Int))))
  ((cl s26 b.Ld.length).bind fun v10 =>
  (aQ b.Ld v10).bind fun v11 =>
  aI (S:=Bool) (A:=((Int)⊕((Unit)⊕Bool)))
   ((cW ((ae.mk (aj.mk v11.La.Le v11.La.Lc v11.La.KZ) v11.To v11.KY v11.Lh v11.Lb v11.At))).bind fun v12 =>
   cond ((!v12))
    (some (.inl true))
    (cond (v11.Lh)
     (some (.inl true))
     (cond ((!(v11.Lb.toList==(⟨#[]⟩:Li).toList)))
      (some (.inl true))
      (some (.inl (v11.At != 0))))))
   (fun (s40:Bool) =>
    cond (s40)
     (some (.inr (.inr (false))))
     ((some (IntKind.i64.wrap (s26+1))).bind fun v18 =>
     some (.inl v18))) some)
  (some (.inr (.inl ()))))
def KI (b:List Int):(((List Int)×Int))→Option (((List Int)×Int)⊕(((List Int))⊕(List Int))):=(fun ((s43,s44):(List Int)×Int) =>
 cond ((decide (s44<(b.length:Int))))
  (aI (S:=(List Int)) (A:=(((List Int)×Int)⊕(((List Int))⊕(List Int))))
   (aI (S:=Bool) (A:=(((List Int))⊕(((List Int)×Int)⊕(((List Int))⊕(List Int)))))
    ((cl s44 b.length).bind fun v2 =>
    (aQ b v2).bind fun v3 =>
    cond ((v3==46))
     (cond ((s44==0))
      (some (.inl true))
      ((some (IntKind.i64.wrap (s44-1))).bind fun v4 =>
      (cl v4 b.length).bind fun v5 =>
      (aQ b v5).bind fun v6 =>
      some (.inl (v6==10))))
     (some (.inl false)))
    (fun (s77:Bool) =>
     cond (s77)
      ((cr 1 s43 [46]).bind fun v12 =>
      some (.inl v12))
      (some (.inl s43))) some)
   (fun (s73:(List Int)) =>
    (cl s44 b.length).bind fun v22 =>
    (aQ b v22).bind fun v23 =>
    (cr 1 s73 [v23]).bind fun v24 =>
    (some (IntKind.i64.wrap (s44+1))).bind fun v25 =>
    some (.inl (v24,v25))) some)
  (some (.inr (.inl s43))))
def KS (b:az):(((List Int)×Int))→Option (((List Int)×Int)⊕(((List Int))⊕(List Int))):=(fun ((s52,s53):(List Int)×Int) =>
 cond ((decide (s53<(b.Ld.length:Int))))
  ((cl s53 b.Ld.length).bind fun v2 =>
  (aQ b.Ld v2).bind fun v3 =>
  (cJ (aj.mk v3.La.Le v3.La.Lc v3.La.KZ)).bind fun v4 =>
  (bQ (⟨#[77,65,73,76,32,70,82,79,77,58]⟩:Li) v4).bind fun v5 =>
  (bQ v5 (⟨#[13,10]⟩:Li)).bind fun v6 =>
  (cr 1 s52 (ao v6)).bind fun v7 =>
  aI (S:=((List Int))) (A:=(((List Int)×Int)⊕(((List Int))⊕(List Int))))
   (aT (S:=((List Int)×Int)) (O:=((List Int))⊕(((List Int)×Int)⊕(((List Int))⊕(List Int)))) (fun ((s82,s83):(List Int)×Int) =>
    cond ((decide (s83<(v3.To.length:Int))))
     ((cl s83 v3.To.length).bind fun v9 =>
     (aQ v3.To v9).bind fun v10 =>
     (cJ v10).bind fun v11 =>
     (bQ (⟨#[82,67,80,84,32,84,79,58]⟩:Li) v11).bind fun v12 =>
     (bQ v12 (⟨#[13,10]⟩:Li)).bind fun v13 =>
     (cr 1 s82 (ao v13)).bind fun v14 =>
     (some (IntKind.i64.wrap (s83+1))).bind fun v15 =>
     some (.inl (v14,v15)))
     (some (.inr (.inl s82))))
    bX (v7,0))
   (fun (s85:(List Int)) =>
    (cr 1 s85 (ao (⟨#[68,65,84,65,13,10]⟩:Li))).bind fun v30 =>
    (et v3.KY).bind fun v31 =>
    (cr 1 v30 v31).bind fun v32 =>
    (some (IntKind.i64.wrap (s53+1))).bind fun v33 =>
    some (.inl (v32,v33))) some)
  (some (.inr (.inl s52))))
def KR (v3:ae):(((List Int)×Int))→Option (((List Int)×Int)⊕(((List Int))⊕(((List Int)×Int)⊕(((List Int))⊕(List Int))))):=(fun ((s82,s83):(List Int)×Int) =>
 cond ((decide (s83<(v3.To.length:Int))))
  ((cl s83 v3.To.length).bind fun v9 =>
  (aQ v3.To v9).bind fun v10 =>
  (cJ v10).bind fun v11 =>
  (bQ (⟨#[82,67,80,84,32,84,79,58]⟩:Li) v11).bind fun v12 =>
  (bQ v12 (⟨#[13,10]⟩:Li)).bind fun v13 =>
  (cr 1 s82 (ao v13)).bind fun v14 =>
  (some (IntKind.i64.wrap (s83+1))).bind fun v15 =>
  some (.inl (v14,v15)))
  (some (.inr (.inl s82))))
def JH (b:List Int) (divisor:Int):((Int×Int))→Option ((Int×Int)⊕((Int)⊕Int)):=(fun ((s97,s98):Int×Int) =>
 cond ((decide (s98<(b.length:Int))))
  (aI (S:=(Int)) (A:=((Int×Int)⊕((Int)⊕Int)))
   (aT (S:=(Int×Int)) (O:=(Int)⊕((Int×Int)⊕((Int)⊕Int))) (fun ((s163,s164):Int×Int) =>
    cond ((decide (s164<8)))
     (aI (S:=Int) (A:=((Int×Int)⊕((Int)⊕((Int×Int)⊕((Int)⊕Int)))))
      ((some (bits .and .i64 s163 1)).bind fun v6 =>
      (mf .i64 s163 1).bind fun v7 =>
      (cl s98 b.length).bind fun v8 =>
      (aQ b v8).bind fun v9 =>
      (some (IntKind.u64.wrap s164)).bind fun v10 =>
      (mf .u8 v9 v10).bind fun v11 =>
      (some (IntKind.i64.wrap v11)).bind fun v12 =>
      (some (bits .and .i64 v12 1)).bind fun v13 =>
      cond ((v6 != v13))
       ((some (bits .xor .i64 v7 divisor)).bind fun v15 =>
       some (.inl v15))
       (some (.inl v7)))
      (fun (s181:Int) =>
       (some (IntKind.i64.wrap (s164+1))).bind fun v21 =>
       some (.inl (s181,v21))) some)
     (some (.inr (.inl s163))))
    bX (s97,0))
   (fun (s172:Int) =>
    (some (IntKind.i64.wrap (s98+1))).bind fun v54 =>
    some (.inl (s172,v54))) some)
  (some (.inr (.inl s97))))
def IZ (b:List Int) (divisor s98:Int):((Int×Int))→Option ((Int×Int)⊕((Int)⊕((Int×Int)⊕((Int)⊕Int)))):=(fun ((s163,s164):Int×Int) =>
 cond ((decide (s164<8)))
  (aI (S:=Int) (A:=((Int×Int)⊕((Int)⊕((Int×Int)⊕((Int)⊕Int)))))
   ((some (bits .and .i64 s163 1)).bind fun v6 =>
   (mf .i64 s163 1).bind fun v7 =>
   (cl s98 b.length).bind fun v8 =>
   (aQ b v8).bind fun v9 =>
   (some (IntKind.u64.wrap s164)).bind fun v10 =>
   (mf .u8 v9 v10).bind fun v11 =>
   (some (IntKind.i64.wrap v11)).bind fun v12 =>
   (some (bits .and .i64 v12 1)).bind fun v13 =>
   cond ((v6 != v13))
    ((some (bits .xor .i64 v7 divisor)).bind fun v15 =>
    some (.inl v15))
    (some (.inl v7)))
   (fun (s181:Int) =>
    (some (IntKind.i64.wrap (s164+1))).bind fun v21 =>
    some (.inl (s181,v21))) some)
  (some (.inr (.inl s163))))
theorem ft (n lo hi:Int):bI n lo hi=some (decide (lo≤n)&&decide (n≤hi)):=by
 unfold bI
 by_cases h:lo≤n
 ·exact aL (s:=decide (n≤hi)) (ap (decide_eq_true h) rfl) (by rw [decide_eq_true h,Bool.true_and])
 ·exact aL (s:=false) (ak (decide_eq_false h) rfl) (by rw [decide_eq_false h,Bool.false_and])
theorem qc {m:ae} (h:LM m) (hb:bM m.KY):∃ c,cW m=some c∧(c=true→vk m=true):=by
 have hl:=(fI h).2.2.1
 have hT:=h.1
 unfold cW
 have e1:=kt (aj.mk m.La.Le m.La.Lc m.La.KZ)
 rw [show aj.mk m.La.Le m.La.Lc m.La.KZ=m.La from rfl] at e1 ⊢
 by_cases hF:eI m.La=true
 case neg=>exact ⟨false,aL (s:=true) (ar e1 (ap (by rw [Bool.eq_false_iff.2 hF]; rfl) rfl)) (ap rfl rfl),fun h=>by cases h⟩
 have nF:(!eI m.La)=false:=by rw [hF]; rfl
 by_cases hn:1≤m.To.length∧m.To.length≤8
 case neg =>
  refine ⟨false,aL (s:=true) (ar e1 (ak nF (ar (ft _ _ _) (ap ?_ rfl)))) (ap rfl rfl),fun h=>by cases h⟩
  rw [Bool.not_eq_true']
  rw [Bool.and_eq_false_iff]
  by_cases h1:1≤m.To.length
  ·exact .inr (decide_eq_false (by omega))
  ·exact .inl (decide_eq_false (by omega))
 have nN:(!(decide ((1:Int)≤(m.To.length:Int))&&decide ((m.To.length:Int)≤8)))=false:=by rw [decide_eq_true (by omega),decide_eq_true (by omega)]; rfl
 rcases wC m.KY hb (by omega) with hbd | ⟨hbd,ls,a,b,c⟩
 ·exact ⟨false,aL (s:=true) (ar e1 (ak nF (ar (ft _ _ _) (ak nN (ar hbd (ap rfl rfl)))))) (ap rfl rfl),fun h=>by cases h⟩
 have hd:cM m.KY=some 0:=by rw [c]; exact kx a b (by rw [← cw,← c]; omega)
 by_cases h4:m.KY.length≤4096
 case neg=>exact ⟨false,aL (s:=true) (ar e1 (ak nF (ar (ft _ _ _) (ak nN (ar hbd (ak rfl (cG (decide_eq_true (by omega))))))))) (ap rfl rfl),fun h=>by cases h⟩
 have hlp:=gK (R:=Bool) (f:=KC m) (fun i=>uZ (m.To.getD i nK)) m.To.length false (fuel:=bX) (by simp only [bX]; omega) (fun i hi hp=>by
  have hg:aQ m.To i=some (m.To.getD i nK):=nQ nK hi
  have hp:uZ (m.To.getD i nK)=true:=hp
  unfold uZ at hp
  rw [Bool.and_eq_true] at hp
  exact ap (decide_eq_true (by omega)) (aL (s:=false) (ar (bk hi) (ar hg (ar (kt _) (ak (by rw [hp.1]; rfl) (ar (bk hi) (ar hg (cG (by simpa using hp.2)))))))) (ak rfl (ar (congrArg some (aZ (n:=i) (by omega))) rfl)))) (fun i hi hp=>by
  have hg:aQ m.To i=some (m.To.getD i nK):=nQ nK hi
  have hp:uZ (m.To.getD i nK)=false:=hp
  unfold uZ at hp
  by_cases h1:eI (m.To.getD i nK)=true
  ·rw [h1,Bool.true_and] at hp
   exact ap (decide_eq_true (by omega)) (aL (s:=true) (ar (bk hi) (ar hg (ar (kt _) (ak (by rw [h1]; rfl) (ar (bk hi) (ar hg (cG (by simpa using hp)))))))) (ap rfl rfl))
  ·exact ap (decide_eq_true (by omega)) (aL (s:=true) (ar (bk hi) (ar hg (ar (kt _) (ap (by rw [Bool.eq_false_iff.2 h1]; rfl) rfl)))) (ap rfl rfl))) (ak (decide_eq_false (by omega)) rfl)
 have pre:(cV m.La).bind (fun v1=>cond ((!v1)) (some (.inl true)) ((bI (m.To.length:Int) 1 8).bind fun v2=>cond ((!v2)) (some (.inl true)) ((bL m.KY).bind fun v3=>cond ((!v3)) (some (.inl true)) (some (.inl ((decide (4096<(m.KY.length:Int)))))))))=(some (.inl false):Option (Bool⊕Bool)):=ar e1 (ak nF (ar (ft _ _ _) (ak nN (ar hbd (ak rfl (cG (decide_eq_false (by omega))))))))
 by_cases ha:m.To.all uZ=true
 ·rw [if_pos ((ju nK uZ m.To).2 ha)] at hlp
  refine ⟨true,aL (s:=false) pre (ak rfl (aL hlp rfl)),fun _ => ?_⟩
  unfold vk xP CN
  rw [hF,ha,hd,decide_eq_true hn,decide_eq_true h4]
  rfl
 ·rw [if_neg fun h=>ha ((ju nK uZ m.To).1 h)] at hlp
  exact ⟨false,aL (s:=false) pre (ak rfl (jW hlp rfl)),fun h=>by cases h⟩
def FT (m:ae):Bool:=(cW m).getD false&&(!m.Lh&&(decide (m.Lb=e0)&&decide (m.At=0)))
theorem vM {b:az} (hm:∀ m∈b.Ld,LM m∧bM m.KY) (hl:b.Ld.length≤20):∃ c,cp b=some c∧(c=true→nD b=true):=by
 unfold cp
 by_cases ho:0≤b.Lg∧b.Lg≤1
 case neg =>
  refine ⟨false,aL (s:=true) (ar (ft _ _ _) (ap ?_ rfl)) (ap rfl rfl),fun h=>by cases h⟩
  rw [Bool.not_eq_true',Bool.and_eq_false_iff]
  by_cases h1:0≤b.Lg
  ·exact .inr (decide_eq_false (by omega))
  ·exact .inl (decide_eq_false (by omega))
 have no:(!(decide ((0:Int)≤b.Lg)&&decide (b.Lg≤1)))=false:=by rw [decide_eq_true ho.1,decide_eq_true ho.2]; rfl
 by_cases hn:1≤b.Lf∧b.Lf≤65535
 case neg =>
  refine ⟨false,aL (s:=true) (ar (ft _ _ _) (ak no (ar (ft _ _ _) (ap ?_ rfl)))) (ap rfl rfl),fun h=>by cases h⟩
  rw [Bool.not_eq_true',Bool.and_eq_false_iff]
  by_cases h1:1≤b.Lf
  ·exact .inr (decide_eq_false (by omega))
  ·exact .inl (decide_eq_false (by omega))
 have nn:(!(decide ((1:Int)≤b.Lf)&&decide (b.Lf≤65535)))=false:=by rw [decide_eq_true hn.1,decide_eq_true hn.2]; rfl
 by_cases hk:1≤b.Ld.length∧b.Ld.length≤4
 case neg =>
  refine ⟨false,aL (s:=true) (ar (ft _ _ _) (ak no (ar (ft _ _ _) (ak nn (ar (ft _ _ _) (cG ?_)))))) (ap rfl rfl),fun h=>by cases h⟩
  rw [Bool.not_eq_true',Bool.and_eq_false_iff]
  by_cases h1:1≤b.Ld.length
  ·exact .inr (decide_eq_false (by omega))
  ·exact .inl (decide_eq_false (by omega))
 have nk:(!(decide ((1:Int)≤(b.Ld.length:Int))&&decide ((b.Ld.length:Int)≤4)))=false:=by rw [decide_eq_true (by omega),decide_eq_true (by omega)]; rfl
 have hlp:=gK (R:=Bool) (f:=Kr b) (fun i=>FT (b.Ld.getD i iz)) b.Ld.length false (fuel:=bX) (by simp only [bX]; omega) (fun i hi hp=>by
  have hg:aQ b.Ld i=some (b.Ld.getD i iz):=nQ iz hi
  obtain ⟨lm,hb⟩:=hm _ (EQ iz hi)
  obtain ⟨c,hc,_⟩:=qc lm hb
  generalize b.Ld.getD i iz=m at *
  unfold FT at hp
  rw [hc,Option.getD_some,Bool.and_eq_true,Bool.and_eq_true,Bool.and_eq_true] at hp
  obtain ⟨h1,h2,h3,h4⟩:=hp
  subst h1
  have h2:m.Lh=false:=by simpa using h2
  have h3:=of_decide_eq_true h3
  have h4:=of_decide_eq_true h4
  refine ap (decide_eq_true (by omega)) (ar (bk hi) (ar hg (aL (s:=false) (ar (x:=true) hc (ak rfl (ak h2 (ak ?_ (cG ?_))))) (ak rfl (ar (congrArg some (aZ (n:=i) (by omega))) rfl)))))
  ·rw [cq,h3,show (⟨#[]⟩:Li)=e0 from rfl,decide_eq_true rfl]; rfl
  ·rw [h4]; rfl) (fun i hi hp=>by
  have hg:aQ b.Ld i=some (b.Ld.getD i iz):=nQ iz hi
  obtain ⟨lm,hb⟩:=hm _ (EQ iz hi)
  obtain ⟨c,hc,_⟩:=qc lm hb
  generalize b.Ld.getD i iz=m at *
  unfold FT at hp
  rw [hc,Option.getD_some] at hp
  refine ap (decide_eq_true (by omega)) (ar (bk hi) (ar hg (aL (s:=true) (ar (x:=c) hc ?_) (ap rfl rfl))))
  cases c
  ·exact ap rfl rfl
  refine ak rfl ?_
  rw [Bool.true_and] at hp
  cases hq:m.Lh
  ·rw [hq,Bool.not_false,Bool.true_and] at hp
   refine ak rfl ?_
   by_cases hh:m.Lb=e0
   ·rw [decide_eq_true hh,Bool.true_and] at hp
    have:=of_decide_eq_false hp
    exact ak (by rw [cq,hh,show (⟨#[]⟩:Li)=e0 from rfl,decide_eq_true rfl]; rfl) (cG (bne_iff_ne.2 this))
   ·refine ap ?_ rfl
    rw [cq,show (⟨#[]⟩:Li)=e0 from rfl,decide_eq_false hh]; rfl
  ·exact ap rfl rfl) (ak (decide_eq_false (by omega)) rfl)
 have pre:(bI b.Lg 0 1).bind (fun v1=>cond ((!v1)) (some (.inl true)) ((bI b.Lf 1 65535).bind fun v2=>cond ((!v2)) (some (.inl true)) ((bI (b.Ld.length:Int) 1 4).bind fun v3=>some (.inl (!v3)))))=(some (.inl false):Option (Bool⊕Bool)):=ar (ft _ _ _) (ak no (ar (ft _ _ _) (ak nn (ar (ft _ _ _) (cG nk)))))
 by_cases ha:b.Ld.all FT=true
 ·rw [if_pos ((ju iz FT b.Ld).2 ha)] at hlp
  refine ⟨true,aL (s:=false) pre (ak rfl (aL hlp rfl)),fun _ => ?_⟩
  have hp:b.Ld.all pD=true:=List.all_eq_true.2 fun m hmm=>by
   have h1:=List.all_eq_true.1 ha m hmm
   obtain ⟨lm,hb⟩:=hm m hmm
   obtain ⟨c,hc,hc2⟩:=qc lm hb
   unfold FT at h1
   rw [hc,Option.getD_some,Bool.and_eq_true] at h1
   unfold pD
   rw [hc2 h1.1,h1.2]
   rfl
  unfold nD
  rw [hp,decide_eq_true hk,decide_eq_true (show (b.Lg=0∨b.Lg=1)∧1≤b.Lf∧b.Lf≤65535 by omega)]
  rfl
 ·rw [if_neg fun h=>ha ((ju iz FT b.Ld).1 h)] at hlp
  exact ⟨false,aL (s:=false) pre (ak rfl (jW hlp rfl)),fun h=>by cases h⟩
def xp:Bool→List Int→List Int
 | _,[]=>[]
 | f,c::t=>(if c=46∧f=true then [46,c] else [c])++xp (decide (c=10)) t
theorem wY:∀ (l r:List Int),nZ l→xp false (l++13::10::r)=l++13::10::xp true r
 | [],r,h=>by simp [xp]
 | c::l,r,h=>by
  have hc:=h c (by simp)
  have ih:=wY l r (fun x hx=>h x (by simp [hx]))
  simp [xp,hc.2,ih]
theorem Dq:∀ (ls:List (List Int)),(∀ l∈ls,nZ l)→xp true (jn ls)=jn (ls.map lQ)
 | [],h=>by simp [xp,jn]
 | l::ls,h=>by
  have ih:=Dq ls (fun x hx=>h x (by simp [hx]))
  have hl:=h l (by simp)
  rw [List.map_cons,jn,jn,← ih]
  cases l with
  | nil=>simp [xp,lQ]
  | cons c t =>
   have hc:=hl c (by simp)
   have ht:=wY t (jn ls) (fun x hx=>hl x (by simp [hx]))
   by_cases h46:c=46
   ·simp [xp,lQ,h46,ht]
   ·simp [xp,lQ,h46,hc.2,ht]
def EN (b:List Int) (i:Nat):Bool:=decide (i=0)||decide (b.getD (i-1) 0=10)
theorem rq {b:List Int} (hl:b.length≤100000):∀ (k i fuel:Nat) (s:List Int),i+k=b.length→k<fuel→s.length+2 * k≤1000000 →
  aT (KI b) fuel (s,(i:Int))=some (.inl (s++xp (EN b i) (b.drop i)))
 | 0,i,fuel,s,hk,hf,hs=>by
  obtain ⟨fu,rfl⟩:∃ fu,fuel=fu+1:=⟨fuel-1,by omega⟩
  rw [List.drop_eq_nil_of_le (by omega),xp,List.append_nil]
  exact aV (ak (decide_eq_false (by omega)) rfl)
 | k+1,i,fuel,s,hk,hf,hs=>by
  obtain ⟨fu,rfl⟩:∃ fu,fuel=fu+1:=⟨fuel-1,by omega⟩
  have hi:i<b.length:=by omega
  have hg:aQ b i=some b[i]:=by simp [aQ,hi]
  have hix:=bk hi
  have hfl:EN b (i+1)=decide (b[i]=10):=by
   unfold EN
   rw [decide_eq_false (by omega),Bool.false_or,Nat.add_sub_cancel,List.getD_eq_getElem?_getD,List.getElem?_eq_getElem hi]
   rfl
  have hd:b.drop i=b[i]::b.drop (i+1):=List.drop_eq_getElem_cons hi
  rw [hd,xp,← hfl]
  have tail:∀ s':List Int,s'.length+1+2 * k≤1000000→(∀ r,(cl (i:Int) b.length).bind (fun v22=>(aQ b v22).bind fun v23=>(cr 1 s' [v23]).bind fun v24=>(some (IntKind.i64.wrap ((i:Int)+1))).bind fun v25=>some (Sum.inl (v24,v25)))=some (r:(List Int×Int)⊕(List Int⊕List Int))↔r = .inl (s'++[b[i]],((i+1:Nat):Int))):=fun s' h' r=>by
   have h:=ar (f:=fun v22=>(aQ b v22).bind fun v23=>(cr 1 s' [v23]).bind fun v24=>(some (IntKind.i64.wrap ((i:Int)+1))).bind fun v25=>some (Sum.inl (v24,v25))) hix (ar hg (ar (cF (l:=s') (m:=[b[i]]) (by simp only [List.length_cons,List.length_nil]; omega) (by simp only [List.length_cons,List.length_nil]; omega)) (ar (congrArg some (aZ (n:=i) (by omega))) (rfl:(some (Sum.inl (s'++[b[i]],((i+1:Nat):Int))):Option ((List Int×Int)⊕(List Int⊕List Int)))=_))))
   rw [h]
   exact ⟨fun e=>(Option.some.inj e).symm,fun e=>by rw [e]⟩
  by_cases h46:b[i]=46
  ·by_cases hff:EN b i=true
   ·rw [if_pos ⟨h46,hff⟩]
    have ih:=rq hl k (i+1) fu (s++[46]++[b[i]]) (by omega) (by omega) (by simp only [List.length_append,List.length_cons,List.length_nil]; omega)
    rw [show s++([46,b[i]]++xp (EN b (i+1)) (b.drop (i+1)))=s++[46]++[b[i]]++xp (EN b (i+1)) (b.drop (i+1)) by simp]
    refine (bC (s':=(s++[46]++[b[i]],((i+1:Nat):Int))) ?_).trans ih
    have hin:(cond ((i:Int)==0) (some (.inl true)) ((some (IntKind.i64.wrap ((i:Int)-1))).bind fun v4=>(cl v4 b.length).bind fun v5=>(aQ b v5).bind fun v6=>some (.inl (v6==10))):Option (Bool⊕(List Int⊕((List Int×Int)⊕(List Int⊕List Int)))))=some (.inl true):=by
     by_cases h0:i=0
     ·exact ap (beq_iff_eq.2 (by omega)) rfl
     ·have h10:b.getD (i-1) 0=10:=by
       unfold EN at hff
       rw [decide_eq_false h0,Bool.false_or] at hff
       exact of_decide_eq_true hff
      have hw:IntKind.i64.wrap ((i:Int)-1)=((i-1:Nat):Int):=by rw [dO (by omega) (by omega)]; omega
      exact ak (beq_eq_false_iff_ne.2 (by omega)) (ar (congrArg some hw) (ar (bk (show i-1<b.length by omega)) (ar (nQ 0 (show i-1<b.length by omega)) (by rw [h10]; rfl))))
    exact ap (decide_eq_true (by omega)) (aL (s:=s++[46]) (aL (s:=true) (ar hix (ar hg (ap (beq_iff_eq.2 h46) hin))) (ap rfl (ar (cF (m:=[46]) (by simp only [List.length_cons,List.length_nil]; omega) (by simp only [List.length_cons,List.length_nil]; omega)) rfl))) ((tail (s++[46]) (by simp only [List.length_append,List.length_cons,List.length_nil]; omega) _).2 rfl))
   ·rw [if_neg (fun h=>hff h.2)]
    have ih:=rq hl k (i+1) fu (s++[b[i]]) (by omega) (by omega) (by simp only [List.length_append,List.length_cons,List.length_nil]; omega)
    rw [← List.append_assoc]
    refine (bC (s':=(s++[b[i]],((i+1:Nat):Int))) ?_).trans ih
    have hff:=Bool.eq_false_iff.2 hff
    unfold EN at hff
    rw [Bool.or_eq_false_iff] at hff
    have h0:=of_decide_eq_false hff.1
    have h10:=of_decide_eq_false hff.2
    have hw:IntKind.i64.wrap ((i:Int)-1)=((i-1:Nat):Int):=by rw [dO (by omega) (by omega)]; omega
    exact ap (decide_eq_true (by omega)) (aL (s:=s) (aL (s:=false) (ar hix (ar hg (ap (beq_iff_eq.2 h46) (ak (beq_eq_false_iff_ne.2 (by omega)) (ar (congrArg some hw) (ar (bk (show i-1<b.length by omega)) (ar (nQ 0 (show i-1<b.length by omega)) (by rw [beq_eq_false_iff_ne.2 h10])))))))) (ak rfl rfl)) ((tail s (by omega) _).2 rfl))
  ·rw [if_neg (fun h=>h46 h.1)]
   have ih:=rq hl k (i+1) fu (s++[b[i]]) (by omega) (by omega) (by simp only [List.length_append,List.length_cons,List.length_nil]; omega)
   rw [← List.append_assoc]
   refine (bC (s':=(s++[b[i]],((i+1:Nat):Int))) ?_).trans ih
   exact ap (decide_eq_true (by omega)) (aL (s:=s) (aL (s:=false) (ar hix (ar hg (ak (beq_eq_false_iff_ne.2 h46) rfl))) (ak rfl rfl)) ((tail s (by omega) _).2 rfl))
theorem Ai {m:ae} (h:Vm m):et m.KY=some (eX m.KY):=by
 obtain ⟨ls,h1,h2,h3⟩:=h.bd
 have hl:=(fI h.lm).2.2.1
 have ht:dZ ls≤20000:=by rw [← cw,← h3]; exact hl
 have hs:=mA h1 h2 (by omega:dZ ls<1000000000)
 rw [← h3] at hs
 have e:eX m.KY=jn (ls.map lQ++[[46]]):=by unfold eX; rw [hs]; rfl
 have hlp:=rq (b:=m.KY) (by omega) m.KY.length 0 bX [] (by omega) (by simp only [bX]; omega) (by simp only [List.length_nil]; omega)
 have hr:xp (EN m.KY 0) (m.KY.drop 0)=jn (ls.map lQ):=by
  rw [List.drop_zero,h3,← Dq ls h1]; rfl
 rw [hr,List.nil_append] at hlp
 have hlen:(jn (ls.map lQ)).length≤40000:=by rw [cw]; have:=ri ls; omega
 unfold et
 refine aL hlp (ar (cF (m:=[46,13,10]) (by simp only [List.length_cons,List.length_nil]; omega) (by simp only [List.length_cons,List.length_nil]; omega)) ?_)
 rw [e,pM]
 rfl
theorem Fp {word:Li} {w:List Int} {p:aj} (hw:ao word=w) (hwl:w.length≤100) (hs:Small p) (hpl:pW p≤20000) {R:Type} {f:Li→Option R} {r:Option R} (hr:∀ v,ao v=pL w p→f v=r) :
  (cJ p).bind (fun v4=>(bQ word v4).bind fun v5=>(bQ v5 (⟨#[13,10]⟩:Li)).bind f)=r:=by
 have hl:=qZ hpl
 have hb:ao (aO (fw p))=fw p:=aK (gQ p)
 have hwb:bM w:=by rw [← hw]; exact cv word
 have h2:ao (aO (w++fw p))=w++fw p:=aK (bP hwb (gQ p))
 have h3:bM [13,10]:=by intro x hx; simp only [List.mem_cons,List.not_mem_nil,or_false] at hx; omega
 have h4:ao (aO ((w++fw p)++[13,10]))=pL w p:=by rw [aK (bP (bP hwb (gQ p)) h3)]; simp [pL]
 exact ar (CX p hs) (ar (oz hw hb (by omega)) (ar (oz h2 Ik (by simp only [List.length_append,List.length_cons,List.length_nil]; omega)) (hr _ h4)))
theorem Et {m:ae} (h:Vm m) (A:List Int) (hA:A.length≤100000000):aT (KR m) bX (A,0)=some (.inl (A++iN m.To)):=by
 obtain ⟨h1,h2⟩:=vP h.lm
 have hsm:=(fI h.lm).2.1
 have d:=h.lm.1
 refine bS (fun i=>(A++iN (m.To.take i),((i:Nat):Int))) m.To.length bX (by simp [iN]) (by simp only [bX]; omega) (fun i hi => ?_) ?_
 ·have hm:=List.getElem_mem hi
  have hb:=nr (l:=m.To.take i) fun p hp=>h2 p (List.mem_of_mem_take hp)
  have hbl:(m.To.take i).length≤40:=by simp only [List.length_take]; omega
  have hb':(m.To.take i).length * 20200≤40 * 20200:=Nat.mul_le_mul_right _ hbl
  have e:iN (m.To.take (i+1))=iN (m.To.take i)++pL jx m.To[i]:=by
   rw [List.take_succ_eq_append_getElem hi,ph]
   simp only [iN,List.append_nil]
  have hll:=pA (w:=jx) (by decide) (h2 _ hm)
  refine ap (decide_eq_true (by omega)) (ar (bk hi) (ar (by simp [aQ,hi]:aQ m.To i=some m.To[i]) (Fp (w:=jx) rfl (by decide) (hsm _ hm) (h2 _ hm) fun v hv => ?_)))
  rw [hv]
  refine ar (cF (by simp only [List.length_append]; omega) (by simp only [List.length_append]; omega)) (ar (congrArg some (aZ (n:=i) (by omega))) ?_)
  rw [e,List.append_assoc]
 ·simp only [List.take_length]
  exact ak (decide_eq_false (by omega)) rfl
theorem EI {b:az} (h:∀ m∈b.Ld,Vm m) (hl:b.Ld.length≤20):ed b=some (eP b.Ld):=by
 unfold ed
 have hcl:=jy h
 refine aL (s:=dw b.Ld) (bS (f:=KS b) (fun i=>(dw (b.Ld.take i),((i:Nat):Int))) b.Ld.length bX (by simp [dw]) (by simp only [bX]; omega) (fun i hi => ?_) ?_) (ar (cF (by simp only [aN]; show _≤_; have:(⟨#[81,85,73,84,13,10]⟩:Li).size=6:=rfl; omega) (by simp only [aN]; have:(⟨#[81,85,73,84,13,10]⟩:Li).size=6:=rfl; omega)) rfl)
 ·have hm:=h _ (List.getElem_mem hi)
  obtain ⟨h1,h2⟩:=vP hm.lm
  have hsm:=fI hm.lm
  have hb:=jy (l:=b.Ld.take i) fun p hp=>h p (List.mem_of_mem_take hp)
  have hbl:(b.Ld.take i).length≤20:=by simp only [List.length_take]; omega
  have hb':(b.Ld.take i).length * 1000000≤20 * 1000000:=Nat.mul_le_mul_right _ hbl
  have a:=pA (w:=iT) (by decide) h1
  have hr:=nr h2
  have hr':b.Ld[i].To.length * 20200≤40 * 20200:=Nat.mul_le_mul_right _ hm.lm.1
  obtain ⟨_,hs2⟩:=uT hm
  have hs1:=Ai hm
  have e:dw (b.Ld.take (i+1))=dw (b.Ld.take i)++qy b.Ld[i]:=by
   rw [List.take_succ_eq_append_getElem hi,ln]
   simp only [dw,List.append_nil]
  refine ap (decide_eq_true (by omega)) (ar (bk hi) (ar (by simp [aQ,hi]:aQ b.Ld i=some b.Ld[i]) (Fp (w:=iT) (p:=b.Ld[i].La) rfl (by decide) hsm.1 h1 fun v hv => ?_)))
  rw [hv]
  refine ar (cF (by omega) (by omega)) (aL (Et hm _ (by simp only [List.length_append]; omega)) (ar (cF (m:=[68,65,84,65,13,10]) (by simp only [List.length_append,List.length_cons,List.length_nil]; omega) (by simp only [List.length_append,List.length_cons,List.length_nil]; omega)) (ar hs1 (ar (cF (by simp only [List.length_append,List.length_cons,List.length_nil]; omega) (by simp only [List.length_append,List.length_cons,List.length_nil]; omega)) (ar (congrArg some (aZ (n:=i) (by omega))) ?_)))))
  rw [e]
  simp only [qy,List.append_assoc]
 ·simp only [List.take_length]
  exact ak (decide_eq_false (by omega)) rfl
set_option maxRecDepth 100000
theorem xi (a b:Nat) (ha:a<9223372036854775808) (hb:b<9223372036854775808):bits .xor .i64 (a:Int) (b:Int)=((a ^^^ b:Nat):Int):=by
 have hx:a ^^^ b<2 ^ 63:=Nat.xor_lt_two_pow (by omega) (by omega)
 show IntKind.i64.wrap ((BitVec.ofInt 64 (a:Int) ^^^ BitVec.ofInt 64 (b:Int)).toNat:Int)=_
 rw [BitVec.toNat_xor,rm a ha,rm b hb,dO (by omega) (by omega)]
def qL:Nat:=3988292384
theorem Ez (b:List Int) (j:Nat) (hj:j<b.length) (x r:Nat) (hx:b[j]=(x:Int)) (hx256:x<256):∀ (k fuel t q:Nat),8-t=k→t≤8→k<fuel→q<4294967296→q ^^^ x / 2 ^ t=sn qL t (r ^^^ x) →
  aT (IZ b (qL:Int) (j:Int)) fuel ((q:Int),(t:Int))=some (.inl ((sn qL 8 (r ^^^ x):Nat):Int)):=by
 intro k
 induction k with
 | zero =>
  intro fuel t q hk ht hf hq he
  obtain ⟨f,rfl⟩:∃ f,fuel=f+1:=⟨fuel-1,by omega⟩
  have:t=8:=by omega
  subst this
  refine aV ?_
  unfold IZ
  refine ak (by simp) ?_
  rw [Nat.div_eq_of_lt (show x<2 ^ 8 by omega),Nat.xor_zero] at he
  rw [he]
 | succ k ih =>
  intro fuel t q hk ht hf hq he
  obtain ⟨f,rfl⟩:∃ f,fuel=f+1:=⟨fuel-1,by omega⟩
  have w1:IntKind.i64.wrap ((t:Int)+1)=((t+1:Nat):Int):=by rw [dO (by omega) (by omega)]; simp
  have wu:IntKind.u64.wrap (t:Int)=(t:Int):=Bf (by omega) (by omega)
  have hsr:=vg .i64 q 1 (by decide)
  rw [Nat.pow_one,show ((1:Nat):Int)=1 from rfl] at hsr
  have hsx:=vg .u8 x t (by simp only [IntKind.bits]; omega)
  have hdv:x / 2 ^ t<256:=Nat.lt_of_le_of_lt (Nat.div_le_self _ _) hx256
  have hnext:sn qL (t+1) (r ^^^ x)=s0 qL (q ^^^ x / 2 ^ t):=by
   rw [he,xJ]; rfl
  have hX2:x / 2 ^ (t+1)=x / 2 ^ t / 2:=by rw [Nat.pow_succ,Nat.div_div_eq_div_mul]
  generalize x / 2 ^ t=X at *
  have wX:IntKind.i64.wrap (X:Int)=(X:Int):=dO (by omega) (by omega)
  have hqx:q / 2<4294967296:=by omega
  have hx2:(q / 2 ^^^ qL)<2 ^ 32:=Nat.xor_lt_two_pow (by omega) (by unfold qL; omega)
  have e32:(2:Nat) ^ 32=4294967296:=by decide
  have hs0:s0 qL (q ^^^ X)=(q / 2 ^^^ (if q % 2≠X % 2 then qL else 0)) ^^^ X / 2:=by
   unfold s0
   rw [Nat.xor_div_two,vY]
   have h1:q % 2=0∨q % 2=1:=by omega
   have h2:X % 2=0∨X % 2=1:=by omega
   rcases h1 with h1 | h1 <;> rcases h2 with h2 | h2 <;> rw [h1,h2] <;> simp <;> rw [Nat.xor_assoc,Nat.xor_comm (X / 2),← Nat.xor_assoc]
  by_cases hne:q % 2=X % 2
  ·have e:¬ q % 2≠X % 2:=fun h=>h hne
   rw [if_neg e,Nat.xor_zero] at hs0
   refine (bC ?_).trans (ih f (t+1) (q / 2) (by omega) (by omega) (by omega) hqx (by rw [hX2,hnext,hs0]))
   unfold IZ
   refine ap (by simp; omega) (aL (s:=((q / 2:Nat):Int)) (ar (x:=((q % 2:Nat):Int)) (by rw [pJ _ (by omega)]) (ar hsr (ar (bk hj) (ar (x:=(x:Int)) (by rw [cA hj,hx]) (ar (x:=(t:Int)) (by rw [wu]) (ar hsx (ar (x:=(X:Int)) (by rw [wX]) (ar (x:=((X % 2:Nat):Int)) (by rw [pJ _ (by omega)]) (ak ?_ rfl))))))))) (ar (x:=((t+1:Nat):Int)) (by rw [w1]) rfl))
   rw [hne]; simp
  ·rw [if_pos hne] at hs0
   refine (bC ?_).trans (ih f (t+1) (q / 2 ^^^ qL) (by omega) (by omega) (by omega) (by omega) (by rw [hX2,hnext,hs0]))
   unfold IZ
   have hxo:=xi (q / 2) qL (by omega) (by unfold qL; omega)
   refine ap (by simp; omega) (aL (s:=((q / 2 ^^^ qL:Nat):Int)) (ar (x:=((q % 2:Nat):Int)) (by rw [pJ _ (by omega)]) (ar hsr (ar (bk hj) (ar (x:=(x:Int)) (by rw [cA hj,hx]) (ar (x:=(t:Int)) (by rw [wu]) (ar hsx (ar (x:=(X:Int)) (by rw [wX]) (ar (x:=((X % 2:Nat):Int)) (by rw [pJ _ (by omega)]) (ap ?_ (ar (x:=((q / 2 ^^^ qL:Nat):Int)) (by rw [hxo]) rfl)))))))))) (ar (x:=((t+1:Nat):Int)) (by rw [w1]) rfl))
   simp only [bne_iff_ne,ne_eq]; omega
theorem ET (b:List Int) (hb:bM b) (hl:b.length<100000000):∀ (k fuel i r:Nat),b.length-i=k→i≤b.length→k<fuel→r<4294967296 →
  aT (JH b (qL:Int)) fuel ((r:Int),(i:Int))=some (.inl ((Bl qL (kK (b.drop i)) r:Nat):Int)):=by
 intro k
 induction k with
 | zero =>
  intro fuel i r hk hi hf hr
  obtain ⟨f,rfl⟩:∃ f,fuel=f+1:=⟨fuel-1,by omega⟩
  have:i=b.length:=by omega
  subst this
  refine aV ?_
  unfold JH
  refine ak (by simp) ?_
  rw [List.drop_length,show kK []=[] from rfl,uU]
 | succ k ih =>
  intro fuel i r hk hi hf hr
  obtain ⟨f,rfl⟩:∃ f,fuel=f+1:=⟨fuel-1,by omega⟩
  have hlt:i<b.length:=by omega
  have hbi:=hb b[i] (List.getElem_mem hlt)
  obtain ⟨x,hx⟩:∃ x:Nat,b[i]=(x:Int):=⟨b[i].toNat,by omega⟩
  have hx256:x<256:=by omega
  have w1:IntKind.i64.wrap ((i:Int)+1)=((i+1:Nat):Int):=by rw [dO (by omega) (by omega)]; simp
  have hdr:b.drop i=b[i]::b.drop (i+1):=List.drop_eq_getElem_cons hlt
  have hin:=Ez b i hlt x r hx hx256 8 bX 0 r rfl (by omega) (by unfold bX; omega) hr (by rw [Nat.pow_zero,Nat.div_one]; rfl)
  have hlt2:sn qL 8 (r ^^^ x)<4294967296:=vD qL _ 32 8 (by decide) (Nat.xor_lt_two_pow (by omega) (by omega))
  have hre:Bl qL (kK (b.drop i)) r=Bl qL (kK (b.drop (i+1))) (sn qL 8 (r ^^^ x)):=by
   rw [hdr,show kK (b[i]::b.drop (i+1))=b[i].toNat::kK (b.drop (i+1)) from rfl,hx,Int.toNat_natCast,rS _ _ _ _ hx256]
  rw [hre]
  refine (bC ?_).trans (ih f (i+1) (sn qL 8 (r ^^^ x)) (by omega) (by omega) (by omega) hlt2)
  unfold JH
  exact ap (by simp; omega) (aL hin (ar (x:=((i+1:Nat):Int)) (by rw [w1]) rfl))
theorem wL {b:List Int} (hb:bM b) (hl:b.length<100000000):dU b=some ((mg b:Nat):Int):=by
 have hk:=ET b hb hl b.length bX 0 4294967295 (by omega) (Nat.zero_le _) (by unfold bX; omega) (by omega)
 rw [List.drop_zero] at hk
 have hlt:Bl qL (kK b) 4294967295<2 ^ 32:=uQ qL 32 (by decide) (by decide) _ _ (by decide) (nX hb)
 have hxo:=xi (Bl qL (kK b) 4294967295) 4294967295 (by omega) (by omega)
 unfold dU
 refine ar (x:=((mg b:Nat):Int)) ?_ rfl
 unfold ga
 refine ar (x:=32) (by decide) (ar (x:=4294967296) (by decide) (ar (x:=4294967295) (by decide) (aL hk (ar (x:=32) (by decide) (ar (x:=4294967296) (by decide) (ar (x:=4294967295) (by decide) (ar (x:=((mg b:Nat):Int)) ?_ rfl)))))))
 exact congrArg some hxo
structure TX (s:Li) (l:List Int) (n:Nat):Prop where
 e:ao s=l
 le:l.length≤n
theorem tc {s t:Li} {l m:List Int} {n k:Nat} (hs:TX s l n) (ht:TX t m k) (h:n+k≤5000):∃ v,bQ s t=some v∧TX v (l++m) (n+k):=by
 have h1:=hs.le
 have h2:=ht.le
 refine ⟨_,oz hs.e ht.e (by omega),⟨?_,by rw [List.length_append]; omega⟩⟩
 exact aK (bP (by rw [← hs.e]; exact cv s) (by rw [← ht.e]; exact cv t))
theorem Do {n:Nat} (h:n<10 ^ 18):∃ v,aJ (n:Int)=some v∧TX v (kM 20 n []) 21:=by
 obtain ⟨a,b⟩:=rU h
 exact ⟨_,Ex 20 n (by omega) (by omega) (by omega),⟨aK a,b⟩⟩
theorem tW:TX (⟨#[66,85,78,68,76,69,32]⟩:Li) (fR++[32]) 7:=⟨rfl,by decide⟩
theorem t1:TX (⟨#[32]⟩:Li) [32] 1:=⟨rfl,by decide⟩
theorem Kx:TX (⟨#[32,48]⟩:Li) [32,48] 2:=⟨rfl,by decide⟩
theorem t2:TX (⟨#[32,32]⟩:Li) [32,32] 2:=⟨rfl,by decide⟩
theorem tE:TX (⟨#[13,10]⟩:Li) [13,10] 2:=⟨rfl,by decide⟩
theorem GM {w a b c d e:List Int} (h:w≠fR):sE [w,a,b,c,d,e]=(zH,false):=by
 simp only [sE,if_neg h]
end Go.Abs.Sh
