import Derived.Test.YtglabbpbianmnaaGreatDoorBunF
set_option linter.unusedVariables false
set_option linter.unusedSimpArgs false
set_option linter.unusedSectionVars false
namespace Go.Abs.Sh
set_option linter.unusedVariables false
set_option linter.unusedSimpArgs false
set_option maxRecDepth 100000
def sZ (c:Int):Bool:=decide (48≤c)&&decide (c≤57)
theorem IW (s t:Ll):(s.toList==t.toList)=decide (ao s=ao t):=by
 rw [cm]
 exact decide_eq_decide.2 kv
theorem tp {l:List Int} {p:Int→Bool} (h:¬ ∀ i,i<l.length→p (l.getD i 0)=true):l.all p=false:=by
 cases e:l.all p with
 | false=>rfl
 | true=>exact absurd ((mO l p).1 e) h
theorem Dy {b:UInt8} (h:48≤b.toNat∧b.toNat≤57):Lib.digitVal b=some (b.toNat-48):=by
 unfold Lib.digitVal; rw [if_pos h]
theorem zA (s:Ll) (hs:s.size<4611686018427387904):(aQ (S:=(Int)) (O:=(Unit)⊕(Int×Bool)) (fun (s24:Int) =>
     cond ((decide (s24<(s.size:Int))))
      (aF (S:=Bool) (A:=((Int)⊕((Unit)⊕(Int×Bool))))
       ((dh s s24).bind fun v9 =>
       cond ((decide (v9<48)))
        (some (.inl true))
        ((dh s s24).bind fun v10 =>
        some (.inl ((decide (57<v10))))))
       (fun (s38:Bool) =>
        cond (s38)
         (some (.inr (.inr ((0,false)))))
         ((some (IntKind.i64.wrap (s24+1))).bind fun v16 =>
         some (.inl v16))) some)
      (some (.inr (.inl ()))))
     bU 0)=some (if (ao s).all sZ=true then .inl () else .inr (0,false)):=by
 have hstep:∀ i:Nat,i<s.size→((dh s (i:Int)).bind fun v9 =>
       cond ((decide (v9<48)))
        (some (.inl true))
        ((dh s (i:Int)).bind fun v10 =>
        some (.inl ((decide (57<v10))))):Option (Bool⊕((Int)⊕((Unit)⊕(Int×Bool)))))=some (.inl (!sZ ((ao s).getD i 0))):=by
  intro i hi
  have hc:=jU hi
  refine ar hc ?_
  unfold sZ
  by_cases h1:(ao s).getD i 0<48
  ·rw [decide_eq_true h1,decide_eq_false (p:=48≤(ao s).getD i 0) (by omega)]; rfl
  ·rw [decide_eq_false h1,decide_eq_true (p:=48≤(ao s).getD i 0) (by omega)]
   refine ar hc ?_
   by_cases h2:(ao s).getD i 0≤57
   ·rw [decide_eq_true h2,decide_eq_false (by omega)]; rfl
   ·rw [decide_eq_false h2,decide_eq_true (by omega)]; rfl
 have hloop:=gL (R:=Int×Bool) (f:=fun (s24:Int) =>
     cond ((decide (s24<(s.size:Int))))
      (aF (S:=Bool) (A:=((Int)⊕((Unit)⊕(Int×Bool))))
       ((dh s s24).bind fun v9 =>
       cond ((decide (v9<48)))
        (some (.inl true))
        ((dh s s24).bind fun v10 =>
        some (.inl ((decide (57<v10))))))
       (fun (s38:Bool) =>
        cond (s38)
         (some (.inr (.inr ((0,false)))))
         ((some (IntKind.i64.wrap (s24+1))).bind fun v16 =>
         some (.inl v16))) some)
      (some (.inr (.inl ())))) (fun i=>sZ ((ao s).getD i 0)) s.size (0,false) (fuel:=bU) (by simp only [bU]; omega)
  (fun i hi hp=>by
   replace hp:sZ ((ao s).getD i 0)=true:=hp
   have:=hstep i hi
   rw [hp] at this
   exact ap (decide_eq_true (by omega)) (aI this (ak rfl (ar (nr (by omega) (by omega)) rfl))))
  (fun i hi hp=>by
   replace hp:sZ ((ao s).getD i 0)=false:=hp
   have:=hstep i hi
   rw [hp] at this
   exact ap (decide_eq_true (by omega)) (aI this (ap rfl rfl)))
  (ak (decide_eq_false (by omega)) rfl)
 rw [hloop]
 congr 1
 by_cases h:∀ i,i<s.size→sZ ((ao s).getD i 0)=true
 ·rw [if_pos h,if_pos ((mO _ _).2 (by rw [aK]; exact h))]
 ·rw [if_neg h,if_neg (by rw [tp (by rw [aK]; exact h)]; simp)]
def oe:Nat→List Int→Nat
 | acc,[]=>acc
 | acc,c::l=>oe (acc * 10+(c-48).toNat) l
theorem zb:∀ (l:List UInt8) (acc:Nat),(∀ b∈l,48≤b.toNat∧b.toNat≤57)→Lib.decFrom acc l=some (oe acc (l.map fun b=>((b.toNat:Nat):Int)))
 | [],acc,_=>rfl
 | b::r,acc,h=>by
  have hb:=h b List.mem_cons_self
  unfold Lib.decFrom
  rw [Dy hb]
  show Lib.decFrom (acc * 10+(b.toNat-48)) r=_
  rw [zb r _ fun x hx=>h x (List.mem_cons_of_mem _ hx)]
  have e:(((b.toNat:Nat):Int)-48).toNat=b.toNat-48:=by omega
  simp only [List.map_cons,oe,e]
theorem BS (s:Ll) (h0:ao s≠[]) (h:(ao s).all sZ=true) (hs:s.size≤18):strconv_Atoi s=some (((oe 0 (ao s):Nat):Int),()):=by
 unfold strconv_Atoi
 rw [if_pos hs]
 have hb:∀ b∈s.data.toList,48≤b.toNat∧b.toNat≤57:=by
  intro b hb
  have:((b.toNat:Nat):Int)∈ao s:=by
   unfold ao
   exact List.mem_map.2 ⟨b,hb,rfl⟩
  have:=List.all_eq_true.1 h _ this
  simp only [sZ,Bool.and_eq_true,decide_eq_true_eq] at this
  omega
 have hv:=zb s.data.toList 0 hb
 have hsb:ao s=s.data.toList.map fun b=>((b.toNat:Nat):Int):=rfl
 rw [← hsb] at hv
 cases hl:s.data.toList with
 | nil=>exact absurd (by unfold ao; rw [hl]; rfl) h0
 | cons b r =>
  rw [hl] at hb hv
  have hbb:=hb b List.mem_cons_self
  have h45:(b==45)=false:=beq_eq_false_iff_ne.2 fun e=>by rw [e] at hbb; exact absurd hbb.1 (by decide)
  have h43:(b==43)=false:=beq_eq_false_iff_ne.2 fun e=>by rw [e] at hbb; exact absurd hbb.1 (by decide)
  have he:Lib.atoi (b::r)=some ((oe 0 (ao s):Nat):Int):=by
   unfold Lib.atoi
   simp only [h45,h43,Bool.false_eq_true,if_false,Lib.decNat,List.isEmpty_cons,hv]
   rfl
  rw [he]
  rfl
theorem zw:∀ (k n:Nat) (acc:List Int),n<10 ^ (k+1)→oe 0 (kO k n acc)=oe n acc
 | 0,n,acc,hn=>by
  show oe (0 * 10+(48+(n:Int)-48).toNat) acc=_
  congr 1; omega
 | k+1,n,acc,hn=>by
  unfold kO
  by_cases h9:n≤9
  ·rw [if_pos h9]
   show oe (0 * 10+(48+(n:Int)-48).toNat) acc=_
   congr 1; omega
  ·rw [if_neg h9,zw k _ _ (by rw [Nat.pow_succ] at hn; omega)]
   show oe (n / 10 * 10+(48+((n % 10:Nat):Int)-48).toNat) acc=_
   congr 1; omega
theorem xk:∀ (k n:Nat) (acc:List Int),1≤n→n<10 ^ (k+1)→∃ c t,kO k n acc=c::t∧49≤c
 | 0,n,acc,h1,hn=>⟨48+(n:Int),acc,rfl,by omega⟩
 | k+1,n,acc,h1,hn=>by
  unfold kO
  by_cases h9:n≤9
  ·rw [if_pos h9]; exact ⟨_,_,rfl,by omega⟩
  ·rw [if_neg h9]; exact xk k _ _ (by omega) (by rw [Nat.pow_succ] at hn; omega)
theorem Bt:∀ (k:Nat) (acc:List Int),kO k 0 acc=48::acc
 | 0,_=>rfl
 | k+1,acc=>by unfold kO; rw [if_pos (by omega)]; rfl
theorem zL:∀ (k j n:Nat) (acc:List Int),n<10 ^ (j+1)→j≤k→(kO k n acc).length≤acc.length+j+1
 | 0,j,n,acc,_,_=>by show acc.length+1≤acc.length+j+1; omega
 | k+1,j,n,acc,hn,hj=>by
  unfold kO
  by_cases h9:n≤9
  ·rw [if_pos h9]; simp only [List.length_cons]; omega
  ·rw [if_neg h9]
   cases j with
   | zero=>exact absurd (show n<10 from hn) (by omega)
   | succ j =>
    have:=zL k j (n / 10) ((48+((n % 10:Nat):Int))::acc) (by rw [Nat.pow_succ] at hn; omega) (by omega)
    simp only [List.length_cons] at this
    omega
def dq (l:List Int):Bool := !l.isEmpty&&(decide (l.length≤10)&&(!(l.head? == some 48&&decide (l≠[48]))&&l.all sZ))
theorem qZ (s:Ll):∃ n,fN s 10=some (n,dq (ao s))∧(dq (ao s)=true→n=((oe 0 (ao s):Nat):Int)):=by
 unfold fN dq
 have hE:=Ft s
 cases he:(ao s).isEmpty with
 | true=>exact ⟨0,aI (s:=true) (ap (by rw [hE,he]) rfl) (ap rfl rfl),fun h=>by cases h⟩
 | false =>
  rw [he] at hE
  by_cases hl:(ao s).length≤10
  ·rw [decide_eq_true hl]
   rw [aK] at hl
   have hne:ao s≠[]:=by intro h; rw [h] at he; cases he
   have h0:0<s.size:=by
    rw [← aK]; exact List.length_pos_iff.2 hne
   have hc:=jU h0
   have hh:=kW hne
   have hz:((s.toList==(⟨#[48]⟩:Ll).toList))=decide (ao s=[48]):=by rw [IW]; rfl
   have hcond:∀ (Z:Option (Bool⊕(Int×Bool))),Z=((dh s 0).bind fun v2 =>
    cond ((v2==48))
     (some (.inl ((!(s.toList==(⟨#[48]⟩:Ll).toList)))))
     (some (.inl false)))→Z=some (.inl ((ao s).head? == some 48&&decide (ao s≠[48]))):=by
    intro Z hZ
    rw [hZ]
    refine ar hc ?_
    rw [hh,hz]
    by_cases h48:(ao s).getD 0 0=48
    ·rw [h48]
     by_cases h1:ao s=[48]
     ·simp [h1]
     ·simp [h1]
    ·have e1:((ao s).getD 0 0==48)=false:=beq_eq_false_iff_ne.2 h48
     rw [e1]
     have e2:(some ((ao s).getD 0 0)==some (48:Int))=false:=beq_eq_false_iff_ne.2 fun h=>h48 (Option.some.inj h)
     rw [e2]; rfl
   have hfirst:=hcond _ rfl
   cases hq:((ao s).head? == some 48&&decide (ao s≠[48])) with
   | true =>
    rw [hq] at hfirst
    exact ⟨0,aI (s:=true) (ak hE (ar (x:=10) rfl (ak (decide_eq_false (by omega)) hfirst))) (ap rfl rfl),fun h=>by cases h⟩
   | false =>
    rw [hq] at hfirst
    cases hd:(ao s).all sZ with
    | true =>
     have hr:=BS s hne hd (by omega)
     have hlp:=zA s (by omega)
     rw [hd,if_pos rfl] at hlp
     exact ⟨_,aI (s:=false) (ak hE (ar (x:=10) rfl (ak (decide_eq_false (by omega)) hfirst))) (ak rfl (aI hlp (ar hr rfl))),fun _=>rfl⟩
    | false =>
     have hlp:=zA s (by omega)
     rw [hd,if_neg (by simp)] at hlp
     exact ⟨0,aI (s:=false) (ak hE (ar (x:=10) rfl (ak (decide_eq_false (by omega)) hfirst))) (ak rfl (jY hlp rfl)),fun h=>by cases h⟩
  ·rw [decide_eq_false hl]
   rw [aK] at hl
   exact ⟨0,aI (s:=true) (ak hE (ar (x:=10) rfl (ap (decide_eq_true (by omega)) rfl))) (ap rfl rfl),fun h=>by cases h⟩
theorem vo {n:Nat} (h:n<10 ^ 18):∀ x∈kO 20 n [],Bf x:=by
 obtain ⟨t,h1,h2,h3,h4⟩:=uO 20 n [] (by omega)
 rw [h1,List.append_nil]
 exact h2
theorem Ei {n:Nat} (h:n<10 ^ 10):fN (aL (kO 20 n [])) 10=some ((n:Int),true):=by
 obtain ⟨hb,_⟩:=sf (n:=n) (by omega)
 have hd:=vo (n:=n) (by omega)
 obtain ⟨t,h1,h2,h3,h4⟩:=uO 20 n [] (by omega)
 rw [List.append_nil] at h1
 have hl:=zL 20 9 n [] (by omega) (by omega)
 obtain ⟨m,hm,hv⟩:=qZ (aL (kO 20 n []))
 rw [aH hb] at hm hv
 have hT:dq (kO 20 n [])=true:=by
  unfold dq
  have e1:(kO 20 n []).isEmpty=false:=by
   cases he:kO 20 n [] with
   | nil=>rw [← h1,he] at h3; exact absurd h3 (by simp)
   | cons=>rfl
  have e2:(kO 20 n []).all sZ=true:=by
   rw [List.all_eq_true]
   intro x hx
   have:=hd x hx
   unfold Bf at this
   simp only [sZ,Bool.and_eq_true,decide_eq_true_eq]
   exact this
  rw [e1,e2,decide_eq_true (by simpa using hl)]
  by_cases hn:n=0
  ·subst hn
   rw [Bt]; rfl
  ·obtain ⟨c,r,hc,hc2⟩:=xk 20 n [] (by omega) (by omega)
   rw [hc]
   have:(some c==some (48:Int))=false:=beq_eq_false_iff_ne.2 fun h=>by have:=Option.some.inj h; omega
   simp only [List.head?_cons,this]
   rfl
 rw [hT] at hm
 rw [hm,hv hT,zw 20 n [] (by omega)]
 rfl
set_option maxRecDepth 100000
def KL (sep:Ll) (sepSave v14:Int):((Ll×(List Ll)×Int))→Option ((Ll×(List Ll)×Int)⊕((Ll×(List Ll)×Int)⊕(List Ll))):=(fun ((s65,s66,s67):Ll×(List Ll)×Int) =>
 cond ((decide (s67<v14)))
  ((de s65 sep).bind fun v16 =>
  cond ((decide (v16<0)))
   (some (.inr (.inl (s65,s66,s67))))
   ((some (IntKind.i64.wrap (v16+sepSave))).bind fun v18 =>
   (fI s65 0 v18).bind fun v19 =>
   (cj s67 s66.length).bind fun v20 =>
   (some (s66.set v20 v19)).bind fun v21 =>
   (some (IntKind.i64.wrap (v16+(sep.size:Int)))).bind fun v22 =>
   (fI s65 v22 (s65.size:Int)).bind fun v23 =>
   (some (IntKind.i64.wrap (s67+1))).bind fun v24 =>
   some (.inl (v23,v21,v24))))
  (some (.inr (.inl (s65,s66,s67)))))
def IQ (v9:List Ll):(((List Int)×Int))→Option (((List Int)×Int)⊕(((List Int))⊕(aU×Bool))):=(fun ((s22,s23):(List Int)×Int) =>
 cond ((decide (s23<(v9.length:Int))))
  ((cj s23 v9.length).bind fun v11 =>
  (aN v9 v11).bind fun v12 =>
  (fN v12 10).bind fun v13 =>
  cond ((!v13.2))
   (some (.inr (.inr (((aU.mk 0 0 0 0),false)))))
   ((cj s23 5).bind fun v15 =>
   (wO s22 v15 v13.1).bind fun v16 =>
   (some (IntKind.i64.wrap (s23+1))).bind fun v17 =>
   some (.inl (v16,v17))))
  (some (.inr (.inl s22))))
theorem tR:∀ (l:List UInt8),(eW 32 (l.map fun b=>((b.toNat:Nat):Int))).length=Lib.countByte l 32+1
 | []=>rfl
 | b::l=>by
  have ih:=tR l
  unfold Lib.countByte at ih ⊢
  rw [List.map_cons,List.count_cons]
  unfold eW
  by_cases h:b=32
  ·subst h
   rw [if_pos (by decide),List.length_cons,ih]
   simp
  ·have h2:¬ ((b.toNat:Nat):Int)=32:=fun e=>h (UInt8.toNat_inj.1 (show b.toNat=32 by omega))
   rw [if_neg h2]
   have h3:(b==32)=false:=beq_eq_false_iff_ne.2 h
   rw [h3]
   cases hs:eW 32 (l.map fun b=>((b.toNat:Nat):Int)) with
   | nil=>exact absurd hs (jf _ _)
   | cons p ps=>rw [hs] at ih; simpa using ih
theorem ud {c:Int} {l:List Int} (h:c∈l):∃ p r,l=p++c::r∧c ∉ p:=by
 cases hi:jc c l with
 | none=>exact absurd h (nu.1 hi)
 | some e =>
  obtain ⟨h1,h2,h3⟩:=jZ hi
  exact ⟨_,_,h2,h3⟩
theorem xa {A:Type} (L:List A) (x e:A) (k:Nat):(L++List.replicate (k+1) e).set L.length x=(L++[x])++List.replicate k e:=by
 rw [List.set_append_right _ _ (Nat.le_refl _),Nat.sub_self,List.replicate_succ,List.set_cons_zero,List.append_assoc]
 rfl
theorem yY:∀ (k:Nat) (l:List Int) (L:List Ll) (fuel:Nat),bJ l→(eW 32 l).length=k+1→k<fuel→l.length<1000000→L.length+k<1000000 →
  ∃ a x,eW 32 l=a++[x]∧aQ (KL (⟨#[32]⟩:Ll) 0 ((L.length+k:Nat):Int)) fuel (aL l,L++List.replicate (k+1) (⟨#[]⟩:Ll),(L.length:Int))=some (.inl (aL x,L++a.map aL++[(⟨#[]⟩:Ll)],((L.length+k:Nat):Int)))
 | 0,l,L,fuel,hb,hl,hf,hL,hk=>by
  obtain ⟨f,rfl⟩:∃ f,fuel=f+1:=⟨fuel-1,by omega⟩
  have h32:(32:Int) ∉ l:=by
   intro h
   obtain ⟨p,r,e,hp⟩:=ud h
   rw [e,pz hp,List.length_cons] at hl
   have:=List.length_pos_iff.2 (jf 32 r)
   omega
  refine ⟨[],l,by rw [pc h32]; rfl,?_⟩
  exact aS (ak (decide_eq_false (by omega)) (by simp))
 | k+1,l,L,fuel,hb,hl,hf,hL,hk=>by
  obtain ⟨f,rfl⟩:∃ f,fuel=f+1:=⟨fuel-1,by omega⟩
  have h32:(32:Int)∈l:=by
   apply Classical.byContradiction
   intro h
   rw [pc h] at hl
   simp at hl
  obtain ⟨p,r,e,hp⟩:=ud h32
  have hsp:eW 32 l=p::eW 32 r:=by rw [e,pz hp]
  have hbp:bJ p:=fun x hx=>hb x (by rw [e]; exact List.mem_append_left _ hx)
  have hbr:bJ r:=fun x hx=>hb x (by rw [e]; exact List.mem_append_right _ (List.mem_cons_of_mem _ hx))
  have hlen:l.length=p.length+(r.length+1):=by rw [e]; simp
  have hix:=pZ (n:=32) (by decide) (aL l)
  rw [aH hb,show ((32:Nat):Int)=32 from rfl,e,rz hp,← e] at hix
  have hsz:(aL l).size=l.length:=cV l
  have s1:=fV (s:=aL l) (a:=0) (b:=p.length) (by omega) (by omega)
  have s2:=fV (s:=aL l) (a:=p.length+1) (b:=(aL l).size) (by omega) (by omega)
  have e1:((ao (aL l)).drop 0).take (p.length-0)=p:=by rw [aH hb,e]; simp
  have e2:((ao (aL l)).drop (p.length+1)).take ((aL l).size-(p.length+1))=r:=by
   rw [aH hb,hsz,hlen]
   have:l=(p++[32])++r:=by rw [e]; simp
   rw [this,List.drop_append_of_le_length (by simp),List.drop_of_length_le (by simp),List.nil_append,List.take_of_length_le (by omega)]
  rw [e1] at s1
  rw [e2] at s2
  obtain ⟨a,x,ha,hr⟩:=yY k r (L++[aL p]) f hbr (by rw [hsp] at hl; simpa using hl) (by omega) (by omega) (by simp; omega)
  refine ⟨p::a,x,by rw [hsp,ha]; rfl,?_⟩
  have hw:((L.length+(k+1):Nat):Int)=(((L++[aL p]).length+k:Nat):Int):=by simp; omega
  rw [hw]
  refine (bx (ap (decide_eq_true (by simp; omega)) (ar hix (ak (decide_eq_false (by simp)) (ar (nr (n:=(p.length:Int)+0) (by omega) (by omega)) (ar (x:=aL p) (by rw [Int.add_zero]; exact s1)
   (ar (bi (i:=L.length) (by simp)) (ar (congrArg some (xa _ _ _ _)) (ar (x:=((p.length+1:Nat):Int)) (by rw [show (((⟨#[32]⟩:Ll).size:Nat):Int)=1 from rfl]; exact congrArg some (aW (by omega)))
   (ar s2 (ar (congrArg some (aW (n:=L.length) (by omega))) rfl))))))))))).trans ?_
  have:=hr
  simp only [List.length_append,List.length_cons,List.length_nil] at this ⊢
  rw [this]
  simp
theorem CY {l:List Int} (hb:bJ l) (hl:l.length≤5000):gK (aL l) (⟨#[32]⟩:Ll)=some ((eW 32 l).map aL):=by
 have hc:=tR (aL l).data.toList
 have hsb:(aL l).data.toList.map (fun b=>((b.toNat:Nat):Int))=l:=aH hb
 rw [hsb] at hc
 have hcL:Lib.countByte (aL l).data.toList 32≤l.length:=by
  unfold Lib.countByte
  refine Nat.le_trans List.count_le_length ?_
  have:(aL l).data.toList.length=l.length:=by
   have:=congrArg List.length hsb
   simpa using this
  omega
 generalize hk:Lib.countByte (aL l).data.toList 32=k at *
 have hcnt:gI (aL l) (⟨#[32]⟩:Ll)=some (k:Int):=by rw [← hk]; rfl
 obtain ⟨a,x,ha,hloop⟩:=yY k l [] bU hb hc (by simp only [bU]; omega) (by omega) (by simp; omega)
 have hsz:(aL l).size=l.length:=cV l
 simp only [List.length_nil,List.nil_append,Nat.zero_add] at hloop
 have hal:a.length=k:=by rw [ha] at hc; simpa using hc
 unfold gK gB
 refine ar (ak rfl (ak (by rw [Ft]; rfl) (aI (ap rfl (ar hcnt (ar (congrArg some (aW (n:=k) (by omega))) rfl))) (ar (congrArg some (aW (n:=(aL l).size) (by omega))) (ar (x:=((k+1:Nat):Int)) (by rw [if_neg (by omega)])
  (ar (x:=List.replicate (k+1) (⟨#[]⟩:Ll)) ?_ (ar (x:=(k:Int)) (by rw [dK (by omega) (by omega)]; congr 1; omega) (aI hloop ?_)))))))) rfl
 ·unfold IR
  rw [if_pos (by omega)]
  simp
 ·have hset:(a.map aL++[(⟨#[]⟩:Ll)]).set k (aL x)=(eW 32 l).map aL:=by
   have:=xa (a.map aL) (aL x) (⟨#[]⟩:Ll) 0
   rw [List.length_map,hal] at this
   rw [show [(⟨#[]⟩:Ll)]=List.replicate (0+1) (⟨#[]⟩:Ll) from rfl,this,ha]
   simp
  have hsl:=du ((eW 32 l).map aL) (a:=0) (b:=k+1) (by omega) (by rw [List.length_map,hc]; exact Nat.le_refl _)
  refine ar (bi (i:=k) (by simp [hal])) (ar (congrArg some hset) (ar (congrArg some (aW (n:=k) (by omega))) (ar hsl ?_)))
  rw [List.drop_zero,Nat.sub_zero,List.take_of_length_le (by rw [List.length_map,hc]; exact Nat.le_refl _)]
set_option maxRecDepth 100000
def zH:aU:=aU.mk 0 0 0 0
theorem vE {v9:List Ll} {i:Nat} {w arr:List Int} (hi:i<5) (hl:v9.length=5) (hg:aN v9 i=some (aL w)) (hb:bJ w) (hn:dq w=false):IQ v9 (arr,(i:Int))=some (.inr (.inr (zH,false))):=by
 obtain ⟨m,hm,_⟩:=qZ (aL w)
 rw [aH hb,hn] at hm
 exact ap (decide_eq_true (by omega)) (ar (bi (by omega)) (ar hg (ar hm (ap rfl rfl))))
theorem sk {v9:List Ll} {i:Nat} {w arr arr':List Int} (hi:i<5) (hl:v9.length=5) (hg:aN v9 i=some (aL w)) (hb:bJ w) (hn:dq w=true) (hs:wO arr i ((oe 0 w:Nat):Int)=some arr'):IQ v9 (arr,(i:Int))=some (.inl (arr',((i+1:Nat):Int))):=by
 obtain ⟨m,hm,hv⟩:=qZ (aL w)
 rw [aH hb] at hm hv
 rw [hv hn,hn] at hm
 exact ap (decide_eq_true (by omega)) (ar (bi (by omega)) (ar hg (ar hm (ak rfl (ar (bi hi) (ar hs (ar (congrArg some (aW (n:=i) (by omega))) rfl)))))))
theorem FY {v9:List Ll} {arr:List Int} (hl:v9.length=5):IQ v9 (arr,((4+1:Nat):Int))=some (.inr (.inl arr)):=ak (decide_eq_false (by omega)) rfl
def vI (w:List Int):Int:=((oe 0 w:Nat):Int)
theorem EY (a b c d e:List Int) (ha:bJ a) (hb:bJ b) (hc:bJ c) (hd:bJ d) (he:bJ e) :
  aQ (IQ [aL a,aL b,aL c,aL d,aL e]) bU (List.replicate 5 (0:Int),0)=some (if (dq a&&(dq b&&(dq c&&(dq d&&dq e))))=true then .inl [vI a,vI b,vI c,vI d,vI e] else .inr (zH,false)):=by
 cases na:dq a
 ·exact aS (vE (i:=0) (by omega) rfl rfl ha na)
 refine (bx (sk (i:=0) (arr':=[vI a,0,0,0,0]) (by omega) rfl rfl ha na rfl)).trans ?_
 cases nb:dq b
 ·exact aS (vE (i:=1) (by omega) rfl rfl hb nb)
 refine (bx (sk (i:=1) (arr':=[vI a,vI b,0,0,0]) (by omega) rfl rfl hb nb rfl)).trans ?_
 cases nc:dq c
 ·exact aS (vE (i:=2) (by omega) rfl rfl hc nc)
 refine (bx (sk (i:=2) (arr':=[vI a,vI b,vI c,0,0]) (by omega) rfl rfl hc nc rfl)).trans ?_
 cases nd:dq d
 ·exact aS (vE (i:=3) (by omega) rfl rfl hd nd)
 refine (bx (sk (i:=3) (arr':=[vI a,vI b,vI c,vI d,0]) (by omega) rfl rfl hd nd rfl)).trans ?_
 cases ne:dq e
 ·exact aS (vE (i:=4) (by omega) rfl rfl he ne)
 refine (bx (sk (i:=4) (arr':=[vI a,vI b,vI c,vI d,vI e]) (by omega) rfl rfl he ne rfl)).trans ?_
 exact aS (FY rfl)
def sy:List (List Int)→aU×Bool
 | [w,a,b,c,d,e]=>if w=fP then (if (dq a&&(dq b&&(dq c&&(dq d&&dq e))))=true then (⟨vI a,vI b,vI d,vI e⟩,decide (vI a≤1)) else (zH,false)) else (zH,false)
 | _=>(zH,false)
def pA (l:List Int):aU×Bool:=sy (eW 32 l)
theorem Kt {A:Type} {l:List A} (h:l.length=6):∃ w a b c d e,l=[w,a,b,c,d,e]:=by
 match l,h with
 | [w,a,b,c,d,e],_=>exact ⟨w,a,b,c,d,e,rfl⟩
theorem zE {ws:List (List Int)} (h:ws.length≠6):sy ws=(zH,false):=by
 unfold sy
 split
 ·exact absurd rfl h
 ·rfl
theorem va:∀ {l:List Int},bJ l→∀ p∈eW 32 l,bJ p
 | [],_=>by intro p hp; simp only [eW,List.mem_singleton] at hp; rw [hp]; exact dv
 | x::l,h=>by
  have hl:bJ l:=fun y hy=>h y (List.mem_cons_of_mem _ hy)
  have hx:=h x List.mem_cons_self
  have ih:=va hl
  intro p hp
  unfold eW at hp
  split at hp
  ·rcases List.mem_cons.1 hp with rfl | hp
   ·exact dv
   ·exact ih p hp
  ·cases hs:eW 32 l with
   | nil=>exact absurd hs (jf _ _)
   | cons q qs =>
    rw [hs] at hp ih
    rcases List.mem_cons.1 hp with rfl | hp
    ·exact df hx (ih q List.mem_cons_self)
    ·exact ih p (List.mem_cons_of_mem _ hp)
theorem kA {l:List Int} (hb:bJ l) (hl:l.length≤5000):dR (aL l)=some (pA l):=by
 have hsp:=CY hb hl
 have hby:=va hb
 unfold dR pA
 refine ar hsp ?_
 generalize eW 32 l=ws at hby
 by_cases h6:ws.length=6
 case neg =>
  rw [zE h6]
  exact aI (s:=true) (ap (by rw [List.length_map]; exact bne_iff_ne.2 (by omega)) rfl) (ap rfl rfl)
 obtain ⟨w,a,b,c,d,e,rfl⟩:=Kt h6
 have bw:=hby w (by simp)
 have hv:=EY a b c d e (hby a (by simp)) (hby b (by simp)) (hby c (by simp)) (hby d (by simp)) (hby e (by simp))
 have hq:((aL w).toList==(⟨#[66,85,78,68,76,69]⟩:Ll).toList)=decide (w=fP):=by
  rw [IW,aH bw]; rfl
 refine aI (s := !decide (w=fP)) (ak rfl (ar (x:=0) rfl (ar (x:=aL w) rfl (by rw [hq])))) ?_
 unfold sy
 by_cases hw:w=fP
 ·rw [decide_eq_true hw]
  simp only [if_pos hw]
  refine ak rfl (ar (x:=[aL a,aL b,aL c,aL d,aL e]) rfl ?_)
  by_cases hn:(dq a&&(dq b&&(dq c&&(dq d&&dq e))))=true
  ·simp only [if_pos hn] at hv ⊢
   exact aI hv (ar (x:=0) rfl (ar rfl (ar (x:=1) rfl (ar rfl (ar (x:=3) rfl (ar rfl (ar (x:=4) rfl (ar rfl rfl))))))))
  ·simp only [if_neg hn] at hv ⊢
   exact jY hv rfl
 ·rw [decide_eq_false hw]
  simp only [if_neg hw]
  exact ap rfl rfl
theorem Cb {n:Nat} (h:n<10 ^ 18):(32:Int) ∉ kO 20 n []:=fun hx=>by
 have:=vo h _ hx
 unfold Bf at this
 omega
theorem zM:∀ (ns:List Nat) (p:List Int),(∀ n∈ns,n<10 ^ 18)→(32:Int) ∉ p→eW 32 (p++fT ns)=p::ns.map fun n=>kO 20 n []
 | [],p,_,hp=>by simp only [fT,List.append_nil]; rw [pc hp]; rfl
 | n::ns,p,hn,hp=>by
  simp only [fT]
  rw [pz hp,zM ns _ (fun m hm=>hn m (List.mem_cons_of_mem _ hm)) (Cb (hn n List.mem_cons_self))]
  rfl
theorem sQ {n:Nat} (h:n<10 ^ 10):dq (kO 20 n [])=true∧vI (kO 20 n [])=(n:Int):=by
 have h1:=Ei h
 obtain ⟨hb,_⟩:=sf (n:=n) (by omega)
 obtain ⟨m,hm,hv⟩:=qZ (aL (kO 20 n []))
 rw [aH hb] at hm hv
 rw [h1] at hm
 have:=Prod.mk.inj (Option.some.inj hm)
 refine ⟨this.2.symm,?_⟩
 unfold vI
 rw [← hv this.2.symm,← this.1]
theorem HI:(32:Int) ∉ fP:=by decide
theorem As {o n k s v:Nat} (ho:o<10 ^ 10) (hn:n<10 ^ 10) (hk:k<10 ^ 10) (hs:s<10 ^ 10) (hv:v<10 ^ 10):pA (fP++fT [o,n,k,s,v])=(⟨o,n,s,v⟩,decide ((o:Int)≤1)):=by
 unfold pA
 rw [zM _ _ (by intro m hm; simp only [List.mem_cons,List.not_mem_nil,or_false] at hm; omega) HI]
 obtain ⟨a1,a2⟩:=sQ ho
 obtain ⟨b1,b2⟩:=sQ hn
 obtain ⟨c1,c2⟩:=sQ hk
 obtain ⟨d1,d2⟩:=sQ hs
 obtain ⟨e1,e2⟩:=sQ hv
 show sy [fP,kO 20 o [],kO 20 n [],kO 20 k [],kO 20 s [],kO 20 v []]=_
 unfold sy
 simp only [a1,b1,c1,d1,e1,a2,b2,d2,e2,Bool.and_self,if_true]
set_option maxRecDepth 10000
theorem rh (a:Nat) (ha:a<9223372036854775808):(BitVec.ofInt 64 (a:Int)).toNat=a:=by
 rw [BitVec.ofInt_natCast,BitVec.toNat_ofNat]; exact Nat.mod_eq_of_lt (by omega)
theorem pr (a:Nat) (ha:a<9223372036854775808):bits .and .i64 (a:Int) 1=((a % 2:Nat):Int):=by
 show IntKind.i64.wrap ((BitVec.ofInt 64 (a:Int) &&& BitVec.ofInt 64 ((1:Nat):Int)).toNat:Int)=_
 rw [BitVec.toNat_and,rh a ha,rh 1 (by omega),Nat.and_one_is_mod,dK (by omega) (by omega)]
theorem uL (k:IntKind) (a m:Nat) (hm:m≤k.bits):lZ k (a:Int) (m:Int)=some ((a / 2 ^ m:Nat):Int):=by
 simp only [lZ]
 rw [if_pos (by omega),Int.toNat_natCast,Nat.min_eq_left hm]
 have:(0:Int)≤2 ^ m:=Int.pow_nonneg (by omega)
 rw [Int.fdiv_eq_ediv_of_nonneg _ this]
 congr 1
theorem xb {n:Int} (h0:0≤n) (h1:n<4294967296):IntKind.u32.wrap n=n:=by
 simp only [IntKind.wrap,IntKind.bits,IntKind.signed]
 have e:(2:Int) ^ 32=4294967296:=by decide
 simp only [e,Bool.false_and,Bool.false_eq_true,if_false]
 omega
theorem tO (a:Nat) (ha:a<4294967296):(BitVec.ofInt 32 (a:Int)).toNat=a:=by
 rw [BitVec.ofInt_natCast,BitVec.toNat_ofNat]; exact Nat.mod_eq_of_lt (by omega)
theorem rj (a b:Nat) (ha:a<4294967296) (hb:b<4294967296):bits .xor .u32 (a:Int) (b:Int)=((a ^^^ b:Nat):Int):=by
 have hx:a ^^^ b<2 ^ 32:=Nat.xor_lt_two_pow (by omega) (by omega)
 show IntKind.u32.wrap ((BitVec.ofInt 32 (a:Int) ^^^ BitVec.ofInt 32 (b:Int)).toNat:Int)=_
 rw [BitVec.toNat_xor,tO a ha,tO b hb,xb (by omega) (by omega)]
def Iq:List Nat:=[0,4225,8450,12675,16900,21125,25350,29575,33800,38025,42250,46475,50700,54925,59150,63375]
def KE (r:Nat):Nat:=r / 16 ^^^ Iq.getD (r % 16) 0
def CH (r x:Nat):Nat:=KE (KE (r ^^^ x))
def HS (l:List Nat):Nat:=l.foldl CH 65535 ^^^ 65535
def kM (l:List Int):List Nat:=l.map Int.toNat
theorem nV {l:List Int} (h:∀ n∈l,0≤n∧n<256):∀ x∈kM l,x<256:=by
 intro x hx
 obtain ⟨n,hn,rfl⟩:=List.mem_map.1 hx
 have:=h n hn; omega
def s0 (d x:Nat):Nat:=x / 2 ^^^ (if x % 2=1 then d else 0)
def sn (d:Nat):Nat→Nat→Nat
 | 0,x=>x
 | n+1,x=>sn d n (s0 d x)
theorem wv (a b:Nat):(a ^^^ b) % 2=(a % 2+b % 2) % 2:=by
 have h:=Nat.xor_mod_two_pow (a:=a) (b:=b) (n:=1)
 simp only [Nat.pow_one] at h
 rw [h]
 have h1:a % 2=0∨a % 2=1:=by omega
 have h2:b % 2=0∨b % 2=1:=by omega
 rcases h1 with h1 | h1 <;> rcases h2 with h2 | h2 <;> rw [h1,h2] <;> rfl
theorem GU (d a b:Nat):s0 d (a ^^^ b)=s0 d a ^^^ s0 d b:=by
 unfold s0
 rw [Nat.xor_div_two,wv]
 have h1:a % 2=0∨a % 2=1:=by omega
 have h2:b % 2=0∨b % 2=1:=by omega
 rcases h1 with h1 | h1 <;> rcases h2 with h2 | h2 <;> rw [h1,h2]
 ·simp
 ·simp [Nat.xor_assoc]
 ·simp; rw [Nat.xor_assoc,Nat.xor_assoc,Nat.xor_comm d]
 ·simp; rw [Nat.xor_assoc,Nat.xor_comm (b / 2) d,← Nat.xor_assoc d d,Nat.xor_self,Nat.zero_xor]
theorem BD (d n a b:Nat):sn d n (a ^^^ b)=sn d n a ^^^ sn d n b:=by
 induction n generalizing a b with
 | zero=>rfl
 | succ n ih=>simp only [sn]; rw [GU,ih]
theorem Er (d x:Nat):s0 d (2 * x)=x:=by
 unfold s0; rw [if_neg (by omega),Nat.xor_zero]; omega
theorem xe (d n x:Nat):sn d n (2 ^ n * x)=x:=by
 induction n generalizing x with
 | zero=>simp [sn]
 | succ n ih=>rw [sn,Nat.pow_succ,Nat.mul_comm (2 ^ n) 2,Nat.mul_assoc,Er,ih]
theorem xr (d m n x:Nat):sn d (m+n) x=sn d n (sn d m x):=by
 induction m generalizing x with
 | zero=>simp [sn]
 | succ m ih=>rw [Nat.succ_add,sn,sn,ih]
theorem HX (d x w:Nat) (hd:d<2 ^ w) (hx:x<2 ^ w):s0 d x<2 ^ w:=by
 unfold s0
 refine Nat.xor_lt_two_pow (by omega) ?_
 split
 ·exact hd
 ·exact Nat.pow_pos (by omega)
theorem wj (d x w n:Nat) (hd:d<2 ^ w) (hx:x<2 ^ w):sn d n x<2 ^ w:=by
 induction n generalizing x with
 | zero=>exact hx
 | succ n ih=>exact ih _ (HX d x w hd hx)
theorem nS (a b k:Nat) (ha:a<2 ^ k):a+2 ^ k * b=a ^^^ 2 ^ k * b:=by
 apply Nat.eq_of_testBit_eq
 intro i
 rw [Nat.testBit_xor,Nat.add_comm,Nat.testBit_two_pow_mul_add _ ha,Nat.testBit_two_pow_mul]
 by_cases hi:i<k
 ·have:¬ (i≥k):=by omega
  simp [hi,this]
 ·have h2:k≤i:=by omega
  have h3:a.testBit i=false:=Nat.testBit_lt_two_pow (Nat.lt_of_lt_of_le ha (Nat.pow_le_pow_right (by omega) h2))
  simp [hi,h2,h3]
theorem xor_zero {a b:Nat} (h:a ^^^ b=0):a=b:=by
 have:(a ^^^ b) ^^^ b=b:=by rw [h,Nat.zero_xor]
 rw [Nat.xor_assoc,Nat.xor_self,Nat.xor_zero] at this
 exact this
def bv:List Nat→Nat
 | []=>0
 | x::l=>x+2 ^ 8 * bv l
def Av (d:Nat) (l:List Nat) (r:Nat):Nat:=sn d (8 * l.length) (r ^^^ bv l)
theorem up (d r:Nat):Av d [] r=r:=by simp [Av,bv,sn]
theorem ru (d r x:Nat) (l:List Nat) (hx:x<256):Av d (x::l) r=Av d l (sn d 8 (r ^^^ x)):=by
 unfold Av
 have h:bv (x::l)=x ^^^ 2 ^ 8 * bv l:=by
  rw [bv,← nS _ _ 8 hx]
 rw [h,List.length_cons,show 8 * (l.length+1)=8+8 * l.length by omega,xr,← Nat.xor_assoc,BD d 8,xe]
theorem tV (d r:Nat):sn d 4 r=r / 16 ^^^ sn d 4 (r % 16):=by
 have h:r=r % 16 ^^^ 2 ^ 4 * (r / 16):=by
  rw [← nS _ _ 4 (by omega)]; omega
 conv=>lhs; rw [h]
 rw [BD,xe,Nat.xor_comm]
theorem Bc (d r:Nat):sn d 8 r=sn d 4 (sn d 4 r):=xr d 4 4 r
theorem Fz (r:Nat):lZ .u32 (r:Int) 4=some ((r / 16:Nat):Int):=by
 have:=uL .u32 r 4 (by decide)
 rw [show ((4:Nat):Int)=4 from rfl] at this
 rw [this,show (2:Nat) ^ 4=16 from rfl]
def Gr (d w:Nat) (l:List Nat):Nat:=Av d l (2 ^ w-1) ^^^ (2 ^ w-1)
theorem uA (d w:Nat) (hd:d<2 ^ w) (hw:8≤w):∀ (l:List Nat) (r:Nat),r<2 ^ w→(∀ x∈l,x<256)→Av d l r<2 ^ w
 | [],r,hr,_=>by rw [up]; exact hr
 | x::l,r,hr,h=>by
  have hx:=h x (by simp)
  rw [ru _ _ _ _ hx]
  have h2:2 ^ 8≤2 ^ w:=Nat.pow_le_pow_right (by omega) hw
  exact uA d w hd hw l _ (wj d _ w 8 hd (Nat.xor_lt_two_pow hr (by omega))) fun y hy=>h y (by simp [hy])
theorem Ek (d w:Nat) (T:List Nat) (W D:Int) (hw:8≤w) (hw2:w≤32) (hd:d<2 ^ w) (hl16:T.length=16) (htab:kg D=some (T.map (fun n:Nat=>(n:Int))))
  (hT:∀ i,i<16→T.getD i 0=sn d 4 i) (hones:((wC .u32 1 W).bind fun v=>some (IntKind.u32.wrap (v-1)))=some ((2 ^ w-1:Nat):Int))
  (b:List Int) (hb:∀ n∈b,0≤n∧n<256) (hl:b.length<4294967296):mq b W D=some ((Gr d w (kM b):Nat):Int):=by
 have hpw:2 ^ w≤2 ^ 32:=Nat.pow_le_pow_right (by omega) hw2
 have hpw0:0<2 ^ w:=Nat.pow_pos (by omega)
 have h256:2 ^ 8≤2 ^ w:=Nat.pow_le_pow_right (by omega) hw
 have e32:(2:Nat) ^ 32=4294967296:=by decide
 have e8:(2:Nat) ^ 8=256:=by decide
 have hat:∀ i,i<16→aN (T.map (fun n:Nat=>(n:Int))) i=some ((sn d 4 i:Nat):Int):=by
  intro i hi
  rw [← hT i hi]
  have:i<T.length:=by omega
  simp [aN,List.getD,this]
 have hTl:∀ i,i<16→sn d 4 i<2 ^ w:=fun i hi=>wj d i w 4 hd (by omega)
 have key:∀ (k fuel i r:Nat),b.length-i=k→i≤b.length→k<fuel→r<2 ^ w →
   aQ (S:=(Int×Int)) (O:=(Int)⊕Int) (fun ((s25,s26):Int×Int) =>
   cond ((decide (s26<(b.length:Int))))
    ((cj s26 b.length).bind fun v7 =>
    (aN b v7).bind fun v8 =>
    (some (IntKind.u32.wrap v8)).bind fun v9 =>
    (some (bits .xor .u32 s25 v9)).bind fun v10 =>
    (lZ .u32 v10 4).bind fun v11 =>
    (ny v10 16).bind fun v12 =>
    (cj v12 16).bind fun v13 =>
    (aN (T.map (fun n:Nat=>(n:Int))) v13).bind fun v14 =>
    (some (bits .xor .u32 v11 v14)).bind fun v15 =>
    (lZ .u32 v15 4).bind fun v16 =>
    (ny v15 16).bind fun v17 =>
    (cj v17 16).bind fun v18 =>
    (aN (T.map (fun n:Nat=>(n:Int))) v18).bind fun v19 =>
    (some (bits .xor .u32 v16 v19)).bind fun v20 =>
    (some (IntKind.i64.wrap (s26+1))).bind fun v21 =>
    some (.inl (v20,v21)))
    (some (.inr (.inl s25)))) fuel ((r:Int),(i:Int))=some (.inl ((Av d (kM (b.drop i)) r:Nat):Int)):=by
  intro k
  induction k with
  | zero =>
   intro fuel i r hk hi hf hr
   obtain ⟨f,rfl⟩:∃ f,fuel=f+1:=⟨fuel-1,by omega⟩
   have hia:i=b.length:=by omega
   subst hia
   refine aS (ak (by simp) ?_)
   rw [List.drop_length,show kM []=[] from rfl,up]
  | succ k ih =>
   intro fuel i r hk hi hf hr
   obtain ⟨f,rfl⟩:∃ f,fuel=f+1:=⟨fuel-1,by omega⟩
   have hlt:i<b.length:=by omega
   have hbi:=hb b[i] (List.getElem_mem hlt)
   obtain ⟨x,hx⟩:∃ x:Nat,b[i]=(x:Int):=⟨b[i].toNat,by omega⟩
   have hx256:x<256:=by omega
   have hw1:IntKind.i64.wrap ((i:Int)+1)=((i+1:Nat):Int):=by
    rw [dK (by omega) (by omega)]; simp
   have a1:r ^^^ x<2 ^ w:=Nat.xor_lt_two_pow hr (by omega)
   have m1:(r ^^^ x) % 16<16:=Nat.mod_lt _ (by omega)
   have a2:sn d 4 (r ^^^ x)<2 ^ w:=wj d _ w 4 hd a1
   have m2:sn d 4 (r ^^^ x) % 16<16:=Nat.mod_lt _ (by omega)
   have a3:sn d 8 (r ^^^ x)<2 ^ w:=wj d _ w 8 hd a1
   have e1:(r ^^^ x) / 16 ^^^ sn d 4 ((r ^^^ x) % 16)=sn d 4 (r ^^^ x):=(tV d _).symm
   have e2:sn d 4 (r ^^^ x) / 16 ^^^ sn d 4 (sn d 4 (r ^^^ x) % 16)=sn d 8 (r ^^^ x):=by rw [← tV,Bc]
   have hdr:b.drop i=b[i]::b.drop (i+1):=List.drop_eq_getElem_cons hlt
   have t1:=hTl _ m1
   have t2:=hTl _ m2
   have r16a:=uX (r ^^^ x) 16 (by omega)
   have r16b:=uX (sn d 4 (r ^^^ x)) 16 (by omega)
   rw [show ((16:Nat):Int)=16 from rfl] at r16a r16b
   refine (bx (ap (by simp; omega) (ar (bi hlt) (ar (x:=(x:Int)) (by rw [cv hlt,hx]) (ar (x:=(x:Int)) (by rw [xb (by omega) (by omega)])
    (ar (x:=((r ^^^ x:Nat):Int)) (by rw [rj r x (by omega) (by omega)]) (ar (Fz _) (ar r16a (ar (bi m1) (ar (hat _ m1)
    (ar (x:=((sn d 4 (r ^^^ x):Nat):Int)) (by rw [rj _ _ (by omega) (by omega),e1]) (ar (Fz _) (ar r16b (ar (bi m2) (ar (hat _ m2)
    (ar (x:=((sn d 8 (r ^^^ x):Nat):Int)) (by rw [rj _ _ (by omega) (by omega),e2]) (ar (x:=((i+1:Nat):Int)) (by rw [hw1]) rfl))))))))))))))))).trans ?_
   rw [ih f (i+1) _ (by omega) hlt (by omega) a3,hdr]
   have:kM (b[i]::b.drop (i+1))=x::kM (b.drop (i+1)):=by simp [kM,hx]
   rw [this,ru _ _ _ _ hx256]
 have hz:2 ^ w-1<2 ^ w:=by omega
 have hlt:=uA d w hd hw (kM b) (2 ^ w-1) hz (nV hb)
 have hc:Gr d w (kM b)<2 ^ w:=Nat.xor_lt_two_pow hlt hz
 unfold mq
 have l16:Bu 16 (T.map (fun n:Nat=>(n:Int)))=some (T.map (fun n:Nat=>(n:Int))):=by simp [Bu,hl16]
 have l0:Bu 16 (List.replicate 16 (0:Int))=some (List.replicate 16 (0:Int)):=by decide
 obtain ⟨v,hv,hv2⟩:=bind_some hones
 refine ar htab (ar l0 (ar l16 (ar hv (ar hv2 ?_))))
 refine aI (key b.length bU 0 (2 ^ w-1) (by omega) (Nat.zero_le _) (by unfold bU; omega) hz) ?_
 refine ar (x:=((Gr d w (kM b):Nat):Int)) (by rw [List.drop_zero,rj _ _ (by omega) (by omega)]; rfl) (ar (x:=((Gr d w (kM b):Nat):Int)) (by rw [dK (by omega) (by omega)]) rfl)
def GR:List Nat:=(List.range 16).map (sn 3988292384 4)
theorem FX:kg 3988292384=some (GR.map (fun n:Nat=>(n:Int))):=by kernel_rfl
theorem Ec (b:List Int) (hb:∀ n∈b,0≤n∧n<256) (hl:b.length<4294967296):gw b=some ((Gr 3988292384 32 (kM b):Nat):Int):=by
 unfold gw
 refine ar (Ek 3988292384 32 GR 32 3988292384 (by omega) (by omega) (by decide) (by decide) FX ?_ (by decide) b hb hl) rfl
 intro i hi
 have:∀ i,i<16→GR.getD i 0=sn 3988292384 4 i:=by decide
 exact this i hi
theorem Ae {n:Int} (h0:0≤n) (h1:n<18446744073709551616):IntKind.u64.wrap n=n:=by
 simp only [IntKind.wrap,IntKind.bits,IntKind.signed]
 have e:(2:Int) ^ 64=18446744073709551616:=by decide
 simp only [e,Bool.false_and,Bool.false_eq_true,if_false]
 omega
set_option maxRecDepth 100000
set_option maxRecDepth 100000
theorem Ed:cw=some true:=by kernel_rfl
theorem wU (b s:List Int):eF b s=dy b s:=rfl
theorem zO {m:ae} (h:ae.wz m):Ho m∧bJ m.Lb:=by
 obtain ⟨⟨_,h1,h2⟩,⟨h3,h4⟩,⟨h5,hb⟩,_,h6,_⟩:=h
 simp only [FB,reachBytes] at h1 h2 h6
 simp only [reachBytes] at h3 h5
 refine ⟨⟨by omega,by omega,by omega,by omega,by omega,fun p hp => ?_⟩,tQ ⟨by unfold maxLen; omega,hb⟩⟩
 have:=h4 p hp
 simp only [aj.wz,FB,reachBytes] at this
 omega
theorem wY {line c:List Int} (hb:bJ line) (hc:bJ c) (h13:∀ x∈line,x≠13) (hl:line.length+c.length≤100000):eF (line++13::10::c) [13,10]=some (line,c,true):=by
 rw [wU]
 have hby:bJ (line++13::10::c):=bM hb (df (by omega) (df (by omega) hc))
 have hlen:(line++13::10::c).length=line.length+(c.length+2):=by simp
 rw [jx hby (by omega) (lA h13)]
 congr 1
 refine Prod.ext (by simp) (Prod.ext ?_ rfl)
 show (line++13::10::c).drop (line.length+2)=c
 rw [List.drop_append]
 simp
theorem JO {l:List Nat} (h:∀ n∈l,n<10 ^ 18):∀ x∈fT l,x≠13:=by
 induction l with
 | nil=>intro x hx; cases hx
 | cons n l ih =>
  intro x hx
  simp only [fT,List.mem_cons,List.mem_append] at hx
  rcases hx with rfl | hx | hx
  ·decide
  ·have:=vo (h n List.mem_cons_self) x hx
   unfold Bf at this; omega
  ·exact ih (fun m hm=>h m (List.mem_cons_of_mem _ hm)) x hx
theorem GI {l:List Nat} (h:∀ n∈l,n<10 ^ 18):∀ x∈fP++fT l,x≠13:=by
 intro x hx
 rcases List.mem_append.1 hx with hx | hx
 ·simp only [fP,List.mem_cons,List.not_mem_nil,or_false] at hx; omega
 ·exact JO h x hx
theorem BQ:bJ fP:=by intro x hx; simp only [fP,List.mem_cons,List.not_mem_nil,or_false] at hx; omega
theorem BT (l:List Nat) (h:∀ x∈l,x<256):Gr 3988292384 32 l<4294967296:=by
 have hz:2 ^ 32-1<2 ^ 32:=by decide
 exact Nat.xor_lt_two_pow (n:=32) (uA 3988292384 32 (by decide) (by omega) l _ hz h) hz
theorem qY:∀ (l:List aj),bJ (iE l)
 | []=>dv
 | p::l=>bM (bM (by intro x hx; simp only [jt,List.mem_cons,List.not_mem_nil,or_false] at hx; omega) (bM (gO p) (by intro x hx; simp only [List.mem_cons,List.not_mem_nil,or_false] at hx; omega))) (qY l)
theorem zu {m:ae} (h:Vm m):bJ (qx m):=by
 obtain ⟨ls,h1,h2,h3⟩:=h.bd
 have hl:=(fA h.lm).2.2.1
 have ht:dW ls≤20000:=by rw [← cu,← h3]; exact hl
 have hs:=mv h1 h2 (by omega:dW ls<1000000000)
 rw [← h3] at hs
 have e:eU m.Lb=jn (ls.map lQ++[[46]]):=by unfold eU; rw [hs]; rfl
 have hst:bJ (eU m.Lb):=by
  rw [e]
  refine kK fun l hl => ?_
  rcases List.mem_append.1 hl with hl | hl
  ·obtain ⟨k,hk,rfl⟩:=List.mem_map.1 hl
   exact rb (h2 k hk)
  ·rw [List.mem_singleton.1 hl]; intro x hx; simp only [List.mem_cons,List.not_mem_nil,or_false] at hx; omega
 refine bM (bM (by intro x hx; simp only [iU,List.mem_cons,List.not_mem_nil,or_false] at hx; omega) (bM (gO _) (by intro x hx; simp only [List.mem_cons,List.not_mem_nil,or_false] at hx; omega))) (bM (qY _) (bM (by intro x hx; simp only [List.mem_cons,List.not_mem_nil,or_false] at hx; omega) hst))
theorem vW:∀ {l:List ae},(∀ m∈l,Vm m)→bJ (dr l)
 | [],_=>dv
 | m::l,h=>bM (zu (h m List.mem_cons_self)) (vW fun x hx=>h x (List.mem_cons_of_mem _ hx))
def ia:List Int:=[81,85,73,84,13,10]
def eL (l:List ae):List Int:=dr l++ia
def lY (l:List Int):Nat:=Gr 3988292384 32 (kM l)
theorem sS {l:List ae} (h:∀ m∈l,Vm m):bJ (eL l):=bM (vW h) (by intro x hx; simp only [ia,List.mem_cons,List.not_mem_nil,or_false] at hx; omega)
theorem rn {l:List Int} (hb:bJ l) (hl:l.length<4294967296):gw l=some ((lY l:Nat):Int):=Ec l hb hl
theorem um {l:List Int} (hb:bJ l):lY l<4294967296:=BT _ (nV hb)
def iI (b:az):List Nat:=[b.Lj.toNat,b.Li.toNat,b.Lg.length,(eL b.Lg).length,lY (eL b.Lg)]
def dO (b:az):List Int:=(fP++fT (iI b))++13::10::eL b.Lg
theorem pG {b:az} (hm:∀ m∈b.Lg,LM m∧bJ m.Lb) (hl:b.Lg.length≤20) :
  (∃ e,bp b=some ([],e)∧(e=5∨e=2))∨(cR b=some 0∧(b.Lj=0∨b.Lj=1)∧1≤b.Li∧b.Li≤65535∧1≤b.Lg.length∧b.Lg.length≤4∧(∀ m∈b.Lg,Vm m)∧(dO b).length≤4096∧bp b=some (dO b,0)):=by
 obtain ⟨e,he,h5,h0⟩:=Ci hm hl
 rcases h5 with rfl | rfl
 case inr=>exact .inl ⟨5,by unfold bp; exact ar he (ap rfl rfl),.inl rfl⟩
 obtain ⟨ho,hn1,hn2,hl1,hl4,hv⟩:=h0 rfl
 have hlen:=jp hv
 have hlen2:b.Lg.length * 1000000≤4 * 1000000:=Nat.mul_le_mul_right _ hl4
 have hcl:(eL b.Lg).length≤4000006:=by simp only [eL,ia,List.length_append,List.length_cons,List.length_nil]; omega
 have hcb:=sS hv
 have hns:[b.Lj,b.Li,(b.Lg.length:Int),((dr b.Lg++[81,85,73,84,13,10]).length:Int),((lY (eL b.Lg):Nat):Int)]=(iI b).map (fun n:Nat=>(n:Int)):=by
  show _=[((b.Lj.toNat:Nat):Int),((b.Li.toNat:Nat):Int),((b.Lg.length:Nat):Int),(((eL b.Lg).length:Nat):Int),((lY (eL b.Lg):Nat):Int)]
  rw [show ((b.Lj.toNat:Nat):Int)=b.Lj by omega,show ((b.Li.toNat:Nat):Int)=b.Li by omega]
  rfl
 have hsl:=um hcb
 have hn:∀ n∈iI b,n<10 ^ 18:=by
  intro n hn
  simp only [iI,List.mem_cons,List.not_mem_nil,or_false] at hn
  rcases hn with rfl | rfl | rfl | rfl | rfl <;> omega
 have hby:=xj he hv hl (rn hcb (by show (eL b.Lg).length<_; omega)) hns hn
 have ew:(fP++fT (iI b))++[13,10]++(dr b.Lg++[81,85,73,84,13,10])=dO b:=by simp [dO,eL,ia]
 rw [ew] at hby
 by_cases h:4096<(dO b).length
 ·rw [if_pos h] at hby
  exact .inl ⟨2,hby,.inr rfl⟩
 ·rw [if_neg h] at hby
  exact .inr ⟨he,ho,hn1,hn2,hl1,hl4,hv,by omega,hby⟩
theorem qI {b:az} (ho:b.Lj=0∨b.Lj=1) (hn1:1≤b.Li) (hn2:b.Li≤65535) (hl4:b.Lg.length≤4) (hv:∀ m∈b.Lg,Vm m) (hw:(dO b).length≤4096) :
  bJ (fP++fT (iI b))∧bJ (eL b.Lg)∧(∀ x∈fP++fT (iI b),x≠13)∧(fP++fT (iI b)).length≤4096∧(eL b.Lg).length≤4096∧6≤(eL b.Lg).length ∧
  pA (fP++fT (iI b))=(⟨b.Lj,b.Li,((eL b.Lg).length:Int),((lY (eL b.Lg):Nat):Int)⟩,true):=by
 have hcb:=sS hv
 have hsl:=um hcb
 have hlen:(dO b).length=(fP++fT (iI b)).length+((eL b.Lg).length+2):=by simp [dO]; omega
 have h6:6≤(eL b.Lg).length:=by simp [eL,ia]
 have hn:∀ n∈iI b,n<10 ^ 18:=by
  intro n hn
  simp only [iI,List.mem_cons,List.not_mem_nil,or_false] at hn
  rcases hn with rfl | rfl | rfl | rfl | rfl <;> omega
 refine ⟨bM BQ (oS hn).1,hcb,GI hn,by omega,by omega,h6,?_⟩
 have:=As (o:=b.Lj.toNat) (n:=b.Li.toNat) (k:=b.Lg.length) (s:=(eL b.Lg).length) (v:=lY (eL b.Lg)) (by omega) (by omega) (by omega) (by omega) (by omega)
 rw [show ((b.Lj.toNat:Nat):Int)=b.Lj by omega,show ((b.Li.toNat:Nat):Int)=b.Li by omega] at this
 rw [show iI b=[b.Lj.toNat,b.Li.toNat,b.Lg.length,(eL b.Lg).length,lY (eL b.Lg)] from rfl,this,decide_eq_true (by omega)]
set_option maxRecDepth 100000
theorem FE {c:Int} {P:Int→Bool} (hP:P c=false) {l:List Int} (h:l.all P=true):c ∉ l:=by
 intro hm
 have:=List.all_eq_true.1 h c hm
 rw [hP] at this
 cases this
theorem vm {P:List Int→Bool} {c:Int} (Q:Int→Bool) (hQ:Q c=true) (hPQ:∀ l,P l=true→l.all Q=true):∀ l,(eW c l).all P=true→l.all Q=true
 | [],_=>rfl
 | x::r,h=>by
  have hne:=jf c r
  unfold eW at h
  by_cases hx:x=c
  ·rw [if_pos hx] at h
   simp only [List.all_cons,Bool.and_eq_true] at h
   rw [List.all_cons,hx,hQ,vm Q hQ hPQ r h.2]; rfl
  ·rw [if_neg hx] at h
   cases hs:eW c r with
   | nil=>exact absurd hs hne
   | cons a ps =>
    rw [hs] at h
    simp only [List.all_cons,Bool.and_eq_true] at h
    have h1:=hPQ _ h.1
    simp only [List.all_cons,Bool.and_eq_true] at h1
    have key:∀ (r:List Int) (a:List Int) (ps:List (List Int)),eW c r=a::ps→a.all Q=true→ps.all P=true→r.all Q=true:=by
     intro r
     induction r with
     | nil=>intros; rfl
     | cons y r ih =>
      intro a ps e ha hps
      unfold eW at e
      by_cases hy:y=c
      ·rw [if_pos hy] at e
       cases e
       cases hs2:eW c r with
       | nil=>exact absurd hs2 (jf c r)
       | cons b qs =>
        rw [hs2] at hps
        simp only [List.all_cons,Bool.and_eq_true] at hps
        rw [List.all_cons,hy,hQ,ih b qs hs2 (hPQ _ hps.1) hps.2]; rfl
      ·rw [if_neg hy] at e
       cases hs2:eW c r with
       | nil=>exact absurd hs2 (jf c r)
       | cons b qs =>
        rw [hs2] at e
        cases e
        simp only [List.all_cons,Bool.and_eq_true] at ha
        rw [List.all_cons,ha.1,ih b ps hs2 ha.2 hps]; rfl
    rw [List.all_cons,h1.1,key r a ps hs h1.2 h.2]; rfl
def Jc (c:Int):Bool:=Bp c||c==46
def II (c:Int):Bool:=yr c||c==46
theorem Eu {l:List Int} (h:nZ l=true):l.all Jc=true:=by
 unfold nZ at h
 rw [Bool.and_eq_true] at h
 refine vm Jc (by decide) (fun p hp => ?_) l h.2
 unfold mN at hp
 rw [Bool.and_eq_true] at hp
 rw [List.all_eq_true] at *
 intro x hx
 unfold Jc
 rw [hp.2 x hx]; rfl
theorem ED {l:List Int} (h:qw l=true):l.all II=true:=by
 unfold qw at h
 rw [Bool.and_eq_true] at h
 refine vm II (by decide) (fun p hp => ?_) l h.2
 unfold qQ at hp
 simp only [Bool.and_eq_true] at hp
 have hp:True∧p.all yr=true:=⟨trivial,hp.2.2.2.2⟩
 rw [List.all_eq_true] at *
 intro x hx
 unfold II
 rw [hp.2 x hx]; rfl
theorem De {c:Int} (hc:Jc c=false) {l:List Int} (h:nZ l=true):c ∉ l:=FE hc (Eu h)
theorem Ha {c:Int} (hc:II c=false) {l:List Int} (h:qw l=true):c ∉ l:=FE hc (ED h)
theorem CV {l:List Int} (h:nZ l=true):l.length≤64:=by
 unfold nZ at h; rw [Bool.and_eq_true] at h; simpa using h.1
theorem CB {l:List Int} (h:qw l=true):l.length≤255:=by
 unfold qw at h; rw [Bool.and_eq_true] at h; simpa using h.1
theorem vp (p:aj) (h:eD p=true):rC (fm p)=some p:=by
 obtain ⟨n,l,d⟩:=p
 cases n
 ·have hh:=h
  unfold eD at h
  simp only [cond_false,Bool.and_eq_true] at h
  have n64:(64:Int) ∉ ao l:=De (by decide) h.1
  unfold rC fm
  simp only [cond_false]
  rw [if_neg (by intro e; have:=congrArg List.length e; simp at this; omega)]
  have e:(60::(ao l++64::(ao d++[62])):List Int)=60::((ao l++64::ao d)++[62]):=by simp
  rw [e,DG]
  simp only [Cg,rz n64]
  have e1:(ao l++64::ao d).take (ao l).length=ao l:=by simp
  have e2:(ao l++64::ao d).drop ((ao l).length+1)=ao d:=by
   rw [← List.drop_drop]; simp
  rw [e1,e2,im,im,if_pos hh]
 ·unfold eD at h
  simp only [cond_true,Bool.and_eq_true,List.isEmpty_iff] at h
  have e1:l=e0:=iW (by rw [h.1]; rfl)
  have e2:d=e0:=iW (by rw [h.2]; rfl)
  subst e1 e2
  rfl
theorem zB {l:List Int} {p:aj} (hb:bJ l) (h:rC l=some p):fm p=l∧eD p=true:=by
 unfold rC at h
 split at h
 ·rename_i e
  cases h
  exact ⟨e.symm,rfl⟩
 ·rcases qb l with ⟨m,hm,hmid⟩ | hmid
  ·rw [hmid] at h
   simp only [Cg] at h
   cases hi:jc 64 m with
   | none=>rw [hi] at h; cases h
   | some e =>
    rw [hi] at h
    dsimp only at h
    split at h
    ·rename_i hp
     cases h
     obtain ⟨h1,h2,h3⟩:=jZ hi
     have hbm:bJ m:=by
      rw [hm] at hb
      intro x hx
      exact hb x (by simp [hx])
     refine ⟨?_,hp⟩
     unfold fm
     simp only [cond_false]
     rw [aH (eO hbm _),aH (dn hbm _),hm]
     conv=>rhs; rw [h2]
     simp
    ·cases h
  ·rw [hmid] at h; cases h
theorem tS:∀ (ls:List (List Int)),(∀ l∈ls,l≠[46])∨∃ a r,ls=a++[46]::r∧∀ l∈a,l≠[46]
 | [] => .inl fun _ h=>by cases h
 | x::ls=>by
  by_cases hx:x=[46]
  ·exact .inr ⟨[],ls,by rw [hx]; rfl,fun _ h=>by cases h⟩
  ·rcases tS ls with h | ⟨a,r,h1,h2⟩
   ·exact .inl fun l hl=>by
     rcases List.mem_cons.1 hl with rfl | hl
     ·exact hx
     ·exact h l hl
   ·exact .inr ⟨x::a,r,by rw [h1]; rfl,fun l hl=>by
     rcases List.mem_cons.1 hl with rfl | hl
     ·exact hx
     ·exact h2 l hl⟩
theorem xc {ls:List (List Int)} (h:∀ l∈ls,bJ l):∀ l∈ls.map rL,bJ l:=by
 intro l hl
 obtain ⟨k,hk,rfl⟩:=List.mem_map.1 hl
 unfold rL
 split
 ·exact fun x hx=>h k hk x (List.mem_of_mem_tail hx)
 ·exact h k hk
theorem zx:∀ ls:List (List Int),dW (ls.map rL)≤dW ls
 | []=>Nat.le_refl _
 | l::ls=>by
  have h1:=zx ls
  have h2:=uG l
  simp only [List.map_cons,dW]; omega
theorem tw {b:List Int} (hb:bJ b) (hl:b.length<1000000):∃ body e,∃ n:Nat,dw b=some (body,(n:Int),e)∧n≤b.length∧bJ body∧body.length≤b.length:=by
 obtain ⟨ls,r,H⟩:=rG b.length b (Nat.le_refl _)
 rcases tS ls with hn | ⟨a,rs,hls,ha⟩
 ·exact ⟨[],9,0,rI (uf H hb hn (by omega)),Nat.zero_le _,dv,Nat.zero_le _⟩
 have hj:=mE H
 have hlb:=lf H hb
 have hab:∀ l∈a,bJ l:=fun l hl=>hlb l (by rw [hls]; exact List.mem_append_left _ hl)
 have hbl:b.length=dW a+(3+(dW rs+r.length)):=by
  rw [hj,List.length_append,cu,hls,jl]
  simp only [dW,List.length_cons,List.length_nil]; omega
 have hlast:cO b=some ((dW a:Int),true):=by
  unfold cO cX
  refine ar rfl ?_
  refine jY (a:=(dW a:Int)) (ec nU H hb (by omega) _ _ ?_) rfl
  rw [hls]
  refine (mX a _ 0 (fun l hl=>⟨hab l hl,ha l hl⟩) (by omega)).trans ?_
  simp only [jS,sT]
  simp
 have e1:eM b 0 (dW a:Int)=some (jn a):=by
  have:=du b (a:=0) (b:=dW a) (by omega) (by omega)
  rw [show ((0:Nat):Int)=0 from rfl] at this
  rw [this,hj,hls,pY,List.append_assoc,List.drop_zero,Nat.sub_zero,← cu,List.take_left]
 have hja:(jn a).length=dW a:=cu a
 rcases ln (kK hab) (by omega) with hc | ⟨ms,c1,c2,c3⟩
 ·exact ⟨[],5,0,by unfold dw; exact ar hlast (ak rfl (ar e1 (ar hc (ap rfl rfl)))),Nat.zero_le _,dv,Nat.zero_le _⟩
 have htm:dW ms=dW a:=by rw [← cu,← c3,hja]
 refine ⟨jn (ms.map rL),0,dW a+3,?_,by omega,kK (xc c2),by rw [cu]; have:=zx ms; omega⟩
 unfold dw
 have hchk:cM (jn a)=some 0:=by rw [c3]; exact ku c1 c2 (by omega)
 refine ar hlast (ak rfl (ar e1 (ar hchk (ak rfl (ar e1 ?_)))))
 unfold cX
 refine ar rfl ?_
 refine aI (s:=jn (ms.map rL)) (ec qd (by rw [c3]; exact sP c1) (kK hab) (by omega) _ _ ?_) ?_
 ·have:=ng ms [] c2 (by simp; omega)
  simpa using this
 ·refine ar (cL (by omega) (by omega)) ?_
  simp
theorem Fl {p:aj} (h:eD p=true):∀ x∈fm p,x≠13:=by
 intro x hx
 unfold fm at hx
 unfold eD at h
 cases hp:p.Lh
 ·rw [hp] at h hx
  simp only [cond_false,Bool.and_eq_true] at h
  simp only [cond_false,List.mem_cons,List.mem_append,List.not_mem_nil,or_false] at hx
  rcases hx with rfl | hx | rfl | hx | rfl
  ·decide
  ·exact fun e=>De (c:=13) (by decide) h.1 (e ▸ hx)
  ·decide
  ·exact fun e=>Ha (c:=13) (by decide) h.2 (e ▸ hx)
  ·decide
 ·rw [hp] at hx
  simp only [cond_true,List.mem_cons,List.not_mem_nil,or_false] at hx
  rcases hx with rfl | rfl <;> decide
theorem vR {p:aj} (h:eD p=true):pW p≤319∧Small p:=by
 unfold eD at h
 cases hp:p.Lh
 ·rw [hp] at h
  simp only [cond_false,Bool.and_eq_true] at h
  have h1:=CV h.1
  have h2:=CB h.2
  rw [aK] at h1 h2
  exact ⟨by simp only [pW]; omega,by omega,by omega⟩
 ·rw [hp] at h
  simp only [cond_true,Bool.and_eq_true,List.isEmpty_iff] at h
  have h1:=congrArg List.length h.1
  have h2:=congrArg List.length h.2
  rw [aK] at h1 h2
  simp only [List.length_nil] at h1 h2
  exact ⟨by simp only [pW]; omega,by omega,by omega⟩
theorem BF {word:Ll} {w:List Int} {p:aj} {more:List Int} (hw:ao word=w) (h13:∀ x∈w,x≠13) (hwl:w.length≤100) (hp:eD p=true) (hm:bJ more) (hl:more.length≤50000) :
  bV (pL w p++more) word=some (p,more,true):=by
 have hwb:bJ w:=by rw [← hw]; exact cq word
 obtain ⟨hpw,hps⟩:=vR hp
 have htl:=rk (p:=p) (by omega)
 have hline:bJ (w++fm p):=bM hwb (gO p)
 have e:pL w p++more=(w++fm p)++13::10::more:=by simp [pL]
 have hc:=wY (line:=w++fm p) (c:=more) hline hm (by
  intro x hx
  rcases List.mem_append.1 hx with hx | hx
  ·exact h13 x hx
  ·exact Fl hp x hx) (by simp only [List.length_append]; omega)
 have hcp:=iP (aL (w++fm p)) word
 rw [aH hline,hw,if_pos (List.prefix_append w (fm p))] at hcp
 have hsz:word.size=w.length:=by rw [← hw,aK]
 rw [hsz,List.drop_left] at hcp
 have hpa:=vX (aL (fm p)) (by rw [cV]; omega)
 rw [aH (gO p),vp p hp] at hpa
 rw [e]
 unfold bV
 exact ar hc (ar rfl (ar hcp (aI (s:=false) (ak rfl rfl) (ak rfl (ar hpa rfl)))))
theorem FF {word:Ll} {w line more:List Int} (hw:ao word=w) (h13:∀ x∈line,x≠13) (hb:bJ line) (hll:line.length≤1000) (hm:bJ more) (hl:more.length≤50000) (hno:¬ w <+: line) :
  bV (line++13::10::more) word=some (nz,[],false):=by
 have hc:=wY (line:=line) (c:=more) hb hm h13 (by omega)
 have hcp:=iP (aL line) word
 rw [aH hb,hw,if_neg hno] at hcp
 unfold bV
 exact ar hc (ar rfl (ar hcp (aI (s:=true) (ak rfl rfl) (ap rfl rfl))))
theorem CM {word:Ll} {c:List Int} (hc:bJ c) (hl:c.length≤50000):∃ p r ok,bV c word=some (p,r,ok)∧bJ r∧r.length≤c.length∧(ok=true→eD p=true∧r.length+2≤c.length):=by
 unfold bV
 cases hi:gE c with
 | none =>
  have hcp:=iP (aL c) word
  refine ⟨nz,[],false,ar ((wU _ _).trans <| sO hc (by omega) hi) (ar rfl (ar hcp (aI (s:=true) (ap rfl rfl) (ap rfl rfl)))),dv,Nat.zero_le _,fun h=>by cases h⟩
 | some e =>
  obtain ⟨h1,h2⟩:=fS hi
  have hlb:bJ (c.take e):=eO hc e
  have hrb:bJ (c.drop (e+2)):=dn hc _
  have hcp:=iP (aL (c.take e)) word
  rw [aH hlb] at hcp
  by_cases hpre:ao word <+: c.take e
  ·rw [if_pos hpre] at hcp
   have htb:bJ ((c.take e).drop word.size):=dn hlb _
   have hpa:=vX (aL ((c.take e).drop word.size)) (by rw [cV,List.length_drop,List.length_take]; omega)
   rw [aH htb] at hpa
   cases hpl:rC ((c.take e).drop word.size) with
   | none =>
    rw [hpl] at hpa
    exact ⟨nz,_,false,ar ((wU _ _).trans <| jx hc (by omega) hi) (ar rfl (ar hcp (aI (s:=false) (ak rfl rfl) (ak rfl (ar hpa rfl))))),hrb,by rw [List.length_drop]; omega,fun h=>by cases h⟩
   | some p =>
    rw [hpl] at hpa
    exact ⟨p,_,true,ar ((wU _ _).trans <| jx hc (by omega) hi) (ar rfl (ar hcp (aI (s:=false) (ak rfl rfl) (ak rfl (ar hpa rfl))))),hrb,by rw [List.length_drop]; omega,fun _=>⟨(zB htb hpl).2,by rw [List.length_drop]; omega⟩⟩
  ·rw [if_neg hpre] at hcp
   exact ⟨nz,[],false,ar ((wU _ _).trans <| jx hc (by omega) hi) (ar rfl (ar hcp (aI (s:=true) (ak rfl rfl) (ap rfl rfl)))),dv,Nat.zero_le _,fun h=>by cases h⟩
set_option maxRecDepth 100000
def Ky:(((List aj)×(List Int)))→Option (((List aj)×(List Int))⊕(((List aj)×(List Int))⊕(ae×(List Int)×Bool))):=(fun ((s37,s38):(List aj)×(List Int)) =>
 cond ((decide ((s37.length:Int)≤8)))
  ((bV s38 (⟨#[82,67,80,84,32,84,79,58]⟩:Ll)).bind fun v4 =>
  cond ((!v4.2.2))
   (some (.inr (.inl (s37,s38))))
   ((co 40 s37 [v4.1]).bind fun v6 =>
   some (.inl (v6,v4.2.1))))
  (some (.inr (.inl (s37,s38)))))
def KA:(((List Int)×(List ae)))→Option (((List Int)×(List ae))⊕(((List ae))⊕(List ae))):=(fun ((s9,s10):(List Int)×(List ae)) =>
 cond ((decide ((s10.length:Int)≤4)))
  ((cc s9).bind fun v2 =>
  cond ((!v2.2.2))
   (some (.inr (.inl s10)))
   ((co 120 s10 [(ae.mk (aj.mk v2.1.Ld.Lh v2.1.Ld.Lf v2.1.Ld.Lc) v2.1.To v2.1.Lb v2.1.Lk v2.1.Le v2.1.At)]).bind fun v4 =>
   some (.inl (v2.2.1,v4))))
  (some (.inr (.inl s10))))
theorem Ga {p r:List Int} (hl:p.length+r.length≤100000):cg (p++r) p=some true:=by
 unfold cg
 have e1:eM (p++r) 0 (p.length:Int)=some p:=by
  have:=du (p++r) (a:=0) (b:=p.length) (by omega) (by simp)
  rw [show ((0:Nat):Int)=0 from rfl] at this
  rw [this,List.drop_zero,Nat.sub_zero,List.take_left]
 refine aI (s:=true) (ap (decide_eq_true (by rw [List.length_append]; omega)) (ar e1 (ar (x:=true) ?_ rfl))) rfl
 unfold eJ
 refine ar rfl (ar rfl ?_)
 rw [cm,decide_eq_true rfl]
theorem yu {b p:List Int} (hl:b.length≤100000):∃ x,cg b p=some x∧(x=true→p.length≤b.length):=by
 unfold cg
 by_cases h:p.length≤b.length
 ·have e1:=du b (a:=0) (b:=p.length) (by omega) h
  rw [show ((0:Nat):Int)=0 from rfl] at e1
  exact ⟨_,aI (ap (decide_eq_true (by omega)) (ar e1 (ar (by unfold eJ; exact ar rfl (ar rfl rfl)) rfl))) rfl,fun _=>h⟩
 ·exact ⟨false,aI (s:=false) (ak (decide_eq_false (by omega)) rfl) rfl,fun h=>by cases h⟩
theorem Gj {p r:List Int} (hl:p.length+r.length≤100000):dk (p++r) p=some (r,true):=by
 unfold dk
 have e1:eM (p++r) (p.length:Int) ((p++r).length:Int)=some r:=by
  have:=du (p++r) (a:=p.length) (b:=(p++r).length) (by simp) (by omega)
  rw [this,List.drop_left,List.length_append,Nat.add_sub_cancel_left,List.take_length]
 exact ar (Ga hl) (ak rfl (ar e1 rfl))
theorem yo {b p:List Int} (hb:bJ b) (hl:b.length≤100000):∃ r x,dk b p=some (r,x)∧bJ r∧r.length≤b.length:=by
 obtain ⟨x,hx,hp⟩:=yu (p:=p) hl
 unfold dk
 cases x
 ·exact ⟨b,false,ar hx (ap rfl rfl),hb,Nat.le_refl _⟩
 ·have e1:=du b (a:=p.length) (b:=b.length) (hp rfl) (Nat.le_refl _)
  exact ⟨_,true,ar hx (ak rfl (ar e1 rfl)),eO (dn hb _) _,by rw [List.length_take,List.length_drop]; omega⟩
def fO:List Int:=[68,65,84,65]
theorem KC:∀ x∈jt,x≠13:=by decide
theorem Kl:∀ x∈iU,x≠13:=by decide
theorem HV:∀ x∈fO,x≠13:=by decide
theorem CI:bJ fO:=by intro x hx; simp only [fO,List.mem_cons,List.not_mem_nil,or_false] at hx; omega
theorem Ea:ao (⟨#[82,67,80,84,32,84,79,58]⟩:Ll)=jt:=rfl
theorem Fa:ao (⟨#[77,65,73,76,32,70,82,79,77,58]⟩:Ll)=iU:=rfl
theorem EN {l:List aj} (hp:∀ p∈l,eD p=true) (hl:l.length≤8) {more:List Int} (hm:bJ more) (hml:(iE l).length+more.length≤49000) :
  aQ Ky bU ([],iE l++(fO++13::10::more))=some (.inl (l,fO++13::10::more)):=by
 have hD:bJ (fO++13::10::more):=bM CI (df (by omega) (df (by omega) hm))
 have hDl:(fO++13::10::more).length=more.length+6:=by simp [fO]
 have split:∀ i,iE l=iE (l.take i)++iE (l.drop i):=fun i=>by rw [← oX,List.take_append_drop]
 refine bP (fun i=>(l.take i,iE (l.drop i)++(fO++13::10::more))) l.length bU (by simp) (by simp only [bU]; omega) (fun i hi => ?_) ?_
 ·have e:l.drop i=l[i]::l.drop (i+1):=List.drop_eq_getElem_cons hi
  have hlen:=congrArg List.length (split (i+1))
  rw [List.length_append] at hlen
  have htl:(l.take i).length=i:=by simp; omega
  have hpp:=BF (more:=iE (l.drop (i+1))++(fO++13::10::more)) Ea KC (by decide) (hp _ (List.getElem_mem hi)) (bM (qY _) hD) (by rw [List.length_append,hDl]; omega)
  have e2:iE (l.drop i)++(fO++13::10::more)=pL jt l[i]++(iE (l.drop (i+1))++(fO++13::10::more)):=by rw [e]; simp only [iE,List.append_assoc]
  rw [e2]
  refine ap (decide_eq_true (by show ((l.take i).length:Int)≤8; omega)) (ar hpp (ak rfl (ar (cA (by simp only [htl,List.length_cons,List.length_nil]; omega) (by simp only [htl,List.length_cons,List.length_nil]; omega)) ?_)))
  rw [List.take_succ_eq_append_getElem hi]
 ·rw [List.drop_length,List.take_length]
  have hno:=FF (more:=more) Ea HV CI (by decide) hm (by omega) (by decide)
  exact ap (decide_eq_true (by show (l.length:Int)≤8; omega)) (ar hno (ap rfl rfl))
theorem Bq:∀ (k:Nat) (acc:List aj) (c:List Int) (fuel:Nat),9-acc.length=k→acc.length≤9→k<fuel→(∀ p∈acc,eD p=true)→bJ c→c.length≤10000 →
  ∃ a d,aQ Ky fuel (acc,c)=some (.inl (a,d))∧a.length≤9∧(∀ p∈a,eD p=true)∧bJ d∧d.length≤c.length
 | 0,acc,c,fuel,hk,ha,hf,hp,hc,hl=>by
  obtain ⟨f,rfl⟩:∃ f,fuel=f+1:=⟨fuel-1,by omega⟩
  exact ⟨acc,c,aS (ak (decide_eq_false (by omega)) rfl),ha,hp,hc,Nat.le_refl _⟩
 | k+1,acc,c,fuel,hk,ha,hf,hp,hc,hl=>by
  obtain ⟨f,rfl⟩:∃ f,fuel=f+1:=⟨fuel-1,by omega⟩
  obtain ⟨p,r,ok,h1,h2,h3,h4⟩:=CM (word:=(⟨#[82,67,80,84,32,84,79,58]⟩:Ll)) hc (by omega)
  cases ok
  ·exact ⟨acc,c,aS (ap (decide_eq_true (by omega)) (ar h1 (ap rfl rfl))),ha,hp,hc,Nat.le_refl _⟩
  ·obtain ⟨a,d,g1,g2,g3,g4,g5⟩:=Bq k (acc++[p]) r f (by simp; omega) (by simp; omega) (by omega) (by
    intro q hq
    rcases List.mem_append.1 hq with hq | hq
    ·exact hp q hq
    ·rw [List.mem_singleton.1 hq]; exact (h4 rfl).1) h2 (by omega)
   exact ⟨a,d,(bx (ap (decide_eq_true (by omega)) (ar h1 (ak rfl (ar (cA (by simp only [List.length_cons,List.length_nil]; omega) (by simp only [List.length_cons,List.length_nil]; omega)) rfl))))).trans g1,g2,g3,g4,by omega⟩
structure Pm (m:ae):Prop where
 pf:eD m.Ld=true
 pt:∀ p∈m.To,eD p=true
 tl:m.To.length≤8
 bd:∃ ls,(∀ l∈ls,oO l)∧(∀ l∈ls,bJ l)∧m.Lb=jn ls
 bl:m.Lb.length≤4096
 qu:m.Lk=false
 he:m.Le=e0
 ad:m.At=0
theorem FA {m:ae} (h:Pm m):ae.mk m.Ld m.To m.Lb false (⟨#[]⟩:Ll) 0=m:=by
 obtain ⟨a,b,c,d,e,f⟩:=m
 have h1:=h.qu; have h2:=h.he; have h3:=h.ad
 simp only at h1 h2 h3
 subst h1 h2 h3
 rfl
theorem GP {m:ae} (h:Pm m) {more:List Int} (hm:bJ more) (hl:(qx m).length+more.length≤45000):cc (qx m++more)=some (m,more,true):=by
 obtain ⟨ls,c1,c2,c3⟩:=h.bd
 have hbl:=h.bl
 have ht:dW ls≤4096:=by rw [← cu,← c3]; exact hbl
 have hs:=mv c1 c2 (by omega:dW ls<1000000000)
 rw [← c3] at hs
 have e:eU m.Lb=jn (ls.map lQ++[[46]]):=by unfold eU; rw [hs]; rfl
 have hst:bJ (eU m.Lb):=by
  rw [e]
  refine kK fun l hl => ?_
  rcases List.mem_append.1 hl with hl | hl
  ·obtain ⟨k,hk,rfl⟩:=List.mem_map.1 hl
   exact rb (c2 k hk)
  ·rw [List.mem_singleton.1 hl]; intro x hx; simp only [List.mem_cons,List.not_mem_nil,or_false] at hx; omega
 have hcl:(qx m).length=(pL iU m.Ld).length+((iE m.To).length+(6+(eU m.Lb).length)):=by simp only [qx,List.length_append,List.length_cons,List.length_nil]
 have hsm:bJ (eU m.Lb++more):=bM hst hm
 have hsl:(eU m.Lb++more).length=(eU m.Lb).length+more.length:=by rw [List.length_append]
 have hD:bJ (fO++13::10::(eU m.Lb++more)):=bM CI (df (by omega) (df (by omega) hsm))
 have e1:qx m++more=pL iU m.Ld++(iE m.To++(fO++13::10::(eU m.Lb++more))):=by simp [qx,fO]
 have hpp:=BF (more:=iE m.To++(fO++13::10::(eU m.Lb++more))) Fa Kl (by decide) h.pf (bM (qY _) hD) (by simp only [List.length_append,fO,List.length_cons,List.length_nil]; omega)
 have hlp:=EN h.pt h.tl hsm (by omega)
 have hcp:=Gj (p:=[68,65,84,65,13,10]) (r:=eU m.Lb++more) (by rw [hsl]; simp only [List.length_cons,List.length_nil]; omega)
 have hlen:(eU m.Lb++more).length=dW (ls.map lQ)+3+more.length:=by
  rw [hsl,e,cu,jl]; rfl
 have hstr:=wA (ls:=ls.map lQ) (more:=more) (by
  intro l hl; obtain ⟨k,hk,rfl⟩:=List.mem_map.1 hl; exact yZ (c1 k hk)) (by
  intro l hl; obtain ⟨k,hk,rfl⟩:=List.mem_map.1 hl; exact rb (c2 k hk)) (by
  intro l hl; obtain ⟨k,hk,rfl⟩:=List.mem_map.1 hl; exact yV k) hm (by omega)
 rw [← e,zy,← c3] at hstr
 have hsli:eM (eU m.Lb++more) ((dW (ls.map lQ)+3:Nat):Int) ((eU m.Lb++more).length:Int)=some more:=by
  have:=du (eU m.Lb++more) (a:=dW (ls.map lQ)+3) (b:=(eU m.Lb++more).length) (by omega) (by omega)
  have hx:(eU m.Lb).length=dW (ls.map lQ)+3:=by rw [e,cu,jl]; rfl
  rw [this,← hx,List.drop_left,hsl,Nat.add_sub_cancel_left,List.take_length]
 rw [e1]
 unfold cc
 refine ar hpp (ak rfl (aI hlp (ar (x:=(eU m.Lb++more,true)) ?_ (ak rfl (ar hstr (ak rfl (ar hsli ?_)))))))
 ·have:fO++13::10::(eU m.Lb++more)=[68,65,84,65,13,10]++(eU m.Lb++more):=rfl
  rw [this]; exact hcp
 ·rw [FA h]
theorem Gl {c:List Int} (hc:bJ c) (hl:c.length≤10000):∃ m r ok,cc c=some (m,r,ok)∧bJ r∧r.length≤c.length∧(ok=true→LM m∧bJ m.Lb):=by
 obtain ⟨p,r,ok,h1,h2,h3,h4⟩:=CM (word:=(⟨#[77,65,73,76,32,70,82,79,77,58]⟩:Ll)) hc (by omega)
 unfold cc
 cases ok
 ·exact ⟨_,[],false,ar h1 (ap rfl rfl),dv,Nat.zero_le _,fun h=>by cases h⟩
 obtain ⟨a,d,g1,g2,g3,g4,g5⟩:=Bq 9 [] r bU rfl (by decide) (by simp only [bU]; omega) (fun _ h=>by cases h) h2 (by omega)
 obtain ⟨x,y,k1,k2,k3⟩:=yo (p:=[68,65,84,65,13,10]) g4 (by omega)
 cases y
 ·exact ⟨_,[],false,ar h1 (ak rfl (aI g1 (ar k1 (ap rfl rfl)))),dv,Nat.zero_le _,fun h=>by cases h⟩
 obtain ⟨body,e,n,s1,s2,s3,s4⟩:=tw k2 (by omega)
 by_cases he:e=0
 case neg=>exact ⟨_,[],false,ar h1 (ak rfl (aI g1 (ar k1 (ak rfl (ar s1 (ap (bne_iff_ne.2 he) rfl)))))),dv,Nat.zero_le _,fun h=>by cases h⟩
 subst he
 have hs:=du x (a:=n) (b:=x.length) s2 (Nat.le_refl _)
 refine ⟨_,_,true,ar h1 (ak rfl (aI g1 (ar k1 (ak rfl (ar s1 (ak rfl (ar hs rfl))))))),eO (dn k2 _) _,by rw [List.length_take,List.length_drop]; omega,fun _=>⟨⟨by show a.length≤40; omega,?_⟩,s3⟩⟩
 have w1:=(vR (h4 rfl).1).1
 have w2:=oZ 319 a fun p hp=>(vR (g3 p hp)).1
 have w3:a.length * 319≤9 * 319:=Nat.mul_le_mul_right _ g2
 simp only [pW] at w1
 show body.length+(⟨#[]⟩:Ll).size+p.Lf.size+p.Lc.size+lH a≤20000
 have:(⟨#[]⟩:Ll).size=0:=rfl
 omega
theorem GJ:∀ x∈[81,85,73,84],x≠(13:Int):=by decide
theorem Je:bJ [81,85,73,84]:=by intro x hx; simp only [List.mem_cons,List.not_mem_nil,or_false] at hx; omega
theorem Gy {l:List ae} (hp:∀ m∈l,Pm m) (hb:∀ m∈l,bJ (qx m)) (hl:l.length≤4) (hcl:(dr l).length≤40000):ck (eL l)=some l:=by
 have split:∀ i,dr l=dr (l.take i)++dr (l.drop i):=fun i=>by rw [← kQ,List.take_append_drop]
 have hcb:∀ (k:List ae),(∀ m∈k,m∈l)→bJ (dr k):=by
  intro k
  induction k with
  | nil=>intro _; exact dv
  | cons m k ih=>intro h; exact bM (hb m (h m List.mem_cons_self)) (ih fun x hx=>h x (List.mem_cons_of_mem _ hx))
 have hqb:bJ ia:=by intro x hx; simp only [ia,List.mem_cons,List.not_mem_nil,or_false] at hx; omega
 unfold ck
 refine aI (s:=l) (bP (f:=KA) (fun i=>(dr (l.drop i)++ia,l.take i)) l.length bU (by simp [eL]) (by simp only [bU]; omega) (fun i hi => ?_) ?_) rfl
 ·have e:l.drop i=l[i]::l.drop (i+1):=List.drop_eq_getElem_cons hi
  have hmem:∀ m∈l.drop (i+1),m∈l:=fun m hm=>List.mem_of_mem_drop hm
  have hlen:=congrArg List.length (split i)
  rw [e] at hlen
  simp only [dr,List.length_append] at hlen
  have htl:(l.take i).length=i:=by simp; omega
  have hpm:=GP (hp _ (List.getElem_mem hi)) (more:=dr (l.drop (i+1))++ia) (bM (hcb _ hmem) hqb) (by simp only [List.length_append,ia,List.length_cons,List.length_nil]; omega)
  have e2:dr (l.drop i)++ia=qx l[i]++(dr (l.drop (i+1))++ia):=by rw [e]; simp only [dr,List.append_assoc]
  rw [e2]
  refine ap (decide_eq_true (by show ((l.take i).length:Int)≤4; omega)) (ar hpm (ak rfl (ar (cA (by simp only [htl,List.length_cons,List.length_nil]; omega) (by simp only [htl,List.length_cons,List.length_nil]; omega)) ?_)))
  rw [List.take_succ_eq_append_getElem hi]
 ·rw [List.drop_length,List.take_length]
  have hno:=FF (more:=[]) Fa GJ Je (by decide) dv (by decide) (by decide)
  have hpm:cc ia=some (ae.mk nz [] [] false (⟨#[]⟩:Ll) 0,[],false):=by
   unfold cc
   exact ar (by simpa [ia] using hno) (ap rfl rfl)
  exact ap (decide_eq_true (by show (l.length:Int)≤4; omega)) (ar (x:=(ae.mk nz [] [] false (⟨#[]⟩:Ll) 0,[],false)) hpm (ap rfl rfl))
theorem FC:∀ (k:Nat) (acc:List ae) (c:List Int) (fuel:Nat),5-acc.length=k→acc.length≤5→k<fuel→(∀ m∈acc,LM m∧bJ m.Lb)→bJ c→c.length≤10000 →
  ∃ a,aQ KA fuel (c,acc)=some (.inl a)∧a.length≤5∧∀ m∈a,LM m∧bJ m.Lb
 | 0,acc,c,fuel,hk,ha,hf,hp,hc,hl=>by
  obtain ⟨f,rfl⟩:∃ f,fuel=f+1:=⟨fuel-1,by omega⟩
  exact ⟨acc,aS (ak (decide_eq_false (by omega)) rfl),ha,hp⟩
 | k+1,acc,c,fuel,hk,ha,hf,hp,hc,hl=>by
  obtain ⟨f,rfl⟩:∃ f,fuel=f+1:=⟨fuel-1,by omega⟩
  obtain ⟨m,r,ok,h1,h2,h3,h4⟩:=Gl hc hl
  cases ok
  ·exact ⟨acc,aS (ap (decide_eq_true (by omega)) (ar h1 (ap rfl rfl))),ha,hp⟩
  ·obtain ⟨a,g1,g2,g3⟩:=FC k (acc++[m]) r f (by simp; omega) (by simp; omega) (by omega) (by
    intro q hq
    rcases List.mem_append.1 hq with hq | hq
    ·exact hp q hq
    ·rw [List.mem_singleton.1 hq]; exact h4 rfl) h2 (by omega)
   exact ⟨a,(bx (ap (decide_eq_true (by omega)) (ar h1 (ak rfl (ar (cA (by simp only [List.length_cons,List.length_nil]; omega) (by simp only [List.length_cons,List.length_nil]; omega)) rfl))))).trans g1,g2,g3⟩
theorem GH {c:List Int} (hc:bJ c) (hl:c.length≤10000):∃ l,ck c=some l∧l.length≤5∧∀ m∈l,LM m∧bJ m.Lb:=by
 obtain ⟨a,h1,h2,h3⟩:=FC 5 [] c bU rfl (by decide) (by simp only [bU]; omega) (fun _ h=>by cases h) hc hl
 exact ⟨a,by unfold ck; exact aI h1 rfl,h2,h3⟩
set_option maxRecDepth 100000
theorem jy {A:Type} (d:A) (p:A→Bool):∀ (l:List A),(∀ i,i<l.length→p (l.getD i d)=true)↔l.all p=true:=by
 intro l
 rw [List.all_eq_true]
 constructor
 ·intro h x hx
  obtain ⟨i,hi,rfl⟩:=List.getElem_of_mem hx
  have:=h i hi
  rwa [List.getD_eq_getElem?_getD,List.getElem?_eq_getElem hi,Option.getD_some] at this
 ·intro h i hi
  rw [List.getD_eq_getElem?_getD,List.getElem?_eq_getElem hi,Option.getD_some]
  exact h _ (List.getElem_mem hi)
theorem nO {A:Type} {l:List A} {i:Nat} (d:A) (h:i<l.length):aN l i=some (l.getD i d):=by
 rw [List.getD_eq_getElem?_getD,List.getElem?_eq_getElem h,Option.getD_some]; exact cv h
theorem ET {A:Type} {l:List A} {i:Nat} (d:A) (h:i<l.length):l.getD i d∈l:=by
 rw [List.getD_eq_getElem?_getD,List.getElem?_eq_getElem h,Option.getD_some]; exact List.getElem_mem h
def uQ (p:aj):Bool:=eD p && !p.Lh
def xJ (m:ae):Bool:=eD m.Ld&&(decide (1≤m.To.length∧m.To.length≤8)&&m.To.all uQ)
theorem Aa {m:ae} (h:LM m):eS m=some (xJ m):=by
 obtain ⟨hs1,hs2,hs3,hs4⟩:=fA h
 unfold eS xJ
 cases hF:eD m.Ld
 ·exact aI (s:=true) (ar (fa _ hs1) (ap (by rw [hF]; rfl) rfl)) (ap rfl rfl)
 by_cases h1:1≤m.To.length∧m.To.length≤8
 case neg =>
  rw [decide_eq_false h1]
  refine aI (s:=true) (ar (fa _ hs1) (ak (by rw [hF]; rfl) ?_)) (ap rfl rfl)
  by_cases h2:m.To.length<1
  ·exact ap (decide_eq_true (by omega)) rfl
  ·exact ak (decide_eq_false (by omega)) (cC (decide_eq_true (by omega)))
 rw [decide_eq_true h1]
 have hstep:∀ i:Nat,i<m.To.length→((et (m.To.getD i nz)).bind fun v10=>cond ((v10 != 0)) (some (.inl true)) (some (.inl (m.To.getD i nz).Lh)):Option (Bool⊕(Int⊕(Unit⊕Bool))))=some (.inl (!uQ (m.To.getD i nz))):=by
  intro i hi
  refine ar (fa _ (hs2 _ (ET nz hi))) ?_
  unfold uQ
  cases eD (m.To.getD i nz)
  ·rfl
  ·exact ak rfl (cC (by simp))
 have hloop:=gL (f:=Ja m) (R:=Bool) (fun i=>uQ (m.To.getD i nz)) m.To.length false (fuel:=bU) (by simp only [bU]; omega)
  (fun i hi hp=>by
   replace hp:uQ (m.To.getD i nz)=true:=hp
   have:=hstep i hi
   rw [hp] at this
   exact ap (decide_eq_true (by omega)) (ar (bi hi) (ar (nO nz hi) (aI this (ak rfl (ar (congrArg some (aW (n:=i) (by omega))) rfl))))))
  (fun i hi hp=>by
   replace hp:uQ (m.To.getD i nz)=false:=hp
   have:=hstep i hi
   rw [hp] at this
   exact ap (decide_eq_true (by omega)) (ar (bi hi) (ar (nO nz hi) (aI this (ap rfl rfl)))))
  (ak (decide_eq_false (by omega)) rfl)
 refine aI (s:=false) (ar (fa _ hs1) (ak (by rw [hF]; rfl) (ak (decide_eq_false (by omega)) (cC (decide_eq_false (by omega)))))) (ak rfl ?_)
 by_cases ha:m.To.all uQ=true
 ·rw [if_pos ((jy nz uQ m.To).2 ha)] at hloop
  rw [ha]
  exact aI hloop rfl
 ·rw [if_neg fun h=>ha ((jy nz uQ m.To).1 h)] at hloop
  rw [Bool.eq_false_iff.2 ha]
  exact jY hloop rfl
def BY (b:List Int):Bool:=decide (cM b=some 0)
def uP (m:ae):Bool:=xJ m&&(decide (m.Lb.length≤4096)&&BY m.Lb)
theorem Ct {m:ae} (h:LM m) (hb:bJ m.Lb):cG m=some (uP m):=by
 have hl:=(fA h).2.2.1
 unfold cG uP
 have he:=Aa h
 generalize xJ m=x at he ⊢
 cases x
 ·exact aI (s:=false) (ar he (ak rfl rfl)) rfl
 by_cases h4:m.Lb.length≤4096
 ·rw [decide_eq_true h4]
  unfold BY
  rcases ln hb (by omega) with hd | ⟨ls,a,c,d⟩
  ·exact aI (s:=false) (ar he (ap rfl (ap (decide_eq_true (by omega)) (ar hd rfl)))) (by rw [hd]; rfl)
  ·have hd:cM m.Lb=some 0:=by rw [d]; exact ku a c (by rw [← cu,← d]; omega)
   exact aI (s:=true) (ar he (ap rfl (ap (decide_eq_true (by omega)) (ar hd rfl)))) (by rw [hd]; rfl)
 ·rw [decide_eq_false h4]
  exact aI (s:=false) (ar he (ap rfl (ak (decide_eq_false (by omega)) rfl))) rfl
def pD (m:ae):Bool:=uP m&&(!m.Lk&&(decide (m.Le=e0)&&decide (m.At=0)))
def nB (b:az):Bool:=decide ((b.Lj=0∨b.Lj=1)∧1≤b.Li∧b.Li≤65535)&&(decide (1≤b.Lg.length∧b.Lg.length≤4)&&b.Lg.all pD)
def iz:ae:=ae.mk nz [] [] false e0 0
theorem nh {b:az} (hm:∀ m∈b.Lg,LM m∧bJ m.Lb) (hl:b.Lg.length≤20):cR b=some (cond (nB b) 0 5):=by
 unfold cR nB
 have first:∀ {A:Type},(cond (b.Lj != 0) (cond (b.Lj != 1) (some (.inl true)) (cond (decide (b.Li<1)) (some (.inl true)) (some (.inl (decide (65535<b.Li)))))) (cond (decide (b.Li<1)) (some (.inl true)) (some (.inl (decide (65535<b.Li))))):Option (Bool⊕A))=some (.inl (!decide ((b.Lj=0∨b.Lj=1)∧1≤b.Li∧b.Li≤65535))):=by
  intro A
  have tail:(cond (decide (b.Li<1)) (some (.inl true)) (some (.inl (decide (65535<b.Li)))):Option (Bool⊕A))=some (.inl (!decide (1≤b.Li∧b.Li≤65535))):=by
   by_cases h:b.Li<1
   ·rw [decide_eq_false (p:=1≤b.Li∧b.Li≤65535) (by omega)]; exact ap (decide_eq_true h) rfl
   ·refine ak (decide_eq_false h) (cC ?_)
    by_cases h2:b.Li≤65535
    ·rw [decide_eq_true (p:=1≤b.Li∧b.Li≤65535) (by omega),decide_eq_false (by omega)]; rfl
    ·rw [decide_eq_false (p:=1≤b.Li∧b.Li≤65535) (by omega),decide_eq_true (by omega)]; rfl
  by_cases o:b.Lj=0∨b.Lj=1
  ·have e:decide ((b.Lj=0∨b.Lj=1)∧1≤b.Li∧b.Li≤65535)=decide (1≤b.Li∧b.Li≤65535):=decide_eq_decide.2 ⟨fun h=>h.2,fun h=>⟨o,h⟩⟩
   rw [e]
   rcases o with o | o
   ·exact ak (by rw [o]; rfl) tail
   ·exact ap (by rw [o]; rfl) (ak (by rw [o]; rfl) tail)
  ·have o0:b.Lj≠0:=fun h=>o (.inl h)
   have o1:b.Lj≠1:=fun h=>o (.inr h)
   rw [decide_eq_false (p:=(b.Lj=0∨b.Lj=1)∧1≤b.Li∧b.Li≤65535) fun h=>o h.1]
   exact ap (by simpa using o0) (ap (by simpa using o1) rfl)
 by_cases nn:(b.Lj=0∨b.Lj=1)∧1≤b.Li∧b.Li≤65535
 case neg =>
  have f1:=first (A:=Int)
  rw [decide_eq_false nn] at f1 ⊢
  exact aI f1 (ap rfl rfl)
 have f1:=first (A:=Int)
 rw [decide_eq_true nn] at f1 ⊢
 refine aI f1 (ak rfl ?_)
 by_cases ml:1≤b.Lg.length∧b.Lg.length≤4
 case neg =>
  rw [decide_eq_false ml]
  refine aI (s:=true) ?_ (ap rfl rfl)
  by_cases h:b.Lg.length<1
  ·exact ap (decide_eq_true (by omega)) rfl
  ·exact ak (decide_eq_false (by omega)) (cC (decide_eq_true (by omega)))
 rw [decide_eq_true ml]
 refine aI (s:=false) (ak (decide_eq_false (by omega)) (cC (decide_eq_false (by omega)))) (ak rfl ?_)
 have hstep:∀ i:Nat,i<b.Lg.length→((cG (b.Lg.getD i iz)).bind fun v14=>cond ((!v14)) (some (.inl true)) (cond ((b.Lg.getD i iz).Lk) (some (.inl true)) (cond ((!((b.Lg.getD i iz).Le.toList==(⟨#[]⟩:Ll).toList))) (some (.inl true)) (some (.inl ((b.Lg.getD i iz).At != 0))))):Option (Bool⊕(Int⊕(Unit⊕Int))))=some (.inl (!pD (b.Lg.getD i iz))):=by
  intro i hi
  obtain ⟨h3,h4⟩:=hm _ (ET iz hi)
  refine ar (Ct h3 h4) ?_
  unfold pD
  cases uP (b.Lg.getD i iz)
  ·rfl
  cases (b.Lg.getD i iz).Lk
  case true=>rfl
  refine ak rfl (ak rfl ?_)
  rw [cm]
  by_cases hh:(b.Lg.getD i iz).Le=e0
  ·have hh2:(b.Lg.getD i iz).Le=({ data := #[] }:Ll):=hh
   rw [decide_eq_true hh,decide_eq_true hh2]
   refine ak rfl (cC ?_)
   by_cases ha:(b.Lg.getD i iz).At=0
   ·rw [decide_eq_true ha,ha]; rfl
   ·rw [decide_eq_false ha,bne_iff_ne.2 ha]; rfl
  ·have hh2:¬ (b.Lg.getD i iz).Le=({ data := #[] }:Ll):=hh
   rw [decide_eq_false hh,decide_eq_false hh2]
   exact ap rfl rfl
 have hloop:=gL (f:=Jb b) (R:=Int) (fun i=>pD (b.Lg.getD i iz)) b.Lg.length 5 (fuel:=bU) (by simp only [bU]; omega)
  (fun i hi hp=>by
   replace hp:pD (b.Lg.getD i iz)=true:=hp
   have:=hstep i hi
   rw [hp] at this
   exact ap (decide_eq_true (by omega)) (ar (bi hi) (ar (nO iz hi) (aI this (ak rfl (ar (congrArg some (aW (n:=i) (by omega))) rfl))))))
  (fun i hi hp=>by
   replace hp:pD (b.Lg.getD i iz)=false:=hp
   have:=hstep i hi
   rw [hp] at this
   exact ap (decide_eq_true (by omega)) (ar (bi hi) (ar (nO iz hi) (aI this (ap rfl rfl)))))
  (ak (decide_eq_false (by omega)) rfl)
 by_cases ha:b.Lg.all pD=true
 ·rw [if_pos ((jy iz pD b.Lg).2 ha)] at hloop
  rw [ha]
  exact aI hloop rfl
 ·rw [if_neg fun h=>ha ((jy iz pD b.Lg).1 h)] at hloop
  rw [Bool.eq_false_iff.2 ha]
  exact jY hloop rfl
theorem Ir {m:ae} (hb:bJ m.Lb) (h:pD m=true):Pm m∧(∀ p∈m.To,p.Lh=false)∧1≤m.To.length:=by
 simp only [pD,uP,xJ,Bool.and_eq_true,decide_eq_true_eq,Bool.not_eq_true',List.all_eq_true,uQ] at h
 obtain ⟨⟨⟨h1,h2,h3⟩,h4,h5⟩,h6,h7,h8⟩:=h
 have hbd:∃ ls,(∀ l∈ls,oO l)∧(∀ l∈ls,bJ l)∧m.Lb=jn ls:=by
  rcases ln hb (by omega) with hd | hd
  ·unfold BY at h5
   rw [hd] at h5
   exact absurd h5 (by decide)
  ·exact hd
 exact ⟨⟨h1,fun p hp=>(h3 p hp).1,h2.2,hbd,h4,h6,h7,h8⟩,fun p hp=>(h3 p hp).2,h2.1⟩
set_option maxRecDepth 100000
theorem iD (a b:aj):ep a b=some (decide (a=b)):=by
 unfold ep
 refine aI (s:=decide (a=b)) (ar rfl ?_) rfl
 rw [cm,cm]
 obtain ⟨an,al,ad⟩:=a
 obtain ⟨bn,bl,bd⟩:=b
 cases h:an==bn
 ·have:an≠bn:=by simpa using h
  refine ak rfl ?_
  simp [this]
 ·have:an=bn:=by simpa using h
  refine ap rfl ?_
  subst this
  by_cases h2:al=bl
  ·rw [decide_eq_true h2]
   subst h2
   refine ap rfl ?_
   simp
  ·rw [decide_eq_false h2]
   refine ak rfl ?_
   simp [h2]
def KH (a b:List aj):((Int))→Option ((Int)⊕((Unit)⊕Bool)):=(fun (s13:Int) =>
 cond ((decide (s13<(a.length:Int))))
  ((cj s13 a.length).bind fun v3 =>
  (aN a v3).bind fun v4 =>
  (cj s13 b.length).bind fun v5 =>
  (aN b v5).bind fun v6 =>
  (ep v4 v6).bind fun v7 =>
  cond ((!v7))
   (some (.inr (.inr (false))))
   ((some (IntKind.i64.wrap (s13+1))).bind fun v9 =>
   some (.inl v9)))
  (some (.inr (.inl ()))))
theorem gv (a b:List aj) (hl:a.length<4294967296):fB a b=some (decide (a=b)):=by
 unfold fB
 by_cases hlen:a.length=b.length
 ·refine ak (by simp [hlen]) ?_
  have h:=gL (R:=Bool) (f:=KH a b) (fun i=>decide (a[i]? = b[i]?)) a.length false (fuel:=bU) (by simp only [bU]; omega) (fun i hi hp => ?_) (fun i hi hp => ?_) (ak (decide_eq_false (by omega)) rfl)
  ·by_cases he:a=b
   ·rw [decide_eq_true he]
    rw [if_pos (fun i _=>by rw [he]; simp)] at h
    exact aI h rfl
   ·rw [decide_eq_false he]
    rw [if_neg (fun hh=>he (List.ext_getElem? fun i=>by
     by_cases hi:i<a.length
     ·exact of_decide_eq_true (hh i hi)
     ·rw [List.getElem?_eq_none (by omega),List.getElem?_eq_none (by omega)]))] at h
    exact jY h rfl
  ·have hb:i<b.length:=by omega
   have e:=of_decide_eq_true hp
   rw [List.getElem?_eq_getElem hi,List.getElem?_eq_getElem hb] at e
   exact ap (decide_eq_true (by omega)) (ar (bi hi) (ar (by simp [aN,hi]:aN a i=some a[i]) (ar (bi hb) (ar (by simp [aN,hb]:aN b i=some b[i]) (ar (iD _ _) (ak (by rw [decide_eq_true (Option.some.inj e)]; rfl) (ar (congrArg some (aW (n:=i) (by omega))) rfl)))))))
  ·have hb:i<b.length:=by omega
   have e:=of_decide_eq_false hp
   rw [List.getElem?_eq_getElem hi,List.getElem?_eq_getElem hb] at e
   exact ap (decide_eq_true (by omega)) (ar (bi hi) (ar (by simp [aN,hi]:aN a i=some a[i]) (ar (bi hb) (ar (by simp [aN,hb]:aN b i=some b[i]) (ar (iD _ _) (ap (by rw [decide_eq_false (fun h=>e (congrArg some h))]; rfl) rfl))))))
 ·rw [decide_eq_false (fun h=>hlen (by rw [h]))]
  exact ap (by simp only [bne_iff_ne,ne_eq]; omega) rfl
theorem qy (a b:ae) (h1:a.To.length<4294967296) (h2:a.Lb.length<4294967296):eu a b=some (decide (a=b)):=by
 unfold eu
 obtain ⟨af,at_,ab,aq,ah,aa⟩:=a
 obtain ⟨bf,bt,bb,bq,bh,ba⟩:=b
 by_cases e1:af=bf
 ·by_cases e2:at_=bt
  ·by_cases e3:ab=bb
   ·by_cases e4:aq=bq
    ·by_cases e5:ah=bh
     ·by_cases e6:aa=ba
      ·subst e1; subst e2; subst e3; subst e4; subst e5; subst e6
       rw [decide_eq_true rfl]
       exact aI (s:=true) (ar (iD _ _) (ap (decide_eq_true rfl) (ar (gv _ _ h1) (ap (decide_eq_true rfl) (ar (eZ _ _ h2) (ap (decide_eq_true rfl) (ar rfl (ap (beq_self_eq_true _) (ap (by rw [cm]; exact decide_eq_true rfl) (cC (beq_self_eq_true _))))))))))) rfl
      ·rw [decide_eq_false (fun h=>e6 (by injection h))]
       exact aI (s:=false) (ar (iD _ _) (ap (decide_eq_true e1) (ar (gv _ _ h1) (ap (decide_eq_true e2) (ar (eZ _ _ h2) (ap (decide_eq_true e3) (ar rfl (ap (beq_iff_eq.2 e4) (ap (by rw [cm]; exact decide_eq_true e5) (cC (beq_eq_false_iff_ne.2 e6)))))))))))  rfl
     ·rw [decide_eq_false (fun h=>e5 (by injection h))]
      exact aI (s:=false) (ar (iD _ _) (ap (decide_eq_true e1) (ar (gv _ _ h1) (ap (decide_eq_true e2) (ar (eZ _ _ h2) (ap (decide_eq_true e3) (ar rfl (ap (beq_iff_eq.2 e4) (ak (by rw [cm]; exact decide_eq_false e5) rfl))))))))) rfl
    ·rw [decide_eq_false (fun h=>e4 (by injection h))]
     exact aI (s:=false) (ar (iD _ _) (ap (decide_eq_true e1) (ar (gv _ _ h1) (ap (decide_eq_true e2) (ar (eZ _ _ h2) (ap (decide_eq_true e3) (ar rfl (ak (beq_eq_false_iff_ne.2 e4) rfl)))))))) rfl
   ·rw [decide_eq_false (fun h=>e3 (by injection h))]
    exact aI (s:=false) (ar (iD _ _) (ap (decide_eq_true e1) (ar (gv _ _ h1) (ap (decide_eq_true e2) (ar (eZ _ _ h2) (ak (decide_eq_false e3) rfl)))))) rfl
  ·rw [decide_eq_false (fun h=>e2 (by injection h))]
   exact aI (s:=false) (ar (iD _ _) (ap (decide_eq_true e1) (ar (gv _ _ h1) (ak (decide_eq_false e2) rfl)))) rfl
 ·rw [decide_eq_false (fun h=>e1 (by injection h))]
  exact aI (s:=false) (ar (iD _ _) (ak (decide_eq_false e1) rfl)) rfl
theorem GB (a b:List Int):eJ a b=some (decide (aL a=aL b)):=by
 unfold eJ
 exact ar rfl (ar rfl (by rw [cm]))
theorem rP (b:az) (hl:b.Lg.length<1000) (hm:∀ m∈b.Lg,m.To.length<4294967296∧m.Lb.length<4294967296):bR b b=some true:=by
 unfold bR
 have h1:(cond ((b.Lj != b.Lj)) (some (.inl true)) (cond ((b.Li != b.Li)) (some (.inl true)) (some (.inl (((b.Lg.length:Int) != (b.Lg.length:Int)))))):Option (Bool⊕Bool))=some (.inl false):=by
  simp only [bne_self_eq_false]; rfl
 refine aI h1 (ak rfl (aI (s:=()) (bP (fun i=>((i:Nat):Int)) b.Lg.length bU rfl (by simp only [bU]; omega) (fun i hi => ?_) (ak (decide_eq_false (by omega)) rfl)) rfl))
 have hg:=cv hi
 obtain ⟨t1,t2⟩:=hm _ (List.getElem_mem hi)
 have hk:=qy b.Lg[i] b.Lg[i] t1 t2
 rw [decide_eq_true rfl] at hk
 exact ap (decide_eq_true (by omega)) (ar (bi hi) (ar hg (ar (bi hi) (ar hg (ar hk (ak rfl (ar (congrArg some (aW (n:=i) (by omega))) rfl)))))))
theorem xH {m:ae} (h:LM m):m.To.length<4294967296∧m.Lb.length<4294967296:=by
 obtain ⟨h1,h2⟩:=h
 simp only [mW] at h2
 exact ⟨by omega,by omega⟩
theorem He {b:az} (hm:∀ m∈b.Lg,LM m∧bJ m.Lb) (hl:b.Lg.length≤20) (hc:cR b=some 0):∀ m∈b.Lg,Pm m:=by
 have h:=nh hm hl
 rw [hc] at h
 have hb:nB b=true:=by
  cases hh:nB b with
  | true=>rfl
  | false=>rw [hh] at h; exact absurd (Option.some.inj h) (by decide)
 unfold nB at hb
 simp only [Bool.and_eq_true,List.all_eq_true] at hb
 exact fun m hmm=>(Ir (hm m hmm).2 (hb.2.2 m hmm)).1
set_option maxRecDepth 100000
set_option maxRecDepth 10000
theorem yT (n lo hi:Int):bF n lo hi=some (decide (lo≤n)&&decide (n≤hi)):=by
 unfold bF
 cases decide (lo≤n) <;> rfl
def CS (c:Int):Bool:=decide (97≤c)&&decide (c≤122)||decide (65≤c)&&decide (c≤90)
def yA (c:Int):Bool:=decide (48≤c)&&decide (c≤57)
theorem DV (c:Int):cJ c=some (CS c):=by
 unfold cJ CS
 cases decide (97≤c) <;> cases decide (c≤122) <;> cases decide (65≤c) <;> cases decide (c≤90) <;> rfl
theorem xB (c:Int):cx c=some (yA c):=by
 unfold cx yA
 cases decide (48≤c) <;> rfl
theorem If (c:Int):yr c=(CS c||(yA c||c==45)):=by
 unfold yr Jy CS yA
 cases decide (97≤c) <;> cases decide (c≤122) <;> cases decide (65≤c) <;> cases decide (c≤90) <;> cases decide (48≤c) <;> cases decide (c≤57) <;> simp
def rW (q:Int→Int→Bool):Int→List Int→Bool
 | _,[]=>true
 | p,x::r=>q p x&&rW q x r
theorem wB (q:Int→Int→Bool):∀ (l:List Int) (p:Int),(∀ i,i<l.length→q ((p::l).getD i 0) (l.getD i 0)=true)↔rW q p l=true
 | [],p=>by simp [rW]
 | x::r,p=>by
  unfold rW
  rw [Bool.and_eq_true,← wB q r x]
  constructor
  ·intro h
   exact ⟨by simpa using h 0 (by simp),fun i hi=>by simpa using h (i+1) (by simpa using hi)⟩
  ·rintro ⟨h0,h1⟩ i hi
   cases i with
   | zero=>simpa using h0
   | succ i=>simpa using h1 i (by simpa using hi)
def vB (l:List Int):Bool:=decide (1≤l.length)&&(decide (l.length≤63)&&(l.getD 0 0 != 45&&l.getD (l.length-1) 0 != 45))
theorem yg (l:List Int):qQ l=(vB l&&l.all yr):=by
 unfold qQ vB
 cases l with
 | nil=>rfl
 | cons x r =>
  rw [nm (by simp),kW (by simp)]
  have:decide (1≤(x::r).length)=true:=by simp
  rw [this]
  simp only [List.isEmpty_cons,Bool.not_false,Bool.true_and]
  have e1:(some ((x::r).getD 0 0) != some 45)=((x::r).getD 0 0 != 45):=by rw [Bool.eq_iff_iff]; simp
  have e2:(some ((x::r).getD ((x::r).length-1) 0) != some 45)=((x::r).getD ((x::r).length-1) 0 != 45):=by rw [Bool.eq_iff_iff]; simp
  rw [e1,e2]
  simp only [Bool.and_assoc]
def tk:List Int→List Int→Bool
 | cur,[]=>vB cur
 | cur,x::r=>if x=46 then vB cur&&tk [] r else yr x&&tk (cur++[x]) r
theorem sw:∀ (l cur:List Int),cur.all yr=true→tk cur l=match eW 46 l with
  | []=>true
  | a::ps=>qQ (cur++a)&&ps.all qQ
 | [],cur,h=>by simp [tk,eW,yg,h]
 | x::r,cur,h=>by
  have hne:=jf 46 r
  unfold tk eW
  by_cases hx:x=46
  ·rw [if_pos hx,if_pos hx,sw r [] rfl]
   cases hs:eW 46 r with
   | nil=>exact absurd hs hne
   | cons a ps=>simp [yg,h]
  ·rw [if_neg hx,if_neg hx]
   cases hs:eW 46 r with
   | nil=>exact absurd hs hne
   | cons a ps =>
    cases hl:yr x
    ·simp [yg,hl]
    ·have:=sw r (cur++[x]) (by simp [h,hl])
     rw [this,hs]
     simp
theorem Ht (l:List Int):(eW 46 l).all qQ=tk [] l:=by
 rw [sw l [] rfl]
 cases hs:eW 46 l with
 | nil=>exact absurd hs (jf 46 l)
 | cons a ps=>simp
def px (s:Ll):Int×Int→Option ((Int×Int)⊕(Unit⊕Bool)):=(fun ((s88,s89):Int×Int) =>
 cond ((decide (s89≤(s.size:Int))))
  (aF (S:=Int) (A:=((Int×Int)⊕((Unit)⊕Bool)))
   (aF (S:=Bool) (A:=(Int⊕((Int×Int)⊕((Unit)⊕Bool))))
    (cond ((decide (s89<(s.size:Int))))
     ((dh s s89).bind fun v4 =>
     some (.inl (v4 != 46)))
     (some (.inl false)))
    (fun (s151:Bool) =>
     cond (s151)
      (aF (S:=Bool) (A:=(Int⊕((Int×Int)⊕((Unit)⊕Bool))))
       ((dh s s89).bind fun v10 =>
       (cJ v10).bind fun v11 =>
       cond ((!v11))
        ((dh s s89).bind fun v12 =>
        (cx v12).bind fun v13 =>
        cond ((!v13))
         ((dh s s89).bind fun v14 =>
         some (.inl (v14 != 45)))
         (some (.inl false)))
        (some (.inl false)))
       (fun (s156:Bool) =>
        cond (s156)
         (some (.inr (.inr (.inr (false)))))
         (some (.inl s88))) some)
      (aF (S:=Bool) (A:=(Int⊕((Int×Int)⊕((Unit)⊕Bool))))
       ((some (IntKind.i64.wrap (s89-s88))).bind fun v20 =>
       (bF v20 1 63).bind fun v21 =>
       cond ((!v21))
        (some (.inl true))
        ((dh s s88).bind fun v22 =>
        cond ((v22==45))
         (some (.inl true))
         ((some (IntKind.i64.wrap (s89-1))).bind fun v23 =>
         (dh s v23).bind fun v24 =>
         some (.inl (v24==45)))))
       (fun (s161:Bool) =>
        cond (s161)
         (some (.inr (.inr (.inr (false)))))
         ((some (IntKind.i64.wrap (s89+1))).bind fun v30 =>
         some (.inl v30))) some)) some)
   (fun (s147:Int) =>
    (some (IntKind.i64.wrap (s89+1))).bind fun v50 =>
    some (.inl (s147,v50))) some)
  (some (.inr (.inl ()))))
theorem Ie {R:Type} (s:Ll) (f i:Nat) (cur:List Int) (hi:i≤s.size) (hs:s.size<4611686018427387904) (hl:f+cur.length=i) (hc:∀ j,j<cur.length→(ao s).getD (f+j) 0=cur.getD j 0) (A:Option (R⊕((Int×Int)⊕(Unit⊕Bool)))) (B:Option (R⊕((Int×Int)⊕(Unit⊕Bool)))) :
  (aF (S:=Bool) (A:=(R⊕((Int×Int)⊕((Unit)⊕Bool))))
     ((some (IntKind.i64.wrap ((i:Int)-(f:Int)))).bind fun v20 =>
     (bF v20 1 63).bind fun v21 =>
     cond ((!v21))
      (some (.inl true))
      ((dh s (f:Int)).bind fun v22 =>
      cond ((v22==45))
       (some (.inl true))
       ((some (IntKind.i64.wrap ((i:Int)-1))).bind fun v23 =>
       (dh s v23).bind fun v24 =>
       some (.inl (v24==45)))))
     (fun (s161:Bool) =>
      cond (s161) A B) some)=cond (vB cur) B A:=by
 have w:some (IntKind.i64.wrap ((i:Int)-(f:Int)))=some (cur.length:Int):=by rw [gZ (by omega) (by omega)]; congr 1; omega
 have hin:=yT (cur.length:Int) 1 63
 unfold vB
 by_cases h1:1≤cur.length
 ·by_cases h2:cur.length≤63
  ·rw [decide_eq_true (by omega),decide_eq_true (by omega)] at hin
   rw [decide_eq_true h1,decide_eq_true h2]
   have c0:=jU (s:=s) (i:=f) (by omega)
   have e0:=hc 0 (by omega)
   rw [Nat.add_zero] at e0
   rw [e0] at c0
   have c1:=jU (s:=s) (i:=i-1) (by omega)
   have e1:=hc (cur.length-1) (by omega)
   rw [show f+(cur.length-1)=i-1 by omega] at e1
   rw [e1,show ((i-1:Nat):Int)=(i:Int)-1 by omega] at c1
   by_cases h3:cur.getD 0 0=45
   ·refine aI (s:=true) (ar w (ar hin (ak rfl (ar c0 (ap (by rw [h3]; rfl) rfl))))) ?_
    rw [h3]; rfl
   ·have x3:(cur.getD 0 0==45)=false:=by simpa using h3
    have y3:(cur.getD 0 0 != 45)=true:=by simpa using h3
    refine aI (s:=(cur.getD (cur.length-1) 0==45)) (ar w (ar hin (ak rfl (ar c0 (ak x3 (ar (gZ (by omega) (by omega)) (ar c1 rfl))))))) ?_
    rw [y3]
    unfold bne
    cases (cur.getD (cur.length-1) 0==45) <;> rfl
  ·rw [decide_eq_true (by omega),decide_eq_false (by omega)] at hin
   rw [decide_eq_true h1,decide_eq_false h2]
   exact aI (s:=true) (ar w (ar hin rfl)) rfl
 ·rw [decide_eq_false (by omega)] at hin
  rw [decide_eq_false h1]
  exact aI (s:=true) (ar w (ar hin rfl)) rfl
theorem pO (s:Ll) (hs:s.size<4611686018427387904):∀ (rest cur:List Int) (f i fuel:Nat),f+cur.length=i→(ao s).drop i=rest→i≤s.size→(∀ j,j<cur.length→(ao s).getD (f+j) 0=cur.getD j 0)→rest.length+1<fuel →
  aQ (px s) fuel ((f:Int),(i:Int))=some (if tk cur rest=true then .inl () else .inr false)
 | [],cur,f,i,fuel,hl,hd,hi,hc,hf=>by
  have hi2:i=s.size:=by
   have:=congrArg List.length hd
   rw [List.length_drop,aK] at this
   simp at this; omega
  obtain ⟨k,rfl⟩:∃ k,fuel=k+1+1:=⟨fuel-2,by simp at hf; omega⟩
  have hr:=Ie (R:=Int) s f i cur hi hs hl hc (some (.inr (.inr (.inr false)))) ((some (IntKind.i64.wrap ((i:Int)+1))).bind fun v30=>some (.inl v30))
  have w:some (IntKind.i64.wrap ((i:Int)+1))=some ((i+1:Nat):Int):=by rw [aW (by omega)]
  have hd0:tk cur []=vB cur:=rfl
  rw [hd0]
  cases hlab:vB cur
  ·rw [hlab,cond_false] at hr
   rw [aS (o := .inr false)]
   ·rfl
   ·unfold px
    exact ap (decide_eq_true (by omega)) (jY (a := .inr (.inr false)) (aI (s:=false) (ak (decide_eq_false (by omega)) rfl) (ak rfl hr)) rfl)
  ·rw [hlab,cond_true] at hr
   rw [bx (s':=(((i+1:Nat):Int),((i+1:Nat):Int))),aS (o := .inl ())]
   ·rfl
   ·unfold px
    exact ak (decide_eq_false (by omega)) rfl
   ·unfold px
    exact ap (decide_eq_true (by omega)) (aI (s:=((i+1:Nat):Int)) (aI (s:=false) (ak (decide_eq_false (by omega)) rfl) (ak rfl (hr.trans (ar w rfl)))) (ar w rfl))
 | x::rest,cur,f,i,fuel,hl,hd,hi,hc,hf=>by
  have hlt:i<s.size:=by
   have:=congrArg List.length hd
   rw [List.length_drop,aK] at this
   simp at this; omega
  have hx:(ao s).getD i 0=x:=by
   have:=congrArg List.head? hd
   rw [List.head?_drop] at this
   rw [List.getD_eq_getElem?_getD,this]; rfl
  have hd2:(ao s).drop (i+1)=rest:=by
   rw [← List.drop_drop,hd]; rfl
  obtain ⟨k,rfl⟩:∃ k,fuel=k+1:=⟨fuel-1,by omega⟩
  have hchr:=jU hlt
  rw [hx] at hchr
  have w:some (IntKind.i64.wrap ((i:Int)+1))=some ((i+1:Nat):Int):=by rw [aW (by omega)]
  have lt:decide ((i:Int)≤(s.size:Int))=true:=decide_eq_true (by omega)
  have lt2:decide ((i:Int)<(s.size:Int))=true:=decide_eq_true (by omega)
  unfold tk
  by_cases h46:x=46
  ·rw [if_pos h46]
   have hr:=Ie (R:=Int) s f i cur hi hs hl hc (some (.inr (.inr (.inr false)))) ((some (IntKind.i64.wrap ((i:Int)+1))).bind fun v30=>some (.inl v30))
   cases hlab:vB cur
   ·rw [hlab,cond_false] at hr
    rw [aS (o := .inr false)]
    ·rfl
    ·unfold px
     exact ap lt (jY (a := .inr (.inr false)) (aI (s:=false) (ap lt2 (ar hchr (by rw [h46]; rfl))) (ak rfl hr)) rfl)
   ·rw [hlab,cond_true] at hr
    rw [bx (s':=(((i+1:Nat):Int),((i+1:Nat):Int)))]
    ·rw [Bool.true_and]
     exact pO s hs rest [] (i+1) (i+1) k (by simp) hd2 (by omega) (by simp) (by simp at hf; omega)
    ·unfold px
     exact ap lt (aI (s:=((i+1:Nat):Int)) (aI (s:=false) (ap lt2 (ar hchr (by rw [h46]; rfl))) (ak rfl (hr.trans (ar w rfl)))) (ar w rfl))
  ·rw [if_neg h46]
   have hx46:(x != 46)=true:=by simpa using h46
   have hlb:=If x
   have hin:((dh s (i:Int)).bind fun v10 =>
       (cJ v10).bind fun v11 =>
       cond ((!v11))
        ((dh s (i:Int)).bind fun v12 =>
        (cx v12).bind fun v13 =>
        cond ((!v13))
         ((dh s (i:Int)).bind fun v14 =>
         some (Sum.inl (β:=(Int⊕((Int×Int)⊕((Unit)⊕Bool)))) (v14 != 45)))
         (some (.inl false)))
        (some (.inl false)))=some (.inl (!yr x)):=by
    rw [hlb]
    refine ar hchr (ar (DV x) ?_)
    cases CS x
    ·refine ap rfl (ar hchr (ar (xB x) ?_))
     cases yA x
     ·exact ap rfl (ar hchr rfl)
     ·rfl
    ·rfl
   cases hl1:yr x
   ·rw [hl1] at hin
    rw [aS (o := .inr false)]
    ·rfl
    ·unfold px
     exact ap lt (jY (a := .inr (.inr false)) (aI (s:=true) (ap lt2 (ar hchr (by rw [hx46]))) (ap rfl (aI (s:=true) hin rfl))) rfl)
   ·rw [hl1] at hin
    rw [bx (s':=((f:Int),((i+1:Nat):Int)))]
    ·rw [Bool.true_and]
     refine pO s hs rest (cur++[x]) f (i+1) k (by simp; omega) hd2 (by omega) (fun j hj => ?_) (by simp at hf; omega)
     simp at hj
     by_cases hj2:j<cur.length
     ·rw [hc j hj2,List.getD_eq_getElem?_getD,List.getD_eq_getElem?_getD,List.getElem?_append_left hj2]
     ·have hj3:j=cur.length:=by omega
      subst hj3
      rw [hl,hx]
      simp
    ·unfold px
     exact ap lt (aI (s:=(f:Int)) (aI (s:=true) (ap lt2 (ar hchr (by rw [hx46]))) (ap rfl (aI (s:=false) hin rfl))) (ar w rfl))
theorem Fg (s:Ll):eN s=some (qw (ao s)):=by
 unfold eN qw
 rw [aK]
 have hin:=yT (s.size:Int) 1 255
 by_cases h:1≤s.size∧s.size≤255
 ·rw [decide_eq_true (by omega),decide_eq_true (by omega)] at hin
  refine ar hin (ak rfl ?_)
  rw [decide_eq_true h.2,Bool.true_and,Ht]
  have:=pO s (by omega) (ao s) [] 0 0 bU rfl rfl (by omega) (by simp) (by rw [aK]; unfold bU; omega)
  change aF (aQ (px s) bU ((0:Nat),(0:Nat))) _ _=_
  rw [this]
  cases tk [] (ao s) <;> rfl
 ·have hn:(decide ((1:Int)≤(s.size:Int))&&decide ((s.size:Int)≤255))=false:=by
   by_cases h1:1≤s.size
   ·rw [decide_eq_true (by omega),decide_eq_false (by omega)]; rfl
   ·rw [decide_eq_false (by omega)]; rfl
  rw [hn] at hin
  refine ar hin (ap rfl ?_)
  by_cases h1:1≤s.size
  ·rw [decide_eq_false (by omega)]; rfl
  ·have:ao s=[]:=List.eq_nil_of_length_eq_zero (by rw [aK]; omega)
   rw [this]
   simp [eW,qQ]
theorem zW:(List.range 256).all (fun k=>decide (dQ ((k:Nat):Int)=some (Bp ((k:Nat):Int))))=true:=by kernel_rfl
theorem Fs {c:Int} (hc:0≤c∧c<256):dQ c=some (Bp c):=by
 simpa using uK (fun c=>decide (dQ c=some (Bp c))) zW hc
def pg (p x:Int):Bool:=if x=46 then decide (p≠46) else Bp x
def uo (p:Int) (l:List Int):Bool:=rW pg p l&&decide ((p::l).getLast? ≠ some 46)
theorem sa:∀ (l:List Int) (p:Int),uo p l=match eW 46 l with
  | []=>true
  | a::ps=>(if p=46 then mN a else a.all Bp)&&ps.all mN
 | [],p=>by
  unfold uo
  simp only [rW,eW,Bool.true_and,List.getLast?_singleton,List.all_nil,Bool.and_true]
  by_cases h:p=46
  ·simp [h,mN]
  ·simp [h]
 | x::r,p=>by
  have ih:=sa r x
  have hne:=jf 46 r
  unfold eW
  have e:uo p (x::r)=(pg p x&&uo x r):=by
   unfold uo
   simp only [rW,List.getLast?_cons_cons,Bool.and_assoc]
  rw [e,ih]
  cases hs:eW 46 r with
  | nil=>exact absurd hs hne
  | cons a ps =>
   by_cases hx:x=46
   ·subst hx
    simp only [pg,if_true,List.all_cons]
    by_cases hp:p=46
    ·subst hp; simp [mN]
    ·simp [hp]
   ·simp only [pg,if_neg hx,List.all_cons]
    by_cases hp:p=46
    ·subst hp; simp [mN,Bool.and_assoc]
    ·simp [hp,Bool.and_assoc]
theorem EP (l:List Int) (hne:l≠[]) (h46:l.head? ≠ some 46) (hl:l.getLast? ≠ some 46):(eW 46 l).all mN=rW pg 0 l:=by
 have h:=sa l 46
 have e1:uo 46 l=rW pg 0 l:=by
  cases l with
  | nil=>exact absurd rfl hne
  | cons x r =>
   have hx:x≠46:=by simpa using h46
   unfold uo
   simp only [rW,List.getLast?_cons_cons,pg,if_neg hx]
   rw [decide_eq_true hl,Bool.and_true]
 rw [← e1,h]
 cases hs:eW 46 l with
 | nil=>exact absurd hs (jf 46 l)
 | cons a ps=>simp
theorem Bl {l:List Int} (h:l.head? = some 46):(eW 46 l).all mN=false:=by
 cases l with
 | nil=>simp at h
 | cons x r=>simp at h; subst h; simp [eW,mN]
theorem CO {l:List Int} (h:l.getLast? = some 46):(eW 46 l).all mN=false:=by
 have h2:=sa l 46
 have e:(eW 46 l).all mN=uo 46 l:=by
  rw [h2]
  cases hs:eW 46 l with
  | nil=>exact absurd hs (jf 46 l)
  | cons a ps=>simp
 rw [e]
 unfold uo
 cases l with
 | nil=>simp at h
 | cons x r=>rw [List.getLast?_cons_cons,h]; simp
theorem Ez (s:Ll):fj s=some (nZ (ao s)):=by
 unfold fj nZ
 rw [aK]
 by_cases h:1≤s.size∧s.size≤64
 ·have hn:(decide ((1:Int)≤(s.size:Int))&&decide ((s.size:Int)≤64))=true:=by rw [decide_eq_true (by omega),decide_eq_true (by omega)]; rfl
  have hin:=yT (s.size:Int) 1 64
  rw [hn] at hin
  have hne:ao s≠[]:=by intro e; have:=aK s; rw [e] at this; simp at this; omega
  have hh:=kW hne
  have hg:=nm hne
  rw [aK] at hg
  have c0:=jU (s:=s) (i:=0) (by omega)
  have c1:=jU (s:=s) (i:=s.size-1) (by omega)
  have e1:((s.size-1:Nat):Int)=(s.size:Int)-1:=by omega
  rw [e1] at c1
  rw [decide_eq_true h.2,Bool.true_and]
  by_cases h0:(ao s).getD 0 0=46
  ·rw [h0] at hh c0
   rw [Bl hh]
   exact aI (s:=true) (ar hin (ak rfl (ar c0 (ap rfl rfl)))) rfl
  ·by_cases hl:(ao s).getD (s.size-1) 0=46
   ·rw [hl] at hg c1
    rw [CO hg]
    exact aI (s:=true) (ar hin (ak rfl (ar c0 (ak (by simpa using h0) (ar (gZ (by omega) (by omega)) (ar c1 rfl)))))) rfl
   ·rw [EP _ hne (by rw [hh]; simpa using h0) (by rw [hg]; simpa using hl)]
    refine aI (s:=false) (ar hin (ak rfl (ar c0 (ak (by simpa using h0) (ar (gZ (by omega) (by omega)) (ar c1 (by rw [show ((ao s).getD (s.size-1) 0==46)=false by simpa using hl])))))) ) (ak rfl ?_)
    let q:Nat→Bool:=fun i=>pg ((0::ao s).getD i 0) ((ao s).getD i 0)
    have hl2:=fun (g:Int→Option (Int⊕(Unit⊕Bool)))=>gL (R:=Bool) (f:=g) q s.size false (fuel:=bU) (by unfold bU; omega)
    have hiff:=wB pg (ao s) 0
    rw [aK] at hiff
    have prev:∀ i,i<s.size→(ao s).getD i 0=46→dh s ((i:Int)-1)=some ((0::ao s).getD i 0):=by
     intro i hi h46
     cases i with
     | zero=>exact absurd h46 h0
     | succ i =>
      have:=jU (s:=s) (i:=i) (by omega)
      have e:((i+1:Nat):Int)-1=(i:Int):=by omega
      rw [e,this]; rfl
    rw [show rW pg 0 (ao s)=decide (∀ i,i<s.size→q i=true) by rw [Bool.eq_iff_iff,decide_eq_true_eq]; exact hiff.symm]
    refine (congrArg (fun m=>aF m _ _) (hl2 _ ?_ ?_ ?_)).trans ?_
    ·intro i hi hq
     have w:some (IntKind.i64.wrap ((i:Int)-1))=some ((i:Int)-1):=gZ (by omega) (by omega)
     have w2:some (IntKind.i64.wrap ((i:Int)+1))=some ((i+1:Nat):Int):=by rw [aW (by omega)]
     refine ap (decide_eq_true (by omega)) (aI (s:=false) (ar (jU hi) ?_) (ak rfl (ar w2 rfl)))
     by_cases h46:(ao s).getD i 0=46
     ·refine ap (by rw [h46]; rfl) (ar w (ar (prev i hi h46) ?_))
      have hp:(0::ao s).getD i 0≠46:=by
       simp only [q,pg,if_pos h46,decide_eq_true_eq] at hq
       exact hq
      exact ak (by simpa using hp) (ar (jU hi) (ak (by rw [h46]; rfl) rfl))
     ·refine ak (by simpa using h46) (ar (jU hi) (ap (by simpa using h46) (ar (jU hi) (ar (Fs (nj s hi)) ?_))))
      simp only [q,pg,if_neg h46] at hq
      rw [hq]; rfl
    ·intro i hi hq
     have w:some (IntKind.i64.wrap ((i:Int)-1))=some ((i:Int)-1):=gZ (by omega) (by omega)
     refine ap (decide_eq_true (by omega)) (aI (s:=true) (ar (jU hi) ?_) (ap rfl rfl))
     by_cases h46:(ao s).getD i 0=46
     ·refine ap (by rw [h46]; rfl) (ar w (ar (prev i hi h46) ?_))
      have hp:(0::ao s).getD i 0=46:=by
       simp only [q,pg,if_pos h46,decide_eq_false_iff_not,ne_eq] at hq
       exact Decidable.not_not.1 hq
      exact ap (by rw [hp]; rfl) rfl
     ·refine ak (by simpa using h46) (ar (jU hi) (ap (by simpa using h46) (ar (jU hi) (ar (Fs (nj s hi)) ?_))))
      simp only [q,pg,if_neg h46] at hq
      rw [hq]; rfl
    ·exact ak (decide_eq_false (by omega)) rfl
    ·by_cases hall:∀ i,i<s.size→q i=true
     ·rw [if_pos hall,decide_eq_true hall]; rfl
     ·rw [if_neg hall,decide_eq_false hall]; rfl
 ·have hn:(decide ((1:Int)≤(s.size:Int))&&decide ((s.size:Int)≤64))=false:=by
   by_cases h1:1≤s.size
   ·rw [decide_eq_true (by omega),decide_eq_false (by omega)]; rfl
   ·rw [decide_eq_false (by omega)]; rfl
  have hin:=yT (s.size:Int) 1 64
  rw [hn] at hin
  refine aI (s:=true) (ar hin rfl) (ap rfl ?_)
  by_cases h1:1≤s.size
  ·rw [decide_eq_false (by omega)]; rfl
  ·have:ao s=[]:=List.eq_nil_of_length_eq_zero (by rw [aK]; omega)
   rw [this]
   simp [eW,mN]
theorem kt (p:aj):cP p=some (eD p):=by
 unfold cP eD
 rw [Ft,Ft]
 cases hn:p.Lh
 ·refine ak rfl (aI (s:=nZ (ao p.Lf)&&qw (ao p.Lc)) (ar (Ez p.Lf) ?_) rfl)
  cases nZ (ao p.Lf)
  ·rfl
  ·exact ap rfl (ar (Fg p.Lc) rfl)
 ·refine ap rfl (aI (s:=(ao p.Lf).isEmpty&&(ao p.Lc).isEmpty) ?_ rfl)
  cases (ao p.Lf).isEmpty <;> rfl
theorem Br (p:aj) (h:Small p):cE p=some (aL (fm p)):=by
 unfold cE fm
 cases hn:p.Lh
 ·exact ak rfl (HK p h _ _ rfl)
 ·exact ap rfl rfl
def Du:Int→List Int→Prop
 | _,[]=>True
 | p,x::l=>(x=13→l.head? = some 10)∧(x=10→p=13)∧Du x l
theorem wV:∀ (b:List Int) (p:Int),Du p b→p≠13→b.getLast? = some 10→∃ l r,b=l++13::10::r∧oO l∧Du 10 r∧(r=[]∨r.getLast? = some 10)
 | [],p,_,_,h=>by simp at h
 | x::t,p,h,hp,hl=>by
  obtain ⟨h1,h2,h3⟩:=h
  by_cases hx:x=13
  ·subst hx
   cases t with
   | nil=>simp at hl
   | cons y r =>
    have hy:=h1 rfl
    simp at hy
    subst hy
    refine ⟨[],r,rfl,fun z hz=>by simp at hz,h3.2.2,?_⟩
    cases r with
    | nil=>exact .inl rfl
    | cons z r=>right; rw [List.getLast?_cons_cons,List.getLast?_cons_cons] at hl; exact hl
  ·have hx2:x≠10:=fun e=>hp (h2 e)
   cases t with
   | nil=>simp at hl; exact absurd hl hx2
   | cons y t =>
    rw [List.getLast?_cons_cons] at hl
    obtain ⟨l,r,e,hc,ho,hr⟩:=wV (y::t) x h3 hx hl
    refine ⟨x::l,r,by rw [e]; rfl,fun z hz => ?_,ho,hr⟩
    rcases List.mem_cons.1 hz with rfl | hz
    ·exact ⟨hx,hx2⟩
    ·exact hc z hz
theorem tv:∀ (n:Nat) (b:List Int) (p:Int),b.length≤n→Du p b→p≠13→(b=[]∨b.getLast? = some 10)→∃ ls,(∀ l∈ls,oO l)∧b=jn ls
 | 0,b,p,hn,_,_,_=>⟨[],fun l hl=>by simp at hl,by cases b with | nil=>rfl | cons=>simp at hn⟩
 | n+1,b,p,hn,ho,hp,hl=>by
  rcases hl with rfl | hl
  ·exact ⟨[],fun l hl=>by simp at hl,rfl⟩
  ·obtain ⟨l,r,e,hc,ho2,hr⟩:=wV b p ho hp hl
   obtain ⟨ls,h1,h2⟩:=tv n r 10 (by rw [e] at hn; simp at hn; omega) ho2 (by decide) hr
   refine ⟨l::ls,fun m hm => ?_,by rw [e,h2]; rfl⟩
   rcases List.mem_cons.1 hm with rfl | hm
   ·exact hc
   ·exact h1 m hm
def xt (b:List Int) (i:Nat):Bool:=if b[i]? = some 13 then decide (b[i+1]? ≠ some 10) else if b[i]? = some 10 then decide (i=0∨b[i-1]? ≠ some 13) else false
theorem BO:∀ (b:List Int) (p:Int),(∀ i,i<b.length→(b[i]? = some 13→b[i+1]? = some 10)∧(b[i]? = some 10→(if i=0 then some p else b[i-1]?)=some 13))→Du p b
 | [],_,_=>trivial
 | x::l,p,h=>by
  refine ⟨fun e => ?_,fun e => ?_,BO l x fun i hi => ?_⟩
  ·have:=(h 0 (by simp)).1 (by simp [e])
   cases l with
   | nil=>simp at this
   | cons y l=>simpa using this
  ·have:=(h 0 (by simp)).2 (by simp [e])
   simpa using this
  ·have:=h (i+1) (by simp; omega)
   refine ⟨fun e=>by simpa using this.1 (by simpa using e),fun e => ?_⟩
   have h2:=this.2 (by simpa using e)
   rw [if_neg (by omega)] at h2
   cases i with
   | zero=>simpa using h2
   | succ i=>simpa using h2
theorem GZ {b:List Int} (h:∀ i,i<b.length→(!xt b i)=true):Du 0 b:=by
 refine BO b 0 fun i hi => ?_
 have h1:=h i hi
 simp only [xt,Bool.not_eq_true'] at h1
 refine ⟨fun e => ?_,fun e => ?_⟩
 ·rw [if_pos e,decide_eq_false_iff_not,Classical.not_not] at h1; exact h1
 ·rw [e] at h1
  rw [if_neg (by simp),if_pos rfl,decide_eq_false_iff_not,not_or,Classical.not_not] at h1
  rw [if_neg h1.1]; exact h1.2
theorem pQ {b:List Int} {i:Nat} (h:i<b.length):b[i]? = some b[i]:=List.getElem?_eq_getElem h
theorem nq (b:List Int) {i:Nat} (hi:i<b.length) (hl:b.length<4611686018427387904) :
  ((cj (i:Int) b.length).bind fun v2 =>
     (aN b v2).bind fun v3 =>
     cond ((v3==13))
      ((some (IntKind.i64.wrap ((i:Int)+1))).bind fun v4 =>
      cond ((decide ((b.length:Int)≤v4)))
       (some (.inl true))
       ((some (IntKind.i64.wrap ((i:Int)+1))).bind fun v5 =>
       (cj v5 b.length).bind fun v6 =>
       (aN b v6).bind fun v7 =>
       cond ((v7 != 10))
        (some (.inl true))
        ((cj (i:Int) b.length).bind fun v8 =>
        (aN b v8).bind fun v9 =>
        cond ((v9==10))
         (cond (((i:Int)==0))
          (some (.inl true))
          ((some (IntKind.i64.wrap ((i:Int)-1))).bind fun v10 =>
          (cj v10 b.length).bind fun v11 =>
          (aN b v11).bind fun v12 =>
          some (.inl (v12 != 13))))
         (some (.inl false)))))
      ((cj (i:Int) b.length).bind fun v13 =>
      (aN b v13).bind fun v14 =>
      cond ((v14==10))
       (cond (((i:Int)==0))
        (some (.inl true))
        ((some (IntKind.i64.wrap ((i:Int)-1))).bind fun v15 =>
        (cj v15 b.length).bind fun v16 =>
        (aN b v16).bind fun v17 =>
        some (.inl (v17 != 13))))
       (some (.inl false))):Option (Bool⊕((Int)⊕((Unit)⊕Bool))))=some (.inl (xt b i)):=by
 have e0:some (IntKind.i64.wrap ((i:Int)+1))=some ((i+1:Nat):Int):=by rw [cL (by omega) (by omega)]; simp
 refine ar (bi hi) (ar (cv hi) ?_)
 by_cases h13:b[i]=13
 ·refine ap (by rw [h13]; rfl) (ar e0 ?_)
  unfold xt
  rw [pQ hi,if_pos (by rw [h13])]
  by_cases hn:i+1<b.length
  ·refine ak (decide_eq_false (by omega)) (ar e0 (ar (bi hn) (ar (cv hn) ?_)))
   rw [pQ hn]
   by_cases h10:b[i+1]=10
   ·refine ak (by rw [h10]; rfl) (ar (bi hi) (ar (cv hi) (ak (by rw [h13]; rfl) ?_)))
    simp [h10]
   ·refine ap (by simpa using h10) ?_
    simp [h10]
  ·refine ap (decide_eq_true (by omega)) ?_
   rw [List.getElem?_eq_none (by omega)]; rfl
 ·refine ak (by simpa using h13) (ar (bi hi) (ar (cv hi) ?_))
  unfold xt
  rw [pQ hi,if_neg (by simpa using h13)]
  by_cases h10:b[i]=10
  ·refine ap (by rw [h10]; rfl) ?_
   rw [if_pos (by rw [h10])]
   cases i with
   | zero=>rfl
   | succ i =>
    refine ak (by rw [beq_eq_false_iff_ne]; omega) (ar (x:=((i:Nat):Int)) (by rw [cL (by omega) (by omega)]; simp) (ar (bi (by omega)) (ar (cv (by omega)) ?_)))
    rw [show i+1-1=i by omega,pQ (by omega)]
    congr 2
    rw [Bool.eq_iff_iff,bne_iff_ne,decide_eq_true_eq]
    simp
  ·refine ak (by simpa using h10) ?_
   rw [if_neg (by simpa using h10)]
theorem wc (b:List Int) (hb:bJ b) (hl:b.length<4294967281):bI b=some false∨(bI b=some true∧∃ ls,(∀ l∈ls,oO l)∧(∀ l∈ls,bJ l)∧b=jn ls):=by
 have hloop:=gL (R:=Bool) (f:=fun (s31:Int)=>cond ((decide (s31<(b.length:Int))))
    (aF (S:=Bool) (A:=((Int)⊕((Unit)⊕Bool)))
     ((cj s31 b.length).bind fun v2 =>
     (aN b v2).bind fun v3 =>
     cond ((v3==13))
      ((some (IntKind.i64.wrap (s31+1))).bind fun v4 =>
      cond ((decide ((b.length:Int)≤v4)))
       (some (.inl true))
       ((some (IntKind.i64.wrap (s31+1))).bind fun v5 =>
       (cj v5 b.length).bind fun v6 =>
       (aN b v6).bind fun v7 =>
       cond ((v7 != 10))
        (some (.inl true))
        ((cj s31 b.length).bind fun v8 =>
        (aN b v8).bind fun v9 =>
        cond ((v9==10))
         (cond ((s31==0))
          (some (.inl true))
          ((some (IntKind.i64.wrap (s31-1))).bind fun v10 =>
          (cj v10 b.length).bind fun v11 =>
          (aN b v11).bind fun v12 =>
          some (.inl (v12 != 13))))
         (some (.inl false)))))
      ((cj s31 b.length).bind fun v13 =>
      (aN b v13).bind fun v14 =>
      cond ((v14==10))
       (cond ((s31==0))
        (some (.inl true))
        ((some (IntKind.i64.wrap (s31-1))).bind fun v15 =>
        (cj v15 b.length).bind fun v16 =>
        (aN b v16).bind fun v17 =>
        some (.inl (v17 != 13))))
       (some (.inl false))))
     (fun (s45:Bool) =>
      cond (s45)
       (some (.inr (.inr (false))))
       ((some (IntKind.i64.wrap (s31+1))).bind fun v23 =>
       some (.inl v23))) some)
    (some (.inr (.inl ())))) (fun i => !xt b i) b.length false (fuel:=bU) (by unfold bU; omega)
  (fun i hi hp=>ap (decide_eq_true (by omega)) (aI (s:=xt b i) (nq b hi (by omega)) (ak (by simpa using hp) (ar (nr (by omega) (by omega)) rfl))))
  (fun i hi hp=>ap (decide_eq_true (by omega)) (aI (s:=xt b i) (nq b hi (by omega)) (ap (by simpa using hp) rfl)))
  (ak (decide_eq_false (by omega)) rfl)
 by_cases hall:∀ i,i<b.length→(!xt b i)=true
 ·rw [if_pos hall] at hloop
  have ho:=GZ hall
  cases hbn:b with
  | nil=>right; subst hbn; exact ⟨rfl,[],fun l hl=>by simp at hl,fun l hl=>by simp at hl,rfl⟩
  | cons y t =>
   rw [← hbn]
   have hpos:0<b.length:=by rw [hbn]; simp
   have hlast:b.getLast? = some (b[b.length-1]'(by omega)):=by rw [List.getLast?_eq_getElem?,pQ (by omega)]
   have key:bI b=some (b[b.length-1]'(by omega)==10):=by
    unfold bI
    refine aI (s:=()) hloop (aI (s:=(b[b.length-1]'(by omega)==10)) (ak (by rw [beq_eq_false_iff_ne]; omega) (ar (x:=((b.length-1:Nat):Int)) (by rw [cL (by omega) (by omega)]; congr 1; omega) (ar (bi (by omega)) (ar (cv (by omega)) rfl)))) rfl)
   by_cases h10:b[b.length-1]'(by omega)=10
   ·right
    rw [key,h10]
    obtain ⟨ls,h1,h2⟩:=tv b.length b 0 (Nat.le_refl _) ho (by decide) (.inr (by rw [hlast,h10]))
    exact ⟨rfl,ls,h1,Gg (by rw [← h2]; exact hb),h2⟩
   ·left
    rw [key,beq_eq_false_iff_ne.2 h10]
 ·rw [if_neg hall] at hloop
  left
  unfold bI
  exact jY (a:=false) hloop rfl
theorem Ew:∀ (k n:Nat) (acc:List Int) (fuel:Nat),n<10 ^ (k+1)→n<9000000000000000000→k<fuel→bJ acc→acc.length+k<1000 →
  aF (S:=(Int×Ll)) (A:=Ll)
 (aQ (S:=(Int×Ll)) (O:=(Int×Ll)⊕Ll) (fun ((s11,s12):Int×Ll) =>
  cond ((decide (9<s11)))
   ((ny s11 10).bind fun v2 =>
   (ny s11 10).bind fun v3 =>
   (some (IntKind.i64.wrap (v3+1))).bind fun v4 =>
   (fI (⟨#[48,49,50,51,52,53,54,55,56,57]⟩:Ll) v2 v4).bind fun v5 =>
   (bN v5 s12).bind fun v6 =>
   (uI .i64 s11 10).bind fun v7 =>
   some (.inl (v7,v6)))
   (some (.inr (.inl (s11,s12)))))
  fuel ((n:Int),aL acc))
 (fun ((s14,s15):Int×Ll) =>
  (some (IntKind.i64.wrap (s14+1))).bind fun v23 =>
  (fI (⟨#[48,49,50,51,52,53,54,55,56,57]⟩:Ll) s14 v23).bind fun v24 =>
  (bN v24 s15).bind fun v25 =>
  some (v25)) some=some (aL (kO k n acc)):=by
 intro k
 induction k with
 | zero =>
  intro n acc fuel hn _ hf hb hl
  cases fuel with
  | zero=>omega
  | succ fuel =>
   have h9:n≤9:=by simp at hn; omega
   unfold kO
   exact aI (aS (ak (decide_eq_false (by omega)) rfl)) (ar (by rw [aW (by omega)]) (ar (uv (by omega)) (ar (oM (aH (BH h9)) (aH hb) (by simp; omega)) rfl)))
 | succ k ih =>
  intro n acc fuel hn hbig hf hb hl
  cases fuel with
  | zero=>omega
  | succ fuel =>
   by_cases h9:n≤9
   ·unfold kO
    rw [if_pos h9]
    exact aI (aS (ak (decide_eq_false (by omega)) rfl)) (ar (by rw [aW (by omega)]) (ar (uv (by omega)) (ar (oM (aH (BH h9)) (aH hb) (by simp; omega)) rfl)))
   ·have hd:bJ [48+((n % 10:Nat):Int)]:=df (by omega) dv
    have hr:ny (n:Int) 10=some ((n % 10:Nat):Int):=uX n 10 (by decide)
    have hq:uI .i64 (n:Int) 10=some ((n / 10:Nat):Int):=DH n 10 (by decide) (by omega)
    have hn2:n / 10<10 ^ (k+1):=by rw [Nat.pow_succ] at hn; omega
    have hih:=ih (n / 10) ((48+((n % 10:Nat):Int))::acc) fuel hn2 (by omega) (by omega) (df (by omega) hb) (by simp; omega)
    have e:kO (k+1) n acc=kO k (n / 10) ((48+((n % 10:Nat):Int))::acc):=by rw [kO,if_neg h9]
    rw [e,← hih]
    congr 1
    exact bx (ap (decide_eq_true (by omega)) (ar hr (ar hr (ar (by rw [aW (by omega)]) (ar (uv (by omega)) (ar (oM (aH hd) (aH hb) (by simp; omega)) (ar hq rfl)))))))
theorem EA (k n:Nat) (h:n<10 ^ (k+1)) (h2:n<9000000000000000000) (hk:k<900):aG (n:Int)=some (aL (kO k n [])) :=
 Ew k n [] bU h h2 (by unfold bU; omega) dv (by simpa using by omega)
set_option maxRecDepth 100000
def Ku (m:ae):((Int))→Option ((Int)⊕((Unit)⊕Bool)):=(fun (s28:Int) =>
 cond ((decide (s28<(m.To.length:Int))))
  (aF (S:=Bool) (A:=((Int)⊕((Unit)⊕Bool)))
   ((cj s28 m.To.length).bind fun v10 =>
   (aN m.To v10).bind fun v11 =>
   (cP v11).bind fun v12 =>
   cond ((!v12))
    (some (.inl true))
    ((cj s28 m.To.length).bind fun v13 =>
    (aN m.To v13).bind fun v14 =>
    some (.inl v14.Lh)))
   (fun (s42:Bool) =>
    cond (s42)
     (some (.inr (.inr (false))))
     ((some (IntKind.i64.wrap (s28+1))).bind fun v20 =>
     some (.inl v20))) some)
  (some (.inr (.inl ()))))
def Kx (b:az):((Int))→Option ((Int)⊕((Unit)⊕Bool)):=(fun (s26:Int) =>
 cond ((decide (s26<(b.Lg.length:Int))))
  ((cj s26 b.Lg.length).bind fun v10 =>
  (aN b.Lg v10).bind fun v11 =>
  aF (S:=Bool) (A:=((Int)⊕((Unit)⊕Bool)))
   ((cT ((ae.mk (aj.mk v11.Ld.Lh v11.Ld.Lf v11.Ld.Lc) v11.To v11.Lb v11.Lk v11.Le v11.At))).bind fun v12 =>
   cond ((!v12))
    (some (.inl true))
    (cond (v11.Lk)
     (some (.inl true))
     (cond ((!(v11.Le.toList==(⟨#[]⟩:Ll).toList)))
      (some (.inl true))
      (some (.inl (v11.At != 0))))))
   (fun (s40:Bool) =>
    cond (s40)
     (some (.inr (.inr (false))))
     ((some (IntKind.i64.wrap (s26+1))).bind fun v18 =>
     some (.inl v18))) some)
  (some (.inr (.inl ()))))
def KY (b:List Int):(((List Int)×Int))→Option (((List Int)×Int)⊕(((List Int))⊕(List Int))):=(fun ((s43,s44):(List Int)×Int) =>
 cond ((decide (s44<(b.length:Int))))
  (aF (S:=(List Int)) (A:=(((List Int)×Int)⊕(((List Int))⊕(List Int))))
   (aF (S:=Bool) (A:=(((List Int))⊕(((List Int)×Int)⊕(((List Int))⊕(List Int)))))
    ((cj s44 b.length).bind fun v2 =>
    (aN b v2).bind fun v3 =>
    cond ((v3==46))
     (cond ((s44==0))
      (some (.inl true))
      ((some (IntKind.i64.wrap (s44-1))).bind fun v4 =>
      (cj v4 b.length).bind fun v5 =>
      (aN b v5).bind fun v6 =>
      some (.inl (v6==10))))
     (some (.inl false)))
    (fun (s77:Bool) =>
     cond (s77)
      ((co 1 s43 [46]).bind fun v12 =>
      some (.inl v12))
      (some (.inl s43))) some)
   (fun (s73:(List Int)) =>
    (cj s44 b.length).bind fun v22 =>
    (aN b v22).bind fun v23 =>
    (co 1 s73 [v23]).bind fun v24 =>
    (some (IntKind.i64.wrap (s44+1))).bind fun v25 =>
    some (.inl (v24,v25))) some)
  (some (.inr (.inl s43))))
def KN (b:az):(((List Int)×Int))→Option (((List Int)×Int)⊕(((List Int))⊕(List Int))):=(fun ((s52,s53):(List Int)×Int) =>
 cond ((decide (s53<(b.Lg.length:Int))))
  ((cj s53 b.Lg.length).bind fun v2 =>
  (aN b.Lg v2).bind fun v3 =>
  (cE (aj.mk v3.Ld.Lh v3.Ld.Lf v3.Ld.Lc)).bind fun v4 =>
  (bN (⟨#[77,65,73,76,32,70,82,79,77,58]⟩:Ll) v4).bind fun v5 =>
  (bN v5 (⟨#[13,10]⟩:Ll)).bind fun v6 =>
  (co 1 s52 (ao v6)).bind fun v7 =>
  aF (S:=((List Int))) (A:=(((List Int)×Int)⊕(((List Int))⊕(List Int))))
   (aQ (S:=((List Int)×Int)) (O:=((List Int))⊕(((List Int)×Int)⊕(((List Int))⊕(List Int)))) (fun ((s82,s83):(List Int)×Int) =>
    cond ((decide (s83<(v3.To.length:Int))))
     ((cj s83 v3.To.length).bind fun v9 =>
     (aN v3.To v9).bind fun v10 =>
     (cE v10).bind fun v11 =>
     (bN (⟨#[82,67,80,84,32,84,79,58]⟩:Ll) v11).bind fun v12 =>
     (bN v12 (⟨#[13,10]⟩:Ll)).bind fun v13 =>
     (co 1 s82 (ao v13)).bind fun v14 =>
     (some (IntKind.i64.wrap (s83+1))).bind fun v15 =>
     some (.inl (v14,v15)))
     (some (.inr (.inl s82))))
    bU (v7,0))
   (fun (s85:(List Int)) =>
    (co 1 s85 (ao (⟨#[68,65,84,65,13,10]⟩:Ll))).bind fun v30 =>
    (ej v3.Lb).bind fun v31 =>
    (co 1 v30 v31).bind fun v32 =>
    (some (IntKind.i64.wrap (s53+1))).bind fun v33 =>
    some (.inl (v32,v33))) some)
  (some (.inr (.inl s52))))
def KS (v3:ae):(((List Int)×Int))→Option (((List Int)×Int)⊕(((List Int))⊕(((List Int)×Int)⊕(((List Int))⊕(List Int))))):=(fun ((s82,s83):(List Int)×Int) =>
 cond ((decide (s83<(v3.To.length:Int))))
  ((cj s83 v3.To.length).bind fun v9 =>
  (aN v3.To v9).bind fun v10 =>
  (cE v10).bind fun v11 =>
  (bN (⟨#[82,67,80,84,32,84,79,58]⟩:Ll) v11).bind fun v12 =>
  (bN v12 (⟨#[13,10]⟩:Ll)).bind fun v13 =>
  (co 1 s82 (ao v13)).bind fun v14 =>
  (some (IntKind.i64.wrap (s83+1))).bind fun v15 =>
  some (.inl (v14,v15)))
  (some (.inr (.inl s82))))
def Jj (b:List Int) (divisor:Int):((Int×Int))→Option ((Int×Int)⊕((Int)⊕Int)):=(fun ((s97,s98):Int×Int) =>
 cond ((decide (s98<(b.length:Int))))
  (aF (S:=(Int)) (A:=((Int×Int)⊕((Int)⊕Int)))
   (aQ (S:=(Int×Int)) (O:=(Int)⊕((Int×Int)⊕((Int)⊕Int))) (fun ((s163,s164):Int×Int) =>
    cond ((decide (s164<8)))
     (aF (S:=Int) (A:=((Int×Int)⊕((Int)⊕((Int×Int)⊕((Int)⊕Int)))))
      ((some (bits .and .i64 s163 1)).bind fun v6 =>
      (lZ .i64 s163 1).bind fun v7 =>
      (cj s98 b.length).bind fun v8 =>
      (aN b v8).bind fun v9 =>
      (some (IntKind.u64.wrap s164)).bind fun v10 =>
      (lZ .u8 v9 v10).bind fun v11 =>
      (some (IntKind.i64.wrap v11)).bind fun v12 =>
      (some (bits .and .i64 v12 1)).bind fun v13 =>
      cond ((v6 != v13))
       ((some (bits .xor .i64 v7 divisor)).bind fun v15 =>
       some (.inl v15))
       (some (.inl v7)))
      (fun (s181:Int) =>
       (some (IntKind.i64.wrap (s164+1))).bind fun v21 =>
       some (.inl (s181,v21))) some)
     (some (.inr (.inl s163))))
    bU (s97,0))
   (fun (s172:Int) =>
    (some (IntKind.i64.wrap (s98+1))).bind fun v54 =>
    some (.inl (s172,v54))) some)
  (some (.inr (.inl s97))))
def IV (b:List Int) (divisor s98:Int):((Int×Int))→Option ((Int×Int)⊕((Int)⊕((Int×Int)⊕((Int)⊕Int)))):=(fun ((s163,s164):Int×Int) =>
 cond ((decide (s164<8)))
  (aF (S:=Int) (A:=((Int×Int)⊕((Int)⊕((Int×Int)⊕((Int)⊕Int)))))
   ((some (bits .and .i64 s163 1)).bind fun v6 =>
   (lZ .i64 s163 1).bind fun v7 =>
   (cj s98 b.length).bind fun v8 =>
   (aN b v8).bind fun v9 =>
   (some (IntKind.u64.wrap s164)).bind fun v10 =>
   (lZ .u8 v9 v10).bind fun v11 =>
   (some (IntKind.i64.wrap v11)).bind fun v12 =>
   (some (bits .and .i64 v12 1)).bind fun v13 =>
   cond ((v6 != v13))
    ((some (bits .xor .i64 v7 divisor)).bind fun v15 =>
    some (.inl v15))
    (some (.inl v7)))
   (fun (s181:Int) =>
    (some (IntKind.i64.wrap (s164+1))).bind fun v21 =>
    some (.inl (s181,v21))) some)
  (some (.inr (.inl s163))))
theorem fo (n lo hi:Int):bF n lo hi=some (decide (lo≤n)&&decide (n≤hi)):=by
 unfold bF
 by_cases h:lo≤n
 ·exact aI (s:=decide (n≤hi)) (ap (decide_eq_true h) rfl) (by rw [decide_eq_true h,Bool.true_and])
 ·exact aI (s:=false) (ak (decide_eq_false h) rfl) (by rw [decide_eq_false h,Bool.false_and])
theorem qp {m:ae} (h:LM m) (hb:bJ m.Lb):∃ c,cT m=some c∧(c=true→uP m=true):=by
 have hl:=(fA h).2.2.1
 have hT:=h.1
 unfold cT
 have e1:=kt (aj.mk m.Ld.Lh m.Ld.Lf m.Ld.Lc)
 rw [show aj.mk m.Ld.Lh m.Ld.Lf m.Ld.Lc=m.Ld from rfl] at e1 ⊢
 by_cases hF:eD m.Ld=true
 case neg=>exact ⟨false,aI (s:=true) (ar e1 (ap (by rw [Bool.eq_false_iff.2 hF]; rfl) rfl)) (ap rfl rfl),fun h=>by cases h⟩
 have nF:(!eD m.Ld)=false:=by rw [hF]; rfl
 by_cases hn:1≤m.To.length∧m.To.length≤8
 case neg =>
  refine ⟨false,aI (s:=true) (ar e1 (ak nF (ar (fo _ _ _) (ap ?_ rfl)))) (ap rfl rfl),fun h=>by cases h⟩
  rw [Bool.not_eq_true']
  rw [Bool.and_eq_false_iff]
  by_cases h1:1≤m.To.length
  ·exact .inr (decide_eq_false (by omega))
  ·exact .inl (decide_eq_false (by omega))
 have nN:(!(decide ((1:Int)≤(m.To.length:Int))&&decide ((m.To.length:Int)≤8)))=false:=by rw [decide_eq_true (by omega),decide_eq_true (by omega)]; rfl
 rcases wc m.Lb hb (by omega) with hbd | ⟨hbd,ls,a,b,c⟩
 ·exact ⟨false,aI (s:=true) (ar e1 (ak nF (ar (fo _ _ _) (ak nN (ar hbd (ap rfl rfl)))))) (ap rfl rfl),fun h=>by cases h⟩
 have hd:cM m.Lb=some 0:=by rw [c]; exact ku a b (by rw [← cu,← c]; omega)
 by_cases h4:m.Lb.length≤4096
 case neg=>exact ⟨false,aI (s:=true) (ar e1 (ak nF (ar (fo _ _ _) (ak nN (ar hbd (ak rfl (cC (decide_eq_true (by omega))))))))) (ap rfl rfl),fun h=>by cases h⟩
 have hlp:=gL (R:=Bool) (f:=Ku m) (fun i=>uQ (m.To.getD i nz)) m.To.length false (fuel:=bU) (by simp only [bU]; omega) (fun i hi hp=>by
  have hg:aN m.To i=some (m.To.getD i nz):=nO nz hi
  have hp:uQ (m.To.getD i nz)=true:=hp
  unfold uQ at hp
  rw [Bool.and_eq_true] at hp
  exact ap (decide_eq_true (by omega)) (aI (s:=false) (ar (bi hi) (ar hg (ar (kt _) (ak (by rw [hp.1]; rfl) (ar (bi hi) (ar hg (cC (by simpa using hp.2)))))))) (ak rfl (ar (congrArg some (aW (n:=i) (by omega))) rfl)))) (fun i hi hp=>by
  have hg:aN m.To i=some (m.To.getD i nz):=nO nz hi
  have hp:uQ (m.To.getD i nz)=false:=hp
  unfold uQ at hp
  by_cases h1:eD (m.To.getD i nz)=true
  ·rw [h1,Bool.true_and] at hp
   exact ap (decide_eq_true (by omega)) (aI (s:=true) (ar (bi hi) (ar hg (ar (kt _) (ak (by rw [h1]; rfl) (ar (bi hi) (ar hg (cC (by simpa using hp)))))))) (ap rfl rfl))
  ·exact ap (decide_eq_true (by omega)) (aI (s:=true) (ar (bi hi) (ar hg (ar (kt _) (ap (by rw [Bool.eq_false_iff.2 h1]; rfl) rfl)))) (ap rfl rfl))) (ak (decide_eq_false (by omega)) rfl)
 have pre:(cP m.Ld).bind (fun v1=>cond ((!v1)) (some (.inl true)) ((bF (m.To.length:Int) 1 8).bind fun v2=>cond ((!v2)) (some (.inl true)) ((bI m.Lb).bind fun v3=>cond ((!v3)) (some (.inl true)) (some (.inl ((decide (4096<(m.Lb.length:Int)))))))))=(some (.inl false):Option (Bool⊕Bool)):=ar e1 (ak nF (ar (fo _ _ _) (ak nN (ar hbd (ak rfl (cC (decide_eq_false (by omega))))))))
 by_cases ha:m.To.all uQ=true
 ·rw [if_pos ((jy nz uQ m.To).2 ha)] at hlp
  refine ⟨true,aI (s:=false) pre (ak rfl (aI hlp rfl)),fun _ => ?_⟩
  unfold uP xJ BY
  rw [hF,ha,hd,decide_eq_true hn,decide_eq_true h4]
  rfl
 ·rw [if_neg fun h=>ha ((jy nz uQ m.To).1 h)] at hlp
  exact ⟨false,aI (s:=false) pre (ak rfl (jY hlp rfl)),fun h=>by cases h⟩
def FR (m:ae):Bool:=(cT m).getD false&&(!m.Lk&&(decide (m.Le=e0)&&decide (m.At=0)))
theorem vG {b:az} (hm:∀ m∈b.Lg,LM m∧bJ m.Lb) (hl:b.Lg.length≤20):∃ c,cn b=some c∧(c=true→nB b=true):=by
 unfold cn
 by_cases ho:0≤b.Lj∧b.Lj≤1
 case neg =>
  refine ⟨false,aI (s:=true) (ar (fo _ _ _) (ap ?_ rfl)) (ap rfl rfl),fun h=>by cases h⟩
  rw [Bool.not_eq_true',Bool.and_eq_false_iff]
  by_cases h1:0≤b.Lj
  ·exact .inr (decide_eq_false (by omega))
  ·exact .inl (decide_eq_false (by omega))
 have no:(!(decide ((0:Int)≤b.Lj)&&decide (b.Lj≤1)))=false:=by rw [decide_eq_true ho.1,decide_eq_true ho.2]; rfl
 by_cases hn:1≤b.Li∧b.Li≤65535
 case neg =>
  refine ⟨false,aI (s:=true) (ar (fo _ _ _) (ak no (ar (fo _ _ _) (ap ?_ rfl)))) (ap rfl rfl),fun h=>by cases h⟩
  rw [Bool.not_eq_true',Bool.and_eq_false_iff]
  by_cases h1:1≤b.Li
  ·exact .inr (decide_eq_false (by omega))
  ·exact .inl (decide_eq_false (by omega))
 have nn:(!(decide ((1:Int)≤b.Li)&&decide (b.Li≤65535)))=false:=by rw [decide_eq_true hn.1,decide_eq_true hn.2]; rfl
 by_cases hk:1≤b.Lg.length∧b.Lg.length≤4
 case neg =>
  refine ⟨false,aI (s:=true) (ar (fo _ _ _) (ak no (ar (fo _ _ _) (ak nn (ar (fo _ _ _) (cC ?_)))))) (ap rfl rfl),fun h=>by cases h⟩
  rw [Bool.not_eq_true',Bool.and_eq_false_iff]
  by_cases h1:1≤b.Lg.length
  ·exact .inr (decide_eq_false (by omega))
  ·exact .inl (decide_eq_false (by omega))
 have nk:(!(decide ((1:Int)≤(b.Lg.length:Int))&&decide ((b.Lg.length:Int)≤4)))=false:=by rw [decide_eq_true (by omega),decide_eq_true (by omega)]; rfl
 have hlp:=gL (R:=Bool) (f:=Kx b) (fun i=>FR (b.Lg.getD i iz)) b.Lg.length false (fuel:=bU) (by simp only [bU]; omega) (fun i hi hp=>by
  have hg:aN b.Lg i=some (b.Lg.getD i iz):=nO iz hi
  obtain ⟨lm,hb⟩:=hm _ (ET iz hi)
  obtain ⟨c,hc,_⟩:=qp lm hb
  generalize b.Lg.getD i iz=m at *
  unfold FR at hp
  rw [hc,Option.getD_some,Bool.and_eq_true,Bool.and_eq_true,Bool.and_eq_true] at hp
  obtain ⟨h1,h2,h3,h4⟩:=hp
  subst h1
  have h2:m.Lk=false:=by simpa using h2
  have h3:=of_decide_eq_true h3
  have h4:=of_decide_eq_true h4
  refine ap (decide_eq_true (by omega)) (ar (bi hi) (ar hg (aI (s:=false) (ar (x:=true) hc (ak rfl (ak h2 (ak ?_ (cC ?_))))) (ak rfl (ar (congrArg some (aW (n:=i) (by omega))) rfl)))))
  ·rw [cm,h3,show (⟨#[]⟩:Ll)=e0 from rfl,decide_eq_true rfl]; rfl
  ·rw [h4]; rfl) (fun i hi hp=>by
  have hg:aN b.Lg i=some (b.Lg.getD i iz):=nO iz hi
  obtain ⟨lm,hb⟩:=hm _ (ET iz hi)
  obtain ⟨c,hc,_⟩:=qp lm hb
  generalize b.Lg.getD i iz=m at *
  unfold FR at hp
  rw [hc,Option.getD_some] at hp
  refine ap (decide_eq_true (by omega)) (ar (bi hi) (ar hg (aI (s:=true) (ar (x:=c) hc ?_) (ap rfl rfl))))
  cases c
  ·exact ap rfl rfl
  refine ak rfl ?_
  rw [Bool.true_and] at hp
  cases hq:m.Lk
  ·rw [hq,Bool.not_false,Bool.true_and] at hp
   refine ak rfl ?_
   by_cases hh:m.Le=e0
   ·rw [decide_eq_true hh,Bool.true_and] at hp
    have:=of_decide_eq_false hp
    exact ak (by rw [cm,hh,show (⟨#[]⟩:Ll)=e0 from rfl,decide_eq_true rfl]; rfl) (cC (bne_iff_ne.2 this))
   ·refine ap ?_ rfl
    rw [cm,show (⟨#[]⟩:Ll)=e0 from rfl,decide_eq_false hh]; rfl
  ·exact ap rfl rfl) (ak (decide_eq_false (by omega)) rfl)
 have pre:(bF b.Lj 0 1).bind (fun v1=>cond ((!v1)) (some (.inl true)) ((bF b.Li 1 65535).bind fun v2=>cond ((!v2)) (some (.inl true)) ((bF (b.Lg.length:Int) 1 4).bind fun v3=>some (.inl (!v3)))))=(some (.inl false):Option (Bool⊕Bool)):=ar (fo _ _ _) (ak no (ar (fo _ _ _) (ak nn (ar (fo _ _ _) (cC nk)))))
 by_cases ha:b.Lg.all FR=true
 ·rw [if_pos ((jy iz FR b.Lg).2 ha)] at hlp
  refine ⟨true,aI (s:=false) pre (ak rfl (aI hlp rfl)),fun _ => ?_⟩
  have hp:b.Lg.all pD=true:=List.all_eq_true.2 fun m hmm=>by
   have h1:=List.all_eq_true.1 ha m hmm
   obtain ⟨lm,hb⟩:=hm m hmm
   obtain ⟨c,hc,hc2⟩:=qp lm hb
   unfold FR at h1
   rw [hc,Option.getD_some,Bool.and_eq_true] at h1
   unfold pD
   rw [hc2 h1.1,h1.2]
   rfl
  unfold nB
  rw [hp,decide_eq_true hk,decide_eq_true (show (b.Lj=0∨b.Lj=1)∧1≤b.Li∧b.Li≤65535 by omega)]
  rfl
 ·rw [if_neg fun h=>ha ((jy iz FR b.Lg).1 h)] at hlp
  exact ⟨false,aI (s:=false) pre (ak rfl (jY hlp rfl)),fun h=>by cases h⟩
def xq:Bool→List Int→List Int
 | _,[]=>[]
 | f,c::t=>(if c=46∧f=true then [46,c] else [c])++xq (decide (c=10)) t
theorem wP:∀ (l r:List Int),oO l→xq false (l++13::10::r)=l++13::10::xq true r
 | [],r,h=>by simp [xq]
 | c::l,r,h=>by
  have hc:=h c (by simp)
  have ih:=wP l r (fun x hx=>h x (by simp [hx]))
  simp [xq,hc.2,ih]
theorem BB:∀ (ls:List (List Int)),(∀ l∈ls,oO l)→xq true (jn ls)=jn (ls.map lQ)
 | [],h=>by simp [xq,jn]
 | l::ls,h=>by
  have ih:=BB ls (fun x hx=>h x (by simp [hx]))
  have hl:=h l (by simp)
  rw [List.map_cons,jn,jn,← ih]
  cases l with
  | nil=>simp [xq,lQ]
  | cons c t =>
   have hc:=hl c (by simp)
   have ht:=wP t (jn ls) (fun x hx=>hl x (by simp [hx]))
   by_cases h46:c=46
   ·simp [xq,lQ,h46,ht]
   ·simp [xq,lQ,h46,hc.2,ht]
def Eb (b:List Int) (i:Nat):Bool:=decide (i=0)||decide (b.getD (i-1) 0=10)
theorem re {b:List Int} (hl:b.length≤100000):∀ (k i fuel:Nat) (s:List Int),i+k=b.length→k<fuel→s.length+2 * k≤1000000 →
  aQ (KY b) fuel (s,(i:Int))=some (.inl (s++xq (Eb b i) (b.drop i)))
 | 0,i,fuel,s,hk,hf,hs=>by
  obtain ⟨fu,rfl⟩:∃ fu,fuel=fu+1:=⟨fuel-1,by omega⟩
  rw [List.drop_eq_nil_of_le (by omega),xq,List.append_nil]
  exact aS (ak (decide_eq_false (by omega)) rfl)
 | k+1,i,fuel,s,hk,hf,hs=>by
  obtain ⟨fu,rfl⟩:∃ fu,fuel=fu+1:=⟨fuel-1,by omega⟩
  have hi:i<b.length:=by omega
  have hg:aN b i=some b[i]:=by simp [aN,hi]
  have hix:=bi hi
  have hfl:Eb b (i+1)=decide (b[i]=10):=by
   unfold Eb
   rw [decide_eq_false (by omega),Bool.false_or,Nat.add_sub_cancel,List.getD_eq_getElem?_getD,List.getElem?_eq_getElem hi]
   rfl
  have hd:b.drop i=b[i]::b.drop (i+1):=List.drop_eq_getElem_cons hi
  rw [hd,xq,← hfl]
  have tail:∀ s':List Int,s'.length+1+2 * k≤1000000→(∀ r,(cj (i:Int) b.length).bind (fun v22=>(aN b v22).bind fun v23=>(co 1 s' [v23]).bind fun v24=>(some (IntKind.i64.wrap ((i:Int)+1))).bind fun v25=>some (Sum.inl (v24,v25)))=some (r:(List Int×Int)⊕(List Int⊕List Int))↔r = .inl (s'++[b[i]],((i+1:Nat):Int))):=fun s' h' r=>by
   have h:=ar (f:=fun v22=>(aN b v22).bind fun v23=>(co 1 s' [v23]).bind fun v24=>(some (IntKind.i64.wrap ((i:Int)+1))).bind fun v25=>some (Sum.inl (v24,v25))) hix (ar hg (ar (cA (l:=s') (m:=[b[i]]) (by simp only [List.length_cons,List.length_nil]; omega) (by simp only [List.length_cons,List.length_nil]; omega)) (ar (congrArg some (aW (n:=i) (by omega))) (rfl:(some (Sum.inl (s'++[b[i]],((i+1:Nat):Int))):Option ((List Int×Int)⊕(List Int⊕List Int)))=_))))
   rw [h]
   exact ⟨fun e=>(Option.some.inj e).symm,fun e=>by rw [e]⟩
  by_cases h46:b[i]=46
  ·by_cases hff:Eb b i=true
   ·rw [if_pos ⟨h46,hff⟩]
    have ih:=re hl k (i+1) fu (s++[46]++[b[i]]) (by omega) (by omega) (by simp only [List.length_append,List.length_cons,List.length_nil]; omega)
    rw [show s++([46,b[i]]++xq (Eb b (i+1)) (b.drop (i+1)))=s++[46]++[b[i]]++xq (Eb b (i+1)) (b.drop (i+1)) by simp]
    refine (bx (s':=(s++[46]++[b[i]],((i+1:Nat):Int))) ?_).trans ih
    have hin:(cond ((i:Int)==0) (some (.inl true)) ((some (IntKind.i64.wrap ((i:Int)-1))).bind fun v4=>(cj v4 b.length).bind fun v5=>(aN b v5).bind fun v6=>some (.inl (v6==10))):Option (Bool⊕(List Int⊕((List Int×Int)⊕(List Int⊕List Int)))))=some (.inl true):=by
     by_cases h0:i=0
     ·exact ap (beq_iff_eq.2 (by omega)) rfl
     ·have h10:b.getD (i-1) 0=10:=by
       unfold Eb at hff
       rw [decide_eq_false h0,Bool.false_or] at hff
       exact of_decide_eq_true hff
      have hw:IntKind.i64.wrap ((i:Int)-1)=((i-1:Nat):Int):=by rw [dK (by omega) (by omega)]; omega
      exact ak (beq_eq_false_iff_ne.2 (by omega)) (ar (congrArg some hw) (ar (bi (show i-1<b.length by omega)) (ar (nO 0 (show i-1<b.length by omega)) (by rw [h10]; rfl))))
    exact ap (decide_eq_true (by omega)) (aI (s:=s++[46]) (aI (s:=true) (ar hix (ar hg (ap (beq_iff_eq.2 h46) hin))) (ap rfl (ar (cA (m:=[46]) (by simp only [List.length_cons,List.length_nil]; omega) (by simp only [List.length_cons,List.length_nil]; omega)) rfl))) ((tail (s++[46]) (by simp only [List.length_append,List.length_cons,List.length_nil]; omega) _).2 rfl))
   ·rw [if_neg (fun h=>hff h.2)]
    have ih:=re hl k (i+1) fu (s++[b[i]]) (by omega) (by omega) (by simp only [List.length_append,List.length_cons,List.length_nil]; omega)
    rw [← List.append_assoc]
    refine (bx (s':=(s++[b[i]],((i+1:Nat):Int))) ?_).trans ih
    have hff:=Bool.eq_false_iff.2 hff
    unfold Eb at hff
    rw [Bool.or_eq_false_iff] at hff
    have h0:=of_decide_eq_false hff.1
    have h10:=of_decide_eq_false hff.2
    have hw:IntKind.i64.wrap ((i:Int)-1)=((i-1:Nat):Int):=by rw [dK (by omega) (by omega)]; omega
    exact ap (decide_eq_true (by omega)) (aI (s:=s) (aI (s:=false) (ar hix (ar hg (ap (beq_iff_eq.2 h46) (ak (beq_eq_false_iff_ne.2 (by omega)) (ar (congrArg some hw) (ar (bi (show i-1<b.length by omega)) (ar (nO 0 (show i-1<b.length by omega)) (by rw [beq_eq_false_iff_ne.2 h10])))))))) (ak rfl rfl)) ((tail s (by omega) _).2 rfl))
  ·rw [if_neg (fun h=>h46 h.1)]
   have ih:=re hl k (i+1) fu (s++[b[i]]) (by omega) (by omega) (by simp only [List.length_append,List.length_cons,List.length_nil]; omega)
   rw [← List.append_assoc]
   refine (bx (s':=(s++[b[i]],((i+1:Nat):Int))) ?_).trans ih
   exact ap (decide_eq_true (by omega)) (aI (s:=s) (aI (s:=false) (ar hix (ar hg (ak (beq_eq_false_iff_ne.2 h46) rfl))) (ak rfl rfl)) ((tail s (by omega) _).2 rfl))
theorem Az {m:ae} (h:Vm m):ej m.Lb=some (eU m.Lb):=by
 obtain ⟨ls,h1,h2,h3⟩:=h.bd
 have hl:=(fA h.lm).2.2.1
 have ht:dW ls≤20000:=by rw [← cu,← h3]; exact hl
 have hs:=mv h1 h2 (by omega:dW ls<1000000000)
 rw [← h3] at hs
 have e:eU m.Lb=jn (ls.map lQ++[[46]]):=by unfold eU; rw [hs]; rfl
 have hlp:=re (b:=m.Lb) (by omega) m.Lb.length 0 bU [] (by omega) (by simp only [bU]; omega) (by simp only [List.length_nil]; omega)
 have hr:xq (Eb m.Lb 0) (m.Lb.drop 0)=jn (ls.map lQ):=by
  rw [List.drop_zero,h3,← BB ls h1]; rfl
 rw [hr,List.nil_append] at hlp
 have hlen:(jn (ls.map lQ)).length≤40000:=by rw [cu]; have:=rf ls; omega
 unfold ej
 refine aI hlp (ar (cA (m:=[46,13,10]) (by simp only [List.length_cons,List.length_nil]; omega) (by simp only [List.length_cons,List.length_nil]; omega)) ?_)
 rw [e,pY]
 rfl
theorem Fx {word:Ll} {w:List Int} {p:aj} (hw:ao word=w) (hwl:w.length≤100) (hs:Small p) (hpl:pW p≤20000) {R:Type} {f:Ll→Option R} {r:Option R} (hr:∀ v,ao v=pL w p→f v=r) :
  (cE p).bind (fun v4=>(bN word v4).bind fun v5=>(bN v5 (⟨#[13,10]⟩:Ll)).bind f)=r:=by
 have hl:=rk hpl
 have hb:ao (aL (fm p))=fm p:=aH (gO p)
 have hwb:bJ w:=by rw [← hw]; exact cq word
 have h2:ao (aL (w++fm p))=w++fm p:=aH (bM hwb (gO p))
 have h3:bJ [13,10]:=by intro x hx; simp only [List.mem_cons,List.not_mem_nil,or_false] at hx; omega
 have h4:ao (aL ((w++fm p)++[13,10]))=pL w p:=by rw [aH (bM (bM hwb (gO p)) h3)]; simp [pL]
 exact ar (Br p hs) (ar (oM hw hb (by omega)) (ar (oM h2 Il (by simp only [List.length_append,List.length_cons,List.length_nil]; omega)) (hr _ h4)))
theorem EK {m:ae} (h:Vm m) (A:List Int) (hA:A.length≤100000000):aQ (KS m) bU (A,0)=some (.inl (A++iE m.To)):=by
 obtain ⟨h1,h2⟩:=ww h.lm
 have hsm:=(fA h.lm).2.1
 have d:=h.lm.1
 refine bP (fun i=>(A++iE (m.To.take i),((i:Nat):Int))) m.To.length bU (by simp [iE]) (by simp only [bU]; omega) (fun i hi => ?_) ?_
 ·have hm:=List.getElem_mem hi
  have hb:=ni (l:=m.To.take i) fun p hp=>h2 p (List.mem_of_mem_take hp)
  have hbl:(m.To.take i).length≤40:=by simp only [List.length_take]; omega
  have hb':(m.To.take i).length * 20200≤40 * 20200:=Nat.mul_le_mul_right _ hbl
  have e:iE (m.To.take (i+1))=iE (m.To.take i)++pL jt m.To[i]:=by
   rw [List.take_succ_eq_append_getElem hi,oX]
   simp only [iE,List.append_nil]
  have hll:=pn (w:=jt) (by decide) (h2 _ hm)
  refine ap (decide_eq_true (by omega)) (ar (bi hi) (ar (by simp [aN,hi]:aN m.To i=some m.To[i]) (Fx (w:=jt) rfl (by decide) (hsm _ hm) (h2 _ hm) fun v hv => ?_)))
  rw [hv]
  refine ar (cA (by simp only [List.length_append]; omega) (by simp only [List.length_append]; omega)) (ar (congrArg some (aW (n:=i) (by omega))) ?_)
  rw [e,List.append_assoc]
 ·simp only [List.take_length]
  exact ak (decide_eq_false (by omega)) rfl
theorem DP {b:az} (h:∀ m∈b.Lg,Vm m) (hl:b.Lg.length≤20):eb b=some (eL b.Lg):=by
 unfold eb
 have hcl:=jp h
 refine aI (s:=dr b.Lg) (bP (f:=KN b) (fun i=>(dr (b.Lg.take i),((i:Nat):Int))) b.Lg.length bU (by simp [dr]) (by simp only [bU]; omega) (fun i hi => ?_) ?_) (ar (cA (by simp only [aK]; show _≤_; have:(⟨#[81,85,73,84,13,10]⟩:Ll).size=6:=rfl; omega) (by simp only [aK]; have:(⟨#[81,85,73,84,13,10]⟩:Ll).size=6:=rfl; omega)) rfl)
 ·have hm:=h _ (List.getElem_mem hi)
  obtain ⟨h1,h2⟩:=ww hm.lm
  have hsm:=fA hm.lm
  have hb:=jp (l:=b.Lg.take i) fun p hp=>h p (List.mem_of_mem_take hp)
  have hbl:(b.Lg.take i).length≤20:=by simp only [List.length_take]; omega
  have hb':(b.Lg.take i).length * 1000000≤20 * 1000000:=Nat.mul_le_mul_right _ hbl
  have a:=pn (w:=iU) (by decide) h1
  have hr:=ni h2
  have hr':b.Lg[i].To.length * 20200≤40 * 20200:=Nat.mul_le_mul_right _ hm.lm.1
  obtain ⟨_,hs2⟩:=vA hm
  have hs1:=Az hm
  have e:dr (b.Lg.take (i+1))=dr (b.Lg.take i)++qx b.Lg[i]:=by
   rw [List.take_succ_eq_append_getElem hi,kQ]
   simp only [dr,List.append_nil]
  refine ap (decide_eq_true (by omega)) (ar (bi hi) (ar (by simp [aN,hi]:aN b.Lg i=some b.Lg[i]) (Fx (w:=iU) (p:=b.Lg[i].Ld) rfl (by decide) hsm.1 h1 fun v hv => ?_)))
  rw [hv]
  refine ar (cA (by omega) (by omega)) (aI (EK hm _ (by simp only [List.length_append]; omega)) (ar (cA (m:=[68,65,84,65,13,10]) (by simp only [List.length_append,List.length_cons,List.length_nil]; omega) (by simp only [List.length_append,List.length_cons,List.length_nil]; omega)) (ar hs1 (ar (cA (by simp only [List.length_append,List.length_cons,List.length_nil]; omega) (by simp only [List.length_append,List.length_cons,List.length_nil]; omega)) (ar (congrArg some (aW (n:=i) (by omega))) ?_)))))
  rw [e]
  simp only [qx,List.append_assoc]
 ·simp only [List.take_length]
  exact ak (decide_eq_false (by omega)) rfl
set_option maxRecDepth 100000
theorem vL (a b:Nat) (ha:a<9223372036854775808) (hb:b<9223372036854775808):bits .xor .i64 (a:Int) (b:Int)=((a ^^^ b:Nat):Int):=by
 have hx:a ^^^ b<2 ^ 63:=Nat.xor_lt_two_pow (by omega) (by omega)
 show IntKind.i64.wrap ((BitVec.ofInt 64 (a:Int) ^^^ BitVec.ofInt 64 (b:Int)).toNat:Int)=_
 rw [BitVec.toNat_xor,rh a ha,rh b hb,dK (by omega) (by omega)]
def qW:Nat:=3988292384
theorem DN (b:List Int) (j:Nat) (hj:j<b.length) (x r:Nat) (hx:b[j]=(x:Int)) (hx256:x<256):∀ (k fuel t q:Nat),8-t=k→t≤8→k<fuel→q<4294967296→q ^^^ x / 2 ^ t=sn qW t (r ^^^ x) →
  aQ (IV b (qW:Int) (j:Int)) fuel ((q:Int),(t:Int))=some (.inl ((sn qW 8 (r ^^^ x):Nat):Int)):=by
 intro k
 induction k with
 | zero =>
  intro fuel t q hk ht hf hq he
  obtain ⟨f,rfl⟩:∃ f,fuel=f+1:=⟨fuel-1,by omega⟩
  have:t=8:=by omega
  subst this
  refine aS ?_
  unfold IV
  refine ak (by simp) ?_
  rw [Nat.div_eq_of_lt (show x<2 ^ 8 by omega),Nat.xor_zero] at he
  rw [he]
 | succ k ih =>
  intro fuel t q hk ht hf hq he
  obtain ⟨f,rfl⟩:∃ f,fuel=f+1:=⟨fuel-1,by omega⟩
  have w1:IntKind.i64.wrap ((t:Int)+1)=((t+1:Nat):Int):=by rw [dK (by omega) (by omega)]; simp
  have wu:IntKind.u64.wrap (t:Int)=(t:Int):=Ae (by omega) (by omega)
  have hsr:=uL .i64 q 1 (by decide)
  rw [Nat.pow_one,show ((1:Nat):Int)=1 from rfl] at hsr
  have hsx:=uL .u8 x t (by simp only [IntKind.bits]; omega)
  have hdv:x / 2 ^ t<256:=Nat.lt_of_le_of_lt (Nat.div_le_self _ _) hx256
  have hnext:sn qW (t+1) (r ^^^ x)=s0 qW (q ^^^ x / 2 ^ t):=by
   rw [he,xr]; rfl
  have hX2:x / 2 ^ (t+1)=x / 2 ^ t / 2:=by rw [Nat.pow_succ,Nat.div_div_eq_div_mul]
  generalize x / 2 ^ t=X at *
  have wX:IntKind.i64.wrap (X:Int)=(X:Int):=dK (by omega) (by omega)
  have hqx:q / 2<4294967296:=by omega
  have hx2:(q / 2 ^^^ qW)<2 ^ 32:=Nat.xor_lt_two_pow (by omega) (by unfold qW; omega)
  have e32:(2:Nat) ^ 32=4294967296:=by decide
  have hs0:s0 qW (q ^^^ X)=(q / 2 ^^^ (if q % 2≠X % 2 then qW else 0)) ^^^ X / 2:=by
   unfold s0
   rw [Nat.xor_div_two,wv]
   have h1:q % 2=0∨q % 2=1:=by omega
   have h2:X % 2=0∨X % 2=1:=by omega
   rcases h1 with h1 | h1 <;> rcases h2 with h2 | h2 <;> rw [h1,h2] <;> simp <;> rw [Nat.xor_assoc,Nat.xor_comm (X / 2),← Nat.xor_assoc]
  by_cases hne:q % 2=X % 2
  ·have e:¬ q % 2≠X % 2:=fun h=>h hne
   rw [if_neg e,Nat.xor_zero] at hs0
   refine (bx ?_).trans (ih f (t+1) (q / 2) (by omega) (by omega) (by omega) hqx (by rw [hX2,hnext,hs0]))
   unfold IV
   refine ap (by simp; omega) (aI (s:=((q / 2:Nat):Int)) (ar (x:=((q % 2:Nat):Int)) (by rw [pr _ (by omega)]) (ar hsr (ar (bi hj) (ar (x:=(x:Int)) (by rw [cv hj,hx]) (ar (x:=(t:Int)) (by rw [wu]) (ar hsx (ar (x:=(X:Int)) (by rw [wX]) (ar (x:=((X % 2:Nat):Int)) (by rw [pr _ (by omega)]) (ak ?_ rfl))))))))) (ar (x:=((t+1:Nat):Int)) (by rw [w1]) rfl))
   rw [hne]; simp
  ·rw [if_pos hne] at hs0
   refine (bx ?_).trans (ih f (t+1) (q / 2 ^^^ qW) (by omega) (by omega) (by omega) (by omega) (by rw [hX2,hnext,hs0]))
   unfold IV
   have hxo:=vL (q / 2) qW (by omega) (by unfold qW; omega)
   refine ap (by simp; omega) (aI (s:=((q / 2 ^^^ qW:Nat):Int)) (ar (x:=((q % 2:Nat):Int)) (by rw [pr _ (by omega)]) (ar hsr (ar (bi hj) (ar (x:=(x:Int)) (by rw [cv hj,hx]) (ar (x:=(t:Int)) (by rw [wu]) (ar hsx (ar (x:=(X:Int)) (by rw [wX]) (ar (x:=((X % 2:Nat):Int)) (by rw [pr _ (by omega)]) (ap ?_ (ar (x:=((q / 2 ^^^ qW:Nat):Int)) (by rw [hxo]) rfl)))))))))) (ar (x:=((t+1:Nat):Int)) (by rw [w1]) rfl))
   simp only [bne_iff_ne,ne_eq]; omega
theorem Eo (b:List Int) (hb:bJ b) (hl:b.length<100000000):∀ (k fuel i r:Nat),b.length-i=k→i≤b.length→k<fuel→r<4294967296 →
  aQ (Jj b (qW:Int)) fuel ((r:Int),(i:Int))=some (.inl ((Av qW (kM (b.drop i)) r:Nat):Int)):=by
 intro k
 induction k with
 | zero =>
  intro fuel i r hk hi hf hr
  obtain ⟨f,rfl⟩:∃ f,fuel=f+1:=⟨fuel-1,by omega⟩
  have:i=b.length:=by omega
  subst this
  refine aS ?_
  unfold Jj
  refine ak (by simp) ?_
  rw [List.drop_length,show kM []=[] from rfl,up]
 | succ k ih =>
  intro fuel i r hk hi hf hr
  obtain ⟨f,rfl⟩:∃ f,fuel=f+1:=⟨fuel-1,by omega⟩
  have hlt:i<b.length:=by omega
  have hbi:=hb b[i] (List.getElem_mem hlt)
  obtain ⟨x,hx⟩:∃ x:Nat,b[i]=(x:Int):=⟨b[i].toNat,by omega⟩
  have hx256:x<256:=by omega
  have w1:IntKind.i64.wrap ((i:Int)+1)=((i+1:Nat):Int):=by rw [dK (by omega) (by omega)]; simp
  have hdr:b.drop i=b[i]::b.drop (i+1):=List.drop_eq_getElem_cons hlt
  have hin:=DN b i hlt x r hx hx256 8 bU 0 r rfl (by omega) (by unfold bU; omega) hr (by rw [Nat.pow_zero,Nat.div_one]; rfl)
  have hlt2:sn qW 8 (r ^^^ x)<4294967296:=wj qW _ 32 8 (by decide) (Nat.xor_lt_two_pow (by omega) (by omega))
  have hre:Av qW (kM (b.drop i)) r=Av qW (kM (b.drop (i+1))) (sn qW 8 (r ^^^ x)):=by
   rw [hdr,show kM (b[i]::b.drop (i+1))=b[i].toNat::kM (b.drop (i+1)) from rfl,hx,Int.toNat_natCast,ru _ _ _ _ hx256]
  rw [hre]
  refine (bx ?_).trans (ih f (i+1) (sn qW 8 (r ^^^ x)) (by omega) (by omega) (by omega) hlt2)
  unfold Jj
  exact ap (by simp; omega) (aI hin (ar (x:=((i+1:Nat):Int)) (by rw [w1]) rfl))
theorem wH {b:List Int} (hb:bJ b) (hl:b.length<100000000):dU b=some ((lY b:Nat):Int):=by
 have hk:=Eo b hb hl b.length bU 0 4294967295 (by omega) (Nat.zero_le _) (by unfold bU; omega) (by omega)
 rw [List.drop_zero] at hk
 have hlt:Av qW (kM b) 4294967295<2 ^ 32:=uA qW 32 (by decide) (by decide) _ _ (by decide) (nV hb)
 have hxo:=vL (Av qW (kM b) 4294967295) 4294967295 (by omega) (by omega)
 unfold dU
 refine ar (x:=((lY b:Nat):Int)) ?_ rfl
 unfold fX
 refine ar (x:=32) (by decide) (ar (x:=4294967296) (by decide) (ar (x:=4294967295) (by decide) (aI hk (ar (x:=32) (by decide) (ar (x:=4294967296) (by decide) (ar (x:=4294967295) (by decide) (ar (x:=((lY b:Nat):Int)) ?_ rfl)))))))
 exact congrArg some hxo
structure TX (s:Ll) (l:List Int) (n:Nat):Prop where
 e:ao s=l
 le:l.length≤n
theorem tn {s t:Ll} {l m:List Int} {n k:Nat} (hs:TX s l n) (ht:TX t m k) (h:n+k≤5000):∃ v,bN s t=some v∧TX v (l++m) (n+k):=by
 have h1:=hs.le
 have h2:=ht.le
 refine ⟨_,oM hs.e ht.e (by omega),⟨?_,by rw [List.length_append]; omega⟩⟩
 exact aH (bM (by rw [← hs.e]; exact cq s) (by rw [← ht.e]; exact cq t))
theorem Cm {n:Nat} (h:n<10 ^ 18):∃ v,aG (n:Int)=some v∧TX v (kO 20 n []) 21:=by
 obtain ⟨a,b⟩:=sf h
 exact ⟨_,EA 20 n (by omega) (by omega) (by omega),⟨aH a,b⟩⟩
theorem tW:TX (⟨#[66,85,78,68,76,69,32]⟩:Ll) (fP++[32]) 7:=⟨rfl,by decide⟩
theorem t1:TX (⟨#[32]⟩:Ll) [32] 1:=⟨rfl,by decide⟩
theorem Kq:TX (⟨#[32,48]⟩:Ll) [32,48] 2:=⟨rfl,by decide⟩
theorem t2:TX (⟨#[32,32]⟩:Ll) [32,32] 2:=⟨rfl,by decide⟩
theorem tE:TX (⟨#[13,10]⟩:Ll) [13,10] 2:=⟨rfl,by decide⟩
theorem Gn {w a b c d e:List Int} (h:w≠fP):sy [w,a,b,c,d,e]=(zH,false):=by
 simp only [sy,if_neg h]
end Go.Abs.Sh
