import Derived.Test.YtjdmcbkkacnmdaaGreatDoorSuoF
set_option linter.unusedVariables false
set_option linter.unusedSimpArgs false
set_option linter.unusedSectionVars false
namespace Go.Abs.Sh
set_option linter.unusedVariables false
set_option linter.unusedSimpArgs false
set_option maxRecDepth 10000
def jD:ai→List T_Rec→ai
 | s,[]=>s
 | s,r::l=>jD (iS s r) l
def kQ:ai→List T_Rec→Prop
 | _,[]=>True
 | s,r::l=>pC s r=true∧kQ (iS s r) l
theorem tY:∀ (s:ai) (a b:List T_Rec),jD s (a++b)=jD (jD s a) b
 | s,[],b=>rfl
 | s,r::a,b=>tY (iS s r) a b
theorem sk:∀ (s:ai) (a b:List T_Rec),kQ s (a++b)↔kQ s a∧kQ (jD s a) b
 | s,[],b=>by simp [kQ,jD]
 | s,r::a,b=>by
  simp only [List.cons_append,kQ,jD,sk (iS s r) a b,and_assoc]
theorem oU:∀ (s:ai) (l:List T_Rec),kQ s (l.take (bM s l).2)∧(bM s l).1=jD s (l.take (bM s l).2)∧∀ h:(bM s l).2<l.length,pC (bM s l).1 l[(bM s l).2]=false
 | s,[]=>⟨trivial,rfl,fun h=>absurd h (by simp [bM])⟩
 | s,r::l=>by
  obtain ⟨h1,h2,h3⟩:=oU (iS s r) l
  by_cases ho:pC s r=true
  ·have e:bM s (r::l)=((bM (iS s r) l).1,(bM (iS s r) l).2+1):=by simp only [bM,if_pos ho]
   rw [e]
   exact ⟨⟨ho,h1⟩,h2,fun h=>h3 (by simpa using h)⟩
  ·have e:bM s (r::l)=(s,0):=by simp only [bM,if_neg ho]
   rw [e]
   exact ⟨trivial,rfl,fun h=>by simpa using ho⟩
theorem Dd {r:T_Rec} (h:T_Rec.wz r) (hl:LR r):tM r:=by
 refine ⟨hl,fun x hx => ?_⟩
 obtain ⟨_,⟨_,_,⟨_,h4⟩,_⟩,_⟩:=h
 have:=h4 x hx
 simp only [jU,Lit.wf,IntKind.min,IntKind.max,IntKind.signed,IntKind.bits] at this
 have h2:0≤x∧x≤255:=by simpa using this
 omega
theorem rK (l:List T_Rec) (hw:tL 208 T_Rec.wz l):∃ b,cr l=some b∧(b=false→l.length≤60∧∀ r∈l,tM r):=by
 have hl:=hw.1
 simp only [reachBytes] at hl
 obtain ⟨b,h,hb⟩:=BO l (fun r hr=>DI (hw.2 r hr)) (by omega)
 exact ⟨b,h,fun e=>⟨(hb e).1,fun r hr=>Dd (hw.2 r hr) ((hb e).2 r hr)⟩⟩
def Gr (a b:ai):((Int))→Option ((Int)⊕((Unit)⊕Bool)):=(fun (s28:Int) =>
 cond ((decide (s28<(a.GP.length:Int))))
  ((bL s28 a.GP.length).bind fun v10 =>
  (aA a.GP v10).bind fun v11 =>
  (bL s28 b.GP.length).bind fun v12 =>
  (aA b.GP v12).bind fun v13 =>
  aF (S:=Bool) (A:=((Int)⊕((Unit)⊕Bool)))
   (cond ((v11.Id != v13.Id))
    (some (.inl true))
    ((cQ ((T_Mail.mk (T_Path.mk v11.GS.GM.GT v11.GS.GM.GR v11.GS.GM.GJ) v11.GS.To v11.GS.GH v11.GS.Ha v11.GS.GN v11.GS.At)) ((T_Mail.mk (T_Path.mk v13.GS.GM.GT v13.GS.GM.GR v13.GS.GM.GJ) v13.GS.To v13.GS.GH v13.GS.Ha v13.GS.GN v13.GS.At))).bind fun v14 =>
    cond ((!v14))
     (some (.inl true))
     (cond ((v11.Hc != v13.Hc))
      (some (.inl true))
      (some (.inl (v11.GX != v13.GX))))))
   (fun (s42:Bool) =>
    cond (s42)
     (some (.inr (.inr (false))))
     ((some (IntKind.i64.wrap (s28+1))).bind fun v20 =>
     some (.inl v20))) some)
  (some (.inr (.inl ()))))
theorem qV {n:Nat} {s:ai} (hs:sD n s):bP s s=some true:=by
 have hl:=hs.len; have hn:=hs.hn; have hp:=hs.part; have hse:=hs.sent; have hd:=hs.done
 unfold bP
 have hne:∀ x:Int,(x != x)=false:=fun x=>by simp
 refine aI (s:=false) (ap (hne _) (ap (hne _) (az (nA _ (by omega)) (ap rfl (az (mG _ (by omega)) (ap rfl (ap (hne _) (az (nA _ (by omega)) rfl)))))))) (ap rfl ?_)
 refine aI (s:=()) ?_ rfl
 have h:=dS (R:=Bool) (f:=Gr s s) (fun _=>true) s.GP.length false (fuel:=cq) (by simp only [cq]; omega) (fun i hi _ => ?_) (fun i hi h=>by cases h) (ap (decide_eq_false (by omega)) rfl)
 ·rw [if_pos (fun _ _=>rfl)] at h; exact h
 ·have hg:aA s.GP i=some s.GP[i]:=by simp [aA,hi]
  exact ar (decide_eq_true (by omega)) (az (aR hi) (az hg (az (aR hi) (az hg (aI (s:=false) (ap (hne _) (az (sd _ (hs.lm _ (List.getElem_mem hi))) (ap rfl (ap (hne _) (bJ (hne _)))))) (ap rfl (az (congrArg some (aX (n:=i) (by omega))) rfl)))))))
set_option maxRecDepth 10000
def Gx (l:List T_Rec):(((List T_Rec)×Int))→Option (((List T_Rec)×Int)⊕(((List T_Rec))⊕(List T_Rec))):=(fun ((s10,s11):(List T_Rec)×Int) =>
 cond ((decide (s11<(l.length:Int))))
  ((bL s11 l.length).bind fun v2 =>
  (aA l v2).bind fun v3 =>
  (cj ((T_Rec.mk v3.GQ ((T_Mail.mk (T_Path.mk v3.GS.GM.GT v3.GS.GM.GR v3.GS.GM.GJ) v3.GS.To v3.GS.GH v3.GS.Ha v3.GS.GN v3.GS.At)) v3.Id v3.GO v3.GW v3.GU v3.GV v3.GI))).bind fun v4 =>
  (dO 208 s10 [(T_Rec.mk v4.GQ ((T_Mail.mk (T_Path.mk v4.GS.GM.GT v4.GS.GM.GR v4.GS.GM.GJ) v4.GS.To v4.GS.GH v4.GS.Ha v4.GS.GN v4.GS.At)) v4.Id v4.GO v4.GW v4.GU v4.GV v4.GI)]).bind fun v5 =>
  (some (IntKind.i64.wrap (s11+1))).bind fun v6 =>
  some (.inl (v5,v6)))
  (some (.inr (.inl s10))))
theorem nC {m:T_Mail} (h:LM m):cp m=some m:=by
 obtain ⟨h1,h2⟩:=h
 simp only [mW] at h2
 simp only [cp,ev,dk]
 rw [eI (by omega) (by omega),eI (by omega) (by omega)]; rfl
theorem qE {r:T_Rec} (h:LR r):cj r=some r:=by
 obtain ⟨h1,h2,h3⟩:=h
 have hm:=nC h3
 simp only [cj,df,dk]
 refine az hm ?_
 rw [eI (by omega) (by omega),eI (by omega) (by omega)]; rfl
set_option maxRecDepth 100000
def e0:Hd:=⟨#[]⟩
def xX:T_Path:=⟨false,e0,e0⟩
theorem wL (n lo hi:Int):db n lo hi=some (decide (lo≤n)&&decide (n≤hi)):=by
 unfold db
 cases decide (lo≤n) <;> rfl
def Ad (c:Int):Bool:=decide (97≤c)&&decide (c≤122)||decide (65≤c)&&decide (c≤90)
def yT (c:Int):Bool:=decide (48≤c)&&decide (c≤57)
theorem Bc (c:Int):cA c=some (Ad c):=by
 unfold cA Ad
 cases decide (97≤c) <;> cases decide (c≤122) <;> cases decide (65≤c) <;> cases decide (c≤90) <;> rfl
theorem Dk (c:Int):cI c=some (yT c):=by
 unfold cI yT
 cases decide (48≤c) <;> rfl
theorem DN (c:Int):xk c=(Ad c||(yT c||c==45)):=by
 unfold xk EU Ad yT
 cases decide (97≤c) <;> cases decide (c≤122) <;> cases decide (65≤c) <;> cases decide (c≤90) <;> cases decide (48≤c) <;> cases decide (c≤57) <;> simp
def rh (q:Int→Int→Bool):Int→List Int→Bool
 | _,[]=>true
 | p,x::r=>q p x&&rh q x r
theorem um (q:Int→Int→Bool):∀ (l:List Int) (p:Int),(∀ i,i<l.length→q ((p::l).getD i 0) (l.getD i 0)=true)↔rh q p l=true
 | [],p=>by simp [rh]
 | x::r,p=>by
  unfold rh
  rw [Bool.and_eq_true,← um q r x]
  constructor
  ·intro h
   exact ⟨by simpa using h 0 (by simp),fun i hi=>by simpa using h (i+1) (by simpa using hi)⟩
  ·rintro ⟨h0,h1⟩ i hi
   cases i with
   | zero=>simpa using h0
   | succ i=>simpa using h1 i (by simpa using hi)
def sB (l:List Int):Bool:=decide (1≤l.length)&&(decide (l.length≤63)&&(l.getD 0 0 != 45&&l.getD (l.length-1) 0 != 45))
theorem vM (l:List Int):qS l=(sB l&&l.all xk):=by
 unfold qS sB
 cases l with
 | nil=>rfl
 | cons x r =>
  rw [nD (by simp),nO (by simp)]
  have:decide (1≤(x::r).length)=true:=by simp
  rw [this]
  simp only [List.isEmpty_cons,Bool.not_false,Bool.true_and]
  have e1:(some ((x::r).getD 0 0) != some 45)=((x::r).getD 0 0 != 45):=by rw [Bool.eq_iff_iff]; simp
  have e2:(some ((x::r).getD ((x::r).length-1) 0) != some 45)=((x::r).getD ((x::r).length-1) 0 != 45):=by rw [Bool.eq_iff_iff]; simp
  rw [e1,e2]
  simp only [Bool.and_assoc]
def rC:List Int→List Int→Bool
 | cur,[]=>sB cur
 | cur,x::r=>if x=46 then sB cur&&rC [] r else xk x&&rC (cur++[x]) r
theorem ru:∀ (l cur:List Int),cur.all xk=true→rC cur l=match jr 46 l with
  | []=>true
  | a::ps=>qS (cur++a)&&ps.all qS
 | [],cur,h=>by simp [rC,jr,vM,h]
 | x::r,cur,h=>by
  have hne:=qO 46 r
  unfold rC jr
  by_cases hx:x=46
  ·rw [if_pos hx,if_pos hx,ru r [] rfl]
   cases hs:jr 46 r with
   | nil=>exact absurd hs hne
   | cons a ps=>simp [vM,h]
  ·rw [if_neg hx,if_neg hx]
   cases hs:jr 46 r with
   | nil=>exact absurd hs hne
   | cons a ps =>
    cases hl:xk x
    ·simp [vM,hl]
    ·have:=ru r (cur++[x]) (by simp [h,hl])
     rw [this,hs]
     simp
theorem Ef (l:List Int):(jr 46 l).all qS=rC [] l:=by
 rw [ru l [] rfl]
 cases hs:jr 46 l with
 | nil=>exact absurd hs (qO 46 l)
 | cons a ps=>simp
def mS (s:Hd):Int×Int→Option ((Int×Int)⊕(Unit⊕Bool)):=(fun ((s88,s89):Int×Int) =>
 cond ((decide (s89≤(s.size:Int))))
  (aF (S:=Int) (A:=((Int×Int)⊕((Unit)⊕Bool)))
   (aF (S:=Bool) (A:=(Int⊕((Int×Int)⊕((Unit)⊕Bool))))
    (cond ((decide (s89<(s.size:Int))))
     ((eE s s89).bind fun v4 =>
     some (.inl (v4 != 46)))
     (some (.inl false)))
    (fun (s151:Bool) =>
     cond (s151)
      (aF (S:=Bool) (A:=(Int⊕((Int×Int)⊕((Unit)⊕Bool))))
       ((eE s s89).bind fun v10 =>
       (cA v10).bind fun v11 =>
       cond ((!v11))
        ((eE s s89).bind fun v12 =>
        (cI v12).bind fun v13 =>
        cond ((!v13))
         ((eE s s89).bind fun v14 =>
         some (.inl (v14 != 45)))
         (some (.inl false)))
        (some (.inl false)))
       (fun (s156:Bool) =>
        cond (s156)
         (some (.inr (.inr (.inr (false)))))
         (some (.inl s88))) some)
      (aF (S:=Bool) (A:=(Int⊕((Int×Int)⊕((Unit)⊕Bool))))
       ((some (IntKind.i64.wrap (s89-s88))).bind fun v20 =>
       (db v20 1 63).bind fun v21 =>
       cond ((!v21))
        (some (.inl true))
        ((eE s s88).bind fun v22 =>
        cond ((v22==45))
         (some (.inl true))
         ((some (IntKind.i64.wrap (s89-1))).bind fun v23 =>
         (eE s v23).bind fun v24 =>
         some (.inl (v24==45)))))
       (fun (s161:Bool) =>
        cond (s161)
         (some (.inr (.inr (.inr (false)))))
         ((some (IntKind.i64.wrap (s89+1))).bind fun v30 =>
         some (.inl v30))) some)) some)
   (fun (s147:Int) =>
    (some (IntKind.i64.wrap (s89+1))).bind fun v50 =>
    some (.inl (s147,v50))) some)
  (some (.inr (.inl ()))))
theorem DH {R:Type} (s:Hd) (f i:Nat) (cur:List Int) (hi:i≤s.size) (hs:s.size<4611686018427387904) (hl:f+cur.length=i) (hc:∀ j,j<cur.length→(aP s).getD (f+j) 0=cur.getD j 0) (A:Option (R⊕((Int×Int)⊕(Unit⊕Bool)))) (B:Option (R⊕((Int×Int)⊕(Unit⊕Bool)))) :
  (aF (S:=Bool) (A:=(R⊕((Int×Int)⊕((Unit)⊕Bool))))
     ((some (IntKind.i64.wrap ((i:Int)-(f:Int)))).bind fun v20 =>
     (db v20 1 63).bind fun v21 =>
     cond ((!v21))
      (some (.inl true))
      ((eE s (f:Int)).bind fun v22 =>
      cond ((v22==45))
       (some (.inl true))
       ((some (IntKind.i64.wrap ((i:Int)-1))).bind fun v23 =>
       (eE s v23).bind fun v24 =>
       some (.inl (v24==45)))))
     (fun (s161:Bool) =>
      cond (s161) A B) some)=cond (sB cur) B A:=by
 have w:some (IntKind.i64.wrap ((i:Int)-(f:Int)))=some (cur.length:Int):=by rw [jJ (by omega) (by omega)]; congr 1; omega
 have hin:=wL (cur.length:Int) 1 63
 unfold sB
 by_cases h1:1≤cur.length
 ·by_cases h2:cur.length≤63
  ·rw [decide_eq_true (by omega),decide_eq_true (by omega)] at hin
   rw [decide_eq_true h1,decide_eq_true h2]
   have c0:=kT (s:=s) (i:=f) (by omega)
   have e0:=hc 0 (by omega)
   rw [Nat.add_zero] at e0
   rw [e0] at c0
   have c1:=kT (s:=s) (i:=i-1) (by omega)
   have e1:=hc (cur.length-1) (by omega)
   rw [show f+(cur.length-1)=i-1 by omega] at e1
   rw [e1,show ((i-1:Nat):Int)=(i:Int)-1 by omega] at c1
   by_cases h3:cur.getD 0 0=45
   ·refine aI (s:=true) (az w (az hin (ap rfl (az c0 (ar (by rw [h3]; rfl) rfl))))) ?_
    rw [h3]; rfl
   ·have x3:(cur.getD 0 0==45)=false:=by simpa using h3
    have y3:(cur.getD 0 0 != 45)=true:=by simpa using h3
    refine aI (s:=(cur.getD (cur.length-1) 0==45)) (az w (az hin (ap rfl (az c0 (ap x3 (az (jJ (by omega) (by omega)) (az c1 rfl))))))) ?_
    rw [y3]
    unfold bne
    cases (cur.getD (cur.length-1) 0==45) <;> rfl
  ·rw [decide_eq_true (by omega),decide_eq_false (by omega)] at hin
   rw [decide_eq_true h1,decide_eq_false h2]
   exact aI (s:=true) (az w (az hin rfl)) rfl
 ·rw [decide_eq_false (by omega)] at hin
  rw [decide_eq_false h1]
  exact aI (s:=true) (az w (az hin rfl)) rfl
theorem nU (s:Hd) (hs:s.size<4611686018427387904):∀ (rest cur:List Int) (f i fuel:Nat),f+cur.length=i→(aP s).drop i=rest→i≤s.size→(∀ j,j<cur.length→(aP s).getD (f+j) 0=cur.getD j 0)→rest.length+1<fuel →
  bm (mS s) fuel ((f:Int),(i:Int))=some (if rC cur rest=true then .inl () else .inr false)
 | [],cur,f,i,fuel,hl,hd,hi,hc,hf=>by
  have hi2:i=s.size:=by
   have:=congrArg List.length hd
   rw [List.length_drop,bR] at this
   simp at this; omega
  obtain ⟨k,rfl⟩:∃ k,fuel=k+1+1:=⟨fuel-2,by simp at hf; omega⟩
  have hr:=DH (R:=Int) s f i cur hi hs hl hc (some (.inr (.inr (.inr false)))) ((some (IntKind.i64.wrap ((i:Int)+1))).bind fun v30=>some (.inl v30))
  have w:some (IntKind.i64.wrap ((i:Int)+1))=some ((i+1:Nat):Int):=by rw [aX (by omega)]
  have hd0:rC cur []=sB cur:=rfl
  rw [hd0]
  cases hlab:sB cur
  ·rw [hlab,cond_false] at hr
   rw [bS (o := .inr false)]
   ·rfl
   ·unfold mS
    exact ar (decide_eq_true (by omega)) (kK (a := .inr (.inr false)) (aI (s:=false) (ap (decide_eq_false (by omega)) rfl) (ap rfl hr)) rfl)
  ·rw [hlab,cond_true] at hr
   rw [bY (s':=(((i+1:Nat):Int),((i+1:Nat):Int))),bS (o := .inl ())]
   ·rfl
   ·unfold mS
    exact ap (decide_eq_false (by omega)) rfl
   ·unfold mS
    exact ar (decide_eq_true (by omega)) (aI (s:=((i+1:Nat):Int)) (aI (s:=false) (ap (decide_eq_false (by omega)) rfl) (ap rfl (hr.trans (az w rfl)))) (az w rfl))
 | x::rest,cur,f,i,fuel,hl,hd,hi,hc,hf=>by
  have hlt:i<s.size:=by
   have:=congrArg List.length hd
   rw [List.length_drop,bR] at this
   simp at this; omega
  have hx:(aP s).getD i 0=x:=by
   have:=congrArg List.head? hd
   rw [List.head?_drop] at this
   rw [List.getD_eq_getElem?_getD,this]; rfl
  have hd2:(aP s).drop (i+1)=rest:=by
   rw [← List.drop_drop,hd]; rfl
  obtain ⟨k,rfl⟩:∃ k,fuel=k+1:=⟨fuel-1,by omega⟩
  have hchr:=kT hlt
  rw [hx] at hchr
  have w:some (IntKind.i64.wrap ((i:Int)+1))=some ((i+1:Nat):Int):=by rw [aX (by omega)]
  have lt:decide ((i:Int)≤(s.size:Int))=true:=decide_eq_true (by omega)
  have lt2:decide ((i:Int)<(s.size:Int))=true:=decide_eq_true (by omega)
  unfold rC
  by_cases h46:x=46
  ·rw [if_pos h46]
   have hr:=DH (R:=Int) s f i cur hi hs hl hc (some (.inr (.inr (.inr false)))) ((some (IntKind.i64.wrap ((i:Int)+1))).bind fun v30=>some (.inl v30))
   cases hlab:sB cur
   ·rw [hlab,cond_false] at hr
    rw [bS (o := .inr false)]
    ·rfl
    ·unfold mS
     exact ar lt (kK (a := .inr (.inr false)) (aI (s:=false) (ar lt2 (az hchr (by rw [h46]; rfl))) (ap rfl hr)) rfl)
   ·rw [hlab,cond_true] at hr
    rw [bY (s':=(((i+1:Nat):Int),((i+1:Nat):Int)))]
    ·rw [Bool.true_and]
     exact nU s hs rest [] (i+1) (i+1) k (by simp) hd2 (by omega) (by simp) (by simp at hf; omega)
    ·unfold mS
     exact ar lt (aI (s:=((i+1:Nat):Int)) (aI (s:=false) (ar lt2 (az hchr (by rw [h46]; rfl))) (ap rfl (hr.trans (az w rfl)))) (az w rfl))
  ·rw [if_neg h46]
   have hx46:(x != 46)=true:=by simpa using h46
   have hlb:=DN x
   have hin:((eE s (i:Int)).bind fun v10 =>
       (cA v10).bind fun v11 =>
       cond ((!v11))
        ((eE s (i:Int)).bind fun v12 =>
        (cI v12).bind fun v13 =>
        cond ((!v13))
         ((eE s (i:Int)).bind fun v14 =>
         some (Sum.inl (β:=(Int⊕((Int×Int)⊕((Unit)⊕Bool)))) (v14 != 45)))
         (some (.inl false)))
        (some (.inl false)))=some (.inl (!xk x)):=by
    rw [hlb]
    refine az hchr (az (Bc x) ?_)
    cases Ad x
    ·refine ar rfl (az hchr (az (Dk x) ?_))
     cases yT x
     ·exact ar rfl (az hchr rfl)
     ·rfl
    ·rfl
   cases hl1:xk x
   ·rw [hl1] at hin
    rw [bS (o := .inr false)]
    ·rfl
    ·unfold mS
     exact ar lt (kK (a := .inr (.inr false)) (aI (s:=true) (ar lt2 (az hchr (by rw [hx46]))) (ar rfl (aI (s:=true) hin rfl))) rfl)
   ·rw [hl1] at hin
    rw [bY (s':=((f:Int),((i+1:Nat):Int)))]
    ·rw [Bool.true_and]
     refine nU s hs rest (cur++[x]) f (i+1) k (by simp; omega) hd2 (by omega) (fun j hj => ?_) (by simp at hf; omega)
     simp at hj
     by_cases hj2:j<cur.length
     ·rw [hc j hj2,List.getD_eq_getElem?_getD,List.getD_eq_getElem?_getD,List.getElem?_append_left hj2]
     ·have hj3:j=cur.length:=by omega
      subst hj3
      rw [hl,hx]
      simp
    ·unfold mS
     exact ar lt (aI (s:=(f:Int)) (aI (s:=true) (ar lt2 (az hchr (by rw [hx46]))) (ar rfl (aI (s:=false) hin rfl))) (az w rfl))
theorem Aw (s:Hd):eg s=some (uo (aP s)):=by
 unfold eg uo
 rw [bR]
 have hin:=wL (s.size:Int) 1 255
 by_cases h:1≤s.size∧s.size≤255
 ·rw [decide_eq_true (by omega),decide_eq_true (by omega)] at hin
  refine az hin (ap rfl ?_)
  rw [decide_eq_true h.2,Bool.true_and,Ef]
  have:=nU s (by omega) (aP s) [] 0 0 cq rfl rfl (by omega) (by simp) (by rw [bR]; unfold cq; omega)
  change aF (bm (mS s) cq ((0:Nat),(0:Nat))) _ _=_
  rw [this]
  cases rC [] (aP s) <;> rfl
 ·have hn:(decide ((1:Int)≤(s.size:Int))&&decide ((s.size:Int)≤255))=false:=by
   by_cases h1:1≤s.size
   ·rw [decide_eq_true (by omega),decide_eq_false (by omega)]; rfl
   ·rw [decide_eq_false (by omega)]; rfl
  rw [hn] at hin
  refine az hin (ar rfl ?_)
  by_cases h1:1≤s.size
  ·rw [decide_eq_false (by omega)]; rfl
  ·have:aP s=[]:=List.eq_nil_of_length_eq_zero (by rw [bR]; omega)
   rw [this]
   simp [jr,qS]
theorem gA (a b:T_Path):cR a b=some (decide (a=b)):=by
 unfold cR
 refine aI (s:=decide (a=b)) (az rfl ?_) rfl
 rw [gf,gf]
 obtain ⟨an,al,ad⟩:=a
 obtain ⟨bn,bl,bd⟩:=b
 cases h:an==bn
 ·have:an≠bn:=by simpa using h
  refine ap rfl ?_
  simp [this]
 ·have:an=bn:=by simpa using h
  refine ar rfl ?_
  subst this
  by_cases h2:al=bl
  ·rw [decide_eq_true h2]
   subst h2
   refine ar rfl ?_
   simp
  ·rw [decide_eq_false h2]
   refine ap rfl ?_
   simp [h2]
theorem xB:(List.range 256).all (fun k=>decide (dw ((k:Nat):Int)=some (Ai ((k:Nat):Int))))=true:=by kernel_rfl
theorem Ch {c:Int} (hc:0≤c∧c<256):dw c=some (Ai c):=by
 simpa using sJ (fun c=>decide (dw c=some (Ai c))) xB hc
def mK (p x:Int):Bool:=if x=46 then decide (p≠46) else Ai x
def sK (p:Int) (l:List Int):Bool:=rh mK p l&&decide ((p::l).getLast? ≠ some 46)
theorem pO:∀ (l:List Int) (p:Int),sK p l=match jr 46 l with
  | []=>true
  | a::ps=>(if p=46 then lY a else a.all Ai)&&ps.all lY
 | [],p=>by
  unfold sK
  simp only [rh,jr,Bool.true_and,List.getLast?_singleton,List.all_nil,Bool.and_true]
  by_cases h:p=46
  ·simp [h,lY]
  ·simp [h]
 | x::r,p=>by
  have ih:=pO r x
  have hne:=qO 46 r
  unfold jr
  have e:sK p (x::r)=(mK p x&&sK x r):=by
   unfold sK
   simp only [rh,List.getLast?_cons_cons,Bool.and_assoc]
  rw [e,ih]
  cases hs:jr 46 r with
  | nil=>exact absurd hs hne
  | cons a ps =>
   by_cases hx:x=46
   ·subst hx
    simp only [mK,if_true,List.all_cons]
    by_cases hp:p=46
    ·subst hp; simp [lY]
    ·simp [hp]
   ·simp only [mK,if_neg hx,List.all_cons]
    by_cases hp:p=46
    ·subst hp; simp [lY,Bool.and_assoc]
    ·simp [hp,Bool.and_assoc]
theorem Bf (l:List Int) (hne:l≠[]) (h46:l.head? ≠ some 46) (hl:l.getLast? ≠ some 46):(jr 46 l).all lY=rh mK 0 l:=by
 have h:=pO l 46
 have e1:sK 46 l=rh mK 0 l:=by
  cases l with
  | nil=>exact absurd rfl hne
  | cons x r =>
   have hx:x≠46:=by simpa using h46
   unfold sK
   simp only [rh,List.getLast?_cons_cons,mK,if_neg hx]
   rw [decide_eq_true hl,Bool.and_true]
 rw [← e1,h]
 cases hs:jr 46 l with
 | nil=>exact absurd hs (qO 46 l)
 | cons a ps=>simp
theorem xR {l:List Int} (h:l.head? = some 46):(jr 46 l).all lY=false:=by
 cases l with
 | nil=>simp at h
 | cons x r=>simp at h; subst h; simp [jr,lY]
theorem zg {l:List Int} (h:l.getLast? = some 46):(jr 46 l).all lY=false:=by
 have h2:=pO l 46
 have e:(jr 46 l).all lY=sK 46 l:=by
  rw [h2]
  cases hs:jr 46 l with
  | nil=>exact absurd hs (qO 46 l)
  | cons a ps=>simp
 rw [e]
 unfold sK
 cases l with
 | nil=>simp at h
 | cons x r=>rw [List.getLast?_cons_cons,h]; simp
theorem Ar (s:Hd):et s=some (rF (aP s)):=by
 unfold et rF
 rw [bR]
 by_cases h:1≤s.size∧s.size≤64
 ·have hn:(decide ((1:Int)≤(s.size:Int))&&decide ((s.size:Int)≤64))=true:=by rw [decide_eq_true (by omega),decide_eq_true (by omega)]; rfl
  have hin:=wL (s.size:Int) 1 64
  rw [hn] at hin
  have hne:aP s≠[]:=by intro e; have:=bR s; rw [e] at this; simp at this; omega
  have hh:=nO hne
  have hg:=nD hne
  rw [bR] at hg
  have c0:=kT (s:=s) (i:=0) (by omega)
  have c1:=kT (s:=s) (i:=s.size-1) (by omega)
  have e1:((s.size-1:Nat):Int)=(s.size:Int)-1:=by omega
  rw [e1] at c1
  rw [decide_eq_true h.2,Bool.true_and]
  by_cases h0:(aP s).getD 0 0=46
  ·rw [h0] at hh c0
   rw [xR hh]
   exact aI (s:=true) (az hin (ap rfl (az c0 (ar rfl rfl)))) rfl
  ·by_cases hl:(aP s).getD (s.size-1) 0=46
   ·rw [hl] at hg c1
    rw [zg hg]
    exact aI (s:=true) (az hin (ap rfl (az c0 (ap (by simpa using h0) (az (jJ (by omega) (by omega)) (az c1 rfl)))))) rfl
   ·rw [Bf _ hne (by rw [hh]; simpa using h0) (by rw [hg]; simpa using hl)]
    refine aI (s:=false) (az hin (ap rfl (az c0 (ap (by simpa using h0) (az (jJ (by omega) (by omega)) (az c1 (by rw [show ((aP s).getD (s.size-1) 0==46)=false by simpa using hl])))))) ) (ap rfl ?_)
    let q:Nat→Bool:=fun i=>mK ((0::aP s).getD i 0) ((aP s).getD i 0)
    have hl2:=fun (g:Int→Option (Int⊕(Unit⊕Bool)))=>dS (R:=Bool) (f:=g) q s.size false (fuel:=cq) (by unfold cq; omega)
    have hiff:=um mK (aP s) 0
    rw [bR] at hiff
    have prev:∀ i,i<s.size→(aP s).getD i 0=46→eE s ((i:Int)-1)=some ((0::aP s).getD i 0):=by
     intro i hi h46
     cases i with
     | zero=>exact absurd h46 h0
     | succ i =>
      have:=kT (s:=s) (i:=i) (by omega)
      have e:((i+1:Nat):Int)-1=(i:Int):=by omega
      rw [e,this]; rfl
    rw [show rh mK 0 (aP s)=decide (∀ i,i<s.size→q i=true) by rw [Bool.eq_iff_iff,decide_eq_true_eq]; exact hiff.symm]
    refine (congrArg (fun m=>aF m _ _) (hl2 _ ?_ ?_ ?_)).trans ?_
    ·intro i hi hq
     have w:some (IntKind.i64.wrap ((i:Int)-1))=some ((i:Int)-1):=jJ (by omega) (by omega)
     have w2:some (IntKind.i64.wrap ((i:Int)+1))=some ((i+1:Nat):Int):=by rw [aX (by omega)]
     refine ar (decide_eq_true (by omega)) (aI (s:=false) (az (kT hi) ?_) (ap rfl (az w2 rfl)))
     by_cases h46:(aP s).getD i 0=46
     ·refine ar (by rw [h46]; rfl) (az w (az (prev i hi h46) ?_))
      have hp:(0::aP s).getD i 0≠46:=by
       simp only [q,mK,if_pos h46,decide_eq_true_eq] at hq
       exact hq
      exact ap (by simpa using hp) (az (kT hi) (ap (by rw [h46]; rfl) rfl))
     ·refine ap (by simpa using h46) (az (kT hi) (ar (by simpa using h46) (az (kT hi) (az (Ch (lJ s hi)) ?_))))
      simp only [q,mK,if_neg h46] at hq
      rw [hq]; rfl
    ·intro i hi hq
     have w:some (IntKind.i64.wrap ((i:Int)-1))=some ((i:Int)-1):=jJ (by omega) (by omega)
     refine ar (decide_eq_true (by omega)) (aI (s:=true) (az (kT hi) ?_) (ar rfl rfl))
     by_cases h46:(aP s).getD i 0=46
     ·refine ar (by rw [h46]; rfl) (az w (az (prev i hi h46) ?_))
      have hp:(0::aP s).getD i 0=46:=by
       simp only [q,mK,if_pos h46,decide_eq_false_iff_not,ne_eq] at hq
       exact Decidable.not_not.1 hq
      exact ar (by rw [hp]; rfl) rfl
     ·refine ap (by simpa using h46) (az (kT hi) (ar (by simpa using h46) (az (kT hi) (az (Ch (lJ s hi)) ?_))))
      simp only [q,mK,if_neg h46] at hq
      rw [hq]; rfl
    ·exact ap (decide_eq_false (by omega)) rfl
    ·by_cases hall:∀ i,i<s.size→q i=true
     ·rw [if_pos hall,decide_eq_true hall]; rfl
     ·rw [if_neg hall,decide_eq_false hall]; rfl
 ·have hn:(decide ((1:Int)≤(s.size:Int))&&decide ((s.size:Int)≤64))=false:=by
   by_cases h1:1≤s.size
   ·rw [decide_eq_true (by omega),decide_eq_false (by omega)]; rfl
   ·rw [decide_eq_false (by omega)]; rfl
  have hin:=wL (s.size:Int) 1 64
  rw [hn] at hin
  refine aI (s:=true) (az hin rfl) (ar rfl ?_)
  by_cases h1:1≤s.size
  ·rw [decide_eq_false (by omega)]; rfl
  ·have:aP s=[]:=List.eq_nil_of_length_eq_zero (by rw [bR]; omega)
   rw [this]
   simp [jr,lY]
theorem jx (p:T_Path):dy p=some (np p):=by
 unfold dy np
 rw [Dw,Dw]
 cases hn:p.GT
 ·refine ap rfl (aI (s:=rF (aP p.GR)&&uo (aP p.GJ)) (az (Ar p.GR) ?_) rfl)
  cases rF (aP p.GR)
  ·rfl
  ·exact ar rfl (az (Aw p.GJ) rfl)
 ·refine ar rfl (aI (s:=(aP p.GR).isEmpty&&(aP p.GJ).isEmpty) ?_ rfl)
  cases (aP p.GR).isEmpty <;> rfl
def xZ:Int→List Int→Prop
 | _,[]=>True
 | p,x::l=>(x=13→l.head? = some 10)∧(x=10→p=13)∧xZ x l
theorem uc:∀ (b:List Int) (p:Int),xZ p b→p≠13→b.getLast? = some 10→∃ l r,b=l++13::10::r∧ul l∧xZ 10 r∧(r=[]∨r.getLast? = some 10)
 | [],p,_,_,h=>by simp at h
 | x::t,p,h,hp,hl=>by
  obtain ⟨h1,h2,h3⟩:=h
  by_cases hx:x=13
  ·subst hx
   cases t with
   | nil=>simp at hl
   | cons y r =>
    have hy:=h1 rfl
    simp at hy
    subst hy
    refine ⟨[],r,rfl,fun z hz=>by simp at hz,h3.2.2,?_⟩
    cases r with
    | nil=>exact .inl rfl
    | cons z r=>right; rw [List.getLast?_cons_cons,List.getLast?_cons_cons] at hl; exact hl
  ·have hx2:x≠10:=fun e=>hp (h2 e)
   cases t with
   | nil=>simp at hl; exact absurd hl hx2
   | cons y t =>
    rw [List.getLast?_cons_cons] at hl
    obtain ⟨l,r,e,hc,ho,hr⟩:=uc (y::t) x h3 hx hl
    refine ⟨x::l,r,by rw [e]; rfl,fun z hz => ?_,ho,hr⟩
    rcases List.mem_cons.1 hz with rfl | hz
    ·exact ⟨hx,hx2⟩
    ·exact hc z hz
theorem rY:∀ (n:Nat) (b:List Int) (p:Int),b.length≤n→xZ p b→p≠13→(b=[]∨b.getLast? = some 10)→∃ ls,(∀ l∈ls,ul l)∧b=jn ls
 | 0,b,p,hn,_,_,_=>⟨[],fun l hl=>by simp at hl,by cases b with | nil=>rfl | cons=>simp at hn⟩
 | n+1,b,p,hn,ho,hp,hl=>by
  rcases hl with rfl | hl
  ·exact ⟨[],fun l hl=>by simp at hl,rfl⟩
  ·obtain ⟨l,r,e,hc,ho2,hr⟩:=uc b p ho hp hl
   obtain ⟨ls,h1,h2⟩:=rY n r 10 (by rw [e] at hn; simp at hn; omega) ho2 (by decide) hr
   refine ⟨l::ls,fun m hm => ?_,by rw [e,h2]; rfl⟩
   rcases List.mem_cons.1 hm with rfl | hm
   ·exact hc
   ·exact h1 m hm
theorem wh:∀ (l r:List Int) (p:Int),ul l→xZ 10 r→xZ p (l++13::10::r)
 | [],r,p,_,h=>⟨fun _=>rfl,fun e=>by omega,fun e=>by omega,fun _=>rfl,h⟩
 | x::l,r,p,hc,h=>⟨fun e=>absurd e (hc x (by simp)).1,fun e=>absurd e (hc x (by simp)).2,wh l r x (fun y hy=>hc y (by simp [hy])) h⟩
theorem zY:∀ (ls:List (List Int)) (p:Int),(∀ l∈ls,ul l)→xZ p (jn ls)
 | [],_,_=>trivial
 | l::ls,p,h=>wh l (jn ls) p (h l (by simp)) (zY ls 10 fun m hm=>h m (by simp [hm]))
theorem wT:∀ (ls:List (List Int)),jn ls=[]∨(jn ls).getLast? = some 10
 | [] => .inl rfl
 | l::ls=>by
  right
  rcases wT ls with h | h
  ·simp [jn,h]
  ·have:(13::10::jn ls).getLast? = some 10:=by
    cases hj:jn ls with
    | nil=>rfl
    | cons y r=>rw [List.getLast?_cons_cons,List.getLast?_cons_cons,← hj]; exact h
   simp only [jn]
   rw [List.getLast?_append,this]; rfl
def xa (b:List Int) (i:Nat):Bool:=if b[i]? = some 13 then decide (b[i+1]? ≠ some 10) else if b[i]? = some 10 then decide (i=0∨b[i-1]? ≠ some 13) else false
theorem yC:∀ (b:List Int) (p:Int),(∀ i,i<b.length→(b[i]? = some 13→b[i+1]? = some 10)∧(b[i]? = some 10→(if i=0 then some p else b[i-1]?)=some 13))→xZ p b
 | [],_,_=>trivial
 | x::l,p,h=>by
  refine ⟨fun e => ?_,fun e => ?_,yC l x fun i hi => ?_⟩
  ·have:=(h 0 (by simp)).1 (by simp [e])
   cases l with
   | nil=>simp at this
   | cons y l=>simpa using this
  ·have:=(h 0 (by simp)).2 (by simp [e])
   simpa using this
  ·have:=h (i+1) (by simp; omega)
   refine ⟨fun e=>by simpa using this.1 (by simpa using e),fun e => ?_⟩
   have h2:=this.2 (by simpa using e)
   rw [if_neg (by omega)] at h2
   cases i with
   | zero=>simpa using h2
   | succ i=>simpa using h2
theorem CO {b:List Int} (h:∀ i,i<b.length→(!xa b i)=true):xZ 0 b:=by
 refine yC b 0 fun i hi => ?_
 have h1:=h i hi
 simp only [xa,Bool.not_eq_true'] at h1
 refine ⟨fun e => ?_,fun e => ?_⟩
 ·rw [if_pos e,decide_eq_false_iff_not,Classical.not_not] at h1; exact h1
 ·rw [e] at h1
  rw [if_neg (by simp),if_pos rfl,decide_eq_false_iff_not,not_or,Classical.not_not] at h1
  rw [if_neg h1.1]; exact h1.2
theorem nX {b:List Int} {i:Nat} (h:i<b.length):b[i]? = some b[i]:=List.getElem?_eq_getElem h
theorem lO (b:List Int) {i:Nat} (hi:i<b.length) (hl:b.length<4611686018427387904) :
  ((bL (i:Int) b.length).bind fun v2 =>
     (aA b v2).bind fun v3 =>
     cond ((v3==13))
      ((some (IntKind.i64.wrap ((i:Int)+1))).bind fun v4 =>
      cond ((decide ((b.length:Int)≤v4)))
       (some (.inl true))
       ((some (IntKind.i64.wrap ((i:Int)+1))).bind fun v5 =>
       (bL v5 b.length).bind fun v6 =>
       (aA b v6).bind fun v7 =>
       cond ((v7 != 10))
        (some (.inl true))
        ((bL (i:Int) b.length).bind fun v8 =>
        (aA b v8).bind fun v9 =>
        cond ((v9==10))
         (cond (((i:Int)==0))
          (some (.inl true))
          ((some (IntKind.i64.wrap ((i:Int)-1))).bind fun v10 =>
          (bL v10 b.length).bind fun v11 =>
          (aA b v11).bind fun v12 =>
          some (.inl (v12 != 13))))
         (some (.inl false)))))
      ((bL (i:Int) b.length).bind fun v13 =>
      (aA b v13).bind fun v14 =>
      cond ((v14==10))
       (cond (((i:Int)==0))
        (some (.inl true))
        ((some (IntKind.i64.wrap ((i:Int)-1))).bind fun v15 =>
        (bL v15 b.length).bind fun v16 =>
        (aA b v16).bind fun v17 =>
        some (.inl (v17 != 13))))
       (some (.inl false))):Option (Bool⊕((Int)⊕((Unit)⊕Bool))))=some (.inl (xa b i)):=by
 have e0:some (IntKind.i64.wrap ((i:Int)+1))=some ((i+1:Nat):Int):=by rw [kt (by omega) (by omega)]; simp
 refine az (aR hi) (az (iu hi) ?_)
 by_cases h13:b[i]=13
 ·refine ar (by rw [h13]; rfl) (az e0 ?_)
  unfold xa
  rw [nX hi,if_pos (by rw [h13])]
  by_cases hn:i+1<b.length
  ·refine ap (decide_eq_false (by omega)) (az e0 (az (aR hn) (az (iu hn) ?_)))
   rw [nX hn]
   by_cases h10:b[i+1]=10
   ·refine ap (by rw [h10]; rfl) (az (aR hi) (az (iu hi) (ap (by rw [h13]; rfl) ?_)))
    simp [h10]
   ·refine ar (by simpa using h10) ?_
    simp [h10]
  ·refine ar (decide_eq_true (by omega)) ?_
   rw [List.getElem?_eq_none (by omega)]; rfl
 ·refine ap (by simpa using h13) (az (aR hi) (az (iu hi) ?_))
  unfold xa
  rw [nX hi,if_neg (by simpa using h13)]
  by_cases h10:b[i]=10
  ·refine ar (by rw [h10]; rfl) ?_
   rw [if_pos (by rw [h10])]
   cases i with
   | zero=>rfl
   | succ i =>
    refine ap (by rw [beq_eq_false_iff_ne]; omega) (az (x:=((i:Nat):Int)) (by rw [kt (by omega) (by omega)]; simp) (az (aR (by omega)) (az (iu (by omega)) ?_)))
    rw [show i+1-1=i by omega,nX (by omega)]
    congr 2
    rw [Bool.eq_iff_iff,bne_iff_ne,decide_eq_true_eq]
    simp
  ·refine ap (by simpa using h10) ?_
   rw [if_neg (by simpa using h10)]
theorem ur (b:List Int) (hb:jF b) (hl:b.length<4294967281):bO b=some false∨(bO b=some true∧∃ ls,(∀ l∈ls,ul l)∧(∀ l∈ls,jF l)∧b=jn ls):=by
 have hloop:=dS (R:=Bool) (f:=fun (s31:Int)=>cond ((decide (s31<(b.length:Int))))
    (aF (S:=Bool) (A:=((Int)⊕((Unit)⊕Bool)))
     ((bL s31 b.length).bind fun v2 =>
     (aA b v2).bind fun v3 =>
     cond ((v3==13))
      ((some (IntKind.i64.wrap (s31+1))).bind fun v4 =>
      cond ((decide ((b.length:Int)≤v4)))
       (some (.inl true))
       ((some (IntKind.i64.wrap (s31+1))).bind fun v5 =>
       (bL v5 b.length).bind fun v6 =>
       (aA b v6).bind fun v7 =>
       cond ((v7 != 10))
        (some (.inl true))
        ((bL s31 b.length).bind fun v8 =>
        (aA b v8).bind fun v9 =>
        cond ((v9==10))
         (cond ((s31==0))
          (some (.inl true))
          ((some (IntKind.i64.wrap (s31-1))).bind fun v10 =>
          (bL v10 b.length).bind fun v11 =>
          (aA b v11).bind fun v12 =>
          some (.inl (v12 != 13))))
         (some (.inl false)))))
      ((bL s31 b.length).bind fun v13 =>
      (aA b v13).bind fun v14 =>
      cond ((v14==10))
       (cond ((s31==0))
        (some (.inl true))
        ((some (IntKind.i64.wrap (s31-1))).bind fun v15 =>
        (bL v15 b.length).bind fun v16 =>
        (aA b v16).bind fun v17 =>
        some (.inl (v17 != 13))))
       (some (.inl false))))
     (fun (s45:Bool) =>
      cond (s45)
       (some (.inr (.inr (false))))
       ((some (IntKind.i64.wrap (s31+1))).bind fun v23 =>
       some (.inl v23))) some)
    (some (.inr (.inl ())))) (fun i => !xa b i) b.length false (fuel:=cq) (by unfold cq; omega)
  (fun i hi hp=>ar (decide_eq_true (by omega)) (aI (s:=xa b i) (lO b hi (by omega)) (ap (by simpa using hp) (az (rS (by omega) (by omega)) rfl))))
  (fun i hi hp=>ar (decide_eq_true (by omega)) (aI (s:=xa b i) (lO b hi (by omega)) (ar (by simpa using hp) rfl)))
  (ap (decide_eq_false (by omega)) rfl)
 by_cases hall:∀ i,i<b.length→(!xa b i)=true
 ·rw [if_pos hall] at hloop
  have ho:=CO hall
  cases hbn:b with
  | nil=>right; subst hbn; exact ⟨rfl,[],fun l hl=>by simp at hl,fun l hl=>by simp at hl,rfl⟩
  | cons y t =>
   rw [← hbn]
   have hpos:0<b.length:=by rw [hbn]; simp
   have hlast:b.getLast? = some (b[b.length-1]'(by omega)):=by rw [List.getLast?_eq_getElem?,nX (by omega)]
   have key:bO b=some (b[b.length-1]'(by omega)==10):=by
    unfold bO
    refine aI (s:=()) hloop (aI (s:=(b[b.length-1]'(by omega)==10)) (ap (by rw [beq_eq_false_iff_ne]; omega) (az (x:=((b.length-1:Nat):Int)) (by rw [kt (by omega) (by omega)]; congr 1; omega) (az (aR (by omega)) (az (iu (by omega)) rfl)))) rfl)
   by_cases h10:b[b.length-1]'(by omega)=10
   ·right
    rw [key,h10]
    obtain ⟨ls,h1,h2⟩:=rY b.length b 0 (Nat.le_refl _) ho (by decide) (.inr (by rw [hlast,h10]))
    exact ⟨rfl,ls,h1,CC (by rw [← h2]; exact hb),h2⟩
   ·left
    rw [key,beq_eq_false_iff_ne.2 h10]
 ·rw [if_neg hall] at hloop
  left
  unfold bO
  exact kK (a:=false) hloop rfl
theorem wG:∀ (b:List Int) (p:Int),xZ p b→∀ i,i<b.length→(b[i]? = some 13→b[i+1]? = some 10)∧(b[i]? = some 10→(if i=0 then some p else b[i-1]?)=some 13)
 | x::l,p,h,0,_=>by
  obtain ⟨h1,h2,h3⟩:=h
  refine ⟨fun e => ?_,fun e => ?_⟩
  ·have:=h1 (by simpa using e)
   cases l with
   | nil=>simp at this
   | cons y l=>simpa using this
  ·have:=h2 (by simpa using e)
   simp [this]
 | x::l,p,h,i+1,hi=>by
  have:=wG l x h.2.2 i (by simpa using hi)
  refine ⟨fun e=>by simpa using this.1 (by simpa using e),fun e => ?_⟩
  have h2:=this.2 (by simpa using e)
  rw [if_neg (by omega)]
  cases i with
  | zero=>simpa using h2
  | succ i=>simpa using h2
theorem BG {b:List Int} (h:xZ 0 b):∀ i,i<b.length→(!xa b i)=true:=by
 intro i hi
 obtain ⟨h1,h2⟩:=wG b 0 h i hi
 simp only [xa,Bool.not_eq_true']
 split
 ·rename_i e
  rw [decide_eq_false_iff_not,Classical.not_not]; exact h1 e
 ·split
  ·rename_i e
   have:=h2 e
   rw [decide_eq_false_iff_not,not_or,Classical.not_not]
   by_cases h0:i=0
   ·rw [if_pos h0] at this; simp at this
   ·rw [if_neg h0] at this; exact ⟨h0,this⟩
  ·rfl
theorem ze (b:List Int) (ho:xZ 0 b) (he:b=[]∨b.getLast? = some 10) (hl:b.length<4294967281):bO b=some true:=by
 have hloop:=dS (R:=Bool) (f:=fun (s31:Int)=>cond ((decide (s31<(b.length:Int))))
   (aF (S:=Bool) (A:=((Int)⊕((Unit)⊕Bool)))
    ((bL s31 b.length).bind fun v2 =>
    (aA b v2).bind fun v3 =>
    cond ((v3==13))
     ((some (IntKind.i64.wrap (s31+1))).bind fun v4 =>
     cond ((decide ((b.length:Int)≤v4)))
      (some (.inl true))
      ((some (IntKind.i64.wrap (s31+1))).bind fun v5 =>
      (bL v5 b.length).bind fun v6 =>
      (aA b v6).bind fun v7 =>
      cond ((v7 != 10))
       (some (.inl true))
       ((bL s31 b.length).bind fun v8 =>
       (aA b v8).bind fun v9 =>
       cond ((v9==10))
        (cond ((s31==0))
         (some (.inl true))
         ((some (IntKind.i64.wrap (s31-1))).bind fun v10 =>
         (bL v10 b.length).bind fun v11 =>
         (aA b v11).bind fun v12 =>
         some (.inl (v12 != 13))))
        (some (.inl false)))))
     ((bL s31 b.length).bind fun v13 =>
     (aA b v13).bind fun v14 =>
     cond ((v14==10))
      (cond ((s31==0))
       (some (.inl true))
       ((some (IntKind.i64.wrap (s31-1))).bind fun v15 =>
       (bL v15 b.length).bind fun v16 =>
       (aA b v16).bind fun v17 =>
       some (.inl (v17 != 13))))
      (some (.inl false))))
    (fun (s45:Bool) =>
     cond (s45)
      (some (.inr (.inr (false))))
      ((some (IntKind.i64.wrap (s31+1))).bind fun v23 =>
      some (.inl v23))) some)
   (some (.inr (.inl ())))) (fun i => !xa b i) b.length false (fuel:=cq) (by unfold cq; omega)
  (fun i hi hp=>ar (decide_eq_true (by omega)) (aI (s:=xa b i) (lO b hi (by omega)) (ap (by simpa using hp) (az (rS (by omega) (by omega)) rfl))))
  (fun i hi hp=>ar (decide_eq_true (by omega)) (aI (s:=xa b i) (lO b hi (by omega)) (ar (by simpa using hp) rfl)))
  (ap (decide_eq_false (by omega)) rfl)
 rw [if_pos (BG ho)] at hloop
 rcases he with rfl | he
 ·rfl
 have hpos:0<b.length:=by
  cases b with
  | nil=>simp at he
  | cons=>simp
 have hlast:b[b.length-1]'(by omega)=10:=by
  rw [List.getLast?_eq_getElem?,nX (by omega)] at he
  exact Option.some.inj he
 unfold bO
 refine aI (s:=()) hloop (aI (s:=true) (ap (by rw [beq_eq_false_iff_ne]; omega) (az (x:=((b.length-1:Nat):Int)) (by rw [kt (by omega) (by omega)]; congr 1; omega) (az (aR (by omega)) (az (iu (by omega)) (by rw [hlast]; rfl))))) rfl)
theorem Bt {ls:List (List Int)} (hc:∀ l∈ls,ul l) (hl:tR ls<4294967281):bO (jn ls)=some true :=
 ze _ (zY ls 0 hc) (wT ls) (by rw [kC]; exact hl)
set_option maxRecDepth 100000
def e8:Hd:=⟨#[]⟩
def nr:T_Mail:=T_Mail.mk (T_Path.mk false e8 e8) [] [] false e8 0
def iK (r:T_Rec):T_Rec :=
 if r.GQ=1 then ⟨r.GQ,r.GS,r.Id,[],r.GW,0,0,[]⟩
 else if r.GQ=2 then ⟨r.GQ,nr,0,r.GO,0,r.GU,0,[]⟩
 else if r.GQ=3 then ⟨r.GQ,nr,0,[],0,r.GU,0,[]⟩
 else if r.GQ=4 then ⟨r.GQ,nr,r.Id,[],0,0,0,[]⟩
 else if r.GQ=5 then ⟨r.GQ,nr,0,[],0,r.GU,r.GV,r.GI⟩
 else if r.GQ=6 then ⟨r.GQ,nr,0,[],0,r.GU,0,[]⟩
 else ⟨r.GQ,nr,0,[],0,0,0,[]⟩
def pN (b:List Int):Bool:=(bO b).getD false
def me (m:T_Mail):Bool:=np m.GM&&(decide (1≤m.To.length∧m.To.length≤8)&&(pN m.GH&&(decide (0≤m.At∧m.At≤1099511627776)&&decide (∀ p∈m.To,np p=true∧p.GT=false))))
def pc (s:ai) (r:T_Rec):Bool:=decide (iK r=r)&&(
 if r.GQ=1 then decide (s.GP.length<60∧r.Id=(s.GP.length:Int)+1∧(r.GW=0∨r.GW=1))&&me r.GS
 else if r.GQ=2 then decide (r.GU=s.GY+1)&&rB s r.GO
 else if r.GQ=3 then decide (1≤r.GU∧r.GU≤s.GY∧r.GU ∉ s.Hb)
 else if r.GQ=4 then wt s r.Id
 else if r.GQ=5 then py s r.GU&&xY s r
 else if r.GQ=6 then py s r.GU
 else false)
def Ag (x:ae):Prop:=(x.Hc=1→x.GX=0)∧(x.GX≠0→x.Hc=2∨x.Hc=3)
def FR (a b:Int):Prop:=a=b∨(a=1∧(b=2∨b=4))∨(a=2∧b=3)
structure yf (a b:ae):Prop where
 id:a.Id=b.Id
 mail:a.GS=b.GS
 FR:FR a.Hc b.Hc
 pack:a.GX≠0→a.GX=b.GX
theorem kf (a:ae):yf a a:=⟨rfl,rfl,.inl rfl,fun _=>rfl⟩
structure Next (s t:ai):Prop where
 len:s.GP.length≤t.GP.length
 len1:t.GP.length≤s.GP.length+1
 packs:s.GY≤t.GY
 done:s.GK.length≤t.GK.length
 sent:s.Hb.length≤t.Hb.length
 goes:∀ k (h:k<s.GP.length) (h':k<t.GP.length),yf s.GP[k] t.GP[k]
 new:∀ h:s.GP.length<t.GP.length,t.GP[s.GP.length].Hc=1∨t.GP[s.GP.length].Hc=3
 stt:∀ x∈t.GP,Ag x
theorem De {s:ai} {ids:List Int} (h:rB s ids=true):∀ n∈ids,wt s n=true:=by
 intro n hn
 obtain ⟨i,hi,rfl⟩:=List.getElem_of_mem hn
 simp only [rB,Bool.and_eq_true,decide_eq_true_eq] at h
 have h2:=h.2 i hi
 simp only [sa,Bool.and_eq_true] at h2
 have e:ids.getD i 0=ids[i]:=by simp [List.getD,hi]
 rw [e] at h2
 exact h2.2
theorem wA {s:ai} (hid:Ids s) {k:Nat} (hk:k<s.GP.length) (h:wt s s.GP[k].Id=true):s.GP[k].Hc=1:=by
 obtain ⟨j,hj,he,hs⟩:=Ct h
 rw [hid k hk] at he
 obtain rfl:j=k:=by omega
 exact hs
theorem rf {s:ai} (f:ae→ae) (hs:∀ x∈s.GP,Ag x) (hg:∀ k (h:k<s.GP.length),yf s.GP[k] (f s.GP[k])∧Ag (f s.GP[k])) {p:Int} {a b d:List Int} {o:Int} (hp:s.GY≤p) (ha:s.Hb.length≤a.length) (hd:s.GK.length≤d.length):Next s ⟨s.GP.map f,p,a,b,o,d⟩:=by
 refine ⟨by simp,by simp,hp,hd,ha,fun k h h' => ?_,fun h=>absurd h (by simp),fun x hx => ?_⟩
 ·show yf s.GP[k] ((s.GP.map f)[k]'h')
  rw [List.getElem_map]; exact (hg k h).1
 ·obtain ⟨y,hy,rfl⟩:=List.mem_map.1 hx
  obtain ⟨k,hk,rfl⟩:=List.getElem_of_mem hy
  exact (hg k hk).2
theorem sw {s:ai} (hs:∀ x∈s.GP,Ag x) {p:Int} {a b d:List Int} {o:Int} (hp:s.GY≤p) (ha:s.Hb.length≤a.length) (hd:s.GK.length≤d.length):Next s ⟨s.GP,p,a,b,o,d⟩ :=
 ⟨Nat.le_refl _,by simp,hp,hd,ha,fun k h h'=>kf _,fun h=>absurd h (by simp),hs⟩
theorem yZ {n:Nat} {s:ai} {r:T_Rec} (hi:sD n s) (hs:∀ x∈s.GP,Ag x) (ho:pC s r=true):Next s (iS s r):=by
 have hpk:=hi.packs
 rcases mH ho with ⟨k,a,b,c⟩ | ⟨k,a,b⟩ | ⟨k,a,b,c⟩ | ⟨k,a⟩ | ⟨k,a,b⟩ | ⟨k,a⟩
 ·rw [xg k]
  refine ⟨by simp,by simp,Int.le_refl _,Nat.le_refl _,Nat.le_refl _,fun k h h' => ?_,fun h => ?_,fun x hx => ?_⟩
  ·show yf s.GP[k] ((s.GP++[_])[k]'h')
   rw [List.getElem_append_left h]; exact kf _
  ·show ((s.GP++[_])[s.GP.length]'h).Hc=1∨((s.GP++[_])[s.GP.length]'h).Hc=3
   rw [List.getElem_append_right (by omega)]
   simp only [Nat.sub_self,List.getElem_cons_zero]
   split
   ·exact .inr rfl
   ·exact .inl rfl
  ·rcases List.mem_append.1 hx with h | h
   ·exact hs x h
   ·rw [List.mem_singleton.1 h]
    exact ⟨fun _=>rfl,fun h=>absurd rfl h⟩
 ·rw [xj k]
  refine rf _ hs (fun j hj => ?_) (by omega) (Nat.le_refl _) (Nat.le_refl _)
  by_cases hm:s.GP[j].Id∈r.GO
  ·have h1:=wA hi.ids hj (De b _ hm)
   have h0:=(hs _ (List.getElem_mem hj)).1 h1
   simp only [f2,if_pos hm]
   exact ⟨⟨rfl,rfl,.inr (.inl ⟨h1,.inl rfl⟩),fun h=>absurd h0 h⟩,⟨fun h=>absurd h (by show (2:Int)≠1; omega),fun _ => .inl rfl⟩⟩
  ·simp only [f2,if_neg hm]
   exact ⟨kf _,hs _ (List.getElem_mem hj)⟩
 ·rw [xp k]
  refine rf _ hs (fun j hj => ?_) (Int.le_refl _) (by simp) (Nat.le_refl _)
  by_cases hm:s.GP[j].GX=r.GU
  ·have h1:=(hs _ (List.getElem_mem hj)).2 (by omega)
   simp only [f3,if_pos hm]
   exact ⟨⟨rfl,rfl,h1.elim (fun h => .inr (.inr ⟨h,rfl⟩)) (fun h => .inl h),fun h=>rfl⟩,⟨fun h=>absurd h (by show (3:Int)≠1; omega),fun _ => .inr rfl⟩⟩
  ·simp only [f3,if_neg hm]
   exact ⟨kf _,hs _ (List.getElem_mem hj)⟩
 ·rw [xU k]
  refine rf _ hs (fun j hj => ?_) (Int.le_refl _) (Nat.le_refl _) (Nat.le_refl _)
  by_cases hm:s.GP[j].Id=r.Id
  ·have h1:=wA hi.ids hj (by rw [hm]; exact a)
   have h0:=(hs _ (List.getElem_mem hj)).1 h1
   simp only [f4,if_pos hm]
   exact ⟨⟨rfl,rfl,.inr (.inl ⟨h1,.inr rfl⟩),fun h=>rfl⟩,⟨fun h=>absurd h (by show (4:Int)≠1; omega),fun h=>absurd h0 h⟩⟩
  ·simp only [f4,if_neg hm]
   exact ⟨kf _,hs _ (List.getElem_mem hj)⟩
 ·rw [vh k]
  exact sw hs (Int.le_refl _) (Nat.le_refl _) (Nat.le_refl _)
 ·rw [xh k]
  exact sw hs (Int.le_refl _) (Nat.le_refl _) (by rw [qp]; omega)
theorem fP (a b:List T_Path) (hl:a.length<4294967296):dz a b=some (decide (a=b)):=by
 unfold dz
 by_cases hlen:a.length=b.length
 ·refine ap (by simp [hlen]) ?_
  have h:=dS (R:=Bool) (f:=FZ a b) (fun i=>decide (a[i]? = b[i]?)) a.length false (fuel:=cq) (by simp only [cq]; omega) (fun i hi hp => ?_) (fun i hi hp => ?_) (ap (decide_eq_false (by omega)) rfl)
  ·by_cases he:a=b
   ·rw [decide_eq_true he]
    rw [if_pos (fun i _=>by rw [he]; simp)] at h
    exact aI h rfl
   ·rw [decide_eq_false he]
    rw [if_neg (fun hh=>he (List.ext_getElem? fun i=>by
     by_cases hi:i<a.length
     ·exact of_decide_eq_true (hh i hi)
     ·rw [List.getElem?_eq_none (by omega),List.getElem?_eq_none (by omega)]))] at h
    exact kK h rfl
  ·have hb:i<b.length:=by omega
   have e:=of_decide_eq_true hp
   rw [List.getElem?_eq_getElem hi,List.getElem?_eq_getElem hb] at e
   exact ar (decide_eq_true (by omega)) (az (aR hi) (az (by simp [aA,hi]:aA a i=some a[i]) (az (aR hb) (az (by simp [aA,hb]:aA b i=some b[i]) (az (gA _ _) (ap (by rw [decide_eq_true (Option.some.inj e)]; rfl) (az (congrArg some (aX (n:=i) (by omega))) rfl)))))))
  ·have hb:i<b.length:=by omega
   have e:=of_decide_eq_false hp
   rw [List.getElem?_eq_getElem hi,List.getElem?_eq_getElem hb] at e
   exact ar (decide_eq_true (by omega)) (az (aR hi) (az (by simp [aA,hi]:aA a i=some a[i]) (az (aR hb) (az (by simp [aA,hb]:aA b i=some b[i]) (az (gA _ _) (ar (by rw [decide_eq_false (fun h=>e (congrArg some h))]; rfl) rfl))))))
 ·rw [decide_eq_false (fun h=>hlen (by rw [h]))]
  exact ar (by simp only [bne_iff_ne,ne_eq]; omega) rfl
theorem iy (a b:List Int) (hl:a.length<4294967296):cS a b=some (decide (a=b)):=by
 unfold cS
 by_cases hlen:a.length=b.length
 ·refine ap (by simp [hlen]) ?_
  have h:=dS (R:=Bool) (f:=FX a b) (fun i=>decide (a[i]? = b[i]?)) a.length false (fuel:=cq) (by simp only [cq]; omega) (fun i hi hp => ?_) (fun i hi hp => ?_) (ap (decide_eq_false (by omega)) rfl)
  ·by_cases he:a=b
   ·rw [decide_eq_true he]
    rw [if_pos (fun i _=>by rw [he]; simp)] at h
    exact aI h rfl
   ·rw [decide_eq_false he]
    rw [if_neg (fun hh=>he (List.ext_getElem? fun i=>by
     by_cases hi:i<a.length
     ·exact of_decide_eq_true (hh i hi)
     ·rw [List.getElem?_eq_none (by omega),List.getElem?_eq_none (by omega)]))] at h
    exact kK h rfl
  ·have hb:i<b.length:=by omega
   have e:=of_decide_eq_true hp
   rw [List.getElem?_eq_getElem hi,List.getElem?_eq_getElem hb] at e
   exact ar (decide_eq_true (by omega)) (az (aR hi) (az (by simp [aA,hi]:aA a i=some a[i]) (az (aR hb) (az (by simp [aA,hb]:aA b i=some b[i]) (ap (by rw [Option.some.inj e]; simp) (az (congrArg some (aX (n:=i) (by omega))) rfl))))))
  ·have hb:i<b.length:=by omega
   have e:=of_decide_eq_false hp
   rw [List.getElem?_eq_getElem hi,List.getElem?_eq_getElem hb] at e
   exact ar (decide_eq_true (by omega)) (az (aR hi) (az (by simp [aA,hi]:aA a i=some a[i]) (az (aR hb) (az (by simp [aA,hb]:aA b i=some b[i]) (ar (by simpa using fun h=>e (congrArg some h)) rfl)))))
 ·rw [decide_eq_false (fun h=>hlen (by rw [h]))]
  exact ar (by simp only [bne_iff_ne,ne_eq]; omega) rfl
theorem fH (a b:T_Mail) (h1:a.To.length<4294967296) (h2:a.GH.length<4294967296):cQ a b=some (decide (a=b)):=by
 unfold cQ
 obtain ⟨af,at_,ab,aq,ah,aa⟩:=a
 obtain ⟨bf,bt,bb,bq,bh,ba⟩:=b
 by_cases e1:af=bf
 ·by_cases e2:at_=bt
  ·by_cases e3:ab=bb
   ·by_cases e4:aq=bq
    ·by_cases e5:ah=bh
     ·by_cases e6:aa=ba
      ·subst e1; subst e2; subst e3; subst e4; subst e5; subst e6
       rw [decide_eq_true rfl]
       exact aI (s:=true) (az (gA _ _) (ar (decide_eq_true rfl) (az (fP _ _ h1) (ar (decide_eq_true rfl) (az (fO _ _ h2) (ar (decide_eq_true rfl) (az rfl (ar (beq_self_eq_true _) (ar (by rw [gf]; exact decide_eq_true rfl) (bJ (beq_self_eq_true _))))))))))) rfl
      ·rw [decide_eq_false (fun h=>e6 (by injection h))]
       exact aI (s:=false) (az (gA _ _) (ar (decide_eq_true e1) (az (fP _ _ h1) (ar (decide_eq_true e2) (az (fO _ _ h2) (ar (decide_eq_true e3) (az rfl (ar (beq_iff_eq.2 e4) (ar (by rw [gf]; exact decide_eq_true e5) (bJ (beq_eq_false_iff_ne.2 e6)))))))))))  rfl
     ·rw [decide_eq_false (fun h=>e5 (by injection h))]
      exact aI (s:=false) (az (gA _ _) (ar (decide_eq_true e1) (az (fP _ _ h1) (ar (decide_eq_true e2) (az (fO _ _ h2) (ar (decide_eq_true e3) (az rfl (ar (beq_iff_eq.2 e4) (ap (by rw [gf]; exact decide_eq_false e5) rfl))))))))) rfl
    ·rw [decide_eq_false (fun h=>e4 (by injection h))]
     exact aI (s:=false) (az (gA _ _) (ar (decide_eq_true e1) (az (fP _ _ h1) (ar (decide_eq_true e2) (az (fO _ _ h2) (ar (decide_eq_true e3) (az rfl (ap (beq_eq_false_iff_ne.2 e4) rfl)))))))) rfl
   ·rw [decide_eq_false (fun h=>e3 (by injection h))]
    exact aI (s:=false) (az (gA _ _) (ar (decide_eq_true e1) (az (fP _ _ h1) (ar (decide_eq_true e2) (az (fO _ _ h2) (ap (decide_eq_false e3) rfl)))))) rfl
  ·rw [decide_eq_false (fun h=>e2 (by injection h))]
   exact aI (s:=false) (az (gA _ _) (ar (decide_eq_true e1) (az (fP _ _ h1) (ap (decide_eq_false e2) rfl)))) rfl
 ·rw [decide_eq_false (fun h=>e1 (by injection h))]
  exact aI (s:=false) (az (gA _ _) (ap (decide_eq_false e1) rfl)) rfl
theorem qW (a b:T_Rec) (h1:a.GS.To.length<4294967296) (h2:a.GS.GH.length<4294967296) (h3:a.GO.length<4294967296) (h4:a.GI.length<4294967296):bZ a b=some (decide (a=b)):=by
 unfold bZ
 obtain ⟨a1,a2,a3,a4,a5,a6,a7,a8⟩:=a
 obtain ⟨b1,b2,b3,b4,b5,b6,b7,b8⟩:=b
 by_cases e1:a1=b1
 ·by_cases e2:a2=b2
  ·by_cases e3:a3=b3
   ·by_cases e4:a4=b4
    ·by_cases e5:a5=b5
     ·by_cases e6:a6=b6
      ·by_cases e7:a7=b7
       ·refine aI (s:=decide ((⟨a1,a2,a3,a4,a5,a6,a7,a8⟩:T_Rec)=⟨b1,b2,b3,b4,b5,b6,b7,b8⟩)) (ar (beq_iff_eq.2 e1) (az (fH _ _ h1 h2) (ar (decide_eq_true e2) (ar (beq_iff_eq.2 e3) (az (iy _ _ h3) (ar (decide_eq_true e4) (ar (beq_iff_eq.2 e5) (ar (beq_iff_eq.2 e6) (ar (beq_iff_eq.2 e7) (az (fO _ _ h4) (bJ ?_))))))))))) rfl
        by_cases e8:a8=b8
        ·rw [decide_eq_true e8,decide_eq_true (by rw [e1,e2,e3,e4,e5,e6,e7,e8])]
        ·rw [decide_eq_false e8,decide_eq_false (fun h=>e8 (by injection h))]
       ·rw [decide_eq_false (fun h=>e7 (by injection h))]
        exact aI (s:=false) (ar (beq_iff_eq.2 e1) (az (fH _ _ h1 h2) (ar (decide_eq_true e2) (ar (beq_iff_eq.2 e3) (az (iy _ _ h3) (ar (decide_eq_true e4) (ar (beq_iff_eq.2 e5) (ar (beq_iff_eq.2 e6) (ap (beq_eq_false_iff_ne.2 e7) rfl))))))))) rfl
      ·rw [decide_eq_false (fun h=>e6 (by injection h))]
       exact aI (s:=false) (ar (beq_iff_eq.2 e1) (az (fH _ _ h1 h2) (ar (decide_eq_true e2) (ar (beq_iff_eq.2 e3) (az (iy _ _ h3) (ar (decide_eq_true e4) (ar (beq_iff_eq.2 e5) (ap (beq_eq_false_iff_ne.2 e6) rfl)))))))) rfl
     ·rw [decide_eq_false (fun h=>e5 (by injection h))]
      exact aI (s:=false) (ar (beq_iff_eq.2 e1) (az (fH _ _ h1 h2) (ar (decide_eq_true e2) (ar (beq_iff_eq.2 e3) (az (iy _ _ h3) (ar (decide_eq_true e4) (ap (beq_eq_false_iff_ne.2 e5) rfl))))))) rfl
    ·rw [decide_eq_false (fun h=>e4 (by injection h))]
     exact aI (s:=false) (ar (beq_iff_eq.2 e1) (az (fH _ _ h1 h2) (ar (decide_eq_true e2) (ar (beq_iff_eq.2 e3) (az (iy _ _ h3) (ap (decide_eq_false e4) rfl)))))) rfl
   ·rw [decide_eq_false (fun h=>e3 (by injection h))]
    exact aI (s:=false) (ar (beq_iff_eq.2 e1) (az (fH _ _ h1 h2) (ar (decide_eq_true e2) (ap (beq_eq_false_iff_ne.2 e3) rfl)))) rfl
  ·rw [decide_eq_false (fun h=>e2 (by injection h))]
   exact aI (s:=false) (ar (beq_iff_eq.2 e1) (az (fH _ _ h1 h2) (ap (decide_eq_false e2) rfl))) rfl
 ·rw [decide_eq_false (fun h=>e1 (by injection h))]
  exact aI (s:=false) (ap (beq_eq_false_iff_ne.2 e1) rfl) rfl
set_option maxRecDepth 100000
def Ge (m:T_Mail):((Int))→Option ((Int)⊕((Unit)⊕Bool)):=(fun (s29:Int) =>
 cond ((decide (s29<(m.To.length:Int))))
  (aF (S:=Bool) (A:=((Int)⊕((Unit)⊕Bool)))
   ((bL s29 m.To.length).bind fun v11 =>
   (aA m.To v11).bind fun v12 =>
   (dy v12).bind fun v13 =>
   cond ((!v13))
    (some (.inl true))
    ((bL s29 m.To.length).bind fun v14 =>
    (aA m.To v14).bind fun v15 =>
    some (.inl v15.GT)))
   (fun (s43:Bool) =>
    cond (s43)
     (some (.inr (.inr (false))))
     ((some (IntKind.i64.wrap (s29+1))).bind fun v21 =>
     some (.inl v21))) some)
  (some (.inr (.inl ()))))
def Gl (l:List Int) (n:Int):((Int))→Option ((Int)⊕((Unit)⊕Bool)):=(fun (s9:Int) =>
 cond ((decide (s9<(l.length:Int))))
  ((bL s9 l.length).bind fun v2 =>
  (aA l v2).bind fun v3 =>
  cond ((v3==n))
   (some (.inr (.inr (true))))
   ((some (IntKind.i64.wrap (s9+1))).bind fun v5 =>
   some (.inl v5)))
  (some (.inr (.inl ()))))
def Gw (s:ai):(((List ae)×Int))→Option (((List ae)×Int)⊕(((List ae))⊕ai)):=(fun ((s13,s14):(List ae)×Int) =>
 cond ((decide (s14<(s.GP.length:Int))))
  ((bL s14 s.GP.length).bind fun v5 =>
  (aA s.GP v5).bind fun v6 =>
  (cp ((T_Mail.mk (T_Path.mk v6.GS.GM.GT v6.GS.GM.GR v6.GS.GM.GJ) v6.GS.To v6.GS.GH v6.GS.Ha v6.GS.GN v6.GS.At))).bind fun v7 =>
  (dO 144 s13 [(ae.mk v6.Id ((T_Mail.mk (T_Path.mk v7.GM.GT v7.GM.GR v7.GM.GJ) v7.To v7.GH v7.Ha v7.GN v7.At)) v6.Hc v6.GX)]).bind fun v8 =>
  (some (IntKind.i64.wrap (s14+1))).bind fun v9 =>
  some (.inl (v8,v9)))
  (some (.inr (.inl s13))))
def DQ (s v1:ai) (p_r:T_Rec):(((List ae)×Bool×Int))→Option (((List ae)×Bool×Int)⊕(((List ae)×Bool)⊕(((List ae)×Int×(List Int)×(List Int)×Int×(List Int)×Bool×Hd×Hd×(List T_Path)×(List Int)×Bool×Hd×Int×Int×(List Int)×Int×Int×Int×(List Int)×Bool)⊕(((List ae)×Int×(List Int)×(List Int)×Int×(List Int)×Bool×Hd×Hd×(List T_Path)×(List Int)×Bool×Hd×Int×Int×(List Int)×Int×Int×Int×(List Int)×Bool)⊕(ai×Int))))):=(fun ((s1094,s1095,s1096):(List ae)×Bool×Int) =>
 aF (S:=Bool) (A:=(((List ae)×Bool×Int)⊕(((List ae)×Bool)⊕(((List ae)×Int×(List Int)×(List Int)×Int×(List Int)×Bool×Hd×Hd×(List T_Path)×(List Int)×Bool×Hd×Int×Int×(List Int)×Int×Int×Int×(List Int)×Bool)⊕(((List ae)×Int×(List Int)×(List Int)×Int×(List Int)×Bool×Hd×Hd×(List T_Path)×(List Int)×Bool×Hd×Int×Int×(List Int)×Int×Int×Int×(List Int)×Bool)⊕(ai×Int))))))
  (cond ((decide (s1096<(p_r.GO.length:Int))))
   (some (.inl s1095))
   (some (.inl false)))
  (fun (s1125:Bool) =>
   cond (s1125)
    (aF (S:=(List ae)×Bool) (A:=(((List ae)×Bool×Int)⊕(((List ae)×Bool)⊕(((List ae)×Int×(List Int)×(List Int)×Int×(List Int)×Bool×Hd×Hd×(List T_Path)×(List Int)×Bool×Hd×Int×Int×(List Int)×Int×Int×Int×(List Int)×Bool)⊕(((List ae)×Int×(List Int)×(List Int)×Int×(List Int)×Bool×Hd×Hd×(List T_Path)×(List Int)×Bool×Hd×Int×Int×(List Int)×Int×Int×Int×(List Int)×Bool)⊕(ai×Int))))))
     (aF (S:=Bool) (A:=(((List ae)×Bool)⊕(((List ae)×Bool×Int)⊕(((List ae)×Bool)⊕(((List ae)×Int×(List Int)×(List Int)×Int×(List Int)×Bool×Hd×Hd×(List T_Path)×(List Int)×Bool×Hd×Int×Int×(List Int)×Int×Int×Int×(List Int)×Bool)⊕(((List ae)×Int×(List Int)×(List Int)×Int×(List Int)×Bool×Hd×Hd×(List T_Path)×(List Int)×Bool×Hd×Int×Int×(List Int)×Int×Int×Int×(List Int)×Bool)⊕(ai×Int)))))))
      ((bL s1096 p_r.GO.length).bind fun v30 =>
      (aA p_r.GO v30).bind fun v31 =>
      (bK v31 1 (s.GP.length:Int)).bind fun v32 =>
      cond (v32)
       ((bL s1096 p_r.GO.length).bind fun v33 =>
       (aA p_r.GO v33).bind fun v34 =>
       (some (IntKind.i64.wrap (v34-1))).bind fun v35 =>
       (bL v35 s.GP.length).bind fun v36 =>
       (aA s.GP v36).bind fun v37 =>
       cond ((v37.Hc==1))
        (cond ((s1096==0))
         (some (.inl true))
         ((bL s1096 p_r.GO.length).bind fun v38 =>
         (aA p_r.GO v38).bind fun v39 =>
         (some (IntKind.i64.wrap (s1096-1))).bind fun v40 =>
         (bL v40 p_r.GO.length).bind fun v41 =>
         (aA p_r.GO v41).bind fun v42 =>
         some (.inl ((decide (v42<v39))))))
        (some (.inl false)))
       (some (.inl false)))
      (fun (s1140:Bool) =>
       cond (s1140)
        ((bL s1096 p_r.GO.length).bind fun v48 =>
        (aA p_r.GO v48).bind fun v49 =>
        (some (IntKind.i64.wrap (v49-1))).bind fun v50 =>
        (bL s1096 p_r.GO.length).bind fun v51 =>
        (aA p_r.GO v51).bind fun v52 =>
        (some (IntKind.i64.wrap (v52-1))).bind fun v53 =>
        (bL v50 s1094.length).bind fun v54 =>
        (aA s1094 v54).bind fun v55 =>
        (some (s1094.set v54 ((ae.mk v55.Id ((T_Mail.mk (T_Path.mk v55.GS.GM.GT v55.GS.GM.GR v55.GS.GM.GJ) v55.GS.To v55.GS.GH v55.GS.Ha v55.GS.GN v55.GS.At)) 2 v55.GX)))).bind fun v56 =>
        (bL v53 (s1094).length).bind fun v57 =>
        (aA v56 v57).bind fun v58 =>
        (some (v56.set v57 ((ae.mk v58.Id ((T_Mail.mk (T_Path.mk v58.GS.GM.GT v58.GS.GM.GR v58.GS.GM.GJ) v58.GS.To v58.GS.GH v58.GS.Ha v58.GS.GN v58.GS.At)) v58.Hc p_r.GU)))).bind fun v59 =>
        some (.inl (v59,s1140)))
        (some (.inl (s1094,s1140)))) some)
     (fun ((s1135,s1136):(List ae)×Bool) =>
      (some (IntKind.i64.wrap (s1096+1))).bind fun v70 =>
      some (.inl (s1135,s1136,v70))) some)
    (some (.inr (.inl (s1094,s1095))))) some)
def GE (s v1:ai) (p_r:T_Rec):(((List ae)×Int))→Option (((List ae)×Int)⊕(((List ae))⊕(((List ae)×Int×(List Int)×(List Int)×Int×(List Int)×Bool×Hd×Hd×(List T_Path)×(List Int)×Bool×Hd×Int×Int×(List Int)×Int×Int×Int×(List Int)×Bool)⊕(((List ae)×Int×(List Int)×(List Int)×Int×(List Int)×Bool×Hd×Hd×(List T_Path)×(List Int)×Bool×Hd×Int×Int×(List Int)×Int×Int×Int×(List Int)×Bool)⊕(ai×Int))))):=(fun ((s1182,s1183):(List ae)×Int) =>
 cond ((decide (s1183<(s1182.length:Int))))
  (aF (S:=(List ae)) (A:=(((List ae)×Int)⊕(((List ae))⊕(((List ae)×Int×(List Int)×(List Int)×Int×(List Int)×Bool×Hd×Hd×(List T_Path)×(List Int)×Bool×Hd×Int×Int×(List Int)×Int×Int×Int×(List Int)×Bool)⊕(((List ae)×Int×(List Int)×(List Int)×Int×(List Int)×Bool×Hd×Hd×(List T_Path)×(List Int)×Bool×Hd×Int×Int×(List Int)×Int×Int×Int×(List Int)×Bool)⊕(ai×Int))))))
   (aF (S:=Bool) (A:=(((List ae))⊕(((List ae)×Int)⊕(((List ae))⊕(((List ae)×Int×(List Int)×(List Int)×Int×(List Int)×Bool×Hd×Hd×(List T_Path)×(List Int)×Bool×Hd×Int×Int×(List Int)×Int×Int×Int×(List Int)×Bool)⊕(((List ae)×Int×(List Int)×(List Int)×Int×(List Int)×Bool×Hd×Hd×(List T_Path)×(List Int)×Bool×Hd×Int×Int×(List Int)×Int×Int×Int×(List Int)×Bool)⊕(ai×Int)))))))
    ((bL s1183 s1182.length).bind fun v153 =>
    (aA s1182 v153).bind fun v154 =>
    cond ((v154.GX==p_r.GU))
     ((bL s1183 s1182.length).bind fun v155 =>
     (aA s1182 v155).bind fun v156 =>
     some (.inl (v156.Hc==2)))
     (some (.inl false)))
    (fun (s1216:Bool) =>
     cond (s1216)
      ((bL s1183 s1182.length).bind fun v162 =>
      (aA s1182 v162).bind fun v163 =>
      (some (s1182.set v162 ((ae.mk v163.Id ((T_Mail.mk (T_Path.mk v163.GS.GM.GT v163.GS.GM.GR v163.GS.GM.GJ) v163.GS.To v163.GS.GH v163.GS.Ha v163.GS.GN v163.GS.At)) 3 v163.GX)))).bind fun v164 =>
      some (.inl v164))
      (some (.inl s1182))) some)
   (fun (s1212:(List ae)) =>
    (some (IntKind.i64.wrap (s1183+1))).bind fun v174 =>
    some (.inl (s1212,v174))) some)
  (some (.inr (.inl s1182))))
def Fy (s v1:ai) (p_r:T_Rec):(((List Int)×Bool×Int))→Option (((List Int)×Bool×Int)⊕(((List Int)×Bool)⊕(((List ae)×Int×(List Int)×(List Int)×Int×(List Int)×Bool×Hd×Hd×(List T_Path)×(List Int)×Bool×Hd×Int×Int×(List Int)×Int×Int×Int×(List Int)×Bool)⊕(((List ae)×Int×(List Int)×(List Int)×Int×(List Int)×Bool×Hd×Hd×(List T_Path)×(List Int)×Bool×Hd×Int×Int×(List Int)×Int×Int×Int×(List Int)×Bool)⊕(ai×Int))))):=(fun ((s1283,s1284,s1285):(List Int)×Bool×Int) =>
 cond ((decide (s1285<(s.GK.length:Int))))
  (aF (S:=(List Int)×Bool) (A:=(((List Int)×Bool×Int)⊕(((List Int)×Bool)⊕(((List ae)×Int×(List Int)×(List Int)×Int×(List Int)×Bool×Hd×Hd×(List T_Path)×(List Int)×Bool×Hd×Int×Int×(List Int)×Int×Int×Int×(List Int)×Bool)⊕(((List ae)×Int×(List Int)×(List Int)×Int×(List Int)×Bool×Hd×Hd×(List T_Path)×(List Int)×Bool×Hd×Int×Int×(List Int)×Int×Int×Int×(List Int)×Bool)⊕(ai×Int))))))
   (aF (S:=Bool) (A:=(((List Int)×Bool)⊕(((List Int)×Bool×Int)⊕(((List Int)×Bool)⊕(((List ae)×Int×(List Int)×(List Int)×Int×(List Int)×Bool×Hd×Hd×(List T_Path)×(List Int)×Bool×Hd×Int×Int×(List Int)×Int×Int×Int×(List Int)×Bool)⊕(((List ae)×Int×(List Int)×(List Int)×Int×(List Int)×Bool×Hd×Hd×(List T_Path)×(List Int)×Bool×Hd×Int×Int×(List Int)×Int×Int×Int×(List Int)×Bool)⊕(ai×Int)))))))
    ((bL s1285 s.GK.length).bind fun v275 =>
    (aA s.GK v275).bind fun v276 =>
    cond ((decide (p_r.GU<v276)))
     (some (.inl (!s1284)))
     (some (.inl false)))
    (fun (s1321:Bool) =>
     cond (s1321)
      ((dO 8 s1283 [p_r.GU]).bind fun v282 =>
      some (.inl (v282,true)))
      (some (.inl (s1283,s1284)))) some)
   (fun ((s1316,s1317):(List Int)×Bool) =>
    (bL s1285 s.GK.length).bind fun v293 =>
    (aA s.GK v293).bind fun v294 =>
    (dO 8 s1316 [v294]).bind fun v295 =>
    (some (IntKind.i64.wrap (s1285+1))).bind fun v296 =>
    some (.inl (v295,s1317,v296))) some)
  (some (.inr (.inl (s1283,s1284)))))
theorem eh (n lo hi:Int):bK n lo hi=some (decide (lo≤n∧n≤hi)):=by
 unfold bK
 by_cases h1:lo≤n
 ·by_cases h2:n≤hi
  ·rw [decide_eq_true (⟨h1,h2⟩:lo≤n∧n≤hi)]
   exact aI (ar (decide_eq_true h1) (bJ (decide_eq_true h2))) rfl
  ·rw [decide_eq_false (fun h=>h2 h.2:¬ (lo≤n∧n≤hi))]
   exact aI (ar (decide_eq_true h1) (bJ (decide_eq_false h2))) rfl
 ·rw [decide_eq_false (fun h=>h1 h.1:¬ (lo≤n∧n≤hi))]
  exact aI (ap (decide_eq_false h1) rfl) rfl
theorem qK (l:List Int) (n:Int) (hl:l.length<4294967296):dQ l n=some (decide (n∈l)):=by
 unfold dQ
 have h:=dS (R:=Bool) (f:=Gl l n) (fun i=>decide (l[i]? ≠ some n)) l.length true (fuel:=cq) (by simp only [cq]; omega) (fun i hi hp => ?_) (fun i hi hp => ?_) (ap (decide_eq_false (by omega)) rfl)
 ·by_cases hm:n∈l
  ·obtain ⟨i,hi,he⟩:=List.getElem_of_mem hm
   rw [if_neg (fun hh:∀ i,i<l.length→decide (l[i]? ≠ some n)=true=>(of_decide_eq_true (hh i hi):l[i]? ≠ some n) (by rw [List.getElem?_eq_getElem hi,he]))] at h
   rw [decide_eq_true hm]
   exact kK h rfl
  ·rw [if_pos (fun i hi=>decide_eq_true (by
    rw [List.getElem?_eq_getElem hi]
    intro e
    exact hm (Option.some.inj e ▸ List.getElem_mem hi)))] at h
   rw [decide_eq_false hm]
   exact aI h rfl
 ·have hx:=of_decide_eq_true hp
  rw [List.getElem?_eq_getElem hi] at hx
  exact ar (decide_eq_true (by omega)) (az (aR hi) (az (by simp [aA,hi]:aA l i=some l[i]) (ap (beq_eq_false_iff_ne.2 (fun e=>hx (by rw [e]))) (az (congrArg some (aX (n:=i) (by omega))) rfl))))
 ·have hx:l[i]? = some n:=by simpa using hp
  rw [List.getElem?_eq_getElem hi] at hx
  exact ar (decide_eq_true (by omega)) (az (aR hi) (az (by simp [aA,hi]:aA l i=some l[i]) (ar (beq_iff_eq.2 (Option.some.inj hx)) rfl)))
theorem yr {b:List Int} (hb:jF b) (hl:b.length<4294967281):bO b=some (pN b):=by
 unfold pN
 rcases ur b hb hl with h | ⟨h,_⟩
 ·rw [h]; rfl
 ·rw [h]; rfl
theorem yM {m:T_Mail} (h:LM m):m.GH.length≤20000:=by
 have:=h.2
 simp only [mW] at this
 omega
theorem zt {m:T_Mail} (h:LM m) (hb:jF m.GH):eN m=some (me m):=by
 have hl:=yM h
 have hto:=h.1
 unfold eN me
 have hB:=yr hb (by omega)
 cases c1:np m.GM
 ·exact aI (s:=true) (az (jx _) (ar (by rw [c1]; rfl) rfl)) (ar rfl rfl)
 by_cases c2:1≤m.To.length∧m.To.length≤8
 case neg =>
  rw [decide_eq_false c2]
  exact aI (s:=true) (az (jx _) (ap (by rw [c1]; rfl) (az (eh _ _ _) (ar (by rw [decide_eq_false (by omega)]; rfl) rfl)))) (ar rfl rfl)
 rw [decide_eq_true c2]
 have d2:(!decide ((1:Int)≤(m.To.length:Int)∧(m.To.length:Int)≤8))=false:=by rw [decide_eq_true (by omega)]; rfl
 cases c3:pN m.GH
 ·exact aI (s:=true) (az (jx _) (ap (by rw [c1]; rfl) (az (eh _ _ _) (ap d2 (az hB (ar (by rw [c3]; rfl) rfl)))))) (ar rfl rfl)
 by_cases c4:0≤m.At∧m.At≤1099511627776
 case neg =>
  rw [decide_eq_false c4]
  exact aI (s:=true) (az (jx _) (ap (by rw [c1]; rfl) (az (eh _ _ _) (ap d2 (az hB (ap (by rw [c3]; rfl) (az (eh _ _ _) (bJ (by rw [decide_eq_false c4]; rfl))))))))) (ar rfl rfl)
 rw [decide_eq_true c4]
 refine aI (s:=false) (az (jx _) (ap (by rw [c1]; rfl) (az (eh _ _ _) (ap d2 (az hB (ap (by rw [c3]; rfl) (az (eh _ _ _) (bJ (by rw [decide_eq_true c4]; rfl))))))))) (ap rfl ?_)
 have hlp:=dS (R:=Bool) (f:=Ge m) (fun i=>decide (∀ h:i<m.To.length,np (m.To[i]'h)=true∧(m.To[i]'h).GT=false)) m.To.length false (fuel:=cq) (by simp only [cq]; omega) (fun i hi hp => ?_) (fun i hi hp => ?_) (ap (decide_eq_false (by omega)) rfl)
 ·by_cases hall:∀ p∈m.To,np p=true∧p.GT=false
  ·rw [decide_eq_true hall]
   rw [if_pos (fun i hi=>decide_eq_true (fun h=>hall _ (List.getElem_mem h)))] at hlp
   exact aI hlp rfl
  ·rw [decide_eq_false hall]
   rw [if_neg (fun hh=>hall (fun p hp=>by
    obtain ⟨i,hi,rfl⟩:=List.getElem_of_mem hp
    exact of_decide_eq_true (hh i hi) hi))] at hlp
   exact kK hlp rfl
 ·have hx:=of_decide_eq_true hp hi
  have hg:aA m.To i=some m.To[i]:=by simp [aA,hi]
  exact ar (decide_eq_true (by omega)) (aI (s:=false) (az (aR hi) (az hg (az (jx _) (ap (by rw [hx.1]; rfl) (az (aR hi) (az hg (bJ hx.2))))))) (ap rfl (az (congrArg some (aX (n:=i) (by omega))) rfl)))
 ·have hx:=of_decide_eq_false hp
  have hg:aA m.To i=some m.To[i]:=by simp [aA,hi]
  refine ar (decide_eq_true (by omega)) (aI (s:=true) (az (aR hi) (az hg (az (jx _) ?_))) (ar rfl rfl))
  cases hpt:np m.To[i]
  ·exact ar rfl rfl
  ·refine ap rfl (az (aR hi) (az hg (bJ ?_)))
   cases hn:(m.To[i]).GT
   ·exact absurd (fun _=>⟨hpt,hn⟩) hx
   ·rfl
theorem xx {n:Nat} {s:ai} (hs:sD n s):dG s=some s:=by
 have hl:=hs.len; have hn:=hs.hn; have hp:=hs.part; have hse:=hs.sent; have hd:=hs.done
 unfold dG
 refine az (x:=s.Hb) (az (eI (by omega) (by omega)) rfl) (az (x:=s.GZ) (az (eI (by omega) (by omega)) rfl) (az (x:=s.GK) (az (eI (by omega) (by omega)) rfl) ?_))
 refine aI (s:=s.GP) (cE (f:=Gw s) (fun k=>(s.GP.take k,(k:Int))) s.GP.length cq rfl (by simp only [cq]; omega) (fun k hk => ?_) ?_) rfl
 ·refine ar (decide_eq_true (by omega)) (az (aR hk) (az (by simp [aA,hk]:aA s.GP k=some s.GP[k]) (az (nC (hs.lm _ (List.getElem_mem hk))) (az (fw ?_ ?_) (az (congrArg some (aX (n:=k) (by omega))) ?_)))))
  ·simp; omega
  ·simp; omega
  ·rw [ka _ k hk]
 ·exact ap (decide_eq_false (by omega)) (by simp only [List.take_length])
theorem Cg (c r:T_Rec) (hto:c.GS.To.length≤1000000) (hbo:c.GS.GH.length≤1000000) (hid:c.GO.length≤1000000) (hda:c.GI.length≤1000000) (ok:Bool) (x:ai) :
  aF (S:=Bool) (A:=(ai×Int)) (cond (!ok) (some (.inl true)) ((bZ c r).bind fun v=>some (.inl (!v)))) (fun s1334=>cond s1334 (some (sA,5)) (some (x,0))) some=some (if ok=true∧c=r then (x,0) else (sA,5)):=by
 cases ok
 ·rw [if_neg (by simp)]
  exact aI (s:=true) rfl rfl
 ·by_cases h:c=r
  ·rw [if_pos ⟨rfl,h⟩]
   exact aI (s:=false) (ap rfl (az (qW c r (by omega) (by omega) (by omega) (by omega)) (bJ (by rw [decide_eq_true h]; rfl)))) rfl
  ·rw [if_neg (fun hh=>h hh.2)]
   exact aI (s:=true) (ap rfl (az (qW c r (by omega) (by omega) (by omega) (by omega)) (bJ (by rw [decide_eq_false h]; rfl)))) rfl
def g3 (n:Int) (x:ae):ae:=if x.GX=n∧x.Hc=2 then ⟨x.Id,x.GS,3,x.GX⟩ else x
theorem yB (s v:ai) (r:T_Rec) (hl:v.GP.length<1000000):bm (GE s v r) cq (v.GP,0)=some (.inl (v.GP.map (g3 r.GU))):=by
 refine cE (fun k=>(qN (g3 r.GU) k v.GP,(k:Int))) v.GP.length cq rfl (by simp only [cq]; omega) (fun k hk => ?_) ?_
 ·have hx:bL (k:Int) (qN (g3 r.GU) k v.GP).length=some k:=aR (by rw [kx]; exact hk)
  have hg:=tI (g3 r.GU) hk
  have hul:=kx (g3 r.GU) k v.GP
  refine ar (decide_eq_true (by rw [hul]; omega)) (aI (s:=qN (g3 r.GU) (k+1) v.GP) ?_ (az (congrArg some (aX (n:=k) (by omega))) rfl))
  by_cases h1:v.GP[k].GX=r.GU
  ·by_cases h2:v.GP[k].Hc=2
   ·refine aI (s:=true) (az hx (az hg (ar (beq_iff_eq.2 h1) (az hx (az hg (bJ (beq_iff_eq.2 h2))))))) (ar rfl (az hx (az hg (az rfl ?_))))
    rw [tt (g3 r.GU) hk _ (by simp only [g3,if_pos (⟨h1,h2⟩:_∧_)])]
   ·refine aI (s:=false) (az hx (az hg (ar (beq_iff_eq.2 h1) (az hx (az hg (bJ (beq_eq_false_iff_ne.2 h2))))))) (ap rfl ?_)
    rw [ni (g3 r.GU) hk (by simp only [g3]; rw [if_neg (fun h=>h2 h.2)])]
  ·refine aI (s:=false) (az hx (az hg (ap (beq_eq_false_iff_ne.2 h1) rfl))) (ap rfl ?_)
   rw [ni (g3 r.GU) hk (by simp only [g3]; rw [if_neg (fun h=>h1 h.1)])]
 ·refine ap (decide_eq_false (by rw [kx]; omega)) ?_
  simp only [sQ]
def gI (n:Int):List Int→Bool→List Int×Bool
 | [],p=>([],p)
 | a::l,p=>if n<a∧p=false then (n::a::(gI n l true).1,(gI n l true).2) else (a::(gI n l p).1,(gI n l p).2)
theorem pz (n:Int):∀ l,gI n l true=(l,true)
 | []=>rfl
 | a::l=>by simp [gI,pz n l]
theorem yg (n:Int):∀ l p,(gI n l p).1.length≤l.length+1
 | [],p=>by simp [gI]
 | a::l,p=>by
  simp only [gI]
  split
  ·rw [pz]; simp
  ·have:=yg n l p; simp only [List.length_cons]; omega
theorem Ae (n:Int):∀ l,n ∉ l→(gI n l false).1++(if (gI n l false).2=true then [] else [n])=jC l n
 | [],_=>by simp [gI,jC]
 | a::l,h=>by
  have hne:n≠a:=fun e=>h (by rw [e]; exact List.mem_cons_self)
  by_cases hlt:n<a
  ·simp only [gI]
   rw [if_pos ⟨hlt,trivial⟩,pz]
   simp only [jC,if_neg (by omega:¬ a<n),if_true,List.append_nil]
  ·simp only [gI]
   rw [if_neg (fun hh=>hlt hh.1)]
   simp only [jC,if_pos (by omega:a<n)]
   have:=Ae n l (fun hm=>h (List.mem_cons_of_mem _ hm))
   rw [← this]; rfl
theorem tQ (s v:ai) (r:T_Rec) (hl:s.GK.length<1000000):∀ (d i fuel:Nat) (A:List Int) (p:Bool),i+d=s.GK.length→d<fuel→A.length≤i+1→bm (Fy s v r) fuel (A,p,(i:Int))=some (.inl (A++(gI r.GU (s.GK.drop i) p).1,(gI r.GU (s.GK.drop i) p).2))
 | d,i,0,A,p,_,hf,_=>absurd hf (Nat.not_lt_zero d)
 | 0,i,fuel+1,A,p,hd,_,_=>by
  obtain rfl:i=s.GK.length:=by omega
  rw [List.drop_length]
  simp only [gI,List.append_nil]
  exact bS (ap (decide_eq_false (by omega)) rfl)
 | d+1,i,fuel+1,A,p,hd,hf,hA=>by
  have hi:i<s.GK.length:=by omega
  have hg:aA s.GK i=some s.GK[i]:=by simp [aA,hi]
  have e1:some (IntKind.i64.wrap ((i:Int)+1))=some ((i+1:Nat):Int):=congrArg some (aX (n:=i) (by omega))
  rw [List.drop_eq_getElem_cons hi]
  by_cases hc:r.GU<s.GK[i]∧p=false
  ·have hg2:gI r.GU (s.GK[i]::s.GK.drop (i+1)) p=(r.GU::s.GK[i]::(gI r.GU (s.GK.drop (i+1)) true).1,(gI r.GU (s.GK.drop (i+1)) true).2):=by simp only [gI]; rw [if_pos hc]
   rw [hg2]
   have hcat:A++r.GU::s.GK[i]::(gI r.GU (s.GK.drop (i+1)) true).1=((A++[r.GU])++[s.GK[i]])++(gI r.GU (s.GK.drop (i+1)) true).1:=by simp
   rw [hcat]
   have hnx:Fy s v r (A,p,(i:Int))=some (.inl ((A++[r.GU])++[s.GK[i]],true,((i+1:Nat):Int))) :=
    ar (decide_eq_true (by omega)) (aI (s:=(A++[r.GU],true)) (aI (s:=true) (az (aR hi) (az hg (ar (decide_eq_true hc.1) (bJ (by rw [hc.2]; rfl))))) (ar rfl (az (fw (by simp; omega) (by simp; omega)) rfl))) (az (aR hi) (az hg (az (fw (by simp; omega) (by simp; omega)) (az e1 rfl)))))
   -- behind the number nothing is put
   have hrest:∀ (d i fuel:Nat) (B:List Int),i+d=s.GK.length→d<fuel→B.length≤i+2→bm (Fy s v r) fuel (B,true,(i:Int))=some (.inl (B++s.GK.drop i,true)):=by
    intro d
    induction d with
    | zero =>
     intro i fuel B hd hf hB
     obtain ⟨k,rfl⟩:∃ k,fuel=k+1:=⟨fuel-1,by omega⟩
     obtain rfl:i=s.GK.length:=by omega
     rw [List.drop_length,List.append_nil]
     exact bS (ap (decide_eq_false (by omega)) rfl)
    | succ d ih =>
     intro i fuel B hd hf hB
     obtain ⟨k,rfl⟩:∃ k,fuel=k+1:=⟨fuel-1,by omega⟩
     have hi:i<s.GK.length:=by omega
     have hg:aA s.GK i=some s.GK[i]:=by simp [aA,hi]
     have hcat:B++s.GK.drop i=(B++[s.GK[i]])++s.GK.drop (i+1):=by rw [List.drop_eq_getElem_cons hi]; simp
     rw [hcat,← ih (i+1) k (B++[s.GK[i]]) (by omega) (by omega) (by simp; omega)]
     refine bY (ar (decide_eq_true (by omega)) (aI (s:=(B,true)) (aI (s:=false) (az (aR hi) (az hg ?_)) (ap rfl rfl)) (az (aR hi) (az hg (az (fw (by simp; omega) (by simp; omega)) (az (congrArg some (aX (n:=i) (by omega))) rfl))))))
     by_cases h:r.GU<s.GK[i]
     ·exact ar (decide_eq_true h) rfl
     ·exact ap (decide_eq_false h) rfl
   rw [bY hnx,hrest d (i+1) fuel _ (by omega) (by omega) (by simp; omega),pz]
  ·have hg2:gI r.GU (s.GK[i]::s.GK.drop (i+1)) p=(s.GK[i]::(gI r.GU (s.GK.drop (i+1)) p).1,(gI r.GU (s.GK.drop (i+1)) p).2):=by simp only [gI]; rw [if_neg hc]
   rw [hg2]
   have hcat:A++s.GK[i]::(gI r.GU (s.GK.drop (i+1)) p).1=(A++[s.GK[i]])++(gI r.GU (s.GK.drop (i+1)) p).1:=by simp
   rw [hcat,← tQ s v r hl d (i+1) fuel (A++[s.GK[i]]) p (by omega) (by omega) (by simp; omega)]
   refine bY (ar (decide_eq_true (by omega)) (aI (s:=(A,p)) (aI (s:=false) (az (aR hi) (az hg ?_)) (ap rfl rfl)) (az (aR hi) (az hg (az (fw (by simp; omega) (by simp; omega)) (az e1 rfl))))))
   by_cases h:r.GU<s.GK[i]
   ·refine ar (decide_eq_true h) (bJ ?_)
    cases p
    ·exact absurd ⟨h,rfl⟩ hc
    ·rfl
   ·exact ap (decide_eq_false h) rfl
theorem Bs {s:ai} (hid:Ids s) {ids:List Int} {num:Int} {i k:Nat} (hi:i<ids.length) (hk:k<s.GP.length) (he:ids[i]=(k:Int)+1) (y:ae) (hy:y=⟨s.GP[k].Id,s.GP[k].GS,2,num⟩) :
  (s.GP.map (f2 (ids.take i) num)).set k y=s.GP.map (f2 (ids.take (i+1)) num):=by
 subst hy
 refine List.ext_getElem (by simp) fun j h1 h2 => ?_
 have hj:j<s.GP.length:=by simpa using h2
 rw [List.getElem_set,List.getElem_map,List.getElem_map,show f2 (ids.take (i+1)) num s.GP[j]=f2 (ids.take i++[ids[i]]) num s.GP[j] from by rw [ka ids i hi]]
 by_cases h:k=j
 ·subst h
  rw [if_pos rfl]
  simp only [f2]
  rw [if_pos (List.mem_append_right _ (by rw [hid k hk,he]; exact List.mem_singleton_self _))]
 ·rw [if_neg h]
  have hidj:=hid j hj
  simp only [f2]
  by_cases hm:s.GP[j].Id∈ids.take i
  ·rw [if_pos hm,if_pos (List.mem_append_left _ hm)]
  ·rw [if_neg hm,if_neg (fun hh=>(List.mem_append.1 hh).elim hm (fun hh=>by
    have:=List.mem_singleton.1 hh
    omega))]
theorem uf {n:Nat} {s:ai} (hs:sD n s) (r:T_Rec) {i:Nat} (hi:i<r.GO.length) (hr:r.GO.length≤1000) :
  DQ s s r (s.GP.map (f2 (r.GO.take i) r.GU),true,(i:Int))=some (.inl (if sa s r.GO i=true then (s.GP.map (f2 (r.GO.take (i+1)) r.GU),true,((i+1:Nat):Int)) else (s.GP.map (f2 (r.GO.take i) r.GU),false,((i+1:Nat):Int)))):=by
 have hl:=hs.len; have hn:=hs.hn
 have hg:aA r.GO i=some r.GO[i]:=by simp [aA,hi]
 have hix:bL (i:Int) r.GO.length=some i:=aR hi
 have hd:r.GO.getD i 0=r.GO[i]:=by simp [List.getD,hi]
 have e1:some (IntKind.i64.wrap ((i:Int)+1))=some ((i+1:Nat):Int):=congrArg some (aX (n:=i) (by omega))
 refine aI (s:=true) (ar (decide_eq_true (by omega)) rfl) (ar rfl ?_)
 by_cases hin:1≤r.GO[i]∧r.GO[i]≤(s.GP.length:Int)
 case neg =>
  have hb:sa s r.GO i=false:=by
   unfold sa wt
   rw [hd,decide_eq_false hin]; simp
  rw [hb,if_neg (by simp)]
  exact aI (s:=(s.GP.map (f2 (r.GO.take i) r.GU),false)) (aI (s:=false) (az hix (az hg (az (eh _ _ _) (ap (decide_eq_false hin) rfl)))) (ap rfl rfl)) (az e1 rfl)
 obtain ⟨k,hk⟩:∃ k:Nat,r.GO[i]=(k:Int)+1:=⟨(r.GO[i]-1).toNat,by omega⟩
 have hkl:k<s.GP.length:=by omega
 have w1:some (IntKind.i64.wrap (r.GO[i]-1))=some (k:Int):=by rw [hk,Int.add_sub_cancel,qX _ (by omega)]
 have hgk:aA s.GP k=some s.GP[k]:=by simp [aA,hkl]
 have hwt:wt s r.GO[i]=(s.GP[k].Hc==1):=by
  unfold wt
  rw [decide_eq_true hin,Bool.true_and,hk,Int.add_sub_cancel,Int.toNat_natCast,List.getElem?_eq_getElem hkl]
  simp
 by_cases hst:s.GP[k].Hc=1
 case neg =>
  have hb:sa s r.GO i=false:=by
   unfold sa
   rw [hd,hwt,beq_eq_false_iff_ne.2 hst]; simp
  rw [hb,if_neg (by simp)]
  exact aI (s:=(s.GP.map (f2 (r.GO.take i) r.GU),false)) (aI (s:=false) (az hix (az hg (az (eh _ _ _) (ar (decide_eq_true hin) (az hix (az hg (az w1 (az (aR hkl) (az hgk (ap (beq_eq_false_iff_ne.2 hst) rfl)))))))))) (ap rfl rfl)) (az e1 rfl)
 have hidB:sa s r.GO i=(i==0||decide (r.GO.getD (i-1) 0<r.GO[i])):=by
  unfold sa
  rw [hd,hwt,beq_iff_eq.2 hst,Bool.and_true]
 have hbool:((bL (i:Int) r.GO.length).bind fun v30 =>
    (aA r.GO v30).bind fun v31 =>
    (bK v31 1 (s.GP.length:Int)).bind fun v32 =>
    cond (v32)
     ((bL (i:Int) r.GO.length).bind fun v33 =>
     (aA r.GO v33).bind fun v34 =>
     (some (IntKind.i64.wrap (v34-1))).bind fun v35 =>
     (bL v35 s.GP.length).bind fun v36 =>
     (aA s.GP v36).bind fun v37 =>
     cond ((v37.Hc==1))
      (cond (((i:Int)==0))
       (some (.inl true))
       ((bL (i:Int) r.GO.length).bind fun v38 =>
       (aA r.GO v38).bind fun v39 =>
       (some (IntKind.i64.wrap ((i:Int)-1))).bind fun v40 =>
       (bL v40 r.GO.length).bind fun v41 =>
       (aA r.GO v41).bind fun v42 =>
       some ((.inl ((decide (v42<v39)))):Bool⊕(((List ae)×Bool)⊕(((List ae)×Bool×Int)⊕(((List ae)×Bool)⊕(((List ae)×Int×(List Int)×(List Int)×Int×(List Int)×Bool×Hd×Hd×(List T_Path)×(List Int)×Bool×Hd×Int×Int×(List Int)×Int×Int×Int×(List Int)×Bool)⊕(((List ae)×Int×(List Int)×(List Int)×Int×(List Int)×Bool×Hd×Hd×(List T_Path)×(List Int)×Bool×Hd×Int×Int×(List Int)×Int×Int×Int×(List Int)×Bool)⊕(ai×Int)))))))))
      (some (.inl false)))
     (some (.inl false)))=some (.inl (sa s r.GO i)):=by
  rw [hidB]
  refine az hix (az hg (az (eh _ _ _) (ar (decide_eq_true hin) (az hix (az hg (az w1 (az (aR hkl) (az hgk (ar (beq_iff_eq.2 hst) ?_)))))))))
  cases i with
  | zero=>exact ar rfl rfl
  | succ j =>
   have hj:j<r.GO.length:=by omega
   have wj:some (IntKind.i64.wrap (((j+1:Nat):Int)-1))=some (j:Int):=by rw [ed (by omega) (by omega)]; congr 1; omega
   have hgj:aA r.GO j=some r.GO[j]:=by simp [aA,hj]
   have hdj:r.GO.getD (j+1-1) 0=r.GO[j]:=by simp [List.getD,hj]
   rw [hdj]
   exact ap (by simp only [beq_eq_false_iff_ne,ne_eq]; omega) (az hix (az hg (az wj (az (aR hj) (az hgj rfl)))))
 cases hB:sa s r.GO i
 ·rw [if_neg (by simp)]
  rw [hB] at hbool
  exact aI (s:=(s.GP.map (f2 (r.GO.take i) r.GU),false)) (aI (s:=false) hbool (ap rfl rfl)) (az e1 rfl)
 ·rw [if_pos rfl]
  rw [hB] at hbool
  obtain ⟨L,hL⟩:∃ L,L=s.GP.map (f2 (r.GO.take i) r.GU):=⟨_,rfl⟩
  have hLl:L.length=s.GP.length:=by rw [hL]; simp
  have hkL:k<L.length:=by omega
  have hgL:aA L k=some L[k]:=by simp [aA,hkL]
  have hLk:L[k].Id=s.GP[k].Id∧L[k].GS=s.GP[k].GS:=by
   have:L[k]=f2 (r.GO.take i) r.GU s.GP[k]:=by simp only [hL,List.getElem_map]
   rw [this]; exact Ci _ _ _
  have hset:(L.set k ⟨L[k].Id,L[k].GS,2,L[k].GX⟩).set k ⟨L[k].Id,L[k].GS,2,r.GU⟩=s.GP.map (f2 (r.GO.take (i+1)) r.GU):=by
   have hft:=Bs hs.ids (num:=r.GU) hi hkl hk ⟨L[k].Id,L[k].GS,2,r.GU⟩ (by rw [hLk.1,hLk.2])
   rw [← hL] at hft
   rw [List.set_set]
   exact hft
  have hgs:aA (L.set k ⟨L[k].Id,L[k].GS,2,L[k].GX⟩) k=some ⟨L[k].Id,L[k].GS,2,L[k].GX⟩:=by
   simp only [aA]
   rw [List.getElem?_set_self hkL]
  rw [← hset,← hL]
  exact aI (s:=((L.set k ⟨L[k].Id,L[k].GS,2,L[k].GX⟩).set k ⟨L[k].Id,L[k].GS,2,r.GU⟩,true)) (aI (s:=true) hbool (ar rfl (az hix (az hg (az w1 (az hix (az hg (az w1 (az (aR hkL) (az hgL (az rfl (az (aR hkL) (az hgs (az rfl rfl)))))))))))))) (az e1 rfl)
theorem yz {n:Nat} {s:ai} (hs:sD n s) (r:T_Rec) (hr:r.GO.length≤1000) (ok:Bool):∃ (L:List ae) (ok':Bool),bm (DQ s s r) cq (s.GP,ok,0)=some (.inl (L,ok'))∧ok'=(ok&&decide (∀ i,i<r.GO.length→sa s r.GO i=true))∧(ok'=true→L=s.GP.map (f2 r.GO r.GU)):=by
 have f0:s.GP.map (f2 (r.GO.take 0) r.GU)=s.GP:=by
  have:∀ x:ae,f2 [] r.GU x=x:=fun x=>by simp [f2]
  rw [List.take_zero]
  exact (List.map_congr_left (g:=id) (fun x _=>this x)).trans (List.map_id _)
 cases ok
 ·refine ⟨s.GP,false,cE (f:=DQ s s r) (fun _=>(s.GP,false,((0:Nat):Int))) 0 cq rfl (by simp only [cq]; omega) (fun k hk=>absurd hk (by omega)) ?_,rfl,fun h=>by cases h⟩
  refine aI (s:=false) ?_ rfl
  by_cases h:0<r.GO.length
  ·exact ar (decide_eq_true (by omega)) rfl
  ·exact ap (decide_eq_false (by omega)) rfl
 ·rcases jv (sa s r.GO) r.GO.length with h | ⟨k,hk,h1,h2⟩
  ·refine ⟨s.GP.map (f2 r.GO r.GU),true,cE (f:=DQ s s r) (fun k=>(s.GP.map (f2 (r.GO.take k) r.GU),true,(k:Int))) r.GO.length cq (by simp only [f0]; rfl) (by simp only [cq]; omega) (fun i hi => ?_) ?_,by rw [decide_eq_true h]; rfl,fun _=>rfl⟩
   ·have:=uf hs r hi hr
    rw [if_pos (h i hi)] at this
    exact this
   ·rw [List.take_length]
    exact aI (s:=false) (ap (decide_eq_false (by omega)) rfl) rfl
  ·refine ⟨s.GP.map (f2 (r.GO.take k) r.GU),false,cE (f:=DQ s s r) (fun j=>if j≤k then (s.GP.map (f2 (r.GO.take j) r.GU),true,(j:Int)) else (s.GP.map (f2 (r.GO.take k) r.GU),false,((k+1:Nat):Int))) (k+1) cq (by simp only [Nat.zero_le,if_true,f0]; rfl) (by simp only [cq]; omega) (fun i hi => ?_) ?_,?_,fun h=>by cases h⟩
   ·rw [if_pos (by omega)]
    have:=uf hs r (i:=i) (by omega) hr
    by_cases hik:i=k
    ·subst hik
     rw [if_neg (by rw [h2]; simp)] at this
     rw [if_neg (by omega)]
     exact this
    ·rw [if_pos (h1 i (by omega))] at this
     rw [if_pos (by omega)]
     exact this
   ·rw [if_neg (by omega)]
    refine aI (s:=false) ?_ rfl
    by_cases h:k+1<r.GO.length
    ·exact ar (decide_eq_true (by omega)) rfl
    ·exact ap (decide_eq_false (by omega)) rfl
   ·rw [decide_eq_false (fun hh=>by have:=hh k hk; rw [h2] at this; cases this)]; rfl
set_option maxRecDepth 100000
theorem ky {s:ai} {r c:T_Rec} {ok:Bool} {x:ai} (h1:(ok=true∧c=r)↔pc s r=true) (h2:pc s r=true→x=iS s r) :
  (some (if ok=true∧c=r then (x,(0:Int)) else (sA,5)):Option (ai×Int))=some (if pc s r=true then (iS s r,0) else (sA,5)):=by
 by_cases h:pc s r=true
 ·rw [if_pos (h1.2 h),if_pos h,h2 h]
 ·rw [if_neg (fun hh=>h (h1.1 hh)),if_neg h]
theorem kr {s:ai} {r c:T_Rec} {K ok:Bool} (ho:pc s r=(decide (c=r)&&K)) (hK:K=ok):(ok=true∧c=r)↔pc s r=true:=by
 rw [ho,hK,Bool.and_eq_true,decide_eq_true_eq]
 exact ⟨fun h=>⟨h.2,h.1⟩,fun h=>⟨h.2,h.1⟩⟩
theorem FB {s:ai} {r:T_Rec} (k:r.GQ=1):pc s r=(decide ((⟨r.GQ,r.GS,r.Id,[],r.GW,0,0,[]⟩:T_Rec)=r)&&(decide (s.GP.length<60∧r.Id=(s.GP.length:Int)+1∧(r.GW=0∨r.GW=1))&&me r.GS)):=by
 unfold pc iK
 rw [if_pos k,if_pos k]
theorem DG {s:ai} {r:T_Rec} (k:r.GQ=2):pc s r=(decide ((⟨r.GQ,nr,0,r.GO,0,r.GU,0,[]⟩:T_Rec)=r)&&(decide (r.GU=s.GY+1)&&rB s r.GO)):=by
 unfold pc iK
 rw [if_neg (show ¬ r.GQ=1 by omega),if_neg (show ¬ r.GQ=1 by omega),if_pos k,if_pos k]
theorem Ep {s:ai} {r:T_Rec} (k:r.GQ=3):pc s r=(decide ((⟨r.GQ,nr,0,[],0,r.GU,0,[]⟩:T_Rec)=r)&&decide (1≤r.GU∧r.GU≤s.GY∧r.GU ∉ s.Hb)):=by
 unfold pc iK
 rw [if_neg (show ¬ r.GQ=1 by omega),if_neg (show ¬ r.GQ=1 by omega),if_neg (show ¬ r.GQ=2 by omega),if_neg (show ¬ r.GQ=2 by omega),if_pos k,if_pos k]
theorem zk {s:ai} {r:T_Rec} (k:r.GQ=4):pc s r=(decide ((⟨r.GQ,nr,r.Id,[],0,0,0,[]⟩:T_Rec)=r)&&wt s r.Id):=by
 unfold pc iK
 rw [if_neg (show ¬ r.GQ=1 by omega),if_neg (show ¬ r.GQ=1 by omega),if_neg (show ¬ r.GQ=2 by omega),if_neg (show ¬ r.GQ=2 by omega),if_neg (show ¬ r.GQ=3 by omega),if_neg (show ¬ r.GQ=3 by omega),if_pos k,if_pos k]
theorem Fm {s:ai} {r:T_Rec} (k:r.GQ=5):pc s r=(decide ((⟨r.GQ,nr,0,[],0,r.GU,r.GV,r.GI⟩:T_Rec)=r)&&(py s r.GU&&xY s r)):=by
 unfold pc iK
 rw [if_neg (show ¬ r.GQ=1 by omega),if_neg (show ¬ r.GQ=1 by omega),if_neg (show ¬ r.GQ=2 by omega),if_neg (show ¬ r.GQ=2 by omega),if_neg (show ¬ r.GQ=3 by omega),if_neg (show ¬ r.GQ=3 by omega),if_neg (show ¬ r.GQ=4 by omega),if_neg (show ¬ r.GQ=4 by omega),if_pos k,if_pos k]
theorem DX {s:ai} {r:T_Rec} (k:r.GQ=6):pc s r=(decide ((⟨r.GQ,nr,0,[],0,r.GU,0,[]⟩:T_Rec)=r)&&py s r.GU):=by
 unfold pc iK
 rw [if_neg (show ¬ r.GQ=1 by omega),if_neg (show ¬ r.GQ=1 by omega),if_neg (show ¬ r.GQ=2 by omega),if_neg (show ¬ r.GQ=2 by omega),if_neg (show ¬ r.GQ=3 by omega),if_neg (show ¬ r.GQ=3 by omega),if_neg (show ¬ r.GQ=4 by omega),if_neg (show ¬ r.GQ=4 by omega),if_neg (show ¬ r.GQ=5 by omega),if_neg (show ¬ r.GQ=5 by omega),if_pos k,if_pos k]
theorem DE {s:ai} {r:T_Rec} (k1:r.GQ≠1) (k2:r.GQ≠2) (k3:r.GQ≠3) (k4:r.GQ≠4) (k5:r.GQ≠5) (k6:r.GQ≠6):pc s r=(decide ((⟨r.GQ,nr,0,[],0,0,0,[]⟩:T_Rec)=r)&&false):=by
 unfold pc iK
 rw [if_neg k1,if_neg k1,if_neg k2,if_neg k2,if_neg k3,if_neg k3,if_neg k4,if_neg k4,if_neg k5,if_neg k5,if_neg k6,if_neg k6]
theorem DK {n:Int} (h1:1≤n) {l:List ae} (hs:∀ x∈l,Ag x):l.map (g3 n)=l.map (f3 n):=by
 refine List.map_congr_left fun x hx => ?_
 simp only [g3,f3]
 by_cases hp:x.GX=n
 ·rcases (hs x hx).2 (by omega) with h | h
  ·rw [if_pos ⟨hp,h⟩,if_pos hp]
  ·rw [if_neg (fun hh=>by have:=hh.2; omega),if_pos hp]
   obtain ⟨a,b,c,d⟩:=x
   simp only at h
   rw [h]
 ·rw [if_neg (fun hh=>hp hh.1),if_neg hp]
theorem z8 (k:Int) (id:Int) (ids:List Int) (og nu of_:Int) (da:List Int) (h1:ids.length≤1000000) (h2:da.length≤1000000) (r:T_Rec) (ok:Bool) (x:ai) :
  aF (S:=Bool) (A:=(ai×Int)) (cond (!ok) (some (.inl true)) ((bZ ⟨k,nr,id,ids,og,nu,of_,da⟩ r).bind fun v=>some (.inl (!v)))) (fun s1334=>cond s1334 (some (sA,5)) (some (x,0))) some=some (if ok=true∧(⟨k,nr,id,ids,og,nu,of_,da⟩:T_Rec)=r then (x,0) else (sA,5)) :=
 Cg _ r (by simp [nr]) (by simp [nr]) h1 h2 ok x
theorem wv {n:Nat} {s:ai} {r:T_Rec} (hs:sD n s) (ht:∀ x∈s.GP,Ag x) (hr:tM r):dM s r=some (if pc s r=true then (iS s r,0) else (sA,5)):=by
 have hl:=hs.len; have hn:=hs.hn; have hp:=hs.part; have hse:=hs.sent; have hd:=hs.done; have hpk:=hs.packs
 have hd6:=hr.1.1; have hi6:=hr.1.2.1
 have hto:=hr.1.2.2.1
 have hbo:=yM hr.1.2.2
 unfold dM
 refine az (xx hs) ?_
 by_cases k1:r.GQ=1
 ·obtain ⟨ok,hok⟩:∃ ok:Bool,ok=(decide (s.GP.length<60∧r.Id=(s.GP.length:Int)+1∧(r.GW=0∨r.GW=1))&&me r.GS):=⟨_,rfl⟩
  have hw:IntKind.i64.wrap ((s.GP.length:Int)+1)=(s.GP.length:Int)+1:=ed (by omega) (by omega)
  have hA:∀ sg:Int,dO 144 s.GP [(ae.mk r.Id r.GS sg 0)]=some (s.GP++[⟨r.Id,r.GS,sg,0⟩]):=fun sg=>fw (by simp only [List.length_cons,List.length_nil]; omega) (by simp only [List.length_cons,List.length_nil]; omega)
  have hst:∃ sg:Int,sg=(if r.GW=0 then 3 else 1):=⟨_,rfl⟩
  obtain ⟨sg,hsg⟩:=hst
  refine aI (aI (ar (beq_iff_eq.2 k1) (aI (s:=ok) ?_ (aI (s:=sg) ?_ (az (nC hr.1.2.2) (az (hA sg) rfl))))) rfl) ?_
  ·rw [hok]
   refine az (congrArg some hw) ?_
   by_cases a:r.Id=(s.GP.length:Int)+1
   ·refine ar (beq_iff_eq.2 a) ?_
    by_cases b:s.GP.length<60
    ·refine ar (decide_eq_true (by omega)) (az (eh _ _ _) ?_)
     by_cases c:r.GW=0∨r.GW=1
     ·rw [decide_eq_true (⟨b,a,c⟩:s.GP.length<60∧r.Id=(s.GP.length:Int)+1∧(r.GW=0∨r.GW=1)),Bool.true_and]
      exact ar (decide_eq_true (by omega)) (az (zt hr.1.2.2 hr.2) rfl)
     ·rw [decide_eq_false (fun h=>c h.2.2:¬ (s.GP.length<60∧r.Id=(s.GP.length:Int)+1∧(r.GW=0∨r.GW=1))),Bool.false_and]
      exact ap (decide_eq_false (by omega)) rfl
    ·rw [decide_eq_false (fun h=>b h.1:¬ (s.GP.length<60∧r.Id=(s.GP.length:Int)+1∧(r.GW=0∨r.GW=1))),Bool.false_and]
     exact ap (decide_eq_false (by omega)) rfl
   ·rw [decide_eq_false (fun h=>a h.2.1:¬ (s.GP.length<60∧r.Id=(s.GP.length:Int)+1∧(r.GW=0∨r.GW=1))),Bool.false_and]
    exact ap (beq_eq_false_iff_ne.2 a) rfl
  ·rw [hsg]
   by_cases a:r.GW=0
   ·rw [if_pos a]; exact ar (beq_iff_eq.2 a) rfl
   ·rw [if_neg a]; exact ap (beq_eq_false_iff_ne.2 a) rfl
  ·refine (Cg ⟨r.GQ,r.GS,r.Id,[],r.GW,0,0,[]⟩ r (by dsimp only; omega) (by dsimp only; omega) (by simp) (by simp) ok ⟨s.GP++[⟨r.Id,r.GS,sg,0⟩],s.GY,s.Hb,s.GZ,s.Of,s.GK⟩).trans (ky (kr (FB k1) hok.symm) (fun _ => ?_))
   rw [xg k1,hsg]
 by_cases k2:r.GQ=2
 ·have hw:IntKind.i64.wrap (s.GY+1)=s.GY+1:=ed (by omega) (by omega)
  obtain ⟨ok,hok⟩:∃ ok:Bool,ok=(decide (r.GU=s.GY+1)&&decide (1≤r.GO.length∧r.GO.length≤4)):=⟨_,rfl⟩
  obtain ⟨L,ok',h1,h2,h3⟩:=yz hs r (by omega) ok
  refine aI (aI (ap (beq_eq_false_iff_ne.2 k1) (ar (beq_iff_eq.2 k2) (aI (s:=ok) ?_ (aI h1 rfl)))) rfl) ?_
  ·rw [hok]
   refine az (congrArg some hw) ?_
   by_cases a:r.GU=s.GY+1
   ·rw [decide_eq_true a,Bool.true_and]
    refine ar (beq_iff_eq.2 a) (az (eh _ _ _) (bJ ?_))
    by_cases b:1≤r.GO.length∧r.GO.length≤4
    ·rw [decide_eq_true b,decide_eq_true (by omega)]
    ·rw [decide_eq_false b,decide_eq_false (by omega)]
   ·rw [decide_eq_false a,Bool.false_and]
    exact ap (beq_eq_false_iff_ne.2 a) rfl
  ·refine (z8 r.GQ 0 r.GO 0 r.GU 0 [] (by omega) (by simp) r ok' ⟨L,r.GU,s.Hb,s.GZ,s.Of,s.GK⟩).trans (ky (kr (DG k2) ?_) (fun h => ?_))
   ·rw [h2,hok]
    unfold rB
    rw [Bool.and_assoc]
   ·rw [DG k2,Bool.and_eq_true,Bool.and_eq_true] at h
    have hi:=h.2.2
    unfold rB at hi
    rw [Bool.and_eq_true] at hi
    rw [xj k2,h3 (by rw [h2,hok,h.2.1,hi.1,hi.2]; rfl)]
 by_cases k3:r.GQ=3
 ·obtain ⟨ok,hok⟩:∃ ok:Bool,ok=decide (1≤r.GU∧r.GU≤s.GY∧r.GU ∉ s.Hb):=⟨_,rfl⟩
  have hA:dO 8 s.Hb [r.GU]=some (s.Hb++[r.GU]):=fw (by simp only [List.length_cons,List.length_nil]; omega) (by simp only [List.length_cons,List.length_nil]; omega)
  refine aI (aI (ap (beq_eq_false_iff_ne.2 k1) (ap (beq_eq_false_iff_ne.2 k2) (ar (beq_iff_eq.2 k3) (aI (s:=ok) ?_ (aI (yB s s r (by omega)) (az hA rfl)))))) rfl) ?_
  ·rw [hok]
   refine az (eh _ _ _) ?_
   by_cases a:1≤r.GU∧r.GU≤s.GY
   ·refine ar (decide_eq_true a) (az (qK _ _ (by omega)) (bJ ?_))
    by_cases b:r.GU∈s.Hb
    ·rw [decide_eq_true b,decide_eq_false (fun h=>h.2.2 b)]; rfl
    ·rw [decide_eq_false b,decide_eq_true (⟨a.1,a.2,b⟩:1≤r.GU∧r.GU≤s.GY∧r.GU ∉ s.Hb)]; rfl
   ·rw [decide_eq_false (fun h=>a ⟨h.1,h.2.1⟩:¬ (1≤r.GU∧r.GU≤s.GY∧r.GU ∉ s.Hb))]
    exact ap (decide_eq_false a) rfl
  ·refine (z8 r.GQ 0 [] 0 r.GU 0 [] (by simp) (by simp) r ok ⟨s.GP.map (g3 r.GU),s.GY,s.Hb++[r.GU],s.GZ,s.Of,s.GK⟩).trans (ky (kr (Ep k3) hok.symm) (fun h => ?_))
   rw [Ep k3,Bool.and_eq_true] at h
   have h:=of_decide_eq_true h.2
   rw [xp k3,DK h.1 ht]
 by_cases k4:r.GQ=4
 ·by_cases a:1≤r.Id∧r.Id≤(s.GP.length:Int)
  ·obtain ⟨k,hk⟩:∃ k:Nat,r.Id=(k:Int)+1:=⟨(r.Id-1).toNat,by omega⟩
   have hkl:k<s.GP.length:=by omega
   have w1:some (IntKind.i64.wrap (r.Id-1))=some (k:Int):=by rw [hk,Int.add_sub_cancel,qX _ (by omega)]
   have hgk:aA s.GP k=some s.GP[k]:=by simp [aA,hkl]
   have hwt:wt s r.Id=(s.GP[k].Hc==1):=by
    unfold wt
    rw [decide_eq_true a,Bool.true_and,hk,Int.add_sub_cancel,Int.toNat_natCast,List.getElem?_eq_getElem hkl]
    simp
   by_cases b:s.GP[k].Hc=1
   ·refine aI (aI (ap (beq_eq_false_iff_ne.2 k1) (ap (beq_eq_false_iff_ne.2 k2) (ap (beq_eq_false_iff_ne.2 k3) (ar (beq_iff_eq.2 k4) (aI (s:=true) (az (eh _ _ _) (ar (decide_eq_true a) (az w1 (az (aR hkl) (az hgk (bJ (beq_iff_eq.2 b))))))) (ar rfl (az w1 (az (aR hkl) (az hgk (az rfl rfl)))))))))) rfl) ?_
    refine (z8 r.GQ r.Id [] 0 0 0 [] (by simp) (by simp) r true ⟨s.GP.set k ⟨s.GP[k].Id,s.GP[k].GS,4,s.GP[k].GX⟩,s.GY,s.Hb,s.GZ,s.Of,s.GK⟩).trans (ky (kr (zk k4) (by rw [hwt,beq_iff_eq.2 b])) (fun h => ?_))
    rw [xU k4,Ex hs.ids hkl,hk]
   ·refine aI (aI (ap (beq_eq_false_iff_ne.2 k1) (ap (beq_eq_false_iff_ne.2 k2) (ap (beq_eq_false_iff_ne.2 k3) (ar (beq_iff_eq.2 k4) (aI (s:=false) (az (eh _ _ _) (ar (decide_eq_true a) (az w1 (az (aR hkl) (az hgk (bJ (beq_eq_false_iff_ne.2 b))))))) (ap rfl rfl)))))) rfl) ?_
    refine (z8 r.GQ r.Id [] 0 0 0 [] (by simp) (by simp) r false ⟨s.GP,s.GY,s.Hb,s.GZ,s.Of,s.GK⟩).trans (ky (kr (zk k4) (by rw [hwt,beq_eq_false_iff_ne.2 b])) (fun h => ?_))
    rw [zk k4,hwt,beq_eq_false_iff_ne.2 b] at h
    simp at h
  ·have hwt:wt s r.Id=false:=by unfold wt; rw [decide_eq_false a]; rfl
   refine aI (aI (ap (beq_eq_false_iff_ne.2 k1) (ap (beq_eq_false_iff_ne.2 k2) (ap (beq_eq_false_iff_ne.2 k3) (ar (beq_iff_eq.2 k4) (aI (s:=false) (az (eh _ _ _) (ap (decide_eq_false a) rfl)) (ap rfl rfl)))))) rfl) ?_
   refine (z8 r.GQ r.Id [] 0 0 0 [] (by simp) (by simp) r false ⟨s.GP,s.GY,s.Hb,s.GZ,s.Of,s.GK⟩).trans (ky (kr (zk k4) hwt) (fun h => ?_))
   rw [zk k4,hwt] at h
   simp at h
 have hopn:∀ (a:1≤r.GU∧r.GU≤65535),py s r.GU = !decide (r.GU∈s.GK):=fun a=>by unfold py; rw [decide_eq_true a,Bool.true_and]
 have hopf:∀ (a:¬ (1≤r.GU∧r.GU≤65535)),py s r.GU=false:=fun a=>by unfold py; rw [decide_eq_false a,Bool.false_and]
 by_cases k5:r.GQ=5
 ·obtain ⟨o1,ho1⟩:∃ o1:Bool,o1=(py s r.GU&&(decide (1≤r.GI.length∧r.GI.length≤48)&&(decide (r.GV=0)||decide (s.Of=r.GU∧r.GV=(s.GZ.length:Int))))):=⟨_,rfl⟩
  obtain ⟨pt,hpt⟩:∃ pt:List Int,pt=(if r.GV=0 then r.GI else s.GZ++r.GI):=⟨_,rfl⟩
  obtain ⟨of_,hof⟩:∃ of_:Int,of_=(if r.GV=0 then r.GU else s.Of):=⟨_,rfl⟩
  refine aI (aI (ap (beq_eq_false_iff_ne.2 k1) (ap (beq_eq_false_iff_ne.2 k2) (ap (beq_eq_false_iff_ne.2 k3) (ap (beq_eq_false_iff_ne.2 k4) (ar (beq_iff_eq.2 k5) (aI (s:=o1) ?_ (aI (s:=(pt,of_)) ?_ (aI (s:=o1&&decide (pt.length≤5000)) ?_ rfl)))))))) rfl) ?_
  ·rw [ho1]
   refine az (eh _ _ _) ?_
   by_cases a:1≤r.GU∧r.GU≤65535
   ·rw [hopn a]
    refine ar (decide_eq_true a) (az (qK _ _ (by omega)) ?_)
    cases hin:decide (r.GU∈s.GK)
    ·refine ar rfl (az (eh _ _ _) ?_)
     by_cases b:1≤r.GI.length∧r.GI.length≤48
     ·rw [decide_eq_true b]
      refine ar (decide_eq_true (by omega)) ?_
      by_cases c:r.GV=0
      ·rw [decide_eq_true c]; exact ar (beq_iff_eq.2 c) rfl
      ·rw [decide_eq_false c]
       refine ap (beq_eq_false_iff_ne.2 c) ?_
       by_cases d:s.Of=r.GU
       ·refine ar (beq_iff_eq.2 d) (bJ ?_)
        by_cases e:r.GV=(s.GZ.length:Int)
        ·rw [beq_iff_eq.2 e,decide_eq_true (⟨d,e⟩:s.Of=r.GU∧r.GV=(s.GZ.length:Int))]; rfl
        ·rw [beq_eq_false_iff_ne.2 e,decide_eq_false (fun h=>e h.2:¬ (s.Of=r.GU∧r.GV=(s.GZ.length:Int)))]; rfl
       ·rw [decide_eq_false (fun h=>d h.1:¬ (s.Of=r.GU∧r.GV=(s.GZ.length:Int)))]
        exact ap (beq_eq_false_iff_ne.2 d) rfl
     ·rw [decide_eq_false b]
      exact ap (decide_eq_false (by omega)) rfl
    ·exact ap rfl rfl
   ·rw [hopf a]
    exact ap (decide_eq_false a) rfl
  ·rw [hpt,hof]
   by_cases c:r.GV=0
   ·rw [if_pos c,if_pos c]
    exact ar (beq_iff_eq.2 c) (az (az (eI (by omega) (by omega)) rfl) rfl)
   ·rw [if_neg c,if_neg c]
    exact ap (beq_eq_false_iff_ne.2 c) (az (fw (by omega) (by omega)) rfl)
  ·cases o1
   ·exact ap rfl rfl
   ·refine ar rfl (bJ ?_)
    rw [Bool.true_and]
    by_cases h:pt.length≤5000
    ·rw [decide_eq_true h,decide_eq_true (by omega)]
    ·rw [decide_eq_false h,decide_eq_false (by omega)]
  ·have hK:(py s r.GU&&xY s r)=(o1&&decide (pt.length≤5000)):=by
    rw [ho1,hpt]
    unfold xY
    by_cases c:r.GV=0
    ·rw [if_pos c,decide_eq_true c]
     by_cases b:1≤r.GI.length∧r.GI.length≤48
     ·rw [decide_eq_true b,decide_eq_true (by omega:r.GI.length≤5000)]; simp
     ·rw [decide_eq_false b]; simp
    ·rw [if_neg c,decide_eq_false c,List.length_append]
     by_cases d:s.Of=r.GU∧r.GV=(s.GZ.length:Int)
     ·rw [decide_eq_true d]
      by_cases e:s.GZ.length+r.GI.length≤5000
      ·rw [decide_eq_true e,decide_eq_true (⟨d.1,d.2,e⟩:s.Of=r.GU∧r.GV=(s.GZ.length:Int)∧s.GZ.length+r.GI.length≤5000)]; simp
      ·rw [decide_eq_false e,decide_eq_false (fun h=>e h.2.2:¬ (s.Of=r.GU∧r.GV=(s.GZ.length:Int)∧s.GZ.length+r.GI.length≤5000))]; simp
     ·rw [decide_eq_false d,decide_eq_false (fun h=>d ⟨h.1,h.2.1⟩:¬ (s.Of=r.GU∧r.GV=(s.GZ.length:Int)∧s.GZ.length+r.GI.length≤5000))]; simp
   refine (z8 r.GQ 0 [] 0 r.GU r.GV r.GI (by simp) (by omega) r (o1&&decide (pt.length≤5000)) ⟨s.GP,s.GY,s.Hb,pt,of_,s.GK⟩).trans (ky (kr (Fm k5) hK) (fun h => ?_))
   rw [vh k5,hpt,hof]
 by_cases k6:r.GQ=6
 ·have hlp:=tQ s s r (by omega) s.GK.length 0 cq [] false (by omega) (by simp only [cq]; omega) (by simp)
  rw [List.drop_zero,List.nil_append] at hlp
  have hgl:=yg r.GU s.GK false
  obtain ⟨q,hq⟩:∃ q:List Int,q=(gI r.GU s.GK false).1++(if (gI r.GU s.GK false).2=true then [] else [r.GU]):=⟨_,rfl⟩
  obtain ⟨p1,hp1⟩:∃ p1:List Int,p1=(if s.Of=r.GU then [] else s.GZ):=⟨_,rfl⟩
  obtain ⟨p2,hp2⟩:∃ p2:Int,p2=(if s.Of=r.GU then-1 else s.Of):=⟨_,rfl⟩
  refine aI (aI (s:=(s.GP,s.GY,s.Hb,p1,p2,q,false,e8,e8,[],[],false,e8,0,0,[],0,r.GU,0,[],py s r.GU)) (ap (beq_eq_false_iff_ne.2 k1) (ap (beq_eq_false_iff_ne.2 k2) (ap (beq_eq_false_iff_ne.2 k3) (ap (beq_eq_false_iff_ne.2 k4) (ap (beq_eq_false_iff_ne.2 k5) (ar (beq_iff_eq.2 k6) (aI (s:=py s r.GU) ?_ (aI hlp (aI (s:=q) ?_ ?_))))))))) rfl) ?_
  ·refine az (eh _ _ _) ?_
   by_cases a:1≤r.GU∧r.GU≤65535
   ·rw [hopn a]
    exact ar (decide_eq_true a) (az (qK _ _ (by omega)) rfl)
   ·rw [hopf a]
    exact ap (decide_eq_false a) rfl
  ·rw [hq]
   cases hb:(gI r.GU s.GK false).2
   ·rw [if_neg (by simp)]
    exact ar rfl (az (fw (by simp; omega) (by simp; omega)) rfl)
   ·rw [if_pos rfl,List.append_nil]
    exact ap rfl rfl
  ·rw [hp1,hp2]
   by_cases h:s.Of=r.GU
   ·rw [if_pos h,if_pos h]; exact ar (beq_iff_eq.2 h) rfl
   ·rw [if_neg h,if_neg h]; exact ap (beq_eq_false_iff_ne.2 h) rfl
  ·refine (z8 r.GQ 0 [] 0 r.GU 0 [] (by simp) (by simp) r (py s r.GU) ⟨s.GP,s.GY,s.Hb,p1,p2,q⟩).trans (ky (kr (DX k6) rfl) (fun h => ?_))
   rw [DX k6,Bool.and_eq_true] at h
   have hnd:r.GU ∉ s.GK:=by
    have:=h.2
    simp only [py,Bool.and_eq_true,Bool.not_eq_true',decide_eq_false_iff_not] at this
    exact this.2
   rw [xh k6,hq,Ae _ _ hnd,hp1,hp2]
 ·refine aI (aI (ap (beq_eq_false_iff_ne.2 k1) (ap (beq_eq_false_iff_ne.2 k2) (ap (beq_eq_false_iff_ne.2 k3) (ap (beq_eq_false_iff_ne.2 k4) (ap (beq_eq_false_iff_ne.2 k5) (ap (beq_eq_false_iff_ne.2 k6) rfl)))))) rfl) ?_
  refine (z8 r.GQ 0 [] 0 0 0 [] (by simp) (by simp) r false ⟨s.GP,s.GY,s.Hb,s.GZ,s.Of,s.GK⟩).trans (ky (kr (DE k1 k2 k3 k4 k5 k6) rfl) (fun h => ?_))
  rw [DE k1 k2 k3 k4 k5 k6] at h
  simp at h
set_option maxRecDepth 100000
def zR:T_Rec:=⟨0,⟨⟨false,⟨#[]⟩,⟨#[]⟩⟩,[],[],false,⟨#[]⟩,0⟩,0,[],0,0,0,[]⟩
theorem xN:dF zR=some true:=by kernel_rfl
theorem DY {r:T_Rec} (h:cY r=some zR):er r=true:=by
 unfold er CY
 rw [h]
 show (dF zR).getD false=true
 rw [xN]
 rfl
theorem uF {r:T_Rec} (h:iK r=r) (hk:r.GQ=1∨r.GQ=2∨r.GQ=3∨r.GQ=4∨r.GQ=5∨r.GQ=6):er r=true:=by
 refine DY ?_
 obtain ⟨k,m,id,ids,og,nu,of_,da⟩:=r
 dsimp only at hk
 unfold iK at h
 dsimp only at h
 unfold cY
 rcases hk with rfl | rfl | rfl | rfl | rfl | rfl
 ·rw [if_pos rfl] at h; cases h
  exact aI (aI (ar rfl rfl) rfl) rfl
 ·rw [if_neg (by omega),if_pos rfl] at h; cases h
  exact aI (aI (ap rfl (ar rfl rfl)) rfl) rfl
 ·rw [if_neg (by omega),if_neg (by omega),if_pos rfl] at h; cases h
  exact aI (aI (ap rfl (ap rfl (aI (s:=true) (ar rfl rfl) (ar rfl rfl)))) rfl) rfl
 ·rw [if_neg (by omega),if_neg (by omega),if_neg (by omega),if_pos rfl] at h; cases h
  exact aI (aI (ap rfl (ap rfl (aI (s:=false) (ap rfl rfl) (ap rfl (ar rfl rfl))))) rfl) rfl
 ·rw [if_neg (by omega),if_neg (by omega),if_neg (by omega),if_neg (by omega),if_pos rfl] at h; cases h
  exact aI (aI (ap rfl (ap rfl (aI (s:=false) (ap rfl rfl) (ap rfl (ap rfl (ar rfl rfl)))))) rfl) rfl
 ·rw [if_neg (by omega),if_neg (by omega),if_neg (by omega),if_neg (by omega),if_neg (by omega),if_pos rfl] at h; cases h
  exact aI (aI (ap rfl (ap rfl (aI (s:=true) (ap rfl rfl) (ar rfl rfl)))) rfl) rfl
theorem yR {m:T_Mail} (h:LM m) (hb:jF m.GH) (hv:me m=true):mv m=true:=by
 obtain ⟨hs1,hs2,hs3,hs4⟩:=kh h
 unfold me at hv
 rw [Bool.and_eq_true,Bool.and_eq_true,Bool.and_eq_true,Bool.and_eq_true] at hv
 obtain ⟨h1,h2,h3,h4,h5⟩:=hv
 have h2:=of_decide_eq_true h2
 have h4:=of_decide_eq_true h4
 have h5:=of_decide_eq_true h5
 have he:dc m=some true:=by
  unfold dc
  refine aI (s:=false) (az (iE _ hs1) (ap (by rw [h1]; rfl) (ap (decide_eq_false (by omega)) (bJ (decide_eq_false (by omega)))))) (ap rfl (aI (s:=()) (cE (f:=EB m) (fun i=>((i:Nat):Int)) m.To.length cq rfl (by simp only [cq]; omega) (fun i hi => ?_) (ap (decide_eq_false (by omega)) rfl)) rfl))
  have hp:=h5 _ (List.getElem_mem hi)
  exact ar (decide_eq_true (by omega)) (az (aR hi) (az (by simp [aA,hi]:aA m.To i=some m.To[i]) (aI (s:=false) (az (iE _ (hs2 _ (List.getElem_mem hi))) (ap (by rw [hp.1]; rfl) (bJ hp.2))) (ap rfl (az (congrArg some (aX (n:=i) (by omega))) rfl)))))
 have hd:ef m.GH=some 0:=by
  rcases ur m.GH hb (by omega) with h | ⟨_,ls,a,b,c⟩
  ·unfold pN at h3; rw [h] at h3; cases h3
  ·rw [c]; exact qY a b (by rw [← kC,← c]; omega)
 have:bI m=some true:=by
  unfold bI
  exact aI (s:=true) (az he (ar rfl (az hd (ar rfl (ar (decide_eq_true h4.1) (bJ (decide_eq_true h4.2))))))) rfl
 simp only [mv,this,Option.getD_some]
theorem Ez {s:ai} {r:T_Rec} (hm:LM r.GS) (hb:jF r.GS.GH) (h:pc s r=true):pC s r=true:=by
 unfold pc at h
 rw [Bool.and_eq_true] at h
 have hc:=of_decide_eq_true h.1
 have hx:=h.2
 unfold pC
 by_cases k1:r.GQ=1
 ·rw [if_pos k1] at hx ⊢
  rw [Bool.and_eq_true] at hx
  rw [uF hc (.inl k1),hx.1,yR hm hb hx.2]; rfl
 ·rw [if_neg k1] at hx ⊢
  have hk:r.GQ=1∨r.GQ=2∨r.GQ=3∨r.GQ=4∨r.GQ=5∨r.GQ=6:=by
   by_cases k2:r.GQ=2
   ·exact .inr (.inl k2)
   by_cases k3:r.GQ=3
   ·exact .inr (.inr (.inl k3))
   by_cases k4:r.GQ=4
   ·exact .inr (.inr (.inr (.inl k4)))
   by_cases k5:r.GQ=5
   ·exact .inr (.inr (.inr (.inr (.inl k5))))
   by_cases k6:r.GQ=6
   ·exact .inr (.inr (.inr (.inr (.inr k6))))
   rw [if_neg k2,if_neg k3,if_neg k4,if_neg k5,if_neg k6] at hx
   cases hx
  rw [uF hc hk,Bool.true_and]
  exact hx
def Gy (l:List T_Rec):(((List ae)×Int×(List Int)×(List Int)×Int×(List Int)×Int))→Option (((List ae)×Int×(List Int)×(List Int)×Int×(List Int)×Int)⊕(((List ae)×Int×(List Int)×(List Int)×Int×(List Int))⊕(ai×Int))):=(fun ((s17,s18,s19,s20,s21,s22,s23):(List ae)×Int×(List Int)×(List Int)×Int×(List Int)×Int) =>
 cond ((decide (s23<(l.length:Int))))
  ((bL s23 l.length).bind fun v3 =>
  (aA l v3).bind fun v4 =>
  (dM (ai.mk s17 s18 s19 s20 s21 s22) ((T_Rec.mk v4.GQ ((T_Mail.mk (T_Path.mk v4.GS.GM.GT v4.GS.GM.GR v4.GS.GM.GJ) v4.GS.To v4.GS.GH v4.GS.Ha v4.GS.GN v4.GS.At)) v4.Id v4.GO v4.GW v4.GU v4.GV v4.GI))).bind fun v5 =>
  cond ((v5.2 != 0))
   (some (.inr (.inr (((ai.mk s17 s18 s19 s20 s21 s22),s23)))))
   ((some (IntKind.i64.wrap (s23+1))).bind fun v7 =>
   some (.inl (v5.1.GP,v5.1.GY,v5.1.Hb,v5.1.GZ,v5.1.Of,v5.1.GK,v7))))
  (some (.inr (.inl (s17,s18,s19,s20,s21,s22)))))
theorem Ao:bP (ai.mk [] 0 [] [] 0 []) (ai.mk [] 0 [] [] 0 [])=some true:=by kernel_rfl
def GA (v2:List T_Rec):((Int×Int))→Option ((Int×Int)⊕((Int)⊕(List T_Rec))):=(fun ((s53,s54):Int×Int) =>
 cond ((decide (s54<(v2.length:Int))))
  (aF (S:=Int) (A:=((Int×Int)⊕((Int)⊕(List T_Rec))))
   ((bL s54 v2.length).bind fun v4 =>
   (aA v2 v4).bind fun v5 =>
   aF (S:=Bool) (A:=(Int⊕((Int×Int)⊕((Int)⊕(List T_Rec)))))
    (cond ((v5.GQ==5))
     (some (.inl (v5.GV==0)))
     (some (.inl false)))
    (fun (s87:Bool) =>
     cond (s87)
      (some (.inl s54))
      (some (.inl s53))) some)
   (fun (s83:Int) =>
    (some (IntKind.i64.wrap (s54+1))).bind fun v19 =>
    some (.inl (s83,v19))) some)
  (some (.inr (.inl s53))))
def GD (v2:List T_Rec) (s70:Int) (v1:ai×Int):(((List T_Rec)×Int))→Option (((List T_Rec)×Int)⊕(((List T_Rec))⊕(List T_Rec))):=(fun ((s130,s131):(List T_Rec)×Int) =>
 cond ((decide (s131<(v2.length:Int))))
  (aF (S:=(List T_Rec)) (A:=(((List T_Rec)×Int)⊕(((List T_Rec))⊕(List T_Rec))))
   ((bL s131 v2.length).bind fun v93 =>
   (aA v2 v93).bind fun v94 =>
   aF (S:=Bool) (A:=(((List T_Rec))⊕(((List T_Rec)×Int)⊕(((List T_Rec))⊕(List T_Rec)))))
    (cond ((v94.GQ==5))
     (cond ((decide (s131<s70)))
      (some (.inl true))
      ((bB v1.1.GK v94.GU).bind fun v95 =>
      some (.inl v95)))
     (some (.inl false)))
    (fun (s164:Bool) =>
     cond (s164)
      (some (.inl s130))
      ((jb ((T_Rec.mk v94.GQ ((T_Mail.mk (T_Path.mk v94.GS.GM.GT v94.GS.GM.GR v94.GS.GM.GJ) v94.GS.To v94.GS.GH v94.GS.Ha v94.GS.GN v94.GS.At)) v94.Id v94.GO v94.GW v94.GU v94.GV v94.GI))).bind fun v101 =>
      (dO 208 s130 [(T_Rec.mk v101.GQ ((T_Mail.mk (T_Path.mk v101.GS.GM.GT v101.GS.GM.GR v101.GS.GM.GJ) v101.GS.To v101.GS.GH v101.GS.Ha v101.GS.GN v101.GS.At)) v101.Id v101.GO v101.GW v101.GU v101.GV v101.GI)]).bind fun v102 =>
      some (.inl v102))) some)
   (fun (s160:(List T_Rec)) =>
    (some (IntKind.i64.wrap (s131+1))).bind fun v112 =>
    some (.inl (s160,v112))) some)
  (some (.inr (.inl s130))))
def jG:Nat→Nat→List T_Rec→Nat
 | _,c,[]=>c
 | i,c,r::l=>jG (i+1) (if r.GQ=5∧r.GV=0 then i else c) l
def jp (k:Nat) (D:List Int):Nat→List T_Rec→List T_Rec
 | _,[]=>[]
 | i,r::l=>if r.GQ=5∧(i<k∨r.GU∈D) then jp k D (i+1) l else r::jp k D (i+1) l
theorem sj (m:List T_Rec) (hl:m.length<1000000):∀ (d i c fuel:Nat),i+d=m.length→d<fuel→bm (GA m) fuel ((c:Int),(i:Int))=some (.inl ((jG i c (m.drop i):Nat):Int))
 | d,i,c,0,_,hf=>absurd hf (Nat.not_lt_zero d)
 | 0,i,c,fuel+1,hd,_=>by
  obtain rfl:i=m.length:=by omega
  rw [List.drop_length]
  exact bS (ap (decide_eq_false (by omega)) rfl)
 | d+1,i,c,fuel+1,hd,hf=>by
  have hi:i<m.length:=by omega
  have hg:aA m i=some m[i]:=by simp [aA,hi]
  have e1:some (IntKind.i64.wrap ((i:Int)+1))=some ((i+1:Nat):Int):=congrArg some (aX (n:=i) (by omega))
  rw [List.drop_eq_getElem_cons hi]
  simp only [jG]
  rw [← sj m hl d (i+1) _ fuel (by omega) (by omega)]
  refine bY (ar (decide_eq_true (by omega)) (aI (s:=(((if m[i].GQ=5∧m[i].GV=0 then i else c:Nat)):Int)) (az (aR hi) (az hg ?_)) (az e1 rfl)))
  by_cases h5:m[i].GQ=5
  ·by_cases h0:m[i].GV=0
   ·rw [if_pos ⟨h5,h0⟩]
    exact aI (s:=true) (ar (beq_iff_eq.2 h5) (bJ (beq_iff_eq.2 h0))) rfl
   ·rw [if_neg (fun h=>h0 h.2)]
    exact aI (s:=false) (ar (beq_iff_eq.2 h5) (bJ (beq_eq_false_iff_ne.2 h0))) rfl
  ·rw [if_neg (fun h=>h5 h.1)]
   exact aI (s:=false) (ap (beq_eq_false_iff_ne.2 h5) rfl) rfl
theorem nK (m:List T_Rec) (hr:∀ r∈m,tM r) (hl:m.length<1000000) (k:Nat) (v:ai×Int) (hv:v.1.GK.length<1000000):∀ (d i fuel:Nat) (a:List T_Rec),i+d=m.length→d<fuel→a.length≤i→bm (GD m (k:Int) v) fuel (a,(i:Int))=some (.inl (a++jp k v.1.GK i (m.drop i)))
 | d,i,0,a,_,hf,_=>absurd hf (Nat.not_lt_zero d)
 | 0,i,fuel+1,a,hd,_,_=>by
  obtain rfl:i=m.length:=by omega
  rw [List.drop_length]
  simp only [jp,List.append_nil]
  exact bS (ap (decide_eq_false (by omega)) rfl)
 | d+1,i,fuel+1,a,hd,hf,ha=>by
  have hi:i<m.length:=by omega
  have hg:aA m i=some m[i]:=by simp [aA,hi]
  have e1:some (IntKind.i64.wrap ((i:Int)+1))=some ((i+1:Nat):Int):=congrArg some (aX (n:=i) (by omega))
  have hri:=hr _ (List.getElem_mem hi)
  rw [List.drop_eq_getElem_cons hi]
  simp only [jp]
  by_cases hc:m[i].GQ=5∧(i<k∨m[i].GU∈v.1.GK)
  ·rw [if_pos hc,← nK m hr hl k v hv d (i+1) fuel a (by omega) (by omega) (by omega)]
   refine bY (ar (decide_eq_true (by omega)) (aI (s:=a) (az (aR hi) (az hg (aI (s:=true) (ar (beq_iff_eq.2 hc.1) ?_) rfl))) (az e1 rfl)))
   by_cases hik:i<k
   ·exact ar (decide_eq_true (by omega)) rfl
   ·exact ap (decide_eq_false (by omega)) (az (iB _ _ (by omega)) (bJ (decide_eq_true (hc.2.resolve_left hik))))
  ·rw [if_neg hc]
   have hcat:a++m[i]::jp k v.1.GK (i+1) (m.drop (i+1))=(a++[m[i]])++jp k v.1.GK (i+1) (m.drop (i+1)):=by simp
   rw [hcat,← nK m hr hl k v hv d (i+1) fuel (a++[m[i]]) (by omega) (by omega) (by simp; omega)]
   refine bY (ar (decide_eq_true (by omega)) (aI (s:=a++[m[i]]) (az (aR hi) (az hg (aI (s:=false) ?_ (ap rfl (az (xQ hri.1) (az (fw (by simp; omega) (by simp; omega)) rfl)))))) (az e1 rfl)))
   by_cases h5:m[i].GQ=5
   ·refine ar (beq_iff_eq.2 h5) (ap (decide_eq_false (fun h=>hc ⟨h5,.inl (by omega)⟩)) (az (iB _ _ (by omega)) (bJ (decide_eq_false (fun h=>hc ⟨h5,.inr h⟩)))))
   ·exact ap (beq_eq_false_iff_ne.2 h5) rfl
def ud (l:List T_Rec):List T_Rec:=jp (jG 0 0 (l.take (bM ci l).2)) (bM ci l).1.GK 0 (l.take (bM ci l).2)
theorem Av (l:List T_Rec) (hr:∀ r∈l,tM r) (hl:l.length<999999):gZ l=some (ud l):=by
 have hle:=mY ci l
 have hin:=nG l ci 0 (by omega) hr pB
 have hs0:=sY l (a:=0) (b:=(bM ci l).2) (by omega) (by omega)
 rw [List.drop_zero,Nat.sub_zero] at hs0
 unfold gZ
 refine az (wQ l hr hl) (az hs0 ?_)
 have h1:=sj (l.take (bM ci l).2) (by rw [List.length_take]; omega) (l.take (bM ci l).2).length 0 0 cq (by omega) (by simp only [cq,List.length_take]; omega)
 have hd:=hin.done
 have h2:=nK (l.take (bM ci l).2) (fun r h=>hr r (List.mem_of_mem_take h)) (by rw [List.length_take]; omega) (jG 0 0 (l.take (bM ci l).2)) ((bM ci l).1,((bM ci l).2:Int)) (by dsimp only; omega) (l.take (bM ci l).2).length 0 cq [] (by omega) (by simp only [cq,List.length_take]; omega) (by simp)
 rw [List.drop_zero] at h1 h2
 exact aI h1 (aI h2 rfl)
theorem pR (k:Nat) (D:List Int):∀ (i:Nat) (l:List T_Rec),∀ r∈jp k D i l,r∈l
 | _,[],r,h=>h
 | i,x::l,r,h=>by
  simp only [jp] at h
  split at h
  ·exact List.mem_cons_of_mem _ (pR k D (i+1) l r h)
  ·rcases List.mem_cons.1 h with rfl | h
   ·exact List.mem_cons_self
   ·exact List.mem_cons_of_mem _ (pR k D (i+1) l r h)
theorem uw (k:Nat) (D:List Int):∀ (i:Nat) (l:List T_Rec),(jp k D i l).length≤l.length
 | _,[]=>Nat.le_refl _
 | i,r::l=>by
  have:=uw k D (i+1) l
  simp only [jp]
  split
  ·simp only [List.length_cons]; omega
  ·simp only [List.length_cons]; omega
def zK (r:T_Rec):Prop:=r.GQ=5∧r.GV=0
def Bb (s:ai):Prop:=(s.Of = -1∧s.GZ=[])∨(1≤s.Of∧s.Of ∉ s.GK)
theorem qL {s:ai} {n:Int} (h:py s n=true):1≤n∧n≤65535∧n ∉ s.GK:=by
 simp only [py,Bool.and_eq_true,decide_eq_true_eq,Bool.not_eq_true',decide_eq_false_iff_not] at h
 exact ⟨h.1.1,h.1.2,h.2⟩
theorem zF {s:ai} {r:T_Rec} (hs:Bb s) (ho:pC s r=true):Bb (iS s r):=by
 rcases mH ho with ⟨k,_⟩ | ⟨k,_⟩ | ⟨k,_⟩ | ⟨k,_⟩ | ⟨k,a,b⟩ | ⟨k,a⟩
 ·rw [xg k]; exact hs
 ·rw [xj k]; exact hs
 ·rw [xp k]; exact hs
 ·rw [xU k]; exact hs
 ·rw [vh k]
  have h:=qL a
  simp only [xY,Bool.and_eq_true,Bool.or_eq_true,decide_eq_true_eq] at b
  by_cases h0:r.GV=0
  ·rw [if_pos h0,if_pos h0]
   exact .inr ⟨h.1,h.2.2⟩
  ·rw [if_neg h0,if_neg h0]
   have h1:=(b.2.resolve_left h0).1
   exact .inr ⟨by rw [h1]; exact h.1,by rw [h1]; exact h.2.2⟩
 ·rw [xh k]
  by_cases h0:s.Of=r.GU
  ·rw [if_pos h0,if_pos h0]
   exact .inl ⟨rfl,rfl⟩
  ·rw [if_neg h0,if_neg h0]
   rcases hs with h | h
   ·exact .inl h
   ·exact .inr ⟨h.1,fun hm=>(kS.1 hm).elim h0 h.2⟩
theorem ub:∀ (l:List T_Rec) (s:ai),Bb s→kQ s l→Bb (jD s l)
 | [],s,h,_=>h
 | r::l,s,h,ha=>ub l (iS s r) (zF h ha.1) ha.2
theorem lC (N:Int):∀ (l:List T_Rec) (s:ai),kQ s l→(∀ r∈l,¬ zK r)→(s.Of=N∨s.Of = -1)→(∀ r∈l,r.GQ=5→r.GU=N∧1≤N)∧((jD s l).Of=N∨(jD s l).Of = -1)
 | [],s,_,_,ho=>⟨fun r h=>absurd h (by simp),ho⟩
 | r::l,s,ha,hb,ho=>by
  have hnb:=hb r List.mem_cons_self
  have hof:(iS s r).Of=N∨(iS s r).Of = -1:=by
   rcases mH ha.1 with ⟨k,_⟩ | ⟨k,_⟩ | ⟨k,_⟩ | ⟨k,_⟩ | ⟨k,a,b⟩ | ⟨k,a⟩
   ·rw [xg k]; exact ho
   ·rw [xj k]; exact ho
   ·rw [xp k]; exact ho
   ·rw [xU k]; exact ho
   ·rw [vh k,if_neg (fun h=>hnb ⟨k,h⟩),if_neg (fun h=>hnb ⟨k,h⟩)]; exact ho
   ·rw [xh k]
    show (if s.Of=r.GU then-1 else s.Of)=N∨(if s.Of=r.GU then-1 else s.Of) = -1
    split
    ·exact .inr rfl
    ·exact ho
  have ih:=lC N l (iS s r) ha.2 (fun x hx=>hb x (List.mem_cons_of_mem _ hx)) hof
  refine ⟨fun x hx h5 => ?_,ih.2⟩
  rcases List.mem_cons.1 hx with rfl | hx
  ·rcases mH ha.1 with ⟨k,_⟩ | ⟨k,_⟩ | ⟨k,_⟩ | ⟨k,_⟩ | ⟨k,a,b⟩ | ⟨k,a⟩
   ·omega
   ·omega
   ·omega
   ·omega
   ·have h:=qL a
    simp only [xY,Bool.and_eq_true,Bool.or_eq_true,decide_eq_true_eq] at b
    have h1:=(b.2.resolve_left (fun h=>hnb ⟨k,h⟩)).1
    rcases ho with ho | ho
    ·omega
    ·omega
   ·omega
  ·exact ih.1 x hx h5
theorem nW:∀ (l:List T_Rec) (i c:Nat),((∀ r∈l,¬ zK r)∧jG i c l=c)∨∃ a r b,l=a++r::b∧zK r∧(∀ x∈b,¬ zK x)∧jG i c l=i+a.length
 | [],i,c => .inl ⟨fun r h=>absurd h (by simp),rfl⟩
 | r::l,i,c=>by
  simp only [jG]
  by_cases hb:r.GQ=5∧r.GV=0
  ·rw [if_pos hb]
   rcases nW l (i+1) i with ⟨h1,h2⟩ | ⟨a,x,b,h1,h2,h3,h4⟩
   ·exact .inr ⟨[],r,l,rfl,hb,h1,by rw [h2]; rfl⟩
   ·exact .inr ⟨r::a,x,b,by rw [h1]; rfl,h2,h3,by rw [h4]; simp only [List.length_cons]; omega⟩
  ·rw [if_neg hb]
   rcases nW l (i+1) c with ⟨h1,h2⟩ | ⟨a,x,b,h1,h2,h3,h4⟩
   ·refine .inl ⟨fun y hy => ?_,h2⟩
    rcases List.mem_cons.1 hy with rfl | hy
    ·exact hb
    ·exact h1 y hy
   ·exact .inr ⟨r::a,x,b,by rw [h1]; rfl,h2,h3,by rw [h4]; simp only [List.length_cons]; omega⟩
theorem uJ {A:Type} (d:A) (p:A→Bool):∀ (l:List A),(∀ i,i<l.length→p (l.getD i d)=true)↔l.all p=true:=by
 intro l
 rw [List.all_eq_true]
 constructor
 ·intro h x hx
  obtain ⟨i,hi,rfl⟩:=List.getElem_of_mem hx
  have:=h i hi
  rwa [List.getD_eq_getElem?_getD,List.getElem?_eq_getElem hi,Option.getD_some] at this
 ·intro h i hi
  rw [List.getD_eq_getElem?_getD,List.getElem?_eq_getElem hi,Option.getD_some]
  exact h _ (List.getElem_mem hi)
theorem BR {A:Type} {l:List A} {i:Nat} (d:A) (h:i<l.length):aA l i=some (l.getD i d):=by
 rw [List.getD_eq_getElem?_getD,List.getElem?_eq_getElem h,Option.getD_some]; exact iu h
theorem FD {A:Type} {l:List A} {i:Nat} (d:A) (h:i<l.length):l.getD i d∈l:=by
 rw [List.getD_eq_getElem?_getD,List.getElem?_eq_getElem h,Option.getD_some]; exact List.getElem_mem h
def Ah (p:T_Path):Bool:=np p && !p.GT
def BC (m:T_Mail):Bool:=np m.GM&&(decide (1≤m.To.length∧m.To.length≤8)&&m.To.all Ah)
theorem xI {m:T_Mail} (h:LM m):dc m=some (BC m):=by
 obtain ⟨hs1,hs2,hs3,hs4⟩:=kh h
 unfold dc BC
 cases hF:np m.GM
 ·exact aI (s:=true) (az (iE _ hs1) (ar (by rw [hF]; rfl) rfl)) (ar rfl rfl)
 by_cases h1:1≤m.To.length∧m.To.length≤8
 case neg =>
  rw [decide_eq_false h1]
  refine aI (s:=true) (az (iE _ hs1) (ap (by rw [hF]; rfl) ?_)) (ar rfl rfl)
  by_cases h2:m.To.length<1
  ·exact ar (decide_eq_true (by omega)) rfl
  ·exact ap (decide_eq_false (by omega)) (bJ (decide_eq_true (by omega)))
 rw [decide_eq_true h1]
 have hstep:∀ i:Nat,i<m.To.length→((eZ (m.To.getD i xX)).bind fun v10=>cond ((v10 != 0)) (some (.inl true)) (some (.inl (m.To.getD i xX).GT)):Option (Bool⊕(Int⊕(Unit⊕Bool))))=some (.inl (!Ah (m.To.getD i xX))):=by
  intro i hi
  refine az (iE _ (hs2 _ (FD xX hi))) ?_
  unfold Ah
  cases np (m.To.getD i xX)
  ·rfl
  ·exact ap rfl (bJ (by simp))
 have hloop:=dS (f:=EB m) (R:=Bool) (fun i=>Ah (m.To.getD i xX)) m.To.length false (fuel:=cq) (by simp only [cq]; omega)
  (fun i hi hp=>by
   replace hp:Ah (m.To.getD i xX)=true:=hp
   have:=hstep i hi
   rw [hp] at this
   exact ar (decide_eq_true (by omega)) (az (aR hi) (az (BR xX hi) (aI this (ap rfl (az (congrArg some (aX (n:=i) (by omega))) rfl))))))
  (fun i hi hp=>by
   replace hp:Ah (m.To.getD i xX)=false:=hp
   have:=hstep i hi
   rw [hp] at this
   exact ar (decide_eq_true (by omega)) (az (aR hi) (az (BR xX hi) (aI this (ar rfl rfl)))))
  (ap (decide_eq_false (by omega)) rfl)
 refine aI (s:=false) (az (iE _ hs1) (ap (by rw [hF]; rfl) (ap (decide_eq_false (by omega)) (bJ (decide_eq_false (by omega)))))) (ap rfl ?_)
 by_cases ha:m.To.all Ah=true
 ·rw [if_pos ((uJ xX Ah m.To).2 ha)] at hloop
  rw [ha]
  exact aI hloop rfl
 ·rw [if_neg fun h=>ha ((uJ xX Ah m.To).1 h)] at hloop
  rw [Bool.eq_false_iff.2 ha]
  exact kK hloop rfl
theorem rQ (l:List T_Rec) (hl:∀ r∈l,LR r) (hn:l.length<4294967296):dN l l=some true:=by
 have hrun:=dS (f:=GC l l) (fun _=>true) l.length false (fuel:=cq) (by simp only [cq]; omega) (fun i hi _=>by
  have hix:bL (i:Int) l.length=some i:=aR hi
  have hg:aA l i=some l[i]:=by simp [aA,hi]
  exact ar (decide_eq_true (by omega)) (az hix (az hg (az hix (az hg (az (uj l[i] (hl _ (List.getElem_mem _))) (ap rfl (az (congrArg some (aX (by omega))) rfl))))))))
  (fun i hi h=>by cases h) (ap (decide_eq_false (by omega)) rfl)
 rw [if_pos (fun _ _=>rfl)] at hrun
 simp only [dN]
 exact ap (by simp) (aI hrun rfl)
theorem zf (l:List T_Rec) (hl:∀ r∈l,LR r) (hn:l.length<1000000):dU l=some l:=by
 have hrun:bm (Gx l) cq ([],0)=some (.inl l):=by
  refine cE (fun k=>(l.take k,(k:Int))) l.length cq rfl (by simp only [cq]; omega) (fun k hk => ?_) ?_
  ·have hix:bL (k:Int) l.length=some k:=aR hk
   have hg:aA l k=some l[k]:=by simp [aA,hk]
   have h2:(l.take k).length≤1000000:=by rw [List.length_take]; omega
   refine ar (decide_eq_true (by omega)) (az hix (az hg (az (x:=l[k]) (qE (hl _ (List.getElem_mem _))) (az (fw (by simp; omega) (by simp; omega)) (az (congrArg some (aX (by omega))) ?_)))))
   rw [ka l k hk]
  ·refine ap (decide_eq_false (by omega)) ?_
   simp only [List.take_length]
 simp only [dU]
 exact aI hrun rfl
def Gf (l:List T_Rec) (v1:ai×Int):((Int×Int))→Option ((Int×Int)⊕((Int)⊕(List T_Rec))):=(fun ((s54,s55):Int×Int) =>
 cond ((decide (s55<v1.2)))
  (aF (S:=Int) (A:=((Int×Int)⊕((Int)⊕(List T_Rec))))
   (aF (S:=Bool) (A:=(Int⊕((Int×Int)⊕((Int)⊕(List T_Rec)))))
    ((bL s55 l.length).bind fun v3 =>
    (aA l v3).bind fun v4 =>
    cond ((v4.GQ==5))
     ((bL s55 l.length).bind fun v5 =>
     (aA l v5).bind fun v6 =>
     some (.inl (v6.GV==0)))
     (some (.inl false)))
    (fun (s88:Bool) =>
     cond (s88)
      (some (.inl s55))
      (some (.inl s54))) some)
   (fun (s84:Int) =>
    (some (IntKind.i64.wrap (s55+1))).bind fun v20 =>
    some (.inl (s84,v20))) some)
  (some (.inr (.inl s54))))
def Gn (l:List T_Rec) (s71:Int) (v1:ai×Int):(((List T_Rec)×Int))→Option (((List T_Rec)×Int)⊕(((List T_Rec))⊕(List T_Rec))):=(fun ((s134,s135):(List T_Rec)×Int) =>
 cond ((decide (s135<v1.2)))
  (aF (S:=(List T_Rec)) (A:=(((List T_Rec)×Int)⊕(((List T_Rec))⊕(List T_Rec))))
   (aF (S:=Bool) (A:=(((List T_Rec))⊕(((List T_Rec)×Int)⊕(((List T_Rec))⊕(List T_Rec)))))
    ((bL s135 l.length).bind fun v94 =>
    (aA l v94).bind fun v95 =>
    cond ((v95.GQ != 5))
     (some (.inl true))
     ((bL s135 l.length).bind fun v96 =>
     (aA l v96).bind fun v97 =>
     cond ((v97.GU==v1.1.Of))
      (some (.inl ((decide (s71≤s135)))))
      (some (.inl false))))
    (fun (s168:Bool) =>
     cond (s168)
      ((bL s135 l.length).bind fun v103 =>
      (aA l v103).bind fun v104 =>
      (cj ((T_Rec.mk v104.GQ ((T_Mail.mk (T_Path.mk v104.GS.GM.GT v104.GS.GM.GR v104.GS.GM.GJ) v104.GS.To v104.GS.GH v104.GS.Ha v104.GS.GN v104.GS.At)) v104.Id v104.GO v104.GW v104.GU v104.GV v104.GI))).bind fun v105 =>
      (dO 208 s134 [(T_Rec.mk v105.GQ ((T_Mail.mk (T_Path.mk v105.GS.GM.GT v105.GS.GM.GR v105.GS.GM.GJ) v105.GS.To v105.GS.GH v105.GS.Ha v105.GS.GN v105.GS.At)) v105.Id v105.GO v105.GW v105.GU v105.GV v105.GI)]).bind fun v106 =>
      some (.inl v106))
      (some (.inl s134))) some)
   (fun (s164:(List T_Rec)) =>
    (some (IntKind.i64.wrap (s135+1))).bind fun v116 =>
    some (.inl (s164,v116))) some)
  (some (.inr (.inl s134))))
def FM:(((List ae)×Int))→Option (((List ae)×Int)⊕((Unit)⊕Bool)):=(fun ((s39,s40):(List ae)×Int) =>
 cond ((decide (s40<(s39.length:Int))))
  ((bL s40 s39.length).bind fun v32 =>
  (aA s39 v32).bind fun v33 =>
  (dh v33.GS.GH).bind fun v34 =>
  (some (IntKind.i64.wrap (s40+1))).bind fun v35 =>
  some (.inl (((s39.set v32 ((ae.mk v33.Id ((T_Mail.mk (T_Path.mk v33.GS.GM.GT v33.GS.GM.GR v33.GS.GM.GJ) v33.GS.To v34 v33.GS.Ha v33.GS.GN v33.GS.At)) v33.Hc v33.GX))),v35))))
  (some (.inr (.inl ()))))
set_option maxRecDepth 100000
theorem cb {A:Type} (c b:Bool):(cond c (some (.inl b)) (some (.inl false)):Option (Bool⊕A))=some (.inl (c&&b)):=by cases c <;> rfl
theorem vu {q:T_Rec} (h:dF q=some true):q=zR:=by
 obtain ⟨K,⟨⟨n,lo,dm⟩,to,bo,qu,he,at_⟩,id,ids,og,nu,of_,da⟩:=q
 unfold dF at h
 simp only [cb] at h
 have h:=Option.some.inj h
 simp only [Bool.and_eq_true,beq_iff_eq,gf,decide_eq_true_eq,Bool.not_eq_true',Bool.and_true] at h
 obtain ⟨⟨⟨h1,h2,h3⟩,h4,h5,h6,h7,h8⟩,h9,h10,h11,h12,h13,h14,h15⟩:=h
 have e4:to=[]:=List.eq_nil_of_length_eq_zero (by omega)
 have e5:bo=[]:=List.eq_nil_of_length_eq_zero (by omega)
 have e11:ids=[]:=List.eq_nil_of_length_eq_zero (by omega)
 have e15:da=[]:=List.eq_nil_of_length_eq_zero (by omega)
 subst h1 h2 h3 e4 e5 h6 h7 h8 h9 h10 e11 h12 h13 h14 e15
 rfl
theorem Bk {r:T_Rec} (h:er r=true):iK r=r:=by
 have h0:=Cj r
 rw [h] at h0
 have key:∀ q,cY r=some q→q=zR:=fun q hq=>by
  unfold CY at h0
  rw [hq] at h0
  exact vu h0
 unfold cY at key
 unfold iK
 have n1:r.GQ≠1→(r.GQ==1)=false:=beq_eq_false_iff_ne.2
 by_cases k1:r.GQ=1
 ·have:=key _ (aI (aI (ar (beq_iff_eq.2 k1) rfl) rfl) rfl)
  have e1:r.GO=[]:=congrArg T_Rec.GO this
  have e2:r.GU=0:=congrArg T_Rec.GU this
  have e3:r.GV=0:=congrArg T_Rec.GV this
  have e4:r.GI=[]:=congrArg T_Rec.GI this
  rw [if_pos k1]
  show T_Rec.mk r.GQ r.GS r.Id [] r.GW 0 0 []=T_Rec.mk r.GQ r.GS r.Id r.GO r.GW r.GU r.GV r.GI
  rw [e1,e2,e3,e4]
 rw [if_neg k1]
 have n1:=beq_eq_false_iff_ne.2 k1
 by_cases k2:r.GQ=2
 ·have:=key _ (aI (aI (ap n1 (ar (beq_iff_eq.2 k2) rfl)) rfl) rfl)
  have e0:r.GS=nr:=congrArg T_Rec.GS this
  have e1:r.Id=0:=congrArg T_Rec.Id this
  have e2:r.GW=0:=congrArg T_Rec.GW this
  have e3:r.GV=0:=congrArg T_Rec.GV this
  have e4:r.GI=[]:=congrArg T_Rec.GI this
  rw [if_pos k2]
  show T_Rec.mk r.GQ nr 0 r.GO 0 r.GU 0 []=T_Rec.mk r.GQ r.GS r.Id r.GO r.GW r.GU r.GV r.GI
  rw [e0,e1,e2,e3,e4]
 rw [if_neg k2]
 have n2:=beq_eq_false_iff_ne.2 k2
 by_cases k3:r.GQ=3
 ·have:=key _ (aI (aI (ap n1 (ap n2 (aI (s:=true) (ar (beq_iff_eq.2 k3) (bJ (beq_iff_eq.2 k3))) (ar rfl rfl)))) rfl) rfl)
  have e0:r.GS=nr:=congrArg T_Rec.GS this
  have e1:r.Id=0:=congrArg T_Rec.Id this
  have e5:r.GO=[]:=congrArg T_Rec.GO this
  have e2:r.GW=0:=congrArg T_Rec.GW this
  have e3:r.GV=0:=congrArg T_Rec.GV this
  have e4:r.GI=[]:=congrArg T_Rec.GI this
  rw [if_pos k3]
  show T_Rec.mk r.GQ nr 0 [] 0 r.GU 0 []=T_Rec.mk r.GQ r.GS r.Id r.GO r.GW r.GU r.GV r.GI
  rw [e0,e1,e2,e3,e4,e5]
 rw [if_neg k3]
 have n3:=beq_eq_false_iff_ne.2 k3
 by_cases k6:r.GQ=6
 ·have:=key _ (aI (aI (ap n1 (ap n2 (aI (s:=true) (ap n3 (bJ (beq_iff_eq.2 k6))) (ar rfl rfl)))) rfl) rfl)
  have e0:r.GS=nr:=congrArg T_Rec.GS this
  have e1:r.Id=0:=congrArg T_Rec.Id this
  have e5:r.GO=[]:=congrArg T_Rec.GO this
  have e2:r.GW=0:=congrArg T_Rec.GW this
  have e3:r.GV=0:=congrArg T_Rec.GV this
  have e4:r.GI=[]:=congrArg T_Rec.GI this
  rw [if_neg (by omega),if_neg (by omega),if_pos k6]
  show T_Rec.mk r.GQ nr 0 [] 0 r.GU 0 []=T_Rec.mk r.GQ r.GS r.Id r.GO r.GW r.GU r.GV r.GI
  rw [e0,e1,e2,e3,e4,e5]
 have n6:=beq_eq_false_iff_ne.2 k6
 by_cases k4:r.GQ=4
 ·have:=key _ (aI (aI (ap n1 (ap n2 (aI (s:=false) (ap n3 (bJ n6)) (ap rfl (ar (beq_iff_eq.2 k4) rfl))))) rfl) rfl)
  have e0:r.GS=nr:=congrArg T_Rec.GS this
  have e1:r.GU=0:=congrArg T_Rec.GU this
  have e5:r.GO=[]:=congrArg T_Rec.GO this
  have e2:r.GW=0:=congrArg T_Rec.GW this
  have e3:r.GV=0:=congrArg T_Rec.GV this
  have e4:r.GI=[]:=congrArg T_Rec.GI this
  rw [if_pos k4]
  show T_Rec.mk r.GQ nr r.Id [] 0 0 0 []=T_Rec.mk r.GQ r.GS r.Id r.GO r.GW r.GU r.GV r.GI
  rw [e0,e1,e2,e3,e4,e5]
 rw [if_neg k4]
 have n4:=beq_eq_false_iff_ne.2 k4
 by_cases k5:r.GQ=5
 ·have:=key _ (aI (aI (ap n1 (ap n2 (aI (s:=false) (ap n3 (bJ n6)) (ap rfl (ap n4 (ar (beq_iff_eq.2 k5) rfl)))))) rfl) rfl)
  have e0:r.GS=nr:=congrArg T_Rec.GS this
  have e1:r.Id=0:=congrArg T_Rec.Id this
  have e5:r.GO=[]:=congrArg T_Rec.GO this
  have e2:r.GW=0:=congrArg T_Rec.GW this
  rw [if_pos k5]
  show T_Rec.mk r.GQ nr 0 [] 0 r.GU r.GV r.GI=T_Rec.mk r.GQ r.GS r.Id r.GO r.GW r.GU r.GV r.GI
  rw [e0,e1,e2,e5]
 rw [if_neg k5,if_neg k6]
 have n5:=beq_eq_false_iff_ne.2 k5
 have:=key _ (aI (aI (ap n1 (ap n2 (aI (s:=false) (ap n3 (bJ n6)) (ap rfl (ap n4 (ap n5 rfl)))))) rfl) rfl)
 have e0:r.GS=nr:=congrArg T_Rec.GS this
 have e1:r.Id=0:=congrArg T_Rec.Id this
 have e5:r.GO=[]:=congrArg T_Rec.GO this
 have e2:r.GW=0:=congrArg T_Rec.GW this
 have e6:r.GU=0:=congrArg T_Rec.GU this
 have e3:r.GV=0:=congrArg T_Rec.GV this
 have e4:r.GI=[]:=congrArg T_Rec.GI this
 show T_Rec.mk r.GQ nr 0 [] 0 0 0 []=T_Rec.mk r.GQ r.GS r.Id r.GO r.GW r.GU r.GV r.GI
 rw [e0,e1,e2,e3,e4,e5,e6]
theorem FC {m:T_Mail} (h:LM m) (hb:jF m.GH) (hv:mv m=true):me m=true:=by
 have h1:=zw h hb
 rw [hv] at h1
 have no:bI m=some false→me m=true:=fun e=>by rw [e] at h1; exact absurd (Option.some.inj h1) (by decide)
 have he:=xI h
 have hl:=(kh h).2.2.1
 cases hE:BC m
 ·rw [hE] at he
  exact no (by unfold bI; exact aI (s:=false) (az he (ap rfl rfl)) rfl)
 rw [hE] at he
 rcases rV hb (by omega) with hd | ⟨ls,a,c,d⟩
 ·exact no (by unfold bI; exact aI (s:=false) (az he (ar rfl (az hd (ap rfl rfl)))) rfl)
 have hd:ef m.GH=some 0:=by rw [d]; exact qY a c (by rw [← kC,← d]; omega)
 by_cases h3:0≤m.At
 case neg=>exact no (by unfold bI; exact aI (s:=false) (az he (ar rfl (az hd (ar rfl (ap (decide_eq_false h3) rfl))))) rfl)
 by_cases h4:m.At≤1099511627776
 case neg=>exact no (by unfold bI; exact aI (s:=false) (az he (ar rfl (az hd (ar rfl (ar (decide_eq_true h3) (bJ (decide_eq_false h4))))))) rfl)
 have hbv:pN m.GH=true:=by
  unfold pN
  rw [d,Bt a (by rw [← kC,← d]; omega)]
  rfl
 unfold BC at hE
 simp only [Bool.and_eq_true,decide_eq_true_eq,List.all_eq_true] at hE
 obtain ⟨f1,f2,f3⟩:=hE
 unfold me
 rw [f1,decide_eq_true f2,hbv,decide_eq_true (show 0≤m.At∧m.At≤1099511627776 from ⟨h3,h4⟩),decide_eq_true]
 ·rfl
 ·intro p hp
  have:=f3 p hp
  unfold Ah at this
  simpa using this
theorem DU {s:ai} {r:T_Rec} (hm:LM r.GS) (hb:jF r.GS.GH) (h:pC s r=true):pc s r=true:=by
 unfold pC at h
 rw [Bool.and_eq_true] at h
 have hc:=Bk h.1
 have hx:=h.2
 unfold pc
 rw [decide_eq_true hc,Bool.true_and]
 by_cases k1:r.GQ=1
 ·rw [if_pos k1] at hx ⊢
  rw [Bool.and_eq_true] at hx
  rw [hx.1,FC hm hb hx.2]
  rfl
 ·rw [if_neg k1] at hx ⊢
  exact hx
theorem wX {s:ai} {r:T_Rec} (hm:LM r.GS) (hb:jF r.GS.GH):pc s r=pC s r:=Bool.eq_iff_iff.2 ⟨Ez hm hb,DU hm hb⟩
theorem sl (l:List T_Rec) (hr:∀ r∈l,tM r) (hl:l.length<999999):∀ (d i:Nat) (s:ai) (fuel:Nat),i+d=l.length→d<fuel→sD i s→(∀ x∈s.GP,Ag x) →
  aF (S:=((List ae)×Int×(List Int)×(List Int)×Int×(List Int))) (A:=(ai×Int)) (bm (Gy l) fuel (s.GP,s.GY,s.Hb,s.GZ,s.Of,s.GK,(i:Int))) (fun ((s27,s28,s29,s30,s31,s32):(List ae)×Int×(List Int)×(List Int)×Int×(List Int)) =>
   some (((ai.mk s27 s28 s29 s30 s31 s32),(l.length:Int)))) some=some ((bM s (l.drop i)).1,((i+(bM s (l.drop i)).2:Nat):Int))∧∀ x∈(bM s (l.drop i)).1.GP,Ag x
 | d,i,s,0,_,hf,_,_=>absurd hf (Nat.not_lt_zero d)
 | 0,i,s,fuel+1,hd,_,hs,ht=>by
  obtain rfl:i=l.length:=by omega
  rw [List.drop_length]
  exact ⟨aI (bS (ap (decide_eq_false (by omega)) rfl)) rfl,ht⟩
 | d+1,i,s,fuel+1,hd,hf,hs,ht=>by
  have hi:i<l.length:=by omega
  have hri:=hr _ (List.getElem_mem hi)
  have hadd:=wv hs ht hri
  rw [wX hri.1.2.2 hri.2] at hadd
  rw [List.drop_eq_getElem_cons hi]
  simp only [bM]
  by_cases ho:pC s l[i]=true
  ·rw [if_pos ho] at hadd ⊢
   have ih:=sl l hr hl d (i+1) (iS s l[i]) fuel (by omega) (by omega) (pD (by omega) hs hri ho) (yZ hs ht ho).stt
   refine ⟨?_,ih.2⟩
   rw [show i+((bM (iS s l[i]) (l.drop (i+1))).2+1)=i+1+(bM (iS s l[i]) (l.drop (i+1))).2 from by omega,← ih.1,bY]
   exact ar (decide_eq_true (by omega)) (az (aR hi) (az (by simp [aA,hi]:aA l i=some l[i]) (az hadd (ap rfl (az (congrArg some (aX (n:=i) (by omega))) rfl)))))
  ·rw [if_neg ho] at hadd ⊢
   exact ⟨kK (a:=(s,(i:Int))) (bS (ar (decide_eq_true (by omega)) (az (aR hi) (az (by simp [aA,hi]:aA l i=some l[i]) (az hadd (ar rfl rfl)))))) rfl,ht⟩
theorem qw (l:List T_Rec) (hr:∀ r∈l,tM r) (hl:l.length<999999):dZ l=some ((bM ci l).1,((bM ci l).2:Int))∧∀ x∈(bM ci l).1.GP,Ag x:=by
 have h:=sl l hr hl l.length 0 ci cq (by omega) (by simp only [cq]; omega) pB (by intro x hx; cases hx)
 rw [List.drop_zero,Nat.zero_add] at h
 exact ⟨by unfold dZ; exact az rfl h.1,h.2⟩
def ml (k:Nat) (F:Int):Nat→List T_Rec→List T_Rec
 | _,[]=>[]
 | i,r::l=>if r.GQ≠5∨(r.GU=F∧k≤i) then r::ml k F (i+1) l else ml k F (i+1) l
theorem ut (l:List T_Rec) {n i:Nat} (h:i<n) (hn:n≤l.length):(l.take n).drop i=l[i]'(by omega)::(l.take n).drop (i+1):=by
 rw [List.drop_eq_getElem_cons (by rw [List.length_take]; omega),List.getElem_take]
theorem qU (l:List T_Rec) (hl:l.length<1000000) (v:ai) (n:Nat) (hn:n≤l.length):∀ (d i c fuel:Nat),i+d=n→d<fuel→bm (Gf l (v,(n:Int))) fuel ((c:Int),(i:Int))=some (.inl ((jG i c ((l.take n).drop i):Nat):Int))
 | d,i,c,0,_,hf=>absurd hf (Nat.not_lt_zero d)
 | 0,i,c,fuel+1,hd,_=>by
  obtain rfl:i=n:=by omega
  rw [List.drop_eq_nil_of_le (by rw [List.length_take]; omega)]
  exact bS (ap (decide_eq_false (by show ¬ (i:Int)<(i:Int); omega)) rfl)
 | d+1,i,c,fuel+1,hd,hf=>by
  have hi:i<l.length:=by omega
  have hg:aA l i=some l[i]:=by simp [aA,hi]
  have e1:some (IntKind.i64.wrap ((i:Int)+1))=some ((i+1:Nat):Int):=congrArg some (aX (n:=i) (by omega))
  rw [ut l (by omega) hn]
  simp only [jG]
  rw [← qU l hl v n hn d (i+1) _ fuel (by omega) (by omega)]
  refine bY (ar (decide_eq_true (by show (i:Int)<(n:Int); omega)) (aI (s:=(((if l[i].GQ=5∧l[i].GV=0 then i else c:Nat)):Int)) ?_ (az e1 rfl)))
  by_cases h5:l[i].GQ=5
  ·by_cases h0:l[i].GV=0
   ·rw [if_pos ⟨h5,h0⟩]
    exact aI (s:=true) (az (aR hi) (az hg (ar (beq_iff_eq.2 h5) (az (aR hi) (az hg (bJ (beq_iff_eq.2 h0))))))) rfl
   ·rw [if_neg (fun h=>h0 h.2)]
    exact aI (s:=false) (az (aR hi) (az hg (ar (beq_iff_eq.2 h5) (az (aR hi) (az hg (bJ (beq_eq_false_iff_ne.2 h0))))))) rfl
  ·rw [if_neg (fun h=>h5 h.1)]
   exact aI (s:=false) (az (aR hi) (az hg (ap (beq_eq_false_iff_ne.2 h5) rfl))) rfl
theorem mI (l:List T_Rec) (hr:∀ r∈l,tM r) (hl:l.length<1000000) (k:Nat) (v:ai) (n:Nat) (hn:n≤l.length):∀ (d i fuel:Nat) (a:List T_Rec),i+d=n→d<fuel→a.length≤i→bm (Gn l (k:Int) (v,(n:Int))) fuel (a,(i:Int))=some (.inl (a++ml k v.Of i ((l.take n).drop i)))
 | d,i,0,a,_,hf,_=>absurd hf (Nat.not_lt_zero d)
 | 0,i,fuel+1,a,hd,_,_=>by
  obtain rfl:i=n:=by omega
  rw [List.drop_eq_nil_of_le (by rw [List.length_take]; omega)]
  simp only [ml,List.append_nil]
  exact bS (ap (decide_eq_false (by show ¬ (i:Int)<(i:Int); omega)) rfl)
 | d+1,i,fuel+1,a,hd,hf,ha=>by
  have hi:i<l.length:=by omega
  have hg:aA l i=some l[i]:=by simp [aA,hi]
  have e1:some (IntKind.i64.wrap ((i:Int)+1))=some ((i+1:Nat):Int):=congrArg some (aX (n:=i) (by omega))
  have hri:=hr _ (List.getElem_mem hi)
  rw [ut l (by omega) hn]
  simp only [ml]
  have tst:∀ {A:Type},((bL (i:Int) l.length).bind fun v94=>(aA l v94).bind fun v95=>cond ((v95.GQ != 5)) (some (.inl true)) ((bL (i:Int) l.length).bind fun v96=>(aA l v96).bind fun v97=>cond ((v97.GU==v.Of)) (some (.inl ((decide ((k:Int)≤(i:Int)))))) (some (.inl false))):Option (Bool⊕A))=some (.inl (decide (l[i].GQ≠5∨(l[i].GU=v.Of∧k≤i)))):=by
   intro A
   refine az (aR hi) (az hg ?_)
   by_cases h5:l[i].GQ=5
   ·refine ap (by rw [h5]; rfl) (az (aR hi) (az hg ?_))
    by_cases hF:l[i].GU=v.Of
    ·refine ar (beq_iff_eq.2 hF) (bJ ?_)
     by_cases hk:k≤i
     ·rw [decide_eq_true (by omega),decide_eq_true (.inr ⟨hF,hk⟩)]
     ·rw [decide_eq_false (by omega),decide_eq_false]
      rintro (h | h)
      ·exact h h5
      ·exact hk h.2
    ·refine ap (beq_eq_false_iff_ne.2 hF) (bJ ?_)
     rw [decide_eq_false]
     rintro (h | h)
     ·exact h h5
     ·exact hF h.1
   ·exact ar (bne_iff_ne.2 h5) (bJ (by rw [decide_eq_true (.inl h5)]))
  by_cases hc:l[i].GQ≠5∨(l[i].GU=v.Of∧k≤i)
  ·rw [if_pos hc]
   have hcat:a++l[i]::ml k v.Of (i+1) ((l.take n).drop (i+1))=(a++[l[i]])++ml k v.Of (i+1) ((l.take n).drop (i+1)):=by simp
   rw [hcat,← mI l hr hl k v n hn d (i+1) fuel (a++[l[i]]) (by omega) (by omega) (by simp; omega)]
   exact bY (ar (decide_eq_true (by show (i:Int)<(n:Int); omega)) (aI (s:=a++[l[i]]) (aI (s:=true) (tst.trans (bJ (decide_eq_true hc))) (ar rfl (az (aR hi) (az hg (az (qE hri.1) (az (fw (by simp; omega) (by simp; omega)) rfl)))))) (az e1 rfl)))
  ·rw [if_neg hc,← mI l hr hl k v n hn d (i+1) fuel a (by omega) (by omega) (by omega)]
   exact bY (ar (decide_eq_true (by show (i:Int)<(n:Int); omega)) (aI (s:=a) (aI (s:=false) (tst.trans (bJ (decide_eq_false hc))) (ap rfl rfl)) (az e1 rfl)))
theorem uY (k:Nat) (F:Int) (D:List Int):∀ (l:List T_Rec) (j:Nat),(∀ i (h:i<l.length),l[i].GQ=5→((l[i].GU=F∧k≤j+i)↔¬ (j+i<k∨l[i].GU∈D)))→ml k F j l=jp k D j l
 | [],_,_=>rfl
 | r::l,j,h=>by
  have h0:=h 0 (by simp)
  have ih:=uY k F D l (j+1) (fun i hi h5=>by
   have:=h (i+1) (by simpa using hi) h5
   rw [show j+(i+1)=j+1+i by omega] at this
   exact this)
  simp only [ml,jp,List.getElem_cons_zero,Nat.add_zero] at h0 ⊢
  rw [ih]
  by_cases h5:r.GQ=5
  ·have h0:=h0 h5
   by_cases hc:r.GU=F∧k≤j
   ·rw [if_pos (.inr hc),if_neg (fun q=>(h0.1 hc) q.2)]
   ·rw [if_neg (fun q=>q.elim (fun q=>q h5) hc),if_pos ⟨h5,Classical.byContradiction fun q=>hc (h0.2 q)⟩]
  ·rw [if_pos (.inl h5),if_neg (fun q=>h5 q.1)]
theorem wW (N:Int) (hN:1≤N):∀ (l:List T_Rec) (s:ai),kQ s l→(∀ r∈l,¬ zK r)→(s.Of=N∨(s.Of = -1∧N∈s.GK))→(jD s l).Of=N∨((jD s l).Of = -1∧N∈(jD s l).GK)
 | [],s,_,_,ho=>ho
 | r::l,s,ha,hb,ho=>by
  have hnb:=hb r List.mem_cons_self
  refine wW N hN l (iS s r) ha.2 (fun x hx=>hb x (List.mem_cons_of_mem _ hx)) ?_
  rcases mH ha.1 with ⟨k,_⟩ | ⟨k,_⟩ | ⟨k,_⟩ | ⟨k,_⟩ | ⟨k,a,b⟩ | ⟨k,a⟩
  ·rw [xg k]; exact ho
  ·rw [xj k]; exact ho
  ·rw [xp k]; exact ho
  ·rw [xU k]; exact ho
  ·rw [vh k,if_neg (fun h=>hnb ⟨k,h⟩),if_neg (fun h=>hnb ⟨k,h⟩)]; exact ho
  ·rw [xh k]
   show (if s.Of=r.GU then-1 else s.Of)=N∨((if s.Of=r.GU then-1 else s.Of) = -1∧N∈jC s.GK r.GU)
   have hop:=qL a
   by_cases hq:s.Of=r.GU
   ·rw [if_pos hq]
    rcases ho with ho | ho
    ·exact .inr ⟨rfl,kS.2 (.inl (by omega))⟩
    ·omega
   ·rw [if_neg hq]
    rcases ho with ho | ho
    ·exact .inl ho
    ·exact .inr ⟨ho.1,kS.2 (.inr ho.2)⟩
theorem xG {m:List T_Rec} (ha:kQ ci m):ml (jG 0 0 m) (jD ci m).Of 0 m=jp (jG 0 0 m) (jD ci m).GK 0 m:=by
 refine uY _ _ _ m 0 fun i hi h5 => ?_
 rw [Nat.zero_add]
 rcases nW m 0 0 with ⟨hb,_⟩ | ⟨a,r,b,he,hr,hb,hl⟩
 ·have:=(lC (-1) m ci ha hb (.inl rfl)).1 _ (List.getElem_mem hi) h5
  omega
 rw [hl,Nat.zero_add]
 have ha1:=(sk ci a (r::b)).1 (he ▸ ha)
 have hof:(iS (jD ci a) r).Of=r.GU:=by rw [vh hr.1]; simp only [if_pos hr.2]
 have hsb:=lC r.GU b (iS (jD ci a) r) ha1.2.2 hb (.inl hof)
 have hfin:jD ci m=jD (iS (jD ci a) r) b:=by rw [he,tY]; rfl
 have hN:1≤r.GU:=by
  rcases mH ha1.2.1 with ⟨k,_⟩ | ⟨k,_⟩ | ⟨k,_⟩ | ⟨k,_⟩ | ⟨k,x,_⟩ | ⟨k,x⟩
  ·have:=hr.1; omega
  ·have:=hr.1; omega
  ·have:=hr.1; omega
  ·have:=hr.1; omega
  ·exact (qL x).1
  ·exact (qL x).1
 have hod:=wW r.GU hN b (iS (jD ci a) r) ha1.2.2 hb (.inl hof)
 rw [← hfin] at hod
 have hoi:=ub m ci (.inl ⟨rfl,rfl⟩) ha
 by_cases hk:a.length≤i
 case neg=>exact ⟨fun h=>absurd h.2 hk,fun h=>absurd (.inl (by omega)) h⟩
 have hnum:m[i].GU=r.GU:=by
  have hmem:m[i]∈r::b:=by
   have:m[i]=(r::b)[i-a.length]'(by have:=congrArg List.length he; rw [List.length_append] at this; omega):=by
    simp only [he]
    rw [List.getElem_append_right hk]
   rw [this]
   exact List.getElem_mem _
  rcases List.mem_cons.1 hmem with h | h
  ·rw [h]
  ·exact (hsb.1 _ h h5).1
 rw [hnum]
 refine ⟨fun h => ?_,fun h => ?_⟩
 ·rintro (q | q)
  ·omega
  ·rcases hoi with hoi | hoi
   ·omega
   ·exact hoi.2 (h.1 ▸ q)
 ·refine ⟨?_,hk⟩
  rcases hod with q | q
  ·exact q.symm
  ·exact absurd (.inr q.2) h
theorem yQ (l:List T_Rec) (hr:∀ r∈l,tM r) (hl:l.length<999999):eK l=some (ud l):=by
 have hle:=mY ci l
 obtain ⟨ha,hf,_⟩:=oU ci l
 have h1:=qU l (by omega) (bM ci l).1 (bM ci l).2 hle (bM ci l).2 0 0 cq (by omega) (by simp only [cq]; omega)
 have h2:=mI l hr (by omega) (jG 0 0 (l.take (bM ci l).2)) (bM ci l).1 (bM ci l).2 hle (bM ci l).2 0 cq [] (by omega) (by simp only [cq]; omega) (by simp)
 rw [List.drop_zero] at h1 h2
 have hs:=xG ha
 rw [← hf] at hs
 rw [hs] at h2
 unfold eK ud
 exact az (qw l hr hl).1 (aI h1 (aI h2 rfl))
set_option maxRecDepth 100000
def Gp:(((List Int)×Int))→Option (((List Int)×Int)⊕((Unit)⊕Unit)):=(fun ((s11,s12):(List Int)×Int) =>
 cond ((decide (s12<(s11.length:Int))))
  ((bL s12 s11.length).bind fun v2 =>
  (aA s11 v2).bind fun v3 =>
  (some (IntKind.u8.wrap (v3+91))).bind fun v4 =>
  (bL s12 s11.length).bind fun v5 =>
  (some (s11.set v5 v4)).bind fun v6 =>
  (some (IntKind.i64.wrap (s12+1))).bind fun v7 =>
  some (.inl (v6,v7)))
  (some (.inr (.inl ()))))
def Gd:(((List Int)×Int))→Option (((List Int)×Int)⊕(((List Int))⊕(List Int))):=(fun ((s11,s12):(List Int)×Int) =>
 cond ((decide (s12<(s11.length:Int))))
  ((bL s12 s11.length).bind fun v2 =>
  (aA s11 v2).bind fun v3 =>
  (some (IntKind.u8.wrap (v3+91))).bind fun v4 =>
  (bL s12 s11.length).bind fun v5 =>
  (some (s11.set v5 v4)).bind fun v6 =>
  (some (IntKind.i64.wrap (s12+1))).bind fun v7 =>
  some (.inl (v6,v7)))
  (some (.inr (.inl s11))))
theorem Cr:∀ (k:Nat) (l:List Int) (i fuel:Nat),l.length-i=k→i≤l.length→k<fuel→l.length<1000000→bm Gp fuel (l,(i:Int))=some (.inl ())
 | 0,l,i,fuel,hk,hi,hf,hl=>by
  obtain ⟨f,rfl⟩:∃ f,fuel=f+1:=⟨fuel-1,by omega⟩
  exact bS (ap (decide_eq_false (by omega)) rfl)
 | k+1,l,i,fuel,hk,hi,hf,hl=>by
  obtain ⟨f,rfl⟩:∃ f,fuel=f+1:=⟨fuel-1,by omega⟩
  have hil:i<l.length:=by omega
  have hg:aA l i=some l[i]:=by simp [aA,hil]
  refine (bY (s':=(l.set i (IntKind.u8.wrap (l[i]+91)),((i+1:Nat):Int))) ?_).trans (Cr k _ (i+1) f (by rw [List.length_set]; omega) (by rw [List.length_set]; omega) (by omega) (by rw [List.length_set]; omega))
  exact ar (decide_eq_true (by omega)) (az (aR hil) (az hg (az rfl (az (aR hil) (az rfl (az (congrArg some (aX (n:=i) (by omega))) rfl))))))
theorem Da {l:List Int} (hl:l.length<1000000):ek l=some ():=by
 unfold ek
 exact aI (Cr l.length l 0 cq (by omega) (Nat.zero_le _) (by simp only [cq]; omega) hl) rfl
theorem BY:∀ (k:Nat) (l:List Int) (i fuel:Nat),l.length-i=k→i≤l.length→k<fuel→l.length<1000000→∃ m,bm Gd fuel (l,(i:Int))=some (.inl m)∧m.length=l.length
 | 0,l,i,fuel,hk,hi,hf,hl=>by
  obtain ⟨f,rfl⟩:∃ f,fuel=f+1:=⟨fuel-1,by omega⟩
  exact ⟨l,bS (ap (decide_eq_false (by omega)) rfl),rfl⟩
 | k+1,l,i,fuel,hk,hi,hf,hl=>by
  obtain ⟨f,rfl⟩:∃ f,fuel=f+1:=⟨fuel-1,by omega⟩
  have hil:i<l.length:=by omega
  have hg:aA l i=some l[i]:=by simp [aA,hil]
  obtain ⟨m,h1,h2⟩:=BY k (l.set i (IntKind.u8.wrap (l[i]+91))) (i+1) f (by rw [List.length_set]; omega) (by rw [List.length_set]; omega) (by omega) (by rw [List.length_set]; omega)
  refine ⟨m,(bY (s':=(l.set i (IntKind.u8.wrap (l[i]+91)),((i+1:Nat):Int))) ?_).trans h1,by rw [h2,List.length_set]⟩
  exact ar (decide_eq_true (by omega)) (az (aR hil) (az hg (az rfl (az (aR hil) (az rfl (az (congrArg some (aX (n:=i) (by omega))) rfl))))))
theorem Di {l:List Int} (hl:l.length<1000000):∃ m,dh l=some m∧m.length=l.length:=by
 obtain ⟨m,h1,h2⟩:=BY l.length l 0 cq (by omega) (Nat.zero_le _) (by simp only [cq]; omega) hl
 exact ⟨m,by unfold dh; exact aI h1 rfl,h2⟩
theorem Ce:∀ (k:Nat) (L:List ae) (i fuel:Nat),L.length-i=k→i≤L.length→k<fuel→L.length<2000000→(∀ x∈L,x.GS.GH.length<1000000)→bm FM fuel (L,(i:Int))=some (.inl ())
 | 0,L,i,fuel,hk,hi,hf,hl,hb=>by
  obtain ⟨f,rfl⟩:∃ f,fuel=f+1:=⟨fuel-1,by omega⟩
  exact bS (ap (decide_eq_false (by omega)) rfl)
 | k+1,L,i,fuel,hk,hi,hf,hl,hb=>by
  obtain ⟨f,rfl⟩:∃ f,fuel=f+1:=⟨fuel-1,by omega⟩
  have hil:i<L.length:=by omega
  have hg:aA L i=some L[i]:=by simp [aA,hil]
  have hbi:=hb _ (List.getElem_mem hil)
  obtain ⟨m,h1,h2⟩:=Di hbi
  have ih:=Ce k (L.set i (ae.mk L[i].Id (T_Mail.mk (T_Path.mk L[i].GS.GM.GT L[i].GS.GM.GR L[i].GS.GM.GJ) L[i].GS.To m L[i].GS.Ha L[i].GS.GN L[i].GS.At) L[i].Hc L[i].GX)) (i+1) f (by rw [List.length_set]; omega) (by rw [List.length_set]; omega) (by omega) (by rw [List.length_set]; omega) (fun x hx=>by
   rcases List.mem_or_eq_of_mem_set hx with h | h
   ·exact hb x h
   ·rw [h]
    show m.length<1000000
    omega)
  exact (bY (ar (decide_eq_true (by omega)) (az (aR hil) (az hg (az h1 (az (congrArg some (aX (n:=i) (by omega))) rfl)))))).trans ih
theorem pk (l:List T_Rec) (r:T_Rec) (hw:tL 208 T_Rec.wz l) (hw1:T_Rec.wz r):dW l r=some true:=by
 obtain ⟨b,hh,hb⟩:=rK l hw
 obtain ⟨b2,hh2,hb2⟩:=rK [r] ⟨by simp [reachBytes],fun x hx=>by rw [List.mem_singleton.1 hx]; exact hw1⟩
 unfold dW
 cases b
 case true=>exact aI (s:=true) (az hh (ar rfl rfl)) (ar rfl rfl)
 cases b2
 case true=>exact aI (s:=true) (az hh (ap rfl (az hh2 rfl))) (ar rfl rfl)
 obtain ⟨hl,hr⟩:=hb rfl
 have hrr:tM r:=(hb2 rfl).2 r (by simp)
 have hin:=nG l ci 0 (by omega) hr pB
 obtain ⟨hpf,hst⟩:=qw l hr (by omega)
 have hle:=mY ci l
 have hadd:=CB hin hrr
 have hradd:=wv hin hst hrr
 rw [wX hrr.1.2.2 hrr.2] at hradd
 have hsr:=qV hin
 have hlr:=rQ (ud l) (fun x hx=>(hr x (List.mem_of_mem_take (pR _ _ _ _ x hx))).1) (by
  have:=uw (jG 0 0 (l.take (bM ci l).2)) (bM ci l).1.GK 0 (l.take (bM ci l).2)
  rw [List.length_take] at this
  unfold ud
  omega)
 have hll:=rQ l (fun x hx=>(hr x hx).1) (by omega)
 refine aI (s:=false) (az hh (ap rfl (az hh2 rfl))) (ap rfl (az (zf l (fun x hx=>(hr x hx).1) (by omega)) (az (qE hrr.1) (az (wQ l hr (by omega)) (az hpf (aI (s:=false) (ap (bne_self_eq_false _) (az hsr (ap rfl (az (Av l hr (by omega)) (az (yQ l hr (by omega)) (az hlr rfl)))))) (ap rfl (az hadd (az hradd ?_)))))))))
 have tail:∀ (x:ai×Int),bP x.1 x.1=some true→x.1.GZ.length<1000000→x.1.GP.length<2000000→(∀ y∈x.1.GP,y.GS.GH.length<1000000)→aF (S:=Bool) (A:=Bool) (cond ((x.2 != x.2)) (some (.inl true)) ((bP x.1 x.1).bind fun v23=>cond ((!v23)) (some (.inl true)) ((bP (bM ci l).1 (bM ci l).1).bind fun v24=>some (.inl (!v24))))) (fun (s25:Bool)=>cond (s25) (some (false)) ((ek x.1.GZ).bind fun v30=>aF (S:=(Unit)) (A:=Bool) (bm FM cq (x.1.GP,0)) (fun (():Unit)=>aF (S:=Bool) (A:=Bool) ((bP (bM ci l).1 (bM ci l).1).bind fun v49=>cond (v49) ((dN l l).bind fun v50=>cond (v50) ((bZ r r).bind fun v51=>cond (v51) ((ep ).bind fun v52=>some (.inl v52)) (some (.inl false))) (some (.inl false))) (some (.inl false))) (fun (s53:Bool)=>some (s53)) some) some)) some=some true:=by
  intro x h1 h2 h3 h4
  exact aI (s:=false) (ap (bne_self_eq_false _) (az h1 (ap rfl (az hsr rfl)))) (ap rfl (az (Da h2) (aI (Ce _ x.1.GP 0 cq rfl (Nat.zero_le _) (by simp only [cq]; omega) h3 h4) (aI (s:=true) (az hsr (ar rfl (az hll (ar rfl (az (uj r hrr.1) (ar rfl (az Bp rfl))))))) rfl))))
 by_cases ho:pC (bM ci l).1 r=true
 ·rw [if_pos ho]
  have hie:=pD (by omega) hin hrr ho
  have g1:=hie.part; have g2:=hie.len; have g3:=hie.hn
  exact tail (iS (bM ci l).1 r,0) (qV hie) (by show (iS (bM ci l).1 r).GZ.length<1000000; omega) (by show (iS (bM ci l).1 r).GP.length<2000000; omega) (fun y hy=>by
   have:=(kh (hie.lm y hy)).2.2.1
   omega)
 ·rw [if_neg ho]
  exact tail (sA,5) Ao (by decide) (by decide) (fun y hy=>by cases hy)
end Go.Abs.Sh
