import Derived.Test.YtglabbpbianmnaaGreatDoorBunX
set_option linter.unusedVariables false
set_option linter.unusedSimpArgs false
set_option linter.unusedSectionVars false
namespace Go.Abs.Sh
set_option linter.unusedVariables false
set_option linter.unusedSimpArgs false
set_option maxRecDepth 100000
theorem zE:∀ (l r:List Int) (p:Int),nZ l→Dw 10 r→Dw p (l++13::10::r)
 | [],r,p,_,h=>⟨fun _=>rfl,fun e=>by omega,fun e=>by omega,fun _=>rfl,h⟩
 | x::l,r,p,hc,h=>⟨fun e=>absurd e (hc x (by simp)).1,fun e=>absurd e (hc x (by simp)).2,zE l r x (fun y hy=>hc y (by simp [hy])) h⟩
theorem BC:∀ (ls:List (List Int)) (p:Int),(∀ l∈ls,nZ l)→Dw p (jn ls)
 | [],_,_=>trivial
 | l::ls,p,h=>zE l (jn ls) p (h l (by simp)) (BC ls 10 fun m hm=>h m (by simp [hm]))
theorem zb:∀ (ls:List (List Int)),jn ls=[]∨(jn ls).getLast? = some 10
 | [] => .inl rfl
 | l::ls=>by
  right
  rcases zb ls with h | h
  ·simp [jn,h]
  ·have:(13::10::jn ls).getLast? = some 10:=by
    cases hj:jn ls with
    | nil=>rfl
    | cons y r=>rw [List.getLast?_cons_cons,List.getLast?_cons_cons,← hj]; exact h
   simp only [jn]
   rw [List.getLast?_append,this]; rfl
def Ao (b:List Int):(Int)→Option ((Int)⊕((Unit)⊕Int)):=(fun (s21:Int) =>
 (some (IntKind.i64.wrap (s21+1))).bind fun v1 =>
 cond ((decide (v1<(b.length:Int))))
  (aI (S:=Bool) (A:=((Int)⊕((Unit)⊕Int)))
   ((cl s21 b.length).bind fun v3 =>
   (aQ b v3).bind fun v4 =>
   cond ((v4==13))
    ((some (IntKind.i64.wrap (s21+1))).bind fun v5 =>
    (cl v5 b.length).bind fun v6 =>
    (aQ b v6).bind fun v7 =>
    some (.inl (v7==10)))
    (some (.inl false)))
   (fun (s35:Bool) =>
    cond (s35)
     (some (.inr (.inr (s21))))
     ((some (IntKind.i64.wrap (s21+1))).bind fun v13 =>
     some (.inl v13))) some)
  (some (.inr (.inl ()))))
def Af (b:List Int):(Int)→Option ((Int)⊕((Unit)⊕Int)):=(fun (s30:Int) =>
 (some (IntKind.i64.wrap (s30+2))).bind fun v1 =>
 cond ((decide (v1<(b.length:Int))))
  (aI (S:=Bool) (A:=((Int)⊕((Unit)⊕Int)))
   ((cl s30 b.length).bind fun v3 =>
   (aQ b v3).bind fun v4 =>
   cond ((v4==46))
    ((some (IntKind.i64.wrap (s30+1))).bind fun v5 =>
    (cl v5 b.length).bind fun v6 =>
    (aQ b v6).bind fun v7 =>
    cond ((v7==13))
     ((some (IntKind.i64.wrap (s30+2))).bind fun v8 =>
     (cl v8 b.length).bind fun v9 =>
     (aQ b v9).bind fun v10 =>
     cond ((v10==10))
      (cond ((s30==0))
       (some (.inl true))
       (cond ((decide (1<s30)))
        ((some (IntKind.i64.wrap (s30-2))).bind fun v11 =>
        (cl v11 b.length).bind fun v12 =>
        (aQ b v12).bind fun v13 =>
        cond ((v13==13))
         ((some (IntKind.i64.wrap (s30-1))).bind fun v14 =>
         (cl v14 b.length).bind fun v15 =>
         (aQ b v15).bind fun v16 =>
         some (.inl (v16==10)))
         (some (.inl false)))
        (some (.inl false))))
      (some (.inl false)))
     (some (.inl false)))
    (some (.inl false)))
   (fun (s44:Bool) =>
    cond (s44)
     (some (.inr (.inr (s30))))
     ((some (IntKind.i64.wrap (s30+1))).bind fun v22 =>
     some (.inl v22))) some)
  (some (.inr (.inl ()))))
def iI (b:List Int) (i:Nat):Prop:=b[i]? = some 13∧b[i+1]? = some 10
instance (b:List Int) (i:Nat):Decidable (iI b i):=by unfold iI; infer_instance
theorem uy:∀ {l:List Int},gH l=none→∀ j,¬ iI l j
 | [],_,j,h=>by simp [iI] at h
 | x::l,h,j,hc=>by
  unfold gH at h
  split at h
  ·cases h
  ·rename_i hx
   have hn:gH l=none:=by cases hi:gH l with | none=>rfl | some k=>simp [hi] at h
   cases j with
   | zero =>
    simp only [iI,List.getElem?_cons_zero,Option.some.injEq,List.getElem?_cons_succ,Nat.zero_add] at hc
    exact hx ⟨hc.1,by rw [List.head?_eq_getElem?]; exact hc.2⟩
   | succ j=>exact uy hn j (by simpa [iI] using hc)
theorem sr:∀ {l:List Int} {e:Nat},gH l=some e→iI l e∧∀ j,j<e→¬ iI l j
 | [],e,h=>by simp [gH] at h
 | x::l,e,h=>by
  unfold gH at h
  split at h
  ·rename_i hx
   cases h
   refine ⟨⟨by simp [hx.1],?_⟩,fun j hj=>by omega⟩
   rw [List.head?_eq_getElem?] at hx; simpa using hx.2
  ·rename_i hx
   cases hi:gH l with
   | none=>simp [hi] at h
   | some k =>
    simp [hi] at h
    subst h
    obtain ⟨h1,h2⟩:=sr hi
    refine ⟨by simpa [iI] using h1,fun j hj hc => ?_⟩
    cases j with
    | zero =>
     simp only [iI,List.getElem?_cons_zero,Option.some.injEq,List.getElem?_cons_succ,Nat.zero_add] at hc
     exact hx ⟨hc.1,by rw [List.head?_eq_getElem?]; exact hc.2⟩
    | succ j=>exact h2 j (by omega) (by simpa [iI] using hc)
theorem je (b:List Int) (a j:Nat):iI (b.drop a) j↔iI b (a+j):=by simp [iI,Nat.add_assoc]
theorem zp {b:List Int} {i:Nat} (h:iI b i):i+1<b.length:=(List.getElem?_eq_some_iff.1 h.2).1
theorem lW {b:List Int} {i:Nat} (h:i<b.length):b[i]? = some b[i]:=List.getElem?_eq_getElem h
theorem sA (b:List Int) (hl:b.length<4000000000) {i:Nat} (hi:i+1<b.length):Ao b (i:Int)=if iI b i then some (.inr (.inr (i:Int))) else some (.inl ((i+1:Nat):Int)):=by
 have e0:some (IntKind.i64.wrap ((i:Int)+1))=some ((i+1:Nat):Int):=by rw [cN (by omega) (by omega)]; simp
 unfold Ao
 refine ar e0 (ap (decide_eq_true (by omega)) (aL (s:=decide (iI b i)) (ar (bk (by omega)) (ar (cA (by omega)) ?_)) ?_))
 ·by_cases h13:b[i]=13
  ·refine ap (by rw [h13]; rfl) (ar e0 (ar (bk hi) (ar (cA hi) ?_)))
   congr 2
   rw [Bool.eq_iff_iff,beq_iff_eq,decide_eq_true_eq,iI,lW (by omega),lW hi,h13]
   simp
  ·refine ak (by simpa using h13) ?_
   congr 2
   rw [eq_comm,decide_eq_false_iff_not,iI,lW (by omega)]
   simp [h13]
 ·by_cases h:iI b i
  ·rw [if_pos h]; exact ap (decide_eq_true h) rfl
  ·rw [if_neg h]; exact ak (decide_eq_false h) (ar e0 rfl)
theorem BQ (b:List Int) (hl:b.length<4000000000) {i:Nat} (hi:b.length≤i+1) (hi2:i<4000000001):Ao b (i:Int)=some (.inr (.inl ())):=by
 unfold Ao
 refine ar (x:=((i+1:Nat):Int)) (by rw [cN (by omega) (by omega)]; simp) (ak (decide_eq_false (by omega)) rfl)
theorem xH (b:List Int) (hl:b.length<4000000000) {a:Nat} (ha:a≤b.length):ck b (a:Int)=some (match gH (b.drop a) with | none => -1 | some e=>((a+e:Nat):Int)):=by
 cases h:gH (b.drop a) with
 | none =>
  have hno:=uy h
  have hl2:aT (Ao b) bX (a:Int)=some (.inl ()):=by
   refine bS (fun i=>((a+i:Nat):Int)) (b.length-1-a) bX (by simp) (by unfold bX; omega) (fun i hi => ?_) ?_
   ·rw [sA b hl (by omega),if_neg fun hc=>hno i ((je b a i).2 hc)]; rfl
   ·exact BQ b hl (by omega) (by omega)
  unfold ck
  exact aL (s:=()) hl2 rfl
 | some e =>
  obtain ⟨h1,h2⟩:=sr h
  have h1':=(je b a e).1 h1
  have hlt:=zp h1'
  have hl2:aT (Ao b) bX (a:Int)=some (.inr ((a+e:Nat):Int)):=by
   refine bS (fun i=>((a+i:Nat):Int)) e bX (by simp) (by unfold bX; omega) (fun i hi => ?_) ?_
   ·rw [sA b hl (by omega),if_neg fun hc=>h2 i hi ((je b a i).2 hc)]; rfl
   ·rw [sA b hl hlt,if_pos h1']
  unfold ck
  exact jW (a:=((a+e:Nat):Int)) hl2 rfl
def IK (b:List Int) (v1:Int):((List Int)×Int)→Option (((List Int)×Int)⊕(((List Int))⊕((List Int)×Int×Int))):=(fun ((s47,s48):(List Int)×Int) =>
 cond ((decide (s48<v1)))
  (aI (S:=(List Int)) (A:=(((List Int)×Int)⊕(((List Int))⊕((List Int)×Int×Int))))
   (aI (S:=Bool) (A:=(((List Int))⊕(((List Int)×Int)⊕(((List Int))⊕((List Int)×Int×Int)))))
    ((cl s48 b.length).bind fun v7 =>
    (aQ b v7).bind fun v8 =>
    cond ((v8 != 46))
     (some (.inl true))
     (cond ((decide (0<s48)))
      ((some (IntKind.i64.wrap (s48-1))).bind fun v9 =>
      (cl v9 b.length).bind fun v10 =>
      (aQ b v10).bind fun v11 =>
      some (.inl (v11 != 10)))
      (some (.inl false))))
    (fun (s81:Bool) =>
     cond (s81)
      ((cl s48 b.length).bind fun v17 =>
      (aQ b v17).bind fun v18 =>
      (cr 1 s47 [v18]).bind fun v19 =>
      some (.inl v19))
      (some (.inl s47))) some)
   (fun (s77:(List Int)) =>
    (some (IntKind.i64.wrap (s48+1))).bind fun v29 =>
    some (.inl (s77,v29))) some)
  (some (.inr (.inl s47))))
def CV:Int→List Int→List Int
 | _,[]=>[]
 | p,x::l=>(if x=46∧p=10 then [] else [x])++CV x l
theorem CI:∀ (l rest:List Int) (p:Int),nZ l→p≠10→CV p (l++13::10::rest)=l++13::10::CV 10 rest
 | [],rest,p,_,hp=>by simp [CV]
 | x::l,rest,p,h,hp=>by
  have hx:=h x (by simp)
  simp only [List.cons_append,CV]
  rw [if_neg (fun hc=>hp hc.2),CI l rest x (fun y hy=>h y (by simp [hy])) hx.2]
  rfl
theorem Cx:∀ (ls:List (List Int)),(∀ l∈ls,nZ l)→CV 10 (jn ls)=jn (ls.map sR)
 | [],_=>rfl
 | l::ls,h=>by
  have ih:=Cx ls fun m hm=>h m (by simp [hm])
  have hl:=h l (by simp)
  simp only [jn,List.map_cons]
  rw [← ih]
  cases l with
  | nil=>simp [CV,sR]
  | cons x l =>
   have hx:=hl x (by simp)
   simp only [List.cons_append,CV]
   rw [CI l (jn ls) x (fun y hy=>hl y (by simp [hy])) hx.2]
   unfold sR
   by_cases e:x=46
   ·subst e; simp
   ·rw [if_neg (fun hc=>e hc.1),if_neg (by simpa using e)]; rfl
def Dv (b:List Int) (i:Nat):Int:=if i=0 then 10 else b.getD (i-1) 0
theorem BL {b:List Int} {i:Nat} (h:i<b.length):Dv b (i+1)=b[i]:=by
 unfold Dv; rw [if_neg (by omega)]; simp [List.getD_eq_getElem?_getD,h]
theorem GW {b:List Int} {i:Nat} {x:Int} (h:i<b.length) (hi:i≠0):(wh:i-1<b.length)→b[i-1]=Dv b i:=by
 intro wh
 unfold Dv; rw [if_neg hi]; simp [List.getD_eq_getElem?_getD,wh]
theorem Ev {b:List Int} {i:Nat} (h:i<b.length):b.drop i=b[i]::b.drop (i+1):=List.drop_eq_getElem_cons h
theorem Fh (b:List Int) (hl:b.length<1000000) (v:Nat) (hv:v≤b.length) {i:Nat} (hi:i<b.length) (hiv:i<v) (acc:List Int) (ha:acc.length<4000000) :
  IK b (v:Int) (acc,(i:Int))=some (.inl (acc++(if b[i]=46∧Dv b i=10 then [] else [b[i]]),((i+1:Nat):Int))):=by
 unfold IK
 refine ap (decide_eq_true (by omega)) ?_
 have h1:((cl (i:Int) b.length).bind fun v7 =>
     (aQ b v7).bind fun v8 =>
     cond ((v8 != 46))
      (some (.inl true))
      (cond ((decide (0<(i:Int))))
       ((some (IntKind.i64.wrap ((i:Int)-1))).bind fun v9 =>
       (cl v9 b.length).bind fun v10 =>
       (aQ b v10).bind fun v11 =>
       some (.inl (v11 != 10)))
       (some (.inl false))):Option (Bool⊕((List Int)⊕(((List Int)×Int)⊕(((List Int))⊕((List Int)×Int×Int))))))=some (.inl (!decide (b[i]=46∧Dv b i=10))):=by
  refine ar (bk hi) (ar (cA hi) ?_)
  by_cases h46:b[i]=46
  ·refine ak (by rw [h46]; rfl) ?_
   by_cases h0:i=0
   ·subst h0
    refine ak rfl ?_
    simp [h46,Dv]
   ·refine ap (decide_eq_true (by omega)) (ar (x:=((i-1:Nat):Int)) (by rw [cN (by omega) (by omega)]; congr 1; omega) (ar (bk (by omega)) (ar (cA (by omega)) ?_)))
    rw [GW (x:=0) hi h0 (by omega)]
    congr 2
    rw [Bool.eq_iff_iff,bne_iff_ne,Bool.not_eq_true',decide_eq_false_iff_not]
    simp [h46]
  ·refine ap (by simpa using h46) ?_
   congr 2
   rw [eq_comm,Bool.not_eq_true',decide_eq_false_iff_not]
   simp [h46]
 have e0:some (IntKind.i64.wrap ((i:Int)+1))=some ((i+1:Nat):Int):=by rw [cN (by omega) (by omega)]; simp
 by_cases hc:b[i]=46∧Dv b i=10
 ·rw [if_pos hc]
  exact aL (s:=acc) (aL h1 (ak (by rw [decide_eq_true hc]; rfl) rfl)) (ar e0 (by rw [List.append_nil]))
 ·rw [if_neg hc]
  exact aL (s:=acc++[b[i]]) (aL h1 (ap (by rw [decide_eq_false hc]; rfl) (ar (bk hi) (ar (cA hi) (ar (cF (by simp; omega) (by simp; omega)) rfl))))) (ar e0 rfl)
theorem FG (b:List Int) (hl:b.length<1000000) (v:Nat) (hv:v≤b.length):∀ (n i:Nat) (acc:List Int) (fuel:Nat),i+n=v→acc.length≤i→n<fuel→aT (IK b (v:Int)) fuel (acc,(i:Int))=some (.inl (acc++CV (Dv b i) ((b.take v).drop i)))
 | 0,i,acc,fuel,hn,ha,hf=>by
  obtain ⟨k,rfl⟩:∃ k,fuel=k+1:=⟨fuel-1,by omega⟩
  rw [aV (o := .inl acc) (by unfold IK; exact ak (decide_eq_false (by omega)) rfl)]
  rw [List.drop_eq_nil_of_le (by simp; omega)]; simp [CV]
 | n+1,i,acc,fuel,hn,ha,hf=>by
  obtain ⟨k,rfl⟩:∃ k,fuel=k+1:=⟨fuel-1,by omega⟩
  have hi:i<b.length:=by omega
  have hi2:i<(b.take v).length:=by simp; omega
  rw [bC (Fh b hl v hv hi (by omega) acc (by omega))]
  rw [FG b hl v hv n (i+1) _ k (by omega) (by rw [List.length_append]; split <;> simp <;> omega) (by omega)]
  rw [Ev hi2,CV,List.append_assoc,BL hi,List.getElem_take]
def dt (b:List Int) (i:Nat):Prop:=b[i]? = some 46∧iI b (i+1)∧(i=0∨2≤i∧iI b (i-2))
instance (b:List Int) (i:Nat):Decidable (dt b i):=by unfold dt; infer_instance
theorem rV (b:List Int) (hl:b.length<1000000) {i:Nat} (hi:i+2<b.length):Af b (i:Int)=if dt b i then some (.inr (.inr (i:Int))) else some (.inl ((i+1:Nat):Int)):=by
 have e1:some (IntKind.i64.wrap ((i:Int)+1))=some ((i+1:Nat):Int):=by rw [cN (by omega) (by omega)]; simp
 have e2:some (IntKind.i64.wrap ((i:Int)+2))=some ((i+2:Nat):Int):=by rw [cN (by omega) (by omega)]; simp
 unfold Af
 refine ar e2 (ap (decide_eq_true (by omega)) (aL (s:=decide (dt b i)) (ar (bk (by omega)) (ar (cA (by omega)) ?_)) ?_))
 ·by_cases h46:b[i]=46
  ·refine ap (by rw [h46]; rfl) (ar e1 (ar (bk (by omega)) (ar (cA (by omega)) ?_)))
   by_cases h13:b[i+1]=13
   ·refine ap (by rw [h13]; rfl) (ar e2 (ar (bk hi) (ar (cA hi) ?_)))
    by_cases h10:b[i+2]=10
    ·refine ap (by rw [h10]; rfl) ?_
     by_cases h0:i=0
     ·subst h0
      refine ap rfl ?_
      congr 2
      rw [eq_comm,decide_eq_true_eq,dt,iI,lW (by omega),lW (by omega),lW (by omega)]
      simp [h46,h13,h10]
     ·refine ak (by rw [beq_eq_false_iff_ne]; omega) ?_
      by_cases h1:1<i
      ·have g1:some (IntKind.i64.wrap ((i:Int)-1))=some ((i-1:Nat):Int):=by rw [cN (by omega) (by omega)]; congr 1; omega
       have g2:some (IntKind.i64.wrap ((i:Int)-2))=some ((i-2:Nat):Int):=by rw [cN (by omega) (by omega)]; congr 1; omega
       have hk:dt b i↔b[i-2]'(by omega)=13∧b[i-1]'(by omega)=10:=by
        rw [dt,iI,iI,lW (by omega),lW (by omega),lW (by omega),lW (by omega),lW (by omega)]
        have e:i-2+1=i-1:=by omega
        simp only [h46,h13,Option.some.injEq,true_and,show i+1+1=i+2 by omega,h10,e]
        omega
       refine ap (decide_eq_true (by omega)) (ar g2 (ar (bk (by omega)) (ar (cA (by omega)) ?_)))
       by_cases GC:b[i-2]'(by omega)=13
       ·refine ap (by rw [GC]; rfl) (ar g1 (ar (bk (by omega)) (ar (cA (by omega)) ?_)))
        congr 2
        rw [Bool.eq_iff_iff,beq_iff_eq,decide_eq_true_eq,hk]
        simp [GC]
       ·refine ak (by simpa using GC) ?_
        congr 2
        rw [eq_comm,decide_eq_false_iff_not,hk]
        simp [GC]
      ·refine ak (decide_eq_false (by omega)) ?_
       congr 2
       rw [eq_comm,decide_eq_false_iff_not,dt]
       omega
    ·refine ak (by simpa using h10) ?_
     congr 2
     rw [eq_comm,decide_eq_false_iff_not,dt,iI,lW (by omega),lW (by omega),lW (by omega)]
     simp [show i+1+1=i+2 by omega,h10]
   ·refine ak (by simpa using h13) ?_
    congr 2
    rw [eq_comm,decide_eq_false_iff_not,dt,iI,lW (by omega),lW (by omega)]
    simp [h13]
  ·refine ak (by simpa using h46) ?_
   congr 2
   rw [eq_comm,decide_eq_false_iff_not,dt,lW (by omega)]
   simp [h46]
 ·by_cases h:dt b i
  ·rw [if_pos h]; exact ap (decide_eq_true h) rfl
  ·rw [if_neg h]; exact ak (decide_eq_false h) (ar e1 rfl)
theorem Cm (b:List Int) (hl:b.length<1000000) {i:Nat} (hi:b.length≤i+2) (hi2:i<1000001):Af b (i:Int)=some (.inr (.inl ())):=by
 unfold Af
 refine ar (x:=((i+2:Nat):Int)) (by rw [cN (by omega) (by omega)]; simp) (ak (decide_eq_false (by omega)) rfl)
theorem GJ {b:List Int} (hl:b.length<1000000) (h:∀ i,¬ dt b i):eA b=some (-1):=by
 have hl2:aT (Af b) bX 0=some (.inl ()):=by
  refine bS (fun i=>(i:Int)) (b.length-2) bX rfl (by unfold bX; omega) (fun i hi => ?_) ?_
  ·rw [rV b hl (by omega),if_neg (h i)]
  ·exact Cm b hl (by omega) (by omega)
 unfold eA
 exact aL (s:=()) hl2 rfl
theorem GB {b:List Int} (hl:b.length<1000000) {k:Nat} (hk:dt b k) (h:∀ i,i<k→¬ dt b i):eA b=some (k:Int):=by
 have hlt:=zp hk.2.1
 have hl2:aT (Af b) bX 0=some (.inr (k:Int)):=by
  refine bS (fun i=>(i:Int)) k bX rfl (by unfold bX; omega) (fun i hi => ?_) ?_
  ·rw [rV b hl (by omega),if_neg (h i hi)]
  ·rw [rV b hl (by omega),if_pos hk]
 unfold eA
 exact jW (a:=(k:Int)) hl2 rfl
theorem Cd (b:List Int):∀ {t:List Int} {ls:List (List Int)} {r:List Int},vF t ls r→∀ (a:Nat),t=b.drop a→(a=0∨2≤a∧iI b (a-2)) →
  ((∀ l∈ls,l≠[46])∧(∀ i,a≤i→¬ dt b i))∨∃ xs ys,ls=xs++[46]::ys∧(∀ l∈xs,l≠[46])∧dt b (a+dZ xs)∧∀ i,a≤i→i<a+dZ xs→¬ dt b i:=by
 intro t ls r H
 induction H with
 | nil h =>
  intro a ht ha
  subst ht
  refine .inl ⟨by simp,fun i hi hd => ?_⟩
  refine uy h (i+1-a) ((je b a _).2 ?_)
  rw [show a+(i+1-a)=i+1 by omega]; exact hd.2.1
 | cons h t ih =>
  rename_i b0 e ls r
  intro a ht ha
  subst ht
  obtain ⟨hy,hn⟩:=sr h
  have hy':=(je b a e).1 hy
  have h2:=(fU h).1
  have hq1:(b.drop a).drop (e+2)=b.drop (a+(e+2)):=by rw [List.drop_drop]
  by_cases hl:(b.drop a).take e=[46]
  ·right
   have he:e=1:=by
    have:=congrArg List.length hl
    simp only [List.length_take,List.length_cons,List.length_nil] at this
    omega
   subst he
   refine ⟨[],ls,by rw [hl]; rfl,by simp,?_,fun i h1 h2=>by simp [dZ] at h2; omega⟩
   have h46:b[a]? = some 46:=by
    have:((b.drop a).take 1)[0]? = some 46:=by rw [hl]; rfl
    rw [List.getElem?_take] at this
    simpa using this
   simp only [dZ,Nat.add_zero]
   exact ⟨h46,hy',ha⟩
  ·have hno:∀ i,a≤i→i<a+(e+2)→¬ dt b i:=by
    intro i h1 h3 hd
    by_cases hia:i=a
    ·subst hia
     have hc:iI (b.drop i) 1:=(je b i 1).2 hd.2.1
     have he:e≤1:=by
      rcases Nat.lt_or_ge 1 e with h5 | h5
      ·exact absurd hc (hn 1 h5)
      ·exact h5
     rcases Nat.lt_or_ge e 1 with h5 | h5
     ·have he0:e=0:=by omega
      subst he0
      have:=hy'.1
      rw [Nat.add_zero,hd.1] at this
      cases this
     ·have he1:e=1:=by omega
      subst he1
      refine hl ?_
      have hlt:i<b.length:=(List.getElem?_eq_some_iff.1 hd.1).1
      have h46:b[i]=46:=by
       have:=hd.1
       rw [lW hlt] at this
       exact Option.some.inj this
      rw [List.drop_eq_getElem_cons hlt,h46]
      rfl
    ·rcases hd.2.2 with h0 | ⟨h4,hc⟩
     ·omega
     ·by_cases h5:a≤i-2
      ·refine hn (i-2-a) (by omega) ((je b a _).2 ?_)
       rw [show a+(i-2-a)=i-2 by omega]; exact hc
      ·have h6:i=a+1:=by omega
       rcases ha with h0 | ⟨h7,hp⟩
       ·omega
       ·have h8:=hc.1
        have h9:=hp.2
        rw [show a-2+1=i-2 by omega,h8] at h9
        cases h9
   rcases ih (a+(e+2)) hq1 (.inr ⟨by omega,by rw [show a+(e+2)-2=a+e by omega]; exact hy'⟩) with ⟨h1,h3⟩ | ⟨xs,ys,h1,h3,h4,h5⟩
   ·left
    refine ⟨fun l hm => ?_,fun i hi => ?_⟩
    ·rcases List.mem_cons.1 hm with rfl | hm
     ·exact hl
     ·exact h1 l hm
    ·rcases Nat.lt_or_ge i (a+(e+2)) with h6 | h6
     ·exact hno i hi h6
     ·exact h3 i h6
   ·right
    have hlen:((b.drop a).take e).length=e:=by rw [List.length_take]; omega
    refine ⟨(b.drop a).take e::xs,ys,by rw [h1]; rfl,fun l hm => ?_,?_,fun i hi h6 => ?_⟩
    ·rcases List.mem_cons.1 hm with rfl | hm
     ·exact hl
     ·exact h3 l hm
    ·simp only [dZ,hlen]
     rw [show a+(e+2+dZ xs)=a+(e+2)+dZ xs by omega]; exact h4
    ·simp only [dZ,hlen] at h6
     rcases Nat.lt_or_ge i (a+(e+2)) with h7 | h7
     ·exact hno i hi h7
     ·exact h5 i h7 (by omega)
theorem BV:∀ (b:List Int) (p:Int),Dw p b→∀ i:Nat,(b[i]? = some 13→b[i+1]? = some 10)∧(b[i]? = some 10→(if i=0 then some p else b[i-1]?)=some 13)
 | [],_,_,i=>by simp
 | x::l,p,h,i=>by
  obtain ⟨h1,h2,h3⟩:=h
  cases i with
  | zero =>
   refine ⟨fun e => ?_,fun e => ?_⟩
   ·have:=h1 (by simpa using e)
    rw [List.head?_eq_getElem?] at this; simpa using this
   ·rw [if_pos rfl,h2 (by simpa using e)]
  | succ i =>
   have ih:=BV l x h3 i
   refine ⟨fun e=>by simpa using ih.1 (by simpa using e),fun e => ?_⟩
   have:=ih.2 (by simpa using e)
   rw [if_neg (by omega)]
   cases i with
   | zero=>simpa using this
   | succ i=>simpa using this
theorem BA {ls:List (List Int)} (h:∀ l∈ls,nZ l) (i:Nat):yb (jn ls) i=false:=by
 obtain ⟨h1,h2⟩:=BV (jn ls) 0 (BC ls 0 h) i
 unfold yb
 by_cases e:(jn ls)[i]? = some 13
 ·rw [if_pos e,h1 e]; rfl
 ·rw [if_neg e]
  by_cases e2:(jn ls)[i]? = some 10
  ·rw [if_pos e2,decide_eq_false_iff_not]
   have:=h2 e2
   by_cases h0:i=0
   ·rw [if_pos h0] at this; cases this
   ·rw [if_neg h0] at this
    simp [h0,this]
  ·rw [if_neg e2]
set_option maxHeartbeats 1000000 in
theorem Au (b:List Int) (hl:b.length<4294967281) (hall:∀ i,i<b.length→(!yb b i)=true) (hlast:b=[]∨b.getLast? = some 10):bL b=some true:=by
 have hloop:=gK (R:=Bool) (f:=fun (s31:Int)=>cond ((decide (s31<(b.length:Int))))
    (aI (S:=Bool) (A:=((Int)⊕((Unit)⊕Bool)))
     ((cl s31 b.length).bind fun v2 =>
     (aQ b v2).bind fun v3 =>
     cond ((v3==13))
      ((some (IntKind.i64.wrap (s31+1))).bind fun v4 =>
      cond ((decide ((b.length:Int)≤v4)))
       (some (.inl true))
       ((some (IntKind.i64.wrap (s31+1))).bind fun v5 =>
       (cl v5 b.length).bind fun v6 =>
       (aQ b v6).bind fun v7 =>
       cond ((v7 != 10))
        (some (.inl true))
        ((cl s31 b.length).bind fun v8 =>
        (aQ b v8).bind fun v9 =>
        cond ((v9==10))
         (cond ((s31==0))
          (some (.inl true))
          ((some (IntKind.i64.wrap (s31-1))).bind fun v10 =>
          (cl v10 b.length).bind fun v11 =>
          (aQ b v11).bind fun v12 =>
          some (.inl (v12 != 13))))
         (some (.inl false)))))
      ((cl s31 b.length).bind fun v13 =>
      (aQ b v13).bind fun v14 =>
      cond ((v14==10))
       (cond ((s31==0))
        (some (.inl true))
        ((some (IntKind.i64.wrap (s31-1))).bind fun v15 =>
        (cl v15 b.length).bind fun v16 =>
        (aQ b v16).bind fun v17 =>
        some (.inl (v17 != 13))))
       (some (.inl false))))
     (fun (s45:Bool) =>
      cond (s45)
       (some (.inr (.inr (false))))
       ((some (IntKind.i64.wrap (s31+1))).bind fun v23 =>
       some (.inl v23))) some)
    (some (.inr (.inl ())))) (fun i => !yb b i) b.length false (fuel:=bX) (by unfold bX; omega)
  (fun i hi hp=>ap (decide_eq_true (by omega)) (aL (s:=yb b i) (nt b hi (by omega)) (ak (by simpa using hp) (ar (nm (by omega) (by omega)) rfl))))
  (fun i hi hp=>ap (decide_eq_true (by omega)) (aL (s:=yb b i) (nt b hi (by omega)) (ap (by simpa using hp) rfl)))
  (ak (decide_eq_false (by omega)) rfl)
 rw [if_pos hall] at hloop
 by_cases hn:b=[]
 ·subst hn; rfl
 ·have hpos:0<b.length:=by cases b with | nil=>exact absurd rfl hn | cons y t=>simp
  have h10:b[b.length-1]'(by omega)=10:=by
   have h2:=hlast.resolve_left hn
   rw [List.getLast?_eq_getElem?,qi (by omega)] at h2
   exact Option.some.inj h2
  unfold bL
  refine aL (s:=()) hloop (aL (s:=(b[b.length-1]'(by omega)==10)) (ak (by rw [beq_eq_false_iff_ne]; omega) (ar (x:=((b.length-1:Nat):Int)) (by rw [cN (by omega) (by omega)]; congr 1; omega) (ar (bk (by omega)) (ar (cA (by omega)) rfl)))) (by rw [h10]; rfl))
theorem DB {ls:List (List Int)} (h:∀ l∈ls,nZ l) (hl:dZ ls<1000000):bL (jn ls)=some true :=
 Au _ (by rw [cw]; omega) (fun i _=>by rw [BA h i]; rfl) (zb ls)
theorem wc (b:List Int) (hb:bM b) (hl:b.length<1000000):(∃ ls,(∀ l∈ls,nZ l)∧(∀ l∈ls,bM l)∧b=jn ls∧cM b=some 0∧bL b=some true)∨(cM b=some 5∧bL b=some false):=by
 rcases wC b hb (by omega) with h | ⟨h,ls,h1,h2,h3⟩
 ·rcases kT hb (by omega) with h4 | ⟨ls,h1,h2,h3⟩
  ·exact .inr ⟨h4,h⟩
  ·have:=DB h1 (by rw [← cw,← h3]; omega)
   rw [← h3,h] at this
   cases this
 ·refine .inl ⟨ls,h1,h2,h3,?_,h⟩
  rw [h3]
  exact kx h1 h2 (by rw [← cw,← h3]; omega)
theorem xI {b:List Int} {xs ys:List (List Int)} {r:List Int} (H:vF b (xs++[46]::ys) r) (hb:bM b) (hd:∀ l∈xs,l≠[46]) (hl:b.length<1000000):cR b=some ((dZ xs:Int),true):=by
 have hj:=mY H
 have ht:b.length=dZ (xs++[46]::ys)+r.length:=by rw [hj,List.length_append,cw]
 rw [jo] at ht
 unfold cR da
 refine ar rfl ?_
 refine jW (a:=((0+dZ xs:Nat):Int)) (ei nS H hb (by omega) _ _ ?_) (by simp)
 have h1:=mK xs ([46]::ys) 0 (fun l hm=>⟨lD H hb l (by simp [hm]),hd l hm⟩) (by omega)
 refine Eq.trans h1 ?_
 unfold jQ
 rw [rJ]
theorem wy (b:List Int) (hb:bM b) (hl:b.length<900000):∃ d m g,dz b=some (d,m,g)∧de b=some (d,m,g)∧d.length<2000000:=by
 obtain ⟨ls,r,H⟩:=sS b.length b (Nat.le_refl _)
 have hj:=mY H
 rcases Cd b H 0 (by simp) (.inl rfl) with ⟨h1,h2⟩ | ⟨xs,ys,h1,h2,h3,h4⟩
 ·refine ⟨[],0,9,rT (tw H hb h1 (by omega)),?_,by simp⟩
  unfold de
  exact ar (GJ (by omega) fun i=>h2 i (by omega)) (ap rfl rfl)
 ·subst h1
  rw [Nat.zero_add] at h3
  have hd:=GB (b:=b) (by omega) h3 fun i hi=>h4 i (by omega) (by omega)
  have hp:=xI H hb h2 (by omega)
  have ht:b.length=dZ (xs++[46]::ys)+r.length:=by rw [hj,List.length_append,cw]
  rw [jo] at ht
  have hle:dZ xs≤b.length:=by omega
  have htk:b.take (dZ xs)=jn xs:=by
   rw [hj,pM,List.append_assoc,← cw xs,List.take_left]
  have e1:eO b 0 (dZ xs:Int)=some (jn xs):=by
   have:=dB b (a:=0) (b:=dZ xs) (by omega) hle
   rw [List.drop_zero,Nat.sub_zero,htk] at this
   exact this
  have hbx:bM (jn xs):=by rw [← htk]; exact eT hb _
  have hwr:some (IntKind.i64.wrap ((dZ xs:Int)+3))=some ((dZ xs+3:Nat):Int):=by rw [cN (by omega) (by omega)]; simp
  rcases wc (jn xs) hbx (by rw [cw]; omega) with ⟨ms,m1,m2,m3,m4,m5⟩ | ⟨m4,m5⟩
  ·have hlm:dZ ms=dZ xs:=by rw [← cw ms,← m3,cw]
   refine ⟨jn (ms.map sR),((dZ xs+3:Nat):Int),0,?_,?_,?_⟩
   ·unfold dz
    refine ar hp (ak rfl (ar e1 (ar m4 (ak rfl (ar e1 ?_)))))
    refine ar (x:=jn ms) (by rw [m3]; rfl) ?_
    refine aL (s:=jn (ms.map sR)) (ei ql (rY m1) (kJ m2) (by rw [cw]; omega) _ _ ?_) (ar hwr rfl)
    have:=nu ms [] m2 (by simp; omega)
    simpa using this
   ·unfold de
    refine ar hd (ak (decide_eq_false (by omega)) (ar e1 (ar m5 (ak rfl ?_))))
    have hr:=FG b (by omega) (dZ xs) hle (dZ xs) 0 [] bX (by omega) (by simp) (by unfold bX; omega)
    rw [show Dv b 0=10 from rfl,List.drop_zero,htk,m3,Cx ms m1,List.nil_append] at hr
    exact aL (s:=jn (ms.map sR)) hr (ar hwr rfl)
   ·have hq:∀ q:List (List Int),dZ (q.map sR)≤dZ q:=by
     intro q
     induction q with
     | nil=>simp [dZ]
     | cons l q ih=>have:=uC l; simp only [List.map_cons,dZ]; omega
    have:=hq ms
    rw [cw]; omega
  ·refine ⟨[],0,5,?_,?_,by simp⟩
   ·unfold dz
    exact ar hp (ak rfl (ar e1 (ar m4 (ap rfl rfl))))
   ·unfold de
    exact ar hd (ak (decide_eq_false (by omega)) (ar e1 (ar m5 (ap rfl rfl))))
theorem zX {R:Type} {f:Int→Option (Int⊕(Unit⊕R))} (c:Int) (l:List Int) (g:Nat→R) {fuel:Nat} (hf:l.length<fuel)
  (hgo:∀ i,i<l.length→l.getD i 0≠c→f (i:Int)=some (.inl ((i+1:Nat):Int))) (hno:∀ i,i<l.length→l.getD i 0=c→f (i:Int)=some (.inr (.inr (g i)))) (hend:f (l.length:Int)=some (.inr (.inl ()))) :
  aT f fuel 0=some (match jg c l with | none => .inl () | some e => .inr (g e)):=by
 cases hi:jg c l with
 | none =>
  have h:=ny.1 hi
  refine bS (fun i=>(i:Int)) l.length fuel rfl hf (fun i hi=>hgo i hi ?_) hend
  intro e
  apply h
  rw [← e,List.getD_eq_getElem?_getD,List.getElem?_eq_getElem hi]
  exact List.getElem_mem hi
 | some e =>
  obtain ⟨h1,h2,h3⟩:=kb hi
  refine bS (fun i=>(i:Int)) e fuel rfl (by omega) (fun i hi=>hgo i (by omega) ?_) (hno e (by omega) ?_)
  ·intro he
   apply h3
   rw [← he,List.getD_eq_getElem?_getD,List.getElem?_eq_getElem (show i<l.length by omega)]
   exact List.mem_take_iff_getElem.2 ⟨i,by omega,rfl⟩
  ·rw [h2,List.getD_eq_getElem?_getD,List.getElem?_append_right (by simp; omega)]
   have:(l.take e).length=e:=by simp; omega
   rw [this,Nat.sub_self]; rfl
theorem tL (s:Li) (hs:s.size<1152921504606846976):cK s=some (match su (ao s) with | some p=>(p,true) | none=>(nK,false)):=by
 unfold cK su
 by_cases h2:ao s=[60,62]
 ·rw [if_pos h2]
  exact ap (by rw [IR]; exact decide_eq_true h2) rfl
 ·rw [if_neg h2]
  refine ak (by rw [IR]; exact decide_eq_false h2) ?_
  rcases pQ (ao s) with ⟨m,hm,hmid⟩ | hmid
  ·rw [hmid]
   have hml:m.length+2=s.size:=by rw [zy,hm]; simp
   have hbm:bM m:=by
    have:=cv s
    rw [hm] at this
    intro x hx
    exact this x (by simp [hx])
   have c0:=jT (s:=s) (i:=0) (by omega)
   have c1:=jT (s:=s) (i:=s.size-1) (by omega)
   have x0:(ao s).getD 0 0=60:=by rw [hm]; rfl
   have x1:(ao s).getD (s.size-1) 0=62:=by
    rw [hm,← hml]
    show (60::(m++[62])).getD (m.length+1) 0=62
    rw [List.getD_cons_succ,List.getD_eq_getElem?_getD,List.getElem?_append_right (Nat.le_refl _)]; simp
   rw [x0] at c0
   rw [x1] at c1
   have w:some (IntKind.i64.wrap ((s.size:Int)-1))=some ((s.size-1:Nat):Int):=by rw [hH (by omega) (by omega)]; congr 1; omega
   have e1:fL s 1 ((s.size-1:Nat):Int)=some (aO m):=by
    have:=fX (s:=s) (a:=1) (b:=s.size-1) (by omega) (by omega)
    rw [show s.size-1-1=m.length by omega,hm] at this
    simpa using this
   refine aL (s:=false) (ak (decide_eq_false (by omega)) (ar c0 (ak rfl (ar w (ar c1 rfl))))) (ak rfl (ar w (ar e1 ?_)))
   have hsz:(aO m).size=m.length:=cX m
   have hmm:ao (aO m)=m:=aK hbm
   have hlp:=fun (f:Int→Option (Int⊕(Unit⊕(aj×Bool))))=>zX (R:=aj×Bool) (f:=f) 64 m (fun e=>cond (eI ⟨false,aO (m.take e),aO (m.drop (e+1))⟩) (⟨false,aO (m.take e),aO (m.drop (e+1))⟩,true) (nK,false)) (fuel:=bX) (by unfold bX; omega)
   have hget:∀ i,i<m.length→dk (aO m) (i:Int)=some (m.getD i 0):=by
    intro i hi
    have:=jT (s:=aO m) (i:=i) (by omega)
    rwa [hmm] at this
   refine (congrArg (fun x=>aI x _ _) (hlp _ ?_ ?_ ?_)).trans ?_
   ·intro i hi hne
    exact ap (decide_eq_true (by omega)) (ar (hget i hi) (ak (by simpa using hne) (ar (by rw [aZ (by omega)]) rfl)))
   ·intro i hi he
    have s1:fL (aO m) 0 (i:Int)=some (aO (m.take i)):=by
     have:=fX (s:=aO m) (a:=0) (b:=i) (by omega) (by omega)
     rw [hmm] at this
     simpa using this
    have s2:fL (aO m) ((i+1:Nat):Int) ((aO m).size:Int)=some (aO (m.drop (i+1))):=by
     have:=fX (s:=aO m) (a:=i+1) (b:=(aO m).size) (by omega) (Nat.le_refl _)
     rw [hmm,List.take_of_length_le (by simp; omega)] at this
     exact this
    have w3:some (IntKind.i64.wrap ((i:Int)+1))=some ((i+1:Nat):Int):=by rw [aZ (by omega)]
    refine ap (decide_eq_true (by omega)) (ar (hget i hi) (ap (by rw [he]; rfl) (ar s1 (ar w3 (ar s2 (ar (kt _) ?_))))))
    unfold gz
    cases eI ⟨false,aO (m.take i),aO (m.drop (i+1))⟩ <;> rfl
   ·exact ak (decide_eq_false (by omega)) rfl
   ·simp only [Dc]
    cases jg 64 m with
    | none=>rfl
    | some e =>
     dsimp only
     cases eI ⟨false,aO (m.take e),aO (m.drop (e+1))⟩ <;> rfl
  ·rw [hmid]
   refine aL (s:=true) ?_ (ap rfl rfl)
   by_cases hlt:s.size<2
   ·exact ap (decide_eq_true (by omega)) rfl
   ·have c0:=jT (s:=s) (i:=0) (by omega)
    have c1:=jT (s:=s) (i:=s.size-1) (by omega)
    have w:some (IntKind.i64.wrap ((s.size:Int)-1))=some ((s.size-1:Nat):Int):=by rw [hH (by omega) (by omega)]; congr 1; omega
    have hne:ao s≠[]:=by intro e; have:=aN s; rw [e] at this; simp at this; omega
    refine ak (decide_eq_false (by omega)) (ar c0 ?_)
    by_cases h0:(ao s).getD 0 0=60
    ·refine ak (by rw [h0]; rfl) (ar w (ar c1 ?_))
     have hl:(ao s).getD (s.size-1) 0≠62:=by
      intro h62
      unfold uj at hmid
      rw [if_pos ⟨by rw [lp hne,h0],by rw [aN]; omega,by rw [np hne,aN,h62]⟩] at hmid
      cases hmid
     have:((ao s).getD (s.size-1) 0 != 62)=true:=by simpa using hl
     rw [this]
    ·exact ap (by simpa using h0) rfl
set_option maxRecDepth 100000
theorem Ba {m:ae} (h:LM m) (hb:bM m.KY) (hy:vk m=true):cW m=some true:=by
 have hl:=(fI h).2.2.1
 have hT:=h.1
 unfold vk xP CN at hy
 simp only [Bool.and_eq_true,decide_eq_true_eq] at hy
 obtain ⟨⟨hF,hn,ha⟩,h4,hd⟩:=hy
 have e1:=kt (aj.mk m.La.Le m.La.Lc m.La.KZ)
 rw [show aj.mk m.La.Le m.La.Lc m.La.KZ=m.La from rfl] at e1
 have nF:(!eI m.La)=false:=by rw [hF]; rfl
 have nN:(!(decide ((1:Int)≤(m.To.length:Int))&&decide ((m.To.length:Int)≤8)))=false:=by rw [decide_eq_true (by omega),decide_eq_true (by omega)]; rfl
 have hbd:bL m.KY=some true:=by
  rcases wc m.KY hb (by omega) with ⟨ls,_,_,_,_,h⟩ | ⟨h,_⟩
  ·exact h
  ·rw [hd] at h; exact absurd (Option.some.inj h) (by decide)
 have hlp:aT (KC m) bX 0=some (.inl ()):=by
  refine bS (fun i=>((i:Nat):Int)) m.To.length bX rfl (by simp only [bX]; omega) (fun i hi => ?_) (ak (decide_eq_false (by omega)) rfl)
  have hp:=List.all_eq_true.1 ha _ (List.getElem_mem hi)
  unfold uZ at hp
  rw [Bool.and_eq_true] at hp
  exact ap (decide_eq_true (by omega)) (aL (s:=false) (ar (bk hi) (ar (cA hi) (ar (kt _) (ak (by rw [hp.1]; rfl) (ar (bk hi) (ar (cA hi) (cG (by simpa using hp.2)))))))) (ak rfl (ar (congrArg some (aZ (n:=i) (by omega))) rfl)))
 unfold cW
 exact aL (s:=false) (ar e1 (ak nF (ar (ft _ _ _) (ak nN (ar hbd (ak rfl (cG (decide_eq_false (by omega))))))))) (ak rfl (aL hlp rfl))
theorem CB {b:az} (hm:∀ m∈b.Ld,LM m∧bM m.KY) (hl:b.Ld.length≤20) (hy:nD b=true):cp b=some true:=by
 unfold nD at hy
 simp only [Bool.and_eq_true,decide_eq_true_eq] at hy
 obtain ⟨⟨ho,hn⟩,hk,ha⟩:=hy
 have no:(!(decide ((0:Int)≤b.Lg)&&decide (b.Lg≤1)))=false:=by rw [decide_eq_true (by omega),decide_eq_true (by omega)]; rfl
 have nn:(!(decide ((1:Int)≤b.Lf)&&decide (b.Lf≤65535)))=false:=by rw [decide_eq_true hn.1,decide_eq_true hn.2]; rfl
 have nk:(!(decide ((1:Int)≤(b.Ld.length:Int))&&decide ((b.Ld.length:Int)≤4)))=false:=by rw [decide_eq_true (by omega),decide_eq_true (by omega)]; rfl
 have hlp:aT (Kr b) bX 0=some (.inl ()):=by
  refine bS (fun i=>((i:Nat):Int)) b.Ld.length bX rfl (by simp only [bX]; omega) (fun i hi => ?_) (ak (decide_eq_false (by omega)) rfl)
  have hp:=List.all_eq_true.1 ha _ (List.getElem_mem hi)
  obtain ⟨lm,hb⟩:=hm _ (List.getElem_mem hi)
  unfold pD at hp
  simp only [Bool.and_eq_true,decide_eq_true_eq] at hp
  obtain ⟨h1,h2,h3,h4⟩:=hp
  have h2:(b.Ld[i]).Lh=false:=by simpa using h2
  refine ap (decide_eq_true (by omega)) (ar (bk hi) (ar (cA hi) (aL (s:=false) (ar (x:=true) (Ba lm hb h1) (ak rfl (ak h2 (ak ?_ (cG ?_))))) (ak rfl (ar (congrArg some (aZ (n:=i) (by omega))) rfl)))))
  ·rw [cq,h3,show (⟨#[]⟩:Li)=e0 from rfl,decide_eq_true rfl]; rfl
  ·rw [h4]; rfl
 unfold cp
 exact aL (s:=false) (ar (ft _ _ _) (ak no (ar (ft _ _ _) (ak nn (ar (ft _ _ _) (cG nk)))))) (ak rfl (aL hlp rfl))
theorem vB {b:az} (hm:∀ m∈b.Ld,LM m∧bM m.KY) (hl:b.Ld.length≤20):cp b=some (nD b):=by
 cases hb:nD b
 ·obtain ⟨c,hc,h⟩:=vM hm hl
  cases c
  ·exact hc
  ·rw [h rfl] at hb; cases hb
 ·exact CB hm hl hb
theorem yq {b:az} (hm:∀ m∈b.Ld,LM m∧bM m.KY) (hl:b.Ld.length≤20) (hc:cp b=some true) :
  bo b=some (if 4096<(dW b).length then ([],2) else (dW b,0))∧bp b=some (if 4096<(dW b).length then ([],2) else (dW b,0)):=by
 have hbb:nD b=true:=by
  obtain ⟨c,hc1,hc2⟩:=vM hm hl
  rw [hc] at hc1
  exact hc2 (Option.some.inj hc1).symm
 have hck:=ni hm hl
 rw [hbb] at hck
 obtain ⟨e,he,h5,h0⟩:=BK hm hl
 rw [show cS b=some 0 from hck] at he
 obtain ⟨ho,hn1,hn2,hl1,hl4,hv⟩:=h0 (Option.some.inj he).symm
 have hcb:=sk hv
 have hlen:=jy hv
 have hlen2:b.Ld.length * 1000000≤4 * 1000000:=Nat.mul_le_mul_right _ hl4
 have hcl:(eP b.Ld).length≤4000006:=by simp only [eP,iw,List.length_append,List.length_cons,List.length_nil]; omega
 have hns:[b.Lg,b.Lf,(b.Ld.length:Int),((dw b.Ld++[81,85,73,84,13,10]).length:Int),((mg (eP b.Ld):Nat):Int)]=(iS b).map (fun n:Nat=>(n:Int)):=by
  show _=[((b.Lg.toNat:Nat):Int),((b.Lf.toNat:Nat):Int),((b.Ld.length:Nat):Int),(((eP b.Ld).length:Nat):Int),((mg (eP b.Ld):Nat):Int)]
  rw [show ((b.Lg.toNat:Nat):Int)=b.Lg by omega,show ((b.Lf.toNat:Nat):Int)=b.Lf by omega]
  rfl
 have hsl:=va hcb
 have hn:∀ n∈iS b,n<10 ^ 18:=by
  intro n hn
  simp only [iS,List.mem_cons,List.not_mem_nil,or_false] at hn
  rcases hn with rfl | rfl | rfl | rfl | rfl <;> omega
 have hby:=xl hck hv hl (rj hcb (by show (eP b.Ld).length<_; omega)) hns hn
 have ew:(fR++fW (iS b))++[13,10]++(dw b.Ld++[81,85,73,84,13,10])=dW b:=by simp [dW,eP,iw]
 rw [ew] at hby
 obtain ⟨v4,d4,x4⟩:=Do (n:=b.Lg.toNat) (by omega)
 obtain ⟨v7,d7,x7⟩:=Do (n:=b.Lf.toNat) (by omega)
 obtain ⟨v10,d10,x10⟩:=Do (n:=b.Ld.length) (by omega)
 obtain ⟨v13,Ic,x13⟩:=Do (n:=(eP b.Ld).length) (by omega)
 obtain ⟨v17,d17,x17⟩:=Do (n:=mg (eP b.Ld)) (by omega)
 rw [show ((b.Lg.toNat:Nat):Int)=b.Lg by omega] at d4
 rw [show ((b.Lf.toNat:Nat):Int)=b.Lf by omega] at d7
 obtain ⟨v5,c5,x5⟩:=tc tW x4 (by omega)
 obtain ⟨v6,c6,x6⟩:=tc x5 t1 (by omega)
 obtain ⟨v8,c8,x8⟩:=tc x6 x7 (by omega)
 obtain ⟨v9,c9,x9⟩:=tc x8 t1 (by omega)
 obtain ⟨v11,c11,x11⟩:=tc x9 x10 (by omega)
 obtain ⟨v12,c12,x12⟩:=tc x11 t1 (by omega)
 obtain ⟨v14,c14,x14⟩:=tc x12 x13 (by omega)
 obtain ⟨v15,c15,x15⟩:=tc x14 t1 (by omega)
 obtain ⟨v18,c18,x18⟩:=tc x15 x17 (by omega)
 obtain ⟨v19,c19,x19⟩:=tc x18 tE (by omega)
 have hap:cr 1 (ao v19) (eP b.Ld)=some (dW b):=by
  have h1:=x19.le
  rw [x19.e,cF (by omega) (by omega)]
  simp [dW,iS,fW]
 have key:∀ r,(cond (decide (4096<((dW b).length:Int))) (some ([],2)) (some (dW b,0)):Option (List Int×Int))=some r→bo b=some r:=fun r hr=>by
  unfold bo
  exact ar hc (ak rfl (ar (EI hv hl) (ar d4 (ar c5 (ar c6 (ar d7 (ar c8 (ar c9 (ar d10 (ar c11 (ar c12 (ar Ic (ar c14 (ar c15 (ar (wL hcb (by omega)) (ar d17 (ar c18 (ar c19 (ar rfl (ar hap hr))))))))))))))))))))
 refine ⟨?_,hby⟩
 by_cases h:4096<(dW b).length
 ·rw [if_pos h]; exact key _ (ap (decide_eq_true (by omega)) rfl)
 ·rw [if_neg h]; exact key _ (ak (decide_eq_false (by omega)) rfl)
theorem Dj {b:az} (hm:∀ m∈b.Ld,LM m∧bM m.KY) (hl:b.Ld.length≤20):bo b=bp b:=by
 cases hb:nD b
 ·have h1:=vB hm hl
  have h2:=ni hm hl
  rw [hb] at h1 h2
  have e1:bo b=some ([],5):=by unfold bo; exact ar h1 (ap rfl rfl)
  have e2:bp b=some ([],5):=by unfold bp; exact ar (x:=5) h2 (ap rfl rfl)
  rw [e1,e2]
 ·have:=yq hm hl ((vB hm hl).trans (congrArg some hb))
  rw [this.1,this.2]
set_option maxRecDepth 100000
def KF (s:Li):(((List Li)×Int×Int))→Option (((List Li)×Int×Int)⊕(((List Li))⊕(List Li))):=(fun ((s41,s42,s43):(List Li)×Int×Int) =>
 cond ((decide (s43≤(s.size:Int))))
  (aI (S:=(List Li)×Int) (A:=(((List Li)×Int×Int)⊕(((List Li))⊕(List Li))))
   (aI (S:=Bool) (A:=(((List Li)×Int)⊕(((List Li)×Int×Int)⊕(((List Li))⊕(List Li)))))
    (cond ((s43==(s.size:Int)))
     (some (.inl true))
     ((dk s s43).bind fun v2 =>
     some (.inl (v2==32))))
    (fun (s78:Bool) =>
     cond (s78)
      ((fL s s42 s43).bind fun v8 =>
      (cr 16 s41 [v8]).bind fun v9 =>
      (some (IntKind.i64.wrap (s43+1))).bind fun v10 =>
      some (.inl (v9,v10)))
      (some (.inl (s41,s42)))) some)
   (fun ((s73,s74):(List Li)×Int) =>
    (some (IntKind.i64.wrap (s43+1))).bind fun v21 =>
    some (.inl (s73,s74,v21))) some)
  (some (.inr (.inl s41))))
def Ky (s:Li):((Int×Int))→Option ((Int×Int)⊕((Int)⊕Int)):=(fun ((s22,s23):Int×Int) =>
 cond ((decide (s23<(s.size:Int))))
  ((dk s s23).bind fun v9 =>
  (cz v9).bind fun v10 =>
  cond ((!v10))
   (some (.inr (.inr ((-1)))))
   ((some (IntKind.i64.wrap (10 * s22))).bind fun v12 =>
   (dk s s23).bind fun v13 =>
   (some (IntKind.u8.wrap (v13-48))).bind fun v14 =>
   (some (IntKind.i64.wrap v14)).bind fun v15 =>
   (some (IntKind.i64.wrap (v12+v15))).bind fun v16 =>
   (some (IntKind.i64.wrap (s23+1))).bind fun v17 =>
   some (.inl (v16,v17))))
  (some (.inr (.inl s22))))
def HO (c:List Int) (v6:aj×Bool):(((List aj)×Int))→Option (((List aj)×Int)⊕(((List aj)×Int×Int)⊕(ae×Int×Bool))):=(fun ((s36,s37):(List aj)×Int) =>
 (ck c s37).bind fun v13 =>
 cond ((decide (v13<0)))
  (some (.inr (.inr (((ae.mk v6.1 s36 [] false (⟨#[]⟩:Li) 0),0,false)))))
  ((eO c s37 v13).bind fun v15 =>
  (some (aO v15)).bind fun v16 =>
  (bZ v16 (⟨#[82,67,80,84,32,84,79,58]⟩:Li)).bind fun v17 =>
  cond ((!v17.2))
   (some (.inr (.inl (s36,s37,v13))))
   ((cK v17.1).bind fun v19 =>
   aI (S:=Bool) (A:=(((List aj)×Int)⊕(((List aj)×Int×Int)⊕(ae×Int×Bool))))
    (cond ((!v19.2))
     (some (.inl true))
     (some (.inl ((decide (8≤(s36.length:Int)))))))
    (fun (s56:Bool) =>
     cond (s56)
      (some (.inr (.inr (((ae.mk v6.1 s36 [] false (⟨#[]⟩:Li) 0),0,false)))))
      ((cr 40 s36 [v19.1]).bind fun v25 =>
      (some (IntKind.i64.wrap (v13+2))).bind fun v26 =>
      some (.inl (v25,v26)))) some)))
theorem fM {S A:Type} {a b:S} (h:a=b):(some (.inl a):Option (S⊕A))=some (.inl b):=by rw [h]
def vR (cur:List Int):List (List Int)→List (List Int)
 | []=>[cur]
 | p::ps=>(cur++p)::ps
theorem wq (l:List Int):vR [] (fa 32 l)=fa 32 l:=by
 cases h:fa 32 l with
 | nil=>exact absurd h (ji 32 l)
 | cons p ps=>rfl
theorem Fg (cur l:List Int):vR cur (fa 32 (32::l))=cur::fa 32 l:=by
 have e:fa 32 (32::l)=[]::fa 32 l:=by
  conv=>lhs; unfold fa
  rw [if_pos rfl]
 rw [e]
 simp [vR]
theorem GS {x:Int} (h:x≠32) (cur l:List Int):vR cur (fa 32 (x::l))=vR (cur++[x]) (fa 32 l):=by
 have e:fa 32 (x::l)=match fa 32 l with | []=>[[x]] | p::ps=>(x::p)::ps:=by
  conv=>lhs; unfold fa
  rw [if_neg h]
  cases fa 32 l <;> rfl
 rw [e]
 cases hs:fa 32 l with
 | nil=>exact absurd hs (ji 32 l)
 | cons p ps=>simp [vR]
theorem vQ {A:Type} {l r:List A} {x:A} {i:Nat} (h:l.drop i=x::r):∃ hi:i<l.length,l[i]=x∧l.drop (i+1)=r:=by
 have hi:i<l.length:=by
  have:=congrArg List.length h
  rw [List.length_drop,List.length_cons] at this
  omega
 rw [List.drop_eq_getElem_cons hi] at h
 exact ⟨hi,(List.cons.inj h).1,(List.cons.inj h).2⟩
theorem CA (s:Li) (hs:s.size≤100000):∀ (rest cur:List Int) (acc:List Li) (f i fuel:Nat),(ao s).drop i=rest→f≤i→i+rest.length=s.size→((ao s).drop f).take (i-f)=cur→acc.length≤i→rest.length+1<fuel →
  aT (KF s) fuel (acc,(f:Int),(i:Int))=some (.inl (acc++(vR cur (fa 32 rest)).map aO))
 | [],cur,acc,f,i,fuel,hd,hf,hl,hc,ha,hfu=>by
  obtain ⟨u,rfl⟩:∃ u,fuel=u+1+1:=⟨fuel-2,by omega⟩
  rw [List.length_nil] at hl
  have hsub:=fX (s:=s) (a:=f) (b:=i) hf (by omega)
  rw [hc] at hsub
  refine (bC (s':=(acc++[aO cur],((i+1:Nat):Int),((i+1:Nat):Int))) ?_).trans ((aV (ak (decide_eq_false (by omega)) rfl)).trans ?_)
  ·refine ap (decide_eq_true (by omega)) (aL (s:=(acc++[aO cur],((i+1:Nat):Int))) (aL (s:=true) (ap (beq_iff_eq.2 (by omega)) rfl) (ap rfl (ar hsub (ar (cF (by simp only [List.length_cons,List.length_nil]; omega) (by simp only [List.length_cons,List.length_nil]; omega)) (ar (congrArg some (aZ (n:=i) (by omega))) rfl))))) (ar (congrArg some (aZ (n:=i) (by omega))) rfl))
  ·simp [fa,vR]
 | x::r,cur,acc,f,i,fuel,hd,hf,hl,hc,ha,hfu=>by
  obtain ⟨u,rfl⟩:∃ u,fuel=u+1:=⟨fuel-1,by omega⟩
  rw [List.length_cons] at hl hfu
  obtain ⟨hi,hx,hr⟩:=vQ hd
  have hi2:i<s.size:=by rw [aN] at hi; exact hi
  have hch:=vh hi2
  rw [hx] at hch
  by_cases h32:x=32
  ·subst h32
   have hsub:=fX (s:=s) (a:=f) (b:=i) hf (by omega)
   rw [hc] at hsub
   refine (bC (s':=(acc++[aO cur],((i+1:Nat):Int),((i+1:Nat):Int))) ?_).trans ((CA s hs r [] (acc++[aO cur]) (i+1) (i+1) u hr (Nat.le_refl _) (by omega) (by simp) (by simp; omega) (by omega)).trans ?_)
   ·refine ap (decide_eq_true (by omega)) (aL (s:=(acc++[aO cur],((i+1:Nat):Int))) (aL (s:=true) (ak (beq_eq_false_iff_ne.2 (by omega)) (ar hch rfl)) (ap rfl (ar hsub (ar (cF (by simp only [List.length_cons,List.length_nil]; omega) (by simp only [List.length_cons,List.length_nil]; omega)) (ar (congrArg some (aZ (n:=i) (by omega))) rfl))))) (ar (congrArg some (aZ (n:=i) (by omega))) rfl))
   ·rw [Fg,wq]; simp
  ·refine (bC (s':=(acc,(f:Int),((i+1:Nat):Int))) ?_).trans ((CA s hs r (cur++[x]) acc f (i+1) u hr (by omega) (by omega) ?_ (by omega) (by omega)).trans ?_)
   ·exact ap (decide_eq_true (by omega)) (aL (s:=(acc,(f:Int))) (aL (s:=false) (ak (beq_eq_false_iff_ne.2 (by omega)) (ar hch (fM (beq_eq_false_iff_ne.2 h32)))) (ak rfl rfl)) (ar (congrArg some (aZ (n:=i) (by omega))) rfl))
   ·rw [← hc,show i+1-f=(i-f)+1 by omega,List.take_add_one]
    congr 1
    rw [List.getElem?_drop,show f+(i-f)=i by omega,List.getElem?_eq_getElem hi,hx]
    rfl
   ·rw [GS h32]
theorem Co {l:List Int} (hb:bM l) (hl:l.length≤5000):eu (aO l)=some ((fa 32 l).map aO):=by
 have h:=CA (aO l) (by rw [cX]; omega) l [] [] 0 0 bX (by rw [aK hb]; rfl) (Nat.le_refl _) (by rw [cX]; omega) (by simp) (by simp) (by simp only [bX]; omega)
 rw [wq] at h
 unfold eu
 exact aL h rfl
theorem Fs (s:Li) (hs:s.size≤10):∀ (rest:List Int) (n i fuel:Nat),(ao s).drop i=rest→i+rest.length=s.size→n<10 ^ i→rest.length<fuel →
  aT (Ky s) fuel ((n:Int),(i:Int))=some (if rest.all tr=true then .inl ((nY n rest:Nat):Int) else .inr (-1))
 | [],n,i,fuel,hd,hl,hn,hfu=>by
  obtain ⟨u,rfl⟩:∃ u,fuel=u+1:=⟨fuel-1,by omega⟩
  rw [List.length_nil] at hl
  refine (aV (ak (decide_eq_false (by omega)) rfl)).trans ?_
  simp [nY]
 | x::r,n,i,fuel,hd,hl,hn,hfu=>by
  obtain ⟨u,rfl⟩:∃ u,fuel=u+1:=⟨fuel-1,by omega⟩
  rw [List.length_cons] at hl hfu
  obtain ⟨hi,hx,hr⟩:=vQ hd
  have hi2:i<s.size:=by rw [aN] at hi; exact hi
  have hch:=vh hi2
  rw [hx] at hch
  have h9:10 ^ i≤10 ^ 9:=Nat.pow_le_pow_right (by omega) (by omega)
  cases hdg:tr x
  ·refine (aV (ap (decide_eq_true (by omega)) (ar hch (ar (xQ x) (ap (by rw [show yo x=tr x from rfl,hdg]; rfl) rfl))))).trans ?_
   rw [List.all_cons,hdg,Bool.false_and,if_neg (by decide)]
  ·have hd2:=hdg
   unfold tr at hd2
   rw [Bool.and_eq_true,decide_eq_true_eq,decide_eq_true_eq] at hd2
   have hp:10 ^ (i+1)=10 ^ i * 10:=Nat.pow_succ 10 i
   refine (bC (s':=(((n * 10+(x-48).toNat:Nat):Int),((i+1:Nat):Int))) ?_).trans ((Fs s hs r (n * 10+(x-48).toNat) (i+1) u hr (by omega) (by omega) (by omega)).trans ?_)
   ·refine ap (decide_eq_true (by omega)) (ar hch (ar (xQ x) (ak (by rw [show yo x=tr x from rfl,hdg]; rfl) (ar (cN (by omega) (by omega)) (ar hch (ar (congrArg some (Eh (by omega) (by omega))) (ar (cN (by omega) (by omega)) (ar (cN (by omega) (by omega)) (ar (congrArg some (aZ (n:=i) (by omega))) ?_)))))))))
    rw [show (10 * (n:Int)+(x-48))=((n * 10+(x-48).toNat:Nat):Int) by omega]
   ·rw [List.all_cons,hdg,Bool.true_and]; rfl
theorem rH {w:List Int} (hb:bM w):dT (aO w) 10=some (if du w=true then vI w else-1):=by
 have hsz:=cX w
 unfold dT
 by_cases h1:1≤w.length∧w.length≤10
 case neg =>
  have:du w=false:=by
   unfold du
   cases w with
   | nil=>rfl
   | cons x r=>rw [decide_eq_false (p:=(x::r).length≤10) (fun h=>h1 ⟨by simp,h⟩)]; simp
  rw [this,if_neg (by decide)]
  refine aL (s:=true) (ar (ft _ _ _) (ap ?_ rfl)) (ap rfl rfl)
  rw [Bool.not_eq_true',Bool.and_eq_false_iff,hsz]
  by_cases h2:1≤w.length
  ·exact .inr (decide_eq_false (by omega))
  ·exact .inl (decide_eq_false (by omega))
 have nin:(!(decide ((1:Int)≤((aO w).size:Int))&&decide (((aO w).size:Int)≤10)))=false:=by rw [decide_eq_true (by omega),decide_eq_true (by omega)]; rfl
 have hgo:=Fs (aO w) (by omega) w 0 0 bX (by rw [aK hb]; rfl) (by omega) (by decide) (by simp only [bX]; omega)
 have fin:∀ {b:Bool},du w=(b&&w.all tr)→b=true→(aI (S:=(Int)) (A:=Int) (aT (Ky (aO w)) bX (0,0)) (fun (s26:Int)=>some (s26)) some)=some (if du w=true then vI w else-1):=by
  intro b h hbt
  rw [h,hbt,Bool.true_and]
  by_cases ha:w.all tr=true
  ·rw [if_pos ha] at hgo ⊢
   exact aL hgo rfl
  ·rw [if_neg ha] at hgo ⊢
   exact jW hgo rfl
 cases w with
 | nil=>simp at h1
 | cons c r =>
  have hnt:du (c::r)=(!(decide (c=48)&&decide (r≠[]))&&(c::r).all tr):=by
   unfold du
   rw [decide_eq_true h1.2]
   have e1:((c::r).head? == some 48)=decide (c=48):=by
    by_cases h:c=48
    ·subst h; rfl
    ·rw [decide_eq_false h]; exact beq_eq_false_iff_ne.2 (by simpa using h)
   rw [e1]
   by_cases h:c=48
   ·subst h; simp
   ·rw [decide_eq_false h]; simp
  cases r with
  | nil=>exact aL (s:=false) (ar (ft _ _ _) (ak nin (ak (decide_eq_false (by rw [hsz]; simp)) rfl))) (ak rfl (fin hnt (by simp)))
  | cons d q =>
   have hch:=vh (s:=aO (c::d::q)) (i:=0) (by rw [hsz]; simp)
   have hg0:(ao (aO (c::d::q)))[0]'(by rw [aN,hsz]; simp)=c:=by
    have:=aK hb
    simp only [this,List.getElem_cons_zero]
   rw [hg0] at hch
   by_cases h48:c=48
   ·refine aL (s:=true) (ar (ft _ _ _) (ak nin (ap (decide_eq_true (by rw [hsz]; simp only [List.length_cons]; omega)) (ar hch (fM (beq_iff_eq.2 h48)))))) (ap rfl ?_)
    rw [hnt,h48]; simp
   ·exact aL (s:=false) (ar (ft _ _ _) (ak nin (ap (decide_eq_true (by rw [hsz]; simp only [List.length_cons]; omega)) (ar hch (fM (beq_eq_false_iff_ne.2 h48)))))) (ak rfl (fin hnt (by rw [decide_eq_false h48]; rfl)))
theorem sU {word:Li} {w r:List Int} (hw:ao word=w) (hb:bM (w++r)) (hl:(w++r).length≤100000):bZ (aO (w++r)) word=some (aO r,true):=by
 have hs:=cX (w++r)
 have hz:word.size=w.length:=by rw [← hw,aN]
 rw [List.length_append] at hs hl
 have h1:=fX (s:=aO (w++r)) (a:=0) (b:=word.size) (by omega) (by omega)
 have h2:=fX (s:=aO (w++r)) (a:=word.size) (b:=(aO (w++r)).size) (by omega) (by omega)
 rw [aK hb,hz] at h1 h2
 rw [List.drop_zero,Nat.sub_zero,List.take_left] at h1
 rw [hs,List.drop_left,Nat.add_sub_cancel_left,List.take_length] at h2
 unfold bZ
 refine aL (s:=false) (ak (decide_eq_false (by omega)) (ar (x:=aO w) (by rw [hz]; exact h1) (fM ?_))) (ak rfl (ar (x:=aO r) (by rw [hs,hz]; exact h2) rfl))
 rw [cq,decide_eq_true (by rw [← hw,ir])]
 rfl
theorem ut {word:Li} {w l:List Int} (hw:ao word=w) (hb:bM l) (hl:l.length≤100000) (h:¬ w <+: l):bZ (aO l) word=some ((⟨#[]⟩:Li),false):=by
 have hs:=cX l
 have hz:word.size=w.length:=by rw [← hw,aN]
 unfold bZ
 by_cases hlt:l.length<w.length
 ·exact aL (s:=true) (ap (decide_eq_true (by omega)) rfl) (ap rfl rfl)
 ·have h1:=fX (s:=aO l) (a:=0) (b:=word.size) (by omega) (by omega)
  rw [aK hb,List.drop_zero,Nat.sub_zero] at h1
  refine aL (s:=true) (ak (decide_eq_false (by omega)) (ar h1 (fM ?_))) (ap rfl rfl)
  rw [cq,decide_eq_false]
  ·rfl
  ·intro e
   have:=congrArg ao e
   rw [aK (eT hb _),hw,hz] at this
   have h2:=List.take_append_drop w.length l
   rw [this] at h2
   exact h ⟨_,h2⟩
theorem pn {c line rest:List Int} {a:Nat} (hl:c.length≤10000) (ha:a≤c.length) (h:c.drop a=line++13::10::rest) (h13:∀ x∈line,x≠13) :
  ck c (a:Int)=some ((a+line.length:Nat):Int)∧eO c (a:Int) ((a+line.length:Nat):Int)=some line∧a+line.length+2+rest.length=c.length∧c.drop (a+line.length+2)=rest:=by
 have he:=xH c (by omega) ha
 rw [h,kW h13] at he
 have hlen:=congrArg List.length h
 rw [List.length_drop,List.length_append,List.length_cons,List.length_cons] at hlen
 have hs:=dB c (a:=a) (b:=a+line.length) (by omega) (by omega)
 rw [h,Nat.add_sub_cancel_left,List.take_left] at hs
 refine ⟨he,hs,by omega,?_⟩
 rw [Nat.add_assoc,← List.drop_drop,h,← List.drop_drop,List.drop_left]
 rfl
set_option maxRecDepth 100000
def EV (v38:List Int):(((List ae)×Int))→Option (((List ae)×Int)⊕(((List ae))⊕(az×Int))):=(fun ((s64,s65):(List ae)×Int) =>
 cond ((decide ((s64.length:Int)≤4)))
  ((cH v38 s65).bind fun v57 =>
  cond ((!v57.2.2))
   (some (.inr (.inl s64)))
   ((cr 120 s64 [(ae.mk (aj.mk v57.1.La.Le v57.1.La.Lc v57.1.La.KZ) v57.1.To v57.1.KY v57.1.Lh v57.1.Lb v57.1.At)]).bind fun v59 =>
   some (.inl (v59,v57.2.1))))
  (some (.inr (.inl s64))))
theorem sV {l:List Int} (hb:bM l) (hl:l.length≤100000):cK (aO l)=some (match su l with | some p=>(p,true) | none=>(nK,false)):=by
 have:=tL (aO l) (by rw [cX]; omega)
 rwa [aK hb] at this
theorem pr {c X:List Int} {a:Nat} (hc:bM c) (h:c.drop a=X):bM X:=h ▸ dr hc a
theorem tR {c X Y:List Int} {a:Nat} (h:c.drop a=X++Y):c.drop (a+X.length)=Y:=by
 rw [← List.drop_drop,h,List.drop_left]
theorem yY {c X:List Int} {a:Nat} (ha:a≤c.length) (h:c.drop a=X):a+X.length=c.length:=by
 have:=congrArg List.length h
 rw [List.length_drop] at this
 omega
theorem rP {x y:List Int} (h:bM (x++y)):bM x:=fun v hv=>h v (List.mem_append_left _ hv)
theorem tB {w:List Int} {p:aj} {X:List Int}:pL w p++X=(w++fw p)++13::10::X:=by simp [pL]
theorem Is {w:List Int} {p:aj} (hw:∀ x∈w,x≠13) (hp:eI p=true):∀ x∈w++fw p,x≠13:=fun x hx=>by
 rcases List.mem_append.1 hx with h | h
 ·exact hw x h
 ·exact FE hp x h
theorem FY {c:List Int} {v6:aj×Bool} {To:List aj} {more:List Int} {a:Nat} (hc:bM c) (hl:c.length≤10000) (ha:a≤c.length) (hp:∀ p∈To,eI p=true) (ht:To.length≤8) (hd:c.drop a=iN To++(fS++13::10::more)) :
  aT (HO c v6) bX ([],(a:Int))=some (.inl (To,((a+(iN To).length:Nat):Int),((a+(iN To).length+4:Nat):Int))):=by
 have split:∀ i,iN To=iN (To.take i)++iN (To.drop i):=fun i=>by rw [← ph,List.take_append_drop]
 have hdi:∀ i,c.drop (a+(iN (To.take i)).length)=iN (To.drop i)++(fS++13::10::more):=fun i=>tR (by rw [hd,split i,List.append_assoc])
 have hle:∀ i,a+(iN (To.take i)).length≤c.length:=fun i=>by
  have h1:=yY ha hd
  have h2:=congrArg List.length (split i)
  rw [List.length_append] at h1 h2
  omega
 refine bS (fun i=>(To.take i,((a+(iN (To.take i)).length:Nat):Int))) To.length bX (by simp [iN]) (by simp only [bX]; omega) (fun i hi => ?_) ?_
 ·have e:To.drop i=To[i]::To.drop (i+1):=List.drop_eq_getElem_cons hi
  have h1:=hdi i
  rw [e,show iN (To[i]::To.drop (i+1))=pL jx To[i]++iN (To.drop (i+1)) from rfl,List.append_assoc,tB] at h1
  have hpi:=hp _ (List.getElem_mem hi)
  obtain ⟨g1,g2,g3,g4⟩:=pn hl (hle i) h1 (Is Kq hpi)
  have hlb:bM (jx++fw To[i]):=rP (pr hc h1)
  have htl:(To.take i).length=i:=by simp; omega
  have hlen:(jx++fw To[i]).length≤10000:=by omega
  have hcut:=sU Fe hlb (by omega)
  have hpar:=sV (l:=fw To[i]) (gQ _) (by rw [List.length_append] at hlen; omega)
  rw [vl _ hpi] at hpar
  have en:a+(iN (To.take (i+1))).length=a+(iN (To.take i)).length+(jx++fw To[i]).length+2:=by
   have h2:=congrArg List.length (split i)
   have h3:=congrArg List.length (split (i+1))
   rw [e] at h2
   simp only [iN,pL,List.length_append,List.length_cons,List.length_nil] at h2 h3 ⊢
   omega
  have hw:some (IntKind.i64.wrap (((a+(iN (To.take i)).length+(jx++fw To[i]).length:Nat):Int)+2))=some ((a+(iN (To.take i)).length+(jx++fw To[i]).length+2:Nat):Int):=by rw [cN (by omega) (by omega)]; simp
  refine ar g1 (ak (decide_eq_false (by omega)) (ar g2 (ar rfl (ar hcut (ak rfl (ar (x:=(To[i],true)) hpar (aL (s:=false) (ak rfl (fM (decide_eq_false (by show ¬ (8:Int)≤((To.take i).length:Int); omega)))) (ak rfl (ar (cF (by simp only [htl,List.length_cons,List.length_nil]; omega) (by simp only [htl,List.length_cons,List.length_nil]; omega)) (ar hw ?_))))))))))
  rw [en,List.take_succ_eq_append_getElem hi]
 ·have h1:=hdi To.length
  rw [List.drop_length,List.take_length] at h1
  have h1:c.drop (a+(iN To).length)=fS++13::10::more:=h1
  have hle1:=hle To.length
  rw [List.take_length] at hle1
  obtain ⟨g1,g2,g3,g4⟩:=pn hl hle1 h1 Ic
  have hcut:=ut Fe Ds (by decide) (by decide)
  rw [List.take_length]
  exact ar g1 (ak (decide_eq_false (by omega)) (ar g2 (ar rfl (ar hcut (ap rfl rfl)))))
theorem CD {m:ae} (h:Pm m) {more:List Int} (hb:bM (eX m.KY++more)) (hl:(eX m.KY++more).length≤10000):de (eX m.KY++more)=some (m.KY,(((eX m.KY).length:Nat):Int),0):=by
 obtain ⟨ls,c1,c2,c3⟩:=h.bd
 have hbl:=h.bl
 have ht:dZ ls≤4096:=by rw [← cw,← c3]; exact hbl
 have hs:=mA c1 c2 (by omega:dZ ls<1000000000)
 rw [← c3] at hs
 have e:eX m.KY=jn (ls.map lQ++[[46]]):=by unfold eX; rw [hs]; rfl
 have hm:bM more:=fun x hx=>hb x (List.mem_append_right _ hx)
 have hlen:(eX m.KY).length=dZ (ls.map lQ)+3:=by rw [e,cw,jo]; rfl
 rw [List.length_append] at hl
 have hstr:=vV (ls:=ls.map lQ) (more:=more) (by
  intro l hl; obtain ⟨k,hk,rfl⟩:=List.mem_map.1 hl; exact yJ (c1 k hk)) (by
  intro l hl; obtain ⟨k,hk,rfl⟩:=List.mem_map.1 hl; exact rh (c2 k hk)) (by
  intro l hl; obtain ⟨k,hk,rfl⟩:=List.mem_map.1 hl; exact zM k) hm (by omega)
 rw [← e,zD,← c3] at hstr
 obtain ⟨d,m',g,q1,q2,_⟩:=wy (eX m.KY++more) hb (by rw [List.length_append]; omega)
 rw [hstr] at q1
 rw [q2,← q1,hlen]
theorem FV {m:ae} (h:Pm m) {c more:List Int} {a:Nat} (hc:bM c) (hl:c.length≤10000) (ha:a≤c.length) (hd:c.drop a=qy m++more):cH c (a:Int)=some (m,((a+(qy m).length:Nat):Int),true):=by
 have e1:qy m++more=pL iT m.La++(iN m.To++(fS++13::10::(eX m.KY++more))):=by simp [qy,fS]
 have h1:=hd
 rw [e1,tB] at h1
 obtain ⟨g1,g2,g3,g4⟩:=pn hl ha h1 (Is Ks h.pf)
 have hlb:bM (iT++fw m.La):=rP (pr hc h1)
 have hcut:=sU Ek hlb (by omega)
 have hpar:=sV (l:=fw m.La) (gQ _) (by rw [List.length_append] at g3; omega)
 rw [vl _ h.pf] at hpar
 generalize hA:a+(iT++fw m.La).length=A at *
 have hA2:A+2≤c.length:=by omega
 have hlp:=FY (v6:=(m.La,true)) hc hl hA2 h.pt h.tl g4
 have h2:c.drop (A+2+(iN m.To).length)=fS++13::10::(eX m.KY++more):=tR g4
 have hB:A+2+(iN m.To).length≤c.length:=by
  have:=yY hA2 g4
  rw [List.length_append] at this
  omega
 generalize hBe:A+2+(iN m.To).length=B at *
 obtain ⟨k1,k2,k3,k4⟩:=pn hl hB h2 Ic
 have hd4:fS.length=4:=rfl
 rw [hd4] at k1 k2 k3 k4
 have hsb:=pr hc k4
 have hsl:(eX m.KY++more).length≤10000:=by omega
 have hst:=CD h hsb hsl
 have hsli:=dB c (a:=B+4+2) (b:=c.length) (by omega) (Nat.le_refl _)
 rw [k4,show c.length-(B+4+2)=(eX m.KY++more).length by omega,List.take_length] at hsli
 have hcl:(qy m).length=(pL iT m.La).length+((iN m.To).length+(6+(eX m.KY).length)):=by simp only [qy,List.length_append,List.length_cons,List.length_nil]
 have hln:(pL iT m.La).length=(iT++fw m.La).length+2:=by simp only [pL,List.length_append,List.length_cons,List.length_nil]; omega
 have hw:some (IntKind.i64.wrap (((B+4:Nat):Int)+2))=some ((B+4+2:Nat):Int):=by rw [cN (by omega) (by omega)]; simp
 rw [List.length_append] at k3 hsl
 have hw3:some (IntKind.i64.wrap (((B+4+2:Nat):Int)+(((eX m.KY).length:Nat):Int)))=some ((a+(qy m).length:Nat):Int):=by
  rw [cN (by omega) (by omega)]
  congr 1
  omega
 unfold cH
 refine ar g1 (ak (decide_eq_false (by omega)) (ar g2 (ar rfl (ar hcut (ar (x:=(m.La,true)) hpar (aL (s:=false) (ak rfl rfl) (ak rfl (ar (x:=((A+2:Nat):Int)) (by rw [cN (by omega) (by omega)]; simp) (aL hlp (ar (k2) (ar rfl (ak ?_ (ar hw (ar hsli (ar hst (ak rfl (ar hw (ar hw3 ?_))))))))))))))))))
 ·rw [IX,aK Ds]; rfl
 ·show some (ae.mk m.La m.To m.KY false (⟨#[]⟩:Li) 0,((a+(qy m).length:Nat):Int),true)=_
  rw [FD h]
theorem HI {c line rest:List Int} {a:Nat} (hc:bM c) (hl:c.length≤10000) (ha:a≤c.length) (hd:c.drop a=line++13::10::rest) (h13:∀ x∈line,x≠13) (hno:¬ iT <+: line):∃ mm,cH c (a:Int)=some (mm,0,false):=by
 obtain ⟨g1,g2,g3,g4⟩:=pn hl ha hd h13
 have hlb:bM line:=rP (pr hc hd)
 have hcut:=ut Ek hlb (by omega) hno
 have hpar:=tL (⟨#[]⟩:Li) (by decide)
 unfold cH
 exact ⟨_,ar g1 (ak (decide_eq_false (by omega)) (ar g2 (ar rfl (ar hcut (ar hpar (aL (s:=true) (ap rfl rfl) (ap rfl rfl)))))))⟩
theorem uG {word:Li} {w l:List Int} (hw:ao word=w) (hb:bM l) (hl:l.length≤100000):∃ r ok,bZ (aO l) word=some (aO r,ok)∧bM r∧r.length≤l.length:=by
 by_cases h:w <+: l
 ·obtain ⟨r,rfl⟩:=h
  exact ⟨r,true,sU hw hb hl,fun x hx=>hb x (List.mem_append_right _ hx),by simp⟩
 ·exact ⟨[],false,ut hw hb hl h,dx,Nat.zero_le _⟩
theorem vp {l:List Int} (hb:bM l) (hl:l.length≤100000):∃ p ok,cK (aO l)=some (p,ok)∧(ok=true→eI p=true):=by
 have h:=sV hb hl
 cases hp:su l with
 | none=>rw [hp] at h; exact ⟨_,_,h,fun e=>by cases e⟩
 | some p=>rw [hp] at h; exact ⟨_,_,h,fun _=>(ze hb hp).2⟩
theorem uO {c:List Int} {a:Nat} (hl:c.length≤10000) (ha:a≤c.length):ck c (a:Int)=some (-1)∨∃ e:Nat,ck c (a:Int)=some ((e:Nat):Int)∧a≤e∧e+2≤c.length∧eO c (a:Int) (e:Int)=some ((c.drop a).take (e-a)):=by
 have h:=xH c (by omega) ha
 cases hi:gH (c.drop a) with
 | none=>rw [hi] at h; exact .inl h
 | some e =>
  rw [hi] at h
  obtain ⟨h1,h2⟩:=fU hi
  rw [List.length_drop] at h1
  exact .inr ⟨a+e,h,by omega,by omega,dB c (by omega) (by omega)⟩
theorem FS {c:List Int} {v6:aj×Bool} (hc:bM c) (hl:c.length≤10000):∀ (k:Nat) (acc:List aj) (a fuel:Nat),8-acc.length=k→acc.length≤8→k<fuel→(∀ p∈acc,eI p=true)→a≤c.length →
  (∃ mm,aT (HO c v6) fuel (acc,(a:Int))=some (.inr (mm,0,false)))∨∃ (To:List aj) (b e:Nat),aT (HO c v6) fuel (acc,(a:Int))=some (.inl (To,(b:Int),(e:Int)))∧To.length≤8∧(∀ p∈To,eI p=true)∧b≤e∧e+2≤c.length:=by
 intro k
 induction k with
 | zero =>
  intro acc a fuel hk ha hf hp hac
  obtain ⟨f,rfl⟩:∃ f,fuel=f+1:=⟨fuel-1,by omega⟩
  rcases uO hl hac with h1 | ⟨e,h1,h2,h3,h4⟩
  ·exact .inl ⟨_,aV (ar h1 (ap rfl rfl))⟩
  have hlb:bM ((c.drop a).take (e-a)):=eT (dr hc _) _
  have hll:((c.drop a).take (e-a)).length≤10000:=by rw [List.length_take,List.length_drop]; omega
  obtain ⟨r,ok,q1,q2,q3⟩:=uG (word:=(⟨#[82,67,80,84,32,84,79,58]⟩:Li)) rfl hlb (by omega)
  have hne:(decide ((e:Int)<0))=false:=decide_eq_false (by omega)
  cases ok
  ·exact .inr ⟨acc,a,e,aV (ar h1 (ak hne (ar h4 (ar rfl (ar q1 (ap rfl rfl)))))),ha,hp,h2,h3⟩
  obtain ⟨p,ok,w1,w2⟩:=vp q2 (by omega)
  cases ok
  ·exact .inl ⟨_,aV (ar h1 (ak hne (ar h4 (ar rfl (ar q1 (ak rfl (ar w1 (aL (s:=true) (ap rfl rfl) (ap rfl rfl)))))))))⟩
  ·exact .inl ⟨_,aV (ar h1 (ak hne (ar h4 (ar rfl (ar q1 (ak rfl (ar w1 (aL (s:=true) (ak rfl (fM (decide_eq_true (by omega)))) (ap rfl rfl)))))))))⟩
 | succ k ih =>
  intro acc a fuel hk ha hf hp hac
  obtain ⟨f,rfl⟩:∃ f,fuel=f+1:=⟨fuel-1,by omega⟩
  rcases uO hl hac with h1 | ⟨e,h1,h2,h3,h4⟩
  ·exact .inl ⟨_,aV (ar h1 (ap rfl rfl))⟩
  have hlb:bM ((c.drop a).take (e-a)):=eT (dr hc _) _
  have hll:((c.drop a).take (e-a)).length≤10000:=by rw [List.length_take,List.length_drop]; omega
  obtain ⟨r,ok,q1,q2,q3⟩:=uG (word:=(⟨#[82,67,80,84,32,84,79,58]⟩:Li)) rfl hlb (by omega)
  have hne:(decide ((e:Int)<0))=false:=decide_eq_false (by omega)
  cases ok
  ·exact .inr ⟨acc,a,e,aV (ar h1 (ak hne (ar h4 (ar rfl (ar q1 (ap rfl rfl)))))),ha,hp,h2,h3⟩
  obtain ⟨p,ok,w1,w2⟩:=vp q2 (by omega)
  cases ok
  ·exact .inl ⟨_,aV (ar h1 (ak hne (ar h4 (ar rfl (ar q1 (ak rfl (ar w1 (aL (s:=true) (ap rfl rfl) (ap rfl rfl)))))))))⟩
  have hw:some (IntKind.i64.wrap ((e:Int)+2))=some ((e+2:Nat):Int):=by rw [cN (by omega) (by omega)]; simp
  have hstep:aT (HO c v6) (f+1) (acc,(a:Int))=aT (HO c v6) f (acc++[p],((e+2:Nat):Int)) :=
   bC (ar h1 (ak hne (ar h4 (ar rfl (ar q1 (ak rfl (ar w1 (aL (s:=false) (ak rfl (fM (decide_eq_false (by omega)))) (ak rfl (ar (cF (by simp only [List.length_cons,List.length_nil]; omega) (by simp only [List.length_cons,List.length_nil]; omega)) (ar hw rfl)))))))))))
  rw [hstep]
  exact ih (acc++[p]) (e+2) f (by simp; omega) (by simp; omega) (by omega) (fun q hq=>by
   rcases List.mem_append.1 hq with hq | hq
   ·exact hp q hq
   ·rw [List.mem_singleton.1 hq]; exact w2 rfl) h3
theorem GZ {c:List Int} {a:Nat} (hc:bM c) (hl:c.length≤10000) (ha:a≤c.length):∃ (m:ae) (n:Nat) (ok:Bool),cH c (a:Int)=some (m,(n:Int),ok)∧n≤c.length∧(ok=true→LM m∧bM m.KY):=by
 unfold cH
 rcases uO hl ha with h1 | ⟨e,h1,h2,h3,h4⟩
 ·exact ⟨_,0,false,ar h1 (ap rfl rfl),Nat.zero_le _,fun h=>by cases h⟩
 have hlb:bM ((c.drop a).take (e-a)):=eT (dr hc _) _
 have hll:((c.drop a).take (e-a)).length≤10000:=by rw [List.length_take,List.length_drop]; omega
 obtain ⟨r,ok,q1,q2,q3⟩:=uG (word:=(⟨#[77,65,73,76,32,70,82,79,77,58]⟩:Li)) rfl hlb (by omega)
 have hne:(decide ((e:Int)<0))=false:=decide_eq_false (by omega)
 obtain ⟨p,ok2,w1,w2⟩:=vp q2 (by omega)
 cases ok
 ·exact ⟨_,0,false,ar h1 (ak hne (ar h4 (ar rfl (ar q1 (ar w1 (aL (s:=true) (ap rfl rfl) (ap rfl rfl))))))),Nat.zero_le _,fun h=>by cases h⟩
 cases ok2
 ·exact ⟨_,0,false,ar h1 (ak hne (ar h4 (ar rfl (ar q1 (ar w1 (aL (s:=true) (ak rfl rfl) (ap rfl rfl))))))),Nat.zero_le _,fun h=>by cases h⟩
 have hw:some (IntKind.i64.wrap ((e:Int)+2))=some ((e+2:Nat):Int):=by rw [cN (by omega) (by omega)]; simp
 rcases FS (v6:=(p,true)) hc hl 8 [] (e+2) bX rfl (by decide) (by simp only [bX]; omega) (fun _ h=>by cases h) h3 with ⟨mm,hlp⟩ | ⟨To,b,e2,hlp,g1,g2,g3,g4⟩
 ·exact ⟨mm,0,false,ar h1 (ak hne (ar h4 (ar rfl (ar q1 (ar w1 (aL (s:=false) (ak rfl rfl) (ak rfl (ar hw (jW hlp rfl))))))))),Nat.zero_le _,fun h=>by cases h⟩
 have hs:=dB c (a:=b) (b:=e2) g3 (by omega)
 have hw2:some (IntKind.i64.wrap ((e2:Int)+2))=some ((e2+2:Nat):Int):=by rw [cN (by omega) (by omega)]; simp
 cases hdt:(!((aO ((c.drop b).take (e2-b))).toList==(⟨#[68,65,84,65]⟩:Li).toList))
 case true=>exact ⟨_,0,false,ar h1 (ak hne (ar h4 (ar rfl (ar q1 (ar w1 (aL (s:=false) (ak rfl rfl) (ak rfl (ar hw (aL hlp (ar hs (ar rfl (ap hdt rfl)))))))))))),Nat.zero_le _,fun h=>by cases h⟩
 have hs2:=dB c (a:=e2+2) (b:=c.length) (by omega) (Nat.le_refl _)
 have htk:(c.drop (e2+2)).take (c.length-(e2+2))=c.drop (e2+2):=by rw [← List.length_drop,List.take_length]
 rw [htk] at hs2
 have hxb:bM (c.drop (e2+2)):=dr hc _
 have hxl:(c.drop (e2+2)).length=c.length-(e2+2):=List.length_drop
 obtain ⟨body,er,n,s1,s2,s3,s4⟩:=tu hxb (by omega)
 obtain ⟨d,m',g,t1,t2,_⟩:=wy (c.drop (e2+2)) hxb (by omega)
 rw [s1] at t1
 cases t1
 by_cases her:er=0
 case neg=>exact ⟨_,0,false,ar h1 (ak hne (ar h4 (ar rfl (ar q1 (ar w1 (aL (s:=false) (ak rfl rfl) (ak rfl (ar hw (aL hlp (ar hs (ar rfl (ak hdt (ar hw2 (ar hs2 (ar t2 (ap (bne_iff_ne.2 her) rfl)))))))))))))))),Nat.zero_le _,fun h=>by cases h⟩
 subst her
 have hw3:some (IntKind.i64.wrap (((e2+2:Nat):Int)+(n:Int)))=some ((e2+2+n:Nat):Int):=by rw [cN (by omega) (by omega)]; simp
 refine ⟨ae.mk p To body false (⟨#[]⟩:Li) 0,e2+2+n,true,ar h1 (ak hne (ar h4 (ar rfl (ar q1 (ar w1 (aL (s:=false) (ak rfl rfl) (ak rfl (ar hw (aL hlp (ar hs (ar rfl (ak hdt (ar hw2 (ar hs2 (ar t2 (ak rfl (ar hw2 (ar hw3 rfl)))))))))))))))))),by omega,fun _=>⟨⟨by show To.length≤40; omega,?_⟩,s3⟩⟩
 have w1:=(vC (w2 rfl)).1
 have w2:=po 319 To fun p hp=>(vC (g2 p hp)).1
 have w3:To.length * 319≤8 * 319:=Nat.mul_le_mul_right _ g1
 simp only [pW] at w1
 show body.length+(⟨#[]⟩:Li).size+p.Lc.size+p.KZ.size+lG To≤20000
 have:(⟨#[]⟩:Li).size=0:=rfl
 omega
theorem EJ {l:List ae} (hp:∀ m∈l,Pm m) (hc:bM (eP l)) (hl:l.length≤4) (hcl:(eP l).length≤10000):aT (EV (eP l)) bX ([],0)=some (.inl l):=by
 have split:∀ i,dw l=dw (l.take i)++dw (l.drop i):=fun i=>by rw [← ln,List.take_append_drop]
 have hdi:∀ i,(eP l).drop ((dw (l.take i)).length)=dw (l.drop i)++iw:=fun i=>by
  have:eP l=dw (l.take i)++(dw (l.drop i)++iw):=by rw [← List.append_assoc,← split]; rfl
  rw [this,List.drop_left]
 have hle:∀ i,(dw (l.take i)).length≤(eP l).length:=fun i=>by
  have h2:=congrArg List.length (split i)
  have h3:(eP l).length=(dw l).length+iw.length:=List.length_append
  rw [List.length_append] at h2
  omega
 refine bS (fun i=>(l.take i,(((dw (l.take i)).length:Nat):Int))) l.length bX (by simp [dw]) (by simp only [bX]; omega) (fun i hi => ?_) ?_
 ·have e:l.drop i=l[i]::l.drop (i+1):=List.drop_eq_getElem_cons hi
  have h1:=hdi i
  rw [e,show dw (l[i]::l.drop (i+1))=qy l[i]++dw (l.drop (i+1)) from rfl,List.append_assoc] at h1
  have hm:=FV (hp _ (List.getElem_mem hi)) hc hcl (hle i) h1
  have htl:(l.take i).length=i:=by simp; omega
  have en:(dw (l.take (i+1))).length=(dw (l.take i)).length+(qy l[i]).length:=by
   rw [List.take_succ_eq_append_getElem hi,ln,List.length_append]
   simp [dw]
  refine ap (decide_eq_true (by show ((l.take i).length:Int)≤4; omega)) (ar hm (ak rfl (ar (cF (by simp only [htl,List.length_cons,List.length_nil]; omega) (by simp only [htl,List.length_cons,List.length_nil]; omega)) ?_)))
  rw [en,List.take_succ_eq_append_getElem hi]
 ·have h1:=hdi l.length
  rw [List.drop_length,List.take_length] at h1
  have h1:(eP l).drop (dw l).length=[81,85,73,84]++13::10::[]:=h1
  have hle1:=hle l.length
  rw [List.take_length] at hle1
  obtain ⟨mm,hno⟩:=HI hc hcl hle1 h1 GC (by decide)
  rw [List.take_length]
  exact ap (decide_eq_true (by omega)) (ar hno (ap rfl rfl))
theorem CE {c:List Int} (hc:bM c) (hl:c.length≤10000):∀ (k:Nat) (acc:List ae) (a fuel:Nat),5-acc.length=k→acc.length≤5→k<fuel→(∀ m∈acc,LM m∧bM m.KY)→a≤c.length →
  ∃ l,aT (EV c) fuel (acc,(a:Int))=some (.inl l)∧l.length≤5∧∀ m∈l,LM m∧bM m.KY
 | 0,acc,a,fuel,hk,ha,hf,hp,hac=>by
  obtain ⟨f,rfl⟩:∃ f,fuel=f+1:=⟨fuel-1,by omega⟩
  exact ⟨acc,aV (ak (decide_eq_false (by omega)) rfl),ha,hp⟩
 | k+1,acc,a,fuel,hk,ha,hf,hp,hac=>by
  obtain ⟨f,rfl⟩:∃ f,fuel=f+1:=⟨fuel-1,by omega⟩
  obtain ⟨m,n,ok,h1,h2,h3⟩:=GZ hc hl hac
  cases ok
  ·exact ⟨acc,aV (ap (decide_eq_true (by omega)) (ar h1 (ap rfl rfl))),ha,hp⟩
  ·obtain ⟨l,g1,g2,g3⟩:=CE hc hl k (acc++[m]) n f (by simp; omega) (by simp; omega) (by omega) (by
    intro q hq
    rcases List.mem_append.1 hq with hq | hq
    ·exact hp q hq
    ·rw [List.mem_singleton.1 hq]; exact h3 rfl) h2
   exact ⟨l,(bC (ap (decide_eq_true (by omega)) (ar h1 (ak rfl (ar (cF (by simp only [List.length_cons,List.length_nil]; omega) (by simp only [List.length_cons,List.length_nil]; omega)) rfl))))).trans g1,g2,g3⟩
theorem DQ {c:List Int} (hc:bM c) (hl:c.length≤10000):∃ l,aT (EV c) bX ([],0)=some (.inl l)∧l.length≤5∧∀ m∈l,LM m∧bM m.KY:=CE hc hl 5 [] 0 bX rfl (by decide) (by simp only [bX]; omega) (fun _ h=>by cases h) (Nat.zero_le _)
set_option maxRecDepth 100000
def IE (v5:List Li):(((List Int)×Int))→Option (((List Int)×Int)⊕(((List Int))⊕(az×Int))):=(fun ((s24,s25):(List Int)×Int) =>
 cond ((decide (s25<6)))
  ((cl s25 v5.length).bind fun v14 =>
  (aQ v5 v14).bind fun v15 =>
  (dT v15 10).bind fun v16 =>
  cond ((decide (v16<0)))
   (some (.inr (.inr (((az.mk 0 0 []),5)))))
   ((cr 8 s24 [v16]).bind fun v18 =>
   (some (IntKind.i64.wrap (s25+1))).bind fun v19 =>
   some (.inl (v18,v19))))
  (some (.inr (.inl s24))))
theorem Ih (w:List Int):0≤vI w:=by unfold vI; omega
theorem sB {v5:List Li} {i:Nat} {x acc:List Int} (h6:v5.length=6) (hi:i<6) (hg:aQ v5 i=some (aO x)) (hb:bM x) (hn:du x=true) (ha:acc.length≤10):IE v5 (acc,(i:Int))=some (.inl (acc++[vI x],((i+1:Nat):Int))):=by
 have hnum:=rH hb
 rw [if_pos hn] at hnum
 have:=Ih x
 exact ap (decide_eq_true (by omega)) (ar (bk (by omega)) (ar hg (ar hnum (ak (decide_eq_false (by omega)) (ar (cF (by simp only [List.length_cons,List.length_nil]; omega) (by simp only [List.length_cons,List.length_nil]; omega)) (ar (congrArg some (aZ (n:=i) (by omega))) rfl))))))
theorem wU {v5:List Li} {i:Nat} {x acc:List Int} (h6:v5.length=6) (hi:i<6) (hg:aQ v5 i=some (aO x)) (hb:bM x) (hn:du x=false):IE v5 (acc,(i:Int))=some (.inr (.inr (az.mk 0 0 [],5))):=by
 have hnum:=rH hb
 rw [if_neg (by rw [hn]; decide)] at hnum
 exact ap (decide_eq_true (by omega)) (ar (bk (by omega)) (ar hg (ar hnum (ap (by decide) rfl))))
theorem Gk {v5:List Li} {acc:List Int}:IE v5 (acc,((5+1:Nat):Int))=some (.inr (.inl acc)):=rfl
theorem EY (w a b c d e:List Int) (ha:bM a) (hb:bM b) (hc:bM c) (hd:bM d) (he:bM e) :
  aT (IE [aO w,aO a,aO b,aO c,aO d,aO e]) bX ([],1)=if (du a&&(du b&&(du c&&(du d&&du e))))=true then some (.inl [vI a,vI b,vI c,vI d,vI e]) else some (.inr (az.mk 0 0 [],5)):=by
 obtain ⟨B,hB⟩:∃ B,bX=B+1+1+1+1+1+1:=⟨bX-6,by simp only [bX]⟩
 rw [hB]
 cases na:du a
 ·exact aV (wU (i:=1) rfl (by omega) rfl ha na)
 refine (bC (sB (i:=1) rfl (by omega) rfl ha na (by simp))).trans ?_
 cases nb:du b
 ·exact aV (wU (i:=2) rfl (by omega) rfl hb nb)
 refine (bC (sB (i:=2) rfl (by omega) rfl hb nb (by simp))).trans ?_
 cases nc:du c
 ·exact aV (wU (i:=3) rfl (by omega) rfl hc nc)
 refine (bC (sB (i:=3) rfl (by omega) rfl hc nc (by simp))).trans ?_
 cases nd:du d
 ·exact aV (wU (i:=4) rfl (by omega) rfl hd nd)
 refine (bC (sB (i:=4) rfl (by omega) rfl hd nd (by simp))).trans ?_
 cases ne:du e
 ·exact aV (wU (i:=5) rfl (by omega) rfl he ne)
 refine (bC (sB (i:=5) rfl (by omega) rfl he ne (by simp))).trans ?_
 exact aV Gk
def oY (t:List Int) (o n:Int) (ms:List ae):az×Int:=if bp (az.mk o n ms)=some (t,0) then (az.mk o n ms,0) else (az.mk 0 0 [],5)
theorem CW {t:List Int} {e:Nat} {h:aX} {ms:List ae} (ht:bM t) (hl:t.length≤5000) (hi:gH t=some e) (hh:pb (t.take e)=(h,true)) (hs:((t.drop (e+2)).length:Int)=h.size) (hv:((mg (t.drop (e+2)):Nat):Int)=h.sum)
  (hms:cm (t.drop (e+2))=some ms) (hml:ms.length≤5) (hmf:∀ m∈ms,LM m∧bM m.KY):bR t=some (oY t h.origin h.number ms):=by
 obtain ⟨h1,h2⟩:=fU hi
 have hcut:eH t [13,10]=some (t.take e,t.drop (e+2),true):=(wA _ _).trans (jq ht (by omega) hi)
 have hlb:bM (t.take e):=eT ht e
 have hcb:bM (t.drop (e+2)):=dr ht _
 have hph:=km hlb (by rw [List.length_take]; omega)
 rw [hh] at hph
 have hcl:(t.drop (e+2)).length≤5000:=by rw [List.length_drop]; omega
 have hsum:=rj hcb (by omega)
 have hs2:(((t.drop (e+2)).length:Int) != h.size)=false:=by rw [hs]; exact bne_self_eq_false _
 have hv2:(((mg (t.drop (e+2)):Nat):Int) != h.sum)=false:=by rw [hv]; exact bne_self_eq_false _
 unfold bR
 rcases oX (b:=az.mk h.origin h.number ms) hmf (by show ms.length≤20; omega) with ⟨x,hx,h52⟩ | ⟨_,ho,hn1,hn2,_,hl4,hvm,hw,hby⟩
 ·refine ar hcut (ar rfl (ar hph (aL (s:=false) (ak rfl (ak rfl (cG hs2))) (ak rfl (ar hsum (ak hv2 (ar hms (ar hx (aL (s:=true) (ap (bne_iff_ne.2 ?_) rfl) (ap rfl ?_))))))))))
  ·show x≠0
   omega
  ·unfold oY
   rw [if_neg]
   intro q
   rw [hx] at q
   have:=(Prod.mk.inj (Option.some.inj q)).2
   omega
 ·have hq:=GX (dW (az.mk h.origin h.number ms)) t
  obtain ⟨f1,f2,_⟩:=qx ho hn1 hn2 hl4 hvm hw
  have hwb:bM (dW (az.mk h.origin h.number ms)):=bP f1 (dj (by omega) (dj (by omega) f2))
  by_cases he:aO (dW (az.mk h.origin h.number ms))=aO t
  ·rw [decide_eq_true he] at hq
   have hwt:dW (az.mk h.origin h.number ms)=t:=by
    have:=congrArg ao he
    rwa [aK hwb,aK ht] at this
   refine ar hcut (ar rfl (ar hph (aL (s:=false) (ak rfl (ak rfl (cG hs2))) (ak rfl (ar hsum (ak hv2 (ar hms (ar hby (aL (s:=false) (ak rfl (ar hq rfl)) (ak rfl ?_))))))))))
   unfold oY
   rw [if_pos (by rw [hby,hwt])]
  ·rw [decide_eq_false he] at hq
   refine ar hcut (ar rfl (ar hph (aL (s:=false) (ak rfl (ak rfl (cG hs2))) (ak rfl (ar hsum (ak hv2 (ar hms (ar hby (aL (s:=true) (ak rfl (ar hq rfl)) (ap rfl ?_))))))))))
   unfold oY
   rw [if_neg]
   intro q
   rw [hby] at q
   exact he (congrArg aO (Prod.mk.inj (Option.some.inj q)).1)
theorem ug {t:List Int} {e:Nat} {o n:Int} {ms:List ae} (hi:gH t=some e) (hml:ms.length≤5) (hmf:∀ m∈ms,LM m∧bM m.KY) (hb:bp (az.mk o n ms)=some (t,0)) :
  t.drop (e+2)=eP ms∧(∀ m∈ms,Pm m)∧(∀ m∈ms,Vm m)∧ms.length≤4∧t.length≤4096:=by
 rcases oX (b:=az.mk o n ms) hmf (by show ms.length≤20; omega) with ⟨x,hx,h52⟩ | ⟨hck,ho,hn1,hn2,_,hl4,hvm,hw,hby⟩
 ·rw [hb] at hx
  have:=(Prod.mk.inj (Option.some.inj hx)).2
  omega
 rw [hb] at hby
 have ht:t=dW (az.mk o n ms):=(Prod.mk.inj (Option.some.inj hby)).1
 obtain ⟨f1,f2,f3,f4,f5,f6,f7⟩:=qx ho hn1 hn2 hl4 hvm hw
 have hwl:dW (az.mk o n ms)=(fR++fW (iS (az.mk o n ms)))++13::10::eP ms:=rfl
 rw [ht,hwl,kW f3] at hi
 have he:=Option.some.inj hi
 refine ⟨?_,Gn hmf (by show ms.length≤20; omega) hck,hvm,hl4,by rw [ht]; exact hw⟩
 rw [ht,hwl,← he,← List.drop_drop,List.drop_left]
 rfl
theorem He {t:List Int} {e:Nat} {o n:Int} {ms ns:List ae} (ht:bM t) (hl:t.length≤5000) (hi:gH t=some e) (hms:cm (t.drop (e+2))=some ms) (hns:aT (EV (t.drop (e+2))) bX ([],0)=some (.inl ns))
  (hml:ms.length≤5) (hmf:∀ m∈ms,LM m∧bM m.KY) (hnl:ns.length≤5) (hnf:∀ m∈ns,LM m∧bM m.KY):oY t o n ms=oY t o n ns:=by
 have hcb:bM (t.drop (e+2)):=dr ht _
 have hcl:(t.drop (e+2)).length≤5000:=by rw [List.length_drop]; omega
 by_cases h1:bp (az.mk o n ms)=some (t,0)
 ·obtain ⟨g1,g2,g3,g4,g5⟩:=ug hi hml hmf h1
  rw [g1] at hns hcb hcl
  rw [EJ g2 hcb g4 (by omega)] at hns
  cases hns
  rfl
 by_cases h2:bp (az.mk o n ns)=some (t,0)
 ·obtain ⟨g1,g2,g3,g4,g5⟩:=ug hi hnl hnf h2
  rw [g1] at hms hcl
  have hc6:(eP ns).length=(dw ns).length+6:=by simp [eP,iw]
  rw [Ga g2 (fun m hm=>zm (g3 m hm)) g4 (by omega)] at hms
  cases hms
  rfl
 unfold oY
 rw [if_neg h1,if_neg h2]
theorem Bm {t:List Int} {o n:Int} {ms:List ae} (hml:ms.length≤5) (hmf:∀ m∈ms,LM m∧bM m.KY):(oY t o n ms).1.Ld.length≤5∧∀ m∈(oY t o n ms).1.Ld,LM m∧bM m.KY:=by
 unfold oY
 split
 ·exact ⟨hml,hmf⟩
 ·exact ⟨Nat.zero_le _,fun m hm=>by cases hm⟩
def z5:az×Int:=(az.mk 0 0 [],5)
def z6:az×Int:=(az.mk 0 0 [],6)
theorem CC {t:List Int} (ht:bM t) (hl:t.length≤5000):∃ y,bR t=some y∧bE t=some y∧y.1.Ld.length≤5∧∀ m∈y.1.Ld,LM m∧bM m.KY:=by
 have n5:z5.1.Ld.length≤5∧∀ m∈z5.1.Ld,LM m∧bM m.KY:=⟨Nat.zero_le _,fun m hm=>by cases hm⟩
 have n6:z6.1.Ld.length≤5∧∀ m∈z6.1.Ld,LM m∧bM m.KY:=⟨Nat.zero_le _,fun m hm=>by cases hm⟩
 have hend:=xH t (by omega) (a:=0) (Nat.zero_le _)
 rw [List.drop_zero] at hend
 cases hi:gH t with
 | none =>
  rw [hi] at hend
  have hcut:eH t [13,10]=some (t,[],false):=(wA _ _).trans (sb ht (by omega) hi)
  refine ⟨z5,?_,?_,n5⟩
  ·unfold bR
   exact ar hcut (ar rfl (ar (km ht hl) (aL (s:=true) (ap rfl rfl) (ap rfl rfl))))
  ·unfold bE
   exact ar hend (ap (by decide) rfl)
 | some e =>
  rw [hi] at hend
  obtain ⟨h1,h2⟩:=fU hi
  have hcut:eH t [13,10]=some (t.take e,t.drop (e+2),true):=(wA _ _).trans (jq ht (by omega) hi)
  have hlb:bM (t.take e):=eT ht e
  have hcb:bM (t.drop (e+2)):=dr ht _
  have hll:(t.take e).length≤5000:=by rw [List.length_take]; omega
  have hph:=km hlb hll
  have hcl:(t.drop (e+2)).length≤5000:=by rw [List.length_drop]; omega
  have hsum:=rj hcb (by omega)
  have hrl:=wL hcb (by omega)
  have hwds:=Co hlb hll
  have hs0:=dB t (a:=0) (b:=e) (Nat.zero_le _) (by omega)
  rw [List.drop_zero,Nat.sub_zero] at hs0
  have hend:ck t ((0:Nat):Int)=some ((e:Nat):Int):=by rw [hend]; simp
  have hne:(decide ((e:Int)<0))=false:=decide_eq_false (by omega)
  have hw2:some (IntKind.i64.wrap ((e:Int)+2))=some ((e+2:Nat):Int):=by rw [cN (by omega) (by omega)]; simp
  have hs2:=dB t (a:=e+2) (b:=t.length) (by omega) (Nat.le_refl _)
  rw [← List.length_drop,List.take_length] at hs2
  have hwb:=uV hlb
  unfold pb at hph
  by_cases h6:(fa 32 (t.take e)).length=6
  case neg =>
   rw [zw h6] at hph
   refine ⟨z5,?_,?_,n5⟩
   ·unfold bR
    exact ar hcut (ar rfl (ar hph (aL (s:=true) (ak rfl (ap rfl rfl)) (ap rfl rfl))))
   ·unfold bE
    refine ar hend (ak hne (ar hs0 (ar rfl (ar hwds (aL (s:=true) (ap (bne_iff_ne.2 ?_) rfl) (ap rfl rfl))))))
    rw [List.length_map]
    omega
  obtain ⟨w,a,b,c,d,f,hsp⟩:=Kw h6
  have hhdr:pb (t.take e)=sE [w,a,b,c,d,f]:=by unfold pb; rw [hsp]
  rw [hsp] at hph hwds hwb
  have bw:=hwb w (by simp)
  have ba:=hwb a (by simp)
  have bb:=hwb b (by simp)
  have bc:=hwb c (by simp)
  have bd:=hwb d (by simp)
  have bf:=hwb f (by simp)
  have hwds:eu (aO (t.take e))=some [aO w,aO a,aO b,aO c,aO d,aO f]:=hwds
  have hfirst:∀ {A:Type},(cond ((([aO w,aO a,aO b,aO c,aO d,aO f].length:Int) != 6)) (some (.inl true)) ((cl 0 [aO w,aO a,aO b,aO c,aO d,aO f].length).bind fun v6=>(aQ [aO w,aO a,aO b,aO c,aO d,aO f] v6).bind fun v7=>some (.inl ((!(v7.toList==(⟨#[66,85,78,68,76,69]⟩:Li).toList))))):Option (Bool⊕A))=some (.inl (!decide (w=fR))):=by
   intro A
   refine ak rfl (ar (x:=0) rfl (ar (x:=aO w) rfl (fM ?_)))
   rw [IX,aK bw]
   rfl
  by_cases hw:w=fR
  case neg =>
   have hz:sE [w,a,b,c,d,f]=(zH,false):=GM hw
   rw [hz] at hph
   refine ⟨z5,?_,?_,n5⟩
   ·unfold bR
    exact ar hcut (ar rfl (ar hph (aL (s:=true) (ak rfl (ap rfl rfl)) (ap rfl rfl))))
   ·unfold bE
    exact ar hend (ak hne (ar hs0 (ar rfl (ar hwds (aL (s:=true) (hfirst.trans (fM (by rw [decide_eq_false hw]; rfl))) (ap rfl rfl))))))
  have hfirst2:∀ {A:Type},(cond ((([aO w,aO a,aO b,aO c,aO d,aO f].length:Int) != 6)) (some (.inl true)) ((cl 0 [aO w,aO a,aO b,aO c,aO d,aO f].length).bind fun v6=>(aQ [aO w,aO a,aO b,aO c,aO d,aO f] v6).bind fun v7=>some (.inl ((!(v7.toList==(⟨#[66,85,78,68,76,69]⟩:Li).toList))))):Option (Bool⊕A))=some (.inl false):=hfirst.trans (fM (by rw [decide_eq_true hw]; rfl))
  have hloop:=EY w a b c d f ba bb bc bd bf
  have hev:sE [w,a,b,c,d,f]=if (du a&&(du b&&(du c&&(du d&&du f))))=true then (⟨vI a,vI b,vI d,vI f⟩,decide (vI a≤1)) else (zH,false):=by
   show (if w=fR then (if (du a&&(du b&&(du c&&(du d&&du f))))=true then ((⟨vI a,vI b,vI d,vI f⟩,decide (vI a≤1)):aX×Bool) else (zH,false)) else (zH,false))=_
   rw [if_pos hw]
  by_cases hn:(du a&&(du b&&(du c&&(du d&&du f))))=true
  case neg =>
   rw [if_neg hn] at hloop hev
   rw [hev] at hph
   refine ⟨z5,?_,?_,n5⟩
   ·unfold bR
    exact ar hcut (ar rfl (ar hph (aL (s:=true) (ak rfl (ap rfl rfl)) (ap rfl rfl))))
   ·unfold bE
    exact ar hend (ak hne (ar hs0 (ar rfl (ar hwds (aL (s:=false) hfirst2 (ak rfl (jW hloop rfl)))))))
  rw [if_pos hn] at hloop hev
  rw [hev] at hph hhdr
  by_cases ho:vI a≤1
  case neg =>
   rw [decide_eq_false ho] at hph
   refine ⟨z5,?_,?_,n5⟩
   ·unfold bR
    exact ar hcut (ar rfl (ar hph (aL (s:=true) (ak rfl (ap rfl rfl)) (ap rfl rfl))))
   ·unfold bE
    exact ar hend (ak hne (ar hs0 (ar rfl (ar hwds (aL (s:=false) hfirst2 (ak rfl (aL hloop (ar hw2 (ar hs2 (aL (s:=true) (ar (x:=0) rfl (ar (x:=vI a) rfl (ap (decide_eq_true (by omega)) rfl))) (ap rfl rfl)))))))))))
  rw [decide_eq_true ho] at hph hhdr
  have hno:(decide (1<vI a))=false:=decide_eq_false (by omega)
  by_cases hs:((t.drop (e+2)).length:Int)=vI d
  case neg =>
   refine ⟨z5,?_,?_,n5⟩
   ·unfold bR
    exact ar hcut (ar rfl (ar hph (aL (s:=true) (ak rfl (ak rfl (cG (bne_iff_ne.2 hs)))) (ap rfl rfl))))
   ·unfold bE
    exact ar hend (ak hne (ar hs0 (ar rfl (ar hwds (aL (s:=false) hfirst2 (ak rfl (aL hloop (ar hw2 (ar hs2 (aL (s:=true) (ar (x:=0) rfl (ar (x:=vI a) rfl (ak hno (ar (x:=3) rfl (ar (x:=vI d) rfl (fM (bne_iff_ne.2 fun q=>hs q.symm))))))) (ap rfl rfl)))))))))))
  have hs2':(vI d != ((t.drop (e+2)).length:Int))=false:=by rw [hs]; exact bne_self_eq_false _
  have hsB:(((t.drop (e+2)).length:Int) != vI d)=false:=by rw [hs]; exact bne_self_eq_false _
  have h43:∀ {A:Type},((cl 0 [vI a,vI b,vI c,vI d,vI f].length).bind fun v39=>(aQ [vI a,vI b,vI c,vI d,vI f] v39).bind fun v40=>cond ((decide (1<v40))) (some (.inl true)) ((cl 3 [vI a,vI b,vI c,vI d,vI f].length).bind fun v41=>(aQ [vI a,vI b,vI c,vI d,vI f] v41).bind fun v42=>some (.inl ((v42 != ((t.drop (e+2)).length:Int))))):Option (Bool⊕A))=some (.inl false):=fun {A}=>ar (x:=0) rfl (ar (x:=vI a) rfl (ak hno (ar (x:=3) rfl (ar (x:=vI d) rfl (fM hs2')))))
  by_cases hv:((mg (t.drop (e+2)):Nat):Int)=vI f
  case neg =>
   refine ⟨z6,?_,?_,n6⟩
   ·unfold bR
    exact ar hcut (ar rfl (ar hph (aL (s:=false) (ak rfl (ak rfl (cG hsB))) (ak rfl (ar hsum (ap (bne_iff_ne.2 hv) rfl))))))
   ·unfold bE
    exact ar hend (ak hne (ar hs0 (ar rfl (ar hwds (aL (s:=false) hfirst2 (ak rfl (aL hloop (ar hw2 (ar hs2 (aL (s:=false) h43 (ak rfl (ar (x:=4) rfl (ar (x:=vI f) rfl (ar hrl (ap (bne_iff_ne.2 fun q=>hv q.symm) rfl)))))))))))))))
  obtain ⟨ms,hms,hml,hmf⟩:=GH hcb (by omega)
  obtain ⟨ns,hns,hnl,hnf⟩:=DQ hcb (by omega)
  have hp:=CW ht hl hi hhdr hs hv hms hml hmf
  have hfe:=He (o:=vI a) (n:=vI b) ht hl hi hms hns hml hmf hnl hnf
  refine ⟨oY t (vI a) (vI b) ms,hp,?_,Bm hml hmf⟩
  rw [hfe]
  have hv2:(vI f != ((mg (t.drop (e+2)):Nat):Int))=false:=by rw [hv]; exact bne_self_eq_false _
  have hrb:=Dj (b:=az.mk (vI a) (vI b) ns) hnf (by show ns.length≤20; omega)
  unfold bE
  refine ar hend (ak hne (ar hs0 (ar rfl (ar hwds (aL (s:=false) hfirst2 (ak rfl (aL hloop (ar hw2 (ar hs2 (aL (s:=false) h43 (ak rfl (ar (x:=4) rfl (ar (x:=vI f) rfl (ar hrl (ak hv2 (ar (x:=0) rfl (ar (x:=vI a) rfl (ar (x:=1) rfl (ar (x:=vI b) rfl (aL hns ?_))))))))))))))))))))
  rcases oX (b:=az.mk (vI a) (vI b) ns) hnf (by show ns.length≤20; omega) with ⟨x,hx,h52⟩ | ⟨_,_,_,_,_,_,_,hw4,hby⟩
  ·refine ar (hrb.trans hx) (aL (s:=true) (ap (bne_iff_ne.2 (by show x≠0; omega)) rfl) (ap rfl ?_))
   unfold oY
   rw [if_neg]
   intro q
   rw [hx] at q
   have:=(Prod.mk.inj (Option.some.inj q)).2
   omega
  ·have hk:=fh (dW (az.mk (vI a) (vI b) ns)) t (by omega)
   by_cases hq:dW (az.mk (vI a) (vI b) ns)=t
   ·rw [decide_eq_true hq] at hk
    refine ar (hrb.trans hby) (aL (s:=false) (ak rfl (ar hk rfl)) (ak rfl ?_))
    unfold oY
    rw [if_pos (by rw [hby,hq])]
   ·rw [decide_eq_false hq] at hk
    refine ar (hrb.trans hby) (aL (s:=true) (ak rfl (ar hk rfl)) (ap rfl ?_))
    unfold oY
    rw [if_neg]
    intro q
    rw [hby] at q
    exact hq (Prod.mk.inj (Option.some.inj q)).1
set_option maxRecDepth 100000
def KE (v2:List ae):(((List ae)×Int))→Option (((List ae)×Int)⊕(((List ae))⊕(Int×Int))):=(fun ((s11,s12):(List ae)×Int) =>
 cond ((decide (s12<(v2.length:Int))))
  ((cl s12 v2.length).bind fun v4 =>
  (aQ v2 v4).bind fun v5 =>
  (cr 120 s11 ([(ae.mk (aj.mk v5.La.Le v5.La.Lc v5.La.KZ) v5.To v5.KY false (⟨#[]⟩:Li) 0)])).bind fun v6 =>
  (some (IntKind.i64.wrap (s12+1))).bind fun v7 =>
  some (.inl (v6,v7)))
  (some (.inr (.inl s11))))
def Ja (origin number:Int):(((List ae)×Int))→Option (((List ae)×Int)⊕((Unit)⊕(Int×Int))):=(fun ((s31,s32):(List ae)×Int) =>
 cond ((decide (0<s32)))
  ((eO s31 0 s32).bind fun v23 =>
  (bp (az.mk origin number v23)).bind fun v24 =>
  cond ((v24.2==0))
   (some (.inr (.inr ((s32,0)))))
   ((some (IntKind.i64.wrap (s32-1))).bind fun v26 =>
   some (.inl (s31,v26))))
  (some (.inr (.inl ()))))
def iH (m:ae):ae:=ae.mk (aj.mk m.La.Le m.La.Lc m.La.KZ) m.To m.KY false (⟨#[]⟩:Li) 0
theorem Gq {m:ae} (h:LM m):LM (iH m):=by
 obtain ⟨h1,h2⟩:=h
 simp only [mW] at h2
 refine ⟨h1,?_⟩
 show m.KY.length+(⟨#[]⟩:Li).size+m.La.Lc.size+m.La.KZ.size+lG m.To≤20000
 have:(⟨#[]⟩:Li).size=0:=rfl
 omega
theorem Bp {m:ae} (h:LM m):dC m=some (iH m):=by
 obtain ⟨h1,h2⟩:=h
 simp only [mW] at h2
 unfold dC
 refine ar (x:=m.To) ?_ (ar (yr _ (by omega)) rfl)
 unfold dq
 exact ar (cF (by simp only [List.length_nil]; omega) (by simp only [List.length_nil]; omega)) rfl
theorem EA {v:List ae} (hl:v.length≤4):aT (KE v) bX ([],0)=some (.inl (v.map iH)):=by
 refine bS (fun i=>((v.take i).map iH,((i:Nat):Int))) v.length bX (by simp) (by simp only [bX]; omega) (fun i hi => ?_) ?_
 ·have htl:((v.take i).map iH).length=i:=by simp; omega
  refine ap (decide_eq_true (by omega)) (ar (bk hi) (ar (cA hi) (ar (cF (by simp only [htl,List.length_cons,List.length_nil]; omega) (by simp only [htl,List.length_cons,List.length_nil]; omega)) (ar (congrArg some (aZ (n:=i) (by omega))) ?_))))
  rw [List.take_succ_eq_append_getElem hi,List.map_append]
  rfl
 ·rw [List.take_length]
  exact ak (decide_eq_false (by omega)) rfl
theorem Bg {l:List ae} {n k:Nat} (h:n≤k):((l.take k).map iH).take n=(l.take n).map iH:=by
 rw [← List.map_take,List.take_take,Nat.min_eq_left h]
def KP (l:List ae):(((List ae)×Int))→Option (((List ae)×Int)⊕(((List ae))⊕(List ae))):=(fun ((s10,s11):(List ae)×Int) =>
 cond ((decide (s11<(l.length:Int))))
  ((cl s11 l.length).bind fun v2 =>
  (aQ l v2).bind fun v3 =>
  (dH ((ae.mk (aj.mk v3.La.Le v3.La.Lc v3.La.KZ) v3.To v3.KY v3.Lh v3.Lb v3.At))).bind fun v4 =>
  (cr 120 s10 [(ae.mk (aj.mk v4.La.Le v4.La.Lc v4.La.KZ) v4.To v4.KY v4.Lh v4.Lb v4.At)]).bind fun v5 =>
  (some (IntKind.i64.wrap (s11+1))).bind fun v6 =>
  some (.inl (v5,v6)))
  (some (.inr (.inl s10))))
theorem Dm {m:ae} (h:LM m):dH m=some m:=by
 obtain ⟨h1,h2⟩:=h
 simp only [mW] at h2
 unfold dH
 refine ar (x:=m.To) ?_ (ar (yr _ (by omega)) rfl)
 unfold dq
 exact ar (cF (by simp only [List.length_nil]; omega) (by simp only [List.length_nil]; omega)) rfl
theorem ud {l:List ae} (hm:∀ m∈l,LM m) (hl:l.length≤20):dv l=some l:=by
 unfold dv
 refine aL (s:=l) (bS (f:=KP l) (fun i=>(l.take i,((i:Nat):Int))) l.length bX (by simp) (by simp only [bX]; omega) (fun i hi => ?_) ?_) rfl
 ·have htl:(l.take i).length=i:=by simp; omega
  refine ap (decide_eq_true (by omega)) (ar (bk hi) (ar (cA hi) (ar (Dm (hm _ (List.getElem_mem hi))) (ar (cF (by simp only [htl,List.length_cons,List.length_nil]; omega) (by simp only [htl,List.length_cons,List.length_nil]; omega)) (ar (congrArg some (aZ (n:=i) (by omega))) ?_)))))
  rw [List.take_succ_eq_append_getElem hi]
 ·rw [List.take_length]
  exact ak (decide_eq_false (by omega)) rfl
def JV (l:List ae) (origin number:Int):((Int×Int))→Option ((Int×Int)⊕((Int)⊕Int)):=(fun ((s92,s93):Int×Int) =>
 aI (S:=Bool) (A:=((Int×Int)⊕((Int)⊕Int)))
  (cond ((decide (s93≤(l.length:Int))))
   (some (.inl ((decide (s93≤4)))))
   (some (.inl false)))
  (fun (s142:Bool) =>
   cond (s142)
    (aI (S:=Int) (A:=((Int×Int)⊕((Int)⊕Int)))
     (aI (S:=((List ae))) (A:=(Int⊕((Int×Int)⊕((Int)⊕Int))))
      (aT (S:=((List ae)×Int)) (O:=((List ae))⊕(Int⊕((Int×Int)⊕((Int)⊕Int)))) (fun ((s171,s172):(List ae)×Int) =>
       cond ((decide (s172<s93)))
        ((cl s172 l.length).bind fun v7 =>
        (aQ l v7).bind fun v8 =>
        (dC ((ae.mk (aj.mk v8.La.Le v8.La.Lc v8.La.KZ) v8.To v8.KY v8.Lh v8.Lb v8.At))).bind fun v9 =>
        (cr 120 s171 [(ae.mk (aj.mk v9.La.Le v9.La.Lc v9.La.KZ) v9.To v9.KY v9.Lh v9.Lb v9.At)]).bind fun v10 =>
        (some (IntKind.i64.wrap (s172+1))).bind fun v11 =>
        some (.inl (v10,v11)))
        (some (.inr (.inl s171))))
       bX ([],0))
      (fun (s174:(List ae)) =>
       (bo (az.mk origin number s174)).bind fun v26 =>
       cond ((v26.2==0))
        (some (.inl s93))
        (some (.inl s92))) some)
     (fun (s163:Int) =>
      (some (IntKind.i64.wrap (s93+1))).bind fun v48 =>
      some (.inl (s163,v48))) some)
    (some (.inr (.inl s92)))) some)
def JT (l:List ae) (s93:Int):(((List ae)×Int))→Option (((List ae)×Int)⊕(((List ae))⊕(Int⊕((Int×Int)⊕((Int)⊕Int))))):=(fun ((s171,s172):(List ae)×Int) =>
 cond ((decide (s172<s93)))
  ((cl s172 l.length).bind fun v7 =>
  (aQ l v7).bind fun v8 =>
  (dC ((ae.mk (aj.mk v8.La.Le v8.La.Lc v8.La.KZ) v8.To v8.KY v8.Lh v8.Lb v8.At))).bind fun v9 =>
  (cr 120 s171 [(ae.mk (aj.mk v9.La.Le v9.La.Lc v9.La.KZ) v9.To v9.KY v9.Lh v9.Lb v9.At)]).bind fun v10 =>
  (some (IntKind.i64.wrap (s172+1))).bind fun v11 =>
  some (.inl (v10,v11)))
  (some (.inr (.inl s171))))
def KN:(((List Int)×Int))→Option (((List Int)×Int)⊕((Unit)⊕Unit)):=(fun ((s11,s12):(List Int)×Int) =>
 cond ((decide (s12<(s11.length:Int))))
  ((cl s12 s11.length).bind fun v2 =>
  (aQ s11 v2).bind fun v3 =>
  (some (IntKind.u8.wrap (v3+91))).bind fun v4 =>
  (cl s12 s11.length).bind fun v5 =>
  (some (s11.set v5 v4)).bind fun v6 =>
  (some (IntKind.i64.wrap (s12+1))).bind fun v7 =>
  some (.inl (v6,v7)))
  (some (.inr (.inl ()))))
def KX (l v10:List ae):((Int))→Option ((Int)⊕((Unit)⊕Bool)):=(fun (s39:Int) =>
 cond ((decide (s39<(l.length:Int))))
  ((cl s39 v10.length).bind fun v29 =>
  (aQ v10 v29).bind fun v30 =>
  (cl s39 l.length).bind fun v31 =>
  (aQ l v31).bind fun v32 =>
  (ez ((ae.mk (aj.mk v30.La.Le v30.La.Lc v30.La.KZ) v30.To v30.KY v30.Lh v30.Lb v30.At)) ((ae.mk (aj.mk v32.La.Le v32.La.Lc v32.La.KZ) v32.To v32.KY v32.Lh v32.Lb v32.At))).bind fun v33 =>
  cond ((!v33))
   (some (.inr (.inr (false))))
   ((some (IntKind.i64.wrap (s39+1))).bind fun v35 =>
   some (.inl v35)))
  (some (.inr (.inl ()))))
def wi (o nb:Int) (s:List ae) (k:Nat):Bool:=match bp (az.mk o nb (s.take k)) with
 | some v=>v.2==0
 | none=>false
theorem BR {o nb:Int} {s:List ae} {k:Nat} {v:List Int×Int} (h:bp (az.mk o nb (s.take k))=some v):wi o nb s k=(v.2==0):=by
 unfold wi
 rw [h]
def mc (ok:Nat→Bool):Nat→Nat
 | 0=>0
 | k+1=>if ok (k+1)=true then k+1 else mc ok k
theorem yP (ok:Nat→Bool):∀ k,mc ok k≤k
 | 0=>Nat.le_refl _
 | k+1=>by
  unfold mc
  split
  ·exact Nat.le_refl _
  ·exact Nat.le_succ_of_le (yP ok k)
theorem sl {b:az} (hm:∀ m∈b.Ld,LM m∧bM m.KY) (hl:b.Ld.length≤20):∃ v,bp b=some v∧v.1.length≤4096:=by
 rcases oX hm hl with ⟨e,he,_⟩ | ⟨_,_,_,_,_,_,_,hw,hby⟩
 ·exact ⟨_,he,Nat.zero_le _⟩
 ·exact ⟨_,hby,hw⟩
theorem Ch {s:List ae} {o nb:Int} (hm:∀ m∈s,LM m∧bM m.KY) (hl:s.length≤4):∀ (k fuel:Nat),k≤s.length→k<fuel →
  aT (Ja o nb) fuel (s,(k:Int))=some (if mc (wi o nb s) k=0 then .inl () else .inr (((mc (wi o nb s) k:Nat):Int),0))
 | 0,fuel,hk,hf=>by
  obtain ⟨f,rfl⟩:∃ f,fuel=f+1:=⟨fuel-1,by omega⟩
  have hstep:Ja o nb (s,((0:Nat):Int))=some (.inr (.inl ())):=rfl
  exact aV hstep
 | k+1,fuel,hk,hf=>by
  obtain ⟨f,rfl⟩:∃ f,fuel=f+1:=⟨fuel-1,by omega⟩
  have hsl:eO s 0 ((k+1:Nat):Int)=some (s.take (k+1)):=by
   have:=dB s (a:=0) (b:=k+1) (by omega) hk
   rw [show ((0:Nat):Int)=0 from rfl] at this
   rw [this,List.drop_zero,Nat.sub_zero]
  have hw:IntKind.i64.wrap (((k+1:Nat):Int)-1)=(k:Int):=by rw [dO (by omega) (by omega)]; omega
  have hd:decide (0<((k+1:Nat):Int))=true:=decide_eq_true (by omega)
  obtain ⟨v,hv,_⟩:=sl (b:=az.mk o nb (s.take (k+1))) (fun m hmm=>hm m (List.mem_of_mem_take hmm)) (by show (s.take (k+1)).length≤20; simp; omega)
  have hok:=BR hv
  cases hz:(v.2==0)
  ·rw [hz] at hok
   have e:mc (wi o nb s) (k+1)=mc (wi o nb s) k:=by
    conv=>lhs; unfold mc
    rw [hok,if_neg (by decide)]
   rw [e]
   have hstep:Ja o nb (s,((k+1:Nat):Int))=some (.inl (s,(k:Int))):=ap hd (ar hsl (ar hv (ak hz (ar (congrArg some hw) rfl))))
   exact (bC hstep).trans (Ch hm hl k f (by omega) (by omega))
  ·rw [hz] at hok
   have e:mc (wi o nb s) (k+1)=k+1:=by
    conv=>lhs; unfold mc
    rw [hok,if_pos rfl]
   rw [e,if_neg (by omega)]
   exact aV (ap hd (ar hsl (ar hv (ap hz rfl))))
theorem Cj {l:List ae} {n:Nat} (hn:n≤l.length) (hn4:n≤4) (hm:∀ m∈l,LM m):aT (JT l (n:Int)) bX ([],0)=some (.inl ((l.take n).map iH)):=by
 refine bS (fun i=>((l.take i).map iH,((i:Nat):Int))) n bX (by simp) (by simp only [bX]; omega) (fun i hi => ?_) ?_
 ·have hi2:i<l.length:=by omega
  have htl:((l.take i).map iH).length=i:=by simp; omega
  refine ap (decide_eq_true (by omega)) (ar (bk hi2) (ar (cA hi2) (ar (Bp (hm _ (List.getElem_mem hi2))) (ar (cF (by simp only [htl,List.length_cons,List.length_nil]; omega) (by simp only [htl,List.length_cons,List.length_nil]; omega)) (ar (congrArg some (aZ (n:=i) (by omega))) ?_)))))
  rw [List.take_succ_eq_append_getElem hi2,List.map_append]
  rfl
 ·exact ak (decide_eq_false (by omega)) rfl
theorem CZ {l:List ae} {o nb:Int} (hm:∀ m∈l,LM m∧bM m.KY) (hl:l.length<1000000):∃ n:Nat,n≤4∧fF l o nb=some (n:Int)∧ij l o nb=some (if n=0 then (0,9) else ((n:Int),0)):=by
 obtain ⟨K,hK,hKl,hK4,hKm⟩:∃ K:Nat,(if (4:Int)<(l.length:Int) then 4 else (l.length:Int))=(K:Int)∧K≤l.length∧K≤4∧(K=l.length∨K=4):=by
  by_cases h:4<l.length
  ·exact ⟨4,by rw [if_pos (by omega)]; rfl,by omega,by omega,.inr rfl⟩
  ·exact ⟨l.length,by rw [if_neg (by omega)],by omega,by omega,.inl rfl⟩
 have hsl:eO l 0 (K:Int)=some (l.take K):=by
  have:=dB l (a:=0) (b:=K) (by omega) hKl
  rw [show ((0:Nat):Int)=0 from rfl] at this
  rw [this,List.drop_zero,Nat.sub_zero]
 have hcl:=EA (v:=l.take K) (by simp; omega)
 have hsm:((l.take K).map iH).length=K:=by simp; omega
 have hcf:∀ k,∀ m∈(l.take k).map iH,LM m∧bM m.KY:=fun k m hmm=>by
  obtain ⟨q,hq,rfl⟩:=List.mem_map.1 hmm
  have:=hm q (List.mem_of_mem_take hq)
  exact ⟨Gq this.1,this.2⟩
 have hpk:=Ch (s:=(l.take K).map iH) (o:=o) (nb:=nb) (hcf K) (by omega) K bX (by omega) (by simp only [bX]; omega)
 have hst:(((l.take K).map iH).length:Int)=(K:Int):=by rw [hsm]
 have htop:=yP (wi o nb ((l.take K).map iH)) K
 refine ⟨mc (wi o nb ((l.take K).map iH)) K,by omega,?_,?_⟩
 ·unfold fF
  refine aL (s:=(((mc (wi o nb ((l.take K).map iH)) K:Nat):Int))) (bS (f:=JV l o nb) (fun i=>(((mc (wi o nb ((l.take K).map iH)) i:Nat):Int),((i+1:Nat):Int))) K bX rfl (by simp only [bX]; omega) (fun i hi => ?_) ?_) rfl
  ·have hin:=Cj (l:=l) (n:=i+1) (by omega) (by omega) fun m hmm=>(hm m hmm).1
   obtain ⟨v,hv,_⟩:=sl (b:=az.mk o nb ((l.take (i+1)).map iH)) (hcf _) (by show ((l.take (i+1)).map iH).length≤20; simp; omega)
   have hrb:=Dj (b:=az.mk o nb ((l.take (i+1)).map iH)) (hcf _) (by show ((l.take (i+1)).map iH).length≤20; simp; omega)
   have hok:=BR (s:=(l.take K).map iH) (k:=i+1) (by rw [Bg (by omega)]; exact hv)
   have hw:some (IntKind.i64.wrap (((i+1:Nat):Int)+1))=some ((i+1+1:Nat):Int):=congrArg some (aZ (n:=i+1) (by omega))
   have htn:mc (wi o nb ((l.take K).map iH)) (i+1)=if wi o nb ((l.take K).map iH) (i+1)=true then i+1 else mc (wi o nb ((l.take K).map iH)) i:=rfl
   refine aL (s:=true) (ap (decide_eq_true (by omega)) (fM (decide_eq_true (by omega)))) (ap rfl ?_)
   rw [htn,hok]
   cases hz:(v.2==0)
   ·rw [if_neg (by decide)]
    exact aL (s:=((mc (wi o nb ((l.take K).map iH)) i:Nat):Int)) (aL hin (ar (hrb.trans hv) (ak hz rfl))) (ar hw rfl)
   ·rw [if_pos rfl]
    exact aL (s:=((i+1:Nat):Int)) (aL hin (ar (hrb.trans hv) (ap hz rfl))) (ar hw rfl)
  ·refine aL (s:=false) ?_ (ak rfl rfl)
   rcases hKm with h | h
   ·exact ak (decide_eq_false (by omega)) rfl
   ·by_cases h2:K+1≤l.length
    ·exact ap (decide_eq_true (by omega)) (fM (decide_eq_false (by omega)))
    ·exact ak (decide_eq_false (by omega)) rfl
 ·unfold ij
  by_cases h0:mc (wi o nb ((l.take K).map iH)) K=0
  ·rw [if_pos h0] at hpk ⊢
   refine ar (congrArg some hK) (ar hsl (aL hcl (aL (s:=()) ?_ rfl)))
   rw [hst]; exact hpk
  ·rw [if_neg h0] at hpk ⊢
   refine ar (congrArg some hK) (ar hsl (aL hcl (jW (a:=(((mc (wi o nb ((l.take K).map iH)) K:Nat):Int),0)) ?_ rfl)))
   rw [hst]; exact hpk
theorem FI:∀ (k:Nat) (l:List Int) (i fuel:Nat),l.length-i=k→i≤l.length→k<fuel→l.length<1000000→aT KN fuel (l,(i:Int))=some (.inl ())
 | 0,l,i,fuel,hk,hi,hf,hl=>by
  obtain ⟨f,rfl⟩:∃ f,fuel=f+1:=⟨fuel-1,by omega⟩
  exact aV (ak (decide_eq_false (by omega)) rfl)
 | k+1,l,i,fuel,hk,hi,hf,hl=>by
  obtain ⟨f,rfl⟩:∃ f,fuel=f+1:=⟨fuel-1,by omega⟩
  have hil:i<l.length:=by omega
  refine (bC (s':=(l.set i (IntKind.u8.wrap (l[i]+91)),((i+1:Nat):Int))) ?_).trans (FI k _ (i+1) f (by rw [List.length_set]; omega) (by rw [List.length_set]; omega) (by omega) (by rw [List.length_set]; omega))
  exact ap (decide_eq_true (by omega)) (ar (bk hil) (ar (cA hil) (ar rfl (ar (bk hil) (ar rfl (ar (congrArg some (aZ (n:=i) (by omega))) rfl))))))
theorem DS {l:List Int} (hl:l.length<1000000):eW l=some ():=by
 unfold eW
 exact aL (FI l.length l 0 bX (by omega) (Nat.zero_le _) (by simp only [bX]; omega) hl) rfl
theorem EF {l:List ae} (hm:∀ m∈l,LM m) (hl:l.length<1000000):aT (KX l l) bX 0=some (.inl ()):=by
 refine bS (fun i=>((i:Nat):Int)) l.length bX rfl (by simp only [bX]; omega) (fun i hi => ?_) (ak (decide_eq_false (by omega)) rfl)
 obtain ⟨t1,t2⟩:=xZ (hm _ (List.getElem_mem hi))
 have hk:=qA l[i] l[i] t1 t2
 rw [decide_eq_true rfl] at hk
 have hg:=cA hi
 exact ap (decide_eq_true (by omega)) (ar (bk hi) (ar hg (ar (bk hi) (ar hg (ar hk (ak rfl (ar (congrArg some (aZ (n:=i) (by omega))) rfl)))))))
theorem qw (b:az) (t:List Int) (l:List ae) (origin number:Int) (hb:az.wz b) (ht:Bn 1 (re .u8) t) (hl:Bn 120 ae.wz l):el b t l origin number=some true:=by
 have hmr:∀ m∈b.Ld,Hk m∧bM m.KY:=fun m hm=>yH (hb.2.2.2 m hm)
 have hmq:∀ m∈l,Hk m∧bM m.KY:=fun m hm=>yH (hl.2 m hm)
 obtain ⟨hv,hh,hlm⟩:=yF b.Ld fun m hm=>(hmr m hm).1
 obtain ⟨hv2,hh2,hlm2⟩:=yF l fun m hm=>(hmq m hm).1
 unfold el
 cases hv
 case true=>exact aL (s:=true) (ar hh (ap rfl rfl)) (ap rfl rfl)
 cases hv2
 case true=>exact aL (s:=true) (ar hh (ak rfl (ar hh2 (ap rfl rfl)))) (ap rfl rfl)
 by_cases h5:5000<t.length
 ·exact aL (s:=true) (ar hh (ak rfl (ar hh2 (ak rfl (cG (decide_eq_true (by omega))))))) (ap rfl rfl)
 obtain ⟨hl20,hlm⟩:=hlm rfl
 obtain ⟨hk20,hlm2⟩:=hlm2 rfl
 have hmf:∀ m∈b.Ld,LM m∧bM m.KY:=fun m hm=>⟨hlm m hm,(hmr m hm).2⟩
 have hmg:∀ m∈l,LM m∧bM m.KY:=fun m hm=>⟨hlm2 m hm,(hmq m hm).2⟩
 have htb:bM t:=tQ ⟨by unfold maxLen; omega,ht.2⟩
 obtain ⟨v,hby,hvl⟩:=sl hmf hl20
 have hrb:=(Dj hmf hl20).trans hby
 obtain ⟨y,hr,hrr,hyl,hyf⟩:=CC htb (by omega)
 obtain ⟨n,hn4,hp2,hp1⟩:=CZ (o:=origin) (nb:=number) hmg (by omega)
 have hck:=ni hmf hl20
 have hbu:=vB hmf hl20
 have hkx:=fh v.1 v.1 (by omega)
 rw [decide_eq_true rfl] at hkx
 have hky:=sG y.1 (by omega) fun m hm=>xZ (hyf m hm).1
 have hkb:=sG b (by omega) fun m hm=>xZ (hlm m hm)
 have hkt:=fh t t (by omega)
 rw [decide_eq_true rfl] at hkt
 have hov:=DS (l:=v.1) (by omega)
 have e1:(!(((cond (nD b) 0 5:Int)==0)==nD b))=false:=by cases nD b <;> rfl
 refine aL (s:=false) (ar hh (ak rfl (ar hh2 (ak rfl (cG (decide_eq_false (by omega))))))) (ak rfl (ar (ud hlm hl20) (ar (yr t (by omega)) (ar (ud hlm2 hk20) (ar hby (ar hrb (ar hr (ar hrr (ar hp1 (ar hp2 (aL (s:=false) (ar hck (ar hbu (ar rfl (ak e1 (ak (bne_self_eq_false _) (ar hkx (ak rfl (ak (bne_self_eq_false _) (ar hky (ak rfl ?_)))))))))) (ak rfl (aL (EF hlm2 (by omega)) (ar hov (aL (s:=true) (ar hkb (ap rfl (ar hkt (ap rfl (ar Ee rfl))))) rfl)))))))))))))))
 by_cases h0:n=0
 ·subst h0
  rw [if_pos rfl]
  exact ak rfl (ar rfl (ak rfl (ak rfl rfl)))
 ·rw [if_neg h0]
  have e2:((n:Int)==0)=false:=beq_eq_false_iff_ne.2 (by omega)
  refine ak (bne_self_eq_false _) (ar rfl (ak ?_ (ap (decide_eq_true (by omega)) rfl)))
  show (!(((n:Int)==0)==false))=false
  rw [e2]
  rfl
end Go.Abs.Sh
