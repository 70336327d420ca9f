import Derived.Test.YtglabbpbianmnaaGreatDoorBunX
set_option linter.unusedVariables false
set_option linter.unusedSimpArgs false
set_option linter.unusedSectionVars false
namespace Go.Abs.Sh
set_option linter.unusedVariables false
set_option linter.unusedSimpArgs false
set_option maxRecDepth 100000
theorem zz:∀ (l r:List Int) (p:Int),oO l→Du 10 r→Du p (l++13::10::r)
 | [],r,p,_,h=>⟨fun _=>rfl,fun e=>by omega,fun e=>by omega,fun _=>rfl,h⟩
 | x::l,r,p,hc,h=>⟨fun e=>absurd e (hc x (by simp)).1,fun e=>absurd e (hc x (by simp)).2,zz l r x (fun y hy=>hc y (by simp [hy])) h⟩
theorem CF:∀ (ls:List (List Int)) (p:Int),(∀ l∈ls,oO l)→Du p (jn ls)
 | [],_,_=>trivial
 | l::ls,p,h=>zz l (jn ls) p (h l (by simp)) (CF ls 10 fun m hm=>h m (by simp [hm]))
theorem yJ:∀ (ls:List (List Int)),jn ls=[]∨(jn ls).getLast? = some 10
 | [] => .inl rfl
 | l::ls=>by
  right
  rcases yJ ls with h | h
  ·simp [jn,h]
  ·have:(13::10::jn ls).getLast? = some 10:=by
    cases hj:jn ls with
    | nil=>rfl
    | cons y r=>rw [List.getLast?_cons_cons,List.getLast?_cons_cons,← hj]; exact h
   simp only [jn]
   rw [List.getLast?_append,this]; rfl
def Bb (b:List Int):(Int)→Option ((Int)⊕((Unit)⊕Int)):=(fun (s21:Int) =>
 (some (IntKind.i64.wrap (s21+1))).bind fun v1 =>
 cond ((decide (v1<(b.length:Int))))
  (aF (S:=Bool) (A:=((Int)⊕((Unit)⊕Int)))
   ((cj s21 b.length).bind fun v3 =>
   (aN b v3).bind fun v4 =>
   cond ((v4==13))
    ((some (IntKind.i64.wrap (s21+1))).bind fun v5 =>
    (cj v5 b.length).bind fun v6 =>
    (aN b v6).bind fun v7 =>
    some (.inl (v7==10)))
    (some (.inl false)))
   (fun (s35:Bool) =>
    cond (s35)
     (some (.inr (.inr (s21))))
     ((some (IntKind.i64.wrap (s21+1))).bind fun v13 =>
     some (.inl v13))) some)
  (some (.inr (.inl ()))))
def Bm (b:List Int):(Int)→Option ((Int)⊕((Unit)⊕Int)):=(fun (s30:Int) =>
 (some (IntKind.i64.wrap (s30+2))).bind fun v1 =>
 cond ((decide (v1<(b.length:Int))))
  (aF (S:=Bool) (A:=((Int)⊕((Unit)⊕Int)))
   ((cj s30 b.length).bind fun v3 =>
   (aN b v3).bind fun v4 =>
   cond ((v4==46))
    ((some (IntKind.i64.wrap (s30+1))).bind fun v5 =>
    (cj v5 b.length).bind fun v6 =>
    (aN b v6).bind fun v7 =>
    cond ((v7==13))
     ((some (IntKind.i64.wrap (s30+2))).bind fun v8 =>
     (cj v8 b.length).bind fun v9 =>
     (aN b v9).bind fun v10 =>
     cond ((v10==10))
      (cond ((s30==0))
       (some (.inl true))
       (cond ((decide (1<s30)))
        ((some (IntKind.i64.wrap (s30-2))).bind fun v11 =>
        (cj v11 b.length).bind fun v12 =>
        (aN b v12).bind fun v13 =>
        cond ((v13==13))
         ((some (IntKind.i64.wrap (s30-1))).bind fun v14 =>
         (cj v14 b.length).bind fun v15 =>
         (aN b v15).bind fun v16 =>
         some (.inl (v16==10)))
         (some (.inl false)))
        (some (.inl false))))
      (some (.inl false)))
     (some (.inl false)))
    (some (.inl false)))
   (fun (s44:Bool) =>
    cond (s44)
     (some (.inr (.inr (s30))))
     ((some (IntKind.i64.wrap (s30+1))).bind fun v22 =>
     some (.inl v22))) some)
  (some (.inr (.inl ()))))
def iO (b:List Int) (i:Nat):Prop:=b[i]? = some 13∧b[i+1]? = some 10
instance (b:List Int) (i:Nat):Decidable (iO b i):=by unfold iO; infer_instance
theorem vl:∀ {l:List Int},gE l=none→∀ j,¬ iO l j
 | [],_,j,h=>by simp [iO] at h
 | x::l,h,j,hc=>by
  unfold gE at h
  split at h
  ·cases h
  ·rename_i hx
   have hn:gE l=none:=by cases hi:gE l with | none=>rfl | some k=>simp [hi] at h
   cases j with
   | zero =>
    simp only [iO,List.getElem?_cons_zero,Option.some.injEq,List.getElem?_cons_succ,Nat.zero_add] at hc
    exact hx ⟨hc.1,by rw [List.head?_eq_getElem?]; exact hc.2⟩
   | succ j=>exact vl hn j (by simpa [iO] using hc)
theorem sj:∀ {l:List Int} {e:Nat},gE l=some e→iO l e∧∀ j,j<e→¬ iO l j
 | [],e,h=>by simp [gE] at h
 | x::l,e,h=>by
  unfold gE at h
  split at h
  ·rename_i hx
   cases h
   refine ⟨⟨by simp [hx.1],?_⟩,fun j hj=>by omega⟩
   rw [List.head?_eq_getElem?] at hx; simpa using hx.2
  ·rename_i hx
   cases hi:gE l with
   | none=>simp [hi] at h
   | some k =>
    simp [hi] at h
    subst h
    obtain ⟨h1,h2⟩:=sj hi
    refine ⟨by simpa [iO] using h1,fun j hj hc => ?_⟩
    cases j with
    | zero =>
     simp only [iO,List.getElem?_cons_zero,Option.some.injEq,List.getElem?_cons_succ,Nat.zero_add] at hc
     exact hx ⟨hc.1,by rw [List.head?_eq_getElem?]; exact hc.2⟩
    | succ j=>exact h2 j (by omega) (by simpa [iO] using hc)
theorem ja (b:List Int) (a j:Nat):iO (b.drop a) j↔iO b (a+j):=by simp [iO,Nat.add_assoc]
theorem zI {b:List Int} {i:Nat} (h:iO b i):i+1<b.length:=(List.getElem?_eq_some_iff.1 h.2).1
theorem mg {b:List Int} {i:Nat} (h:i<b.length):b[i]? = some b[i]:=List.getElem?_eq_getElem h
theorem sU (b:List Int) (hl:b.length<4000000000) {i:Nat} (hi:i+1<b.length):Bb b (i:Int)=if iO b i then some (.inr (.inr (i:Int))) else some (.inl ((i+1:Nat):Int)):=by
 have e0:some (IntKind.i64.wrap ((i:Int)+1))=some ((i+1:Nat):Int):=by rw [cL (by omega) (by omega)]; simp
 unfold Bb
 refine ar e0 (ap (decide_eq_true (by omega)) (aI (s:=decide (iO b i)) (ar (bi (by omega)) (ar (cv (by omega)) ?_)) ?_))
 ·by_cases h13:b[i]=13
  ·refine ap (by rw [h13]; rfl) (ar e0 (ar (bi hi) (ar (cv hi) ?_)))
   congr 2
   rw [Bool.eq_iff_iff,beq_iff_eq,decide_eq_true_eq,iO,mg (by omega),mg hi,h13]
   simp
  ·refine ak (by simpa using h13) ?_
   congr 2
   rw [eq_comm,decide_eq_false_iff_not,iO,mg (by omega)]
   simp [h13]
 ·by_cases h:iO b i
  ·rw [if_pos h]; exact ap (decide_eq_true h) rfl
  ·rw [if_neg h]; exact ak (decide_eq_false h) (ar e0 rfl)
theorem Dg (b:List Int) (hl:b.length<4000000000) {i:Nat} (hi:b.length≤i+1) (hi2:i<4000000001):Bb b (i:Int)=some (.inr (.inl ())):=by
 unfold Bb
 refine ar (x:=((i+1:Nat):Int)) (by rw [cL (by omega) (by omega)]; simp) (ak (decide_eq_false (by omega)) rfl)
theorem xM (b:List Int) (hl:b.length<4000000000) {a:Nat} (ha:a≤b.length):cf b (a:Int)=some (match gE (b.drop a) with | none => -1 | some e=>((a+e:Nat):Int)):=by
 cases h:gE (b.drop a) with
 | none =>
  have hno:=vl h
  have hl2:aQ (Bb b) bU (a:Int)=some (.inl ()):=by
   refine bP (fun i=>((a+i:Nat):Int)) (b.length-1-a) bU (by simp) (by unfold bU; omega) (fun i hi => ?_) ?_
   ·rw [sU b hl (by omega),if_neg fun hc=>hno i ((ja b a i).2 hc)]; rfl
   ·exact Dg b hl (by omega) (by omega)
  unfold cf
  exact aI (s:=()) hl2 rfl
 | some e =>
  obtain ⟨h1,h2⟩:=sj h
  have h1':=(ja b a e).1 h1
  have hlt:=zI h1'
  have hl2:aQ (Bb b) bU (a:Int)=some (.inr ((a+e:Nat):Int)):=by
   refine bP (fun i=>((a+i:Nat):Int)) e bU (by simp) (by unfold bU; omega) (fun i hi => ?_) ?_
   ·rw [sU b hl (by omega),if_neg fun hc=>h2 i hi ((ja b a i).2 hc)]; rfl
   ·rw [sU b hl hlt,if_pos h1']
  unfold cf
  exact jY (a:=((a+e:Nat):Int)) hl2 rfl
def IM (b:List Int) (v1:Int):((List Int)×Int)→Option (((List Int)×Int)⊕(((List Int))⊕((List Int)×Int×Int))):=(fun ((s47,s48):(List Int)×Int) =>
 cond ((decide (s48<v1)))
  (aF (S:=(List Int)) (A:=(((List Int)×Int)⊕(((List Int))⊕((List Int)×Int×Int))))
   (aF (S:=Bool) (A:=(((List Int))⊕(((List Int)×Int)⊕(((List Int))⊕((List Int)×Int×Int)))))
    ((cj s48 b.length).bind fun v7 =>
    (aN b v7).bind fun v8 =>
    cond ((v8 != 46))
     (some (.inl true))
     (cond ((decide (0<s48)))
      ((some (IntKind.i64.wrap (s48-1))).bind fun v9 =>
      (cj v9 b.length).bind fun v10 =>
      (aN b v10).bind fun v11 =>
      some (.inl (v11 != 10)))
      (some (.inl false))))
    (fun (s81:Bool) =>
     cond (s81)
      ((cj s48 b.length).bind fun v17 =>
      (aN b v17).bind fun v18 =>
      (co 1 s47 [v18]).bind fun v19 =>
      some (.inl v19))
      (some (.inl s47))) some)
   (fun (s77:(List Int)) =>
    (some (IntKind.i64.wrap (s48+1))).bind fun v29 =>
    some (.inl (s77,v29))) some)
  (some (.inr (.inl s47))))
def BW:Int→List Int→List Int
 | _,[]=>[]
 | p,x::l=>(if x=46∧p=10 then [] else [x])++BW x l
theorem BR:∀ (l rest:List Int) (p:Int),oO l→p≠10→BW p (l++13::10::rest)=l++13::10::BW 10 rest
 | [],rest,p,_,hp=>by simp [BW]
 | x::l,rest,p,h,hp=>by
  have hx:=h x (by simp)
  simp only [List.cons_append,BW]
  rw [if_neg (fun hc=>hp hc.2),BR l rest x (fun y hy=>h y (by simp [hy])) hx.2]
  rfl
theorem BV:∀ (ls:List (List Int)),(∀ l∈ls,oO l)→BW 10 (jn ls)=jn (ls.map rL)
 | [],_=>rfl
 | l::ls,h=>by
  have ih:=BV ls fun m hm=>h m (by simp [hm])
  have hl:=h l (by simp)
  simp only [jn,List.map_cons]
  rw [← ih]
  cases l with
  | nil=>simp [BW,rL]
  | cons x l =>
   have hx:=hl x (by simp)
   simp only [List.cons_append,BW]
   rw [BR l (jn ls) x (fun y hy=>hl y (by simp [hy])) hx.2]
   unfold rL
   by_cases e:x=46
   ·subst e; simp
   ·rw [if_neg (fun hc=>e hc.1),if_neg (by simpa using e)]; rfl
def Dt (b:List Int) (i:Nat):Int:=if i=0 then 10 else b.getD (i-1) 0
theorem Cq {b:List Int} {i:Nat} (h:i<b.length):Dt b (i+1)=b[i]:=by
 unfold Dt; rw [if_neg (by omega)]; simp [List.getD_eq_getElem?_getD,h]
theorem FM {b:List Int} {i:Nat} {x:Int} (h:i<b.length) (hi:i≠0):(wh:i-1<b.length)→b[i-1]=Dt b i:=by
 intro wh
 unfold Dt; rw [if_neg hi]; simp [List.getD_eq_getElem?_getD,wh]
theorem DX {b:List Int} {i:Nat} (h:i<b.length):b.drop i=b[i]::b.drop (i+1):=List.drop_eq_getElem_cons h
theorem DM (b:List Int) (hl:b.length<1000000) (v:Nat) (hv:v≤b.length) {i:Nat} (hi:i<b.length) (hiv:i<v) (acc:List Int) (ha:acc.length<4000000) :
  IM b (v:Int) (acc,(i:Int))=some (.inl (acc++(if b[i]=46∧Dt b i=10 then [] else [b[i]]),((i+1:Nat):Int))):=by
 unfold IM
 refine ap (decide_eq_true (by omega)) ?_
 have h1:((cj (i:Int) b.length).bind fun v7 =>
     (aN b v7).bind fun v8 =>
     cond ((v8 != 46))
      (some (.inl true))
      (cond ((decide (0<(i:Int))))
       ((some (IntKind.i64.wrap ((i:Int)-1))).bind fun v9 =>
       (cj v9 b.length).bind fun v10 =>
       (aN b v10).bind fun v11 =>
       some (.inl (v11 != 10)))
       (some (.inl false))):Option (Bool⊕((List Int)⊕(((List Int)×Int)⊕(((List Int))⊕((List Int)×Int×Int))))))=some (.inl (!decide (b[i]=46∧Dt b i=10))):=by
  refine ar (bi hi) (ar (cv hi) ?_)
  by_cases h46:b[i]=46
  ·refine ak (by rw [h46]; rfl) ?_
   by_cases h0:i=0
   ·subst h0
    refine ak rfl ?_
    simp [h46,Dt]
   ·refine ap (decide_eq_true (by omega)) (ar (x:=((i-1:Nat):Int)) (by rw [cL (by omega) (by omega)]; congr 1; omega) (ar (bi (by omega)) (ar (cv (by omega)) ?_)))
    rw [FM (x:=0) hi h0 (by omega)]
    congr 2
    rw [Bool.eq_iff_iff,bne_iff_ne,Bool.not_eq_true',decide_eq_false_iff_not]
    simp [h46]
  ·refine ap (by simpa using h46) ?_
   congr 2
   rw [eq_comm,Bool.not_eq_true',decide_eq_false_iff_not]
   simp [h46]
 have e0:some (IntKind.i64.wrap ((i:Int)+1))=some ((i+1:Nat):Int):=by rw [cL (by omega) (by omega)]; simp
 by_cases hc:b[i]=46∧Dt b i=10
 ·rw [if_pos hc]
  exact aI (s:=acc) (aI h1 (ak (by rw [decide_eq_true hc]; rfl) rfl)) (ar e0 (by rw [List.append_nil]))
 ·rw [if_neg hc]
  exact aI (s:=acc++[b[i]]) (aI h1 (ap (by rw [decide_eq_false hc]; rfl) (ar (bi hi) (ar (cv hi) (ar (cA (by simp; omega) (by simp; omega)) rfl))))) (ar e0 rfl)
theorem Fo (b:List Int) (hl:b.length<1000000) (v:Nat) (hv:v≤b.length):∀ (n i:Nat) (acc:List Int) (fuel:Nat),i+n=v→acc.length≤i→n<fuel→aQ (IM b (v:Int)) fuel (acc,(i:Int))=some (.inl (acc++BW (Dt b i) ((b.take v).drop i)))
 | 0,i,acc,fuel,hn,ha,hf=>by
  obtain ⟨k,rfl⟩:∃ k,fuel=k+1:=⟨fuel-1,by omega⟩
  rw [aS (o := .inl acc) (by unfold IM; exact ak (decide_eq_false (by omega)) rfl)]
  rw [List.drop_eq_nil_of_le (by simp; omega)]; simp [BW]
 | n+1,i,acc,fuel,hn,ha,hf=>by
  obtain ⟨k,rfl⟩:∃ k,fuel=k+1:=⟨fuel-1,by omega⟩
  have hi:i<b.length:=by omega
  have hi2:i<(b.take v).length:=by simp; omega
  rw [bx (DM b hl v hv hi (by omega) acc (by omega))]
  rw [Fo b hl v hv n (i+1) _ k (by omega) (by rw [List.length_append]; split <;> simp <;> omega) (by omega)]
  rw [DX hi2,BW,List.append_assoc,Cq hi,List.getElem_take]
def dt (b:List Int) (i:Nat):Prop:=b[i]? = some 46∧iO b (i+1)∧(i=0∨2≤i∧iO b (i-2))
instance (b:List Int) (i:Nat):Decidable (dt b i):=by unfold dt; infer_instance
theorem rS (b:List Int) (hl:b.length<1000000) {i:Nat} (hi:i+2<b.length):Bm b (i:Int)=if dt b i then some (.inr (.inr (i:Int))) else some (.inl ((i+1:Nat):Int)):=by
 have e1:some (IntKind.i64.wrap ((i:Int)+1))=some ((i+1:Nat):Int):=by rw [cL (by omega) (by omega)]; simp
 have e2:some (IntKind.i64.wrap ((i:Int)+2))=some ((i+2:Nat):Int):=by rw [cL (by omega) (by omega)]; simp
 unfold Bm
 refine ar e2 (ap (decide_eq_true (by omega)) (aI (s:=decide (dt b i)) (ar (bi (by omega)) (ar (cv (by omega)) ?_)) ?_))
 ·by_cases h46:b[i]=46
  ·refine ap (by rw [h46]; rfl) (ar e1 (ar (bi (by omega)) (ar (cv (by omega)) ?_)))
   by_cases h13:b[i+1]=13
   ·refine ap (by rw [h13]; rfl) (ar e2 (ar (bi hi) (ar (cv hi) ?_)))
    by_cases h10:b[i+2]=10
    ·refine ap (by rw [h10]; rfl) ?_
     by_cases h0:i=0
     ·subst h0
      refine ap rfl ?_
      congr 2
      rw [eq_comm,decide_eq_true_eq,dt,iO,mg (by omega),mg (by omega),mg (by omega)]
      simp [h46,h13,h10]
     ·refine ak (by rw [beq_eq_false_iff_ne]; omega) ?_
      by_cases h1:1<i
      ·have g1:some (IntKind.i64.wrap ((i:Int)-1))=some ((i-1:Nat):Int):=by rw [cL (by omega) (by omega)]; congr 1; omega
       have g2:some (IntKind.i64.wrap ((i:Int)-2))=some ((i-2:Nat):Int):=by rw [cL (by omega) (by omega)]; congr 1; omega
       have hk:dt b i↔b[i-2]'(by omega)=13∧b[i-1]'(by omega)=10:=by
        rw [dt,iO,iO,mg (by omega),mg (by omega),mg (by omega),mg (by omega),mg (by omega)]
        have e:i-2+1=i-1:=by omega
        simp only [h46,h13,Option.some.injEq,true_and,show i+1+1=i+2 by omega,h10,e]
        omega
       refine ap (decide_eq_true (by omega)) (ar g2 (ar (bi (by omega)) (ar (cv (by omega)) ?_)))
       by_cases GJ:b[i-2]'(by omega)=13
       ·refine ap (by rw [GJ]; rfl) (ar g1 (ar (bi (by omega)) (ar (cv (by omega)) ?_)))
        congr 2
        rw [Bool.eq_iff_iff,beq_iff_eq,decide_eq_true_eq,hk]
        simp [GJ]
       ·refine ak (by simpa using GJ) ?_
        congr 2
        rw [eq_comm,decide_eq_false_iff_not,hk]
        simp [GJ]
      ·refine ak (decide_eq_false (by omega)) ?_
       congr 2
       rw [eq_comm,decide_eq_false_iff_not,dt]
       omega
    ·refine ak (by simpa using h10) ?_
     congr 2
     rw [eq_comm,decide_eq_false_iff_not,dt,iO,mg (by omega),mg (by omega),mg (by omega)]
     simp [show i+1+1=i+2 by omega,h10]
   ·refine ak (by simpa using h13) ?_
    congr 2
    rw [eq_comm,decide_eq_false_iff_not,dt,iO,mg (by omega),mg (by omega)]
    simp [h13]
  ·refine ak (by simpa using h46) ?_
   congr 2
   rw [eq_comm,decide_eq_false_iff_not,dt,mg (by omega)]
   simp [h46]
 ·by_cases h:dt b i
  ·rw [if_pos h]; exact ap (decide_eq_true h) rfl
  ·rw [if_neg h]; exact ak (decide_eq_false h) (ar e1 rfl)
theorem CE (b:List Int) (hl:b.length<1000000) {i:Nat} (hi:b.length≤i+2) (hi2:i<1000001):Bm b (i:Int)=some (.inr (.inl ())):=by
 unfold Bm
 refine ar (x:=((i+2:Nat):Int)) (by rw [cL (by omega) (by omega)]; simp) (ak (decide_eq_false (by omega)) rfl)
theorem FN {b:List Int} (hl:b.length<1000000) (h:∀ i,¬ dt b i):ev b=some (-1):=by
 have hl2:aQ (Bm b) bU 0=some (.inl ()):=by
  refine bP (fun i=>(i:Int)) (b.length-2) bU rfl (by unfold bU; omega) (fun i hi => ?_) ?_
  ·rw [rS b hl (by omega),if_neg (h i)]
  ·exact CE b hl (by omega) (by omega)
 unfold ev
 exact aI (s:=()) hl2 rfl
theorem GC {b:List Int} (hl:b.length<1000000) {k:Nat} (hk:dt b k) (h:∀ i,i<k→¬ dt b i):ev b=some (k:Int):=by
 have hlt:=zI hk.2.1
 have hl2:aQ (Bm b) bU 0=some (.inr (k:Int)):=by
  refine bP (fun i=>(i:Int)) k bU rfl (by unfold bU; omega) (fun i hi => ?_) ?_
  ·rw [rS b hl (by omega),if_neg (h i hi)]
  ·rw [rS b hl (by omega),if_pos hk]
 unfold ev
 exact jY (a:=(k:Int)) hl2 rfl
theorem CG (b:List Int):∀ {t:List Int} {ls:List (List Int)} {r:List Int},vJ t ls r→∀ (a:Nat),t=b.drop a→(a=0∨2≤a∧iO b (a-2)) →
  ((∀ l∈ls,l≠[46])∧(∀ i,a≤i→¬ dt b i))∨∃ xs ys,ls=xs++[46]::ys∧(∀ l∈xs,l≠[46])∧dt b (a+dW xs)∧∀ i,a≤i→i<a+dW xs→¬ dt b i:=by
 intro t ls r H
 induction H with
 | nil h =>
  intro a ht ha
  subst ht
  refine .inl ⟨by simp,fun i hi hd => ?_⟩
  refine vl h (i+1-a) ((ja b a _).2 ?_)
  rw [show a+(i+1-a)=i+1 by omega]; exact hd.2.1
 | cons h t ih =>
  rename_i b0 e ls r
  intro a ht ha
  subst ht
  obtain ⟨hy,hn⟩:=sj h
  have hy':=(ja b a e).1 hy
  have h2:=(fS h).1
  have hq1:(b.drop a).drop (e+2)=b.drop (a+(e+2)):=by rw [List.drop_drop]
  by_cases hl:(b.drop a).take e=[46]
  ·right
   have he:e=1:=by
    have:=congrArg List.length hl
    simp only [List.length_take,List.length_cons,List.length_nil] at this
    omega
   subst he
   refine ⟨[],ls,by rw [hl]; rfl,by simp,?_,fun i h1 h2=>by simp [dW] at h2; omega⟩
   have h46:b[a]? = some 46:=by
    have:((b.drop a).take 1)[0]? = some 46:=by rw [hl]; rfl
    rw [List.getElem?_take] at this
    simpa using this
   simp only [dW,Nat.add_zero]
   exact ⟨h46,hy',ha⟩
  ·have hno:∀ i,a≤i→i<a+(e+2)→¬ dt b i:=by
    intro i h1 h3 hd
    by_cases hia:i=a
    ·subst hia
     have hc:iO (b.drop i) 1:=(ja b i 1).2 hd.2.1
     have he:e≤1:=by
      rcases Nat.lt_or_ge 1 e with h5 | h5
      ·exact absurd hc (hn 1 h5)
      ·exact h5
     rcases Nat.lt_or_ge e 1 with h5 | h5
     ·have he0:e=0:=by omega
      subst he0
      have:=hy'.1
      rw [Nat.add_zero,hd.1] at this
      cases this
     ·have he1:e=1:=by omega
      subst he1
      refine hl ?_
      have hlt:i<b.length:=(List.getElem?_eq_some_iff.1 hd.1).1
      have h46:b[i]=46:=by
       have:=hd.1
       rw [mg hlt] at this
       exact Option.some.inj this
      rw [List.drop_eq_getElem_cons hlt,h46]
      rfl
    ·rcases hd.2.2 with h0 | ⟨h4,hc⟩
     ·omega
     ·by_cases h5:a≤i-2
      ·refine hn (i-2-a) (by omega) ((ja b a _).2 ?_)
       rw [show a+(i-2-a)=i-2 by omega]; exact hc
      ·have h6:i=a+1:=by omega
       rcases ha with h0 | ⟨h7,hp⟩
       ·omega
       ·have h8:=hc.1
        have h9:=hp.2
        rw [show a-2+1=i-2 by omega,h8] at h9
        cases h9
   rcases ih (a+(e+2)) hq1 (.inr ⟨by omega,by rw [show a+(e+2)-2=a+e by omega]; exact hy'⟩) with ⟨h1,h3⟩ | ⟨xs,ys,h1,h3,h4,h5⟩
   ·left
    refine ⟨fun l hm => ?_,fun i hi => ?_⟩
    ·rcases List.mem_cons.1 hm with rfl | hm
     ·exact hl
     ·exact h1 l hm
    ·rcases Nat.lt_or_ge i (a+(e+2)) with h6 | h6
     ·exact hno i hi h6
     ·exact h3 i h6
   ·right
    have hlen:((b.drop a).take e).length=e:=by rw [List.length_take]; omega
    refine ⟨(b.drop a).take e::xs,ys,by rw [h1]; rfl,fun l hm => ?_,?_,fun i hi h6 => ?_⟩
    ·rcases List.mem_cons.1 hm with rfl | hm
     ·exact hl
     ·exact h3 l hm
    ·simp only [dW,hlen]
     rw [show a+(e+2+dW xs)=a+(e+2)+dW xs by omega]; exact h4
    ·simp only [dW,hlen] at h6
     rcases Nat.lt_or_ge i (a+(e+2)) with h7 | h7
     ·exact hno i hi h7
     ·exact h5 i h7 (by omega)
theorem CR:∀ (b:List Int) (p:Int),Du p b→∀ i:Nat,(b[i]? = some 13→b[i+1]? = some 10)∧(b[i]? = some 10→(if i=0 then some p else b[i-1]?)=some 13)
 | [],_,_,i=>by simp
 | x::l,p,h,i=>by
  obtain ⟨h1,h2,h3⟩:=h
  cases i with
  | zero =>
   refine ⟨fun e => ?_,fun e => ?_⟩
   ·have:=h1 (by simpa using e)
    rw [List.head?_eq_getElem?] at this; simpa using this
   ·rw [if_pos rfl,h2 (by simpa using e)]
  | succ i =>
   have ih:=CR l x h3 i
   refine ⟨fun e=>by simpa using ih.1 (by simpa using e),fun e => ?_⟩
   have:=ih.2 (by simpa using e)
   rw [if_neg (by omega)]
   cases i with
   | zero=>simpa using this
   | succ i=>simpa using this
theorem Df {ls:List (List Int)} (h:∀ l∈ls,oO l) (i:Nat):xt (jn ls) i=false:=by
 obtain ⟨h1,h2⟩:=CR (jn ls) 0 (CF ls 0 h) i
 unfold xt
 by_cases e:(jn ls)[i]? = some 13
 ·rw [if_pos e,h1 e]; rfl
 ·rw [if_neg e]
  by_cases e2:(jn ls)[i]? = some 10
  ·rw [if_pos e2,decide_eq_false_iff_not]
   have:=h2 e2
   by_cases h0:i=0
   ·rw [if_pos h0] at this; cases this
   ·rw [if_neg h0] at this
    simp [h0,this]
  ·rw [if_neg e2]
set_option maxHeartbeats 1000000 in
theorem Bn (b:List Int) (hl:b.length<4294967281) (hall:∀ i,i<b.length→(!xt b i)=true) (hlast:b=[]∨b.getLast? = some 10):bI b=some true:=by
 have hloop:=gL (R:=Bool) (f:=fun (s31:Int)=>cond ((decide (s31<(b.length:Int))))
    (aF (S:=Bool) (A:=((Int)⊕((Unit)⊕Bool)))
     ((cj s31 b.length).bind fun v2 =>
     (aN b v2).bind fun v3 =>
     cond ((v3==13))
      ((some (IntKind.i64.wrap (s31+1))).bind fun v4 =>
      cond ((decide ((b.length:Int)≤v4)))
       (some (.inl true))
       ((some (IntKind.i64.wrap (s31+1))).bind fun v5 =>
       (cj v5 b.length).bind fun v6 =>
       (aN b v6).bind fun v7 =>
       cond ((v7 != 10))
        (some (.inl true))
        ((cj s31 b.length).bind fun v8 =>
        (aN b v8).bind fun v9 =>
        cond ((v9==10))
         (cond ((s31==0))
          (some (.inl true))
          ((some (IntKind.i64.wrap (s31-1))).bind fun v10 =>
          (cj v10 b.length).bind fun v11 =>
          (aN b v11).bind fun v12 =>
          some (.inl (v12 != 13))))
         (some (.inl false)))))
      ((cj s31 b.length).bind fun v13 =>
      (aN b v13).bind fun v14 =>
      cond ((v14==10))
       (cond ((s31==0))
        (some (.inl true))
        ((some (IntKind.i64.wrap (s31-1))).bind fun v15 =>
        (cj v15 b.length).bind fun v16 =>
        (aN b v16).bind fun v17 =>
        some (.inl (v17 != 13))))
       (some (.inl false))))
     (fun (s45:Bool) =>
      cond (s45)
       (some (.inr (.inr (false))))
       ((some (IntKind.i64.wrap (s31+1))).bind fun v23 =>
       some (.inl v23))) some)
    (some (.inr (.inl ())))) (fun i => !xt b i) b.length false (fuel:=bU) (by unfold bU; omega)
  (fun i hi hp=>ap (decide_eq_true (by omega)) (aI (s:=xt b i) (nq b hi (by omega)) (ak (by simpa using hp) (ar (nr (by omega) (by omega)) rfl))))
  (fun i hi hp=>ap (decide_eq_true (by omega)) (aI (s:=xt b i) (nq b hi (by omega)) (ap (by simpa using hp) rfl)))
  (ak (decide_eq_false (by omega)) rfl)
 rw [if_pos hall] at hloop
 by_cases hn:b=[]
 ·subst hn; rfl
 ·have hpos:0<b.length:=by cases b with | nil=>exact absurd rfl hn | cons y t=>simp
  have h10:b[b.length-1]'(by omega)=10:=by
   have h2:=hlast.resolve_left hn
   rw [List.getLast?_eq_getElem?,pQ (by omega)] at h2
   exact Option.some.inj h2
  unfold bI
  refine aI (s:=()) hloop (aI (s:=(b[b.length-1]'(by omega)==10)) (ak (by rw [beq_eq_false_iff_ne]; omega) (ar (x:=((b.length-1:Nat):Int)) (by rw [cL (by omega) (by omega)]; congr 1; omega) (ar (bi (by omega)) (ar (cv (by omega)) rfl)))) (by rw [h10]; rfl))
theorem Ep {ls:List (List Int)} (h:∀ l∈ls,oO l) (hl:dW ls<1000000):bI (jn ls)=some true :=
 Bn _ (by rw [cu]; omega) (fun i _=>by rw [Df h i]; rfl) (yJ ls)
theorem vK (b:List Int) (hb:bJ b) (hl:b.length<1000000):(∃ ls,(∀ l∈ls,oO l)∧(∀ l∈ls,bJ l)∧b=jn ls∧cM b=some 0∧bI b=some true)∨(cM b=some 5∧bI b=some false):=by
 rcases wc b hb (by omega) with h | ⟨h,ls,h1,h2,h3⟩
 ·rcases ln hb (by omega) with h4 | ⟨ls,h1,h2,h3⟩
  ·exact .inr ⟨h4,h⟩
  ·have:=Ep h1 (by rw [← cu,← h3]; omega)
   rw [← h3,h] at this
   cases this
 ·refine .inl ⟨ls,h1,h2,h3,?_,h⟩
  rw [h3]
  exact ku h1 h2 (by rw [← cu,← h3]; omega)
theorem yz {b:List Int} {xs ys:List (List Int)} {r:List Int} (H:vJ b (xs++[46]::ys) r) (hb:bJ b) (hd:∀ l∈xs,l≠[46]) (hl:b.length<1000000):cO b=some ((dW xs:Int),true):=by
 have hj:=mE H
 have ht:b.length=dW (xs++[46]::ys)+r.length:=by rw [hj,List.length_append,cu]
 rw [jl] at ht
 unfold cO cX
 refine ar rfl ?_
 refine jY (a:=((0+dW xs:Nat):Int)) (ec nU H hb (by omega) _ _ ?_) (by simp)
 have h1:=mX xs ([46]::ys) 0 (fun l hm=>⟨lf H hb l (by simp [hm]),hd l hm⟩) (by omega)
 refine Eq.trans h1 ?_
 unfold jS
 rw [sT]
theorem wQ (b:List Int) (hb:bJ b) (hl:b.length<900000):∃ d m g,dw b=some (d,m,g)∧da b=some (d,m,g)∧d.length<2000000:=by
 obtain ⟨ls,r,H⟩:=rG b.length b (Nat.le_refl _)
 have hj:=mE H
 rcases CG b H 0 (by simp) (.inl rfl) with ⟨h1,h2⟩ | ⟨xs,ys,h1,h2,h3,h4⟩
 ·refine ⟨[],0,9,rI (uf H hb h1 (by omega)),?_,by simp⟩
  unfold da
  exact ar (FN (by omega) fun i=>h2 i (by omega)) (ap rfl rfl)
 ·subst h1
  rw [Nat.zero_add] at h3
  have hd:=GC (b:=b) (by omega) h3 fun i hi=>h4 i (by omega) (by omega)
  have hp:=yz H hb h2 (by omega)
  have ht:b.length=dW (xs++[46]::ys)+r.length:=by rw [hj,List.length_append,cu]
  rw [jl] at ht
  have hle:dW xs≤b.length:=by omega
  have htk:b.take (dW xs)=jn xs:=by
   rw [hj,pY,List.append_assoc,← cu xs,List.take_left]
  have e1:eM b 0 (dW xs:Int)=some (jn xs):=by
   have:=du b (a:=0) (b:=dW xs) (by omega) hle
   rw [List.drop_zero,Nat.sub_zero,htk] at this
   exact this
  have hbx:bJ (jn xs):=by rw [← htk]; exact eO hb _
  have hwr:some (IntKind.i64.wrap ((dW xs:Int)+3))=some ((dW xs+3:Nat):Int):=by rw [cL (by omega) (by omega)]; simp
  rcases vK (jn xs) hbx (by rw [cu]; omega) with ⟨ms,m1,m2,m3,m4,m5⟩ | ⟨m4,m5⟩
  ·have hlm:dW ms=dW xs:=by rw [← cu ms,← m3,cu]
   refine ⟨jn (ms.map rL),((dW xs+3:Nat):Int),0,?_,?_,?_⟩
   ·unfold dw
    refine ar hp (ak rfl (ar e1 (ar m4 (ak rfl (ar e1 ?_)))))
    refine ar (x:=jn ms) (by rw [m3]; rfl) ?_
    refine aI (s:=jn (ms.map rL)) (ec qd (sP m1) (kK m2) (by rw [cu]; omega) _ _ ?_) (ar hwr rfl)
    have:=ng ms [] m2 (by simp; omega)
    simpa using this
   ·unfold da
    refine ar hd (ak (decide_eq_false (by omega)) (ar e1 (ar m5 (ak rfl ?_))))
    have hr:=Fo b (by omega) (dW xs) hle (dW xs) 0 [] bU (by omega) (by simp) (by unfold bU; omega)
    rw [show Dt b 0=10 from rfl,List.drop_zero,htk,m3,BV ms m1,List.nil_append] at hr
    exact aI (s:=jn (ms.map rL)) hr (ar hwr rfl)
   ·have hq:∀ q:List (List Int),dW (q.map rL)≤dW q:=by
     intro q
     induction q with
     | nil=>simp [dW]
     | cons l q ih=>have:=uG l; simp only [List.map_cons,dW]; omega
    have:=hq ms
    rw [cu]; omega
  ·refine ⟨[],0,5,?_,?_,by simp⟩
   ·unfold dw
    exact ar hp (ak rfl (ar e1 (ar m4 (ap rfl rfl))))
   ·unfold da
    exact ar hd (ak (decide_eq_false (by omega)) (ar e1 (ar m5 (ap rfl rfl))))
theorem Ai {R:Type} {f:Int→Option (Int⊕(Unit⊕R))} (c:Int) (l:List Int) (g:Nat→R) {fuel:Nat} (hf:l.length<fuel)
  (hgo:∀ i,i<l.length→l.getD i 0≠c→f (i:Int)=some (.inl ((i+1:Nat):Int))) (hno:∀ i,i<l.length→l.getD i 0=c→f (i:Int)=some (.inr (.inr (g i)))) (hend:f (l.length:Int)=some (.inr (.inl ()))) :
  aQ f fuel 0=some (match jc c l with | none => .inl () | some e => .inr (g e)):=by
 cases hi:jc c l with
 | none =>
  have h:=nu.1 hi
  refine bP (fun i=>(i:Int)) l.length fuel rfl hf (fun i hi=>hgo i hi ?_) hend
  intro e
  apply h
  rw [← e,List.getD_eq_getElem?_getD,List.getElem?_eq_getElem hi]
  exact List.getElem_mem hi
 | some e =>
  obtain ⟨h1,h2,h3⟩:=jZ hi
  refine bP (fun i=>(i:Int)) e fuel rfl (by omega) (fun i hi=>hgo i (by omega) ?_) (hno e (by omega) ?_)
  ·intro he
   apply h3
   rw [← he,List.getD_eq_getElem?_getD,List.getElem?_eq_getElem (show i<l.length by omega)]
   exact List.mem_take_iff_getElem.2 ⟨i,by omega,rfl⟩
  ·rw [h2,List.getD_eq_getElem?_getD,List.getElem?_append_right (by simp; omega)]
   have:(l.take e).length=e:=by simp; omega
   rw [this,Nat.sub_self]; rfl
theorem uh (s:Ll) (hs:s.size<1152921504606846976):cH s=some (match rC (ao s) with | some p=>(p,true) | none=>(nz,false)):=by
 unfold cH rC
 by_cases h2:ao s=[60,62]
 ·rw [if_pos h2]
  exact ap (by rw [IY]; exact decide_eq_true h2) rfl
 ·rw [if_neg h2]
  refine ak (by rw [IY]; exact decide_eq_false h2) ?_
  rcases qb (ao s) with ⟨m,hm,hmid⟩ | hmid
  ·rw [hmid]
   have hml:m.length+2=s.size:=by rw [yL,hm]; simp
   have hbm:bJ m:=by
    have:=cq s
    rw [hm] at this
    intro x hx
    exact this x (by simp [hx])
   have c0:=jU (s:=s) (i:=0) (by omega)
   have c1:=jU (s:=s) (i:=s.size-1) (by omega)
   have x0:(ao s).getD 0 0=60:=by rw [hm]; rfl
   have x1:(ao s).getD (s.size-1) 0=62:=by
    rw [hm,← hml]
    show (60::(m++[62])).getD (m.length+1) 0=62
    rw [List.getD_cons_succ,List.getD_eq_getElem?_getD,List.getElem?_append_right (Nat.le_refl _)]; simp
   rw [x0] at c0
   rw [x1] at c1
   have w:some (IntKind.i64.wrap ((s.size:Int)-1))=some ((s.size-1:Nat):Int):=by rw [gZ (by omega) (by omega)]; congr 1; omega
   have e1:fI s 1 ((s.size-1:Nat):Int)=some (aL m):=by
    have:=fV (s:=s) (a:=1) (b:=s.size-1) (by omega) (by omega)
    rw [show s.size-1-1=m.length by omega,hm] at this
    simpa using this
   refine aI (s:=false) (ak (decide_eq_false (by omega)) (ar c0 (ak rfl (ar w (ar c1 rfl))))) (ak rfl (ar w (ar e1 ?_)))
   have hsz:(aL m).size=m.length:=cV m
   have hmm:ao (aL m)=m:=aH hbm
   have hlp:=fun (f:Int→Option (Int⊕(Unit⊕(aj×Bool))))=>Ai (R:=aj×Bool) (f:=f) 64 m (fun e=>cond (eD ⟨false,aL (m.take e),aL (m.drop (e+1))⟩) (⟨false,aL (m.take e),aL (m.drop (e+1))⟩,true) (nz,false)) (fuel:=bU) (by unfold bU; omega)
   have hget:∀ i,i<m.length→dh (aL m) (i:Int)=some (m.getD i 0):=by
    intro i hi
    have:=jU (s:=aL m) (i:=i) (by omega)
    rwa [hmm] at this
   refine (congrArg (fun x=>aF x _ _) (hlp _ ?_ ?_ ?_)).trans ?_
   ·intro i hi hne
    exact ap (decide_eq_true (by omega)) (ar (hget i hi) (ak (by simpa using hne) (ar (by rw [aW (by omega)]) rfl)))
   ·intro i hi he
    have s1:fI (aL m) 0 (i:Int)=some (aL (m.take i)):=by
     have:=fV (s:=aL m) (a:=0) (b:=i) (by omega) (by omega)
     rw [hmm] at this
     simpa using this
    have s2:fI (aL m) ((i+1:Nat):Int) ((aL m).size:Int)=some (aL (m.drop (i+1))):=by
     have:=fV (s:=aL m) (a:=i+1) (b:=(aL m).size) (by omega) (Nat.le_refl _)
     rw [hmm,List.take_of_length_le (by simp; omega)] at this
     exact this
    have w3:some (IntKind.i64.wrap ((i:Int)+1))=some ((i+1:Nat):Int):=by rw [aW (by omega)]
    refine ap (decide_eq_true (by omega)) (ar (hget i hi) (ap (by rw [he]; rfl) (ar s1 (ar w3 (ar s2 (ar (kt _) ?_))))))
    unfold gz
    cases eD ⟨false,aL (m.take i),aL (m.drop (i+1))⟩ <;> rfl
   ·exact ak (decide_eq_false (by omega)) rfl
   ·simp only [Cg]
    cases jc 64 m with
    | none=>rfl
    | some e =>
     dsimp only
     cases eD ⟨false,aL (m.take e),aL (m.drop (e+1))⟩ <;> rfl
  ·rw [hmid]
   refine aI (s:=true) ?_ (ap rfl rfl)
   by_cases hlt:s.size<2
   ·exact ap (decide_eq_true (by omega)) rfl
   ·have c0:=jU (s:=s) (i:=0) (by omega)
    have c1:=jU (s:=s) (i:=s.size-1) (by omega)
    have w:some (IntKind.i64.wrap ((s.size:Int)-1))=some ((s.size-1:Nat):Int):=by rw [gZ (by omega) (by omega)]; congr 1; omega
    have hne:ao s≠[]:=by intro e; have:=aK s; rw [e] at this; simp at this; omega
    refine ak (decide_eq_false (by omega)) (ar c0 ?_)
    by_cases h0:(ao s).getD 0 0=60
    ·refine ak (by rw [h0]; rfl) (ar w (ar c1 ?_))
     have hl:(ao s).getD (s.size-1) 0≠62:=by
      intro h62
      unfold vh at hmid
      rw [if_pos ⟨by rw [kW hne,h0],by rw [aK]; omega,by rw [nm hne,aK,h62]⟩] at hmid
      cases hmid
     have:((ao s).getD (s.size-1) 0 != 62)=true:=by simpa using hl
     rw [this]
    ·exact ap (by simpa using h0) rfl
set_option maxRecDepth 100000
theorem Ab {m:ae} (h:LM m) (hb:bJ m.Lb) (hy:uP m=true):cT m=some true:=by
 have hl:=(fA h).2.2.1
 have hT:=h.1
 unfold uP xJ BY at hy
 simp only [Bool.and_eq_true,decide_eq_true_eq] at hy
 obtain ⟨⟨hF,hn,ha⟩,h4,hd⟩:=hy
 have e1:=kt (aj.mk m.Ld.Lh m.Ld.Lf m.Ld.Lc)
 rw [show aj.mk m.Ld.Lh m.Ld.Lf m.Ld.Lc=m.Ld from rfl] at e1
 have nF:(!eD m.Ld)=false:=by rw [hF]; rfl
 have nN:(!(decide ((1:Int)≤(m.To.length:Int))&&decide ((m.To.length:Int)≤8)))=false:=by rw [decide_eq_true (by omega),decide_eq_true (by omega)]; rfl
 have hbd:bI m.Lb=some true:=by
  rcases vK m.Lb hb (by omega) with ⟨ls,_,_,_,_,h⟩ | ⟨h,_⟩
  ·exact h
  ·rw [hd] at h; exact absurd (Option.some.inj h) (by decide)
 have hlp:aQ (Ku m) bU 0=some (.inl ()):=by
  refine bP (fun i=>((i:Nat):Int)) m.To.length bU rfl (by simp only [bU]; omega) (fun i hi => ?_) (ak (decide_eq_false (by omega)) rfl)
  have hp:=List.all_eq_true.1 ha _ (List.getElem_mem hi)
  unfold uQ at hp
  rw [Bool.and_eq_true] at hp
  exact ap (decide_eq_true (by omega)) (aI (s:=false) (ar (bi hi) (ar (cv hi) (ar (kt _) (ak (by rw [hp.1]; rfl) (ar (bi hi) (ar (cv hi) (cC (by simpa using hp.2)))))))) (ak rfl (ar (congrArg some (aW (n:=i) (by omega))) rfl)))
 unfold cT
 exact aI (s:=false) (ar e1 (ak nF (ar (fo _ _ _) (ak nN (ar hbd (ak rfl (cC (decide_eq_false (by omega))))))))) (ak rfl (aI hlp rfl))
theorem Cl {b:az} (hm:∀ m∈b.Lg,LM m∧bJ m.Lb) (hl:b.Lg.length≤20) (hy:nB b=true):cn b=some true:=by
 unfold nB at hy
 simp only [Bool.and_eq_true,decide_eq_true_eq] at hy
 obtain ⟨⟨ho,hn⟩,hk,ha⟩:=hy
 have no:(!(decide ((0:Int)≤b.Lj)&&decide (b.Lj≤1)))=false:=by rw [decide_eq_true (by omega),decide_eq_true (by omega)]; rfl
 have nn:(!(decide ((1:Int)≤b.Li)&&decide (b.Li≤65535)))=false:=by rw [decide_eq_true hn.1,decide_eq_true hn.2]; rfl
 have nk:(!(decide ((1:Int)≤(b.Lg.length:Int))&&decide ((b.Lg.length:Int)≤4)))=false:=by rw [decide_eq_true (by omega),decide_eq_true (by omega)]; rfl
 have hlp:aQ (Kx b) bU 0=some (.inl ()):=by
  refine bP (fun i=>((i:Nat):Int)) b.Lg.length bU rfl (by simp only [bU]; omega) (fun i hi => ?_) (ak (decide_eq_false (by omega)) rfl)
  have hp:=List.all_eq_true.1 ha _ (List.getElem_mem hi)
  obtain ⟨lm,hb⟩:=hm _ (List.getElem_mem hi)
  unfold pD at hp
  simp only [Bool.and_eq_true,decide_eq_true_eq] at hp
  obtain ⟨h1,h2,h3,h4⟩:=hp
  have h2:(b.Lg[i]).Lk=false:=by simpa using h2
  refine ap (decide_eq_true (by omega)) (ar (bi hi) (ar (cv hi) (aI (s:=false) (ar (x:=true) (Ab lm hb h1) (ak rfl (ak h2 (ak ?_ (cC ?_))))) (ak rfl (ar (congrArg some (aW (n:=i) (by omega))) rfl)))))
  ·rw [cm,h3,show (⟨#[]⟩:Ll)=e0 from rfl,decide_eq_true rfl]; rfl
  ·rw [h4]; rfl
 unfold cn
 exact aI (s:=false) (ar (fo _ _ _) (ak no (ar (fo _ _ _) (ak nn (ar (fo _ _ _) (cC nk)))))) (ak rfl (aI hlp rfl))
theorem uN {b:az} (hm:∀ m∈b.Lg,LM m∧bJ m.Lb) (hl:b.Lg.length≤20):cn b=some (nB b):=by
 cases hb:nB b
 ·obtain ⟨c,hc,h⟩:=vG hm hl
  cases c
  ·exact hc
  ·rw [h rfl] at hb; cases hb
 ·exact Cl hm hl hb
theorem xx {b:az} (hm:∀ m∈b.Lg,LM m∧bJ m.Lb) (hl:b.Lg.length≤20) (hc:cn b=some true) :
  bj b=some (if 4096<(dO b).length then ([],2) else (dO b,0))∧bp b=some (if 4096<(dO b).length then ([],2) else (dO b,0)):=by
 have hbb:nB b=true:=by
  obtain ⟨c,hc1,hc2⟩:=vG hm hl
  rw [hc] at hc1
  exact hc2 (Option.some.inj hc1).symm
 have hck:=nh hm hl
 rw [hbb] at hck
 obtain ⟨e,he,h5,h0⟩:=Ci hm hl
 rw [show cR b=some 0 from hck] at he
 obtain ⟨ho,hn1,hn2,hl1,hl4,hv⟩:=h0 (Option.some.inj he).symm
 have hcb:=sS hv
 have hlen:=jp hv
 have hlen2:b.Lg.length * 1000000≤4 * 1000000:=Nat.mul_le_mul_right _ hl4
 have hcl:(eL b.Lg).length≤4000006:=by simp only [eL,ia,List.length_append,List.length_cons,List.length_nil]; omega
 have hns:[b.Lj,b.Li,(b.Lg.length:Int),((dr b.Lg++[81,85,73,84,13,10]).length:Int),((lY (eL b.Lg):Nat):Int)]=(iI b).map (fun n:Nat=>(n:Int)):=by
  show _=[((b.Lj.toNat:Nat):Int),((b.Li.toNat:Nat):Int),((b.Lg.length:Nat):Int),(((eL b.Lg).length:Nat):Int),((lY (eL b.Lg):Nat):Int)]
  rw [show ((b.Lj.toNat:Nat):Int)=b.Lj by omega,show ((b.Li.toNat:Nat):Int)=b.Li by omega]
  rfl
 have hsl:=um hcb
 have hn:∀ n∈iI b,n<10 ^ 18:=by
  intro n hn
  simp only [iI,List.mem_cons,List.not_mem_nil,or_false] at hn
  rcases hn with rfl | rfl | rfl | rfl | rfl <;> omega
 have hby:=xj hck hv hl (rn hcb (by show (eL b.Lg).length<_; omega)) hns hn
 have ew:(fP++fT (iI b))++[13,10]++(dr b.Lg++[81,85,73,84,13,10])=dO b:=by simp [dO,eL,ia]
 rw [ew] at hby
 obtain ⟨v4,d4,x4⟩:=Cm (n:=b.Lj.toNat) (by omega)
 obtain ⟨v7,d7,x7⟩:=Cm (n:=b.Li.toNat) (by omega)
 obtain ⟨v10,d10,x10⟩:=Cm (n:=b.Lg.length) (by omega)
 obtain ⟨v13,HV,x13⟩:=Cm (n:=(eL b.Lg).length) (by omega)
 obtain ⟨v17,d17,x17⟩:=Cm (n:=lY (eL b.Lg)) (by omega)
 rw [show ((b.Lj.toNat:Nat):Int)=b.Lj by omega] at d4
 rw [show ((b.Li.toNat:Nat):Int)=b.Li by omega] at d7
 obtain ⟨v5,c5,x5⟩:=tn tW x4 (by omega)
 obtain ⟨v6,c6,x6⟩:=tn x5 t1 (by omega)
 obtain ⟨v8,c8,x8⟩:=tn x6 x7 (by omega)
 obtain ⟨v9,c9,x9⟩:=tn x8 t1 (by omega)
 obtain ⟨v11,c11,x11⟩:=tn x9 x10 (by omega)
 obtain ⟨v12,c12,x12⟩:=tn x11 t1 (by omega)
 obtain ⟨v14,c14,x14⟩:=tn x12 x13 (by omega)
 obtain ⟨v15,c15,x15⟩:=tn x14 t1 (by omega)
 obtain ⟨v18,c18,x18⟩:=tn x15 x17 (by omega)
 obtain ⟨v19,c19,x19⟩:=tn x18 tE (by omega)
 have hap:co 1 (ao v19) (eL b.Lg)=some (dO b):=by
  have h1:=x19.le
  rw [x19.e,cA (by omega) (by omega)]
  simp [dO,iI,fT]
 have key:∀ r,(cond (decide (4096<((dO b).length:Int))) (some ([],2)) (some (dO b,0)):Option (List Int×Int))=some r→bj b=some r:=fun r hr=>by
  unfold bj
  exact ar hc (ak rfl (ar (DP hv hl) (ar d4 (ar c5 (ar c6 (ar d7 (ar c8 (ar c9 (ar d10 (ar c11 (ar c12 (ar HV (ar c14 (ar c15 (ar (wH hcb (by omega)) (ar d17 (ar c18 (ar c19 (ar rfl (ar hap hr))))))))))))))))))))
 refine ⟨?_,hby⟩
 by_cases h:4096<(dO b).length
 ·rw [if_pos h]; exact key _ (ap (decide_eq_true (by omega)) rfl)
 ·rw [if_neg h]; exact key _ (ak (decide_eq_false (by omega)) rfl)
theorem BX {b:az} (hm:∀ m∈b.Lg,LM m∧bJ m.Lb) (hl:b.Lg.length≤20):bj b=bp b:=by
 cases hb:nB b
 ·have h1:=uN hm hl
  have h2:=nh hm hl
  rw [hb] at h1 h2
  have e1:bj b=some ([],5):=by unfold bj; exact ar h1 (ap rfl rfl)
  have e2:bp b=some ([],5):=by unfold bp; exact ar (x:=5) h2 (ap rfl rfl)
  rw [e1,e2]
 ·have:=xx hm hl ((uN hm hl).trans (congrArg some hb))
  rw [this.1,this.2]
set_option maxRecDepth 100000
def KT (s:Ll):(((List Ll)×Int×Int))→Option (((List Ll)×Int×Int)⊕(((List Ll))⊕(List Ll))):=(fun ((s41,s42,s43):(List Ll)×Int×Int) =>
 cond ((decide (s43≤(s.size:Int))))
  (aF (S:=(List Ll)×Int) (A:=(((List Ll)×Int×Int)⊕(((List Ll))⊕(List Ll))))
   (aF (S:=Bool) (A:=(((List Ll)×Int)⊕(((List Ll)×Int×Int)⊕(((List Ll))⊕(List Ll)))))
    (cond ((s43==(s.size:Int)))
     (some (.inl true))
     ((dh s s43).bind fun v2 =>
     some (.inl (v2==32))))
    (fun (s78:Bool) =>
     cond (s78)
      ((fI s s42 s43).bind fun v8 =>
      (co 16 s41 [v8]).bind fun v9 =>
      (some (IntKind.i64.wrap (s43+1))).bind fun v10 =>
      some (.inl (v9,v10)))
      (some (.inl (s41,s42)))) some)
   (fun ((s73,s74):(List Ll)×Int) =>
    (some (IntKind.i64.wrap (s43+1))).bind fun v21 =>
    some (.inl (s73,s74,v21))) some)
  (some (.inr (.inl s41))))
def Kr (s:Ll):((Int×Int))→Option ((Int×Int)⊕((Int)⊕Int)):=(fun ((s22,s23):Int×Int) =>
 cond ((decide (s23<(s.size:Int))))
  ((dh s s23).bind fun v9 =>
  (cx v9).bind fun v10 =>
  cond ((!v10))
   (some (.inr (.inr ((-1)))))
   ((some (IntKind.i64.wrap (10 * s22))).bind fun v12 =>
   (dh s s23).bind fun v13 =>
   (some (IntKind.u8.wrap (v13-48))).bind fun v14 =>
   (some (IntKind.i64.wrap v14)).bind fun v15 =>
   (some (IntKind.i64.wrap (v12+v15))).bind fun v16 =>
   (some (IntKind.i64.wrap (s23+1))).bind fun v17 =>
   some (.inl (v16,v17))))
  (some (.inr (.inl s22))))
def Hy (c:List Int) (v6:aj×Bool):(((List aj)×Int))→Option (((List aj)×Int)⊕(((List aj)×Int×Int)⊕(ae×Int×Bool))):=(fun ((s36,s37):(List aj)×Int) =>
 (cf c s37).bind fun v13 =>
 cond ((decide (v13<0)))
  (some (.inr (.inr (((ae.mk v6.1 s36 [] false (⟨#[]⟩:Ll) 0),0,false)))))
  ((eM c s37 v13).bind fun v15 =>
  (some (aL v15)).bind fun v16 =>
  (bW v16 (⟨#[82,67,80,84,32,84,79,58]⟩:Ll)).bind fun v17 =>
  cond ((!v17.2))
   (some (.inr (.inl (s36,s37,v13))))
   ((cH v17.1).bind fun v19 =>
   aF (S:=Bool) (A:=(((List aj)×Int)⊕(((List aj)×Int×Int)⊕(ae×Int×Bool))))
    (cond ((!v19.2))
     (some (.inl true))
     (some (.inl ((decide (8≤(s36.length:Int)))))))
    (fun (s56:Bool) =>
     cond (s56)
      (some (.inr (.inr (((ae.mk v6.1 s36 [] false (⟨#[]⟩:Ll) 0),0,false)))))
      ((co 40 s36 [v19.1]).bind fun v25 =>
      (some (IntKind.i64.wrap (v13+2))).bind fun v26 =>
      some (.inl (v25,v26)))) some)))
theorem fL {S A:Type} {a b:S} (h:a=b):(some (.inl a):Option (S⊕A))=some (.inl b):=by rw [h]
def wq (cur:List Int):List (List Int)→List (List Int)
 | []=>[cur]
 | p::ps=>(cur++p)::ps
theorem xl (l:List Int):wq [] (eW 32 l)=eW 32 l:=by
 cases h:eW 32 l with
 | nil=>exact absurd h (jf 32 l)
 | cons p ps=>rfl
theorem Ej (cur l:List Int):wq cur (eW 32 (32::l))=cur::eW 32 l:=by
 have e:eW 32 (32::l)=[]::eW 32 l:=by
  conv=>lhs; unfold eW
  rw [if_pos rfl]
 rw [e]
 simp [wq]
theorem FS {x:Int} (h:x≠32) (cur l:List Int):wq cur (eW 32 (x::l))=wq (cur++[x]) (eW 32 l):=by
 have e:eW 32 (x::l)=match eW 32 l with | []=>[[x]] | p::ps=>(x::p)::ps:=by
  conv=>lhs; unfold eW
  rw [if_neg h]
  cases eW 32 l <;> rfl
 rw [e]
 cases hs:eW 32 l with
 | nil=>exact absurd hs (jf 32 l)
 | cons p ps=>simp [wq]
theorem xf {A:Type} {l r:List A} {x:A} {i:Nat} (h:l.drop i=x::r):∃ hi:i<l.length,l[i]=x∧l.drop (i+1)=r:=by
 have hi:i<l.length:=by
  have:=congrArg List.length h
  rw [List.length_drop,List.length_cons] at this
  omega
 rw [List.drop_eq_getElem_cons hi] at h
 exact ⟨hi,(List.cons.inj h).1,(List.cons.inj h).2⟩
theorem BL (s:Ll) (hs:s.size≤100000):∀ (rest cur:List Int) (acc:List Ll) (f i fuel:Nat),(ao s).drop i=rest→f≤i→i+rest.length=s.size→((ao s).drop f).take (i-f)=cur→acc.length≤i→rest.length+1<fuel →
  aQ (KT s) fuel (acc,(f:Int),(i:Int))=some (.inl (acc++(wq cur (eW 32 rest)).map aL))
 | [],cur,acc,f,i,fuel,hd,hf,hl,hc,ha,hfu=>by
  obtain ⟨u,rfl⟩:∃ u,fuel=u+1+1:=⟨fuel-2,by omega⟩
  rw [List.length_nil] at hl
  have hsub:=fV (s:=s) (a:=f) (b:=i) hf (by omega)
  rw [hc] at hsub
  refine (bx (s':=(acc++[aL cur],((i+1:Nat):Int),((i+1:Nat):Int))) ?_).trans ((aS (ak (decide_eq_false (by omega)) rfl)).trans ?_)
  ·refine ap (decide_eq_true (by omega)) (aI (s:=(acc++[aL cur],((i+1:Nat):Int))) (aI (s:=true) (ap (beq_iff_eq.2 (by omega)) rfl) (ap rfl (ar hsub (ar (cA (by simp only [List.length_cons,List.length_nil]; omega) (by simp only [List.length_cons,List.length_nil]; omega)) (ar (congrArg some (aW (n:=i) (by omega))) rfl))))) (ar (congrArg some (aW (n:=i) (by omega))) rfl))
  ·simp [eW,wq]
 | x::r,cur,acc,f,i,fuel,hd,hf,hl,hc,ha,hfu=>by
  obtain ⟨u,rfl⟩:∃ u,fuel=u+1:=⟨fuel-1,by omega⟩
  rw [List.length_cons] at hl hfu
  obtain ⟨hi,hx,hr⟩:=xf hd
  have hi2:i<s.size:=by rw [aK] at hi; exact hi
  have hch:=uj hi2
  rw [hx] at hch
  by_cases h32:x=32
  ·subst h32
   have hsub:=fV (s:=s) (a:=f) (b:=i) hf (by omega)
   rw [hc] at hsub
   refine (bx (s':=(acc++[aL cur],((i+1:Nat):Int),((i+1:Nat):Int))) ?_).trans ((BL s hs r [] (acc++[aL cur]) (i+1) (i+1) u hr (Nat.le_refl _) (by omega) (by simp) (by simp; omega) (by omega)).trans ?_)
   ·refine ap (decide_eq_true (by omega)) (aI (s:=(acc++[aL cur],((i+1:Nat):Int))) (aI (s:=true) (ak (beq_eq_false_iff_ne.2 (by omega)) (ar hch rfl)) (ap rfl (ar hsub (ar (cA (by simp only [List.length_cons,List.length_nil]; omega) (by simp only [List.length_cons,List.length_nil]; omega)) (ar (congrArg some (aW (n:=i) (by omega))) rfl))))) (ar (congrArg some (aW (n:=i) (by omega))) rfl))
   ·rw [Ej,xl]; simp
  ·refine (bx (s':=(acc,(f:Int),((i+1:Nat):Int))) ?_).trans ((BL s hs r (cur++[x]) acc f (i+1) u hr (by omega) (by omega) ?_ (by omega) (by omega)).trans ?_)
   ·exact ap (decide_eq_true (by omega)) (aI (s:=(acc,(f:Int))) (aI (s:=false) (ak (beq_eq_false_iff_ne.2 (by omega)) (ar hch (fL (beq_eq_false_iff_ne.2 h32)))) (ak rfl rfl)) (ar (congrArg some (aW (n:=i) (by omega))) rfl))
   ·rw [← hc,show i+1-f=(i-f)+1 by omega,List.take_add_one]
    congr 1
    rw [List.getElem?_drop,show f+(i-f)=i by omega,List.getElem?_eq_getElem hi,hx]
    rfl
   ·rw [FS h32]
theorem Bw {l:List Int} (hb:bJ l) (hl:l.length≤5000):eo (aL l)=some ((eW 32 l).map aL):=by
 have h:=BL (aL l) (by rw [cV]; omega) l [] [] 0 0 bU (by rw [aH hb]; rfl) (Nat.le_refl _) (by rw [cV]; omega) (by simp) (by simp) (by simp only [bU]; omega)
 rw [xl] at h
 unfold eo
 exact aI h rfl
theorem FI (s:Ll) (hs:s.size≤10):∀ (rest:List Int) (n i fuel:Nat),(ao s).drop i=rest→i+rest.length=s.size→n<10 ^ i→rest.length<fuel →
  aQ (Kr s) fuel ((n:Int),(i:Int))=some (if rest.all sZ=true then .inl ((oe n rest:Nat):Int) else .inr (-1))
 | [],n,i,fuel,hd,hl,hn,hfu=>by
  obtain ⟨u,rfl⟩:∃ u,fuel=u+1:=⟨fuel-1,by omega⟩
  rw [List.length_nil] at hl
  refine (aS (ak (decide_eq_false (by omega)) rfl)).trans ?_
  simp [oe]
 | x::r,n,i,fuel,hd,hl,hn,hfu=>by
  obtain ⟨u,rfl⟩:∃ u,fuel=u+1:=⟨fuel-1,by omega⟩
  rw [List.length_cons] at hl hfu
  obtain ⟨hi,hx,hr⟩:=xf hd
  have hi2:i<s.size:=by rw [aK] at hi; exact hi
  have hch:=uj hi2
  rw [hx] at hch
  have h9:10 ^ i≤10 ^ 9:=Nat.pow_le_pow_right (by omega) (by omega)
  cases hdg:sZ x
  ·refine (aS (ap (decide_eq_true (by omega)) (ar hch (ar (xB x) (ap (by rw [show yA x=sZ x from rfl,hdg]; rfl) rfl))))).trans ?_
   rw [List.all_cons,hdg,Bool.false_and,if_neg (by decide)]
  ·have hd2:=hdg
   unfold sZ at hd2
   rw [Bool.and_eq_true,decide_eq_true_eq,decide_eq_true_eq] at hd2
   have hp:10 ^ (i+1)=10 ^ i * 10:=Nat.pow_succ 10 i
   refine (bx (s':=(((n * 10+(x-48).toNat:Nat):Int),((i+1:Nat):Int))) ?_).trans ((FI s hs r (n * 10+(x-48).toNat) (i+1) u hr (by omega) (by omega) (by omega)).trans ?_)
   ·refine ap (decide_eq_true (by omega)) (ar hch (ar (xB x) (ak (by rw [show yA x=sZ x from rfl,hdg]; rfl) (ar (cL (by omega) (by omega)) (ar hch (ar (congrArg some (EW (by omega) (by omega))) (ar (cL (by omega) (by omega)) (ar (cL (by omega) (by omega)) (ar (congrArg some (aW (n:=i) (by omega))) ?_)))))))))
    rw [show (10 * (n:Int)+(x-48))=((n * 10+(x-48).toNat:Nat):Int) by omega]
   ·rw [List.all_cons,hdg,Bool.true_and]; rfl
theorem rU {w:List Int} (hb:bJ w):dT (aL w) 10=some (if dq w=true then vI w else-1):=by
 have hsz:=cV w
 unfold dT
 by_cases h1:1≤w.length∧w.length≤10
 case neg =>
  have:dq w=false:=by
   unfold dq
   cases w with
   | nil=>rfl
   | cons x r=>rw [decide_eq_false (p:=(x::r).length≤10) (fun h=>h1 ⟨by simp,h⟩)]; simp
  rw [this,if_neg (by decide)]
  refine aI (s:=true) (ar (fo _ _ _) (ap ?_ rfl)) (ap rfl rfl)
  rw [Bool.not_eq_true',Bool.and_eq_false_iff,hsz]
  by_cases h2:1≤w.length
  ·exact .inr (decide_eq_false (by omega))
  ·exact .inl (decide_eq_false (by omega))
 have nin:(!(decide ((1:Int)≤((aL w).size:Int))&&decide (((aL w).size:Int)≤10)))=false:=by rw [decide_eq_true (by omega),decide_eq_true (by omega)]; rfl
 have hgo:=FI (aL w) (by omega) w 0 0 bU (by rw [aH hb]; rfl) (by omega) (by decide) (by simp only [bU]; omega)
 have fin:∀ {b:Bool},dq w=(b&&w.all sZ)→b=true→(aF (S:=(Int)) (A:=Int) (aQ (Kr (aL w)) bU (0,0)) (fun (s26:Int)=>some (s26)) some)=some (if dq w=true then vI w else-1):=by
  intro b h hbt
  rw [h,hbt,Bool.true_and]
  by_cases ha:w.all sZ=true
  ·rw [if_pos ha] at hgo ⊢
   exact aI hgo rfl
  ·rw [if_neg ha] at hgo ⊢
   exact jY hgo rfl
 cases w with
 | nil=>simp at h1
 | cons c r =>
  have hnt:dq (c::r)=(!(decide (c=48)&&decide (r≠[]))&&(c::r).all sZ):=by
   unfold dq
   rw [decide_eq_true h1.2]
   have e1:((c::r).head? == some 48)=decide (c=48):=by
    by_cases h:c=48
    ·subst h; rfl
    ·rw [decide_eq_false h]; exact beq_eq_false_iff_ne.2 (by simpa using h)
   rw [e1]
   by_cases h:c=48
   ·subst h; simp
   ·rw [decide_eq_false h]; simp
  cases r with
  | nil=>exact aI (s:=false) (ar (fo _ _ _) (ak nin (ak (decide_eq_false (by rw [hsz]; simp)) rfl))) (ak rfl (fin hnt (by simp)))
  | cons d q =>
   have hch:=uj (s:=aL (c::d::q)) (i:=0) (by rw [hsz]; simp)
   have hg0:(ao (aL (c::d::q)))[0]'(by rw [aK,hsz]; simp)=c:=by
    have:=aH hb
    simp only [this,List.getElem_cons_zero]
   rw [hg0] at hch
   by_cases h48:c=48
   ·refine aI (s:=true) (ar (fo _ _ _) (ak nin (ap (decide_eq_true (by rw [hsz]; simp only [List.length_cons]; omega)) (ar hch (fL (beq_iff_eq.2 h48)))))) (ap rfl ?_)
    rw [hnt,h48]; simp
   ·exact aI (s:=false) (ar (fo _ _ _) (ak nin (ap (decide_eq_true (by rw [hsz]; simp only [List.length_cons]; omega)) (ar hch (fL (beq_eq_false_iff_ne.2 h48)))))) (ak rfl (fin hnt (by rw [decide_eq_false h48]; rfl)))
theorem rO {word:Ll} {w r:List Int} (hw:ao word=w) (hb:bJ (w++r)) (hl:(w++r).length≤100000):bW (aL (w++r)) word=some (aL r,true):=by
 have hs:=cV (w++r)
 have hz:word.size=w.length:=by rw [← hw,aK]
 rw [List.length_append] at hs hl
 have h1:=fV (s:=aL (w++r)) (a:=0) (b:=word.size) (by omega) (by omega)
 have h2:=fV (s:=aL (w++r)) (a:=word.size) (b:=(aL (w++r)).size) (by omega) (by omega)
 rw [aH hb,hz] at h1 h2
 rw [List.drop_zero,Nat.sub_zero,List.take_left] at h1
 rw [hs,List.drop_left,Nat.add_sub_cancel_left,List.take_length] at h2
 unfold bW
 refine aI (s:=false) (ak (decide_eq_false (by omega)) (ar (x:=aL w) (by rw [hz]; exact h1) (fL ?_))) (ak rfl (ar (x:=aL r) (by rw [hs,hz]; exact h2) rfl))
 rw [cm,decide_eq_true (by rw [← hw,im])]
 rfl
theorem uy {word:Ll} {w l:List Int} (hw:ao word=w) (hb:bJ l) (hl:l.length≤100000) (h:¬ w <+: l):bW (aL l) word=some ((⟨#[]⟩:Ll),false):=by
 have hs:=cV l
 have hz:word.size=w.length:=by rw [← hw,aK]
 unfold bW
 by_cases hlt:l.length<w.length
 ·exact aI (s:=true) (ap (decide_eq_true (by omega)) rfl) (ap rfl rfl)
 ·have h1:=fV (s:=aL l) (a:=0) (b:=word.size) (by omega) (by omega)
  rw [aH hb,List.drop_zero,Nat.sub_zero] at h1
  refine aI (s:=true) (ak (decide_eq_false (by omega)) (ar h1 (fL ?_))) (ap rfl rfl)
  rw [cm,decide_eq_false]
  ·rfl
  ·intro e
   have:=congrArg ao e
   rw [aH (eO hb _),hw,hz] at this
   have h2:=List.take_append_drop w.length l
   rw [this] at h2
   exact h ⟨_,h2⟩
theorem ph {c line rest:List Int} {a:Nat} (hl:c.length≤10000) (ha:a≤c.length) (h:c.drop a=line++13::10::rest) (h13:∀ x∈line,x≠13) :
  cf c (a:Int)=some ((a+line.length:Nat):Int)∧eM c (a:Int) ((a+line.length:Nat):Int)=some line∧a+line.length+2+rest.length=c.length∧c.drop (a+line.length+2)=rest:=by
 have he:=xM c (by omega) ha
 rw [h,lA h13] at he
 have hlen:=congrArg List.length h
 rw [List.length_drop,List.length_append,List.length_cons,List.length_cons] at hlen
 have hs:=du c (a:=a) (b:=a+line.length) (by omega) (by omega)
 rw [h,Nat.add_sub_cancel_left,List.take_left] at hs
 refine ⟨he,hs,by omega,?_⟩
 rw [Nat.add_assoc,← List.drop_drop,h,← List.drop_drop,List.drop_left]
 rfl
set_option maxRecDepth 100000
def Fb (v38:List Int):(((List ae)×Int))→Option (((List ae)×Int)⊕(((List ae))⊕(az×Int))):=(fun ((s64,s65):(List ae)×Int) =>
 cond ((decide ((s64.length:Int)≤4)))
  ((cF v38 s65).bind fun v57 =>
  cond ((!v57.2.2))
   (some (.inr (.inl s64)))
   ((co 120 s64 [(ae.mk (aj.mk v57.1.Ld.Lh v57.1.Ld.Lf v57.1.Ld.Lc) v57.1.To v57.1.Lb v57.1.Lk v57.1.Le v57.1.At)]).bind fun v59 =>
   some (.inl (v59,v57.2.1))))
  (some (.inr (.inl s64))))
theorem rQ {l:List Int} (hb:bJ l) (hl:l.length≤100000):cH (aL l)=some (match rC l with | some p=>(p,true) | none=>(nz,false)):=by
 have:=uh (aL l) (by rw [cV]; omega)
 rwa [aH hb] at this
theorem oU {c X:List Int} {a:Nat} (hc:bJ c) (h:c.drop a=X):bJ X:=h ▸ dn hc a
theorem tN {c X Y:List Int} {a:Nat} (h:c.drop a=X++Y):c.drop (a+X.length)=Y:=by
 rw [← List.drop_drop,h,List.drop_left]
theorem zj {c X:List Int} {a:Nat} (ha:a≤c.length) (h:c.drop a=X):a+X.length=c.length:=by
 have:=congrArg List.length h
 rw [List.length_drop] at this
 omega
theorem sd {x y:List Int} (h:bJ (x++y)):bJ x:=fun v hv=>h v (List.mem_append_left _ hv)
theorem tA {w:List Int} {p:aj} {X:List Int}:pL w p++X=(w++fm p)++13::10::X:=by simp [pL]
theorem Hv {w:List Int} {p:aj} (hw:∀ x∈w,x≠13) (hp:eD p=true):∀ x∈w++fm p,x≠13:=fun x hx=>by
 rcases List.mem_append.1 hx with h | h
 ·exact hw x h
 ·exact Fl hp x h
theorem GK {c:List Int} {v6:aj×Bool} {To:List aj} {more:List Int} {a:Nat} (hc:bJ c) (hl:c.length≤10000) (ha:a≤c.length) (hp:∀ p∈To,eD p=true) (ht:To.length≤8) (hd:c.drop a=iE To++(fO++13::10::more)) :
  aQ (Hy c v6) bU ([],(a:Int))=some (.inl (To,((a+(iE To).length:Nat):Int),((a+(iE To).length+4:Nat):Int))):=by
 have split:∀ i,iE To=iE (To.take i)++iE (To.drop i):=fun i=>by rw [← oX,List.take_append_drop]
 have hdi:∀ i,c.drop (a+(iE (To.take i)).length)=iE (To.drop i)++(fO++13::10::more):=fun i=>tN (by rw [hd,split i,List.append_assoc])
 have hle:∀ i,a+(iE (To.take i)).length≤c.length:=fun i=>by
  have h1:=zj ha hd
  have h2:=congrArg List.length (split i)
  rw [List.length_append] at h1 h2
  omega
 refine bP (fun i=>(To.take i,((a+(iE (To.take i)).length:Nat):Int))) To.length bU (by simp [iE]) (by simp only [bU]; omega) (fun i hi => ?_) ?_
 ·have e:To.drop i=To[i]::To.drop (i+1):=List.drop_eq_getElem_cons hi
  have h1:=hdi i
  rw [e,show iE (To[i]::To.drop (i+1))=pL jt To[i]++iE (To.drop (i+1)) from rfl,List.append_assoc,tA] at h1
  have hpi:=hp _ (List.getElem_mem hi)
  obtain ⟨g1,g2,g3,g4⟩:=ph hl (hle i) h1 (Hv KC hpi)
  have hlb:bJ (jt++fm To[i]):=sd (oU hc h1)
  have htl:(To.take i).length=i:=by simp; omega
  have hlen:(jt++fm To[i]).length≤10000:=by omega
  have hcut:=rO Ea hlb (by omega)
  have hpar:=rQ (l:=fm To[i]) (gO _) (by rw [List.length_append] at hlen; omega)
  rw [vp _ hpi] at hpar
  have en:a+(iE (To.take (i+1))).length=a+(iE (To.take i)).length+(jt++fm To[i]).length+2:=by
   have h2:=congrArg List.length (split i)
   have h3:=congrArg List.length (split (i+1))
   rw [e] at h2
   simp only [iE,pL,List.length_append,List.length_cons,List.length_nil] at h2 h3 ⊢
   omega
  have hw:some (IntKind.i64.wrap (((a+(iE (To.take i)).length+(jt++fm To[i]).length:Nat):Int)+2))=some ((a+(iE (To.take i)).length+(jt++fm To[i]).length+2:Nat):Int):=by rw [cL (by omega) (by omega)]; simp
  refine ar g1 (ak (decide_eq_false (by omega)) (ar g2 (ar rfl (ar hcut (ak rfl (ar (x:=(To[i],true)) hpar (aI (s:=false) (ak rfl (fL (decide_eq_false (by show ¬ (8:Int)≤((To.take i).length:Int); omega)))) (ak rfl (ar (cA (by simp only [htl,List.length_cons,List.length_nil]; omega) (by simp only [htl,List.length_cons,List.length_nil]; omega)) (ar hw ?_))))))))))
  rw [en,List.take_succ_eq_append_getElem hi]
 ·have h1:=hdi To.length
  rw [List.drop_length,List.take_length] at h1
  have h1:c.drop (a+(iE To).length)=fO++13::10::more:=h1
  have hle1:=hle To.length
  rw [List.take_length] at hle1
  obtain ⟨g1,g2,g3,g4⟩:=ph hl hle1 h1 HV
  have hcut:=uy Ea CI (by decide) (by decide)
  rw [List.take_length]
  exact ar g1 (ak (decide_eq_false (by omega)) (ar g2 (ar rfl (ar hcut (ap rfl rfl)))))
theorem Dd {m:ae} (h:Pm m) {more:List Int} (hb:bJ (eU m.Lb++more)) (hl:(eU m.Lb++more).length≤10000):da (eU m.Lb++more)=some (m.Lb,(((eU m.Lb).length:Nat):Int),0):=by
 obtain ⟨ls,c1,c2,c3⟩:=h.bd
 have hbl:=h.bl
 have ht:dW ls≤4096:=by rw [← cu,← c3]; exact hbl
 have hs:=mv c1 c2 (by omega:dW ls<1000000000)
 rw [← c3] at hs
 have e:eU m.Lb=jn (ls.map lQ++[[46]]):=by unfold eU; rw [hs]; rfl
 have hm:bJ more:=fun x hx=>hb x (List.mem_append_right _ hx)
 have hlen:(eU m.Lb).length=dW (ls.map lQ)+3:=by rw [e,cu,jl]; rfl
 rw [List.length_append] at hl
 have hstr:=wA (ls:=ls.map lQ) (more:=more) (by
  intro l hl; obtain ⟨k,hk,rfl⟩:=List.mem_map.1 hl; exact yZ (c1 k hk)) (by
  intro l hl; obtain ⟨k,hk,rfl⟩:=List.mem_map.1 hl; exact rb (c2 k hk)) (by
  intro l hl; obtain ⟨k,hk,rfl⟩:=List.mem_map.1 hl; exact yV k) hm (by omega)
 rw [← e,zy,← c3] at hstr
 obtain ⟨d,m',g,q1,q2,_⟩:=wQ (eU m.Lb++more) hb (by rw [List.length_append]; omega)
 rw [hstr] at q1
 rw [q2,← q1,hlen]
theorem GE {m:ae} (h:Pm m) {c more:List Int} {a:Nat} (hc:bJ c) (hl:c.length≤10000) (ha:a≤c.length) (hd:c.drop a=qx m++more):cF c (a:Int)=some (m,((a+(qx m).length:Nat):Int),true):=by
 have e1:qx m++more=pL iU m.Ld++(iE m.To++(fO++13::10::(eU m.Lb++more))):=by simp [qx,fO]
 have h1:=hd
 rw [e1,tA] at h1
 obtain ⟨g1,g2,g3,g4⟩:=ph hl ha h1 (Hv Kl h.pf)
 have hlb:bJ (iU++fm m.Ld):=sd (oU hc h1)
 have hcut:=rO Fa hlb (by omega)
 have hpar:=rQ (l:=fm m.Ld) (gO _) (by rw [List.length_append] at g3; omega)
 rw [vp _ h.pf] at hpar
 generalize hA:a+(iU++fm m.Ld).length=A at *
 have hA2:A+2≤c.length:=by omega
 have hlp:=GK (v6:=(m.Ld,true)) hc hl hA2 h.pt h.tl g4
 have h2:c.drop (A+2+(iE m.To).length)=fO++13::10::(eU m.Lb++more):=tN g4
 have hB:A+2+(iE m.To).length≤c.length:=by
  have:=zj hA2 g4
  rw [List.length_append] at this
  omega
 generalize hBe:A+2+(iE m.To).length=B at *
 obtain ⟨k1,k2,k3,k4⟩:=ph hl hB h2 HV
 have hd4:fO.length=4:=rfl
 rw [hd4] at k1 k2 k3 k4
 have hsb:=oU hc k4
 have hsl:(eU m.Lb++more).length≤10000:=by omega
 have hst:=Dd h hsb hsl
 have hsli:=du c (a:=B+4+2) (b:=c.length) (by omega) (Nat.le_refl _)
 rw [k4,show c.length-(B+4+2)=(eU m.Lb++more).length by omega,List.take_length] at hsli
 have hcl:(qx m).length=(pL iU m.Ld).length+((iE m.To).length+(6+(eU m.Lb).length)):=by simp only [qx,List.length_append,List.length_cons,List.length_nil]
 have hln:(pL iU m.Ld).length=(iU++fm m.Ld).length+2:=by simp only [pL,List.length_append,List.length_cons,List.length_nil]; omega
 have hw:some (IntKind.i64.wrap (((B+4:Nat):Int)+2))=some ((B+4+2:Nat):Int):=by rw [cL (by omega) (by omega)]; simp
 rw [List.length_append] at k3 hsl
 have hw3:some (IntKind.i64.wrap (((B+4+2:Nat):Int)+(((eU m.Lb).length:Nat):Int)))=some ((a+(qx m).length:Nat):Int):=by
  rw [cL (by omega) (by omega)]
  congr 1
  omega
 unfold cF
 refine ar g1 (ak (decide_eq_false (by omega)) (ar g2 (ar rfl (ar hcut (ar (x:=(m.Ld,true)) hpar (aI (s:=false) (ak rfl rfl) (ak rfl (ar (x:=((A+2:Nat):Int)) (by rw [cL (by omega) (by omega)]; simp) (aI hlp (ar (k2) (ar rfl (ak ?_ (ar hw (ar hsli (ar hst (ak rfl (ar hw (ar hw3 ?_))))))))))))))))))
 ·rw [IW,aH CI]; rfl
 ·show some (ae.mk m.Ld m.To m.Lb false (⟨#[]⟩:Ll) 0,((a+(qx m).length:Nat):Int),true)=_
  rw [FA h]
theorem HH {c line rest:List Int} {a:Nat} (hc:bJ c) (hl:c.length≤10000) (ha:a≤c.length) (hd:c.drop a=line++13::10::rest) (h13:∀ x∈line,x≠13) (hno:¬ iU <+: line):∃ mm,cF c (a:Int)=some (mm,0,false):=by
 obtain ⟨g1,g2,g3,g4⟩:=ph hl ha hd h13
 have hlb:bJ line:=sd (oU hc hd)
 have hcut:=uy Fa hlb (by omega) hno
 have hpar:=uh (⟨#[]⟩:Ll) (by decide)
 unfold cF
 exact ⟨_,ar g1 (ak (decide_eq_false (by omega)) (ar g2 (ar rfl (ar hcut (ar hpar (aI (s:=true) (ap rfl rfl) (ap rfl rfl)))))))⟩
theorem vd {word:Ll} {w l:List Int} (hw:ao word=w) (hb:bJ l) (hl:l.length≤100000):∃ r ok,bW (aL l) word=some (aL r,ok)∧bJ r∧r.length≤l.length:=by
 by_cases h:w <+: l
 ·obtain ⟨r,rfl⟩:=h
  exact ⟨r,true,rO hw hb hl,fun x hx=>hb x (List.mem_append_right _ hx),by simp⟩
 ·exact ⟨[],false,uy hw hb hl h,dv,Nat.zero_le _⟩
theorem ux {l:List Int} (hb:bJ l) (hl:l.length≤100000):∃ p ok,cH (aL l)=some (p,ok)∧(ok=true→eD p=true):=by
 have h:=rQ hb hl
 cases hp:rC l with
 | none=>rw [hp] at h; exact ⟨_,_,h,fun e=>by cases e⟩
 | some p=>rw [hp] at h; exact ⟨_,_,h,fun _=>(zB hb hp).2⟩
theorem vj {c:List Int} {a:Nat} (hl:c.length≤10000) (ha:a≤c.length):cf c (a:Int)=some (-1)∨∃ e:Nat,cf c (a:Int)=some ((e:Nat):Int)∧a≤e∧e+2≤c.length∧eM c (a:Int) (e:Int)=some ((c.drop a).take (e-a)):=by
 have h:=xM c (by omega) ha
 cases hi:gE (c.drop a) with
 | none=>rw [hi] at h; exact .inl h
 | some e =>
  rw [hi] at h
  obtain ⟨h1,h2⟩:=fS hi
  rw [List.length_drop] at h1
  exact .inr ⟨a+e,h,by omega,by omega,du c (by omega) (by omega)⟩
theorem Gv {c:List Int} {v6:aj×Bool} (hc:bJ c) (hl:c.length≤10000):∀ (k:Nat) (acc:List aj) (a fuel:Nat),8-acc.length=k→acc.length≤8→k<fuel→(∀ p∈acc,eD p=true)→a≤c.length →
  (∃ mm,aQ (Hy c v6) fuel (acc,(a:Int))=some (.inr (mm,0,false)))∨∃ (To:List aj) (b e:Nat),aQ (Hy c v6) fuel (acc,(a:Int))=some (.inl (To,(b:Int),(e:Int)))∧To.length≤8∧(∀ p∈To,eD p=true)∧b≤e∧e+2≤c.length:=by
 intro k
 induction k with
 | zero =>
  intro acc a fuel hk ha hf hp hac
  obtain ⟨f,rfl⟩:∃ f,fuel=f+1:=⟨fuel-1,by omega⟩
  rcases vj hl hac with h1 | ⟨e,h1,h2,h3,h4⟩
  ·exact .inl ⟨_,aS (ar h1 (ap rfl rfl))⟩
  have hlb:bJ ((c.drop a).take (e-a)):=eO (dn hc _) _
  have hll:((c.drop a).take (e-a)).length≤10000:=by rw [List.length_take,List.length_drop]; omega
  obtain ⟨r,ok,q1,q2,q3⟩:=vd (word:=(⟨#[82,67,80,84,32,84,79,58]⟩:Ll)) rfl hlb (by omega)
  have hne:(decide ((e:Int)<0))=false:=decide_eq_false (by omega)
  cases ok
  ·exact .inr ⟨acc,a,e,aS (ar h1 (ak hne (ar h4 (ar rfl (ar q1 (ap rfl rfl)))))),ha,hp,h2,h3⟩
  obtain ⟨p,ok,w1,w2⟩:=ux q2 (by omega)
  cases ok
  ·exact .inl ⟨_,aS (ar h1 (ak hne (ar h4 (ar rfl (ar q1 (ak rfl (ar w1 (aI (s:=true) (ap rfl rfl) (ap rfl rfl)))))))))⟩
  ·exact .inl ⟨_,aS (ar h1 (ak hne (ar h4 (ar rfl (ar q1 (ak rfl (ar w1 (aI (s:=true) (ak rfl (fL (decide_eq_true (by omega)))) (ap rfl rfl)))))))))⟩
 | succ k ih =>
  intro acc a fuel hk ha hf hp hac
  obtain ⟨f,rfl⟩:∃ f,fuel=f+1:=⟨fuel-1,by omega⟩
  rcases vj hl hac with h1 | ⟨e,h1,h2,h3,h4⟩
  ·exact .inl ⟨_,aS (ar h1 (ap rfl rfl))⟩
  have hlb:bJ ((c.drop a).take (e-a)):=eO (dn hc _) _
  have hll:((c.drop a).take (e-a)).length≤10000:=by rw [List.length_take,List.length_drop]; omega
  obtain ⟨r,ok,q1,q2,q3⟩:=vd (word:=(⟨#[82,67,80,84,32,84,79,58]⟩:Ll)) rfl hlb (by omega)
  have hne:(decide ((e:Int)<0))=false:=decide_eq_false (by omega)
  cases ok
  ·exact .inr ⟨acc,a,e,aS (ar h1 (ak hne (ar h4 (ar rfl (ar q1 (ap rfl rfl)))))),ha,hp,h2,h3⟩
  obtain ⟨p,ok,w1,w2⟩:=ux q2 (by omega)
  cases ok
  ·exact .inl ⟨_,aS (ar h1 (ak hne (ar h4 (ar rfl (ar q1 (ak rfl (ar w1 (aI (s:=true) (ap rfl rfl) (ap rfl rfl)))))))))⟩
  have hw:some (IntKind.i64.wrap ((e:Int)+2))=some ((e+2:Nat):Int):=by rw [cL (by omega) (by omega)]; simp
  have hstep:aQ (Hy c v6) (f+1) (acc,(a:Int))=aQ (Hy c v6) f (acc++[p],((e+2:Nat):Int)) :=
   bx (ar h1 (ak hne (ar h4 (ar rfl (ar q1 (ak rfl (ar w1 (aI (s:=false) (ak rfl (fL (decide_eq_false (by omega)))) (ak rfl (ar (cA (by simp only [List.length_cons,List.length_nil]; omega) (by simp only [List.length_cons,List.length_nil]; omega)) (ar hw rfl)))))))))))
  rw [hstep]
  exact ih (acc++[p]) (e+2) f (by simp; omega) (by simp; omega) (by omega) (fun q hq=>by
   rcases List.mem_append.1 hq with hq | hq
   ·exact hp q hq
   ·rw [List.mem_singleton.1 hq]; exact w2 rfl) h3
theorem GQ {c:List Int} {a:Nat} (hc:bJ c) (hl:c.length≤10000) (ha:a≤c.length):∃ (m:ae) (n:Nat) (ok:Bool),cF c (a:Int)=some (m,(n:Int),ok)∧n≤c.length∧(ok=true→LM m∧bJ m.Lb):=by
 unfold cF
 rcases vj hl ha with h1 | ⟨e,h1,h2,h3,h4⟩
 ·exact ⟨_,0,false,ar h1 (ap rfl rfl),Nat.zero_le _,fun h=>by cases h⟩
 have hlb:bJ ((c.drop a).take (e-a)):=eO (dn hc _) _
 have hll:((c.drop a).take (e-a)).length≤10000:=by rw [List.length_take,List.length_drop]; omega
 obtain ⟨r,ok,q1,q2,q3⟩:=vd (word:=(⟨#[77,65,73,76,32,70,82,79,77,58]⟩:Ll)) rfl hlb (by omega)
 have hne:(decide ((e:Int)<0))=false:=decide_eq_false (by omega)
 obtain ⟨p,ok2,w1,w2⟩:=ux q2 (by omega)
 cases ok
 ·exact ⟨_,0,false,ar h1 (ak hne (ar h4 (ar rfl (ar q1 (ar w1 (aI (s:=true) (ap rfl rfl) (ap rfl rfl))))))),Nat.zero_le _,fun h=>by cases h⟩
 cases ok2
 ·exact ⟨_,0,false,ar h1 (ak hne (ar h4 (ar rfl (ar q1 (ar w1 (aI (s:=true) (ak rfl rfl) (ap rfl rfl))))))),Nat.zero_le _,fun h=>by cases h⟩
 have hw:some (IntKind.i64.wrap ((e:Int)+2))=some ((e+2:Nat):Int):=by rw [cL (by omega) (by omega)]; simp
 rcases Gv (v6:=(p,true)) hc hl 8 [] (e+2) bU rfl (by decide) (by simp only [bU]; omega) (fun _ h=>by cases h) h3 with ⟨mm,hlp⟩ | ⟨To,b,e2,hlp,g1,g2,g3,g4⟩
 ·exact ⟨mm,0,false,ar h1 (ak hne (ar h4 (ar rfl (ar q1 (ar w1 (aI (s:=false) (ak rfl rfl) (ak rfl (ar hw (jY hlp rfl))))))))),Nat.zero_le _,fun h=>by cases h⟩
 have hs:=du c (a:=b) (b:=e2) g3 (by omega)
 have hw2:some (IntKind.i64.wrap ((e2:Int)+2))=some ((e2+2:Nat):Int):=by rw [cL (by omega) (by omega)]; simp
 cases hdt:(!((aL ((c.drop b).take (e2-b))).toList==(⟨#[68,65,84,65]⟩:Ll).toList))
 case true=>exact ⟨_,0,false,ar h1 (ak hne (ar h4 (ar rfl (ar q1 (ar w1 (aI (s:=false) (ak rfl rfl) (ak rfl (ar hw (aI hlp (ar hs (ar rfl (ap hdt rfl)))))))))))),Nat.zero_le _,fun h=>by cases h⟩
 have hs2:=du c (a:=e2+2) (b:=c.length) (by omega) (Nat.le_refl _)
 have htk:(c.drop (e2+2)).take (c.length-(e2+2))=c.drop (e2+2):=by rw [← List.length_drop,List.take_length]
 rw [htk] at hs2
 have hxb:bJ (c.drop (e2+2)):=dn hc _
 have hxl:(c.drop (e2+2)).length=c.length-(e2+2):=List.length_drop
 obtain ⟨body,er,n,s1,s2,s3,s4⟩:=tw hxb (by omega)
 obtain ⟨d,m',g,t1,t2,_⟩:=wQ (c.drop (e2+2)) hxb (by omega)
 rw [s1] at t1
 cases t1
 by_cases her:er=0
 case neg=>exact ⟨_,0,false,ar h1 (ak hne (ar h4 (ar rfl (ar q1 (ar w1 (aI (s:=false) (ak rfl rfl) (ak rfl (ar hw (aI hlp (ar hs (ar rfl (ak hdt (ar hw2 (ar hs2 (ar t2 (ap (bne_iff_ne.2 her) rfl)))))))))))))))),Nat.zero_le _,fun h=>by cases h⟩
 subst her
 have hw3:some (IntKind.i64.wrap (((e2+2:Nat):Int)+(n:Int)))=some ((e2+2+n:Nat):Int):=by rw [cL (by omega) (by omega)]; simp
 refine ⟨ae.mk p To body false (⟨#[]⟩:Ll) 0,e2+2+n,true,ar h1 (ak hne (ar h4 (ar rfl (ar q1 (ar w1 (aI (s:=false) (ak rfl rfl) (ak rfl (ar hw (aI hlp (ar hs (ar rfl (ak hdt (ar hw2 (ar hs2 (ar t2 (ak rfl (ar hw2 (ar hw3 rfl)))))))))))))))))),by omega,fun _=>⟨⟨by show To.length≤40; omega,?_⟩,s3⟩⟩
 have w1:=(vR (w2 rfl)).1
 have w2:=oZ 319 To fun p hp=>(vR (g2 p hp)).1
 have w3:To.length * 319≤8 * 319:=Nat.mul_le_mul_right _ g1
 simp only [pW] at w1
 show body.length+(⟨#[]⟩:Ll).size+p.Lf.size+p.Lc.size+lH To≤20000
 have:(⟨#[]⟩:Ll).size=0:=rfl
 omega
theorem EZ {l:List ae} (hp:∀ m∈l,Pm m) (hc:bJ (eL l)) (hl:l.length≤4) (hcl:(eL l).length≤10000):aQ (Fb (eL l)) bU ([],0)=some (.inl l):=by
 have split:∀ i,dr l=dr (l.take i)++dr (l.drop i):=fun i=>by rw [← kQ,List.take_append_drop]
 have hdi:∀ i,(eL l).drop ((dr (l.take i)).length)=dr (l.drop i)++ia:=fun i=>by
  have:eL l=dr (l.take i)++(dr (l.drop i)++ia):=by rw [← List.append_assoc,← split]; rfl
  rw [this,List.drop_left]
 have hle:∀ i,(dr (l.take i)).length≤(eL l).length:=fun i=>by
  have h2:=congrArg List.length (split i)
  have h3:(eL l).length=(dr l).length+ia.length:=List.length_append
  rw [List.length_append] at h2
  omega
 refine bP (fun i=>(l.take i,(((dr (l.take i)).length:Nat):Int))) l.length bU (by simp [dr]) (by simp only [bU]; omega) (fun i hi => ?_) ?_
 ·have e:l.drop i=l[i]::l.drop (i+1):=List.drop_eq_getElem_cons hi
  have h1:=hdi i
  rw [e,show dr (l[i]::l.drop (i+1))=qx l[i]++dr (l.drop (i+1)) from rfl,List.append_assoc] at h1
  have hm:=GE (hp _ (List.getElem_mem hi)) hc hcl (hle i) h1
  have htl:(l.take i).length=i:=by simp; omega
  have en:(dr (l.take (i+1))).length=(dr (l.take i)).length+(qx l[i]).length:=by
   rw [List.take_succ_eq_append_getElem hi,kQ,List.length_append]
   simp [dr]
  refine ap (decide_eq_true (by show ((l.take i).length:Int)≤4; omega)) (ar hm (ak rfl (ar (cA (by simp only [htl,List.length_cons,List.length_nil]; omega) (by simp only [htl,List.length_cons,List.length_nil]; omega)) ?_)))
  rw [en,List.take_succ_eq_append_getElem hi]
 ·have h1:=hdi l.length
  rw [List.drop_length,List.take_length] at h1
  have h1:(eL l).drop (dr l).length=[81,85,73,84]++13::10::[]:=h1
  have hle1:=hle l.length
  rw [List.take_length] at hle1
  obtain ⟨mm,hno⟩:=HH hc hcl hle1 h1 GJ (by decide)
  rw [List.take_length]
  exact ap (decide_eq_true (by omega)) (ar hno (ap rfl rfl))
theorem Cp {c:List Int} (hc:bJ c) (hl:c.length≤10000):∀ (k:Nat) (acc:List ae) (a fuel:Nat),5-acc.length=k→acc.length≤5→k<fuel→(∀ m∈acc,LM m∧bJ m.Lb)→a≤c.length →
  ∃ l,aQ (Fb c) fuel (acc,(a:Int))=some (.inl l)∧l.length≤5∧∀ m∈l,LM m∧bJ m.Lb
 | 0,acc,a,fuel,hk,ha,hf,hp,hac=>by
  obtain ⟨f,rfl⟩:∃ f,fuel=f+1:=⟨fuel-1,by omega⟩
  exact ⟨acc,aS (ak (decide_eq_false (by omega)) rfl),ha,hp⟩
 | k+1,acc,a,fuel,hk,ha,hf,hp,hac=>by
  obtain ⟨f,rfl⟩:∃ f,fuel=f+1:=⟨fuel-1,by omega⟩
  obtain ⟨m,n,ok,h1,h2,h3⟩:=GQ hc hl hac
  cases ok
  ·exact ⟨acc,aS (ap (decide_eq_true (by omega)) (ar h1 (ap rfl rfl))),ha,hp⟩
  ·obtain ⟨l,g1,g2,g3⟩:=Cp hc hl k (acc++[m]) n f (by simp; omega) (by simp; omega) (by omega) (by
    intro q hq
    rcases List.mem_append.1 hq with hq | hq
    ·exact hp q hq
    ·rw [List.mem_singleton.1 hq]; exact h3 rfl) h2
   exact ⟨l,(bx (ap (decide_eq_true (by omega)) (ar h1 (ak rfl (ar (cA (by simp only [List.length_cons,List.length_nil]; omega) (by simp only [List.length_cons,List.length_nil]; omega)) rfl))))).trans g1,g2,g3⟩
theorem DK {c:List Int} (hc:bJ c) (hl:c.length≤10000):∃ l,aQ (Fb c) bU ([],0)=some (.inl l)∧l.length≤5∧∀ m∈l,LM m∧bJ m.Lb:=Cp hc hl 5 [] 0 bU rfl (by decide) (by simp only [bU]; omega) (fun _ h=>by cases h) (Nat.zero_le _)
set_option maxRecDepth 100000
def IP (v5:List Ll):(((List Int)×Int))→Option (((List Int)×Int)⊕(((List Int))⊕(az×Int))):=(fun ((s24,s25):(List Int)×Int) =>
 cond ((decide (s25<6)))
  ((cj s25 v5.length).bind fun v14 =>
  (aN v5 v14).bind fun v15 =>
  (dT v15 10).bind fun v16 =>
  cond ((decide (v16<0)))
   (some (.inr (.inr (((az.mk 0 0 []),5)))))
   ((co 8 s24 [v16]).bind fun v18 =>
   (some (IntKind.i64.wrap (s25+1))).bind fun v19 =>
   some (.inl (v18,v19))))
  (some (.inr (.inl s24))))
theorem HJ (w:List Int):0≤vI w:=by unfold vI; omega
theorem rH {v5:List Ll} {i:Nat} {x acc:List Int} (h6:v5.length=6) (hi:i<6) (hg:aN v5 i=some (aL x)) (hb:bJ x) (hn:dq x=true) (ha:acc.length≤10):IP v5 (acc,(i:Int))=some (.inl (acc++[vI x],((i+1:Nat):Int))):=by
 have hnum:=rU hb
 rw [if_pos hn] at hnum
 have:=HJ x
 exact ap (decide_eq_true (by omega)) (ar (bi (by omega)) (ar hg (ar hnum (ak (decide_eq_false (by omega)) (ar (cA (by simp only [List.length_cons,List.length_nil]; omega) (by simp only [List.length_cons,List.length_nil]; omega)) (ar (congrArg some (aW (n:=i) (by omega))) rfl))))))
theorem vQ {v5:List Ll} {i:Nat} {x acc:List Int} (h6:v5.length=6) (hi:i<6) (hg:aN v5 i=some (aL x)) (hb:bJ x) (hn:dq x=false):IP v5 (acc,(i:Int))=some (.inr (.inr (az.mk 0 0 [],5))):=by
 have hnum:=rU hb
 rw [if_neg (by rw [hn]; decide)] at hnum
 exact ap (decide_eq_true (by omega)) (ar (bi (by omega)) (ar hg (ar hnum (ap (by decide) rfl))))
theorem Gb {v5:List Ll} {acc:List Int}:IP v5 (acc,((5+1:Nat):Int))=some (.inr (.inl acc)):=rfl
theorem EI (w a b c d e:List Int) (ha:bJ a) (hb:bJ b) (hc:bJ c) (hd:bJ d) (he:bJ e) :
  aQ (IP [aL w,aL a,aL b,aL c,aL d,aL e]) bU ([],1)=if (dq a&&(dq b&&(dq c&&(dq d&&dq e))))=true then some (.inl [vI a,vI b,vI c,vI d,vI e]) else some (.inr (az.mk 0 0 [],5)):=by
 obtain ⟨B,hB⟩:∃ B,bU=B+1+1+1+1+1+1:=⟨bU-6,by simp only [bU]⟩
 rw [hB]
 cases na:dq a
 ·exact aS (vQ (i:=1) rfl (by omega) rfl ha na)
 refine (bx (rH (i:=1) rfl (by omega) rfl ha na (by simp))).trans ?_
 cases nb:dq b
 ·exact aS (vQ (i:=2) rfl (by omega) rfl hb nb)
 refine (bx (rH (i:=2) rfl (by omega) rfl hb nb (by simp))).trans ?_
 cases nc:dq c
 ·exact aS (vQ (i:=3) rfl (by omega) rfl hc nc)
 refine (bx (rH (i:=3) rfl (by omega) rfl hc nc (by simp))).trans ?_
 cases nd:dq d
 ·exact aS (vQ (i:=4) rfl (by omega) rfl hd nd)
 refine (bx (rH (i:=4) rfl (by omega) rfl hd nd (by simp))).trans ?_
 cases ne:dq e
 ·exact aS (vQ (i:=5) rfl (by omega) rfl he ne)
 refine (bx (rH (i:=5) rfl (by omega) rfl he ne (by simp))).trans ?_
 exact aS Gb
def pp (t:List Int) (o n:Int) (ms:List ae):az×Int:=if bp (az.mk o n ms)=some (t,0) then (az.mk o n ms,0) else (az.mk 0 0 [],5)
theorem Cu {t:List Int} {e:Nat} {h:aU} {ms:List ae} (ht:bJ t) (hl:t.length≤5000) (hi:gE t=some e) (hh:pA (t.take e)=(h,true)) (hs:((t.drop (e+2)).length:Int)=h.size) (hv:((lY (t.drop (e+2)):Nat):Int)=h.sum)
  (hms:ck (t.drop (e+2))=some ms) (hml:ms.length≤5) (hmf:∀ m∈ms,LM m∧bJ m.Lb):bO t=some (pp t h.origin h.number ms):=by
 obtain ⟨h1,h2⟩:=fS hi
 have hcut:eF t [13,10]=some (t.take e,t.drop (e+2),true):=(wU _ _).trans (jx ht (by omega) hi)
 have hlb:bJ (t.take e):=eO ht e
 have hcb:bJ (t.drop (e+2)):=dn ht _
 have hph:=kA hlb (by rw [List.length_take]; omega)
 rw [hh] at hph
 have hcl:(t.drop (e+2)).length≤5000:=by rw [List.length_drop]; omega
 have hsum:=rn hcb (by omega)
 have hs2:(((t.drop (e+2)).length:Int) != h.size)=false:=by rw [hs]; exact bne_self_eq_false _
 have hv2:(((lY (t.drop (e+2)):Nat):Int) != h.sum)=false:=by rw [hv]; exact bne_self_eq_false _
 unfold bO
 rcases pG (b:=az.mk h.origin h.number ms) hmf (by show ms.length≤20; omega) with ⟨x,hx,h52⟩ | ⟨_,ho,hn1,hn2,_,hl4,hvm,hw,hby⟩
 ·refine ar hcut (ar rfl (ar hph (aI (s:=false) (ak rfl (ak rfl (cC hs2))) (ak rfl (ar hsum (ak hv2 (ar hms (ar hx (aI (s:=true) (ap (bne_iff_ne.2 ?_) rfl) (ap rfl ?_))))))))))
  ·show x≠0
   omega
  ·unfold pp
   rw [if_neg]
   intro q
   rw [hx] at q
   have:=(Prod.mk.inj (Option.some.inj q)).2
   omega
 ·have hq:=GB (dO (az.mk h.origin h.number ms)) t
  obtain ⟨f1,f2,_⟩:=qI ho hn1 hn2 hl4 hvm hw
  have hwb:bJ (dO (az.mk h.origin h.number ms)):=bM f1 (df (by omega) (df (by omega) f2))
  by_cases he:aL (dO (az.mk h.origin h.number ms))=aL t
  ·rw [decide_eq_true he] at hq
   have hwt:dO (az.mk h.origin h.number ms)=t:=by
    have:=congrArg ao he
    rwa [aH hwb,aH ht] at this
   refine ar hcut (ar rfl (ar hph (aI (s:=false) (ak rfl (ak rfl (cC hs2))) (ak rfl (ar hsum (ak hv2 (ar hms (ar hby (aI (s:=false) (ak rfl (ar hq rfl)) (ak rfl ?_))))))))))
   unfold pp
   rw [if_pos (by rw [hby,hwt])]
  ·rw [decide_eq_false he] at hq
   refine ar hcut (ar rfl (ar hph (aI (s:=false) (ak rfl (ak rfl (cC hs2))) (ak rfl (ar hsum (ak hv2 (ar hms (ar hby (aI (s:=true) (ak rfl (ar hq rfl)) (ap rfl ?_))))))))))
   unfold pp
   rw [if_neg]
   intro q
   rw [hby] at q
   exact he (congrArg aL (Prod.mk.inj (Option.some.inj q)).1)
theorem tu {t:List Int} {e:Nat} {o n:Int} {ms:List ae} (hi:gE t=some e) (hml:ms.length≤5) (hmf:∀ m∈ms,LM m∧bJ m.Lb) (hb:bp (az.mk o n ms)=some (t,0)) :
  t.drop (e+2)=eL ms∧(∀ m∈ms,Pm m)∧(∀ m∈ms,Vm m)∧ms.length≤4∧t.length≤4096:=by
 rcases pG (b:=az.mk o n ms) hmf (by show ms.length≤20; omega) with ⟨x,hx,h52⟩ | ⟨hck,ho,hn1,hn2,_,hl4,hvm,hw,hby⟩
 ·rw [hb] at hx
  have:=(Prod.mk.inj (Option.some.inj hx)).2
  omega
 rw [hb] at hby
 have ht:t=dO (az.mk o n ms):=(Prod.mk.inj (Option.some.inj hby)).1
 obtain ⟨f1,f2,f3,f4,f5,f6,f7⟩:=qI ho hn1 hn2 hl4 hvm hw
 have hwl:dO (az.mk o n ms)=(fP++fT (iI (az.mk o n ms)))++13::10::eL ms:=rfl
 rw [ht,hwl,lA f3] at hi
 have he:=Option.some.inj hi
 refine ⟨?_,He hmf (by show ms.length≤20; omega) hck,hvm,hl4,by rw [ht]; exact hw⟩
 rw [ht,hwl,← he,← List.drop_drop,List.drop_left]
 rfl
theorem GO {t:List Int} {e:Nat} {o n:Int} {ms ns:List ae} (ht:bJ t) (hl:t.length≤5000) (hi:gE t=some e) (hms:ck (t.drop (e+2))=some ms) (hns:aQ (Fb (t.drop (e+2))) bU ([],0)=some (.inl ns))
  (hml:ms.length≤5) (hmf:∀ m∈ms,LM m∧bJ m.Lb) (hnl:ns.length≤5) (hnf:∀ m∈ns,LM m∧bJ m.Lb):pp t o n ms=pp t o n ns:=by
 have hcb:bJ (t.drop (e+2)):=dn ht _
 have hcl:(t.drop (e+2)).length≤5000:=by rw [List.length_drop]; omega
 by_cases h1:bp (az.mk o n ms)=some (t,0)
 ·obtain ⟨g1,g2,g3,g4,g5⟩:=tu hi hml hmf h1
  rw [g1] at hns hcb hcl
  rw [EZ g2 hcb g4 (by omega)] at hns
  cases hns
  rfl
 by_cases h2:bp (az.mk o n ns)=some (t,0)
 ·obtain ⟨g1,g2,g3,g4,g5⟩:=tu hi hnl hnf h2
  rw [g1] at hms hcl
  have hc6:(eL ns).length=(dr ns).length+6:=by simp [eL,ia]
  rw [Gy g2 (fun m hm=>zu (g3 m hm)) g4 (by omega)] at hms
  cases hms
  rfl
 unfold pp
 rw [if_neg h1,if_neg h2]
theorem zT {t:List Int} {o n:Int} {ms:List ae} (hml:ms.length≤5) (hmf:∀ m∈ms,LM m∧bJ m.Lb):(pp t o n ms).1.Lg.length≤5∧∀ m∈(pp t o n ms).1.Lg,LM m∧bJ m.Lb:=by
 unfold pp
 split
 ·exact ⟨hml,hmf⟩
 ·exact ⟨Nat.zero_le _,fun m hm=>by cases hm⟩
def z5:az×Int:=(az.mk 0 0 [],5)
def z6:az×Int:=(az.mk 0 0 [],6)
theorem Db {t:List Int} (ht:bJ t) (hl:t.length≤5000):∃ y,bO t=some y∧bB t=some y∧y.1.Lg.length≤5∧∀ m∈y.1.Lg,LM m∧bJ m.Lb:=by
 have n5:z5.1.Lg.length≤5∧∀ m∈z5.1.Lg,LM m∧bJ m.Lb:=⟨Nat.zero_le _,fun m hm=>by cases hm⟩
 have n6:z6.1.Lg.length≤5∧∀ m∈z6.1.Lg,LM m∧bJ m.Lb:=⟨Nat.zero_le _,fun m hm=>by cases hm⟩
 have hend:=xM t (by omega) (a:=0) (Nat.zero_le _)
 rw [List.drop_zero] at hend
 cases hi:gE t with
 | none =>
  rw [hi] at hend
  have hcut:eF t [13,10]=some (t,[],false):=(wU _ _).trans (sO ht (by omega) hi)
  refine ⟨z5,?_,?_,n5⟩
  ·unfold bO
   exact ar hcut (ar rfl (ar (kA ht hl) (aI (s:=true) (ap rfl rfl) (ap rfl rfl))))
  ·unfold bB
   exact ar hend (ap (by decide) rfl)
 | some e =>
  rw [hi] at hend
  obtain ⟨h1,h2⟩:=fS hi
  have hcut:eF t [13,10]=some (t.take e,t.drop (e+2),true):=(wU _ _).trans (jx ht (by omega) hi)
  have hlb:bJ (t.take e):=eO ht e
  have hcb:bJ (t.drop (e+2)):=dn ht _
  have hll:(t.take e).length≤5000:=by rw [List.length_take]; omega
  have hph:=kA hlb hll
  have hcl:(t.drop (e+2)).length≤5000:=by rw [List.length_drop]; omega
  have hsum:=rn hcb (by omega)
  have hrl:=wH hcb (by omega)
  have hwds:=Bw hlb hll
  have hs0:=du t (a:=0) (b:=e) (Nat.zero_le _) (by omega)
  rw [List.drop_zero,Nat.sub_zero] at hs0
  have hend:cf t ((0:Nat):Int)=some ((e:Nat):Int):=by rw [hend]; simp
  have hne:(decide ((e:Int)<0))=false:=decide_eq_false (by omega)
  have hw2:some (IntKind.i64.wrap ((e:Int)+2))=some ((e+2:Nat):Int):=by rw [cL (by omega) (by omega)]; simp
  have hs2:=du t (a:=e+2) (b:=t.length) (by omega) (Nat.le_refl _)
  rw [← List.length_drop,List.take_length] at hs2
  have hwb:=va hlb
  unfold pA at hph
  by_cases h6:(eW 32 (t.take e)).length=6
  case neg =>
   rw [zE h6] at hph
   refine ⟨z5,?_,?_,n5⟩
   ·unfold bO
    exact ar hcut (ar rfl (ar hph (aI (s:=true) (ak rfl (ap rfl rfl)) (ap rfl rfl))))
   ·unfold bB
    refine ar hend (ak hne (ar hs0 (ar rfl (ar hwds (aI (s:=true) (ap (bne_iff_ne.2 ?_) rfl) (ap rfl rfl))))))
    rw [List.length_map]
    omega
  obtain ⟨w,a,b,c,d,f,hsp⟩:=Kt h6
  have hhdr:pA (t.take e)=sy [w,a,b,c,d,f]:=by unfold pA; rw [hsp]
  rw [hsp] at hph hwds hwb
  have bw:=hwb w (by simp)
  have ba:=hwb a (by simp)
  have bb:=hwb b (by simp)
  have bc:=hwb c (by simp)
  have bd:=hwb d (by simp)
  have bf:=hwb f (by simp)
  have hwds:eo (aL (t.take e))=some [aL w,aL a,aL b,aL c,aL d,aL f]:=hwds
  have hfirst:∀ {A:Type},(cond ((([aL w,aL a,aL b,aL c,aL d,aL f].length:Int) != 6)) (some (.inl true)) ((cj 0 [aL w,aL a,aL b,aL c,aL d,aL f].length).bind fun v6=>(aN [aL w,aL a,aL b,aL c,aL d,aL f] v6).bind fun v7=>some (.inl ((!(v7.toList==(⟨#[66,85,78,68,76,69]⟩:Ll).toList))))):Option (Bool⊕A))=some (.inl (!decide (w=fP))):=by
   intro A
   refine ak rfl (ar (x:=0) rfl (ar (x:=aL w) rfl (fL ?_)))
   rw [IW,aH bw]
   rfl
  by_cases hw:w=fP
  case neg =>
   have hz:sy [w,a,b,c,d,f]=(zH,false):=Gn hw
   rw [hz] at hph
   refine ⟨z5,?_,?_,n5⟩
   ·unfold bO
    exact ar hcut (ar rfl (ar hph (aI (s:=true) (ak rfl (ap rfl rfl)) (ap rfl rfl))))
   ·unfold bB
    exact ar hend (ak hne (ar hs0 (ar rfl (ar hwds (aI (s:=true) (hfirst.trans (fL (by rw [decide_eq_false hw]; rfl))) (ap rfl rfl))))))
  have hfirst2:∀ {A:Type},(cond ((([aL w,aL a,aL b,aL c,aL d,aL f].length:Int) != 6)) (some (.inl true)) ((cj 0 [aL w,aL a,aL b,aL c,aL d,aL f].length).bind fun v6=>(aN [aL w,aL a,aL b,aL c,aL d,aL f] v6).bind fun v7=>some (.inl ((!(v7.toList==(⟨#[66,85,78,68,76,69]⟩:Ll).toList))))):Option (Bool⊕A))=some (.inl false):=hfirst.trans (fL (by rw [decide_eq_true hw]; rfl))
  have hloop:=EI w a b c d f ba bb bc bd bf
  have hev:sy [w,a,b,c,d,f]=if (dq a&&(dq b&&(dq c&&(dq d&&dq f))))=true then (⟨vI a,vI b,vI d,vI f⟩,decide (vI a≤1)) else (zH,false):=by
   show (if w=fP then (if (dq a&&(dq b&&(dq c&&(dq d&&dq f))))=true then ((⟨vI a,vI b,vI d,vI f⟩,decide (vI a≤1)):aU×Bool) else (zH,false)) else (zH,false))=_
   rw [if_pos hw]
  by_cases hn:(dq a&&(dq b&&(dq c&&(dq d&&dq f))))=true
  case neg =>
   rw [if_neg hn] at hloop hev
   rw [hev] at hph
   refine ⟨z5,?_,?_,n5⟩
   ·unfold bO
    exact ar hcut (ar rfl (ar hph (aI (s:=true) (ak rfl (ap rfl rfl)) (ap rfl rfl))))
   ·unfold bB
    exact ar hend (ak hne (ar hs0 (ar rfl (ar hwds (aI (s:=false) hfirst2 (ak rfl (jY hloop rfl)))))))
  rw [if_pos hn] at hloop hev
  rw [hev] at hph hhdr
  by_cases ho:vI a≤1
  case neg =>
   rw [decide_eq_false ho] at hph
   refine ⟨z5,?_,?_,n5⟩
   ·unfold bO
    exact ar hcut (ar rfl (ar hph (aI (s:=true) (ak rfl (ap rfl rfl)) (ap rfl rfl))))
   ·unfold bB
    exact ar hend (ak hne (ar hs0 (ar rfl (ar hwds (aI (s:=false) hfirst2 (ak rfl (aI hloop (ar hw2 (ar hs2 (aI (s:=true) (ar (x:=0) rfl (ar (x:=vI a) rfl (ap (decide_eq_true (by omega)) rfl))) (ap rfl rfl)))))))))))
  rw [decide_eq_true ho] at hph hhdr
  have hno:(decide (1<vI a))=false:=decide_eq_false (by omega)
  by_cases hs:((t.drop (e+2)).length:Int)=vI d
  case neg =>
   refine ⟨z5,?_,?_,n5⟩
   ·unfold bO
    exact ar hcut (ar rfl (ar hph (aI (s:=true) (ak rfl (ak rfl (cC (bne_iff_ne.2 hs)))) (ap rfl rfl))))
   ·unfold bB
    exact ar hend (ak hne (ar hs0 (ar rfl (ar hwds (aI (s:=false) hfirst2 (ak rfl (aI hloop (ar hw2 (ar hs2 (aI (s:=true) (ar (x:=0) rfl (ar (x:=vI a) rfl (ak hno (ar (x:=3) rfl (ar (x:=vI d) rfl (fL (bne_iff_ne.2 fun q=>hs q.symm))))))) (ap rfl rfl)))))))))))
  have hs2':(vI d != ((t.drop (e+2)).length:Int))=false:=by rw [hs]; exact bne_self_eq_false _
  have hsB:(((t.drop (e+2)).length:Int) != vI d)=false:=by rw [hs]; exact bne_self_eq_false _
  have h43:∀ {A:Type},((cj 0 [vI a,vI b,vI c,vI d,vI f].length).bind fun v39=>(aN [vI a,vI b,vI c,vI d,vI f] v39).bind fun v40=>cond ((decide (1<v40))) (some (.inl true)) ((cj 3 [vI a,vI b,vI c,vI d,vI f].length).bind fun v41=>(aN [vI a,vI b,vI c,vI d,vI f] v41).bind fun v42=>some (.inl ((v42 != ((t.drop (e+2)).length:Int))))):Option (Bool⊕A))=some (.inl false):=fun {A}=>ar (x:=0) rfl (ar (x:=vI a) rfl (ak hno (ar (x:=3) rfl (ar (x:=vI d) rfl (fL hs2')))))
  by_cases hv:((lY (t.drop (e+2)):Nat):Int)=vI f
  case neg =>
   refine ⟨z6,?_,?_,n6⟩
   ·unfold bO
    exact ar hcut (ar rfl (ar hph (aI (s:=false) (ak rfl (ak rfl (cC hsB))) (ak rfl (ar hsum (ap (bne_iff_ne.2 hv) rfl))))))
   ·unfold bB
    exact ar hend (ak hne (ar hs0 (ar rfl (ar hwds (aI (s:=false) hfirst2 (ak rfl (aI hloop (ar hw2 (ar hs2 (aI (s:=false) h43 (ak rfl (ar (x:=4) rfl (ar (x:=vI f) rfl (ar hrl (ap (bne_iff_ne.2 fun q=>hv q.symm) rfl)))))))))))))))
  obtain ⟨ms,hms,hml,hmf⟩:=GH hcb (by omega)
  obtain ⟨ns,hns,hnl,hnf⟩:=DK hcb (by omega)
  have hp:=Cu ht hl hi hhdr hs hv hms hml hmf
  have hfe:=GO (o:=vI a) (n:=vI b) ht hl hi hms hns hml hmf hnl hnf
  refine ⟨pp t (vI a) (vI b) ms,hp,?_,zT hml hmf⟩
  rw [hfe]
  have hv2:(vI f != ((lY (t.drop (e+2)):Nat):Int))=false:=by rw [hv]; exact bne_self_eq_false _
  have hrb:=BX (b:=az.mk (vI a) (vI b) ns) hnf (by show ns.length≤20; omega)
  unfold bB
  refine ar hend (ak hne (ar hs0 (ar rfl (ar hwds (aI (s:=false) hfirst2 (ak rfl (aI hloop (ar hw2 (ar hs2 (aI (s:=false) h43 (ak rfl (ar (x:=4) rfl (ar (x:=vI f) rfl (ar hrl (ak hv2 (ar (x:=0) rfl (ar (x:=vI a) rfl (ar (x:=1) rfl (ar (x:=vI b) rfl (aI hns ?_))))))))))))))))))))
  rcases pG (b:=az.mk (vI a) (vI b) ns) hnf (by show ns.length≤20; omega) with ⟨x,hx,h52⟩ | ⟨_,_,_,_,_,_,_,hw4,hby⟩
  ·refine ar (hrb.trans hx) (aI (s:=true) (ap (bne_iff_ne.2 (by show x≠0; omega)) rfl) (ap rfl ?_))
   unfold pp
   rw [if_neg]
   intro q
   rw [hx] at q
   have:=(Prod.mk.inj (Option.some.inj q)).2
   omega
  ·have hk:=eZ (dO (az.mk (vI a) (vI b) ns)) t (by omega)
   by_cases hq:dO (az.mk (vI a) (vI b) ns)=t
   ·rw [decide_eq_true hq] at hk
    refine ar (hrb.trans hby) (aI (s:=false) (ak rfl (ar hk rfl)) (ak rfl ?_))
    unfold pp
    rw [if_pos (by rw [hby,hq])]
   ·rw [decide_eq_false hq] at hk
    refine ar (hrb.trans hby) (aI (s:=true) (ak rfl (ar hk rfl)) (ap rfl ?_))
    unfold pp
    rw [if_neg]
    intro q
    rw [hby] at q
    exact hq (Prod.mk.inj (Option.some.inj q)).1
set_option maxRecDepth 100000
def KI (v2:List ae):(((List ae)×Int))→Option (((List ae)×Int)⊕(((List ae))⊕(Int×Int))):=(fun ((s11,s12):(List ae)×Int) =>
 cond ((decide (s12<(v2.length:Int))))
  ((cj s12 v2.length).bind fun v4 =>
  (aN v2 v4).bind fun v5 =>
  (co 120 s11 ([(ae.mk (aj.mk v5.Ld.Lh v5.Ld.Lf v5.Ld.Lc) v5.To v5.Lb false (⟨#[]⟩:Ll) 0)])).bind fun v6 =>
  (some (IntKind.i64.wrap (s12+1))).bind fun v7 =>
  some (.inl (v6,v7)))
  (some (.inr (.inl s11))))
def JZ (origin number:Int):(((List ae)×Int))→Option (((List ae)×Int)⊕((Unit)⊕(Int×Int))):=(fun ((s31,s32):(List ae)×Int) =>
 cond ((decide (0<s32)))
  ((eM s31 0 s32).bind fun v23 =>
  (bp (az.mk origin number v23)).bind fun v24 =>
  cond ((v24.2==0))
   (some (.inr (.inr ((s32,0)))))
   ((some (IntKind.i64.wrap (s32-1))).bind fun v26 =>
   some (.inl (s31,v26))))
  (some (.inr (.inl ()))))
def iH (m:ae):ae:=ae.mk (aj.mk m.Ld.Lh m.Ld.Lf m.Ld.Lc) m.To m.Lb false (⟨#[]⟩:Ll) 0
theorem GD {m:ae} (h:LM m):LM (iH m):=by
 obtain ⟨h1,h2⟩:=h
 simp only [mW] at h2
 refine ⟨h1,?_⟩
 show m.Lb.length+(⟨#[]⟩:Ll).size+m.Ld.Lf.size+m.Ld.Lc.size+lH m.To≤20000
 have:(⟨#[]⟩:Ll).size=0:=rfl
 omega
theorem Bz {m:ae} (h:LM m):dx m=some (iH m):=by
 obtain ⟨h1,h2⟩:=h
 simp only [mW] at h2
 unfold dx
 refine ar (x:=m.To) ?_ (ar (xF _ (by omega)) rfl)
 unfold dm
 exact ar (cA (by simp only [List.length_nil]; omega) (by simp only [List.length_nil]; omega)) rfl
theorem DS {v:List ae} (hl:v.length≤4):aQ (KI v) bU ([],0)=some (.inl (v.map iH)):=by
 refine bP (fun i=>((v.take i).map iH,((i:Nat):Int))) v.length bU (by simp) (by simp only [bU]; omega) (fun i hi => ?_) ?_
 ·have htl:((v.take i).map iH).length=i:=by simp; omega
  refine ap (decide_eq_true (by omega)) (ar (bi hi) (ar (cv hi) (ar (cA (by simp only [htl,List.length_cons,List.length_nil]; omega) (by simp only [htl,List.length_cons,List.length_nil]; omega)) (ar (congrArg some (aW (n:=i) (by omega))) ?_))))
  rw [List.take_succ_eq_append_getElem hi,List.map_append]
  rfl
 ·rw [List.take_length]
  exact ak (decide_eq_false (by omega)) rfl
theorem Ak {l:List ae} {n k:Nat} (h:n≤k):((l.take k).map iH).take n=(l.take n).map iH:=by
 rw [← List.map_take,List.take_take,Nat.min_eq_left h]
def KX (l:List ae):(((List ae)×Int))→Option (((List ae)×Int)⊕(((List ae))⊕(List ae))):=(fun ((s10,s11):(List ae)×Int) =>
 cond ((decide (s11<(l.length:Int))))
  ((cj s11 l.length).bind fun v2 =>
  (aN l v2).bind fun v3 =>
  (dE ((ae.mk (aj.mk v3.Ld.Lh v3.Ld.Lf v3.Ld.Lc) v3.To v3.Lb v3.Lk v3.Le v3.At))).bind fun v4 =>
  (co 120 s10 [(ae.mk (aj.mk v4.Ld.Lh v4.Ld.Lf v4.Ld.Lc) v4.To v4.Lb v4.Lk v4.Le v4.At)]).bind fun v5 =>
  (some (IntKind.i64.wrap (s11+1))).bind fun v6 =>
  some (.inl (v5,v6)))
  (some (.inr (.inl s10))))
theorem Cv {m:ae} (h:LM m):dE m=some m:=by
 obtain ⟨h1,h2⟩:=h
 simp only [mW] at h2
 unfold dE
 refine ar (x:=m.To) ?_ (ar (xF _ (by omega)) rfl)
 unfold dm
 exact ar (cA (by simp only [List.length_nil]; omega) (by simp only [List.length_nil]; omega)) rfl
theorem tY {l:List ae} (hm:∀ m∈l,LM m) (hl:l.length≤20):dp l=some l:=by
 unfold dp
 refine aI (s:=l) (bP (f:=KX l) (fun i=>(l.take i,((i:Nat):Int))) l.length bU (by simp) (by simp only [bU]; omega) (fun i hi => ?_) ?_) rfl
 ·have htl:(l.take i).length=i:=by simp; omega
  refine ap (decide_eq_true (by omega)) (ar (bi hi) (ar (cv hi) (ar (Cv (hm _ (List.getElem_mem hi))) (ar (cA (by simp only [htl,List.length_cons,List.length_nil]; omega) (by simp only [htl,List.length_cons,List.length_nil]; omega)) (ar (congrArg some (aW (n:=i) (by omega))) ?_)))))
  rw [List.take_succ_eq_append_getElem hi]
 ·rw [List.take_length]
  exact ak (decide_eq_false (by omega)) rfl
def JI (l:List ae) (origin number:Int):((Int×Int))→Option ((Int×Int)⊕((Int)⊕Int)):=(fun ((s92,s93):Int×Int) =>
 aF (S:=Bool) (A:=((Int×Int)⊕((Int)⊕Int)))
  (cond ((decide (s93≤(l.length:Int))))
   (some (.inl ((decide (s93≤4)))))
   (some (.inl false)))
  (fun (s142:Bool) =>
   cond (s142)
    (aF (S:=Int) (A:=((Int×Int)⊕((Int)⊕Int)))
     (aF (S:=((List ae))) (A:=(Int⊕((Int×Int)⊕((Int)⊕Int))))
      (aQ (S:=((List ae)×Int)) (O:=((List ae))⊕(Int⊕((Int×Int)⊕((Int)⊕Int)))) (fun ((s171,s172):(List ae)×Int) =>
       cond ((decide (s172<s93)))
        ((cj s172 l.length).bind fun v7 =>
        (aN l v7).bind fun v8 =>
        (dx ((ae.mk (aj.mk v8.Ld.Lh v8.Ld.Lf v8.Ld.Lc) v8.To v8.Lb v8.Lk v8.Le v8.At))).bind fun v9 =>
        (co 120 s171 [(ae.mk (aj.mk v9.Ld.Lh v9.Ld.Lf v9.Ld.Lc) v9.To v9.Lb v9.Lk v9.Le v9.At)]).bind fun v10 =>
        (some (IntKind.i64.wrap (s172+1))).bind fun v11 =>
        some (.inl (v10,v11)))
        (some (.inr (.inl s171))))
       bU ([],0))
      (fun (s174:(List ae)) =>
       (bj (az.mk origin number s174)).bind fun v26 =>
       cond ((v26.2==0))
        (some (.inl s93))
        (some (.inl s92))) some)
     (fun (s163:Int) =>
      (some (IntKind.i64.wrap (s93+1))).bind fun v48 =>
      some (.inl (s163,v48))) some)
    (some (.inr (.inl s92)))) some)
def Kj (l:List ae) (s93:Int):(((List ae)×Int))→Option (((List ae)×Int)⊕(((List ae))⊕(Int⊕((Int×Int)⊕((Int)⊕Int))))):=(fun ((s171,s172):(List ae)×Int) =>
 cond ((decide (s172<s93)))
  ((cj s172 l.length).bind fun v7 =>
  (aN l v7).bind fun v8 =>
  (dx ((ae.mk (aj.mk v8.Ld.Lh v8.Ld.Lf v8.Ld.Lc) v8.To v8.Lb v8.Lk v8.Le v8.At))).bind fun v9 =>
  (co 120 s171 [(ae.mk (aj.mk v9.Ld.Lh v9.Ld.Lf v9.Ld.Lc) v9.To v9.Lb v9.Lk v9.Le v9.At)]).bind fun v10 =>
  (some (IntKind.i64.wrap (s172+1))).bind fun v11 =>
  some (.inl (v10,v11)))
  (some (.inr (.inl s171))))
def KM:(((List Int)×Int))→Option (((List Int)×Int)⊕((Unit)⊕Unit)):=(fun ((s11,s12):(List Int)×Int) =>
 cond ((decide (s12<(s11.length:Int))))
  ((cj s12 s11.length).bind fun v2 =>
  (aN s11 v2).bind fun v3 =>
  (some (IntKind.u8.wrap (v3+91))).bind fun v4 =>
  (cj s12 s11.length).bind fun v5 =>
  (some (s11.set v5 v4)).bind fun v6 =>
  (some (IntKind.i64.wrap (s12+1))).bind fun v7 =>
  some (.inl (v6,v7)))
  (some (.inr (.inl ()))))
def KQ (l v10:List ae):((Int))→Option ((Int)⊕((Unit)⊕Bool)):=(fun (s39:Int) =>
 cond ((decide (s39<(l.length:Int))))
  ((cj s39 v10.length).bind fun v29 =>
  (aN v10 v29).bind fun v30 =>
  (cj s39 l.length).bind fun v31 =>
  (aN l v31).bind fun v32 =>
  (eu ((ae.mk (aj.mk v30.Ld.Lh v30.Ld.Lf v30.Ld.Lc) v30.To v30.Lb v30.Lk v30.Le v30.At)) ((ae.mk (aj.mk v32.Ld.Lh v32.Ld.Lf v32.Ld.Lc) v32.To v32.Lb v32.Lk v32.Le v32.At))).bind fun v33 =>
  cond ((!v33))
   (some (.inr (.inr (false))))
   ((some (IntKind.i64.wrap (s39+1))).bind fun v35 =>
   some (.inl v35)))
  (some (.inr (.inl ()))))
def wR (o nb:Int) (s:List ae) (k:Nat):Bool:=match bp (az.mk o nb (s.take k)) with
 | some v=>v.2==0
 | none=>false
theorem BN {o nb:Int} {s:List ae} {k:Nat} {v:List Int×Int} (h:bp (az.mk o nb (s.take k))=some v):wR o nb s k=(v.2==0):=by
 unfold wR
 rw [h]
def mf (ok:Nat→Bool):Nat→Nat
 | 0=>0
 | k+1=>if ok (k+1)=true then k+1 else mf ok k
theorem zJ (ok:Nat→Bool):∀ k,mf ok k≤k
 | 0=>Nat.le_refl _
 | k+1=>by
  unfold mf
  split
  ·exact Nat.le_refl _
  ·exact Nat.le_succ_of_le (zJ ok k)
theorem sr {b:az} (hm:∀ m∈b.Lg,LM m∧bJ m.Lb) (hl:b.Lg.length≤20):∃ v,bp b=some v∧v.1.length≤4096:=by
 rcases pG hm hl with ⟨e,he,_⟩ | ⟨_,_,_,_,_,_,_,hw,hby⟩
 ·exact ⟨_,he,Nat.zero_le _⟩
 ·exact ⟨_,hby,hw⟩
theorem CA {s:List ae} {o nb:Int} (hm:∀ m∈s,LM m∧bJ m.Lb) (hl:s.length≤4):∀ (k fuel:Nat),k≤s.length→k<fuel →
  aQ (JZ o nb) fuel (s,(k:Int))=some (if mf (wR o nb s) k=0 then .inl () else .inr (((mf (wR o nb s) k:Nat):Int),0))
 | 0,fuel,hk,hf=>by
  obtain ⟨f,rfl⟩:∃ f,fuel=f+1:=⟨fuel-1,by omega⟩
  have hstep:JZ o nb (s,((0:Nat):Int))=some (.inr (.inl ())):=rfl
  exact aS hstep
 | k+1,fuel,hk,hf=>by
  obtain ⟨f,rfl⟩:∃ f,fuel=f+1:=⟨fuel-1,by omega⟩
  have hsl:eM s 0 ((k+1:Nat):Int)=some (s.take (k+1)):=by
   have:=du s (a:=0) (b:=k+1) (by omega) hk
   rw [show ((0:Nat):Int)=0 from rfl] at this
   rw [this,List.drop_zero,Nat.sub_zero]
  have hw:IntKind.i64.wrap (((k+1:Nat):Int)-1)=(k:Int):=by rw [dK (by omega) (by omega)]; omega
  have hd:decide (0<((k+1:Nat):Int))=true:=decide_eq_true (by omega)
  obtain ⟨v,hv,_⟩:=sr (b:=az.mk o nb (s.take (k+1))) (fun m hmm=>hm m (List.mem_of_mem_take hmm)) (by show (s.take (k+1)).length≤20; simp; omega)
  have hok:=BN hv
  cases hz:(v.2==0)
  ·rw [hz] at hok
   have e:mf (wR o nb s) (k+1)=mf (wR o nb s) k:=by
    conv=>lhs; unfold mf
    rw [hok,if_neg (by decide)]
   rw [e]
   have hstep:JZ o nb (s,((k+1:Nat):Int))=some (.inl (s,(k:Int))):=ap hd (ar hsl (ar hv (ak hz (ar (congrArg some hw) rfl))))
   exact (bx hstep).trans (CA hm hl k f (by omega) (by omega))
  ·rw [hz] at hok
   have e:mf (wR o nb s) (k+1)=k+1:=by
    conv=>lhs; unfold mf
    rw [hok,if_pos rfl]
   rw [e,if_neg (by omega)]
   exact aS (ap hd (ar hsl (ar hv (ap hz rfl))))
theorem CU {l:List ae} {n:Nat} (hn:n≤l.length) (hn4:n≤4) (hm:∀ m∈l,LM m):aQ (Kj l (n:Int)) bU ([],0)=some (.inl ((l.take n).map iH)):=by
 refine bP (fun i=>((l.take i).map iH,((i:Nat):Int))) n bU (by simp) (by simp only [bU]; omega) (fun i hi => ?_) ?_
 ·have hi2:i<l.length:=by omega
  have htl:((l.take i).map iH).length=i:=by simp; omega
  refine ap (decide_eq_true (by omega)) (ar (bi hi2) (ar (cv hi2) (ar (Bz (hm _ (List.getElem_mem hi2))) (ar (cA (by simp only [htl,List.length_cons,List.length_nil]; omega) (by simp only [htl,List.length_cons,List.length_nil]; omega)) (ar (congrArg some (aW (n:=i) (by omega))) ?_)))))
  rw [List.take_succ_eq_append_getElem hi2,List.map_append]
  rfl
 ·exact ak (decide_eq_false (by omega)) rfl
theorem Da {l:List ae} {o nb:Int} (hm:∀ m∈l,LM m∧bJ m.Lb) (hl:l.length<1000000):∃ n:Nat,n≤4∧fF l o nb=some (n:Int)∧ij l o nb=some (if n=0 then (0,9) else ((n:Int),0)):=by
 obtain ⟨K,hK,hKl,hK4,hKm⟩:∃ K:Nat,(if (4:Int)<(l.length:Int) then 4 else (l.length:Int))=(K:Int)∧K≤l.length∧K≤4∧(K=l.length∨K=4):=by
  by_cases h:4<l.length
  ·exact ⟨4,by rw [if_pos (by omega)]; rfl,by omega,by omega,.inr rfl⟩
  ·exact ⟨l.length,by rw [if_neg (by omega)],by omega,by omega,.inl rfl⟩
 have hsl:eM l 0 (K:Int)=some (l.take K):=by
  have:=du l (a:=0) (b:=K) (by omega) hKl
  rw [show ((0:Nat):Int)=0 from rfl] at this
  rw [this,List.drop_zero,Nat.sub_zero]
 have hcl:=DS (v:=l.take K) (by simp; omega)
 have hsm:((l.take K).map iH).length=K:=by simp; omega
 have hcf:∀ k,∀ m∈(l.take k).map iH,LM m∧bJ m.Lb:=fun k m hmm=>by
  obtain ⟨q,hq,rfl⟩:=List.mem_map.1 hmm
  have:=hm q (List.mem_of_mem_take hq)
  exact ⟨GD this.1,this.2⟩
 have hpk:=CA (s:=(l.take K).map iH) (o:=o) (nb:=nb) (hcf K) (by omega) K bU (by omega) (by simp only [bU]; omega)
 have hst:(((l.take K).map iH).length:Int)=(K:Int):=by rw [hsm]
 have htop:=zJ (wR o nb ((l.take K).map iH)) K
 refine ⟨mf (wR o nb ((l.take K).map iH)) K,by omega,?_,?_⟩
 ·unfold fF
  refine aI (s:=(((mf (wR o nb ((l.take K).map iH)) K:Nat):Int))) (bP (f:=JI l o nb) (fun i=>(((mf (wR o nb ((l.take K).map iH)) i:Nat):Int),((i+1:Nat):Int))) K bU rfl (by simp only [bU]; omega) (fun i hi => ?_) ?_) rfl
  ·have hin:=CU (l:=l) (n:=i+1) (by omega) (by omega) fun m hmm=>(hm m hmm).1
   obtain ⟨v,hv,_⟩:=sr (b:=az.mk o nb ((l.take (i+1)).map iH)) (hcf _) (by show ((l.take (i+1)).map iH).length≤20; simp; omega)
   have hrb:=BX (b:=az.mk o nb ((l.take (i+1)).map iH)) (hcf _) (by show ((l.take (i+1)).map iH).length≤20; simp; omega)
   have hok:=BN (s:=(l.take K).map iH) (k:=i+1) (by rw [Ak (by omega)]; exact hv)
   have hw:some (IntKind.i64.wrap (((i+1:Nat):Int)+1))=some ((i+1+1:Nat):Int):=congrArg some (aW (n:=i+1) (by omega))
   have htn:mf (wR o nb ((l.take K).map iH)) (i+1)=if wR o nb ((l.take K).map iH) (i+1)=true then i+1 else mf (wR o nb ((l.take K).map iH)) i:=rfl
   refine aI (s:=true) (ap (decide_eq_true (by omega)) (fL (decide_eq_true (by omega)))) (ap rfl ?_)
   rw [htn,hok]
   cases hz:(v.2==0)
   ·rw [if_neg (by decide)]
    exact aI (s:=((mf (wR o nb ((l.take K).map iH)) i:Nat):Int)) (aI hin (ar (hrb.trans hv) (ak hz rfl))) (ar hw rfl)
   ·rw [if_pos rfl]
    exact aI (s:=((i+1:Nat):Int)) (aI hin (ar (hrb.trans hv) (ap hz rfl))) (ar hw rfl)
  ·refine aI (s:=false) ?_ (ak rfl rfl)
   rcases hKm with h | h
   ·exact ak (decide_eq_false (by omega)) rfl
   ·by_cases h2:K+1≤l.length
    ·exact ap (decide_eq_true (by omega)) (fL (decide_eq_false (by omega)))
    ·exact ak (decide_eq_false (by omega)) rfl
 ·unfold ij
  by_cases h0:mf (wR o nb ((l.take K).map iH)) K=0
  ·rw [if_pos h0] at hpk ⊢
   refine ar (congrArg some hK) (ar hsl (aI hcl (aI (s:=()) ?_ rfl)))
   rw [hst]; exact hpk
  ·rw [if_neg h0] at hpk ⊢
   refine ar (congrArg some hK) (ar hsl (aI hcl (jY (a:=(((mf (wR o nb ((l.take K).map iH)) K:Nat):Int),0)) ?_ rfl)))
   rw [hst]; exact hpk
theorem Fq:∀ (k:Nat) (l:List Int) (i fuel:Nat),l.length-i=k→i≤l.length→k<fuel→l.length<1000000→aQ KM fuel (l,(i:Int))=some (.inl ())
 | 0,l,i,fuel,hk,hi,hf,hl=>by
  obtain ⟨f,rfl⟩:∃ f,fuel=f+1:=⟨fuel-1,by omega⟩
  exact aS (ak (decide_eq_false (by omega)) rfl)
 | k+1,l,i,fuel,hk,hi,hf,hl=>by
  obtain ⟨f,rfl⟩:∃ f,fuel=f+1:=⟨fuel-1,by omega⟩
  have hil:i<l.length:=by omega
  refine (bx (s':=(l.set i (IntKind.u8.wrap (l[i]+91)),((i+1:Nat):Int))) ?_).trans (Fq k _ (i+1) f (by rw [List.length_set]; omega) (by rw [List.length_set]; omega) (by omega) (by rw [List.length_set]; omega))
  exact ap (decide_eq_true (by omega)) (ar (bi hil) (ar (cv hil) (ar rfl (ar (bi hil) (ar rfl (ar (congrArg some (aW (n:=i) (by omega))) rfl))))))
theorem DL {l:List Int} (hl:l.length<1000000):eP l=some ():=by
 unfold eP
 exact aI (Fq l.length l 0 bU (by omega) (Nat.zero_le _) (by simp only [bU]; omega) hl) rfl
theorem Ef {l:List ae} (hm:∀ m∈l,LM m) (hl:l.length<1000000):aQ (KQ l l) bU 0=some (.inl ()):=by
 refine bP (fun i=>((i:Nat):Int)) l.length bU rfl (by simp only [bU]; omega) (fun i hi => ?_) (ak (decide_eq_false (by omega)) rfl)
 obtain ⟨t1,t2⟩:=xH (hm _ (List.getElem_mem hi))
 have hk:=qy l[i] l[i] t1 t2
 rw [decide_eq_true rfl] at hk
 have hg:=cv hi
 exact ap (decide_eq_true (by omega)) (ar (bi hi) (ar hg (ar (bi hi) (ar hg (ar hk (ak rfl (ar (congrArg some (aW (n:=i) (by omega))) rfl)))))))
theorem qt (b:az) (t:List Int) (l:List ae) (origin number:Int) (hb:az.wz b) (ht:Bo 1 (ra .u8) t) (hl:Bo 120 ae.wz l):ek b t l origin number=some true:=by
 have hmr:∀ m∈b.Lg,Ho m∧bJ m.Lb:=fun m hm=>zO (hb.2.2.2 m hm)
 have hmq:∀ m∈l,Ho m∧bJ m.Lb:=fun m hm=>zO (hl.2 m hm)
 obtain ⟨hv,hh,hlm⟩:=ze b.Lg fun m hm=>(hmr m hm).1
 obtain ⟨hv2,hh2,hlm2⟩:=ze l fun m hm=>(hmq m hm).1
 unfold ek
 cases hv
 case true=>exact aI (s:=true) (ar hh (ap rfl rfl)) (ap rfl rfl)
 cases hv2
 case true=>exact aI (s:=true) (ar hh (ak rfl (ar hh2 (ap rfl rfl)))) (ap rfl rfl)
 by_cases h5:5000<t.length
 ·exact aI (s:=true) (ar hh (ak rfl (ar hh2 (ak rfl (cC (decide_eq_true (by omega))))))) (ap rfl rfl)
 obtain ⟨hl20,hlm⟩:=hlm rfl
 obtain ⟨hk20,hlm2⟩:=hlm2 rfl
 have hmf:∀ m∈b.Lg,LM m∧bJ m.Lb:=fun m hm=>⟨hlm m hm,(hmr m hm).2⟩
 have hmg:∀ m∈l,LM m∧bJ m.Lb:=fun m hm=>⟨hlm2 m hm,(hmq m hm).2⟩
 have htb:bJ t:=tQ ⟨by unfold maxLen; omega,ht.2⟩
 obtain ⟨v,hby,hvl⟩:=sr hmf hl20
 have hrb:=(BX hmf hl20).trans hby
 obtain ⟨y,hr,hrr,hyl,hyf⟩:=Db htb (by omega)
 obtain ⟨n,hn4,hp2,hp1⟩:=Da (o:=origin) (nb:=number) hmg (by omega)
 have hck:=nh hmf hl20
 have hbu:=uN hmf hl20
 have hkx:=eZ v.1 v.1 (by omega)
 rw [decide_eq_true rfl] at hkx
 have hky:=rP y.1 (by omega) fun m hm=>xH (hyf m hm).1
 have hkb:=rP b (by omega) fun m hm=>xH (hlm m hm)
 have hkt:=eZ t t (by omega)
 rw [decide_eq_true rfl] at hkt
 have hov:=DL (l:=v.1) (by omega)
 have e1:(!(((cond (nB b) 0 5:Int)==0)==nB b))=false:=by cases nB b <;> rfl
 refine aI (s:=false) (ar hh (ak rfl (ar hh2 (ak rfl (cC (decide_eq_false (by omega))))))) (ak rfl (ar (tY hlm hl20) (ar (xF t (by omega)) (ar (tY hlm2 hk20) (ar hby (ar hrb (ar hr (ar hrr (ar hp1 (ar hp2 (aI (s:=false) (ar hck (ar hbu (ar rfl (ak e1 (ak (bne_self_eq_false _) (ar hkx (ak rfl (ak (bne_self_eq_false _) (ar hky (ak rfl ?_)))))))))) (ak rfl (aI (Ef hlm2 (by omega)) (ar hov (aI (s:=true) (ar hkb (ap rfl (ar hkt (ap rfl (ar Ed rfl))))) rfl)))))))))))))))
 by_cases h0:n=0
 ·subst h0
  rw [if_pos rfl]
  exact ak rfl (ar rfl (ak rfl (ak rfl rfl)))
 ·rw [if_neg h0]
  have e2:((n:Int)==0)=false:=beq_eq_false_iff_ne.2 (by omega)
  refine ak (bne_self_eq_false _) (ar rfl (ak ?_ (ap (decide_eq_true (by omega)) rfl)))
  show (!(((n:Int)==0)==false))=false
  rw [e2]
  rfl
end Go.Abs.Sh
