import Derived.Test.YtkgfjkfccpjcgaaDoorShkU
set_option linter.unusedVariables false
set_option linter.unusedSimpArgs false
set_option linter.unusedSectionVars false
namespace Go.Abs.Sh
set_option linter.unusedVariables false
set_option linter.unusedSimpArgs false
set_option maxRecDepth 10000
theorem Ek (l:List Int) (h:l.length≤1000000):dh l=some l:=by
 unfold dh
 exact ai (ev (by simp; omega) (by simp; omega)) (by simp)
theorem wu {w:List Int} {limit:Int} (h:¬ (nI w∧qn w limit)):bP w limit=some ([],1):=by
 unfold bP
 by_cases hw:nI w
 ·have hL:¬ qn w limit:=fun e=>h ⟨hw,e⟩
  exact aK (s:=true) (ai ((pI w).1 hw) (ao rfl (ai ((te w limit hw.1).2 hL) rfl))) (am rfl rfl)
 ·exact aK (s:=true) (ai ((pI w).2 hw) (am rfl rfl)) (am rfl rfl)
def mx (l:List Int):Int:=l.foldl (fun s x=>if x > s then x else s) 0
theorem uI {l:List Int} {i:Nat} (h:i<l.length):mx (l.take (i+1))=if l.getD i 0 > mx (l.take i) then l.getD i 0 else mx (l.take i):=by
 rw [mZ h]
 unfold mx
 rw [List.foldl_append]
 rfl
theorem GG (l:List Int):∀ n,n≤l.length→∀ i,i<n→l.getD i 0≤mx (l.take n)
 | 0,_,i,h=>by omega
 | n+1,h,i,hi=>by
  rw [uI (by omega)]
  by_cases e:i=n
  ·subst e; split <;> omega
  ·have:=GG l n (by omega) i (by omega)
   split <;> omega
theorem GF {l:List Int} {b:Int} (h0:0≤b) (hb:∀ i,i<l.length→l.getD i 0≤b):∀ n,n≤l.length→mx (l.take n)≤b
 | 0,_=>h0
 | n+1,h=>by
  rw [uI (by omega)]
  have:=GF h0 hb n (by omega)
  have:=hb n (by omega)
  split <;> omega
theorem vS {S O:Type} {f:S→Option (S⊕O)} (P:Nat→S→Prop) {o:O}:∀ (n fuel i:Nat) (s:S),i≤n→n-i<fuel→P i s→(∀ i s,i<n→P i s→∃ s',f s=some (.inl s')∧P (i+1) s')→(∀ s,P n s→f s=some (.inr o))→aG f fuel s=some o:=by
 intro n fuel
 induction fuel with
 | zero=>intro i s _ h; omega
 | succ fuel ih =>
  intro i s hi hf hP hs he
  by_cases h:i=n
  ·subst h; exact aV (he s hP)
  ·obtain ⟨s',h1,h2⟩:=hs i s (by omega) hP
   rw [bh h1]
   exact ih (i+1) s' (by omega) (by omega) h2 hs he
theorem CD {l:List ab} {but:Int} {r:Nat} (hl:l.length≤1000) (hr:r<l.length) (hb:(r:Int)≠but)
  (h1:∀ j,j<l.length→(j:Int)≠but→(l[r]!).w≤(l[j]!).w) (h2:∀ j,j<r→(j:Int)≠but→(l[r]!).w<(l[j]!).w):cA l but=some (r:Int):=by
 have hg:∀ j,j<l.length→aB l j=some l[j]! := fun j hj=>by rw [bW hj,getElem!_pos l j hj]
 unfold cA
 refine aK (s:=(r:Int)) ?_ rfl
 refine vS (fun i s=>s.2=(i:Int)∧(r<i→s.1=(r:Int))∧(i≤r→(s.1<0∨∃ p:Nat,s.1=(p:Int)∧p<i∧(p:Int)≠but))) l.length bD 0 (-1,0) (Nat.zero_le _) (by unfold bD; omega) ⟨rfl,fun h=>by omega,fun _ => .inl (by simp)⟩ ?_ ?_
 ·rintro i ⟨b,j⟩ hi ⟨hj,hgt,hle⟩
  simp only at hj hgt hle
  subst hj
  have fin:∀ c:Bool,(r<i→c=false)→(i≤r→c=true→(i:Int)≠but)→(i=r→c=true) →
    ∃ s':Int×Int,aq (S:=Int) (A:=((Int×Int)⊕((Int)⊕Int))) (cond c (some (.inl (i:Int))) (some (.inl b))) (fun (s68:Int)=>(some (IntKind.i64.wrap ((i:Int)+1))).bind fun v20=>some (.inl (s68,v20))) some=some (.inl s')∧s'.2=((i+1:Nat):Int)∧(r<i+1→s'.1=(r:Int))∧(i+1≤r→(s'.1<0∨∃ p:Nat,s'.1=(p:Int)∧p<i+1∧(p:Int)≠but)):=by
   intro c k1 k2 k3
   refine ⟨(if c then (i:Int) else b,((i+1:Nat):Int)),?_,rfl,?_,?_⟩
   ·refine aK (s:=if c then (i:Int) else b) (by cases c <;> rfl) (ai (x:=((i+1:Nat):Int)) (by rw [aI (by omega)]) rfl)
   ·intro h
    cases c with
    | true =>
     by_cases e:i=r
     ·subst e; rfl
     ·have:=k1 (by omega); cases this
    | false =>
     by_cases e:i=r
     ·have:=k3 e; cases this
     ·exact hgt (by omega)
   ·intro h
    cases c with
    | true=>exact .inr ⟨i,rfl,by omega,k2 (by omega) rfl⟩
    | false =>
     rcases hle (by omega) with h | ⟨p,h,hp,hpb⟩
     ·exact .inl h
     ·exact .inr ⟨p,h,by omega,hpb⟩
  by_cases hib:(i:Int)=but
  ·obtain ⟨s',e1,e2⟩:=fin false (fun _=>rfl) (fun _ h=>by cases h) (fun e=>by subst e; exact absurd hib hb)
   refine ⟨s',am (by simp; omega) ?_,e2⟩
   rw [← e1]
   have:aq (S:=Bool) (A:=(Int⊕((Int×Int)⊕((Int)⊕Int)))) (cond ((i:Int) != but) (cond (decide (b<0)) (some (.inl true)) ((bf (i:Int) l.length).bind fun v2=>(aB l v2).bind fun v3=>(bf b l.length).bind fun v4=>(aB l v4).bind fun v5=>some (.inl (decide (v3.w<v5.w))))) (some (.inl false))) (fun (s72:Bool)=>cond s72 (some (.inl (i:Int))) (some (.inl b))) some=cond false (some (.inl (i:Int))) (some (.inl b)):=aK (s:=false) (ao (by simp [hib]) rfl) rfl
   rw [this]
  ·by_cases hb0:b<0
   ·obtain ⟨s',e1,e2⟩:=fin true (fun h=>by have:=hgt h; omega) (fun _ _=>hib) (fun _=>rfl)
    refine ⟨s',am (by simp; omega) ?_,e2⟩
    rw [← e1]
    have:aq (S:=Bool) (A:=(Int⊕((Int×Int)⊕((Int)⊕Int)))) (cond ((i:Int) != but) (cond (decide (b<0)) (some (.inl true)) ((bf (i:Int) l.length).bind fun v2=>(aB l v2).bind fun v3=>(bf b l.length).bind fun v4=>(aB l v4).bind fun v5=>some (.inl (decide (v3.w<v5.w))))) (some (.inl false))) (fun (s72:Bool)=>cond s72 (some (.inl (i:Int))) (some (.inl b))) some=cond true (some (.inl (i:Int))) (some (.inl b)):=aK (s:=true) (am (by simp [hib]) (am (decide_eq_true hb0) rfl)) rfl
    rw [this]
   ·obtain ⟨p,hp,hpi,hpb⟩:∃ p:Nat,b=(p:Int)∧p<i∧(p:Int)≠but:=by
     by_cases h:r<i
     ·exact ⟨r,hgt h,h,hb⟩
     ·rcases hle (by omega) with h | ⟨p,h,h'⟩
      ·exact absurd h hb0
      ·exact ⟨p,h,h'⟩
    subst hp
    have hw:r<i→¬ (l[i]!).w<(l[p]!).w:=fun h=>by
     have h3:(p:Int)=(r:Int):=hgt h
     have h4:p=r:=by omega
     rw [h4]
     have:=h1 i hi hib
     omega
    have hwr:i=r→(l[i]!).w<(l[p]!).w:=fun h=>by
     subst h
     exact h2 p hpi hpb
    obtain ⟨s',e1,e2⟩:=fin (decide ((l[i]!).w<(l[p]!).w)) (fun h=>decide_eq_false (hw h)) (fun _ _=>hib) (fun h=>decide_eq_true (hwr h))
    refine ⟨s',am (by simp; omega) ?_,e2⟩
    rw [← e1]
    have:aq (S:=Bool) (A:=(Int⊕((Int×Int)⊕((Int)⊕Int)))) (cond ((i:Int) != but) (cond (decide ((p:Int)<0)) (some (.inl true)) ((bf (i:Int) l.length).bind fun v2=>(aB l v2).bind fun v3=>(bf (p:Int) l.length).bind fun v4=>(aB l v4).bind fun v5=>some (.inl (decide (v3.w<v5.w))))) (some (.inl false))) (fun (s72:Bool)=>cond s72 (some (.inl (i:Int))) (some (.inl (p:Int)))) some=cond (decide ((l[i]!).w<(l[p]!).w)) (some (.inl (i:Int))) (some (.inl (p:Int))):=aK (s:=decide ((l[i]!).w<(l[p]!).w)) (am (by simp [hib]) (ao (decide_eq_false hb0) (ai (aA hi) (ai (hg i hi) (ai (aA (by omega)) (ai (hg p (by omega)) rfl)))))) rfl
    rw [this]
 ·rintro ⟨b,j⟩ ⟨hj,hgt,_⟩
  simp only at hj hgt
  subst hj
  refine ao (by simp) ?_
  rw [hgt hr]
def IU (u:List Int) (n k k':Nat):Prop:=(k<n∧k'<n∧u.getD k 0<u.getD k' 0)∨(k<n∧n≤k')∨(n≤k∧k<k')
theorem xq {n:Nat} {W u:List Int} {lf mg k:Nat} (hsu:∀ p q,p<q→q<n→W.getD p 0<W.getD q 0∨(W.getD p 0=W.getD q 0∧u.getD p 0≤u.getD q 0)) (hk:(lf≤k∧k<n)∨(mg≤k∧k<W.length)) (hmg:n≤mg) (hm:mg≤W.length)
  (hr:IU u n k (lp n W lf mg).1):W.getD (lp n W lf mg).1 0<W.getD k 0:=by
 unfold lp at *
 split at hr
 ·rename_i hc
  rw [if_pos hc]
  simp only at hr ⊢
  unfold IU at hr
  rcases hr with ⟨h1,h2,h3⟩ | h | h
  ·have hne:lf≠k:=fun e=>by subst e; omega
   rcases hsu lf k (by omega) (by omega) with h | h
   ·exact h
   ·omega
  ·omega
  ·omega
 ·rename_i hc
  rw [if_neg hc]
  simp only at hr ⊢
  unfold IU at hr
  rcases hr with ⟨h1,h2,h3⟩ | h | h
  ·omega
  ·have h4:¬ (W.getD lf 0≤W.getD mg 0):=fun e=>hc ⟨by omega,.inr e⟩
   by_cases e:lf=k
   ·subst e; omega
   ·have:=hsu lf k (by omega) (by omega)
    omega
  ·omega
theorem mf {r:List Nat} {j:Nat} (h:j<r.length):r[j]=r.getD j 0:=by simp [h]
theorem mC {r:List Nat} (f:Nat→ab) {j:Nat} (h:j<r.length):(r.map f)[j]! = f (r.getD j 0):=by
 rw [getElem!_pos _ _ (by simpa using h),List.getElem_map,mf h]
theorem kw (x lo hi:Int):bB x lo hi=some (decide (lo≤x∧x≤hi)):=by
 unfold bB
 by_cases h1:lo≤x
 ·refine aK (s:=decide (x≤hi)) (am (decide_eq_true h1) rfl) ?_
  simp [h1]
 ·refine aK (s:=false) (ao (decide_eq_false h1) rfl) ?_
  simp [h1]
def mV (l v:List Int):Nat→List Int
 | 0=>l
 | j+1=>(mV l v j).set (v.getD j 0).toNat ((mV l v j).getD (v.getD j 0).toNat 0+1)
theorem oh (l v:List Int):∀ j,(mV l v j).length=l.length
 | 0=>rfl
 | j+1=>by rw [mV,List.length_set]; exact oh l v j
theorem lM {l v:List Int} {x:Nat}:∀ j,(∀ k,k<j→(v.getD k 0).toNat≠x)→(mV l v j).getD x 0=l.getD x 0
 | 0,_=>rfl
 | j+1,h=>by
  rw [mV,getD_set_ne (h j (by omega))]
  exact lM j fun k hk=>h k (by omega)
theorem zI {l v:List Int} (hd:∀ a b,a<v.length→b<v.length→(v.getD a 0).toNat=(v.getD b 0).toNat→a=b) (hl:∀ a,a<v.length→(v.getD a 0).toNat<l.length):∀ j,j≤v.length→∀ k,k<j→(mV l v j).getD (v.getD k 0).toNat 0=l.getD (v.getD k 0).toNat 0+1
 | 0,_,k,h=>by omega
 | j+1,hj,k,h=>by
  rw [mV]
  by_cases e:k=j
  ·subst e
   rw [eU (by rw [oh]; exact hl k (by omega)),lM k fun q hq e=>by have:=hd q k (by omega) (by omega) e; omega]
  ·rw [getD_set_ne (fun e2=>e (hd k j (by omega) (by omega) e2.symm))]
   exact zI hd hl j (by omega) k (by omega)
structure PI (w:List Int) (i:Nat) (r:List Nat) (wh:Nat→List Int) (L:List Int):Prop where
 nd:r.Nodup
 mem:∀ k,k∈r↔((du (co w) i).lf≤k∧k<(co w).length)∨((du (co w) i).mg≤k∧k<(co w).length+i)
 ord:r.Pairwise (IU (fO w) (co w).length)
 per:(r.flatMap wh).Perm (pos w)
 ll:L.length=w.length
 val:∀ κ,κ∈r→∀ x,x∈wh κ→∃ k,k<(co w).length∧(fO w).getD k 0=x∧L.getD x.toNat 0=(dn (co w)).getD k 0-(dn (co w)).getD κ 0
 zero:∀ i,i<w.length→¬ 0<w.getD i 0→L.getD i 0=0
def eh (W:List Int) (wh:Nat→List Int) (k:Nat):ab:=⟨W.getD k 0,wh k⟩
theorem pX {r:List Nat} {wh:Nat→List Int} {a:Nat} (hn:r.Nodup) (ha:a∈r):(r.flatMap wh).Perm (wh a++(r.filter (· != a)).flatMap wh):=by
 induction r with
 | nil=>cases ha
 | cons x r ih =>
  rw [List.nodup_cons] at hn
  by_cases e:x=a
  ·subst e
   have:(x::r).filter (· != x)=r:=by
    rw [List.filter_cons_of_neg (by simp)]
    exact List.filter_eq_self.2 fun y hy=>by simp; intro e; subst e; exact hn.1 hy
   rw [this,List.flatMap_cons]
  ·have ha':a∈r:=by
    rcases List.mem_cons.1 ha with h | h
    ·exact absurd h.symm e
    ·exact h
   rw [List.filter_cons_of_pos (by simpa using e),List.flatMap_cons,List.flatMap_cons]
   refine ((ih hn.2 ha').append_left (wh x)).trans ?_
   rw [← List.append_assoc,← List.append_assoc]
   exact List.perm_append_comm.append_right _
theorem xN {r:List Nat} {f g:Nat→List Int} (h:∀ k,k∈r→f k=g k):r.flatMap f=r.flatMap g:=by
 induction r with
 | nil=>rfl
 | cons x r ih=>rw [List.flatMap_cons,List.flatMap_cons,h x (by simp),ih fun k hk=>h k (by simp [hk])]
theorem DT {w:List Int} {p q:Nat} (h1:p<q) (h2:q<(co w).length):(co w).getD p 0<(co w).getD q 0∨((co w).getD p 0=(co w).getD q 0∧(fO w).getD p 0≤(fO w).getD q 0):=by
 rw [eX,← gn] at h2
 rw [kJ (by omega),kJ h2]
 have h4:=(List.pairwise_iff_getElem.1 (mH w (pos w))) p q (by show p<(fO w).length; omega) h2 h1
 rw [mw] at h4
 have e1:(jv w (pos w))[p]'(by show p<(fO w).length; omega)=(fO w).getD p 0:=cJ (l:=fO w) (by omega)
 have e2:(jv w (pos w))[q]'h2=(fO w).getD q 0:=cJ (l:=fO w) h2
 rw [e1,e2] at h4
 exact h4
theorem ry {w:List Int} {r:List Nat} {wh:Nat→List Int} {W:List Int} {lf mg:Nat} {but:Int} {bn:Nat} (hlen:r.length≤1000) (hnd:r.Nodup) (ho:r.Pairwise (IU (fO w) (co w).length))
  (hW:∀ k,k<(co w).length→W.getD k 0=(co w).getD k 0) (hmem:∀ k,k∈r→(k:Int)≠(bn:Int)∨but = -1→(lf≤k∧k<(co w).length)∨(mg≤k∧k<W.length)) (hmg:(co w).length≤mg) (hm:mg≤W.length) (hp:HF (co w).length W lf mg (lp (co w).length W lf mg))
  (hbut:but = -1∨∃ j,j<r.length∧but=(j:Int)∧r.getD j 0=bn) (hne:but = -1∨(lp (co w).length W lf mg).1≠bn) {ra:Nat} (hra:ra<r.length) (hea:r.getD ra 0=(lp (co w).length W lf mg).1) :
  cA (r.map (eh W wh)) but=some (ra:Int):=by
 have inj:∀ a b,a<r.length→b<r.length→r.getD a 0=r.getD b 0→a=b:=by
  intro a b ha hb e
  rw [← mf ha,← mf hb] at e
  have hpw:=List.pairwise_iff_getElem.1 hnd
  rcases Nat.lt_trichotomy a b with h3 | h3 | h3
  ·exact absurd e (hpw a b ha hb h3)
  ·exact h3
  ·exact absurd e.symm (hpw b a hb ha h3)
 have hok:∀ j,j<r.length→(j:Int)≠but→(lf≤r.getD j 0∧r.getD j 0<(co w).length)∨(mg≤r.getD j 0∧r.getD j 0<W.length):=by
  intro j hj hjb
  refine hmem _ (by rw [← mf hj]; exact List.getElem_mem _) ?_
  rcases hbut with h | ⟨q,hq,h,hqe⟩
  ·exact .inr h
  ·left
   intro e
   have:r.getD j 0=r.getD q 0:=by omega
   have:=inj j q hj hq this
   omega
 refine CD (by simpa using hlen) (by simpa using hra) ?_ ?_ ?_
 ·intro e
  rcases hbut with h | ⟨q,hq,h,hqe⟩
  ·omega
  ·have:ra=q:=by omega
   subst this
   rcases hne with h' | h'
   ·omega
   ·exact h' (by omega)
 ·intro j hj hjb
  rw [List.length_map] at hj
  rw [mC _ hra,mC _ hj]
  show W.getD (r.getD ra 0) 0≤W.getD (r.getD j 0) 0
  rw [hea]
  exact hp.min _ (hok j hj hjb)
 ·intro j hj hjb
  rw [mC _ hra,mC _ (by omega)]
  show W.getD (r.getD ra 0) 0<W.getD (r.getD j 0) 0
  have hr:=(List.pairwise_iff_getElem.1 ho) j ra (by omega) hra hj
  rw [mf (by omega),mf hra] at hr
  rw [hea] at hr ⊢
  exact xq (u:=fO w) (fun p q h1 h2=>by rw [hW p (by omega),hW q h2]; exact DT h1 h2) (hok j (by omega) hjb) hmg hm hr
theorem Dd (W0:List Int):∀ i,(du W0 i).C.length=2 * i
 | 0=>rfl
 | i+1=>by
  have:=Dd W0 i
  rw [du]
  unfold lR
  simp only [List.length_append,List.length_cons,List.length_nil]
  omega
theorem DK (W0:List Int) (i j:Nat) (hj:j<2 * i):∀ d,(du W0 (i+d)).C.getD j 0=(du W0 i).C.getD j 0
 | 0=>rfl
 | d+1=>by
  rw [← DK W0 i j hj d,← Nat.add_assoc,du]
  unfold lR
  exact nE (by rw [Dd]; omega)
theorem Du {l v:List Int} {A:Type} (hl:l.length≤1000) (hv:v.length≤1000) (hin:∀ x,x∈v→0≤x∧x<(l.length:Int)) (hd:∀ a b,a<v.length→b<v.length→(v.getD a 0).toNat=(v.getD b 0).toNat→a=b) (hb:∀ x,x∈v → -1000000≤l.getD x.toNat 0∧l.getD x.toNat 0≤1000000) :
  aG (S:=((List Int)×Int)) (O:=(List Int)⊕A) (fun ((s362,s363):(List Int)×Int) =>
   cond ((decide (s363<(v.length:Int))))
    ((bf s363 v.length).bind fun v74 =>
    (aB v v74).bind fun v75 =>
    (bf v75 s362.length).bind fun v76 =>
    (aB s362 v76).bind fun v77 =>
    (some (IntKind.i64.wrap (v77+1))).bind fun v78 =>
    (bf v75 s362.length).bind fun v79 =>
    (some (s362.set v79 v78)).bind fun v80 =>
    (some (IntKind.i64.wrap (s363+1))).bind fun v81 =>
    some (.inl (v80,v81)))
    (some (.inr (.inl s362)))) bD (l,0)=some (.inl (mV l v v.length)):=by
 refine bX (fun j=>(mV l v j,(j:Int))) v.length bD rfl (by unfold bD; omega) (fun j hj => ?_) (ao (by simp) rfl)
 have hx:v.getD j 0∈v:=by rw [← cJ hj]; exact List.getElem_mem _
 have h1:=hin _ hx
 have h2:=hb _ hx
 have hlen:=oh l v j
 have ho:(mV l v j).getD (v.getD j 0).toNat 0=l.getD (v.getD j 0).toNat 0:=lM j fun k hk e=>by have:=hd k j (by omega) hj e; omega
 have e:bf (v.getD j 0) (mV l v j).length=some (v.getD j 0).toNat:=by unfold bf; rw [if_pos (by rw [hlen]; exact h1)]
 exact am (by simp; omega) (ai (aA hj) (ai (dp hj) (ai e (ai (dp (by rw [hlen]; omega)) (ai (x:=(mV l v j).getD (v.getD j 0).toNat 0+1) (by rw [ho,wrap_i64 (by omega) (by omega)]) (ai e (ai rfl (ai (x:=((j+1:Nat):Int)) (by rw [aI (by omega)]) rfl))))))))
theorem CP {r:List Nat} {f:Nat→ab} {a b ra rb:Nat} {A:Type} (hl:r.length≤1000) (hnd:r.Nodup) (hra:ra<r.length) (hea:r.getD ra 0=a) (hrb:rb<r.length) (heb:r.getD rb 0=b) :
  aG (S:=((List ab)×Int)) (O:=(List ab)⊕A) (fun ((s405,s406):(List ab)×Int) =>
   cond ((decide (s406<((r.map f).length:Int))))
    (aq (S:=List ab) (A:=(((List ab)×Int)⊕((List ab)⊕A)))
     (aq (S:=Bool) (A:=((List ab)⊕(((List ab)×Int)⊕((List ab)⊕A))))
      (cond ((s406 != (ra:Int)))
       (some (.inl (s406 != (rb:Int))))
       (some (.inl false)))
      (fun (s439:Bool) =>
       cond (s439)
        ((bf s406 (r.map f).length).bind fun v102 =>
        (aB (r.map f) v102).bind fun v103 =>
        (ce 32 s405 [v103]).bind fun v104 =>
        some (.inl v104))
        (some (.inl s405))) some)
     (fun (s435:(List ab)) =>
      (some (IntKind.i64.wrap (s406+1))).bind fun v114 =>
      some (.inl (s435,v114))) some)
    (some (.inr (.inl s405)))) bD ([],0)=some (.inl (((r.filter (· != a)).filter (· != b)).map f)):=by
 have inj:∀ x y,x<r.length→y<r.length→r.getD x 0=r.getD y 0→x=y:=by
  intro x y ha hb e
  rw [← mf ha,← mf hb] at e
  have hpw:=List.pairwise_iff_getElem.1 hnd
  rcases Nat.lt_trichotomy x y with h3 | h3 | h3
  ·exact absurd e (hpw x y ha hb h3)
  ·exact h3
  ·exact absurd e.symm (hpw y x hb ha h3)
 refine bX (fun j=>((((r.take j).filter (· != a)).filter (· != b)).map f,(j:Int))) r.length bD rfl (by unfold bD; omega) (fun j hj => ?_) (ao (by simp) (by rw [List.take_length]))
 have htk:r.take (j+1)=r.take j++[r.getD j 0]:=by rw [List.take_add_one,List.getElem?_eq_getElem hj,mf hj]; rfl
 have hfl:((((r.take j).filter (· != a)).filter (· != b)).map f).length≤1000:=by
  rw [List.length_map]
  have h1:=List.length_filter_le (· != b) ((r.take j).filter (· != a))
  have h2:=List.length_filter_le (· != a) (r.take j)
  rw [List.length_take] at h2
  omega
 refine am (by simp; omega) ?_
 by_cases h1:j=ra
 ·subst h1
  refine aK (s:=(((r.take j).filter (· != a)).filter (· != b)).map f) (aK (s:=false) (ao (by simp) rfl) (ao rfl rfl)) (ai (x:=((j+1:Nat):Int)) (by rw [aI (by omega)]) ?_)
  rw [htk,hea,List.filter_append]
  simp
 by_cases h2:j=rb
 ·subst h2
  refine aK (s:=(((r.take j).filter (· != a)).filter (· != b)).map f) (aK (s:=false) (am (by simp; omega) (by simp)) (ao rfl rfl)) (ai (x:=((j+1:Nat):Int)) (by rw [aI (by omega)]) ?_)
  rw [htk,heb,List.filter_append,List.filter_append]
  have:([b].filter (· != a)).filter (· != b)=[]:=by
   by_cases e:b=a <;> simp [e]
  rw [this,List.append_nil]
 ·have n1:r.getD j 0≠a:=fun e=>h1 (inj j ra hj hra (by omega))
  have n2:r.getD j 0≠b:=fun e=>h2 (inj j rb hj hrb (by omega))
  have hgo:aB (r.map f) j=some (f (r.getD j 0)):=by
   rw [bW (by simpa using hj),List.getElem_map,mf hj]
  refine aK (s:=(((r.take j).filter (· != a)).filter (· != b)).map f++[f (r.getD j 0)]) (aK (s:=true) (am (by simp; omega) (by simp; omega)) (am rfl (ai (aA (by simpa using hj)) (ai hgo (ai (ev (by simp only [List.length_cons,List.length_nil]; omega) (by simp only [List.length_cons,List.length_nil]; omega)) rfl))))) (ai (x:=((j+1:Nat):Int)) (by rw [aI (by omega)]) ?_)
  rw [htk,List.filter_append,List.filter_append]
  have:([r.getD j 0].filter (· != a)).filter (· != b)=[r.getD j 0]:=by
   rw [List.filter_cons_of_pos (by simpa using n1),List.filter_nil,List.filter_cons_of_pos (by simpa using n2),List.filter_nil]
  rw [this,List.map_append]
  rfl
theorem Dx {r:List Nat} {a:Nat} (h:a∈r):∃ j,j<r.length∧r.getD j 0=a:=by
 obtain ⟨j,hj,e⟩:=List.getElem_of_mem h
 exact ⟨j,hj,by rw [← mf hj]; exact e⟩
theorem Hg {r:List Nat} (hnd:r.Nodup) {x y:Nat} (hx:x<r.length) (hy:y<r.length) (e:r.getD x 0=r.getD y 0):x=y:=by
 rw [← mf hx,← mf hy] at e
 have hpw:=List.pairwise_iff_getElem.1 hnd
 rcases Nat.lt_trichotomy x y with h3 | h3 | h3
 ·exact absurd e (hpw x y hx hy h3)
 ·exact h3
 ·exact absurd e.symm (hpw y x hy hx h3)
theorem Ff {w:List Int} (hw:nI w) (h2:2≤(pos w).length) {i:Nat} (hi:i+1<(co w).length) {r:List Nat} {wh:Nat→List Int} {L:List Int} (p:PI w i r wh L) :
  ∃ (a b ra rb:Nat) (wh':Nat→List Int),1<r.length∧ra<r.length∧rb<r.length∧r.getD ra 0=a∧r.getD rb 0=b ∧
   cA (r.map (eh (du (co w) i).W wh)) (-1)=some (ra:Int)∧cA (r.map (eh (du (co w) i).W wh)) (ra:Int)=some (rb:Int) ∧
   IntKind.i64.wrap ((du (co w) i).W.getD a 0+(du (co w) i).W.getD b 0)=(du (co w) i).W.getD a 0+(du (co w) i).W.getD b 0 ∧
   ((r.filter (· != a)).filter (· != b)).map (eh (du (co w) i).W wh)++[⟨(du (co w) i).W.getD a 0+(du (co w) i).W.getD b 0,wh a++wh b⟩]=(((r.filter (· != a)).filter (· != b))++[(co w).length+i]).map (eh (du (co w) (i+1)).W wh') ∧
   (∀ x,x∈wh a++wh b→0≤x∧x<(L.length:Int))∧(∀ x y,x<(wh a++wh b).length→y<(wh a++wh b).length→((wh a++wh b).getD x 0).toNat=((wh a++wh b).getD y 0).toNat→x=y)∧(∀ x,x∈wh a++wh b → -1000000≤L.getD x.toNat 0∧L.getD x.toNat 0≤1000000)∧(wh a++wh b).length≤300∧r.length≤300 ∧
   PI w (i+1) (((r.filter (· != a)).filter (· != b))++[(co w).length+i]) wh' (mV L (wh a++wh b) (wh a++wh b).length):=by
 have hwl:=eX w
 have hpl:=kN w
 have hw1:=hw.1
 have vf:=oz h2
 have vi:=iw (W0:=co w) nT (fun k hk=>oW hk) i (by omega)
 have vi':=iw (W0:=co w) nT (fun k hk=>oW hk) (i+1) (by omega)
 have hst:du (co w) (i+1)=lR (co w).length (du (co w) i):=rfl
 have hstab:=fun j hj=>DK (co w) (i+1) j hj ((co w).length-1-(i+1))
 rw [show i+1+((co w).length-1-(i+1))=(co w).length-1 by omega] at hstab
 obtain ⟨nd,mem,ord,per,ll,val,zero⟩:=p
 have hsum:=yZ hw
 have hD:=fun k=>jj (du (co w) ((co w).length-1)).P (2 * (co w).length-1) (2 * (co w).length-2) k
 have hDe:∀ k,(dn (co w)).getD k 0=(dst (du (co w) ((co w).length-1)).P (2 * (co w).length-1) (2 * (co w).length-2)).getD k 0:=fun _=>rfl
 have hcoreP:=qy (W0:=co w) (by omega) vf
 have hparf:=vf.par
 have hsW:∀ p q,p≤q→q<(co w).length→(du (co w) i).W.getD p 0≤(du (co w) i).W.getD q 0:=fun p q h1 h2=>by rw [vi.leaf p (by omega),vi.leaf q h2]; exact nT p q h1 h2
 have hmW:∀ p q,(du (co w) i).mg≤p→p≤q→q<(du (co w) i).W.length→(du (co w) i).W.getD p 0≤(du (co w) i).W.getD q 0:=fun p q h1 h2 h3=>vi.mono p q (by have:=vi.mg1; omega) h2 (by have:=vi.wl; omega)
 have hwL:=vi.wl
 have hlf:=vi.lf
 have hm1:=vi.mg1
 have hm2:=vi.mg2
 have hcn:=vi.cnt
 have hle:=vi.le
 have hle':=vi'.le
 have hpo:=vi.pos
 have hleaf:=vi.leaf
 have hnew':=vi'.new i (by omega)
 have hCL:=Dd (co w) i
 rw [hst] at hle' hnew'
 generalize hse:du (co w) i=s at *
 obtain ⟨a,l1,m1,ea⟩:∃ a l1 m1,lp (co w).length s.W s.lf s.mg=(a,l1,m1):=⟨_,_,_,rfl⟩
 have pa:=kh (n:=(co w).length) (W:=s.W) hlf (show s.mg≤s.W.length by omega) (by omega) hsW hmW
 have ea1:(lp (co w).length s.W s.lf s.mg).1=a:=by rw [ea]
 have pa':=pa
 rw [ea] at pa'
 have wa:=pa'.way
 simp only at wa
 obtain ⟨b,l2,m2,eb⟩:∃ b l2 m2,lp (co w).length s.W l1 m1=(b,l2,m2):=⟨_,_,_,rfl⟩
 have pb:=kh (n:=(co w).length) (W:=s.W) (lf:=l1) (mg:=m1) (by omega) (by omega) (by omega) hsW (fun p q h1 h2 h3=>hmW p q (by omega) h2 h3)
 have eb1:(lp (co w).length s.W l1 m1).1=b:=by rw [eb]
 have pb':=pb
 rw [eb] at pb'
 have wb:=pb'.way
 simp only at wb
 have hs':du (co w) (i+1)=⟨s.W++[s.W.getD a 0+s.W.getD b 0],(s.P.set a (s.W.length:Int)).set b (s.W.length:Int)++[0],l2,m2,s.C++[a,b]⟩:=by
  rw [hst]
  unfold lR
  rw [ea]
  simp only
  rw [eb]
 have haL:a<s.W.length:=by omega
 have hbL:b<s.W.length:=by omega
 have hab:a≠b:=by omega
 have hamem:a∈r:=(mem a).2 (by omega)
 have hbmem:b∈r:=(mem b).2 (by omega)
 obtain ⟨ra,hra,era⟩:=Dx hamem
 obtain ⟨rb,hrb,erb⟩:=Dx hbmem
 have hrl:r.length≤300:=by
  -- no more nodes than numbers
  have hsub:r.length≤(co w).length-i:=by
   have hperm:r.Perm ((List.range' s.lf ((co w).length-s.lf))++(List.range' s.mg ((co w).length+i-s.mg))):=by
    refine (List.perm_ext_iff_of_nodup nd ?_).2 fun k => ?_
    ·rw [List.nodup_append]
     refine ⟨List.nodup_range',List.nodup_range',fun x hx y hy => ?_⟩
     rw [List.mem_range'_1] at hx hy
     omega
    ·rw [mem k,List.mem_append,List.mem_range'_1,List.mem_range'_1]
     omega
   have:=hperm.length_eq
   rw [List.length_append,List.length_range',List.length_range'] at this
   omega
  omega
 have hr1:1<r.length:=by
  rcases Nat.lt_or_ge 1 r.length with h | h
  ·exact h
  ·have:ra=rb:=by omega
   subst this
   omega
 -- who is in a and b
 have hflat:(r.flatMap wh).Perm (wh a++(wh b++(((r.filter (· != a)).filter (· != b)).flatMap wh))) :=
  (pX nd hamem).trans ((pX (nd.filter _) (List.mem_filter.2 ⟨hbmem,by simpa using Ne.symm hab⟩)).append_left _)
 have hpos:(wh a++(wh b++(((r.filter (· != a)).filter (· != b)).flatMap wh))).Perm (pos w):=hflat.symm.trans per
 have hnodup:(wh a++(wh b++(((r.filter (· != a)).filter (· != b)).flatMap wh))).Nodup:=hpos.nodup_iff.2 ((jB w w.length).imp fun h=>by omega)
 have hv:∀ x,x∈wh a++wh b→x∈pos w:=fun x hx=>hpos.mem_iff.1 (by
  rcases List.mem_append.1 hx with h | h
  ·exact List.mem_append_left _ h
  ·exact List.mem_append_right _ (List.mem_append_left _ h))
 have hvp:∀ x,x∈wh a++wh b→0≤x∧x<(w.length:Int)∧0<w.getD x.toNat 0:=fun x hx=>gQ w w.length x (hv x hx)
 have hvnd:(wh a++wh b).Nodup:=by
  rw [← List.append_assoc] at hnodup
  exact (List.nodup_append.1 hnodup).1
 have hvlen:(wh a++wh b).length≤300:=by
  have:=hpos.length_eq
  simp only [List.length_append] at this ⊢
  omega
 have hinj:∀ x y,x<(wh a++wh b).length→y<(wh a++wh b).length→((wh a++wh b).getD x 0).toNat=((wh a++wh b).getD y 0).toNat→x=y:=by
  intro x y hx hy e
  have h1:=hvp ((wh a++wh b).getD x 0) (by rw [← cJ hx]; exact List.getElem_mem _)
  have h2:=hvp ((wh a++wh b).getD y 0) (by rw [← cJ hy]; exact List.getElem_mem _)
  have e':(wh a++wh b)[x]=(wh a++wh b)[y]:=by rw [cJ hx,cJ hy]; omega
  have hpw:=List.pairwise_iff_getElem.1 hvnd
  rcases Nat.lt_trichotomy x y with h3 | h3 | h3
  ·exact absurd e' (hpw x y hx hy h3)
  ·exact h3
  ·exact absurd e'.symm (hpw y x hy hx h3)
 -- the depths of a and b
 have hCn:(s.C++[a,b]).getD (2 * i) 0=a∧(s.C++[a,b]).getD (2 * i+1) 0=b:=rD hCL
 have hDa:(dn (co w)).getD a 0=(dn (co w)).getD ((co w).length+i) 0+1:=by
  have h1:=hstab (2 * i) (by omega)
  rw [hs',hCn.1] at h1
  have h3:=hparf (2 * i) (by omega)
  rw [h1] at h3
  have h4:=hcoreP a (by omega)
  rw [h3,Int.toNat_natCast,show 2 * i / 2=i by omega] at h4
  exact h4
 have hDb:(dn (co w)).getD b 0=(dn (co w)).getD ((co w).length+i) 0+1:=by
  have h1:=hstab (2 * i+1) (by omega)
  rw [hs',hCn.2] at h1
  have h3:=hparf (2 * i+1) (by omega)
  rw [h1] at h3
  have h4:=hcoreP b (by omega)
  rw [h3,Int.toNat_natCast,show (2 * i+1) / 2=i by omega] at h4
  exact h4
 have hLb:∀ x,x∈wh a++wh b→(-1000000≤L.getD x.toNat 0∧L.getD x.toNat 0≤1000000)∧∃ k,k<(co w).length∧(fO w).getD k 0=x∧L.getD x.toNat 0+1=(dn (co w)).getD k 0-(dn (co w)).getD ((co w).length+i) 0:=by
  intro x hx
  rcases List.mem_append.1 hx with h | h
  ·obtain ⟨k,hk,e1,e2⟩:=val a hamem x h
   have d1:=hD k
   have d2:=hD a
   rw [← hDe] at d1 d2
   exact ⟨by omega,k,hk,e1,by omega⟩
  ·obtain ⟨k,hk,e1,e2⟩:=val b hbmem x h
   have d1:=hD k
   have d2:=hD b
   rw [← hDe] at d1 d2
   exact ⟨by omega,k,hk,e1,by omega⟩
 have hfm:∀ k,k∈(r.filter (· != a)).filter (· != b)↔k∈r∧k≠a∧k≠b:=by
  intro k
  rw [List.mem_filter,List.mem_filter]
  simp only [bne_iff_ne,ne_eq,decide_eq_true_eq]
  constructor
  ·rintro ⟨⟨h1,h2⟩,h3⟩; exact ⟨h1,h2,h3⟩
  ·rintro ⟨h1,h2,h3⟩; exact ⟨⟨h1,h2⟩,h3⟩
 have hrn:∀ k,k∈r→k<(co w).length+i:=fun k hk=>by have:=(mem k).1 hk; omega
 refine ⟨a,b,ra,rb,fun k=>if k=(co w).length+i then wh a++wh b else wh k,hr1,hra,hrb,era,erb,?_,?_,?_,?_,fun x hx=>by have:=hvp x hx; omega,hinj,fun x hx=>(hLb x hx).1,hvlen,hrl,?_⟩
 ·exact ry (bn:=0) (but := -1) (by omega) nd ord (fun k hk=>hleaf k hk) (fun k hk _=>by have:=(mem k).1 hk; omega) hm1 (by omega) pa (.inl rfl) (.inl rfl) hra (by rw [ea1]; exact era)
 ·refine ry (bn:=a) (lf:=l1) (mg:=m1) (by omega) nd ord (fun k hk=>hleaf k hk) (fun k hk h => ?_) (by omega) (by omega) pb (.inr ⟨ra,hra,rfl,era⟩) (.inr (by rw [eb1]; exact Ne.symm hab)) hrb (by rw [eb1]; exact erb)
  have:=(mem k).1 hk
  rcases h with h | h
  ·omega
  ·omega
 ·have h4:=hpo a (by omega)
  have h5:=hpo b (by omega)
  have h7:=hle a (by omega)
  have h8:=hle b (by omega)
  exact wrap_i64 (by omega) (by omega)
 ·rw [List.map_append]
  congr 1
  ·apply List.map_congr_left
   intro k hk
   have hk':=hrn k ((hfm k).1 hk).1
   simp only [eh]
   rw [if_neg (by omega),hs']
   simp only
   rw [jo (by omega)]
  ·simp only [List.map_cons,List.map_nil,eh,if_true]
   rw [hs']
   simp only
   have:=qD (l:=s.W) (x:=s.W.getD a 0+s.W.getD b 0)
   rw [hwL] at this
   rw [this]
 ·refine ⟨?_,?_,?_,?_,by rw [oh]; exact ll,?_,?_⟩
  ·rw [List.nodup_append]
   refine ⟨(nd.filter _).filter _,by simp,fun x hx y hy => ?_⟩
   have:=hrn x ((hfm x).1 hx).1
   simp only [List.mem_cons,List.not_mem_nil,or_false] at hy
   omega
  ·intro k
   rw [List.mem_append,hfm,mem k,hs']
   simp only [List.mem_cons,List.not_mem_nil,or_false]
   omega
  ·rw [List.pairwise_append]
   refine ⟨(ord.filter _).filter _,by simp,fun x hx y hy => ?_⟩
   have:=hrn x ((hfm x).1 hx).1
   simp only [List.mem_cons,List.not_mem_nil,or_false] at hy
   subst hy
   unfold IU
   omega
  ·rw [List.flatMap_append]
   have e1:((r.filter (· != a)).filter (· != b)).flatMap (fun k=>if k=(co w).length+i then wh a++wh b else wh k)=((r.filter (· != a)).filter (· != b)).flatMap wh:=xN fun k hk=>by
    have:=hrn k ((hfm k).1 hk).1
    rw [if_neg (by omega)]
   rw [e1]
   simp only [List.flatMap_cons,List.flatMap_nil,List.append_nil,if_true]
   refine List.Perm.trans ?_ hpos
   refine List.perm_append_comm.trans ?_
   rw [List.append_assoc]
  ·intro κ hκ x hx
   rcases List.mem_append.1 hκ with hκ | hκ
   ·have hk':=hrn κ ((hfm κ).1 hκ).1
    rw [if_neg (by omega)] at hx
    obtain ⟨k,hk,e1,e2⟩:=val κ ((hfm κ).1 hκ).1 x hx
    refine ⟨k,hk,e1,?_⟩
    rw [lM _ fun q hq e => ?_]
    ·exact e2
    ·-- x is in neither
     have hxr:x∈((r.filter (· != a)).filter (· != b)).flatMap wh:=List.mem_flatMap.2 ⟨κ,hκ,hx⟩
     have hq':(wh a++wh b).getD q 0∈wh a++wh b:=by rw [← cJ hq]; exact List.getElem_mem _
     have h1:=hvp _ hq'
     have h3:=gQ w w.length x (hpos.mem_iff.1 (List.mem_append_right _ (List.mem_append_right _ hxr)))
     have he:(wh a++wh b).getD q 0=x:=by omega
     rw [← List.append_assoc] at hnodup
     exact (List.nodup_append.1 hnodup).2.2 _ hq' _ hxr he
   ·simp only [List.mem_cons,List.not_mem_nil,or_false] at hκ
    subst hκ
    rw [if_pos rfl] at hx
    obtain ⟨_,k,hk,e1,e2⟩:=hLb x hx
    refine ⟨k,hk,e1,?_⟩
    obtain ⟨q,hq,e⟩:=fW hx
    have:=zI (l:=L) (v:=wh a++wh b) hinj (fun q hq=>by
     have:=hvp ((wh a++wh b).getD q 0) (by rw [← cJ hq]; exact List.getElem_mem _)
     omega) _ (Nat.le_refl _) q hq
    rw [← e] at this
    omega
  ·intro j hj hz
   rw [lM _ fun q hq e => ?_]
   ·exact zero j hj hz
   ·have h1:=hvp ((wh a++wh b).getD q 0) (by rw [← cJ hq]; exact List.getElem_mem _)
    rw [e] at h1
    omega
theorem uw {u:List Int} {x:Int} (h:x∈u):u.idxOf x<u.length∧u.getD (u.idxOf x) 0=x:=by
 have h1:=List.idxOf_lt_length_of_mem h
 refine ⟨h1,?_⟩
 rw [← cJ h1]
 exact List.getElem_idxOf h1
theorem Dm {w:List Int}:PI w 0 ((pos w).map fun x=>(fO w).idxOf x) (fun k=>[(fO w).getD k 0]) (List.replicate w.length 0):=by
 have hwl:=eX w
 have hsl:=gn w
 have hm:∀ x,x∈pos w→x∈fO w:=fun x hx=>(jk w).mem_iff.2 hx
 have hr:∀ x,x∈pos w→(fO w).idxOf x<(co w).length∧(fO w).getD ((fO w).idxOf x) 0=x:=fun x hx=>by
  have:=uw (hm x hx)
  rw [hwl,← hsl]; exact this
 refine ⟨?_,?_,?_,?_,by simp,?_,?_⟩
 ·rw [List.Nodup,List.pairwise_map]
  refine (jB w w.length).imp_of_mem ?_
  intro x y hx hy hlt e
  have h1:=(hr x hx).2
  have h2:=(hr y hy).2
  rw [e,h2] at h1
  omega
 ·intro k
  simp only [du,List.mem_map]
  constructor
  ·rintro ⟨x,hx,rfl⟩
   have:=(hr x hx).1
   omega
  ·intro h
   have hk:k<(fO w).length:=by omega
   have hx:(fO w).getD k 0∈fO w:=by rw [← cJ hk]; exact List.getElem_mem _
   refine ⟨(fO w).getD k 0,(jk w).mem_iff.1 hx,?_⟩
   have:=uw hx
   exact qG this.1 hk (by rw [this.2])
 ·rw [List.pairwise_map]
  refine (jB w w.length).imp_of_mem ?_
  intro x y hx hy hlt
  have h1:=hr x hx
  have h2:=hr y hy
  exact .inl ⟨h1.1,h2.1,by rw [h1.2,h2.2]; exact hlt⟩
 ·rw [List.flatMap_map]
  have:∀ l:List Int,(∀ x,x∈l→(fO w).getD ((fO w).idxOf x) 0=x)→l.flatMap (fun x=>[(fO w).getD ((fO w).idxOf x) 0])=l:=by
   intro l
   induction l with
   | nil=>intro _; rfl
   | cons x l ih =>
    intro h
    rw [List.flatMap_cons,ih fun y hy=>h y (by simp [hy]),h x (by simp)]
    rfl
  rw [this (pos w) fun x hx=>(hr x hx).2]
 ·intro κ hκ x hx
  obtain ⟨y,hy,rfl⟩:=List.mem_map.1 hκ
  have h1:=hr y hy
  simp only [List.mem_cons,List.not_mem_nil,or_false] at hx
  refine ⟨(fO w).idxOf y,h1.1,hx.symm,?_⟩
  rw [jC]
  omega
 ·intro i hi _
  exact jC _ _
theorem me {w:List Int} (hw:nI w):dJ w=some (fR w):=by
 have hw1:=hw.1
 have hpl:=kN w
 unfold dJ
 refine ai (x:=List.replicate w.length (0:Int)) (by unfold pr; rw [if_pos (by omega)]; simp) ?_
 have hnodes:∀ i,i≤w.length→((ff w i).map fun x=>(⟨w.getD x.toNat 0,[x]⟩:ab)).length≤300:=fun i hi=>by
  have:=ks w i
  rw [List.length_map]; omega
 refine aK (s:=(pos w).map fun x=>(⟨w.getD x.toNat 0,[x]⟩:ab)) ?_ ?_
 ·refine bX (fun i=>((ff w i).map fun x=>(⟨w.getD x.toNat 0,[x]⟩:ab),(i:Int))) w.length bD rfl (by unfold bD; omega) (fun i hi => ?_) (ao (by simp) rfl)
  have hn:=hnodes i (by omega)
  refine am (by simp; omega) ?_
  by_cases hp:0<w.getD i 0
  ·refine aK (s:=(ff w (i+1)).map fun x=>(⟨w.getD x.toNat 0,[x]⟩:ab)) (ai (aA hi) (ai (dp hi) (am (decide_eq_true hp) (ai (aA hi) (ai (dp hi) (ai (ev (by simp only [List.length_cons,List.length_nil]; omega) (by simp only [List.length_cons,List.length_nil]; omega)) ?_)))))) (ai (x:=((i+1:Nat):Int)) (by rw [aI (by omega)]) rfl)
   rw [ff,if_pos hp,List.map_append]
   simp
  ·exact aK (s:=(ff w (i+1)).map fun x=>(⟨w.getD x.toNat 0,[x]⟩:ab)) (ai (aA hi) (ai (dp hi) (ao (decide_eq_false hp) (by rw [ff,if_neg hp])))) (ai (x:=((i+1:Nat):Int)) (by rw [aI (by omega)]) rfl)
 by_cases h1:(pos w).length=1
 ·-- one node alone
  obtain ⟨x,hx⟩:=List.length_eq_one_iff.1 h1
  have hxm:=gQ w w.length x (by show x∈pos w; rw [hx]; simp)
  rw [hx]
  refine aK (s:=(List.replicate w.length (0:Int)).set x.toNat 1) (am (by simp) (ai (x:=0) (by unfold bf; simp) (ai rfl (ai (x:=0) (by unfold bf; simp) (ai rfl (ai (x:=x.toNat) (by unfold bf; rw [if_pos (by simp only [List.length_replicate]; omega)]) (ai rfl rfl))))))) ?_
  refine aK (s:=(List.replicate w.length (0:Int)).set x.toNat 1) (aV (ao (by simp) rfl)) ?_
  rw [fR,if_neg (by omega),if_pos h1,hx]
  rfl
 refine aK (s:=List.replicate w.length (0:Int)) (ao (by simp; omega) rfl) ?_
 by_cases h0:(pos w).length=0
 ·have:pos w=[]:=List.eq_nil_of_length_eq_zero h0
  rw [this]
  refine aK (s:=List.replicate w.length (0:Int)) (aV (ao (by simp) rfl)) ?_
  rw [fR,if_pos h0]
 have h2:2≤(pos w).length:=by omega
 have hwl:=eX w
 have vf:=oz h2
 refine aK (s:=fR w) ?_ rfl
 refine vS (fun i s=>∃ r wh,s.2=r.map (eh (du (co w) i).W wh)∧PI w i r wh s.1) ((co w).length-1) bD 0 _ (Nat.zero_le _) (by unfold bD; omega) ⟨_,_,?_,Dm⟩ ?_ ?_
 ·rw [List.map_map]
  apply List.map_congr_left
  intro x hx
  have:=uw ((jk w).mem_iff.2 hx)
  simp only [Function.comp,eh,du]
  rw [kJ this.1,this.2]
 ·rintro i ⟨L,nodes⟩ hi ⟨r,wh,hn,hp⟩
  simp only at hn hp
  subst hn
  obtain ⟨a,b,ra,rb,wh',hr1,hra,hrb,era,erb,l1,l2,hwr,hmap,hin,hinj,hbd,hvl,hrl,hp'⟩:=Ff hw h2 (by omega) hp
  have hll:=hp.ll
  refine ⟨(mV L (wh a++wh b) (wh a++wh b).length,(((r.filter (· != a)).filter (· != b))++[(co w).length+i]).map (eh (du (co w) (i+1)).W wh')),?_,_,_,rfl,hp'⟩
  have ga:aB (r.map (eh (du (co w) i).W wh)) ra=some (eh (du (co w) i).W wh a):=by rw [bW (by simpa using hra),List.getElem_map,mf hra,era]
  have gb:aB (r.map (eh (du (co w) i).W wh)) rb=some (eh (du (co w) i).W wh b):=by rw [bW (by simpa using hrb),List.getElem_map,mf hrb,erb]
  have ia:bf (ra:Int) (r.map (eh (du (co w) i).W wh)).length=some ra:=aA (by simpa using hra)
  have ib:bf (rb:Int) (r.map (eh (du (co w) i).W wh)).length=some rb:=aA (by simpa using hrb)
  have hvl2:(wh a).length+(wh b).length≤300:=by rw [← List.length_append]; exact hvl
  refine am (by simp; omega) (ai l1 (ai l2 (ai ia (ai ga (ai ib (ai gb (ai (x:=(du (co w) i).W.getD a 0+(du (co w) i).W.getD b 0) (by simp only [eh]; rw [hwr]) ?_)))))))
  refine ai ia (ai ga (ai (x:=wh a) (by rw [ev (by simp only [eh,List.length_nil]; omega) (by simp only [eh,List.length_nil]; omega)]; rfl) (ai ib (ai gb (ai (x:=wh a++wh b) (by rw [ev (by simp only [eh]; omega) (by simp only [eh]; omega)]; rfl) ?_)))))
  refine aK (s:=mV L (wh a++wh b) (wh a++wh b).length) (Du (by omega) (by omega) hin hinj hbd) ?_
  refine aK (s:=((r.filter (· != a)).filter (· != b)).map (eh (du (co w) i).W wh)) (CP (by omega) hp.nd hra era hrb erb) ?_
  have hfl:(((r.filter (· != a)).filter (· != b)).map (eh (du (co w) i).W wh)).length≤300:=by
   rw [List.length_map]
   have h1:=List.length_filter_le (· != b) (r.filter (· != a))
   have h2:=List.length_filter_le (· != a) r
   omega
  refine ai (ev (by simp only [List.length_cons,List.length_nil]; omega) (by simp only [List.length_cons,List.length_nil]; omega)) ?_
  rw [hmap]
 ·rintro ⟨L,nodes⟩ ⟨r,wh,hn,hp⟩
  simp only at hn hp
  subst hn
  have hmem:∀ k,k∈r↔k=2 * (co w).length-2:=by
   intro k
   rw [hp.mem k]
   have:=vf.cnt; have:=vf.mg2; have:=vf.lf
   omega
  have hlen:¬ 1<r.length:=by
   intro h
   have e0:=(hmem (r.getD 0 0)).1 (by rw [← mf (show 0<r.length by omega)]; exact List.getElem_mem _)
   have e1:=(hmem (r.getD 1 0)).1 (by rw [← mf h]; exact List.getElem_mem _)
   have:=Hg hp.nd (show 0<r.length by omega) h (by omega)
   omega
  refine ao (by simp; omega) ?_
  have hL:L=fR w:=by
   apply List.ext_getElem
   ·rw [hp.ll,jd]
   ·intro i q1 q2
    rw [cJ q1,cJ q2]
    rw [jd] at q2
    by_cases hpz:0<w.getD i 0
    ·have hx:=hp.per.mem_iff.2 (jA w w.length i q2 hpz)
     obtain ⟨κ,hκ,hxi⟩:=List.mem_flatMap.1 hx
     obtain ⟨k,hk,e1,e2⟩:=hp.val κ hκ _ hxi
     have hkr:=(hmem κ).1 hκ
     rw [hkr,sX (by omega) vf,Int.toNat_natCast] at e2
     have:=ov h2 (k:=k) (by omega)
     rw [e1,Int.toNat_natCast] at this
     omega
    ·rw [mc hpz,hp.zero i q2 hpz]
  rw [hL]
theorem uz (w:List Int):(nI w→bK w=some true)∧(¬ nI w→bK w=some false):=by
 have main:w.length≤300→∀ b:Bool,(b=true↔∀ i,i<w.length→0≤w.getD i 0∧w.getD i 0≤1048576)→bK w=some b:=by
  intro hl b hb
  unfold bK
  refine ao (decide_eq_false (by omega)) ?_
  have go:∀ (r:Bool),aG (S:=(Int)) (O:=(Unit)⊕Bool) (fun (s11:Int) =>
    cond ((decide (s11<(w.length:Int))))
     ((bf s11 w.length).bind fun v3 =>
     (aB w v3).bind fun v4 =>
     (bB v4 0 1048576).bind fun v5 =>
     cond ((!v5))
      (some (.inr (.inr (false))))
      ((some (IntKind.i64.wrap (s11+1))).bind fun v7 =>
      some (.inl v7)))
     (some (.inr (.inl ())))) bD 0=some (if ∀ i,i<w.length→decide (0≤w.getD i 0∧w.getD i 0≤1048576)=true then .inl () else .inr false):=by
   intro r
   refine nM (fun i=>decide (0≤w.getD i 0∧w.getD i 0≤1048576)) w.length false (by unfold bD; omega) ?_ ?_ ?_
   ·intro i hi hp
    exact am (by simp; omega) (ai (aA hi) (ai (dp hi) (ai (kw _ _ _) (ao (by rw [hp]; rfl) (ai (x:=((i+1:Nat):Int)) (by rw [aI (by omega)]) rfl)))))
   ·intro i hi hp
    exact am (by simp; omega) (ai (aA hi) (ai (dp hi) (ai (kw _ _ _) (am (by rw [hp]; rfl) rfl))))
   ·exact ao (by simp) rfl
  cases b with
  | true=>exact aK (s:=()) ((go true).trans (by rw [if_pos fun i hi=>decide_eq_true (hb.1 rfl i hi)])) rfl
  | false=>exact oy (a:=false) ((go true).trans (by rw [if_neg fun h=>by have:=hb.2 (fun i hi=>of_decide_eq_true (h i hi)); cases this])) rfl
 by_cases hl:w.length≤300
 ·exact ⟨fun h=>main hl true ⟨fun _=>h.2,fun _=>rfl⟩,fun h=>main hl false ⟨fun e=>(by cases e),fun e=>absurd ⟨hl,e⟩ h⟩⟩
 ·refine ⟨fun h=>absurd h.1 hl,fun _ => ?_⟩
  unfold bK
  exact am (decide_eq_true (by omega)) rfl
theorem rl {w:List Int} {limit:Int} (h:¬ (nI w∧qn w limit)):bG w limit=some ([],1):=by
 unfold bG
 by_cases hw:nI w
 case neg=>exact ai ((uz w).2 hw) (am rfl rfl)
 have hL:¬ qn w limit:=fun e=>h ⟨hw,e⟩
 have hw1:=hw.1
 refine ai ((uz w).1 hw) (ao rfl (aK (s:=((pos w).length:Int)) ?_ ?_))
 ·refine bX (fun i=>(((ff w i).length:Int),(i:Int))) w.length bD rfl (by unfold bD; omega) (fun i hi => ?_) (ao (by simp) rfl)
  have:=ks w i
  refine am (by simp; omega) ?_
  by_cases hp:0<w.getD i 0
  ·exact aK (s:=((ff w (i+1)).length:Int)) (ai (aA hi) (ai (dp hi) (am (decide_eq_true hp) (ai (x:=(((ff w i).length+1:Nat):Int)) (by rw [aI (by omega)]) (by rw [ff,if_pos hp,List.length_append]; rfl))))) (ai (x:=((i+1:Nat):Int)) (by rw [aI (by omega)]) rfl)
  ·exact aK (s:=((ff w (i+1)).length:Int)) (ai (aA hi) (ai (dp hi) (ao (decide_eq_false hp) (by rw [ff,if_neg hp])))) (ai (x:=((i+1:Nat):Int)) (by rw [aI (by omega)]) rfl)
 ·refine aK (s:=true) ?_ (am rfl rfl)
  unfold qn at hL
  have h9:¬ (9≤limit∧limit≤15):=fun e=>hL ⟨by split <;> omega,e.2⟩
  refine ai (kw limit 9 15) (am (by rw [decide_eq_false h9]; rfl) (ai (kw limit 5 15) ?_))
  by_cases h5:5≤limit∧limit≤15
  ·refine am (decide_eq_true h5) ?_
   have:¬ (((pos w).length:Int)≤19):=fun e=>hL ⟨by rw [if_pos (by omega)]; exact h5.1,h5.2⟩
   rw [decide_eq_false this]; rfl
  ·exact ao (decide_eq_false h5) rfl
theorem zG {w:List Int} {limit:Int} (h0:0≤limit):mx (fR w)≤limit↔lD w limit:=by
 have hdl:=jd w
 constructor
 ·intro h i hi
  have:=GG (fR w) _ (Nat.le_refl _) i (by omega)
  rw [List.take_length] at this
  omega
 ·intro h
  have:=GF (l:=fR w) h0 (fun i hi=>h i (by omega)) _ (Nat.le_refl _)
  rw [List.take_length] at this
  exact this
theorem sD {w:List Int} {limit:Int} (hw:nI w) (hL:qn w limit) {J:Nat} (hJ:J≤20) (hno:∀ j,j<J→¬ lD (gf w j) limit) (hyes:lD (gf w J) limit):bG w limit=some (fR (gf w J),0):=by
 unfold bG
 have hw1:=hw.1
 have hlim:5≤limit∧limit≤15:=by
  have:=hL
  unfold qn at this
  refine ⟨?_,this.2⟩
  have:=this.1
  split at this <;> omega
 refine ai ((uz w).1 hw) (ao rfl (aK (s:=((pos w).length:Int)) ?_ ?_))
 ·refine bX (fun i=>(((ff w i).length:Int),(i:Int))) w.length bD rfl (by unfold bD; omega) (fun i hi => ?_) (ao (by simp) rfl)
  have:=ks w i
  refine am (by simp; omega) ?_
  by_cases hp:0<w.getD i 0
  ·exact aK (s:=((ff w (i+1)).length:Int)) (ai (aA hi) (ai (dp hi) (am (decide_eq_true hp) (ai (x:=(((ff w i).length+1:Nat):Int)) (by rw [aI (by omega)]) (by rw [ff,if_pos hp,List.length_append]; rfl))))) (ai (x:=((i+1:Nat):Int)) (by rw [aI (by omega)]) rfl)
  ·exact aK (s:=((ff w (i+1)).length:Int)) (ai (aA hi) (ai (dp hi) (ao (decide_eq_false hp) (by rw [ff,if_neg hp])))) (ai (x:=((i+1:Nat):Int)) (by rw [aI (by omega)]) rfl)
 refine aK (s:=false) ?_ (ao rfl (ai (Ek w (by omega)) (oy (a:=(fR (gf w J),0)) ?_ rfl)))
 ·refine ai (kw limit 9 15) ?_
  by_cases h9:9≤limit∧limit≤15
  ·exact ao (by rw [decide_eq_true h9]; rfl) rfl
  ·refine am (by rw [decide_eq_false h9]; rfl) (ai (kw limit 5 15) (am (decide_eq_true hlim) ?_))
   have:((pos w).length:Int)≤19:=by
    have:=hL
    unfold qn at this
    have:=this.1
    split at this <;> omega
   rw [decide_eq_true this]; rfl
 have hdl:=fun j=>jd (gf w j)
 have hll:=gU w
 have hmax:∀ (A:Type) j,aG (S:=(Int×Int)) (O:=(Int)⊕A) (fun ((s171,s172):Int×Int) =>
   cond ((decide (s172<((fR (gf w j)).length:Int))))
    ((bf s172 (fR (gf w j)).length).bind fun v56 =>
    (aB (fR (gf w j)) v56).bind fun v57 =>
    (some (if v57 > s171 then v57 else s171)).bind fun v58 =>
    (some (IntKind.i64.wrap (s172+1))).bind fun v59 =>
    some (.inl (v58,v59)))
    (some (.inr (.inl s171)))) bD (0,0)=some (.inl (mx (fR (gf w j)))):=by
  intro A j
  refine bX (fun i=>(mx ((fR (gf w j)).take i),(i:Int))) (fR (gf w j)).length bD rfl (by rw [hdl,hll]; unfold bD; omega) (fun i hi => ?_) (ao (by simp) (by rw [List.take_length]))
  have hi2:i<w.length:=by rw [hdl,hll] at hi; exact hi
  exact am (by simp; omega) (ai (aA hi) (ai (dp hi) (ai (x:=mx ((fR (gf w j)).take (i+1))) (by rw [uI hi]) (ai (x:=((i+1:Nat):Int)) (by rw [aI (by omega)]) rfl))))
 refine bX (fun j=>gf w j) J bD rfl (by unfold bD; omega) (fun j hj => ?_) ?_
 ·have hok:=kO hw j
  refine ai (me hok) (aK (s:=mx (fR (gf w j))) (hmax _ j) (ao (decide_eq_false fun e=>hno j hj ((zG (by omega)).1 e)) ?_))
  refine aK (s:=hv (gf w j)) ?_ rfl
  rw [← zh]
  refine bX (fun i=>(Ch (gf w j) i,(i:Int))) (gf w j).length bD rfl (by rw [hll]; unfold bD; omega) (fun i hi => ?_) (ao (by simp [kI]) rfl)
  have hpl:=kI (gf w j) i
  have ha:=ru (gf w j) i i (by omega)
  rw [if_neg (by omega)] at ha
  have hb:=hok.2 i hi
  rw [hll] at hi
  exact am (by simp only [hpl,hll]; simp; omega) (ai (aA (by rw [hpl,hll]; exact hi)) (ai (dp (by rw [hpl,hll]; exact hi)) (ai (x:=(Ch (gf w j) i).getD i 0+1) (by rw [wrap_i64 (by omega) (by omega)]) (ai (Ah (by omega) (by omega)) (ai (aA (by rw [hpl,hll]; exact hi)) (ai rfl (ai (x:=((i+1:Nat):Int)) (by rw [aI (by omega)]) rfl)))))))
 ·exact ai (me (kO hw J)) (aK (s:=mx (fR (gf w J))) (hmax _ J) (am (decide_eq_true ((zG (by omega)).2 hyes)) rfl))
theorem tY (w:List Int) (limit:Int):∃ x,bP w limit=some x∧bG w limit=some x∧x.1.length≤300:=by
 by_cases h:nI w∧qn w limit
 ·obtain ⟨J,hJ,hno,hyes,hl⟩:=sf h.1 h.2
  refine ⟨_,hl,sD h.1 h.2 hJ hno hyes,?_⟩
  rw [jd,gU]
  exact h.1.1
 ·exact ⟨_,wu h,rl h,by simp⟩
set_option maxRecDepth 10000
theorem Ao {A:Type} {a b:Bool} (h:a=b):(some (.inl a):Option (Bool⊕A))=some (.inl b):=by rw [h]
theorem Ex {l:List Int} (hl:l.length≤400) {i:Nat} (hi:i<l.length):aG (Jl l (i:Int)) bD 1=some (.inl ((fK l i:Nat):Int)):=by
 have hp:=mF hi
 have hle:=pD l i
 have hg:=bW hi
 refine bX (fun k=>((k+1:Nat):Int)) (fK l i-1) bD rfl (by simp only [bD]; omega) (fun k hk => ?_) ?_
 ·obtain ⟨h1,h2⟩:=GH (Em (l:=l) (i:=i) (j:=k+1) (by omega))
  exact aK (ai (congrArg some (xw i (k+1) (by omega))) (am (decide_eq_true (by omega)) (ai (congrArg some (xw i (k+1) (by omega))) (ai (aA h1) (ai (bW h1) (ai (aA hi) (ai hg rfl))))))) (am (by rw [h2,jT hi]; exact beq_self_eq_true _) (ai (congrArg some (aI (n:=k+1) (by omega))) rfl))
 ·show Jl l (i:Int) ((fK l i-1+1:Nat):Int)=_
  rw [show fK l i-1+1=fK l i by omega]
  by_cases hk:i+fK l i<l.length
  ·have hs:=wg hk
   rw [List.getElem?_eq_getElem hk,jT hi] at hs
   exact aK (ai (congrArg some (xw i (fK l i) (by omega))) (am (decide_eq_true (by omega)) (ai (congrArg some (xw i (fK l i) (by omega))) (ai (aA hk) (ai (bW hk) (ai (aA hi) (ai hg rfl))))))) (ao (beq_eq_false_iff_ne.2 fun e=>hs (by rw [e])) rfl)
  ·exact aK (ai (congrArg some (xw i (fK l i) (by omega))) (ao (decide_eq_false (by omega)) rfl)) (ao rfl rfl)
theorem Ei {l:List Int} (hl:l.length≤400) {i:Nat} (hi:i<l.length) {p:List (Int×Nat)} (hp:p.length≤i) :
  IX l (sy p,mo p,(i:Int))=some (.inl (sy (p++[((fq l i).1,(fq l i).2.1)]),mo (p++[((fq l i).1,(fq l i).2.1)]),((i+(fq l i).2.2:Nat):Int))):=by
 have hq:=mF hi
 have hle:=pD l i
 have hg:=bW hi
 rw [← jT hi] at hg
 have ha:∀ v:Int,ce 8 (sy p) [v]=some (sy p++[v]):=fun v=>ev (by simp [sy]; omega) (by simp [sy]; omega)
 have hb:∀ v:Int,ce 8 (mo p) [v]=some (mo p++[v]):=fun v=>ev (by simp [mo]; omega) (by simp [mo]; omega)
 have esy:∀ x n,sy (p++[(x,n)])=sy p++[x]:=fun x n=>by simp [sy]
 have emo:∀ x n,mo (p++[(x,n)])=mo p++[((n:Nat):Int)]:=fun x n=>by simp [mo]
 rw [esy,emo]
 refine am (decide_eq_true (by omega)) (aK (Ex hl hi) ?_)
 simp only [fq]
 generalize hx:l.getD i 0=x at *
 generalize hr:fK l i=r at *
 unfold CU
 by_cases h1:x=0∧11≤r
 ·rw [if_pos h1]
  obtain ⟨rfl,h1⟩:=h1
  have e1:(if (138:Int)<(r:Int) then (138:Int) else (r:Int))=((min r 138:Nat):Int):=by
   by_cases h:138<r
   ·rw [if_pos (by omega)]; omega
   ·rw [if_neg (by omega)]; omega
  exact aK (aK (ai (aA hi) (ai hg (am rfl rfl))) (am (decide_eq_true (by omega)) (ai (congrArg some e1) (ai (ha _) (ai (congrArg some (EE (a:=min r 138) (b:=11) (by omega) (by omega))) (ai (hb _) rfl)))))) (ai (congrArg some (xw i (min r 138) (by omega))) rfl)
 ·rw [if_neg h1]
  have k1:(aB l i).bind (fun v39=>cond (v39==0) (some (Sum.inl (decide ((11:Int)≤(r:Int))):Bool⊕((Int×(List Int)×(List Int))⊕(((List Int)×(List Int)×Int)⊕(((List Int)×(List Int))⊕((List Int)×(List Int))))))) (some (.inl false)))=some (.inl false):=by
   refine ai hg ?_
   by_cases hx0:x=0
   ·exact am (by rw [hx0]; rfl) (Ao (decide_eq_false (fun h=>h1 ⟨hx0,by omega⟩)))
   ·exact ao (beq_eq_false_iff_ne.2 hx0) rfl
  by_cases h2:x=0∧3≤r
  ·rw [if_pos h2]
   obtain ⟨rfl,h2⟩:=h2
   exact aK (aK (ai (aA hi) k1) (ao rfl (aK (ai (aA hi) (ai hg (am rfl rfl))) (am (decide_eq_true (by omega)) (ai (ha _) (ai (congrArg some (EE (a:=r) (b:=3) (by omega) (by omega))) (ai (hb _) rfl))))))) (ai (congrArg some (xw i r (by omega))) rfl)
  ·rw [if_neg h2]
   have k2:(aB l i).bind (fun v39=>cond (v39==0) (some (Sum.inl (decide ((3:Int)≤(r:Int))):Bool⊕((Int×(List Int)×(List Int))⊕(((List Int)×(List Int)×Int)⊕(((List Int)×(List Int))⊕((List Int)×(List Int))))))) (some (.inl false)))=some (.inl false):=by
    refine ai hg ?_
    by_cases hx0:x=0
    ·exact am (by rw [hx0]; rfl) (Ao (decide_eq_false (fun h=>h2 ⟨hx0,by omega⟩)))
    ·exact ao (beq_eq_false_iff_ne.2 hx0) rfl
   by_cases h3:x≠0∧3≤r∧FP l i=true
   ·rw [if_pos h3]
    obtain ⟨h31,h32,h33⟩:=h3
    have hpv:=of_decide_eq_true h33
    have hi1:i-1<l.length:=by omega
    have hg1:=bW hi1
    rw [← jT hi1,hpv.2,hx] at hg1
    have e1:(if (6:Int)<(r:Int) then (6:Int) else (r:Int))=((min r 6:Nat):Int):=by
     by_cases h:6<r
     ·rw [if_pos (by omega)]; omega
     ·rw [if_neg (by omega)]; omega
    refine aK (aK (ai (aA hi) k1) (ao rfl (aK (ai (aA hi) k2) (ao rfl (aK (s:=true) (ai (aA hi) (ai hg ?_)) (am rfl (ai (congrArg some e1) (ai (ha _) (ai (congrArg some (EE (a:=min r 6) (b:=3) (by omega) (by omega))) (ai (hb _) rfl)))))))))) (ai (congrArg some (xw i (min r 6) (by omega))) rfl)
    exact am (bne_iff_ne.2 h31) (am (decide_eq_true (by omega)) (ai (congrArg some (EE (a:=i) (b:=1) (by omega) (by omega))) (ai (aA hi1) (ai hg1 (ai (aA hi) (ai hg (am (beq_self_eq_true _) (Ao (decide_eq_true (show (3:Int)≤(r:Int) by omega))))))))))
   ·rw [if_neg h3]
    refine aK (aK (ai (aA hi) k1) (ao rfl (aK (ai (aA hi) k2) (ao rfl (aK (s:=false) (ai (aA hi) (ai hg ?_)) (ao rfl (ai (aA hi) (ai hg (ai (ha _) (ai (hb _) rfl)))))))))) (ai (congrArg some (xw i 1 (by omega))) rfl)
    by_cases hx0:x=0
    ·exact ao (by rw [hx0]; rfl) rfl
    ·by_cases hi0:0<i
     ·have hi1:i-1<l.length:=by omega
      have hg1:=bW hi1
      rw [← jT hi1] at hg1
      refine am (bne_iff_ne.2 hx0) (am (decide_eq_true (by omega)) (ai (congrArg some (EE (a:=i) (b:=1) (by omega) (by omega))) (ai (aA hi1) (ai hg1 (ai (aA hi) (ai hg ?_))))))
      by_cases he:l.getD (i-1) 0=x
      ·exact am (beq_iff_eq.2 he) (Ao (decide_eq_false fun h=>h3 ⟨hx0,by omega,decide_eq_true ⟨hi0,by rw [he,hx]⟩⟩))
      ·exact ao (beq_eq_false_iff_ne.2 he) rfl
     ·exact am (bne_iff_ne.2 hx0) (ao (decide_eq_false (by omega)) rfl)
theorem vL {l:List Int} (hl:l.length≤400):∀ (k i fuel:Nat) (p:List (Int×Nat)),i≤l.length→l.length-i≤k→k<fuel→p.length≤i→aG (IX l) fuel (sy p,mo p,(i:Int))=some (.inl (sy (p++ka l k i),mo (p++ka l k i)))
 | k,i,fuel,p,hi,hk,hf,hp=>by
  obtain ⟨fu,rfl⟩:∃ fu,fuel=fu+1:=⟨fuel-1,by omega⟩
  by_cases hlt:i<l.length
  ·obtain ⟨k,rfl⟩:∃ k',k=k'+1:=⟨k-1,by omega⟩
   obtain ⟨c1,c2,c3,c4⟩:=zO hlt
   have hle:=pD l i
   have ih:=vL hl k (i+(fq l i).2.2) fu (p++[((fq l i).1,(fq l i).2.1)]) (by omega) (by omega) (by omega) (by simp; omega)
   have e0:p++ka l (k+1) i=(p++[((fq l i).1,(fq l i).2.1)])++ka l k (i+(fq l i).2.2):=by
    rw [ka,if_pos hlt]; simp
   rw [e0]
   exact (bh (Ei hl hlt hp)).trans ih
  ·have e:ka l k i=[]:=by
    cases k with
    | zero=>rfl
    | succ k=>rw [ka,if_neg hlt]
   rw [e,List.append_nil]
   exact aV (ao (decide_eq_false (by omega)) rfl)
theorem BM {l:List Int} (hl:l.length≤400):ez l=some (sy (wC l),mo (wC l)):=by
 unfold ez
 exact aK (vL hl l.length 0 bD [] (by omega) (by omega) (by simp only [bD]; omega) (by simp)) rfl
set_option maxRecDepth 100000
def KV (l:List al):(((List Int)×(List Int)×Int))→Option (((List Int)×(List Int)×Int)⊕(((List Int)×(List Int))⊕((List Int)×(List Int)))):=(fun ((s51,s52,s53):(List Int)×(List Int)×Int) =>
 cond ((decide (s53<(l.length:Int))))
  (aq (S:=(List Int)×(List Int)) (A:=(((List Int)×(List Int)×Int)⊕(((List Int)×(List Int))⊕((List Int)×(List Int)))))
   ((bf s53 l.length).bind fun v6 =>
   (aB l v6).bind fun v7 =>
   cond ((v7.LI==0))
    ((bf s53 l.length).bind fun v9 =>
    (aB l v9).bind fun v10 =>
    (some (IntKind.i64.wrap v10.LG)).bind fun v11 =>
    (bf v11 s51.length).bind fun v12 =>
    (aB s51 v12).bind fun v13 =>
    (some (IntKind.i64.wrap (v13+1))).bind fun v14 =>
    (bf v11 s51.length).bind fun v15 =>
    (some (s51.set v15 v14)).bind fun v16 =>
    some (.inl (v16,s52)))
    ((bf s53 l.length).bind fun v17 =>
    (aB l v17).bind fun v18 =>
    (cg v18.LI).bind fun v19 =>
    (bf s53 l.length).bind fun v20 =>
    (aB l v20).bind fun v21 =>
    (cn v21.LH).bind fun v22 =>
    (bf v19.1 s51.length).bind fun v23 =>
    (aB s51 v23).bind fun v24 =>
    (some (IntKind.i64.wrap (v24+1))).bind fun v25 =>
    (bf v19.1 s51.length).bind fun v26 =>
    (some (s51.set v26 v25)).bind fun v27 =>
    (bf v22.1 s52.length).bind fun v28 =>
    (aB s52 v28).bind fun v29 =>
    (some (IntKind.i64.wrap (v29+1))).bind fun v30 =>
    (bf v22.1 s52.length).bind fun v31 =>
    (some (s52.set v31 v30)).bind fun v32 =>
    some (.inl (v27,v32))))
   (fun ((s72,s73):(List Int)×(List Int)) =>
    (some (IntKind.i64.wrap (s53+1))).bind fun v39 =>
    some (.inl (s72,s73,v39))) some)
  (some (.inr (.inl (s51,s52)))))
def Jv (t:List al) (l d v1 v2:List Int):(((List Int)×Int×Int))→Option (((List Int)×Int×Int)⊕(((List Int)×Int)⊕aN)):=(fun ((s39,s40,s41):(List Int)×Int×Int) =>
 cond ((decide (s41<(t.length:Int))))
  (aq (S:=(List Int)×Int) (A:=(((List Int)×Int×Int)⊕(((List Int)×Int)⊕aN)))
   ((bf s41 t.length).bind fun v4 =>
   (aB t v4).bind fun v5 =>
   cond ((v5.LI==0))
    ((bf s41 t.length).bind fun v7 =>
    (aB t v7).bind fun v8 =>
    (some (IntKind.i64.wrap v8.LG)).bind fun v9 =>
    (bL (aN.mk s39 s40) l v1 v9).bind fun v10 =>
    some (.inl (v10.B,v10.N)))
    ((bf s41 t.length).bind fun v11 =>
    (aB t v11).bind fun v12 =>
    (cg v12.LI).bind fun v13 =>
    (bL (aN.mk s39 s40) l v1 v13.1).bind fun v14 =>
    (aQ v14 v13.2.2.1 v13.2.1).bind fun v15 =>
    (bf s41 t.length).bind fun v16 =>
    (aB t v16).bind fun v17 =>
    (cn v17.LH).bind fun v18 =>
    (bL v15 d v2 v18.1).bind fun v19 =>
    (aQ v19 v18.2.2.1 v18.2.1).bind fun v20 =>
    some (.inl (v20.B,v20.N))))
   (fun ((s60,s61):(List Int)×Int) =>
    (some (IntKind.i64.wrap (s41+1))).bind fun v27 =>
    some (.inl (s60,s61,v27))) some)
  (some (.inr (.inl (s39,s40)))))
def KH (b:List Int):(((List Int)×Int×Int))→Option (((List Int)×Int×Int)⊕(((List Int)×Int)⊕aN)):=(fun ((s15,s16,s17):(List Int)×Int×Int) =>
 cond ((decide (s17<(b.length:Int))))
  ((bf s17 b.length).bind fun v6 =>
  (aB b v6).bind fun v7 =>
  (some (IntKind.i64.wrap v7)).bind fun v8 =>
  (aQ (aN.mk s15 s16) v8 8).bind fun v9 =>
  (some (IntKind.i64.wrap (s17+1))).bind fun v10 =>
  some (.inl (v9.B,v9.N,v10)))
  (some (.inr (.inl (s15,s16)))))
def Ll (sL:List Int):(((List Int)×Int))→Option (((List Int)×Int)⊕(((List Int))⊕aN)):=(fun ((s23,s24):(List Int)×Int) =>
 cond ((decide (s24<(sL.length:Int))))
  ((bf s24 sL.length).bind fun v12 =>
  (aB sL v12).bind fun v13 =>
  (bf v13 s23.length).bind fun v14 =>
  (aB s23 v14).bind fun v15 =>
  (some (IntKind.i64.wrap (v15+1))).bind fun v16 =>
  (bf v13 s23.length).bind fun v17 =>
  (some (s23.set v17 v16)).bind fun v18 =>
  (some (IntKind.i64.wrap (s24+1))).bind fun v19 =>
  some (.inl (v18,v19)))
  (some (.inr (.inl s23))))
def Lw (oL lL:List Int):(((List Int)×Int))→Option (((List Int)×Int)⊕(((List Int))⊕aN)):=(fun ((s46,s47):(List Int)×Int) =>
 cond ((decide (s47<(oL.length:Int))))
  ((bf s47 oL.length).bind fun v37 =>
  (aB oL v37).bind fun v38 =>
  (bf v38 lL.length).bind fun v39 =>
  (aB lL v39).bind fun v40 =>
  (ce 8 s46 [v40]).bind fun v41 =>
  (some (IntKind.i64.wrap (s47+1))).bind fun v42 =>
  some (.inl (v41,v42)))
  (some (.inr (.inl s46))))
def Lp (v52:List Int):(((List Int)×Int×Int))→Option (((List Int)×Int×Int)⊕(((List Int)×Int)⊕aN)):=(fun ((s74,s75,s76):(List Int)×Int×Int) =>
 cond ((decide (s76<(v52.length:Int))))
  ((bf s76 v52.length).bind fun v66 =>
  (aB v52 v66).bind fun v67 =>
  (aQ (aN.mk s74 s75) v67 3).bind fun v68 =>
  (some (IntKind.i64.wrap (s76+1))).bind fun v69 =>
  some (.inl (v68.B,v68.N,v69)))
  (some (.inr (.inl (s74,s75)))))
def Ly (sL mL lL cL:List Int):(((List Int)×Int×Int))→Option (((List Int)×Int×Int)⊕(((List Int)×Int)⊕aN)):=(fun ((s103,s104,s105):(List Int)×Int×Int) =>
 cond ((decide (s105<(sL.length:Int))))
  ((bf s105 sL.length).bind fun v89 =>
  (aB sL v89).bind fun v90 =>
  (bL (aN.mk s103 s104) lL cL v90).bind fun v91 =>
  (bf s105 mL.length).bind fun v92 =>
  (aB mL v92).bind fun v93 =>
  (bf s105 sL.length).bind fun v94 =>
  (aB sL v94).bind fun v95 =>
  (eE v95).bind fun v96 =>
  (aQ v91 v93 v96).bind fun v97 =>
  (some (IntKind.i64.wrap (s105+1))).bind fun v98 =>
  some (.inl (v97.B,v97.N,v98)))
  (some (.inr (.inl (s103,s104)))))
def BW (s:aN):af:=⟨s.B,s.N⟩
theorem WP.bput {s:aN} {ps:List (Nat×Nat)} (h:WP (BW s) ps) (v n:Nat) (hn:n≤24) (hv:v<2 ^ n) (hN:cE ps+n≤900000) :
  ∃ s',aQ s (v:Int) (n:Int)=some s'∧WP (BW s') (ps++[(v,n)]):=by
 have hp24:(2:Nat) ^ n≤2 ^ 24:=Nat.pow_le_pow_right (by omega) hn
 obtain ⟨B',b1,b2,b3,b4⟩:=BS v n (cE ps) (by omega) hN n bD 0 s.B (by omega) (Nat.zero_le _) hn (by simp only [bD]; omega) h.good
 have hw:cE (ps++[(v,n)])=cE ps+n:=by simp [cE]
 refine ⟨⟨B',((cE ps+n:Nat):Int)⟩,?_,⟨by rw [hw]; rfl,by rw [hw]; exact b2,(tR _ _ _ _).2 ⟨ui ps 0 s.B B' (fun q hq=>b3 q (by omega)) h.sp,fun t ht => ?_,trivial⟩⟩⟩
 ·have hn:s.N=((cE ps:Nat):Int):=h.n
  unfold aQ
  rw [hn]
  exact aK b1 rfl
 ·rw [Nat.zero_add]; exact b4 t (Nat.zero_le _) ht
theorem WP.bputs {s:aN} {ps:List (Nat×Nat)} {v n:Int} (h:WP (BW s) ps) (vn nn:Nat) (e1:v=(vn:Int)) (e2:n=(nn:Int)) (hn:nn≤24) (hv:vn<2 ^ nn) (hN:cE ps+nn≤900000) :
 ∃ s',aQ s v n=some s'∧WP (BW s') (ps++[(vn,nn)]):=by subst e1 e2; exact h.bput vn nn hn hv hN
theorem De (v n:Nat) (hn:n≤24) (hv:v<2 ^ n):eQ (v:Int) (n:Int)=some ((rv v n:Nat):Int):=by
 obtain ⟨r,k1,k2,k3⟩:=xL v n hn hv n bD 0 0 rfl (Nat.zero_le _) (by simp only [bD]; omega) (by decide) (fun i hi=>by omega)
 have:r=rv v n:=by
  refine Nat.eq_of_testBit_eq fun i => ?_
  by_cases hi:i<n
  ·rw [k3 i hi,xV v n i hi]
  ·rw [Nat.testBit_lt_two_pow (Nat.lt_of_lt_of_le k2 (Nat.pow_le_pow_right (by omega) (by omega))),Nat.testBit_lt_two_pow (Nat.lt_of_lt_of_le (vE v n) (Nat.pow_le_pow_right (by omega) (by omega)))]
 rw [← this]
 unfold eQ
 exact aK k1 rfl
theorem WP.bcode {s:aN} {ps:List (Nat×Nat)} (h:WP (BW s) ps) {m:List Nat} (hm:Cd m) {j:Nat} (hj:j<m.length) (hN:cE ps+15≤900000) :
  ∃ s',bL s (ints m) (ints (codes m)) (j:Int)=some s'∧WP (BW s') (ps++[kt m j]):=by
 obtain ⟨f1,f2⟩:=gV hm hj
 obtain ⟨w',p1,p2⟩:=h.bput (rv (code m j) (m.getD j 0)) (m.getD j 0) (by omega) (vE _ _) (by omega)
 have e:m.getD j 0=m[j]:=by simp [List.getD_eq_getElem?_getD,hj]
 have hcl:j<(codes m).length:=by simp [codes,hj]
 have g1:aB (ints (codes m)) j=some ((code m j:Nat):Int):=by rw [cK hcl]; simp [codes]
 have g2:aB (ints m) j=some ((m.getD j 0:Nat):Int):=by rw [cK hj,e]
 have i1:bf (j:Int) (ints (codes m)).length=some j:=aA (by rw [aD]; exact hcl)
 have i2:bf (j:Int) (ints m).length=some j:=aA (by rw [aD]; exact hj)
 refine ⟨w',?_,p2⟩
 unfold bL
 exact ai i1 (ai g1 (ai i2 (ai g2 (ai (De _ _ (by omega) f1) (ai i2 (ai g2 (ai p1 rfl)))))))
theorem pQ {m:List Nat} (h:Cd m):cN (ints m)=some (ints (codes m)):=wF m h.len h.le h.fm
theorem Ai {n:Int} {r:Int×Int×Int×Int} (h:fy n=some r):cg n=some r:=by
 obtain ⟨x,h1,h2,_⟩:=Dj n
 rw [h1] at h; cases h; exact h2
theorem wO {n:Int} {r:Int×Int×Int×Int} (h:eP n=some r):cn n=some r:=by
 obtain ⟨x,h1,h2,_⟩:=BU n
 rw [h1] at h; cases h; exact h2
theorem DV {m d:List Nat} (hm:Cd m) (hd:Cd d) (hml:286≤m.length) (hdl:30≤d.length) {l:List al} {i:Nat} (hi:i<l.length) (hil:l.length≤5000) (ht:lw l[i]) {w:aN} {ps:List (Nat×Nat)} (h:WP (BW w) ps) (hN:cE ps+48≤900000) :
  ∃ w',Jv l (ints m) (ints d) (ints (codes m)) (ints (codes d)) (w.B,w.N,(i:Int))=some (.inl (w'.B,w'.N,((i+1:Nat):Int)))∧WP (BW w') (ps++Cg m d l[i]):=by
 have hg:=bW hi
 have hw:=aI (n:=i) (by omega)
 unfold Cg
 by_cases h0:l[i].LI=0
 ·rw [if_pos h0]
  obtain ⟨w',p1,p2⟩:=h.bcode hm (j:=l[i].LG.toNat) (by have:=ht.1; omega) (by omega)
  rw [show ((l[i].LG.toNat:Nat):Int)=l[i].LG by have:=ht.1; omega] at p1
  have hwb:IntKind.i64.wrap l[i].LG=l[i].LG:=wrap_i64 (by have:=ht.1; omega) (by have:=ht.1; omega)
  exact ⟨w',am (decide_eq_true (by omega)) (aK (ai (aA hi) (ai hg (am (beq_iff_eq.2 h0) (ai (aA hi) (ai hg (ai (congrArg some hwb) (ai p1 rfl))))))) (ai (congrArg some hw) rfl)),p2⟩
 ·rw [if_neg h0]
  rcases ht.2 with h1 | ⟨h1,h2,h3,h4⟩
  ·exact absurd h1 h0
  obtain ⟨l1,l2,l3,l4,l5⟩:=wY (n:=l[i].LI.toNat) (by omega) (by omega)
  obtain ⟨d1,d2,d3,d4⟩:=wT (n:=l[i].LH.toNat) (by omega) (by omega)
  rw [show ((l[i].LI.toNat:Nat):Int)=l[i].LI by omega] at l1
  rw [show ((l[i].LH.toNat:Nat):Int)=l[i].LH by omega] at d1
  obtain ⟨w1,p1,q1⟩:=h.bcode hm (j:=(ii l[i].LI.toNat).1) (by omega) (by omega)
  have c1:=(gV hm (j:=(ii l[i].LI.toNat).1) (by omega)).2
  have s1:cE (ps++[kt m (ii l[i].LI.toNat).1])≤cE ps+15:=by rw [bJ]; simp only [cE,kt,List.map_cons,List.map_nil,List.sum_cons,List.sum_nil]; omega
  obtain ⟨w2,p2,q2⟩:=q1.bput (ii l[i].LI.toNat).2.2 (ii l[i].LI.toNat).2.1 (by omega) l5 (by omega)
  have s2:cE (ps++[kt m (ii l[i].LI.toNat).1]++[((ii l[i].LI.toNat).2.2,(ii l[i].LI.toNat).2.1)])≤cE ps+20:=by rw [bJ _ [((ii l[i].LI.toNat).2.2,(ii l[i].LI.toNat).2.1)]]; simp only [cE,List.map_cons,List.map_nil,List.sum_cons,List.sum_nil] at s1 ⊢; omega
  obtain ⟨w3,p3,q3⟩:=q2.bcode hd (j:=(kZ l[i].LH.toNat).1) (by omega) (by omega)
  have c3:=(gV hd (j:=(kZ l[i].LH.toNat).1) (by omega)).2
  have s3:cE (ps++[kt m (ii l[i].LI.toNat).1]++[((ii l[i].LI.toNat).2.2,(ii l[i].LI.toNat).2.1)]++[kt d (kZ l[i].LH.toNat).1])≤cE ps+35:=by rw [bJ _ [kt d _]]; simp only [cE,kt,List.map_cons,List.map_nil,List.sum_cons,List.sum_nil] at s2 ⊢; omega
  obtain ⟨w4,p4,q4⟩:=q3.bput (kZ l[i].LH.toNat).2.2 (kZ l[i].LH.toNat).2.1 (by omega) d4 (by omega)
  refine ⟨w4,am (decide_eq_true (by omega)) (aK (ai (aA hi) (ai hg (ao (beq_eq_false_iff_ne.2 h0) (ai (aA hi) (ai hg (ai (Ai l1) (ai p1 (ai p2 (ai (aA hi) (ai hg (ai (wO d1) (ai p3 (ai p4 rfl))))))))))))) (ai (congrArg some hw) rfl)),?_⟩
  simpa [List.append_assoc] using q4
theorem vh {m d:List Nat} (hm:Cd m) (hd:Cd d) (hml:286≤m.length) (hdl:30≤d.length) {l:List al} (hil:l.length≤5000) (ht:∀ t∈l,lw t):∀ (k i fuel:Nat) (w:aN) (ps:List (Nat×Nat)),i+k=l.length→k<fuel→WP (BW w) ps→cE ps+48 * k≤900000 →
  ∃ w',aG (Jv l (ints m) (ints d) (ints (codes m)) (ints (codes d))) fuel (w.B,w.N,(i:Int))=some (.inl (w'.B,w'.N))∧WP (BW w') (ps++kR m d (l.drop i))
 | 0,i,fuel,w,ps,hk,hf,h,hN=>by
  obtain ⟨fu,rfl⟩:∃ fu,fuel=fu+1:=⟨fuel-1,by omega⟩
  rw [List.drop_eq_nil_of_le (by omega)]
  exact ⟨w,aV (ao (decide_eq_false (by omega)) rfl),by simpa [kR] using h⟩
 | k+1,i,fuel,w,ps,hk,hf,h,hN=>by
  obtain ⟨fu,rfl⟩:∃ fu,fuel=fu+1:=⟨fuel-1,by omega⟩
  have hi:i<l.length:=by omega
  have hti:=ht _ (List.getElem_mem hi)
  obtain ⟨w1,p1,q1⟩:=DV hm hd hml hdl hi hil hti h (by omega)
  have hwk:=xJ hm.le hd.le hti
  obtain ⟨w2,p2,q2⟩:=vh hm hd hml hdl hil ht k (i+1) fu w1 (ps++Cg m d l[i]) (by omega) (by omega) q1 (by rw [bJ]; omega)
  refine ⟨w2,(bh p1).trans p2,?_⟩
  rw [List.drop_eq_getElem_cons hi]
  have e:kR m d (l[i]::l.drop (i+1))=Cg m d l[i]++kR m d (l.drop (i+1)):=rfl
  rw [e,← List.append_assoc]; exact q2
theorem vv {m d:List Nat} (hm:Cd m) (hd:Cd d) (hml:286≤m.length) (hdl:30≤d.length) {l:List al} (hil:l.length≤5000) (ht:∀ t∈l,lw t) {w:aN} {ps:List (Nat×Nat)} (h:WP (BW w) ps) (hN:cE ps≤600000) :
  ∃ w',dV w l (ints m) (ints d)=some w'∧WP (BW w') (ps++(kR m d l++[kt m 256])):=by
 obtain ⟨w1,p1,q1⟩:=vh hm hd hml hdl hil ht l.length 0 bD w ps (by omega) (by simp only [bD]; omega) h (by omega)
 rw [List.drop_zero] at q1
 have hb:=nS hm.le hd.le ht
 obtain ⟨w2,p2,q2⟩:=q1.bcode hm (j:=256) (by omega) (by rw [bJ]; omega)
 refine ⟨w2,?_,by rw [← List.append_assoc]; exact q2⟩
 unfold dV
 exact ai (pQ hm) (ai (pQ hd) (aK p1 (ai p2 rfl)))
theorem IB {x n q:Nat} (hx:x<2 ^ n) (h:n≤q) (hn:n≤8):et [(x:Int)] q=false:=by
 unfold et
 by_cases h8:q<8
 ·rw [show q / 8=0 by omega,show q % 8=q by omega]
  exact Nat.testBit_lt_two_pow (Nat.lt_of_lt_of_le hx (Nat.pow_le_pow_right (by omega) h))
 ·rw [List.getD_eq_getElem?_getD,List.getElem?_eq_none (by simp; omega)]; simp
theorem Ea {x n:Nat} (hx:x<2 ^ n) (h0:0<n) (hn:n≤8):pK [(x:Int)] n:=by
 have:2 ^ n≤2 ^ 8:=Nat.pow_le_pow_right (by omega) hn
 exact ⟨by simp; omega,fun k hk=>by rw [List.mem_singleton.1 hk]; omega,fun q hq=>IB hx hq hn⟩
theorem CL:WP (BW ⟨[1],8⟩) [(1,1),(0,2),(0,5)]:=⟨rfl,Ea (x:=1) (n:=8) (by decide) (by decide) (by decide),by decide,by decide,by decide,trivial⟩
theorem CE:WP (BW ⟨[3],3⟩) [(1,1),(1,2)]:=⟨rfl,Ea (x:=3) (n:=3) (by decide) (by decide) (by decide),by decide,by decide,trivial⟩
theorem Cm:WP (BW ⟨[5],3⟩) [(1,1),(2,2)]:=⟨rfl,Ea (x:=5) (n:=3) (by decide) (by decide) (by decide),by decide,by decide,trivial⟩
theorem Hq:aQ (aN.mk [] 0) 1 8=some ⟨[1],8⟩:=by kernel_rfl
theorem Iz:aQ (aN.mk [] 0) 3 3=some ⟨[3],3⟩:=by kernel_rfl
theorem Ip:aQ (aN.mk [] 0) 5 3=some ⟨[5],3⟩:=by kernel_rfl
theorem uY {b:List Int} (hb:∀ n∈b,0≤n∧n<256) (hl:b.length≤5000):∀ (k i fuel:Nat) (w:aN) (ps:List (Nat×Nat)),i+k=b.length→k<fuel→WP (BW w) ps→cE ps+8 * k≤900000 →
  ∃ w',aG (KH b) fuel (w.B,w.N,(i:Int))=some (.inl (w'.B,w'.N))∧WP (BW w') (ps++zk (b.drop i))
 | 0,i,fuel,w,ps,hk,hf,h,hN=>by
  obtain ⟨fu,rfl⟩:∃ fu,fuel=fu+1:=⟨fuel-1,by omega⟩
  rw [List.drop_eq_nil_of_le (by omega)]
  exact ⟨w,aV (ao (decide_eq_false (by omega)) rfl),by simpa [zk] using h⟩
 | k+1,i,fuel,w,ps,hk,hf,h,hN=>by
  obtain ⟨fu,rfl⟩:∃ fu,fuel=fu+1:=⟨fuel-1,by omega⟩
  have hi:i<b.length:=by omega
  have hx:=hb _ (List.getElem_mem hi)
  obtain ⟨w1,p1,q1⟩:=h.bputs (v:=b[i]) (n:=8) b[i].toNat 8 (by omega) rfl (by omega) (by omega) (by omega)
  obtain ⟨w2,p2,q2⟩:=uY hb hl k (i+1) fu w1 (ps++[(b[i].toNat,8)]) (by omega) (by omega) q1 (by rw [bJ]; simp [cE]; simp [cE] at hN; omega)
  refine ⟨w2,(bh (am (decide_eq_true (by omega)) (ai (aA hi) (ai (bW hi) (ai (congrArg some (wrap_i64 (by omega) (by omega))) (ai p1 (ai (congrArg some (aI (n:=i) (by omega))) rfl))))))).trans p2,?_⟩
  rw [List.drop_eq_getElem_cons hi]
  have e:zk (b[i]::b.drop (i+1))=[(b[i].toNat,8)]++zk (b.drop (i+1)):=rfl
  rw [e,← List.append_assoc]; exact q2
theorem xY {b:List Int} (hb:∀ n∈b,0≤n∧n<256) (hl:b.length≤1200):∃ w,dt b=some w∧WP (BW w) (Je b):=by
 obtain ⟨w2,p2,q2⟩:=CL.bputs (v:=(b.length:Int)) (n:=16) b.length 16 rfl rfl (by omega) (by omega) (by simp [cE])
 obtain ⟨w3,p3,q3⟩:=q2.bputs (v:=((65535-b.length:Nat):Int)) (n:=16) (65535-b.length) 16 rfl rfl (by omega) (by omega) (by simp [cE])
 obtain ⟨w4,p4,q4⟩:=uY hb (by omega) b.length 0 bD w3 _ (by omega) (by simp only [bD]; omega) q3 (by simp [cE]; omega)
 refine ⟨w4,?_,by rw [List.drop_zero] at q4; simpa [Je] using q4⟩
 unfold dt
 have hx:IntKind.i64.wrap (65535-(b.length:Int))=((65535-b.length:Nat):Int):=by rw [wrap_i64 (by omega) (by omega)]; omega
 exact ai Hq (ai p2 (ai (congrArg some hx) (ai p3 (aK p4 rfl))))
theorem vg {b:List Int} (hl:b.length≤4096):cT b=some (fB b):=by
 unfold cT
 exact aK (ul hl b.length 0 bD [] (Nat.zero_le _) (by omega) (by simp only [bD]; omega) (Nat.zero_le _)) rfl
theorem BF:fx=some (ints mL,ints mD):=by kernel_rfl
theorem BG {b:List Int} (hb:∀ n∈b,0≤n∧n<256) (hl:b.length≤1200):∃ w,dA b=some w∧WP (BW w) (JQ (fB b)):=by
 obtain ⟨w2,p2,q2⟩:=vv zM Ag (by decide) (by decide) (pc (b:=b) (by omega)) (km hb) CE (by simp [cE])
 refine ⟨w2,?_,q2⟩
 unfold dA
 exact ai BF (ai Iz (ai (vg (by omega)) (ai p2 rfl)))
set_option maxRecDepth 100000
theorem Dz {l:List al} {i:Nat} (hi:i<l.length) (hil:l.length≤5000) (ht:lw l[i]) {x:List Nat×List Nat} {c:Nat} (h:EB x c) (hc:c≤1000000) :
  KV l (ints x.1,ints x.2,(i:Int))=some (.inl (ints (vH x l[i]).1,ints (vH x l[i]).2,((i+1:Nat):Int))):=by
 have hg:=bW hi
 have hix:=aA hi
 have hw:=aI (n:=i) (by omega)
 have hgd:∀ (a:List Nat) (s:Nat),(∀ y∈a,y≤c)→a.getD s 0≤c:=fun a s ha=>by
  rw [List.getD_eq_getElem?_getD]
  cases hj:a[s]? with
  | none=>simp
  | some y=>simpa using ha y (List.mem_of_getElem? hj)
 unfold vH
 by_cases h0:l[i].LI=0
 ·rw [if_pos h0]
  have hs:l[i].LG.toNat<x.1.length:=by rw [h.la]; have:=ht.1; omega
  obtain ⟨i1,i2⟩:=jt (a:=x.1) (x:=l[i].LG) (s:=l[i].LG.toNat) (by have:=ht.1; omega) hs
  have:=hgd x.1 l[i].LG.toNat h.ba
  have hwb:IntKind.i64.wrap l[i].LG=l[i].LG:=wrap_i64 (by have:=ht.1; omega) (by have:=ht.1; omega)
  exact am (decide_eq_true (by omega)) (aK (s:=(ints (tK x.1 l[i].LG.toNat),ints x.2)) (ai (aA hi) (ai hg (am (beq_iff_eq.2 h0) (ai hix (ai hg (ai (congrArg some hwb) (ai i1 (ai i2 (ai (congrArg some (aI (n:=x.1.getD l[i].LG.toNat 0) (by omega))) (ai i1 (ai (congrArg some (gY x.1 l[i].LG.toNat _)) rfl))))))))))) (ai (congrArg some hw) rfl))
 ·rw [if_neg h0]
  rcases ht.2 with h1 | ⟨h1,h2,h3,h4⟩
  ·exact absurd h1 h0
  obtain ⟨l1,l2,l3,l4,l5⟩:=wY (n:=l[i].LI.toNat) (by omega) (by omega)
  obtain ⟨d1,d2,d3,d4⟩:=wT (n:=l[i].LH.toNat) (by omega) (by omega)
  rw [show ((l[i].LI.toNat:Nat):Int)=l[i].LI by omega] at l1
  rw [show ((l[i].LH.toNat:Nat):Int)=l[i].LH by omega] at d1
  obtain ⟨i1,i2⟩:=jt (a:=x.1) (s:=(ii l[i].LI.toNat).1) rfl (by rw [h.la]; omega)
  obtain ⟨j1,j2⟩:=jt (a:=x.2) (s:=(kZ l[i].LH.toNat).1) rfl (by rw [h.ld]; omega)
  have q1:=hgd x.1 (ii l[i].LI.toNat).1 h.ba
  have q2:=hgd x.2 (kZ l[i].LH.toNat).1 h.bd
  exact am (decide_eq_true (by omega)) (aK (s:=(ints (tK x.1 (ii l[i].LI.toNat).1),ints (tK x.2 (kZ l[i].LH.toNat).1))) (ai (aA hi) (ai hg (ao (beq_eq_false_iff_ne.2 h0) (ai hix (ai hg (ai (Ai l1) (ai hix (ai hg (ai (wO d1) (ai i1 (ai i2 (ai (congrArg some (aI (n:=x.1.getD (ii l[i].LI.toNat).1 0) (by omega))) (ai i1 (ai (congrArg some (gY x.1 _ _)) (ai j1 (ai j2 (ai (congrArg some (aI (n:=x.2.getD (kZ l[i].LH.toNat).1 0) (by omega))) (ai j1 (ai (congrArg some (gY x.2 _ _)) rfl))))))))))))))))))) (ai (congrArg some hw) rfl))
theorem uU {l:List al} (hil:l.length≤5000) (ht:∀ t∈l,lw t):∀ (k i fuel:Nat) (x:List Nat×List Nat) (c:Nat),i+k=l.length→k<fuel→EB x c→c+k≤900000 →
  aG (KV l) fuel (ints x.1,ints x.2,(i:Int))=some (.inl (ints ((l.drop i).foldl vH x).1,ints ((l.drop i).foldl vH x).2))
 | 0,i,fuel,x,c,hk,hf,h,hc=>by
  obtain ⟨fu,rfl⟩:∃ fu,fuel=fu+1:=⟨fuel-1,by omega⟩
  rw [List.drop_eq_nil_of_le (by omega)]
  exact aV (ao (decide_eq_false (by omega)) rfl)
 | k+1,i,fuel,x,c,hk,hf,h,hc=>by
  obtain ⟨fu,rfl⟩:∃ fu,fuel=fu+1:=⟨fuel-1,by omega⟩
  have hi:i<l.length:=by omega
  rw [List.drop_eq_getElem_cons hi,List.foldl_cons]
  exact (bh (Dz hi hil (ht _ (List.getElem_mem hi)) h (by omega))).trans (uU hil ht k (i+1) fu (vH x l[i]) (c+1) (by omega) (by omega) (rA h _) (by omega))
theorem wZ {l:List al} (hil:l.length≤5000) (ht:∀ t∈l,lw t):dN l=some (ints (Bb l).1,ints (Bb l).2):=by
 have m1:pr 8 286 (0:Int)=some (List.replicate 286 0):=by kernel_rfl
 have m2:pr 8 30 (0:Int)=some (List.replicate 30 0):=by kernel_rfl
 have hx:bf 256 (List.replicate 286 (0:Int)).length=some 256:=by rw [List.length_replicate]; rfl
 have e1:(List.replicate 286 (0:Int)).set 256 1=ints qJ.1:=by kernel_rfl
 have e2:List.replicate 30 (0:Int)=ints qJ.2:=by kernel_rfl
 have hlp:=uU hil ht l.length 0 bD qJ 1 (by omega) (by simp only [bD]; omega) Hu (by omega)
 rw [List.drop_zero,← e1,← e2] at hlp
 unfold dN
 exact ai m1 (ai m2 (ai hx (ai rfl (aK hlp rfl))))
theorem uA {l:List Nat} (hl:l.length≤1000) (least:Nat):dr (ints l) (least:Int)=some (ints (sO l least)):=qs hl least
theorem Bj (s:Nat):eE (s:Int)=some ((uN s:Nat):Int):=sc s
theorem rz {w:List Int} {lim:Int} {x:List Int×Int} (h:bP w lim=some x):bG w lim=some x:=by
 obtain ⟨y,h1,h2,_⟩:=tY w lim
 rw [h1] at h; cases h; exact h2
theorem vW {s:List Nat} (hs:∀ x∈s,x≤18) (hl:s.length≤5000):∀ (k i fuel:Nat) (a:List Nat) (c:Nat),i+k=s.length→k<fuel→a.length=19→(∀ x∈a,x≤c)→c+k≤900000 →
  aG (Ll (ints s)) fuel (ints a,(i:Int))=some (.inl (ints ((s.drop i).foldl tK a)))
 | 0,i,fuel,a,c,hk,hf,h1,h2,hc=>by
  obtain ⟨fu,rfl⟩:∃ fu,fuel=fu+1:=⟨fuel-1,by omega⟩
  rw [List.drop_eq_nil_of_le (by omega)]
  exact aV (ao (decide_eq_false (by rw [aD]; omega)) rfl)
 | k+1,i,fuel,a,c,hk,hf,h1,h2,hc=>by
  obtain ⟨fu,rfl⟩:∃ fu,fuel=fu+1:=⟨fuel-1,by omega⟩
  have hi:i<s.length:=by omega
  have h18:=hs _ (List.getElem_mem hi)
  obtain ⟨i1,i2⟩:=jt (a:=a) (s:=s[i]) rfl (by omega)
  have hb:a.getD s[i] 0≤c:=by
   rw [List.getD_eq_getElem?_getD,List.getElem?_eq_getElem (show s[i]<a.length by omega),Option.getD_some]
   exact h2 _ (List.getElem_mem _)
  rw [List.drop_eq_getElem_cons hi,List.foldl_cons]
  exact (bh (am (decide_eq_true (by rw [aD]; omega)) (ai (aA (by rw [aD]; exact hi)) (ai (cK hi) (ai i1 (ai i2 (ai (congrArg some (aI (n:=a.getD s[i] 0) (by omega))) (ai i1 (ai (congrArg some (gY a _ _)) (ai (congrArg some (aI (n:=i) (by omega))) rfl)))))))))).trans
   (vW hs hl k (i+1) fu (tK a s[i]) (c+1) (by omega) (by omega) (by rw [mJ]; exact h1) (pn h2) (by omega))
theorem vN {m:List Nat} (hm:m.length=19):∀ (k i fuel:Nat),i+k=19→k<fuel →
  aG (Lw (ints jY) (ints m)) fuel (ints ((gg m).take i),(i:Int))=some (.inl (ints (gg m)))
 | 0,i,fuel,hk,hf=>by
  obtain ⟨fu,rfl⟩:∃ fu,fuel=fu+1:=⟨fuel-1,by omega⟩
  have:(gg m).length=19:=by simp [gg,jY]
  have lo:jY.length=19:=rfl
  rw [List.take_of_length_le (by omega)]
  exact aV (ao (decide_eq_false (by rw [aD]; omega)) rfl)
 | k+1,i,fuel,hk,hf=>by
  obtain ⟨fu,rfl⟩:∃ fu,fuel=fu+1:=⟨fuel-1,by omega⟩
  have lo:jY.length=19:=rfl
  have hlo:(gg m).length=19:=by rw [gg,List.length_map,lo]
  have hi:i<jY.length:=by omega
  have hil:i<(gg m).length:=by omega
  have hx:=Ds _ (List.getElem_mem hi)
  obtain ⟨i1,i2⟩:=jt (a:=m) (s:=jY[i]) rfl (by omega)
  have hset:ce 8 (ints ((gg m).take i)) [((m.getD jY[i] 0:Nat):Int)]=some (ints ((gg m).take (i+1))):=by
   rw [ev (by rw [aD,List.length_take,List.length_singleton]; omega) (by rw [aD,List.length_take,List.length_singleton]; omega),List.take_add_one,List.getElem?_eq_getElem hil]
   simp [gg,ints]
   rfl
  exact (bh (am (decide_eq_true (by rw [aD]; omega)) (ai (aA (by rw [aD]; omega)) (ai (x:=((jY[i]:Nat):Int)) (cK hi) (ai i1 (ai i2 (ai hset (ai (congrArg some (aI (n:=i) (by omega))) rfl)))))))).trans (vN hm k (i+1) fu (by omega) (by omega))
theorem va {o:List Nat} (ho:∀ x∈o,x<8) (hl:o.length≤100):∀ (k i fuel:Nat) (w:aN) (ps:List (Nat×Nat)),i+k=o.length→k<fuel→WP (BW w) ps→cE ps+3 * k≤900000 →
  ∃ w',aG (Lp (ints o)) fuel (w.B,w.N,(i:Int))=some (.inl (w'.B,w'.N))∧WP (BW w') (ps++nP 3 (o.drop i))
 | 0,i,fuel,w,ps,hk,hf,h,hN=>by
  obtain ⟨fu,rfl⟩:∃ fu,fuel=fu+1:=⟨fuel-1,by omega⟩
  rw [List.drop_eq_nil_of_le (by omega)]
  exact ⟨w,aV (ao (decide_eq_false (by rw [aD]; omega)) rfl),by simpa [nP] using h⟩
 | k+1,i,fuel,w,ps,hk,hf,h,hN=>by
  obtain ⟨fu,rfl⟩:∃ fu,fuel=fu+1:=⟨fuel-1,by omega⟩
  have hi:i<o.length:=by omega
  have hx:=ho _ (List.getElem_mem hi)
  obtain ⟨w1,p1,q1⟩:=h.bputs (v:=((o[i]:Nat):Int)) (n:=3) o[i] 3 rfl rfl (by omega) (by omega) (by omega)
  obtain ⟨w2,p2,q2⟩:=va ho hl k (i+1) fu w1 (ps++[(o[i],3)]) (by omega) (by omega) q1 (by rw [bJ]; simp only [cE,List.map_cons,List.map_nil,List.sum_cons,List.sum_nil] at hN ⊢; omega)
  refine ⟨w2,(bh (am (decide_eq_true (by rw [aD]; omega)) (ai (aA (by rw [aD]; exact hi)) (ai (cK hi) (ai p1 (ai (congrArg some (aI (n:=i) (by omega))) rfl)))))).trans p2,?_⟩
  rw [List.drop_eq_getElem_cons hi]
  have e:nP 3 (o[i]::o.drop (i+1))=[(o[i],3)]++nP 3 (o.drop (i+1)):=rfl
  rw [e,← List.append_assoc]; exact q2
theorem uT {m:List Nat} (hm:Cd m) (hml:m.length=19) {R:List (Nat×Nat)} (hR:∀ p∈R,p.1≤18∧p.2<2 ^ uN p.1) (hl:R.length≤400):∀ (k i fuel:Nat) (w:aN) (ps:List (Nat×Nat)),i+k=R.length→k<fuel→WP (BW w) ps→cE ps+22 * k≤900000 →
  ∃ w',aG (Ly (ints (sN R)) (ints (mN R)) (ints m) (ints (codes m))) fuel (w.B,w.N,(i:Int))=some (.inl (w'.B,w'.N))∧WP (BW w') (ps++BI m (R.drop i))
 | 0,i,fuel,w,ps,hk,hf,h,hN=>by
  obtain ⟨fu,rfl⟩:∃ fu,fuel=fu+1:=⟨fuel-1,by omega⟩
  rw [List.drop_eq_nil_of_le (by omega)]
  exact ⟨w,aV (ao (decide_eq_false (by rw [aD,sN,List.length_map]; omega)) rfl),by simpa [BI] using h⟩
 | k+1,i,fuel,w,ps,hk,hf,h,hN=>by
  obtain ⟨fu,rfl⟩:∃ fu,fuel=fu+1:=⟨fuel-1,by omega⟩
  have hi:i<R.length:=by omega
  have hx:=hR _ (List.getElem_mem hi)
  have hs:i<(sN R).length:=by rw [sN,List.length_map]; exact hi
  have hmm:i<(mN R).length:=by rw [mN,List.length_map]; exact hi
  have g1:aB (ints (sN R)) i=some ((R[i].1:Nat):Int):=by rw [cK hs]; simp [sN]
  have g2:aB (ints (mN R)) i=some ((R[i].2:Nat):Int):=by rw [cK hmm]; simp [mN]
  obtain ⟨w1,p1,q1⟩:=h.bcode hm (j:=R[i].1) (by omega) (by omega)
  have c1:=(gV hm (j:=R[i].1) (by omega)).2
  have c2:=xI R[i].1
  have s1:cE (ps++[kt m R[i].1])≤cE ps+15:=by rw [bJ]; simp only [cE,kt,List.map_cons,List.map_nil,List.sum_cons,List.sum_nil]; omega
  obtain ⟨w2,p2,q2⟩:=q1.bput R[i].2 (uN R[i].1) (by omega) hx.2 (by omega)
  have s2:cE (ps++[kt m R[i].1]++[(R[i].2,uN R[i].1)])≤cE ps+22:=by rw [bJ _ [(R[i].2,uN R[i].1)]]; simp only [cE,List.map_cons,List.map_nil,List.sum_cons,List.sum_nil] at s1 ⊢; omega
  obtain ⟨w3,p3,q3⟩:=uT hm hml hR hl k (i+1) fu w2 _ (by omega) (by omega) q2 (by omega)
  refine ⟨w3,(bh (am (decide_eq_true (by rw [aD]; omega)) (ai (aA (by rw [aD]; exact hs)) (ai g1 (ai p1 (ai (aA (by rw [aD]; exact hmm)) (ai g2 (ai (aA (by rw [aD]; exact hs)) (ai g1 (ai (Bj _) (ai p2 (ai (congrArg some (aI (n:=i) (by omega))) rfl)))))))))))).trans p3,?_⟩
  rw [List.drop_eq_getElem_cons hi]
  have e:BI m (R[i]::R.drop (i+1))=[kt m R[i].1]++([(R[i].2,uN R[i].1)]++BI m (R.drop (i+1))):=rfl
  rw [e,← List.append_assoc,← List.append_assoc]; exact q3
theorem yW:ft=some (ints jY):=by kernel_rfl
theorem Ig {l:List Nat} (h:∀ x∈l,x≤15) (hl:l.length≤320):ez (ints l)=some (ints (sN (jc l)),ints (mN (jc l))):=by
 have h1:=wG h hl
 rw [Dg (by rw [aD]; omega)] at h1
 rw [BM (by rw [aD]; omega)]
 split at h1
 ·simp only [Option.some.injEq,Prod.mk.injEq] at h1
  rw [h1.1,h1.2.1]
 ·simp only [Option.some.injEq,Prod.mk.injEq] at h1
  exact absurd h1.2.2 (by decide)
theorem wq {b:List Int} (hb:∀ n∈b,0≤n∧n<256) (hlb:b.length≤1200):∃ w,df b=some w∧WP (BW w) (xK (fB b)):=by
 have hl:=pc (b:=b) (by omega)
 have ht:=km hb
 have htk:=vg (b:=b) (by omega)
 generalize fB b=l at *
 obtain ⟨a1,a2,a3,a4,a5⟩:=xT hl
 obtain ⟨b1,b2,b3,b4,b5⟩:=yz hl
 obtain ⟨t1,t2⟩:=mM (l:=tH l) (least:=257) (by omega)
 obtain ⟨t3,t4⟩:=mM (l:=xa l) (least:=1) (by omega)
 have kl:=uA (l:=tH l) (by omega) 257
 have kd:=uA (l:=xa l) (by omega) 1
 have h1:∀ x∈sO (tH l) 257,x≤15:=fun x hx=>a5 x (List.mem_of_mem_take hx)
 have h2:∀ x∈sO (xa l) 1,x≤15:=fun x hx=>b5 x (List.mem_of_mem_take hx)
 obtain ⟨ml,hml⟩:∃ ml,ml=sO (tH l) 257:=⟨_,rfl⟩
 obtain ⟨md,hmd⟩:∃ md,md=sO (xa l) 1:=⟨_,rfl⟩
 have hdy:xK l=[(1,1),(2,2)]++(GR ml md++(kR (tH l) (xa l) l++[kt (tH l) 256])):=by rw [hml,hmd]; rfl
 rw [← hml] at t1 t2 kl h1
 rw [← hmd] at t3 t4 kd h2
 have hL:∀ x∈ml++md,x≤15:=fun x hx=>(List.mem_append.1 hx).elim (h1 x) (h2 x)
 have hll:(ml++md).length≤320:=by rw [List.length_append]; omega
 obtain ⟨c1,c2,c3,c4,c5⟩:=yU (l:=ml++md) hll
 have hrn:=oU (ml++md)
 have hrok:=zZ hL
 have hrow:=Ig hL hll
 have hw:=xE (ml:=ml) (md:=md) (by omega)
 have a2':ce 8 (ints ml) (ints md)=some (ints (ml++md)):=by rw [ev (by simp [ints]; omega) (by simp [ints]; omega)]; simp [ints]
 have m1:pr 8 19 (0:Int)=some (ints (List.replicate 19 0)):=by kernel_rfl
 have k0:=vW (s:=sN (jc (ml++md))) (fun x hx=>by
  obtain ⟨p,hp,rfl⟩:=List.mem_map.1 hx
  exact (hrok p hp).1) (by rw [sN,List.length_map]; omega) (sN (jc (ml++md))).length 0 bD (List.replicate 19 0) 0 (by omega) (by rw [sN,List.length_map]; simp only [bD]; omega) (by simp) (fun x hx=>by rw [List.mem_replicate] at hx; omega) (by rw [sN,List.length_map]; omega)
 rw [List.drop_zero] at k0
 have k1:=vN (m:=sZ (ml++md)) c3 19 0 bD rfl (by simp only [bD]; omega)
 rw [List.take_zero] at k1
 have hol:(gg (sZ (ml++md))).length=19:=by simp [gg,jY]
 have k2:=uA (l:=gg (sZ (ml++md))) (by omega) 4
 obtain ⟨o1,o2⟩:=uL (ml++md)
 have ho:∀ x∈qU (ml++md),x<8:=fun x hx=>by
  have:=List.mem_of_mem_take hx
  obtain ⟨s,hs,rfl⟩:=List.mem_map.1 this
  have:(sZ (ml++md)).getD s 0≤7:=by
   rw [List.getD_eq_getElem?_getD]
   cases hj:(sZ (ml++md))[s]? with
   | none=>simp
   | some y=>simpa using c5 y (List.mem_of_getElem? hj)
  omega
 obtain ⟨w1,p1,q1⟩:=Cm.bputs (v:=((ml.length-257:Nat):Int)) (n:=5) (ml.length-257) 5 rfl rfl (by omega) (by omega) (by simp [cE])
 have s0:cE [(1,1),(2,2)]=3:=rfl
 have s1:cE ([(1,1),(2,2)]++[(ml.length-257,5)])=8:=by rw [bJ]; rfl
 obtain ⟨w2,p2,q2⟩:=q1.bputs (v:=((md.length-1:Nat):Int)) (n:=5) (md.length-1) 5 rfl rfl (by omega) (by omega) (by omega)
 have s2:cE ([(1,1),(2,2)]++[(ml.length-257,5)]++[(md.length-1,5)])=13:=by rw [bJ,s1]; rfl
 obtain ⟨w3,p3,q3⟩:=q2.bputs (v:=(((qU (ml++md)).length-4:Nat):Int)) (n:=4) ((qU (ml++md)).length-4) 4 rfl rfl (by omega) (by omega) (by omega)
 have s3:cE ([(1,1),(2,2)]++[(ml.length-257,5)]++[(md.length-1,5)]++[((qU (ml++md)).length-4,4)])=17:=by rw [bJ,s2]; rfl
 obtain ⟨w4,p4,q4⟩:=va ho (by omega) (qU (ml++md)).length 0 bD w3 _ (by omega) (by simp only [bD]; omega) q3 (by omega)
 rw [List.drop_zero] at q4
 have s4:cE ([(1,1),(2,2)]++[(ml.length-257,5)]++[(md.length-1,5)]++[((qU (ml++md)).length-4,4)]++nP 3 (qU (ml++md)))≤17+57:=by rw [bJ,s3,yc]; omega
 obtain ⟨w5,p5,q5⟩:=uT c2 c3 hrok (by omega) (jc (ml++md)).length 0 bD w4 _ (by omega) (by simp only [bD]; omega) q4 (by omega)
 rw [List.drop_zero] at q5
 have q5':WP (BW w5) ([(1,1),(2,2)]++GR ml md):=by unfold GR; simpa only [List.append_assoc,List.cons_append,List.nil_append] using q5
 obtain ⟨w6,p6,q6⟩:=vv a2 b2 (by omega) (by omega) hl ht q5' (by rw [bJ,s0]; omega)
 refine ⟨w6,?_,by rw [hdy]; simpa only [List.append_assoc,List.cons_append,List.nil_append] using q6⟩
 have e1:IntKind.i64.wrap (((ints ml).length:Int)-257)=((ml.length-257:Nat):Int):=by rw [aD,wrap_i64 (by omega) (by omega)]; omega
 have e2:IntKind.i64.wrap (((ints md).length:Int)-1)=((md.length-1:Nat):Int):=by rw [aD,wrap_i64 (by omega) (by omega)]; omega
 have e3:IntKind.i64.wrap (((ints (qU (ml++md))).length:Int)-4)=(((qU (ml++md)).length-4:Nat):Int):=by rw [aD,wrap_i64 (by omega) (by omega)]; omega
 unfold df
 exact ai htk (ai (wZ hl ht) (ai (rz a1) (ai (rz b1) (ai kl (ai kd (ai (Ek (ints ml) (by rw [aD]; omega)) (ai a2' (ai hrow (ai m1 (aK k0 (ai (rz c1) (ai yW (aK k1 (ai k2 (ai Ip (ai (congrArg some e1) (ai p1 (ai (congrArg some e2) (ai p2 (ai (congrArg some e3) (ai p3 (aK p4 (ai (pQ c2) (aK p5 (ai p6 rfl)))))))))))))))))))))))))
theorem CX:∀ (ps:List (Nat×Nat)) (N:Nat) (B C:List Int),Sp ps N B→Sp ps N C→∀ q,N≤q→q<N+cE ps→et B q=et C q
 | [],N,B,C,_,_,q,h1,h2=>by simp [cE] at h2; omega
 | p::ps,N,B,C,hB,hC,q,h1,h2=>by
  have hw:cE (p::ps)=p.2+cE ps:=by simp [cE]
  by_cases h:q<N+p.2
  ·have e1:=hB.1 (q-N) (by omega)
   have e2:=hC.1 (q-N) (by omega)
   rw [show N+(q-N)=q by omega] at e1 e2
   rw [e1,e2]
  ·exact CX ps (N+p.2) B C hB.2 hC.2 q (by omega) (by omega)
theorem rV {w:af} {s:aN} {ps:List (Nat×Nat)} (h:WP w ps) (k:WP (BW s) ps):s.B=w.b∧s.N=w.n :=
 ⟨Dv k.good h.good fun q hq=>CX ps 0 _ _ k.sp h.sp q (Nat.zero_le _) (by omega),k.n.trans h.n.symm⟩
theorem CQ {w:af} {ps:List (Nat×Nat)} (h:WP w ps) (hw:cE ps≤1000000):w.b.length≤200000:=by
 have:=h.good.len
 omega
theorem GY {b:List Int} (hb:∀ n∈b,0≤n∧n<256) (hl:b.length≤1200):cE (JQ (fB b))≤600000:=by
 have h1:=nS zM.le Ag.le (km hb)
 have h2:=mr b
 have h3:cE [kt mL 256]=7:=by kernel_rfl
 unfold JQ
 rw [bJ,bJ,h3,show cE [(1,1),(1,2)]=3 from rfl]
 omega
theorem Hr {b:List Int} (hb:∀ n∈b,0≤n∧n<256) (hl:b.length≤1200):cE (xK (fB b))≤600000:=by
 have hl5:=pc (b:=b) (by omega)
 obtain ⟨a1,a2,a3,a4,a5⟩:=xT hl5
 obtain ⟨b1,b2,b3,b4,b5⟩:=yz hl5
 obtain ⟨t1,t2⟩:=mM (l:=tH (fB b)) (least:=257) (by omega)
 obtain ⟨t3,t4⟩:=mM (l:=xa (fB b)) (least:=1) (by omega)
 have hw:=xE (ml:=sO (tH (fB b)) 257) (md:=sO (xa (fB b)) 1) (by omega)
 have h1:=nS a2.le b2.le (km hb)
 have h2:=mr b
 have h3:cE [kt (tH (fB b)) 256]≤15:=by
  have:=(gV a2 (j:=256) (by omega)).2
  simpa [cE,kt] using this
 unfold xK
 rw [bJ,bJ,bJ,show cE [(1,1),(2,2)]=3 from rfl]
 omega
def DJ:(((List Int)×Int))→Option (((List Int)×Int)⊕((Unit)⊕Unit)):=(fun ((s11,s12):(List Int)×Int) =>
 cond ((decide (s12<(s11.length:Int))))
  ((bf s12 s11.length).bind fun v2 =>
  (aB s11 v2).bind fun v3 =>
  (some (IntKind.u8.wrap (v3+91))).bind fun v4 =>
  (bf s12 s11.length).bind fun v5 =>
  (some (s11.set v5 v4)).bind fun v6 =>
  (some (IntKind.i64.wrap (s12+1))).bind fun v7 =>
  some (.inl (v6,v7)))
  (some (.inr (.inl ()))))
theorem vd (l:List Int) (hl:l.length≤1000000):ey l=some ():=by
 have key:∀ (k fuel i:Nat) (s:List Int),s.length-i=k→i≤s.length→k<fuel→s.length≤1000000→aG DJ fuel (s,(i:Int))=some (.inl ()):=by
  intro k
  induction k with
  | zero =>
   intro fuel i s hk hi hf hs
   obtain ⟨f,rfl⟩:∃ f,fuel=f+1:=⟨fuel-1,by omega⟩
   refine aV ?_
   unfold DJ; exact ao (by simp; omega) rfl
  | succ k ih =>
   intro fuel i s hk hi hf hs
   obtain ⟨f,rfl⟩:∃ f,fuel=f+1:=⟨fuel-1,by omega⟩
   have hlt:i<s.length:=by omega
   have hw:IntKind.i64.wrap ((i:Int)+1)=((i+1:Nat):Int):=by rw [wrap_i64 (by omega) (by omega)]; simp
   refine (bh (s':=(s.set i (IntKind.u8.wrap (s[i]+91)),((i+1:Nat):Int))) ?_).trans (ih f (i+1) _ (by rw [List.length_set]; omega) (by rw [List.length_set]; omega) (by omega) (by rw [List.length_set]; omega))
   unfold DJ
   exact am (by simp; omega) (ai (aA hlt) (ai (bW hlt) (ai rfl (ai (aA hlt) (ai rfl (ai (x:=((i+1:Nat):Int)) (by rw [hw]) rfl))))))
 unfold ey
 exact aK (key l.length bD 0 l (by omega) (Nat.zero_le _) (by unfold bD; omega) hl) rfl
theorem pm (b:List Int) (hw:Dr (lm .u8) b):dB b=some true:=by
 have hb:=LC hw
 unfold dB
 by_cases h12:1200<b.length
 ·exact am (decide_eq_true (by omega)) rfl
 have hl:b.length≤1200:=by omega
 obtain ⟨s,s1,s2,s3⟩:=Bz hb (by omega)
 obtain ⟨f,f1,f2,f3⟩:=Db hb (by omega)
 obtain ⟨d,d1,d2,d3⟩:=xr hb (by omega)
 obtain ⟨rs,rs1,rs2⟩:=xY hb hl
 obtain ⟨rf,rf1,rf2⟩:=BG hb hl
 obtain ⟨rd,rd1,rd2⟩:=wq hb hl
 obtain ⟨es,ns⟩:=rV s3 rs2
 obtain ⟨ef,nf⟩:=rV f3 rf2
 obtain ⟨ed,nd⟩:=rV d3 rd2
 have ls:=CQ s3 (by rw [EY]; omega)
 have lf:=CQ f3 (by have:=GY hb hl; omega)
 have ld:=CQ d3 (by have:=Hr hb hl; omega)
 obtain ⟨X,hX⟩:∃ X,X=(if d.n<(if f.n<s.n then f.n else s.n) then d.b else if f.n<s.n then f.b else s.b):=⟨_,rfl⟩
 have lX:X.length≤200000:=by
  rw [hX]
  by_cases h1:f.n<s.n
  ·simp only [if_pos h1]
   by_cases h2:d.n<f.n
   ·rw [if_pos h2]; exact ld
   ·rw [if_neg h2]; exact lf
  ·simp only [if_neg h1]
   by_cases h2:d.n<s.n
   ·rw [if_pos h2]; exact ld
   ·rw [if_neg h2]; exact ls
 have key:fj b=some (X,0):=by
  rw [hX]
  unfold fj
  exact ai (pE hb (by omega)) (ao rfl (ai s2 (ai f2 (ai d2 rfl))))
 have rkey:ee b=some X:=by
  rw [hX]
  unfold ee
  refine ai rs1 (aK (s:=(if f.n<s.n then f.b else s.b,if f.n<s.n then f.n else s.n)) (ai rf1 ?_) (aK (s:=(if d.n<(if f.n<s.n then f.n else s.n) then d.b else if f.n<s.n then f.b else s.b,if d.n<(if f.n<s.n then f.n else s.n) then d.n else if f.n<s.n then f.n else s.n)) (ai rd1 ?_) rfl))
  ·rw [nf,ns,ef,es]
   by_cases h:f.n<s.n
   ·rw [if_pos h,if_pos h]; exact am (decide_eq_true h) rfl
   ·rw [if_neg h,if_neg h]; exact ao (decide_eq_false h) rfl
  ·rw [nd,ed]
   by_cases h:d.n<(if f.n<s.n then f.n else s.n)
   ·rw [if_pos h,if_pos h]; exact am (decide_eq_true h) rfl
   ·rw [if_neg h,if_neg h]; exact ao (decide_eq_false h) rfl
 have k0:bQ b 0=some s.b:=by
  unfold bQ
  exact am rfl (ai rs1 (congrArg some es))
 have k1:bQ b 1=some f.b:=by
  unfold bQ
  exact ao rfl (am rfl (ai rf1 (congrArg some ef)))
 have k2:bQ b 2=some d.b:=by
  unfold bQ
  exact ao rfl (ao rfl (ai rd1 (congrArg some ed)))
 have ht:fh b=some b:=by
  unfold fh
  exact ai (ev (l:=([]:List Int)) (by simp; omega) (by simp; omega)) rfl
 have g:∀ {l:List Int},l.length≤200000→bE l l=some true:=fun h=>Jc (by omega)
 exact ao (decide_eq_false (by omega)) (ai ht (ai s1 (ai f1 (ai d1 (ai key (aK (s:=false) (ao rfl (ao rfl (ao rfl (ao rfl (ai k0 (ai (g ls) (ao rfl (ai k1 (ai (g lf) (ao rfl (ai k2 (ai (g ld) (ao rfl (ai rkey (ai (g lX) rfl))))))))))))))) (ao rfl (ai (vd X (by omega)) (ai (vd s.b (by omega)) (aK (s:=true) (ai (g (l:=b) (by omega)) (am rfl (ai Hw rfl))) rfl))))))))))
end Go.Abs.Sh
