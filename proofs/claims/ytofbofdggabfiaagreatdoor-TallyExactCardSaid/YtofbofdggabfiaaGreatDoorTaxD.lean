import Derived.Test.YtofbofdggabfiaaGreatDoorTaxA
import Derived.KernelRfl
namespace Go.Abs.Sh
set_option linter.unusedVariables false
set_option linter.unusedSimpArgs false
set_option maxRecDepth 10000
def hvIn (l:List T_Mail) (s67:Int):((Int×Int))→Option ((Int×Int)⊕((Int)⊕((Int×Int)⊕((Int)⊕Bool)))):=(fun ((s98,s99):Int×Int) =>
      (ixO s67 l.length).bind fun v18 =>
      (getO l v18).bind fun v19 =>
      cond ((decide (s99<(v19.To.length:Int))))
       ((ixO s67 l.length).bind fun v21 =>
       (getO l v21).bind fun v22 =>
       (ixO s99 v22.To.length).bind fun v23 =>
       (getO v22.To v23).bind fun v24 =>
       (some (IntKind.i64.wrap (s98+(v24.Local.size:Int)))).bind fun v25 =>
       (ixO s67 l.length).bind fun v26 =>
       (getO l v26).bind fun v27 =>
       (ixO s99 v27.To.length).bind fun v28 =>
       (getO v27.To v28).bind fun v29 =>
       (some (IntKind.i64.wrap (v25+(v29.Domain.size:Int)))).bind fun v30 =>
       (some (IntKind.i64.wrap (s99+1))).bind fun v31 =>
       some (.inl (v30,v31)))
       (some (.inr (.inl s98))))
def hvOut (l:List T_Mail):((Int×Int))→Option ((Int×Int)⊕((Int)⊕Bool)):=(fun ((s66,s67):Int×Int) =>
  cond ((decide (s67<(l.length:Int))))
   ((ixO s67 l.length).bind fun v3 =>
   (getO l v3).bind fun v4 =>
   (some (IntKind.i64.wrap (s66+(v4.Body.length:Int)))).bind fun v5 =>
   (ixO s67 l.length).bind fun v6 =>
   (getO l v6).bind fun v7 =>
   (some (IntKind.i64.wrap (v5+(v7.Helo.size:Int)))).bind fun v8 =>
   (ixO s67 l.length).bind fun v9 =>
   (getO l v9).bind fun v10 =>
   (some (IntKind.i64.wrap (v8+(v10.From.Local.size:Int)))).bind fun v11 =>
   (ixO s67 l.length).bind fun v12 =>
   (getO l v12).bind fun v13 =>
   (some (IntKind.i64.wrap (v11+(v13.From.Domain.size:Int)))).bind fun v14 =>
   (ixO s67 l.length).bind fun v15 =>
   (getO l v15).bind fun v16 =>
   cond ((decide (40<(v16.To.length:Int))))
    (some (.inr (.inr (true))))
    (bindS (S:=(Int)) (A:=((Int×Int)⊕((Int)⊕Bool)))
     (loopF (S:=(Int×Int)) (O:=(Int)⊕((Int×Int)⊕((Int)⊕Bool))) (fun ((s98,s99):Int×Int) =>
      (ixO s67 l.length).bind fun v18 =>
      (getO l v18).bind fun v19 =>
      cond ((decide (s99<(v19.To.length:Int))))
       ((ixO s67 l.length).bind fun v21 =>
       (getO l v21).bind fun v22 =>
       (ixO s99 v22.To.length).bind fun v23 =>
       (getO v22.To v23).bind fun v24 =>
       (some (IntKind.i64.wrap (s98+(v24.Local.size:Int)))).bind fun v25 =>
       (ixO s67 l.length).bind fun v26 =>
       (getO l v26).bind fun v27 =>
       (ixO s99 v27.To.length).bind fun v28 =>
       (getO v27.To v28).bind fun v29 =>
       (some (IntKind.i64.wrap (v25+(v29.Domain.size:Int)))).bind fun v30 =>
       (some (IntKind.i64.wrap (s99+1))).bind fun v31 =>
       some (.inl (v30,v31)))
       (some (.inr (.inl s98))))
      BIG (v14,0))
     (fun (s101:Int) =>
      (some (IntKind.i64.wrap (s67+1))).bind fun v46 =>
      some (.inl (s101,v46))) some))
   (some (.inr (.inl s66))))
def hv18 (l:List T_Rec):((Int))→Option ((Int)⊕((Unit)⊕Bool)):=(fun (s23:Int) =>
  cond ((decide (s23<(l.length:Int))))
   (bindS (S:=Bool) (A:=((Int)⊕((Unit)⊕Bool)))
    ((ixO s23 l.length).bind fun v3 =>
    (getO l v3).bind fun v4 =>
    cond ((decide (600<(v4.Data.length:Int))))
     (some (.inl true))
     ((ixO s23 l.length).bind fun v5 =>
     (getO l v5).bind fun v6 =>
     cond ((decide (60<(v6.Ids.length:Int))))
      (some (.inl true))
      ((ixO s23 l.length).bind fun v7 =>
      (getO l v7).bind fun v8 =>
      (wherrylaw17_Heavy [(T_Mail.mk (T_Path.mk v8.Mail.From.Null v8.Mail.From.Local v8.Mail.From.Domain) v8.Mail.To v8.Mail.Body v8.Mail.Quiet v8.Mail.Helo v8.Mail.At)]).bind fun v9 =>
      some (.inl v9))))
    (fun (s37:Bool) =>
     cond (s37)
      (some (.inr (.inr (true))))
      ((some (IntKind.i64.wrap (s23+1))).bind fun v15 =>
      some (.inl v15))) some)
   (some (.inr (.inl ()))))
theorem wadd {a b:Nat} (h:a+b<9223372036854775808):some (IntKind.i64.wrap ((a:Int)+(b:Int)))=some ((a+b:Nat):Int):=by
 rw [wrap_i64 (by omega) (by omega)]; simp
def pW (p:T_Path):Nat:=p.Local.size+p.Domain.size
def psum:List T_Path→Nat
 | []=>0
 | p::l=>pW p+psum l
def mW (m:T_Mail):Nat:=m.Body.length+m.Helo.size+m.From.Local.size+m.From.Domain.size+psum m.To
def msum:List T_Mail→Nat
 | []=>0
 | m::l=>mW m+msum l
theorem psum_take (l:List T_Path) (k:Nat) (hk:k<l.length):psum (l.take (k+1))=psum (l.take k)+pW l[k]:=by
 induction l generalizing k with
 | nil=>simp at hk
 | cons p l ih =>
  cases k with
  | zero=>simp [psum]
  | succ k =>
   simp only [List.take_succ_cons,psum,List.getElem_cons_succ]
   rw [ih k (by simpa using hk)]; omega
theorem msum_take (l:List T_Mail) (k:Nat) (hk:k<l.length):msum (l.take (k+1))=msum (l.take k)+mW l[k]:=by
 induction l generalizing k with
 | nil=>simp at hk
 | cons p l ih =>
  cases k with
  | zero=>simp [msum]
  | succ k =>
   simp only [List.take_succ_cons,msum,List.getElem_cons_succ]
   rw [ih k (by simpa using hk)]; omega
theorem psum_le (B:Nat):∀ (l:List T_Path),(∀ p∈l,pW p≤B)→psum l≤l.length * B
 | [],_=>by simp [psum]
 | p::l,h=>by
  have h1:=h p (by simp)
  have h2:=psum_le B l (fun q hq=>h q (by simp [hq]))
  simp only [psum,List.length_cons,Nat.add_mul]; omega
theorem msum_le (B:Nat):∀ (l:List T_Mail),(∀ p∈l,mW p≤B)→msum l≤l.length * B
 | [],_=>by simp [msum]
 | p::l,h=>by
  have h1:=h p (by simp)
  have h2:=msum_le B l (fun q hq=>h q (by simp [hq]))
  simp only [msum,List.length_cons,Nat.add_mul]; omega
theorem mW_le_msum {m:T_Mail}:∀ {l:List T_Mail},m∈l→mW m≤msum l
 | x::l,h=>by
  rcases List.mem_cons.1 h with rfl | h
  ·simp only [msum]; omega
  ·have:=mW_le_msum h; simp only [msum]; omega
def mRe (m:T_Mail):Prop:=m.Body.length<140737488355328∧m.Helo.size<140737488355328∧m.From.Local.size<140737488355328∧m.From.Domain.size<140737488355328∧m.To.length<140737488355328∧∀ p∈m.To,p.Local.size<140737488355328∧p.Domain.size<140737488355328
theorem hvIn_run (l:List T_Mail) (i:Nat) (hi:i<l.length) (hm:mRe l[i]) (ht:l[i].To.length≤40) (A:Nat) (hA:A<1152921504606846976) :
  loopF (hvIn l (i:Int)) BIG ((A:Int),0)=some (.inl ((A+psum l[i].To:Nat):Int)):=by
 have hix:ixO (i:Int) l.length=some i:=ixO_of hi
 have hg:getO l i=some l[i]:=by simp [getO,hi]
 obtain ⟨m,hmm⟩:∃ m,m=l[i]:=⟨_,rfl⟩
 rw [← hmm] at hm ht hg ⊢
 have hp:∀ p∈m.To,pW p≤281474976710656:=fun p hp=>by have:=hm.2.2.2.2.2 p hp; simp only [pW]; omega
 have hb:∀ k,psum (m.To.take k)≤40 * 281474976710656:=fun k=>by
  have h1:=psum_le 281474976710656 (m.To.take k) (fun p hq=>hp p (List.mem_of_mem_take hq))
  have h2:(m.To.take k).length≤40:=by rw [List.length_take]; omega
  exact Nat.le_trans h1 (Nat.mul_le_mul_right _ h2)
 refine loop_from (fun k=>(((A+psum (m.To.take k):Nat):Int),(k:Int))) m.To.length BIG (by simp [psum]) (by simp only [BIG]; omega) (fun k hk => ?_) ?_
 ·have hk':k<m.To.length:=hk
  have hix2:ixO (k:Int) m.To.length=some k:=ixO_of hk'
  have hg2:getO m.To k=some m.To[k]:=by simp [getO,hk']
  have hb1:=hb k
  have hpk:=hm.2.2.2.2.2 m.To[k] (List.getElem_mem _)
  have hs:=psum_take m.To k hk'
  refine bnd hix (bnd hg (cnd_t (decide_eq_true (by omega)) (bnd hix (bnd hg (bnd hix2 (bnd hg2 (bnd (wadd (by omega)) (bnd hix (bnd hg (bnd hix2 (bnd hg2 (bnd (wadd (by omega)) (bnd (congrArg some (wrap_succ (by omega))) ?_))))))))))))) 
  rw [hs]
  simp only [pW,Nat.add_assoc]
 ·refine bnd hix (bnd hg (cnd_f (decide_eq_false (by omega)) ?_))
  simp only [List.take_length]
def LM (m:T_Mail):Prop:=m.To.length≤40∧mW m≤20000
theorem mW_le {m:T_Mail} (hm:mRe m) (ht:m.To.length≤40):mW m≤44 * 281474976710656:=by
 have h1:=psum_le 281474976710656 m.To (fun p hq=>by have:=hm.2.2.2.2.2 p hq; simp only [pW]; omega)
 have h2:m.To.length * 281474976710656≤40 * 281474976710656:=Nat.mul_le_mul_right _ ht
 have:=hm.1; have:=hm.2.1; have:=hm.2.2.1; have:=hm.2.2.2.1
 simp only [mW]; omega
theorem heavy17 (l:List T_Mail) (hr:∀ m∈l,mRe m):∃ b,wherrylaw17_Heavy l=some b∧(b=false→l.length≤20∧∀ m∈l,LM m):=by
 by_cases hl:20<l.length
 ·refine ⟨true,?_,fun h=>by cases h⟩
  simp only [wherrylaw17_Heavy]
  exact cnd_t (decide_eq_true (by omega)) rfl
 ·have go:∀ i,(hi:i<l.length)→l[i].To.length≤40→msum (l.take i)≤20 * (44 * 281474976710656)→hvOut l (((msum (l.take i):Nat):Int),(i:Int))=some (.inl (((msum (l.take (i+1)):Nat):Int),((i+1:Nat):Int))):=by
   intro i hi ht hb
   have hix:ixO (i:Int) l.length=some i:=ixO_of hi
   have hg:getO l i=some l[i]:=by simp [getO,hi]
   have hm:=hr l[i] (List.getElem_mem _)
   have hm1:=hm.1; have hm2:=hm.2.1; have hm3:=hm.2.2.1; have hm4:=hm.2.2.2.1
   refine cnd_t (decide_eq_true (by omega)) (bnd hix (bnd hg (bnd (wadd (by omega)) (bnd hix (bnd hg (bnd (wadd (by omega)) (bnd hix (bnd hg (bnd (wadd (by omega)) (bnd hix (bnd hg (bnd (wadd (by omega)) (bnd hix (bnd hg (cnd_f (decide_eq_false (by omega)) (bndL (hvIn_run l i hi hm ht _ (by omega)) (bnd (congrArg some (wrap_succ (by omega))) ?_)))))))))))))))))
   rw [msum_take l i hi]
   simp only [mW,Nat.add_assoc]
  have hs:∀ k,k≤l.length→(∀ i,i<k→(h:i<l.length)→l[i].To.length≤40)→msum (l.take k)≤20 * (44 * 281474976710656):=by
   intro k hk ht
   have h1:=msum_le (44 * 281474976710656) (l.take k) (fun m hq=>by
    obtain ⟨j,hj,e⟩:=List.mem_iff_getElem.1 hq
    rw [List.getElem_take] at e
    rw [List.length_take] at hj
    rw [← e]
    exact mW_le (hr _ (List.getElem_mem _)) (ht j (by omega) (by omega)))
   have h2:(l.take k).length≤20:=by rw [List.length_take]; omega
   exact Nat.le_trans h1 (Nat.mul_le_mul_right _ h2)
  rcases first_fail (fun i=>decide (∀ h:i<l.length,l[i].To.length≤40)) l.length with h | ⟨k,hk,h1,h2⟩
  ·have ht:∀ i,(h:i<l.length)→l[i].To.length≤40:=fun i hi=>of_decide_eq_true (h i hi) hi
   have hrun:loopF (hvOut l) BIG (0,0)=some (.inl ((msum l:Nat):Int)):=by
    refine loop_from (fun k=>(((msum (l.take k):Nat):Int),(k:Int))) l.length BIG rfl (by simp only [BIG]; omega) (fun i hi=>go i hi (ht i hi) (hs i (by omega) (fun j _ hj=>ht j hj))) ?_
    refine cnd_f (decide_eq_false (by omega)) ?_
    simp only [List.take_length]
   refine ⟨decide ((20000:Int)<((msum l:Nat):Int)),?_,fun hd=>⟨by omega,fun m hm=>⟨?_,?_⟩⟩⟩
   ·simp only [wherrylaw17_Heavy]
    exact cnd_f (decide_eq_false (by omega)) (bndL hrun rfl)
   ·obtain ⟨j,hj,e⟩:=List.mem_iff_getElem.1 hm
    rw [← e]; exact ht j hj
   ·have:=mW_le_msum hm
    have:=of_decide_eq_false hd
    omega
  ·have h2':40<l[k].To.length:=by
    have:=of_decide_eq_false h2
    apply Classical.byContradiction
    intro hh
    exact this (fun _=>Nat.le_of_not_lt hh)
   have ht:∀ i,i<k→(h:i<l.length)→l[i].To.length≤40:=fun i hi h=>of_decide_eq_true (h1 i hi) h
   have hrun:loopF (hvOut l) BIG (0,0)=some (.inr true):=by
    refine loop_from (fun k=>(((msum (l.take k):Nat):Int),(k:Int))) k BIG rfl (by simp only [BIG]; omega) (fun i hi=>go i (by omega) (ht i hi (by omega)) (hs i (by omega) (fun j hj h=>ht j (by omega) h))) ?_
    have hix:ixO (k:Int) l.length=some k:=ixO_of hk
    have hg:getO l k=some l[k]:=by simp [getO,hk]
    have hm:=hr l[k] (List.getElem_mem _)
    have hm1:=hm.1; have hm2:=hm.2.1; have hm3:=hm.2.2.1; have hm4:=hm.2.2.2.1
    have hb:=hs k (by omega) ht
    exact cnd_t (decide_eq_true (by omega)) (bnd hix (bnd hg (bnd (wadd (by omega)) (bnd hix (bnd hg (bnd (wadd (by omega)) (bnd hix (bnd hg (bnd (wadd (by omega)) (bnd hix (bnd hg (bnd (wadd (by omega)) (bnd hix (bnd hg (cnd_t (decide_eq_true (by omega)) rfl)))))))))))))))
   refine ⟨true,?_,fun h=>by cases h⟩
   simp only [wherrylaw17_Heavy]
   exact cnd_f (decide_eq_false (by omega)) (bndR hrun rfl)
def LR (r:T_Rec):Prop:=r.Data.length≤600∧r.Ids.length≤60∧LM r.Mail
theorem heavy18 (l:List T_Rec) (hr:∀ r∈l,mRe r.Mail∧r.Data.length<140737488355328∧r.Ids.length<140737488355328) (hn:l.length<140737488355328):∃ b,wherrylaw18_Heavy l=some b∧(b=false→l.length≤60∧∀ r∈l,LR r):=by
 by_cases hl:60<l.length
 ·refine ⟨true,?_,fun h=>by cases h⟩
  simp only [wherrylaw18_Heavy]
  exact cnd_t (decide_eq_true (by omega)) rfl
 ·-- a round
  have go:∀ i,(hi:i<l.length)→∃ b:Bool,hv18 l (i:Int)=some (if b then .inr (.inr true) else .inl ((i+1:Nat):Int))∧(b=false→LR l[i]):=by
   intro i hi
   have hix:ixO (i:Int) l.length=some i:=ixO_of hi
   have hg:getO l i=some l[i]:=by simp [getO,hi]
   have hm:=hr l[i] (List.getElem_mem _)
   by_cases h1:600<l[i].Data.length
   ·refine ⟨true,cnd_t (decide_eq_true (by omega)) (bndL (bnd hix (bnd hg (cnd_t (decide_eq_true (by omega)) rfl))) rfl),fun h=>by cases h⟩
   ·by_cases h2:60<l[i].Ids.length
    ·refine ⟨true,cnd_t (decide_eq_true (by omega)) (bndL (bnd hix (bnd hg (cnd_f (decide_eq_false (by omega)) (bnd hix (bnd hg (cnd_t (decide_eq_true (by omega)) rfl)))))) rfl),fun h=>by cases h⟩
    ·obtain ⟨b,hb,hbl⟩:=heavy17 [l[i].Mail] (fun m hq=>by rw [List.mem_singleton.1 hq]; exact hm.1)
     refine ⟨b,cnd_t (decide_eq_true (by omega)) (bndL (s:=b) (bnd hix (bnd hg (cnd_f (decide_eq_false (by omega)) (bnd hix (bnd hg (cnd_f (decide_eq_false (by omega)) (bnd hix (bnd hg (bnd hb rfl))))))))) ?_),fun h=>⟨by omega,by omega,(hbl h).2 _ (List.mem_singleton.2 rfl)⟩⟩
     cases b
     ·exact cnd_f rfl (bnd (congrArg some (wrap_succ (by omega))) rfl)
     ·rfl
  have hc:∃ p:Nat→Bool,∀ i,(hi:i<l.length)→hv18 l (i:Int)=some (if p i then .inl ((i+1:Nat):Int) else .inr (.inr true))∧(p i=true→LR l[i]):=by
   classical
   refine ⟨fun i=>if hi:i<l.length then !(Classical.choose (go i hi)) else true,fun i hi => ?_⟩
   have:=Classical.choose_spec (go i hi)
   simp only [hi,dif_pos]
   generalize Classical.choose (go i hi)=b at this
   cases b
   ·exact ⟨this.1,fun _=>this.2 rfl⟩
   ·exact ⟨this.1,fun h=>by simp at h⟩
  obtain ⟨p,hp⟩:=hc
  have hrun:=loop_all (f:=hv18 l) p l.length true (fuel:=BIG) (by simp only [BIG]; omega) (fun i hi h=>by have:=(hp i hi).1; rw [h] at this; exact this) (fun i hi h=>by have:=(hp i hi).1; rw [h] at this; exact this) (cnd_f (decide_eq_false (by omega)) rfl)
  by_cases h:∀ i,i<l.length→p i=true
  ·rw [if_pos h] at hrun
   refine ⟨false,?_,fun _=>⟨by omega,fun r hq => ?_⟩⟩
   ·simp only [wherrylaw18_Heavy]
    exact cnd_f (decide_eq_false (by omega)) (bndL hrun rfl)
   ·obtain ⟨j,hj,e⟩:=List.mem_iff_getElem.1 hq
    rw [← e]; exact (hp j hj).2 (h j hj)
  ·rw [if_neg h] at hrun
   refine ⟨true,?_,fun h=>by cases h⟩
   simp only [wherrylaw18_Heavy]
   exact cnd_f (decide_eq_false (by omega)) (bndR hrun rfl)
theorem keepPath (a b:T_Path):wherrykeep_Path a b=some (decide (a=b)):=by
 unfold wherrykeep_Path
 refine bndL (s:=decide (a=b)) (bnd rfl ?_) rfl
 rw [toList_beq,toList_beq]
 obtain ⟨an,al,ad⟩:=a
 obtain ⟨bn,bl,bd⟩:=b
 cases h:an==bn
 ·have:an≠bn:=by simpa using h
  refine cnd_f rfl ?_
  simp [this]
 ·have:an=bn:=by simpa using h
  refine cnd_t rfl ?_
  subst this
  by_cases h2:al=bl
  ·rw [decide_eq_true h2]
   subst h2
   refine cnd_t rfl ?_
   simp
  ·rw [decide_eq_false h2]
   refine cnd_f rfl ?_
   simp [h2]
theorem byt_jn {ls:List (List Int)} (h:byt (jn ls)):∀ l∈ls,byt l:=by
 induction ls with
 | nil=>intro l hl; simp at hl
 | cons m ls ih =>
  intro l hl
  simp only [jn] at h
  rcases List.mem_cons.1 hl with rfl | hl
  ·exact fun x hx=>h x (by simp [hx])
  ·exact ih (fun x hx=>h x (by simp [hx])) l hl
def okb:Int→List Int→Prop
 | _,[]=>True
 | p,x::l=>(x=13→l.head? = some 10)∧(x=10→p=13)∧okb x l
theorem okb_line:∀ (b:List Int) (p:Int),okb p b→p≠13→b.getLast? = some 10→∃ l r,b=l++13::10::r∧cln l∧okb 10 r∧(r=[]∨r.getLast? = some 10)
 | [],p,_,_,h=>by simp at h
 | x::t,p,h,hp,hl=>by
  obtain ⟨h1,h2,h3⟩:=h
  by_cases hx:x=13
  ·subst hx
   cases t with
   | nil=>simp at hl
   | cons y r =>
    have hy:=h1 rfl
    simp at hy
    subst hy
    refine ⟨[],r,rfl,fun z hz=>by simp at hz,h3.2.2,?_⟩
    cases r with
    | nil=>exact .inl rfl
    | cons z r=>right; rw [List.getLast?_cons_cons,List.getLast?_cons_cons] at hl; exact hl
  ·have hx2:x≠10:=fun e=>hp (h2 e)
   cases t with
   | nil=>simp at hl; exact absurd hl hx2
   | cons y t =>
    rw [List.getLast?_cons_cons] at hl
    obtain ⟨l,r,e,hc,ho,hr⟩:=okb_line (y::t) x h3 hx hl
    refine ⟨x::l,r,by rw [e]; rfl,fun z hz => ?_,ho,hr⟩
    rcases List.mem_cons.1 hz with rfl | hz
    ·exact ⟨hx,hx2⟩
    ·exact hc z hz
theorem okb_lines:∀ (n:Nat) (b:List Int) (p:Int),b.length≤n→okb p b→p≠13→(b=[]∨b.getLast? = some 10)→∃ ls,(∀ l∈ls,cln l)∧b=jn ls
 | 0,b,p,hn,_,_,_=>⟨[],fun l hl=>by simp at hl,by cases b with | nil=>rfl | cons=>simp at hn⟩
 | n+1,b,p,hn,ho,hp,hl=>by
  rcases hl with rfl | hl
  ·exact ⟨[],fun l hl=>by simp at hl,rfl⟩
  ·obtain ⟨l,r,e,hc,ho2,hr⟩:=okb_line b p ho hp hl
   obtain ⟨ls,h1,h2⟩:=okb_lines n r 10 (by rw [e] at hn; simp at hn; omega) ho2 (by decide) hr
   refine ⟨l::ls,fun m hm => ?_,by rw [e,h2]; rfl⟩
   rcases List.mem_cons.1 hm with rfl | hm
   ·exact hc
   ·exact h1 m hm
def bad (b:List Int) (i:Nat):Bool:=if b[i]? = some 13 then decide (b[i+1]? ≠ some 10) else if b[i]? = some 10 then decide (i=0∨b[i-1]? ≠ some 13) else false
theorem okb_of:∀ (b:List Int) (p:Int),(∀ i,i<b.length→(b[i]? = some 13→b[i+1]? = some 10)∧(b[i]? = some 10→(if i=0 then some p else b[i-1]?)=some 13))→okb p b
 | [],_,_=>trivial
 | x::l,p,h=>by
  refine ⟨fun e => ?_,fun e => ?_,okb_of l x fun i hi => ?_⟩
  ·have:=(h 0 (by simp)).1 (by simp [e])
   cases l with
   | nil=>simp at this
   | cons y l=>simpa using this
  ·have:=(h 0 (by simp)).2 (by simp [e])
   simpa using this
  ·have:=h (i+1) (by simp; omega)
   refine ⟨fun e=>by simpa using this.1 (by simpa using e),fun e => ?_⟩
   have h2:=this.2 (by simpa using e)
   rw [if_neg (by omega)] at h2
   cases i with
   | zero=>simpa using h2
   | succ i=>simpa using h2
theorem bad_no {b:List Int} (h:∀ i,i<b.length→(!bad b i)=true):okb 0 b:=by
 refine okb_of b 0 fun i hi => ?_
 have h1:=h i hi
 simp only [bad,Bool.not_eq_true'] at h1
 refine ⟨fun e => ?_,fun e => ?_⟩
 ·rw [if_pos e,decide_eq_false_iff_not,Classical.not_not] at h1; exact h1
 ·rw [e] at h1
  rw [if_neg (by simp),if_pos rfl,decide_eq_false_iff_not,not_or,Classical.not_not] at h1
  rw [if_neg h1.1]; exact h1.2
theorem get_of {b:List Int} {i:Nat} (h:i<b.length):b[i]? = some b[i]:=List.getElem?_eq_getElem h
theorem body_step (b:List Int) {i:Nat} (hi:i<b.length) (hl:b.length<4611686018427387904) :
  ((ixO (i:Int) b.length).bind fun v2 =>
     (getO b v2).bind fun v3 =>
     cond ((v3==13))
      ((some (IntKind.i64.wrap ((i:Int)+1))).bind fun v4 =>
      cond ((decide ((b.length:Int)≤v4)))
       (some (.inl true))
       ((some (IntKind.i64.wrap ((i:Int)+1))).bind fun v5 =>
       (ixO v5 b.length).bind fun v6 =>
       (getO b v6).bind fun v7 =>
       cond ((v7 != 10))
        (some (.inl true))
        ((ixO (i:Int) b.length).bind fun v8 =>
        (getO b v8).bind fun v9 =>
        cond ((v9==10))
         (cond (((i:Int)==0))
          (some (.inl true))
          ((some (IntKind.i64.wrap ((i:Int)-1))).bind fun v10 =>
          (ixO v10 b.length).bind fun v11 =>
          (getO b v11).bind fun v12 =>
          some (.inl (v12 != 13))))
         (some (.inl false)))))
      ((ixO (i:Int) b.length).bind fun v13 =>
      (getO b v13).bind fun v14 =>
      cond ((v14==10))
       (cond (((i:Int)==0))
        (some (.inl true))
        ((some (IntKind.i64.wrap ((i:Int)-1))).bind fun v15 =>
        (ixO v15 b.length).bind fun v16 =>
        (getO b v16).bind fun v17 =>
        some (.inl (v17 != 13))))
       (some (.inl false))):Option (Bool⊕((Int)⊕((Unit)⊕Bool))))=some (.inl (bad b i)):=by
 have e0:some (IntKind.i64.wrap ((i:Int)+1))=some ((i+1:Nat):Int):=by rw [wrap_j (by omega) (by omega)]; simp
 refine bnd (ixO_of hi) (bnd (getO_of hi) ?_)
 by_cases h13:b[i]=13
 ·refine cnd_t (by rw [h13]; rfl) (bnd e0 ?_)
  unfold bad
  rw [get_of hi,if_pos (by rw [h13])]
  by_cases hn:i+1<b.length
  ·refine cnd_f (decide_eq_false (by omega)) (bnd e0 (bnd (ixO_of hn) (bnd (getO_of hn) ?_)))
   rw [get_of hn]
   by_cases h10:b[i+1]=10
   ·refine cnd_f (by rw [h10]; rfl) (bnd (ixO_of hi) (bnd (getO_of hi) (cnd_f (by rw [h13]; rfl) ?_)))
    simp [h10]
   ·refine cnd_t (by simpa using h10) ?_
    simp [h10]
  ·refine cnd_t (decide_eq_true (by omega)) ?_
   rw [List.getElem?_eq_none (by omega)]; rfl
 ·refine cnd_f (by simpa using h13) (bnd (ixO_of hi) (bnd (getO_of hi) ?_))
  unfold bad
  rw [get_of hi,if_neg (by simpa using h13)]
  by_cases h10:b[i]=10
  ·refine cnd_t (by rw [h10]; rfl) ?_
   rw [if_pos (by rw [h10])]
   cases i with
   | zero=>rfl
   | succ i =>
    refine cnd_f (by rw [beq_eq_false_iff_ne]; omega) (bnd (x:=((i:Nat):Int)) (by rw [wrap_j (by omega) (by omega)]; simp) (bnd (ixO_of (by omega)) (bnd (getO_of (by omega)) ?_)))
    rw [show i+1-1=i by omega,get_of (by omega)]
    congr 2
    rw [Bool.eq_iff_iff,bne_iff_ne,decide_eq_true_eq]
    simp
  ·refine cnd_f (by simpa using h10) ?_
   rw [if_neg (by simpa using h10)]
theorem body_any (b:List Int) (hb:byt b) (hl:b.length<4294967281):wherryref11_Body b=some false∨(wherryref11_Body b=some true∧∃ ls,(∀ l∈ls,cln l)∧(∀ l∈ls,byt l)∧b=jn ls):=by
 have hloop:=loop_all (R:=Bool) (f:=fun (s31:Int)=>cond ((decide (s31<(b.length:Int))))
    (bindS (S:=Bool) (A:=((Int)⊕((Unit)⊕Bool)))
     ((ixO s31 b.length).bind fun v2 =>
     (getO b v2).bind fun v3 =>
     cond ((v3==13))
      ((some (IntKind.i64.wrap (s31+1))).bind fun v4 =>
      cond ((decide ((b.length:Int)≤v4)))
       (some (.inl true))
       ((some (IntKind.i64.wrap (s31+1))).bind fun v5 =>
       (ixO v5 b.length).bind fun v6 =>
       (getO b v6).bind fun v7 =>
       cond ((v7 != 10))
        (some (.inl true))
        ((ixO s31 b.length).bind fun v8 =>
        (getO b v8).bind fun v9 =>
        cond ((v9==10))
         (cond ((s31==0))
          (some (.inl true))
          ((some (IntKind.i64.wrap (s31-1))).bind fun v10 =>
          (ixO v10 b.length).bind fun v11 =>
          (getO b v11).bind fun v12 =>
          some (.inl (v12 != 13))))
         (some (.inl false)))))
      ((ixO s31 b.length).bind fun v13 =>
      (getO b v13).bind fun v14 =>
      cond ((v14==10))
       (cond ((s31==0))
        (some (.inl true))
        ((some (IntKind.i64.wrap (s31-1))).bind fun v15 =>
        (ixO v15 b.length).bind fun v16 =>
        (getO b v16).bind fun v17 =>
        some (.inl (v17 != 13))))
       (some (.inl false))))
     (fun (s45:Bool) =>
      cond (s45)
       (some (.inr (.inr (false))))
       ((some (IntKind.i64.wrap (s31+1))).bind fun v23 =>
       some (.inl v23))) some)
    (some (.inr (.inl ())))) (fun i => !bad b i) b.length false (fuel:=BIG) (by unfold BIG; omega)
  (fun i hi hp=>cnd_t (decide_eq_true (by omega)) (bndL (s:=bad b i) (body_step b hi (by omega)) (cnd_f (by simpa using hp) (bnd (some_wrap (by omega) (by omega)) rfl))))
  (fun i hi hp=>cnd_t (decide_eq_true (by omega)) (bndL (s:=bad b i) (body_step b hi (by omega)) (cnd_t (by simpa using hp) rfl)))
  (cnd_f (decide_eq_false (by omega)) rfl)
 by_cases hall:∀ i,i<b.length→(!bad b i)=true
 ·rw [if_pos hall] at hloop
  have ho:=bad_no hall
  cases hbn:b with
  | nil=>right; subst hbn; exact ⟨rfl,[],fun l hl=>by simp at hl,fun l hl=>by simp at hl,rfl⟩
  | cons y t =>
   rw [← hbn]
   have hpos:0<b.length:=by rw [hbn]; simp
   have hlast:b.getLast? = some (b[b.length-1]'(by omega)):=by rw [List.getLast?_eq_getElem?,get_of (by omega)]
   have key:wherryref11_Body b=some (b[b.length-1]'(by omega)==10):=by
    unfold wherryref11_Body
    refine bndL (s:=()) hloop (bndL (s:=(b[b.length-1]'(by omega)==10)) (cnd_f (by rw [beq_eq_false_iff_ne]; omega) (bnd (x:=((b.length-1:Nat):Int)) (by rw [wrap_j (by omega) (by omega)]; congr 1; omega) (bnd (ixO_of (by omega)) (bnd (getO_of (by omega)) rfl)))) rfl)
   by_cases h10:b[b.length-1]'(by omega)=10
   ·right
    rw [key,h10]
    obtain ⟨ls,h1,h2⟩:=okb_lines b.length b 0 (Nat.le_refl _) ho (by decide) (.inr (by rw [hlast,h10]))
    exact ⟨rfl,ls,h1,byt_jn (by rw [← h2]; exact hb),h2⟩
   ·left
    rw [key,beq_eq_false_iff_ne.2 h10]
 ·rw [if_neg hall] at hloop
  left
  unfold wherryref11_Body
  exact bndR (a:=false) hloop rfl
theorem app_nil {A:Type} {k:Nat} {l:List A} (h:l.length * k≤140737488355328) (h1:l.length≤140737488355328):appO k [] l=some l:=by
 rw [app_of (by simpa using h) (by simpa using h1)]; rfl
theorem re_of {r:T_Rec} (h:T_Rec.wz r):mRe r.Mail∧r.Data.length<140737488355328∧r.Ids.length<140737488355328:=by
 obtain ⟨_,⟨⟨_,h1,h2⟩,⟨h3,h4⟩,⟨h5,_⟩,_,h6,_⟩,_,⟨h7,_⟩,_,_,_,⟨h8,_⟩⟩:=h
 simp only [wzS,reachBytes] at h1 h2 h6
 simp only [reachBytes] at h3 h5 h7 h8
 refine ⟨⟨by omega,by omega,by omega,by omega,by omega,fun p hp => ?_⟩,by omega,by omega⟩
 have:=h4 p hp
 simp only [T_Path.wz,wzS,reachBytes] at this
 omega
def paS (a b:List T_Path):((Int))→Option ((Int)⊕((Unit)⊕Bool)):=(fun (s13:Int) =>
  cond ((decide (s13<(a.length:Int))))
   ((ixO s13 a.length).bind fun v3 =>
   (getO a v3).bind fun v4 =>
   (ixO s13 b.length).bind fun v5 =>
   (getO b v5).bind fun v6 =>
   (wherrykeep_Path v4 v6).bind fun v7 =>
   cond ((!v7))
    (some (.inr (.inr (false))))
    ((some (IntKind.i64.wrap (s13+1))).bind fun v9 =>
    some (.inl v9)))
   (some (.inr (.inl ()))))
def inS (a b:List Int):((Int))→Option ((Int)⊕((Unit)⊕Bool)):=(fun (s12:Int) =>
  cond ((decide (s12<(a.length:Int))))
   ((ixO s12 a.length).bind fun v3 =>
   (getO a v3).bind fun v4 =>
   (ixO s12 b.length).bind fun v5 =>
   (getO b v5).bind fun v6 =>
   cond ((v4 != v6))
    (some (.inr (.inr (false))))
    ((some (IntKind.i64.wrap (s12+1))).bind fun v8 =>
    some (.inl v8)))
   (some (.inr (.inl ()))))
theorem take_succ {A:Type} (l:List A) (k:Nat) (hk:k<l.length):l.take (k+1)=l.take k++[l[k]]:=by
 rw [List.take_add_one,List.getElem?_eq_getElem hk]; rfl
/-! Numbers that rise: one more put among them. -/
def insS:List Int→Int→List Int
 | [],n=>[n]
 | a::l,n=>if a<n then a::insS l n else n::a::l
theorem insS_mem {x n:Int}:∀ {l:List Int},x∈insS l n↔x=n∨x∈l
 | []=>by simp [insS]
 | a::l=>by
  simp only [insS]
  split
  ·simp only [List.mem_cons,insS_mem (l:=l)]
   constructor
   ·rintro (h | h | h)
    ·exact .inr (.inl h)
    ·exact .inl h
    ·exact .inr (.inr h)
   ·rintro (h | h | h)
    ·exact .inr (.inl h)
    ·exact .inl h
    ·exact .inr (.inr h)
  ·simp only [List.mem_cons]
theorem insS_len {n:Int}:∀ {l:List Int},(insS l n).length=l.length+1
 | []=>rfl
 | a::l=>by
  simp only [insS]
  split
  ·simp only [List.length_cons,insS_len (l:=l)]
  ·simp only [List.length_cons]
def Srt (l:List Int):Prop:=l.Pairwise (· < ·)
theorem insS_srt {n:Int}:∀ {l:List Int},Srt l→n ∉ l→Srt (insS l n)
 | [],_,_=>by simp [insS,Srt]
 | a::l,h,hn=>by
  have h1:∀ x∈l,a<x:=(List.pairwise_cons.1 h).1
  have h2:Srt l:=(List.pairwise_cons.1 h).2
  simp only [insS]
  split
  ·rename_i hlt
   refine List.Pairwise.cons (fun x hx => ?_) (insS_srt h2 (fun hm=>hn (List.mem_cons_of_mem _ hm)))
   rcases insS_mem.1 hx with rfl | hx
   ·exact hlt
   ·exact h1 x hx
  ·rename_i hlt
   have hne:n≠a:=fun e=>hn (by rw [e]; exact List.mem_cons_self)
   refine List.Pairwise.cons (fun x hx => ?_) h
   rcases List.mem_cons.1 hx with rfl | hx
   ·omega
   ·have:=h1 x hx; omega
/-! A spool's items by their Ids. -/
def Ids (s:T_Spool):Prop:=∀ i (h:i<s.Items.length),s.Items[i].Id=(i:Int)+1
def wt (s:T_Spool) (n:Int):Bool:=decide (1≤n∧n≤(s.Items.length:Int))&&((s.Items[(n-1).toNat]?.map (·.State))==some 1)
def idB (s:T_Spool) (ids:List Int) (i:Nat):Bool:=(i==0||decide (ids.getD (i-1) 0<ids.getD i 0))&&wt s (ids.getD i 0)
def idsB (s:T_Spool) (ids:List Int):Bool:=decide (1≤ids.length∧ids.length≤4)&&decide (∀ i,i<ids.length→idB s ids i=true)
def opn (s:T_Spool) (n:Int):Bool:=decide (1≤n∧n≤65535) && !decide (n∈s.Done)
def ckB (s:T_Spool) (r:T_Rec):Bool:=decide (1≤r.Data.length∧r.Data.length≤48)&&(decide (r.Offset=0)||decide (s.Of=r.Number∧r.Offset=(s.Part.length:Int)∧s.Part.length+r.Data.length≤5000))
def f2 (ids:List Int) (n:Int) (x:T_Item):T_Item:=if x.Id∈ids then ⟨x.Id,x.Mail,2,n⟩ else x
def f3 (n:Int) (x:T_Item):T_Item:=if x.Pack=n then ⟨x.Id,x.Mail,3,x.Pack⟩ else x
def f4 (n:Int) (x:T_Item):T_Item:=if x.Id=n then ⟨x.Id,x.Mail,4,x.Pack⟩ else x
def eff (s:T_Spool) (r:T_Rec):T_Spool :=
 if r.Kind=1 then ⟨s.Items++[⟨r.Id,r.Mail,if r.Origin=0 then 3 else 1,0⟩],s.Packs,s.Sent,s.Part,s.Of,s.Done⟩
 else if r.Kind=2 then ⟨s.Items.map (f2 r.Ids r.Number),r.Number,s.Sent,s.Part,s.Of,s.Done⟩
 else if r.Kind=3 then ⟨s.Items.map (f3 r.Number),s.Packs,s.Sent++[r.Number],s.Part,s.Of,s.Done⟩
 else if r.Kind=4 then ⟨s.Items.map (f4 r.Id),s.Packs,s.Sent,s.Part,s.Of,s.Done⟩
 else if r.Kind=5 then ⟨s.Items,s.Packs,s.Sent,if r.Offset=0 then r.Data else s.Part++r.Data,if r.Offset=0 then r.Number else s.Of,s.Done⟩
 else ⟨s.Items,s.Packs,s.Sent,if s.Of=r.Number then [] else s.Part,if s.Of=r.Number then-1 else s.Of,insS s.Done r.Number⟩
def Rok (r:T_Rec):Prop:=LR r∧byt r.Mail.Body
structure Inv (n:Nat) (s:T_Spool):Prop where
 hn:n<1000000
 len:s.Items.length≤n
 ids:Ids s
 lm:∀ x∈s.Items,LM x.Mail
 packs:0≤s.Packs∧s.Packs≤(n:Int)
 sent:s.Sent.length≤n
 part:s.Part.length≤5000
 done:s.Done.length≤n
 srt:Srt s.Done
/-! The page's own judgement. -/
def e8:ByteArray:=⟨#[]⟩
def zM8:T_Mail:=T_Mail.mk (T_Path.mk false e8 e8) [] [] false e8 0
def cleanR (r:T_Rec):T_Rec :=
 if r.Kind=1 then ⟨r.Kind,r.Mail,r.Id,[],r.Origin,0,0,[]⟩
 else if r.Kind=2 then ⟨r.Kind,zM8,0,r.Ids,0,r.Number,0,[]⟩
 else if r.Kind=3 then ⟨r.Kind,zM8,0,[],0,r.Number,0,[]⟩
 else if r.Kind=4 then ⟨r.Kind,zM8,r.Id,[],0,0,0,[]⟩
 else if r.Kind=5 then ⟨r.Kind,zM8,0,[],0,r.Number,r.Offset,r.Data⟩
 else if r.Kind=6 then ⟨r.Kind,zM8,0,[],0,r.Number,0,[]⟩
 else ⟨r.Kind,zM8,0,[],0,0,0,[]⟩
def bodyV (b:List Int):Bool:=(wherryref11_Body b).getD false
def mailV (m:T_Mail):Bool:=patB m.From&&(decide (1≤m.To.length∧m.To.length≤8)&&(bodyV m.Body&&(decide (0≤m.At∧m.At≤1099511627776)&&decide (∀ p∈m.To,patB p=true∧p.Null=false))))
def okR (s:T_Spool) (r:T_Rec):Bool:=decide (cleanR r=r)&&(
 if r.Kind=1 then decide (s.Items.length<60∧r.Id=(s.Items.length:Int)+1∧(r.Origin=0∨r.Origin=1))&&mailV r.Mail
 else if r.Kind=2 then decide (r.Number=s.Packs+1)&&idsB s r.Ids
 else if r.Kind=3 then decide (1≤r.Number∧r.Number≤s.Packs∧r.Number ∉ s.Sent)
 else if r.Kind=4 then wt s r.Id
 else if r.Kind=5 then opn s r.Number&&ckB s r
 else if r.Kind=6 then opn s r.Number
 else false)
def okS (s:T_Spool) (r:T_Rec):Bool:=okR s r
def upd {A:Type} (f:A→A) (k:Nat) (l:List A):List A:=(l.take k).map f++l.drop k
theorem upd_len {A:Type} (f:A→A) (k:Nat) (l:List A):(upd f k l).length=l.length:=by simp [upd]; omega
theorem upd_get {A:Type} (f:A→A) {k:Nat} {l:List A} (h:k<l.length):getO (upd f k l) k=some l[k]:=by
 simp only [getO,upd]
 rw [List.getElem?_append_right (by simp; omega)]
 simp [Nat.min_eq_left (Nat.le_of_lt h),h]
theorem upd_succ {A:Type} (f:A→A) {k:Nat} {l:List A} (h:k<l.length):upd f (k+1) l=(l.take k).map f++f l[k]::l.drop (k+1):=by
 simp only [upd]
 rw [take_succ l k h,List.map_append,List.append_assoc]
 rfl
theorem upd_set {A:Type} (f:A→A) {k:Nat} {l:List A} (h:k<l.length) (x:A) (hx:x=f l[k]):(upd f k l).set k x=upd f (k+1) l:=by
 subst hx
 rw [upd_succ f h]
 simp only [upd]
 rw [List.set_append_right _ _ (by simp; omega)]
 congr 1
 rw [show k-((l.take k).map f).length=0 from by simp; omega,List.drop_eq_getElem_cons h]
 rfl
theorem upd_same {A:Type} (f:A→A) {k:Nat} {l:List A} (h:k<l.length) (hx:f l[k]=l[k]):upd f k l=upd f (k+1) l:=by
 rw [upd_succ f h,hx]
 simp only [upd]
 rw [List.drop_eq_getElem_cons h]
theorem upd_all {A:Type} (f:A→A) (l:List A):upd f l.length l=l.map f:=by simp [upd]
theorem wt_at {s:T_Spool} {n:Int} (h:wt s n=true):∃ (k:Nat) (hk:k<s.Items.length),n=(k:Int)+1∧s.Items[k].State=1:=by
 simp only [wt,Bool.and_eq_true,decide_eq_true_eq] at h
 obtain ⟨⟨h1,h2⟩,h3⟩:=h
 refine ⟨(n-1).toNat,by omega,by omega,?_⟩
 rw [List.getElem?_eq_getElem (by omega)] at h3
 simpa using h3
theorem set4 {s:T_Spool} (hid:Ids s) {k:Nat} (hk:k<s.Items.length):s.Items.set k ⟨s.Items[k].Id,s.Items[k].Mail,4,s.Items[k].Pack⟩=s.Items.map (f4 ((k:Int)+1)):=by
 refine List.ext_getElem (by simp) fun i h1 h2 => ?_
 have hi:i<s.Items.length:=by simpa using h2
 rw [List.getElem_map,List.getElem_set]
 by_cases h:k=i
 ·subst h
  rw [if_pos rfl]
  simp only [f4,if_pos (hid k hk)]
 ·rw [if_neg h]
  have:=hid i hi
  simp only [f4]
  rw [if_neg (by omega)]
theorem okS_ok {s:T_Spool} {r:T_Rec} (h:okS s r=true):(r.Kind=1∧s.Items.length<60∧r.Id=(s.Items.length:Int)+1∧(r.Origin=0∨r.Origin=1))∨(r.Kind=2∧r.Number=s.Packs+1∧idsB s r.Ids=true)∨(r.Kind=3∧1≤r.Number∧r.Number≤s.Packs∧r.Number ∉ s.Sent)∨(r.Kind=4∧wt s r.Id=true)∨(r.Kind=5∧opn s r.Number=true∧ckB s r=true)∨(r.Kind=6∧opn s r.Number=true):=by
 unfold okS okR at h
 rw [Bool.and_eq_true] at h
 replace h:=h.2
 by_cases k1:r.Kind=1
 ·rw [if_pos k1,Bool.and_eq_true] at h; exact .inl ⟨k1,of_decide_eq_true h.1⟩
 rw [if_neg k1] at h
 by_cases k2:r.Kind=2
 ·rw [if_pos k2,Bool.and_eq_true] at h; exact .inr (.inl ⟨k2,of_decide_eq_true h.1,h.2⟩)
 rw [if_neg k2] at h
 by_cases k3:r.Kind=3
 ·rw [if_pos k3] at h; exact .inr (.inr (.inl ⟨k3,of_decide_eq_true h⟩))
 rw [if_neg k3] at h
 by_cases k4:r.Kind=4
 ·rw [if_pos k4] at h; exact .inr (.inr (.inr (.inl ⟨k4,h⟩)))
 rw [if_neg k4] at h
 by_cases k5:r.Kind=5
 ·rw [if_pos k5,Bool.and_eq_true] at h; exact .inr (.inr (.inr (.inr (.inl ⟨k5,h⟩))))
 rw [if_neg k5] at h
 by_cases k6:r.Kind=6
 ·rw [if_pos k6] at h; exact .inr (.inr (.inr (.inr (.inr ⟨k6,h⟩))))
 rw [if_neg k6] at h; cases h
theorem eff1 {s:T_Spool} {r:T_Rec} (h:r.Kind=1):eff s r=⟨s.Items++[⟨r.Id,r.Mail,if r.Origin=0 then 3 else 1,0⟩],s.Packs,s.Sent,s.Part,s.Of,s.Done⟩:=by unfold eff; rw [if_pos h]
theorem eff2 {s:T_Spool} {r:T_Rec} (h:r.Kind=2):eff s r=⟨s.Items.map (f2 r.Ids r.Number),r.Number,s.Sent,s.Part,s.Of,s.Done⟩:=by unfold eff; rw [if_neg (by omega),if_pos h]
theorem eff3 {s:T_Spool} {r:T_Rec} (h:r.Kind=3):eff s r=⟨s.Items.map (f3 r.Number),s.Packs,s.Sent++[r.Number],s.Part,s.Of,s.Done⟩:=by unfold eff; rw [if_neg (by omega),if_neg (by omega),if_pos h]
theorem eff4 {s:T_Spool} {r:T_Rec} (h:r.Kind=4):eff s r=⟨s.Items.map (f4 r.Id),s.Packs,s.Sent,s.Part,s.Of,s.Done⟩:=by unfold eff; rw [if_neg (by omega),if_neg (by omega),if_neg (by omega),if_pos h]
theorem eff5 {s:T_Spool} {r:T_Rec} (h:r.Kind=5):eff s r=⟨s.Items,s.Packs,s.Sent,if r.Offset=0 then r.Data else s.Part++r.Data,if r.Offset=0 then r.Number else s.Of,s.Done⟩:=by unfold eff; rw [if_neg (by omega),if_neg (by omega),if_neg (by omega),if_neg (by omega),if_pos h]
theorem eff6 {s:T_Spool} {r:T_Rec} (h:r.Kind=6):eff s r=⟨s.Items,s.Packs,s.Sent,if s.Of=r.Number then [] else s.Part,if s.Of=r.Number then-1 else s.Of,insS s.Done r.Number⟩:=by unfold eff; rw [if_neg (by omega),if_neg (by omega),if_neg (by omega),if_neg (by omega),if_neg (by omega)]
theorem f2_id (l:List Int) (n:Int) (x:T_Item):(f2 l n x).Id=x.Id∧(f2 l n x).Mail=x.Mail:=by unfold f2; split <;> exact ⟨rfl,rfl⟩
theorem f3_id (n:Int) (x:T_Item):(f3 n x).Id=x.Id∧(f3 n x).Mail=x.Mail:=by unfold f3; split <;> exact ⟨rfl,rfl⟩
theorem f4_id (n:Int) (x:T_Item):(f4 n x).Id=x.Id∧(f4 n x).Mail=x.Mail:=by unfold f4; split <;> exact ⟨rfl,rfl⟩
theorem inv_map {s:T_Spool} (f:T_Item→T_Item) (hf:∀ x,(f x).Id=x.Id∧(f x).Mail=x.Mail) (hi:Ids s) (hm:∀ x∈s.Items,LM x.Mail) {p:Int} {a b d:List Int} {o:Int}:Ids ⟨s.Items.map f,p,a,b,o,d⟩∧∀ x∈s.Items.map f,LM x.Mail:=by
 refine ⟨fun i h => ?_,fun x hx => ?_⟩
 ·have h':i<s.Items.length:=by simpa using h
  show ((s.Items.map f)[i]'h).Id=_
  rw [List.getElem_map,(hf _).1]
  exact hi i h'
 ·obtain ⟨y,hy,rfl⟩:=List.mem_map.1 hx
  rw [(hf y).2]; exact hm y hy
theorem inv_eff {n:Nat} {s:T_Spool} {r:T_Rec} (hn1:n+1<1000000) (hs:Inv n s) (hr:Rok r) (ho:okS s r=true):Inv (n+1) (eff s r):=by
 have hl:=hs.len; have hp:=hs.part; have hse:=hs.sent; have hd:=hs.done; have hpk:=hs.packs
 rcases okS_ok ho with ⟨k,a,b,c⟩ | ⟨k,a,b⟩ | ⟨k,a,b,c⟩ | ⟨k,a⟩ | ⟨k,a,b⟩ | ⟨k,a⟩
 ·rw [eff1 k]
  refine ⟨hn1,by simp; omega,fun i h => ?_,fun x hx => ?_,⟨hpk.1,(by omega:s.Packs≤((n+1:Nat):Int))⟩,Nat.le_succ_of_le hse,hp,Nat.le_succ_of_le hd,hs.srt⟩
  ·have h':i<s.Items.length+1:=by simpa using h
   show ((s.Items++[_])[i]'h).Id=_
   by_cases hi:i<s.Items.length
   ·rw [List.getElem_append_left hi]; exact hs.ids i hi
   ·rw [List.getElem_append_right (by omega)]
    have e:i-s.Items.length=0:=by omega
    simp only [e,List.getElem_cons_zero]
    rw [b]; omega
  ·rcases List.mem_append.1 hx with h | h
   ·exact hs.lm x h
   ·rw [List.mem_singleton.1 h]; exact hr.1.2.2
 ·rw [eff2 k]
  have hm:=inv_map (f2 r.Ids r.Number) (f2_id _ _) hs.ids hs.lm (p:=r.Number) (a:=s.Sent) (b:=s.Part) (o:=s.Of) (d:=s.Done)
  refine ⟨hn1,by simp; omega,hm.1,hm.2,⟨by show 0≤r.Number; omega,by show r.Number≤_; omega⟩,Nat.le_succ_of_le hse,hp,Nat.le_succ_of_le hd,hs.srt⟩
 ·rw [eff3 k]
  have hm:=inv_map (f3 r.Number) (f3_id _) hs.ids hs.lm (p:=s.Packs) (a:=s.Sent++[r.Number]) (b:=s.Part) (o:=s.Of) (d:=s.Done)
  refine ⟨hn1,by simp; omega,hm.1,hm.2,⟨hpk.1,(by omega:s.Packs≤((n+1:Nat):Int))⟩,(by simp; omega),hp,Nat.le_succ_of_le hd,hs.srt⟩
 ·rw [eff4 k]
  have hm:=inv_map (f4 r.Id) (f4_id _) hs.ids hs.lm (p:=s.Packs) (a:=s.Sent) (b:=s.Part) (o:=s.Of) (d:=s.Done)
  refine ⟨hn1,by simp; omega,hm.1,hm.2,⟨hpk.1,(by omega:s.Packs≤((n+1:Nat):Int))⟩,Nat.le_succ_of_le hse,hp,Nat.le_succ_of_le hd,hs.srt⟩
 ·rw [eff5 k]
  refine ⟨hn1,Nat.le_succ_of_le hl,hs.ids,hs.lm,⟨hpk.1,(by omega:s.Packs≤((n+1:Nat):Int))⟩,Nat.le_succ_of_le hse,?_,Nat.le_succ_of_le hd,hs.srt⟩
  simp only [ckB,Bool.and_eq_true,Bool.or_eq_true,decide_eq_true_eq] at b
  show (if r.Offset=0 then r.Data else s.Part++r.Data).length≤5000
  split
  ·omega
  ·rw [List.length_append]; omega
 ·rw [eff6 k]
  have hnd:r.Number ∉ s.Done:=by
   simp only [opn,Bool.and_eq_true,Bool.not_eq_true',decide_eq_false_iff_not] at a
   exact a.2
  refine ⟨hn1,Nat.le_succ_of_le hl,hs.ids,hs.lm,⟨hpk.1,(by omega:s.Packs≤((n+1:Nat):Int))⟩,Nat.le_succ_of_le hse,?_,by show (insS s.Done r.Number).length≤_; rw [insS_len]; omega,insS_srt hs.srt hnd⟩
  show (if s.Of=r.Number then [] else s.Part).length≤5000
  split
  ·simp
  ·exact hp
theorem inv_new:Inv 0 ⟨[],0,[],[],-1,[]⟩:=⟨by omega,by simp,fun i h=>absurd h (by simp),by simp,⟨by simp,by simp⟩,by simp,by simp,by simp,List.Pairwise.nil⟩
def noSp:T_Spool:=⟨[],0,[],[],0,[]⟩
def foldS:T_Spool→List T_Rec→T_Spool×Nat
 | s,[]=>(s,0)
 | s,r::l=>if okS s r=true then ((foldS (eff s r) l).1,(foldS (eff s r) l).2+1) else (s,0)
def newSp:T_Spool:=⟨[],0,[],[],-1,[]⟩
theorem foldS_inv:∀ (l:List T_Rec) (s:T_Spool) (i:Nat),i+l.length<1000000→(∀ r∈l,Rok r)→Inv i s→Inv (i+(foldS s l).2) (foldS s l).1
 | [],s,i,_,_,hs=>hs
 | r::l,s,i,hl,hr,hs=>by
  simp only [foldS]
  simp only [List.length_cons] at hl
  split
  ·rename_i ho
   have:=foldS_inv l (eff s r) (i+1) (by omega) (fun x hx=>hr x (List.mem_cons_of_mem _ hx)) (inv_eff (by omega) hs (hr r List.mem_cons_self) ho)
   simpa [Nat.add_assoc,Nat.add_comm 1] using this
  ·exact hs
def Stt (x:T_Item):Prop:=(x.State=1→x.Pack=0)∧(x.Pack≠0→x.State=2∨x.State=3)
def way (a b:Int):Prop:=a=b∨(a=1∧(b=2∨b=4))∨(a=2∧b=3)
structure Goes (a b:T_Item):Prop where
 id:a.Id=b.Id
 mail:a.Mail=b.Mail
 way:way a.State b.State
 pack:a.Pack≠0→a.Pack=b.Pack
theorem goes_refl (a:T_Item):Goes a a:=⟨rfl,rfl,.inl rfl,fun _=>rfl⟩
structure Next (s t:T_Spool):Prop where
 len:s.Items.length≤t.Items.length
 len1:t.Items.length≤s.Items.length+1
 packs:s.Packs≤t.Packs
 done:s.Done.length≤t.Done.length
 sent:s.Sent.length≤t.Sent.length
 goes:∀ k (h:k<s.Items.length) (h':k<t.Items.length),Goes s.Items[k] t.Items[k]
 new:∀ h:s.Items.length<t.Items.length,t.Items[s.Items.length].State=1∨t.Items[s.Items.length].State=3
 stt:∀ x∈t.Items,Stt x
theorem ids_wt {s:T_Spool} {ids:List Int} (h:idsB s ids=true):∀ n∈ids,wt s n=true:=by
 intro n hn
 obtain ⟨i,hi,rfl⟩:=List.getElem_of_mem hn
 simp only [idsB,Bool.and_eq_true,decide_eq_true_eq] at h
 have h2:=h.2 i hi
 simp only [idB,Bool.and_eq_true] at h2
 have e:ids.getD i 0=ids[i]:=by simp [List.getD,hi]
 rw [e] at h2
 exact h2.2
theorem wt_item {s:T_Spool} (hid:Ids s) {k:Nat} (hk:k<s.Items.length) (h:wt s s.Items[k].Id=true):s.Items[k].State=1:=by
 obtain ⟨j,hj,he,hs⟩:=wt_at h
 rw [hid k hk] at he
 obtain rfl:j=k:=by omega
 exact hs
theorem next_map {s:T_Spool} (f:T_Item→T_Item) (hs:∀ x∈s.Items,Stt x) (hg:∀ k (h:k<s.Items.length),Goes s.Items[k] (f s.Items[k])∧Stt (f s.Items[k])) {p:Int} {a b d:List Int} {o:Int} (hp:s.Packs≤p) (ha:s.Sent.length≤a.length) (hd:s.Done.length≤d.length):Next s ⟨s.Items.map f,p,a,b,o,d⟩:=by
 refine ⟨by simp,by simp,hp,hd,ha,fun k h h' => ?_,fun h=>absurd h (by simp),fun x hx => ?_⟩
 ·show Goes s.Items[k] ((s.Items.map f)[k]'h')
  rw [List.getElem_map]; exact (hg k h).1
 ·obtain ⟨y,hy,rfl⟩:=List.mem_map.1 hx
  obtain ⟨k,hk,rfl⟩:=List.getElem_of_mem hy
  exact (hg k hk).2
theorem next_same {s:T_Spool} (hs:∀ x∈s.Items,Stt x) {p:Int} {a b d:List Int} {o:Int} (hp:s.Packs≤p) (ha:s.Sent.length≤a.length) (hd:s.Done.length≤d.length):Next s ⟨s.Items,p,a,b,o,d⟩ :=
 ⟨Nat.le_refl _,by simp,hp,hd,ha,fun k h h'=>goes_refl _,fun h=>absurd h (by simp),hs⟩
theorem next_eff {n:Nat} {s:T_Spool} {r:T_Rec} (hi:Inv n s) (hs:∀ x∈s.Items,Stt x) (ho:okS s r=true):Next s (eff s r):=by
 have hpk:=hi.packs
 rcases okS_ok ho with ⟨k,a,b,c⟩ | ⟨k,a,b⟩ | ⟨k,a,b,c⟩ | ⟨k,a⟩ | ⟨k,a,b⟩ | ⟨k,a⟩
 ·rw [eff1 k]
  refine ⟨by simp,by simp,Int.le_refl _,Nat.le_refl _,Nat.le_refl _,fun k h h' => ?_,fun h => ?_,fun x hx => ?_⟩
  ·show Goes s.Items[k] ((s.Items++[_])[k]'h')
   rw [List.getElem_append_left h]; exact goes_refl _
  ·show ((s.Items++[_])[s.Items.length]'h).State=1∨((s.Items++[_])[s.Items.length]'h).State=3
   rw [List.getElem_append_right (by omega)]
   simp only [Nat.sub_self,List.getElem_cons_zero]
   split
   ·exact .inr rfl
   ·exact .inl rfl
  ·rcases List.mem_append.1 hx with h | h
   ·exact hs x h
   ·rw [List.mem_singleton.1 h]
    exact ⟨fun _=>rfl,fun h=>absurd rfl h⟩
 ·rw [eff2 k]
  refine next_map _ hs (fun j hj => ?_) (by omega) (Nat.le_refl _) (Nat.le_refl _)
  by_cases hm:s.Items[j].Id∈r.Ids
  ·have h1:=wt_item hi.ids hj (ids_wt b _ hm)
   have h0:=(hs _ (List.getElem_mem hj)).1 h1
   simp only [f2,if_pos hm]
   exact ⟨⟨rfl,rfl,.inr (.inl ⟨h1,.inl rfl⟩),fun h=>absurd h0 h⟩,⟨fun h=>absurd h (by show (2:Int)≠1; omega),fun _ => .inl rfl⟩⟩
  ·simp only [f2,if_neg hm]
   exact ⟨goes_refl _,hs _ (List.getElem_mem hj)⟩
 ·rw [eff3 k]
  refine next_map _ hs (fun j hj => ?_) (Int.le_refl _) (by simp) (Nat.le_refl _)
  by_cases hm:s.Items[j].Pack=r.Number
  ·have h1:=(hs _ (List.getElem_mem hj)).2 (by omega)
   simp only [f3,if_pos hm]
   exact ⟨⟨rfl,rfl,h1.elim (fun h => .inr (.inr ⟨h,rfl⟩)) (fun h => .inl h),fun h=>rfl⟩,⟨fun h=>absurd h (by show (3:Int)≠1; omega),fun _ => .inr rfl⟩⟩
  ·simp only [f3,if_neg hm]
   exact ⟨goes_refl _,hs _ (List.getElem_mem hj)⟩
 ·rw [eff4 k]
  refine next_map _ hs (fun j hj => ?_) (Int.le_refl _) (Nat.le_refl _) (Nat.le_refl _)
  by_cases hm:s.Items[j].Id=r.Id
  ·have h1:=wt_item hi.ids hj (by rw [hm]; exact a)
   have h0:=(hs _ (List.getElem_mem hj)).1 h1
   simp only [f4,if_pos hm]
   exact ⟨⟨rfl,rfl,.inr (.inl ⟨h1,.inr rfl⟩),fun h=>rfl⟩,⟨fun h=>absurd h (by show (4:Int)≠1; omega),fun h=>absurd h0 h⟩⟩
  ·simp only [f4,if_neg hm]
   exact ⟨goes_refl _,hs _ (List.getElem_mem hj)⟩
 ·rw [eff5 k]
  exact next_same hs (Int.le_refl _) (Nat.le_refl _) (Nat.le_refl _)
 ·rw [eff6 k]
  exact next_same hs (Int.le_refl _) (Nat.le_refl _) (by rw [insS_len]; omega)
theorem rok_of {r:T_Rec} (h:T_Rec.wz r) (hl:LR r):Rok r:=by
 refine ⟨hl,fun x hx => ?_⟩
 obtain ⟨_,⟨_,_,⟨_,h4⟩,_⟩,_⟩:=h
 have:=h4 x hx
 simp only [wfI,Lit.wf,IntKind.min,IntKind.max,IntKind.signed,IntKind.bits] at this
 have h2:0≤x∧x≤255:=by simpa using this
 omega
theorem heavy_rok (l:List T_Rec) (hw:wzL 208 T_Rec.wz l):∃ b,wherrylaw18_Heavy l=some b∧(b=false→l.length≤60∧∀ r∈l,Rok r):=by
 have hl:=hw.1
 simp only [reachBytes] at hl
 obtain ⟨b,h,hb⟩:=heavy18 l (fun r hr=>re_of (hw.2 r hr)) (by omega)
 exact ⟨b,h,fun e=>⟨(hb e).1,fun r hr=>rok_of (hw.2 r hr) ((hb e).2 r hr)⟩⟩
theorem twin_mail {m:T_Mail} (h:LM m):wherrykeep_TwinMail m=some m:=by
 obtain ⟨h1,h2⟩:=h
 simp only [mW] at h2
 simp only [wherrykeep_TwinMail,wherrykeep_TwinPaths,wherrykeep_Twin]
 rw [app_nil (by omega) (by omega),app_nil (by omega) (by omega)]; rfl
/-! What is kept apart,told as an equation. -/
theorem keepPaths_eq (a b:List T_Path) (hl:a.length<4294967296):wherrykeep_Paths a b=some (decide (a=b)):=by
 unfold wherrykeep_Paths
 by_cases hlen:a.length=b.length
 ·refine cnd_f (by simp [hlen]) ?_
  have h:=loop_all (R:=Bool) (f:=paS a b) (fun i=>decide (a[i]? = b[i]?)) a.length false (fuel:=BIG) (by simp only [BIG]; omega) (fun i hi hp => ?_) (fun i hi hp => ?_) (cnd_f (decide_eq_false (by omega)) rfl)
  ·by_cases he:a=b
   ·rw [decide_eq_true he]
    rw [if_pos (fun i _=>by rw [he]; simp)] at h
    exact bndL h rfl
   ·rw [decide_eq_false he]
    rw [if_neg (fun hh=>he (List.ext_getElem? fun i=>by
     by_cases hi:i<a.length
     ·exact of_decide_eq_true (hh i hi)
     ·rw [List.getElem?_eq_none (by omega),List.getElem?_eq_none (by omega)]))] at h
    exact bndR h rfl
  ·have hb:i<b.length:=by omega
   have e:=of_decide_eq_true hp
   rw [List.getElem?_eq_getElem hi,List.getElem?_eq_getElem hb] at e
   exact cnd_t (decide_eq_true (by omega)) (bnd (ixO_of hi) (bnd (by simp [getO,hi]:getO a i=some a[i]) (bnd (ixO_of hb) (bnd (by simp [getO,hb]:getO b i=some b[i]) (bnd (keepPath _ _) (cnd_f (by rw [decide_eq_true (Option.some.inj e)]; rfl) (bnd (congrArg some (wrap_succ (n:=i) (by omega))) rfl)))))))
  ·have hb:i<b.length:=by omega
   have e:=of_decide_eq_false hp
   rw [List.getElem?_eq_getElem hi,List.getElem?_eq_getElem hb] at e
   exact cnd_t (decide_eq_true (by omega)) (bnd (ixO_of hi) (bnd (by simp [getO,hi]:getO a i=some a[i]) (bnd (ixO_of hb) (bnd (by simp [getO,hb]:getO b i=some b[i]) (bnd (keepPath _ _) (cnd_t (by rw [decide_eq_false (fun h=>e (congrArg some h))]; rfl) rfl))))))
 ·rw [decide_eq_false (fun h=>hlen (by rw [h]))]
  exact cnd_t (by simp only [bne_iff_ne,ne_eq]; omega) rfl
theorem keepInts_eq (a b:List Int) (hl:a.length<4294967296):wherrykeep_Ints a b=some (decide (a=b)):=by
 unfold wherrykeep_Ints
 by_cases hlen:a.length=b.length
 ·refine cnd_f (by simp [hlen]) ?_
  have h:=loop_all (R:=Bool) (f:=inS a b) (fun i=>decide (a[i]? = b[i]?)) a.length false (fuel:=BIG) (by simp only [BIG]; omega) (fun i hi hp => ?_) (fun i hi hp => ?_) (cnd_f (decide_eq_false (by omega)) rfl)
  ·by_cases he:a=b
   ·rw [decide_eq_true he]
    rw [if_pos (fun i _=>by rw [he]; simp)] at h
    exact bndL h rfl
   ·rw [decide_eq_false he]
    rw [if_neg (fun hh=>he (List.ext_getElem? fun i=>by
     by_cases hi:i<a.length
     ·exact of_decide_eq_true (hh i hi)
     ·rw [List.getElem?_eq_none (by omega),List.getElem?_eq_none (by omega)]))] at h
    exact bndR h rfl
  ·have hb:i<b.length:=by omega
   have e:=of_decide_eq_true hp
   rw [List.getElem?_eq_getElem hi,List.getElem?_eq_getElem hb] at e
   exact cnd_t (decide_eq_true (by omega)) (bnd (ixO_of hi) (bnd (by simp [getO,hi]:getO a i=some a[i]) (bnd (ixO_of hb) (bnd (by simp [getO,hb]:getO b i=some b[i]) (cnd_f (by rw [Option.some.inj e]; simp) (bnd (congrArg some (wrap_succ (n:=i) (by omega))) rfl))))))
  ·have hb:i<b.length:=by omega
   have e:=of_decide_eq_false hp
   rw [List.getElem?_eq_getElem hi,List.getElem?_eq_getElem hb] at e
   exact cnd_t (decide_eq_true (by omega)) (bnd (ixO_of hi) (bnd (by simp [getO,hi]:getO a i=some a[i]) (bnd (ixO_of hb) (bnd (by simp [getO,hb]:getO b i=some b[i]) (cnd_t (by simpa using fun h=>e (congrArg some h)) rfl)))))
 ·rw [decide_eq_false (fun h=>hlen (by rw [h]))]
  exact cnd_t (by simp only [bne_iff_ne,ne_eq]; omega) rfl
theorem keepMail_eq (a b:T_Mail) (h1:a.To.length<4294967296) (h2:a.Body.length<4294967296):wherrykeep_Mail a b=some (decide (a=b)):=by
 unfold wherrykeep_Mail
 obtain ⟨af,at_,ab,aq,ah,aa⟩:=a
 obtain ⟨bf,bt,bb,bq,bh,ba⟩:=b
 by_cases e1:af=bf
 ·by_cases e2:at_=bt
  ·by_cases e3:ab=bb
   ·by_cases e4:aq=bq
    ·by_cases e5:ah=bh
     ·by_cases e6:aa=ba
      ·subst e1; subst e2; subst e3; subst e4; subst e5; subst e6
       rw [decide_eq_true rfl]
       exact bndL (s:=true) (bnd (keepPath _ _) (cnd_t (decide_eq_true rfl) (bnd (keepPaths_eq _ _ h1) (cnd_t (decide_eq_true rfl) (bnd (keepBytes_eq _ _ h2) (cnd_t (decide_eq_true rfl) (bnd rfl (cnd_t (beq_self_eq_true _) (cnd_t (by rw [toList_beq]; exact decide_eq_true rfl) (inl_of (beq_self_eq_true _))))))))))) rfl
      ·rw [decide_eq_false (fun h=>e6 (by injection h))]
       exact bndL (s:=false) (bnd (keepPath _ _) (cnd_t (decide_eq_true e1) (bnd (keepPaths_eq _ _ h1) (cnd_t (decide_eq_true e2) (bnd (keepBytes_eq _ _ h2) (cnd_t (decide_eq_true e3) (bnd rfl (cnd_t (beq_iff_eq.2 e4) (cnd_t (by rw [toList_beq]; exact decide_eq_true e5) (inl_of (beq_eq_false_iff_ne.2 e6)))))))))))  rfl
     ·rw [decide_eq_false (fun h=>e5 (by injection h))]
      exact bndL (s:=false) (bnd (keepPath _ _) (cnd_t (decide_eq_true e1) (bnd (keepPaths_eq _ _ h1) (cnd_t (decide_eq_true e2) (bnd (keepBytes_eq _ _ h2) (cnd_t (decide_eq_true e3) (bnd rfl (cnd_t (beq_iff_eq.2 e4) (cnd_f (by rw [toList_beq]; exact decide_eq_false e5) rfl))))))))) rfl
    ·rw [decide_eq_false (fun h=>e4 (by injection h))]
     exact bndL (s:=false) (bnd (keepPath _ _) (cnd_t (decide_eq_true e1) (bnd (keepPaths_eq _ _ h1) (cnd_t (decide_eq_true e2) (bnd (keepBytes_eq _ _ h2) (cnd_t (decide_eq_true e3) (bnd rfl (cnd_f (beq_eq_false_iff_ne.2 e4) rfl)))))))) rfl
   ·rw [decide_eq_false (fun h=>e3 (by injection h))]
    exact bndL (s:=false) (bnd (keepPath _ _) (cnd_t (decide_eq_true e1) (bnd (keepPaths_eq _ _ h1) (cnd_t (decide_eq_true e2) (bnd (keepBytes_eq _ _ h2) (cnd_f (decide_eq_false e3) rfl)))))) rfl
  ·rw [decide_eq_false (fun h=>e2 (by injection h))]
   exact bndL (s:=false) (bnd (keepPath _ _) (cnd_t (decide_eq_true e1) (bnd (keepPaths_eq _ _ h1) (cnd_f (decide_eq_false e2) rfl)))) rfl
 ·rw [decide_eq_false (fun h=>e1 (by injection h))]
  exact bndL (s:=false) (bnd (keepPath _ _) (cnd_f (decide_eq_false e1) rfl)) rfl
theorem keepRec_eq (a b:T_Rec) (h1:a.Mail.To.length<4294967296) (h2:a.Mail.Body.length<4294967296) (h3:a.Ids.length<4294967296) (h4:a.Data.length<4294967296):wherrykeep_Rec a b=some (decide (a=b)):=by
 unfold wherrykeep_Rec
 obtain ⟨a1,a2,a3,a4,a5,a6,a7,a8⟩:=a
 obtain ⟨b1,b2,b3,b4,b5,b6,b7,b8⟩:=b
 by_cases e1:a1=b1
 ·by_cases e2:a2=b2
  ·by_cases e3:a3=b3
   ·by_cases e4:a4=b4
    ·by_cases e5:a5=b5
     ·by_cases e6:a6=b6
      ·by_cases e7:a7=b7
       ·refine bndL (s:=decide ((⟨a1,a2,a3,a4,a5,a6,a7,a8⟩:T_Rec)=⟨b1,b2,b3,b4,b5,b6,b7,b8⟩)) (cnd_t (beq_iff_eq.2 e1) (bnd (keepMail_eq _ _ h1 h2) (cnd_t (decide_eq_true e2) (cnd_t (beq_iff_eq.2 e3) (bnd (keepInts_eq _ _ h3) (cnd_t (decide_eq_true e4) (cnd_t (beq_iff_eq.2 e5) (cnd_t (beq_iff_eq.2 e6) (cnd_t (beq_iff_eq.2 e7) (bnd (keepBytes_eq _ _ h4) (inl_of ?_))))))))))) rfl
        by_cases e8:a8=b8
        ·rw [decide_eq_true e8,decide_eq_true (by rw [e1,e2,e3,e4,e5,e6,e7,e8])]
        ·rw [decide_eq_false e8,decide_eq_false (fun h=>e8 (by injection h))]
       ·rw [decide_eq_false (fun h=>e7 (by injection h))]
        exact bndL (s:=false) (cnd_t (beq_iff_eq.2 e1) (bnd (keepMail_eq _ _ h1 h2) (cnd_t (decide_eq_true e2) (cnd_t (beq_iff_eq.2 e3) (bnd (keepInts_eq _ _ h3) (cnd_t (decide_eq_true e4) (cnd_t (beq_iff_eq.2 e5) (cnd_t (beq_iff_eq.2 e6) (cnd_f (beq_eq_false_iff_ne.2 e7) rfl))))))))) rfl
      ·rw [decide_eq_false (fun h=>e6 (by injection h))]
       exact bndL (s:=false) (cnd_t (beq_iff_eq.2 e1) (bnd (keepMail_eq _ _ h1 h2) (cnd_t (decide_eq_true e2) (cnd_t (beq_iff_eq.2 e3) (bnd (keepInts_eq _ _ h3) (cnd_t (decide_eq_true e4) (cnd_t (beq_iff_eq.2 e5) (cnd_f (beq_eq_false_iff_ne.2 e6) rfl)))))))) rfl
     ·rw [decide_eq_false (fun h=>e5 (by injection h))]
      exact bndL (s:=false) (cnd_t (beq_iff_eq.2 e1) (bnd (keepMail_eq _ _ h1 h2) (cnd_t (decide_eq_true e2) (cnd_t (beq_iff_eq.2 e3) (bnd (keepInts_eq _ _ h3) (cnd_t (decide_eq_true e4) (cnd_f (beq_eq_false_iff_ne.2 e5) rfl))))))) rfl
    ·rw [decide_eq_false (fun h=>e4 (by injection h))]
     exact bndL (s:=false) (cnd_t (beq_iff_eq.2 e1) (bnd (keepMail_eq _ _ h1 h2) (cnd_t (decide_eq_true e2) (cnd_t (beq_iff_eq.2 e3) (bnd (keepInts_eq _ _ h3) (cnd_f (decide_eq_false e4) rfl)))))) rfl
   ·rw [decide_eq_false (fun h=>e3 (by injection h))]
    exact bndL (s:=false) (cnd_t (beq_iff_eq.2 e1) (bnd (keepMail_eq _ _ h1 h2) (cnd_t (decide_eq_true e2) (cnd_f (beq_eq_false_iff_ne.2 e3) rfl)))) rfl
  ·rw [decide_eq_false (fun h=>e2 (by injection h))]
   exact bndL (s:=false) (cnd_t (beq_iff_eq.2 e1) (bnd (keepMail_eq _ _ h1 h2) (cnd_f (decide_eq_false e2) rfl))) rfl
 ·rw [decide_eq_false (fun h=>e1 (by injection h))]
  exact bndL (s:=false) (cnd_f (beq_eq_false_iff_ne.2 e1) rfl) rfl
def rmS (m:T_Mail):((Int))→Option ((Int)⊕((Unit)⊕Bool)):=(fun (s29:Int) =>
    cond ((decide (s29<(m.To.length:Int))))
     (bindS (S:=Bool) (A:=((Int)⊕((Unit)⊕Bool)))
      ((ixO s29 m.To.length).bind fun v11 =>
      (getO m.To v11).bind fun v12 =>
      (wherryref11_Path v12).bind fun v13 =>
      cond ((!v13))
       (some (.inl true))
       ((ixO s29 m.To.length).bind fun v14 =>
       (getO m.To v14).bind fun v15 =>
       some (.inl v15.Null)))
      (fun (s43:Bool) =>
       cond (s43)
        (some (.inr (.inr (false))))
        ((some (IntKind.i64.wrap (s29+1))).bind fun v21 =>
        some (.inl v21))) some)
     (some (.inr (.inl ()))))
def rhS (l:List Int) (n:Int):((Int))→Option ((Int)⊕((Unit)⊕Bool)):=(fun (s9:Int) =>
 cond ((decide (s9<(l.length:Int))))
  ((ixO s9 l.length).bind fun v2 =>
  (getO l v2).bind fun v3 =>
  cond ((v3==n))
   (some (.inr (.inr (true))))
   ((some (IntKind.i64.wrap (s9+1))).bind fun v5 =>
   some (.inl v5)))
  (some (.inr (.inl ()))))
def tsS (s:T_Spool):(((List T_Item)×Int))→Option (((List T_Item)×Int)⊕(((List T_Item))⊕T_Spool)):=(fun ((s13,s14):(List T_Item)×Int) =>
 cond ((decide (s14<(s.Items.length:Int))))
  ((ixO s14 s.Items.length).bind fun v5 =>
  (getO s.Items v5).bind fun v6 =>
  (wherrykeep_TwinMail ((T_Mail.mk (T_Path.mk v6.Mail.From.Null v6.Mail.From.Local v6.Mail.From.Domain) v6.Mail.To v6.Mail.Body v6.Mail.Quiet v6.Mail.Helo v6.Mail.At))).bind fun v7 =>
  (appO 144 s13 [(T_Item.mk v6.Id ((T_Mail.mk (T_Path.mk v7.From.Null v7.From.Local v7.From.Domain) v7.To v7.Body v7.Quiet v7.Helo v7.At)) v6.State v6.Pack)]).bind fun v8 =>
  (some (IntKind.i64.wrap (s14+1))).bind fun v9 =>
  some (.inl (v8,v9)))
  (some (.inr (.inl s13))))
def ra2 (s v1:T_Spool) (p_r:T_Rec):(((List T_Item)×Bool×Int))→Option (((List T_Item)×Bool×Int)⊕(((List T_Item)×Bool)⊕(((List T_Item)×Int×(List Int)×(List Int)×Int×(List Int)×Bool×ByteArray×ByteArray×(List T_Path)×(List Int)×Bool×ByteArray×Int×Int×(List Int)×Int×Int×Int×(List Int)×Bool)⊕(((List T_Item)×Int×(List Int)×(List Int)×Int×(List Int)×Bool×ByteArray×ByteArray×(List T_Path)×(List Int)×Bool×ByteArray×Int×Int×(List Int)×Int×Int×Int×(List Int)×Bool)⊕(T_Spool×Int))))):=(fun ((s1094,s1095,s1096):(List T_Item)×Bool×Int) =>
       bindS (S:=Bool) (A:=(((List T_Item)×Bool×Int)⊕(((List T_Item)×Bool)⊕(((List T_Item)×Int×(List Int)×(List Int)×Int×(List Int)×Bool×ByteArray×ByteArray×(List T_Path)×(List Int)×Bool×ByteArray×Int×Int×(List Int)×Int×Int×Int×(List Int)×Bool)⊕(((List T_Item)×Int×(List Int)×(List Int)×Int×(List Int)×Bool×ByteArray×ByteArray×(List T_Path)×(List Int)×Bool×ByteArray×Int×Int×(List Int)×Int×Int×Int×(List Int)×Bool)⊕(T_Spool×Int))))))
        (cond ((decide (s1096<(p_r.Ids.length:Int))))
         (some (.inl s1095))
         (some (.inl false)))
        (fun (s1125:Bool) =>
         cond (s1125)
          (bindS (S:=(List T_Item)×Bool) (A:=(((List T_Item)×Bool×Int)⊕(((List T_Item)×Bool)⊕(((List T_Item)×Int×(List Int)×(List Int)×Int×(List Int)×Bool×ByteArray×ByteArray×(List T_Path)×(List Int)×Bool×ByteArray×Int×Int×(List Int)×Int×Int×Int×(List Int)×Bool)⊕(((List T_Item)×Int×(List Int)×(List Int)×Int×(List Int)×Bool×ByteArray×ByteArray×(List T_Path)×(List Int)×Bool×ByteArray×Int×Int×(List Int)×Int×Int×Int×(List Int)×Bool)⊕(T_Spool×Int))))))
           (bindS (S:=Bool) (A:=(((List T_Item)×Bool)⊕(((List T_Item)×Bool×Int)⊕(((List T_Item)×Bool)⊕(((List T_Item)×Int×(List Int)×(List Int)×Int×(List Int)×Bool×ByteArray×ByteArray×(List T_Path)×(List Int)×Bool×ByteArray×Int×Int×(List Int)×Int×Int×Int×(List Int)×Bool)⊕(((List T_Item)×Int×(List Int)×(List Int)×Int×(List Int)×Bool×ByteArray×ByteArray×(List T_Path)×(List Int)×Bool×ByteArray×Int×Int×(List Int)×Int×Int×Int×(List Int)×Bool)⊕(T_Spool×Int)))))))
            ((ixO s1096 p_r.Ids.length).bind fun v30 =>
            (getO p_r.Ids v30).bind fun v31 =>
            (wherryref18_in v31 1 (s.Items.length:Int)).bind fun v32 =>
            cond (v32)
             ((ixO s1096 p_r.Ids.length).bind fun v33 =>
             (getO p_r.Ids v33).bind fun v34 =>
             (some (IntKind.i64.wrap (v34-1))).bind fun v35 =>
             (ixO v35 s.Items.length).bind fun v36 =>
             (getO s.Items v36).bind fun v37 =>
             cond ((v37.State==1))
              (cond ((s1096==0))
               (some (.inl true))
               ((ixO s1096 p_r.Ids.length).bind fun v38 =>
               (getO p_r.Ids v38).bind fun v39 =>
               (some (IntKind.i64.wrap (s1096-1))).bind fun v40 =>
               (ixO v40 p_r.Ids.length).bind fun v41 =>
               (getO p_r.Ids v41).bind fun v42 =>
               some (.inl ((decide (v42<v39))))))
              (some (.inl false)))
             (some (.inl false)))
            (fun (s1140:Bool) =>
             cond (s1140)
              ((ixO s1096 p_r.Ids.length).bind fun v48 =>
              (getO p_r.Ids v48).bind fun v49 =>
              (some (IntKind.i64.wrap (v49-1))).bind fun v50 =>
              (ixO s1096 p_r.Ids.length).bind fun v51 =>
              (getO p_r.Ids v51).bind fun v52 =>
              (some (IntKind.i64.wrap (v52-1))).bind fun v53 =>
              (ixO v50 s1094.length).bind fun v54 =>
              (getO s1094 v54).bind fun v55 =>
              (some (s1094.set v54 ((T_Item.mk v55.Id ((T_Mail.mk (T_Path.mk v55.Mail.From.Null v55.Mail.From.Local v55.Mail.From.Domain) v55.Mail.To v55.Mail.Body v55.Mail.Quiet v55.Mail.Helo v55.Mail.At)) 2 v55.Pack)))).bind fun v56 =>
              (ixO v53 (s1094).length).bind fun v57 =>
              (getO v56 v57).bind fun v58 =>
              (some (v56.set v57 ((T_Item.mk v58.Id ((T_Mail.mk (T_Path.mk v58.Mail.From.Null v58.Mail.From.Local v58.Mail.From.Domain) v58.Mail.To v58.Mail.Body v58.Mail.Quiet v58.Mail.Helo v58.Mail.At)) v58.State p_r.Number)))).bind fun v59 =>
              some (.inl (v59,s1140)))
              (some (.inl (s1094,s1140)))) some)
           (fun ((s1135,s1136):(List T_Item)×Bool) =>
            (some (IntKind.i64.wrap (s1096+1))).bind fun v70 =>
            some (.inl (s1135,s1136,v70))) some)
          (some (.inr (.inl (s1094,s1095))))) some)
def ra3 (s v1:T_Spool) (p_r:T_Rec):(((List T_Item)×Int))→Option (((List T_Item)×Int)⊕(((List T_Item))⊕(((List T_Item)×Int×(List Int)×(List Int)×Int×(List Int)×Bool×ByteArray×ByteArray×(List T_Path)×(List Int)×Bool×ByteArray×Int×Int×(List Int)×Int×Int×Int×(List Int)×Bool)⊕(((List T_Item)×Int×(List Int)×(List Int)×Int×(List Int)×Bool×ByteArray×ByteArray×(List T_Path)×(List Int)×Bool×ByteArray×Int×Int×(List Int)×Int×Int×Int×(List Int)×Bool)⊕(T_Spool×Int))))):=(fun ((s1182,s1183):(List T_Item)×Int) =>
        cond ((decide (s1183<(s1182.length:Int))))
         (bindS (S:=(List T_Item)) (A:=(((List T_Item)×Int)⊕(((List T_Item))⊕(((List T_Item)×Int×(List Int)×(List Int)×Int×(List Int)×Bool×ByteArray×ByteArray×(List T_Path)×(List Int)×Bool×ByteArray×Int×Int×(List Int)×Int×Int×Int×(List Int)×Bool)⊕(((List T_Item)×Int×(List Int)×(List Int)×Int×(List Int)×Bool×ByteArray×ByteArray×(List T_Path)×(List Int)×Bool×ByteArray×Int×Int×(List Int)×Int×Int×Int×(List Int)×Bool)⊕(T_Spool×Int))))))
          (bindS (S:=Bool) (A:=(((List T_Item))⊕(((List T_Item)×Int)⊕(((List T_Item))⊕(((List T_Item)×Int×(List Int)×(List Int)×Int×(List Int)×Bool×ByteArray×ByteArray×(List T_Path)×(List Int)×Bool×ByteArray×Int×Int×(List Int)×Int×Int×Int×(List Int)×Bool)⊕(((List T_Item)×Int×(List Int)×(List Int)×Int×(List Int)×Bool×ByteArray×ByteArray×(List T_Path)×(List Int)×Bool×ByteArray×Int×Int×(List Int)×Int×Int×Int×(List Int)×Bool)⊕(T_Spool×Int)))))))
           ((ixO s1183 s1182.length).bind fun v153 =>
           (getO s1182 v153).bind fun v154 =>
           cond ((v154.Pack==p_r.Number))
            ((ixO s1183 s1182.length).bind fun v155 =>
            (getO s1182 v155).bind fun v156 =>
            some (.inl (v156.State==2)))
            (some (.inl false)))
           (fun (s1216:Bool) =>
            cond (s1216)
             ((ixO s1183 s1182.length).bind fun v162 =>
             (getO s1182 v162).bind fun v163 =>
             (some (s1182.set v162 ((T_Item.mk v163.Id ((T_Mail.mk (T_Path.mk v163.Mail.From.Null v163.Mail.From.Local v163.Mail.From.Domain) v163.Mail.To v163.Mail.Body v163.Mail.Quiet v163.Mail.Helo v163.Mail.At)) 3 v163.Pack)))).bind fun v164 =>
             some (.inl v164))
             (some (.inl s1182))) some)
          (fun (s1212:(List T_Item)) =>
           (some (IntKind.i64.wrap (s1183+1))).bind fun v174 =>
           some (.inl (s1212,v174))) some)
         (some (.inr (.inl s1182))))
def ra6 (s v1:T_Spool) (p_r:T_Rec):(((List Int)×Bool×Int))→Option (((List Int)×Bool×Int)⊕(((List Int)×Bool)⊕(((List T_Item)×Int×(List Int)×(List Int)×Int×(List Int)×Bool×ByteArray×ByteArray×(List T_Path)×(List Int)×Bool×ByteArray×Int×Int×(List Int)×Int×Int×Int×(List Int)×Bool)⊕(((List T_Item)×Int×(List Int)×(List Int)×Int×(List Int)×Bool×ByteArray×ByteArray×(List T_Path)×(List Int)×Bool×ByteArray×Int×Int×(List Int)×Int×Int×Int×(List Int)×Bool)⊕(T_Spool×Int))))):=(fun ((s1283,s1284,s1285):(List Int)×Bool×Int) =>
           cond ((decide (s1285<(s.Done.length:Int))))
            (bindS (S:=(List Int)×Bool) (A:=(((List Int)×Bool×Int)⊕(((List Int)×Bool)⊕(((List T_Item)×Int×(List Int)×(List Int)×Int×(List Int)×Bool×ByteArray×ByteArray×(List T_Path)×(List Int)×Bool×ByteArray×Int×Int×(List Int)×Int×Int×Int×(List Int)×Bool)⊕(((List T_Item)×Int×(List Int)×(List Int)×Int×(List Int)×Bool×ByteArray×ByteArray×(List T_Path)×(List Int)×Bool×ByteArray×Int×Int×(List Int)×Int×Int×Int×(List Int)×Bool)⊕(T_Spool×Int))))))
             (bindS (S:=Bool) (A:=(((List Int)×Bool)⊕(((List Int)×Bool×Int)⊕(((List Int)×Bool)⊕(((List T_Item)×Int×(List Int)×(List Int)×Int×(List Int)×Bool×ByteArray×ByteArray×(List T_Path)×(List Int)×Bool×ByteArray×Int×Int×(List Int)×Int×Int×Int×(List Int)×Bool)⊕(((List T_Item)×Int×(List Int)×(List Int)×Int×(List Int)×Bool×ByteArray×ByteArray×(List T_Path)×(List Int)×Bool×ByteArray×Int×Int×(List Int)×Int×Int×Int×(List Int)×Bool)⊕(T_Spool×Int)))))))
              ((ixO s1285 s.Done.length).bind fun v275 =>
              (getO s.Done v275).bind fun v276 =>
              cond ((decide (p_r.Number<v276)))
               (some (.inl (!s1284)))
               (some (.inl false)))
              (fun (s1321:Bool) =>
               cond (s1321)
                ((appO 8 s1283 [p_r.Number]).bind fun v282 =>
                some (.inl (v282,true)))
                (some (.inl (s1283,s1284)))) some)
             (fun ((s1316,s1317):(List Int)×Bool) =>
              (ixO s1285 s.Done.length).bind fun v293 =>
              (getO s.Done v293).bind fun v294 =>
              (appO 8 s1316 [v294]).bind fun v295 =>
              (some (IntKind.i64.wrap (s1285+1))).bind fun v296 =>
              some (.inl (v295,s1317,v296))) some)
            (some (.inr (.inl (s1283,s1284)))))
theorem in18_eq (n lo hi:Int):wherryref18_in n lo hi=some (decide (lo≤n∧n≤hi)):=by
 unfold wherryref18_in
 by_cases h1:lo≤n
 ·by_cases h2:n≤hi
  ·rw [decide_eq_true (⟨h1,h2⟩:lo≤n∧n≤hi)]
   exact bndL (cnd_t (decide_eq_true h1) (inl_of (decide_eq_true h2))) rfl
  ·rw [decide_eq_false (fun h=>h2 h.2:¬ (lo≤n∧n≤hi))]
   exact bndL (cnd_t (decide_eq_true h1) (inl_of (decide_eq_false h2))) rfl
 ·rw [decide_eq_false (fun h=>h1 h.1:¬ (lo≤n∧n≤hi))]
  exact bndL (cnd_f (decide_eq_false h1) rfl) rfl
theorem has18_eq (l:List Int) (n:Int) (hl:l.length<4294967296):wherryref18_has l n=some (decide (n∈l)):=by
 unfold wherryref18_has
 have h:=loop_all (R:=Bool) (f:=rhS l n) (fun i=>decide (l[i]? ≠ some n)) l.length true (fuel:=BIG) (by simp only [BIG]; omega) (fun i hi hp => ?_) (fun i hi hp => ?_) (cnd_f (decide_eq_false (by omega)) rfl)
 ·by_cases hm:n∈l
  ·obtain ⟨i,hi,he⟩:=List.getElem_of_mem hm
   rw [if_neg (fun hh:∀ i,i<l.length→decide (l[i]? ≠ some n)=true=>(of_decide_eq_true (hh i hi):l[i]? ≠ some n) (by rw [List.getElem?_eq_getElem hi,he]))] at h
   rw [decide_eq_true hm]
   exact bndR h rfl
  ·rw [if_pos (fun i hi=>decide_eq_true (by
    rw [List.getElem?_eq_getElem hi]
    intro e
    exact hm (Option.some.inj e ▸ List.getElem_mem hi)))] at h
   rw [decide_eq_false hm]
   exact bndL h rfl
 ·have hx:=of_decide_eq_true hp
  rw [List.getElem?_eq_getElem hi] at hx
  exact cnd_t (decide_eq_true (by omega)) (bnd (ixO_of hi) (bnd (by simp [getO,hi]:getO l i=some l[i]) (cnd_f (beq_eq_false_iff_ne.2 (fun e=>hx (by rw [e]))) (bnd (congrArg some (wrap_succ (n:=i) (by omega))) rfl))))
 ·have hx:l[i]? = some n:=by simpa using hp
  rw [List.getElem?_eq_getElem hi] at hx
  exact cnd_t (decide_eq_true (by omega)) (bnd (ixO_of hi) (bnd (by simp [getO,hi]:getO l i=some l[i]) (cnd_t (beq_iff_eq.2 (Option.some.inj hx)) rfl)))
theorem body_tot {b:List Int} (hb:byt b) (hl:b.length<4294967281):wherryref11_Body b=some (bodyV b):=by
 unfold bodyV
 rcases body_any b hb hl with h | ⟨h,_⟩
 ·rw [h]; rfl
 ·rw [h]; rfl
theorem mW_len {m:T_Mail} (h:LM m):m.Body.length≤20000:=by
 have:=h.2
 simp only [mW] at this
 omega
theorem rmail_eq {m:T_Mail} (h:LM m) (hb:byt m.Body):wherryref18_mail m=some (mailV m):=by
 have hl:=mW_len h
 have hto:=h.1
 unfold wherryref18_mail mailV
 have hB:=body_tot hb (by omega)
 cases c1:patB m.From
 ·exact bndL (s:=true) (bnd (rpath_eq _) (cnd_t (by rw [c1]; rfl) rfl)) (cnd_t rfl rfl)
 by_cases c2:1≤m.To.length∧m.To.length≤8
 case neg =>
  rw [decide_eq_false c2]
  exact bndL (s:=true) (bnd (rpath_eq _) (cnd_f (by rw [c1]; rfl) (bnd (in18_eq _ _ _) (cnd_t (by rw [decide_eq_false (by omega)]; rfl) rfl)))) (cnd_t rfl rfl)
 rw [decide_eq_true c2]
 have d2:(!decide ((1:Int)≤(m.To.length:Int)∧(m.To.length:Int)≤8))=false:=by rw [decide_eq_true (by omega)]; rfl
 cases c3:bodyV m.Body
 ·exact bndL (s:=true) (bnd (rpath_eq _) (cnd_f (by rw [c1]; rfl) (bnd (in18_eq _ _ _) (cnd_f d2 (bnd hB (cnd_t (by rw [c3]; rfl) rfl)))))) (cnd_t rfl rfl)
 by_cases c4:0≤m.At∧m.At≤1099511627776
 case neg =>
  rw [decide_eq_false c4]
  exact bndL (s:=true) (bnd (rpath_eq _) (cnd_f (by rw [c1]; rfl) (bnd (in18_eq _ _ _) (cnd_f d2 (bnd hB (cnd_f (by rw [c3]; rfl) (bnd (in18_eq _ _ _) (inl_of (by rw [decide_eq_false c4]; rfl))))))))) (cnd_t rfl rfl)
 rw [decide_eq_true c4]
 refine bndL (s:=false) (bnd (rpath_eq _) (cnd_f (by rw [c1]; rfl) (bnd (in18_eq _ _ _) (cnd_f d2 (bnd hB (cnd_f (by rw [c3]; rfl) (bnd (in18_eq _ _ _) (inl_of (by rw [decide_eq_true c4]; rfl))))))))) (cnd_f rfl ?_)
 have hlp:=loop_all (R:=Bool) (f:=rmS m) (fun i=>decide (∀ h:i<m.To.length,patB (m.To[i]'h)=true∧(m.To[i]'h).Null=false)) m.To.length false (fuel:=BIG) (by simp only [BIG]; omega) (fun i hi hp => ?_) (fun i hi hp => ?_) (cnd_f (decide_eq_false (by omega)) rfl)
 ·by_cases hall:∀ p∈m.To,patB p=true∧p.Null=false
  ·rw [decide_eq_true hall]
   rw [if_pos (fun i hi=>decide_eq_true (fun h=>hall _ (List.getElem_mem h)))] at hlp
   exact bndL hlp rfl
  ·rw [decide_eq_false hall]
   rw [if_neg (fun hh=>hall (fun p hp=>by
    obtain ⟨i,hi,rfl⟩:=List.getElem_of_mem hp
    exact of_decide_eq_true (hh i hi) hi))] at hlp
   exact bndR hlp rfl
 ·have hx:=of_decide_eq_true hp hi
  have hg:getO m.To i=some m.To[i]:=by simp [getO,hi]
  exact cnd_t (decide_eq_true (by omega)) (bndL (s:=false) (bnd (ixO_of hi) (bnd hg (bnd (rpath_eq _) (cnd_f (by rw [hx.1]; rfl) (bnd (ixO_of hi) (bnd hg (inl_of hx.2))))))) (cnd_f rfl (bnd (congrArg some (wrap_succ (n:=i) (by omega))) rfl)))
 ·have hx:=of_decide_eq_false hp
  have hg:getO m.To i=some m.To[i]:=by simp [getO,hi]
  refine cnd_t (decide_eq_true (by omega)) (bndL (s:=true) (bnd (ixO_of hi) (bnd hg (bnd (rpath_eq _) ?_))) (cnd_t rfl rfl))
  cases hpt:patB m.To[i]
  ·exact cnd_t rfl rfl
  ·refine cnd_f rfl (bnd (ixO_of hi) (bnd hg (inl_of ?_)))
   cases hn:(m.To[i]).Null
   ·exact absurd (fun _=>⟨hpt,hn⟩) hx
   ·rfl
theorem twinSp_eq {n:Nat} {s:T_Spool} (hs:Inv n s):wherrykeep_TwinSpool s=some s:=by
 have hl:=hs.len; have hn:=hs.hn; have hp:=hs.part; have hse:=hs.sent; have hd:=hs.done
 unfold wherrykeep_TwinSpool
 refine bnd (x:=s.Sent) (bnd (app_nil (by omega) (by omega)) rfl) (bnd (x:=s.Part) (bnd (app_nil (by omega) (by omega)) rfl) (bnd (x:=s.Done) (bnd (app_nil (by omega) (by omega)) rfl) ?_))
 refine bndL (s:=s.Items) (loop_from (f:=tsS s) (fun k=>(s.Items.take k,(k:Int))) s.Items.length BIG rfl (by simp only [BIG]; omega) (fun k hk => ?_) ?_) rfl
 ·refine cnd_t (decide_eq_true (by omega)) (bnd (ixO_of hk) (bnd (by simp [getO,hk]:getO s.Items k=some s.Items[k]) (bnd (twin_mail (hs.lm _ (List.getElem_mem hk))) (bnd (app_of ?_ ?_) (bnd (congrArg some (wrap_succ (n:=k) (by omega))) ?_)))))
  ·simp; omega
  ·simp; omega
  ·rw [take_succ _ k hk]
 ·exact cnd_f (decide_eq_false (by omega)) (by simp only [List.take_length])
theorem fin18 (c r:T_Rec) (hto:c.Mail.To.length≤1000000) (hbo:c.Mail.Body.length≤1000000) (hid:c.Ids.length≤1000000) (hda:c.Data.length≤1000000) (ok:Bool) (x:T_Spool) :
  bindS (S:=Bool) (A:=(T_Spool×Int)) (cond (!ok) (some (.inl true)) ((wherrykeep_Rec c r).bind fun v=>some (.inl (!v)))) (fun s1334=>cond s1334 (some (noSp,5)) (some (x,0))) some=some (if ok=true∧c=r then (x,0) else (noSp,5)):=by
 cases ok
 ·rw [if_neg (by simp)]
  exact bndL (s:=true) rfl rfl
 ·by_cases h:c=r
  ·rw [if_pos ⟨rfl,h⟩]
   exact bndL (s:=false) (cnd_f rfl (bnd (keepRec_eq c r (by omega) (by omega) (by omega) (by omega)) (inl_of (by rw [decide_eq_true h]; rfl)))) rfl
  ·rw [if_neg (fun hh=>h hh.2)]
   exact bndL (s:=true) (cnd_f rfl (bnd (keepRec_eq c r (by omega) (by omega) (by omega) (by omega)) (inl_of (by rw [decide_eq_false h]; rfl)))) rfl
/-! The loops. -/
def g3 (n:Int) (x:T_Item):T_Item:=if x.Pack=n∧x.State=2 then ⟨x.Id,x.Mail,3,x.Pack⟩ else x
theorem ra3_loop (s v:T_Spool) (r:T_Rec) (hl:v.Items.length<1000000):loopF (ra3 s v r) BIG (v.Items,0)=some (.inl (v.Items.map (g3 r.Number))):=by
 refine loop_from (fun k=>(upd (g3 r.Number) k v.Items,(k:Int))) v.Items.length BIG rfl (by simp only [BIG]; omega) (fun k hk => ?_) ?_
 ·have hx:ixO (k:Int) (upd (g3 r.Number) k v.Items).length=some k:=ixO_of (by rw [upd_len]; exact hk)
  have hg:=upd_get (g3 r.Number) hk
  have hul:=upd_len (g3 r.Number) k v.Items
  refine cnd_t (decide_eq_true (by rw [hul]; omega)) (bndL (s:=upd (g3 r.Number) (k+1) v.Items) ?_ (bnd (congrArg some (wrap_succ (n:=k) (by omega))) rfl))
  by_cases h1:v.Items[k].Pack=r.Number
  ·by_cases h2:v.Items[k].State=2
   ·refine bndL (s:=true) (bnd hx (bnd hg (cnd_t (beq_iff_eq.2 h1) (bnd hx (bnd hg (inl_of (beq_iff_eq.2 h2))))))) (cnd_t rfl (bnd hx (bnd hg (bnd rfl ?_))))
    rw [upd_set (g3 r.Number) hk _ (by simp only [g3,if_pos (⟨h1,h2⟩:_∧_)])]
   ·refine bndL (s:=false) (bnd hx (bnd hg (cnd_t (beq_iff_eq.2 h1) (bnd hx (bnd hg (inl_of (beq_eq_false_iff_ne.2 h2))))))) (cnd_f rfl ?_)
    rw [upd_same (g3 r.Number) hk (by simp only [g3]; rw [if_neg (fun h=>h2 h.2)])]
  ·refine bndL (s:=false) (bnd hx (bnd hg (cnd_f (beq_eq_false_iff_ne.2 h1) rfl))) (cnd_f rfl ?_)
   rw [upd_same (g3 r.Number) hk (by simp only [g3]; rw [if_neg (fun h=>h1 h.1)])]
 ·refine cnd_f (decide_eq_false (by rw [upd_len]; omega)) ?_
  simp only [upd_all]
def gI (n:Int):List Int→Bool→List Int×Bool
 | [],p=>([],p)
 | a::l,p=>if n<a∧p=false then (n::a::(gI n l true).1,(gI n l true).2) else (a::(gI n l p).1,(gI n l p).2)
theorem gI_true (n:Int):∀ l,gI n l true=(l,true)
 | []=>rfl
 | a::l=>by simp [gI,gI_true n l]
theorem gI_len (n:Int):∀ l p,(gI n l p).1.length≤l.length+1
 | [],p=>by simp [gI]
 | a::l,p=>by
  simp only [gI]
  split
  ·rw [gI_true]; simp
  ·have:=gI_len n l p; simp only [List.length_cons]; omega
theorem gI_ins (n:Int):∀ l,n ∉ l→(gI n l false).1++(if (gI n l false).2=true then [] else [n])=insS l n
 | [],_=>by simp [gI,insS]
 | a::l,h=>by
  have hne:n≠a:=fun e=>h (by rw [e]; exact List.mem_cons_self)
  by_cases hlt:n<a
  ·simp only [gI]
   rw [if_pos ⟨hlt,trivial⟩,gI_true]
   simp only [insS,if_neg (by omega:¬ a<n),if_true,List.append_nil]
  ·simp only [gI]
   rw [if_neg (fun hh=>hlt hh.1)]
   simp only [insS,if_pos (by omega:a<n)]
   have:=gI_ins n l (fun hm=>h (List.mem_cons_of_mem _ hm))
   rw [← this]; rfl
theorem ra6_loop (s v:T_Spool) (r:T_Rec) (hl:s.Done.length<1000000):∀ (d i fuel:Nat) (A:List Int) (p:Bool),i+d=s.Done.length→d<fuel→A.length≤i+1→loopF (ra6 s v r) fuel (A,p,(i:Int))=some (.inl (A++(gI r.Number (s.Done.drop i) p).1,(gI r.Number (s.Done.drop i) p).2))
 | d,i,0,A,p,_,hf,_=>absurd hf (Nat.not_lt_zero d)
 | 0,i,fuel+1,A,p,hd,_,_=>by
  obtain rfl:i=s.Done.length:=by omega
  rw [List.drop_length]
  simp only [gI,List.append_nil]
  exact loop_exit (cnd_f (decide_eq_false (by omega)) rfl)
 | d+1,i,fuel+1,A,p,hd,hf,hA=>by
  have hi:i<s.Done.length:=by omega
  have hg:getO s.Done i=some s.Done[i]:=by simp [getO,hi]
  have e1:some (IntKind.i64.wrap ((i:Int)+1))=some ((i+1:Nat):Int):=congrArg some (wrap_succ (n:=i) (by omega))
  rw [List.drop_eq_getElem_cons hi]
  by_cases hc:r.Number<s.Done[i]∧p=false
  ·have hg2:gI r.Number (s.Done[i]::s.Done.drop (i+1)) p=(r.Number::s.Done[i]::(gI r.Number (s.Done.drop (i+1)) true).1,(gI r.Number (s.Done.drop (i+1)) true).2):=by simp only [gI]; rw [if_pos hc]
   rw [hg2]
   have hcat:A++r.Number::s.Done[i]::(gI r.Number (s.Done.drop (i+1)) true).1=((A++[r.Number])++[s.Done[i]])++(gI r.Number (s.Done.drop (i+1)) true).1:=by simp
   rw [hcat]
   have hnx:ra6 s v r (A,p,(i:Int))=some (.inl ((A++[r.Number])++[s.Done[i]],true,((i+1:Nat):Int))) :=
    cnd_t (decide_eq_true (by omega)) (bndL (s:=(A++[r.Number],true)) (bndL (s:=true) (bnd (ixO_of hi) (bnd hg (cnd_t (decide_eq_true hc.1) (inl_of (by rw [hc.2]; rfl))))) (cnd_t rfl (bnd (app_of (by simp; omega) (by simp; omega)) rfl))) (bnd (ixO_of hi) (bnd hg (bnd (app_of (by simp; omega) (by simp; omega)) (bnd e1 rfl)))))
   -- behind the number nothing is put
   have hrest:∀ (d i fuel:Nat) (B:List Int),i+d=s.Done.length→d<fuel→B.length≤i+2→loopF (ra6 s v r) fuel (B,true,(i:Int))=some (.inl (B++s.Done.drop i,true)):=by
    intro d
    induction d with
    | zero =>
     intro i fuel B hd hf hB
     obtain ⟨k,rfl⟩:∃ k,fuel=k+1:=⟨fuel-1,by omega⟩
     obtain rfl:i=s.Done.length:=by omega
     rw [List.drop_length,List.append_nil]
     exact loop_exit (cnd_f (decide_eq_false (by omega)) rfl)
    | succ d ih =>
     intro i fuel B hd hf hB
     obtain ⟨k,rfl⟩:∃ k,fuel=k+1:=⟨fuel-1,by omega⟩
     have hi:i<s.Done.length:=by omega
     have hg:getO s.Done i=some s.Done[i]:=by simp [getO,hi]
     have hcat:B++s.Done.drop i=(B++[s.Done[i]])++s.Done.drop (i+1):=by rw [List.drop_eq_getElem_cons hi]; simp
     rw [hcat,← ih (i+1) k (B++[s.Done[i]]) (by omega) (by omega) (by simp; omega)]
     refine loop_next (cnd_t (decide_eq_true (by omega)) (bndL (s:=(B,true)) (bndL (s:=false) (bnd (ixO_of hi) (bnd hg ?_)) (cnd_f rfl rfl)) (bnd (ixO_of hi) (bnd hg (bnd (app_of (by simp; omega) (by simp; omega)) (bnd (congrArg some (wrap_succ (n:=i) (by omega))) rfl))))))
     by_cases h:r.Number<s.Done[i]
     ·exact cnd_t (decide_eq_true h) rfl
     ·exact cnd_f (decide_eq_false h) rfl
   rw [loop_next hnx,hrest d (i+1) fuel _ (by omega) (by omega) (by simp; omega),gI_true]
  ·have hg2:gI r.Number (s.Done[i]::s.Done.drop (i+1)) p=(s.Done[i]::(gI r.Number (s.Done.drop (i+1)) p).1,(gI r.Number (s.Done.drop (i+1)) p).2):=by simp only [gI]; rw [if_neg hc]
   rw [hg2]
   have hcat:A++s.Done[i]::(gI r.Number (s.Done.drop (i+1)) p).1=(A++[s.Done[i]])++(gI r.Number (s.Done.drop (i+1)) p).1:=by simp
   rw [hcat,← ra6_loop s v r hl d (i+1) fuel (A++[s.Done[i]]) p (by omega) (by omega) (by simp; omega)]
   refine loop_next (cnd_t (decide_eq_true (by omega)) (bndL (s:=(A,p)) (bndL (s:=false) (bnd (ixO_of hi) (bnd hg ?_)) (cnd_f rfl rfl)) (bnd (ixO_of hi) (bnd hg (bnd (app_of (by simp; omega) (by simp; omega)) (bnd e1 rfl))))))
   by_cases h:r.Number<s.Done[i]
   ·refine cnd_t (decide_eq_true h) (inl_of ?_)
    cases p
    ·exact absurd ⟨h,rfl⟩ hc
    ·rfl
   ·exact cnd_f (decide_eq_false h) rfl
theorem f2_take {s:T_Spool} (hid:Ids s) {ids:List Int} {num:Int} {i k:Nat} (hi:i<ids.length) (hk:k<s.Items.length) (he:ids[i]=(k:Int)+1) (y:T_Item) (hy:y=⟨s.Items[k].Id,s.Items[k].Mail,2,num⟩) :
  (s.Items.map (f2 (ids.take i) num)).set k y=s.Items.map (f2 (ids.take (i+1)) num):=by
 subst hy
 refine List.ext_getElem (by simp) fun j h1 h2 => ?_
 have hj:j<s.Items.length:=by simpa using h2
 rw [List.getElem_set,List.getElem_map,List.getElem_map,show f2 (ids.take (i+1)) num s.Items[j]=f2 (ids.take i++[ids[i]]) num s.Items[j] from by rw [take_succ ids i hi]]
 by_cases h:k=j
 ·subst h
  rw [if_pos rfl]
  simp only [f2]
  rw [if_pos (List.mem_append_right _ (by rw [hid k hk,he]; exact List.mem_singleton_self _))]
 ·rw [if_neg h]
  have hidj:=hid j hj
  simp only [f2]
  by_cases hm:s.Items[j].Id∈ids.take i
  ·rw [if_pos hm,if_pos (List.mem_append_left _ hm)]
  ·rw [if_neg hm,if_neg (fun hh=>(List.mem_append.1 hh).elim hm (fun hh=>by
    have:=List.mem_singleton.1 hh
    omega))]
theorem ra2_step {n:Nat} {s:T_Spool} (hs:Inv n s) (r:T_Rec) {i:Nat} (hi:i<r.Ids.length) (hr:r.Ids.length≤1000) :
  ra2 s s r (s.Items.map (f2 (r.Ids.take i) r.Number),true,(i:Int))=some (.inl (if idB s r.Ids i=true then (s.Items.map (f2 (r.Ids.take (i+1)) r.Number),true,((i+1:Nat):Int)) else (s.Items.map (f2 (r.Ids.take i) r.Number),false,((i+1:Nat):Int)))):=by
 have hl:=hs.len; have hn:=hs.hn
 have hg:getO r.Ids i=some r.Ids[i]:=by simp [getO,hi]
 have hix:ixO (i:Int) r.Ids.length=some i:=ixO_of hi
 have hd:r.Ids.getD i 0=r.Ids[i]:=by simp [List.getD,hi]
 have e1:some (IntKind.i64.wrap ((i:Int)+1))=some ((i+1:Nat):Int):=congrArg some (wrap_succ (n:=i) (by omega))
 refine bndL (s:=true) (cnd_t (decide_eq_true (by omega)) rfl) (cnd_t rfl ?_)
 by_cases hin:1≤r.Ids[i]∧r.Ids[i]≤(s.Items.length:Int)
 case neg =>
  have hb:idB s r.Ids i=false:=by
   unfold idB wt
   rw [hd,decide_eq_false hin]; simp
  rw [hb,if_neg (by simp)]
  exact bndL (s:=(s.Items.map (f2 (r.Ids.take i) r.Number),false)) (bndL (s:=false) (bnd hix (bnd hg (bnd (in18_eq _ _ _) (cnd_f (decide_eq_false hin) rfl)))) (cnd_f rfl rfl)) (bnd e1 rfl)
 obtain ⟨k,hk⟩:∃ k:Nat,r.Ids[i]=(k:Int)+1:=⟨(r.Ids[i]-1).toNat,by omega⟩
 have hkl:k<s.Items.length:=by omega
 have w1:some (IntKind.i64.wrap (r.Ids[i]-1))=some (k:Int):=by rw [hk,Int.add_sub_cancel,wrap_nat _ (by omega)]
 have hgk:getO s.Items k=some s.Items[k]:=by simp [getO,hkl]
 have hwt:wt s r.Ids[i]=(s.Items[k].State==1):=by
  unfold wt
  rw [decide_eq_true hin,Bool.true_and,hk,Int.add_sub_cancel,Int.toNat_natCast,List.getElem?_eq_getElem hkl]
  simp
 by_cases hst:s.Items[k].State=1
 case neg =>
  have hb:idB s r.Ids i=false:=by
   unfold idB
   rw [hd,hwt,beq_eq_false_iff_ne.2 hst]; simp
  rw [hb,if_neg (by simp)]
  exact bndL (s:=(s.Items.map (f2 (r.Ids.take i) r.Number),false)) (bndL (s:=false) (bnd hix (bnd hg (bnd (in18_eq _ _ _) (cnd_t (decide_eq_true hin) (bnd hix (bnd hg (bnd w1 (bnd (ixO_of hkl) (bnd hgk (cnd_f (beq_eq_false_iff_ne.2 hst) rfl)))))))))) (cnd_f rfl rfl)) (bnd e1 rfl)
 have hidB:idB s r.Ids i=(i==0||decide (r.Ids.getD (i-1) 0<r.Ids[i])):=by
  unfold idB
  rw [hd,hwt,beq_iff_eq.2 hst,Bool.and_true]
 have hbool:((ixO (i:Int) r.Ids.length).bind fun v30 =>
              (getO r.Ids v30).bind fun v31 =>
              (wherryref18_in v31 1 (s.Items.length:Int)).bind fun v32 =>
              cond (v32)
               ((ixO (i:Int) r.Ids.length).bind fun v33 =>
               (getO r.Ids v33).bind fun v34 =>
               (some (IntKind.i64.wrap (v34-1))).bind fun v35 =>
               (ixO v35 s.Items.length).bind fun v36 =>
               (getO s.Items v36).bind fun v37 =>
               cond ((v37.State==1))
                (cond (((i:Int)==0))
                 (some (.inl true))
                 ((ixO (i:Int) r.Ids.length).bind fun v38 =>
                 (getO r.Ids v38).bind fun v39 =>
                 (some (IntKind.i64.wrap ((i:Int)-1))).bind fun v40 =>
                 (ixO v40 r.Ids.length).bind fun v41 =>
                 (getO r.Ids v41).bind fun v42 =>
                 some ((.inl ((decide (v42<v39)))):Bool⊕(((List T_Item)×Bool)⊕(((List T_Item)×Bool×Int)⊕(((List T_Item)×Bool)⊕(((List T_Item)×Int×(List Int)×(List Int)×Int×(List Int)×Bool×ByteArray×ByteArray×(List T_Path)×(List Int)×Bool×ByteArray×Int×Int×(List Int)×Int×Int×Int×(List Int)×Bool)⊕(((List T_Item)×Int×(List Int)×(List Int)×Int×(List Int)×Bool×ByteArray×ByteArray×(List T_Path)×(List Int)×Bool×ByteArray×Int×Int×(List Int)×Int×Int×Int×(List Int)×Bool)⊕(T_Spool×Int)))))))))
                (some (.inl false)))
               (some (.inl false)))=some (.inl (idB s r.Ids i)):=by
  rw [hidB]
  refine bnd hix (bnd hg (bnd (in18_eq _ _ _) (cnd_t (decide_eq_true hin) (bnd hix (bnd hg (bnd w1 (bnd (ixO_of hkl) (bnd hgk (cnd_t (beq_iff_eq.2 hst) ?_)))))))))
  cases i with
  | zero=>exact cnd_t rfl rfl
  | succ j =>
   have hj:j<r.Ids.length:=by omega
   have wj:some (IntKind.i64.wrap (((j+1:Nat):Int)-1))=some (j:Int):=by rw [wrap_i64 (by omega) (by omega)]; congr 1; omega
   have hgj:getO r.Ids j=some r.Ids[j]:=by simp [getO,hj]
   have hdj:r.Ids.getD (j+1-1) 0=r.Ids[j]:=by simp [List.getD,hj]
   rw [hdj]
   exact cnd_f (by simp only [beq_eq_false_iff_ne,ne_eq]; omega) (bnd hix (bnd hg (bnd wj (bnd (ixO_of hj) (bnd hgj rfl)))))
 cases hB:idB s r.Ids i
 ·rw [if_neg (by simp)]
  rw [hB] at hbool
  exact bndL (s:=(s.Items.map (f2 (r.Ids.take i) r.Number),false)) (bndL (s:=false) hbool (cnd_f rfl rfl)) (bnd e1 rfl)
 ·rw [if_pos rfl]
  rw [hB] at hbool
  obtain ⟨L,hL⟩:∃ L,L=s.Items.map (f2 (r.Ids.take i) r.Number):=⟨_,rfl⟩
  have hLl:L.length=s.Items.length:=by rw [hL]; simp
  have hkL:k<L.length:=by omega
  have hgL:getO L k=some L[k]:=by simp [getO,hkL]
  have hLk:L[k].Id=s.Items[k].Id∧L[k].Mail=s.Items[k].Mail:=by
   have:L[k]=f2 (r.Ids.take i) r.Number s.Items[k]:=by simp only [hL,List.getElem_map]
   rw [this]; exact f2_id _ _ _
  have hset:(L.set k ⟨L[k].Id,L[k].Mail,2,L[k].Pack⟩).set k ⟨L[k].Id,L[k].Mail,2,r.Number⟩=s.Items.map (f2 (r.Ids.take (i+1)) r.Number):=by
   have hft:=f2_take hs.ids (num:=r.Number) hi hkl hk ⟨L[k].Id,L[k].Mail,2,r.Number⟩ (by rw [hLk.1,hLk.2])
   rw [← hL] at hft
   rw [List.set_set]
   exact hft
  have hgs:getO (L.set k ⟨L[k].Id,L[k].Mail,2,L[k].Pack⟩) k=some ⟨L[k].Id,L[k].Mail,2,L[k].Pack⟩:=by
   simp only [getO]
   rw [List.getElem?_set_self hkL]
  rw [← hset,← hL]
  exact bndL (s:=((L.set k ⟨L[k].Id,L[k].Mail,2,L[k].Pack⟩).set k ⟨L[k].Id,L[k].Mail,2,r.Number⟩,true)) (bndL (s:=true) hbool (cnd_t rfl (bnd hix (bnd hg (bnd w1 (bnd hix (bnd hg (bnd w1 (bnd (ixO_of hkL) (bnd hgL (bnd rfl (bnd (ixO_of hkL) (bnd hgs (bnd rfl rfl)))))))))))))) (bnd e1 rfl)
theorem ra2_loop {n:Nat} {s:T_Spool} (hs:Inv n s) (r:T_Rec) (hr:r.Ids.length≤1000) (ok:Bool):∃ (L:List T_Item) (ok':Bool),loopF (ra2 s s r) BIG (s.Items,ok,0)=some (.inl (L,ok'))∧ok'=(ok&&decide (∀ i,i<r.Ids.length→idB s r.Ids i=true))∧(ok'=true→L=s.Items.map (f2 r.Ids r.Number)):=by
 have f0:s.Items.map (f2 (r.Ids.take 0) r.Number)=s.Items:=by
  have:∀ x:T_Item,f2 [] r.Number x=x:=fun x=>by simp [f2]
  rw [List.take_zero]
  exact (List.map_congr_left (g:=id) (fun x _=>this x)).trans (List.map_id _)
 cases ok
 ·refine ⟨s.Items,false,loop_from (f:=ra2 s s r) (fun _=>(s.Items,false,((0:Nat):Int))) 0 BIG rfl (by simp only [BIG]; omega) (fun k hk=>absurd hk (by omega)) ?_,rfl,fun h=>by cases h⟩
  refine bndL (s:=false) ?_ rfl
  by_cases h:0<r.Ids.length
  ·exact cnd_t (decide_eq_true (by omega)) rfl
  ·exact cnd_f (decide_eq_false (by omega)) rfl
 ·rcases first_fail (idB s r.Ids) r.Ids.length with h | ⟨k,hk,h1,h2⟩
  ·refine ⟨s.Items.map (f2 r.Ids r.Number),true,loop_from (f:=ra2 s s r) (fun k=>(s.Items.map (f2 (r.Ids.take k) r.Number),true,(k:Int))) r.Ids.length BIG (by simp only [f0]; rfl) (by simp only [BIG]; omega) (fun i hi => ?_) ?_,by rw [decide_eq_true h]; rfl,fun _=>rfl⟩
   ·have:=ra2_step hs r hi hr
    rw [if_pos (h i hi)] at this
    exact this
   ·rw [List.take_length]
    exact bndL (s:=false) (cnd_f (decide_eq_false (by omega)) rfl) rfl
  ·refine ⟨s.Items.map (f2 (r.Ids.take k) r.Number),false,loop_from (f:=ra2 s s r) (fun j=>if j≤k then (s.Items.map (f2 (r.Ids.take j) r.Number),true,(j:Int)) else (s.Items.map (f2 (r.Ids.take k) r.Number),false,((k+1:Nat):Int))) (k+1) BIG (by simp only [Nat.zero_le,if_true,f0]; rfl) (by simp only [BIG]; omega) (fun i hi => ?_) ?_,?_,fun h=>by cases h⟩
   ·rw [if_pos (by omega)]
    have:=ra2_step hs r (i:=i) (by omega) hr
    by_cases hik:i=k
    ·subst hik
     rw [if_neg (by rw [h2]; simp)] at this
     rw [if_neg (by omega)]
     exact this
    ·rw [if_pos (h1 i (by omega))] at this
     rw [if_pos (by omega)]
     exact this
   ·rw [if_neg (by omega)]
    refine bndL (s:=false) ?_ rfl
    by_cases h:k+1<r.Ids.length
    ·exact cnd_t (decide_eq_true (by omega)) rfl
    ·exact cnd_f (decide_eq_false (by omega)) rfl
   ·rw [decide_eq_false (fun hh=>by have:=hh k hk; rw [h2] at this; cases this)]; rfl
theorem fin_if {s:T_Spool} {r c:T_Rec} {ok:Bool} {x:T_Spool} (h1:(ok=true∧c=r)↔okR s r=true) (h2:okR s r=true→x=eff s r) :
  (some (if ok=true∧c=r then (x,(0:Int)) else (noSp,5)):Option (T_Spool×Int))=some (if okR s r=true then (eff s r,0) else (noSp,5)):=by
 by_cases h:okR s r=true
 ·rw [if_pos (h1.2 h),if_pos h,h2 h]
 ·rw [if_neg (fun hh=>h (h1.1 hh)),if_neg h]
theorem okR_if {s:T_Spool} {r c:T_Rec} {K ok:Bool} (ho:okR s r=(decide (c=r)&&K)) (hK:K=ok):(ok=true∧c=r)↔okR s r=true:=by
 rw [ho,hK,Bool.and_eq_true,decide_eq_true_eq]
 exact ⟨fun h=>⟨h.2,h.1⟩,fun h=>⟨h.2,h.1⟩⟩
theorem okR1 {s:T_Spool} {r:T_Rec} (k:r.Kind=1):okR s r=(decide ((⟨r.Kind,r.Mail,r.Id,[],r.Origin,0,0,[]⟩:T_Rec)=r)&&(decide (s.Items.length<60∧r.Id=(s.Items.length:Int)+1∧(r.Origin=0∨r.Origin=1))&&mailV r.Mail)):=by
 unfold okR cleanR
 rw [if_pos k,if_pos k]
theorem okR2 {s:T_Spool} {r:T_Rec} (k:r.Kind=2):okR s r=(decide ((⟨r.Kind,zM8,0,r.Ids,0,r.Number,0,[]⟩:T_Rec)=r)&&(decide (r.Number=s.Packs+1)&&idsB s r.Ids)):=by
 unfold okR cleanR
 rw [if_neg (show ¬ r.Kind=1 by omega),if_neg (show ¬ r.Kind=1 by omega),if_pos k,if_pos k]
theorem okR3 {s:T_Spool} {r:T_Rec} (k:r.Kind=3):okR s r=(decide ((⟨r.Kind,zM8,0,[],0,r.Number,0,[]⟩:T_Rec)=r)&&decide (1≤r.Number∧r.Number≤s.Packs∧r.Number ∉ s.Sent)):=by
 unfold okR cleanR
 rw [if_neg (show ¬ r.Kind=1 by omega),if_neg (show ¬ r.Kind=1 by omega),if_neg (show ¬ r.Kind=2 by omega),if_neg (show ¬ r.Kind=2 by omega),if_pos k,if_pos k]
theorem okR4 {s:T_Spool} {r:T_Rec} (k:r.Kind=4):okR s r=(decide ((⟨r.Kind,zM8,r.Id,[],0,0,0,[]⟩:T_Rec)=r)&&wt s r.Id):=by
 unfold okR cleanR
 rw [if_neg (show ¬ r.Kind=1 by omega),if_neg (show ¬ r.Kind=1 by omega),if_neg (show ¬ r.Kind=2 by omega),if_neg (show ¬ r.Kind=2 by omega),if_neg (show ¬ r.Kind=3 by omega),if_neg (show ¬ r.Kind=3 by omega),if_pos k,if_pos k]
theorem okR5 {s:T_Spool} {r:T_Rec} (k:r.Kind=5):okR s r=(decide ((⟨r.Kind,zM8,0,[],0,r.Number,r.Offset,r.Data⟩:T_Rec)=r)&&(opn s r.Number&&ckB s r)):=by
 unfold okR cleanR
 rw [if_neg (show ¬ r.Kind=1 by omega),if_neg (show ¬ r.Kind=1 by omega),if_neg (show ¬ r.Kind=2 by omega),if_neg (show ¬ r.Kind=2 by omega),if_neg (show ¬ r.Kind=3 by omega),if_neg (show ¬ r.Kind=3 by omega),if_neg (show ¬ r.Kind=4 by omega),if_neg (show ¬ r.Kind=4 by omega),if_pos k,if_pos k]
theorem okR6 {s:T_Spool} {r:T_Rec} (k:r.Kind=6):okR s r=(decide ((⟨r.Kind,zM8,0,[],0,r.Number,0,[]⟩:T_Rec)=r)&&opn s r.Number):=by
 unfold okR cleanR
 rw [if_neg (show ¬ r.Kind=1 by omega),if_neg (show ¬ r.Kind=1 by omega),if_neg (show ¬ r.Kind=2 by omega),if_neg (show ¬ r.Kind=2 by omega),if_neg (show ¬ r.Kind=3 by omega),if_neg (show ¬ r.Kind=3 by omega),if_neg (show ¬ r.Kind=4 by omega),if_neg (show ¬ r.Kind=4 by omega),if_neg (show ¬ r.Kind=5 by omega),if_neg (show ¬ r.Kind=5 by omega),if_pos k,if_pos k]
theorem okR7 {s:T_Spool} {r:T_Rec} (k1:r.Kind≠1) (k2:r.Kind≠2) (k3:r.Kind≠3) (k4:r.Kind≠4) (k5:r.Kind≠5) (k6:r.Kind≠6):okR s r=(decide ((⟨r.Kind,zM8,0,[],0,0,0,[]⟩:T_Rec)=r)&&false):=by
 unfold okR cleanR
 rw [if_neg k1,if_neg k1,if_neg k2,if_neg k2,if_neg k3,if_neg k3,if_neg k4,if_neg k4,if_neg k5,if_neg k5,if_neg k6,if_neg k6]
theorem g3_f3 {n:Int} (h1:1≤n) {l:List T_Item} (hs:∀ x∈l,Stt x):l.map (g3 n)=l.map (f3 n):=by
 refine List.map_congr_left fun x hx => ?_
 simp only [g3,f3]
 by_cases hp:x.Pack=n
 ·rcases (hs x hx).2 (by omega) with h | h
  ·rw [if_pos ⟨hp,h⟩,if_pos hp]
  ·rw [if_neg (fun hh=>by have:=hh.2; omega),if_pos hp]
   obtain ⟨a,b,c,d⟩:=x
   simp only at h
   rw [h]
 ·rw [if_neg (fun hh=>hp hh.1),if_neg hp]
theorem z8 (k:Int) (id:Int) (ids:List Int) (og nu of_:Int) (da:List Int) (h1:ids.length≤1000000) (h2:da.length≤1000000) (r:T_Rec) (ok:Bool) (x:T_Spool) :
  bindS (S:=Bool) (A:=(T_Spool×Int)) (cond (!ok) (some (.inl true)) ((wherrykeep_Rec ⟨k,zM8,id,ids,og,nu,of_,da⟩ r).bind fun v=>some (.inl (!v)))) (fun s1334=>cond s1334 (some (noSp,5)) (some (x,0))) some=some (if ok=true∧(⟨k,zM8,id,ids,og,nu,of_,da⟩:T_Rec)=r then (x,0) else (noSp,5)) :=
 fin18 _ r (by simp [zM8]) (by simp [zM8]) h1 h2 ok x
theorem radd_eq {n:Nat} {s:T_Spool} {r:T_Rec} (hs:Inv n s) (ht:∀ x∈s.Items,Stt x) (hr:Rok r):wherryref18_Add s r=some (if okR s r=true then (eff s r,0) else (noSp,5)):=by
 have hl:=hs.len; have hn:=hs.hn; have hp:=hs.part; have hse:=hs.sent; have hd:=hs.done; have hpk:=hs.packs
 have hd6:=hr.1.1; have hi6:=hr.1.2.1
 have hto:=hr.1.2.2.1
 have hbo:=mW_len hr.1.2.2
 unfold wherryref18_Add
 refine bnd (twinSp_eq hs) ?_
 by_cases k1:r.Kind=1
 ·obtain ⟨ok,hok⟩:∃ ok:Bool,ok=(decide (s.Items.length<60∧r.Id=(s.Items.length:Int)+1∧(r.Origin=0∨r.Origin=1))&&mailV r.Mail):=⟨_,rfl⟩
  have hw:IntKind.i64.wrap ((s.Items.length:Int)+1)=(s.Items.length:Int)+1:=wrap_i64 (by omega) (by omega)
  have hA:∀ sg:Int,appO 144 s.Items [(T_Item.mk r.Id r.Mail sg 0)]=some (s.Items++[⟨r.Id,r.Mail,sg,0⟩]):=fun sg=>app_of (by simp only [List.length_cons,List.length_nil]; omega) (by simp only [List.length_cons,List.length_nil]; omega)
  have hst:∃ sg:Int,sg=(if r.Origin=0 then 3 else 1):=⟨_,rfl⟩
  obtain ⟨sg,hsg⟩:=hst
  refine bndL (bndL (cnd_t (beq_iff_eq.2 k1) (bndL (s:=ok) ?_ (bndL (s:=sg) ?_ (bnd (twin_mail hr.1.2.2) (bnd (hA sg) rfl))))) rfl) ?_
  ·rw [hok]
   refine bnd (congrArg some hw) ?_
   by_cases a:r.Id=(s.Items.length:Int)+1
   ·refine cnd_t (beq_iff_eq.2 a) ?_
    by_cases b:s.Items.length<60
    ·refine cnd_t (decide_eq_true (by omega)) (bnd (in18_eq _ _ _) ?_)
     by_cases c:r.Origin=0∨r.Origin=1
     ·rw [decide_eq_true (⟨b,a,c⟩:s.Items.length<60∧r.Id=(s.Items.length:Int)+1∧(r.Origin=0∨r.Origin=1)),Bool.true_and]
      exact cnd_t (decide_eq_true (by omega)) (bnd (rmail_eq hr.1.2.2 hr.2) rfl)
     ·rw [decide_eq_false (fun h=>c h.2.2:¬ (s.Items.length<60∧r.Id=(s.Items.length:Int)+1∧(r.Origin=0∨r.Origin=1))),Bool.false_and]
      exact cnd_f (decide_eq_false (by omega)) rfl
    ·rw [decide_eq_false (fun h=>b h.1:¬ (s.Items.length<60∧r.Id=(s.Items.length:Int)+1∧(r.Origin=0∨r.Origin=1))),Bool.false_and]
     exact cnd_f (decide_eq_false (by omega)) rfl
   ·rw [decide_eq_false (fun h=>a h.2.1:¬ (s.Items.length<60∧r.Id=(s.Items.length:Int)+1∧(r.Origin=0∨r.Origin=1))),Bool.false_and]
    exact cnd_f (beq_eq_false_iff_ne.2 a) rfl
  ·rw [hsg]
   by_cases a:r.Origin=0
   ·rw [if_pos a]; exact cnd_t (beq_iff_eq.2 a) rfl
   ·rw [if_neg a]; exact cnd_f (beq_eq_false_iff_ne.2 a) rfl
  ·refine (fin18 ⟨r.Kind,r.Mail,r.Id,[],r.Origin,0,0,[]⟩ r (by dsimp only; omega) (by dsimp only; omega) (by simp) (by simp) ok ⟨s.Items++[⟨r.Id,r.Mail,sg,0⟩],s.Packs,s.Sent,s.Part,s.Of,s.Done⟩).trans (fin_if (okR_if (okR1 k1) hok.symm) (fun _ => ?_))
   rw [eff1 k1,hsg]
 by_cases k2:r.Kind=2
 ·have hw:IntKind.i64.wrap (s.Packs+1)=s.Packs+1:=wrap_i64 (by omega) (by omega)
  obtain ⟨ok,hok⟩:∃ ok:Bool,ok=(decide (r.Number=s.Packs+1)&&decide (1≤r.Ids.length∧r.Ids.length≤4)):=⟨_,rfl⟩
  obtain ⟨L,ok',h1,h2,h3⟩:=ra2_loop hs r (by omega) ok
  refine bndL (bndL (cnd_f (beq_eq_false_iff_ne.2 k1) (cnd_t (beq_iff_eq.2 k2) (bndL (s:=ok) ?_ (bndL h1 rfl)))) rfl) ?_
  ·rw [hok]
   refine bnd (congrArg some hw) ?_
   by_cases a:r.Number=s.Packs+1
   ·rw [decide_eq_true a,Bool.true_and]
    refine cnd_t (beq_iff_eq.2 a) (bnd (in18_eq _ _ _) (inl_of ?_))
    by_cases b:1≤r.Ids.length∧r.Ids.length≤4
    ·rw [decide_eq_true b,decide_eq_true (by omega)]
    ·rw [decide_eq_false b,decide_eq_false (by omega)]
   ·rw [decide_eq_false a,Bool.false_and]
    exact cnd_f (beq_eq_false_iff_ne.2 a) rfl
  ·refine (z8 r.Kind 0 r.Ids 0 r.Number 0 [] (by omega) (by simp) r ok' ⟨L,r.Number,s.Sent,s.Part,s.Of,s.Done⟩).trans (fin_if (okR_if (okR2 k2) ?_) (fun h => ?_))
   ·rw [h2,hok]
    unfold idsB
    rw [Bool.and_assoc]
   ·rw [okR2 k2,Bool.and_eq_true,Bool.and_eq_true] at h
    have hi:=h.2.2
    unfold idsB at hi
    rw [Bool.and_eq_true] at hi
    rw [eff2 k2,h3 (by rw [h2,hok,h.2.1,hi.1,hi.2]; rfl)]
 by_cases k3:r.Kind=3
 ·obtain ⟨ok,hok⟩:∃ ok:Bool,ok=decide (1≤r.Number∧r.Number≤s.Packs∧r.Number ∉ s.Sent):=⟨_,rfl⟩
  have hA:appO 8 s.Sent [r.Number]=some (s.Sent++[r.Number]):=app_of (by simp only [List.length_cons,List.length_nil]; omega) (by simp only [List.length_cons,List.length_nil]; omega)
  refine bndL (bndL (cnd_f (beq_eq_false_iff_ne.2 k1) (cnd_f (beq_eq_false_iff_ne.2 k2) (cnd_t (beq_iff_eq.2 k3) (bndL (s:=ok) ?_ (bndL (ra3_loop s s r (by omega)) (bnd hA rfl)))))) rfl) ?_
  ·rw [hok]
   refine bnd (in18_eq _ _ _) ?_
   by_cases a:1≤r.Number∧r.Number≤s.Packs
   ·refine cnd_t (decide_eq_true a) (bnd (has18_eq _ _ (by omega)) (inl_of ?_))
    by_cases b:r.Number∈s.Sent
    ·rw [decide_eq_true b,decide_eq_false (fun h=>h.2.2 b)]; rfl
    ·rw [decide_eq_false b,decide_eq_true (⟨a.1,a.2,b⟩:1≤r.Number∧r.Number≤s.Packs∧r.Number ∉ s.Sent)]; rfl
   ·rw [decide_eq_false (fun h=>a ⟨h.1,h.2.1⟩:¬ (1≤r.Number∧r.Number≤s.Packs∧r.Number ∉ s.Sent))]
    exact cnd_f (decide_eq_false a) rfl
  ·refine (z8 r.Kind 0 [] 0 r.Number 0 [] (by simp) (by simp) r ok ⟨s.Items.map (g3 r.Number),s.Packs,s.Sent++[r.Number],s.Part,s.Of,s.Done⟩).trans (fin_if (okR_if (okR3 k3) hok.symm) (fun h => ?_))
   rw [okR3 k3,Bool.and_eq_true] at h
   have h:=of_decide_eq_true h.2
   rw [eff3 k3,g3_f3 h.1 ht]
 by_cases k4:r.Kind=4
 ·by_cases a:1≤r.Id∧r.Id≤(s.Items.length:Int)
  ·obtain ⟨k,hk⟩:∃ k:Nat,r.Id=(k:Int)+1:=⟨(r.Id-1).toNat,by omega⟩
   have hkl:k<s.Items.length:=by omega
   have w1:some (IntKind.i64.wrap (r.Id-1))=some (k:Int):=by rw [hk,Int.add_sub_cancel,wrap_nat _ (by omega)]
   have hgk:getO s.Items k=some s.Items[k]:=by simp [getO,hkl]
   have hwt:wt s r.Id=(s.Items[k].State==1):=by
    unfold wt
    rw [decide_eq_true a,Bool.true_and,hk,Int.add_sub_cancel,Int.toNat_natCast,List.getElem?_eq_getElem hkl]
    simp
   by_cases b:s.Items[k].State=1
   ·refine bndL (bndL (cnd_f (beq_eq_false_iff_ne.2 k1) (cnd_f (beq_eq_false_iff_ne.2 k2) (cnd_f (beq_eq_false_iff_ne.2 k3) (cnd_t (beq_iff_eq.2 k4) (bndL (s:=true) (bnd (in18_eq _ _ _) (cnd_t (decide_eq_true a) (bnd w1 (bnd (ixO_of hkl) (bnd hgk (inl_of (beq_iff_eq.2 b))))))) (cnd_t rfl (bnd w1 (bnd (ixO_of hkl) (bnd hgk (bnd rfl rfl)))))))))) rfl) ?_
    refine (z8 r.Kind r.Id [] 0 0 0 [] (by simp) (by simp) r true ⟨s.Items.set k ⟨s.Items[k].Id,s.Items[k].Mail,4,s.Items[k].Pack⟩,s.Packs,s.Sent,s.Part,s.Of,s.Done⟩).trans (fin_if (okR_if (okR4 k4) (by rw [hwt,beq_iff_eq.2 b])) (fun h => ?_))
    rw [eff4 k4,set4 hs.ids hkl,hk]
   ·refine bndL (bndL (cnd_f (beq_eq_false_iff_ne.2 k1) (cnd_f (beq_eq_false_iff_ne.2 k2) (cnd_f (beq_eq_false_iff_ne.2 k3) (cnd_t (beq_iff_eq.2 k4) (bndL (s:=false) (bnd (in18_eq _ _ _) (cnd_t (decide_eq_true a) (bnd w1 (bnd (ixO_of hkl) (bnd hgk (inl_of (beq_eq_false_iff_ne.2 b))))))) (cnd_f rfl rfl)))))) rfl) ?_
    refine (z8 r.Kind r.Id [] 0 0 0 [] (by simp) (by simp) r false ⟨s.Items,s.Packs,s.Sent,s.Part,s.Of,s.Done⟩).trans (fin_if (okR_if (okR4 k4) (by rw [hwt,beq_eq_false_iff_ne.2 b])) (fun h => ?_))
    rw [okR4 k4,hwt,beq_eq_false_iff_ne.2 b] at h
    simp at h
  ·have hwt:wt s r.Id=false:=by unfold wt; rw [decide_eq_false a]; rfl
   refine bndL (bndL (cnd_f (beq_eq_false_iff_ne.2 k1) (cnd_f (beq_eq_false_iff_ne.2 k2) (cnd_f (beq_eq_false_iff_ne.2 k3) (cnd_t (beq_iff_eq.2 k4) (bndL (s:=false) (bnd (in18_eq _ _ _) (cnd_f (decide_eq_false a) rfl)) (cnd_f rfl rfl)))))) rfl) ?_
   refine (z8 r.Kind r.Id [] 0 0 0 [] (by simp) (by simp) r false ⟨s.Items,s.Packs,s.Sent,s.Part,s.Of,s.Done⟩).trans (fin_if (okR_if (okR4 k4) hwt) (fun h => ?_))
   rw [okR4 k4,hwt] at h
   simp at h
 have hopn:∀ (a:1≤r.Number∧r.Number≤65535),opn s r.Number = !decide (r.Number∈s.Done):=fun a=>by unfold opn; rw [decide_eq_true a,Bool.true_and]
 have hopf:∀ (a:¬ (1≤r.Number∧r.Number≤65535)),opn s r.Number=false:=fun a=>by unfold opn; rw [decide_eq_false a,Bool.false_and]
 by_cases k5:r.Kind=5
 ·obtain ⟨o1,ho1⟩:∃ o1:Bool,o1=(opn s r.Number&&(decide (1≤r.Data.length∧r.Data.length≤48)&&(decide (r.Offset=0)||decide (s.Of=r.Number∧r.Offset=(s.Part.length:Int))))):=⟨_,rfl⟩
  obtain ⟨pt,hpt⟩:∃ pt:List Int,pt=(if r.Offset=0 then r.Data else s.Part++r.Data):=⟨_,rfl⟩
  obtain ⟨of_,hof⟩:∃ of_:Int,of_=(if r.Offset=0 then r.Number else s.Of):=⟨_,rfl⟩
  refine bndL (bndL (cnd_f (beq_eq_false_iff_ne.2 k1) (cnd_f (beq_eq_false_iff_ne.2 k2) (cnd_f (beq_eq_false_iff_ne.2 k3) (cnd_f (beq_eq_false_iff_ne.2 k4) (cnd_t (beq_iff_eq.2 k5) (bndL (s:=o1) ?_ (bndL (s:=(pt,of_)) ?_ (bndL (s:=o1&&decide (pt.length≤5000)) ?_ rfl)))))))) rfl) ?_
  ·rw [ho1]
   refine bnd (in18_eq _ _ _) ?_
   by_cases a:1≤r.Number∧r.Number≤65535
   ·rw [hopn a]
    refine cnd_t (decide_eq_true a) (bnd (has18_eq _ _ (by omega)) ?_)
    cases hin:decide (r.Number∈s.Done)
    ·refine cnd_t rfl (bnd (in18_eq _ _ _) ?_)
     by_cases b:1≤r.Data.length∧r.Data.length≤48
     ·rw [decide_eq_true b]
      refine cnd_t (decide_eq_true (by omega)) ?_
      by_cases c:r.Offset=0
      ·rw [decide_eq_true c]; exact cnd_t (beq_iff_eq.2 c) rfl
      ·rw [decide_eq_false c]
       refine cnd_f (beq_eq_false_iff_ne.2 c) ?_
       by_cases d:s.Of=r.Number
       ·refine cnd_t (beq_iff_eq.2 d) (inl_of ?_)
        by_cases e:r.Offset=(s.Part.length:Int)
        ·rw [beq_iff_eq.2 e,decide_eq_true (⟨d,e⟩:s.Of=r.Number∧r.Offset=(s.Part.length:Int))]; rfl
        ·rw [beq_eq_false_iff_ne.2 e,decide_eq_false (fun h=>e h.2:¬ (s.Of=r.Number∧r.Offset=(s.Part.length:Int)))]; rfl
       ·rw [decide_eq_false (fun h=>d h.1:¬ (s.Of=r.Number∧r.Offset=(s.Part.length:Int)))]
        exact cnd_f (beq_eq_false_iff_ne.2 d) rfl
     ·rw [decide_eq_false b]
      exact cnd_f (decide_eq_false (by omega)) rfl
    ·exact cnd_f rfl rfl
   ·rw [hopf a]
    exact cnd_f (decide_eq_false a) rfl
  ·rw [hpt,hof]
   by_cases c:r.Offset=0
   ·rw [if_pos c,if_pos c]
    exact cnd_t (beq_iff_eq.2 c) (bnd (bnd (app_nil (by omega) (by omega)) rfl) rfl)
   ·rw [if_neg c,if_neg c]
    exact cnd_f (beq_eq_false_iff_ne.2 c) (bnd (app_of (by omega) (by omega)) rfl)
  ·cases o1
   ·exact cnd_f rfl rfl
   ·refine cnd_t rfl (inl_of ?_)
    rw [Bool.true_and]
    by_cases h:pt.length≤5000
    ·rw [decide_eq_true h,decide_eq_true (by omega)]
    ·rw [decide_eq_false h,decide_eq_false (by omega)]
  ·have hK:(opn s r.Number&&ckB s r)=(o1&&decide (pt.length≤5000)):=by
    rw [ho1,hpt]
    unfold ckB
    by_cases c:r.Offset=0
    ·rw [if_pos c,decide_eq_true c]
     by_cases b:1≤r.Data.length∧r.Data.length≤48
     ·rw [decide_eq_true b,decide_eq_true (by omega:r.Data.length≤5000)]; simp
     ·rw [decide_eq_false b]; simp
    ·rw [if_neg c,decide_eq_false c,List.length_append]
     by_cases d:s.Of=r.Number∧r.Offset=(s.Part.length:Int)
     ·rw [decide_eq_true d]
      by_cases e:s.Part.length+r.Data.length≤5000
      ·rw [decide_eq_true e,decide_eq_true (⟨d.1,d.2,e⟩:s.Of=r.Number∧r.Offset=(s.Part.length:Int)∧s.Part.length+r.Data.length≤5000)]; simp
      ·rw [decide_eq_false e,decide_eq_false (fun h=>e h.2.2:¬ (s.Of=r.Number∧r.Offset=(s.Part.length:Int)∧s.Part.length+r.Data.length≤5000))]; simp
     ·rw [decide_eq_false d,decide_eq_false (fun h=>d ⟨h.1,h.2.1⟩:¬ (s.Of=r.Number∧r.Offset=(s.Part.length:Int)∧s.Part.length+r.Data.length≤5000))]; simp
   refine (z8 r.Kind 0 [] 0 r.Number r.Offset r.Data (by simp) (by omega) r (o1&&decide (pt.length≤5000)) ⟨s.Items,s.Packs,s.Sent,pt,of_,s.Done⟩).trans (fin_if (okR_if (okR5 k5) hK) (fun h => ?_))
   rw [eff5 k5,hpt,hof]
 by_cases k6:r.Kind=6
 ·have hlp:=ra6_loop s s r (by omega) s.Done.length 0 BIG [] false (by omega) (by simp only [BIG]; omega) (by simp)
  rw [List.drop_zero,List.nil_append] at hlp
  have hgl:=gI_len r.Number s.Done false
  obtain ⟨q,hq⟩:∃ q:List Int,q=(gI r.Number s.Done false).1++(if (gI r.Number s.Done false).2=true then [] else [r.Number]):=⟨_,rfl⟩
  obtain ⟨p1,hp1⟩:∃ p1:List Int,p1=(if s.Of=r.Number then [] else s.Part):=⟨_,rfl⟩
  obtain ⟨p2,hp2⟩:∃ p2:Int,p2=(if s.Of=r.Number then-1 else s.Of):=⟨_,rfl⟩
  refine bndL (bndL (s:=(s.Items,s.Packs,s.Sent,p1,p2,q,false,e8,e8,[],[],false,e8,0,0,[],0,r.Number,0,[],opn s r.Number)) (cnd_f (beq_eq_false_iff_ne.2 k1) (cnd_f (beq_eq_false_iff_ne.2 k2) (cnd_f (beq_eq_false_iff_ne.2 k3) (cnd_f (beq_eq_false_iff_ne.2 k4) (cnd_f (beq_eq_false_iff_ne.2 k5) (cnd_t (beq_iff_eq.2 k6) (bndL (s:=opn s r.Number) ?_ (bndL hlp (bndL (s:=q) ?_ ?_))))))))) rfl) ?_
  ·refine bnd (in18_eq _ _ _) ?_
   by_cases a:1≤r.Number∧r.Number≤65535
   ·rw [hopn a]
    exact cnd_t (decide_eq_true a) (bnd (has18_eq _ _ (by omega)) rfl)
   ·rw [hopf a]
    exact cnd_f (decide_eq_false a) rfl
  ·rw [hq]
   cases hb:(gI r.Number s.Done false).2
   ·rw [if_neg (by simp)]
    exact cnd_t rfl (bnd (app_of (by simp; omega) (by simp; omega)) rfl)
   ·rw [if_pos rfl,List.append_nil]
    exact cnd_f rfl rfl
  ·rw [hp1,hp2]
   by_cases h:s.Of=r.Number
   ·rw [if_pos h,if_pos h]; exact cnd_t (beq_iff_eq.2 h) rfl
   ·rw [if_neg h,if_neg h]; exact cnd_f (beq_eq_false_iff_ne.2 h) rfl
  ·refine (z8 r.Kind 0 [] 0 r.Number 0 [] (by simp) (by simp) r (opn s r.Number) ⟨s.Items,s.Packs,s.Sent,p1,p2,q⟩).trans (fin_if (okR_if (okR6 k6) rfl) (fun h => ?_))
   rw [okR6 k6,Bool.and_eq_true] at h
   have hnd:r.Number ∉ s.Done:=by
    have:=h.2
    simp only [opn,Bool.and_eq_true,Bool.not_eq_true',decide_eq_false_iff_not] at this
    exact this.2
   rw [eff6 k6,hq,gI_ins _ _ hnd,hp1,hp2]
 ·refine bndL (bndL (cnd_f (beq_eq_false_iff_ne.2 k1) (cnd_f (beq_eq_false_iff_ne.2 k2) (cnd_f (beq_eq_false_iff_ne.2 k3) (cnd_f (beq_eq_false_iff_ne.2 k4) (cnd_f (beq_eq_false_iff_ne.2 k5) (cnd_f (beq_eq_false_iff_ne.2 k6) rfl)))))) rfl) ?_
  refine (z8 r.Kind 0 [] 0 0 0 [] (by simp) (by simp) r false ⟨s.Items,s.Packs,s.Sent,s.Part,s.Of,s.Done⟩).trans (fin_if (okR_if (okR7 k1 k2 k3 k4 k5 k6) rfl) (fun h => ?_))
  rw [okR7 k1 k2 k3 k4 k5 k6] at h
  simp at h
def rfS (l:List T_Rec):(((List T_Item)×Int×(List Int)×(List Int)×Int×(List Int)×Int))→Option (((List T_Item)×Int×(List Int)×(List Int)×Int×(List Int)×Int)⊕(((List T_Item)×Int×(List Int)×(List Int)×Int×(List Int))⊕(T_Spool×Int))):=(fun ((s17,s18,s19,s20,s21,s22,s23):(List T_Item)×Int×(List Int)×(List Int)×Int×(List Int)×Int) =>
 cond ((decide (s23<(l.length:Int))))
  ((ixO s23 l.length).bind fun v3 =>
  (getO l v3).bind fun v4 =>
  (wherryref18_Add (T_Spool.mk s17 s18 s19 s20 s21 s22) ((T_Rec.mk v4.Kind ((T_Mail.mk (T_Path.mk v4.Mail.From.Null v4.Mail.From.Local v4.Mail.From.Domain) v4.Mail.To v4.Mail.Body v4.Mail.Quiet v4.Mail.Helo v4.Mail.At)) v4.Id v4.Ids v4.Origin v4.Number v4.Offset v4.Data))).bind fun v5 =>
  cond ((v5.2 != 0))
   (some (.inr (.inr (((T_Spool.mk s17 s18 s19 s20 s21 s22),s23)))))
   ((some (IntKind.i64.wrap (s23+1))).bind fun v7 =>
   some (.inl (v5.1.Items,v5.1.Packs,v5.1.Sent,v5.1.Part,v5.1.Of,v5.1.Done,v7))))
  (some (.inr (.inl (s17,s18,s19,s20,s21,s22)))))
theorem rfold_loop (l:List T_Rec) (hr:∀ r∈l,Rok r) (hl:l.length<999999):∀ (d i:Nat) (s:T_Spool) (fuel:Nat),i+d=l.length→d<fuel→Inv i s→(∀ x∈s.Items,Stt x) →
  bindS (S:=((List T_Item)×Int×(List Int)×(List Int)×Int×(List Int))) (A:=(T_Spool×Int)) (loopF (rfS l) fuel (s.Items,s.Packs,s.Sent,s.Part,s.Of,s.Done,(i:Int))) (fun ((s27,s28,s29,s30,s31,s32):(List T_Item)×Int×(List Int)×(List Int)×Int×(List Int)) =>
   some (((T_Spool.mk s27 s28 s29 s30 s31 s32),(l.length:Int)))) some=some ((foldS s (l.drop i)).1,((i+(foldS s (l.drop i)).2:Nat):Int))
 | d,i,s,0,_,hf,_,_=>absurd hf (Nat.not_lt_zero d)
 | 0,i,s,fuel+1,hd,_,hs,_=>by
  obtain rfl:i=l.length:=by omega
  rw [List.drop_length]
  exact bndL (loop_exit (cnd_f (decide_eq_false (by omega)) rfl)) rfl
 | d+1,i,s,fuel+1,hd,hf,hs,ht=>by
  have hi:i<l.length:=by omega
  have hri:=hr _ (List.getElem_mem hi)
  have hadd:=radd_eq hs ht hri
  rw [List.drop_eq_getElem_cons hi]
  simp only [foldS]
  by_cases ho:okS s l[i]=true
  ·have ho':okR s l[i]=true:=ho
   rw [if_pos ho'] at hadd
   rw [if_pos ho]
   have ih:=rfold_loop l hr hl d (i+1) (eff s l[i]) fuel (by omega) (by omega) (inv_eff (by omega) hs hri ho) (next_eff hs ht ho).stt
   rw [show i+((foldS (eff s l[i]) (l.drop (i+1))).2+1)=i+1+(foldS (eff s l[i]) (l.drop (i+1))).2 from by omega,← ih,loop_next]
   exact cnd_t (decide_eq_true (by omega)) (bnd (ixO_of hi) (bnd (by simp [getO,hi]:getO l i=some l[i]) (bnd hadd (cnd_f rfl (bnd (congrArg some (wrap_succ (n:=i) (by omega))) rfl)))))
  ·have ho':¬ okR s l[i]=true:=ho
   rw [if_neg ho'] at hadd
   rw [if_neg ho]
   exact bndR (a:=(s,(i:Int))) (loop_exit (cnd_t (decide_eq_true (by omega)) (bnd (ixO_of hi) (bnd (by simp [getO,hi]:getO l i=some l[i]) (bnd hadd (cnd_t rfl rfl)))))) rfl
theorem sfold_eq (l:List T_Rec) (hr:∀ r∈l,Rok r) (hl:l.length<999999):wherryref18_Fold l=some ((foldS newSp l).1,((foldS newSp l).2:Int)):=by
 unfold wherryref18_Fold
 have h:=rfold_loop l hr hl l.length 0 newSp BIG (by omega) (by simp only [BIG]; omega) inv_new (by intro x hx; cases hx)
 rw [List.drop_zero,Nat.zero_add] at h
 exact bnd rfl h
def tbS (s:T_Spool):((Int×Int))→Option ((Int×Int)⊕((Int)⊕Int)):=(fun ((s29,s30):Int×Int) =>
 cond ((decide (s30<(s.Items.length:Int))))
  (bindS (S:=Int) (A:=((Int×Int)⊕((Int)⊕Int)))
   ((ixO s30 s.Items.length).bind fun v2 =>
   (getO s.Items v2).bind fun v3 =>
   (tally_waits ((T_Item.mk v3.Id ((T_Mail.mk (T_Path.mk v3.Mail.From.Null v3.Mail.From.Local v3.Mail.From.Domain) v3.Mail.To v3.Mail.Body v3.Mail.Quiet v3.Mail.Helo v3.Mail.At)) v3.State v3.Pack))).bind fun v4 =>
   cond (v4)
    ((some (IntKind.i64.wrap ((v3.Mail.Body.length:Int)+48))).bind fun v6 =>
    (some (IntKind.i64.wrap (v6-1))).bind fun v7 =>
    (quoO .i64 v7 48).bind fun v8 =>
    (some (IntKind.i64.wrap (2 * v8))).bind fun v9 =>
    (some (IntKind.i64.wrap (40+v9))).bind fun v10 =>
    (some (IntKind.i64.wrap (8 * (v3.Mail.To.length:Int)))).bind fun v11 =>
    (some (IntKind.i64.wrap (v10+v11))).bind fun v12 =>
    (some (IntKind.i64.wrap (s29+v12))).bind fun v13 =>
    some (.inl v13))
    (some (.inl s29)))
   (fun (s47:Int) =>
    (some (IntKind.i64.wrap (s30+1))).bind fun v19 =>
    some (.inl (s47,v19))) some)
  (some (.inr (.inl s29))))
def twS (s:T_Spool):((Int×Int))→Option ((Int×Int)⊕((Int)⊕Int)):=(fun ((s22,s23):Int×Int) =>
 cond ((decide (s23<(s.Items.length:Int))))
  (bindS (S:=Int) (A:=((Int×Int)⊕((Int)⊕Int)))
   ((ixO s23 s.Items.length).bind fun v2 =>
   (getO s.Items v2).bind fun v3 =>
   (tally_waits ((T_Item.mk v3.Id ((T_Mail.mk (T_Path.mk v3.Mail.From.Null v3.Mail.From.Local v3.Mail.From.Domain) v3.Mail.To v3.Mail.Body v3.Mail.Quiet v3.Mail.Helo v3.Mail.At)) v3.State v3.Pack))).bind fun v4 =>
   cond (v4)
    ((some (IntKind.i64.wrap (s22+1))).bind fun v6 =>
    some (.inl v6))
    (some (.inl s22)))
   (fun (s40:Int) =>
    (some (IntKind.i64.wrap (s23+1))).bind fun v12 =>
    some (.inl (s40,v12))) some)
  (some (.inr (.inl s22))))
theorem take_one {A:Type} {l:List A} {i:Nat} (h:i<l.length):l.take (i+1)=l.take i++[l[i]]:=by
 rw [List.take_add_one,List.getElem?_eq_getElem h]; rfl
def wfn (x:T_Item):Bool:=(x.State==1)||(x.State==2)
def bw (x:T_Item):Nat:=if wfn x=true then 40+2 * ((x.Mail.Body.length+47) / 48)+8 * x.Mail.To.length else 0
def bwS (l:List T_Item):Nat:=(l.map bw).sum
def cnt (l:List T_Item):Nat:=l.countP wfn
theorem bwS_app (a b:List T_Item):bwS (a++b)=bwS a+bwS b:=by simp [bwS]
theorem waits_eq (x:T_Item):tally_waits x=some (wfn x):=by
 unfold tally_waits wfn
 by_cases h:x.State=1
 ·exact bndL (s:=true) (cnd_t (beq_iff_eq.2 h) rfl) (by rw [h]; rfl)
 ·refine bndL (s:=(x.State==2)) (cnd_f (beq_eq_false_iff_ne.2 h) rfl) (by rw [beq_eq_false_iff_ne.2 h]; rfl)
theorem bw_le {x:T_Item} (h:LM x.Mail):bw x≤2000:=by
 have h1:=mW_len h
 have h2:=h.1
 unfold bw; split <;> omega
theorem bwS_le {l:List T_Item} (h:∀ x∈l,LM x.Mail):bwS l≤2000 * l.length:=by
 induction l with
 | nil=>exact Nat.le_refl _
 | cons x l ih =>
  have:=ih fun y hy=>h y (List.mem_cons_of_mem _ hy)
  have:=bw_le (h x List.mem_cons_self)
  simp only [bwS,List.map_cons,List.sum_cons,List.length_cons] at *
  omega
theorem bound_eq {s:T_Spool} (hn:s.Items.length≤1000000) (hl:∀ x∈s.Items,LM x.Mail):tally_Bound s=some ((40+bwS s.Items:Nat):Int):=by
 unfold tally_Bound
 have hle:=bwS_le hl
 refine bndL (s:=((40+bwS s.Items:Nat):Int)) (loop_from (f:=tbS s) (fun i=>(((40+bwS (s.Items.take i):Nat):Int),((i:Nat):Int))) s.Items.length BIG rfl (by simp only [BIG]; omega) (fun i hi => ?_) ?_) rfl
 ·have hg:=getO_of hi
  have ht:=take_one hi
  have hx:=hl _ (List.getElem_mem hi)
  have hb:bwS (s.Items.take i)≤bwS s.Items:=by
   have:=bwS_app (s.Items.take i) (s.Items.drop i)
   rw [List.take_append_drop] at this
   omega
  have hs:bwS (s.Items.take (i+1))=bwS (s.Items.take i)+bw s.Items[i]:=by rw [ht,bwS_app]; simp [bwS]
  rw [hs]
  generalize bwS (s.Items.take i)=B at hb
  generalize s.Items[i]=x at hg hx
  have h1:=mW_len hx
  have h2:=hx.1
  have hw:IntKind.i64.wrap ((i:Int)+1)=((i+1:Nat):Int):=wrap_succ (by omega)
  refine cnd_t (decide_eq_true (by omega)) ?_
  by_cases hwf:wfn x=true
  ·have hbw:bw x=40+2 * ((x.Mail.Body.length+47) / 48)+8 * x.Mail.To.length:=by unfold bw; rw [if_pos hwf]
   have hwt:tally_waits x=some true:=by rw [waits_eq,hwf]
   have w1:IntKind.i64.wrap ((x.Mail.Body.length:Int)+48)=((x.Mail.Body.length+48:Nat):Int):=by rw [wrap_i64 (by omega) (by omega)]; simp
   have w2:IntKind.i64.wrap (((x.Mail.Body.length+48:Nat):Int)-1)=((x.Mail.Body.length+47:Nat):Int):=by rw [wrap_i64 (by omega) (by omega)]; omega
   have w3:quoO .i64 ((x.Mail.Body.length+47:Nat):Int) 48=some (((x.Mail.Body.length+47) / 48:Nat):Int):=quo_nat _ 48 (by omega) (by omega)
   generalize hq:(x.Mail.Body.length+47) / 48=q at hbw w3
   have hq2:q≤1000:=by omega
   have w4:IntKind.i64.wrap (2 * (q:Int))=((2 * q:Nat):Int):=by rw [wrap_i64 (by omega) (by omega)]; omega
   have w5:IntKind.i64.wrap (40+((2 * q:Nat):Int))=((40+2 * q:Nat):Int):=by rw [wrap_i64 (by omega) (by omega)]; omega
   have w6:IntKind.i64.wrap (8 * (x.Mail.To.length:Int))=((8 * x.Mail.To.length:Nat):Int):=by rw [wrap_i64 (by omega) (by omega)]; omega
   have w7:IntKind.i64.wrap (((40+2 * q:Nat):Int)+((8 * x.Mail.To.length:Nat):Int))=((40+2 * q+8 * x.Mail.To.length:Nat):Int):=by rw [wrap_i64 (by omega) (by omega)]; omega
   have w8:IntKind.i64.wrap (((40+B:Nat):Int)+((40+2 * q+8 * x.Mail.To.length:Nat):Int))=((40+(B+bw x):Nat):Int):=by rw [wrap_i64 (by omega) (by omega)]; omega
   exact bndL (s:=((40+(B+bw x):Nat):Int)) (bnd (ixO_of hi) (bnd hg (bnd hwt (cnd_t rfl (bnd (congrArg some w1) (bnd (congrArg some w2) (bnd w3 (bnd (congrArg some w4) (bnd (congrArg some w5) (bnd (congrArg some w6) (bnd (congrArg some w7) (bnd (congrArg some w8) rfl)))))))))))) (bnd (congrArg some hw) rfl)
  ·have hbw:bw x=0:=by unfold bw; rw [if_neg hwf]
   rw [Bool.not_eq_true] at hwf
   have hwt:tally_waits x=some false:=by rw [waits_eq,hwf]
   rw [hbw]
   exact bndL (s:=((40+B:Nat):Int)) (bnd (ixO_of hi) (bnd hg (bnd hwt (cnd_f rfl rfl)))) (bnd (congrArg some hw) rfl)
 ·rw [List.take_length]
  exact cnd_f (decide_eq_false (by omega)) rfl
theorem wcount_eq {s:T_Spool} (hn:s.Items.length≤1000000):tally_Waits s=some ((cnt s.Items:Nat):Int):=by
 unfold tally_Waits cnt
 refine bndL (s:=((s.Items.countP wfn:Nat):Int)) (loop_from (f:=twS s) (fun i=>((((s.Items.take i).countP wfn:Nat):Int),((i:Nat):Int))) s.Items.length BIG rfl (by simp only [BIG]; omega) (fun i hi => ?_) ?_) rfl
 ·have hg:=getO_of hi
  have ht:=take_one hi
  have hb:=List.countP_le_length (p:=wfn) (l:=s.Items.take i)
  rw [List.length_take] at hb
  rw [ht,List.countP_append,List.countP_singleton]
  generalize (s.Items.take i).countP wfn=B at hb
  generalize s.Items[i]=x at hg
  have hwt:=waits_eq x
  have hw:IntKind.i64.wrap ((i:Int)+1)=((i+1:Nat):Int):=wrap_succ (by omega)
  have hwb:IntKind.i64.wrap ((B:Int)+1)=((B+1:Nat):Int):=wrap_succ (by omega)
  refine cnd_t (decide_eq_true (by omega)) ?_
  by_cases hwf:wfn x=true
  ·rw [hwf] at hwt
   rw [hwf,if_pos rfl]
   exact bndL (s:=((B+1:Nat):Int)) (bnd (ixO_of hi) (bnd hg (bnd hwt (cnd_t rfl (bnd (congrArg some hwb) rfl))))) (bnd (congrArg some hw) rfl)
  ·rw [Bool.not_eq_true] at hwf
   rw [hwf] at hwt
   rw [hwf]
   exact bndL (s:=(B:Int)) (bnd (ixO_of hi) (bnd hg (bnd hwt (cnd_f rfl rfl)))) (bnd (congrArg some hw) rfl)
 ·rw [List.take_length]
  exact cnd_f (decide_eq_false (by omega)) rfl
/-! What a record does to them. -/
theorem foldS_le26:∀ (l:List T_Rec) (s:T_Spool),(foldS s l).2≤l.length
 | [],s=>Nat.le_refl _
 | r::l,s=>by
  simp only [foldS]
  split
  ·have:=foldS_le26 l (eff s r)
   simp only [List.length_cons]; omega
  ·exact Nat.zero_le _
end Go.Abs.Sh
