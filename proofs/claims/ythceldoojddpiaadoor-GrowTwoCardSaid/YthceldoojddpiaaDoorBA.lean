import Derived.Test.YthceldoojddpiaaDoorC1
/-!
 An own row that is appended to and stays: the answer lies behind it in its block,or in a new one.
-/
set_option linter.unusedVariables false
namespace Go.Abs
section
variable {P:Program}
def LOp2 (P:Program) (o:Oper) (N T G1 G2:List Ent) (W:List Loc):Prop :=
 ∀ (g:Gh) (F:List Ent) (a:Act) (w:World) (K:Act→World→Prop) (Q:Exit→Act→World→Prop),(∀ d,o.dst=some d→d<g.n) →
  Sat g (N++(T++F)) a w→(∀ e∈N++F,clrEnt W e=true) →
  (∀ g' a' w',g.le g'→(Sat g' (N++(G1++F)) a' w'∨Sat g' (N++(G2++F)) a' w')→K a' w')→∀ r,o.wpIn (FW r) 0 P a w K Q
theorem LOp2.core {o:Oper} {N T G1 G2:List Ent} {W:List Loc}
  (h:∀ (g:Gh) (V:Loc→Value) (oN oT:List Nat) (a:Act) (w:World),(∀ d,o.dst=some d→d<g.n)→Pre g V N T oN oT a w →
   Yl P o a w fun x w'=>Post g V G1 W oT o.dst a w x w'∨Post g V G2 W oT o.dst a w x w'):LOp2 P o N T G1 G2 W:=by
 intro g F a w K Q hd hs hc hk
 obtain ⟨V,ow,hst,hes⟩:=hs
 obtain ⟨oN,oR,rfl,hN,hR⟩:=Es_append.1 hes
 obtain ⟨oT,oF,rfl,hT,hF⟩:=Es_append.1 hR
 have hnd:=hst.nodup
 have hnd1:(oN++oT).Nodup:=by rw [← List.append_assoc] at hnd; exact (List.nodup_append.1 hnd).1
 have hpre:Pre g V N T oN oT a w:=⟨hst.val,hst.size,hst.imm,fun b hb=>by
  have:=hst.own b (by simp at hb ⊢; rcases hb with h | h <;> simp [h])
  exact ⟨this.1,this.2.2⟩,fun b hb=>(hst.own b (by simp at hb ⊢; rcases hb with h | h <;> simp [h])).2.1,hnd1,hN,hT,hst.chg.size⟩
 have fin:∀ (G:List Ent) (x:Value) (w':World),Post g V G W oT o.dst a w x w'→∃ g',g.le g'∧Sat g' (N++(G++F)) (a.put o.dst x) w':=by
  rintro G x w' ⟨g',V',oG,hle,hnew,himm,hchg,hV,hval,hG,hGn,hGo⟩
  have hIM:∀ b,g.Im b→g'.Im b:=fun b hb=>by rw [hle.Im]; exact hb
  have hnF:∀ b,b∈oN∨b∈oF→b ∉ oT:=by
   intro b hb hT
   rcases hb with hb | hb
   ·exact (List.nodup_append.1 hnd1).2.2 b hb b hT rfl
   ·have h1:=(List.nodup_append.1 hnd).2.1
    exact (List.nodup_append.1 h1).2.2 b hT b hb rfl
  have hownlt:∀ b,b∈oN∨b∈oT∨b∈oF→b<w.heap.size∧(g.w0.heap.size≤b∨b∈g.io)∧¬ g.imm b:=fun b hb=>hst.own b (by simpa using hb)
  have himmT:∀ b,g.imm b→b ∉ oT:=fun b hb hT=>(hownlt b (.inr (.inl hT))).2.2 hb
  have hNstab:Es g' V' w' N oN:=Es_stab hle.Imm hIM hV N oN (fun e he=>hc e (by simp [he])) (fun b hb=>by
   rcases hb with hb | hb
   ·exact hchg.block b (hownlt b (.inl hb)).1 (hnF b (.inl hb))
   ·exact hchg.block b (hst.imm b hb) (himmT b hb)) hN
  have hFstab:Es g' V' w' F oF:=Es_stab hle.Imm hIM hV F oF (fun e he=>hc e (by simp [he])) (fun b hb=>by
   rcases hb with hb | hb
   ·exact hchg.block b (hownlt b (.inr (.inr hb))).1 (hnF b (.inr hb))
   ·exact hchg.block b (hst.imm b hb) (himmT b hb)) hF
  refine ⟨g',hle,V',oN++(oG++oF),⟨hval,?_,?_,?_,?_,?_,?_,?_,?_⟩,Es_append.2 ⟨oN,_,rfl,hNstab,Es_append.2 ⟨oG,oF,rfl,hG,hFstab⟩⟩⟩
  ·rw [hle.n,← hst.size]; unfold Act.put; split <;> simp
  ·rw [hle.ds]; unfold Act.put; split <;> exact hst.defers
  ·rw [hle.ds]; exact hst.dnd
  ·intro D hD
   rw [hle.ds] at hD
   obtain ⟨h1,h2,h3,h4⟩:=hst.marks D hD
   have hlt:D<w.heap.size:=(Array.getElem?_eq_some_iff.1 h1).1
   refine ⟨(hchg.block D hlt (fun hT=>h2 (by simp [hT]))).trans h1,fun hm => ?_,by rw [hle.w0]; exact h3,fun hi => ?_⟩
   ·rcases List.mem_append.1 hm with hm | hm
    ·exact h2 (by simp [hm])
    ·rcases List.mem_append.1 hm with hm | hm
     ·rcases (hGo D hm).1 with h5 | h5
      ·exact h2 (by simp [h5])
      ·omega
     ·exact h2 (by simp [hm])
   ·rcases hi with hi | hi
    ·rcases hnew D hi with h5 | h5 | h5
     ·exact h4 (.inl h5)
     ·exact h2 (by simp [h5])
     ·omega
    ·rw [hle.Im] at hi; exact h4 (.inr hi)
  ·have h1:=List.nodup_append.1 hnd
   have h2:=List.nodup_append.1 h1.2.1
   refine List.nodup_append.2 ⟨h1.1,List.nodup_append.2 ⟨hGn,h2.2.1,?_⟩,?_⟩
   ·intro b hb c hc e
    subst e
    rcases (hGo b hb).1 with h3 | h3
    ·exact h2.2.2 b h3 b hc rfl
    ·have:=(hownlt b (.inr (.inr hc))).1; omega
   ·intro b hb c hc e
    subst e
    rcases List.mem_append.1 hc with hc | hc
    ·rcases (hGo b hc).1 with h3 | h3
     ·exact h1.2.2 b hb b (by simp [h3]) rfl
     ·have:=(hownlt b (.inl hb)).1; omega
    ·exact h1.2.2 b hb b (by simp [hc]) rfl
  ·intro b hb
   rw [hle.w0,hle.io]
   have hold:b∈oN∨b∈oF→b<w'.heap.size∧(g.w0.heap.size≤b∨b∈g.io)∧¬ g'.imm b:=by
    intro hb'
    have h1:=hownlt b (hb'.imp id .inr)
    refine ⟨Nat.lt_of_lt_of_le h1.1 hchg.size,h1.2.1,fun hi => ?_⟩
    rcases hi with hi | hi
    ·rcases hnew b hi with h2 | h2 | h2
     ·exact h1.2.2 (.inl h2)
     ·exact hnF b hb' h2
     ·omega
    ·rw [hle.Im] at hi; exact h1.2.2 (.inr hi)
   rcases List.mem_append.1 hb with hb | hb
   ·exact hold (.inl hb)
   ·rcases List.mem_append.1 hb with hb | hb
    ·obtain ⟨h1,h2,h3⟩:=hGo b hb
     refine ⟨h2,?_,h3⟩
     rcases h1 with h1 | h1
     ·exact (hownlt b (.inr (.inl h1))).2.1
     ·exact .inl (Nat.le_trans hst.chg.size h1)
    ·exact hold (.inr hb)
  ·intro b hb
   rcases hb with hb | hb
   ·exact himm b hb
   ·rw [hle.Im] at hb; exact Nat.lt_of_lt_of_le (hst.imm b (.inr hb)) hchg.size
  ·rw [hle.w0,hle.io]
   refine hst.chg.trans' hchg ?_
   intro b hb
   rcases (hownlt b (.inr (.inl hb))).2.1 with h1 | h1
   ·exact .inr h1
   ·exact .inl h1
 refine fun r=>h g V oN oT a w hd hpre K Q ?_ r
 rintro x w' (hp | hp)
 ·obtain ⟨g',h1,h2⟩:=fin _ x w' hp
  exact hk g' _ w' h1 (.inl h2)
 ·obtain ⟨g',h1,h2⟩:=fin _ x w' hp
  exact hk g' _ w' h1 (.inr h2)
theorem run_append_keep {w:World} {T ty e:TypeId} {i:TypeInfo} {zv:Value} {z:Nat} (hT:P.underlying T=some (.slice e)) (hi:P.info? e=some i) (hz:i.zero=some zv) (hs:i.size=z) (hzc:zv.cells.size=z) (h0:0<z)
  {v:Value} {n m c:Nat} {xs ys:List Value} {A:Option Addr} (hown:w.ownsRow 0 e z v n xs) (hy:ys.length=m * z) (hr:reads w A ys) (h1:∀ u∈ys,u.oneCell'=true) (h63:n+m≤maxLen) (hb:(n+m) * i.bytes≤140737488355328) :
  ∃ v' w',(Builtin.append_ #[T,T] ty #[v,.slice A m c]).run P w = .ok v' w'∧w'.ownsRow 0 e z v' (n+m) (xs++ys) ∧
   ((∃ b cap,v = .slice (some ⟨b,0,none⟩) n cap∧v' = .slice (some ⟨b,0,none⟩) (n+m) cap∧w.grownBy w' (some b))∨(w.grownBy w' none∧(v'.ownBlock=none∨v'.ownBlock=some w.heap.size))):=by
 cases A with
 | none =>
  have:ys=[]:=by
   apply Classical.byContradiction
   intro hne
   obtain ⟨ad,e,_⟩:=hr hne
   cases e
  subst this
  have hm:m=0:=by
   rcases Nat.eq_zero_or_pos m with h | h
   ·exact h
   ·have:=Nat.mul_pos h h0; simp at hy; omega
  subst hm
  refine ⟨v,w,run_append_none' T ty e i z hT hi c v n xs hown,by simpa using hown,?_⟩
  rcases hown.2 with ⟨rfl,rfl⟩ | ⟨g,cap,cur,rfl,_⟩
  ·exact .inr ⟨⟨rfl,rfl,rfl,Nat.le_refl _,fun _ _ _=>rfl⟩,.inl rfl⟩
  ·exact .inl ⟨g,cap,rfl,rfl,⟨rfl,rfl,rfl,Nat.le_refl _,fun _ _ _=>rfl⟩⟩
 | some a =>
  have hnews:∀ j u,ys[j]? = some u→w.cell? (a.add j)=some u:=by
   intro j u hu
   obtain ⟨ad,e,hc⟩:=hr (fun e=>by subst e; simp at hu)
   cases e
   exact hc j u hu
  rcases hown.2 with ⟨rfl,rfl⟩ | ⟨g,cap,cur,rfl,hbg,hg,hnc,hcm,hcs,htake⟩
  ·obtain ⟨v',w',p1,p2,p3,p4⟩:=run_append_fl (P:=P) (ty:=ty) (c:=c) hT hi hz hs hzc h0 hown hy hr h1 h63 hb
   refine ⟨v',w',p1,p2,.inr ⟨by simpa [Value.ownBlock] using p3,by simpa [Value.ownBlock] using p4⟩⟩
  ·by_cases hroom:n+m≤cap
   ·obtain ⟨w',h1',h2',h3'⟩:=run_append_fits (P:=P) w 0 T ty e i z hT hi hs g n cap xs hown a m c ys hy hnews h1 hroom
    exact ⟨_,w',h1',h2',.inl ⟨g,cap,rfl,rfl,h3'⟩⟩
   ·subst hs
    have holds:∀ j u,xs[j]? = some u→w.cell? ((⟨g,0,none⟩:Addr).add j)=some u:=hown.cells (g:=g) rfl
    have hsmall:n+m≤9223372036854775807:=by simp only [maxLen] at h63; omega
    have hlen:(xs++ys).length=(n+m) * i.size:=by rw [List.length_append,hown.1,hy,Nat.add_mul]
    have hr':=run_append_grow (P:=P) w T ty e i zv hT hi hz ⟨g,0,none⟩ n cap xs hown.1 holds a m c ys hy hnews (by omega) (by omega) (growslice_fits (by omega) hb)
    have hge:=grownCap_ge w (n+m) cap e
    have hcm':grownCap w (n+m) cap e≤maxLen:=grownCap_le_maxLen w (n+m) cap e h63
    refine ⟨_,_,hr',⟨hlen,.inr ⟨w.heap.size,_,_,rfl,Nat.zero_le _,heap_alloc_new w.drew _,hge,hcm',?_,?_⟩⟩,.inr ⟨⟨rfl,rfl,rfl,by simp,fun k hk _=>heap_alloc_old w.drew _ k hk⟩,.inr rfl⟩⟩
    ·simp only [Array.size_append,List.size_toArray,size_zeroCells,hzc,hown.1,hy,← Nat.add_mul]
     congr 1
     omega
    ·simp only [Array.toList_append,List.append_assoc]
     rw [← List.append_assoc,← hlen]
     exact List.take_left
section
variable {ty:TypeId} {pos:String} {aft:Array Edge} {gd:Option (Nat×Bool)}
theorem op_append_keep (N:List Ent) (d t:Nat) {T e t':TypeId} (x y:Operand) {z by_:Nat} {my:Md} {xs ys:List Value} (n m:Nat) (hE:ElemT P T e z by_) (hx:dupOp (N++[(t,.fl (.own e) z xs)]) x = .same (.slot t)) (hy:rd N y = .fl my z ys)
  (hn:xs.length=n * z) (hm:ys.length=m * z) (hb:(n+m) * by_≤140737488355328) (h63:n+m≤maxLen) (hdt:t≠d) :
  LOp2 P ⟨some d,.call ⟨.builtin .append,#[x,y],#[T,T]⟩,t',pos,aft,gd⟩ N [(t,.fl (.own e) z xs)] [(d,.fl (.own e) z (xs++ys)),(t,.cut (.slot d) n)] [(d,.fl (.own e) z (xs++ys)),(t,.fl (.own e) z xs)] [.slot d]:=by
 obtain ⟨i,zv,hT,hi,hz,hs,hzc,h0,rfl⟩:=hE.ex
 refine LOp2.core fun g V oN oT a w hd hp => ?_
 have hT':=hp.esT
 simp only [Es] at hT'
 obtain ⟨ob,o2,rfl,⟨hR,_⟩,rfl⟩:=hT'
 have hax:=dupOp_R hp.val (Es_append.2 ⟨oN,_,rfl,hp.esN,hp.esT⟩) x
 rw [hx] at hax
 have hR0:=hR
 simp only [R] at hax hR
 obtain ⟨a0,n0,c0,⟨h3,_⟩,hl0,hone0,_,hown,hob⟩:=hR
 obtain ⟨o',_,hr⟩:=rd_R hp.val hp.esN y
 rw [hy] at hr
 simp only [R] at hr
 obtain ⟨A,m',c,⟨he,_⟩,hl,hone,hrd,_⟩:=hr
 have em:m'=m:=Nat.eq_of_mul_eq_mul_right h0 (by omega)
 subst em
 have en:n0=n:=Nat.eq_of_mul_eq_mul_right h0 (by omega)
 subst en
 obtain ⟨v',w',hrun,hown',hcase⟩:=run_append_keep (P:=P) (ty:=t') (c:=c) hT hi hz hs hzc h0 hown hl hrd hone h63 (by simpa using hb)
 have hrun':(execOp a.eval ⟨some d,.call ⟨.builtin .append,#[x,y],#[T,T]⟩,t',pos,aft,gd⟩).run P w = .ok (.value v') w':=by
  have h4:a.eval x=V (.slot t):=hax.1
  simp [execOp,resolve,invoke,builtin,he,h4,hrun]
 refine (Yl.val hrun').mono ?_
 rintro v w2 ⟨rfl,rfl⟩
 have hlt:d<g.n:=hd d rfl
 have hth:hit [.slot d] (.slot t)=false:=by simp [hit]; exact fun h=>hdt h.symm
 have hone':∀ u∈xs++ys,u.oneCell'=true:=fun u hu=>(List.mem_append.1 hu).elim (hone0 u) (hone u)
 rcases hcase with ⟨b,cap,hv0,hv,hg⟩ | ⟨hg,hblk⟩
 ·have hbo:ob=[b]:=by rw [hob,hv0]; rfl
  have hchg:Chg ob w w2:=by rw [hbo]; exact Chg.of_grown hg
  refine .inl ⟨g,setV V d v,[b],g.le_refl,fun b hb => .inl hb,fun b hb=>Nat.lt_of_lt_of_le (hp.imm b (.inl hb)) hchg.size,by simpa using hchg,fun l hl=>setV_hit hl,fun u=>setV_val hp.val hp.size hlt u,?_,by simp,?_⟩
  ·refine ⟨[b],[],rfl,⟨?_,trivial⟩,[],[],rfl,⟨?_,trivial⟩,rfl⟩
   ·show R g _ _ _ (setV V d v (.slot d)) _
    rw [setV_slot]
    have:=own_fl (g:=g) (V:=setV V d v) hown' hone'
    rw [hv] at this ⊢
    exact this
   ·show R g _ _ (.cut (.slot d) n0) (setV V d v (.slot t)) []
    rw [setV_hit hth]
    simp only [R]
    exact ⟨some ⟨b,0,none⟩,n0+m',cap,by rw [setV_slot,hv],Nat.le_add_right _ _,fun _=>⟨_,rfl⟩,hv0,trivial⟩
  ·intro b' hb'
   have e1:b'=b:=by simpa using hb'
   subst e1
   have hin:b'∈ob:=by rw [hbo]; simp
   exact ⟨.inl (by simp [hin]),Nat.lt_of_lt_of_le (hp.own b' (by simp [hin])).1 hchg.size,(hp.own b' (by simp [hin])).2⟩
 ·have hchg:Chg [] w w2:=Chg.of_grown hg
  refine .inr ⟨g,setV V d v,v.ownBlock.toList++ob,g.le_refl,fun b hb => .inl hb,fun b hb=>Nat.lt_of_lt_of_le (hp.imm b (.inl hb)) hchg.size,hchg.mono (by simp),fun l hl=>setV_hit hl,fun u=>setV_val hp.val hp.size hlt u,?_,?_,?_⟩
  ·refine ⟨v.ownBlock.toList,ob,rfl,⟨?_,trivial⟩,ob,[],by simp,⟨?_,trivial⟩,rfl⟩
   ·show R g _ _ _ (setV V d v (.slot d)) _
    rw [setV_slot]
    exact own_fl hown' hone'
   ·show R g (setV V d v) w2 (.fl (.own e) z xs) (setV V d v (.slot t)) ob
    rw [setV_hit hth]
    exact R_stab (g:=g) (g':=g) (V:=V) (V':=setV V d v) (W:=[.slot d]) (fun _ h=>h) (fun _ h=>h) (fun l hl=>setV_hit hl) _ _ _ rfl (fun b hb=>hchg.block b (by
     rcases hb with hb | hb
     ·exact (hp.own b (by simp [hb])).1
     ·exact hp.imm b hb) (by simp)) hR0
  ·refine List.nodup_append.2 ⟨by cases v.ownBlock <;> simp,(List.nodup_append.1 hp.nodup).2.1 |> fun h=>by simpa using h,?_⟩
   intro b hb b' hb' e1
   subst e1
   have hvb:v.ownBlock=some b:=by cases hv:v.ownBlock <;> simp [hv] at hb ⊢; exact hb.symm
   rcases hblk with h | h
   ·rw [h] at hvb; cases hvb
   ·rw [hvb] at h
    cases h
    exact Nat.lt_irrefl _ (hp.own _ (by simp [hb'])).1
  ·intro b hb
   rcases List.mem_append.1 hb with hb | hb
   ·have hvb:v.ownBlock=some b:=by cases hv:v.ownBlock <;> simp [hv] at hb ⊢; exact hb.symm
    have hlt2:=(hown'.lt b hvb).2
    rcases hblk with h | h
    ·rw [h] at hvb; cases hvb
    ·rw [hvb] at h
     cases h
     exact ⟨.inr (Nat.le_refl _),hlt2,fun hi=>Nat.lt_irrefl _ (hp.imm _ hi)⟩
   ·exact ⟨.inl (by simp [hb]),Nat.lt_of_lt_of_le (hp.own b (by simp [hb])).1 hchg.size,(hp.own b (by simp [hb])).2⟩
theorem op_app_keep {A:Type} {N:List Ent} {d t:Nat} {T e t':TypeId} {x y:Operand} {z by_:Nat} {my:Md} {xs ys zs:List Value} {l m q:List A} (hE:ElemT P T e z by_) (hx:dupOp (N++[(t,.fl (.own e) z xs)]) x = .same (.slot t)) (hy:rd N y = .fl my z ys)
  (hn:xs.length=l.length * z) (hm:ys.length=m.length * z) (hq:appO by_ l m=some q) (hz:xs++ys=zs) (hdt:Nat.beq t d=false) :
  LOp2 P ⟨some d,.call ⟨.builtin .append,#[x,y],#[T,T]⟩,t',pos,aft,gd⟩ N [(t,.fl (.own e) z xs)] [(d,.fl (.own e) z zs),(t,.cut (.slot d) l.length)] [(d,.fl (.own e) z zs),(t,.fl (.own e) z xs)] [.slot d]:=by
 subst hz
 unfold appO at hq
 split at hq
 ·rename_i h
  exact op_append_keep N d t x y l.length m.length hE hx hy hn hm h.1 (by simp only [maxLen]; omega) (Nat.ne_of_beq_eq_false hdt)
 ·cases hq
end
end
section
variable {P:Program} {Q:Exit→Act→World→Prop} {g0:Gh} {rnd:Option Nat} {ops:Array Oper}
theorem rt_fork {o:Oper} {l:List Oper} {es T M G1 G2:List Ent} {W:List Loc} (hgd:o.guard=none) (h:LOp2 P o M T G1 G2 W) (hp:es.Perm (T++M)) (hc:M.all (clrEnt W)=true)
  (k1:RT rnd P ops Q g0 l (G1++M)) (k2:RT rnd P ops Q g0 l (G2++M)):RT rnd P ops Q g0 (o::l) es:=by
 intro i g a w hl hd hg hs
 rw [List.length_cons,List.range'_succ,wpOpsIn_cons]
 have ho:ops[i]? = some o:=by simpa using hl 0 o rfl
 unfold wpOpIn
 rw [ho]
 simp only [Region.wanted,hgd,if_true]
 refine h g [] a w _ Q (fun d hd'=>by rw [hg.n]; exact hd i d (by simp [ho,hd'])) ?_ ?_ ?_ rnd
 ·refine hs.perm ?_
  rw [List.append_nil]
  exact hp.trans List.perm_append_comm
 ·intro e he
  rw [List.append_nil] at he
  exact List.all_eq_true.1 hc e he
 ·intro g' a' w' hle hs'
  rw [List.append_nil,List.append_nil] at hs'
  have hl':∀ j o',l[j]? = some o'→ops[i+1+j]? = some o':=fun j o' hj=>by rw [show i+1+j=i+(j+1) by omega]; exact hl (j+1) o' (by simpa using hj)
  rcases hs' with hs' | hs'
  ·exact k1 (i+1) g' a' w' hl' hd (hg.trans hle) (hs'.perm List.perm_append_comm)
  ·exact k2 (i+1) g' a' w' hl' hd (hg.trans hle) (hs'.perm List.perm_append_comm)
theorem Sat.uncut {g:Gh} {a:Act} {w:World} {d t n z:Nat} {e:TypeId} {zs xs:List Value} {M:List Ent} (hz:zs.take (n * z)=xs) (h:Sat g ((d,.fl (.own e) z zs)::(t,.cut (.slot d) n)::M) a w):Sat g ((t,.fl (.own e) z xs)::M) a w:=by
 subst hz
 obtain ⟨V,o,hst,hes⟩:=h
 simp only [Es] at hes
 obtain ⟨o1,o2,rfl,⟨h1,_⟩,o3,o4,rfl,⟨h2,_⟩,h3⟩:=hes
 simp only [R] at h2
 obtain ⟨A,n',c,e1,e2,_,e3,rfl⟩:=h2
 rw [List.nil_append] at hst
 refine ⟨V,o1++o4,hst,?_⟩
 simp only [Es]
 refine ⟨o1,o4,rfl,⟨?_,trivial⟩,h3⟩
 show R g V w _ (V (.slot t)) o1
 have h1:R g V w (.fl (.own e) z zs) (V (.slot d)) o1:=h1
 rw [e1] at h1
 rw [e3]
 exact cut_fl h1 e2
theorem yu {d t n z:Nat} {e:TypeId} {l:List Oper} {es M:List Ent} {zs:List Value} (xs:List Value) (hz:zs.take (n * z)=xs) (k:RT rnd P ops Q g0 l ((t,.fl (.own e) z xs)::M)) (ht:Ts [d,t] es [(d,.fl (.own e) z zs),(t,.cut (.slot d) n)] M:=by exact tsx):RT rnd P ops Q g0 l es:=by
 intro i g a w hl hd hg hs
 exact k i g a w hl hd hg ((hs.perm ht.perm).uncut hz)
theorem y2 {o:Oper} {l0 l:List Oper} {y:Code} {t z:Nat} {e:TypeId} {xs:List Value} {es M:List Ent} (es':List Ent) (d n:Nat) (zs:List Value) (h:LOp2 P o M [(t,.fl (.own e) z xs)] [(d,.fl (.own e) z zs),(t,.cut (.slot d) n)] [(d,.fl (.own e) z zs),(t,.fl (.own e) z xs)] [.slot d])
  (k1:HT rnd P Q g0 y es'→RT rnd P ops (Exit.then (y.wpIn (FW rnd) 0 P Q) Q) g0 l ((d,.fl (.own e) z zs)::(t,.cut (.slot d) n)::M)) (k2:HT rnd P Q g0 y es'→RT rnd P ops (Exit.then (y.wpIn (FW rnd) 0 P Q) Q) g0 l ((d,.fl (.own e) z zs)::(t,.fl (.own e) z xs)::M))
  (k:HT rnd P Q g0 y es') (hl:l0=o::l:=by rfl) (hgd:o.guard=none:=by rfl) (ht:Tk t es (.fl (.own e) z xs) M:=by exact tkx) (hc:M.all (clrEnt [.slot d])=true:=by kernel_rfl):RT rnd P ops (Exit.then (y.wpIn (FW rnd) 0 P Q) Q) g0 l0 es:=by
 subst hl
 exact rt_fork hgd h (ht.perm.trans (List.Perm.refl _)) hc (k1 k) (k2 k)
theorem keep_take {A:Type} {f:A→Value} {l m q:List A} {k:Nat} (h:appO k l m=some q):(List.map f q).take (l.length * 1)=List.map f l:=by
 unfold appO at h
 split at h
 ·obtain rfl:=Option.some.inj h
  rw [Nat.mul_one,List.map_append,List.take_append_of_le_length (by simp),List.take_of_length_le (by simp)]
 ·cases h
end
end Go.Abs
