import Derived.Test.YtckpeedhchjjnaaGreatDoorBB
import Derived.Shelf.Bytes.SlCut
import Derived.Lib.AtoiErrMem
set_option linter.unusedVariables false
set_option linter.unusedSimpArgs false
namespace Go.Abs
section
variable {P:Program}
def Df (P:Program) (o:Oper) (N T:List aJ) (Z:List aJ→Prop) (W:List bF):Prop :=
 ∀ (g:Gh) (F:List aJ) (a:Act) (w:World) (K:Act→World→Prop) (Q:Exit→Act→World→Prop),(∀ d,o.dst=some d→d<g.n) →
  eX g (N++(T++F)) a w→(∀ e∈N++F,bX W e=true) →
  (∀ g' a' w',g.le g'→(∃ G,Z G∧eX g' (N++(G++F)) a' w')→K a' w')→∀ r,o.wpIn (FW r) 0 P a w K Q
theorem Df.core {o:Oper} {N T:List aJ} {Z:List aJ→Prop} {W:List bF}
  (h:∀ (g:Gh) (V:bF→Value) (oN oT:List Nat) (a:Act) (w:World),(∀ d,o.dst=some d→d<g.n)→FT g V N T oN oT a w →
   Yl P o a w fun x w'=>∃ G,Z G∧vY g V G W oT o.dst a w x w'):Df P o N T Z W:=by
 intro g F a w K Q hd hs hc hk;obtain ⟨V,ow,hst,hes⟩:=hs;obtain ⟨oN,oR,rfl,hN,hR⟩:=aT.1 hes;obtain ⟨oT,oF,rfl,hT,hF⟩:=aT.1 hR;have hnd:=hst.nodup;have hnd1:(oN++oT).Nodup:=by rw [← ar] at hnd; exact (ag.1 hnd).1
 have hpre:FT g V N T oN oT a w:=⟨hst.val,hst.size,hst.imm,fun b hb=>by
  have:=hst.own b (by simp at hb ⊢; rcases hb with h | h <;> simp [h])
  exact ⟨this.1,this.2.2⟩,fun b hb=>(hst.own b (by simp at hb ⊢; rcases hb with h | h <;> simp [h])).2.1,hnd1,hN,hT,hst.chg.size⟩
 have fin:∀ (G:List aJ) (x:Value) (w':World),vY g V G W oT o.dst a w x w'→∃ g',g.le g'∧eX g' (N++(G++F)) (a.put o.dst x) w':=by
  rintro G x w' ⟨g',V',oG,hle,hnew,himm,hchg,hV,hval,hG,hGn,hGo⟩;have hIM:∀ b,g.Im b→g'.Im b:=fun b hb=>by rw [hle.Im]; exact hb
  have hnF:∀ b,b∈oN∨b∈oF→b ∉ oT:=by
   intro b hb hT;rcases hb with hb | hb
   ·exact (ag.1 hnd1).2.2 b hb b hT rfl
   ·have h1:=(ag.1 hnd).2.1;exact (ag.1 h1).2.2 b hT b hb rfl
  have hownlt:∀ b,b∈oN∨b∈oT∨b∈oF→b<w.heap.size∧(g.w0.heap.size≤b∨b∈g.io)∧¬ g.imm b:=fun b hb=>hst.own b (by simpa using hb);have himmT:∀ b,g.imm b→b ∉ oT:=fun b hb hT=>(hownlt b (.inr (.inl hT))).2.2 hb
  have hNstab:Es g' V' w' N oN:=dI hle.Imm hIM hV N oN (fun e he=>hc e (by simp [he])) (fun b hb=>by
   rcases hb with hb | hb
   ·exact hchg.block b (hownlt b (.inl hb)).1 (hnF b (.inl hb))
   ·exact hchg.block b (hst.imm b hb) (himmT b hb)) hN
  have hFstab:Es g' V' w' F oF:=dI hle.Imm hIM hV F oF (fun e he=>hc e (by simp [he])) (fun b hb=>by
   rcases hb with hb | hb
   ·exact hchg.block b (hownlt b (.inr (.inr hb))).1 (hnF b (.inr hb))
   ·exact hchg.block b (hst.imm b hb) (himmT b hb)) hF
  refine ⟨g',hle,V',oN++(oG++oF),⟨hval,?_,?_,?_,?_,?_,?_,?_,?_⟩,aT.2 ⟨oN,_,rfl,hNstab,aT.2 ⟨oG,oF,rfl,hG,hFstab⟩⟩⟩
  ·rw [hle.n,← hst.size]; unfold Act.put; split <;> simp
  ·rw [hle.ds]; unfold Act.put; split <;> exact hst.defers
  ·rw [hle.ds]; exact hst.dnd
  ·intro D hD;rw [hle.ds] at hD;obtain ⟨h1,h2,h3,h4⟩:=hst.marks D hD;have hlt:D<w.heap.size:=(Array.getElem?_eq_some_iff.1 h1).1;refine ⟨(hchg.block D hlt (fun hT=>h2 (by simp [hT]))).trans h1,fun hm => ?_,by rw [hle.w0]; exact h3,fun hi => ?_⟩
   ·rcases ak.1 hm with hm | hm
    ·exact h2 (by simp [hm])
    ·rcases ak.1 hm with hm | hm
     ·rcases (hGo D hm).1 with h5 | h5
      ·exact h2 (by simp [h5])
      ·omega
     ·exact h2 (by simp [hm])
   ·rcases hi with hi | hi
    ·rcases hnew D hi with h5 | h5 | h5
     ·exact h4 (.inl h5)
     ·exact h2 (by simp [h5])
     ·omega
    ·rw [hle.Im] at hi; exact h4 (.inr hi)
  ·have h1:=ag.1 hnd;have h2:=ag.1 h1.2.1;refine ag.2 ⟨h1.1,ag.2 ⟨hGn,h2.2.1,?_⟩,?_⟩
   ·intro b hb c hc e;subst e;rcases (hGo b hb).1 with h3 | h3
    ·exact h2.2.2 b h3 b hc rfl
    ·have:=(hownlt b (.inr (.inr hc))).1; omega
   ·intro b hb c hc e;subst e;rcases ak.1 hc with hc | hc
    ·rcases (hGo b hc).1 with h3 | h3
     ·exact h1.2.2 b hb b (by simp [h3]) rfl
     ·have:=(hownlt b (.inl hb)).1; omega
    ·exact h1.2.2 b hb b (by simp [hc]) rfl
  ·intro b hb;rw [hle.w0,hle.io]
   have hold:b∈oN∨b∈oF→b<w'.heap.size∧(g.w0.heap.size≤b∨b∈g.io)∧¬ g'.imm b:=by
    intro hb';have h1:=hownlt b (hb'.imp id .inr);refine ⟨am h1.1 hchg.size,h1.2.1,fun hi => ?_⟩;rcases hi with hi | hi
    ·rcases hnew b hi with h2 | h2 | h2
     ·exact h1.2.2 (.inl h2)
     ·exact hnF b hb' h2
     ·omega
    ·rw [hle.Im] at hi; exact h1.2.2 (.inr hi)
   rcases ak.1 hb with hb | hb
   ·exact hold (.inl hb)
   ·rcases ak.1 hb with hb | hb
    ·obtain ⟨h1,h2,h3⟩:=hGo b hb;refine ⟨h2,?_,h3⟩;rcases h1 with h1 | h1
     ·exact (hownlt b (.inr (.inl h1))).2.1
     ·exact .inl (bD hst.chg.size h1)
    ·exact hold (.inr hb)
  ·intro b hb;rcases hb with hb | hb
   ·exact himm b hb
   ·rw [hle.Im] at hb; exact am (hst.imm b (.inr hb)) hchg.size
  ·rw [hle.w0,hle.io];refine hst.chg.trans' hchg ?_;intro b hb;rcases (hownlt b (.inr (.inl hb))).2.1 with h1 | h1
   ·exact .inr h1
   ·exact .inl h1
 refine fun r=>h g V oN oT a w hd hpre K Q ?_ r;rintro x w' ⟨G,hz,hp⟩;obtain ⟨g',h1,h2⟩:=fin _ x w' hp;exact hk g' _ w' h1 ⟨G,hz,h2⟩
theorem Fq {Q:Exit→Act→World→Prop} {g0:Gh} {rnd:Option Nat} {ops:Array Oper} {o:Oper} {l:List Oper} {es T M:List aJ} {Z:List aJ→Prop} {W:List bF} (hgd:o.guard=none) (h:Df P o M T Z W) (hp:es.Perm (T++M)) (hc:M.all (bX W)=true)
  (k:∀ G,Z G→RT rnd P ops Q g0 l (G++M)):RT rnd P ops Q g0 (o::l) es:=by
 intro i g a w hl hd hg hs;rw [List.length_cons,List.range'_succ,wpOpsIn_cons];have ho:ops[i]? = some o:=by simpa using hl 0 o rfl
 unfold wpOpIn;rw [ho];simp only [Region.wanted,hgd,if_true];refine h g [] a w _ Q (fun d hd'=>by rw [hg.n]; exact hd i d (by simp [ho,hd'])) ?_ ?_ ?_ rnd
 ·refine hs.perm ?_;rw [bn];exact hp.trans List.perm_append_comm
 ·intro e he;rw [bn] at he;exact aR.1 hc e he
 ·rintro g' a' w' hle ⟨G,hz,hs'⟩;rw [bn] at hs';exact k G hz (i+1) g' a' w' (fun j o' hj=>by rw [show i+1+j=i+(j+1) by omega]; exact hl (j+1) o' (by simpa using hj)) hd (hg.trans hle) (hs'.perm List.perm_append_comm)
def Dx (e:TypeId) (A:Option Addr) (n c:Nat) (xs:List Value):kO where
 P _ _ o w:=ir w e (.slice A n c) xs∧(∀ u∈xs,u.oneCell'=true)∧o=(Value.ownBlock (.slice A n c)).toList
 stab _ _ _ _ o w w' _ _ hw:=by
  rintro ⟨h1,h2,rfl⟩
  refine ⟨?_,h2,rfl⟩
  rcases h1 with h1 | ⟨b,k,n',cap,cur,fz,he,q1,q2,hb,r⟩
  ·exact .inl h1
  ·refine .inr ⟨b,k,n',cap,cur,fz,he,q1,q2,?_,r⟩
   rw [hw b (.inl (by rw [he]; simp [Value.ownBlock]))]; exact hb
def zj (A:Option Addr) (c k:Nat):Option Addr:=if c=k then A else A.map (·.add k)
theorem Dk {w:World} {e:TypeId} {A:Option Addr} {n c k:Nat} {xs:List Value} (h:ir w e (.slice A n c) xs) (hk:k≤xs.length):ir w e (.slice (zj A c k) (n-k) (c-k)) (xs.drop k):=by
 rcases h with ⟨he,rfl⟩ | ⟨b,k0,n',cap,cur,fz,he,hnc,hln,hh,hfz,hcap,htk⟩
 ·cases he
  have:k=0:=by simpa using hk
  subst this;exact .inl ⟨rfl,rfl⟩
 ·cases he
  unfold zj;by_cases hz0:c=k
  ·refine .inr ⟨b,k0,n-k,c-k,cur,fz,by rw [if_pos hz0],by omega,by simp; omega,hh,hfz,by omega,?_⟩;rw [show n-k=0 by omega,List.take_zero,List.drop_eq_nil_of_le (by omega)]
  ·refine .inr ⟨b,k0+k,n-k,c-k,cur,fz,by rw [if_neg hz0]; simp [cw],by omega,by simp; omega,hh,hfz,by omega,?_⟩;rw [← htk,List.drop_take,List.drop_drop]
theorem up {w:World} {e:TypeId} {A:Option Addr} {n c:Nat} {xs:List Value} (h:ir w e (.slice A n c) xs):xs.length=n∧n≤c∧(A=none→c=0)∧jl w A xs:=by
 rcases h with ⟨he,rfl⟩ | ⟨b,k0,n',cap,cur,fz,he,hnc,hln,hh,hfz,hcap,htk⟩
 ·cases he
  exact ⟨rfl,aq _,fun _=>rfl,fun h=>absurd rfl h⟩
 ·cases he
  exact ⟨hln,hnc,nofun,fun _=>⟨_,rfl,Bo hh htk⟩⟩
theorem xS {g:Gh} {V:bF→Value} {w:World}:∀ {cs:List AV} {xs:List Value} {o:List Nat} (i:Nat),Rs g V w (cs.set i .any) xs o→i<cs.length→Rs g V w (cs.set i (.v (xs.getD i undef))) xs o
 | [],_,_,i,_,hi=>by simp at hi
 | c::cs,xs,o,0,h,_=>by
  simp only [List.set_cons_zero,Rs] at h ⊢
  obtain ⟨x,xs',o1,o2,rfl,rfl,h1,h2⟩:=h
  simp only [R] at h1
  exact ⟨x,xs',[],o2,rfl,by rw [h1],by simp [R],h2⟩
 | c::cs,xs,o,i+1,h,hi=>by
  simp only [List.set_cons_succ,Rs] at h ⊢
  obtain ⟨x,xs',o1,o2,rfl,rfl,h1,h2⟩:=h
  exact ⟨x,xs',o1,o2,rfl,rfl,h1,by simpa using xS i h2 (by simpa using hi)⟩
def GJ (P:Program) (f gb:Nat):Prop:=∀ (p1 p2:Option Addr) (n c1 k c2:Nat) (xs ys:List Int) (m:Int) (w:World),xs.length=n→ys.length=k→(∀ x∈xs,0≤x∧x<256)→(∀ y∈ys,0≤y∧y<256) →
 Lib.BytesIn w p1 n xs→Lib.BytesIn w p2 k ys→(p1=none→c1=0)→n≤c1→n<4294967281→k≤9223372036854775807→w.cell? ⟨gb,0,none⟩=some (.int .i64 m) →
 Calls P f #[.slice p1 n c1,.slice p2 k c2] w fun e w'=>e = .returned (Lib.cutV p1 n c1 k (Lib.index (Lib.bytesOf xs) (Lib.bytesOf ys)))∧∃ q,w'=w.drewN q
def fA (l s:List Int):Int:=Lib.index (Lib.bytesOf l) (Lib.bytesOf s)
def Ih (d gs t i:Nat) (e T':TypeId) (cs:List AV) (l s:List Int) (A:Option Addr) (c:Nat):List aJ :=
 [(d,.tup [.v (.slice A (if 0≤fA l s then (fA l s).toNat else l.length) c),.v (.slice (if 0≤fA l s then zj A c ((fA l s).toNat+s.length) else none) (if 0≤fA l s then l.length-((fA l s).toNat+s.length) else 0) (if 0≤fA l s then c-((fA l s).toNat+s.length) else 0)),.v (.bool (decide (0≤fA l s)))]),
  (gs,.inv (Dx e A l.length c (l.map (Value.int .u8)))),(t,.box T' (cs.set i (.v (.slice A l.length c))))]
theorem vt {w:World} {A:Option Addr} {l:List Int} (h:jl w A (l.map (Value.int .u8))):Lib.BytesIn w A l.length l:=by intro hn;obtain ⟨a,rfl,hc⟩:=h (by intro h0; simp at h0; subst h0; simp at hn);refine Lib.BytesIn.of_cells (fun i hi => ?_) hn;refine hc i _ ?_;rw [List.getElem?_map,List.getD_eq_getElem?_getD,List.getElem?_eq_getElem hi]; rfl
section
variable {ty:TypeId} {pos:String} {aft:Array Edge} {gd:Option (Nat×Bool)}
theorem GZ (N:List aJ) (d t gs i:Nat) {f gb gln:Nat} {mx:Int} {e T':TypeId} {cal:Operand} {ats:Array TypeId} (x y:Operand) {cs:List AV} {l s:List Int} {my:Md} {gl:List (Nat×List Value)} (hcal:rd N cal = .v (.func (.func f) #[] #[])) (hrunf:∀ args w,(callFunc f args).run P w = .ok (.enter f args) w)
  (hC:GJ P f gb) (hgl:look N gln = .glob gl) (hgm:(gb,[Value.int .i64 mx])∈gl) (hx:bm N x = .same (.cell t i)) {xs:List Value} (hc:cs.getD i .any = .mkr e xs) (hxs:l.map (Value.int .u8)=xs) (hic:i<cs.length) (hy:rd N y = .fl my 1 (s.map (Value.int .u8)))
  (hbl:∀ x∈l,0≤x∧x<256) (hbs:∀ x∈s,0≤x∧x<256) (hll:l.length<4294967281) (hls:s.length≤9223372036854775807) (hdt:d≠t) (hcl:cW [.slot d] (cs.set i .any)=true) :
  Df P ⟨some d,.call ⟨.value cal,#[x,y],ats⟩,ty,pos,aft,gd⟩ N [(t,.box T' cs)] (fun G=>∃ A c,G=Ih d gs t i e T' cs l s A c) [.slot d]:=by
 refine Df.core fun g V oN oT a w hd hp => ?_;have hT':=hp.esT;simp only [Es] at hT';obtain ⟨ob,o2,rfl,hER,rfl⟩:=hT';obtain ⟨hR,htie⟩:=hER;have hax:=bE hp.val hp.esN x;rw [hx] at hax;simp only [R] at hax hR;obtain ⟨b,cur,os,hpt,rfl,hh,hrs⟩:=hR;dsimp only at htie;obtain ⟨o1,o3,hperm,hRi,hrest⟩:=fu i hrs hic;rw [hc] at hRi;have hlen:=aZ hrs;have hcell:=htie b hpt i hic;rw [cell_of_row w b i _ T' (0,0) hh] at hcell;have hil:i<cur.length:=by omega
 have hVc:V (.cell t i)=cur.getD i undef:=by simp only [List.getElem?_toArray,List.getElem?_eq_getElem hil,Option.some.injEq] at hcell;rw [← hcell]; simp [hil]
 obtain ⟨u0,hu0⟩:∃ u,u=cur.getD i undef:=⟨_,rfl⟩;rw [← hu0] at hVc hRi;simp only [R] at hRi
 have hone0:∀ u∈xs,u.oneCell'=true:=by
  rcases hRi with ⟨_,h0,_⟩ | ⟨b,k,n,cap,cur,fz,q3,hnc,hln,hone,_⟩
  ·subst h0; simp
  ·exact hone
 have hrow:ir w e u0 xs:=by
  rcases hRi with ⟨h1,h0,_⟩ | ⟨b,k,n,cap,cur,fz,q3,hnc,hln,_,hbb,hfz,hcap,htk,_⟩
  ·exact .inl ⟨h1,h0⟩
  ·exact .inr ⟨b,k,n,cap,cur,fz,q3,hnc,hln,hbb,hfz,hcap,htk⟩
 have hob:o1=u0.ownBlock.toList:=by
  rcases hRi with ⟨h1,h0,h2⟩ | ⟨b,k,n,cap,cur,fz,q3,_,_,_,_,_,_,_,h2⟩
  ·rw [h1,h2]; rfl
  ·rw [q3,h2]; rfl
 obtain ⟨A,n,c,hu⟩:∃ A n c,u0 = .slice A n c:=by
  rcases hrow with ⟨h,_⟩ | ⟨b,k,n,cap,cur,fz,h,_⟩
  ·exact ⟨_,_,_,h⟩
  ·exact ⟨_,_,_,h⟩
 rw [hu] at hrow hob;obtain ⟨r1,r2,r3,r4⟩:=up hrow;have hn:l.length=n:=by rw [← r1,← hxs]; simp
 subst hn;rw [← hxs] at r4;obtain ⟨o',_,hr⟩:=kt hp.val hp.esN y;rw [hy] at hr;simp only [R] at hr;obtain ⟨B,m',c2,⟨he,_⟩,hl2,hone,hrd,_⟩:=hr;have em:s.length=m':=by simpa using hl2
 subst em;obtain ⟨o2',_,hG,_⟩:=cE hp.esN gln;dsimp only at hG;rw [hgl] at hG;simp only [R] at hG;have hmx:w.cell? ⟨gb,0,none⟩=some (.int .i64 mx):=((hG.1 _ hgm).2 0).trans rfl;have hcv:=bP hp.val hp.esN hcal
 have hrun:(execOp a.eval ⟨some d,.call ⟨.value cal,#[x,y],ats⟩,ty,pos,aft,gd⟩).run P w = .ok (.enter f #[.slice A l.length c,.slice B s.length c2]) w:=by
  have h4:a.eval x = .slice A l.length c:=by rw [hax.1,hVc,hu]
  simp [execOp,resolve,hcv,Deferred.ofValue,invoke,hrunf,h4,he]
 have hcalls:=hC A B l.length c s.length c2 l s mx w rfl rfl hbl hbs (vt r4) (vt hrd) r3 r2 hll hls hmx;have hlt:d<g.n:=hd d rfl;refine Yl.call hrun (hcalls.mono ?_);rintro e' w' ⟨rfl,q,rfl⟩;refine ⟨_,rfl,Ih d gs t i e T' cs l s A c,⟨A,c,rfl⟩,?_⟩;obtain ⟨v,hv⟩:∃ v,v=Lib.cutV A l.length c s.length (Lib.index (Lib.bytesOf l) (Lib.bytesOf s)):=⟨_,rfl⟩;rw [← hv];have hdtl:∀ l,fq [.slot d] l=false→ck V d v l=V l:=fun l hl=>bY hl;have hnd2:(b::os).Nodup:=by have:=(ag.1 hp.nodup).2.1; simpa using this
 have hnd3:(b::(o1++o3)).Nodup:=((hperm.cons b).nodup_iff).1 hnd2
 have hin:∀ c,c∈o1++(b::o3)→c∈b::os:=by
  intro c hc';rcases ak.1 hc' with h | h
  ·have:=hperm.mem_iff.2 (ak.2 (.inl h)); simp [this]
  ·rcases aW.1 h with h | h
   ·simp [h]
   ·have:=hperm.mem_iff.2 (ak.2 (.inr h)); simp [this]
 have hlts:∀ c,c∈b::os→c<w.heap.size∧¬ g.imm c:=fun c hc'=>hp.own c (by simp at hc' ⊢; exact .inr hc');refine ⟨g,ck V d v,o1++(b::o3),g.le_refl,fun b hb => .inl hb,fun b hb=>hp.imm b (.inl hb),⟨rfl,rfl,rfl,aq _,fun _ _ _=>rfl⟩,hdtl,fun u=>cU hp.val hp.size hlt u,?_,?_,?_⟩
 ·have hVt:ck V d v (.slot t)=V (.slot t):=by simp only [ck]; rw [if_neg fun e=>hdt e.symm]
  refine ⟨[],o1++(b::o3),rfl,⟨?_,trivial⟩,o1,b::o3,rfl,⟨?_,trivial⟩,b::o3,[],by simp,⟨?_,?_⟩,rfl⟩
  ·show R g _ _ (.tup _) (ck V d v (.slot d)) _;rw [cC,hv];simp only [R];unfold Lib.cutV Lib.fromV fA zj;by_cases h0:0≤Lib.index (Lib.bytesOf l) (Lib.bytesOf s)
   ·simp only [if_pos h0];refine ⟨_,rfl,?_⟩;simp only [Rs,R];exact ⟨_,_,[],[],rfl,rfl,⟨rfl,rfl⟩,_,_,[],[],rfl,rfl,⟨rfl,rfl⟩,_,_,[],[],rfl,rfl,⟨by rw [decide_eq_true h0],rfl⟩,rfl,rfl⟩
   ·simp only [if_neg h0];refine ⟨_,rfl,?_⟩;simp only [Rs,R];exact ⟨_,_,[],[],rfl,rfl,⟨rfl,rfl⟩,_,_,[],[],rfl,rfl,⟨rfl,rfl⟩,_,_,[],[],rfl,rfl,⟨by rw [decide_eq_false h0],rfl⟩,rfl,rfl⟩
  ·show R g _ _ (.inv _) _ o1;simp only [R];rw [hxs];exact ⟨hrow,hone0,hob⟩
  ·show R g _ _ (.box T' _) (ck V d v (.slot t)) _;rw [hVt];simp only [R];refine ⟨b,cur,o3,hpt,rfl,hh,?_⟩;have:=xS i (cq (g:=g) (g':=g) (w:=w) (w':=w.drewN q) (V':=ck V d v) (W:=[.slot d]) (fun _ h=>h) (fun _ h=>h) hdtl _ _ _ hcl (fun c hc'=>rfl) hrest) hic;rw [← hu0,hu] at this;exact this
  ·intro b' hb' j hj;rw [hVt] at hb';exact htie b' hb' j (by simpa using hj)
 ·exact (List.perm_middle.nodup_iff).2 hnd3
 ·intro c hc';exact ⟨.inl (by simpa using hin c hc'),(hlts c (hin c hc')).1,(hlts c (hin c hc')).2⟩
end
theorem Ic {g:Gh} {V:bF→Value} {w:World} {e:TypeId} {v:Value} {xs:List Value} (h:ir w e v xs) (h1:∀ u∈xs,u.oneCell'=true):R g V w (.mkr e xs) v v.ownBlock.toList:=by
 simp only [R];rcases h with ⟨h1,h2⟩ | ⟨b',k',n',cap',cur',fz',h2,hnc',hln',hbb',hfz',hcap',htk'⟩
 ·exact .inl ⟨h1,h2,by rw [h1]; rfl⟩
 ·exact .inr ⟨b',k',n',cap',cur',fz',h2,hnc',hln',h1,hbb',hfz',hcap',htk',by rw [h2]; rfl⟩
theorem zQ {g:Gh} {V:bF→Value} {w:World} {av:AV} {o1:List Nat}:∀ {cs:List AV} {xs:List Value} {o:List Nat} (i:Nat),Rs g V w (cs.set i .any) xs o→i<cs.length→R g V w av (xs.getD i undef) o1→∃ o',o'.Perm (o1++o)∧Rs g V w (cs.set i av) xs o'
 | [],_,_,i,_,hi,_=>by simp at hi
 | c::cs,xs,o,0,h,_,hr=>by
  simp only [List.set_cons_zero,Rs] at h ⊢
  obtain ⟨x,xs',p1,p2,rfl,rfl,h1,h2⟩:=h
  simp only [R] at h1
  subst h1
  exact ⟨o1++p2,by simp,x,xs',o1,p2,rfl,rfl,by simpa using hr,h2⟩
 | c::cs,xs,o,i+1,h,hi,hr=>by
  simp only [List.set_cons_succ,Rs] at h ⊢
  obtain ⟨x,xs',p1,p2,rfl,rfl,h1,h2⟩:=h
  obtain ⟨o',hp,h3⟩:=zQ i h2 (by simpa using hi) (by simpa using hr)
  refine ⟨p1++o',?_,x,xs',p1,o',rfl,rfl,h1,h3⟩
  refine (hp.append_left p1).trans ?_
  rw [← List.append_assoc,← List.append_assoc]
  exact List.perm_append_comm.append_right p2
theorem St.part {g:Gh} {V:bF→Value} {o o':List Nat} {a:Act} {w:World} (h:St g V o a w) (hn:o'.Nodup) (hs:∀ b∈o',b∈o):St g V o' a w :=
 ⟨h.val,h.size,h.defers,h.dnd,fun D hD=>let ⟨h1,h2,h3⟩:=h.marks D hD; ⟨h1,fun hm=>h2 (hs D hm),h3⟩,hn,fun b hb=>h.own b (hs b hb),h.imm,h.chg⟩
theorem eX.closeMk {g:Gh} {a:Act} {w:World} {gs t i n c n' c':Nat} {e T':TypeId} {A A':Option Addr} {xs xs':List Value} {cs:List AV} {M:List aJ} (hi:i<cs.length) (hc:cs.getD i .any = .v (.slice A' n' c'))
  (hm:∀ w,ir w e (.slice A n c) xs→ir w e (.slice A' n' c') xs') (h1:(∀ u∈xs,u.oneCell'=true)→∀ u∈xs',u.oneCell'=true) (hb:(Value.slice A' n' c').ownBlock=none∨(Value.slice A' n' c').ownBlock=(Value.slice A n c).ownBlock)
  (h:eX g ((gs,.inv (Dx e A n c xs))::(t,.box T' cs)::M) a w):eX g ((t,.box T' (cs.set i (.mkr e xs')))::M) a w:=by
 obtain ⟨V,o,hst,hes⟩:=h;simp only [Es] at hes;obtain ⟨o1,o2,rfl,⟨hJ,_⟩,o3,o4,rfl,⟨hB,htie⟩,hM⟩:=hes;dsimp only at hJ hB htie;simp only [R] at hJ hB;obtain ⟨b,ys,os,hpt,rfl,hh,hrs⟩:=hB;obtain ⟨hrow,hone,ho1⟩:=hJ;obtain ⟨p1,p2,hperm,hRi,hrest⟩:=fu i hrs hi;rw [hc] at hRi;simp only [R] at hRi;obtain ⟨hyi,rfl⟩:=hRi;have hmk:=Ic (g:=g) (V:=V) (hm w hrow) (h1 hone);rw [← hyi] at hmk;obtain ⟨os',hp',hrs'⟩:=zQ i hrest hi hmk;rw [hyi] at hp';have hnd:=hst.nodup
 have hsub:∀ c,c∈(Value.slice A' n' c').ownBlock.toList→c∈o1:=by
  intro c hc';rcases hb with hb | hb
  ·rw [hb] at hc'; cases hc'
  ·rw [hb,← ho1] at hc'; exact hc'
 have hnd1:=List.nodup_append.1 hnd;have hnd2:=List.nodup_append.1 hnd1.2.1;have hndb:=List.nodup_cons.1 hnd2.1
 have hpm:∀ c,c∈os'→c∈o1∨c∈os:=by
  intro c hc';rcases List.mem_append.1 (hp'.mem_iff.1 hc') with h | h
  ·exact .inl (hsub c h)
  ·exact .inr (hperm.mem_iff.2 (by simpa using h))
 have hos':os'.Nodup:=by rw [hp'.nodup_iff];refine List.nodup_append.2 ⟨by cases (Value.slice A' n' c').ownBlock <;> simp,(hperm.nodup_iff.1 hndb.2 |> fun h=>by simpa using h),?_⟩;intro c hc1 c2 hc2 e1;subst e1;exact hnd1.2.2 c (hsub c hc1) c (by simp [hperm.mem_iff.2 (show c∈[]++p2 by simpa using hc2)]) rfl
 refine ⟨V,(b::os')++o4,hst.part ?_ ?_,?_⟩
 ·refine List.nodup_append.2 ⟨List.nodup_cons.2 ⟨fun h => ?_,hos'⟩,hnd2.2.1,?_⟩
  ·rcases hpm b h with h | h
   ·exact hnd1.2.2 b h b (by simp) rfl
   ·exact hndb.1 h
  ·intro c hc1 c2 hc2 e1;subst e1;rcases List.mem_cons.1 hc1 with h | h
   ·subst h; exact hnd2.2.2 c (by simp) c hc2 rfl
   ·rcases hpm c h with h | h
    ·exact hnd1.2.2 c h c (by simp [hc2]) rfl
    ·exact hnd2.2.2 c (by simp [h]) c hc2 rfl
 ·intro c hc1;rcases List.mem_append.1 hc1 with h | h
  ·rcases List.mem_cons.1 h with h | h
   ·simp [h]
   ·rcases hpm c h with h | h <;> simp [h]
  ·simp [h]
 ·simp only [Es];refine ⟨b::os',o4,rfl,⟨?_,?_⟩,hM⟩
  ·show R g V w (.box T' _) (V (.slot t)) _;simp only [R];exact ⟨b,ys,os',hpt,rfl,hh,hrs'⟩
  ·intro b' hb' j hj;exact htie b' hb' j (by simpa using hj)
theorem Aa {Q:Exit→Act→World→Prop} {g0:Gh} {rnd:Option Nat} {ops:Array Oper} {l:List Oper} {es M:List aJ} {gs t n c n' c':Nat} {e T':TypeId} {A A':Option Addr} {xs:List Value} {cs cs':List AV} (i:Nat) (xs':List Value) (hi:i<cs.length) (hc:cs.getD i .any = .v (.slice A' n' c'))
  (hm:∀ w,ir w e (.slice A n c) xs→ir w e (.slice A' n' c') xs') (h1:(∀ u∈xs,u.oneCell'=true)→∀ u∈xs',u.oneCell'=true) (hb:(Value.slice A' n' c').ownBlock=none∨(Value.slice A' n' c').ownBlock=(Value.slice A n c).ownBlock) (hcs:cs.set i (.mkr e xs')=cs')
  (k:RT rnd P ops Q g0 l ((t,.box T' cs')::M)) (ht:Ts [gs,t] es [(gs,.inv (Dx e A n c xs)),(t,.box T' cs)] M:=by exact Iu):RT rnd P ops Q g0 l es:=by subst hcs;intro i g a w hl hd hg hs;exact k i g a w hl hd hg ((hs.perm ht.perm).closeMk hi hc hm h1 hb)
theorem Ge {w:World} {e:TypeId} {A:Option Addr} {c:Nat} {l s:List Int} (h0:decide (0≤fA l s)=true) (h:ir w e (.slice A l.length c) (l.map (Value.int .u8))) :
  ir w e (.slice (if 0≤fA l s then zj A c ((fA l s).toNat+s.length) else none) (if 0≤fA l s then l.length-((fA l s).toNat+s.length) else 0) (if 0≤fA l s then c-((fA l s).toNat+s.length) else 0)) ((l.drop ((fA l s).toNat+s.length)).map (Value.int .u8)):=by have h0:=of_decide_eq_true h0;simp only [if_pos h0];have hroom:=Lib.index_room (Lib.bytesOf l) (Lib.bytesOf s) h0;rw [Lib.bytesOf_length,Lib.bytesOf_length] at hroom;have hc:fA l s=Lib.index (Lib.bytesOf l) (Lib.bytesOf s):=rfl;rw [List.map_drop];exact Dk h (by rw [List.length_map]; omega)
theorem Dr {ty:TypeId} {pos:String} {aft:Array Edge} {gd:Option (Nat×Bool)} (N:List aJ) (d gs:Nat) {s t e E:TypeId} {A:Option Addr} {m n c c2:Nat} (x:Operand) (l line:List Int) (hs:P.underlying s=some (.slice e)) (ht:P.underlying t=some .string) (he:P.underlying e=some (.int .u8))
  (hx:rd N x = .v (.slice A m c2)) (hJ:look N gs = .inv (Dx E A n c (l.map (Value.int .u8)))) (hml:m≤l.length) (hln:l.take m=line) :
  bh P ⟨some d,.convert s t x,ty,pos,aft,gd⟩ N [] [(d,.v (.string ⟨(line.map fun n=>UInt8.ofNat n.toNat).toArray⟩))] [.slot d]:=by
 subst hln;refine bh.v rfl fun g V oN a w hp => ?_;have hv:=bP hp.val hp.esN hx;obtain ⟨o2',_,hG,_⟩:=cE hp.esN gs;dsimp only at hG;rw [hJ] at hG;simp only [R] at hG;obtain ⟨_,_,_,hrd0⟩:=up hG.1;have hl:(l.take m).length=m:=by simp; omega
 have hrd:jl w A ((l.take m).map (Value.int .u8)):=by
  intro hne;obtain ⟨ad,e1,hc⟩:=hrd0 (fun h0=>hne (by simp at h0; simp [h0]));refine ⟨ad,e1,fun j u hu=>hc j u ?_⟩;rw [List.map_take,List.getElem?_take] at hu;split at hu
  ·exact hu
  ·cases hu
 obtain ⟨ln,hln⟩:∃ ln,ln=l.take m:=⟨_,rfl⟩;rw [← hln] at hrd hl ⊢
 have hrun:(convert s t (a.eval x)).run P w = .ok (.string ⟨(ln.map fun n=>UInt8.ofNat n.toNat).toArray⟩) w:=by
  rw [hv]
  cases A with
  | none =>
   have:ln=[]:=by
    apply Classical.byContradiction;intro hne;obtain ⟨ad,e,_⟩:=hrd (by simpa using hne)
    cases e
   subst this;rw [run_convert_bytes_nil w s e hs he m c2 t ht];rfl
  | some ad =>
   have hload:(loadCells ad m).run P w = .ok (ln.map (Value.int .u8)).toArray w:=by
    by_cases hne:ln=[]
    ·subst hne;simp at hl; subst hl;simp [loadCells,loadCellsFrom]
    ·obtain ⟨ad',e,hc⟩:=hrd (by simpa using hne)
     cases e
     have:=run_loadCells_list (P:=P) w ad (ln.map (Value.int .u8)) hc;simpa [hl] using this
   rw [run_convert_bytes_string w s t e _ m c2 hs he ht,run_bytesToString w _ m c2 ln hload,foldl_push_bytes];simp [ByteArray.empty,ByteArray.emptyWithCapacity];rfl
 simp [execOp,hrun]
def HX (l s:List Int):Option Unit:=if (l.all fun x=>decide (0≤x)&&decide (x<256))=true∧(s.all fun x=>decide (0≤x)&&decide (x<256))=true∧l.length<4294967281∧s.length≤9223372036854775807 then some () else none
def KC (l s:List Int):List Int:=l.take (if 0≤fA l s then (fA l s).toNat else l.length)
def FA (l s:List Int):List Int:=l.drop ((fA l s).toNat+s.length)
theorem vf {l s:List Int} {u:Unit} (h:HX l s=some u):(∀ x∈l,0≤x∧x<256)∧(∀ x∈s,0≤x∧x<256)∧l.length<4294967281∧s.length≤9223372036854775807:=by
 unfold HX at h;split at h
 ·rename_i hc;obtain ⟨h1,h2,h3,h4⟩:=hc;exact ⟨fun x hx=>by simpa using List.all_eq_true.1 h1 x hx,fun x hx=>by simpa using List.all_eq_true.1 h2 x hx,h3,h4⟩
 ·cases h
theorem Hz (l s:List Int):(if 0≤fA l s then (fA l s).toNat else l.length)≤l.length:=by
 split
 ·rename_i h0;have hroom:=Lib.index_room (Lib.bytesOf l) (Lib.bytesOf s) h0;rw [Lib.bytesOf_length,Lib.bytesOf_length] at hroom;have hc:fA l s=Lib.index (Lib.bytesOf l) (Lib.bytesOf s):=rfl;rw [hc]; omega
 ·exact Nat.le_refl _
theorem Fj (l s:List Int) (A:Option Addr) (c m1 m2 m:Nat):(Value.slice (if 0≤fA l s then zj A c m else none) m1 m2).ownBlock=none∨(Value.slice (if 0≤fA l s then zj A c m else none) m1 m2).ownBlock=(Value.slice A l.length c).ownBlock:=by
 unfold zj
 cases A with
 | none=>refine .inl ?_; split <;> (try split) <;> rfl
 | some a =>
  split
  ·refine .inr ?_;split
   ·rfl
   ·simp only [Option.map_some,Value.ownBlock];unfold Addr.add; split <;> rfl
  ·exact .inl rfl
theorem Cn {l:List Int}:∀ u∈l.map (Value.int .u8),u.oneCell'=true:=fun u hu=>by obtain ⟨n,_,rfl⟩:=List.mem_map.1 hu; rfl
theorem yX {Q:Exit→Act→World→Prop} {g0:Gh} {rnd:Option Nat} {ops:Array Oper} {o:Oper} {l0 l1:List Oper} {es M:List aJ} {e T':TypeId} {cs:List AV} (d gs t i:Nat) (l s:List Int) (cs':Option Addr→Nat→List AV)
  (h:Df P o M [(t,.box T' cs)] (fun G=>∃ A c,G=Ih d gs t i e T' cs l s A c) [.slot d])
  (k:∀ A c,RT rnd P ops Q g0 l1 ((d,.tup [.v (.slice A (if 0≤fA l s then (fA l s).toNat else l.length) c),.v (.slice (if 0≤fA l s then zj A c ((fA l s).toNat+s.length) else none) (if 0≤fA l s then l.length-((fA l s).toNat+s.length) else 0) (if 0≤fA l s then c-((fA l s).toNat+s.length) else 0)),.v (.bool (decide (0≤fA l s)))]) ::
   (gs,.inv (Dx e A l.length c (l.map (Value.int .u8))))::(t,.box T' (cs' A c))::M))
  (hl:l0=o::l1:=by rfl) (ht:Tk t es (.box T' cs) M:=by exact Gn) (hcs:∀ A c,cs.set i (.v (.slice A l.length c))=cs' A c:=by intros; rfl) (hgd:o.guard=none:=by rfl) (hc:M.all (bX [.slot d])=true:=by kernel_rfl):RT rnd P ops Q g0 l0 es:=by subst hl;refine Fq hgd h (ht.perm.trans (List.Perm.refl _)) hc ?_;rintro G ⟨A,c,rfl⟩;have:=k A c;rw [← hcs] at this;exact this
theorem lP {ty:TypeId} {pos:String} {aft:Array Edge} {gd:Option (Nat×Bool)} {N:List aJ} {d:Nat} {s t e E:TypeId} {A:Option Addr} {m n c c2:Nat} {x:Operand} {line l:List Int} {v:ME} (gs:Nat) (hv:some (wI line)=some v) (hs:P.underlying s=some (.slice e)) (ht:P.underlying t=some .string) (he:P.underlying e=some (.int .u8))
  (hx:rd N x = .v (.slice A m c2)) (hJ:look N gs = .inv (Dx E A n c (l.map (Value.int .u8)))) (hml:m≤l.length) (hln:l.take m=line) :
  bh P ⟨some d,.convert s t x,ty,pos,aft,gd⟩ N [] [(d,.v (.string v))] [.slot d]:=by have h1:=Option.some.inj hv;subst h1;exact Dr N d gs x l line hs ht he hx hJ hml hln
end
end Go.Abs
namespace Go.Abs
namespace Sh
def jR (s:ME):Option Int:=if s.size≤18 then some ((Lib.atoi s.data.toList).getD 0) else none
end Sh
theorem th {P:Program} {f ge te:Nat} {pv:Value} {gl:List (Nat×List Value)} {e:TypeId} (hm:(ge,[Value.iface te pv])∈gl)
  (c1:∀ (s:ME) (n:Int) (w:World),s.size≤18→Lib.atoi s.data.toList=some n→Calls P f #[.string s] w fun e' w'=>e' = .returned (.tuple #[.int .i64 n,.nilIface])∧∃ t,w'=Lib.bytesWorld w e t)
  (c2:∀ (s:ME) (w:World),s.size≤18→Lib.atoi s.data.toList=none→w.cell? ⟨ge,0,none⟩=some (.iface te pv)→Calls P f #[.string s] w fun e' w'=>∃ x,e' = .returned (.tuple #[.int .i64 0,x])∧RowKit.Below w.heap.size w w')
  (s:ME) (r:Int) (h:Sh.jR s=some r):fJ P gl f [.v (.string s)] (.tup [.v (.int .i64 r),.any]):=by
 unfold Sh.jR at h;split at h
 case isFalse=>cases h
 rename_i hs;intro Imm Im w xs himm hgl hR;simp only [Rs,R] at hR;obtain ⟨x,l,o1,o2,rfl,_,⟨rfl,_⟩,rfl,_⟩:=hR
 have fin:∀ (y:Value) (w':World),RowKit.Below w.heap.size w w'→GM Imm Im w (.tup [.v (.int .i64 r),.any]) (.returned (.tuple #[.int .i64 r,y])) w':=by intro y w' hb;refine ⟨_,rfl,⟨hb.os,hb.tape,hb.output,hb.size,fun k hk _=>hb.block k hk⟩,Imm,[],fun _ h=>h,fun _ h => .inl h,?_,List.nodup_nil,by simp⟩;simp only [R,Rs];exact ⟨[.int .i64 r,y],rfl,_,_,[],[],rfl,rfl,⟨rfl,rfl⟩,_,_,[],[],rfl,rfl,rfl,rfl,rfl⟩
 cases hn:Lib.atoi s.data.toList with
 | some n =>
  rw [hn] at h; cases h;refine (c1 s n w hs hn).mono ?_;rintro e' w' ⟨rfl,t,rfl⟩;exact fin _ _ (Lib.bytesWorld_below _ _ _)
 | none =>
  rw [hn] at h; cases h;refine (c2 s w hs hn ((hgl _ hm).2 0)).mono ?_;rintro e' w' ⟨y,rfl,hb⟩;exact fin _ _ hb
theorem Jf {H:Type} {enc:TypeId×Value→H} {P:Program} {w:World} {base:Nat} {spare:Nat→Bool} {held:Bool} {fuel t:Nat} {ms:Array (String×TypeId)} {cs:List Value} {p:List MemPlace} {nm:String} {d:DataW H}
  (ht:P.underlying t=some (.interface ms)) (h:DataW.trod enc P w base spare held fuel t cs=some (.iface nm d,p)):∃ te pv,cs=[.iface te pv]:=by
 cases fuel with
 | zero=>simp [DataW.trod] at h
 | succ n =>
  unfold DataW.trod at h;rw [ht] at h;split at h <;> simp_all
end Go.Abs
