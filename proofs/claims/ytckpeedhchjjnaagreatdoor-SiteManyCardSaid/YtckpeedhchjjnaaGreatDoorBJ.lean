import Derived.Test.YtckpeedhchjjnaaGreatDoorBB
namespace Go.Abs
set_option linter.unusedVariables false
def nT (q:Option Nat) (T:TypeId) (cs:List AV):EK where
 P I M x o w:=∃ (b:Nat) (xs:List Value) (os:List Nat),x = .pointer (some ⟨b,0,none⟩)∧o=b::os∧w.heap[b]? = some (.cells xs.toArray T (0,0))∧Rs (cz w I M) V0 w cs xs os∧∀ c,q=some c→b=c
 stab I M I' M' x o w w' hI hM hw h:=by
  obtain ⟨b,xs,os,h1,rfl,h3,h4,h5⟩:=h
  exact ⟨b,xs,os,h1,rfl,by rw [hw b (.inl (by simp))]; exact h3,
   cq (g:=cz w I M) (g':=cz w' I' M') (W:=[]) hI hM (fun _ _=>rfl) cs xs os (dN cs) (fun b hb=>hw b (hb.imp (fun h=>by simp [h]) id)) h4,h5⟩
 one:=true
 cell _ I M x o w h:=by
  obtain ⟨b,xs,os,rfl,_⟩:=h
  rfl
def Fa (q:Bool):EK where
 P I M x o w:=o=[]∧∃ ad,x = .pointer ad∧ad.isSome=q
 stab I M I' M' x o w w' hI hM hw h:=h
 one:=true
 cell _ I M x o w h:=by
  obtain ⟨_,ad,rfl,_⟩:=h
  rfl
theorem Fe {q:Option Nat} {T:TypeId} {cs:List AV}:uW (.hid (nT q T cs)) (.hid (nT none T cs)):=fun g V w x o h=>by
 simp only [R] at h ⊢
 obtain ⟨b,xs,os,h1,h2,h3,h4,_⟩:=h
 exact ⟨b,xs,os,h1,h2,h3,h4,fun c hc=>by cases hc⟩
theorem uv (s:Bool) (z:Nat):uW (.v (.slice none 0 0)) (.fr .ro s z []):=fun g V w x o h =>
 mw (vs:=[]) (fN z g V w x o h) (by simp [jk])
def Nn (av:AV) (q:Bool):Prop:=∀ g V w x o,R g V w av x o→∃ ad,x = .pointer ad∧ad.isSome=q
theorem DL (T:TypeId) (cs:List AV):Nn (.box T cs) true:=fun g V w x o h=>by
 simp only [R] at h
 obtain ⟨b,xs,os,rfl,_⟩:=h
 exact ⟨_,rfl,rfl⟩
theorem Ik (q:Bool):Nn (.hid (Fa q)) q:=fun g V w x o h=>by
 simp only [R] at h
 exact h.2
section
variable {P:Program} {ty:TypeId} {pos:String} {aft:Array Edge} {gd:Option (Nat×Bool)}
theorem Ar {w:World} {op:BinOp} {t t':TypeId} {x y:Operand} {p:Option Addr} (neg:Bool) (hT:P.underlying t=some (.pointer (P.pointee t))):(do eqGuard (if neg then .neq else .eql) t x y (.pointer p) (.pointer none); binOp (if neg then .neq else .eql) t (.pointer p) (.pointer none)).run P w = .ok (.bool (if neg then p.isSome else !p.isSome)) w:=by
 cases neg
 ·have:=run_eql_pointer_nil (P:=P) (w:=w) t p hT;simp only [Sem.run_bind,qV,Bool.false_eq_true,if_false];simp [this]
 ·have:=run_neq_pointer_nil (P:=P) (w:=w) t p hT;simp only [Sem.run_bind,qV,if_true];simp [this]
theorem DE (N:List aJ) (d u:Nat) {t t':TypeId} {x y:Operand} {av:AV} {q:Bool} (neg:Bool) (hT:P.underlying t=some (.pointer (P.pointee t))) (hx:xR N x u=true) (hu:look N u=av) (hq:Nn av q) (hy:rd N y = .v (.pointer none)) :
  bh P ⟨some d,.binOp (if neg then .neq else .eql) t x y t',ty,pos,aft,gd⟩ N [] [(d,.v (.bool (if neg then q else !q)))] [.slot d]:=by
 refine bh.v rfl fun g V oN ac w hp => ?_;have h1:=ov hp.val hp.esN hx;obtain ⟨o',_,h3,_⟩:=cE hp.esN u;dsimp only at h3;rw [hu] at h3;obtain ⟨ad,h4,rfl⟩:=hq _ _ _ _ _ h3;have h2:=bP hp.val hp.esN hy;have:=Ar (P:=P) (w:=w) (op := .eql) (t:=t) (t':=t') (x:=x) (y:=y) (p:=ad) neg hT;simp only [execOp,h1,h4,h2];rw [Sem.run_bind] at this;simp only [Sem.run_bind]
 cases neg <;> simp_all
theorem xD (N:List aJ) (d u i:Nat) {t t' T S:TypeId} {cs ds:List AV} {q:Option Nat} {x y:Operand} (neg:Bool) (hT:P.underlying t=some (.pointer (P.pointee t))) (hx:bm N x = .same (.cell u i)) (hu:look N u = .box T cs) (hi:cs[i]? = some (.hid (nT q S ds))) (hy:rd N y = .v (.pointer none)) :
  bh P ⟨some d,.binOp (if neg then .neq else .eql) t x y t',ty,pos,aft,gd⟩ N [] [(d,.v (.bool neg))] [.slot d]:=by
 refine bh.v rfl fun g V oN ac w hp => ?_;have h1:=bE hp.val hp.esN x;rw [hx] at h1;simp only [R] at h1;obtain ⟨o',_,h3⟩:=lm hp.esN (.cell u i);have h2:=bP hp.val hp.esN hy
 have e:pf N (.cell u i) = .hid (nT q S ds):=by simp [pf,hu,List.getD_eq_getElem?_getD,hi]
 rw [e] at h3;simp only [R] at h3;obtain ⟨b,xs,os,h4,_⟩:=h3;have:=Ar (P:=P) (w:=w) (op := .eql) (t:=t) (t':=t') (x:=x) (y:=y) (p:=some ⟨b,0,none⟩) neg hT;simp only [execOp,h1.1,h4,h2];rw [Sem.run_bind] at this;simp only [Sem.run_bind]
 cases neg <;> simp_all
theorem tZ (N G:List aJ) (d f t i:Nat) {T S:TypeId} {cs ds ds':List AV} {q:Option Nat} {cal x:Operand} (ys:List Operand) {args:Array Operand} {ats:Array TypeId} (avs:List AV) (res:AV) (hcal:rd N cal = .v (.func (.func f) #[] #[])) (hrun:∀ args w,(callFunc f args).run P w = .ok (.enter f args) w)
  (hargs:(x::ys).toArray=args) (hx:bm N x = .same (.cell t i)∨∃ b,q=some b∧rd N x = .v (.pointer (some ⟨b,0,none⟩))) (hk:cs[i]? = some (.hid (nT q S ds))) (hav:ys.map (lN N)=avs) (hf:mp P f (.box S ds::avs) [.box S ds'] res)
  (hc:(bq res&&eW res&&(bj ds&&bj ds'&&kq ds')&&cW [.slot d] cs && !Nat.beq t d)=true) (hG:[(t,.box T (cs.set i (.hid (nT q S ds')))),(d,res)]=G) :
  bh P ⟨some d,.call ⟨.value cal,args,ats⟩,ty,pos,aft,gd⟩ N [(t,.box T cs)] G [.slot d]:=by
 subst hG hargs;simp only [ah,Bool.not_eq_true'] at hc;obtain ⟨⟨⟨⟨hcl,hsh⟩,⟨hcd,hcd'⟩,hsd'⟩,hclr⟩,htd⟩:=hc;have htd:t≠d:=fun e=>by rw [e,Nat.beq_refl] at htd; cases htd
 refine bh.core fun g V oN oT a w hd hp => ?_;have hT:=hp.esT;simp only [Es] at hT;obtain ⟨ob,o2,rfl,⟨hRt,htie⟩,rfl⟩:=hT;simp only [R] at hRt;obtain ⟨b,zs,os,hpt,rfl,hh,hrs⟩:=hRt;have hi:i<cs.length:=(List.getElem?_eq_some_iff.1 hk).1;obtain ⟨oa,om,oc,rfl,hA,hRi,hC⟩:=ke i hrs hi;rw [show cs.getD i .any = .hid (nT q S ds) by simp [List.getD_eq_getElem?_getD,hk]] at hRi;simp only [R] at hRi;have hRi:(nT q S ds).P g.Imm g.Im (zs.getD i undef) om w:=hRi;obtain ⟨bb,xs,ms,hxp,rfl,hhb,hRd,hqb⟩:=hRi;have hlz:=aZ hrs;have hcell:=htie b hpt i hi
 have hzc:w.cell? ⟨b,i,none⟩=some (zs.getD i undef):=by simp [World.cell?,hh,List.getD_eq_getElem?_getD,show i<zs.length by omega]
 have hxv:a.eval x = .pointer (some ⟨bb,0,none⟩):=by
  rcases hx with hx | ⟨c,hc,hx⟩
  ·have hxa:=bE hp.val hp.esN x;rw [hx] at hxa;simp only [R] at hxa;rw [hxa.1,← ay (hcell.symm.trans hzc |>.symm),hxp]
  ·rw [bP hp.val hp.esN hx,hqb c hc]
 have hcv:=bP hp.val hp.esN hcal
 have hr:(execOp a.eval ⟨some d,.call ⟨.value cal,(x::ys).toArray,ats⟩,ty,pos,aft,gd⟩).run P w = .ok (.enter f ((x::ys).toArray.map a.eval)) w:=by simp [execOp,resolve,hcv,Deferred.ofValue,invoke,hrun]
 have hR:Rs (cz w g.Imm (fun b=>g.Im b∨b∈oN)) V0 w (.box S ds::avs) ((x::ys).map a.eval) (bb::ms):=by
  simp only [List.map_cons,Rs];refine ⟨_,_,bb::ms,[],rfl,by simp,?_,?_⟩
  ·simp only [R];exact ⟨bb,xs,ms,hxv,rfl,hhb,bJ (g:=cz w g.Imm g.Im) (g':=cz w g.Imm (fun b=>g.Im b∨b∈oN)) (fun _ h=>h) ds xs ms hcd (.inl fun b hb => .inl hb) hRd⟩
  ·rw [← hav];exact fg (g:=g) (g':=cz w g.Imm (fun b=>g.Im b∨b∈oN)) rfl (fun b hb=>hb) hp.val hp.esN _
 have hnd:=hp.nodup;have hsub:∀ c,c∈bb::ms→c∈b::(oa++((bb::ms)++oc))++[]:=fun c hc=>by simp at hc ⊢; rcases hc with h | h <;> simp [h]
 have hob:∀ c∈bb::ms,c<w.heap.size∧¬ (g.Imm c∨g.Im c∨c∈oN):=by
  intro c hc;have h1:=hp.own c (ak.2 (.inr (hsub c hc)));refine ⟨h1.1,?_⟩;rintro (h | h | h)
  ·exact h1.2 (.inl h)
  ·exact h1.2 (.inr h)
  ·exact (ag.1 hnd).2.2 c h c (hsub c hc) rfl
 have hnT:(b::(oa++((bb::ms)++oc))).Nodup:=by simpa using (ag.1 hnd).2.1
 have hnT2:=bI.1 hnT;have hnT3:=ag.1 hnT2.2;have hnT4:=ag.1 hnT3.2.1
 have hcall:=hf g.Imm (fun b=>g.Im b∨b∈oN) w _ (bb::ms) (fun b hb=>by
  rcases hb with hb | hb | hb
  ·exact hp.imm b (.inl hb)
  ·exact hp.imm b (.inr hb)
  ·exact (hp.own b (by simp [hb])).1) hR hnT4.1 hob
 have ea:((x::ys).map a.eval).toArray=(x::ys).toArray.map a.eval:=by simp
 rw [ea] at hcall;have hlt:d<g.n:=hd d rfl;refine Yl.call hr (hcall.mono ?_);rintro e' w' ⟨y,rfl,hchg,Imm',o,hI,hnew,hRr,hndo,hfr⟩;simp only [List.map_cons,List.length_cons,List.length_nil,List.take_succ_cons,List.take_zero,Rs] at hRr;obtain ⟨y',iD,o1,o2,hyv,rfl,hR1,z,zs',p1,p2,hz,rfl,hR2,_,rfl⟩:=hRr;obtain ⟨rfl,rfl⟩:=List.cons.inj hyv;obtain ⟨rfl,rfl⟩:=List.cons.inj hz
 let V1:bF→Value:=fun l=>match l with
  | .slot u=>if u=d then y else V (.slot u)
  | .cell u j=>if u=d then eB w' y j else V (.cell u j)
 have hV1:∀ l,fq [.slot d] l=false→V1 l=V l:=by
  intro l hl;have:=jV d l hl
  cases l with
  | slot u=>simp only at this; simp [V1,this]
  | cell u j=>simp only at this; simp [V1,this]
 let g':Gh:={ g with Imm:=fun b=>Imm' b }
 have hold:∀ c,c∈b::(oa++oc)→c<w.heap.size∧c ∉ bb::ms:=by
  intro c hc
  have hm:c∈b::(oa++((bb::ms)++oc)):=by simp only [aW,ak] at hc ⊢;rcases hc with h | h | h <;> simp [h]
  refine ⟨(hp.own c (ak.2 (.inr (by simpa using hm)))).1,fun hb => ?_⟩;rcases aW.1 hc with h | h
  ·subst h; exact hnT2.1 (ak.2 (.inr (ak.2 (.inl hb))))
  ·rcases ak.1 h with h | h
   ·exact hnT3.2.2 c h c (ak.2 (.inl hb)) rfl
   ·exact hnT4.2.2 c hb c h rfl
 have hkeep:∀ c,c∈b::(oa++oc)→w'.heap[c]? = w.heap[c]? := fun c hc=>hchg.block c (hold c hc).1 (hold c hc).2;have hkimm:∀ c,g.imm c→w'.heap[c]? = w.heap[c]? := fun c hc=>hchg.block c (hp.imm c hc) fun h=>(hob c h).2 (hc.imp id .inl)
 have hclr2:cW [.slot d] (cs.take i)=true∧cW [.slot d] (cs.drop (i+1))=true:=by rw [← List.take_append_drop i cs,mN,ah] at hclr;refine ⟨hclr.1,?_⟩;have h2:=hclr.2;rw [List.drop_eq_getElem_cons hi,cW,ah] at h2;exact h2.2
 have hgI:∀ b,g.Imm b→g'.Imm b:=fun b hb=>hI b hb
 have hA':Rs g' V1 w' (cs.take i) (zs.take i) oa:=cq hgI (fun _ h=>h) hV1 _ _ oa hclr2.1 (fun c hc=>by
  rcases hc with hc | hc
  ·exact hkeep c (by simp [hc])
  ·exact hkimm c hc) hA
 have hC':Rs g' V1 w' (cs.drop (i+1)) (zs.drop (i+1)) oc:=cq hgI (fun _ h=>h) hV1 _ _ oc hclr2.2 (fun c hc=>by
  rcases hc with hc | hc
  ·exact hkeep c (by simp [hc])
  ·exact hkimm c hc) hC
 have hnotimm:∀ c,c∈b::(oa++oc)→¬ g'.imm c:=by
  intro c hc hi'
  have h0:=hp.own c (ak.2 (.inr (by
   simp only [aW,ak] at hc ⊢
   rcases hc with h | h | h <;> simp [h])))
  rcases hi' with h | h
  ·rcases hnew c h with h1 | h1 | h1
   ·exact h0.2 (.inl h1)
   ·exact (hold c hc).2 h1
   ·exact absurd (hold c hc).1 (by omega)
  ·exact h0.2 (.inr h)
 refine ⟨y,rfl,g',V1,(b::(oa++(p1++oc)))++(o1++[]),⟨rfl,rfl,rfl,rfl,rfl,hI,fun c hc => ?_⟩,fun c hc => ?_,fun c hc => ?_,hchg.mono hsub,hV1,?_,?_,?_,fun c hc => ?_⟩
 ·rcases hnew c hc with h | h | h
  ·exact .inl h
  ·exact .inr (hp.own2 c (ak.2 (.inr (hsub c h))))
  ·exact .inr (.inl (bD hp.base h.1))
 ·rcases hnew c hc with h | h | h
  ·exact .inl h
  ·exact .inr (.inl (hsub c h))
  ·exact .inr (.inr h.1)
 ·rcases hnew c hc with h | h | h
  ·exact am (hp.imm c (.inl h)) hchg.size
  ·exact am (hob c h).1 hchg.size
  ·exact h.2
 ·intro u;rw [eM a d u y (by rw [hp.size]; exact hlt)];simp only [V1];split
  ·rfl
  ·exact hp.val u
 ·have hpt1:V1 (.slot t) = .pointer (some ⟨b,0,none⟩):=by simp [V1,htd,hpt]
  refine ⟨b::(oa++(p1++oc)),o1++[],rfl,⟨?_,?_⟩,o1,[],rfl,⟨?_,?_⟩,rfl⟩
  ·simp only [R];refine ⟨b,zs,oa++(p1++oc),hpt1,rfl,(hkeep b (by simp)).trans hh,nI i hi hlz hA' ?_ hC'⟩;simp only [R] at hR2 ⊢;obtain ⟨b2,xs2,ms2,e1,e2,e3,e4⟩:=hR2;exact ⟨b2,xs2,ms2,hxp.trans (hxv.symm.trans e1),e2,e3,bJ (g:=cz w Imm' (fun b=>g.Im b∨b∈oN)) (g':=cz w' g'.Imm g'.Im) (fun _ h=>h) ds' xs2 ms2 hcd' (.inr hsd') e4,fun c hc=>by rw [← hqb c hc]; have:=hxv.symm.trans e1; cases this; rfl⟩
  ·dsimp only;intro b' hb' j hj;rw [hpt1] at hb'
   cases hb'
   rw [World.cell?_of_block (w:=w) (hkeep b (by simp))];simp only [V1,htd,if_false];exact htie b hpt j (by simpa using hj)
  ·show R _ _ _ res (V1 (.slot d)) o1;rw [show V1 (.slot d)=y by simp [V1]];exact bV (g:=cz w Imm' (fun b=>g.Im b∨b∈oN)) (g':=g') (fun _ h=>h) res y o1 hcl (.inr hsh) hR1
  ·cases res <;> try trivial
   case box T' cs' =>
    intro b' hb' j hj;dsimp only at hb' hj ⊢;rw [show V1 (.slot d)=y by simp [V1]] at hb';simp only [R] at hR1;obtain ⟨b2,ws,os,hx',_,hh',hrs'⟩:=hR1;rw [hb'] at hx'; cases hx';simp only [V1,if_true,hb'];exact df hh' (by rw [aZ hrs']; exact hj)
 ·have h1:=ag.1 hndo;have hnew':∀ c,c∈o1++(p1++[])→c∈bb::ms∨w.heap.size≤c:=fun c hc=>(hfr c hc).1
  have hp':((b::(oa++(p1++oc)))++(o1++[])).Perm ((b::(oa++oc))++(o1++(p1++[]))):=by
   simp only [bn,List.cons_append,ar];refine .cons _ (.append_left _ ?_);rw [← ar,← ar];refine List.perm_append_comm_assoc p1 oc o1 |>.trans ?_ |> fun h=>by simpa using h
   exact .append_left _ List.perm_append_comm
  refine hp'.nodup_iff.2 (ag.2 ⟨?_,hndo,?_⟩)
  ·refine bI.2 ⟨fun h=>hnT2.1 ?_,ag.2 ⟨hnT3.1,hnT4.2.1,fun u hu v hv=>hnT3.2.2 u hu v (ak.2 (.inr hv))⟩⟩;rcases ak.1 h with h | h <;> simp [h]
  ·intro u hu v hv e;subst e;rcases hnew' u hv with h | h
   ·exact (hold u hu).2 h
   ·exact absurd (hold u hu).1 (by omega)
 ·have hcase:c∈b::(oa++oc)∨c∈o1++(p1++[]):=by simp only [ak,aW,List.not_mem_nil,or_false] at hc ⊢;rcases hc with (h | h | h | h) | h <;> simp [h]
  rcases hcase with h | h
  ·exact ⟨.inl (by
    simp only [aW,ak] at h ⊢
    rcases h with h | h | h <;> simp [h]),am (hold c h).1 hchg.size,hnotimm c h⟩
  ·obtain ⟨h1,h2,h3⟩:=hfr c h;refine ⟨h1.imp (fun h=>hsub c h) id,h2,?_⟩;rintro (h | h)
   ·exact h3 h
   ·rcases h1 with h1 | h1
    ·exact (hob c h1).2 (.inr (.inl h))
    ·exact absurd (hp.imm c (.inr h)) (by omega)
theorem kV (N:List aJ) (d t i:Nat) (f:FuncId) {T S:TypeId} {cs ds:List AV} {q:Option Nat} {cal x:Operand} {args:Array Operand} {ats:Array TypeId} (res:AV) (hcal:rd N cal = .v (.func (.func f) #[] #[])) (hrun:∀ args w,(callFunc f args).run P w = .ok (.enter f args) w)
  (hargs : #[x]=args) (hx:bm N x = .same (.cell t i)∨∃ b,q=some b∧rd N x = .v (.pointer (some ⟨b,0,none⟩))) (hl:look N t = .box T cs) (hk:cs[i]? = some (.hid (nT q S ds)))
  (hf:∀ u:Nat→Value,mp P f [.box S ((yC u 0 ds).map AV.v)] [.box S ((yC u 0 ds).map AV.v)] res) (hcl:bq res=true) (hclr:eh [.slot d] res=true) (hsh:eW res=true) :
  bh P ⟨some d,.call ⟨.value cal,args,ats⟩,ty,pos,aft,gd⟩ N [] [(d,res)] [.slot d]:=by
 subst hargs;refine bh.fresh rfl hclr fun g V oN a w hp => ?_;have hcv:=bP hp.val hp.esN hcal
 have hr:(execOp a.eval ⟨some d,.call ⟨.value cal,#[x],ats⟩,ty,pos,aft,gd⟩).run P w = .ok (.enter f (#[x].map a.eval)) w:=by simp [execOp,resolve,hcv,Deferred.ofValue,invoke,hrun]
 obtain ⟨o',hs,hE⟩:=lm hp.esN (.cell t i);rw [show pf N (.cell t i) = .hid (nT q S ds) by simp [pf,hl,List.getD_eq_getElem?_getD,hk]] at hE;simp only [R] at hE;have hE:(nT q S ds).P g.Imm g.Im (V (.cell t i)) o' w:=hE;obtain ⟨b,xs0,os,hpt,rfl,hh,hrs,hqb⟩:=hE
 have hxe:a.eval x = .pointer (some ⟨b,0,none⟩):=by
  rcases hx with hx | ⟨c,hc,hx⟩
  ·have hxa:=bE hp.val hp.esN x;rw [hx] at hxa;simp only [R] at hxa;rw [hxa.1,hpt]
  ·rw [bP hp.val hp.esN hx,hqb c hc]
 have hbo:=hp.own b (by simp [hs b (by simp)]);have hpin:=zA (u:=fun i=>xs0.getD i undef) 0 hrs (fun j _=>by simp);have hf:=hf (fun i=>xs0.getD i undef);rw [hpin] at hf
 have hR:Rs (cz w g.Imm g.Im) V0 w [.box S (xs0.map AV.v)] [a.eval x] [b]:=by simp only [Rs];refine ⟨_,_,[b],[],rfl,rfl,?_,rfl,rfl⟩;simp only [R];exact ⟨b,xs0,[],hxe,rfl,hh,zE xs0⟩
 have hc:=hf g.Imm g.Im w _ [b] (fun c hc=>hp.imm c hc) hR (by simp) (fun c hc=>by
  obtain rfl:c=b:=by simpa using hc
  exact hbo)
 have ea:[a.eval x].toArray = #[x].map a.eval:=by simp
 rw [ea] at hc;refine Yl.call hr (hc.mono ?_);rintro e' w' ⟨y,rfl,hchg,Imm',o,hI,hnew,hRr,hndo,hfr⟩;simp only [List.length_cons,List.length_nil,Nat.zero_add,List.take_succ_cons,List.take_zero,Rs] at hRr;obtain ⟨y',iD,o1,o2,hyv,rfl,hR1,y2,vals2,o3,o4,hy2,rfl,hR2,hv2,rfl⟩:=hRr;obtain ⟨rfl,rfl⟩:=List.cons.inj hyv;obtain ⟨rfl,rfl⟩:=List.cons.inj hy2;simp only [R] at hR2;obtain ⟨b2,xs2,os2,hpt2,rfl,hh2,hrs2⟩:=hR2;rw [hxe] at hpt2
 cases hpt2
 obtain ⟨rfl,rfl⟩:=tC hrs2;have hsame:w'.heap[b]? = w.heap[b]? := by rw [hh,hh2]
 have hchg':dq [] w w':=⟨hchg.os,hchg.tape,hchg.output,hchg.size,fun k hk _=>by
  by_cases hkb:k=b
  ·rw [hkb]; exact hsame
  ·exact hchg.block k hk (by simpa using hkb)⟩
 have hbI:¬ Imm' b:=(hfr b (by simp)).2.2
 have hnew':∀ c,Imm' c→g.Imm c∨(w.heap.size≤c∧c<w'.heap.size):=by
  intro c hc';rcases hnew c hc' with h | h | h
  ·exact .inl h
  ·exact absurd hc' (by rw [show c=b by simpa using h]; exact hbI)
  ·exact .inr h
 refine ⟨y,rfl,hchg',{ g with Imm:=Imm' },o1,⟨rfl,rfl,rfl,rfl,rfl,hI,fun c hc' => ?_⟩,hnew',?_,(ag.1 hndo).1,?_⟩
 ·rcases hnew' c hc' with h | h
  ·exact .inl h
  ·exact .inr (.inl (bD hp.base h.1))
 ·exact bV (g:=cz w Imm' g.Im) (g':={ g with Imm:=Imm' }) (fun _ h=>h) res y o1 hcl (.inr hsh) hR1
 ·intro c hc';have h1:=hfr c (by simp [hc']);refine ⟨?_,h1.2.1,h1.2.2⟩;rcases h1.1 with h | h
  ·have:c=b:=by simpa using h
   subst this;exact absurd rfl ((ag.1 hndo).2.2 c hc' c (by simp))
  ·exact h
theorem uE (N G:List aJ) (d f t n:Nat) {av av':AV} {q:Bool} {gl gl':List (Nat×List Value)} {cal x:Operand} (ys:List Operand) {args:Array Operand} {ats:Array TypeId} (avs:List AV) (res:AV) (hcal:rd N cal = .v (.func (.func f) #[] #[])) (hrun:∀ args w,(callFunc f args).run P w = .ok (.enter f args) w)
  (hargs:(ys++[x]).toArray=args) (hx:xR (N++[(t,av)]) x t=true) (hq:Nn av q) (hs:uW av av') (hav:ys.map (lN N)=avs) (hgl:look N n = .glob gl') (hsg:∀ p∈gl,p∈gl') (hf:ia P gl f (avs++[av']) [] res)
  (hc:(bq res&&bq av' && !Nat.beq t d&&N.all (fun e=>gw e.2))=true) (hG:[(t,.hid (Fa q)),(d,res)]=G) :
  bh P ⟨some d,.call ⟨.value cal,args,ats⟩,ty,pos,aft,gd⟩ N [(t,av)] G [.slot d]:=by
 subst hG hargs;simp only [ah,Bool.not_eq_true'] at hc;obtain ⟨⟨⟨hcl,hcv'⟩,htd⟩,hno⟩:=hc;have htd:t≠d:=fun e=>by rw [e,Nat.beq_refl] at htd; cases htd
 refine bh.core fun g V oN oT a w hd hp => ?_;have hN:=ka N oN hno hp.esN;have hT:=hp.esT;simp only [Es] at hT;obtain ⟨ob,o2,rfl,⟨hRt,htie⟩,rfl⟩:=hT;have hxa:=ov hp.val (aT.2 ⟨oN,_,rfl,hp.esN,hp.esT⟩) hx;obtain ⟨ad,hpt,hq⟩:=hq _ _ _ _ _ hRt;have hcv:=bP hp.val hp.esN hcal
 have hr:(execOp a.eval ⟨some d,.call ⟨.value cal,(ys++[x]).toArray,ats⟩,ty,pos,aft,gd⟩).run P w = .ok (.enter f ((ys++[x]).toArray.map a.eval)) w:=by simp [execOp,resolve,hcv,Deferred.ofValue,invoke,hrun]
 have hR:Rs (cz w g.Imm (fun b=>g.Im b∨b∈oN)) V0 w (avs++[av']) ((ys++[x]).map a.eval) ob:=by
  rw [List.map_append];refine cJ.2 ⟨_,_,[],ob,rfl,rfl,?_,?_⟩
  ·rw [← hav];exact fg (g:=g) (g':=cz w g.Imm (fun b=>g.Im b∨b∈oN)) rfl (fun b hb=>hb) hp.val hp.esN _
  ·simp only [List.map_cons,List.map_nil,Rs];refine ⟨_,_,ob,[],rfl,by simp,?_,rfl,rfl⟩;rw [hxa];exact bV (g:=g) (g':=cz w g.Imm (fun b=>g.Im b∨b∈oN)) (fun _ h=>h) av' _ ob hcv' (.inl fun b hb => .inl hb) (hs _ _ _ _ _ hRt)
 have hnd:=hp.nodup
 have hob:∀ b∈ob,b<w.heap.size∧¬ (g.Imm b∨g.Im b∨b∈oN):=by
  intro b hb;have h1:=hp.own b (by simp [hb]);refine ⟨h1.1,?_⟩;rintro (h | h | h)
  ·exact h1.2 (.inl h)
  ·exact h1.2 (.inr h)
  ·exact (ag.1 hnd).2.2 b h b (by simp [hb]) rfl
 obtain ⟨og,_,hRg,_⟩:=cE hp.esN n;dsimp only at hRg;rw [hgl] at hRg;simp only [R] at hRg
 have hc:=hf g.Imm (fun b=>g.Im b∨b∈oN) w _ ob (fun b hb=>by
  rcases hb with hb | hb | hb
  ·exact hp.imm b (.inl hb)
  ·exact hp.imm b (.inr hb)
  ·exact (hp.own b (by simp [hb])).1) (fun p hp'=>⟨(hRg.1 p (hsg p hp')).1.imp id .inl,(hRg.1 p (hsg p hp')).2⟩) hR (by simpa using (ag.1 hnd).2.1) hob
 have ea:((ys++[x]).map a.eval).toArray=(ys++[x]).toArray.map a.eval:=by simp
 rw [ea] at hc;have hlt:d<g.n:=hd d rfl;refine Yl.call hr (hc.mono ?_);rintro e' w' ⟨y,rfl,hchg,Imm',o,hI,hnew,hRr,hndo,hfr⟩;simp only [List.length_nil,List.take_zero,Rs] at hRr;obtain ⟨y',iD,o1,o2,hyv,rfl,hR1,rfl,rfl⟩:=hRr;obtain ⟨rfl,_⟩:=List.cons.inj hyv;have hbo:∀ b,b∈ob→b∈ob++[]:=fun b hb=>by simp [hb]
 let V1:bF→Value:=fun l=>match l with
  | .slot u=>if u=d then y else V (.slot u)
  | .cell u j=>if u=d then eB w' y j else V (.cell u j)
 have hV1:∀ l,fq [.slot d] l=false→V1 l=V l:=by
  intro l hl;have:=jV d l hl
  cases l with
  | slot u=>simp only at this; simp [V1,this]
  | cell u j=>simp only at this; simp [V1,this]
 let g':Gh:={ g with Imm:=fun b=>Imm' b };refine ⟨y,rfl,g',V1,[]++(o1++[]),⟨rfl,rfl,rfl,rfl,rfl,hI,fun c hc => ?_⟩,fun c hc => ?_,fun c hc => ?_,hchg.mono hbo,hV1,?_,?_,?_,fun c hc => ?_⟩
 ·rcases hnew c hc with h | h | h
  ·exact .inl h
  ·exact .inr (hp.own2 c (by simp [h]))
  ·exact .inr (.inl (bD hp.base h.1))
 ·rcases hnew c hc with h | h | h
  ·exact .inl h
  ·exact .inr (.inl (hbo c h))
  ·exact .inr (.inr h.1)
 ·rcases hnew c hc with h | h | h
  ·exact am (hp.imm c (.inl h)) hchg.size
  ·exact am (hob c h).1 hchg.size
  ·exact h.2
 ·intro u;rw [eM a d u y (by rw [hp.size]; exact hlt)];simp only [V1];split
  ·rfl
  ·exact hp.val u
 ·refine ⟨[],o1++[],rfl,⟨?_,trivial⟩,o1,[],rfl,⟨?_,?_⟩,rfl⟩
  ·simp only [R];exact ⟨rfl,ad,by simp [V1,htd,hpt],hq⟩
  ·show R _ _ _ res (V1 (.slot d)) o1;rw [show V1 (.slot d)=y by simp [V1]];exact bV (g:=cz w Imm' (fun b=>g.Im b∨b∈oN)) (g':=g') (fun _ h=>h) res y o1 hcl (.inl fun b hb=>hb.resolve_right (by rw [hN]; simp)) hR1
  ·cases res <;> try trivial
   case box T' cs' =>
    intro b' hb' j hj;dsimp only at hb' hj ⊢;rw [show V1 (.slot d)=y by simp [V1]] at hb';simp only [R] at hR1;obtain ⟨b2,ws,os,hx',_,hh',hrs'⟩:=hR1;rw [hb'] at hx'; cases hx';simp only [V1,if_true,hb'];exact df hh' (by rw [aZ hrs']; exact hj)
 ·simpa using hndo
 ·obtain ⟨h1,h2,h3⟩:=hfr c (by simpa using hc);refine ⟨h1.imp (fun h=>hbo c h) id,h2,?_⟩;rintro (h | h)
  ·exact h3 h
  ·rcases h1 with h1 | h1
   ·exact (hob c h1).2 (.inr (.inl h))
   ·exact absurd (hp.imm c (.inr h)) (by omega)
end
theorem BK {g:Gh} {a:Act} {w:World} {es:List aJ} {t u i:Nat} {T S:TypeId} {cs ds:List AV} (hi:i<cs.length) (hg:cs.getD i .any = .ptr u 0) (hcd:bj ds=true) (h:eX g ((t,.box T cs)::(u,.box S ds)::es) a w) :
  ∃ b,eX g ((t,.box T (cs.set i (.hid (nT (some b) S ds))))::(u,.v (.pointer (some ⟨b,0,none⟩)))::es) a w:=by
 obtain ⟨V,ow,hst,o1,o2,rfl,⟨hR,htie⟩,om,oR,rfl,⟨hU,_⟩,hF⟩:=h;simp only [R] at hR hU;obtain ⟨bb,ys,os,hp,rfl,hh,hrs⟩:=hR;obtain ⟨b,xs,ms,hu,rfl,hhb,hrd⟩:=hU;obtain ⟨oa,oi,oc,rfl,hA,hRi,hC⟩:=ke i hrs hi;rw [hg] at hRi;simp only [R] at hRi;obtain ⟨b',e1,hx,rfl⟩:=hRi;rw [hu] at e1
 cases e1
 refine ⟨b,V,_,hst.perm (?_:((bb::(oa++([]++oc)))++((b::ms)++oR)).Perm ((bb::(oa++((b::ms)++oc)))++([]++oR))),bb::(oa++((b::ms)++oc)),[]++oR,rfl,⟨?_,?_⟩,[],oR,rfl,⟨?_,trivial⟩,hF⟩
 ·simp only [List.nil_append,List.cons_append,List.append_assoc];refine .cons _ (.append_left _ ?_);have:=(List.perm_append_comm (l₁:=oc) (l₂:=b::ms)).append_right oR;simpa using this
 ·simp only [R];refine ⟨bb,ys,_,hp,rfl,hh,nI i hi (aZ hrs) hA ?_ hC⟩;simp only [R];exact ⟨b,xs,ms,hx,rfl,hhb,bJ (g:=g) (g':=cz w g.Imm g.Im) (fun _ h=>h) ds xs ms hcd (.inl fun _ h=>h) hrd,fun c hc=>by cases hc; rfl⟩
 ·dsimp only at htie ⊢;intro b' hb' j hj;exact htie b' hb' j (by simpa using hj)
 ·simp only [R];exact ⟨hu,trivial⟩
section
variable {P:Program} {Q:Exit→Act→World→Prop} {g0:Gh} {rnd:Option Nat}
theorem Dv {cd:Code} {es:List aJ} {t u:Nat} {T S:TypeId} {cs ds:List AV} (i:Nat) (cs':Nat→List AV) (hi:i<cs.length) (hg:cs.getD i .any = .ptr u 0) (hcd:bj ds=true) (hc':∀ b,cs.set i (.hid (nT (some b) S ds))=cs' b)
  (h:∀ b,HT rnd P Q g0 cd ((t,.box T (cs' b))::(u,.v (.pointer (some ⟨b,0,none⟩)))::es)):HT rnd P Q g0 cd ((t,.box T cs)::(u,.box S ds)::es):=by intro g a w hl hs;obtain ⟨b,hs'⟩:=BK hi hg hcd hs;rw [hc'] at hs';exact h b g a w hl hs'
end
end Go.Abs
