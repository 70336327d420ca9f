import Derived.ChangeArms
import Derived.WideShapes
import Derived.DataReads
import Derived.Lib.AppendStr
import Derived.Test.YtjnnkhmhjcjhdaaGreatDoorAD
section
namespace Go.Abs
def FH (xs:List Value) (posts:List AV) (o0:List Nat) (Imm Im:Nat→Prop) (w:World) (res:AV) (e:Ending) (w':World):Prop :=
 ∃ x,e = .returned x∧dH o0 w w'∧∃ (Imm':Nat→Prop) (o:List Nat),(∀ b,Imm b→Imm' b)∧(∀ b,Imm' b→Imm b∨b∈o0∨(w.heap.size≤b∧b<w'.heap.size)) ∧
  Rs (fE w Imm' Im) V0 w' (res::posts) (x::xs.take posts.length) o∧o.Nodup∧∀ b∈o,(b∈o0∨w.heap.size≤b)∧b<w'.heap.size∧¬ Imm' b
def pO (P:Program) (f:FuncId) (args posts:List AV) (res:AV):Prop :=
 ∀ (Imm Im:Nat→Prop) (w:World) (xs:List Value) (o0:List Nat),(∀ b,Imm b∨Im b→b<w.heap.size)→Rs (fE w Imm Im) V0 w args xs o0→o0.Nodup→(∀ b∈o0,b<w.heap.size∧¬ (Imm b∨Im b)) →
  Calls P f xs.toArray w (FH xs posts o0 Imm Im w res)
def wU (P:Program) (fn:Func) (xs:List Value) (posts:List AV) (o0:List Nat) (Imm Im:Nat→Prop) (w:World) (res:AV):Exit→Act→World→Prop:=bodyPost P fn (FH xs posts o0 Imm Im w res)
def gT (k:Nat) (xs:List Value):List aE:=(List.range k).map fun i=>(i,.v (xs.getD i undef))
section
variable {P:Program} {Q:Exit→Act→World→Prop} {g0:Gh} {rnd:Option Nat}
theorem eN {w:World} {b:Nat} {ys:List Value} {T:TypeId} {i:Nat} (h:w.heap[b]? = some (.cells ys.toArray T (0,0))) (hi:i<ys.length) :
  w.cell? ⟨b,i,none⟩=some (gv w (.pointer (some ⟨b,0,none⟩)) i):=by
 simp only [gv]
 rw [cell_of_row w b i _ T (0,0) h]
 simp [hi]
theorem qF {g:Gh} {V:bl→Value} {w:World} (hV:∀ av x o,aY av=true→R g V0 w av x o→R g V w av x o) (hC:∀ t i,V (.cell t i)=gv w (V (.slot t)) i):∀ (args:List AV) (xs:List Value) (k:Nat) (o:List Nat),bi args=true→Rs g V0 w args xs o→(∀ i x,xs[i]? = some x→V (.slot (k+i))=x) →
  Es g V w ((args.zipIdx k).map fun p=>(p.2,p.1)) o
 | [],xs,k,o,_,h,_=>by simp only [Rs] at h; exact h.2
 | av::args,xs,k,o,hc,h,hv=>by
  simp only [Rs] at h
  obtain ⟨x,xs',o1,o2,rfl,rfl,h1,h2⟩:=h
  simp only [bi,Bool.and_eq_true] at hc
  simp only [List.zipIdx_cons,List.map_cons]
  have h0:V (.slot k)=x:=by simpa using hv 0 x rfl
  refine ⟨o1,o2,rfl,⟨?_,?_⟩,qF hV hC args xs' (k+1) o2 hc.2 h2 fun i y hy => ?_⟩
  ·show R g V w av (V (.slot k)) o1
   rw [h0]; exact hV av x o1 hc.1 h1
  ·cases av <;> try trivial
   case box T cs =>
    intro b hb i hi
    dsimp only at hb hi ⊢
    simp only [R] at h1
    obtain ⟨b',ys,os,hx,_,hh,hrs⟩:=h1
    rw [h0,hx] at hb
    cases hb
    rw [hC,h0,hx]
    exact eN hh (by rw [aR hrs]; exact hi)
  ·have:=hv (i+1) y (by simpa using hy)
   rwa [show k+1+i=k+(i+1) by omega]
theorem vS {g:Gh} {V:bl→Value} {w:World} {xs:List Value}:∀ (l:List Nat),(∀ i∈l,V (.slot i)=xs.getD i undef)→Es g V w (l.map fun i=>(i,.v (xs.getD i undef))) []
 | [],_=>rfl
 | i::l,h=>⟨[],[],rfl,⟨by simp only [R]; exact ⟨h i (by simp),trivial⟩,trivial⟩,vS l fun j hj=>h j (by simp [hj])⟩
theorem wG {f:FuncId} {fn:Func} {c:Code} {args posts:List AV} {res:AV} (hf:P.funcs[f]? = some fn) (hb:fn.body=some c) (hk:args.length≤fn.ntmps) (hcl:bi args=true) (hpl:posts.length≤args.length)
  (h:∀ (xs:List Value),posts.length≤xs.length→∀ g0:Gh,g0.n=fn.ntmps→g0.ds=[]→HT none P (wU P fn xs posts g0.io g0.Imm g0.Im g0.w0 res) g0 c (cS args++gT posts.length xs)):pO P f args posts res:=by
 intro Imm Im w xs o0 himm hR hnd ho0
 have hlen:=aR hR
 refine calls_of_wp hf hb ((wpIn_wide (n:=0)).1 ?_)
 have hg:=h xs (by omega) ⟨fn.ntmps,w,o0,Imm,Im,[]⟩ rfl rfl ⟨fn.ntmps,w,o0,Imm,Im,[]⟩ { tmps:=xs.toArray++Array.replicate (fn.ntmps-xs.toArray.size) undef,defers:=[] } w (Gh.le_refl _)
 let V:bl→Value:=fun l=>match l with | .slot t=>(xs.toArray++Array.replicate (fn.ntmps-xs.toArray.size) undef).getD t undef | .cell t i=>gv w ((xs.toArray++Array.replicate (fn.ntmps-xs.toArray.size) undef).getD t undef) i
 have hslot:∀ i x,xs[i]? = some x→V (.slot i)=x:=by
  intro i x hx
  have hi:=(List.getElem?_eq_some_iff.1 hx).1
  simp only [V,Array.getD_eq_getD_getElem?]
  rw [Array.getElem?_append_left (by simpa using hi)]
  simp [hx]
 refine hg ⟨V,o0,⟨fun _=>rfl,?_,rfl,List.nodup_nil,by simp,hnd,fun b hb=>⟨(ho0 b hb).1,.inr hb,(ho0 b hb).2⟩,himm,dH.refl _ _⟩,aH.2 ⟨o0,[],by simp,?_,vS _ ?_⟩⟩
 ·simp; omega
 ·unfold cS
  refine qF (g:=⟨fn.ntmps,w,o0,Imm,Im,[]⟩) (fun av x o hc hr=>cU (fun _ h=>h) av x o hc (.inl fun _ h=>h) hr) (fun _ _=>rfl) args xs 0 o0 hcl ?_ ?_
  ·exact bN (g:=fE w Imm Im) (g':=⟨fn.ntmps,w,o0,Imm,Im,[]⟩) (V:=V0) (V':=V0) (fun _ h=>h) args xs o0 hcl (.inl fun _ h=>h) hR
  ·intro i x hx; rw [Nat.zero_add]; exact hslot i x hx
 ·intro i hi
  rw [List.mem_range] at hi
  have hi':i<xs.length:=by omega
  rw [hslot i xs[i] (List.getElem?_eq_getElem hi')]
  simp [List.getD,hi']
theorem xu {g:Gh} {V:bl→Value} {w:World} {xs:List Value}:∀ (l:List Nat) {o:List Nat},Es g V w (l.map fun i=>(i,.v (xs.getD i undef))) o→(∀ i∈l,V (.slot i)=xs.getD i undef)∧o=[]
 | [],o,h=>⟨by simp,h⟩
 | i::l,o,h=>by
  obtain ⟨o1,o2,rfl,⟨h1,_⟩,h2⟩:=h
  simp only [R] at h1
  obtain ⟨h3,rfl⟩:=xu l h2
  refine ⟨?_,by rw [h1.2]; rfl⟩
  intro j hj
  rcases List.mem_cons.1 hj with rfl | hj
  ·exact h1.1
  ·exact h3 j hj
theorem xQ {g:Gh} {V:bl→Value} {w:World}:∀ (posts:List AV) (k:Nat) {o:List Nat},Es g V w ((posts.zipIdx k).map fun p=>(p.2,p.1)) o→Rs g V w posts ((List.range' k posts.length).map fun i=>V (.slot i)) o
 | [],k,o,h=>⟨rfl,h⟩
 | av::posts,k,o,h=>by
  simp only [List.zipIdx_cons,List.map_cons] at h
  obtain ⟨o1,o2,rfl,⟨h1,_⟩,h2⟩:=h
  simp only [List.length_cons,List.range'_succ,List.map_cons,Rs]
  exact ⟨_,_,o1,o2,rfl,rfl,h1,xQ posts (k+1) h2⟩
theorem Br {fn:Func} {g0 g:Gh} {xs:List Value} {es:List aE} {avs posts:List AV} {a:Act} {w:World} {Imm:Nat→Prop} (hds:g0.ds=[]) (hI0:g0.Imm=Imm) (hle:g0.le g) (hret:pC P fn.results.toList es avs) (hcl:bi avs=true) (hclp:bi posts=true) (hpl:posts.length≤xs.length) (hs:fg g (es++(cS posts++gT posts.length xs)) a w) :
  wU P fn xs posts g0.io Imm g0.Im g0.w0 (nZ avs) .ret a w∧wU P fn xs posts g0.io Imm g0.Im g0.w0 (nZ avs) .normal a w:=by
 have key:a.defers=[]∧∃ v,(results fn a.tmps).run P w = .ok v w∧FH xs posts g0.io Imm g0.Im g0.w0 (nZ avs) (.returned v) w:=by
  obtain ⟨V,o,hst,hes⟩:=hs
  obtain ⟨oA,oB,rfl,hA,hB⟩:=aH.1 hes
  obtain ⟨oP,oQ,rfl,hP,hQ⟩:=aH.1 hB
  obtain ⟨hpin,rfl⟩:=xu _ hQ
  have hPs:=xQ posts 0 hP
  have hvals:((List.range' 0 posts.length).map fun i=>V (.slot i))=xs.take posts.length:=by
   apply List.ext_getElem?
   intro i
   simp only [List.getElem?_map,List.getElem?_take]
   by_cases hi:i<posts.length
   ·rw [List.getElem?_range' hi,if_pos hi,List.getElem?_eq_getElem (by omega:i<xs.length)]
    simp only [Option.map_some]
    have:=hpin i (by simp [hi])
    rw [show 0+1 * i=i by omega,this]
    simp [List.getD,show i<xs.length by omega]
   ·rw [if_neg hi,List.getElem?_eq_none (by simpa using hi)]; rfl
  rw [hvals] at hPs
  obtain ⟨ys,o',o'',hR,hperm,hrun⟩:=Au hst.val hret hA
  have hndA:=(List.nodup_append.1 hst.nodup).1
  have hnd:o'.Nodup:=(List.nodup_append.1 (hperm.nodup_iff.1 hndA)).1
  have hsub:∀ b∈o'++oP,b∈oA++(oP++[]):=fun b hb=>by
   rcases List.mem_append.1 hb with h | h
   ·have:=hperm.mem_iff.2 (List.mem_append.2 (.inl h)); simp [this]
   ·simp [h]
  have hnd2:(o'++oP).Nodup:=by
   have hn:=List.nodup_append.1 hst.nodup
   refine List.nodup_append.2 ⟨hnd,by simpa using hn.2.1,fun b hb c hc=>hn.2.2 b (hperm.mem_iff.2 (by simp [hb])) c (by simp [hc])⟩
  refine ⟨by rw [hst.defers,hle.ds,hds]; rfl,(if h:ys.length=1 then ys.getD 0 undef else .tuple ys.toArray),?_,?_⟩
  ·have hres:results fn a.tmps=(do let vs ← fn.results.mapM (lz a.tmps); pure (if h:vs.size=1 then vs[0] else .tuple vs)):=by
    unfold results
    congr 1
   rw [hres,Array.mapM_eq_mapM_toList]
   simp only [Sem.run_bind,Sem.run_map,hrun,Result.andThen_ok]
   by_cases h:ys.length=1
   ·simp [h]
   ·simp [h]
  ·refine ⟨_,rfl,by have:=hst.chg; rw [hle.w0,hle.io] at this; exact this,g.Imm,o'++oP,by rw [← hI0]; exact hle.Imm,?_,?_,hnd2,?_⟩
   ·intro b hb
    rcases hle.new b hb with h | h | h
    ·exact .inl (hI0 ▸ h)
    ·exact .inr (.inr ⟨h,hst.imm b (.inl hb)⟩)
    ·exact .inr (.inl h)
   ·have hlen:=aR hR
    have hM:∀ b,g.Im b→(fE g0.w0 g.Imm g0.Im).Im b:=fun b hb=>by rw [hle.Im] at hb; exact hb
    have hR':=bN (g:=g) (g':=fE g0.w0 g.Imm g0.Im) (V':=V0) (fun _ h=>h) avs ys o' hcl (.inl hM) hR
    have hP':=bN (g:=g) (g':=fE g0.w0 g.Imm g0.Im) (V':=V0) (fun _ h=>h) posts _ oP hclp (.inl hM) hPs
    simp only [Rs]
    refine ⟨_,_,o',oP,rfl,rfl,?_,hP'⟩
    unfold nZ
    split
    ·rename_i av
     simp only [Rs] at hR'
     obtain ⟨x,xs',o1,o2,rfl,rfl,h1,rfl,rfl⟩:=hR'
     simpa using h1
    ·rename_i hne
     have:ys.length≠1:=by
      intro h1
      rw [hlen] at h1
      match avs,h1 with
      | [av],_=>exact hne av rfl
     simp only [this,dite_false,R]
     exact ⟨ys,rfl,hR'⟩
   ·intro b hb
    have:=hst.own b (hsub b hb)
    rw [hle.w0,hle.io] at this
    exact ⟨this.2.1.symm,this.1,fun h=>this.2.2 (.inl h)⟩
 exact ⟨key,key⟩
theorem bG {fn:Func} {xs:List Value} {Imm:Nat→Prop} {es fs:List aE} {avs posts:List AV} {res:AV} (hds:g0.ds=[]) (hI:g0.Imm=Imm) (hfs:es++(cS posts++gT posts.length xs)=fs) (hret:pC P fn.results.toList es avs) (hcl:bi avs=true) (hclp:bi posts=true) (hpl:posts.length≤xs.length) (hres:nZ avs=res):PT (wU P fn xs posts g0.io Imm g0.Im g0.w0 res) g0 .ret fs:=by
 subst hres; subst hfs
 exact fun g a w hg hs=>(Br hds hI hg hret hcl hclp hpl hs).1
theorem kY {fn:Func} {xs:List Value} {Imm:Nat→Prop} {es fs:List aE} {avs posts:List AV} {res:AV} (hds:g0.ds=[]) (hI:g0.Imm=Imm) (hfs:es++(cS posts++gT posts.length xs)=fs) (hret:pC P fn.results.toList es avs) (hcl:bi avs=true) (hclp:bi posts=true) (hpl:posts.length≤xs.length) (hres:nZ avs=res):PT (wU P fn xs posts g0.io Imm g0.Im g0.w0 res) g0 .normal fs:=by
 subst hres; subst hfs
 exact fun g a w hg hs=>(Br hds hI hg hret hcl hclp hpl hs).2
end
section
variable {P:Program} {ty:TypeId} {pos:String} {aft:Array Edge} {gd:Option (Nat×Bool)}
def Ah (NT:List aE) (x:Operand) (t:Nat):Bool :=
 match x with
 | .tmp u=>Nat.beq u t||(match aO NT x with | .same (.slot s)=>Nat.beq s t | .ptr s 0=>Nat.beq s t | _=>false)
 | _=>false
def nz (NT:List aE):List Operand→List aE→Bool
 | [],[]=>true
 | x::xs,e::es=>Ah NT x e.1&&nz NT xs es
 | _,_=>false
theorem sK {g:Gh} {V:bl→Value} {w:World} {NT:List aE} {o:List Nat} {a:Act} (hv:∀ t,V (.slot t)=a.tmps.getD t undef) (h:Es g V w NT o) {x:Operand} {t:Nat} (hx:Ah NT x t=true):a.eval x=V (.slot t):=by
 cases x with
 | tmp u =>
  simp only [Ah,Bool.or_eq_true] at hx
  rcases hx with hx | hx
  ·rw [Nat.eq_of_beq_eq_true hx,hv]; rfl
  ·have hr:=bk hv h (.tmp u)
   cases hd:aO NT (.tmp u) <;> simp only [hd] at hx hr <;> try (cases hx; done)
   case same l =>
    cases l with
    | slot s =>
     simp only [R] at hr
     have:=Nat.eq_of_beq_eq_true hx
     rw [← this]; exact hr.1
    | cell s i=>cases hx
   case ptr s off =>
    cases off with
    | zero =>
     simp only [R] at hr
     obtain ⟨b,h1,h2,_⟩:=hr
     have:=Nat.eq_of_beq_eq_true hx
     rw [← this,h1]; exact h2
    | succ n=>cases hx
 | _=>cases hx
theorem lq {g:Gh} {V:bl→Value} {w:World} {NT:List aE} {o:List Nat} {a:Act} (hv:∀ t,V (.slot t)=a.tmps.getD t undef) (h:Es g V w NT o):∀ {xs:List Operand} {T:List aE},nz NT xs T=true→xs.map a.eval=T.map fun e=>V (.slot e.1)
 | [],[],_=>rfl
 | x::xs,e::es,hx=>by
  simp only [nz,Bool.and_eq_true] at hx
  simp only [List.map_cons]
  rw [sK hv h hx.1,lq hv h hx.2]
 | [],_::_,hx=>by cases hx
 | _::_,[],hx=>by cases hx
theorem xa {g:Gh} {V:bl→Value} {w:World}:∀ {T:List aE} {o:List Nat},Es g V w T o→Rs g V w (T.map (·.2)) (T.map fun e=>V (.slot e.1)) o
 | [],o,h=>⟨rfl,h⟩
 | e::T,o,h=>by
  obtain ⟨o1,o2,rfl,⟨h1,_⟩,h2⟩:=h
  simp only [List.map_cons,Rs]
  exact ⟨_,_,o1,o2,rfl,rfl,h1,xa h2⟩
def iT:List aE→List AV→List aE
 | e::T,p::ps=>(e.1,p)::iT T ps
 | _,_=>[]
def kL:List aE→List bl
 | []=>[]
 | (t,.box _ cs)::es=>(List.range cs.length).map (bl.cell t)++kL es
 | _::es=>kL es
theorem nF:∀ {es:List aE} {t:Nat} {T:TypeId} {cs:List AV} {i:Nat},(t,AV.box T cs)∈es→i<cs.length→bl.cell t i∈kL es
 | [],_,_,_,_,h,_=>by cases h
 | (s,av)::es,t,T,cs,i,h,hi=>by
  rcases List.mem_cons.1 h with h | h
  ·cases h
   simp only [kL,List.mem_append,List.mem_map,List.mem_range]
   exact .inl ⟨i,hi,rfl⟩
  ·have ih:=nF h hi
   cases av <;> simp only [kL,List.mem_append] <;> first | exact ih | exact .inr ih
theorem qy {g:Gh} {V V':bl→Value} {w:World}:∀ {T:List aE} {ps:List AV} {o:List Nat},ps.length≤T.length→Rs g V' w ps ((T.map fun e=>V' (.slot e.1)).take ps.length) o →
  (∀ t T' cs,(t,AV.box T' cs)∈iT T ps→∀ b xs,V' (.slot t) = .pointer (some ⟨b,0,none⟩)→w.heap[b]? = some (.cells xs T' (0,0))→xs.size=cs.length→∀ i,i<cs.length→w.cell? ⟨b,i,none⟩=some (V' (.cell t i)))→Es g V' w (iT T ps) o
 | [],ps,o,hl,h,_=>by
  cases ps with
  | nil=>exact h.2
  | cons p ps=>simp at hl
 | e::T,[],o,hl,h,_=>by simp only [List.length_nil,List.take_zero,Rs] at h; exact h.2
 | e::T,p::ps,o,hl,h,ht=>by
  simp only [List.map_cons,List.length_cons,List.take_succ_cons,Rs] at h
  obtain ⟨x,xs',o1,o2,he,rfl,h1,h2⟩:=h
  obtain ⟨rfl,rfl⟩:=List.cons.inj he
  refine ⟨o1,o2,rfl,⟨h1,?_⟩,qy (V:=V) (by simpa using hl) h2 fun t T' cs hm=>ht t T' cs (by simp [iT,hm])⟩
  cases p <;> try trivial
  case box T' cs =>
   intro b hb i hi
   dsimp only at hb hi ⊢
   simp only [R] at h1
   obtain ⟨b',ys,os,hx,_,hh,hrs⟩:=h1
   rw [hb] at hx; cases hx
   exact ht e.1 T' cs (by simp [iT]) b _ hb hh (by simpa using aR hrs) i hi
theorem uh (N T G:List aE) (W:List bl) (d:Nat) (f:FuncId) {cal:Operand} (xs ys:List Operand) {args:Array Operand} {ats:Array TypeId} (avs posts:List AV) (res:AV) (hcal:rd N cal = .v (.func (.func f) #[] #[])) (hrun:∀ args w,(callFunc f args).run P w = .ok (.enter f args) w)
  (hargs:(xs++ys).toArray=args) (hx:nz (N++T) xs T=true) (hav:ys.map (nc N)=avs) (hf:pO P f (T.map (·.2)++avs) posts res) (hpl:posts.length≤T.length) (hcl:aY res=true) (hclT:bi (T.map (·.2))=true) (hclp:bi posts=true)
  (hsh:il res=true) (hshp:lA posts=true) (hdt:T.all (fun e => !Nat.beq e.1 d)=true) (hG:iT T posts++[(d,res)]=G) (hW:bl.slot d::kL (iT T posts)=W) :
  aN P ⟨some d,.call ⟨.value cal,args,ats⟩,ty,pos,aft,gd⟩ N T G W:=by
 subst hG hW hargs
 refine aN.core fun g V oN oT a w hd hp => ?_
 have hcv:=bZ hp.val hp.esN hcal
 have hr:(execOp a.eval ⟨some d,.call ⟨.value cal,(xs++ys).toArray,ats⟩,ty,pos,aft,gd⟩).run P w = .ok (.enter f ((xs++ys).toArray.map a.eval)) w:=by
  simp [execOp,resolve,hcv,Deferred.ofValue,invoke,hrun]
 have hxe:=lq hp.val (aH.2 ⟨oN,oT,rfl,hp.esN,hp.esT⟩) hx
 have hR:Rs (fE w g.Imm (fun b=>g.Im b∨b∈oN)) V0 w (T.map (·.2)++avs) ((xs++ys).map a.eval) oT:=by
  rw [List.map_append,hxe]
  refine da.2 ⟨_,_,oT,[],rfl,by simp,?_,?_⟩
  ·exact bN (g:=g) (g':=fE w g.Imm (fun b=>g.Im b∨b∈oN)) (fun _ h=>h) _ _ oT hclT (.inl fun b hb => .inl hb) (xa hp.esT)
  ·rw [← hav]
   exact jg (g:=g) (g':=fE w g.Imm (fun b=>g.Im b∨b∈oN)) rfl (fun b hb=>hb) hp.val hp.esN _
 have hnd:=hp.nodup
 have hob:∀ b∈oT,b<w.heap.size∧¬ (g.Imm b∨g.Im b∨b∈oN):=by
  intro b hb
  have h1:=hp.own b (by simp [hb])
  refine ⟨h1.1,?_⟩
  rintro (h | h | h)
  ·exact h1.2 (.inl h)
  ·exact h1.2 (.inr h)
  ·exact (List.nodup_append.1 hnd).2.2 b h b hb rfl
 have hc:=hf g.Imm (fun b=>g.Im b∨b∈oN) w _ oT (fun b hb=>by
  rcases hb with hb | hb | hb
  ·exact hp.imm b (.inl hb)
  ·exact hp.imm b (.inr hb)
  ·exact (hp.own b (by simp [hb])).1) hR (List.nodup_append.1 hnd).2.1 hob
 have ea:((xs++ys).map a.eval).toArray=(xs++ys).toArray.map a.eval:=by simp
 rw [ea] at hc
 have hlt:d<g.n:=hd d rfl
 refine Yl.call hr (hc.mono ?_)
 rintro e' w' ⟨y,rfl,hchg,Imm',o,hI,hnew,hRr,hndo,hfr⟩
 have htake:((xs++ys).map a.eval).take posts.length=(T.map fun e=>V (.slot e.1)).take posts.length:=by
  rw [List.map_append,hxe,List.take_append_of_le_length (by simp [hpl])]
 simp only [htake,Rs] at hRr
 obtain ⟨y',jZ,o1,o2,hyv,rfl,hR1,hR2⟩:=hRr
 obtain ⟨rfl,rfl⟩:=List.cons.inj hyv
 let V1:bl→Value:=fun l=>match l with
  | .slot u=>if u=d then y else V (.slot u)
  | .cell u i=>if u=d then gv w' y i else if bl.cell u i∈kL (iT T posts) then gv w' (V (.slot u)) i else V (.cell u i)
 have hV1:∀ l,fX (.slot d::kL (iT T posts)) l=false→V1 l=V l:=by
  intro l hl
  simp only [fX,List.any_cons,Bool.or_eq_false_iff] at hl
  cases l with
  | slot u =>
   have:u≠d:=fun e=>by subst e; simp at hl
   simp [V1,this]
  | cell u i =>
   have h1:u≠d:=fun e=>by subst e; simp at hl
   have h2:bl.cell u i ∉ kL (iT T posts):=fun hm=>by
    have:=List.any_eq_false.1 hl.2 _ hm
    simp at this
   simp [V1,h1,h2]
 have hTd:∀ e∈T,e.1≠d:=fun e he hed=>by
  have:=List.all_eq_true.1 hdt e he
  rw [hed,Nat.beq_refl] at this; cases this
 have hslotT:(T.map fun e=>V1 (.slot e.1))=T.map fun e=>V (.slot e.1):=List.map_congr_left fun e he=>by simp [V1,hTd e he]
 have hzT:∀ {T:List aE} {ps:List AV} {t:Nat} {av:AV},(t,av)∈iT T ps→∃ e∈T,e.1=t:=by
  intro T
  induction T with
  | nil=>intro ps t av h; cases ps <;> cases h
  | cons e T ih =>
   intro ps t av h
   cases ps with
   | nil=>cases h
   | cons p ps =>
    rcases List.mem_cons.1 h with h | h
    ·cases h; exact ⟨e,by simp,rfl⟩
    ·obtain ⟨e',h1,h2⟩:=ih h; exact ⟨e',by simp [h1],h2⟩
 refine ⟨y,rfl,{ g with Imm:=fun b=>Imm' b },V1,o2++o1,⟨rfl,rfl,rfl,rfl,rfl,hI,fun b hb => ?_⟩,fun b hb => ?_,fun b hb => ?_,hchg,hV1,?_,?_,?_,fun b hb => ?_⟩
 ·rcases hnew b hb with h | h | h
  ·exact .inl h
  ·exact .inr (hp.own2 b (by simp [h]))
  ·exact .inr (.inl (Nat.le_trans hp.base h.1))
 ·rcases hnew b hb with h | h | h
  ·exact .inl h
  ·exact .inr (.inl h)
  ·exact .inr (.inr h.1)
 ·rcases hnew b hb with h | h | h
  ·exact Nat.lt_of_lt_of_le (hp.imm b (.inl h)) hchg.size
  ·exact Nat.lt_of_lt_of_le (hob b h).1 hchg.size
  ·exact h.2
 ·intro t
  rw [gJ a d t y (by rw [hp.size]; exact hlt)]
  simp only [V1]
  split
  ·rfl
  ·exact hp.val t
 ·refine aH.2 ⟨o2,o1,rfl,?_,o1,[],by simp,⟨?_,?_⟩,rfl⟩
  ·refine qy (V:=V) hpl ?_ ?_
   ·rw [hslotT]
    exact bN (g:=fE w Imm' (fun b=>g.Im b∨b∈oN)) (g':={ g with Imm:=fun b=>Imm' b }) (fun _ h=>h) _ _ o2 hclp (.inr hshp) hR2
   ·intro t T' cs hm b zs hb hh hsz i hi
    obtain ⟨e,he,rfl⟩:=hzT hm
    have htd:=hTd e he
    have hb':V (.slot e.1) = .pointer (some ⟨b,0,none⟩):=by simpa [V1,htd] using hb
    have hmem:=nF hm hi
    simp only [V1,htd,if_false,hmem,if_true,hb']
    obtain ⟨zl⟩:=zs
    exact eN hh (by simpa using (show i<zl.length by simp at hsz; omega))
  ·show R _ _ _ res (V1 (.slot d)) o1
   rw [show V1 (.slot d)=y by simp [V1]]
   exact cU (g:=fE w Imm' (fun b=>g.Im b∨b∈oN)) (g':={ g with Imm:=fun b=>Imm' b }) (fun _ h=>h) res y o1 hcl (.inr hsh) hR1
  ·cases res <;> try trivial
   case box T' cs =>
    intro b hb i hi
    dsimp only at hb hi ⊢
    rw [show V1 (.slot d)=y by simp [V1]] at hb
    simp only [R] at hR1
    obtain ⟨b',zs,os,hx',_,hh,hrs⟩:=hR1
    rw [hb] at hx'; cases hx'
    simp only [V1,if_true,hb]
    exact eN hh (by rw [aR hrs]; exact hi)
 ·exact List.perm_append_comm.nodup_iff.1 hndo
 ·obtain ⟨h1,h2,h3⟩:=hfr b (by rcases List.mem_append.1 hb with h | h <;> simp [h])
  refine ⟨h1,h2,?_⟩
  rintro (h | h)
  ·exact h3 h
  ·rcases h1 with h1 | h1
   ·exact (hob b h1).2 (.inr (.inl h))
   ·exact absurd (hp.imm b (.inr h)) (by omega)
theorem xS (N:List aE) (d t:Nat) {T:TypeId} (av:AV) (cs:List AV) (hok:dj [] av=true) (hcs:cA av=cs) (hcl:di [.slot d] cs=true) :
  aN P ⟨some d,.box T (.tmp t),ty,pos,aft,gd⟩ N [(t,av)] [(d,.box T cs)] [.slot d]:=by
 subst hcs
 refine aN.core fun g V oN oT a w hd hp => ?_
 have hT:=hp.esT
 simp only [Es] at hT
 obtain ⟨o,o2,rfl,⟨hR,_⟩,rfl⟩:=hT
 have hr:(execOp a.eval ⟨some d,.box T (.tmp t),ty,pos,aft,gd⟩).run P w = .ok (.value (.pointer (some ⟨w.heap.size,0,none⟩))) (w.alloc (.cells (a.eval (.tmp t)).cells T)):=by
  simp [execOp,Instr.box,newVar,newRow,newObj]
  rfl
 refine (Yl.val hr).mono ?_
 rintro y w' ⟨rfl,rfl⟩
 have he:a.eval (.tmp t)=V (.slot t):=by rw [hp.val]; rfl
 rw [he]
 obtain ⟨h1,_⟩:=jS (NT:=[]) (oNT:=[]) (g:=g) (V:=V) (w:=w) rfl hok hR
 have hlt:d<g.n:=hd d rfl
 have hown:∀ b∈o,b<w.heap.size∧¬ g.imm b:=fun b hb=>hp.own b (by simp [hb])
 let W':=w.alloc (.cells (V (.slot t)).cells T)
 have hnew:W'.heap[w.heap.size]? = some (.cells (V (.slot t)).cells T (0,0)):=by simpa [W'] using heap_alloc_new w (.cells (V (.slot t)).cells T)
 have hnew':W'.heap[w.heap.size]? = some (.cells (V (.slot t)).cells.toList.toArray T (0,0)):=by rw [hnew]
 let y:=Value.pointer (some ⟨w.heap.size,0,none⟩)
 let V1:bl→Value:=fun l=>match l with
  | .slot u=>if u=d then y else V (.slot u)
  | .cell u i=>if u=d then gv W' y i else V (.cell u i)
 have hV1:∀ l,fX [.slot d] l=false→V1 l=V l:=by
  intro l hl
  have:=mo d l hl
  cases l with
  | slot t=>simp only at this; simp [V1,this]
  | cell t i=>simp only at this; simp [V1,this]
 have hold:∀ b,b∈o∨g.imm b→W'.heap[b]? = w.heap[b]? := fun b hb=>heap_alloc_old w _ b (by
  rcases hb with hb | hb
  ·exact (hown b hb).1
  ·exact hp.imm b hb)
 refine ⟨g,V1,w.heap.size::o,g.le_refl,fun b hb => .inl hb,fun b hb => ?_,(dH.alloc _ _ _),hV1,?_,?_,?_,?_⟩
 ·exact Nat.lt_of_lt_of_le (hp.imm b (.inl hb)) (dH.alloc [] w _).size
 ·intro u
  rw [gJ a d u _ (by rw [hp.size]; exact hlt)]
  simp only [V1]
  split
  ·rfl
  ·exact hp.val u
 ·have hrs:Rs g V1 W' (cA av) (V (.slot t)).cells.toList o:=dk (W:=[.slot d]) (fun _ h=>h) (fun _ h=>h) hV1 _ _ _ hcl hold h1
  refine ⟨w.heap.size::o,[],by simp,⟨?_,?_⟩,rfl⟩
  ·show R g V1 W' (.box T (cA av)) (V1 (.slot d)) _
   rw [show V1 (.slot d)=y by simp [V1]]
   simp only [R]
   exact ⟨w.heap.size,_,o,rfl,rfl,hnew',hrs⟩
  ·intro b hb i hi
   dsimp only at hb hi ⊢
   rw [show V1 (.slot d) = .pointer (some ⟨w.heap.size,0,none⟩) by simp [V1,y]] at hb
   cases hb
   simp only [V1,if_true,y]
   exact eN hnew' (by rw [aR hrs]; exact hi)
 ·refine List.nodup_cons.2 ⟨fun h=>Nat.lt_irrefl _ (hown _ h).1,?_⟩
  have:=(List.nodup_append.1 hp.nodup).2.1
  simpa using this
 ·intro b hb
  rcases List.mem_cons.1 hb with rfl | hb
  ·exact ⟨.inr (Nat.le_refl _),by simp,fun hi=>Nat.lt_irrefl _ (hp.imm _ hi)⟩
  ·exact ⟨.inl (by simpa using hb),Nat.lt_of_lt_of_le (hown b hb).1 (dH.alloc [] w _).size,(hown b hb).2⟩
theorem jP (N:List aE) (d:Nat) (x:Operand) (t off:Nat) (h:aO N x = .ptr t off) (hdt:d≠t) :
  aN P ⟨some d,.nilCheck x,ty,pos,aft,gd⟩ N [] [(d,.ptr t off)] [.slot d]:=by
 refine aN.value rfl (by simp [eM,fX,hdt]) rfl fun g V oN a w hp => ?_
 have hR:=bk hp.val hp.esN x
 rw [h] at hR
 simp only [R] at hR
 obtain ⟨b,h1,h2,_⟩:=hR
 refine ⟨a.eval x,?_,by simp only [R]; exact ⟨b,h1,h2,trivial⟩⟩
 simp [execOp,h2]
end
end Go.Abs
end
section
namespace Go.Abs
theorem nK {g:Gh} {w:World} {s:Bool}:∀ {vs xs:List Value},ji g w s (vs.map IC.v) xs↔xs=vs
 | [],xs=>by simp [ji]
 | v::vs,xs=>by
  simp only [List.map_cons,ji,RI]
  constructor
  ·rintro ⟨x,xs',rfl,rfl,h⟩; rw [nK.1 h]
  ·rintro rfl; exact ⟨v,vs,rfl,rfl,nK.2 rfl⟩
theorem gj {g:Gh} {w:World} {s:Bool}:∀ {cs:List IC} {xs:List Value},ji g w s cs xs→xs.length=cs.length
 | [],xs,h=>by simp only [ji] at h; simp [h]
 | c::cs,xs,h=>by
  simp only [ji] at h
  obtain ⟨x,xs',rfl,_,h⟩:=h
  simp [gj h]
theorem jt {g:Gh} {w:World} {s:Bool}:∀ {cs ds:List IC} {xs ys:List Value},ji g w s cs xs→ji g w s ds ys→ji g w s (cs++ds) (xs++ys)
 | [],ds,xs,ys,h,h2=>by simp only [ji] at h; subst h; exact h2
 | c::cs,ds,xs,ys,h,h2=>by
  simp only [ji] at h
  obtain ⟨x,xs',rfl,h1,h⟩:=h
  simp only [List.cons_append,ji]
  exact ⟨x,_,rfl,h1,jt h h2⟩
theorem xo {g:Gh} {w:World} {s:Bool}:∀ (k:Nat) {cs:List IC} {xs:List Value},ji g w s cs xs→ji g w s (cs.drop k) (xs.drop k)
 | 0,_,_,h=>h
 | k+1,[],xs,h=>by simp only [ji] at h; subst h; simp [ji]
 | k+1,c::cs,xs,h=>by
  simp only [ji] at h
  obtain ⟨x,xs',rfl,_,h⟩:=h
  exact xo k h
theorem xL {g:Gh} {w:World} {s:Bool}:∀ (k:Nat) {cs:List IC} {xs:List Value},ji g w s cs xs→ji g w s (cs.take k) (xs.take k)
 | 0,_,_,_=>by simp [ji]
 | k+1,[],xs,h=>by simp only [ji] at h; subst h; simp [ji]
 | k+1,c::cs,xs,h=>by
  simp only [ji] at h
  obtain ⟨x,xs',rfl,h1,h⟩:=h
  simp only [List.take_succ_cons,ji]
  exact ⟨x,_,rfl,h1,xL k h⟩
theorem Ac {g:Gh} {w:World} {s:Bool}:∀ {cs:List IC} {xs:List Value} {k:Nat} {c:IC},ji g w s cs xs→cs[k]? = some c→∃ x,xs[k]? = some x∧RI g w s c x
 | [],_,_,_,_,h=>by simp at h
 | c::cs,xs,0,c',h,hc=>by
  simp only [ji] at h
  obtain ⟨x,xs',rfl,h1,h⟩:=h
  simp only [List.getElem?_cons_zero,Option.some.injEq] at hc
  subst hc
  exact ⟨x,rfl,h1⟩
 | c::cs,xs,k+1,c',h,hc=>by
  simp only [ji] at h
  obtain ⟨x,xs',rfl,h1,h⟩:=h
  obtain ⟨y,hy,hr⟩:=Ac h (by simpa using hc)
  exact ⟨y,by simpa using hy,hr⟩
theorem qz {g:Gh} {w:World} {s s':Bool} (h:s=true→s'=true) {cs:List IC} {xs:List Value} (hr:ji g w s cs xs):ji g w s' cs xs :=
 fL (fun b hb=>by
  cases s with
  | true=>rw [h rfl]; exact hb
  | false=>cases s' with
   | true=>exact .inl hb
   | false=>exact hb) (fun _ _=>rfl) cs xs hr
def JL:Bool→Md
 | true => .shr
 | false => .ro
inductive IA (s:Bool):IC→AV→Prop
 | v (x:Value):IA s (.v x) (.v x)
 | fl (z:Nat) (xs:List Value) {cs:List IC} (h:cs=xs.map IC.v):IA s (.row z cs) (.fl (JL s) z xs)
 | fr (z:Nat) (cs:List IC):IA s (.row z cs) (.fr (JL s) s z cs)
inductive Hp (s:Bool):List IC→List AV→Prop
 | nil:Hp s [] []
 | cons {c:IC} {av:AV} {cs:List IC} {avs:List AV} (h:IA s c av) (hs:Hp s cs avs):Hp s (c::cs) (av::avs)
theorem ta {g:Gh} {w:World} {s:Bool} {z n:Nat} {x:Value} {a:Option Addr} {vs:List Value} (h:vs≠[]→∃ ad,a=some ad∧wE g s ad.block):bI g w (JL s) z x n a vs []:=by
 cases s
 ·exact ⟨rfl,h⟩
 ·exact ⟨rfl,h⟩
theorem Hg {g:Gh} {V:bl→Value} {w:World} {s:Bool} {c:IC} {av:AV} {x:Value} (h:IA s c av) (hr:RI g w s c x):R g V w av x []:=by
 cases h with
 | v y=>simp only [RI] at hr; simp [R,hr]
 | fl z xs h =>
  subst h
  simp only [RI] at hr
  obtain ⟨vs,a,n,c,h1,h2,h3,h4,h5,h6⟩:=hr
  obtain rfl:=nK.1 h6
  simp only [R]
  exact ⟨a,n,c,h1,h2,h3,h4,ta h5⟩
 | fr z cs =>
  simp only [RI] at hr
  obtain ⟨vs,a,n,c,h1,h2,h3,h4,h5,h6⟩:=hr
  simp only [R]
  exact ⟨vs,a,n,c,h1,h2,h3,h4,ta h5,h6⟩
theorem FZ {g:Gh} {V:bl→Value} {w:World} {s:Bool} {cs:List IC} {avs:List AV} (h:Hp s cs avs):∀ {xs:List Value},ji g w s cs xs→Rs g V w avs xs []:=by
 induction h with
 | nil=>intro xs h; simp only [ji] at h; simp [Rs,h]
 | cons h hs ih =>
  intro xs hr
  simp only [ji] at hr
  obtain ⟨x,xs',rfl,h1,h2⟩:=hr
  simp only [Rs]
  exact ⟨x,xs',[],[],rfl,rfl,Hg h h1,ih h2⟩
theorem yj {s:Bool} {c:IC} {av:AV} (h:IA s c av) (W:List bl):eM W av=true∧fu av=true:=by
 cases h <;> exact ⟨rfl,rfl⟩
theorem FS {s:Bool} {cs:List IC} {avs:List AV} (h:Hp s cs avs) (W:List bl):di W avs=true:=by
 induction h with
 | nil=>rfl
 | cons h _ ih=>simp [di,ih,(yj h W).1]
inductive AI (s:Bool):AV→IC→Prop
 | v (x:Value):AI s (.v x) (.v x)
 | ro (z:Nat) (xs:List Value) {cs:List IC} (h:cs=xs.map IC.v):AI s (.fl .ro z xs) (.row z cs)
 | shr (z:Nat) (xs:List Value) {cs:List IC} (hs:s=true) (h:cs=xs.map IC.v):AI s (.fl .shr z xs) (.row z cs)
 | fro (z:Nat) (cs:List IC):AI s (.fr .ro false z cs) (.row z cs)
 | fsh (m:Md) (s':Bool) (z:Nat) (cs:List IC) (hm:vC m=true) (hs:s=true):AI s (.fr m s' z cs) (.row z cs)
 | nil (z:Nat):AI s (.v (.slice none 0 0)) (.row z [])
inductive GB (s:Bool):List AV→List IC→Prop
 | nil:GB s [] []
 | cons {c:IC} {av:AV} {cs:List IC} {avs:List AV} (h:AI s av c) (hs:GB s avs cs):GB s (av::avs) (c::cs)
theorem JR {g:Gh} {V:bl→Value} {w:World} {s:Bool} {c:IC} {av:AV} {x:Value} {o:List Nat} (h:AI s av c) (hr:R g V w av x o):RI g w s c x:=by
 cases h with
 | v y=>simp only [R] at hr; simp [RI,hr.1]
 | ro z xs h =>
  subst h
  simp only [R,bI] at hr
  obtain ⟨a,n,c,h1,h2,h3,h4,_,h5⟩:=hr
  simp only [RI]
  exact ⟨xs,a,n,c,h1,h2,h3,h4,fun hne=>let ⟨ad,e,hi⟩:=h5 hne; ⟨ad,e,by cases s <;> first | exact hi | exact .inl hi⟩,nK.2 rfl⟩
 | shr z xs hs h =>
  subst h; subst hs
  simp only [R,bI] at hr
  obtain ⟨a,n,c,h1,h2,h3,h4,_,h5⟩:=hr
  simp only [RI]
  exact ⟨xs,a,n,c,h1,h2,h3,h4,h5,nK.2 rfl⟩
 | fro z cs =>
  simp only [R,bI] at hr
  obtain ⟨vs,a,n,c,h1,h2,h3,h4,⟨_,h5⟩,h6⟩:=hr
  simp only [RI]
  exact ⟨vs,a,n,c,h1,h2,h3,h4,fun hne=>let ⟨ad,e,hi⟩:=h5 hne; ⟨ad,e,by cases s <;> first | exact hi | exact .inl hi⟩,qz (by simp) h6⟩
 | fsh m s' z cs hm hs =>
  subst hs
  simp only [R] at hr
  obtain ⟨vs,a,n,c,h1,h2,h3,h4,h5,h6⟩:=hr
  simp only [RI]
  refine ⟨vs,a,n,c,h1,h2,h3,h4,fun hne => ?_,qz (fun _=>rfl) h6⟩
  cases m with
  | own T=>cases hm
  | ro=>obtain ⟨ad,e,hi⟩:=h5.2 hne; exact ⟨ad,e,.inl hi⟩
  | shr=>exact h5.2 hne
 | nil z =>
  simp only [R] at hr
  simp only [RI]
  exact ⟨[],none,0,0,⟨hr.1,Nat.le_refl _⟩,by simp,by simp,fun h=>absurd rfl h,fun h=>absurd rfl h,by simp [ji]⟩
theorem GE {g:Gh} {V:bl→Value} {w:World} {s:Bool} {cs:List IC} {avs:List AV} (h:GB s avs cs):∀ {xs:List Value} {o:List Nat},Rs g V w avs xs o→ji g w s cs xs:=by
 induction h with
 | nil=>intro xs o h; simp only [Rs] at h; simp [ji,h.1]
 | cons h hs ih =>
  intro xs o hr
  simp only [Rs] at hr
  obtain ⟨x,xs',o1,o2,rfl,rfl,h1,h2⟩:=hr
  simp only [ji]
  exact ⟨x,xs',rfl,JR h h1,ih h2⟩
theorem uL {g:Gh} {V:bl→Value} {w:World} {m:Md} {s:Bool} {z:Nat} {cs:List IC} {x:Value} {o:List Nat} (h:R g V w (.fr m s z cs) x o) :
  ∃ vs,R g V w (.fl m z vs) x o∧ji g w s cs vs:=by
 simp only [R] at *
 obtain ⟨vs,a,n,c,h1,h2,h3,h4,h5,h6⟩:=h
 exact ⟨vs,⟨a,n,c,h1,h2,h3,h4,h5⟩,h6⟩
theorem Ak {g:Gh} {V:bl→Value} {w:World} {m:Md} {s:Bool} {z:Nat} {cs:List IC} {vs:List Value} {x:Value} {o:List Nat} (h:R g V w (.fl m z vs) x o) (h2:ji g w s cs vs) :
  R g V w (.fr m s z cs) x o:=by
 simp only [R] at *
 obtain ⟨a,n,c,h1,h2',h3,h4,h5⟩:=h
 exact ⟨vs,a,n,c,h1,h2',h3,h4,h5,h2⟩
theorem mQ (E:TypeId) (s:Bool) (z:Nat):Ea (.v (.slice none 0 0)) (.fr (.own E) s z []):=fun g V w x o h =>
 Ak (vs:=[]) (bL E z g V w x o h) (by simp [ji])
section
variable {P:Program} {ty:TypeId} {pos:String} {aft:Array Edge} {gd:Option (Nat×Bool)}
theorem BL (N:List aE) (d:Nat) {t t' e:TypeId} {x:Operand} {m:Md} {s:Bool} {z:Nat} {cs:List IC} (n:Nat) (hT:P.underlying t=some (.slice e)) (hx:rd N x = .fr m s z cs) (hz:0<z) (hn:cs.length=n * z) :
  aN P ⟨some d,.call ⟨.builtin .len,#[x],#[t]⟩,t',pos,aft,gd⟩ N [] [(d,.v (.int .i64 (n:Int)))] [.slot d]:=by
 refine aN.v rfl fun g V oN ac w hp => ?_
 obtain ⟨o',_,hr⟩:=kJ hp.val hp.esN x
 rw [hx] at hr
 obtain ⟨vs,hr,hi⟩:=uL hr
 have hvl:=gj hi
 simp only [R] at hr
 obtain ⟨a,n',c,⟨he,_⟩,hl,_⟩:=hr
 have:n'=n:=Nat.eq_of_mul_eq_mul_right hz (by omega)
 subst this
 simp [execOp,resolve,invoke,builtin,Builtin.len_,he,run_underlying hT,goInt]
theorem Dm (N:List aE) (d:Nat) {T e:TypeId} (x:Nat) (y:Operand) {kd:IntKind} {m:Md} {s:Bool} {cs:List IC} (nn:Int) (i z:Nat) (l:bl) (hT:P.underlying T=some (.slice e)) (hz:(P.info? e).map (·.size)=some z) (h0:0<z)
  (hx:rd N (.tmp x) = .fr m s z cs) (hl:pp N (.tmp x)=l) (hy:rd N y = .v (.int kd nn)) (hnn:nn=(i:Int)) (hi:i * z+z≤cs.length) (hd:fX [.slot d] l=false) :
  aN P ⟨some d,.indexAddr T (.tmp x) y,ty,pos,aft,gd⟩ N [] [(d,.eref l (i * z))] [.slot d]:=by
 subst hnn
 refine aN.value rfl (by simp [eM,hd]) rfl fun g V oN a w hp => ?_
 obtain ⟨o',_,hR⟩:=kJ hp.val hp.esN (.tmp x)
 rw [hx] at hR
 obtain ⟨xs,hR,hic⟩:=uL hR
 rw [← gj hic] at hi
 simp only [R] at hR
 obtain ⟨ad,n,c,⟨he,_⟩,hlen,_,hrd,_⟩:=hR
 have hne:xs≠[]:=fun e=>by subst e; simp at hi; omega
 obtain ⟨A,rfl,_⟩:=hrd hne
 have hin:i<n:=by
  rw [hlen] at hi
  have:(i+1) * z≤n * z:=by rw [Nat.add_mul]; omega
  exact Nat.lt_of_succ_le (Nat.le_of_mul_le_mul_right this h0)
 have h3:=bZ hp.val hp.esN hy
 have hV:V l = .slice (some A) n c:=by
  rw [← hl,← he]
  simp only [pp]
  obtain ⟨o2,_,h2⟩:=xz hp.val hp.esN (.tmp x)
  simp only [Bj] at h2
  cases hlk:look N x with
  | same l'=>rw [hlk] at h2; simp only [R] at h2; exact h2.1.symm
  | _=>simp only [hp.val,Act.eval]
 refine ⟨.pointer (some (A.add (i * z))),?_,by simp only [R]; exact ⟨A,n,c,hV,rfl,trivial⟩⟩
 simp [execOp,Instr.indexAt,Sem.run_bind,run_underlying hT,he,h3,asIntOf,aW hz,hin]
theorem dq (N:List aE) (d:Nat) {T:TypeId} {td:TypeDesc} (x:Operand) {m:Md} {s:Bool} {z:Nat} {cs:List IC} (l:bl) (k:Nat) (ic:IC) (av:AV) (hT:P.underlying T=some td) (ha:cT td=false)
  (hx:aO N x = .eref l k) (hl:qc N l = .fr m s z cs) (hv:cs[k]? = some ic) (hia:IA s ic av) :
  aN P ⟨some d,.load T x,ty,pos,aft,gd⟩ N [] [(d,av)] [.slot d]:=by
 refine aN.value rfl (yj hia _).1 (yj hia []).2 fun g V oN a w hp => ?_
 have hR:=bk hp.val hp.esN x
 rw [hx] at hR
 simp only [R] at hR
 obtain ⟨ad,n,c,h1,h2,_⟩:=hR
 obtain ⟨o',_,h3⟩:=nk hp.esN l
 rw [hl] at h3
 obtain ⟨vs,h3,hic⟩:=uL h3
 obtain ⟨v,hv',hri⟩:=Ac hic hv
 simp only [R] at h3
 obtain ⟨A,n',c',⟨h4,_⟩,_,_,hrd,_⟩:=h3
 rw [h1] at h4; cases h4
 obtain ⟨ad',e,hc⟩:=hrd (fun e=>by subst e; simp at hv')
 cases e
 refine ⟨v,?_,Hg hia hri⟩
 simp [execOp,Instr.loadAt,h2,Instr.sureAddr,iE hT ha (hc k v hv')]
theorem jF (N:List aE) (d:Nat) {T:TypeId} {td:TypeDesc} (x:Operand) {m:Md} {s:Bool} {z:Nat} {cs:List IC} (l:bl) (k sz:Nat) (ics:List IC) (avs:List AV) (hT:P.underlying T=some td) (ha:cT td=true) (hs:(P.info? T).map (·.size)=some sz)
  (hx:aO N x = .eref l k) (hl:qc N l = .fr m s z cs) (hv:(cs.drop k).take sz=ics) (hia:Hp s ics avs) (hlen:ics.length=sz) (h0:0<sz) :
  aN P ⟨some d,.load T x,ty,pos,aft,gd⟩ N [] [(d,.agg avs)] [.slot d]:=by
 refine aN.value rfl (by simp only [eM]; exact FS hia _) rfl fun g V oN a w hp => ?_
 have hR:=bk hp.val hp.esN x
 rw [hx] at hR
 simp only [R] at hR
 obtain ⟨ad,n,c,h1,h2,_⟩:=hR
 obtain ⟨o',_,h3⟩:=nk hp.esN l
 rw [hl] at h3
 obtain ⟨xs,h3,hic⟩:=uL h3
 have hvs:=xL sz (xo k hic)
 rw [hv] at hvs
 have hvl:=gj hvs
 simp only [R] at h3
 obtain ⟨A,n',c',⟨h4,_⟩,_,_,hrd,_⟩:=h3
 rw [h1] at h4; cases h4
 obtain ⟨ad',e,hc⟩:=hrd (fun e=>by subst e; simp at hvl; omega)
 cases e
 generalize hvse:(xs.drop k).take sz=vs at *
 refine ⟨.agg vs.toArray,?_,by simp only [R]; exact ⟨vs,rfl,FZ hia hvs⟩⟩
 have hload:=im (P:=P) (w:=w) (a:=ad.add k) (xs:=vs) hT ha hs (by omega) (fun j v hj=>by
  rw [add_add]
  refine hc (k+j) v ?_
  rw [← hvse] at hj
  simp only [List.getElem?_take,List.getElem?_drop] at hj
  split at hj
  ·exact hj
  ·cases hj)
 simp [execOp,Instr.loadAt,h2,Instr.sureAddr,hload]
theorem mN (N:List aE) (d:Nat) {T e:TypeId} (x:Operand) (z:Nat) (zv:Value) (s:Bool) (av:AV) (ics:List IC) (hT:P.underlying T=some (.slice e)) (hz:(P.info? e).map (·.size)=some z)
  (hzv:(P.info? e).bind (·.zero)=some zv) (h:aO N x=av) (hok:dj N av=true) (hai:GB s (cA av) ics) (hl:ics.length=z) (h0:0<z) (hsm:z≤16777216) :
  aN P ⟨some d,.buildSlice T 1 #[(0,x)],ty,pos,aft,gd⟩ N [] [(d,.fr (.own e) s z ics)] [.slot d]:=by
 refine aN.fresh rfl rfl fun g V oN a w hp => ?_
 have hR:=bk hp.val hp.esN x
 rw [h] at hR
 obtain ⟨h1,hone⟩:=jS hp.esN hok hR
 have hri:=GE hai h1
 have hcl:(a.eval x).cells.toList.length=z:=by rw [gj hri,hl]
 have hcs:(a.eval x).cells.size=z:=by simpa using hcl
 have hfill:Instr.fill (fun i=>some (i * z,z)) ((Array.range (1 * z)).map (zv.cells[· % zv.cells.size]!)) [(0,a.eval x)]=some (a.eval x).cells:=by
  have hno:¬ ((a.eval x).cells.size≠z∨0 * z+(a.eval x).cells.size > ((Array.range (1 * z)).map (zv.cells[· % zv.cells.size]!)).size):=by
   rw [Array.size_map,Array.size_range,hcs]; omega
  unfold Instr.fill
  simp only []
  rw [if_neg (by rw [Bool.or_eq_true,decide_eq_true_iff,decide_eq_true_iff]; exact hno)]
  unfold Instr.fill
  congr 1
  have:=nI (a.eval x).cells.toList (0 * z) ((Array.range (1 * z)).map (zv.cells[· % zv.cells.size]!)) 0 (by simp [hcs])
  apply Array.toList_inj.1
  rw [← Array.foldl_toList,Array.toList_zipIdx]
  refine Eq.trans ?_ (this.trans ?_)
  ·rfl
  ·simp only [Nat.zero_mul,Nat.zero_add,List.take_zero,List.nil_append]
   rw [List.drop_eq_nil_of_le (by simp [hcs]),List.append_nil]
 have hr:(execOp a.eval ⟨some d,.buildSlice T 1 #[(0,x)],ty,pos,aft,gd⟩).run P w = .ok (.value (.slice (some ⟨w.heap.size,0,none⟩) 1 1)) (w.alloc (.cells (a.eval x).cells e)):=by
  have hbig:¬ 1 * z > 2 ^ 24:=by omega
  have hnz:¬ 1 * z=0:=by omega
  simp only [execOp,Instr.buildSlice,Sem.run_bind,run_underlying hT,Result.andThen_ok,aW hz,hbig,if_false,hnz,jW hzv]
  have e1:((#[(0,x)]:Array (Nat×Operand)).map fun (i,x)=>(i,a.eval x)).toList=[(0,a.eval x)]:=by simp
  simp only [Sem.run_pure,Result.andThen_ok]
  rw [e1,hfill]
  simp [newRow,newObj]
  rfl
 have hown:=World.ownsRow_lit (base:=0) (e:=e) (size:=z) w (a.eval x).cells 1 (Nat.zero_le _) (by simp only [maxLen]; omega) (by omega)
 refine (Yl.val hr).mono ?_
 rintro v w2 ⟨rfl,rfl⟩
 refine ⟨dH.alloc _ _ _,g,[w.heap.size],g.le_refl,fun b hb => .inl hb,Ak (js hown hone) (fL (fun b h=>h) (fun b hb=>heap_alloc_old w _ b (hp.imm b hb)) ics _ hri),by simp,?_⟩
 intro b hb
 simp at hb; subst hb
 exact ⟨Nat.le_refl _,by simp,fun hi=>Nat.lt_irrefl _ (hp.imm _ (.inl hi))⟩
theorem iU (N:List aE) (d t:Nat) {T e:TypeId} (z:Nat) (zv:Value) (s:Bool) (av:AV) (ics:List IC) (hT:P.underlying T=some (.slice e)) (hz:(P.info? e).map (·.size)=some z)
  (hzv:(P.info? e).bind (·.zero)=some zv) (hok:dj [] (pm av)=true) (hai:GB s (cA (pm av)) ics) (hl:ics.length=z) (h0:0<z) (hsm:z≤16777216) :
  aN P ⟨some d,.buildSlice T 1 #[(0,.tmp t)],ty,pos,aft,gd⟩ N [(t,av)] [(d,.fr (.own e) s z ics)] [.slot d]:=by
 refine aN.core fun g V oN oT a w hd hp => ?_
 have hT':=hp.esT
 simp only [Es] at hT'
 obtain ⟨ot,o2',rfl,⟨hR0,_⟩,rfl⟩:=hT'
 have he:a.eval (.tmp t)=V (.slot t):=by rw [hp.val]; rfl
 obtain ⟨o',o2,hperm,hfr⟩:=Cu av _ ot hR0
 let g':Gh:={ g with Imm:=fun b=>g.Imm b∨b∈o2 }
 have ho2:∀ b∈o2,b∈ot:=fun b hb=>hperm.mem_iff.2 (by simp [hb])
 have hR:=hfr g' (fun b hb => .inl hb) (fun b hb=>hb) (fun b hb => .inr hb)
 rw [← he] at hR
 obtain ⟨h1,hone⟩:=jS (NT:=[]) (oNT:=[]) (g:=g') (V:=V) (w:=w) rfl hok hR
 have hri:=GE hai h1
 have hcl:(a.eval (.tmp t)).cells.toList.length=z:=by rw [gj hri,hl]
 have hcs:(a.eval (.tmp t)).cells.size=z:=by simpa using hcl
 have hfill:Instr.fill (fun i=>some (i * z,z)) ((Array.range (1 * z)).map (zv.cells[· % zv.cells.size]!)) [(0,a.eval (.tmp t))]=some (a.eval (.tmp t)).cells:=by
  have hno:¬ ((a.eval (.tmp t)).cells.size≠z∨0 * z+(a.eval (.tmp t)).cells.size > ((Array.range (1 * z)).map (zv.cells[· % zv.cells.size]!)).size):=by
   rw [Array.size_map,Array.size_range,hcs]; omega
  unfold Instr.fill
  simp only []
  rw [if_neg (by rw [Bool.or_eq_true,decide_eq_true_iff,decide_eq_true_iff]; exact hno)]
  unfold Instr.fill
  congr 1
  have:=nI (a.eval (.tmp t)).cells.toList (0 * z) ((Array.range (1 * z)).map (zv.cells[· % zv.cells.size]!)) 0 (by simp [hcs])
  apply Array.toList_inj.1
  rw [← Array.foldl_toList,Array.toList_zipIdx]
  refine Eq.trans ?_ (this.trans ?_)
  ·rfl
  ·simp only [Nat.zero_mul,Nat.zero_add,List.take_zero,List.nil_append]
   rw [List.drop_eq_nil_of_le (by simp [hcs]),List.append_nil]
 have hr:(execOp a.eval ⟨some d,.buildSlice T 1 #[(0,.tmp t)],ty,pos,aft,gd⟩).run P w = .ok (.value (.slice (some ⟨w.heap.size,0,none⟩) 1 1)) (w.alloc (.cells (a.eval (.tmp t)).cells e)):=by
  have hbig:¬ 1 * z > 2 ^ 24:=by omega
  have hnz:¬ 1 * z=0:=by omega
  simp only [execOp,Instr.buildSlice,Sem.run_bind,run_underlying hT,Result.andThen_ok,aW hz,hbig,if_false,hnz,jW hzv]
  have e1:((#[(0,.tmp t)]:Array (Nat×Operand)).map fun (i,x)=>(i,a.eval x)).toList=[(0,a.eval (.tmp t))]:=by simp
  simp only [Sem.run_pure,Result.andThen_ok]
  rw [e1,hfill]
  simp [newRow,newObj]
  rfl
 have hown:=World.ownsRow_lit (base:=0) (e:=e) (size:=z) w (a.eval (.tmp t)).cells 1 (Nat.zero_le _) (by simp only [maxLen]; omega) (by omega)
 refine (Yl.val hr).mono ?_
 rintro v w2 ⟨rfl,rfl⟩
 have hlt:d<g.n:=hd d rfl
 have hot:∀ b∈ot,b<w.heap.size∧¬ g.imm b:=fun b hb=>hp.own b (by simp [hb])
 have himm':∀ b,g'.imm b→b<w.heap.size:=by
  rintro b ((hb | hb) | hb)
  ·exact hp.imm b (.inl hb)
  ·exact (hot b (ho2 b hb)).1
  ·exact hp.imm b (.inr hb)
 refine ⟨g',bU V d _,[w.heap.size],⟨rfl,rfl,rfl,rfl,rfl,fun b hb => .inl hb,fun b hb=>hb.imp id fun h=>hp.own2 b (by simp [ho2 b h])⟩,fun b hb => ?_,fun b hb => ?_,(dH.alloc _ _ _),fun l hl=>bO hl,fun u=>cK hp.val hp.size hlt u,?_,by simp,?_⟩
 ·exact hb.imp id fun h => .inl (by simpa using ho2 b h)
 ·exact Nat.lt_of_lt_of_le (himm' b (.inl hb)) (dH.alloc [] w _).size
 ·refine ⟨[w.heap.size],[],by simp,⟨?_,trivial⟩,rfl⟩
  show R g' _ _ _ (bU V d _ (.slot d)) _
  rw [cf]
  exact Ak (js hown hone) (fL (fun b h=>h) (fun b hb=>heap_alloc_old w _ b (himm' b hb)) ics _ hri)
 ·intro b hb
  simp at hb; subst hb
  exact ⟨.inr (Nat.le_refl _),by simp,fun hi=>Nat.lt_irrefl _ (himm' _ hi)⟩
end
section
variable {A B:Type} {z:Nat}
theorem fO {enc:A→List B} (he:∀ x,(enc x).length=z) (l:List A):((l.map enc).flatten).length=l.length * z:=by
 induction l with
 | nil=>simp
 | cons x l ih=>simp only [List.map_cons,List.flatten_cons,List.length_append,he,ih,List.length_cons,Nat.add_mul]; omega
theorem CM {enc:A→List B} (he:∀ x,(enc x).length=z) {l:List A} {i:Nat} (h:i<l.length):i * z+z≤((l.map enc).flatten).length:=by
 rw [fO he]
 have:(i+1) * z≤l.length * z:=Nat.mul_le_mul_right _ h
 rw [Nat.add_mul] at this; omega
theorem sG {enc:A→List B} (he:∀ x,(enc x).length=z):∀ (l:List A) (i:Nat),((l.map enc).flatten).drop (i * z)=((l.drop i).map enc).flatten
 | [],i=>by simp
 | x::l,0=>by simp
 | x::l,i+1=>by
  simp only [List.map_cons,List.flatten_cons,List.drop_succ_cons]
  rw [Nat.add_mul,Nat.one_mul,Nat.add_comm,← List.drop_drop,← he x,List.drop_left,he x]
  exact sG he l i
theorem kt {enc:A→List B} (he:∀ x,(enc x).length=z) {l:List A} {i:Nat} {x:A} (h:bp l i=some x):(((l.map enc).flatten).drop (i * z)).take z=enc x:=by
 rw [sG he]
 obtain ⟨hi,rfl⟩:=List.getElem?_eq_some_iff.1 h
 rw [List.drop_eq_getElem_cons hi]
 simp only [List.map_cons,List.flatten_cons]
 rw [← he l[i],List.take_left]
theorem dn {enc:A→List B} (he:∀ x,(enc x).length=z) {l:List A} {i j:Nat} {x:A} {v:B} (h:bp l i=some x) (hv:(enc x)[j]? = some v):((l.map enc).flatten)[i * z+j]? = some v:=by
 have h1:=kt he h
 have hj:j<z:=by rw [← he x]; exact (List.getElem?_eq_some_iff.1 hv).1
 rw [← h1,List.getElem?_take,if_pos hj,List.getElem?_drop] at hv
 exact hv
theorem lN {enc:A→List B} {l m q:List A} (h:l++m=q):(l.map enc).flatten++(m.map enc).flatten=(q.map enc).flatten:=by subst h; simp
end
section
variable {P:Program} {Q:Exit→Act→World→Prop} {g0:Gh} {rnd:Option Nat}
theorem Aa {c:Code} {es es':List aE} (i:Nat) (ht:g0.ds=[]) (he:(es.modify i fun e=>(e.1,pm e.2))=es') (h:HT rnd P Q g0 c es'):HT rnd P Q g0 c es:=by
 intro g a w hg hs
 exact sq (Q:=fun e a w=>c.wpIn (FW rnd) 0 P Q a w) (e := .normal) i ht he (fun g a w hg hs=>h g a w hg hs) g a w hg hs
end
end Go.Abs
end
section
namespace Go.Abs
open Go.WideShapes
def pU (k:IntKind) (n:Int):Prop:=(Lit.int k n).wf=true
def Az (s:Mf):Prop:=s.size≤maxLen
def xx {A:Type} (p:A→Prop) (l:List A):Prop:=l.length≤maxLen∧∀ x∈l,p x
def Bk (W:World):Gh:=fE W (fun _=>False) (fun b=>b<W.heap.size)
def pQ {H:Type} (enc:TypeId×Value→H) (P:Program) (W:World) (sp:Nat→Bool) (hd:Bool) (t:TypeId) {A:Type} (ie:A→List IC) (wf:A→Prop):Prop :=
 ∀ (fuel:Nat) (cs:List Value) (y:DataW H×List MemPlace),DataW.trod enc P W 0 sp hd fuel t cs=some y→∃ x:A,ji (Bk W) W true (ie x) cs∧(∀ u∈cs,u.oneCell'=true)∧wf x
section
variable {H:Type} {enc:TypeId×Value→H} {P:Program} {W:World} {sp:Nat→Bool} {hd:Bool} {t:TypeId}
theorem oJ {g:Gh} {w:World} {s:Bool} {c:IC} {x:Value}:ji g w s [c] [x]↔RI g w s c x:=by
 simp only [ji]
 constructor
 ·rintro ⟨x',xs,h,h1,rfl⟩; cases h; exact h1
 ·intro h; exact ⟨x,[],rfl,h,rfl⟩
theorem CW {k:IntKind} (ht:P.underlying t=some (.int k)):pQ enc P W sp hd t (fun n:Int=>[IC.v (.int k n)]) (pU k):=by
 intro fuel cs y h
 obtain ⟨n,rfl,_,hw⟩:=DataW.trod_int ht h
 exact ⟨n,oJ.2 (by simp only [RI]),by simp [Value.oneCell'],hw⟩
theorem BX (ht:P.underlying t=some .bool):pQ enc P W sp hd t (fun b:Bool=>[IC.v (.bool b)]) (fun _=>True):=by
 intro fuel cs y h
 obtain ⟨n,rfl,_⟩:=DataW.trod_bool ht h
 exact ⟨n,oJ.2 (by simp only [RI]),by simp [Value.oneCell'],trivial⟩
theorem wV (ht:P.underlying t=some .string):pQ enc P W sp hd t (fun s:Mf=>[IC.v (.string s)]) Az:=by
 intro fuel cs y h
 obtain ⟨n,rfl,_,hw⟩:=DataW.trod_string ht h
 exact ⟨n,oJ.2 (by simp only [RI]),by simp [Value.oneCell'],hw⟩
theorem xy {g:Gh} {w:World} {s:Bool} {A:Type} {ie:A→List IC} {z:Nat} (hz:∀ x,(ie x).length=z):∀ (l:List A) (vs:List Value),vs.length=l.length * z→(∀ i,∀ h:i<l.length,ji g w s (ie l[i]) ((vs.drop (i * z)).take z))→ji g w s (List.flatten (List.map ie l)) vs
 | [],vs,hl,_=>by
  have:vs=[]:=List.eq_nil_of_length_eq_zero (by simpa using hl)
  subst this
  simp [ji]
 | x::l,vs,hl,h=>by
  have h0:=h 0 (by simp)
  simp only [List.getElem_cons_zero,Nat.zero_mul,List.drop_zero] at h0
  rw [List.map_cons,List.flatten_cons,← List.take_append_drop z vs]
  refine jt h0 (xy hz l _ ?_ fun i hi => ?_)
  ·rw [List.length_drop,hl,List.length_cons,Nat.add_mul]; omega
  ·have:=h (i+1) (by simpa using hi)
   simp only [List.getElem_cons_succ] at this
   rw [List.drop_drop]
   rwa [show z+i * z=(i+1) * z by rw [Nat.add_mul]; omega]
theorem tT {e:TypeId} {A:Type} {ie:A→List IC} {wf:A→Prop} {z:Nat} (ht:P.underlying t=some (.slice e)) (hc:P.cellsOf e=z) (h0:0<z) (hz:∀ x,(ie x).length=z)
  (he:pQ enc P W sp hd e ie wf):pQ enc P W sp hd t (fun l:List A=>[IC.row z (List.flatten (List.map ie l))]) (xx wf):=by
 intro fuel cs y h
 rcases DataW.trod_slice ht h with ⟨rfl,_⟩ | ⟨a,len,cap,elems,rest,n,_,rfl,_,hb,hl,hm,hlen,hel,_,_⟩
 ·refine ⟨[],oJ.2 ?_,by simp [Value.oneCell'],by simp [xx]⟩
  simp only [RI]
  exact ⟨[],none,0,0,⟨rfl,Nat.le_refl _⟩,by simp,by simp,fun h=>absurd rfl h,fun h=>absurd rfl h,by simp [ji]⟩
 ·have each:∀ i,i<len→∃ (x:A) (ys:List Value),ys.length=z∧(∀ j,j<z→W.cell? (a.add (i * z+j))=ys[j]?)∧ji (Bk W) W true (ie x) ys∧(∀ u∈ys,u.oneCell'=true)∧wf x:=by
   intro i hi
   have h1:=hel i hi
   rw [List.getElem?_eq_getElem (by omega),hc] at h1
   obtain ⟨ys,hcs,hy⟩:=Option.bind_eq_some_iff.1 h1
   obtain ⟨_,hyl,hcell⟩:=World.cells?_some hcs
   obtain ⟨x,h2,h3,h4⟩:=he _ _ _ hy
   exact ⟨x,ys,hyl,fun j hj=>by rw [← hcell j hj,Addr.add_add],h2,h3,h4⟩
  have build:∀ k,k≤len→∃ (l:List A) (vs:List Value),l.length=k∧vs.length=k * z∧(∀ j,j<k * z→W.cell? (a.add j)=vs[j]?)∧(∀ i,∀ h:i<l.length,ji (Bk W) W true (ie l[i]) ((vs.drop (i * z)).take z))∧(∀ u∈vs,u.oneCell'=true)∧∀ x∈l,wf x:=by
   intro k
   induction k with
   | zero=>intro _; exact ⟨[],[],rfl,by simp,by simp,fun i h=>by simp at h,by simp,by simp⟩
   | succ k ih =>
    intro hk
    obtain ⟨l,vs,h1,h2,h3,h4,h5,h6⟩:=ih (by omega)
    obtain ⟨x,ys,e1,e2,e3,e4,e5⟩:=each k (by omega)
    refine ⟨l++[x],vs++ys,by simp [h1],by rw [List.length_append,h2,e1,Nat.add_mul]; omega,?_,?_,?_,?_⟩
    ·intro j hj
     by_cases hjk:j<k * z
     ·rw [List.getElem?_append_left (by omega)]; exact h3 j hjk
     ·rw [List.getElem?_append_right (by omega),h2,← e2 (j-k * z) (by rw [Nat.add_mul] at hj; omega)]
      congr 2; omega
    ·intro i hi
     by_cases hik:i<l.length
     ·rw [List.getElem_append_left hik]
      have hle:(i+1) * z≤k * z:=Nat.mul_le_mul_right z (by omega)
      rw [Nat.add_mul] at hle
      rw [List.drop_append_of_le_length (by omega),List.take_append_of_le_length (by rw [List.length_drop]; omega)]
      exact h4 i hik
     ·have:i=l.length:=by simp at hi; omega
      subst this
      rw [List.getElem_concat_length rfl,h1,List.drop_append_of_le_length (by omega),List.drop_eq_nil_of_le (by omega),List.nil_append,List.take_of_length_le (by omega)]
      exact e3
    ·intro u hu
     rcases List.mem_append.1 hu with h | h
     ·exact h5 u h
     ·exact e4 u h
    ·intro u hu
     rcases List.mem_append.1 hu with h | h
     ·exact h6 u h
     ·rw [List.mem_singleton.1 h]; exact e5
  obtain ⟨l,vs,h1,h2,h3,h4,h5,h6⟩:=build len (Nat.le_refl _)
  refine ⟨l,oJ.2 ?_,by simp [Value.oneCell'],by omega,h6⟩
  simp only [RI]
  refine ⟨vs,some a,len,cap,⟨rfl,hl⟩,h2,h5,fun _=>⟨a,rfl,fun j u hu => ?_⟩,fun hne=>⟨a,rfl,.inr ?_⟩,xy hz l vs (by rw [h1,h2]) h4⟩
  ·have hj:=(List.getElem?_eq_some_iff.1 hu).1
   rw [h3 j (by omega)]; exact hu
  ·have hpos:0<vs.length:=List.length_pos_iff.2 hne
   have h0':=h3 0 (by omega)
   rw [List.getElem?_eq_getElem hpos] at h0'
   have:=World.block_lt_of_cell? W _ h0'
   rwa [rh] at this
theorem Gc {A B:Type} (f:A→B):∀ l:List A,List.flatten (List.map (fun x=>[f x]) l)=List.map f l
 | []=>rfl
 | x::l=>by simp [Gc f l]
theorem Cj {e:TypeId} {A:Type} {f:A→Value} {wf:A→Prop} (ht:P.underlying t=some (.slice e)) (hc:P.cellsOf e=1) (he:pQ enc P W sp hd e (fun x=>[IC.v (f x)]) wf) :
  pQ enc P W sp hd t (fun l:List A=>[IC.row 1 (List.map IC.v (List.map f l))]) (xx wf):=by
 intro fuel cs y h
 obtain ⟨l,h1,h2,h3⟩:=tT ht hc (by omega) (fun _=>rfl) he fuel cs y h
 refine ⟨l,?_,h2,h3⟩
 dsimp only at h1 ⊢
 rw [Gc (fun x=>IC.v (f x))] at h1
 rw [List.map_map]
 exact h1
theorem yT {e:TypeId} {A:Type} {en:A→List Value} {wf:A→Prop} {z:Nat} (ht:P.underlying t=some (.slice e)) (hc:P.cellsOf e=z) (h0:0<z) (hz:∀ x,(en x).length=z)
  (he:pQ enc P W sp hd e (fun x=>List.map IC.v (en x)) wf):pQ enc P W sp hd t (fun l:List A=>[IC.row z (List.map IC.v (List.flatten (List.map en l)))]) (xx wf):=by
 intro fuel cs y h
 obtain ⟨l,h1,h2,h3⟩:=tT ht hc h0 (fun x=>by simp [hz x]) he fuel cs y h
 refine ⟨l,?_,h2,h3⟩
 dsimp only at h1 ⊢
 rw [List.map_flatten,List.map_map]
 exact h1
theorem sE {xs:List (DataW H×List MemPlace)} {fs:Array Field} {m o k:Nat} {cs ds:List Value} {T:TypeId} (hg:∀ (i:Nat) (f:Field),fs[i]? = some f→DataW.trod enc P W 0 sp hd m f.type ((cs.drop f.offset).take (P.cellsOf f.type))=xs[i]?) (hxs:xs.length=fs.size)
  (i:Nat) (hf:(fs[i]?).map (fun f=>(f.type,f.offset))=some (T,o)) (hk:P.cellsOf T=k) (hds:(cs.drop o).take k=ds):∃ y,DataW.trod enc P W 0 sp hd m T ds=some y:=by
 cases hq:fs[i]? with
 | none=>simp [hq] at hf
 | some f =>
  simp only [hq,Option.map_some,Option.some.injEq,Prod.mk.injEq] at hf
  have hi:i<xs.length:=by rw [hxs]; exact (Array.getElem?_eq_some_iff.1 hq).1
  have:=hg i f hq
  rw [hf.1,hf.2,hk,hds,List.getElem?_eq_getElem hi] at this
  exact ⟨_,this⟩
theorem sU {a b:List Value} (h:∀ u∈a,u.oneCell'=true) (k:∀ u∈b,u.oneCell'=true):∀ u∈a++b,u.oneCell'=true:=by
 intro u hu
 rcases List.mem_append.1 hu with q | q
 ·exact h u q
 ·exact k u q
theorem DW:∀ u∈([]:List Value),u.oneCell'=true:=by simp
theorem EV {g:Gh} {w:World} {s:Bool}:ji g w s [] []:=by simp [ji]
theorem CA {cs:Array Value} {ics:List IC} {avs:List AV} (h:ji (Bk W) W true ics (Value.agg cs).cells.toList) (hi:Hp true ics avs):R (Bk W) V0 W (.agg avs) (.agg cs) []:=by
 simp only [R]
 exact ⟨cs.toList,by simp,FZ hi h⟩
theorem Al {A:Option Addr} {len cap:Nat} {ic:IC} {av:AV} (h:ji (Bk W) W true [ic] (Value.slice A len cap).cells.toList) (hi:IA true ic av):R (Bk W) V0 W av (.slice A len cap) [] :=
 Hg hi (oJ.1 h)
theorem GQ (x:Value):R (Bk W) V0 W (.v x) x []:=by simp [R]
theorem Hh:Rs (Bk W) V0 W [] [] []:=by simp [Rs]
theorem oy {c:AV} {cs:List AV} {x:Value} {xs:List Value} (h:R (Bk W) V0 W c x []) (hs:Rs (Bk W) V0 W cs xs []):Rs (Bk W) V0 W (c::cs) (x::xs) []:=by
 simp only [Rs]; exact ⟨x,xs,[],[],rfl,rfl,h,hs⟩
end
end Go.Abs
end
section
namespace Go.Abs
def FJ (P:Program) (T U ty e:TypeId) (z by_:Nat) (yv:Value) (m:Nat) (ys:List Value):Prop :=
 ∀ (w:World) (v:Value) (n:Nat) (xs:List Value),w.ownsRow 0 e z v n xs→n+m≤maxLen→(n+m) * by_≤140737488355328 →
  ∃ v' w',(Builtin.append_ #[T,U] ty #[v,yv]).run P w = .ok v' w'∧w'.ownsRow 0 e z v' (n+m) (xs++ys)∧w.grownBy w' v.ownBlock∧(v'.ownBlock=v.ownBlock∨v'.ownBlock=some w.heap.size)
section
variable {P:Program} {ty:TypeId} {pos:String} {aft:Array Edge} {gd:Option (Nat×Bool)}
theorem yo (N:List aE) (d t:Nat) {T U e t':TypeId} (x y:Operand) {z by_:Nat} {yv:Value} {xs ys:List Value} (n m:Nat) (hE:fH P T e z by_) (hx:aO (N++[(t,.fl (.own e) z xs)]) x = .same (.slot t)) (hy:rd N y = .v yv) (hap:FJ P T U t' e z by_ yv m ys)
  (hn:xs.length=n * z) (h1y:∀ u∈ys,u.oneCell'=true) (hb:(n+m) * by_≤140737488355328) (h63:n+m≤maxLen) :
  aN P ⟨some d,.call ⟨.builtin .append,#[x,y],#[T,U]⟩,t',pos,aft,gd⟩ N [(t,.fl (.own e) z xs)] [(t,.any),(d,.fl (.own e) z (xs++ys))] [.slot d]:=by
 obtain ⟨i,zv,hT,hi,hz,hs,hzc,h0,rfl⟩:=hE.ex
 refine aN.core fun g V oN oT a w hd hp => ?_
 have hT':=hp.esT
 simp only [Es] at hT'
 obtain ⟨ob,o2,rfl,⟨hR,_⟩,rfl⟩:=hT'
 have hax:=bk hp.val (aH.2 ⟨oN,_,rfl,hp.esN,hp.esT⟩) x
 rw [hx] at hax
 simp only [R] at hax hR
 obtain ⟨a0,n0,c0,⟨h3,_⟩,hl0,hone0,_,hown,hob⟩:=hR
 have he:=bZ hp.val hp.esN hy
 have hone:=h1y
 have en:n0=n:=Nat.eq_of_mul_eq_mul_right h0 (by omega)
 subst en
 obtain ⟨v',w',hrun,hown',hg,hblk⟩:=hap w _ _ _ hown h63 (by simpa using hb)
 have hrun':(execOp a.eval ⟨some d,.call ⟨.builtin .append,#[x,y],#[T,U]⟩,t',pos,aft,gd⟩).run P w = .ok (.value v') w':=by
  have h4:a.eval x=V (.slot t):=hax.1
  simp [execOp,resolve,invoke,builtin,he,h4,hrun]
 refine (Yl.val hrun').mono ?_
 rintro v w2 ⟨rfl,rfl⟩
 have hlt:d<g.n:=hd d rfl
 have hchg:dH ob w w2:=by rw [hob]; exact dH.of_grown hg
 refine ⟨g,bU V d v,v.ownBlock.toList,g.le_refl,fun b hb => .inl hb,fun b hb=>Nat.lt_of_lt_of_le (hp.imm b (.inl hb)) hchg.size,by simpa using hchg,fun l hl=>bO hl,fun u=>cK hp.val hp.size hlt u,?_,by cases v.ownBlock <;> simp,?_⟩
 ·refine ⟨[],v.ownBlock.toList,rfl,⟨by simp [R],trivial⟩,v.ownBlock.toList,[],by simp,⟨?_,trivial⟩,rfl⟩
  show R g _ _ _ (bU V d v (.slot d)) _
  rw [cf]
  refine js hown' fun u hu => ?_
  rcases List.mem_append.1 hu with h | h
  ·exact hone0 u h
  ·exact hone u h
 ·intro b hb'
  have hvb:v.ownBlock=some b:=by cases hv:v.ownBlock <;> simp [hv] at hb' ⊢; exact hb'.symm
  have hlt2:=(hown'.lt b hvb).2
  rcases hblk with h | h
  ·have hin:b∈ob:=by rw [hob,← h,hvb]; simp
   exact ⟨.inl (by simp [hin]),hlt2,(hp.own b (by simp [hin])).2⟩
  ·rw [hvb] at h
   cases h
   refine ⟨.inr (Nat.le_refl _),hlt2,fun hi=>Nat.lt_irrefl _ (hp.imm _ hi)⟩
theorem rV (N:List aE) (d t i:Nat) {T U e t' T':TypeId} (x y:Operand) {z by_:Nat} {yv:Value} {cs:List AV} {xs ys:List Value} (n m:Nat) (hE:fH P T e z by_) (hx:aO N x = .same (.cell t i)) (hc:cs.getD i .any = .fl (.own e) z xs) (hic:i<cs.length)
  (hy:rd N y = .v yv) (hap:FJ P T U t' e z by_ yv m ys) (hn:xs.length=n * z) (h1y:∀ u∈ys,u.oneCell'=true) (hb:(n+m) * by_≤140737488355328) (h63:n+m≤maxLen) (hdt:d≠t) (hcl:di [.slot d] (cs.set i .any)=true) :
  aN P ⟨some d,.call ⟨.builtin .append,#[x,y],#[T,U]⟩,t',pos,aft,gd⟩ N [(t,.box T' cs)] [(t,.box T' (cs.set i .any)),(d,.fl (.own e) z (xs++ys))] [.slot d]:=by
 obtain ⟨ti,zv,hT,hi,hz,hs,hzc,h0,rfl⟩:=hE.ex
 refine aN.core fun g V oN oT a w hd hp => ?_
 have hT':=hp.esT
 simp only [Es] at hT'
 obtain ⟨ob,o2,rfl,hER,rfl⟩:=hT'
 obtain ⟨hR,htie⟩:=hER
 have hax:=bk hp.val hp.esN x
 rw [hx] at hax
 simp only [R] at hax hR
 obtain ⟨b,cur,os,hpt,rfl,hh,hrs⟩:=hR
 dsimp only at htie
 obtain ⟨o1,o3,hperm,hRi,hrest⟩:=gC i hrs hic
 rw [hc] at hRi
 have hlen:=aR hrs
 have hcell:=htie b hpt i hic
 rw [cell_of_row w b i _ T' (0,0) hh] at hcell
 have hil:i<cur.length:=by omega
 have hVc:V (.cell t i)=cur.getD i undef:=by
  simp only [List.getElem?_toArray,List.getElem?_eq_getElem hil,Option.some.injEq] at hcell
  rw [← hcell]; simp [hil]
 obtain ⟨u0,hu0⟩:∃ u,u=cur.getD i undef:=⟨_,rfl⟩
 rw [← hu0] at hVc hRi
 simp only [R] at hRi
 obtain ⟨a0,n0,c0,⟨h3,_⟩,hl0,hone0,_,hown,hob⟩:=hRi
 have he:=bZ hp.val hp.esN hy
 have hone:=h1y
 have en:n0=n:=Nat.eq_of_mul_eq_mul_right h0 (by omega)
 subst en
 obtain ⟨v',w',hrun,hown',hg,hblk⟩:=hap w _ _ _ hown h63 (by simpa using hb)
 have hrun':(execOp a.eval ⟨some d,.call ⟨.builtin .append,#[x,y],#[T,U]⟩,t',pos,aft,gd⟩).run P w = .ok (.value v') w':=by
  have h4:a.eval x=u0:=by rw [hax.1,hVc]
  simp [execOp,resolve,invoke,builtin,he,h4,hrun]
 refine (Yl.val hrun').mono ?_
 rintro v w2 ⟨rfl,rfl⟩
 have hlt:d<g.n:=hd d rfl
 have hchg:dH o1 w w2:=by rw [hob]; exact dH.of_grown hg
 have hin1:∀ c,c∈o1→c∈b::os:=fun c hc'=>by have:=hperm.mem_iff.2 (List.mem_append.2 (.inl hc')); simp [this]
 have hin3:∀ c,c∈o3→c∈b::os:=fun c hc'=>by have:=hperm.mem_iff.2 (List.mem_append.2 (.inr hc')); simp [this]
 have hinb:∀ c,c∈b::o3→c∈b::os:=by
  intro c hc'
  rcases List.mem_cons.1 hc' with h | h
  ·simp [h]
  ·exact hin3 c h
 have hnd2:(b::os).Nodup:=by have:=(List.nodup_append.1 hp.nodup).2.1; simpa using this
 have hnd3:(b::(o1++o3)).Nodup:=((hperm.cons b).nodup_iff).1 hnd2
 have hlts:∀ c,c∈b::os→c<w.heap.size∧¬ g.imm c:=fun c hc'=>hp.own c (by simp at hc' ⊢; exact .inr hc')
 have hkeep:∀ c,c∈b::o3∨g.imm c→w2.heap[c]? = w.heap[c]? := by
  intro c hc'
  rcases hc' with hc' | hc'
  ·refine hchg.block c (hlts c (hinb c hc')).1 fun h1 => ?_
   simp only [List.nodup_cons,List.mem_append,List.nodup_append] at hnd3
   rcases List.mem_cons.1 hc' with rfl | h3
   ·exact hnd3.1 (.inl h1)
   ·exact hnd3.2.2.2 c h1 c h3 rfl
  ·exact hchg.block c (hp.imm c hc') fun h1=>(hlts c (hin1 c h1)).2 hc'
 have hdtl:∀ l,fX [.slot d] l=false→bU V d v l=V l:=fun l hl=>bO hl
 refine ⟨g,bU V d v,(b::o3)++v.ownBlock.toList,g.le_refl,fun b hb => .inl hb,fun b hb=>Nat.lt_of_lt_of_le (hp.imm b (.inl hb)) hchg.size,?_,hdtl,fun u=>cK hp.val hp.size hlt u,?_,?_,?_⟩
 ·exact hchg.mono fun c hc'=>by simpa using hin1 c hc'
 ·have hVt:bU V d v (.slot t)=V (.slot t):=by simp only [bU]; rw [if_neg fun e=>hdt e.symm]
  have hVtc:∀ j,bU V d v (.cell t j)=V (.cell t j):=fun j=>rfl
  refine ⟨b::o3,v.ownBlock.toList,rfl,⟨?_,?_⟩,v.ownBlock.toList,[],by simp,⟨?_,trivial⟩,rfl⟩
  ·show R g _ _ (.box T' _) (bU V d v (.slot t)) _
   rw [hVt]
   simp only [R]
   refine ⟨b,cur,o3,hpt,rfl,by rw [hkeep b (.inl (by simp))]; exact hh,?_⟩
   exact dk (W:=[.slot d]) (fun _ h=>h) (fun _ h=>h) hdtl _ _ _ hcl (fun c hc'=>hkeep c (hc'.imp (fun h=>by simp [h]) id)) hrest
  ·intro b' hb' j hj
   rw [hVt] at hb'
   rw [hVtc]
   rw [World.cell?_of_block (w:=w) (by
    rw [hpt] at hb'; cases hb'
    exact hkeep b (.inl (by simp)))]
   exact htie b' hb' j (by simpa using hj)
  ·show R g _ _ _ (bU V d v (.slot d)) _
   rw [cf]
   refine js hown' fun u hu => ?_
   rcases List.mem_append.1 hu with h | h
   ·exact hone0 u h
   ·exact hone u h
 ·refine List.nodup_append.2 ⟨?_,by cases v.ownBlock <;> simp,?_⟩
  ·have:(o1++(b::o3)).Nodup:=(List.perm_middle.nodup_iff).2 hnd3
   exact (List.nodup_append.1 this).2.1
  ·intro c hc' c2 hc2 e
   subst e
   have hvb:v.ownBlock=some c:=by cases hv:v.ownBlock <;> simp [hv] at hc2 ⊢; exact hc2.symm
   rcases hblk with h | h
   ·have hin:c∈o1:=by rw [hob,← h,hvb]; simp
    simp only [List.nodup_cons,List.mem_append,List.nodup_append] at hnd3
    rcases List.mem_cons.1 hc' with rfl | h3
    ·exact hnd3.1 (.inl hin)
    ·exact hnd3.2.2.2 c hin c h3 rfl
   ·rw [hvb] at h
    cases h
    have:=(hlts w.heap.size (hinb _ hc')).1
    omega
 ·intro c hc'
  rcases List.mem_append.1 hc' with hc' | hc'
  ·have h4:c∈b::os:=hinb c hc'
   exact ⟨.inl (by simpa using h4),Nat.lt_of_lt_of_le (hlts c h4).1 hchg.size,(hlts c h4).2⟩
  ·have hvb:v.ownBlock=some c:=by cases hv:v.ownBlock <;> simp [hv] at hc' ⊢; exact hc'.symm
   have hlt2:=(hown'.lt c hvb).2
   rcases hblk with h | h
   ·have hin:c∈o1:=by rw [hob,← h,hvb]; simp
    exact ⟨.inl (by simpa using hin1 c hin),hlt2,(hlts c (hin1 c hin)).2⟩
   ·rw [hvb] at h
    cases h
    exact ⟨.inr (Nat.le_refl _),hlt2,fun hi=>Nat.lt_irrefl _ (hp.imm _ hi)⟩
theorem Cx {t u ty e:TypeId} {i:TypeInfo} {s:Mf} (ht:P.underlying t=some (.slice e)) (hu:P.underlying u=some .string) (hi:P.info? e=some i) (hz:i.zero=some (.int .u8 0)) (hsize:i.size=1) (hby:i.bytes=1) :
  FJ P t u ty e 1 1 (.string s) s.size (Lib.strCells s):=by
 intro w v n xs hown h63 hbytes
 have hbase:0≤w.heap.size:=Nat.zero_le _
 have hsmall:n+s.size≤9223372036854775807:=by simp only [maxLen] at h63; omega
 have hxl:xs.length=n:=by simpa using hown.1
 have hlen:(xs++Lib.strCells s).length=(n+s.size) * 1:=by rw [List.length_append,hxl,Lib.strCells_length,Nat.mul_one]
 have grown:∀ (old:Nat),old<n+s.size→∀ (row:Option Nat),
   (w.drew.alloc (.cells (xs.toArray++(Lib.strCells s).toArray++Builtin.zeroCells (Value.int .u8 0).cells (grownCap w (n+s.size) old e-(n+s.size))) e)).ownsRow 0 e 1
    (.slice (some ⟨w.heap.size,0,none⟩) (n+s.size) (grownCap w (n+s.size) old e)) (n+s.size) (xs++Lib.strCells s) ∧
   w.grownBy (w.drew.alloc (.cells (xs.toArray++(Lib.strCells s).toArray++Builtin.zeroCells (Value.int .u8 0).cells (grownCap w (n+s.size) old e-(n+s.size))) e)) row:=by
  intro old ho row
  have hge:=grownCap_ge w (n+s.size) old e
  have hcm:grownCap w (n+s.size) old e≤maxLen:=grownCap_le_maxLen w (n+s.size) old e h63
  refine ⟨⟨hlen,.inr ⟨w.heap.size,_,_,rfl,hbase,heap_alloc_new w.drew _,hge,hcm,?_,?_⟩⟩,⟨rfl,rfl,rfl,by simp,fun k hk _=>heap_alloc_old w.drew _ k hk⟩⟩
  ·have hz1:(Value.int IntKind.u8 0).cells.size=1:=rfl
   simp only [Array.size_append,List.size_toArray,size_zeroCells,hz1,hxl,Lib.strCells_length]
   omega
  ·simp only [Array.toList_append,List.append_assoc]
   rw [← List.append_assoc,← hlen]
   exact List.take_left
 rcases hown.2 with ⟨rfl,rfl⟩ | ⟨g,cap,cur,rfl,hbg,hg,hnc,hcm,hcs,htake⟩
 ·have hx:xs=[]:=List.eq_nil_of_length_eq_zero hxl
  subst hx
  by_cases hm:s.size=0
  ·have hn:Lib.strCells s=[]:=List.eq_nil_of_length_eq_zero (by rw [Lib.strCells_length]; exact hm)
   refine ⟨.slice none 0 0,w,?_,by rw [hm,hn]; exact World.ownsRow_nil w 0 e 1,⟨rfl,rfl,rfl,Nat.le_refl _,fun _ _ _=>rfl⟩,.inl rfl⟩
   have hf:=Lib.run_firstCells_string (P:=P) w 1 s
   rw [hm] at hf
   simp [Builtin.append_,run_underlying ht,run_underlying hu,sizeOf,typeInfo,hi,hsize,Builtin.lenOf,hm,hf]
  ·have hr:=run_append_nil_string (P:=P) w t u ty e i (.int .u8 0) ht hu hi hz s (by omega) (by omega) (by rw [hby]; omega)
   have hgr:=grown 0 (by omega) (Value.ownBlock (.slice none 0 0))
   simp only [Nat.zero_add,List.nil_append,Array.empty_append] at hgr ⊢
   have e1:(s.data.map fun b=>Value.int .u8 b.toNat)=(Lib.strCells s).toArray:=by
    apply Array.ext'
    simp [Lib.strCells]
   rw [e1] at hr
   exact ⟨_,_,hr,hgr.1,hgr.2,.inr rfl⟩
 ·by_cases hroom:n+s.size≤cap
  ·have hcs':cur.size=cap:=by simpa using hcs
   have hr:=Lib.run_append_room_string (P:=P) w t u ty e i ht hu hi hsize g n cap cur hg s hroom (by omega)
   refine ⟨_,_,hr,⟨hlen,.inr ⟨g,cap,_,rfl,hbg,setRow_heap w g cur _ e _ hg,hroom,hcm,?_,?_⟩⟩,⟨rfl,rfl,rfl,by simp,fun k _ hk=>setRow_other w g k _ (fun e=>hk (by simp [Value.ownBlock,e]))⟩,.inl rfl⟩
   ·simp only [List.size_toArray,List.length_append,List.length_take,List.length_drop,Array.length_toList,Lib.strCells_length]
    omega
   ·have ht':cur.toList.take n=xs:=by simpa using htake
    rw [ht',← hlen]
    exact List.take_left
  ·have holds:∀ j u,xs[j]? = some u→w.cell? ((⟨g,0,none⟩:Addr).add j)=some u:=hown.cells (g:=g) rfl
   have hr:=Lib.run_append_grow_string (P:=P) w t u ty e i (.int .u8 0) ht hu hi hz ⟨g,0,none⟩ n cap xs (by rw [hsize]; simpa using hxl) holds s (by omega) (by omega) (by rw [hby]; exact growslice_fits (by omega) (by omega))
   have hgr:=grown cap (by omega) (Value.ownBlock (.slice (some ⟨g,0,none⟩) n cap))
   exact ⟨_,_,hr,hgr.1,hgr.2,.inr rfl⟩
theorem rE (s:Mf):List.map (Value.int .u8) (ao s)=Lib.strCells s:=by
 simp [ao,Lib.strCells]
theorem aL (s:Mf):(ao s).length=s.size:=by simp [ao]
theorem fH.str {t u ty e:TypeId} {s:Mf} (hE:fH P t e 1 1) (hz:(P.info? e).bind (·.zero)=some (.int .u8 0)) (hu:P.underlying u=some .string):FJ P t u ty e 1 1 (.string s) s.size (Lib.strCells s):=by
 obtain ⟨i,zv,hT,hi,_,hs,_,_,hb⟩:=hE.ex
 rw [hi] at hz
 exact Cx hT hu hi hz hs hb
theorem sk (N:List aE) (d t:Nat) {T U e t':TypeId} (x y:Operand) {s:Mf} {l q:List Int} {xs zs:List Value} (hE:fH P T e 1 1) (hz:(P.info? e).bind (·.zero)=some (.int .u8 0)) (hu:P.underlying U=some .string) (hx:aO (N++[(t,.fl (.own e) 1 xs)]) x = .same (.slot t)) (hy:rd N y = .v (.string s))
  (hl:l.map (Value.int .u8)=xs) (hq:cc 1 l (ao s)=some q) (hzs:q.map (Value.int .u8)=zs):aN P ⟨some d,.call ⟨.builtin .append,#[x,y],#[T,U]⟩,t',pos,aft,gd⟩ N [(t,.fl (.own e) 1 xs)] [(t,.any),(d,.fl (.own e) 1 zs)] [.slot d]:=by
 subst hzs hl
 unfold cc at hq
 split at hq
 ·rename_i h
  cases hq
  rw [List.map_append,rE]
  simp only [aL,Nat.mul_one] at h
  exact yo N d t x y l.length s.size hE hx hy (hE.str hz hu) (by simp) (Lib.strCells_oneCell s) (by omega) (by simp only [maxLen]; omega)
 ·cases hq
theorem ew (N:List aE) (d t i:Nat) {T U e t' T':TypeId} (x y:Operand) {s:Mf} {l q:List Int} {cs cs':List AV} {xs zs:List Value} (hE:fH P T e 1 1) (hz:(P.info? e).bind (·.zero)=some (.int .u8 0)) (hu:P.underlying U=some .string) (hx:aO N x = .same (.cell t i)) (hc:cs.getD i .any = .fl (.own e) 1 xs) (hic:i<cs.length) (hy:rd N y = .v (.string s))
  (hl:l.map (Value.int .u8)=xs) (hq:cc 1 l (ao s)=some q) (hzs:q.map (Value.int .u8)=zs) (hdt:d≠t) (hcs:cs.set i .any=cs') (hcl:di [.slot d] cs'=true) :
  aN P ⟨some d,.call ⟨.builtin .append,#[x,y],#[T,U]⟩,t',pos,aft,gd⟩ N [(t,.box T' cs)] [(t,.box T' cs'),(d,.fl (.own e) 1 zs)] [.slot d]:=by
 subst hzs hl hcs
 unfold cc at hq
 split at hq
 ·rename_i h
  cases hq
  rw [List.map_append,rE]
  simp only [aL,Nat.mul_one] at h
  exact rV N d t i x y l.length s.size hE hx hc hic hy (hE.str hz hu) (by simp) (Lib.strCells_oneCell s) (by omega) (by simp only [maxLen]; omega) hdt hcl
 ·cases hq
end
end Go.Abs
end
section
namespace Go.Abs
inductive uk (t:Nat):Nat→List AV→List AV→Prop
 | nil (i:Nat):uk t i [] []
 | same {i:Nat} {ds cs:List AV} (c:AV) (h:uk t (i+1) ds cs):uk t i (.same (.cell t i)::ds) (c::cs)
 | eq {i:Nat} {ds cs:List AV} (c:AV) (h:uk t (i+1) ds cs):uk t i (c::ds) (c::cs)
theorem tI {g:Gh} {V:bl→Value} {w:World} {t:Nat}:∀ {i:Nat} {ds cs:List AV} {xs ys:List Value} {o:List Nat},uk t i ds cs→Rs g V w ds ys []→Rs g V w cs xs o→(∀ j x,xs[j]? = some x→V (.cell t (i+j))=x)→∃ o',o'.Sublist o∧Rs g V w cs ys o'
 | i,_,_,xs,ys,o,.nil _,h1,h2,_=>⟨o,List.Sublist.refl _,by simp only [Rs] at *; exact ⟨h1.1,h2.2⟩⟩
 | i,_,_,xs,ys,o,.same c h,h1,h2,hv=>by
  simp only [Rs] at h1 h2
  obtain ⟨y,ys',p1,p2,rfl,hp,a1,a2⟩:=h1
  obtain ⟨x,xs',o1,o2,rfl,rfl,b1,b2⟩:=h2
  obtain ⟨rfl,rfl⟩:=List.append_eq_nil_iff.1 hp.symm
  obtain ⟨o',s1,s2⟩:=tI h a2 b2 (fun j x hx=>by
   have:=hv (j+1) x (by simpa using hx)
   rwa [show i+(j+1)=i+1+j by omega] at this)
  simp only [R] at a1
  have e:y=x:=by rw [a1.1]; exact hv 0 x (by simp)
  subst e
  exact ⟨o1++o',s1.append_left o1,by simp only [Rs]; exact ⟨y,ys',o1,o',rfl,rfl,b1,s2⟩⟩
 | i,_,_,xs,ys,o,.eq c h,h1,h2,hv=>by
  simp only [Rs] at h1 h2
  obtain ⟨y,ys',p1,p2,rfl,hp,a1,a2⟩:=h1
  obtain ⟨x,xs',o1,o2,rfl,rfl,b1,b2⟩:=h2
  obtain ⟨rfl,rfl⟩:=List.append_eq_nil_iff.1 hp.symm
  obtain ⟨o',s1,s2⟩:=tI h a2 b2 (fun j x hx=>by
   have:=hv (j+1) x (by simpa using hx)
   rwa [show i+(j+1)=i+1+j by omega] at this)
  exact ⟨o',s1.trans (List.sublist_append_right o1 o2),by simp only [Rs]; exact ⟨y,ys',[],o',rfl,rfl,a1,s2⟩⟩
section
variable {P:Program} {ty:TypeId} {pos:String} {aft:Array Edge} {gd:Option (Nat×Bool)}
theorem dt (N:List aE) {T:TypeId} (ax vx:Operand) {T':TypeId} {cs ds:List AV} (u t s:Nat) (hs:(P.info? T).map (·.size)=some s)
  (hx:aO (N++[(u,.agg ds),(t,.box T' cs)]) ax = .ptr t 0) (hv:aO (N++[(u,.agg ds),(t,.box T' cs)]) vx = .agg ds) (hok:dj (N++[(u,.agg ds),(t,.box T' cs)]) (.agg ds)=true) (hd:ds.length=s) (hl:cs.length=s)
  (hse:uk t 0 ds cs) (hcl:di (bW t 0 s) cs=true) :
  aN P ⟨none,.store T ax vx,ty,pos,aft,gd⟩ N [(u,.agg ds),(t,.box T' cs)] [(t,.box T' cs)] (bW t 0 s):=by
 refine aN.core fun g V oN oT a w hdd hp => ?_
 have hB':Es g V w [(u,.agg ds),(t,.box T' cs)] oT:=hp.esT
 have hB:=hB'
 simp only [Es] at hB
 obtain ⟨ou,oq,rfl,hU,ob,o2,rfl,hER,rfl⟩:=hB
 obtain ⟨hR1,htie⟩:=hER
 simp only [R] at hR1
 obtain ⟨b,xs,os,h3,rfl,hh,hrs⟩:=hR1
 dsimp only at htie h3
 have hNT:=aH.2 ⟨oN,_,rfl,hp.esN,hB'⟩
 have hax:=bk hp.val hNT ax
 rw [hx] at hax
 simp only [R] at hax
 obtain ⟨b2,h4,h5,_⟩:=hax
 rw [h3] at h4; cases h4
 have hval:=bk hp.val hNT vx
 rw [hv] at hval
 obtain ⟨hvc,hone⟩:=jS hNT hok hval
 simp only [cA] at hvc
 have hl1:=aR hvc
 have hl2:=aR hrs
 have hVx:∀ j x,xs[j]? = some x→V (.cell t (0+j))=x:=by
  intro j x hx
  have hj:=(List.getElem?_eq_some_iff.1 hx).1
  have hcell:=htie b h3 j (by omega)
  rw [cell_of_row w b j _ T' (0,0) hh] at hcell
  simp only [List.getElem?_toArray,hx,Option.some.injEq] at hcell
  rw [Nat.zero_add]; exact hcell.symm
 obtain ⟨os',hsub,hnew0⟩:=tI hse hvc hrs hVx
 obtain ⟨ys,hys⟩:∃ ys,ys=(a.eval vx).cells.toList:=⟨_,rfl⟩
 rw [← hys] at hvc hone hl1 hnew0
 have hrun:(execOp a.eval ⟨none,.store T ax vx,ty,pos,aft,gd⟩).run P w = .ok .skip (w.setRow b ys.toArray):=by
  have:=iO (P:=P) (w:=w) (T:=T) (off:=0) hs hh (v:=a.eval vx) (by rw [← hd,← hl1,hys]; simp) (by rw [← hys]; exact hone) (by omega)
  have e:(xs.take 0++(a.eval vx).cells.toList++xs.drop (0+s)).toArray=ys.toArray:=by
   rw [← hys,Nat.zero_add,List.drop_eq_nil_of_le (by omega)]; simp
  rw [e] at this
  simp [execOp,Instr.storeAt,h5,Instr.sureAddr,this]
 refine (Yl.skip hrun).mono ?_
 rintro y w' ⟨rfl,rfl⟩
 have hnd:=hp.nodup
 have hndT:(b::os).Nodup:=by have:=(List.nodup_append.1 (List.nodup_append.1 hnd).2.1).2.1; simpa using this
 have hlt:∀ c,c∈b::os→c<w.heap.size∧¬ g.imm c:=fun c hc=>hp.own c (by simp at hc ⊢; exact .inr (.inr hc))
 have hbi:=(hlt b (by simp)).2
 have hbo:b ∉ os:=(List.nodup_cons.1 hndT).1
 have hchg:dH [b] w (w.setRow b ys.toArray):=gg _ _ _
 have hblk:∀ c,c≠b→(w.setRow b ys.toArray).heap[c]? = w.heap[c]? := fun c hc=>setRow_other w b c _ hc
 have hvl:ys.length=s:=by omega
 have hV':∀ l,fX (bW t 0 s) l=false→kx V t 0 ys l=V l:=fun l hl=>sY (by rw [hvl]; exact hl)
 have hnew:=dk (W:=bW t 0 s) (g:=g) (g':=g) (V':=kx V t 0 ys) (w':=w.setRow b ys.toArray) (fun _ h=>h) (fun _ h=>h) hV' cs ys os' hcl (fun c hcc=>hblk c (by
  rcases hcc with hcc | hcc
  ·rintro rfl; exact hbo (hsub.subset hcc)
  ·rintro rfl; exact hbi hcc)) hnew0
 refine ⟨g,kx V t 0 ys,b::os',g.le_refl,fun c hc => .inl hc,fun c hc => ?_,hchg.mono (by simp),hV',?_,?_,?_,?_⟩
 ·exact Nat.lt_of_lt_of_le (hp.imm c (.inl hc)) hchg.size
 ·intro u; simp only [kx,Act.put]; exact hp.val u
 ·refine ⟨b::os',[],by simp,⟨?_,?_⟩,rfl⟩
  ·show R _ _ _ (.box T' _) (kx V t 0 _ (.slot t)) _
   simp only [R,kx]
   exact ⟨b,ys,os',h3,rfl,setRow_heap w b _ _ T' _ hh,hnew⟩
  ·intro b' hb' i hi
   simp only [kx] at hb'
   rw [h3] at hb'; cases hb'
   have hhn:=setRow_heap w b xs.toArray ys.toArray T' _ hh
   rw [cell_of_row _ b i _ T' (0,0) hhn]
   have h6:i<ys.length:=by omega
   simp only [List.getElem?_toArray,kx,true_and]
   rw [if_pos ⟨Nat.zero_le _,by omega⟩,List.getElem?_eq_getElem h6]
   simp [List.getD_eq_getElem?_getD,List.getElem?_eq_getElem h6]
 ·exact List.Nodup.sublist (hsub.cons_cons b) hndT
 ·intro c hc
  have hc':c∈b::os:=by
   rcases List.mem_cons.1 hc with h | h
   ·simp [h]
   ·exact List.mem_cons_of_mem _ (hsub.subset h)
  exact ⟨.inl (by simp at hc' ⊢; exact .inr hc'),Nat.lt_of_lt_of_le (hlt c hc').1 hchg.size,(hlt c hc').2⟩
end
end Go.Abs
end
