import Derived.ChangeArms
import Derived.WideShapes
import Derived.DataReads
import Derived.Lib.AppendStr
import Derived.Test.YtckpeedhchjjnaaGreatDoorAD
section
namespace Go.Abs
def FV (xs:List Value) (posts:List AV) (o0:List Nat) (Imm Im:Nat→Prop) (w:World) (res:AV) (e:Ending) (w':World):Prop :=
 ∃ x,e = .returned x∧dq o0 w w'∧∃ (Imm':Nat→Prop) (o:List Nat),(∀ b,Imm b→Imm' b)∧(∀ b,Imm' b→Imm b∨b∈o0∨(w.heap.size≤b∧b<w'.heap.size)) ∧
  Rs (cz w Imm' Im) V0 w' (res::posts) (x::xs.take posts.length) o∧o.Nodup∧∀ b∈o,(b∈o0∨w.heap.size≤b)∧b<w'.heap.size∧¬ Imm' b
def mp (P:Program) (f:FuncId) (args posts:List AV) (res:AV):Prop :=
 ∀ (Imm Im:Nat→Prop) (w:World) (xs:List Value) (o0:List Nat),(∀ b,Imm b∨Im b→b<w.heap.size)→Rs (cz w Imm Im) V0 w args xs o0→o0.Nodup→(∀ b∈o0,b<w.heap.size∧¬ (Imm b∨Im b)) →
  Calls P f xs.toArray w (FV xs posts o0 Imm Im w res)
def tg (P:Program) (fn:Func) (xs:List Value) (posts:List AV) (o0:List Nat) (Imm Im:Nat→Prop) (w:World) (res:AV):Exit→Act→World→Prop:=bodyPost P fn (FV xs posts o0 Imm Im w res)
def ff (k:Nat) (xs:List Value):List aJ:=(List.range k).map fun i=>(i,.v (xs.getD i undef))
section
variable {P:Program} {Q:Exit→Act→World→Prop} {g0:Gh} {rnd:Option Nat}
theorem df {w:World} {b:Nat} {ys:List Value} {T:TypeId} {i:Nat} (h:w.heap[b]? = some (.cells ys.toArray T (0,0))) (hi:i<ys.length) :
  w.cell? ⟨b,i,none⟩=some (eB w (.pointer (some ⟨b,0,none⟩)) i):=by simp only [eB];rw [cell_of_row w b i _ T (0,0) h];simp [hi]
theorem tu {g:Gh} {V:bF→Value} {w:World} (hV:∀ av x o,bq av=true→R g V0 w av x o→R g V w av x o) (hC:∀ t i,V (.cell t i)=eB w (V (.slot t)) i):∀ (args:List AV) (xs:List Value) (k:Nat) (o:List Nat),bj args=true→Rs g V0 w args xs o→(∀ i x,xs[i]? = some x→V (.slot (k+i))=x) →
  Es g V w ((args.zipIdx k).map fun p=>(p.2,p.1)) o
 | [],xs,k,o,_,h,_=>by simp only [Rs] at h; exact h.2
 | av::args,xs,k,o,hc,h,hv=>by
  simp only [Rs] at h
  obtain ⟨x,xs',o1,o2,rfl,rfl,h1,h2⟩:=h
  simp only [bj,ah] at hc
  simp only [List.zipIdx_cons,List.map_cons]
  have h0:V (.slot k)=x:=by simpa using hv 0 x rfl
  refine ⟨o1,o2,rfl,⟨?_,?_⟩,tu hV hC args xs' (k+1) o2 hc.2 h2 fun i y hy => ?_⟩
  ·show R g V w av (V (.slot k)) o1
   rw [h0]; exact hV av x o1 hc.1 h1
  ·cases av <;> try trivial
   case box T cs =>
    intro b hb i hi
    dsimp only at hb hi ⊢
    simp only [R] at h1
    obtain ⟨b',ys,os,hx,_,hh,hrs⟩:=h1
    rw [h0,hx] at hb
    cases hb
    rw [hC,h0,hx]
    exact df hh (by rw [aZ hrs]; exact hi)
  ·have:=hv (i+1) y (by simpa using hy)
   rwa [show k+1+i=k+(i+1) by omega]
theorem yK {g:Gh} {V:bF→Value} {w:World} {xs:List Value}:∀ (l:List Nat),(∀ i∈l,V (.slot i)=xs.getD i undef)→Es g V w (l.map fun i=>(i,.v (xs.getD i undef))) []
 | [],_=>rfl
 | i::l,h=>⟨[],[],rfl,⟨by simp only [R]; exact ⟨h i (by simp),trivial⟩,trivial⟩,yK l fun j hj=>h j (by simp [hj])⟩
theorem If {f:FuncId} {fn:Func} {c:Code} {args posts:List AV} {res:AV} (hf:P.funcs[f]? = some fn) (hb:fn.body=some c) (hk:args.length≤fn.ntmps) (hcl:bj args=true) (hpl:posts.length≤args.length)
  (h:∀ (xs:List Value),posts.length≤xs.length→∀ g0:Gh,g0.n=fn.ntmps→g0.ds=[]→HT none P (tg P fn xs posts g0.io g0.Imm g0.Im g0.w0 res) g0 c (cB args++ff posts.length xs)):mp P f args posts res:=by
 intro Imm Im w xs o0 himm hR hnd ho0;have hlen:=aZ hR;refine calls_of_wp hf hb ((wpIn_wide (n:=0)).1 ?_);have hg:=h xs (by omega) ⟨fn.ntmps,w,o0,Imm,Im,[]⟩ rfl rfl ⟨fn.ntmps,w,o0,Imm,Im,[]⟩ { tmps:=xs.toArray++Array.replicate (fn.ntmps-xs.toArray.size) undef,defers:=[] } w (Gh.le_refl _);let V:bF→Value:=fun l=>match l with | .slot t=>(xs.toArray++Array.replicate (fn.ntmps-xs.toArray.size) undef).getD t undef | .cell t i=>eB w ((xs.toArray++Array.replicate (fn.ntmps-xs.toArray.size) undef).getD t undef) i
 have hslot:∀ i x,xs[i]? = some x→V (.slot i)=x:=by intro i x hx;have hi:=(List.getElem?_eq_some_iff.1 hx).1;simp only [V,Array.getD_eq_getD_getElem?];rw [Array.getElem?_append_left (by simpa using hi)];simp [hx]
 refine hg ⟨V,o0,⟨fun _=>rfl,?_,rfl,List.nodup_nil,by simp,hnd,fun b hb=>⟨(ho0 b hb).1,.inr hb,(ho0 b hb).2⟩,himm,dq.refl _ _⟩,aT.2 ⟨o0,[],by simp,?_,yK _ ?_⟩⟩
 ·simp; omega
 ·unfold cB;refine tu (g:=⟨fn.ntmps,w,o0,Imm,Im,[]⟩) (fun av x o hc hr=>bV (fun _ h=>h) av x o hc (.inl fun _ h=>h) hr) (fun _ _=>rfl) args xs 0 o0 hcl ?_ ?_
  ·exact bJ (g:=cz w Imm Im) (g':=⟨fn.ntmps,w,o0,Imm,Im,[]⟩) (V:=V0) (V':=V0) (fun _ h=>h) args xs o0 hcl (.inl fun _ h=>h) hR
  ·intro i x hx; rw [Nat.zero_add]; exact hslot i x hx
 ·intro i hi;rw [List.mem_range] at hi;have hi':i<xs.length:=by omega
  rw [hslot i xs[i] (List.getElem?_eq_getElem hi')];simp [List.getD,hi']
theorem Af {g:Gh} {V:bF→Value} {w:World} {xs:List Value}:∀ (l:List Nat) {o:List Nat},Es g V w (l.map fun i=>(i,.v (xs.getD i undef))) o→(∀ i∈l,V (.slot i)=xs.getD i undef)∧o=[]
 | [],o,h=>⟨by simp,h⟩
 | i::l,o,h=>by
  obtain ⟨o1,o2,rfl,⟨h1,_⟩,h2⟩:=h
  simp only [R] at h1
  obtain ⟨h3,rfl⟩:=Af l h2
  refine ⟨?_,by rw [h1.2]; rfl⟩
  intro j hj
  rcases aW.1 hj with rfl | hj
  ·exact h1.1
  ·exact h3 j hj
theorem As {g:Gh} {V:bF→Value} {w:World}:∀ (posts:List AV) (k:Nat) {o:List Nat},Es g V w ((posts.zipIdx k).map fun p=>(p.2,p.1)) o→Rs g V w posts ((List.range' k posts.length).map fun i=>V (.slot i)) o
 | [],k,o,h=>⟨rfl,h⟩
 | av::posts,k,o,h=>by
  simp only [List.zipIdx_cons,List.map_cons] at h
  obtain ⟨o1,o2,rfl,⟨h1,_⟩,h2⟩:=h
  simp only [List.length_cons,List.range'_succ,List.map_cons,Rs]
  exact ⟨_,_,o1,o2,rfl,rfl,h1,As posts (k+1) h2⟩
theorem CM {fn:Func} {g0 g:Gh} {xs:List Value} {es:List aJ} {avs posts:List AV} {a:Act} {w:World} {Imm:Nat→Prop} (hds:g0.ds=[]) (hI0:g0.Imm=Imm) (hle:g0.le g) (hret:ng P fn.results.toList es avs) (hcl:bj avs=true) (hclp:bj posts=true) (hpl:posts.length≤xs.length) (hs:eX g (es++(cB posts++ff posts.length xs)) a w) :
  tg P fn xs posts g0.io Imm g0.Im g0.w0 (iW avs) .ret a w∧tg P fn xs posts g0.io Imm g0.Im g0.w0 (iW avs) .normal a w:=by
 have key:a.defers=[]∧∃ v,(results fn a.tmps).run P w = .ok v w∧FV xs posts g0.io Imm g0.Im g0.w0 (iW avs) (.returned v) w:=by
  obtain ⟨V,o,hst,hes⟩:=hs;obtain ⟨oA,oB,rfl,hA,hB⟩:=aT.1 hes;obtain ⟨oP,oQ,rfl,hP,hQ⟩:=aT.1 hB;obtain ⟨hpin,rfl⟩:=Af _ hQ;have hPs:=As posts 0 hP
  have hvals:((List.range' 0 posts.length).map fun i=>V (.slot i))=xs.take posts.length:=by
   apply List.ext_getElem?;intro i;simp only [List.getElem?_map,List.getElem?_take];by_cases hi:i<posts.length
   ·rw [List.getElem?_range' hi,if_pos hi,List.getElem?_eq_getElem (by omega:i<xs.length)];simp only [Option.map_some];have:=hpin i (by simp [hi]);rw [show 0+1 * i=i by omega,this];simp [List.getD,show i<xs.length by omega]
   ·rw [if_neg hi,List.getElem?_eq_none (by simpa using hi)]; rfl
  rw [hvals] at hPs;obtain ⟨ys,o',o'',hR,hperm,hrun⟩:=yT hst.val hret hA;have hndA:=(ag.1 hst.nodup).1;have hnd:o'.Nodup:=(ag.1 (hperm.nodup_iff.1 hndA)).1
  have hsub:∀ b∈o'++oP,b∈oA++(oP++[]):=fun b hb=>by
   rcases ak.1 hb with h | h
   ·have:=hperm.mem_iff.2 (ak.2 (.inl h)); simp [this]
   ·simp [h]
  have hnd2:(o'++oP).Nodup:=by have hn:=ag.1 hst.nodup;refine ag.2 ⟨hnd,by simpa using hn.2.1,fun b hb c hc=>hn.2.2 b (hperm.mem_iff.2 (by simp [hb])) c (by simp [hc])⟩
  refine ⟨by rw [hst.defers,hle.ds,hds]; rfl,(if h:ys.length=1 then ys.getD 0 undef else .tuple ys.toArray),?_,?_⟩
  ·have hres:results fn a.tmps=(do let vs ← fn.results.mapM (lJ a.tmps); pure (if h:vs.size=1 then vs[0] else .tuple vs)):=by unfold results;congr 1
   rw [hres,Array.mapM_eq_mapM_toList];simp only [Sem.run_bind,Sem.run_map,hrun,Result.andThen_ok];by_cases h:ys.length=1
   ·simp [h]
   ·simp [h]
  ·refine ⟨_,rfl,by have:=hst.chg; rw [hle.w0,hle.io] at this; exact this,g.Imm,o'++oP,by rw [← hI0]; exact hle.Imm,?_,?_,hnd2,?_⟩
   ·intro b hb;rcases hle.new b hb with h | h | h
    ·exact .inl (hI0 ▸ h)
    ·exact .inr (.inr ⟨h,hst.imm b (.inl hb)⟩)
    ·exact .inr (.inl h)
   ·have hlen:=aZ hR;have hM:∀ b,g.Im b→(cz g0.w0 g.Imm g0.Im).Im b:=fun b hb=>by rw [hle.Im] at hb; exact hb
    have hR':=bJ (g:=g) (g':=cz g0.w0 g.Imm g0.Im) (V':=V0) (fun _ h=>h) avs ys o' hcl (.inl hM) hR;have hP':=bJ (g:=g) (g':=cz g0.w0 g.Imm g0.Im) (V':=V0) (fun _ h=>h) posts _ oP hclp (.inl hM) hPs;simp only [Rs];refine ⟨_,_,o',oP,rfl,rfl,?_,hP'⟩;unfold iW;split
    ·rename_i av;simp only [Rs] at hR';obtain ⟨x,xs',o1,o2,rfl,rfl,h1,rfl,rfl⟩:=hR';simpa using h1
    ·rename_i hne
     have:ys.length≠1:=by
      intro h1;rw [hlen] at h1
      match avs,h1 with
      | [av],_=>exact hne av rfl
     simp only [this,dite_false,R];exact ⟨ys,rfl,hR'⟩
   ·intro b hb;have:=hst.own b (hsub b hb);rw [hle.w0,hle.io] at this;exact ⟨this.2.1.symm,this.1,fun h=>this.2.2 (.inl h)⟩
 exact ⟨key,key⟩
theorem qW {fn:Func} {xs:List Value} {Imm:Nat→Prop} {es fs:List aJ} {avs posts:List AV} {res:AV} (hds:g0.ds=[]) (hI:g0.Imm=Imm) (hfs:es++(cB posts++ff posts.length xs)=fs) (hret:ng P fn.results.toList es avs) (hcl:bj avs=true) (hclp:bj posts=true) (hpl:posts.length≤xs.length) (hres:iW avs=res):PT (tg P fn xs posts g0.io Imm g0.Im g0.w0 res) g0 .ret fs:=by subst hres; subst hfs;exact fun g a w hg hs=>(CM hds hI hg hret hcl hclp hpl hs).1
theorem Gj {fn:Func} {xs:List Value} {Imm:Nat→Prop} {es fs:List aJ} {avs posts:List AV} {res:AV} (hds:g0.ds=[]) (hI:g0.Imm=Imm) (hfs:es++(cB posts++ff posts.length xs)=fs) (hret:ng P fn.results.toList es avs) (hcl:bj avs=true) (hclp:bj posts=true) (hpl:posts.length≤xs.length) (hres:iW avs=res):PT (tg P fn xs posts g0.io Imm g0.Im g0.w0 res) g0 .normal fs:=by subst hres; subst hfs;exact fun g a w hg hs=>(CM hds hI hg hret hcl hclp hpl hs).2
end
section
variable {P:Program} {ty:TypeId} {pos:String} {aft:Array Edge} {gd:Option (Nat×Bool)}
def xR (NT:List aJ) (x:Operand) (t:Nat):Bool :=
 match x with
 | .tmp u=>Nat.beq u t||(match bm NT x with | .same (.slot s)=>Nat.beq s t | .ptr s 0=>Nat.beq s t | _=>false)
 | _=>false
def pG (NT:List aJ):List Operand→List aJ→Bool
 | [],[]=>true
 | x::xs,e::es=>xR NT x e.1&&pG NT xs es
 | _,_=>false
theorem ov {g:Gh} {V:bF→Value} {w:World} {NT:List aJ} {o:List Nat} {a:Act} (hv:∀ t,V (.slot t)=a.tmps.getD t undef) (h:Es g V w NT o) {x:Operand} {t:Nat} (hx:xR NT x t=true):a.eval x=V (.slot t):=by
 cases x with
 | tmp u =>
  simp only [xR,Bool.or_eq_true] at hx;rcases hx with hx | hx
  ·rw [Nat.eq_of_beq_eq_true hx,hv]; rfl
  ·have hr:=bE hv h (.tmp u)
   cases hd:bm NT (.tmp u) <;> simp only [hd] at hx hr <;> try (cases hx; done)
   case same l =>
    cases l with
    | slot s =>
     simp only [R] at hr;have:=Nat.eq_of_beq_eq_true hx;rw [← this]; exact hr.1
    | cell s i=>cases hx
   case ptr s off =>
    cases off with
    | zero =>
     simp only [R] at hr;obtain ⟨b,h1,h2,_⟩:=hr;have:=Nat.eq_of_beq_eq_true hx;rw [← this,h1]; exact h2
    | succ n=>cases hx
 | _=>cases hx
theorem mv {g:Gh} {V:bF→Value} {w:World} {NT:List aJ} {o:List Nat} {a:Act} (hv:∀ t,V (.slot t)=a.tmps.getD t undef) (h:Es g V w NT o):∀ {xs:List Operand} {T:List aJ},pG NT xs T=true→xs.map a.eval=T.map fun e=>V (.slot e.1)
 | [],[],_=>rfl
 | x::xs,e::es,hx=>by
  simp only [pG,Bool.and_eq_true] at hx
  simp only [List.map_cons]
  rw [ov hv h hx.1,mv hv h hx.2]
 | [],_::_,hx=>by cases hx
 | _::_,[],hx=>by cases hx
theorem xT {g:Gh} {V:bF→Value} {w:World}:∀ {T:List aJ} {o:List Nat},Es g V w T o→Rs g V w (T.map (·.2)) (T.map fun e=>V (.slot e.1)) o
 | [],o,h=>⟨rfl,h⟩
 | e::T,o,h=>by
  obtain ⟨o1,o2,rfl,⟨h1,_⟩,h2⟩:=h
  simp only [List.map_cons,Rs]
  exact ⟨_,_,o1,o2,rfl,rfl,h1,xT h2⟩
def fX:List aJ→List AV→List aJ
 | e::T,p::ps=>(e.1,p)::fX T ps
 | _,_=>[]
def jo:List aJ→List bF
 | []=>[]
 | (t,.box _ cs)::es=>(List.range cs.length).map (bF.cell t)++jo es
 | _::es=>jo es
theorem nD:∀ {es:List aJ} {t:Nat} {T:TypeId} {cs:List AV} {i:Nat},(t,AV.box T cs)∈es→i<cs.length→bF.cell t i∈jo es
 | [],_,_,_,_,h,_=>by cases h
 | (s,av)::es,t,T,cs,i,h,hi=>by
  rcases List.mem_cons.1 h with h | h
  ·cases h
   simp only [jo,List.mem_append,List.mem_map,List.mem_range]
   exact .inl ⟨i,hi,rfl⟩
  ·have ih:=nD h hi
   cases av <;> simp only [jo,List.mem_append] <;> first | exact ih | exact .inr ih
theorem qR {g:Gh} {V V':bF→Value} {w:World}:∀ {T:List aJ} {ps:List AV} {o:List Nat},ps.length≤T.length→Rs g V' w ps ((T.map fun e=>V' (.slot e.1)).take ps.length) o →
  (∀ t T' cs,(t,AV.box T' cs)∈fX T ps→∀ b xs,V' (.slot t) = .pointer (some ⟨b,0,none⟩)→w.heap[b]? = some (.cells xs T' (0,0))→xs.size=cs.length→∀ i,i<cs.length→w.cell? ⟨b,i,none⟩=some (V' (.cell t i)))→Es g V' w (fX T ps) o
 | [],ps,o,hl,h,_=>by
  cases ps with
  | nil=>exact h.2
  | cons p ps=>simp at hl
 | e::T,[],o,hl,h,_=>by simp only [List.length_nil,List.take_zero,Rs] at h; exact h.2
 | e::T,p::ps,o,hl,h,ht=>by
  simp only [List.map_cons,List.length_cons,List.take_succ_cons,Rs] at h
  obtain ⟨x,xs',o1,o2,he,rfl,h1,h2⟩:=h
  obtain ⟨rfl,rfl⟩:=List.cons.inj he
  refine ⟨o1,o2,rfl,⟨h1,?_⟩,qR (V:=V) (by simpa using hl) h2 fun t T' cs hm=>ht t T' cs (by simp [fX,hm])⟩
  cases p <;> try trivial
  case box T' cs =>
   intro b hb i hi
   dsimp only at hb hi ⊢
   simp only [R] at h1
   obtain ⟨b',ys,os,hx,_,hh,hrs⟩:=h1
   rw [hb] at hx; cases hx
   exact ht e.1 T' cs (by simp [fX]) b _ hb hh (by simpa using aZ hrs) i hi
theorem tp (N T G:List aJ) (W:List bF) (d:Nat) (f:FuncId) {cal:Operand} (xs ys:List Operand) {args:Array Operand} {ats:Array TypeId} (avs posts:List AV) (res:AV) (hcal:rd N cal = .v (.func (.func f) #[] #[])) (hrun:∀ args w,(callFunc f args).run P w = .ok (.enter f args) w)
  (hargs:(xs++ys).toArray=args) (hx:pG (N++T) xs T=true) (hav:ys.map (lN N)=avs) (hf:mp P f (T.map (·.2)++avs) posts res) (hpl:posts.length≤T.length) (hcl:bq res=true) (hclT:bj (T.map (·.2))=true) (hclp:bj posts=true)
  (hsh:eW res=true) (hshp:kq posts=true) (hdt:T.all (fun e => !Nat.beq e.1 d)=true) (hG:fX T posts++[(d,res)]=G) (hW:bF.slot d::jo (fX T posts)=W) :
  bh P ⟨some d,.call ⟨.value cal,args,ats⟩,ty,pos,aft,gd⟩ N T G W:=by
 subst hG hW hargs;refine bh.core fun g V oN oT a w hd hp => ?_;have hcv:=bP hp.val hp.esN hcal
 have hr:(execOp a.eval ⟨some d,.call ⟨.value cal,(xs++ys).toArray,ats⟩,ty,pos,aft,gd⟩).run P w = .ok (.enter f ((xs++ys).toArray.map a.eval)) w:=by simp [execOp,resolve,hcv,Deferred.ofValue,invoke,hrun]
 have hxe:=mv hp.val (aT.2 ⟨oN,oT,rfl,hp.esN,hp.esT⟩) hx
 have hR:Rs (cz w g.Imm (fun b=>g.Im b∨b∈oN)) V0 w (T.map (·.2)++avs) ((xs++ys).map a.eval) oT:=by
  rw [List.map_append,hxe];refine cJ.2 ⟨_,_,oT,[],rfl,by simp,?_,?_⟩
  ·exact bJ (g:=g) (g':=cz w g.Imm (fun b=>g.Im b∨b∈oN)) (fun _ h=>h) _ _ oT hclT (.inl fun b hb => .inl hb) (xT hp.esT)
  ·rw [← hav];exact fg (g:=g) (g':=cz w g.Imm (fun b=>g.Im b∨b∈oN)) rfl (fun b hb=>hb) hp.val hp.esN _
 have hnd:=hp.nodup
 have hob:∀ b∈oT,b<w.heap.size∧¬ (g.Imm b∨g.Im b∨b∈oN):=by
  intro b hb;have h1:=hp.own b (by simp [hb]);refine ⟨h1.1,?_⟩;rintro (h | h | h)
  ·exact h1.2 (.inl h)
  ·exact h1.2 (.inr h)
  ·exact (List.nodup_append.1 hnd).2.2 b h b hb rfl
 have hc:=hf g.Imm (fun b=>g.Im b∨b∈oN) w _ oT (fun b hb=>by
  rcases hb with hb | hb | hb
  ·exact hp.imm b (.inl hb)
  ·exact hp.imm b (.inr hb)
  ·exact (hp.own b (by simp [hb])).1) hR (List.nodup_append.1 hnd).2.1 hob
 have ea:((xs++ys).map a.eval).toArray=(xs++ys).toArray.map a.eval:=by simp
 rw [ea] at hc;have hlt:d<g.n:=hd d rfl;refine Yl.call hr (hc.mono ?_);rintro e' w' ⟨y,rfl,hchg,Imm',o,hI,hnew,hRr,hndo,hfr⟩
 have htake:((xs++ys).map a.eval).take posts.length=(T.map fun e=>V (.slot e.1)).take posts.length:=by rw [List.map_append,hxe,List.take_append_of_le_length (by simp [hpl])]
 simp only [htake,Rs] at hRr;obtain ⟨y',iD,o1,o2,hyv,rfl,hR1,hR2⟩:=hRr;obtain ⟨rfl,rfl⟩:=List.cons.inj hyv
 let V1:bF→Value:=fun l=>match l with
  | .slot u=>if u=d then y else V (.slot u)
  | .cell u i=>if u=d then eB w' y i else if bF.cell u i∈jo (fX T posts) then eB w' (V (.slot u)) i else V (.cell u i)
 have hV1:∀ l,fq (.slot d::jo (fX T posts)) l=false→V1 l=V l:=by
  intro l hl;simp only [fq,List.any_cons,Bool.or_eq_false_iff] at hl
  cases l with
  | slot u =>
   have:u≠d:=fun e=>by subst e; simp at hl
   simp [V1,this]
  | cell u i =>
   have h1:u≠d:=fun e=>by subst e; simp at hl
   have h2:bF.cell u i ∉ jo (fX T posts):=fun hm=>by have:=List.any_eq_false.1 hl.2 _ hm;simp at this
   simp [V1,h1,h2]
 have hTd:∀ e∈T,e.1≠d:=fun e he hed=>by have:=List.all_eq_true.1 hdt e he;rw [hed,Nat.beq_refl] at this; cases this
 have hslotT:(T.map fun e=>V1 (.slot e.1))=T.map fun e=>V (.slot e.1):=List.map_congr_left fun e he=>by simp [V1,hTd e he]
 have hzT:∀ {T:List aJ} {ps:List AV} {t:Nat} {av:AV},(t,av)∈fX T ps→∃ e∈T,e.1=t:=by
  intro T
  induction T with
  | nil=>intro ps t av h; cases ps <;> cases h
  | cons e T ih =>
   intro ps t av h
   cases ps with
   | nil=>cases h
   | cons p ps =>
    rcases List.mem_cons.1 h with h | h
    ·cases h; exact ⟨e,by simp,rfl⟩
    ·obtain ⟨e',h1,h2⟩:=ih h; exact ⟨e',by simp [h1],h2⟩
 refine ⟨y,rfl,{ g with Imm:=fun b=>Imm' b },V1,o2++o1,⟨rfl,rfl,rfl,rfl,rfl,hI,fun b hb => ?_⟩,fun b hb => ?_,fun b hb => ?_,hchg,hV1,?_,?_,?_,fun b hb => ?_⟩
 ·rcases hnew b hb with h | h | h
  ·exact .inl h
  ·exact .inr (hp.own2 b (by simp [h]))
  ·exact .inr (.inl (Nat.le_trans hp.base h.1))
 ·rcases hnew b hb with h | h | h
  ·exact .inl h
  ·exact .inr (.inl h)
  ·exact .inr (.inr h.1)
 ·rcases hnew b hb with h | h | h
  ·exact Nat.lt_of_lt_of_le (hp.imm b (.inl h)) hchg.size
  ·exact Nat.lt_of_lt_of_le (hob b h).1 hchg.size
  ·exact h.2
 ·intro t;rw [eM a d t y (by rw [hp.size]; exact hlt)];simp only [V1];split
  ·rfl
  ·exact hp.val t
 ·refine aT.2 ⟨o2,o1,rfl,?_,o1,[],by simp,⟨?_,?_⟩,rfl⟩
  ·refine qR (V:=V) hpl ?_ ?_
   ·rw [hslotT];exact bJ (g:=cz w Imm' (fun b=>g.Im b∨b∈oN)) (g':={ g with Imm:=fun b=>Imm' b }) (fun _ h=>h) _ _ o2 hclp (.inr hshp) hR2
   ·intro t T' cs hm b zs hb hh hsz i hi;obtain ⟨e,he,rfl⟩:=hzT hm;have htd:=hTd e he;have hb':V (.slot e.1) = .pointer (some ⟨b,0,none⟩):=by simpa [V1,htd] using hb
    have hmem:=nD hm hi;simp only [V1,htd,if_false,hmem,if_true,hb'];obtain ⟨zl⟩:=zs;exact df hh (by simpa using (show i<zl.length by simp at hsz; omega))
  ·show R _ _ _ res (V1 (.slot d)) o1;rw [show V1 (.slot d)=y by simp [V1]];exact bV (g:=cz w Imm' (fun b=>g.Im b∨b∈oN)) (g':={ g with Imm:=fun b=>Imm' b }) (fun _ h=>h) res y o1 hcl (.inr hsh) hR1
  ·cases res <;> try trivial
   case box T' cs =>
    intro b hb i hi;dsimp only at hb hi ⊢;rw [show V1 (.slot d)=y by simp [V1]] at hb;simp only [R] at hR1;obtain ⟨b',zs,os,hx',_,hh,hrs⟩:=hR1;rw [hb] at hx'; cases hx';simp only [V1,if_true,hb];exact df hh (by rw [aZ hrs]; exact hi)
 ·exact List.perm_append_comm.nodup_iff.1 hndo
 ·obtain ⟨h1,h2,h3⟩:=hfr b (by rcases List.mem_append.1 hb with h | h <;> simp [h]);refine ⟨h1,h2,?_⟩;rintro (h | h)
  ·exact h3 h
  ·rcases h1 with h1 | h1
   ·exact (hob b h1).2 (.inr (.inl h))
   ·exact absurd (hp.imm b (.inr h)) (by omega)
theorem mE (N:List aJ) (d t:Nat) {T:TypeId} (av:AV) (cs:List AV) (hok:dB [] av=true) (hcs:cQ av=cs) (hcl:cW [.slot d] cs=true) :
  bh P ⟨some d,.box T (.tmp t),ty,pos,aft,gd⟩ N [(t,av)] [(d,.box T cs)] [.slot d]:=by
 subst hcs;refine bh.core fun g V oN oT a w hd hp => ?_;have hT:=hp.esT;simp only [Es] at hT;obtain ⟨o,o2,rfl,⟨hR,_⟩,rfl⟩:=hT
 have hr:(execOp a.eval ⟨some d,.box T (.tmp t),ty,pos,aft,gd⟩).run P w = .ok (.value (.pointer (some ⟨w.heap.size,0,none⟩))) (w.alloc (.cells (a.eval (.tmp t)).cells T)):=by simp [execOp,Instr.box,newVar,newRow,newObj];rfl
 refine (Yl.val hr).mono ?_;rintro y w' ⟨rfl,rfl⟩;have he:a.eval (.tmp t)=V (.slot t):=by rw [hp.val]; rfl
 rw [he];obtain ⟨h1,_⟩:=lG (NT:=[]) (oNT:=[]) (g:=g) (V:=V) (w:=w) rfl hok hR;have hlt:d<g.n:=hd d rfl;have hown:∀ b∈o,b<w.heap.size∧¬ g.imm b:=fun b hb=>hp.own b (by simp [hb]);let W':=w.alloc (.cells (V (.slot t)).cells T);have hnew:W'.heap[w.heap.size]? = some (.cells (V (.slot t)).cells T (0,0)):=by simpa [W'] using heap_alloc_new w (.cells (V (.slot t)).cells T)
 have hnew':W'.heap[w.heap.size]? = some (.cells (V (.slot t)).cells.toList.toArray T (0,0)):=by rw [hnew]
 let y:=Value.pointer (some ⟨w.heap.size,0,none⟩)
 let V1:bF→Value:=fun l=>match l with
  | .slot u=>if u=d then y else V (.slot u)
  | .cell u i=>if u=d then eB W' y i else V (.cell u i)
 have hV1:∀ l,fq [.slot d] l=false→V1 l=V l:=by
  intro l hl;have:=jV d l hl
  cases l with
  | slot t=>simp only at this; simp [V1,this]
  | cell t i=>simp only at this; simp [V1,this]
 have hold:∀ b,b∈o∨g.imm b→W'.heap[b]? = w.heap[b]? := fun b hb=>heap_alloc_old w _ b (by
  rcases hb with hb | hb
  ·exact (hown b hb).1
  ·exact hp.imm b hb)
 refine ⟨g,V1,w.heap.size::o,g.le_refl,fun b hb => .inl hb,fun b hb => ?_,(dq.alloc _ _ _),hV1,?_,?_,?_,?_⟩
 ·exact Nat.lt_of_lt_of_le (hp.imm b (.inl hb)) (dq.alloc [] w _).size
 ·intro u;rw [eM a d u _ (by rw [hp.size]; exact hlt)];simp only [V1];split
  ·rfl
  ·exact hp.val u
 ·have hrs:Rs g V1 W' (cQ av) (V (.slot t)).cells.toList o:=cq (W:=[.slot d]) (fun _ h=>h) (fun _ h=>h) hV1 _ _ _ hcl hold h1;refine ⟨w.heap.size::o,[],by simp,⟨?_,?_⟩,rfl⟩
  ·show R g V1 W' (.box T (cQ av)) (V1 (.slot d)) _;rw [show V1 (.slot d)=y by simp [V1]];simp only [R];exact ⟨w.heap.size,_,o,rfl,rfl,hnew',hrs⟩
  ·intro b hb i hi;dsimp only at hb hi ⊢;rw [show V1 (.slot d) = .pointer (some ⟨w.heap.size,0,none⟩) by simp [V1,y]] at hb
   cases hb
   simp only [V1,if_true,y];exact df hnew' (by rw [aZ hrs]; exact hi)
 ·refine List.nodup_cons.2 ⟨fun h=>Nat.lt_irrefl _ (hown _ h).1,?_⟩;have:=(List.nodup_append.1 hp.nodup).2.1;simpa using this
 ·intro b hb;rcases List.mem_cons.1 hb with rfl | hb
  ·exact ⟨.inr (Nat.le_refl _),by simp,fun hi=>Nat.lt_irrefl _ (hp.imm _ hi)⟩
  ·exact ⟨.inl (by simpa using hb),Nat.lt_of_lt_of_le (hown b hb).1 (dq.alloc [] w _).size,(hown b hb).2⟩
theorem Am (N:List aJ) (d:Nat) (x:Operand) (t off:Nat) (h:bm N x = .ptr t off) (hdt:d≠t) :
  bh P ⟨some d,.nilCheck x,ty,pos,aft,gd⟩ N [] [(d,.ptr t off)] [.slot d]:=by refine bh.value rfl (by simp [eh,fq,hdt]) rfl fun g V oN a w hp => ?_;have hR:=bE hp.val hp.esN x;rw [h] at hR;simp only [R] at hR;obtain ⟨b,h1,h2,_⟩:=hR;refine ⟨a.eval x,?_,by simp only [R]; exact ⟨b,h1,h2,trivial⟩⟩;simp [execOp,h2]
theorem ke {g:Gh} {V:bF→Value} {w:World}:∀ {cs:List AV} {xs:List Value} {o:List Nat} (i:Nat),Rs g V w cs xs o→i<cs.length →
  ∃ oa o1 ob,o=oa++(o1++ob)∧Rs g V w (cs.take i) (xs.take i) oa∧R g V w (cs.getD i .any) (xs.getD i undef) o1∧Rs g V w (cs.drop (i+1)) (xs.drop (i+1)) ob
 | [],_,_,i,_,hi=>by simp at hi
 | c::cs,xs,o,i,h,hi=>by
  simp only [Rs] at h
  obtain ⟨x,xs',o1,o2,rfl,rfl,h1,h2⟩:=h
  cases i with
  | zero=>exact ⟨[],o1,o2,rfl,⟨rfl,rfl⟩,by simpa using h1,by simpa using h2⟩
  | succ i =>
   obtain ⟨oa,o3,ob,rfl,h3,h4,h5⟩:=ke i h2 (by simpa using hi)
   refine ⟨o1++oa,o3,ob,by simp,?_,by simpa using h4,by simpa using h5⟩
   simp only [List.take_succ_cons,Rs]
   exact ⟨x,_,o1,oa,rfl,rfl,h1,h3⟩
theorem nI {g:Gh} {V:bF→Value} {w:World} {cs:List AV} {xs:List Value} {oa o1 ob:List Nat} {av:AV} (i:Nat) (hi:i<cs.length) (hl:xs.length=cs.length)
  (h1:Rs g V w (cs.take i) (xs.take i) oa) (h2:R g V w av (xs.getD i undef) o1) (h3:Rs g V w (cs.drop (i+1)) (xs.drop (i+1)) ob):Rs g V w (cs.set i av) xs (oa++(o1++ob)):=by
 rw [List.set_eq_take_append_cons_drop,if_pos hi];refine cJ.2 ⟨xs.take i,xs.getD i undef::xs.drop (i+1),oa,o1++ob,?_,rfl,h1,?_⟩
 ·have:xs.getD i undef=xs[i]'(by omega):=by simp [List.getD,show i<xs.length by omega]
  rw [this,List.getElem_cons_drop,List.take_append_drop]
 ·simp only [Rs]; exact ⟨_,_,o1,ob,rfl,rfl,h2,h3⟩
theorem oU (N:List aJ) {T:TypeId} (ax vx:Operand) {E T':TypeId} {z:Nat} {xs:List Value} {cs cs':List AV} (t i k s:Nat) (vs xs':List Value) (hs:(P.info? T).map (·.size)=some s)
  (hx:bm N ax = .eref (.cell t i) k) (hc:cs.getD i .any = .fl (.own E) z xs) (hic:i<cs.length) (hv:tY N vx=some vs) (hlen:vs.length=s) (h0:0<s) (hfit:k+s≤xs.length) (hxs:xs.take k++(vs++xs.drop (k+s))=xs') (hcs:cs.set i (.fl (.own E) z xs')=cs') :
  bh P ⟨none,.store T ax vx,ty,pos,aft,gd⟩ N [(t,.box T' cs)] [(t,.box T' cs')] []:=by
 subst hxs hcs;refine bh.core fun g V oN oT a w hd hp => ?_;have hT':=hp.esT;simp only [Es] at hT';obtain ⟨ob0,o2,rfl,hER,rfl⟩:=hT';obtain ⟨hRb,htie⟩:=hER;have hax:=bE hp.val hp.esN ax;rw [hx] at hax;simp only [R] at hax hRb;obtain ⟨bb,curb,os,hpt,rfl,hhb,hrs⟩:=hRb;dsimp only at htie;obtain ⟨oa,o1,oc,hos,hA,hRi,hC⟩:=ke i hrs hic;rw [hc] at hRi;have hlenb:=aZ hrs;have hcell:=htie bb hpt i hic;rw [cell_of_row w bb i _ T' (0,0) hhb] at hcell;have hil:i<curb.length:=by omega
 have hVc:V (.cell t i)=curb.getD i undef:=by simp only [List.getElem?_toArray,List.getElem?_eq_getElem hil,Option.some.injEq] at hcell;rw [← hcell]; simp [hil]
 obtain ⟨u0,hu0⟩:∃ u,u=curb.getD i undef:=⟨_,rfl⟩;rw [← hu0] at hVc hRi;simp only [R] at hRi;obtain ⟨ad,n1,c1,h1,h2,_⟩:=hax;obtain ⟨a0,n,c,⟨h3,_⟩,hl,hone,_,hown,hob⟩:=hRi;have hne:xs≠[]:=fun e=>by subst e; simp at hfit; omega
 obtain ⟨b,c',cur,h4,hb,hnc,hcm,hsz,htk,_⟩:=qM hown hne;rw [hVc] at h1;rw [h1] at h3 h4
 cases h4
 cases h3
 obtain ⟨hvc,hvo⟩:=vr hp.val hp.esN hv
 have hrun:(execOp a.eval ⟨none,.store T ax vx,ty,pos,aft,gd⟩).run P w = .ok .skip (w.setRow b (cur.toList.take k++vs++cur.toList.drop (k+vs.length)).toArray):=by have hcl:=(by simpa using hsz:cur.toList.length=_);have:=Nat.mul_le_mul_right z hnc;have:=gn (P:=P) (w:=w) (T:=T) (off:=k) hs (cur:=cur.toList) (E:=E) (by simpa using hb) (v:=a.eval vx) (by rw [← hlen,← hvc]; simp) (by rw [hvc]; exact hvo) (by omega);rw [hvc] at this;rw [cw,Nat.zero_add] at h2;simp [execOp,Instr.storeAt,h2,Instr.sureAddr,this,hlen]
 refine (Yl.skip hrun).mono ?_;rintro y w' ⟨rfl,rfl⟩;have hnew:=ul (w:=w) (vs:=vs) k hb hnc hcm hsz htk hl (by omega);rw [hlen] at hnew
 have hone':∀ u∈xs.take k++(vs++xs.drop (k+s)),u.oneCell'=true:=by
  intro u hu;simp only [List.mem_append] at hu;rcases hu with hu | hu | hu
  ·exact hone u (List.mem_of_mem_take hu)
  ·exact hvo u hu
  ·exact hone u (List.mem_of_mem_drop hu)
 have hob':o1=[b]:=by rw [hob,h1]; rfl
 subst hob';subst hos;have hchg:dq [b] w (w.setRow b (cur.toList.take k++vs++cur.toList.drop (k+vs.length)).toArray):=gW _ _ _;have hnd:(bb::(oa++([b]++oc))).Nodup:=by have:=(List.nodup_append.1 hp.nodup).2.1; simpa using this
 have hlts:∀ c,c∈bb::(oa++([b]++oc))→c<w.heap.size∧¬ g.imm c:=fun c hc'=>hp.own c (by simp at hc' ⊢; exact .inr hc');have hbb:bb≠b:=fun e=>by subst e; simp at hnd
 have hba:∀ c∈oa,c≠b:=fun c hc' e=>by subst e;have:=(List.nodup_append.1 (List.nodup_cons.1 hnd).2).2.2 c hc' c (by simp);exact this rfl
 have hbc:∀ c∈oc,c≠b:=fun c hc' e=>by subst e;have:=(List.nodup_append.1 (List.nodup_cons.1 hnd).2).2.1;simp at this; exact this.1 hc'
 have hkeep:∀ c,c<w.heap.size→c≠b→(w.setRow b (cur.toList.take k++vs++cur.toList.drop (k+vs.length)).toArray).heap[c]? = w.heap[c]? := fun c hc1 hc2=>hchg.block c hc1 (by simpa using hc2);have himm:∀ c,g.imm c→(w.setRow b (cur.toList.take k++vs++cur.toList.drop (k+vs.length)).toArray).heap[c]? = w.heap[c]? := fun c hc'=>hkeep c (hp.imm c hc') fun e=>(hlts b (by simp)).2 (e ▸ hc');refine ⟨g,V,bb::(oa++([b]++oc)),g.le_refl,fun c hc => .inl hc,fun c hc=>Nat.lt_of_lt_of_le (hp.imm c (.inl hc)) hchg.size,hchg.mono (by simp),fun _ _=>rfl,fun u=>by simp only [Act.put]; exact hp.val u,?_,hnd,?_⟩
 ·refine ⟨bb::(oa++([b]++oc)),[],by simp,⟨?_,?_⟩,rfl⟩
  ·show R g V _ (.box T' _) (V (.slot t)) _;simp only [R];refine ⟨bb,curb,_,hpt,rfl,by rw [hkeep bb (hlts bb (by simp)).1 hbb]; exact hhb,?_⟩;refine nI i hic hlenb ?_ ?_ ?_
   ·exact cq (W:=[]) (fun _ h=>h) (fun _ h=>h) (fun _ _=>rfl) _ _ _ (dN _) (fun c hc'=>hc'.elim (fun h=>hkeep c (hlts c (by simp [h])).1 (hba c h)) (himm c)) hA
   ·rw [← hu0,h1];rw [← hlen] at hnew ⊢;exact fw hnew (by rw [hlen]; exact hone')
   ·exact cq (W:=[]) (fun _ h=>h) (fun _ h=>h) (fun _ _=>rfl) _ _ _ (dN _) (fun c hc'=>hc'.elim (fun h=>hkeep c (hlts c (by simp [h])).1 (hbc c h)) (himm c)) hC
  ·intro b' hb' j hj;dsimp only at hb' hj ⊢
   rw [World.cell?_of_block (w:=w) (by
    rw [hpt] at hb'; cases hb'
    exact hkeep bb (hlts bb (by simp)).1 hbb)]
   exact htie b' hb' j (by simpa using hj)
 ·intro c hc;exact ⟨.inl (by simpa using hc),Nat.lt_of_lt_of_le (hlts c hc).1 hchg.size,(hlts c hc).2⟩
end
end Go.Abs
end
section
namespace Go.Abs
theorem lT {g:Gh} {w:World} {s:Bool}:∀ {vs xs:List Value},jk g w s (vs.map IC.v) xs↔xs=vs
 | [],xs=>by simp [jk]
 | v::vs,xs=>by
  simp only [List.map_cons,jk,RI]
  constructor
  ·rintro ⟨x,xs',rfl,rfl,h⟩; rw [lT.1 h]
  ·rintro rfl; exact ⟨v,vs,rfl,rfl,lT.2 rfl⟩
theorem cR {g:Gh} {w:World} {s:Bool}:∀ {cs:List IC} {xs:List Value},jk g w s cs xs→xs.length=cs.length
 | [],xs,h=>by simp only [jk] at h; simp [h]
 | c::cs,xs,h=>by
  simp only [jk] at h
  obtain ⟨x,xs',rfl,_,h⟩:=h
  simp [cR h]
theorem gU {g:Gh} {w:World} {s:Bool}:∀ {cs ds:List IC} {xs ys:List Value},jk g w s cs xs→jk g w s ds ys→jk g w s (cs++ds) (xs++ys)
 | [],ds,xs,ys,h,h2=>by simp only [jk] at h; subst h; exact h2
 | c::cs,ds,xs,ys,h,h2=>by
  simp only [jk] at h
  obtain ⟨x,xs',rfl,h1,h⟩:=h
  simp only [List.cons_append,jk]
  exact ⟨x,_,rfl,h1,gU h h2⟩
theorem pO {g:Gh} {w:World} {s:Bool}:∀ (k:Nat) {cs:List IC} {xs:List Value},jk g w s cs xs→jk g w s (cs.drop k) (xs.drop k)
 | 0,_,_,h=>h
 | k+1,[],xs,h=>by simp only [jk] at h; subst h; simp [jk]
 | k+1,c::cs,xs,h=>by
  simp only [jk] at h
  obtain ⟨x,xs',rfl,_,h⟩:=h
  exact pO k h
theorem pL {g:Gh} {w:World} {s:Bool}:∀ (k:Nat) {cs:List IC} {xs:List Value},jk g w s cs xs→jk g w s (cs.take k) (xs.take k)
 | 0,_,_,_=>by simp [jk]
 | k+1,[],xs,h=>by simp only [jk] at h; subst h; simp [jk]
 | k+1,c::cs,xs,h=>by
  simp only [jk] at h
  obtain ⟨x,xs',rfl,h1,h⟩:=h
  simp only [List.take_succ_cons,jk]
  exact ⟨x,_,rfl,h1,pL k h⟩
theorem Ci {g:Gh} {w:World} {s:Bool}:∀ {cs:List IC} {xs:List Value} {k:Nat} {c:IC},jk g w s cs xs→cs[k]? = some c→∃ x,xs[k]? = some x∧RI g w s c x
 | [],_,_,_,_,h=>by simp at h
 | c::cs,xs,0,c',h,hc=>by
  simp only [jk] at h
  obtain ⟨x,xs',rfl,h1,h⟩:=h
  simp only [List.getElem?_cons_zero,Option.some.injEq] at hc
  subst hc
  exact ⟨x,rfl,h1⟩
 | c::cs,xs,k+1,c',h,hc=>by
  simp only [jk] at h
  obtain ⟨x,xs',rfl,h1,h⟩:=h
  obtain ⟨y,hy,hr⟩:=Ci h (by simpa using hc)
  exact ⟨y,by simpa using hy,hr⟩
theorem kZ {g:Gh} {w:World} {s s':Bool} (h:s=true→s'=true) {cs:List IC} {xs:List Value} (hr:jk g w s cs xs):jk g w s' cs xs :=
 dc (fun b hb=>by
  cases s with
  | true=>rw [h rfl]; exact hb
  | false=>cases s' with
   | true=>exact .inl hb
   | false=>exact hb) (fun _ _=>rfl) cs xs hr
def Ky:Bool→Md
 | true => .shr
 | false => .ro
inductive IA (s:Bool):IC→AV→Prop
 | v (x:Value):IA s (.v x) (.v x)
 | fl (z:Nat) (xs:List Value) {cs:List IC} (h:cs=xs.map IC.v):IA s (.row z cs) (.fl (Ky s) z xs)
 | fr (z:Nat) (cs:List IC):IA s (.row z cs) (.fr (Ky s) s z cs)
inductive Iz (s:Bool):List IC→List AV→Prop
 | nil:Iz s [] []
 | cons {c:IC} {av:AV} {cs:List IC} {avs:List AV} (h:IA s c av) (hs:Iz s cs avs):Iz s (c::cs) (av::avs)
theorem vD {g:Gh} {w:World} {s:Bool} {z n:Nat} {x:Value} {a:Option Addr} {vs:List Value} (h:vs≠[]→∃ ad,a=some ad∧xo g s ad.block):bW g w (Ky s) z x n a vs []:=by
 cases s
 ·exact ⟨rfl,h⟩
 ·exact ⟨rfl,h⟩
theorem Jx {g:Gh} {V:bF→Value} {w:World} {s:Bool} {c:IC} {av:AV} {x:Value} (h:IA s c av) (hr:RI g w s c x):R g V w av x []:=by
 cases h with
 | v y=>simp only [RI] at hr; simp [R,hr]
 | fl z xs h =>
  subst h;simp only [RI] at hr;obtain ⟨vs,a,n,c,h1,h2,h3,h4,h5,h6⟩:=hr;obtain rfl:=lT.1 h6;simp only [R];exact ⟨a,n,c,h1,h2,h3,h4,vD h5⟩
 | fr z cs =>
  simp only [RI] at hr;obtain ⟨vs,a,n,c,h1,h2,h3,h4,h5,h6⟩:=hr;simp only [R];exact ⟨vs,a,n,c,h1,h2,h3,h4,vD h5,h6⟩
theorem ID {g:Gh} {V:bF→Value} {w:World} {s:Bool} {cs:List IC} {avs:List AV} (h:Iz s cs avs):∀ {xs:List Value},jk g w s cs xs→Rs g V w avs xs []:=by
 induction h with
 | nil=>intro xs h; simp only [jk] at h; simp [Rs,h]
 | cons h hs ih =>
  intro xs hr;simp only [jk] at hr;obtain ⟨x,xs',rfl,h1,h2⟩:=hr;simp only [Rs];exact ⟨x,xs',[],[],rfl,rfl,Jx h h1,ih h2⟩
theorem BF {s:Bool} {c:IC} {av:AV} (h:IA s c av) (W:List bF):eh W av=true∧dM av=true:=by cases h <;> exact ⟨rfl,rfl⟩
theorem Gg {s:Bool} {cs:List IC} {avs:List AV} (h:Iz s cs avs) (W:List bF):cW W avs=true:=by
 induction h with
 | nil=>rfl
 | cons h _ ih=>simp [cW,ih,(BF h W).1]
inductive AI (s:Bool):AV→IC→Prop
 | v (x:Value):AI s (.v x) (.v x)
 | ro (z:Nat) (xs:List Value) {cs:List IC} (h:cs=xs.map IC.v):AI s (.fl .ro z xs) (.row z cs)
 | shr (z:Nat) (xs:List Value) {cs:List IC} (hs:s=true) (h:cs=xs.map IC.v):AI s (.fl .shr z xs) (.row z cs)
 | fro (z:Nat) (cs:List IC):AI s (.fr .ro false z cs) (.row z cs)
 | fsh (m:Md) (s':Bool) (z:Nat) (cs:List IC) (hm:ub m=true) (hs:s=true):AI s (.fr m s' z cs) (.row z cs)
 | nil (z:Nat):AI s (.v (.slice none 0 0)) (.row z [])
inductive EE (s:Bool):List AV→List IC→Prop
 | nil:EE s [] []
 | cons {c:IC} {av:AV} {cs:List IC} {avs:List AV} (h:AI s av c) (hs:EE s avs cs):EE s (av::avs) (c::cs)
theorem KX {g:Gh} {V:bF→Value} {w:World} {s:Bool} {c:IC} {av:AV} {x:Value} {o:List Nat} (h:AI s av c) (hr:R g V w av x o):RI g w s c x:=by
 cases h with
 | v y=>simp only [R] at hr; simp [RI,hr.1]
 | ro z xs h =>
  subst h;simp only [R,bW] at hr;obtain ⟨a,n,c,h1,h2,h3,h4,_,h5⟩:=hr;simp only [RI];exact ⟨xs,a,n,c,h1,h2,h3,h4,fun hne=>let ⟨ad,e,hi⟩:=h5 hne; ⟨ad,e,by cases s <;> first | exact hi | exact .inl hi⟩,lT.2 rfl⟩
 | shr z xs hs h =>
  subst h; subst hs;simp only [R,bW] at hr;obtain ⟨a,n,c,h1,h2,h3,h4,_,h5⟩:=hr;simp only [RI];exact ⟨xs,a,n,c,h1,h2,h3,h4,h5,lT.2 rfl⟩
 | fro z cs =>
  simp only [R,bW] at hr;obtain ⟨vs,a,n,c,h1,h2,h3,h4,⟨_,h5⟩,h6⟩:=hr;simp only [RI];exact ⟨vs,a,n,c,h1,h2,h3,h4,fun hne=>let ⟨ad,e,hi⟩:=h5 hne; ⟨ad,e,by cases s <;> first | exact hi | exact .inl hi⟩,kZ (by simp) h6⟩
 | fsh m s' z cs hm hs =>
  subst hs;simp only [R] at hr;obtain ⟨vs,a,n,c,h1,h2,h3,h4,h5,h6⟩:=hr;simp only [RI];refine ⟨vs,a,n,c,h1,h2,h3,h4,fun hne => ?_,kZ (fun _=>rfl) h6⟩
  cases m with
  | own T=>cases hm
  | ro=>obtain ⟨ad,e,hi⟩:=h5.2 hne; exact ⟨ad,e,.inl hi⟩
  | shr=>exact h5.2 hne
 | nil z =>
  simp only [R] at hr;simp only [RI];exact ⟨[],none,0,0,⟨hr.1,aq _⟩,by simp,by simp,fun h=>absurd rfl h,fun h=>absurd rfl h,by simp [jk]⟩
theorem Gv {g:Gh} {V:bF→Value} {w:World} {s:Bool} {cs:List IC} {avs:List AV} (h:EE s avs cs):∀ {xs:List Value} {o:List Nat},Rs g V w avs xs o→jk g w s cs xs:=by
 induction h with
 | nil=>intro xs o h; simp only [Rs] at h; simp [jk,h.1]
 | cons h hs ih =>
  intro xs o hr;simp only [Rs] at hr;obtain ⟨x,xs',o1,o2,rfl,rfl,h1,h2⟩:=hr;simp only [jk];exact ⟨x,xs',rfl,KX h h1,ih h2⟩
theorem mu {g:Gh} {V:bF→Value} {w:World} {m:Md} {s:Bool} {z:Nat} {cs:List IC} {x:Value} {o:List Nat} (h:R g V w (.fr m s z cs) x o) :
  ∃ vs,R g V w (.fl m z vs) x o∧jk g w s cs vs:=by simp only [R] at *;obtain ⟨vs,a,n,c,h1,h2,h3,h4,h5,h6⟩:=h;exact ⟨vs,⟨a,n,c,h1,h2,h3,h4,h5⟩,h6⟩
theorem mw {g:Gh} {V:bF→Value} {w:World} {m:Md} {s:Bool} {z:Nat} {cs:List IC} {vs:List Value} {x:Value} {o:List Nat} (h:R g V w (.fl m z vs) x o) (h2:jk g w s cs vs) :
  R g V w (.fr m s z cs) x o:=by simp only [R] at *;obtain ⟨a,n,c,h1,h2',h3,h4,h5⟩:=h;exact ⟨vs,a,n,c,h1,h2',h3,h4,h5,h2⟩
theorem ew (E:TypeId) (s:Bool) (z:Nat):uW (.v (.slice none 0 0)) (.fr (.own E) s z []):=fun g V w x o h =>
 mw (vs:=[]) (fj E z g V w x o h) (by simp [jk])
theorem uA (s:Bool) (z:Nat):uW (.v (.slice none 0 0)) (.fr .shr s z []):=fun g V w x o h =>
 mw (vs:=[]) (qb z g V w x o h) (by simp [jk])
section
variable {P:Program} {ty:TypeId} {pos:String} {aft:Array Edge} {gd:Option (Nat×Bool)}
theorem Ds (N:List aJ) (d:Nat) {t t' e:TypeId} {x:Operand} {m:Md} {s:Bool} {z:Nat} {cs:List IC} (n:Nat) (hT:P.underlying t=some (.slice e)) (hx:rd N x = .fr m s z cs) (hz:0<z) (hn:cs.length=n * z) :
  bh P ⟨some d,.call ⟨.builtin .len,#[x],#[t]⟩,t',pos,aft,gd⟩ N [] [(d,.v (.int .i64 (n:Int)))] [.slot d]:=by refine bh.v rfl fun g V oN ac w hp => ?_;obtain ⟨o',_,hr⟩:=kt hp.val hp.esN x;rw [hx] at hr;obtain ⟨vs,hr,hi⟩:=mu hr;have hvl:=cR hi;simp only [R] at hr;obtain ⟨a,n',c,⟨he,_⟩,hl,_⟩:=hr;have:n'=n:=aO hz (by omega);subst this;simp [execOp,resolve,invoke,builtin,Builtin.len_,he,run_underlying hT,goInt]
theorem EA (N:List aJ) (d:Nat) {T e:TypeId} (x:Nat) (y:Operand) {kd:IntKind} {m:Md} {s:Bool} {cs:List IC} (nn:Int) (i z:Nat) (l:bF) (hT:P.underlying T=some (.slice e)) (hz:(P.info? e).map (·.size)=some z) (h0:0<z)
  (hx:rd N (.tmp x) = .fr m s z cs) (hl:rH N (.tmp x)=l) (hy:rd N y = .v (.int kd nn)) (hnn:nn=(i:Int)) (hi:i * z+z≤cs.length) (hd:fq [.slot d] l=false) :
  bh P ⟨some d,.indexAddr T (.tmp x) y,ty,pos,aft,gd⟩ N [] [(d,.eref l (i * z))] [.slot d]:=by
 subst hnn;refine bh.value rfl (by simp [eh,hd]) rfl fun g V oN a w hp => ?_;obtain ⟨o',_,hR⟩:=kt hp.val hp.esN (.tmp x);rw [hx] at hR;obtain ⟨xs,hR,hic⟩:=mu hR;rw [← cR hic] at hi;simp only [R] at hR;obtain ⟨ad,n,c,⟨he,_⟩,hlen,_,hrd,_⟩:=hR;have hne:xs≠[]:=fun e=>by subst e; simp at hi; omega
 obtain ⟨A,rfl,_⟩:=hrd hne
 have hin:i<n:=by
  rw [hlen] at hi;have:(i+1) * z≤n * z:=by rw [Nat.add_mul]; omega
  exact Nat.lt_of_succ_le (Nat.le_of_mul_le_mul_right this h0)
 have h3:=bP hp.val hp.esN hy
 have hV:V l = .slice (some A) n c:=by
  rw [← hl,← he];simp only [rH];obtain ⟨o2,_,h2⟩:=CL hp.val hp.esN (.tmp x);simp only [DB] at h2
  cases hlk:look N x with
  | same l'=>rw [hlk] at h2; simp only [R] at h2; exact h2.1.symm
  | _=>simp only [hp.val,Act.eval]
 refine ⟨.pointer (some (A.add (i * z))),?_,by simp only [R]; exact ⟨A,n,c,hV,rfl,trivial⟩⟩;simp [execOp,Instr.indexAt,Sem.run_bind,run_underlying hT,he,h3,asIntOf,bu hz,hin]
theorem di (N:List aJ) (d:Nat) {T:TypeId} {td:TypeDesc} (x:Operand) {m:Md} {s:Bool} {z:Nat} {cs:List IC} (l:bF) (k:Nat) (ic:IC) (av:AV) (hT:P.underlying T=some td) (ha:dn td=false)
  (hx:bm N x = .eref l k) (hl:pf N l = .fr m s z cs) (hv:cs[k]? = some ic) (hia:IA s ic av) :
  bh P ⟨some d,.load T x,ty,pos,aft,gd⟩ N [] [(d,av)] [.slot d]:=by
 refine bh.value rfl (BF hia _).1 (BF hia []).2 fun g V oN a w hp => ?_;have hR:=bE hp.val hp.esN x;rw [hx] at hR;simp only [R] at hR;obtain ⟨ad,n,c,h1,h2,_⟩:=hR;obtain ⟨o',_,h3⟩:=lm hp.esN l;rw [hl] at h3;obtain ⟨vs,h3,hic⟩:=mu h3;obtain ⟨v,hv',hri⟩:=Ci hic hv;simp only [R] at h3;obtain ⟨A,n',c',⟨h4,_⟩,_,_,hrd,_⟩:=h3;rw [h1] at h4; cases h4;obtain ⟨ad',e,hc⟩:=hrd (fun e=>by subst e; simp at hv')
 cases e
 refine ⟨v,?_,Jx hia hri⟩;simp [execOp,Instr.loadAt,h2,Instr.sureAddr,jr hT ha (hc k v hv')]
theorem dp (N:List aJ) (d:Nat) {T:TypeId} {td:TypeDesc} (x:Operand) {m:Md} {s:Bool} {z:Nat} {cs:List IC} (l:bF) (k sz:Nat) (ics:List IC) (avs:List AV) (hT:P.underlying T=some td) (ha:dn td=true) (hs:(P.info? T).map (·.size)=some sz)
  (hx:bm N x = .eref l k) (hl:pf N l = .fr m s z cs) (hv:(cs.drop k).take sz=ics) (hia:Iz s ics avs) (hlen:ics.length=sz) (h0:0<sz) :
  bh P ⟨some d,.load T x,ty,pos,aft,gd⟩ N [] [(d,.agg avs)] [.slot d]:=by
 refine bh.value rfl (by simp only [eh]; exact Gg hia _) rfl fun g V oN a w hp => ?_;have hR:=bE hp.val hp.esN x;rw [hx] at hR;simp only [R] at hR;obtain ⟨ad,n,c,h1,h2,_⟩:=hR;obtain ⟨o',_,h3⟩:=lm hp.esN l;rw [hl] at h3;obtain ⟨xs,h3,hic⟩:=mu h3;have hvs:=pL sz (pO k hic);rw [hv] at hvs;have hvl:=cR hvs;simp only [R] at h3;obtain ⟨A,n',c',⟨h4,_⟩,_,_,hrd,_⟩:=h3;rw [h1] at h4; cases h4;obtain ⟨ad',e,hc⟩:=hrd (fun e=>by subst e; simp at hvl; omega)
 cases e
 generalize hvse:(xs.drop k).take sz=vs at *;refine ⟨.agg vs.toArray,?_,by simp only [R]; exact ⟨vs,rfl,ID hia hvs⟩⟩
 have hload:=gj (P:=P) (w:=w) (a:=ad.add k) (xs:=vs) hT ha hs (by omega) (fun j v hj=>by
  rw [qK]
  refine hc (k+j) v ?_
  rw [← hvse] at hj
  simp only [List.getElem?_take,List.getElem?_drop] at hj
  split at hj
  ·exact hj
  ·cases hj)
 simp [execOp,Instr.loadAt,h2,Instr.sureAddr,hload]
theorem ei (N:List aJ) (d:Nat) {T e:TypeId} (x:Operand) (z:Nat) (zv:Value) (s:Bool) (av:AV) (ics:List IC) (hT:P.underlying T=some (.slice e)) (hz:(P.info? e).map (·.size)=some z)
  (hzv:(P.info? e).bind (·.zero)=some zv) (h:bm N x=av) (hok:dB N av=true) (hai:EE s (cQ av) ics) (hl:ics.length=z) (h0:0<z) (hsm:z≤16777216) :
  bh P ⟨some d,.buildSlice T 1 #[(0,x)],ty,pos,aft,gd⟩ N [] [(d,.fr (.own e) s z ics)] [.slot d]:=by
 refine bh.fresh rfl rfl fun g V oN a w hp => ?_;have hR:=bE hp.val hp.esN x;rw [h] at hR;obtain ⟨h1,hone⟩:=lG hp.esN hok hR;have hri:=Gv hai h1;have hcl:(a.eval x).cells.toList.length=z:=by rw [cR hri,hl]
 have hcs:(a.eval x).cells.size=z:=by simpa using hcl
 have hfill:Instr.fill (fun i=>some (i * z,z)) ((Array.range (1 * z)).map (zv.cells[· % zv.cells.size]!)) [(0,a.eval x)]=some (a.eval x).cells:=by
  have hno:¬ ((a.eval x).cells.size≠z∨0 * z+(a.eval x).cells.size > ((Array.range (1 * z)).map (zv.cells[· % zv.cells.size]!)).size):=by rw [Array.size_map,Array.size_range,hcs]; omega
  unfold Instr.fill;simp only [];rw [if_neg (by rw [Bool.or_eq_true,decide_eq_true_iff,decide_eq_true_iff]; exact hno)];unfold Instr.fill;congr 1;have:=qd (a.eval x).cells.toList (0 * z) ((Array.range (1 * z)).map (zv.cells[· % zv.cells.size]!)) 0 (by simp [hcs]);apply Array.toList_inj.1;rw [← Array.foldl_toList,Array.toList_zipIdx];refine Eq.trans ?_ (this.trans ?_)
  ·rfl
  ·simp only [Nat.zero_mul,Nat.zero_add,List.take_zero,List.nil_append];rw [List.drop_eq_nil_of_le (by simp [hcs]),bn]
 have hr:(execOp a.eval ⟨some d,.buildSlice T 1 #[(0,x)],ty,pos,aft,gd⟩).run P w = .ok (.value (.slice (some ⟨w.heap.size,0,none⟩) 1 1)) (w.alloc (.cells (a.eval x).cells e)):=by
  have hbig:¬ 1 * z > 2 ^ 24:=by omega
  have hnz:¬ 1 * z=0:=by omega
  simp only [execOp,Instr.buildSlice,Sem.run_bind,run_underlying hT,Result.andThen_ok,bu hz,hbig,if_false,hnz,jg hzv];have e1:((#[(0,x)]:Array (Nat×Operand)).map fun (i,x)=>(i,a.eval x)).toList=[(0,a.eval x)]:=by simp
  simp only [Sem.run_pure,Result.andThen_ok];rw [e1,hfill];simp [newRow,newObj];rfl
 have hown:=World.ownsRow_lit (base:=0) (e:=e) (size:=z) w (a.eval x).cells 1 (Nat.zero_le _) (by simp only [maxLen]; omega) (by omega);refine (Yl.val hr).mono ?_;rintro v w2 ⟨rfl,rfl⟩;refine ⟨dq.alloc _ _ _,g,[w.heap.size],g.le_refl,fun b hb => .inl hb,mw (fw hown hone) (dc (fun b h=>h) (fun b hb=>heap_alloc_old w _ b (hp.imm b hb)) ics _ hri),by simp,?_⟩;intro b hb;simp at hb; subst hb;exact ⟨aq _,by simp,fun hi=>Nat.lt_irrefl _ (hp.imm _ (.inl hi))⟩
theorem de (N:List aJ) (d t:Nat) {T e:TypeId} (z:Nat) (zv:Value) (s:Bool) (av:AV) (ics:List IC) (hT:P.underlying T=some (.slice e)) (hz:(P.info? e).map (·.size)=some z)
  (hzv:(P.info? e).bind (·.zero)=some zv) (hok:dB [] (nH av)=true) (hai:EE s (cQ (nH av)) ics) (hl:ics.length=z) (h0:0<z) (hsm:z≤16777216) :
  bh P ⟨some d,.buildSlice T 1 #[(0,.tmp t)],ty,pos,aft,gd⟩ N [(t,av)] [(d,.fr (.own e) s z ics)] [.slot d]:=by
 refine bh.core fun g V oN oT a w hd hp => ?_;have hT':=hp.esT;simp only [Es] at hT';obtain ⟨ot,o2',rfl,⟨hR0,_⟩,rfl⟩:=hT';have he:a.eval (.tmp t)=V (.slot t):=by rw [hp.val]; rfl
 obtain ⟨o',o2,hperm,hfr⟩:=DW av _ ot hR0;let g':Gh:={ g with Imm:=fun b=>g.Imm b∨b∈o2 };have ho2:∀ b∈o2,b∈ot:=fun b hb=>hperm.mem_iff.2 (by simp [hb]);have hR:=hfr g' (fun b hb => .inl hb) (fun b hb=>hb) (fun b hb => .inr hb);rw [← he] at hR;obtain ⟨h1,hone⟩:=lG (NT:=[]) (oNT:=[]) (g:=g') (V:=V) (w:=w) rfl hok hR;have hri:=Gv hai h1;have hcl:(a.eval (.tmp t)).cells.toList.length=z:=by rw [cR hri,hl]
 have hcs:(a.eval (.tmp t)).cells.size=z:=by simpa using hcl
 have hfill:Instr.fill (fun i=>some (i * z,z)) ((Array.range (1 * z)).map (zv.cells[· % zv.cells.size]!)) [(0,a.eval (.tmp t))]=some (a.eval (.tmp t)).cells:=by
  have hno:¬ ((a.eval (.tmp t)).cells.size≠z∨0 * z+(a.eval (.tmp t)).cells.size > ((Array.range (1 * z)).map (zv.cells[· % zv.cells.size]!)).size):=by rw [Array.size_map,Array.size_range,hcs]; omega
  unfold Instr.fill;simp only [];rw [if_neg (by rw [Bool.or_eq_true,decide_eq_true_iff,decide_eq_true_iff]; exact hno)];unfold Instr.fill;congr 1;have:=qd (a.eval (.tmp t)).cells.toList (0 * z) ((Array.range (1 * z)).map (zv.cells[· % zv.cells.size]!)) 0 (by simp [hcs]);apply Array.toList_inj.1;rw [← Array.foldl_toList,Array.toList_zipIdx];refine Eq.trans ?_ (this.trans ?_)
  ·rfl
  ·simp only [Nat.zero_mul,Nat.zero_add,List.take_zero,List.nil_append];rw [List.drop_eq_nil_of_le (by simp [hcs]),bn]
 have hr:(execOp a.eval ⟨some d,.buildSlice T 1 #[(0,.tmp t)],ty,pos,aft,gd⟩).run P w = .ok (.value (.slice (some ⟨w.heap.size,0,none⟩) 1 1)) (w.alloc (.cells (a.eval (.tmp t)).cells e)):=by
  have hbig:¬ 1 * z > 2 ^ 24:=by omega
  have hnz:¬ 1 * z=0:=by omega
  simp only [execOp,Instr.buildSlice,Sem.run_bind,run_underlying hT,Result.andThen_ok,bu hz,hbig,if_false,hnz,jg hzv];have e1:((#[(0,.tmp t)]:Array (Nat×Operand)).map fun (i,x)=>(i,a.eval x)).toList=[(0,a.eval (.tmp t))]:=by simp
  simp only [Sem.run_pure,Result.andThen_ok];rw [e1,hfill];simp [newRow,newObj];rfl
 have hown:=World.ownsRow_lit (base:=0) (e:=e) (size:=z) w (a.eval (.tmp t)).cells 1 (Nat.zero_le _) (by simp only [maxLen]; omega) (by omega);refine (Yl.val hr).mono ?_;rintro v w2 ⟨rfl,rfl⟩;have hlt:d<g.n:=hd d rfl;have hot:∀ b∈ot,b<w.heap.size∧¬ g.imm b:=fun b hb=>hp.own b (by simp [hb])
 have himm':∀ b,g'.imm b→b<w.heap.size:=by
  rintro b ((hb | hb) | hb)
  ·exact hp.imm b (.inl hb)
  ·exact (hot b (ho2 b hb)).1
  ·exact hp.imm b (.inr hb)
 refine ⟨g',ck V d _,[w.heap.size],⟨rfl,rfl,rfl,rfl,rfl,fun b hb => .inl hb,fun b hb=>hb.imp id fun h=>hp.own2 b (by simp [ho2 b h])⟩,fun b hb => ?_,fun b hb => ?_,(dq.alloc _ _ _),fun l hl=>bY hl,fun u=>cU hp.val hp.size hlt u,?_,by simp,?_⟩
 ·exact hb.imp id fun h => .inl (by simpa using ho2 b h)
 ·exact am (himm' b (.inl hb)) (dq.alloc [] w _).size
 ·refine ⟨[w.heap.size],[],by simp,⟨?_,trivial⟩,rfl⟩;show R g' _ _ _ (ck V d _ (.slot d)) _;rw [cC];exact mw (fw hown hone) (dc (fun b h=>h) (fun b hb=>heap_alloc_old w _ b (himm' b hb)) ics _ hri)
 ·intro b hb;simp at hb; subst hb;exact ⟨.inr (aq _),by simp,fun hi=>Nat.lt_irrefl _ (himm' _ hi)⟩
theorem xh {A:Type} (N:List aJ) (d:Nat) {T e t':TypeId} (x y:Operand) {z by_:Nat} {my:Md} {s:Bool} {ys zs:List IC} {l m q:List A} (hE:dO P T e z by_) (hx:rd N x = .v (.slice none 0 0)) (hy:rd N y = .fr my s z ys) (hm:ys.length=m.length * z)
  (hq:cA by_ l m=some q) (hz:ys=zs) :
  bh P ⟨some d,.call ⟨.builtin .append,#[x,y],#[T,T]⟩,t',pos,aft,gd⟩ N [] [(d,.fr (.own e) s z zs)] [.slot d]:=by
 subst hz;unfold cA at hq;split at hq
 case isFalse=>cases hq
 rename_i hlim;obtain ⟨i,zv,hT,hi,hz,hs,hzc,h0,rfl⟩:=hE.ex;refine bh.fresh rfl rfl fun g V oN a w hp => ?_;have h1:=bP hp.val hp.esN hx;obtain ⟨o',_,hr⟩:=kt hp.val hp.esN y;rw [hy] at hr;obtain ⟨vs,hr,hic⟩:=mu hr;rw [← cR hic] at hm;simp only [R] at hr;obtain ⟨A,m',c,⟨he,_⟩,hl,hone,hrd,_⟩:=hr;have:m'=m.length:=aO h0 (by omega);subst this;obtain ⟨v',w',hrun,hown,hg,hblk⟩:=fv (P:=P) (ty:=t') (c:=c) hT hi hz hs hzc h0 (World.ownsRow_nil w 0 e z) hl hrd hone (by simp only [maxLen]; omega) (by simpa using bD (Nat.mul_le_mul_right _ (by omega)) hlim.1);refine (Yl.val (by simp [execOp,resolve,invoke,builtin,h1,he,hrun]:(execOp a.eval ⟨some d,.call ⟨.builtin .append,#[x,y],#[T,T]⟩,t',pos,aft,gd⟩).run P w = .ok (.value v') w')).mono ?_;rintro v w2 ⟨rfl,rfl⟩;have hchg:dq [] w w2:=(dq.of_grown hg).mono (by simp [Value.ownBlock]);simp only [List.nil_append] at hown;refine ⟨hchg,g,v.ownBlock.toList,g.le_refl,fun b hb => .inl hb,mw (fw hown hone) (dc (fun b h=>h) (fun b hb=>hchg.block b (hp.imm b hb) (by simp)) _ _ hic),by cases v.ownBlock <;> simp,?_⟩;intro b hb';have hvb:v.ownBlock=some b:=by cases hv:v.ownBlock <;> simp [hv] at hb' ⊢; exact hb'.symm
 have hlt:=(hown.lt b hvb).2;rcases hblk with h | h
 ·rw [h] at hvb; cases hvb
 ·rw [hvb] at h
  cases h
  exact ⟨aq _,hlt,fun hi=>Nat.lt_irrefl _ (hp.imm _ (.inl hi))⟩
theorem iu {A:Type} (N:List aJ) (d t:Nat) {T e t':TypeId} (x y:Operand) {z by_:Nat} {my:Md} {s s1 s2:Bool} {xs ys zs:List IC} {l m q:List A} (hE:dO P T e z by_) (hx:bm (N++[(t,.fr (.own e) s1 z xs)]) x = .same (.slot t)) (hy:rd N y = .fr my s2 z ys)
  (hn:xs.length=l.length * z) (hm:ys.length=m.length * z) (hq:cA by_ l m=some q) (hz:xs++ys=zs) (hs1:s1=true→s=true) (hs2:s2=true→s=true) :
  bh P ⟨some d,.call ⟨.builtin .append,#[x,y],#[T,T]⟩,t',pos,aft,gd⟩ N [(t,.fr (.own e) s1 z xs)] [(t,.any),(d,.fr (.own e) s z zs)] [.slot d]:=by
 subst hz;unfold cA at hq;split at hq
 case isFalse=>cases hq
 rename_i hlim;obtain ⟨i,zv,hT,hi,hz,hs,hzc,h0,rfl⟩:=hE.ex;refine bh.core fun g V oN oT a w hd hp => ?_;have hT':=hp.esT;simp only [Es] at hT';obtain ⟨ob,o2,rfl,⟨hR,_⟩,rfl⟩:=hT';have hax:=bE hp.val (aT.2 ⟨oN,_,rfl,hp.esN,hp.esT⟩) x;rw [hx] at hax;obtain ⟨us,hR,hix⟩:=mu hR;rw [← cR hix] at hn;simp only [R] at hax hR;obtain ⟨a0,n0,c0,⟨h3,_⟩,hl0,hone0,_,hown,hob⟩:=hR;obtain ⟨o',_,hr⟩:=kt hp.val hp.esN y;rw [hy] at hr;obtain ⟨vs,hr,hiy⟩:=mu hr;rw [← cR hiy] at hm;simp only [R] at hr;obtain ⟨A,m',c,⟨he,_⟩,hl,hone,hrd,_⟩:=hr;have em:m'=m.length:=aO h0 (by omega);subst em;have en:n0=l.length:=aO h0 (by omega);subst en;obtain ⟨v',w',hrun,hown',hg,hblk⟩:=fv (P:=P) (ty:=t') (c:=c) hT hi hz hs hzc h0 hown hl hrd hone (by simp only [maxLen]; omega) (by simpa using hlim.1)
 have hrun':(execOp a.eval ⟨some d,.call ⟨.builtin .append,#[x,y],#[T,T]⟩,t',pos,aft,gd⟩).run P w = .ok (.value v') w':=by have h4:a.eval x=V (.slot t):=hax.1;simp [execOp,resolve,invoke,builtin,he,h4,hrun]
 refine (Yl.val hrun').mono ?_;rintro v w2 ⟨rfl,rfl⟩;have hlt:d<g.n:=hd d rfl;have hchg:dq ob w w2:=by rw [hob]; exact dq.of_grown hg
 have himm:∀ b,g.imm b→w2.heap[b]? = w.heap[b]? := fun b hb=>hchg.block b (hp.imm b hb) fun hb'=>(hp.own b (by simp [hb'])).2 hb;refine ⟨g,ck V d v,v.ownBlock.toList,g.le_refl,fun b hb => .inl hb,fun b hb=>am (hp.imm b (.inl hb)) hchg.size,by simpa using hchg,fun l hl=>bY hl,fun u=>cU hp.val hp.size hlt u,?_,by cases v.ownBlock <;> simp,?_⟩
 ·refine ⟨[],v.ownBlock.toList,rfl,⟨by simp [R],trivial⟩,v.ownBlock.toList,[],by simp,⟨?_,trivial⟩,rfl⟩;show R g _ _ _ (ck V d v (.slot d)) _;rw [cC];refine mw (fw hown' fun u hu => ?_) (dc (fun b h=>h) himm _ _ (gU (kZ hs1 hix) (kZ hs2 hiy)));rcases ak.1 hu with h | h
  ·exact hone0 u h
  ·exact hone u h
 ·intro b hb';have hvb:v.ownBlock=some b:=by cases hv:v.ownBlock <;> simp [hv] at hb' ⊢; exact hb'.symm
  have hlt2:=(hown'.lt b hvb).2;rcases hblk with h | h
  ·have hin:b∈ob:=by rw [hob,← h,hvb]; simp
   exact ⟨.inl (by simp [hin]),hlt2,(hp.own b (by simp [hin])).2⟩
  ·rw [hvb] at h
   cases h
   refine ⟨.inr (aq _),hlt2,fun hi=>Nat.lt_irrefl _ (hp.imm _ hi)⟩
theorem uu (N:List aJ) (d:Nat) {T e:TypeId} {x:Operand} {lo hi:Option Operand} {m:Md} {s:Bool} {z:Nat} {cs:List IC} (l h:Nat) (ds:List IC) (hT:P.underlying T=some (.slice e)) (hz:(P.info? e).map (·.size)=some z) (h0:0<z)
  (hx:rd N x = .fr m s z cs) (hm:ub m=true)
  (hl:match lo with | some y=>∃ k,rd N y = .v (.int k (l:Int)) | none=>l=0) (hh:match hi with | some y=>∃ k,rd N y = .v (.int k (h:Int)) | none=>h * z=cs.length) (h1:l≤h) (h2:h * z≤cs.length) (hds:(cs.drop (l * z)).take ((h-l) * z)=ds) :
  bh P ⟨some d,.slice T x lo hi none,ty,pos,aft,gd⟩ N [] [(d,.fr m s z ds)] [.slot d]:=by
 refine bh.value rfl rfl rfl fun g V oN a w hp => ?_;obtain ⟨o',_,hr⟩:=kt hp.val hp.esN x;rw [hx] at hr;obtain ⟨xs,hr,hic⟩:=mu hr;rw [← cR hic] at h2 hh;have hys2:=pL ((h-l) * z) (pO (l * z) hic);rw [hds] at hys2;obtain ⟨ys,hys⟩:∃ ys,(xs.drop (l * z)).take ((h-l) * z)=ys:=⟨_,rfl⟩;rw [hys] at hys2;simp only [R] at hr;obtain ⟨A,n,c,⟨he,hnc⟩,hlen,hone,hrd,hmo⟩:=hr;have hhn:h≤n:=by rw [hlen] at h2; exact Nat.le_of_mul_le_mul_right h2 h0
 have hln:l≤n:=by omega
 have hylen:ys.length=(h-l) * z:=by
  rw [← hys];have:l * z+(h-l) * z≤xs.length:=by rw [← Nat.add_mul]; rw [show l+(h-l)=h by omega]; exact h2
  simp; omega
 have hsub:∀ (j:Nat) (u:Value),ys[j]? = some u→xs[l * z+j]? = some u:=by
  intro j u hu;rw [← hys] at hu;simp only [List.getElem?_take,List.getElem?_drop] at hu;split at hu
  ·exact hu
  ·cases hu
 have hone':∀ u∈ys,u.oneCell'=true:=fun u hu=>by rw [← hys] at hu;exact hone u (List.mem_of_mem_drop (List.mem_of_mem_take hu))
 have hne:ys≠[]→xs≠[]:=by rintro h3 rfl;rw [← hys] at h3; simp at h3
 ·have e2:∀ y,lo=some y→∃ k,a.eval y = .int k (l:Int):=by intro y hy; subst hy; obtain ⟨k,hk⟩:=hl; exact ⟨k,bP hp.val hp.esN hk⟩
  have e3:∀ y,hi=some y→∃ k,a.eval y = .int k (h:Int):=by intro y hy; subst hy; obtain ⟨k,hk⟩:=hh; exact ⟨k,bP hp.val hp.esN hk⟩
  have hhc:h≤c:=by omega
  have hrun:(execOp a.eval ⟨some d,.slice T x lo hi none,ty,pos,aft,gd⟩).run P w = .ok (.value (.slice (if c=l then A else A.map (·.add (l * z))) (h-l) (c-l))) w:=by
   cases lo with
   | none =>
    simp only at hl; subst hl
    cases hi with
    | none =>
     simp only at hh;have:h=n:=aO h0 (by omega);subst this;simp [execOp,Instr.sliceAt,Instr.slice,run_underlying hT,he,Instr.sliceBounds,bu hz]
    | some y =>
     obtain ⟨k,hk⟩:=e3 y rfl;simp [execOp,Instr.sliceAt,Instr.slice,run_underlying hT,he,Instr.sliceBounds,Instr.sliceBound,asIntOf,hk,hhc,bu hz]
   | some y =>
    obtain ⟨k,hk⟩:=e2 y rfl
    cases hi with
    | none =>
     simp only at hh;have:h=n:=aO h0 (by omega);subst this;simp [execOp,Instr.sliceAt,Instr.slice,run_underlying hT,he,Instr.sliceBounds,Instr.sliceBound,asIntOf,hk,h1,bu hz]
    | some y' =>
     obtain ⟨k',hk'⟩:=e3 y' rfl;simp [execOp,Instr.sliceAt,Instr.slice,run_underlying hT,he,Instr.sliceBounds,Instr.sliceBound,asIntOf,hk,hk',h1,hhc,bu hz]
  refine ⟨_,hrun,mw ?_ hys2⟩;simp only [R];refine ⟨_,h-l,c-l,⟨rfl,by omega⟩,hylen,hone',?_,?_⟩
  ·intro h3;obtain ⟨ad,rfl,hc⟩:=hrd (hne h3)
   have hcl:c≠l:=by
    intro e;have:h-l=0:=by omega
    rw [this] at hylen;simp at hylen; exact h3 hylen
   rw [if_neg hcl];refine ⟨ad.add (l * z),rfl,fun j u hu => ?_⟩;rw [qK];exact hc _ _ (hsub j u hu)
  ·cases m with
   | own T=>simp [ub] at hm
   | ro =>
    refine ⟨rfl,fun h3 => ?_⟩;obtain ⟨ad,rfl,hi⟩:=hmo.2 (hne h3);split
    ·exact ⟨ad,rfl,hi⟩
    ·exact ⟨ad.add (l * z),rfl,by rw [qJ]; exact hi⟩
   | shr =>
    refine ⟨rfl,fun h3 => ?_⟩;obtain ⟨ad,rfl,hi⟩:=hmo.2 (hne h3);split
    ·exact ⟨ad,rfl,hi⟩
    ·exact ⟨ad.add (l * z),rfl,by rw [qJ]; exact hi⟩
end
section
variable {A B:Type} {z:Nat}
theorem br {enc:A→List B} (he:∀ x,(enc x).length=z) (l:List A):((l.map enc).flatten).length=l.length * z:=by
 induction l with
 | nil=>simp
 | cons x l ih=>simp only [List.map_cons,List.flatten_cons,List.length_append,he,ih,List.length_cons,Nat.add_mul]; omega
theorem zX {enc:A→List B} (he:∀ x,(enc x).length=z) {l:List A} {i:Nat} (h:i<l.length):i * z+z≤((l.map enc).flatten).length:=by rw [br he];have:(i+1) * z≤l.length * z:=Nat.mul_le_mul_right _ h;rw [Nat.add_mul] at this; omega
theorem rU {enc:A→List B} (he:∀ x,(enc x).length=z):∀ (l:List A) (i:Nat),((l.map enc).flatten).drop (i * z)=((l.drop i).map enc).flatten
 | [],i=>by simp
 | x::l,0=>by simp
 | x::l,i+1=>by
  simp only [List.map_cons,List.flatten_cons,List.drop_succ_cons]
  rw [Nat.add_mul,Nat.one_mul,Nat.add_comm,← List.drop_drop,← he x,List.drop_left,he x]
  exact rU he l i
theorem wA {enc:A→List B} (he:∀ x,(enc x).length=z):∀ (l:List A) (i:Nat),((l.map enc).flatten).take (i * z)=((l.take i).map enc).flatten
 | [],i=>by simp
 | x::l,0=>by simp
 | x::l,i+1=>by
  simp only [List.map_cons,List.flatten_cons,List.take_succ_cons]
  rw [Nat.add_mul,Nat.one_mul,Nat.add_comm,List.take_add,← he x,List.take_left,List.drop_left,he x]
  rw [wA he l i]
theorem dR {enc:A→List B} (he:∀ x,(enc x).length=z) {l:List A} {i:Nat} {x:A} (h:bK l i=some x):(((l.map enc).flatten).drop (i * z)).take z=enc x:=by rw [rU he];obtain ⟨hi,rfl⟩:=List.getElem?_eq_some_iff.1 h;rw [List.drop_eq_getElem_cons hi];simp only [List.map_cons,List.flatten_cons];rw [← he l[i],List.take_left]
theorem dl {enc:A→List B} (he:∀ x,(enc x).length=z) {l:List A} {i j:Nat} {x:A} {v:B} (h:bK l i=some x) (hv:(enc x)[j]? = some v):((l.map enc).flatten)[i * z+j]? = some v:=by
 have h1:=dR he h;have hj:j<z:=by rw [← he x]; exact (List.getElem?_eq_some_iff.1 hv).1
 rw [← h1,List.getElem?_take,if_pos hj,List.getElem?_drop] at hv;exact hv
theorem dv {enc:A→List B} {l m q:List A} (h:l++m=q):(l.map enc).flatten++(m.map enc).flatten=(q.map enc).flatten:=by subst h; simp
theorem xZ {enc:A→List B} (he:∀ x,(enc x).length=z) {l q:List A} {a b:Int} (h:lf l a b=some q):(((l.map enc).flatten).drop (a.toNat * z)).take ((b.toNat-a.toNat) * z)=(q.map enc).flatten:=by
 unfold lf at h;split at h
 ·cases h
  rw [rU he,wA he]
 ·cases h
theorem tU {l q:List A} {a b:Int} (h:lf l a b=some q):a=(a.toNat:Int)∧b=(b.toNat:Int)∧a.toNat≤b.toNat∧b.toNat≤l.length:=by
 unfold lf at h;split at h
 ·omega
 ·cases h
end
theorem sq (z:Nat) (xs:List Value):uW (.fl .ro z xs) (.fl .shr z xs):=fun g V w x o h=>by
 simp only [R,bW] at *
 obtain ⟨a,n,c,h1,h2,h3,h4,h5,h6⟩:=h
 exact ⟨a,n,c,h1,h2,h3,h4,h5,fun hne=>let ⟨ad,e,hi⟩:=h6 hne; ⟨ad,e,.inl hi⟩⟩
theorem ww (s:Bool) (z:Nat) (cs:List IC):uW (.fr .ro s z cs) (.fr .shr true z cs):=fun g V w x o h=>by
 obtain ⟨vs,h1,h2⟩:=mu h
 exact mw (sq _ _ g V w x o h1) (kZ (fun _=>rfl) h2)
section
variable {P:Program} {Q:Exit→Act→World→Prop} {g0:Gh} {rnd:Option Nat}
theorem mK {c:Code} {es es':List aJ} (i:Nat) (ht:g0.ds=[]) (he:(es.modify i fun e=>(e.1,nH e.2))=es') (h:HT rnd P Q g0 c es'):HT rnd P Q g0 c es:=by intro g a w hg hs;exact mH (Q:=fun e a w=>c.wpIn (FW rnd) 0 P Q a w) (e := .normal) i ht he (fun g a w hg hs=>h g a w hg hs) g a w hg hs
end
end Go.Abs
end
section
namespace Go.Abs
open Go.WideShapes
def ix (k:IntKind) (n:Int):Prop:=(Lit.int k n).wf=true
def DI (s:ME):Prop:=s.size≤maxLen
def xl {A:Type} (p:A→Prop) (l:List A):Prop:=l.length≤maxLen∧∀ x∈l,p x
def Ie (W:World):Gh:=cz W (fun _=>False) (fun b=>b<W.heap.size)
section
variable {H:Type} {enc:TypeId×Value→H} {P:Program} {W:World} {sp:Nat→Bool} {hd:Bool} {t:TypeId}
theorem KZ (x:Value):R (Ie W) V0 W (.v x) x []:=by simp [R]
theorem Hc:Rs (Ie W) V0 W [] [] []:=by simp [Rs]
theorem FB {c:AV} {cs:List AV} {x:Value} {xs:List Value} (h:R (Ie W) V0 W c x []) (hs:Rs (Ie W) V0 W cs xs []):Rs (Ie W) V0 W (c::cs) (x::xs) []:=by simp only [Rs]; exact ⟨x,xs,[],[],rfl,rfl,h,hs⟩
end
end Go.Abs
end
section
namespace Go.Abs
def FD (P:Program) (T U ty e:TypeId) (z by_:Nat) (yv:Value) (m:Nat) (ys:List Value):Prop :=
 ∀ (w:World) (v:Value) (n:Nat) (xs:List Value),w.ownsRow 0 e z v n xs→n+m≤maxLen→(n+m) * by_≤140737488355328 →
  ∃ v' w',(Builtin.append_ #[T,U] ty #[v,yv]).run P w = .ok v' w'∧w'.ownsRow 0 e z v' (n+m) (xs++ys)∧w.grownBy w' v.ownBlock∧(v'.ownBlock=v.ownBlock∨v'.ownBlock=some w.heap.size)
section
variable {P:Program} {ty:TypeId} {pos:String} {aft:Array Edge} {gd:Option (Nat×Bool)}
theorem BH (N:List aJ) (d t:Nat) {T U e t':TypeId} (x y:Operand) {z by_:Nat} {yv:Value} {xs ys:List Value} (n m:Nat) (hE:dO P T e z by_) (hx:bm (N++[(t,.fl (.own e) z xs)]) x = .same (.slot t)) (hy:rd N y = .v yv) (hap:FD P T U t' e z by_ yv m ys)
  (hn:xs.length=n * z) (h1y:∀ u∈ys,u.oneCell'=true) (hb:(n+m) * by_≤140737488355328) (h63:n+m≤maxLen) :
  bh P ⟨some d,.call ⟨.builtin .append,#[x,y],#[T,U]⟩,t',pos,aft,gd⟩ N [(t,.fl (.own e) z xs)] [(t,.any),(d,.fl (.own e) z (xs++ys))] [.slot d]:=by
 obtain ⟨i,zv,hT,hi,hz,hs,hzc,h0,rfl⟩:=hE.ex;refine bh.core fun g V oN oT a w hd hp => ?_;have hT':=hp.esT;simp only [Es] at hT';obtain ⟨ob,o2,rfl,⟨hR,_⟩,rfl⟩:=hT';have hax:=bE hp.val (aT.2 ⟨oN,_,rfl,hp.esN,hp.esT⟩) x;rw [hx] at hax;simp only [R] at hax hR;obtain ⟨a0,n0,c0,⟨h3,_⟩,hl0,hone0,_,hown,hob⟩:=hR;have he:=bP hp.val hp.esN hy;have hone:=h1y;have en:n0=n:=aO h0 (by omega);subst en;obtain ⟨v',w',hrun,hown',hg,hblk⟩:=hap w _ _ _ hown h63 (by simpa using hb)
 have hrun':(execOp a.eval ⟨some d,.call ⟨.builtin .append,#[x,y],#[T,U]⟩,t',pos,aft,gd⟩).run P w = .ok (.value v') w':=by have h4:a.eval x=V (.slot t):=hax.1;simp [execOp,resolve,invoke,builtin,he,h4,hrun]
 refine (Yl.val hrun').mono ?_;rintro v w2 ⟨rfl,rfl⟩;have hlt:d<g.n:=hd d rfl;have hchg:dq ob w w2:=by rw [hob]; exact dq.of_grown hg
 refine ⟨g,ck V d v,v.ownBlock.toList,g.le_refl,fun b hb => .inl hb,fun b hb=>am (hp.imm b (.inl hb)) hchg.size,by simpa using hchg,fun l hl=>bY hl,fun u=>cU hp.val hp.size hlt u,?_,by cases v.ownBlock <;> simp,?_⟩
 ·refine ⟨[],v.ownBlock.toList,rfl,⟨by simp [R],trivial⟩,v.ownBlock.toList,[],by simp,⟨?_,trivial⟩,rfl⟩;show R g _ _ _ (ck V d v (.slot d)) _;rw [cC];refine fw hown' fun u hu => ?_;rcases ak.1 hu with h | h
  ·exact hone0 u h
  ·exact hone u h
 ·intro b hb';have hvb:v.ownBlock=some b:=by cases hv:v.ownBlock <;> simp [hv] at hb' ⊢; exact hb'.symm
  have hlt2:=(hown'.lt b hvb).2;rcases hblk with h | h
  ·have hin:b∈ob:=by rw [hob,← h,hvb]; simp
   exact ⟨.inl (by simp [hin]),hlt2,(hp.own b (by simp [hin])).2⟩
  ·rw [hvb] at h
   cases h
   refine ⟨.inr (aq _),hlt2,fun hi=>Nat.lt_irrefl _ (hp.imm _ hi)⟩
theorem uF (N:List aJ) (d t i:Nat) {T U e t' T':TypeId} (x y:Operand) {z by_:Nat} {yv:Value} {cs:List AV} {xs ys:List Value} (n m:Nat) (hE:dO P T e z by_) (hx:bm N x = .same (.cell t i)) (hc:cs.getD i .any = .fl (.own e) z xs) (hic:i<cs.length)
  (hy:rd N y = .v yv) (hap:FD P T U t' e z by_ yv m ys) (hn:xs.length=n * z) (h1y:∀ u∈ys,u.oneCell'=true) (hb:(n+m) * by_≤140737488355328) (h63:n+m≤maxLen) (hdt:d≠t) (hcl:cW [.slot d] (cs.set i .any)=true) :
  bh P ⟨some d,.call ⟨.builtin .append,#[x,y],#[T,U]⟩,t',pos,aft,gd⟩ N [(t,.box T' cs)] [(t,.box T' (cs.set i .any)),(d,.fl (.own e) z (xs++ys))] [.slot d]:=by
 obtain ⟨ti,zv,hT,hi,hz,hs,hzc,h0,rfl⟩:=hE.ex;refine bh.core fun g V oN oT a w hd hp => ?_;have hT':=hp.esT;simp only [Es] at hT';obtain ⟨ob,o2,rfl,hER,rfl⟩:=hT';obtain ⟨hR,htie⟩:=hER;have hax:=bE hp.val hp.esN x;rw [hx] at hax;simp only [R] at hax hR;obtain ⟨b,cur,os,hpt,rfl,hh,hrs⟩:=hR;dsimp only at htie;obtain ⟨o1,o3,hperm,hRi,hrest⟩:=fu i hrs hic;rw [hc] at hRi;have hlen:=aZ hrs;have hcell:=htie b hpt i hic;rw [cell_of_row w b i _ T' (0,0) hh] at hcell;have hil:i<cur.length:=by omega
 have hVc:V (.cell t i)=cur.getD i undef:=by simp only [List.getElem?_toArray,List.getElem?_eq_getElem hil,Option.some.injEq] at hcell;rw [← hcell]; simp [hil]
 obtain ⟨u0,hu0⟩:∃ u,u=cur.getD i undef:=⟨_,rfl⟩;rw [← hu0] at hVc hRi;simp only [R] at hRi;obtain ⟨a0,n0,c0,⟨h3,_⟩,hl0,hone0,_,hown,hob⟩:=hRi;have he:=bP hp.val hp.esN hy;have hone:=h1y;have en:n0=n:=aO h0 (by omega);subst en;obtain ⟨v',w',hrun,hown',hg,hblk⟩:=hap w _ _ _ hown h63 (by simpa using hb)
 have hrun':(execOp a.eval ⟨some d,.call ⟨.builtin .append,#[x,y],#[T,U]⟩,t',pos,aft,gd⟩).run P w = .ok (.value v') w':=by
  have h4:a.eval x=u0:=by rw [hax.1,hVc]
  simp [execOp,resolve,invoke,builtin,he,h4,hrun]
 refine (Yl.val hrun').mono ?_;rintro v w2 ⟨rfl,rfl⟩;have hlt:d<g.n:=hd d rfl;have hchg:dq o1 w w2:=by rw [hob]; exact dq.of_grown hg
 have hin1:∀ c,c∈o1→c∈b::os:=fun c hc'=>by have:=hperm.mem_iff.2 (ak.2 (.inl hc')); simp [this]
 have hin3:∀ c,c∈o3→c∈b::os:=fun c hc'=>by have:=hperm.mem_iff.2 (ak.2 (.inr hc')); simp [this]
 have hinb:∀ c,c∈b::o3→c∈b::os:=by
  intro c hc';rcases aW.1 hc' with h | h
  ·simp [h]
  ·exact hin3 c h
 have hnd2:(b::os).Nodup:=by have:=(ag.1 hp.nodup).2.1; simpa using this
 have hnd3:(b::(o1++o3)).Nodup:=((hperm.cons b).nodup_iff).1 hnd2;have hlts:∀ c,c∈b::os→c<w.heap.size∧¬ g.imm c:=fun c hc'=>hp.own c (by simp at hc' ⊢; exact .inr hc')
 have hkeep:∀ c,c∈b::o3∨g.imm c→w2.heap[c]? = w.heap[c]? := by
  intro c hc';rcases hc' with hc' | hc'
  ·refine hchg.block c (hlts c (hinb c hc')).1 fun h1 => ?_;simp only [bI,ak,ag] at hnd3;rcases aW.1 hc' with rfl | h3
   ·exact hnd3.1 (.inl h1)
   ·exact hnd3.2.2.2 c h1 c h3 rfl
  ·exact hchg.block c (hp.imm c hc') fun h1=>(hlts c (hin1 c h1)).2 hc'
 have hdtl:∀ l,fq [.slot d] l=false→ck V d v l=V l:=fun l hl=>bY hl;refine ⟨g,ck V d v,(b::o3)++v.ownBlock.toList,g.le_refl,fun b hb => .inl hb,fun b hb=>am (hp.imm b (.inl hb)) hchg.size,?_,hdtl,fun u=>cU hp.val hp.size hlt u,?_,?_,?_⟩
 ·exact hchg.mono fun c hc'=>by simpa using hin1 c hc'
 ·have hVt:ck V d v (.slot t)=V (.slot t):=by simp only [ck]; rw [if_neg fun e=>hdt e.symm]
  have hVtc:∀ j,ck V d v (.cell t j)=V (.cell t j):=fun j=>rfl;refine ⟨b::o3,v.ownBlock.toList,rfl,⟨?_,?_⟩,v.ownBlock.toList,[],by simp,⟨?_,trivial⟩,rfl⟩
  ·show R g _ _ (.box T' _) (ck V d v (.slot t)) _;rw [hVt];simp only [R];refine ⟨b,cur,o3,hpt,rfl,by rw [hkeep b (.inl (by simp))]; exact hh,?_⟩;exact cq (W:=[.slot d]) (fun _ h=>h) (fun _ h=>h) hdtl _ _ _ hcl (fun c hc'=>hkeep c (hc'.imp (fun h=>by simp [h]) id)) hrest
  ·intro b' hb' j hj;rw [hVt] at hb';rw [hVtc]
   rw [World.cell?_of_block (w:=w) (by
    rw [hpt] at hb'; cases hb'
    exact hkeep b (.inl (by simp)))]
   exact htie b' hb' j (by simpa using hj)
  ·show R g _ _ _ (ck V d v (.slot d)) _;rw [cC];refine fw hown' fun u hu => ?_;rcases ak.1 hu with h | h
   ·exact hone0 u h
   ·exact hone u h
 ·refine ag.2 ⟨?_,by cases v.ownBlock <;> simp,?_⟩
  ·have:(o1++(b::o3)).Nodup:=(List.perm_middle.nodup_iff).2 hnd3;exact (ag.1 this).2.1
  ·intro c hc' c2 hc2 e;subst e;have hvb:v.ownBlock=some c:=by cases hv:v.ownBlock <;> simp [hv] at hc2 ⊢; exact hc2.symm
   rcases hblk with h | h
   ·have hin:c∈o1:=by rw [hob,← h,hvb]; simp
    simp only [bI,ak,ag] at hnd3;rcases aW.1 hc' with rfl | h3
    ·exact hnd3.1 (.inl hin)
    ·exact hnd3.2.2.2 c hin c h3 rfl
   ·rw [hvb] at h
    cases h
    have:=(hlts w.heap.size (hinb _ hc')).1;omega
 ·intro c hc';rcases ak.1 hc' with hc' | hc'
  ·have h4:c∈b::os:=hinb c hc';exact ⟨.inl (by simpa using h4),am (hlts c h4).1 hchg.size,(hlts c h4).2⟩
  ·have hvb:v.ownBlock=some c:=by cases hv:v.ownBlock <;> simp [hv] at hc' ⊢; exact hc'.symm
   have hlt2:=(hown'.lt c hvb).2;rcases hblk with h | h
   ·have hin:c∈o1:=by rw [hob,← h,hvb]; simp
    exact ⟨.inl (by simpa using hin1 c hin),hlt2,(hlts c (hin1 c hin)).2⟩
   ·rw [hvb] at h
    cases h
    exact ⟨.inr (aq _),hlt2,fun hi=>Nat.lt_irrefl _ (hp.imm _ hi)⟩
theorem EB {t u ty e:TypeId} {i:TypeInfo} {s:ME} (ht:P.underlying t=some (.slice e)) (hu:P.underlying u=some .string) (hi:P.info? e=some i) (hz:i.zero=some (.int .u8 0)) (hsize:i.size=1) (hby:i.bytes=1) :
  FD P t u ty e 1 1 (.string s) s.size (Lib.strCells s):=by
 intro w v n xs hown h63 hbytes;have hbase:0≤w.heap.size:=Nat.zero_le _;have hsmall:n+s.size≤9223372036854775807:=by simp only [maxLen] at h63; omega
 have hxl:xs.length=n:=by simpa using hown.1
 have hlen:(xs++Lib.strCells s).length=(n+s.size) * 1:=by rw [List.length_append,hxl,Lib.strCells_length,Nat.mul_one]
 have grown:∀ (old:Nat),old<n+s.size→∀ (row:Option Nat),
   (w.drew.alloc (.cells (xs.toArray++(Lib.strCells s).toArray++Builtin.zeroCells (Value.int .u8 0).cells (grownCap w (n+s.size) old e-(n+s.size))) e)).ownsRow 0 e 1
    (.slice (some ⟨w.heap.size,0,none⟩) (n+s.size) (grownCap w (n+s.size) old e)) (n+s.size) (xs++Lib.strCells s) ∧
   w.grownBy (w.drew.alloc (.cells (xs.toArray++(Lib.strCells s).toArray++Builtin.zeroCells (Value.int .u8 0).cells (grownCap w (n+s.size) old e-(n+s.size))) e)) row:=by
  intro old ho row
  have hge:=grownCap_ge w (n+s.size) old e
  have hcm:grownCap w (n+s.size) old e≤maxLen:=grownCap_le_maxLen w (n+s.size) old e h63
  refine ⟨⟨hlen,.inr ⟨w.heap.size,_,_,rfl,hbase,heap_alloc_new w.drew _,hge,hcm,?_,?_⟩⟩,⟨rfl,rfl,rfl,by simp,fun k hk _=>heap_alloc_old w.drew _ k hk⟩⟩
  ·have hz1:(Value.int IntKind.u8 0).cells.size=1:=rfl
   simp only [Array.size_append,List.size_toArray,size_zeroCells,hz1,hxl,Lib.strCells_length]
   omega
  ·simp only [Array.toList_append,ar]
   rw [← ar,← hlen]
   exact List.take_left
 rcases hown.2 with ⟨rfl,rfl⟩ | ⟨g,cap,cur,rfl,hbg,hg,hnc,hcm,hcs,htake⟩
 ·have hx:xs=[]:=List.eq_nil_of_length_eq_zero hxl;subst hx;by_cases hm:s.size=0
  ·have hn:Lib.strCells s=[]:=List.eq_nil_of_length_eq_zero (by rw [Lib.strCells_length]; exact hm);refine ⟨.slice none 0 0,w,?_,by rw [hm,hn]; exact World.ownsRow_nil w 0 e 1,⟨rfl,rfl,rfl,aq _,fun _ _ _=>rfl⟩,.inl rfl⟩;have hf:=Lib.run_firstCells_string (P:=P) w 1 s;rw [hm] at hf;simp [Builtin.append_,run_underlying ht,run_underlying hu,sizeOf,typeInfo,hi,hsize,Builtin.lenOf,hm,hf]
  ·have hr:=run_append_nil_string (P:=P) w t u ty e i (.int .u8 0) ht hu hi hz s (by omega) (by omega) (by rw [hby]; omega);have hgr:=grown 0 (by omega) (Value.ownBlock (.slice none 0 0));simp only [Nat.zero_add,List.nil_append,Array.empty_append] at hgr ⊢
   have e1:(s.data.map fun b=>Value.int .u8 b.toNat)=(Lib.strCells s).toArray:=by apply Array.ext';simp [Lib.strCells]
   rw [e1] at hr;exact ⟨_,_,hr,hgr.1,hgr.2,.inr rfl⟩
 ·by_cases hroom:n+s.size≤cap
  ·have hcs':cur.size=cap:=by simpa using hcs
   have hr:=Lib.run_append_room_string (P:=P) w t u ty e i ht hu hi hsize g n cap cur hg s hroom (by omega);refine ⟨_,_,hr,⟨hlen,.inr ⟨g,cap,_,rfl,hbg,setRow_heap w g cur _ e _ hg,hroom,hcm,?_,?_⟩⟩,⟨rfl,rfl,rfl,by simp,fun k _ hk=>setRow_other w g k _ (fun e=>hk (by simp [Value.ownBlock,e]))⟩,.inl rfl⟩
   ·simp only [List.size_toArray,List.length_append,List.length_take,List.length_drop,Array.length_toList,Lib.strCells_length];omega
   ·have ht':cur.toList.take n=xs:=by simpa using htake
    rw [ht',← hlen];exact List.take_left
  ·have holds:∀ j u,xs[j]? = some u→w.cell? ((⟨g,0,none⟩:Addr).add j)=some u:=hown.cells (g:=g) rfl;have hr:=Lib.run_append_grow_string (P:=P) w t u ty e i (.int .u8 0) ht hu hi hz ⟨g,0,none⟩ n cap xs (by rw [hsize]; simpa using hxl) holds s (by omega) (by omega) (by rw [hby]; exact growslice_fits (by omega) (by omega));have hgr:=grown cap (by omega) (Value.ownBlock (.slice (some ⟨g,0,none⟩) n cap));exact ⟨_,_,hr,hgr.1,hgr.2,.inr rfl⟩
theorem ur (s:ME):List.map (Value.int .u8) (ec s)=Lib.strCells s:=by simp [ec,Lib.strCells]
theorem vp (s:ME):(ec s).length=s.size:=by simp [ec]
theorem dO.str {t u ty e:TypeId} {s:ME} (hE:dO P t e 1 1) (hz:(P.info? e).bind (·.zero)=some (.int .u8 0)) (hu:P.underlying u=some .string):FD P t u ty e 1 1 (.string s) s.size (Lib.strCells s):=by obtain ⟨i,zv,hT,hi,_,hs,_,_,hb⟩:=hE.ex;rw [hi] at hz;exact EB hT hu hi hz hs hb
theorem Cl (N:List aJ) (d t:Nat) {T U e t':TypeId} (x y:Operand) {s:ME} {l q:List Int} {xs zs:List Value} (hE:dO P T e 1 1) (hz:(P.info? e).bind (·.zero)=some (.int .u8 0)) (hu:P.underlying U=some .string) (hx:bm (N++[(t,.fl (.own e) 1 xs)]) x = .same (.slot t)) (hy:rd N y = .v (.string s))
  (hl:l.map (Value.int .u8)=xs) (hq:cA 1 l (ec s)=some q) (hzs:q.map (Value.int .u8)=zs):bh P ⟨some d,.call ⟨.builtin .append,#[x,y],#[T,U]⟩,t',pos,aft,gd⟩ N [(t,.fl (.own e) 1 xs)] [(t,.any),(d,.fl (.own e) 1 zs)] [.slot d]:=by
 subst hzs hl;unfold cA at hq;split at hq
 ·rename_i h
  cases hq
  rw [List.map_append,ur];simp only [vp,Nat.mul_one] at h;exact BH N d t x y l.length s.size hE hx hy (hE.str hz hu) (by simp) (Lib.strCells_oneCell s) (by omega) (by simp only [maxLen]; omega)
 ·cases hq
theorem gm (N:List aJ) (d t i:Nat) {T U e t' T':TypeId} (x y:Operand) {s:ME} {l q:List Int} {cs cs':List AV} {xs zs:List Value} (hE:dO P T e 1 1) (hz:(P.info? e).bind (·.zero)=some (.int .u8 0)) (hu:P.underlying U=some .string) (hx:bm N x = .same (.cell t i)) (hc:cs.getD i .any = .fl (.own e) 1 xs) (hic:i<cs.length) (hy:rd N y = .v (.string s))
  (hl:l.map (Value.int .u8)=xs) (hq:cA 1 l (ec s)=some q) (hzs:q.map (Value.int .u8)=zs) (hdt:d≠t) (hcs:cs.set i .any=cs') (hcl:cW [.slot d] cs'=true) :
  bh P ⟨some d,.call ⟨.builtin .append,#[x,y],#[T,U]⟩,t',pos,aft,gd⟩ N [(t,.box T' cs)] [(t,.box T' cs'),(d,.fl (.own e) 1 zs)] [.slot d]:=by
 subst hzs hl hcs;unfold cA at hq;split at hq
 ·rename_i h
  cases hq
  rw [List.map_append,ur];simp only [vp,Nat.mul_one] at h;exact uF N d t i x y l.length s.size hE hx hc hic hy (hE.str hz hu) (by simp) (Lib.strCells_oneCell s) (by omega) (by simp only [maxLen]; omega) hdt hcl
 ·cases hq
end
end Go.Abs
end
section
namespace Go.Abs
inductive zN (t:Nat):Nat→List AV→List AV→Prop
 | nil (i:Nat):zN t i [] []
 | same {i:Nat} {ds cs:List AV} (c:AV) (h:zN t (i+1) ds cs):zN t i (.same (.cell t i)::ds) (c::cs)
 | eq {i:Nat} {ds cs:List AV} (c:AV) (h:zN t (i+1) ds cs):zN t i (c::ds) (c::cs)
section
variable {P:Program} {ty:TypeId} {pos:String} {aft:Array Edge} {gd:Option (Nat×Bool)}
end
end Go.Abs
end
