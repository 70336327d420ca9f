import Derived.ChangeArms
import Derived.WideShapes
import Derived.DataReads
import Derived.Lib.AppendStr
import Derived.Test.YtjdmcbkkacnmdaaGreatDoorAD
section
namespace Go.Abs
def Au (xs:List Value) (posts:List AV) (o0:List Nat) (Imm Im:Nat→Prop) (w:World) (res:AV) (e:Ending) (w':World):Prop :=
 ∃ x,e = .returned x∧ei o0 w w'∧∃ (Imm':Nat→Prop) (o:List Nat),(∀ b,Imm b→Imm' b)∧(∀ b,Imm' b→Imm b∨b∈o0∨(w.heap.size≤b∧b<w'.heap.size)) ∧
  Rs (cv w Imm' Im) V0 w' (res::posts) (x::xs.take posts.length) o∧o.Nodup∧∀ b∈o,(b∈o0∨w.heap.size≤b)∧b<w'.heap.size∧¬ Imm' b
def Ax (P:Program) (f:FuncId) (args posts:List AV) (res:AV):Prop :=
 ∀ (Imm Im:Nat→Prop) (w:World) (xs:List Value) (o0:List Nat),(∀ b,Imm b∨Im b→b<w.heap.size)→Rs (cv w Imm Im) V0 w args xs o0→o0.Nodup→(∀ b∈o0,b<w.heap.size∧¬ (Imm b∨Im b)) →
  Calls P f xs.toArray w (Au xs posts o0 Imm Im w res)
def yF (P:Program) (fn:Func) (xs:List Value) (posts:List AV) (o0:List Nat) (Imm Im:Nat→Prop) (w:World) (res:AV):Exit→Act→World→Prop:=bodyPost P fn (Au xs posts o0 Imm Im w res)
def ja (k:Nat) (xs:List Value):List aO:=(List.range k).map fun i=>(i,.v (xs.getD i undef))
section
variable {P:Program} {Q:Exit→Act→World→Prop} {g0:Gh} {rnd:Option Nat}
theorem mo {w:World} {b:Nat} {ys:List Value} {T:TypeId} {i:Nat} (h:w.heap[b]? = some (.cells ys.toArray T (0,0))) (hi:i<ys.length) :
  w.cell? ⟨b,i,none⟩=some (ks w (.pointer (some ⟨b,0,none⟩)) i):=by
 simp only [ks]
 rw [cell_of_row w b i _ T (0,0) h]
 simp [hi]
theorem qh {g:Gh} {V:bN→Value} {w:World} (hV:∀ av x o,bk av=true→R g V0 w av x o→R g V w av x o) (hC:∀ t i,V (.cell t i)=ks w (V (.slot t)) i):∀ (args:List AV) (xs:List Value) (k:Nat) (o:List Nat),br args=true→Rs g V0 w args xs o→(∀ i x,xs[i]? = some x→V (.slot (k+i))=x) →
  Es g V w ((args.zipIdx k).map fun p=>(p.2,p.1)) o
 | [],xs,k,o,_,h,_=>by simp only [Rs] at h; exact h.2
 | av::args,xs,k,o,hc,h,hv=>by
  simp only [Rs] at h
  obtain ⟨x,xs',o1,o2,rfl,rfl,h1,h2⟩:=h
  simp only [br,Bool.and_eq_true] at hc
  simp only [List.zipIdx_cons,List.map_cons]
  have h0:V (.slot k)=x:=by simpa using hv 0 x rfl
  refine ⟨o1,o2,rfl,⟨?_,?_⟩,qh hV hC args xs' (k+1) o2 hc.2 h2 fun i y hy => ?_⟩
  ·show R g V w av (V (.slot k)) o1
   rw [h0]; exact hV av x o1 hc.1 h1
  ·cases av <;> try trivial
   case box T cs =>
    intro b hb i hi
    dsimp only at hb hi ⊢
    simp only [R] at h1
    obtain ⟨b',ys,os,hx,_,hh,hrs⟩:=h1
    rw [h0,hx] at hb
    cases hb
    rw [hC,h0,hx]
    exact mo hh (by rw [aQ hrs]; exact hi)
  ·have:=hv (i+1) y (by simpa using hy)
   rwa [show k+1+i=k+(i+1) by omega]
theorem vZ {g:Gh} {V:bN→Value} {w:World} {xs:List Value}:∀ (l:List Nat),(∀ i∈l,V (.slot i)=xs.getD i undef)→Es g V w (l.map fun i=>(i,.v (xs.getD i undef))) []
 | [],_=>rfl
 | i::l,h=>⟨[],[],rfl,⟨by simp only [R]; exact ⟨h i (by simp),trivial⟩,trivial⟩,vZ l fun j hj=>h j (by simp [hj])⟩
theorem Dn {f:FuncId} {fn:Func} {c:Code} {args posts:List AV} {res:AV} (hf:P.funcs[f]? = some fn) (hb:fn.body=some c) (hk:args.length≤fn.ntmps) (hcl:br args=true) (hpl:posts.length≤args.length)
  (h:∀ (xs:List Value),posts.length≤xs.length→∀ g0:Gh,g0.n=fn.ntmps→g0.ds=[]→HT none P (yF P fn xs posts g0.io g0.Imm g0.Im g0.w0 res) g0 c (dq args++ja posts.length xs)):Ax P f args posts res:=by
 intro Imm Im w xs o0 himm hR hnd ho0
 have hlen:=aQ hR
 refine calls_of_wp hf hb ((wpIn_wide (n:=0)).1 ?_)
 have hg:=h xs (by omega) ⟨fn.ntmps,w,o0,Imm,Im,[]⟩ rfl rfl ⟨fn.ntmps,w,o0,Imm,Im,[]⟩ { tmps:=xs.toArray++Array.replicate (fn.ntmps-xs.toArray.size) undef,defers:=[] } w (Gh.le_refl _)
 let V:bN→Value:=fun l=>match l with | .slot t=>(xs.toArray++Array.replicate (fn.ntmps-xs.toArray.size) undef).getD t undef | .cell t i=>ks w ((xs.toArray++Array.replicate (fn.ntmps-xs.toArray.size) undef).getD t undef) i
 have hslot:∀ i x,xs[i]? = some x→V (.slot i)=x:=by
  intro i x hx
  have hi:=(List.getElem?_eq_some_iff.1 hx).1
  simp only [V,Array.getD_eq_getD_getElem?]
  rw [Array.getElem?_append_left (by simpa using hi)]
  simp [hx]
 refine hg ⟨V,o0,⟨fun _=>rfl,?_,rfl,List.nodup_nil,by simp,hnd,fun b hb=>⟨(ho0 b hb).1,.inr hb,(ho0 b hb).2⟩,himm,ei.refl _ _⟩,bi.2 ⟨o0,[],by simp,?_,vZ _ ?_⟩⟩
 ·simp; omega
 ·unfold dq
  refine qh (g:=⟨fn.ntmps,w,o0,Imm,Im,[]⟩) (fun av x o hc hr=>cl (fun _ h=>h) av x o hc (.inl fun _ h=>h) hr) (fun _ _=>rfl) args xs 0 o0 hcl ?_ ?_
  ·exact cn (g:=cv w Imm Im) (g':=⟨fn.ntmps,w,o0,Imm,Im,[]⟩) (V:=V0) (V':=V0) (fun _ h=>h) args xs o0 hcl (.inl fun _ h=>h) hR
  ·intro i x hx; rw [Nat.zero_add]; exact hslot i x hx
 ·intro i hi
  rw [List.mem_range] at hi
  have hi':i<xs.length:=by omega
  rw [hslot i xs[i] (List.getElem?_eq_getElem hi')]
  simp [List.getD,hi']
theorem uN {g:Gh} {V:bN→Value} {w:World} {xs:List Value}:∀ (l:List Nat) {o:List Nat},Es g V w (l.map fun i=>(i,.v (xs.getD i undef))) o→(∀ i∈l,V (.slot i)=xs.getD i undef)∧o=[]
 | [],o,h=>⟨by simp,h⟩
 | i::l,o,h=>by
  obtain ⟨o1,o2,rfl,⟨h1,_⟩,h2⟩:=h
  simp only [R] at h1
  obtain ⟨h3,rfl⟩:=uN l h2
  refine ⟨?_,by rw [h1.2]; rfl⟩
  intro j hj
  rcases List.mem_cons.1 hj with rfl | hj
  ·exact h1.1
  ·exact h3 j hj
theorem uW {g:Gh} {V:bN→Value} {w:World}:∀ (posts:List AV) (k:Nat) {o:List Nat},Es g V w ((posts.zipIdx k).map fun p=>(p.2,p.1)) o→Rs g V w posts ((List.range' k posts.length).map fun i=>V (.slot i)) o
 | [],k,o,h=>⟨rfl,h⟩
 | av::posts,k,o,h=>by
  simp only [List.zipIdx_cons,List.map_cons] at h
  obtain ⟨o1,o2,rfl,⟨h1,_⟩,h2⟩:=h
  simp only [List.length_cons,List.range'_succ,List.map_cons,Rs]
  exact ⟨_,_,o1,o2,rfl,rfl,h1,uW posts (k+1) h2⟩
theorem BE {fn:Func} {g0 g:Gh} {xs:List Value} {es:List aO} {avs posts:List AV} {a:Act} {w:World} {Imm:Nat→Prop} (hds:g0.ds=[]) (hI0:g0.Imm=Imm) (hle:g0.le g) (hret:lU P fn.results.toList es avs) (hcl:br avs=true) (hclp:br posts=true) (hpl:posts.length≤xs.length) (hs:fR g (es++(dq posts++ja posts.length xs)) a w) :
  yF P fn xs posts g0.io Imm g0.Im g0.w0 (jm avs) .ret a w∧yF P fn xs posts g0.io Imm g0.Im g0.w0 (jm avs) .normal a w:=by
 have key:a.defers=[]∧∃ v,(results fn a.tmps).run P w = .ok v w∧Au xs posts g0.io Imm g0.Im g0.w0 (jm avs) (.returned v) w:=by
  obtain ⟨V,o,hst,hes⟩:=hs
  obtain ⟨oA,oB,rfl,hA,hB⟩:=bi.1 hes
  obtain ⟨oP,oQ,rfl,hP,hQ⟩:=bi.1 hB
  obtain ⟨hpin,rfl⟩:=uN _ hQ
  have hPs:=uW posts 0 hP
  have hvals:((List.range' 0 posts.length).map fun i=>V (.slot i))=xs.take posts.length:=by
   apply List.ext_getElem?
   intro i
   simp only [List.getElem?_map,List.getElem?_take]
   by_cases hi:i<posts.length
   ·rw [List.getElem?_range' hi,if_pos hi,List.getElem?_eq_getElem (by omega:i<xs.length)]
    simp only [Option.map_some]
    have:=hpin i (by simp [hi])
    rw [show 0+1 * i=i by omega,this]
    simp [List.getD,show i<xs.length by omega]
   ·rw [if_neg hi,List.getElem?_eq_none (by simpa using hi)]; rfl
  rw [hvals] at hPs
  obtain ⟨ys,o',o'',hR,hperm,hrun⟩:=sT hst.val hret hA
  have hndA:=(List.nodup_append.1 hst.nodup).1
  have hnd:o'.Nodup:=(List.nodup_append.1 (hperm.nodup_iff.1 hndA)).1
  have hsub:∀ b∈o'++oP,b∈oA++(oP++[]):=fun b hb=>by
   rcases List.mem_append.1 hb with h | h
   ·have:=hperm.mem_iff.2 (List.mem_append.2 (.inl h)); simp [this]
   ·simp [h]
  have hnd2:(o'++oP).Nodup:=by
   have hn:=List.nodup_append.1 hst.nodup
   refine List.nodup_append.2 ⟨hnd,by simpa using hn.2.1,fun b hb c hc=>hn.2.2 b (hperm.mem_iff.2 (by simp [hb])) c (by simp [hc])⟩
  refine ⟨by rw [hst.defers,hle.ds,hds]; rfl,(if h:ys.length=1 then ys.getD 0 undef else .tuple ys.toArray),?_,?_⟩
  ·have hres:results fn a.tmps=(do let vs ← fn.results.mapM (ji a.tmps); pure (if h:vs.size=1 then vs[0] else .tuple vs)):=by
    unfold results
    congr 1
   rw [hres,Array.mapM_eq_mapM_toList]
   simp only [Sem.run_bind,Sem.run_map,hrun,Result.andThen_ok]
   by_cases h:ys.length=1
   ·simp [h]
   ·simp [h]
  ·refine ⟨_,rfl,by have:=hst.chg; rw [hle.w0,hle.io] at this; exact this,g.Imm,o'++oP,by rw [← hI0]; exact hle.Imm,?_,?_,hnd2,?_⟩
   ·intro b hb
    rcases hle.new b hb with h | h | h
    ·exact .inl (hI0 ▸ h)
    ·exact .inr (.inr ⟨h,hst.imm b (.inl hb)⟩)
    ·exact .inr (.inl h)
   ·have hlen:=aQ hR
    have hM:∀ b,g.Im b→(cv g0.w0 g.Imm g0.Im).Im b:=fun b hb=>by rw [hle.Im] at hb; exact hb
    have hR':=cn (g:=g) (g':=cv g0.w0 g.Imm g0.Im) (V':=V0) (fun _ h=>h) avs ys o' hcl (.inl hM) hR
    have hP':=cn (g:=g) (g':=cv g0.w0 g.Imm g0.Im) (V':=V0) (fun _ h=>h) posts _ oP hclp (.inl hM) hPs
    simp only [Rs]
    refine ⟨_,_,o',oP,rfl,rfl,?_,hP'⟩
    unfold jm
    split
    ·rename_i av
     simp only [Rs] at hR'
     obtain ⟨x,xs',o1,o2,rfl,rfl,h1,rfl,rfl⟩:=hR'
     simpa using h1
    ·rename_i hne
     have:ys.length≠1:=by
      intro h1
      rw [hlen] at h1
      match avs,h1 with
      | [av],_=>exact hne av rfl
     simp only [this,dite_false,R]
     exact ⟨ys,rfl,hR'⟩
   ·intro b hb
    have:=hst.own b (hsub b hb)
    rw [hle.w0,hle.io] at this
    exact ⟨this.2.1.symm,this.1,fun h=>this.2.2 (.inl h)⟩
 exact ⟨key,key⟩
theorem xd {fn:Func} {xs:List Value} {Imm:Nat→Prop} {es fs:List aO} {avs posts:List AV} {res:AV} (hds:g0.ds=[]) (hI:g0.Imm=Imm) (hfs:es++(dq posts++ja posts.length xs)=fs) (hret:lU P fn.results.toList es avs) (hcl:br avs=true) (hclp:br posts=true) (hpl:posts.length≤xs.length) (hres:jm avs=res):PT (yF P fn xs posts g0.io Imm g0.Im g0.w0 res) g0 .normal fs:=by
 subst hres; subst hfs
 exact fun g a w hg hs=>(BE hds hI hg hret hcl hclp hpl hs).2
end
section
variable {P:Program} {ty:TypeId} {pos:String} {aft:Array Edge} {gd:Option (Nat×Bool)}
def zh (NT:List aO) (x:Operand) (t:Nat):Bool :=
 match x with
 | .tmp u=>Nat.beq u t||(match bw NT x with | .same (.slot s)=>Nat.beq s t | .ptr s 0=>Nat.beq s t | _=>false)
 | _=>false
def tx (NT:List aO):List Operand→List aO→Bool
 | [],[]=>true
 | x::xs,e::es=>zh NT x e.1&&tx NT xs es
 | _,_=>false
theorem vg {g:Gh} {V:bN→Value} {w:World} {NT:List aO} {o:List Nat} {a:Act} (hv:∀ t,V (.slot t)=a.tmps.getD t undef) (h:Es g V w NT o) {x:Operand} {t:Nat} (hx:zh NT x t=true):a.eval x=V (.slot t):=by
 cases x with
 | tmp u =>
  simp only [zh,Bool.or_eq_true] at hx
  rcases hx with hx | hx
  ·rw [Nat.eq_of_beq_eq_true hx,hv]; rfl
  ·have hr:=ce hv h (.tmp u)
   cases hd:bw NT (.tmp u) <;> simp only [hd] at hx hr <;> try (cases hx; done)
   case same l =>
    cases l with
    | slot s =>
     simp only [R] at hr
     have:=Nat.eq_of_beq_eq_true hx
     rw [← this]; exact hr.1
    | cell s i=>cases hx
   case ptr s off =>
    cases off with
    | zero =>
     simp only [R] at hr
     obtain ⟨b,h1,h2,_⟩:=hr
     have:=Nat.eq_of_beq_eq_true hx
     rw [← this,h1]; exact h2
    | succ n=>cases hx
 | _=>cases hx
theorem oW {g:Gh} {V:bN→Value} {w:World} {NT:List aO} {o:List Nat} {a:Act} (hv:∀ t,V (.slot t)=a.tmps.getD t undef) (h:Es g V w NT o):∀ {xs:List Operand} {T:List aO},tx NT xs T=true→xs.map a.eval=T.map fun e=>V (.slot e.1)
 | [],[],_=>rfl
 | x::xs,e::es,hx=>by
  simp only [tx,Bool.and_eq_true] at hx
  simp only [List.map_cons]
  rw [vg hv h hx.1,oW hv h hx.2]
 | [],_::_,hx=>by cases hx
 | _::_,[],hx=>by cases hx
theorem Cn {g:Gh} {V:bN→Value} {w:World}:∀ {T:List aO} {o:List Nat},Es g V w T o→Rs g V w (T.map (·.2)) (T.map fun e=>V (.slot e.1)) o
 | [],o,h=>⟨rfl,h⟩
 | e::T,o,h=>by
  obtain ⟨o1,o2,rfl,⟨h1,_⟩,h2⟩:=h
  simp only [List.map_cons,Rs]
  exact ⟨_,_,o1,o2,rfl,rfl,h1,Cn h2⟩
def qb:List aO→List AV→List aO
 | e::T,p::ps=>(e.1,p)::qb T ps
 | _,_=>[]
def tk:List aO→List bN
 | []=>[]
 | (t,.box _ cs)::es=>(List.range cs.length).map (bN.cell t)++tk es
 | _::es=>tk es
theorem ux:∀ {es:List aO} {t:Nat} {T:TypeId} {cs:List AV} {i:Nat},(t,AV.box T cs)∈es→i<cs.length→bN.cell t i∈tk es
 | [],_,_,_,_,h,_=>by cases h
 | (s,av)::es,t,T,cs,i,h,hi=>by
  rcases List.mem_cons.1 h with h | h
  ·cases h
   simp only [tk,List.mem_append,List.mem_map,List.mem_range]
   exact .inl ⟨i,hi,rfl⟩
  ·have ih:=ux h hi
   cases av <;> simp only [tk,List.mem_append] <;> first | exact ih | exact .inr ih
theorem wl {g:Gh} {V V':bN→Value} {w:World}:∀ {T:List aO} {ps:List AV} {o:List Nat},ps.length≤T.length→Rs g V' w ps ((T.map fun e=>V' (.slot e.1)).take ps.length) o →
  (∀ t T' cs,(t,AV.box T' cs)∈qb T ps→∀ b xs,V' (.slot t) = .pointer (some ⟨b,0,none⟩)→w.heap[b]? = some (.cells xs T' (0,0))→xs.size=cs.length→∀ i,i<cs.length→w.cell? ⟨b,i,none⟩=some (V' (.cell t i)))→Es g V' w (qb T ps) o
 | [],ps,o,hl,h,_=>by
  cases ps with
  | nil=>exact h.2
  | cons p ps=>simp at hl
 | e::T,[],o,hl,h,_=>by simp only [List.length_nil,List.take_zero,Rs] at h; exact h.2
 | e::T,p::ps,o,hl,h,ht=>by
  simp only [List.map_cons,List.length_cons,List.take_succ_cons,Rs] at h
  obtain ⟨x,xs',o1,o2,he,rfl,h1,h2⟩:=h
  obtain ⟨rfl,rfl⟩:=List.cons.inj he
  refine ⟨o1,o2,rfl,⟨h1,?_⟩,wl (V:=V) (by simpa using hl) h2 fun t T' cs hm=>ht t T' cs (by simp [qb,hm])⟩
  cases p <;> try trivial
  case box T' cs =>
   intro b hb i hi
   dsimp only at hb hi ⊢
   simp only [R] at h1
   obtain ⟨b',ys,os,hx,_,hh,hrs⟩:=h1
   rw [hb] at hx; cases hx
   exact ht e.1 T' cs (by simp [qb]) b _ hb hh (by simpa using aQ hrs) i hi
theorem ua (N:List aO) (d:Nat) (x:Operand) (t off:Nat) (h:bw N x = .ptr t off) (hdt:d≠t) :
  aY P ⟨some d,.nilCheck x,ty,pos,aft,gd⟩ N [] [(d,.ptr t off)] [.slot d]:=by
 refine aY.value rfl (by simp [eX,gK,hdt]) rfl fun g V oN a w hp => ?_
 have hR:=ce hp.val hp.esN x
 rw [h] at hR
 simp only [R] at hR
 obtain ⟨b,h1,h2,_⟩:=hR
 refine ⟨a.eval x,?_,by simp only [R]; exact ⟨b,h1,h2,trivial⟩⟩
 simp [execOp,h2]
theorem fZ {g:Gh} {V:bN→Value} {w:World}:∀ {cs:List AV} {xs:List Value} {o:List Nat} (i:Nat),Rs g V w cs xs o→i<cs.length →
  ∃ oa o1 ob,o=oa++(o1++ob)∧Rs g V w (cs.take i) (xs.take i) oa∧R g V w (cs.getD i .any) (xs.getD i undef) o1∧Rs g V w (cs.drop (i+1)) (xs.drop (i+1)) ob
 | [],_,_,i,_,hi=>by simp at hi
 | c::cs,xs,o,i,h,hi=>by
  simp only [Rs] at h
  obtain ⟨x,xs',o1,o2,rfl,rfl,h1,h2⟩:=h
  cases i with
  | zero=>exact ⟨[],o1,o2,rfl,⟨rfl,rfl⟩,by simpa using h1,by simpa using h2⟩
  | succ i =>
   obtain ⟨oa,o3,ob,rfl,h3,h4,h5⟩:=fZ i h2 (by simpa using hi)
   refine ⟨o1++oa,o3,ob,by simp,?_,by simpa using h4,by simpa using h5⟩
   simp only [List.take_succ_cons,Rs]
   exact ⟨x,_,o1,oa,rfl,rfl,h1,h3⟩
theorem kB {g:Gh} {V:bN→Value} {w:World} {cs:List AV} {xs:List Value} {oa o1 ob:List Nat} {av:AV} (i:Nat) (hi:i<cs.length) (hl:xs.length=cs.length)
  (h1:Rs g V w (cs.take i) (xs.take i) oa) (h2:R g V w av (xs.getD i undef) o1) (h3:Rs g V w (cs.drop (i+1)) (xs.drop (i+1)) ob):Rs g V w (cs.set i av) xs (oa++(o1++ob)):=by
 rw [List.set_eq_take_append_cons_drop,if_pos hi]
 refine dj.2 ⟨xs.take i,xs.getD i undef::xs.drop (i+1),oa,o1++ob,?_,rfl,h1,?_⟩
 ·have:xs.getD i undef=xs[i]'(by omega):=by simp [List.getD,show i<xs.length by omega]
  rw [this,List.getElem_cons_drop,List.take_append_drop]
 ·simp only [Rs]; exact ⟨_,_,o1,ob,rfl,rfl,h2,h3⟩
theorem fj (N:List aO) {T:TypeId} (ax vx:Operand) {E T':TypeId} {z:Nat} {xs:List Value} {cs cs':List AV} (t i k s:Nat) (vs xs':List Value) (hs:(P.info? T).map (·.size)=some s)
  (hx:bw N ax = .eref (.cell t i) k) (hc:cs.getD i .any = .fl (.own E) z xs) (hic:i<cs.length) (hv:nB N vx=some vs) (hlen:vs.length=s) (h0:0<s) (hfit:k+s≤xs.length) (hxs:xs.take k++(vs++xs.drop (k+s))=xs') (hcs:cs.set i (.fl (.own E) z xs')=cs') :
  aY P ⟨none,.store T ax vx,ty,pos,aft,gd⟩ N [(t,.box T' cs)] [(t,.box T' cs')] []:=by
 subst hxs hcs
 refine aY.core fun g V oN oT a w hd hp => ?_
 have hT':=hp.esT
 simp only [Es] at hT'
 obtain ⟨ob0,o2,rfl,hER,rfl⟩:=hT'
 obtain ⟨hRb,htie⟩:=hER
 have hax:=ce hp.val hp.esN ax
 rw [hx] at hax
 simp only [R] at hax hRb
 obtain ⟨bb,curb,os,hpt,rfl,hhb,hrs⟩:=hRb
 dsimp only at htie
 obtain ⟨oa,o1,oc,hos,hA,hRi,hC⟩:=fZ i hrs hic
 rw [hc] at hRi
 have hlenb:=aQ hrs
 have hcell:=htie bb hpt i hic
 rw [cell_of_row w bb i _ T' (0,0) hhb] at hcell
 have hil:i<curb.length:=by omega
 have hVc:V (.cell t i)=curb.getD i undef:=by
  simp only [List.getElem?_toArray,List.getElem?_eq_getElem hil,Option.some.injEq] at hcell
  rw [← hcell]; simp [hil]
 obtain ⟨u0,hu0⟩:∃ u,u=curb.getD i undef:=⟨_,rfl⟩
 rw [← hu0] at hVc hRi
 simp only [R] at hRi
 obtain ⟨ad,n1,c1,h1,h2,_⟩:=hax
 obtain ⟨a0,n,c,⟨h3,_⟩,hl,hone,_,hown,hob⟩:=hRi
 have hne:xs≠[]:=fun e=>by subst e; simp at hfit; omega
 obtain ⟨b,c',cur,h4,hb,hnc,hcm,hsz,htk,_⟩:=lH hown hne
 rw [hVc] at h1
 rw [h1] at h3 h4
 cases h4
 cases h3
 obtain ⟨hvc,hvo⟩:=pU hp.val hp.esN hv
 have hrun:(execOp a.eval ⟨none,.store T ax vx,ty,pos,aft,gd⟩).run P w = .ok .skip (w.setRow b (cur.toList.take k++vs++cur.toList.drop (k+vs.length)).toArray):=by
  have hcl:=(by simpa using hsz:cur.toList.length=_)
  have:=Nat.mul_le_mul_right z hnc
  have:=gF (P:=P) (w:=w) (T:=T) (off:=k) hs (cur:=cur.toList) (E:=E) (by simpa using hb) (v:=a.eval vx) (by rw [← hlen,← hvc]; simp) (by rw [hvc]; exact hvo) (by omega)
  rw [hvc] at this
  rw [dV,Nat.zero_add] at h2
  simp [execOp,Instr.storeAt,h2,Instr.sureAddr,this,hlen]
 refine (Yl.skip hrun).mono ?_
 rintro y w' ⟨rfl,rfl⟩
 have hnew:=oe (w:=w) (vs:=vs) k hb hnc hcm hsz htk hl (by omega)
 rw [hlen] at hnew
 have hone':∀ u∈xs.take k++(vs++xs.drop (k+s)),u.oneCell'=true:=by
  intro u hu
  simp only [List.mem_append] at hu
  rcases hu with hu | hu | hu
  ·exact hone u (List.mem_of_mem_take hu)
  ·exact hvo u hu
  ·exact hone u (List.mem_of_mem_drop hu)
 have hob':o1=[b]:=by rw [hob,h1]; rfl
 subst hob'
 subst hos
 have hchg:ei [b] w (w.setRow b (cur.toList.take k++vs++cur.toList.drop (k+vs.length)).toArray):=fB _ _ _
 have hnd:(bb::(oa++([b]++oc))).Nodup:=by have:=(List.nodup_append.1 hp.nodup).2.1; simpa using this
 have hlts:∀ c,c∈bb::(oa++([b]++oc))→c<w.heap.size∧¬ g.imm c:=fun c hc'=>hp.own c (by simp at hc' ⊢; exact .inr hc')
 have hbb:bb≠b:=fun e=>by subst e; simp at hnd
 have hba:∀ c∈oa,c≠b:=fun c hc' e=>by
  subst e
  have:=(List.nodup_append.1 (List.nodup_cons.1 hnd).2).2.2 c hc' c (by simp)
  exact this rfl
 have hbc:∀ c∈oc,c≠b:=fun c hc' e=>by
  subst e
  have:=(List.nodup_append.1 (List.nodup_cons.1 hnd).2).2.1
  simp at this; exact this.1 hc'
 have hkeep:∀ c,c<w.heap.size→c≠b→(w.setRow b (cur.toList.take k++vs++cur.toList.drop (k+vs.length)).toArray).heap[c]? = w.heap[c]? := fun c hc1 hc2=>hchg.block c hc1 (by simpa using hc2)
 have himm:∀ c,g.imm c→(w.setRow b (cur.toList.take k++vs++cur.toList.drop (k+vs.length)).toArray).heap[c]? = w.heap[c]? := fun c hc'=>hkeep c (hp.imm c hc') fun e=>(hlts b (by simp)).2 (e ▸ hc')
 refine ⟨g,V,bb::(oa++([b]++oc)),g.le_refl,fun c hc => .inl hc,fun c hc=>Nat.lt_of_lt_of_le (hp.imm c (.inl hc)) hchg.size,hchg.mono (by simp),fun _ _=>rfl,fun u=>by simp only [Act.put]; exact hp.val u,?_,hnd,?_⟩
 ·refine ⟨bb::(oa++([b]++oc)),[],by simp,⟨?_,?_⟩,rfl⟩
  ·show R g V _ (.box T' _) (V (.slot t)) _
   simp only [R]
   refine ⟨bb,curb,_,hpt,rfl,by rw [hkeep bb (hlts bb (by simp)).1 hbb]; exact hhb,?_⟩
   refine kB i hic hlenb ?_ ?_ ?_
   ·exact cT (W:=[]) (fun _ h=>h) (fun _ h=>h) (fun _ _=>rfl) _ _ _ (eC _) (fun c hc'=>hc'.elim (fun h=>hkeep c (hlts c (by simp [h])).1 (hba c h)) (himm c)) hA
   ·rw [← hu0,h1]
    rw [← hlen] at hnew ⊢
    exact fV hnew (by rw [hlen]; exact hone')
   ·exact cT (W:=[]) (fun _ h=>h) (fun _ h=>h) (fun _ _=>rfl) _ _ _ (eC _) (fun c hc'=>hc'.elim (fun h=>hkeep c (hlts c (by simp [h])).1 (hbc c h)) (himm c)) hC
  ·intro b' hb' j hj
   dsimp only at hb' hj ⊢
   rw [World.cell?_of_block (w:=w) (by
    rw [hpt] at hb'; cases hb'
    exact hkeep bb (hlts bb (by simp)).1 hbb)]
   exact htie b' hb' j (by simpa using hj)
 ·intro c hc
  exact ⟨.inl (by simpa using hc),Nat.lt_of_lt_of_le (hlts c hc).1 hchg.size,(hlts c hc).2⟩
end
end Go.Abs
end
section
namespace Go.Abs
theorem jz {g:Gh} {w:World} {s:Bool}:∀ {vs xs:List Value},fK g w s (vs.map IC.v) xs↔xs=vs
 | [],xs=>by simp [fK]
 | v::vs,xs=>by
  simp only [List.map_cons,fK,RI]
  constructor
  ·rintro ⟨x,xs',rfl,rfl,h⟩; rw [jz.1 h]
  ·rintro rfl; exact ⟨v,vs,rfl,rfl,jz.2 rfl⟩
theorem cG {g:Gh} {w:World} {s:Bool}:∀ {cs:List IC} {xs:List Value},fK g w s cs xs→xs.length=cs.length
 | [],xs,h=>by simp only [fK] at h; simp [h]
 | c::cs,xs,h=>by
  simp only [fK] at h
  obtain ⟨x,xs',rfl,_,h⟩:=h
  simp [cG h]
theorem bC {g:Gh} {w:World} {s:Bool}:∀ {cs ds:List IC} {xs ys:List Value},fK g w s cs xs→fK g w s ds ys→fK g w s (cs++ds) (xs++ys)
 | [],ds,xs,ys,h,h2=>by simp only [fK] at h; subst h; exact h2
 | c::cs,ds,xs,ys,h,h2=>by
  simp only [fK] at h
  obtain ⟨x,xs',rfl,h1,h⟩:=h
  simp only [List.cons_append,fK]
  exact ⟨x,_,rfl,h1,bC h h2⟩
theorem lF {g:Gh} {w:World} {s:Bool}:∀ (k:Nat) {cs:List IC} {xs:List Value},fK g w s cs xs→fK g w s (cs.drop k) (xs.drop k)
 | 0,_,_,h=>h
 | k+1,[],xs,h=>by simp only [fK] at h; subst h; simp [fK]
 | k+1,c::cs,xs,h=>by
  simp only [fK] at h
  obtain ⟨x,xs',rfl,_,h⟩:=h
  exact lF k h
theorem lu {g:Gh} {w:World} {s:Bool}:∀ (k:Nat) {cs:List IC} {xs:List Value},fK g w s cs xs→fK g w s (cs.take k) (xs.take k)
 | 0,_,_,_=>by simp [fK]
 | k+1,[],xs,h=>by simp only [fK] at h; subst h; simp [fK]
 | k+1,c::cs,xs,h=>by
  simp only [fK] at h
  obtain ⟨x,xs',rfl,h1,h⟩:=h
  simp only [List.take_succ_cons,fK]
  exact ⟨x,_,rfl,h1,lu k h⟩
theorem wO {g:Gh} {w:World} {s:Bool}:∀ {cs:List IC} {xs:List Value} {k:Nat} {c:IC},fK g w s cs xs→cs[k]? = some c→∃ x,xs[k]? = some x∧RI g w s c x
 | [],_,_,_,_,h=>by simp at h
 | c::cs,xs,0,c',h,hc=>by
  simp only [fK] at h
  obtain ⟨x,xs',rfl,h1,h⟩:=h
  simp only [List.getElem?_cons_zero,Option.some.injEq] at hc
  subst hc
  exact ⟨x,rfl,h1⟩
 | c::cs,xs,k+1,c',h,hc=>by
  simp only [fK] at h
  obtain ⟨x,xs',rfl,h1,h⟩:=h
  obtain ⟨y,hy,hr⟩:=wO h (by simpa using hc)
  exact ⟨y,by simpa using hy,hr⟩
theorem kl {g:Gh} {w:World} {s s':Bool} (h:s=true→s'=true) {cs:List IC} {xs:List Value} (hr:fK g w s cs xs):fK g w s' cs xs :=
 dr (fun b hb=>by
  cases s with
  | true=>rw [h rfl]; exact hb
  | false=>cases s' with
   | true=>exact .inl hb
   | false=>exact hb) (fun _ _=>rfl) cs xs hr
def EG:Bool→Md
 | true => .shr
 | false => .ro
inductive IA (s:Bool):IC→AV→Prop
 | v (x:Value):IA s (.v x) (.v x)
 | fl (z:Nat) (xs:List Value) {cs:List IC} (h:cs=xs.map IC.v):IA s (.row z cs) (.fl (EG s) z xs)
 | fr (z:Nat) (cs:List IC):IA s (.row z cs) (.fr (EG s) s z cs)
inductive Dq (s:Bool):List IC→List AV→Prop
 | nil:Dq s [] []
 | cons {c:IC} {av:AV} {cs:List IC} {avs:List AV} (h:IA s c av) (hs:Dq s cs avs):Dq s (c::cs) (av::avs)
theorem pP {g:Gh} {w:World} {s:Bool} {z n:Nat} {x:Value} {a:Option Addr} {vs:List Value} (h:vs≠[]→∃ ad,a=some ad∧sC g s ad.block):ck g w (EG s) z x n a vs []:=by
 cases s
 ·exact ⟨rfl,h⟩
 ·exact ⟨rfl,h⟩
theorem Dg {g:Gh} {V:bN→Value} {w:World} {s:Bool} {c:IC} {av:AV} {x:Value} (h:IA s c av) (hr:RI g w s c x):R g V w av x []:=by
 cases h with
 | v y=>simp only [RI] at hr; simp [R,hr]
 | fl z xs h =>
  subst h
  simp only [RI] at hr
  obtain ⟨vs,a,n,c,h1,h2,h3,h4,h5,h6⟩:=hr
  obtain rfl:=jz.1 h6
  simp only [R]
  exact ⟨a,n,c,h1,h2,h3,h4,pP h5⟩
 | fr z cs =>
  simp only [RI] at hr
  obtain ⟨vs,a,n,c,h1,h2,h3,h4,h5,h6⟩:=hr
  simp only [R]
  exact ⟨vs,a,n,c,h1,h2,h3,h4,pP h5,h6⟩
theorem Cb {g:Gh} {V:bN→Value} {w:World} {s:Bool} {cs:List IC} {avs:List AV} (h:Dq s cs avs):∀ {xs:List Value},fK g w s cs xs→Rs g V w avs xs []:=by
 induction h with
 | nil=>intro xs h; simp only [fK] at h; simp [Rs,h]
 | cons h hs ih =>
  intro xs hr
  simp only [fK] at hr
  obtain ⟨x,xs',rfl,h1,h2⟩:=hr
  simp only [Rs]
  exact ⟨x,xs',[],[],rfl,rfl,Dg h h1,ih h2⟩
theorem vU {s:Bool} {c:IC} {av:AV} (h:IA s c av) (W:List bN):eX W av=true∧dY av=true:=by
 cases h <;> exact ⟨rfl,rfl⟩
theorem Am {s:Bool} {cs:List IC} {avs:List AV} (h:Dq s cs avs) (W:List bN):dP W avs=true:=by
 induction h with
 | nil=>rfl
 | cons h _ ih=>simp [dP,ih,(vU h W).1]
inductive AI (s:Bool):AV→IC→Prop
 | v (x:Value):AI s (.v x) (.v x)
 | ro (z:Nat) (xs:List Value) {cs:List IC} (h:cs=xs.map IC.v):AI s (.fl .ro z xs) (.row z cs)
 | shr (z:Nat) (xs:List Value) {cs:List IC} (hs:s=true) (h:cs=xs.map IC.v):AI s (.fl .shr z xs) (.row z cs)
 | fro (z:Nat) (cs:List IC):AI s (.fr .ro false z cs) (.row z cs)
 | fsh (m:Md) (s':Bool) (z:Nat) (cs:List IC) (hm:nF m=true) (hs:s=true):AI s (.fr m s' z cs) (.row z cs)
 | nil (z:Nat):AI s (.v (.slice none 0 0)) (.row z [])
inductive tN (s:Bool):List AV→List IC→Prop
 | nil:tN s [] []
 | cons {c:IC} {av:AV} {cs:List IC} {avs:List AV} (h:AI s av c) (hs:tN s avs cs):tN s (av::avs) (c::cs)
theorem Fq {g:Gh} {V:bN→Value} {w:World} {s:Bool} {c:IC} {av:AV} {x:Value} {o:List Nat} (h:AI s av c) (hr:R g V w av x o):RI g w s c x:=by
 cases h with
 | v y=>simp only [R] at hr; simp [RI,hr.1]
 | ro z xs h =>
  subst h
  simp only [R,ck] at hr
  obtain ⟨a,n,c,h1,h2,h3,h4,_,h5⟩:=hr
  simp only [RI]
  exact ⟨xs,a,n,c,h1,h2,h3,h4,fun hne=>let ⟨ad,e,hi⟩:=h5 hne; ⟨ad,e,by cases s <;> first | exact hi | exact .inl hi⟩,jz.2 rfl⟩
 | shr z xs hs h =>
  subst h; subst hs
  simp only [R,ck] at hr
  obtain ⟨a,n,c,h1,h2,h3,h4,_,h5⟩:=hr
  simp only [RI]
  exact ⟨xs,a,n,c,h1,h2,h3,h4,h5,jz.2 rfl⟩
 | fro z cs =>
  simp only [R,ck] at hr
  obtain ⟨vs,a,n,c,h1,h2,h3,h4,⟨_,h5⟩,h6⟩:=hr
  simp only [RI]
  exact ⟨vs,a,n,c,h1,h2,h3,h4,fun hne=>let ⟨ad,e,hi⟩:=h5 hne; ⟨ad,e,by cases s <;> first | exact hi | exact .inl hi⟩,kl (by simp) h6⟩
 | fsh m s' z cs hm hs =>
  subst hs
  simp only [R] at hr
  obtain ⟨vs,a,n,c,h1,h2,h3,h4,h5,h6⟩:=hr
  simp only [RI]
  refine ⟨vs,a,n,c,h1,h2,h3,h4,fun hne => ?_,kl (fun _=>rfl) h6⟩
  cases m with
  | own T=>cases hm
  | ro=>obtain ⟨ad,e,hi⟩:=h5.2 hne; exact ⟨ad,e,.inl hi⟩
  | shr=>exact h5.2 hne
 | nil z =>
  simp only [R] at hr
  simp only [RI]
  exact ⟨[],none,0,0,⟨hr.1,Nat.le_refl _⟩,by simp,by simp,fun h=>absurd rfl h,fun h=>absurd rfl h,by simp [fK]⟩
theorem uz {g:Gh} {V:bN→Value} {w:World} {s:Bool} {cs:List IC} {avs:List AV} (h:tN s avs cs):∀ {xs:List Value} {o:List Nat},Rs g V w avs xs o→fK g w s cs xs:=by
 induction h with
 | nil=>intro xs o h; simp only [Rs] at h; simp [fK,h.1]
 | cons h hs ih =>
  intro xs o hr
  simp only [Rs] at hr
  obtain ⟨x,xs',o1,o2,rfl,rfl,h1,h2⟩:=hr
  simp only [fK]
  exact ⟨x,xs',rfl,Fq h h1,ih h2⟩
theorem kG {g:Gh} {V:bN→Value} {w:World} {m:Md} {s:Bool} {z:Nat} {cs:List IC} {x:Value} {o:List Nat} (h:R g V w (.fr m s z cs) x o) :
  ∃ vs,R g V w (.fl m z vs) x o∧fK g w s cs vs:=by
 simp only [R] at *
 obtain ⟨vs,a,n,c,h1,h2,h3,h4,h5,h6⟩:=h
 exact ⟨vs,⟨a,n,c,h1,h2,h3,h4,h5⟩,h6⟩
theorem mj {g:Gh} {V:bN→Value} {w:World} {m:Md} {s:Bool} {z:Nat} {cs:List IC} {vs:List Value} {x:Value} {o:List Nat} (h:R g V w (.fl m z vs) x o) (h2:fK g w s cs vs) :
  R g V w (.fr m s z cs) x o:=by
 simp only [R] at *
 obtain ⟨a,n,c,h1,h2',h3,h4,h5⟩:=h
 exact ⟨vs,a,n,c,h1,h2',h3,h4,h5,h2⟩
theorem ij (E:TypeId) (s:Bool) (z:Nat):Af (.v (.slice none 0 0)) (.fr (.own E) s z []):=fun g V w x o h =>
 mj (vs:=[]) (dA E z g V w x o h) (by simp [fK])
section
variable {P:Program} {ty:TypeId} {pos:String} {aft:Array Edge} {gd:Option (Nat×Bool)}
theorem xM (N:List aO) (d:Nat) {t t' e:TypeId} {x:Operand} {m:Md} {s:Bool} {z:Nat} {cs:List IC} (n:Nat) (hT:P.underlying t=some (.slice e)) (hx:rd N x = .fr m s z cs) (hz:0<z) (hn:cs.length=n * z) :
  aY P ⟨some d,.call ⟨.builtin .len,#[x],#[t]⟩,t',pos,aft,gd⟩ N [] [(d,.v (.int .i64 (n:Int)))] [.slot d]:=by
 refine aY.v rfl fun g V oN ac w hp => ?_
 obtain ⟨o',_,hr⟩:=kI hp.val hp.esN x
 rw [hx] at hr
 obtain ⟨vs,hr,hi⟩:=kG hr
 have hvl:=cG hi
 simp only [R] at hr
 obtain ⟨a,n',c,⟨he,_⟩,hl,_⟩:=hr
 have:n'=n:=Nat.eq_of_mul_eq_mul_right hz (by omega)
 subst this
 simp [execOp,resolve,invoke,builtin,Builtin.len_,he,run_underlying hT,goInt]
theorem uH (N:List aO) (d:Nat) {T e:TypeId} (x:Nat) (y:Operand) {kd:IntKind} {m:Md} {s:Bool} {cs:List IC} (nn:Int) (i z:Nat) (l:bN) (hT:P.underlying T=some (.slice e)) (hz:(P.info? e).map (·.size)=some z) (h0:0<z)
  (hx:rd N (.tmp x) = .fr m s z cs) (hl:pb N (.tmp x)=l) (hy:rd N y = .v (.int kd nn)) (hnn:nn=(i:Int)) (hi:i * z+z≤cs.length) (hd:gK [.slot d] l=false) :
  aY P ⟨some d,.indexAddr T (.tmp x) y,ty,pos,aft,gd⟩ N [] [(d,.eref l (i * z))] [.slot d]:=by
 subst hnn
 refine aY.value rfl (by simp [eX,hd]) rfl fun g V oN a w hp => ?_
 obtain ⟨o',_,hR⟩:=kI hp.val hp.esN (.tmp x)
 rw [hx] at hR
 obtain ⟨xs,hR,hic⟩:=kG hR
 rw [← cG hic] at hi
 simp only [R] at hR
 obtain ⟨ad,n,c,⟨he,_⟩,hlen,_,hrd,_⟩:=hR
 have hne:xs≠[]:=fun e=>by subst e; simp at hi; omega
 obtain ⟨A,rfl,_⟩:=hrd hne
 have hin:i<n:=by
  rw [hlen] at hi
  have:(i+1) * z≤n * z:=by rw [Nat.add_mul]; omega
  exact Nat.lt_of_succ_le (Nat.le_of_mul_le_mul_right this h0)
 have h3:=dD hp.val hp.esN hy
 have hV:V l = .slice (some A) n c:=by
  rw [← hl,← he]
  simp only [pb]
  obtain ⟨o2,_,h2⟩:=yK hp.val hp.esN (.tmp x)
  simp only [yb] at h2
  cases hlk:look N x with
  | same l'=>rw [hlk] at h2; simp only [R] at h2; exact h2.1.symm
  | _=>simp only [hp.val,Act.eval]
 refine ⟨.pointer (some (A.add (i * z))),?_,by simp only [R]; exact ⟨A,n,c,hV,rfl,trivial⟩⟩
 simp [execOp,Instr.indexAt,Sem.run_bind,run_underlying hT,he,h3,asIntOf,bE hz,hin]
theorem bA (N:List aO) (d:Nat) {T:TypeId} {td:TypeDesc} (x:Operand) {m:Md} {s:Bool} {z:Nat} {cs:List IC} (l:bN) (k:Nat) (ic:IC) (av:AV) (hT:P.underlying T=some td) (ha:ec td=false)
  (hx:bw N x = .eref l k) (hl:ol N l = .fr m s z cs) (hv:cs[k]? = some ic) (hia:IA s ic av) :
  aY P ⟨some d,.load T x,ty,pos,aft,gd⟩ N [] [(d,av)] [.slot d]:=by
 refine aY.value rfl (vU hia _).1 (vU hia []).2 fun g V oN a w hp => ?_
 have hR:=ce hp.val hp.esN x
 rw [hx] at hR
 simp only [R] at hR
 obtain ⟨ad,n,c,h1,h2,_⟩:=hR
 obtain ⟨o',_,h3⟩:=mm hp.esN l
 rw [hl] at h3
 obtain ⟨vs,h3,hic⟩:=kG h3
 obtain ⟨v,hv',hri⟩:=wO hic hv
 simp only [R] at h3
 obtain ⟨A,n',c',⟨h4,_⟩,_,_,hrd,_⟩:=h3
 rw [h1] at h4; cases h4
 obtain ⟨ad',e,hc⟩:=hrd (fun e=>by subst e; simp at hv')
 cases e
 refine ⟨v,?_,Dg hia hri⟩
 simp [execOp,Instr.loadAt,h2,Instr.sureAddr,jX hT ha (hc k v hv')]
theorem cJ (N:List aO) (d:Nat) {T:TypeId} {td:TypeDesc} (x:Operand) {m:Md} {s:Bool} {z:Nat} {cs:List IC} (l:bN) (k sz:Nat) (ics:List IC) (avs:List AV) (hT:P.underlying T=some td) (ha:ec td=true) (hs:(P.info? T).map (·.size)=some sz)
  (hx:bw N x = .eref l k) (hl:ol N l = .fr m s z cs) (hv:(cs.drop k).take sz=ics) (hia:Dq s ics avs) (hlen:ics.length=sz) (h0:0<sz) :
  aY P ⟨some d,.load T x,ty,pos,aft,gd⟩ N [] [(d,.agg avs)] [.slot d]:=by
 refine aY.value rfl (by simp only [eX]; exact Am hia _) rfl fun g V oN a w hp => ?_
 have hR:=ce hp.val hp.esN x
 rw [hx] at hR
 simp only [R] at hR
 obtain ⟨ad,n,c,h1,h2,_⟩:=hR
 obtain ⟨o',_,h3⟩:=mm hp.esN l
 rw [hl] at h3
 obtain ⟨xs,h3,hic⟩:=kG h3
 have hvs:=lu sz (lF k hic)
 rw [hv] at hvs
 have hvl:=cG hvs
 simp only [R] at h3
 obtain ⟨A,n',c',⟨h4,_⟩,_,_,hrd,_⟩:=h3
 rw [h1] at h4; cases h4
 obtain ⟨ad',e,hc⟩:=hrd (fun e=>by subst e; simp at hvl; omega)
 cases e
 generalize hvse:(xs.drop k).take sz=vs at *
 refine ⟨.agg vs.toArray,?_,by simp only [R]; exact ⟨vs,rfl,Cb hia hvs⟩⟩
 have hload:=jc (P:=P) (w:=w) (a:=ad.add k) (xs:=vs) hT ha hs (by omega) (fun j v hj=>by
  rw [add_add]
  refine hc (k+j) v ?_
  rw [← hvse] at hj
  simp only [List.getElem?_take,List.getElem?_drop] at hj
  split at hj
  ·exact hj
  ·cases hj)
 simp [execOp,Instr.loadAt,h2,Instr.sureAddr,hload]
theorem na (N:List aO) (d:Nat) {T e:TypeId} (x:Operand) (z:Nat) (zv:Value) (s:Bool) (av:AV) (ics:List IC) (hT:P.underlying T=some (.slice e)) (hz:(P.info? e).map (·.size)=some z)
  (hzv:(P.info? e).bind (·.zero)=some zv) (h:bw N x=av) (hok:dK N av=true) (hai:tN s (cX av) ics) (hl:ics.length=z) (h0:0<z) (hsm:z≤16777216) :
  aY P ⟨some d,.buildSlice T 1 #[(0,x)],ty,pos,aft,gd⟩ N [] [(d,.fr (.own e) s z ics)] [.slot d]:=by
 refine aY.fresh rfl rfl fun g V oN a w hp => ?_
 have hR:=ce hp.val hp.esN x
 rw [h] at hR
 obtain ⟨h1,hone⟩:=iz hp.esN hok hR
 have hri:=uz hai h1
 have hcl:(a.eval x).cells.toList.length=z:=by rw [cG hri,hl]
 have hcs:(a.eval x).cells.size=z:=by simpa using hcl
 have hfill:Instr.fill (fun i=>some (i * z,z)) ((Array.range (1 * z)).map (zv.cells[· % zv.cells.size]!)) [(0,a.eval x)]=some (a.eval x).cells:=by
  have hno:¬ ((a.eval x).cells.size≠z∨0 * z+(a.eval x).cells.size > ((Array.range (1 * z)).map (zv.cells[· % zv.cells.size]!)).size):=by
   rw [Array.size_map,Array.size_range,hcs]; omega
  unfold Instr.fill
  simp only []
  rw [if_neg (by rw [Bool.or_eq_true,decide_eq_true_iff,decide_eq_true_iff]; exact hno)]
  unfold Instr.fill
  congr 1
  have:=iw (a.eval x).cells.toList (0 * z) ((Array.range (1 * z)).map (zv.cells[· % zv.cells.size]!)) 0 (by simp [hcs])
  apply Array.toList_inj.1
  rw [← Array.foldl_toList,Array.toList_zipIdx]
  refine Eq.trans ?_ (this.trans ?_)
  ·rfl
  ·simp only [Nat.zero_mul,Nat.zero_add,List.take_zero,List.nil_append]
   rw [List.drop_eq_nil_of_le (by simp [hcs]),List.append_nil]
 have hr:(execOp a.eval ⟨some d,.buildSlice T 1 #[(0,x)],ty,pos,aft,gd⟩).run P w = .ok (.value (.slice (some ⟨w.heap.size,0,none⟩) 1 1)) (w.alloc (.cells (a.eval x).cells e)):=by
  have hbig:¬ 1 * z > 2 ^ 24:=by omega
  have hnz:¬ 1 * z=0:=by omega
  simp only [execOp,Instr.buildSlice,Sem.run_bind,run_underlying hT,Result.andThen_ok,bE hz,hbig,if_false,hnz,jg hzv]
  have e1:((#[(0,x)]:Array (Nat×Operand)).map fun (i,x)=>(i,a.eval x)).toList=[(0,a.eval x)]:=by simp
  simp only [Sem.run_pure,Result.andThen_ok]
  rw [e1,hfill]
  simp [newRow,newObj]
  rfl
 have hown:=World.ownsRow_lit (base:=0) (e:=e) (size:=z) w (a.eval x).cells 1 (Nat.zero_le _) (by simp only [maxLen]; omega) (by omega)
 refine (Yl.val hr).mono ?_
 rintro v w2 ⟨rfl,rfl⟩
 refine ⟨ei.alloc _ _ _,g,[w.heap.size],g.le_refl,fun b hb => .inl hb,mj (fV hown hone) (dr (fun b h=>h) (fun b hb=>heap_alloc_old w _ b (hp.imm b hb)) ics _ hri),by simp,?_⟩
 intro b hb
 simp at hb; subst hb
 exact ⟨Nat.le_refl _,by simp,fun hi=>Nat.lt_irrefl _ (hp.imm _ (.inl hi))⟩
theorem eD (N:List aO) (d t:Nat) {T e:TypeId} (z:Nat) (zv:Value) (s:Bool) (av:AV) (ics:List IC) (hT:P.underlying T=some (.slice e)) (hz:(P.info? e).map (·.size)=some z)
  (hzv:(P.info? e).bind (·.zero)=some zv) (hok:dK [] (nt av)=true) (hai:tN s (cX (nt av)) ics) (hl:ics.length=z) (h0:0<z) (hsm:z≤16777216) :
  aY P ⟨some d,.buildSlice T 1 #[(0,.tmp t)],ty,pos,aft,gd⟩ N [(t,av)] [(d,.fr (.own e) s z ics)] [.slot d]:=by
 refine aY.core fun g V oN oT a w hd hp => ?_
 have hT':=hp.esT
 simp only [Es] at hT'
 obtain ⟨ot,o2',rfl,⟨hR0,_⟩,rfl⟩:=hT'
 have he:a.eval (.tmp t)=V (.slot t):=by rw [hp.val]; rfl
 obtain ⟨o',o2,hperm,hfr⟩:=zX av _ ot hR0
 let g':Gh:={ g with Imm:=fun b=>g.Imm b∨b∈o2 }
 have ho2:∀ b∈o2,b∈ot:=fun b hb=>hperm.mem_iff.2 (by simp [hb])
 have hR:=hfr g' (fun b hb => .inl hb) (fun b hb=>hb) (fun b hb => .inr hb)
 rw [← he] at hR
 obtain ⟨h1,hone⟩:=iz (NT:=[]) (oNT:=[]) (g:=g') (V:=V) (w:=w) rfl hok hR
 have hri:=uz hai h1
 have hcl:(a.eval (.tmp t)).cells.toList.length=z:=by rw [cG hri,hl]
 have hcs:(a.eval (.tmp t)).cells.size=z:=by simpa using hcl
 have hfill:Instr.fill (fun i=>some (i * z,z)) ((Array.range (1 * z)).map (zv.cells[· % zv.cells.size]!)) [(0,a.eval (.tmp t))]=some (a.eval (.tmp t)).cells:=by
  have hno:¬ ((a.eval (.tmp t)).cells.size≠z∨0 * z+(a.eval (.tmp t)).cells.size > ((Array.range (1 * z)).map (zv.cells[· % zv.cells.size]!)).size):=by
   rw [Array.size_map,Array.size_range,hcs]; omega
  unfold Instr.fill
  simp only []
  rw [if_neg (by rw [Bool.or_eq_true,decide_eq_true_iff,decide_eq_true_iff]; exact hno)]
  unfold Instr.fill
  congr 1
  have:=iw (a.eval (.tmp t)).cells.toList (0 * z) ((Array.range (1 * z)).map (zv.cells[· % zv.cells.size]!)) 0 (by simp [hcs])
  apply Array.toList_inj.1
  rw [← Array.foldl_toList,Array.toList_zipIdx]
  refine Eq.trans ?_ (this.trans ?_)
  ·rfl
  ·simp only [Nat.zero_mul,Nat.zero_add,List.take_zero,List.nil_append]
   rw [List.drop_eq_nil_of_le (by simp [hcs]),List.append_nil]
 have hr:(execOp a.eval ⟨some d,.buildSlice T 1 #[(0,.tmp t)],ty,pos,aft,gd⟩).run P w = .ok (.value (.slice (some ⟨w.heap.size,0,none⟩) 1 1)) (w.alloc (.cells (a.eval (.tmp t)).cells e)):=by
  have hbig:¬ 1 * z > 2 ^ 24:=by omega
  have hnz:¬ 1 * z=0:=by omega
  simp only [execOp,Instr.buildSlice,Sem.run_bind,run_underlying hT,Result.andThen_ok,bE hz,hbig,if_false,hnz,jg hzv]
  have e1:((#[(0,.tmp t)]:Array (Nat×Operand)).map fun (i,x)=>(i,a.eval x)).toList=[(0,a.eval (.tmp t))]:=by simp
  simp only [Sem.run_pure,Result.andThen_ok]
  rw [e1,hfill]
  simp [newRow,newObj]
  rfl
 have hown:=World.ownsRow_lit (base:=0) (e:=e) (size:=z) w (a.eval (.tmp t)).cells 1 (Nat.zero_le _) (by simp only [maxLen]; omega) (by omega)
 refine (Yl.val hr).mono ?_
 rintro v w2 ⟨rfl,rfl⟩
 have hlt:d<g.n:=hd d rfl
 have hot:∀ b∈ot,b<w.heap.size∧¬ g.imm b:=fun b hb=>hp.own b (by simp [hb])
 have himm':∀ b,g'.imm b→b<w.heap.size:=by
  rintro b ((hb | hb) | hb)
  ·exact hp.imm b (.inl hb)
  ·exact (hot b (ho2 b hb)).1
  ·exact hp.imm b (.inr hb)
 refine ⟨g',cF V d _,[w.heap.size],⟨rfl,rfl,rfl,rfl,rfl,fun b hb => .inl hb,fun b hb=>hb.imp id fun h=>hp.own2 b (by simp [ho2 b h])⟩,fun b hb => ?_,fun b hb => ?_,(ei.alloc _ _ _),fun l hl=>ct hl,fun u=>dt hp.val hp.size hlt u,?_,by simp,?_⟩
 ·exact hb.imp id fun h => .inl (by simpa using ho2 b h)
 ·exact Nat.lt_of_lt_of_le (himm' b (.inl hb)) (ei.alloc [] w _).size
 ·refine ⟨[w.heap.size],[],by simp,⟨?_,trivial⟩,rfl⟩
  show R g' _ _ _ (cF V d _ (.slot d)) _
  rw [cL]
  exact mj (fV hown hone) (dr (fun b h=>h) (fun b hb=>heap_alloc_old w _ b (himm' b hb)) ics _ hri)
 ·intro b hb
  simp at hb; subst hb
  exact ⟨.inr (Nat.le_refl _),by simp,fun hi=>Nat.lt_irrefl _ (himm' _ hi)⟩
theorem nE {A:Type} (N:List aO) (d t:Nat) {T e t':TypeId} (x y:Operand) {z by_:Nat} {my:Md} {s s1 s2:Bool} {xs ys zs:List IC} {l m q:List A} (hE:iN P T e z by_) (hx:bw (N++[(t,.fr (.own e) s1 z xs)]) x = .same (.slot t)) (hy:rd N y = .fr my s2 z ys)
  (hn:xs.length=l.length * z) (hm:ys.length=m.length * z) (hq:dO by_ l m=some q) (hz:xs++ys=zs) (hs1:s1=true→s=true) (hs2:s2=true→s=true) :
  aY P ⟨some d,.call ⟨.builtin .append,#[x,y],#[T,T]⟩,t',pos,aft,gd⟩ N [(t,.fr (.own e) s1 z xs)] [(t,.any),(d,.fr (.own e) s z zs)] [.slot d]:=by
 subst hz
 unfold dO at hq
 split at hq
 case isFalse=>cases hq
 rename_i hlim
 obtain ⟨i,zv,hT,hi,hz,hs,hzc,h0,rfl⟩:=hE.ex
 refine aY.core fun g V oN oT a w hd hp => ?_
 have hT':=hp.esT
 simp only [Es] at hT'
 obtain ⟨ob,o2,rfl,⟨hR,_⟩,rfl⟩:=hT'
 have hax:=ce hp.val (bi.2 ⟨oN,_,rfl,hp.esN,hp.esT⟩) x
 rw [hx] at hax
 obtain ⟨us,hR,hix⟩:=kG hR
 rw [← cG hix] at hn
 simp only [R] at hax hR
 obtain ⟨a0,n0,c0,⟨h3,_⟩,hl0,hone0,_,hown,hob⟩:=hR
 obtain ⟨o',_,hr⟩:=kI hp.val hp.esN y
 rw [hy] at hr
 obtain ⟨vs,hr,hiy⟩:=kG hr
 rw [← cG hiy] at hm
 simp only [R] at hr
 obtain ⟨A,m',c,⟨he,_⟩,hl,hone,hrd,_⟩:=hr
 have em:m'=m.length:=Nat.eq_of_mul_eq_mul_right h0 (by omega)
 subst em
 have en:n0=l.length:=Nat.eq_of_mul_eq_mul_right h0 (by omega)
 subst en
 obtain ⟨v',w',hrun,hown',hg,hblk⟩:=eH (P:=P) (ty:=t') (c:=c) hT hi hz hs hzc h0 hown hl hrd hone (by simp only [maxLen]; omega) (by simpa using hlim.1)
 have hrun':(execOp a.eval ⟨some d,.call ⟨.builtin .append,#[x,y],#[T,T]⟩,t',pos,aft,gd⟩).run P w = .ok (.value v') w':=by
  have h4:a.eval x=V (.slot t):=hax.1
  simp [execOp,resolve,invoke,builtin,he,h4,hrun]
 refine (Yl.val hrun').mono ?_
 rintro v w2 ⟨rfl,rfl⟩
 have hlt:d<g.n:=hd d rfl
 have hchg:ei ob w w2:=by rw [hob]; exact ei.of_grown hg
 have himm:∀ b,g.imm b→w2.heap[b]? = w.heap[b]? := fun b hb=>hchg.block b (hp.imm b hb) fun hb'=>(hp.own b (by simp [hb'])).2 hb
 refine ⟨g,cF V d v,v.ownBlock.toList,g.le_refl,fun b hb => .inl hb,fun b hb=>Nat.lt_of_lt_of_le (hp.imm b (.inl hb)) hchg.size,by simpa using hchg,fun l hl=>ct hl,fun u=>dt hp.val hp.size hlt u,?_,by cases v.ownBlock <;> simp,?_⟩
 ·refine ⟨[],v.ownBlock.toList,rfl,⟨by simp [R],trivial⟩,v.ownBlock.toList,[],by simp,⟨?_,trivial⟩,rfl⟩
  show R g _ _ _ (cF V d v (.slot d)) _
  rw [cL]
  refine mj (fV hown' fun u hu => ?_) (dr (fun b h=>h) himm _ _ (bC (kl hs1 hix) (kl hs2 hiy)))
  rcases List.mem_append.1 hu with h | h
  ·exact hone0 u h
  ·exact hone u h
 ·intro b hb'
  have hvb:v.ownBlock=some b:=by cases hv:v.ownBlock <;> simp [hv] at hb' ⊢; exact hb'.symm
  have hlt2:=(hown'.lt b hvb).2
  rcases hblk with h | h
  ·have hin:b∈ob:=by rw [hob,← h,hvb]; simp
   exact ⟨.inl (by simp [hin]),hlt2,(hp.own b (by simp [hin])).2⟩
  ·rw [hvb] at h
   cases h
   refine ⟨.inr (Nat.le_refl _),hlt2,fun hi=>Nat.lt_irrefl _ (hp.imm _ hi)⟩
theorem uq (N:List aO) (d:Nat) {T e:TypeId} {x:Operand} {lo hi:Option Operand} {m:Md} {s:Bool} {z:Nat} {cs:List IC} (l h:Nat) (ds:List IC) (hT:P.underlying T=some (.slice e)) (hz:(P.info? e).map (·.size)=some z) (h0:0<z)
  (hx:rd N x = .fr m s z cs) (hm:nF m=true)
  (hl:match lo with | some y=>∃ k,rd N y = .v (.int k (l:Int)) | none=>l=0) (hh:match hi with | some y=>∃ k,rd N y = .v (.int k (h:Int)) | none=>h * z=cs.length) (h1:l≤h) (h2:h * z≤cs.length) (hds:(cs.drop (l * z)).take ((h-l) * z)=ds) :
  aY P ⟨some d,.slice T x lo hi none,ty,pos,aft,gd⟩ N [] [(d,.fr m s z ds)] [.slot d]:=by
 refine aY.value rfl rfl rfl fun g V oN a w hp => ?_
 obtain ⟨o',_,hr⟩:=kI hp.val hp.esN x
 rw [hx] at hr
 obtain ⟨xs,hr,hic⟩:=kG hr
 rw [← cG hic] at h2 hh
 have hys2:=lu ((h-l) * z) (lF (l * z) hic)
 rw [hds] at hys2
 obtain ⟨ys,hys⟩:∃ ys,(xs.drop (l * z)).take ((h-l) * z)=ys:=⟨_,rfl⟩
 rw [hys] at hys2
 simp only [R] at hr
 obtain ⟨A,n,c,⟨he,hnc⟩,hlen,hone,hrd,hmo⟩:=hr
 have hhn:h≤n:=by rw [hlen] at h2; exact Nat.le_of_mul_le_mul_right h2 h0
 have hln:l≤n:=by omega
 have hylen:ys.length=(h-l) * z:=by
  rw [← hys]
  have:l * z+(h-l) * z≤xs.length:=by rw [← Nat.add_mul]; rw [show l+(h-l)=h by omega]; exact h2
  simp; omega
 have hsub:∀ (j:Nat) (u:Value),ys[j]? = some u→xs[l * z+j]? = some u:=by
  intro j u hu
  rw [← hys] at hu
  simp only [List.getElem?_take,List.getElem?_drop] at hu
  split at hu
  ·exact hu
  ·cases hu
 have hone':∀ u∈ys,u.oneCell'=true:=fun u hu=>by
  rw [← hys] at hu
  exact hone u (List.mem_of_mem_drop (List.mem_of_mem_take hu))
 have hne:ys≠[]→xs≠[]:=by
  rintro h3 rfl
  rw [← hys] at h3; simp at h3
 ·have e2:∀ y,lo=some y→∃ k,a.eval y = .int k (l:Int):=by
   intro y hy; subst hy; obtain ⟨k,hk⟩:=hl; exact ⟨k,dD hp.val hp.esN hk⟩
  have e3:∀ y,hi=some y→∃ k,a.eval y = .int k (h:Int):=by
   intro y hy; subst hy; obtain ⟨k,hk⟩:=hh; exact ⟨k,dD hp.val hp.esN hk⟩
  have hhc:h≤c:=by omega
  have hrun:(execOp a.eval ⟨some d,.slice T x lo hi none,ty,pos,aft,gd⟩).run P w = .ok (.value (.slice (if c=l then A else A.map (·.add (l * z))) (h-l) (c-l))) w:=by
   cases lo with
   | none =>
    simp only at hl; subst hl
    cases hi with
    | none =>
     simp only at hh
     have:h=n:=Nat.eq_of_mul_eq_mul_right h0 (by omega)
     subst this
     simp [execOp,Instr.sliceAt,Instr.slice,run_underlying hT,he,Instr.sliceBounds,bE hz]
    | some y =>
     obtain ⟨k,hk⟩:=e3 y rfl
     simp [execOp,Instr.sliceAt,Instr.slice,run_underlying hT,he,Instr.sliceBounds,Instr.sliceBound,asIntOf,hk,hhc,bE hz]
   | some y =>
    obtain ⟨k,hk⟩:=e2 y rfl
    cases hi with
    | none =>
     simp only at hh
     have:h=n:=Nat.eq_of_mul_eq_mul_right h0 (by omega)
     subst this
     simp [execOp,Instr.sliceAt,Instr.slice,run_underlying hT,he,Instr.sliceBounds,Instr.sliceBound,asIntOf,hk,h1,bE hz]
    | some y' =>
     obtain ⟨k',hk'⟩:=e3 y' rfl
     simp [execOp,Instr.sliceAt,Instr.slice,run_underlying hT,he,Instr.sliceBounds,Instr.sliceBound,asIntOf,hk,hk',h1,hhc,bE hz]
  refine ⟨_,hrun,mj ?_ hys2⟩
  simp only [R]
  refine ⟨_,h-l,c-l,⟨rfl,by omega⟩,hylen,hone',?_,?_⟩
  ·intro h3
   obtain ⟨ad,rfl,hc⟩:=hrd (hne h3)
   have hcl:c≠l:=by
    intro e
    have:h-l=0:=by omega
    rw [this] at hylen
    simp at hylen; exact h3 hylen
   rw [if_neg hcl]
   refine ⟨ad.add (l * z),rfl,fun j u hu => ?_⟩
   rw [add_add]
   exact hc _ _ (hsub j u hu)
  ·cases m with
   | own T=>simp [nF] at hm
   | ro =>
    refine ⟨rfl,fun h3 => ?_⟩
    obtain ⟨ad,rfl,hi⟩:=hmo.2 (hne h3)
    split
    ·exact ⟨ad,rfl,hi⟩
    ·exact ⟨ad.add (l * z),rfl,by rw [kg]; exact hi⟩
   | shr =>
    refine ⟨rfl,fun h3 => ?_⟩
    obtain ⟨ad,rfl,hi⟩:=hmo.2 (hne h3)
    split
    ·exact ⟨ad,rfl,hi⟩
    ·exact ⟨ad.add (l * z),rfl,by rw [kg]; exact hi⟩
end
section
variable {A B:Type} {z:Nat}
theorem bT {enc:A→List B} (he:∀ x,(enc x).length=z) (l:List A):((l.map enc).flatten).length=l.length * z:=by
 induction l with
 | nil=>simp
 | cons x l ih=>simp only [List.map_cons,List.flatten_cons,List.length_append,he,ih,List.length_cons,Nat.add_mul]; omega
theorem ng {enc:A→List B} (he:∀ x,(enc x).length=z) {l:List A} {i:Nat} (h:i<l.length):i * z+z≤((l.map enc).flatten).length:=by
 rw [bT he]
 have:(i+1) * z≤l.length * z:=Nat.mul_le_mul_right _ h
 rw [Nat.add_mul] at this; omega
theorem mC {enc:A→List B} (he:∀ x,(enc x).length=z):∀ (l:List A) (i:Nat),((l.map enc).flatten).drop (i * z)=((l.drop i).map enc).flatten
 | [],i=>by simp
 | x::l,0=>by simp
 | x::l,i+1=>by
  simp only [List.map_cons,List.flatten_cons,List.drop_succ_cons]
  rw [Nat.add_mul,Nat.one_mul,Nat.add_comm,← List.drop_drop,← he x,List.drop_left,he x]
  exact mC he l i
theorem pL {enc:A→List B} (he:∀ x,(enc x).length=z):∀ (l:List A) (i:Nat),((l.map enc).flatten).take (i * z)=((l.take i).map enc).flatten
 | [],i=>by simp
 | x::l,0=>by simp
 | x::l,i+1=>by
  simp only [List.map_cons,List.flatten_cons,List.take_succ_cons]
  rw [Nat.add_mul,Nat.one_mul,Nat.add_comm,List.take_add,← he x,List.take_left,List.drop_left,he x]
  rw [pL he l i]
theorem dx {enc:A→List B} (he:∀ x,(enc x).length=z) {l:List A} {i:Nat} {x:A} (h:aA l i=some x):(((l.map enc).flatten).drop (i * z)).take z=enc x:=by
 rw [mC he]
 obtain ⟨hi,rfl⟩:=List.getElem?_eq_some_iff.1 h
 rw [List.drop_eq_getElem_cons hi]
 simp only [List.map_cons,List.flatten_cons]
 rw [← he l[i],List.take_left]
theorem xF {enc:A→List B} (he:∀ x,(enc x).length=z) {l:List A} {i j n:Nat} {x:A} {ys:List B} (h:aA l i=some x) (hj:j+n≤z) (hy:((enc x).drop j).take n=ys):(((l.map enc).flatten).drop (i * z+j)).take n=ys:=by
 have h1:=dx he h
 rw [← hy,← h1,List.drop_take,List.drop_drop,List.take_take,Nat.min_eq_left (by omega)]
theorem aL {enc:A→List B} (he:∀ x,(enc x).length=z) {l:List A} {i j:Nat} {x:A} {v:B} (h:aA l i=some x) (hv:(enc x)[j]? = some v):((l.map enc).flatten)[i * z+j]? = some v:=by
 have h1:=dx he h
 have hj:j<z:=by rw [← he x]; exact (List.getElem?_eq_some_iff.1 hv).1
 rw [← h1,List.getElem?_take,if_pos hj,List.getElem?_drop] at hv
 exact hv
theorem im {enc:A→List B} {l m q:List A} (h:l++m=q):(l.map enc).flatten++(m.map enc).flatten=(q.map enc).flatten:=by subst h; simp
theorem xz {enc:A→List B} (he:∀ x,(enc x).length=z) {l q:List A} {a b:Int} (h:pq l a b=some q):(((l.map enc).flatten).drop (a.toNat * z)).take ((b.toNat-a.toNat) * z)=(q.map enc).flatten:=by
 unfold pq at h
 split at h
 ·cases h
  rw [mC he,pL he]
 ·cases h
theorem vf {l q:List A} {a b:Int} (h:pq l a b=some q):a=(a.toNat:Int)∧b=(b.toNat:Int)∧a.toNat≤b.toNat∧b.toNat≤l.length:=by
 unfold pq at h
 split at h
 ·omega
 ·cases h
end
section
variable {P:Program} {Q:Exit→Act→World→Prop} {g0:Gh} {rnd:Option Nat}
end
end Go.Abs
end
section
namespace Go.Abs
open Go.WideShapes
def jU (k:IntKind) (n:Int):Prop:=(Lit.int k n).wf=true
def Fw (s:Hd):Prop:=s.size≤maxLen
def Ck {A:Type} (p:A→Prop) (l:List A):Prop:=l.length≤maxLen∧∀ x∈l,p x
def wC (W:World):Gh:=cv W (fun _=>False) (fun b=>b<W.heap.size)
def DV {H:Type} (enc:TypeId×Value→H) (P:Program) (W:World) (sp:Nat→Bool) (hd:Bool) (t:TypeId) {A:Type} (ie:A→List IC) (wf:A→Prop):Prop :=
 ∀ (fuel:Nat) (cs:List Value) (y:DataW H×List MemPlace),DataW.trod enc P W 0 sp hd fuel t cs=some y→∃ x:A,fK (wC W) W true (ie x) cs∧(∀ u∈cs,u.oneCell'=true)∧wf x
section
variable {H:Type} {enc:TypeId×Value→H} {P:Program} {W:World} {sp:Nat→Bool} {hd:Bool} {t:TypeId}
theorem lP {g:Gh} {w:World} {s:Bool} {c:IC} {x:Value}:fK g w s [c] [x]↔RI g w s c x:=by
 simp only [fK]
 constructor
 ·rintro ⟨x',xs,h,h1,rfl⟩; cases h; exact h1
 ·intro h; exact ⟨x,[],rfl,h,rfl⟩
theorem yV {k:IntKind} (ht:P.underlying t=some (.int k)):DV enc P W sp hd t (fun n:Int=>[IC.v (.int k n)]) (jU k):=by
 intro fuel cs y h
 obtain ⟨n,rfl,_,hw⟩:=DataW.trod_int ht h
 exact ⟨n,lP.2 (by simp only [RI]),by simp [Value.oneCell'],hw⟩
theorem xC (ht:P.underlying t=some .bool):DV enc P W sp hd t (fun b:Bool=>[IC.v (.bool b)]) (fun _=>True):=by
 intro fuel cs y h
 obtain ⟨n,rfl,_⟩:=DataW.trod_bool ht h
 exact ⟨n,lP.2 (by simp only [RI]),by simp [Value.oneCell'],trivial⟩
theorem uD {g:Gh} {w:World} {s:Bool} {A:Type} {ie:A→List IC} {z:Nat} (hz:∀ x,(ie x).length=z):∀ (l:List A) (vs:List Value),vs.length=l.length * z→(∀ i,∀ h:i<l.length,fK g w s (ie l[i]) ((vs.drop (i * z)).take z))→fK g w s (List.flatten (List.map ie l)) vs
 | [],vs,hl,_=>by
  have:vs=[]:=List.eq_nil_of_length_eq_zero (by simpa using hl)
  subst this
  simp [fK]
 | x::l,vs,hl,h=>by
  have h0:=h 0 (by simp)
  simp only [List.getElem_cons_zero,Nat.zero_mul,List.drop_zero] at h0
  rw [List.map_cons,List.flatten_cons,← List.take_append_drop z vs]
  refine bC h0 (uD hz l _ ?_ fun i hi => ?_)
  ·rw [List.length_drop,hl,List.length_cons,Nat.add_mul]; omega
  ·have:=h (i+1) (by simpa using hi)
   simp only [List.getElem_cons_succ] at this
   rw [List.drop_drop]
   rwa [show z+i * z=(i+1) * z by rw [Nat.add_mul]; omega]
theorem BV {A B:Type} (f:A→B):∀ l:List A,List.flatten (List.map (fun x=>[f x]) l)=List.map f l
 | []=>rfl
 | x::l=>by simp [BV f l]
theorem dE {a b:List Value} (h:∀ u∈a,u.oneCell'=true) (k:∀ u∈b,u.oneCell'=true):∀ u∈a++b,u.oneCell'=true:=by
 intro u hu
 rcases List.mem_append.1 hu with q | q
 ·exact h u q
 ·exact k u q
theorem qT:∀ u∈([]:List Value),u.oneCell'=true:=by simp
theorem ta {g:Gh} {w:World} {s:Bool}:fK g w s [] []:=by simp [fK]
theorem yX {cs:Array Value} {ics:List IC} {avs:List AV} (h:fK (wC W) W true ics (Value.agg cs).cells.toList) (hi:Dq true ics avs):R (wC W) V0 W (.agg avs) (.agg cs) []:=by
 simp only [R]
 exact ⟨cs.toList,by simp,Cb hi h⟩
theorem By {A:Option Addr} {len cap:Nat} {ic:IC} {av:AV} (h:fK (wC W) W true [ic] (Value.slice A len cap).cells.toList) (hi:IA true ic av):R (wC W) V0 W av (.slice A len cap) [] :=
 Dg hi (lP.1 h)
theorem Cx:Rs (wC W) V0 W [] [] []:=by simp [Rs]
theorem wB {c:AV} {cs:List AV} {x:Value} {xs:List Value} (h:R (wC W) V0 W c x []) (hs:Rs (wC W) V0 W cs xs []):Rs (wC W) V0 W (c::cs) (x::xs) []:=by
 simp only [Rs]; exact ⟨x,xs,[],[],rfl,rfl,h,hs⟩
end
end Go.Abs
end
section
namespace Go.Abs
section
variable {P:Program} {ty:TypeId} {pos:String} {aft:Array Edge} {gd:Option (Nat×Bool)}
theorem bR (s:Hd):(aP s).length=s.size:=by simp [aP]
end
end Go.Abs
end
section
namespace Go.Abs
inductive qz (t:Nat):Nat→List AV→List AV→Prop
 | nil (i:Nat):qz t i [] []
 | same {i:Nat} {ds cs:List AV} (c:AV) (h:qz t (i+1) ds cs):qz t i (.same (.cell t i)::ds) (c::cs)
 | eq {i:Nat} {ds cs:List AV} (c:AV) (h:qz t (i+1) ds cs):qz t i (c::ds) (c::cs)
theorem qH {g:Gh} {V:bN→Value} {w:World} {t:Nat}:∀ {i:Nat} {ds cs:List AV} {xs ys:List Value} {o:List Nat},qz t i ds cs→Rs g V w ds ys []→Rs g V w cs xs o→(∀ j x,xs[j]? = some x→V (.cell t (i+j))=x)→∃ o',o'.Sublist o∧Rs g V w cs ys o'
 | i,_,_,xs,ys,o,.nil _,h1,h2,_=>⟨o,List.Sublist.refl _,by simp only [Rs] at *; exact ⟨h1.1,h2.2⟩⟩
 | i,_,_,xs,ys,o,.same c h,h1,h2,hv=>by
  simp only [Rs] at h1 h2
  obtain ⟨y,ys',p1,p2,rfl,hp,a1,a2⟩:=h1
  obtain ⟨x,xs',o1,o2,rfl,rfl,b1,b2⟩:=h2
  obtain ⟨rfl,rfl⟩:=List.append_eq_nil_iff.1 hp.symm
  obtain ⟨o',s1,s2⟩:=qH h a2 b2 (fun j x hx=>by
   have:=hv (j+1) x (by simpa using hx)
   rwa [show i+(j+1)=i+1+j by omega] at this)
  simp only [R] at a1
  have e:y=x:=by rw [a1.1]; exact hv 0 x (by simp)
  subst e
  exact ⟨o1++o',s1.append_left o1,by simp only [Rs]; exact ⟨y,ys',o1,o',rfl,rfl,b1,s2⟩⟩
 | i,_,_,xs,ys,o,.eq c h,h1,h2,hv=>by
  simp only [Rs] at h1 h2
  obtain ⟨y,ys',p1,p2,rfl,hp,a1,a2⟩:=h1
  obtain ⟨x,xs',o1,o2,rfl,rfl,b1,b2⟩:=h2
  obtain ⟨rfl,rfl⟩:=List.append_eq_nil_iff.1 hp.symm
  obtain ⟨o',s1,s2⟩:=qH h a2 b2 (fun j x hx=>by
   have:=hv (j+1) x (by simpa using hx)
   rwa [show i+(j+1)=i+1+j by omega] at this)
  exact ⟨o',s1.trans (List.sublist_append_right o1 o2),by simp only [Rs]; exact ⟨y,ys',[],o',rfl,rfl,a1,s2⟩⟩
section
variable {P:Program} {ty:TypeId} {pos:String} {aft:Array Edge} {gd:Option (Nat×Bool)}
theorem mh (N:List aO) {T:TypeId} (ax vx:Operand) {T':TypeId} {cs ds:List AV} (u t s:Nat) (hs:(P.info? T).map (·.size)=some s)
  (hx:bw (N++[(u,.agg ds),(t,.box T' cs)]) ax = .ptr t 0) (hv:bw (N++[(u,.agg ds),(t,.box T' cs)]) vx = .agg ds) (hok:dK (N++[(u,.agg ds),(t,.box T' cs)]) (.agg ds)=true) (hd:ds.length=s) (hl:cs.length=s)
  (hse:qz t 0 ds cs) (hcl:dP (dp t 0 s) cs=true) :
  aY P ⟨none,.store T ax vx,ty,pos,aft,gd⟩ N [(u,.agg ds),(t,.box T' cs)] [(t,.box T' cs)] (dp t 0 s):=by
 refine aY.core fun g V oN oT a w hdd hp => ?_
 have hB':Es g V w [(u,.agg ds),(t,.box T' cs)] oT:=hp.esT
 have hB:=hB'
 simp only [Es] at hB
 obtain ⟨ou,oq,rfl,hU,ob,o2,rfl,hER,rfl⟩:=hB
 obtain ⟨hR1,htie⟩:=hER
 simp only [R] at hR1
 obtain ⟨b,xs,os,h3,rfl,hh,hrs⟩:=hR1
 dsimp only at htie h3
 have hNT:=bi.2 ⟨oN,_,rfl,hp.esN,hB'⟩
 have hax:=ce hp.val hNT ax
 rw [hx] at hax
 simp only [R] at hax
 obtain ⟨b2,h4,h5,_⟩:=hax
 rw [h3] at h4; cases h4
 have hval:=ce hp.val hNT vx
 rw [hv] at hval
 obtain ⟨hvc,hone⟩:=iz hNT hok hval
 simp only [cX] at hvc
 have hl1:=aQ hvc
 have hl2:=aQ hrs
 have hVx:∀ j x,xs[j]? = some x→V (.cell t (0+j))=x:=by
  intro j x hx
  have hj:=(List.getElem?_eq_some_iff.1 hx).1
  have hcell:=htie b h3 j (by omega)
  rw [cell_of_row w b j _ T' (0,0) hh] at hcell
  simp only [List.getElem?_toArray,hx,Option.some.injEq] at hcell
  rw [Nat.zero_add]; exact hcell.symm
 obtain ⟨os',hsub,hnew0⟩:=qH hse hvc hrs hVx
 obtain ⟨ys,hys⟩:∃ ys,ys=(a.eval vx).cells.toList:=⟨_,rfl⟩
 rw [← hys] at hvc hone hl1 hnew0
 have hrun:(execOp a.eval ⟨none,.store T ax vx,ty,pos,aft,gd⟩).run P w = .ok .skip (w.setRow b ys.toArray):=by
  have:=gF (P:=P) (w:=w) (T:=T) (off:=0) hs hh (v:=a.eval vx) (by rw [← hd,← hl1,hys]; simp) (by rw [← hys]; exact hone) (by omega)
  have e:(xs.take 0++(a.eval vx).cells.toList++xs.drop (0+s)).toArray=ys.toArray:=by
   rw [← hys,Nat.zero_add,List.drop_eq_nil_of_le (by omega)]; simp
  rw [e] at this
  simp [execOp,Instr.storeAt,h5,Instr.sureAddr,this]
 refine (Yl.skip hrun).mono ?_
 rintro y w' ⟨rfl,rfl⟩
 have hnd:=hp.nodup
 have hndT:(b::os).Nodup:=by have:=(List.nodup_append.1 (List.nodup_append.1 hnd).2.1).2.1; simpa using this
 have hlt:∀ c,c∈b::os→c<w.heap.size∧¬ g.imm c:=fun c hc=>hp.own c (by simp at hc ⊢; exact .inr (.inr hc))
 have hbi:=(hlt b (by simp)).2
 have hbo:b ∉ os:=(List.nodup_cons.1 hndT).1
 have hchg:ei [b] w (w.setRow b ys.toArray):=fB _ _ _
 have hblk:∀ c,c≠b→(w.setRow b ys.toArray).heap[c]? = w.heap[c]? := fun c hc=>setRow_other w b c _ hc
 have hvl:ys.length=s:=by omega
 have hV':∀ l,gK (dp t 0 s) l=false→kL V t 0 ys l=V l:=fun l hl=>tS (by rw [hvl]; exact hl)
 have hnew:=cT (W:=dp t 0 s) (g:=g) (g':=g) (V':=kL V t 0 ys) (w':=w.setRow b ys.toArray) (fun _ h=>h) (fun _ h=>h) hV' cs ys os' hcl (fun c hcc=>hblk c (by
  rcases hcc with hcc | hcc
  ·rintro rfl; exact hbo (hsub.subset hcc)
  ·rintro rfl; exact hbi hcc)) hnew0
 refine ⟨g,kL V t 0 ys,b::os',g.le_refl,fun c hc => .inl hc,fun c hc => ?_,hchg.mono (by simp),hV',?_,?_,?_,?_⟩
 ·exact Nat.lt_of_lt_of_le (hp.imm c (.inl hc)) hchg.size
 ·intro u; simp only [kL,Act.put]; exact hp.val u
 ·refine ⟨b::os',[],by simp,⟨?_,?_⟩,rfl⟩
  ·show R _ _ _ (.box T' _) (kL V t 0 _ (.slot t)) _
   simp only [R,kL]
   exact ⟨b,ys,os',h3,rfl,setRow_heap w b _ _ T' _ hh,hnew⟩
  ·intro b' hb' i hi
   simp only [kL] at hb'
   rw [h3] at hb'; cases hb'
   have hhn:=setRow_heap w b xs.toArray ys.toArray T' _ hh
   rw [cell_of_row _ b i _ T' (0,0) hhn]
   have h6:i<ys.length:=by omega
   simp only [List.getElem?_toArray,kL,true_and]
   rw [if_pos ⟨Nat.zero_le _,by omega⟩,List.getElem?_eq_getElem h6]
   simp [List.getD_eq_getElem?_getD,List.getElem?_eq_getElem h6]
 ·exact List.Nodup.sublist (hsub.cons_cons b) hndT
 ·intro c hc
  have hc':c∈b::os:=by
   rcases List.mem_cons.1 hc with h | h
   ·simp [h]
   ·exact List.mem_cons_of_mem _ (hsub.subset h)
  exact ⟨.inl (by simp at hc' ⊢; exact .inr hc'),Nat.lt_of_lt_of_le (hlt c hc').1 hchg.size,(hlt c hc').2⟩
end
end Go.Abs
end
