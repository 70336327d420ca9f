import Derived.Lib.FrozenHead
import Derived.OpenShut
import Derived.FnData
import Derived.Lib.UnsafeStr
import Derived.Lib.Builder
import Derived.Lib.Repeat
import Derived.Lib.Join
import Derived.Lib.Atoi
import Derived.Lib.Bytealg
import Derived.Lib.IndexAny
import Derived.HandedShaped
import Derived.Lib.LaidTab
import Derived.Lib.ItoaNum
import Derived.Sort.Grow
import Derived.Test.YtjdmcbkkacnmdaaGreatDoorAR
section
namespace Go.Abs
mutual
def iG:AV→Bool
 | .fl (.own _) _ _=>false
 | .fr (.own _) _ _ _=>false
 | .box .. => false
 | .arr .. => false
 | .obox .. => false
 | .cloB .. => false
 | .inv _=>false
 | .mkr .. => false
 | .hid _=>false
 | .agg cs=>qf cs
 | .tup cs=>qf cs
 | _=>true
def qf:List AV→Bool
 | []=>true
 | c::cs=>iG c&&qf cs
end
mutual
theorem si {g:Gh} {V:bN→Value} {w:World}:∀ (av:AV) (x:Value) (o:List Nat),iG av=true→R g V w av x o→o=[]
 | .any,x,o,_,h=>by simp only [R] at h; exact h
 | .v y,x,o,_,h=>by simp only [R] at h; exact h.2
 | .fl (.own _) z xs,x,o,hn,h=>by simp [iG] at hn
 | .fl .ro z xs,x,o,_,h=>by simp only [R,ck] at h; obtain ⟨a,n,c,_,_,_,_,h,_⟩:=h; exact h
 | .fl .shr z xs,x,o,_,h=>by simp only [R,ck] at h; obtain ⟨a,n,c,_,_,_,_,h,_⟩:=h; exact h
 | .agg cs,x,o,hn,h=>by simp only [R,iG] at *; obtain ⟨xs,_,h⟩:=h; exact mB cs xs o hn h
 | .tup cs,x,o,hn,h=>by simp only [R,iG] at *; obtain ⟨xs,_,h⟩:=h; exact mB cs xs o hn h
 | .box T cs,x,o,hn,h=>by simp [iG] at hn
 | .same l,x,o,_,h=>by simp only [R] at h; exact h.2
 | .ptr t i,x,o,_,h=>by simp only [R] at h; obtain ⟨b,_,_,h⟩:=h; exact h
 | .eref l k,x,o,_,h=>by simp only [R] at h; obtain ⟨a,n,c,_,_,h⟩:=h; exact h
 | .arr T vs,x,o,hn,h=>by simp [iG] at hn
 | .fr (.own _) s z cs,x,o,hn,h=>by simp [iG] at hn
 | .fr .ro s z cs,x,o,_,h=>by simp only [R,ck] at h; obtain ⟨vs,a,n,c,_,_,_,_,⟨h,_⟩,_⟩:=h; exact h
 | .fr .shr s z cs,x,o,_,h=>by simp only [R,ck] at h; obtain ⟨vs,a,n,c,_,_,_,_,⟨h,_⟩,_⟩:=h; exact h
 | .glob gl,x,o,_,h=>by simp only [R] at h; exact h.2
 | .obox p T cs,x,o,hn,h=>by simp [iG] at hn
 | .clo f ts,x,o,_,h=>by simp only [R] at h; exact h.2
 | .cut l k,x,o,_,h=>by simp only [R] at h; obtain ⟨a,n,c,_,_,_,_,h⟩:=h; exact h
 | .cloB f cs,x,o,hn,h=>by simp [iG] at hn
 | .inv J,x,o,hn,h=>by simp [iG] at hn
 | .mkr E xs,x,o,hn,h=>by simp [iG] at hn
 | .hid J,x,o,hn,h=>by simp [iG] at hn
 | .asl t i,x,o,_,h=>by simp only [R] at h; obtain ⟨b,_,_,h⟩:=h; exact h
theorem mB {g:Gh} {V:bN→Value} {w:World}:∀ (cs:List AV) (xs:List Value) (o:List Nat),qf cs=true→Rs g V w cs xs o→o=[]
 | [],xs,o,_,h=>by simp only [Rs] at h; exact h.2
 | c::cs,xs,o,hn,h=>by
  simp only [Rs,qf,Bool.and_eq_true] at *
  obtain ⟨x,xs',o1,o2,_,rfl,h1,h2⟩:=h
  rw [si c x o1 hn.1 h1,mB cs xs' o2 hn.2 h2]; rfl
end
theorem nd {g:Gh} {V:bN→Value} {w:World}:∀ (es:List aO) (o:List Nat),es.all (fun e=>iG e.2)=true→Es g V w es o→o=[]
 | [],o,_,h=>h
 | e::es,o,hn,h=>by
  simp only [List.all_cons,Bool.and_eq_true] at hn
  obtain ⟨o1,o2,rfl,⟨h1,_⟩,h2⟩:=h
  rw [si _ _ _ hn.1 h1,nd es o2 hn.2 h2]; rfl
def nZ (Imm Im:Nat→Prop) (o:List Nat) (w:World) (J':iZ) (c:Bool) (e:Ending) (w':World):Prop :=
 e = .returned (.bool c)∧ei o w w'∧∃ (Imm':Nat→Prop) (o':List Nat),(∀ b,Imm b→Imm' b)∧(∀ b,Imm' b→Imm b∨b∈o∨(w.heap.size≤b∧b<w'.heap.size)) ∧
  J'.P Imm' Im o' w'∧o'.Nodup∧∀ b∈o',(b∈o∨w.heap.size≤b)∧b<w'.heap.size∧¬ (Imm' b∨Im b)
def nm {X S:Type} (P:Program) (l:Nat) (encY:X→AV) (Y:X→S→Option (S×Bool)) (J:S→iZ):Prop :=
 ∀ (x:X) (s s':S) (c:Bool),Y x s=some (s',c)→∀ (Imm Im:Nat→Prop) (w:World) (v:Value) (o:List Nat),R (cv w Imm Im) V0 w (encY x) v []→(J s).P Imm Im o w→o.Nodup →
  (∀ b∈o,b<w.heap.size∧¬ (Imm b∨Im b))→(∀ b,Imm b∨Im b→b<w.heap.size) →
  ∃ fn tmps assign body,(Instr.yield l #[v]).run P w = .ok (.round l fn tmps assign body) w∧RoundIn Fence.wide 0 P l fn tmps assign body w (nZ Imm Im o w (J s') c)
def BN (o1:List Nat) (Imm Im:Nat→Prop) (w:World) (J':iZ) (e:Ending) (w':World):Prop :=
 (∃ v,e = .returned v)∧ei o1 w w'∧∃ (Imm':Nat→Prop) (o':List Nat),(∀ b,Imm b→Imm' b)∧(∀ b,Imm' b→Imm b∨b∈o1∨(w.heap.size≤b∧b<w'.heap.size)) ∧
  J'.P Imm' Im o' w'∧o'.Nodup∧∀ b∈o',(b∈o1∨w.heap.size≤b)∧b<w'.heap.size∧¬ (Imm' b∨Im b)
def DP (P:Program) (gl:List (Nat×List Value)) (f:FuncId) (l:Nat) (caps:List AV) (J J':iZ):Prop :=
 ∀ (Imm Im:Nat→Prop) (w:World) (xs:List Value) (o1 o2:List Nat),(∀ b,Imm b∨Im b→b<w.heap.size)→Br gl (fun b=>Imm b∨Im b) w→Rs (cv w Imm Im) V0 w caps xs o1→J.P Imm Im o2 w→(o1++o2).Nodup →
  (∀ b∈o1++o2,b<w.heap.size∧¬ (Imm b∨Im b))→Calls P f (#[.func (.yield l) #[] #[]]++xs.toArray) w (BN (o1++o2) Imm Im w J')
def xE (P:Program) (fn:Func) (o1:List Nat) (Imm Im:Nat→Prop) (w:World) (J':iZ):Exit→Act→World→Prop:=bodyPost P fn (BN o1 Imm Im w J')
section
variable {P:Program} {Q:Exit→Act→World→Prop} {g0:Gh} {rnd:Option Nat}
theorem CU {f:FuncId} {fn:Func} {c:Code} {gl:List (Nat×List Value)} {l:Nat} {caps:List AV} {J J':iZ} (hf:P.funcs[f]? = some fn) (hb:fn.body=some c) (hk:caps.length+1≤fn.ntmps) (hcl:br caps=true)
  (h:∀ g0:Gh,g0.n=fn.ntmps→g0.ds=[]→HT none P (xE P fn g0.io g0.Imm g0.Im g0.w0 J') g0 c (dq (.v (.func (.yield l) #[] #[])::caps)++[(fn.ntmps,.glob gl),(fn.ntmps+1,.inv J)])):DP P gl f l caps J J':=by
 intro Imm Im w xs o1 o2 himm hgl hR hJ hnd ho
 have hlen:=aQ hR
 refine calls_of_wp hf hb ((wpIn_wide (n:=0)).1 ?_)
 have hsz:(#[Value.func (.yield l) #[] #[]]++xs.toArray)=(Value.func (.yield l) #[] #[]::xs).toArray:=by simp
 rw [hsz]
 let ys:=Value.func (.yield l) #[] #[]::xs
 have hg:=h ⟨fn.ntmps,w,o1++o2,Imm,Im,[]⟩ rfl rfl ⟨fn.ntmps,w,o1++o2,Imm,Im,[]⟩ { tmps:=ys.toArray++Array.replicate (fn.ntmps-ys.toArray.size) undef,defers:=[] } w (Gh.le_refl _)
 let V:bN→Value:=fun l=>match l with | .slot t=>(ys.toArray++Array.replicate (fn.ntmps-ys.toArray.size) undef).getD t undef | .cell t i=>ks w ((ys.toArray++Array.replicate (fn.ntmps-ys.toArray.size) undef).getD t undef) i
 have hslot:∀ i x,ys[i]? = some x→V (.slot i)=x:=by
  intro i x hx
  have hi:=(List.getElem?_eq_some_iff.1 hx).1
  simp only [V,Array.getD_eq_getD_getElem?]
  rw [Array.getElem?_append_left (by simpa using hi)]
  simp [hx]
 refine hg ⟨V,o1++o2,⟨fun _=>rfl,?_,rfl,List.nodup_nil,by simp,hnd,fun b hb=>⟨(ho b hb).1,.inr hb,(ho b hb).2⟩,himm,ei.refl _ _⟩,bi.2 ⟨o1,o2,rfl,?_,?_⟩⟩
 ·simp [ys]; omega
 ·unfold dq
  refine qh (g:=⟨fn.ntmps,w,o1++o2,Imm,Im,[]⟩) (fun av x o hc hr=>cl (fun _ h=>h) av x o hc (.inl fun _ h=>h) hr) (fun t i=>rfl) _ ys 0 o1 (by simp [br,bk,hcl]) ?_ ?_
  ·simp only [Rs]
   refine ⟨_,xs,[],o1,rfl,rfl,by simp [R],?_⟩
   exact cn (g:=cv w Imm Im) (g':=⟨fn.ntmps,w,o1++o2,Imm,Im,[]⟩) (V:=V0) (V':=V0) (fun _ h=>h) caps xs o1 hcl (.inl fun _ h=>h) hR
  ·intro i x hx
   rw [Nat.zero_add]; exact hslot i x hx
 ·exact ⟨[],o2,rfl,⟨by simp only [R]; exact ⟨hgl,trivial⟩,trivial⟩,o2,[],by simp,⟨by simp only [R]; exact hJ,trivial⟩,rfl⟩
theorem xe {fn:Func} {g0 g:Gh} {j:Nat} {J':iZ} {a:Act} {w:World} {Imm:Nat→Prop} (hres:fn.results.toList=[]) (hds:g0.ds=[]) (hI0:g0.Imm=Imm) (hle:g0.le g) (hs:fR g [(j,.inv J')] a w) :
  xE P fn g0.io Imm g0.Im g0.w0 J' .ret a w∧xE P fn g0.io Imm g0.Im g0.w0 J' .normal a w:=by
 have key:a.defers=[]∧∃ v,(results fn a.tmps).run P w = .ok v w∧BN g0.io Imm g0.Im g0.w0 J' (.returned v) w:=by
  obtain ⟨V,o,hst,hes⟩:=hs
  obtain ⟨o1,o2,rfl,⟨hR,_⟩,rfl⟩:=hes
  simp only [R,List.append_nil] at hR hst
  refine ⟨by rw [hst.defers,hle.ds,hds]; rfl,.tuple #[],?_,?_⟩
  ·have:fn.results = #[]:=by rw [← Array.toList_inj]; simpa using hres
   simp [results,this]
  ·refine ⟨⟨_,rfl⟩,by have:=hst.chg; rw [hle.w0,hle.io] at this; exact this,g.Imm,o1,by rw [← hI0]; exact hle.Imm,?_,by rw [← hle.Im]; exact hR,hst.nodup,?_⟩
   ·intro b hb
    rcases hle.new b hb with h | h | h
    ·exact .inl (hI0 ▸ h)
    ·exact .inr (.inr ⟨h,hst.imm b (.inl hb)⟩)
    ·exact .inr (.inl h)
   ·intro b hb
    have:=hst.own b hb
    rw [hle.w0,hle.io] at this
    exact ⟨this.2.1.symm,this.1,by have h2:=this.2.2; unfold Gh.imm at h2; rw [hle.Im] at h2; exact h2⟩
 exact ⟨key,key⟩
theorem pE {fn:Func} {Imm:Nat→Prop} {j:Nat} {J' J:iZ} (hds:g0.ds=[]) (hI:g0.Imm=Imm) (hres:fn.results.toList=[]) (hJ:J=J'):PT (xE P fn g0.io Imm g0.Im g0.w0 J') g0 .ret [(j,.inv J)]:=by
 subst hJ
 exact fun g a w hg hs=>(xe hres hds hI hg hs).1
theorem Ba {fn:Func} {Imm:Nat→Prop} {j:Nat} {J' J:iZ} (hds:g0.ds=[]) (hI:g0.Imm=Imm) (hres:fn.results.toList=[]) (hJ:J=J'):PT (xE P fn g0.io Imm g0.Im g0.w0 J') g0 .normal [(j,.inv J)]:=by
 subst hJ
 exact fun g a w hg hs=>(xe hres hds hI hg hs).2
end
section
variable {P:Program} {ty:TypeId} {pos:String} {aft:Array Edge} {gd:Option (Nat×Bool)}
theorem nf (N:List aO) (d j l:Nat) {X S:Type} {encY:X→AV} {Y:X→S→Option (S×Bool)} {J:S→iZ} {cal y:Operand} {ats:Array TypeId} (x:X) (s:S) (v:S×Bool) (hY:nm P l encY Y J) (h:Y x s=some v)
  (hcal:rd N cal = .v (.func (.yield l) #[] #[])) (hav:lx N y=encY x) (hno:N.all (fun e=>iG e.2)=true) :
  aY P ⟨some d,.call ⟨.value cal,#[y],ats⟩,ty,pos,aft,gd⟩ N [(j,.inv (J s))] [(j,.inv (J v.1)),(d,.v (.bool v.2))] [.slot d]:=by
 refine aY.core fun g V oN oT a w hd hp => ?_
 have hN:=nd N oN hno hp.esN
 subst hN
 have hT:=hp.esT
 obtain ⟨o1,o2,rfl,⟨hR,_⟩,rfl⟩:=hT
 simp only [R] at hR
 have hcv:=dD hp.val hp.esN hcal
 have hya:R (cv w g.Imm g.Im) V0 w (encY x) (a.eval y) []:=by
  rw [← hav]
  exact vD (g:=g) (g':=cv w g.Imm g.Im) (oN:=[]) rfl (fun b hb=>hb.resolve_right (by simp)) hp.val hp.esN y
 have hown:∀ b∈o1,b<w.heap.size∧¬ (g.Imm b∨g.Im b):=fun b hb=>hp.own b (by simp [hb])
 have hnd:o1.Nodup:=by have:=hp.nodup; simpa using this
 obtain ⟨fn,tmps,assign,body,hy,hround⟩:=hY x s v.1 v.2 h g.Imm g.Im w (a.eval y) o1 hya hR hnd hown (fun b hb=>hp.imm b hb)
 have hr:(execOp a.eval ⟨some d,.call ⟨.value cal,#[y],ats⟩,ty,pos,aft,gd⟩).run P w = .ok (.round l fn tmps assign body) w:=by
  simp only [execOp,resolve,hcv,Deferred.ofValue,invoke,Sem.run_bind,Sem.run_pure,Result.andThen]
  simpa [invoke] using hy
 refine Yl.round hr (hround.mono ?_)
 rintro e w' ⟨rfl,hchg,Imm',o',hI,hnew,hJ,hnd',ho'⟩
 have hlt:d<g.n:=hd d rfl
 refine ⟨_,rfl,{ g with Imm:=Imm' },cF V d (.bool v.2),o',⟨rfl,rfl,rfl,rfl,rfl,hI,fun b hb => ?_⟩,fun b hb => ?_,fun b hb => ?_,by simpa using hchg,fun l hl=>ct hl,fun t=>dt hp.val hp.size hlt t,?_,hnd',fun b hb => ?_⟩
 ·rcases hnew b hb with h | h | h
  ·exact .inl h
  ·exact .inr (hp.own2 b (by simp [h]))
  ·exact .inr (.inl (Nat.le_trans hp.base h.1))
 ·rcases hnew b hb with h | h | h
  ·exact .inl h
  ·exact .inr (.inl (by simp [h]))
  ·exact .inr (.inr h.1)
 ·rcases hnew b hb with h | h | h
  ·exact Nat.lt_of_lt_of_le (hp.imm b (.inl h)) hchg.size
  ·exact Nat.lt_of_lt_of_le (hown b h).1 hchg.size
  ·exact h.2
 ·exact ⟨o',[],by simp,⟨by simp only [R]; exact hJ,trivial⟩,[],[],rfl,⟨by simp [R,cL],trivial⟩,rfl⟩
 ·obtain ⟨h1,h2,h3⟩:=ho' b hb
  exact ⟨h1.imp (fun h=>by simp [h]) id,h2,h3⟩
theorem uG (d f:Nat) (ts:List Nat) {T:List aO} (cs:List AV) (hts:T=ts.zipWith (fun t c=>(t,c)) cs) (hlen:ts.length=cs.length) (hcl:dP [.slot d] cs=true) :
  aY P ⟨some d,.makeFunc (.func f) #[] (ts.map Operand.tmp).toArray,ty,pos,aft,gd⟩ [] T [(d,.cloB f cs)] [.slot d]:=by
 refine aY.core fun g V oN oT a w hd hp => ?_
 have hE:∀ (ts:List Nat) (cs:List AV) (o:List Nat),ts.length=cs.length→Es g V w (ts.zipWith (fun t c=>(t,c)) cs) o→Rs g V w cs (ts.map fun t=>V (.slot t)) o:=by
  intro ts
  induction ts with
  | nil=>intro cs o hl h; cases cs <;> simp_all [Rs,Es]
  | cons t ts ih =>
   intro cs o hl h
   cases cs with
   | nil=>simp at hl
   | cons c cs =>
    obtain ⟨o1,o2,rfl,⟨h1,_⟩,h2⟩:=h
    simp only [List.map_cons,Rs]
    exact ⟨_,_,o1,o2,rfl,rfl,h1,ih cs o2 (by simpa using hl) h2⟩
 have hT:=hp.esT
 rw [hts] at hT
 have hRs:=hE ts cs oT hlen hT
 have hr:(execOp a.eval ⟨some d,.makeFunc (.func f) #[] (ts.map Operand.tmp).toArray,ty,pos,aft,gd⟩).run P w = .ok (.value (.func (.func f) #[] (ts.map fun t=>V (.slot t)).toArray)) w:=by
  have:((ts.map Operand.tmp).toArray.map a.eval)=(ts.map fun t=>V (.slot t)).toArray:=by
   simp [Function.comp_def,Act.eval,hp.val]
  simp [execOp,Instr.makeFunc,this]
 refine (Yl.val hr).mono ?_
 rintro y w' ⟨rfl,rfl⟩
 have hlt:d<g.n:=hd d rfl
 refine ⟨g,cF V d _,oT,g.le_refl,fun b hb => .inl hb,fun b hb=>hp.imm b (.inl hb),ei.refl _ _,fun l hl=>ct hl,fun t=>dt hp.val hp.size hlt t,?_,?_,fun b hb => ?_⟩
 ·refine ⟨oT,[],by simp,⟨?_,trivial⟩,rfl⟩
  show R g _ _ (.cloB f cs) (cF V d _ (.slot d)) oT
  rw [cL]
  simp only [R]
  exact ⟨_,rfl,cT (W:=[.slot d]) (fun _ h=>h) (fun _ h=>h) (fun l hl=>ct hl) cs _ oT hcl (fun _ _=>rfl) hRs⟩
 ·exact (List.nodup_append.1 hp.nodup).2.1
 ·have:=hp.own b (by simp [hb])
  exact ⟨.inl hb,this.1,this.2⟩
theorem lA (N:List aO) (d:Nat) (f:FuncId) {cal:Operand} {args:Array Operand} {ats:Array TypeId} (avs:List AV) (res:AV) (hcal:rd N cal = .v (.func (.func f) #[] #[])) (hrun:∀ args w,(callFunc f args).run P w = .ok (.enter f args) w)
  (hav:args.toList.map (lx N)=avs) (hno:N.all (fun e=>iG e.2)=true) (hf:cg P f avs res) (hcl:bk res=true) :
  aY P ⟨some d,.call ⟨.value cal,args,ats⟩,ty,pos,aft,gd⟩ N [] [(d,res)] [.slot d]:=by
 refine aY.fresh rfl (dB _ _ hcl) fun g V oN a w hp => ?_
 have hN:=nd N oN hno hp.esN
 subst hN
 have hcv:=dD hp.val hp.esN hcal
 have hr:(execOp a.eval ⟨some d,.call ⟨.value cal,args,ats⟩,ty,pos,aft,gd⟩).run P w = .ok (.enter f (args.map a.eval)) w:=by
  simp [execOp,resolve,hcv,Deferred.ofValue,invoke,hrun]
 have hargs:Rs (cv w g.Imm g.Im) V0 w avs (args.toList.map a.eval) []:=by
  rw [← hav]
  exact gC (g:=g) (g':=cv w g.Imm g.Im) (oN:=[]) rfl (fun b hb=>hb.resolve_right (by simp)) hp.val hp.esN _
 have hc:=hf g.Imm g.Im w _ (fun b hb=>hp.imm b hb) hargs
 have ea:(args.toList.map a.eval).toArray=args.map a.eval:=by rw [← Array.toList_map]
 rw [ea] at hc
 refine Yl.call hr (hc.mono ?_)
 rintro e w' ⟨x,rfl,hchg,Imm',o,hI,hnew,hR,hnd,hfr⟩
 refine ⟨x,rfl,hchg,{ g with Imm:=fun b=>Imm' b },o,⟨rfl,rfl,rfl,rfl,rfl,hI,fun b hb => ?_⟩,hnew,?_,hnd,hfr⟩
 ·rcases hnew b hb with h | h
  ·exact .inl h
  ·exact .inr (.inl (Nat.le_trans hp.base h.1))
 ·exact cl (g:=cv w Imm' g.Im) (g':={ g with Imm:=fun b=>Imm' b }) (fun _ h=>h) res x o hcl (.inl fun _ h=>h) hR
theorem xr (N:List aO) (d n:Nat) (f:FuncId) {gl gl':List (Nat×List Value)} {cal:Operand} {args:Array Operand} {ats:Array TypeId} (avs:List AV) (res:AV) (hcal:rd N cal = .v (.func (.func f) #[] #[])) (hrun:∀ args w,(callFunc f args).run P w = .ok (.enter f args) w)
  (hav:args.toList.map (lx N)=avs) (hno:N.all (fun e=>iG e.2)=true) (hgl:look N n = .glob gl') (hsub:∀ p∈gl,p∈gl') (hf:kM P gl f avs res) (hcl:bk res=true) :
  aY P ⟨some d,.call ⟨.value cal,args,ats⟩,ty,pos,aft,gd⟩ N [] [(d,res)] [.slot d]:=by
 refine aY.fresh rfl (dB _ _ hcl) fun g V oN a w hp => ?_
 have hN:=nd N oN hno hp.esN
 subst hN
 have hcv:=dD hp.val hp.esN hcal
 have hr:(execOp a.eval ⟨some d,.call ⟨.value cal,args,ats⟩,ty,pos,aft,gd⟩).run P w = .ok (.enter f (args.map a.eval)) w:=by
  simp [execOp,resolve,hcv,Deferred.ofValue,invoke,hrun]
 have hargs:Rs (cv w g.Imm g.Im) V0 w avs (args.toList.map a.eval) []:=by
  rw [← hav]
  exact gC (g:=g) (g':=cv w g.Imm g.Im) (oN:=[]) rfl (fun b hb=>hb.resolve_right (by simp)) hp.val hp.esN _
 obtain ⟨og,_,hRg,_⟩:=ez hp.esN n
 dsimp only at hRg
 rw [hgl] at hRg
 simp only [R] at hRg
 have hc:=hf g.Imm g.Im w _ (fun b hb=>hp.imm b hb) (fun p hp'=>hRg.1 p (hsub p hp')) hargs
 have ea:(args.toList.map a.eval).toArray=args.map a.eval:=by rw [← Array.toList_map]
 rw [ea] at hc
 refine Yl.call hr (hc.mono ?_)
 rintro e w' ⟨x,rfl,hchg,Imm',o,hI,hnew,hR,hnd,hfr⟩
 refine ⟨x,rfl,hchg,{ g with Imm:=fun b=>Imm' b },o,⟨rfl,rfl,rfl,rfl,rfl,hI,fun b hb => ?_⟩,hnew,?_,hnd,hfr⟩
 ·rcases hnew b hb with h | h
  ·exact .inl h
  ·exact .inr (.inl (Nat.le_trans hp.base h.1))
 ·exact cl (g:=cv w Imm' g.Im) (g':={ g with Imm:=fun b=>Imm' b }) (fun _ h=>h) res x o hcl (.inl fun _ h=>h) hR
end
end Go.Abs
end
section
namespace Go.Abs
structure tl where
 l:Nat
 D:Nat
 fn:FuncId
 tm:Array Value
 ps:Array Tmp
 asg:Code
 bod:Code
def tl.rc (k:tl) (st:LoopState) (pe:Option Code):Loop:={ state:=st,pending:=pe,fn:=k.fn,tmps:=k.tm,params:=k.ps,assign:=k.asg,body:=k.bod,defers:=k.D }
def BJ (l D:Nat) (rc:Loop):iZ where
 P:=fun _ _ o w=>o=[l,D]∧l≠D∧w.heap[l]? = some (.loop rc)∧w.heap[D]? = some (.deferred (some []))
 stab:=fun I M I' M' o w w' _ _ hw h=>by
  obtain ⟨rfl,h1,h2,h3⟩:=h
  exact ⟨rfl,h1,(hw l (.inl (by simp))).trans h2,(hw D (.inl (by simp))).trans h3⟩
def vt (tm:Array Value) (ts:List Nat):List aO:=ts.map fun t=>(t,.v (tm.getD t undef))
theorem gW (e:aO):cO [] e=true:=by
 simp only [cO,gK,List.any_nil,List.all_nil,Bool.not_false,Bool.true_and,Bool.and_true,Bool.or_true]; exact gG e.2
def BD (es:List aO) (tm:Array Value) (l D:Nat) (rc:Loop):iZ where
 P:=fun Imm Im o w=>∃ V o1,(∀ t∈es.map (·.1),V (.slot t)=tm.getD t undef)∧o=o1++[l,D]∧Es (cv w Imm Im) V w es o1∧l≠D∧w.heap[l]? = some (.loop rc)∧w.heap[D]? = some (.deferred (some []))
 stab:=fun I M I' M' o w w' hI hM hw h=>by
  obtain ⟨V,o1,h1,rfl,h2,h3,h4,h5⟩:=h
  refine ⟨V,o1,h1,rfl,?_,h3,(hw l (.inl (by simp))).trans h4,(hw D (.inl (by simp))).trans h5⟩
  exact fv (W:=[]) (g:=cv w I M) (g':=cv w' I' M') hI hM (fun _ _=>rfl) es o1 (fun e _=>gW e) (fun b hb=>hw b (by
   rcases hb with hb | hb
   ·exact .inl (by simp [hb])
   ·exact .inr hb)) h2
def tl.ready (k:tl):iZ:=BJ k.l k.D (k.rc .ready none)
def tl.busy (k:tl):iZ:=BJ k.l k.D (k.rc .busy none)
def tl.J {S O:Type} (k:tl) (I:S→List aO) (E:O→List aO):S⊕O→iZ
 | .inl s=>BD (I s) k.tm k.l k.D (k.rc .ready none)
 | .inr o=>BD (E o) k.tm k.l k.D (k.rc .done (some .ret))
def Fh (P:Program) (k:tl) (body:Code) (Rr:Ending→World→Prop):Exit→Act→World→Prop :=
 Exit.then (fun a1 w1=>∃ w2,(Instr.beginRound k.l).run P w1 = .ok () w2∧body.wpIn (FW (some k.l)) 0 P (roundPost P k.l Rr) a1 w2) (fun _ _ _=>False)
theorem oy {g g':Gh} {V V':bN→Value} {w:World} (hI:∀ b,g.Imm b→g'.Imm b) (hM:∀ b,g.Im b→g'.Im b) (hC:∀ t i,V' (.cell t i)=V (.cell t i)):∀ (es:List aO) (o:List Nat),es.all (fun e=>bk e.2)=true →
  (∀ t∈es.map (·.1),V' (.slot t)=V (.slot t))→Es g V w es o→Es g' V' w es o
 | [],o,_,_,h=>h
 | e::es,o,hc,hV,h=>by
  simp only [List.all_cons,Bool.and_eq_true] at hc
  obtain ⟨o1,o2,rfl,⟨h1,ht⟩,h2⟩:=h
  have he:V' (.slot e.1)=V (.slot e.1):=hV e.1 (by simp)
  refine ⟨o1,o2,rfl,⟨?_,?_⟩,oy hI hM hC es o2 hc.2 (fun t ht=>hV t (by simp at ht ⊢; exact .inr ht)) h2⟩
  ·rw [he]; exact cl hI e.2 _ o1 hc.1 (.inl hM) h1
  ·obtain ⟨t,av⟩:=e
   cases av <;> try trivial
   case box T cs =>
    intro b hb i hi
    dsimp only at hb hi ht he ⊢
    rw [he] at hb
    rw [hC]
    exact ht b hb i hi
theorem uv {g:Gh} {V:bN→Value} {w:World} {tm:Array Value}:∀ (ts:List Nat) (o:List Nat),Es g V w (vt tm ts) o→o=[]∧∀ t∈ts,V (.slot t)=tm.getD t undef
 | [],o,h=>⟨h,by simp⟩
 | t::ts,o,h=>by
  obtain ⟨o1,o2,rfl,⟨h1,_⟩,h2⟩:=h
  simp only [R] at h1
  obtain ⟨rfl,h3⟩:=uv ts o2 h2
  rw [h1.2]
  refine ⟨rfl,fun u hu => ?_⟩
  rcases List.mem_cons.1 hu with rfl | hu
  ·exact h1.1
  ·exact h3 u hu
theorem wH {g:Gh} {V:bN→Value} {w:World} {tm:Array Value}:∀ (ts:List Nat),(∀ t∈ts,V (.slot t)=tm.getD t undef)→Es g V w (vt tm ts) []
 | [],_=>rfl
 | t::ts,h=>⟨[],[],rfl,⟨by simp only [R]; exact ⟨h t (by simp),trivial⟩,trivial⟩,wH ts fun u hu=>h u (by simp [hu])⟩
section
variable {P:Program} {Q:Exit→Act→World→Prop} {g0:Gh}
theorem fR.rec {g:Gh} {es:List aO} {j:Nat} {l D:Nat} {rc:Loop} (rc':Loop) {a:Act} {w:World} (h:fR g (es++[(j,.inv (BJ l D rc))]) a w) :
  w.heap[l]? = some (.loop rc)∧fR g (es++[(j,.inv (BJ l D rc'))]) a (w.putObj l (.loop rc')):=by
 obtain ⟨V,o,hst,hes⟩:=h
 obtain ⟨o1,o2,rfl,h1,o3,o4,rfl,⟨h2,_⟩,rfl⟩:=bi.1 hes
 simp only [R] at h2
 obtain ⟨rfl,hne,hl,hD⟩:=h2
 simp only [List.append_nil] at hst
 have hlt:l<w.heap.size:=(Array.getElem?_eq_some_iff.1 hl).1
 have hown:=hst.own l (by simp)
 have hnl:l ∉ o1:=fun hm=>(List.nodup_append.1 hst.nodup).2.2 l hm l (by simp) rfl
 refine ⟨hl,V,o1++([l,D]++[]),⟨hst.val,hst.size,hst.defers,hst.dnd,fun E hE => ?_,by simpa using hst.nodup,fun b hb => ?_,fun b hb=>by simpa using hst.imm b hb,?_⟩,bi.2 ⟨o1,_,rfl,?_,[l,D],[],rfl,⟨?_,trivial⟩,rfl⟩⟩
 ·obtain ⟨k1,k2,k3⟩:=hst.marks E hE
  refine ⟨(World.putObj_heap_other (fun e=>k2 (by simp [e]))).trans k1,by simpa using k2,k3⟩
 ·have:=hst.own b (by simpa using hb)
  exact ⟨by simpa using this.1,this.2⟩
 ·refine hst.chg.trans' (U:=[l]) ⟨rfl,rfl,rfl,by simp,fun k _ hk=>World.putObj_heap_other (by simpa using hk)⟩ (fun x hx => ?_)
  simp at hx; subst hx
  exact hown.2.1.symm
 ·refine fv (W:=[]) (fun _ h=>h) (fun _ h=>h) (fun _ _=>rfl) es o1 (fun e _=>gW e) (fun b hb=>World.putObj_heap_other fun e => ?_) h1
  subst e
  rcases hb with hb | hb
  ·exact hnl hb
  ·exact hown.2.2 hb
 ·simp only [R]
  exact ⟨rfl,hne,World.putObj_heap_same hlt,(World.putObj_heap_other (Ne.symm hne)).trans hD⟩
theorem Ac {c:Code} {es es':List aO} {rnd:Option Nat} (he:es=es') (h:HT rnd P Q g0 c es'):HT rnd P Q g0 c es:=he ▸ h
theorem qA {k:tl} {body:Code} {Rr:Ending→World→Prop} {es es0:List aO} (j:Nat) (he:es++[(j,.inv k.ready)]=es0) (h:HT (some k.l) P (roundPost P k.l Rr) g0 body (es++[(j,.inv k.busy)])):PT (Fh P k body Rr) g0 .normal es0:=by
 subst he
 intro g a w hg hs
 obtain ⟨h1,h2⟩:=fR.rec (k.rc .busy none) hs
 exact ⟨_,run_beginRound h1 rfl,h g a _ hg h2⟩
theorem sq {S O:Type} {k:tl} {I:S→List aO} {E:O→List aO} {es:List aO} {j:Nat} {ts:List Nat} (u:S⊕O) (pe:Option Code) (hpe:(pe.isNone=u.isLeft)∧k.J I E u=BD es k.tm k.l k.D (k.rc (if pe.isNone then .ready else .done) pe))
  (hts:∀ t∈es.map (·.1),t∈ts) {g:Gh} {a:Act} {w:World} (hg:g0.le g) (hs:fR g (es++(vt k.tm ts++[(j,.inv k.busy)])) a w) :
  ∃ v w',(Instr.endRound k.l pe).run P w = .ok v w'∧nZ g0.Imm g0.Im g0.io g0.w0 (k.J I E u) u.isLeft (.returned v) w':=by
 rw [← List.append_assoc] at hs
 obtain ⟨h1,h2⟩:=fR.rec (k.rc (if pe.isNone then .ready else .done) pe) hs
 refine ⟨_,_,run_endRound pe h1,by rw [hpe.1],?_⟩
 change ei g0.io g0.w0 (w.putObj k.l (.loop (k.rc (if pe.isNone then .ready else .done) pe)))∧_
 obtain ⟨V,o,hst,hes⟩:=h2
 obtain ⟨o1,o2,rfl,h3,o3,o4,rfl,⟨h4,_⟩,rfl⟩:=bi.1 hes
 obtain ⟨oE,oP,rfl,h5,h6⟩:=bi.1 h3
 obtain ⟨rfl,hpin⟩:=uv ts oP h6
 simp only [R] at h4
 obtain ⟨rfl,hne,hl,hD⟩:=h4
 simp only [List.append_nil] at hst
 refine ⟨by have:=hst.chg; rw [hg.io,hg.w0] at this; exact this,g.Imm,oE++[k.l,k.D],hg.Imm,fun b hb => ?_,?_,hst.nodup,fun b hb => ?_⟩
 ·rcases hg.new b hb with h | h | h
  ·exact .inl h
  ·exact .inr (.inr ⟨h,hst.imm b (.inl hb)⟩)
  ·exact .inr (.inl h)
 ·rw [hpe.2]
  refine ⟨V,oE,fun t ht=>hpin t (hts t ht),rfl,?_,hne,hl,hD⟩
  exact fv (W:=[]) (g:=g) (g':=cv _ g.Imm g0.Im) (fun _ h=>h) (fun b h=>by rw [hg.Im] at h; exact h) (fun _ _=>rfl) es oE (fun e _=>gW e) (fun _ _=>rfl) h5
 ·have:=hst.own b hb
  rw [hg.w0,hg.io] at this
  exact ⟨this.2.1.symm,this.1,by have h7:=this.2.2; unfold Gh.imm at h7; rw [hg.Im] at h7; exact h7⟩
theorem qc {S O:Type} {k:tl} {I:S→List aO} {E:O→List aO} {es0:List aO} (j:Nat) (ts:List Nat) {u:S⊕O} (s:S) (hu:u = .inl s) (he:I s++(vt k.tm ts++[(j,.inv k.busy)])=es0) (hts:((I s).map (·.1)).all (fun t=>iT t ts)=true) :
  PT (roundPost P k.l (nZ g0.Imm g0.Im g0.io g0.w0 (k.J I E u) u.isLeft)) g0 .normal es0:=by
 subst hu; subst he
 intro g a w hg hs
 exact sq (.inl s) none ⟨rfl,rfl⟩ (fun t ht=>eb.1 (List.all_eq_true.1 hts t ht)) hg hs
theorem sU {S O:Type} {k:tl} {I:S→List aO} {E:O→List aO} {es0:List aO} (j:Nat) (ts:List Nat) {u:S⊕O} (o:O) (hu:u = .inr o) (he:E o++(vt k.tm ts++[(j,.inv k.busy)])=es0) (hts:((E o).map (·.1)).all (fun t=>iT t ts)=true) :
  PT (roundPost P k.l (nZ g0.Imm g0.Im g0.io g0.w0 (k.J I E u) u.isLeft)) g0 .ret es0:=by
 subst hu; subst he
 intro g a w hg hs
 exact sq (.inr o) (some .ret) ⟨rfl,rfl⟩ (fun t ht=>eb.1 (List.all_eq_true.1 hts t ht)) hg hs
end
def gB {X S O:Type} (step:X→S→Option (S⊕O)) (x:X):S⊕O→Option ((S⊕O)×Bool)
 | .inl s=>(step x s).map fun u=>(u,u.isLeft)
 | .inr _=>none
def jK {X S O:Type} (it:(X→S⊕O→Option ((S⊕O)×Bool))→S⊕O→Option (S⊕O)) (step:X→S→Option (S⊕O)) (s0:S):Option (S⊕O):=it (gB step) (.inl s0)
def Eg (gl:List (Nat×List Value)) (es:List aO):Prop:=∀ g V w o,Es g V w es o→Br gl g.imm w
theorem nT {gl:List (Nat×List Value)} {es:List aO} (n:Nat) (h:look es n = .glob gl):Eg gl es:=fun g V w o hes=>by
 obtain ⟨o',_,hR,_⟩:=ez hes n
 dsimp only at hR
 rw [h] at hR
 simp only [R] at hR
 exact hR.1
end Go.Abs
end
section
namespace Go.Abs
theorem heap_alloc (w:World) (o:Obj) (k:Nat) (hk:k<w.heap.size):(w.alloc o).heap[k]? = w.heap[k]? := (ei.alloc [] w o).block k hk (by simp)
section
variable {P:Program} {Q:Exit→Act→World→Prop} {g0:Gh}
theorem sI {X S O:Type} {encY:X→AV} {step:X→S→Option (S⊕O)} {n p j:Nat} {ts:List Nat} {asg body:Code} (I:S→List aO) (E:O→List aO)
  (hts:∀ s,(I s).map (·.1)=ts) (hcl:∀ s,(I s).all (fun e=>bk e.2)=true) (hp:(ts.all (fun t => !Nat.beq t p))=true) (hpn:p<n) (hey:∀ x,bk (encY x)=true∧dY (encY x)=true)
  (hround:∀ (kk:tl) (g1:Gh),g1.n=n→g1.ds=[]→∀ x s u,step x s=some u→HT (some kk.l) P (Fh P kk body (nZ g1.Imm g1.Im g1.io g1.w0 (kk.J I E u) u.isLeft)) g1 asg ((p,encY x)::(I s++(vt kk.tm ts++[(j,.inv kk.ready)]))))
  (kk:tl) (hsz:kk.tm.size=n) (hps:kk.ps = #[p]) (hasg:kk.asg=asg) (hbod:kk.bod=body):nm P kk.l encY (gB step) (kk.J I E):=by
 intro x t t' c hY Imm Im W v o hv hJ hnd hown himm
 cases t with
 | inr q=>simp [gB] at hY
 | inl s =>
  simp only [gB,Option.map_eq_some_iff,Prod.mk.injEq] at hY
  obtain ⟨u,hu,rfl,rfl⟩:=hY
  obtain ⟨V,o1,hpin,rfl,hes,hne,hl,hD⟩:=hJ
  have hy:=run_yield (P:=P) (args := #[v]) hl (by simp [tl.rc,hps])
  have hf:(kk.ps.zip #[v]).foldl (fun tmps (t,a)=>tmps.setIfInBounds t a) kk.tm=kk.tm.setIfInBounds p v:=by rw [hps]; simp
  have hf':((kk.rc .ready none).params.zip #[v]).foldl (fun tmps (t,a)=>tmps.setIfInBounds t a) (kk.rc .ready none).tmps=kk.tm.setIfInBounds p v:=hf
  refine ⟨kk.fn,kk.tm.setIfInBounds p v,asg,body,?_,?_⟩
  ·rw [hy,hf']; simp only [tl.rc,hasg,hbod]
  ·have hdef:∀ t,(kk.tm.setIfInBounds p v).getD t undef=if t=p then v else kk.tm.getD t undef:=fun t=>by
    have:=kc { tmps:=kk.tm,defers:=[] } p t v (by rw [hsz]; exact hpn)
    simpa [Act.put] using this
   let g1:Gh:=⟨n,W,o1++[kk.l,kk.D],Imm,Im,[]⟩
   have hh:=hround kk g1 rfl rfl x s u hu g1 { tmps:=kk.tm.setIfInBounds p v,defers:=[] } W g1.le_refl ?_
   ·exact roundIn_of_wpIn (F:=Fence.wide) (n:=0) trivial hh
   ·have hnp:∀ t∈ts,t≠p:=fun t ht e=>by
     have:=List.all_eq_true.1 hp t ht
     rw [e,Nat.beq_refl] at this; simp at this
    let V1:bN→Value:=fun l=>match l with | .slot t=>(kk.tm.setIfInBounds p v).getD t undef | .cell t i=>V (.cell t i)
    refine ⟨V1,o1++[kk.l,kk.D],⟨fun _=>rfl,by simp [g1,hsz],rfl,List.nodup_nil,by simp [g1],hnd,fun b hb=>⟨(hown b hb).1,.inr hb,(hown b hb).2⟩,himm,ei.refl _ _⟩,?_⟩
    refine ⟨[],o1++[kk.l,kk.D],rfl,⟨?_,?_⟩,bi.2 ⟨o1,[kk.l,kk.D],rfl,?_,bi.2 ⟨[],[kk.l,kk.D],rfl,wH ts fun t ht => ?_,[kk.l,kk.D],[],rfl,⟨?_,trivial⟩,rfl⟩⟩⟩
    ·have:V1 (.slot p)=v:=by simp only [V1]; rw [hdef,if_pos rfl]
     show R g1 V1 W (encY x) (V1 (.slot p)) []
     rw [this]
     exact cl (g:=cv W Imm Im) (g':=g1) (fun _ h=>h) (encY x) v [] (hey x).1 (.inl fun _ h=>h) hv
    ·have:=(hey x).2
     generalize encY x=av at this
     cases av <;> first | trivial | (simp [dY] at this)
    ·refine oy (g:=cv W Imm Im) (g':=g1) (V:=V) (V':=V1) (fun _ h=>h) (fun _ h=>h) (fun _ _=>rfl) (I s) o1 (hcl s) (fun t ht => ?_) hes
     rw [hpin t ht]
     simp only [V1]
     rw [hdef,if_neg (hnp t (by rw [← hts s]; exact ht))]
    ·simp only [V1]
     rw [hdef,if_neg (hnp t ht)]
    ·simp only [R]
     exact ⟨rfl,hne,hl,hD⟩
theorem oo {X S O A:Type} {gl:List (Nat×List Value)} {caps:List AV} {encY:X→AV} {it:(X→S⊕O→Option ((S⊕O)×Bool))→S⊕O→Option (S⊕O)} {step:X→S→Option (S⊕O)} {s0:S} {k:S→Option A} {e:O→Option A} {r:A}
  (h:aF (jK it step s0) k e=some r) (f tf p j n:Nat) (ts:List Nat) {asg body:Code} {es:List aO}
  (hrun:∀ args w,(callFunc f args).run P w = .ok (.enter f args) w) (I:S→List aO) (E:O→List aO)
  (gK:∀ (l:Nat) (J:S⊕O→iZ) (Y:X→S⊕O→Option ((S⊕O)×Bool)),nm P l encY Y J→∀ t t':S⊕O,it Y t=some t'→DP P gl f l caps (J t) (J t'))
  (hn:g0.n=n) (hes:(tf,.cloB f caps)::I s0=es) (hts:∀ s,(I s).map (·.1)=ts) (hcl:∀ s,(I s).all (fun e=>bk e.2)=true) (hclE:∀ o,(E o).all (fun e=>bk e.2)=true)
  (hp:(ts.all (fun t => !Nat.beq t p))=true) (hpn:Nat.blt p n=true) (hey:∀ x,bk (encY x)=true∧dY (encY x)=true) (hcc:br caps=true) (hgl:Eg gl (I s0))
  (hround:∀ (kk:tl) (g1:Gh),g1.n=n→g1.ds=[]→∀ x s u,step x s=some u→HT (some kk.l) P (Fh P kk body (nZ g1.Imm g1.Im g1.io g1.w0 (kk.J I E u) u.isLeft)) g1 asg ((p,encY x)::(I s++(vt kk.tm ts++[(j,.inv kk.ready)]))))
  (hk:∀ D s,k s=some r→PT Q { g0 with ds:=D::g0.ds } .normal (I s)) (he:∀ D o,e o=some r→PT Q { g0 with ds:=D::g0.ds } .ret (E o)):HT none P Q g0 (.rangeFunc (.tmp tf) #[p] asg body) es:=by
 subst hes
 intro g a w hg hs
 obtain ⟨u,hm,hkl,hkr⟩:=mE h
 obtain ⟨V,o,hst,oC,oI,rfl,⟨hR,_⟩,hes⟩:=hs
 simp only [R] at hR
 obtain ⟨xs,hx,hRs⟩:=hR
 have hsz:a.tmps.size=n:=by rw [hst.size,hg.n,hn]
 refine wpIn_rangeFunc (F:=FW none) (n:=0) fun fn hfn => ?_
 let D:=w.heap.size
 let kk:tl:=⟨w.heap.size+1,D,fn,a.tmps,#[p],asg,body⟩
 obtain ⟨W1,hW1⟩:∃ W1,(w.alloc (.deferred (some []))).alloc (.loop (kk.rc .ready none))=W1:=⟨_,rfl⟩
 have hS1:W1.heap.size=w.heap.size+2:=by rw [← hW1]; simp
 have hL1:W1.heap[w.heap.size+1]? = some (.loop (kk.rc .ready none)):=by
  rw [← hW1]; have:=World.alloc_heap_new (w.alloc (.deferred (some []))) (.loop (kk.rc .ready none)); rwa [World.size_alloc] at this
 have hK1:W1.heap[w.heap.size]? = some (.deferred (some [])):=by
  rw [← hW1]; exact (heap_alloc _ _ _ (by simp)).trans (World.alloc_heap_new w _)
 have hold:∀ b,b<w.heap.size→W1.heap[b]? = w.heap[b]? := fun b hb=>by
  rw [← hW1]; exact (heap_alloc _ _ b (by simp; omega)).trans (heap_alloc w _ b hb)
 have hch1:ei [] w W1:=by rw [← hW1]; exact (ei.alloc [] w _).trans (ei.alloc [] _ _)
 have hfv:a.eval (.tmp tf) = .func (.func f) #[] xs.toArray:=by simp only [Act.eval,← hst.val]; exact hx
 have hownlt:∀ b∈oC++oI,b<w.heap.size:=fun b hb=>(hst.own b hb).1
 have hYO:=sI (P:=P) (asg:=asg) (body:=body) (j:=j) I E hts hcl hp (lV.1 hpn) hey hround kk (by simp [kk,hsz]) rfl rfl rfl
 refine ⟨w.heap.size+1,[{ target := .collected w.heap.size,args := #[] }],W1,{ target := .fn (.func f) xs.toArray,args := #[.func (.yield (w.heap.size+1)) #[] #[]] },W1,f,
  #[.func (.yield (w.heap.size+1)) #[] #[]]++xs.toArray,W1,?_,?_,fun _ _=>trivial,?_,fun h=>by simp [FW,Fence.wide] at h,?_⟩
 ·rw [← hW1]; exact run_enterLoop_outer _ _ _ _ _
 ·simp only [resolve,hfv]
  simp [go_sem]
 ·simp [invoke,go_sem,hrun]
 ·have hstab:∀ b,(b∈oC++oI∨g.imm b)→W1.heap[b]? = w.heap[b]? := fun b hb=>hold b (by
   rcases hb with hb | hb
   ·exact hownlt b hb
   ·exact hst.imm b hb)
  have hEs1:Es g V W1 (I s0) oI:=fv (W:=[]) (fun _ h=>h) (fun _ h=>h) (fun _ _=>rfl) _ oI (fun e _=>gW e) (fun b hb=>hstab b (hb.imp (fun h=>by simp [h]) id)) hes
  have hRs1:Rs (cv W1 g.Imm g.Im) V0 W1 caps xs oC:=cn (g:=g) (g':=cv W1 g.Imm g.Im) (V:=V) (V':=V0) (fun _ h=>h) caps xs oC hcc (.inl fun _ h=>h)
   (cT (W:=[]) (fun _ h=>h) (fun _ h=>h) (fun _ _=>rfl) caps xs oC (eC caps) (fun b hb=>hstab b (hb.imp (fun h=>by simp [h]) id)) hRs)
  have hgok:=hgl g V W1 oI hEs1
  have hne:kk.l≠kk.D:=by simp [kk,D]
  have hcall:=gK kk.l (kk.J I E) (gB step) hYO (.inl s0) u hm g.Imm g.Im W1 xs oC (oI++[kk.l,kk.D]) (fun b hb=>Nat.lt_of_lt_of_le (hst.imm b hb) hch1.size) hgok hRs1
   ⟨V,oI,fun t _=>hst.val t,rfl,fv (W:=[]) (g:=g) (g':=cv W1 g.Imm g.Im) (fun _ h=>h) (fun _ h=>h) (fun _ _=>rfl) _ oI (fun e _=>gW e) (fun _ _=>rfl) hEs1,hne,hL1,hK1⟩
   (by
    rw [← List.append_assoc]
    refine List.nodup_append.2 ⟨hst.nodup,by simp [hne],fun b hb c hc e => ?_⟩
    subst e
    have:=hownlt b hb
    simp [kk,D] at hc
    omega)
   (fun b hb=>by
    rw [← List.append_assoc] at hb
    rcases List.mem_append.1 hb with hb | hb
    ·exact ⟨Nat.lt_of_lt_of_le (hownlt b hb) hch1.size,(hst.own b hb).2.2⟩
    ·have hbw:w.heap.size≤b∧b<w.heap.size+2:=by simp [kk,D] at hb; omega
     exact ⟨by omega,fun hi=>by have:=hst.imm b hi; omega⟩)
  have hcall':CallsIn (FW none) (0-1) P f (#[.func (.yield (w.heap.size+1)) #[] #[]]++xs.toArray) W1 (BN (oC++(oI++[kk.l,kk.D])) g.Imm g.Im W1 (kk.J I E u)):=(callsIn_wide (n:=0-1)).2 hcall
  refine hcall'.mono ?_
  rintro ee W2 ⟨⟨vv,rfl⟩,hch2,Imm',o',hI',hnew',hJ',hnd',ho'⟩
  -- behind the iterator
  have fin:∀ (es':List aO) (st:LoopState) (pe:Option Code),st ≠ .busy→es'.all (fun e=>bk e.2)=true→(BD es' kk.tm kk.l kk.D (kk.rc st pe)).P Imm' g.Im o' W2 →
    ∃ w4,(Instr.endLoop kk.l).run P W2 = .ok pe w4∧∃ g',Gh.le { g0 with ds:=D::g0.ds } g'∧fR g' es' { a with defers:=[{ target := .collected w.heap.size,args := #[] }]++a.defers } w4:=by
   intro es' st pe hst' hclo hP
   obtain ⟨V2,oE,hpin2,rfl,hes2,_,hl2,hD2⟩:=hP
   have hend:=run_endLoop (P:=P) hl2 hst'
   have hlt:kk.l<W2.heap.size:=(Array.getElem?_eq_some_iff.1 hl2).1
   refine ⟨_,hend,⟨g.n,g.w0,g.io,Imm',g.Im,D::g.ds⟩,⟨hg.n,hg.w0,hg.io,hg.Im,by simp [hg.ds],fun b hb=>hI' b (hg.Imm b hb),fun b hb => ?_⟩,?_⟩
   ·rcases hnew' b hb with h | h | h
    ·exact hg.new b h
    ·rw [← List.append_assoc] at h
     rcases List.mem_append.1 h with h | h
     ·have:=(hst.own b h).2.1
      rw [hg.w0,hg.io] at this
      exact .inr this
     ·refine .inr (.inl ?_)
      have h1:w.heap.size≤b:=by simp [kk,D] at h; omega
      have:=hst.chg.size
      rw [hg.w0] at this
      show g0.w0.heap.size≤b
      omega
    ·refine .inr (.inl ?_)
     have:=hst.chg.size
     rw [hg.w0] at this
     show g0.w0.heap.size≤b
     omega
   ·have hlo:kk.l ∉ oE:=fun hm=>(List.nodup_append.1 hnd').2.2 _ hm _ (by simp) rfl
    have hDo:kk.D ∉ oE:=fun hm=>(List.nodup_append.1 hnd').2.2 _ hm _ (by simp) rfl
    have hnotin:∀ E'∈g.ds,E' ∉ oC++(oI++[kk.l,kk.D]):=fun E' hE hm=>by
     rw [← List.append_assoc] at hm
     have hE1:=(hst.marks E' hE)
     have hElt:E'<w.heap.size:=(Array.getElem?_eq_some_iff.1 hE1.1).1
     rcases List.mem_append.1 hm with hm | hm
     ·exact hE1.2.1 hm
     ·simp [kk,D] at hm; omega
    let V3:bN→Value:=fun l=>match l with | .slot t=>a.tmps.getD t undef | .cell t i=>V2 (.cell t i)
    refine ⟨V3,oE,⟨fun _=>rfl,hst.size,?_,?_,fun E' hE => ?_,(List.nodup_append.1 hnd').1,fun b hb => ?_,fun b hb => ?_,?_⟩,?_⟩
    ·show [({ target := .collected w.heap.size,args := #[] }:Deferred)]++a.defers=(D::g.ds).map zH
     rw [hst.defers]; rfl
    ·refine List.nodup_cons.2 ⟨fun hm => ?_,hst.dnd⟩
     have:=(Array.getElem?_eq_some_iff.1 (hst.marks _ hm).1).1
     simp [D] at this
    ·rcases List.mem_cons.1 hE with rfl | hE
     ·refine ⟨(World.putObj_heap_other (by simp [kk,D])).trans hD2,hDo,by have:=hst.chg.size; simpa [D] using this,?_⟩
      exact (ho' kk.D (by simp)).2.2
     ·obtain ⟨k1,k2,k3,k4⟩:=hst.marks E' hE
      have hElt:E'<w.heap.size:=(Array.getElem?_eq_some_iff.1 k1).1
      have h2:W2.heap[E']? = some (.deferred (some [])):=(hch2.block E' (by omega) (hnotin E' hE)).trans ((hold E' hElt).trans k1)
      refine ⟨(World.putObj_heap_other (by simp only [kk]; omega)).trans h2,fun hm => ?_,k3,fun hi => ?_⟩
      ·rcases (ho' E' (by simp [hm])).1 with h3 | h3
       ·exact hnotin E' hE h3
       ·omega
      ·rcases hi with hi | hi
       ·rcases hnew' E' hi with h3 | h3 | h3
        ·exact k4 (.inl h3)
        ·exact hnotin E' hE h3
        ·omega
       ·exact k4 (.inr hi)
    ·obtain ⟨k1,k2,k3⟩:=ho' b (by simp [hb])
     refine ⟨by simpa using k2,?_,k3⟩
     rcases k1 with k1 | k1
     ·rw [← List.append_assoc] at k1
      rcases List.mem_append.1 k1 with k1 | k1
      ·exact (hst.own b k1).2.1
      ·have h5:b=kk.l∨b=kk.D:=by simpa using k1
       rcases h5 with h5 | h5
       ·exact absurd (h5 ▸ hb) hlo
       ·exact absurd (h5 ▸ hb) hDo
     ·have:=hst.chg.size
      exact .inl (show g.w0.heap.size≤b by omega)
    ·have h6:b<W2.heap.size:=by
      rcases hb with hb | hb
      ·rcases hnew' b hb with h | h | h
       ·exact Nat.lt_of_lt_of_le (hst.imm b (.inl h)) (Nat.le_trans hch1.size hch2.size)
       ·rw [← List.append_assoc] at h
        rcases List.mem_append.1 h with h | h
        ·exact Nat.lt_of_lt_of_le (hownlt b h) (Nat.le_trans hch1.size hch2.size)
        ·have h8:b<w.heap.size+2:=by simp [kk,D] at h; omega
         have:=hch2.size
         omega
       ·exact h.2
      ·exact Nat.lt_of_lt_of_le (hst.imm b (.inr hb)) (Nat.le_trans hch1.size hch2.size)
     simpa using h6
    ·refine (hst.chg.trans' (U:=[]) (hch1) (by simp)).trans' (U:=kk.l::(oC++(oI++[kk.l,kk.D]))) ?_ ?_
     ·exact (hch2.mono (by intro x hx; simp only [List.mem_cons]; exact .inr hx)).trans ⟨rfl,rfl,rfl,by simp,fun k _ hk=>World.putObj_heap_other (by simp only [List.mem_cons,not_or] at hk; exact hk.1)⟩
     ·intro x hx
      have hw0:=hst.chg.size
      rcases List.mem_cons.1 hx with rfl | hx
      ·exact .inr (by simp only [kk]; omega)
      ·rw [← List.append_assoc] at hx
       rcases List.mem_append.1 hx with hx | hx
       ·exact (hst.own x hx).2.1.symm
       ·exact .inr (by simp [kk,D] at hx; omega)
    ·refine oy (g:=cv W2 Imm' g.Im) (g':=⟨g.n,g.w0,g.io,Imm',g.Im,D::g.ds⟩) (V:=V2) (V':=V3) (fun _ h=>h) (fun _ h=>h) (fun _ _=>rfl) es' oE hclo (fun t ht=>(hpin2 t ht).symm) ?_
     refine fv (W:=[]) (g:=cv W2 Imm' g.Im) (g':=cv W2 Imm' g.Im) (fun _ h=>h) (fun _ h=>h) (fun _ _=>rfl) es' oE (fun e _=>gW e) (fun b hb=>World.putObj_heap_other fun e => ?_) hes2
     subst e
     rcases hb with hb | hb
     ·exact hlo hb
     ·exact (ho' kk.l (by simp)).2.2 hb
  cases u with
  | inl s =>
   obtain ⟨w4,hend,g',hle,hsat⟩:=fin (I s) .ready none (by simp) (hcl s) hJ'
   exact ⟨none,w4,hend,hk D s (hkl s rfl) g' _ w4 hle hsat⟩
  | inr q =>
   obtain ⟨w4,hend,g',hle,hsat⟩:=fin (E q) .done (some .ret) (by simp) (hclE q) hJ'
   exact ⟨some .ret,w4,hend,wpIn_ret (he D q (hkr q rfl) g' _ w4 hle hsat)⟩
end
end Go.Abs
end
section
namespace Go.Abs
section
variable {P:Program} {ty:TypeId} {pos:String} {aft:Array Edge} {gd:Option (Nat×Bool)}
end
section
variable {P:Program} {ty:TypeId} {pos:String} {aft:Array Edge} {gd:Option (Nat×Bool)}
end
end Go.Abs
end
section
namespace Go.Abs
namespace Sh
def dX (s sep:Hd):Option Int:=match sep.data.toList with
 | [c]=>some (Lib.indexByte s.data.toList c)
 | _=>none
@[reducible] def ra (s sep:Hd):Option Int:=dX s sep
def strings_IndexByte (s:Hd) (c:Int):Option Int:=some (Lib.indexByte s.data.toList c.toNat.toUInt8)
@[reducible] def nY (s:Hd) (c:Int):Option Int:=strings_IndexByte s c
end Sh
theorem un {g:Gh} {V:bN→Value} {w:World} {a b:Value} {xs:List Value} (h:Rs g V w [.v a,.v b] xs []):xs=[a,b]:=by
 obtain ⟨x,y,rfl,h1,h2⟩:=rm h
 simp only [R] at h1 h2
 rw [h1.1,h2.1]
theorem mP {P:Program} {f:Nat}
  (c1:∀ (s:Hd) (c:UInt8) (w:World),Calls P f #[.string s,.string ⟨#[c]⟩] w fun e w'=>e = .returned (.int .i64 (Lib.indexByte s.data.toList c))∧w'=w)
  (s sub:Hd) (r:Int) (h:Sh.dX s sub=some r):cg P f [.v (.string s),.v (.string sub)] (.v (.int .i64 r)):=by
 obtain ⟨⟨l⟩⟩:=sub
 unfold Sh.dX at h
 split at h
 ·rename_i c hc
  dsimp only at hc
  subst hc
  cases h
  intro Imm Im w xs himm hR
  have:=un hR
  subst this
  refine (c1 s c w).mono ?_
  rintro e w' ⟨rfl,rfl⟩
  exact kZ rfl (.inl rfl) (by simp [R])
 ·cases h
theorem kH {P:Program} {f:Nat}
  (c1:∀ (s:Hd) (c:Int) (w:World),Calls P f #[.string s,.int .u8 c] w fun e w'=>e = .returned (.int .i64 (Lib.indexByte s.data.toList c.toNat.toUInt8))∧w'=w)
  (s:Hd) (c r:Int) (h:Sh.strings_IndexByte s c=some r):cg P f [.v (.string s),.v (.int .u8 c)] (.v (.int .i64 r)):=by
 unfold Sh.strings_IndexByte at h
 cases h
 intro Imm Im w xs himm hR
 have:=un hR
 subst this
 refine (c1 s c w).mono ?_
 rintro e w' ⟨rfl,rfl⟩
 exact kZ rfl (.inl rfl) (by simp [R])
section
variable {P:Program} {ty:TypeId} {pos:String} {aft:Array Edge} {gd:Option (Nat×Bool)}
theorem tV (N:List aO) (d:Nat) {T e:TypeId} (x y:Operand) {kd:IntKind} (n b k i z:Nat) (m:Int) (hT:P.underlying T=some (.array n e)) (hz:(P.info? e).map (·.size)=some z)
  (hx:rd N x = .v (.pointer (some ⟨b,k,none⟩))) (hy:rd N y = .v (.int kd m)) (hm:m=(i:Int)) (hi:i<n):aY P ⟨some d,.indexAddr T x y,ty,pos,aft,gd⟩ N [] [(d,.v (.pointer (some ⟨b,k+i * z,none⟩)))] [.slot d]:=by
 subst hm
 refine aY.v rfl fun g V oN a w hp => ?_
 have h2:=dD hp.val hp.esN hx
 have h3:=dD hp.val hp.esN hy
 simp [execOp,Instr.indexAt,Sem.run_bind,run_underlying hT,h2,h3,asIntOf,Instr.sureAddr,bE hz,hi,dV]
end
theorem oh {H:Type} {enc:TypeId×Value→H} {P:Program} {w:World} {base:Nat} {spare:Nat→Bool} {held:Bool} {fuel t:Nat} {k:IntKind} {x:Int} {cs:List Value} {p:List MemPlace} (ht:P.underlying t=some (.int k))
  (h:DataW.trod enc P w base spare held fuel t cs=some (.lit (.int k x),p)):cs=[.int k x]:=by
 obtain ⟨n,h1,h2,_⟩:=DataW.trod_int ht h
 have h3:n=x:=by simpa using (Prod.mk.inj h2).1.symm
 rw [h1,h3]
theorem mw {α:Type} (c:Nat):∀ (rs:List (List α)) (cs:List α),cs.length=rs.length * c→(∀ (i:Nat) (r:List α),rs[i]? = some r→(cs.drop (i * c)).take c=r)→cs=rs.flatten
 | [],cs,hl,_=>by simpa using hl
 | r::rs,cs,hl,h=>by
  have h0:=h 0 r rfl
  simp only [Nat.zero_mul,List.drop_zero] at h0
  have ih:=mw c rs (cs.drop c) (by simp only [List.length_drop,hl,List.length_cons,Nat.succ_mul]; omega) (fun i q hq=>by
   have:=h (i+1) q (by simpa using hq)
   rw [List.drop_drop]
   rwa [Nat.succ_mul,Nat.add_comm] at this)
  rw [List.flatten_cons,← ih,← h0,List.take_append_drop]
theorem Ab {α β:Type} (f:α→β):∀ l:List α,(l.map fun x=>[f x]).flatten=l.map f
 | []=>rfl
 | a::l=>by simp [Ab f l]
theorem EO {H:Type} {enc:TypeId×Value→H} {P:Program} {w:World} {base:Nat} {spare:Nat→Bool} {held:Bool} {fuel t e n:Nat} {k:IntKind} {ns:List Int} {cs:List Value} {p:List MemPlace}
  (ht:P.underlying t=some (.array n e)) (he:P.underlying e=some (.int k)) (hc:P.cellsOf e=1) (hn:P.cellsOf t=n)
  (h:DataW.trod enc P w base spare held fuel t cs=some (.agg (ns.map fun x => .lit (.int k x)),p)):cs=ns.map (Value.int k):=by
 obtain ⟨xs,m,_,hx,hl,hxs,hel⟩:=DataW.trod_array ht h
 have hx':xs.map (·.1)=ns.map fun x=>(.lit (.int k x):DataW H):=(DataW.agg.inj (Prod.mk.inj hx).1).symm
 have hln:ns.length=n:=by have:=congrArg List.length hx'; simp only [List.length_map] at this; omega
 have:=mw 1 (ns.map fun x=>[Value.int k x]) cs (by simp only [List.length_map]; omega) (fun i r hr=>by
  simp only [List.getElem?_map,Option.map_eq_some_iff] at hr
  obtain ⟨x,hx1,rfl⟩:=hr
  have hi:i<n:=by have:=(List.getElem?_eq_some_iff.1 hx1).1; omega
  have h1:=hel i hi
  rw [hc] at h1
  have h2:(xs.map (·.1))[i]? = some (.lit (.int k x)):=by rw [hx']; simp [hx1]
  rw [List.getElem?_map,Option.map_eq_some_iff] at h2
  obtain ⟨⟨y,q⟩,h3,h4⟩:=h2
  rw [h3] at h1
  cases h4
  exact oh he h1)
 rw [this,Ab]
theorem qD {P:Program} {W:World} {n:String} {g:Nat} {cs:Array Value} {vs:List Value} (hg:P.globalNamed n=some g) (hv:W.var? P n=some cs) (h:cs.toList=vs) :
  ∀ j,W.cell? ⟨g,j,none⟩=vs[j]? := by
 intro j
 rw [World.var?_cell hg hv j,← h]
 simp
theorem zP {g:Gh} {es:List aO} {a:Act} {w:World} (i:Nat) (h:fR g es a w):∃ g',g.le g'∧fR g' (es.modify i fun e=>(e.1,nt e.2)) a w:=by
 obtain ⟨V,o,hst,hes⟩:=h
 obtain ⟨o',o2,hp,hr⟩:=zI es i o hes
 have hin:∀ b,b∈o'∨b∈o2→b∈o:=fun b hb=>hp.mem_iff.2 (List.mem_append.2 hb)
 have hnd:=List.nodup_append.1 (hp.nodup_iff.1 hst.nodup)
 refine ⟨{ g with Imm:=fun b=>g.Imm b∨b∈o2 },⟨rfl,rfl,rfl,rfl,rfl,fun b hb => .inl hb,fun b hb=>hb.imp id fun hb=>(hst.own b (hin b (.inr hb))).2.1⟩,V,o',
  ⟨hst.val,hst.size,hst.defers,hst.dnd,fun D hD => ?_,hnd.1,fun b hb => ?_,fun b hb => ?_,hst.chg⟩,hr _ (fun b hb => .inl hb) (fun b hb=>hb) (fun b hb => .inr hb)⟩
 ·obtain ⟨h1,h2,h3,h4⟩:=hst.marks D hD
  exact ⟨h1,fun hm=>h2 (hin D (.inl hm)),h3,fun h5=>h5.elim (fun h6=>h6.elim (fun h7=>h4 (.inl h7)) fun h7=>h2 (hin D (.inr h7))) fun h6=>h4 (.inr h6)⟩
 ·have:=hst.own b (hin b (.inl hb))
  exact ⟨this.1,this.2.1,fun h5=>h5.elim (fun h6=>h6.elim (fun h7=>this.2.2 (.inl h7)) fun h7=>hnd.2.2 b hb b h7 rfl) fun h6=>this.2.2 (.inr h6)⟩
 ·rcases hb with (h1 | h1) | h1
  ·exact hst.imm b (.inl h1)
  ·exact (hst.own b (hin b (.inr h1))).1
  ·exact hst.imm b (.inr h1)
theorem qR {A:Type} (f:A→A) (i:Nat):∀ (a b c:List A),i<b.length→(a++(b++c)).modify (a.length+i) f=a++(b.modify i f++c)
 | [],b,c,h=>by
  simp only [List.nil_append,List.length_nil,Nat.zero_add]
  induction b generalizing i with
  | nil=>cases h
  | cons x b ih =>
   cases i with
   | zero=>rfl
   | succ i =>
    have:=ih i (by simpa using h)
    simpa using this
 | x::a,b,c,h=>by
  have:=qR f i a b c h
  simp only [List.cons_append,List.length_cons,Nat.add_right_comm _ 1 i]
  simpa using this
theorem aY.frzG {P:Program} {o:Oper} {N T G G':List aO} {W:List bN} (i:Nat) (h:aY P o N T G W) (hi:i<G.length) (he:(G.modify i fun e=>(e.1,nt e.2))=G'):aY P o N T G' W:=by
 subst he
 intro g F a w K Q hd hs hc hk
 refine h g F a w K Q hd hs hc fun g' a' w' hle hs' => ?_
 obtain ⟨g2,hle2,hs2⟩:=zP (N.length+i) hs'
 rw [qR _ i N G F hi] at hs2
 exact hk g2 a' w' (hle.trans hle2) hs2
end Go.Abs
end
section
namespace Go.Abs
set_option linter.unusedVariables false
namespace Sh
end Sh
def gD (w:World):Gh:=⟨0,w,[],fun _=>False,fun _=>False,[]⟩
theorem tg {g g':Gh} {V V':bN→Value} {w:World} {e:TypeId} {z:Nat} {xs:List Value} {x:Value} {o:List Nat} (h:R g V w (.fl (.own e) z xs) x o):R g' V' w (.fl (.own e) z xs) x o:=by
 simp only [R,ck] at *; exact h
theorem zU {g:Gh} {V:bN→Value} {w w':World} {e:TypeId} {z:Nat} {xs:List Value} {x:Value} {o:List Nat} (hw:∀ b,b∈o→w'.heap[b]? = w.heap[b]?) (h:R g V w (.fl (.own e) z xs) x o):R g V w' (.fl (.own e) z xs) x o :=
 tg (gH (g:=gD w) (g':=gD w) (V:=V) (V':=V) (W:=[]) (fun _ h=>h) (fun _ h=>h) (fun _ _=>rfl) (.fl (.own e) z xs) x o rfl (fun b hb=>hb.elim (hw b) (fun h=>h.elim False.elim False.elim)) (tg h))
def CD (T e:TypeId) (u:Bool) (v:Value) (xs:List Value) (x:Value) (o:List Nat) (w:World):Prop :=
 ∃ (b:Nat) (p:Value) (o2:List Nat),x = .pointer (some ⟨b,0,none⟩)∧o=b::o2∧w.heap[b]? = some (.cells #[p,v] T (0,0))∧(p = .pointer (some ⟨b,0,none⟩)∨(u=false∧p = .pointer none))∧R (gD w) V0 w (.fl (.own e) 1 xs) v o2
theorem CD.stab {T e:TypeId} {u:Bool} {v:Value} {xs:List Value} {x:Value} {o:List Nat} {w w':World} (h:CD T e u v xs x o w) (hw:∀ b∈o,w'.heap[b]? = w.heap[b]?):CD T e u v xs x o w':=by
 obtain ⟨b,p,o2,h1,rfl,h3,h4,h5⟩:=h
 exact ⟨b,p,o2,h1,rfl,by rw [hw b (by simp)]; exact h3,h4,tg (zU (fun c hc=>hw c (by simp [hc])) h5)⟩
section
variable {g:Gh} {P:Program} {Q:Exit→Act→World→Prop} {g0:Gh} {rnd:Option Nat}
end
section
variable {P:Program}
end
section
variable {P:Program} {ty:TypeId} {pos:String} {aft:Array Edge} {gd:Option (Nat×Bool)}
end
namespace Sh
end Sh
namespace Sh
end Sh
def CA (P:Program) (gl:List (Nat×List Value)) (f:FuncId) (args posts:List AV) (res:AV):Prop :=
 ∀ (Imm Im:Nat→Prop) (w:World) (xs:List Value) (o0:List Nat),(∀ b,Imm b∨Im b→b<w.heap.size)→Br gl (fun b=>Imm b∨Im b) w→Rs (cv w Imm Im) V0 w args xs o0→o0.Nodup→(∀ b∈o0,b<w.heap.size∧¬ (Imm b∨Im b)) →
  Calls P f xs.toArray w (Au xs posts o0 Imm Im w res)
theorem CA.args {P:Program} {gl:List (Nat×List Value)} {f:FuncId} {args args' posts:List AV} {res:AV} (h:CA P gl f args' posts res) (hs:qM args args'):CA P gl f args posts res:=fun Imm Im w xs o0 hi hg hr=>h Imm Im w xs o0 hi hg (hs _ _ _ _ _ hr)
section
variable {P:Program} {Q:Exit→Act→World→Prop} {g0:Gh} {rnd:Option Nat}
end
section
variable {P:Program} {ty:TypeId} {pos:String} {aft:Array Edge} {gd:Option (Nat×Bool)}
end
namespace Sh
end Sh
section
variable {P:Program} {ty:TypeId} {pos:String} {aft:Array Edge} {gd:Option (Nat×Bool)}
end
section
variable {P:Program} {ty:TypeId} {pos:String} {aft:Array Edge} {gd:Option (Nat×Bool)}
theorem nR (N:List aO) (d f t:Nat) (h:d≠t):aY P ⟨some d,.makeFunc (.func f) #[] #[.tmp t],ty,pos,aft,gd⟩ N [] [(d,.clo f [t])] [.slot d]:=by
 refine aY.value rfl (by simp [eX,gK,h]) rfl fun g V oN a w hp=>⟨.func (.func f) #[] #[V (.slot t)],?_,by simp [R]⟩
 have:=hp.val t
 simp [execOp,Instr.makeFunc,Act.eval,this]
theorem Cd {g:Gh} {V:bN→Value} {w:World}:∀ {cs ys:List Value} {o:List Nat},Rs g V w (cs.map .v) ys o→ys=cs
 | [],_,_,h=>by simp only [List.map_nil,Rs] at h; exact h.1
 | c::cs,_,_,h=>by
  simp only [List.map_cons,Rs,R] at h
  obtain ⟨x,l,o1,o2,rfl,_,⟨rfl,_⟩,h2⟩:=h
  rw [Cd h2]
theorem yj (N:List aO) (d t u:Nat) (f fc:FuncId) {cal:Operand} {args:Array Operand} {ats:Array TypeId} {T:TypeId} (cs:List Value) (xs:List Operand) (avs:List AV) (res:AV) (hcal:rd N cal = .v (.func (.func f) #[] #[])) (hrun:∀ args w,(callFunc f args).run P w = .ok (.enter f args) w)
  (hargs:(xs++[Operand.tmp u]).toArray=args) (hav:xs.map (lx N)=avs) (hu:look N u = .clo fc [t]) (hb:look N t = .box T (cs.map .v))
  (hf:∀ b,kM P [(b,cs)] f (avs++[.v (.func (.func fc) #[] #[.pointer (some ⟨b,0,none⟩)])]) res) (hcl:bk res=true) (hsh:fS res=true) :
  aY P ⟨some d,.call ⟨.value cal,args,ats⟩,ty,pos,aft,gd⟩ N [] [(d,res)] [.slot d]:=by
 subst hargs
 refine aY.fresh rfl (dB _ _ hcl) fun g V oN a w hp => ?_
 have hcv:=dD hp.val hp.esN hcal
 have hr:(execOp a.eval ⟨some d,.call ⟨.value cal,(xs++[Operand.tmp u]).toArray,ats⟩,ty,pos,aft,gd⟩).run P w = .ok (.enter f ((xs++[Operand.tmp u]).toArray.map a.eval)) w:=by
  simp [execOp,resolve,hcv,Deferred.ofValue,invoke,hrun]
 obtain ⟨b,ys,os,hV,hh,hrs,_,hmem⟩:=ki hp.esN hb
 obtain rfl:=Cd hrs
 obtain ⟨oc,_,hce,_⟩:=ez hp.esN u
 dsimp only at hce
 rw [hu] at hce
 simp only [R,List.map_cons,List.map_nil] at hce
 have hev:a.eval (Operand.tmp u) = .func (.func fc) #[] #[.pointer (some ⟨b,0,none⟩)]:=by
  have:=hp.val u
  simp only [Act.eval]
  rw [← this,hce.1,hV]
 have hargs:Rs (cv w g.Imm (fun b=>g.Im b∨b∈oN)) V0 w (avs++[.v (.func (.func fc) #[] #[.pointer (some ⟨b,0,none⟩)])]) ((xs++[Operand.tmp u]).map a.eval) []:=by
  rw [List.map_append]
  refine dj.2 ⟨_,_,[],[],rfl,rfl,?_,?_⟩
  ·rw [← hav]
   exact gC (g:=g) (g':=cv w g.Imm (fun b=>g.Im b∨b∈oN)) rfl (fun b hb=>hb) hp.val hp.esN _
  ·simp only [List.map_cons,List.map_nil,Rs,R,hev]
   exact ⟨_,_,[],[],rfl,rfl,⟨rfl,rfl⟩,rfl,rfl⟩
 have hc:=hf b g.Imm (fun b=>g.Im b∨b∈oN) w _ (fun b hb=>by
  rcases hb with hb | hb | hb
  ·exact hp.imm b (.inl hb)
  ·exact hp.imm b (.inr hb)
  ·exact (hp.own b (by simp [hb])).1) (fun p hp'=>by
  simp only [List.mem_cons,List.not_mem_nil,or_false] at hp'
  subst hp'
  refine ⟨.inr (.inr (hmem b (by simp))),fun j => ?_⟩
  rw [cell_of_row w b j _ T (0,0) hh]
  simp) hargs
 have ea:((xs++[Operand.tmp u]).map a.eval).toArray=(xs++[Operand.tmp u]).toArray.map a.eval:=by simp
 rw [ea] at hc
 refine Yl.call hr (hc.mono ?_)
 rintro e w' ⟨x,rfl,hchg,Imm',o,hI,hnew,hR,hnd,hfr⟩
 refine ⟨x,rfl,hchg,{ g with Imm:=fun b=>Imm' b },o,⟨rfl,rfl,rfl,rfl,rfl,hI,fun b hb => ?_⟩,hnew,?_,hnd,hfr⟩
 ·rcases hnew b hb with h | h
  ·exact .inl h
  ·exact .inr (.inl (Nat.le_trans hp.base h.1))
 ·exact cl (g:=cv w Imm' (fun b=>g.Im b∨b∈oN)) (g':={ g with Imm:=fun b=>Imm' b }) (fun _ h=>h) res x o hcl (.inr hsh) hR
theorem ln (N:List aO) (d:Nat) {s:TypeId} (x:Operand) (i:Nat) {fs:Array Field} {f:Field} (b off k2:Nat) {k:Nat} (hT:P.underlying s=some (.struct fs)) (hf:fs[i]? = some f) (hk:(P.info? f.type).map (·.size)=some (k+1))
  (hx:rd N x = .v (.pointer (some ⟨b,off,none⟩))) (hk2:off+f.offset=k2):aY P ⟨some d,.fieldAddr s x i,ty,pos,aft,gd⟩ N [] [(d,.v (.pointer (some ⟨b,k2,none⟩)))] [.slot d]:=by
 subst hk2
 refine aY.v rfl fun g V oN a w hp => ?_
 have h2:=dD hp.val hp.esN hx
 simp [execOp,Instr.fieldAt,Sem.run_bind,run_underlying hT,hf,h2,Instr.sureAddr,fieldPlace,bE hk,dV]
theorem zB (N:List aO) (d n:Nat) (f:FuncId) {gl gl':List (Nat×List Value)} {cal:Operand} {args:Array Operand} {ats:Array TypeId} (cap:Value) (avs:List AV) (res:AV) (hcal:rd N cal = .v (.func (.func f) #[] #[cap])) (hrun:∀ args w,(callFunc f args).run P w = .ok (.enter f args) w)
  (hav:args.toList.map (lx N)=avs) (hgl:look N n = .glob gl') (hsub:∀ p∈gl,p∈gl') (hf:kM P gl f (avs++[.v cap]) res) (hcl:bk res=true) (hsh:fS res=true) :
  aY P ⟨some d,.call ⟨.value cal,args,ats⟩,ty,pos,aft,gd⟩ N [] [(d,res)] [.slot d]:=by
 refine aY.fresh rfl (dB _ _ hcl) fun g V oN a w hp => ?_
 have hcv:=dD hp.val hp.esN hcal
 have hr:(execOp a.eval ⟨some d,.call ⟨.value cal,args,ats⟩,ty,pos,aft,gd⟩).run P w = .ok (.enter f (args.map a.eval ++ #[cap])) w:=by
  simp [execOp,resolve,hcv,Deferred.ofValue,invoke,hrun]
 have hargs:Rs (cv w g.Imm (fun b=>g.Im b∨b∈oN)) V0 w (avs++[.v cap]) (args.toList.map a.eval++[cap]) []:=by
  refine dj.2 ⟨_,_,[],[],rfl,rfl,?_,?_⟩
  ·rw [← hav]
   exact gC (g:=g) (g':=cv w g.Imm (fun b=>g.Im b∨b∈oN)) rfl (fun b hb=>hb) hp.val hp.esN _
  ·simp only [Rs,R]
   exact ⟨_,_,[],[],rfl,rfl,⟨rfl,rfl⟩,rfl,rfl⟩
 obtain ⟨og,_,hRg,_⟩:=ez hp.esN n
 dsimp only at hRg
 rw [hgl] at hRg
 simp only [R] at hRg
 have hc:=hf g.Imm (fun b=>g.Im b∨b∈oN) w _ (fun b hb=>by
  rcases hb with hb | hb | hb
  ·exact hp.imm b (.inl hb)
  ·exact hp.imm b (.inr hb)
  ·exact (hp.own b (by simp [hb])).1) (fun p hp'=>by
  obtain ⟨h1,h2⟩:=hRg.1 p (hsub p hp')
  exact ⟨h1.imp id .inl,h2⟩) hargs
 have ea:(args.toList.map a.eval++[cap]).toArray=args.map a.eval ++ #[cap]:=by
  apply Array.ext'
  simp
 rw [ea] at hc
 refine Yl.call hr (hc.mono ?_)
 rintro e w' ⟨x,rfl,hchg,Imm',o,hI,hnew,hR,hnd,hfr⟩
 refine ⟨x,rfl,hchg,{ g with Imm:=fun b=>Imm' b },o,⟨rfl,rfl,rfl,rfl,rfl,hI,fun b hb => ?_⟩,hnew,?_,hnd,hfr⟩
 ·rcases hnew b hb with h | h
  ·exact .inl h
  ·exact .inr (.inl (Nat.le_trans hp.base h.1))
 ·exact cl (g:=cv w Imm' (fun b=>g.Im b∨b∈oN)) (g':={ g with Imm:=fun b=>Imm' b }) (fun _ h=>h) res x o hcl (.inr hsh) hR
end
section
variable {P:Program} {ty:TypeId} {pos:String} {aft:Array Edge} {gd:Option (Nat×Bool)}
end
namespace Sh
def hH:List Int→Int
 | [] => -1
 | b::l=>if b=13∨b=10 then 0 else if hH l = -1 then-1 else hH l+1
def fG (s:List Int) (c:Hd):Option Int:=if c=⟨#[13,10]⟩∧s.length<4294967281∧s.all (fun x=>decide (0≤x∧x<256))=true then some (hH s) else none
end Sh
theorem Bj {w:World} {a:Addr} {v:Value} (h:w.cell? a=some v):a.block<w.heap.size∧a.spot=none:=by
 unfold World.cell? at h
 split at h
 ·rename_i c e f hh
  refine ⟨(Array.getElem?_eq_some_iff.1 hh).1,?_⟩
  split at h
  ·cases h
  ·rename_i hs
   cases hsp:a.spot with
   | none=>rfl
   | some _=>rw [hsp] at hs; exact absurd rfl hs
 all_goals cases h
theorem uy:∀ l:List Int,(∀ x∈l,0≤x∧x<256)→Lib.indexAny (l.map fun x=>UInt8.ofNat x.toNat) [13,10]=Sh.hH l
 | [],_=>rfl
 | b::l,h=>by
  have ih:=uy l fun x hx=>h x (List.mem_cons_of_mem _ hx)
  have hb:=h b List.mem_cons_self
  rw [List.map_cons]
  unfold Lib.indexAny Sh.hH
  rw [ih]
  have e:([13,10]:List UInt8).contains (UInt8.ofNat b.toNat)=decide (b=13∨b=10):=by
   rw [List.contains_eq_mem]
   refine decide_eq_decide.2 ?_
   simp only [List.mem_cons,List.not_mem_nil,or_false]
   have key:∀ k:Nat,k<256→(UInt8.ofNat b.toNat=UInt8.ofNat k↔b=(k:Int)):=fun k hk=>by
    constructor
    ·intro h
     have:=congrArg UInt8.toNat h
     simp [UInt8.toNat_ofNat'] at this
     omega
    ·intro h; rw [h]; rfl
   have k13:=key 13 (by decide)
   have k10:=key 10 (by decide)
   constructor
   ·rintro (h | h)
    ·exact .inl (k13.1 h)
    ·exact .inr (k10.1 h)
   ·rintro (h | h)
    ·exact .inl (k13.2 h)
    ·exact .inr (k10.2 h)
  rw [e]
  by_cases hc:b=13∨b=10
  ·rw [if_pos hc,if_pos (decide_eq_true hc)]
  ·rw [if_neg hc,if_neg (by rw [decide_eq_false hc]; simp)]
   by_cases hm:Sh.hH l = -1
   ·rw [if_pos hm,if_pos (beq_iff_eq.2 hm)]
   ·rw [if_neg hm,if_neg (by rw [beq_eq_false_iff_ne.2 hm]; simp)]
theorem mn {P:Program} {gl:List (Nat×List Value)} {f gb g1 g2:Nat} {mx:Int} {t1 t2:List Int} (hm:(gb,[.int .i64 mx])∈gl) (h1:(g1,List.map (Value.int .u8) t1)∈gl) (h2:(g2,List.map (Value.int .u8) t2)∈gl)
  (c1:∀ (s:Hd) (b off c:Nat) (w:World),s.size<4294967281→s.size≤c→b<w.heap.size→w.cell? ⟨gb,0,none⟩=some (.int .i64 mx)→gb<w.heap.size→(∀ i,i<t1.length→w.cell? ⟨g1,i,none⟩=some (.int .u8 (t1.getD i 0)))→(∀ i,i<t2.length→w.cell? ⟨g2,i,none⟩=some (.int .u8 (t2.getD i 0)))→(g1<w.heap.size∧g2<w.heap.size)→(∀ j,j<s.size→w.cell? ⟨b,off+j,none⟩=some (.int .u8 (s.get! j).toNat)) →
   Calls P f #[.slice (some ⟨b,off,none⟩) s.size c,.string ⟨#[13,10]⟩] w fun e w'=>e = .returned (.int .i64 (Lib.indexAny s.data.toList [13,10]))∧RowKit.Below w.heap.size w w')
  (c2:∀ (p:Option Addr) (c:Nat) (w:World),Calls P f #[.slice p 0 c,.string ⟨#[13,10]⟩] w fun e w'=>e = .returned (.int .i64 (-1))∧w'=w)
  (s:List Int) (ch:Hd) (r:Int) (h:Sh.fG s ch=some r):kM P gl f [.fl .shr 1 (List.map (Value.int .u8) s),.v (.string ch)] (.v (.int .i64 r)):=by
 unfold Sh.fG at h
 split at h
 case isFalse=>cases h
 rename_i hc
 cases h
 obtain ⟨rfl,h3,h4⟩:=hc
 have h5:∀ x∈s,0≤x∧x<256:=fun x hx=>of_decide_eq_true (List.all_eq_true.1 h4 x hx)
 intro Imm Im w xs himm hgl hR
 obtain ⟨x,y,rfl,hx,hy⟩:=rm hR
 obtain ⟨a,n,c,rfl,hnc,hn,hsa,hca⟩:=vk hx
 simp only [R] at hy
 obtain ⟨rfl,_⟩:=hy
 have glt:∀ {g:Nat} {vs:List Value},(g,vs)∈gl→g<w.heap.size:=fun hg=>himm _ (hgl _ hg).1
 have gc:∀ {g:Nat} {t:List Int},(g,List.map (Value.int .u8) t)∈gl→∀ i,i<t.length→w.cell? ⟨g,i,none⟩=some (.int .u8 (t.getD i 0)):=fun {g t} hg i hi=>by
  refine ((hgl _ hg).2 i).trans ?_
  rw [List.getElem?_map,List.getD_eq_getElem?_getD,List.getElem?_eq_getElem hi]; rfl
 by_cases h0:n=0
 ·subst h0
  have:s=[]:=List.length_eq_zero_iff.1 hn
  subst this
  refine (c2 a c w).mono ?_
  rintro e w' ⟨rfl,rfl⟩
  exact kZ rfl (.inl rfl) (by simp [R,Sh.hH])
 ·obtain ⟨ad,rfl⟩:=hsa (by intro e; subst e; simp at hn; omega)
  have hc0:=hca ad rfl 0 (by omega)
  have hin:=Bj hc0
  have e0:ad.add 0=ad:=by simp [Addr.add]
  rw [e0] at hin
  obtain ⟨b,off,sp⟩:=ad
  simp only at hin
  obtain ⟨hb,rfl⟩:=hin
  have hadd:∀ j,(⟨b,off,none⟩:Addr).add j=⟨b,off+j,none⟩:=fun j=>by unfold Addr.add; split <;> simp_all
  have hlen:(⟨(s.map fun x=>UInt8.ofNat x.toNat).toArray⟩:Hd).size=n:=by simp [ByteArray.size,hn]
  have hcells:∀ j,j<(⟨(s.map fun x=>UInt8.ofNat x.toNat).toArray⟩:Hd).size→w.cell? ⟨b,off+j,none⟩=some (.int .u8 ((⟨(s.map fun x=>UInt8.ofNat x.toNat).toArray⟩:Hd).get! j).toNat):=fun j hj=>by
   rw [hlen] at hj
   have hjs:j<s.length:=by omega
   have hcj:=hca _ rfl j hj
   rw [hadd] at hcj
   rw [hcj]
   have hv:=h5 _ (List.getElem_mem hjs)
   have e1:(⟨(s.map fun x=>UInt8.ofNat x.toNat).toArray⟩:Hd).get! j=UInt8.ofNat s[j].toNat:=by
    show ((s.map fun x=>UInt8.ofNat x.toNat).toArray)[j]! = _
    rw [getElem!_pos _ j (by simpa using hjs)]
    simp
   rw [e1,List.getD_eq_getElem?_getD,List.getElem?_eq_getElem hjs]
   simp [UInt8.toNat_ofNat']
   omega
  have hcall:=c1 ⟨(s.map fun x=>UInt8.ofNat x.toNat).toArray⟩ b off c w (by rw [hlen]; omega) (by rw [hlen]; exact hnc) hb (((hgl _ hm).2 0).trans rfl) (glt hm) (gc h1) (gc h2) ⟨glt h1,glt h2⟩ hcells
  rw [hlen] at hcall
  have hres:Lib.indexAny (⟨(s.map fun x=>UInt8.ofNat x.toNat).toArray⟩:Hd).data.toList [13,10]=Sh.hH s:=uy s h5
  rw [hres] at hcall
  refine hcall.mono ?_
  rintro e w' ⟨rfl,hbel⟩
  exact ⟨_,rfl,⟨hbel.os,hbel.tape,hbel.output,hbel.size,fun k hk _=>hbel.block k hk⟩,Imm,[],fun _ h=>h,fun _ h => .inl h,by simp [R],List.nodup_nil,by simp⟩
theorem Fo {H:Type} {enc:TypeId×Value→H} {P:Program} {w:World} {base:Nat} {spare:Nat→Bool} {held:Bool} {fuel t e n:Nat} {k:IntKind} {f0 f1:Field} {ns:List (Int×Int)} {cs:List Value} {p:List MemPlace}
  (ht:P.underlying t=some (.array n e)) (he:P.underlying e=some (.struct #[f0,f1])) (h0:P.underlying f0.type=some (.int k)) (h1:P.underlying f1.type=some (.int k)) (o0:f0.offset=0) (o1:f1.offset=1) (c0:P.cellsOf f0.type=1) (c1:P.cellsOf f1.type=1) (hm:P.cellsOf e=2) (hn:P.cellsOf t=n * 2)
  (h:DataW.trod enc P w base spare held fuel t cs=some (.agg (ns.map fun x => .agg [.lit (.int k x.1),.lit (.int k x.2)]),p)):cs=(ns.map fun x=>[Value.int k x.1,Value.int k x.2]).flatten:=by
 obtain ⟨xs,f,_,hx,hl,hxs,hel⟩:=DataW.trod_array ht h
 have hx':xs.map (·.1)=ns.map fun x=>(.agg [.lit (.int k x.1),.lit (.int k x.2)]:DataW H):=(DataW.agg.inj (Prod.mk.inj hx).1).symm
 have hln:ns.length=n:=by have:=congrArg List.length hx'; simp only [List.length_map] at this; omega
 refine mw 2 (ns.map fun x=>[Value.int k x.1,Value.int k x.2]) cs (by simp only [List.length_map]; rw [hl,hn,hln]) (fun j r hr => ?_)
 simp only [List.getElem?_map,Option.map_eq_some_iff] at hr
 obtain ⟨x,hx1,rfl⟩:=hr
 have hi':j<n:=by have:=(List.getElem?_eq_some_iff.1 hx1).1; omega
 have h2:=hel j hi'
 rw [hm] at h2
 have h3:(xs.map (·.1))[j]? = some (.agg [.lit (.int k x.1),.lit (.int k x.2)]):=by rw [hx']; simp [hx1]
 rw [List.getElem?_map,Option.map_eq_some_iff] at h3
 obtain ⟨⟨y,q⟩,h4,h5⟩:=h3
 rw [h4] at h2
 cases h5
 obtain ⟨ys,f2,_,hy,hyl,hys,hye⟩:=DataW.trod_struct he h2
 have hy':ys.map (·.1)=[.lit (.int k x.1),.lit (.int k x.2)]:=(DataW.agg.inj (Prod.mk.inj hy).1).symm
 have e0:=hye 0 f0 rfl
 have e1:=hye 1 f1 rfl
 rw [hm] at hyl
 generalize (cs.drop (j * 2)).take 2=zs at *
 obtain ⟨a,b,rfl⟩:∃ a b,zs=[a,b]:=by
  match zs,hyl with
  | [a,b],_=>exact ⟨a,b,rfl⟩
 obtain ⟨⟨y0,q0⟩,⟨y1,q1⟩,rfl⟩:∃ y0 y1,ys=[y0,y1]:=by
  have:ys.length=2:=by have:=congrArg List.length hy'; simpa using this
  match ys,this with
  | [a,b],_=>exact ⟨a,b,rfl⟩
 simp only [List.map_cons,List.map_nil,List.cons.injEq,and_true] at hy'
 obtain ⟨rfl,rfl⟩:=hy'
 rw [o0,c0] at e0
 rw [o1,c1] at e1
 have g0:=oh h0 e0
 have g1:=oh h1 e1
 simp at g0 g1
 rw [g0,g1]
theorem qn (k:IntKind):∀ ns:List (Int×Int),(ns.map fun x=>[Value.int k x.1,Value.int k x.2]).flatten=(ns.map fun x=>[x.1,x.2]).flatten.map (Value.int k)
 | []=>rfl
 | a::l=>by simp [qn k l]
theorem ma {H:Type} {enc:TypeId×Value→H} {a:Assume} {C:Checked} {os:Os} {f:FuncId} {fn:Func} {s:ChangeSpec} {conds:List PathCond} {apart fresh handsOn again:Bool} {X:World→Array Value→Prop}
  (hX:∀ (w w':World) (args:Array Value),w.heap=w'.heap→X w args→X w' args)
  (own:ownKnob C.prog.godebug=none) (started:os.Started) (noInit:C.prog.inits.idxOf? f=none) (hfn:C.prog.funcs[f]? = some fn)
  (witness:∃ (w:World) (tape:Tape) (i:Input),w.os=os∧(w.forCall tape i).Shaped C.prog∧i.vars=[]∧Input.okWide C.prog (w.forCall tape i) .any w.heap.size f i ∧
   ((s.pre enc C.prog fn conds apart (w.forCall tape i).memory i.args∧X (w.forCall tape i).memory i.args)∧sizedMet enc C.prog fn (OpenSpec.ofChange s) apart (w.forCall tape i).memory i.args)∧a.holds C.prog (lone (Frame.enter C.prog f i.args .normal) [] (w.forCall tape i)))
  (contract:∀ (W:World) (base:Nat) (args:Array Value) (ds gs:List (DataW H)) (before:List MemPlace),
   (∀ (j:Nat) t v,fn.params[j]? = some t→args[j]? = some v→Value.okWide C.prog W .any base t v) →
   DataW.Whole enc C.prog fn.params.toList s.vars apart W args.toList ds gs before →
   conds.all (PathCond.test C.prog ⟨fn.params.toList,ds,s.plain.varTypes C.prog,gs⟩)=true →
   (DataW.weightsEach C.prog (fn.params.toList++s.plain.varTypes C.prog) (ds++gs)).all (· ≤ reachBytes)=true→X W args→W.ShapedOpen C.prog →
   a.holds C.prog (lone (Frame.enter C.prog f args .normal) [] W) →
   Calls C.prog f args W fun e W'=>∃ v,e = .returned v∧s.post enc C.prog fn apart fresh handsOn again W args v W') :
  ReturnsInHanded a C os f .any (fun w args=>(s.pre enc C.prog fn conds apart w args∧X w args)∧sizedMet enc C.prog fn (OpenSpec.ofChange s) apart w args) (s.post enc C.prog fn apart fresh handsOn again):=by
 refine returnsInHanded_of_calls own started noInit witness ?_
 intro w tape i _ hsh _ hok hpre hholds
 obtain ⟨_,_,_,fn',hfn',_,_,_,_,hval⟩:=hok
 have e:fn'=fn:=Option.some.inj (hfn'.symm.trans hfn)
 subst e
 obtain ⟨⟨⟨ds,gs,before,hw,hc⟩,hx⟩,hz⟩:=hpre
 have hw':=DataW.Whole.of_heap (w':=w.forCall tape i) (by rfl) hw
 refine (contract (w.forCall tape i) w.heap.size i.args ds gs before hval hw' hc (hz.weights hw) (hX _ _ _ (by rfl) hx) hsh hholds).mono fun e W' ⟨v,he,hp⟩ => ?_
 subst he
 exact ChangeSpec.post_blind hp
section
variable {P:Program} {Q:Exit→Act→World→Prop} {g0:Gh} {rnd:Option Nat} {ops:Array Oper} {N T G:List aO} {W:List bN} {ty:TypeId} {pos:String} {aft:Array Edge} {gd:Option (Nat×Bool)}
abbrev zq (n:List Nat) (g s:Nat):Sp:=⟨n,[],[g],[.slot s]⟩
theorem zl {n m:Nat} (h:Nat.ble n m=true):n≤m:=Nat.le_of_ble_eq_true h
theorem zp {o:Oper} (hg:o.guard=none) (h:aY P o N T G W):tB P ops o N T G W:=jh hg h
theorem zs {o:Oper} (j:Nat) (want:Bool) {d dd:Nat} {oj:Oper} (hg:o.guard=some (j,want)) (hj:ops[j]? = some oj) (hd:oj.dst=some d) (hdd:o.dst=some dd):tB P ops o ((d,AV.v (.bool (!want)))::N) [] [(dd,.v undef)] [.slot dd] :=
 xc j d dd want hg hj hd hdd (List.Mem.head _)
abbrev z0:Hd:=⟨#[]⟩
abbrev vb (b:Bool):AV := .v (.bool b)
abbrev vs (s:Hd):AV := .v (.string s)
abbrev vi (n:Int):AV := .v (.int .i64 n)
abbrev vz:AV := .v (.slice none 0 0)
abbrev fb (l:List Int):AV := .fl .shr 1 (l.map (Value.int .u8))
abbrev fi (l:List Int):AV := .fl .shr 1 (l.map (Value.int .i64))
theorem z1 {d:Nat} {x:Operand} {av:AV} (h:(gd,bw N x,eX [.slot d] av)=(none,av,true)):tB P ops ⟨some d,.move x,ty,pos,aft,gd⟩ N [] [(d,av)] [.slot d]:=jh (congrArg Prod.fst h) (sE N d x av (congrArg (fun x=>x.2.1) h) (congrArg (fun x=>x.2.2) h))
theorem z2 {d:Nat} {x:Operand} {av:AV} (h:(gd,bw N x,eX [.slot d] av)=(none,av,true)):tB P ops ⟨some d,.assign x,ty,pos,aft,gd⟩ N [] [(d,av)] [.slot d]:=jh (congrArg Prod.fst h) (gv N d x av (congrArg (fun x=>x.2.1) h) (congrArg (fun x=>x.2.2) h))
theorem z3 {d:Nat} {c x y:Operand} (b:Bool) {r:Value} (h:(gd,rd N c,rd N (if b then x else y))=(none,.v (.bool b),.v r)):tB P ops ⟨some d,.pick c x y,ty,pos,aft,gd⟩ N [] [(d,.v r)] [.slot d]:=jh (congrArg Prod.fst h) (wk N d b r (congrArg (fun x=>x.2.1) h) (congrArg (fun x=>x.2.2) h))
theorem z4 {d:Nat} {op:BinOp} {t t':TypeId} {x y:Operand} {a b r:Value} (h:(gd,rd N x,rd N y)=(none,.v a,.v b)) (h2:pm op a b=some r):tB P ops ⟨some d,.binOp op t x y t',ty,pos,aft,gd⟩ N [] [(d,.v r)] [.slot d]:=jh (congrArg Prod.fst h) (qB N d a b r (congrArg (fun x=>x.2.1) h) (congrArg (fun x=>x.2.2) h) h2)
theorem zz:True:=trivial
theorem zi {A:Type} {a b:A} (h:some a=some b):a=b:=Option.some.inj h
theorem zn {A R:Type} {m:Option A} {f:A→Option R} {r:R} (h:m.bind f=some r):∃ x,m=some x∧f x=some r:=bind_some h
theorem oB {d:Nat} {op:BinOp} {t t':TypeId} {x y:Operand} {a b r:Value} (h:(rd N x,rd N y)=(.v a,.v b)) (h2:pm op a b=some r):aY P ⟨some d,.binOp op t x y t',ty,pos,aft,gd⟩ N [] [(d,.v r)] [.slot d]:=qB N d a b r (congrArg Prod.fst h) (congrArg Prod.snd h) h2
theorem oL {d:Nat} {U:TypeId} {td:TypeDesc} {x:Operand} {T':TypeId} {cs:List AV} {t off:Nat} {av:AV} (hT:P.underlying U=some td) (h:(ec td,bw N x,look N t,Nat.ble (off+1) cs.length,jP t off (cs.getD off .any),eX [.slot d] av,dY av)=(false,.ptr t off,.box T' cs,true,av,true,true)) :
  aY P ⟨some d,.load U x,ty,pos,aft,gd⟩ N [] [(d,av)] [.slot d] :=
 wq N d x t off av hT (congrArg (fun x=>x.1) h) (congrArg (fun x=>x.2.1) h) (congrArg (fun x=>x.2.2.1) h) (Nat.le_of_ble_eq_true (congrArg (fun x=>x.2.2.2.1) h)) (congrArg (fun x=>x.2.2.2.2.1) h) (congrArg (fun x=>x.2.2.2.2.2.1) h) (congrArg (fun x=>x.2.2.2.2.2.2) h)
theorem oF {d:Nat} {s:TypeId} {x:Operand} {i:Nat} {fs:Array Field} {f:Field} {t off k2 k:Nat} (hT:P.underlying s=some (.struct fs)) (h:(fs[i]?,bw N x,off+f.offset,Nat.beq t d)=(some f,.ptr t off,k2,false)) (hk:(P.info? f.type).map (·.size)=some (k+1)) :
  aY P ⟨some d,.fieldAddr s x i,ty,pos,aft,gd⟩ N [] [(d,.ptr t k2)] [.slot d] :=
 nc N d x i t off k2 hT (congrArg (fun x=>x.1) h) hk (congrArg (fun x=>x.2.1) h) (congrArg (fun x=>x.2.2.1) h) (Nat.ne_of_beq_eq_false (congrArg (fun x=>x.2.2.2) h))
theorem oE {t d i:Nat} {cs:List AV} {av:AV} (h:(look N t,cm (cs.getD i .any),Nat.ble (i+1) cs.length,eX [.slot d] av,dY av)=(.tup cs,av,true,true,true)):aY P ⟨some d,.extract (.tmp t) i,ty,pos,aft,gd⟩ N [] [(d,av)] [.slot d] :=
 pM N t d cs av (congrArg (fun x=>x.1) h) (congrArg (fun x=>x.2.1) h) (Nat.le_of_ble_eq_true (congrArg (fun x=>x.2.2.1) h)) (congrArg (fun x=>x.2.2.2.1) h) (congrArg (fun x=>x.2.2.2.2) h)
theorem oN {d:Nat} {t t':TypeId} {x:Operand} {s:Hd} (hT:P.underlying t=some .string) (hx:rd N x = .v (.string s)):aY P ⟨some d,.call ⟨.builtin .len,#[x],#[t]⟩,t',pos,aft,gd⟩ N [] [(d,.v (.int .i64 (s.size:Int)))] [.slot d]:=pY N d s hT hx
theorem z8 {d:Nat} {x:Operand} {b c:Bool} (hb:b=c) (h:(gd,bw N x)=(none,.v (.bool b))):tB P ops ⟨some d,.move x,ty,pos,aft,gd⟩ N [] [(d,.v (.bool c))] [.slot d]:=by
 subst hb
 exact jh (congrArg Prod.fst h) (sE N d x _ (congrArg Prod.snd h) rfl)
end
theorem vT {P:Program} {w:World} {g:Nat} {t:TypeId} {zero:Array Value} {k:IntKind} (h:w.ShapedOpen P) (hg:g<P.globals.size) (h0:((begin P (fun _ _=>0) default).world.heap[g]?).bind Obj.row? = some (zero,t)) (hz:zero.size=1)
  (hb:P.buildable t=true) (hc:P.cellTypes P.depth t=some [t]) (hu:P.underlying t=some (.int k)):∃ m,∀ j,w.cell? ⟨g,j,none⟩=([.int k m]:List Value)[j]? := by
 obtain ⟨cs,hh,hs,hr⟩:=h.1 g zero t hg h0
 obtain ⟨ts,hts,_,hall⟩:=hr hb
 rw [hc] at hts
 cases hts
 have hl:cs.toList.length=1:=by simp; omega
 obtain ⟨c,hc1⟩:=List.length_eq_one_iff.1 hl
 obtain ⟨u,hu',hok⟩:=hall 0 c (by rw [← Array.getElem?_toList,hc1]; rfl)
 obtain rfl:u=t:=by simpa using hu'.symm
 unfold Cell.ok at hok
 rw [hu] at hok
 cases c <;> simp at hok
 case int k' n =>
  refine ⟨n,fun j => ?_⟩
  have e:w.cell? ⟨g,j,none⟩=cs[j]? := by simp [World.cell?,hh]
  rw [e,← Array.getElem?_toList,hc1,hok.1]
namespace Sh
end Sh
section
variable {P:Program} {ty:TypeId} {pos:String} {aft:Array Edge} {gd:Option (Nat×Bool)}
end
def FK (s:Bool) (cs:List IC) (xs:List Value):iZ where
 P:=fun I M o w=>o=[]∧fK (cv w I M) w s cs xs
 stab:=by
  rintro I M I' M' o w w' hI hM hw ⟨rfl,h⟩
  refine ⟨rfl,dr (g:=cv w I M) (fun b hb => ?_) (fun b hb=>hw b (.inr hb)) cs xs h⟩
  exact gR (g:=cv w I M) (g':=cv w' I' M') hI hM hb
theorem CH {g:Gh} {w:World} {s:Bool} {cs:List IC} {xs:List Value} (h:fK g w s cs xs):(FK s cs xs).P g.Imm g.Im [] w :=
 ⟨rfl,dr (g:=g) (fun b hb=>gR (g:=g) (g':=cv w g.Imm g.Im) (fun _ h=>h) (fun _ h=>h) hb) (fun _ _=>rfl) cs xs h⟩
theorem Do {g:Gh} {w:World} {s:Bool} {cs:List IC} {xs:List Value} {o:List Nat} (h:(FK s cs xs).P g.Imm g.Im o w):o=[]∧fK g w s cs xs :=
 ⟨h.1,dr (g:=cv w g.Imm g.Im) (fun b hb=>gR (g:=cv w g.Imm g.Im) (g':=g) (fun _ h=>h) (fun _ h=>h) hb) (fun _ _=>rfl) cs xs h.2⟩
theorem zy {g:Gh} {V:bN→Value} {w:World} {m:Md} {s:Bool} {z:Nat} {ic:List IC}:∀ {cs:List AV} {xs:List Value} {o:List Nat} {i:Nat},Rs g V w cs xs o→cs.getD i .any = .fr m s z ic→i<cs.length→∃ vs,fK g w s ic vs∧Rs g V w (cs.set i (.fl m z vs)) xs o
 | [],_,_,_,_,_,h=>by simp at h
 | c::cs,_,_,0,h,hc,_=>by
  simp only [List.getD_cons_zero] at hc
  subst hc
  simp only [Rs] at h
  obtain ⟨x,xs',o1,o2,rfl,rfl,h1,h2⟩:=h
  obtain ⟨vs,h3,h4⟩:=kG h1
  exact ⟨vs,h4,by simp only [List.set_cons_zero,Rs]; exact ⟨x,xs',o1,o2,rfl,rfl,h3,h2⟩⟩
 | c::cs,_,_,i+1,h,hc,hi=>by
  simp only [List.getD_cons_succ] at hc
  simp only [Rs] at h
  obtain ⟨x,xs',o1,o2,rfl,rfl,h1,h2⟩:=h
  obtain ⟨vs,h3,h4⟩:=zy h2 hc (by simpa using hi)
  exact ⟨vs,h3,by simp only [List.set_cons_succ,Rs]; exact ⟨x,xs',o1,o2,rfl,rfl,h1,h4⟩⟩
theorem Cp {g:Gh} {V:bN→Value} {w:World} {m:Md} {s:Bool} {z:Nat} {ic:List IC} {vs:List Value}:∀ {cs:List AV} {xs:List Value} {o:List Nat} {i:Nat},Rs g V w (cs.set i (.fl m z vs)) xs o→i<cs.length→fK g w s ic vs→Rs g V w (cs.set i (.fr m s z ic)) xs o
 | [],_,_,_,_,h,_=>by simp at h
 | c::cs,_,_,0,h,_,hr=>by
  simp only [List.set_cons_zero,Rs] at *
  obtain ⟨x,xs',o1,o2,rfl,rfl,h1,h2⟩:=h
  exact ⟨x,xs',o1,o2,rfl,rfl,mj h1 hr,h2⟩
 | c::cs,_,_,i+1,h,hi,hr=>by
  simp only [List.set_cons_succ,Rs] at *
  obtain ⟨x,xs',o1,o2,rfl,rfl,h1,h2⟩:=h
  exact ⟨x,xs',o1,o2,rfl,rfl,h1,Cp h2 (by simpa using hi) hr⟩
section
variable {P:Program}
theorem aY.fr_cell {o:Oper} {N:List aO} {t i:Nat} {T:TypeId} {m:Md} {s:Bool} {z:Nat} {ac ac':List AV} {cs cs':List IC} (hi:i<ac.length) (hg:ac.getD i .any = .fr m s z cs) (hac:ac.set i (.fr m s z cs')=ac')
  (h:∀ xs:List Value,xs.length=cs.length→∃ xs',aY P o N [(t,.box T (ac.set i (.fl m z xs)))] [(t,.box T (ac.set i (.fl m z xs')))] []∧∀ (g:Gh) (w:World),fK g w s cs xs→fK g w s cs' xs'):aY P o N [(t,.box T ac)] [(t,.box T ac')] []:=by
 subst hac
 intro g F a w K Q hd hs hc hk r
 obtain ⟨V,ow,hst,hes⟩:=hs
 obtain ⟨o1,o2,rfl,hN,hTF⟩:=bi.1 hes
 obtain ⟨oT,oF,rfl,⟨hR,htie⟩,hF⟩:=hTF
 simp only [R] at hR
 obtain ⟨b,ys,os,hp,hob,hh,hrs⟩:=hR
 dsimp only at htie
 obtain ⟨xs,hri,hrs2⟩:=zy hrs hg hi
 obtain ⟨xs',hl,hback⟩:=h xs (cG hri)
 refine hl g ((0,.inv (FK s cs xs))::F) a w K Q hd ⟨V,_,hst,bi.2 ⟨o1,oT++oF,rfl,hN,oT,oF,rfl,⟨by simp only [R]; exact ⟨b,ys,os,hp,hob,hh,hrs2⟩,fun b' hb' j hj=>htie b' hb' j (by simpa using hj)⟩,[],oF,rfl,⟨by simp only [R]; exact CH hri,trivial⟩,hF⟩⟩ (fun e he => ?_) (fun g' a' w' hle hs' => ?_) r
 ·rcases List.mem_append.1 he with he | he
  ·exact hc e (List.mem_append.2 (.inl he))
  ·rcases List.mem_cons.1 he with rfl | he
   ·rfl
   ·exact hc e (List.mem_append.2 (.inr he))
 ·obtain ⟨V',ow',hst',hes'⟩:=hs'
  obtain ⟨p1,p2,rfl,hN',hT'⟩:=bi.1 hes'
  obtain ⟨pT,pF,rfl,⟨hR',htie'⟩,pJ,pF2,rfl,⟨hJ,_⟩,hF'⟩:=hT'
  simp only [R] at hJ hR'
  obtain ⟨rfl,hri'⟩:=Do hJ
  obtain ⟨b',ys',os',hp',hob',hh',hrs'⟩:=hR'
  dsimp only at htie'
  exact hk g' a' w' hle ⟨V',_,hst',bi.2 ⟨p1,pT++pF2,by simp,hN',pT,pF2,rfl,⟨by simp only [R]; exact ⟨b',ys',os',hp',hob',hh',Cp hrs' hi (hback g' w' hri')⟩,fun b2 hb2 j hj=>htie' b2 hb2 j (by simpa using hj)⟩,hF'⟩⟩
variable {ty:TypeId} {pos:String} {aft:Array Edge} {gd:Option (Nat×Bool)}
theorem jW (N:List aO) {T:TypeId} (ax vx:Operand) {E T':TypeId} {z:Nat} {s:Bool} {ac ac':List AV} {cs cs':List IC} (t i k n:Nat) (vs:List Value) (hs:(P.info? T).map (·.size)=some n)
  (hx:bw N ax = .eref (.cell t i) k) (hg:ac.getD i .any = .fr (.own E) s z cs) (hic:i<ac.length) (hv:nB N vx=some vs) (hlen:vs.length=n) (h0:0<n) (hfit:k+n≤cs.length) (hcs:cs.take k++(vs.map IC.v++cs.drop (k+n))=cs') (hac:ac.set i (.fr (.own E) s z cs')=ac') :
  aY P ⟨none,.store T ax vx,ty,pos,aft,gd⟩ N [(t,.box T' ac)] [(t,.box T' ac')] []:=by
 subst hcs
 refine aY.fr_cell hic hg hac fun xs hl=>⟨xs.take k++(vs++xs.drop (k+n)),fj N ax vx (E:=E) (z:=z) (xs:=xs) (cs:=ac.set i (.fl (.own E) z xs)) t i k n vs _ hs hx (by simp [hic]) (by simpa using hic) hv hlen h0 (by omega) rfl (by simp),fun g w h => ?_⟩
 exact bC (lu k h) (bC (jz.2 rfl) (lF (k+n) h))
end
theorem je {A B:Type} {z:Nat} {enc:A→List B} (he:∀ x,(enc x).length=z) {l:List A} {i q s:Nat} {x:A} (h:aA l i=some x) (hq:q+s≤z):i * z+q+s≤((l.map enc).flatten).length:=by
 have hi:i<l.length:=(List.getElem?_eq_some_iff.1 h).1
 have:=ng he hi
 omega
theorem ju {A B:Type} {z:Nat} {enc:A→List B} (he:∀ x,(enc x).length=z) {l:List A} {i q s:Nat} {x y:A} {vs:List B} (h:aA l i=some x) (hy:enc y=(enc x).take q++(vs++(enc x).drop (q+s))) (hq:q+s≤z) :
  ((l.map enc).flatten).take (i * z+q)++(vs++((l.map enc).flatten).drop (i * z+q+s))=((l.set i y).map enc).flatten:=by
 unfold aA at h
 obtain ⟨hi,hx⟩:=List.getElem?_eq_some_iff.1 h
 have hl:l=l.take i++x::l.drop (i+1):=by
  rw [← hx,List.getElem_cons_drop,List.take_append_drop]
 have e1:((l.map enc).flatten)=((l.take i).map enc).flatten++(enc x++((l.drop (i+1)).map enc).flatten):=by
  conv=>lhs; rw [hl]
  simp
 have e2:((l.set i y).map enc).flatten=((l.take i).map enc).flatten++(enc y++((l.drop (i+1)).map enc).flatten):=by
  rw [List.set_eq_take_append_cons_drop,if_pos hi]
  simp
 have hlen:(((l.take i).map enc).flatten).length=i * z:=by rw [bT he,List.length_take,Nat.min_eq_left (Nat.le_of_lt hi)]
 have hex:=he x
 rw [e1,e2,hy,← hlen,List.take_length_add_append,show (((l.take i).map enc).flatten).length+q+s=(((l.take i).map enc).flatten).length+(q+s) by omega,List.drop_length_add_append,
  List.take_append_of_le_length (by omega),List.drop_append_of_le_length (by omega)]
 simp only [List.append_assoc]
namespace Sh
def cK (s:List Int) (i:Int) (v:List Int):Option (List Int):=if 0≤i∧i≤(s.length:Int)∧0<v.length∧(s.length+v.length) * 8≤140737488355328 then some (s.take i.toNat++(v++s.drop i.toNat)) else none
end Sh
def jM:Nat→List (Option Operand)→List (Nat×Operand)
 | _,[]=>[]
 | k,none::es=>jM (k+1) es
 | k,some x::es=>(k,x)::jM (k+1) es
inductive BU (s:Bool) (z:Nat) (N:List aO) (zl:List Value):List (Option Operand)→List IC→Prop
 | nil:BU s z N zl [] []
 | some (x:Operand) {av:AV} {ics jcs:List IC} {es:List (Option Operand)} (h:bw N x=av) (hok:dK N av=true) (hai:tN s (cX av) ics) (hl:ics.length=z) (hr:BU s z N zl es jcs):BU s z N zl (some x::es) (ics++jcs)
 | none {ics jcs:List IC} {es:List (Option Operand)} (hai:tN s (zl.map AV.v) ics) (hl:ics.length=z) (hr:BU s z N zl es jcs):BU s z N zl (none::es) (ics++jcs)
theorem wy {g:Gh} {V:bN→Value} {w:World}:∀ (xs:List Value),Rs g V w (xs.map AV.v) xs []
 | []=>by simp [Rs]
 | x::xs=>by simp only [List.map_cons,Rs,R]; exact ⟨x,xs,[],[],rfl,rfl,⟨rfl,rfl⟩,wy xs⟩
theorem vA {g:Gh} {V:bN→Value} {w:World} {N:List aO} {oN:List Nat} {a:Act} {s:Bool} {z:Nat} {zl:List Value} (hval:∀ t,V (.slot t)=a.tmps.getD t undef) (hes:Es g V w N oN) (hz:zl.length=z) (h1:∀ u∈zl,u.oneCell'=true) :
  ∀ {es:List (Option Operand)} {ics:List IC},BU s z N zl es ics→∀ (k:Nat) (pre:List Value),pre.length=k * z →
  ∃ hZ:List Value,Instr.fill (fun i=>some (i * z,z)) (pre++(List.replicate es.length zl).flatten).toArray ((jM k es).map fun p=>(p.1,a.eval p.2))=some (pre++hZ).toArray∧fK g w s ics hZ∧(∀ u∈hZ,u.oneCell'=true):=by
 intro es ics h
 induction h with
 | nil=>exact fun k pre _=>⟨[],by simp [jM,Instr.fill],by simp [fK],by simp⟩
 | @some x av ics jcs es hd hok hai hl hr ih =>
  intro k pre hp
  have hR:=ce hval hes x
  rw [hd] at hR
  obtain ⟨h2,hone⟩:=iz hes hok hR
  have hri:=uz hai h2
  have hcl:(a.eval x).cells.toList.length=z:=by rw [cG hri,hl]
  have hcs:(a.eval x).cells.size=z:=by simpa using hcl
  obtain ⟨hZ,h3,h4,h5⟩:=ih (k+1) (pre++(a.eval x).cells.toList) (by rw [List.length_append,hp,hcl,Nat.add_mul,Nat.one_mul])
  refine ⟨(a.eval x).cells.toList++hZ,?_,bC hri h4,fun u hu => ?_⟩
  ·rw [← List.append_assoc,← h3]
   simp only [jM,List.map_cons]
   have hsz:(pre++(List.replicate (es.length+1) zl).flatten).length=k * z+(z+((List.replicate es.length zl).flatten).length):=by
    rw [List.replicate_succ,List.flatten_cons,List.length_append,List.length_append,hp,hz]
   conv=>lhs; unfold Instr.fill
   simp only []
   rw [if_neg (by
    rw [Bool.or_eq_true,decide_eq_true_iff,decide_eq_true_iff,hcs]
    simp only [List.size_toArray,List.length_cons]
    rw [hsz]; omega)]
   congr 1
   have:=iw (a.eval x).cells.toList (k * z) (pre++(List.replicate (es.length+1) zl).flatten).toArray 0 (by simp only [List.size_toArray]; rw [hsz,hcl]; omega)
   apply Array.toList_inj.1
   rw [← Array.foldl_toList,Array.toList_zipIdx]
   refine Eq.trans ?_ (this.trans ?_)
   ·rfl
   ·simp only [Nat.add_zero]
    rw [List.replicate_succ,List.flatten_cons,hcl,List.append_assoc]
    rw [← hp,List.take_left,← List.append_assoc pre zl,List.drop_left' (by rw [List.length_append,hz])]
  ·rcases List.mem_append.1 hu with h | h
   ·exact hone u h
   ·exact h5 u h
 | @none ics jcs es hai hl hr ih =>
  intro k pre hp
  have hri:=uz (g:=g) (V:=V) (w:=w) hai (wy zl)
  obtain ⟨hZ,h3,h4,h5⟩:=ih (k+1) (pre++zl) (by rw [List.length_append,hp,hz,Nat.add_mul,Nat.one_mul])
  refine ⟨zl++hZ,?_,bC hri h4,fun u hu => ?_⟩
  ·rw [← List.append_assoc,← h3]
   simp only [jM,List.length_cons,List.replicate_succ,List.flatten_cons,List.append_assoc]
  ·rcases List.mem_append.1 hu with h | h
   ·exact h1 u h
   ·exact h5 u h
section
variable {P:Program} {ty:TypeId} {pos:String} {aft:Array Edge} {gd:Option (Nat×Bool)}
theorem sH (N:List aO) (d n z:Nat) {T e:TypeId} (zv:Value) (s:Bool) (es:List (Option Operand)) (ics:List IC) {parts:Array (Nat×Operand)} (hT:P.underlying T=some (.slice e)) (hz:(P.info? e).map (·.size)=some z)
  (hzv:(P.info? e).bind (·.zero)=some zv) (hzl:zv.cells.toList.length=z) (hz1:(zv.cells.toList.all fun u=>u.oneCell')=true) (hfill:((Array.range (n * z)).map (zv.cells[· % zv.cells.size]!)).toList=(List.replicate n zv.cells.toList).flatten) (hn:es.length=n) (hp:(jM 0 es).toArray=parts) (h:BU s z N zv.cells.toList es ics) (h0:0<z) (hn0:0<n) (hsm:n * z≤16777216) :
  aY P ⟨some d,.buildSlice T n parts,ty,pos,aft,gd⟩ N [] [(d,.fr (.own e) s z ics)] [.slot d]:=by
 subst hp
 refine aY.fresh rfl rfl fun g V oN a w hp => ?_
 obtain ⟨hZ,h2,h3,h4⟩:=vA (g:=g) (V:=V) (w:=w) hp.val hp.esN hzl (fun u hu=>List.all_eq_true.1 hz1 u hu) h 0 [] (by simp)
 rw [List.nil_append,List.nil_append,hn] at h2
 have hlen:hZ.length=n * z:=by
  rw [cG h3]
  have key:∀ {es:List (Option Operand)} {ics:List IC},BU s z N zv.cells.toList es ics→ics.length=es.length * z:=by
   intro es ics h
   induction h with
   | nil=>simp
   | some x hd hok hai hl hr ih=>rw [List.length_append,hl,ih,List.length_cons,Nat.add_mul,Nat.one_mul]; omega
   | none hai hl hr ih=>rw [List.length_append,hl,ih,List.length_cons,Nat.add_mul,Nat.one_mul]; omega
  rw [key h,hn]
 have hpos:0<n * z:=Nat.mul_pos hn0 h0
 have hr:(execOp a.eval ⟨some d,.buildSlice T n (jM 0 es).toArray,ty,pos,aft,gd⟩).run P w = .ok (.value (.slice (some ⟨w.heap.size,0,none⟩) n n)) (w.alloc (.cells hZ.toArray e)):=by
  have hbig:¬ n * z > 2 ^ 24:=by omega
  have hnz:¬ n * z=0:=by omega
  simp only [execOp,Instr.buildSlice,Sem.run_bind,run_underlying hT,Result.andThen_ok,bE hz,hbig,if_false,hnz,jg hzv]
  have e1:(((jM 0 es).toArray:Array (Nat×Operand)).map fun (i,x)=>(i,a.eval x)).toList=(jM 0 es).map fun p=>(p.1,a.eval p.2):=by simp
  simp only [Sem.run_pure,Result.andThen_ok]
  have e2:((Array.range (n * z)).map (zv.cells[· % zv.cells.size]!))=(List.replicate n zv.cells.toList).flatten.toArray:=by
   apply Array.toList_inj.1; rw [hfill]
  rw [e1,e2,h2]
  simp [newRow,newObj]
  rfl
 have hown:=World.ownsRow_lit (base:=0) (e:=e) (size:=z) w hZ.toArray n (Nat.zero_le _) (by simp only [maxLen]; have:=Nat.le_mul_of_pos_right n h0; omega) (by simpa using hlen)
 refine (Yl.val hr).mono ?_
 rintro v w2 ⟨rfl,rfl⟩
 refine ⟨ei.alloc _ _ _,g,[w.heap.size],g.le_refl,fun b hb => .inl hb,mj (fV hown h4) (dr (fun b h=>h) (fun b hb=>heap_alloc_old w _ b (hp.imm b hb)) ics _ h3),by simp,?_⟩
 intro b hb
 simp at hb; subst hb
 exact ⟨Nat.le_refl _,by simp,fun hi=>Nat.lt_irrefl _ (hp.imm _ (.inl hi))⟩
end
section
variable {P:Program} {ty:TypeId} {pos:String} {aft:Array Edge} {gd:Option (Nat×Bool)}
theorem xT (N:List aO) (d t:Nat) {T:TypeId} (i:Nat) {cs:List AV} {fs:Array Field} {f:Field} {td:TypeDesc} (v:Value) (hT:P.underlying T=some (.struct fs)) (hf:fs[i]? = some f) (ht:P.underlying f.type=some td) (ha:ec td=false)
  (hlk:look N t = .agg cs) (hi:cs.getD f.offset .any = .v v) (hlt:f.offset<cs.length) :
  aY P ⟨some d,.field T (.tmp t) i,ty,pos,aft,gd⟩ N [] [(d,.v v)] [.slot d]:=by
 refine aY.v rfl fun g V oN a w hp => ?_
 obtain ⟨o',_,hr,_⟩:=ez hp.esN t
 dsimp only at hr
 rw [hlk] at hr
 simp only [R] at hr
 obtain ⟨xs,hx,hrs⟩:=hr
 have hl:=aQ hrs
 obtain ⟨o2,_,h2⟩:=mr f.offset hrs hlt
 rw [hi] at h2
 simp only [R] at h2
 have hix:f.offset<xs.length:=by omega
 have h3:xs[f.offset]? = some v:=by
  rw [List.getElem?_eq_getElem hix]
  have:=h2.1
  simpa [List.getD,hix] using this
 have h4:a.eval (.tmp t) = .agg xs.toArray:=by simp only [Act.eval,← hp.val]; exact hx
 simp [execOp,h4,Instr.field,run_underlying hT,hf,asAgg,part,ov ht,ha,h3]
end
section
variable {P:Program} {ty:TypeId} {pos:String} {aft:Array Edge} {gd:Option (Nat×Bool)}
end
def sN (E:TypeId) (s:Bool) (z:Nat) (ics:List IC) (b n c:Nat):iZ where
 P:=fun I M o w=>R (cv w I M) V0 w (.fr (.own E) s z ics) (.slice (some ⟨b,0,none⟩) n c) o
 stab:=by
  intro I M I' M' o w w' hI hM hw h
  exact gH (g:=cv w I M) (g':=cv w' I' M') (W:=[]) hI hM (fun _ _=>rfl) _ _ _ rfl (fun k hk=>hw k hk) h
theorem Cf {g g':Gh} {V V':bN→Value} {w:World} {m:Md} {s:Bool} {z:Nat} {ics:List IC} {x:Value} {o:List Nat} (hI:∀ b,g.Imm b→g'.Imm b) (hM:∀ b,g.Im b→g'.Im b) (h:R g V w (.fr m s z ics) x o):R g' V' w (.fr m s z ics) x o :=
 cl hI _ _ _ rfl (.inl hM) h
theorem BH {g:Gh} {V:bN→Value} {w:World} {E:TypeId} {s:Bool} {z:Nat} {ics:List IC} {x:Value} {o:List Nat} (h0:0<ics.length) (h:R g V w (.fr (.own E) s z ics) x o):∃ b n c,x = .slice (some ⟨b,0,none⟩) n c∧ics.length=n * z:=by
 obtain ⟨vs,h1,h2⟩:=kG h
 simp only [R] at h1
 obtain ⟨a,n,c,⟨rfl,_⟩,hl,_,_,hown,_⟩:=h1
 have hlen:=cG h2
 obtain ⟨b,c',cur,h4,_⟩:=lH hown (fun e=>by subst e; simp at hlen; omega)
 exact ⟨b,n,c',h4,by rw [← hlen,hl]⟩
theorem St.perm {g:Gh} {V:bN→Value} {o o':List Nat} {a:Act} {w:World} (hs:St g V o a w) (hp:o.Perm o'):St g V o' a w :=
 ⟨hs.val,hs.size,hs.defers,hs.dnd,fun D hD=>let ⟨h1,h2,h3⟩:=hs.marks D hD; ⟨h1,fun hm=>h2 (hp.mem_iff.2 hm),h3⟩,hp.nodup_iff.1 hs.nodup,fun b hb=>hs.own b (hp.mem_iff.2 hb),hs.imm,hs.chg⟩
theorem Cl (b:Nat) (oa om oc oR:List Nat):(b::(oa++(om++oc))++oR).Perm (b::(oa++([]++oc))++(om++oR)):=by
 simp only [List.nil_append,List.cons_append,List.append_assoc]
 refine .cons _ (.append_left _ ?_)
 rw [← List.append_assoc,← List.append_assoc]
 exact List.perm_append_comm.append_right _
theorem fR.openRow {g:Gh} {a:Act} {w:World} {es:List aO} {t i z:Nat} {T E:TypeId} {cs:List AV} {s:Bool} {ics:List IC} (gs:Nat) (hi:i<cs.length) (hg:cs.getD i .any = .fr (.own E) s z ics) (h0:0<ics.length) (h:fR g ((t,.box T cs)::es) a w) :
  ∃ b n c,ics.length=n * z∧fR g ((t,.box T (cs.set i (.v (.slice (some ⟨b,0,none⟩) n c))))::(gs,.inv (sN E s z ics b n c))::es) a w:=by
 obtain ⟨V,ow,hst,o1,oR,rfl,⟨hR,htie⟩,hF⟩:=h
 simp only [R] at hR
 obtain ⟨bb,ys,os,hp,rfl,hh,hrs⟩:=hR
 obtain ⟨oa,om,oc,rfl,hA,hRi,hC⟩:=fZ i hrs hi
 rw [hg] at hRi
 obtain ⟨b,n,c,hx,hn⟩:=BH h0 hRi
 rw [hx] at hRi
 refine ⟨b,n,c,hn,V,_,hst.perm (Cl bb oa om oc oR),bb::(oa++([]++oc)),om++oR,rfl,⟨?_,?_⟩,om,oR,rfl,⟨?_,trivial⟩,hF⟩
 ·simp only [R]
  exact ⟨bb,ys,_,hp,rfl,hh,kB i hi (aQ hrs) hA (by simp only [R]; exact ⟨hx,trivial⟩) hC⟩
 ·dsimp only at htie ⊢
  intro b' hb' j hj
  exact htie b' hb' j (by simpa using hj)
 ·simp only [R]
  exact Cf (g:=g) (g':=cv w g.Imm g.Im) (V':=V0) (fun _ h=>h) (fun _ h=>h) hRi
theorem fR.closeRow {g:Gh} {a:Act} {w:World} {es:List aO} {t gs i z b n c:Nat} {T E:TypeId} {cs:List AV} {s:Bool} {ics:List IC} (hi:i<cs.length) (hg:cs.getD i .any = .v (.slice (some ⟨b,0,none⟩) n c)) (h:fR g ((t,.box T cs)::(gs,.inv (sN E s z ics b n c))::es) a w) :
  fR g ((t,.box T (cs.set i (.fr (.own E) s z ics)))::es) a w:=by
 obtain ⟨V,ow,hst,o1,o2,rfl,⟨hR,htie⟩,om,oR,rfl,⟨hJ,_⟩,hF⟩:=h
 simp only [R] at hR hJ
 obtain ⟨bb,ys,os,hp,rfl,hh,hrs⟩:=hR
 obtain ⟨oa,oi,oc,rfl,hA,hRi,hC⟩:=fZ i hrs hi
 rw [hg] at hRi
 simp only [R] at hRi
 obtain ⟨hx,rfl⟩:=hRi
 refine ⟨V,_,hst.perm (Cl bb oa om oc oR).symm,bb::(oa++(om++oc)),oR,rfl,⟨?_,?_⟩,hF⟩
 ·simp only [R]
  refine ⟨bb,ys,_,hp,rfl,hh,kB i hi (aQ hrs) hA ?_ hC⟩
  rw [hx]
  exact Cf (V:=V0) (g:=cv w g.Imm g.Im) (fun _ h=>h) (fun _ h=>h) hJ
 ·dsimp only at htie ⊢
  intro b' hb' j hj
  exact htie b' hb' j (by simpa using hj)
section
variable {P:Program} {Q:Exit→Act→World→Prop} {g0:Gh} {rnd:Option Nat}
theorem Aq {cd:Code} {es:List aO} {t z:Nat} {T E:TypeId} {cs:List AV} {s:Bool} {ics:List IC} (gs i:Nat) (cs':Nat→Nat→Nat→List AV) (hi:i<cs.length) (hg:cs.getD i .any = .fr (.own E) s z ics) (hc':∀ b n c,cs.set i (.v (.slice (some ⟨b,0,none⟩) n c))=cs' b n c) (h0:0<ics.length)
  (h:∀ b n c,ics.length=n * z→HT rnd P Q g0 cd ((t,.box T (cs' b n c))::(gs,.inv (sN E s z ics b n c))::es)):HT rnd P Q g0 cd ((t,.box T cs)::es):=by
 intro g a w hl hs
 obtain ⟨b,n,c,hn,hs'⟩:=hs.openRow gs hi hg h0
 rw [hc'] at hs'
 exact h b n c hn g a w hl hs'
theorem zm {e:Exit} {es:List aO} {t gs z b n c:Nat} {T E:TypeId} {cs:List AV} {s:Bool} {ics:List IC} (i:Nat) (cs':List AV) (hi:i<cs.length) (hg:cs.getD i .any = .v (.slice (some ⟨b,0,none⟩) n c)) (hc':cs.set i (.fr (.own E) s z ics)=cs')
  (h:PT Q g0 e ((t,.box T cs')::es)):PT Q g0 e ((t,.box T cs)::(gs,.inv (sN E s z ics b n c))::es):=by
 subst hc'
 exact fun g a w hl hs=>h g a w hl (hs.closeRow hi hg)
theorem Bz {A:Type} {z i:Nat} {enc:A→List IC} (he:∀ x,(enc x).length=z) (hz:0<z) {l:List A} {x:A} (h:aA l i=some x):0<((l.map enc).flatten).length:=by
 have hi:i<l.length:=(List.getElem?_eq_some_iff.1 h).1
 rw [bT he]
 exact Nat.mul_pos (by omega) hz
variable {ty:TypeId} {pos:String} {aft:Array Edge} {gd:Option (Nat×Bool)}
theorem rP (N:List aO) (d:Nat) {T e:TypeId} (x y:Operand) {kd:IntKind} (nn:Int) (b n c i z:Nat) (hT:P.underlying T=some (.slice e)) (hz:(P.info? e).map (·.size)=some z)
  (hx:rd N x = .v (.slice (some ⟨b,0,none⟩) n c)) (hy:rd N y = .v (.int kd nn)) (hnn:nn=(i:Int)) (hi:i<n) :
  aY P ⟨some d,.indexAddr T x y,ty,pos,aft,gd⟩ N [] [(d,.v (.pointer (some ⟨b,i * z,none⟩)))] [.slot d]:=by
 subst hnn
 refine aY.v rfl fun g V oN a w hp => ?_
 have h2:=dD hp.val hp.esN hx
 have h3:=dD hp.val hp.esN hy
 simp [execOp,Instr.indexAt,Sem.run_bind,run_underlying hT,h2,h3,asIntOf,bE hz,hi,dV]
theorem zj {l:List IC} {n z i m:Nat} (hl:l.length=n * z) (hm:l.length=m * z) (hz:0<z) (hi:i<m):i<n:=by
 have:=Nat.eq_of_mul_eq_mul_right hz (hl.symm.trans hm)
 omega
theorem mU (N:List aO) {T:TypeId} (ax vx:Operand) {E:TypeId} {z:Nat} {s:Bool} {ics ics':List IC} (gs b n c k sz:Nat) (vs:List Value) (hs:(P.info? T).map (·.size)=some sz)
  (hx:rd N ax = .v (.pointer (some ⟨b,k,none⟩))) (hv:nB N vx=some vs) (hlen:vs.length=sz) (h0:0<sz) (hfit:k+sz≤ics.length) (hcs:ics.take k++(vs.map IC.v++ics.drop (k+sz))=ics') :
  aY P ⟨none,.store T ax vx,ty,pos,aft,gd⟩ N [(gs,.inv (sN E s z ics b n c))] [(gs,.inv (sN E s z ics' b n c))] []:=by
 subst hcs
 refine aY.core fun g V oN oT a w hd hp => ?_
 have hT:=hp.esT
 simp only [Es] at hT
 obtain ⟨ob,o2,rfl,⟨hR,_⟩,rfl⟩:=hT
 have h2:=dD hp.val hp.esN hx
 simp only [R] at hR
 have hR:R (cv w g.Imm g.Im) V0 w (.fr (.own E) s z ics) (.slice (some ⟨b,0,none⟩) n c) ob:=hR
 obtain ⟨xs,hR,hic⟩:=kG hR
 have hxl:=cG hic
 simp only [R] at hR
 obtain ⟨a0,n',c',⟨h3,_⟩,hl,hone,_,hown,hob⟩:=hR
 have hne:xs≠[]:=fun e=>by subst e; simp at hxl; omega
 obtain ⟨b',c',cur,h4,hb,hnc,hcm,hsz,htk,_⟩:=lH hown hne
 cases h4
 cases h3
 obtain ⟨hvc,hvo⟩:=pU hp.val hp.esN hv
 have hrun:(execOp a.eval ⟨none,.store T ax vx,ty,pos,aft,gd⟩).run P w = .ok .skip (w.setRow b (cur.toList.take k++vs++cur.toList.drop (k+vs.length)).toArray):=by
  have hcl:=(by simpa using hsz:cur.toList.length=_)
  have:=Nat.mul_le_mul_right z hnc
  have:=gF (P:=P) (w:=w) (T:=T) (off:=k) hs (cur:=cur.toList) (E:=E) (by simpa using hb) (v:=a.eval vx) (by rw [← hlen,← hvc]; simp) (by rw [hvc]; exact hvo) (by omega)
  rw [hvc] at this
  simp [execOp,Instr.storeAt,h2,Instr.sureAddr,this,hlen]
 refine (Yl.skip hrun).mono ?_
 rintro y w' ⟨rfl,rfl⟩
 have hnew:=oe (w:=w) (vs:=vs) k hb hnc hcm hsz htk hl (by omega)
 rw [hlen] at hnew
 have hone':∀ u∈xs.take k++(vs++xs.drop (k+sz)),u.oneCell'=true:=by
  intro u hu
  simp only [List.mem_append] at hu
  rcases hu with hu | hu | hu
  ·exact hone u (List.mem_of_mem_take hu)
  ·exact hvo u hu
  ·exact hone u (List.mem_of_mem_drop hu)
 have hchg:ei [b] w (w.setRow b (cur.toList.take k++vs++cur.toList.drop (k+vs.length)).toArray):=fB _ _ _
 have hob':ob=[b]:=by rw [hob]; rfl
 have hnb:¬ g.imm b:=(hp.own b (by simp [hob'])).2
 refine ⟨g,V,ob,g.le_refl,fun c hc => .inl hc,fun c hc=>Nat.lt_of_lt_of_le (hp.imm c (.inl hc)) hchg.size,hchg.mono (by rw [hob']; simp),fun _ _=>rfl,fun u=>by simp only [Act.put]; exact hp.val u,?_,?_,?_⟩
 ·refine ⟨ob,[],by simp,⟨?_,trivial⟩,rfl⟩
  simp only [R]
  show R (cv _ g.Imm g.Im) V0 _ (.fr (.own E) s z _) (.slice (some ⟨b,0,none⟩) n _) ob
  refine mj (vs:=xs.take k++(vs++xs.drop (k+sz))) ?_ ?_
  ·rw [hob']
   rw [← hlen] at hnew ⊢
   exact fV hnew (by rw [hlen]; exact hone')
  ·have hst:fK (cv (w.setRow b (cur.toList.take k++vs++cur.toList.drop (k+vs.length)).toArray) g.Imm g.Im) (w.setRow b (cur.toList.take k++vs++cur.toList.drop (k+vs.length)).toArray) s ics xs :=
    dr (g:=cv w g.Imm g.Im) (g':=cv (w.setRow b (cur.toList.take k++vs++cur.toList.drop (k+vs.length)).toArray) g.Imm g.Im) (fun b' hb'=>gR (g:=cv w g.Imm g.Im) (g':=cv (w.setRow b (cur.toList.take k++vs++cur.toList.drop (k+vs.length)).toArray) g.Imm g.Im) (fun _ h=>h) (fun _ h=>h) hb') (fun k' hk'=>hchg.block k' (hp.imm k' hk') (by simp only [List.mem_singleton]; rintro rfl; exact hnb hk')) ics xs hic
   exact bC (lu k hst) (bC (jz.2 rfl) (lF (k+sz) hst))
 ·exact (List.nodup_append.1 (List.nodup_append.1 hp.nodup).2.1).1
 ·intro c hc
  have:=hp.own c (by simp [hc])
  exact ⟨.inl (by simp [hc]),Nat.lt_of_lt_of_le this.1 hchg.size,this.2⟩
end
section
variable {P:Program} {ty:TypeId} {pos:String} {aft:Array Edge} {gd:Option (Nat×Bool)}
end
namespace Sh
end Sh
namespace Sh
end Sh
end Go.Abs
end
