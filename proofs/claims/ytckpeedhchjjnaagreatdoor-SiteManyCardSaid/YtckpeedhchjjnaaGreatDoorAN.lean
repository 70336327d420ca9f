import Derived.Lib.FrozenHead
import Derived.OpenShut
import Derived.FnData
import Derived.Lib.UnsafeStr
import Derived.Lib.Builder
import Derived.Lib.Repeat
import Derived.Lib.Join
import Derived.Lib.Atoi
import Derived.Lib.Bytealg
import Derived.Lib.IndexAny
import Derived.HandedShaped
import Derived.Lib.LaidTab
import Derived.Lib.ItoaNum
import Derived.Sort.Grow
import Derived.Test.YtckpeedhchjjnaaGreatDoorAR
section
namespace Go.Abs
mutual
def gw:AV→Bool
 | .fl (.own _) _ _=>false
 | .fr (.own _) _ _ _=>false
 | .box .. => false
 | .arr .. => false
 | .obox .. => false
 | .cloB .. => false
 | .inv _=>false
 | .mkr .. => false
 | .hid _=>false
 | .agg cs=>lR cs
 | .tup cs=>lR cs
 | _=>true
def lR:List AV→Bool
 | []=>true
 | c::cs=>gw c&&lR cs
end
mutual
theorem qS {g:Gh} {V:bF→Value} {w:World}:∀ (av:AV) (x:Value) (o:List Nat),gw av=true→R g V w av x o→o=[]
 | .any,x,o,_,h=>by simp only [R] at h; exact h
 | .v y,x,o,_,h=>by simp only [R] at h; exact h.2
 | .fl (.own _) z xs,x,o,hn,h=>by simp [gw] at hn
 | .fl .ro z xs,x,o,_,h=>by simp only [R,bW] at h; obtain ⟨a,n,c,_,_,_,_,h,_⟩:=h; exact h
 | .fl .shr z xs,x,o,_,h=>by simp only [R,bW] at h; obtain ⟨a,n,c,_,_,_,_,h,_⟩:=h; exact h
 | .agg cs,x,o,hn,h=>by simp only [R,gw] at *; obtain ⟨xs,_,h⟩:=h; exact rR cs xs o hn h
 | .tup cs,x,o,hn,h=>by simp only [R,gw] at *; obtain ⟨xs,_,h⟩:=h; exact rR cs xs o hn h
 | .box T cs,x,o,hn,h=>by simp [gw] at hn
 | .same l,x,o,_,h=>by simp only [R] at h; exact h.2
 | .ptr t i,x,o,_,h=>by simp only [R] at h; obtain ⟨b,_,_,h⟩:=h; exact h
 | .eref l k,x,o,_,h=>by simp only [R] at h; obtain ⟨a,n,c,_,_,h⟩:=h; exact h
 | .arr T vs,x,o,hn,h=>by simp [gw] at hn
 | .fr (.own _) s z cs,x,o,hn,h=>by simp [gw] at hn
 | .fr .ro s z cs,x,o,_,h=>by simp only [R,bW] at h; obtain ⟨vs,a,n,c,_,_,_,_,⟨h,_⟩,_⟩:=h; exact h
 | .fr .shr s z cs,x,o,_,h=>by simp only [R,bW] at h; obtain ⟨vs,a,n,c,_,_,_,_,⟨h,_⟩,_⟩:=h; exact h
 | .glob gl,x,o,_,h=>by simp only [R] at h; exact h.2
 | .obox p T cs,x,o,hn,h=>by simp [gw] at hn
 | .clo f ts,x,o,_,h=>by simp only [R] at h; exact h.2
 | .cut l k,x,o,_,h=>by simp only [R] at h; obtain ⟨a,n,c,_,_,_,_,h⟩:=h; exact h
 | .cloB f cs,x,o,hn,h=>by simp [gw] at hn
 | .inv J,x,o,hn,h=>by simp [gw] at hn
 | .mkr E xs,x,o,hn,h=>by simp [gw] at hn
 | .hid J,x,o,hn,h=>by simp [gw] at hn
 | .asl t i,x,o,_,h=>by simp only [R] at h; obtain ⟨b,_,_,h⟩:=h; exact h
theorem rR {g:Gh} {V:bF→Value} {w:World}:∀ (cs:List AV) (xs:List Value) (o:List Nat),lR cs=true→Rs g V w cs xs o→o=[]
 | [],xs,o,_,h=>by simp only [Rs] at h; exact h.2
 | c::cs,xs,o,hn,h=>by
  simp only [Rs,lR,Bool.and_eq_true] at *
  obtain ⟨x,xs',o1,o2,_,rfl,h1,h2⟩:=h
  rw [qS c x o1 hn.1 h1,rR cs xs' o2 hn.2 h2]; rfl
end
theorem ka {g:Gh} {V:bF→Value} {w:World}:∀ (es:List aJ) (o:List Nat),es.all (fun e=>gw e.2)=true→Es g V w es o→o=[]
 | [],o,_,h=>h
 | e::es,o,hn,h=>by
  simp only [List.all_cons,Bool.and_eq_true] at hn
  obtain ⟨o1,o2,rfl,⟨h1,_⟩,h2⟩:=h
  rw [qS _ _ _ hn.1 h1,ka es o2 hn.2 h2]; rfl
def tR (Imm Im:Nat→Prop) (o:List Nat) (w:World) (J':kO) (c:Bool) (e:Ending) (w':World):Prop :=
 e = .returned (.bool c)∧dq o w w'∧∃ (Imm':Nat→Prop) (o':List Nat),(∀ b,Imm b→Imm' b)∧(∀ b,Imm' b→Imm b∨b∈o∨(w.heap.size≤b∧b<w'.heap.size)) ∧
  J'.P Imm' Im o' w'∧o'.Nodup∧∀ b∈o',(b∈o∨w.heap.size≤b)∧b<w'.heap.size∧¬ (Imm' b∨Im b)
def sI {X S:Type} (P:Program) (l:Nat) (encY:X→AV) (Y:X→S→Option (S×Bool)) (J:S→kO):Prop :=
 ∀ (x:X) (s s':S) (c:Bool),Y x s=some (s',c)→∀ (Imm Im:Nat→Prop) (w:World) (v:Value) (o:List Nat),R (cz w Imm Im) V0 w (encY x) v []→(J s).P Imm Im o w→o.Nodup →
  (∀ b∈o,b<w.heap.size∧¬ (Imm b∨Im b))→(∀ b,Imm b∨Im b→b<w.heap.size) →
  ∃ fn tmps assign body,(Instr.yield l #[v]).run P w = .ok (.round l fn tmps assign body) w∧RoundIn Fence.wide 0 P l fn tmps assign body w (tR Imm Im o w (J s') c)
def Fw (o1:List Nat) (Imm Im:Nat→Prop) (w:World) (J':kO) (e:Ending) (w':World):Prop :=
 (∃ v,e = .returned v)∧dq o1 w w'∧∃ (Imm':Nat→Prop) (o':List Nat),(∀ b,Imm b→Imm' b)∧(∀ b,Imm' b→Imm b∨b∈o1∨(w.heap.size≤b∧b<w'.heap.size)) ∧
  J'.P Imm' Im o' w'∧o'.Nodup∧∀ b∈o',(b∈o1∨w.heap.size≤b)∧b<w'.heap.size∧¬ (Imm' b∨Im b)
def Jh (P:Program) (gl:List (Nat×List Value)) (f:FuncId) (l:Nat) (caps:List AV) (J J':kO):Prop :=
 ∀ (Imm Im:Nat→Prop) (w:World) (xs:List Value) (o1 o2:List Nat),(∀ b,Imm b∨Im b→b<w.heap.size)→EZ gl (fun b=>Imm b∨Im b) w→Rs (cz w Imm Im) V0 w caps xs o1→J.P Imm Im o2 w→(o1++o2).Nodup →
  (∀ b∈o1++o2,b<w.heap.size∧¬ (Imm b∨Im b))→Calls P f (#[.func (.yield l) #[] #[]]++xs.toArray) w (Fw (o1++o2) Imm Im w J')
def Dc (P:Program) (fn:Func) (o1:List Nat) (Imm Im:Nat→Prop) (w:World) (J':kO):Exit→Act→World→Prop:=bodyPost P fn (Fw o1 Imm Im w J')
section
variable {P:Program} {Q:Exit→Act→World→Prop} {g0:Gh} {rnd:Option Nat}
theorem Hj {f:FuncId} {fn:Func} {c:Code} {gl:List (Nat×List Value)} {l:Nat} {caps:List AV} {J J':kO} (hf:P.funcs[f]? = some fn) (hb:fn.body=some c) (hk:caps.length+1≤fn.ntmps) (hcl:bj caps=true)
  (h:∀ g0:Gh,g0.n=fn.ntmps→g0.ds=[]→HT none P (Dc P fn g0.io g0.Imm g0.Im g0.w0 J') g0 c (cB (.v (.func (.yield l) #[] #[])::caps)++[(fn.ntmps,.glob gl),(fn.ntmps+1,.inv J)])):Jh P gl f l caps J J':=by
 intro Imm Im w xs o1 o2 himm hgl hR hJ hnd ho;have hlen:=aZ hR;refine calls_of_wp hf hb ((wpIn_wide (n:=0)).1 ?_);have hsz:(#[Value.func (.yield l) #[] #[]]++xs.toArray)=(Value.func (.yield l) #[] #[]::xs).toArray:=by simp
 rw [hsz];let ys:=Value.func (.yield l) #[] #[]::xs;have hg:=h ⟨fn.ntmps,w,o1++o2,Imm,Im,[]⟩ rfl rfl ⟨fn.ntmps,w,o1++o2,Imm,Im,[]⟩ { tmps:=ys.toArray++Array.replicate (fn.ntmps-ys.toArray.size) undef,defers:=[] } w (Gh.le_refl _);let V:bF→Value:=fun l=>match l with | .slot t=>(ys.toArray++Array.replicate (fn.ntmps-ys.toArray.size) undef).getD t undef | .cell t i=>eB w ((ys.toArray++Array.replicate (fn.ntmps-ys.toArray.size) undef).getD t undef) i
 have hslot:∀ i x,ys[i]? = some x→V (.slot i)=x:=by intro i x hx;have hi:=(List.getElem?_eq_some_iff.1 hx).1;simp only [V,Array.getD_eq_getD_getElem?];rw [Array.getElem?_append_left (by simpa using hi)];simp [hx]
 refine hg ⟨V,o1++o2,⟨fun _=>rfl,?_,rfl,List.nodup_nil,by simp,hnd,fun b hb=>⟨(ho b hb).1,.inr hb,(ho b hb).2⟩,himm,dq.refl _ _⟩,aT.2 ⟨o1,o2,rfl,?_,?_⟩⟩
 ·simp [ys]; omega
 ·unfold cB;refine tu (g:=⟨fn.ntmps,w,o1++o2,Imm,Im,[]⟩) (fun av x o hc hr=>bV (fun _ h=>h) av x o hc (.inl fun _ h=>h) hr) (fun t i=>rfl) _ ys 0 o1 (by simp [bj,bq,hcl]) ?_ ?_
  ·simp only [Rs];refine ⟨_,xs,[],o1,rfl,rfl,by simp [R],?_⟩;exact bJ (g:=cz w Imm Im) (g':=⟨fn.ntmps,w,o1++o2,Imm,Im,[]⟩) (V:=V0) (V':=V0) (fun _ h=>h) caps xs o1 hcl (.inl fun _ h=>h) hR
  ·intro i x hx;rw [Nat.zero_add]; exact hslot i x hx
 ·exact ⟨[],o2,rfl,⟨by simp only [R]; exact ⟨hgl,trivial⟩,trivial⟩,o2,[],by simp,⟨by simp only [R]; exact hJ,trivial⟩,rfl⟩
theorem Cw {fn:Func} {g0 g:Gh} {j:Nat} {J':kO} {a:Act} {w:World} {Imm:Nat→Prop} (hres:fn.results.toList=[]) (hds:g0.ds=[]) (hI0:g0.Imm=Imm) (hle:g0.le g) (hs:eX g [(j,.inv J')] a w) :
  Dc P fn g0.io Imm g0.Im g0.w0 J' .ret a w∧Dc P fn g0.io Imm g0.Im g0.w0 J' .normal a w:=by
 have key:a.defers=[]∧∃ v,(results fn a.tmps).run P w = .ok v w∧Fw g0.io Imm g0.Im g0.w0 J' (.returned v) w:=by
  obtain ⟨V,o,hst,hes⟩:=hs;obtain ⟨o1,o2,rfl,⟨hR,_⟩,rfl⟩:=hes;simp only [R,List.append_nil] at hR hst;refine ⟨by rw [hst.defers,hle.ds,hds]; rfl,.tuple #[],?_,?_⟩
  ·have:fn.results = #[]:=by rw [← Array.toList_inj]; simpa using hres
   simp [results,this]
  ·refine ⟨⟨_,rfl⟩,by have:=hst.chg; rw [hle.w0,hle.io] at this; exact this,g.Imm,o1,by rw [← hI0]; exact hle.Imm,?_,by rw [← hle.Im]; exact hR,hst.nodup,?_⟩
   ·intro b hb;rcases hle.new b hb with h | h | h
    ·exact .inl (hI0 ▸ h)
    ·exact .inr (.inr ⟨h,hst.imm b (.inl hb)⟩)
    ·exact .inr (.inl h)
   ·intro b hb;have:=hst.own b hb;rw [hle.w0,hle.io] at this;exact ⟨this.2.1.symm,this.1,by have h2:=this.2.2; unfold Gh.imm at h2; rw [hle.Im] at h2; exact h2⟩
 exact ⟨key,key⟩
theorem vh {fn:Func} {Imm:Nat→Prop} {j:Nat} {J' J:kO} (hds:g0.ds=[]) (hI:g0.Imm=Imm) (hres:fn.results.toList=[]) (hJ:J=J'):PT (Dc P fn g0.io Imm g0.Im g0.w0 J') g0 .ret [(j,.inv J)]:=by subst hJ;exact fun g a w hg hs=>(Cw hres hds hI hg hs).1
theorem Gm {fn:Func} {Imm:Nat→Prop} {j:Nat} {J' J:kO} (hds:g0.ds=[]) (hI:g0.Imm=Imm) (hres:fn.results.toList=[]) (hJ:J=J'):PT (Dc P fn g0.io Imm g0.Im g0.w0 J') g0 .normal [(j,.inv J)]:=by subst hJ;exact fun g a w hg hs=>(Cw hres hds hI hg hs).2
end
section
variable {P:Program} {ty:TypeId} {pos:String} {aft:Array Edge} {gd:Option (Nat×Bool)}
theorem tw (N:List aJ) (d j l:Nat) {X S:Type} {encY:X→AV} {Y:X→S→Option (S×Bool)} {J:S→kO} {cal y:Operand} {ats:Array TypeId} (x:X) (s:S) (v:S×Bool) (hY:sI P l encY Y J) (h:Y x s=some v)
  (hcal:rd N cal = .v (.func (.yield l) #[] #[])) (hav:lN N y=encY x) (hno:N.all (fun e=>gw e.2)=true) :
  bh P ⟨some d,.call ⟨.value cal,#[y],ats⟩,ty,pos,aft,gd⟩ N [(j,.inv (J s))] [(j,.inv (J v.1)),(d,.v (.bool v.2))] [.slot d]:=by
 refine bh.core fun g V oN oT a w hd hp => ?_;have hN:=ka N oN hno hp.esN;subst hN;have hT:=hp.esT;obtain ⟨o1,o2,rfl,⟨hR,_⟩,rfl⟩:=hT;simp only [R] at hR;have hcv:=bP hp.val hp.esN hcal
 have hya:R (cz w g.Imm g.Im) V0 w (encY x) (a.eval y) []:=by rw [← hav];exact Ca (g:=g) (g':=cz w g.Imm g.Im) (oN:=[]) rfl (fun b hb=>hb.resolve_right (by simp)) hp.val hp.esN y
 have hown:∀ b∈o1,b<w.heap.size∧¬ (g.Imm b∨g.Im b):=fun b hb=>hp.own b (by simp [hb]);have hnd:o1.Nodup:=by have:=hp.nodup; simpa using this
 obtain ⟨fn,tmps,assign,body,hy,hround⟩:=hY x s v.1 v.2 h g.Imm g.Im w (a.eval y) o1 hya hR hnd hown (fun b hb=>hp.imm b hb)
 have hr:(execOp a.eval ⟨some d,.call ⟨.value cal,#[y],ats⟩,ty,pos,aft,gd⟩).run P w = .ok (.round l fn tmps assign body) w:=by simp only [execOp,resolve,hcv,Deferred.ofValue,invoke,Sem.run_bind,Sem.run_pure,Result.andThen];simpa [invoke] using hy
 refine Yl.round hr (hround.mono ?_);rintro e w' ⟨rfl,hchg,Imm',o',hI,hnew,hJ,hnd',ho'⟩;have hlt:d<g.n:=hd d rfl;refine ⟨_,rfl,{ g with Imm:=Imm' },ck V d (.bool v.2),o',⟨rfl,rfl,rfl,rfl,rfl,hI,fun b hb => ?_⟩,fun b hb => ?_,fun b hb => ?_,by simpa using hchg,fun l hl=>bY hl,fun t=>cU hp.val hp.size hlt t,?_,hnd',fun b hb => ?_⟩
 ·rcases hnew b hb with h | h | h
  ·exact .inl h
  ·exact .inr (hp.own2 b (by simp [h]))
  ·exact .inr (.inl (Nat.le_trans hp.base h.1))
 ·rcases hnew b hb with h | h | h
  ·exact .inl h
  ·exact .inr (.inl (by simp [h]))
  ·exact .inr (.inr h.1)
 ·rcases hnew b hb with h | h | h
  ·exact Nat.lt_of_lt_of_le (hp.imm b (.inl h)) hchg.size
  ·exact Nat.lt_of_lt_of_le (hown b h).1 hchg.size
  ·exact h.2
 ·exact ⟨o',[],by simp,⟨by simp only [R]; exact hJ,trivial⟩,[],[],rfl,⟨by simp [R,cC],trivial⟩,rfl⟩
 ·obtain ⟨h1,h2,h3⟩:=ho' b hb;exact ⟨h1.imp (fun h=>by simp [h]) id,h2,h3⟩
theorem Al (d f:Nat) (ts:List Nat) {T:List aJ} (cs:List AV) (hts:T=ts.zipWith (fun t c=>(t,c)) cs) (hlen:ts.length=cs.length) (hcl:cW [.slot d] cs=true) :
  bh P ⟨some d,.makeFunc (.func f) #[] (ts.map Operand.tmp).toArray,ty,pos,aft,gd⟩ [] T [(d,.cloB f cs)] [.slot d]:=by
 refine bh.core fun g V oN oT a w hd hp => ?_
 have hE:∀ (ts:List Nat) (cs:List AV) (o:List Nat),ts.length=cs.length→Es g V w (ts.zipWith (fun t c=>(t,c)) cs) o→Rs g V w cs (ts.map fun t=>V (.slot t)) o:=by
  intro ts
  induction ts with
  | nil=>intro cs o hl h; cases cs <;> simp_all [Rs,Es]
  | cons t ts ih =>
   intro cs o hl h
   cases cs with
   | nil=>simp at hl
   | cons c cs =>
    obtain ⟨o1,o2,rfl,⟨h1,_⟩,h2⟩:=h;simp only [List.map_cons,Rs];exact ⟨_,_,o1,o2,rfl,rfl,h1,ih cs o2 (by simpa using hl) h2⟩
 have hT:=hp.esT;rw [hts] at hT;have hRs:=hE ts cs oT hlen hT
 have hr:(execOp a.eval ⟨some d,.makeFunc (.func f) #[] (ts.map Operand.tmp).toArray,ty,pos,aft,gd⟩).run P w = .ok (.value (.func (.func f) #[] (ts.map fun t=>V (.slot t)).toArray)) w:=by
  have:((ts.map Operand.tmp).toArray.map a.eval)=(ts.map fun t=>V (.slot t)).toArray:=by simp [Function.comp_def,Act.eval,hp.val]
  simp [execOp,Instr.makeFunc,this]
 refine (Yl.val hr).mono ?_;rintro y w' ⟨rfl,rfl⟩;have hlt:d<g.n:=hd d rfl;refine ⟨g,ck V d _,oT,g.le_refl,fun b hb => .inl hb,fun b hb=>hp.imm b (.inl hb),dq.refl _ _,fun l hl=>bY hl,fun t=>cU hp.val hp.size hlt t,?_,?_,fun b hb => ?_⟩
 ·refine ⟨oT,[],by simp,⟨?_,trivial⟩,rfl⟩;show R g _ _ (.cloB f cs) (ck V d _ (.slot d)) oT;rw [cC];simp only [R];exact ⟨_,rfl,cq (W:=[.slot d]) (fun _ h=>h) (fun _ h=>h) (fun l hl=>bY hl) cs _ oT hcl (fun _ _=>rfl) hRs⟩
 ·exact (List.nodup_append.1 hp.nodup).2.1
 ·have:=hp.own b (by simp [hb]);exact ⟨.inl hb,this.1,this.2⟩
theorem gL (N:List aJ) (d:Nat) (f:FuncId) {cal:Operand} {args:Array Operand} {ats:Array TypeId} (avs:List AV) (res:AV) (hcal:rd N cal = .v (.func (.func f) #[] #[])) (hrun:∀ args w,(callFunc f args).run P w = .ok (.enter f args) w)
  (hav:args.toList.map (lN N)=avs) (hno:N.all (fun e=>gw e.2)=true) (hf:bA P f avs res) (hcl:bq res=true) :
  bh P ⟨some d,.call ⟨.value cal,args,ats⟩,ty,pos,aft,gd⟩ N [] [(d,res)] [.slot d]:=by
 refine bh.fresh rfl (ft _ _ hcl) fun g V oN a w hp => ?_;have hN:=ka N oN hno hp.esN;subst hN;have hcv:=bP hp.val hp.esN hcal
 have hr:(execOp a.eval ⟨some d,.call ⟨.value cal,args,ats⟩,ty,pos,aft,gd⟩).run P w = .ok (.enter f (args.map a.eval)) w:=by simp [execOp,resolve,hcv,Deferred.ofValue,invoke,hrun]
 have hargs:Rs (cz w g.Imm g.Im) V0 w avs (args.toList.map a.eval) []:=by rw [← hav];exact fg (g:=g) (g':=cz w g.Imm g.Im) (oN:=[]) rfl (fun b hb=>hb.resolve_right (by simp)) hp.val hp.esN _
 have hc:=hf g.Imm g.Im w _ (fun b hb=>hp.imm b hb) hargs;have ea:(args.toList.map a.eval).toArray=args.map a.eval:=by rw [← Array.toList_map]
 rw [ea] at hc;refine Yl.call hr (hc.mono ?_);rintro e w' ⟨x,rfl,hchg,Imm',o,hI,hnew,hR,hnd,hfr⟩;refine ⟨x,rfl,hchg,{ g with Imm:=fun b=>Imm' b },o,⟨rfl,rfl,rfl,rfl,rfl,hI,fun b hb => ?_⟩,hnew,?_,hnd,hfr⟩
 ·rcases hnew b hb with h | h
  ·exact .inl h
  ·exact .inr (.inl (Nat.le_trans hp.base h.1))
 ·exact bV (g:=cz w Imm' g.Im) (g':={ g with Imm:=fun b=>Imm' b }) (fun _ h=>h) res x o hcl (.inl fun _ h=>h) hR
theorem xV (N:List aJ) (d n:Nat) (f:FuncId) {gl gl':List (Nat×List Value)} {cal:Operand} {args:Array Operand} {ats:Array TypeId} (avs:List AV) (res:AV) (hcal:rd N cal = .v (.func (.func f) #[] #[])) (hrun:∀ args w,(callFunc f args).run P w = .ok (.enter f args) w)
  (hav:args.toList.map (lN N)=avs) (hno:N.all (fun e=>gw e.2)=true) (hgl:look N n = .glob gl') (hsub:∀ p∈gl,p∈gl') (hf:fJ P gl f avs res) (hcl:bq res=true) :
  bh P ⟨some d,.call ⟨.value cal,args,ats⟩,ty,pos,aft,gd⟩ N [] [(d,res)] [.slot d]:=by
 refine bh.fresh rfl (ft _ _ hcl) fun g V oN a w hp => ?_;have hN:=ka N oN hno hp.esN;subst hN;have hcv:=bP hp.val hp.esN hcal
 have hr:(execOp a.eval ⟨some d,.call ⟨.value cal,args,ats⟩,ty,pos,aft,gd⟩).run P w = .ok (.enter f (args.map a.eval)) w:=by simp [execOp,resolve,hcv,Deferred.ofValue,invoke,hrun]
 have hargs:Rs (cz w g.Imm g.Im) V0 w avs (args.toList.map a.eval) []:=by rw [← hav];exact fg (g:=g) (g':=cz w g.Imm g.Im) (oN:=[]) rfl (fun b hb=>hb.resolve_right (by simp)) hp.val hp.esN _
 obtain ⟨og,_,hRg,_⟩:=cE hp.esN n;dsimp only at hRg;rw [hgl] at hRg;simp only [R] at hRg;have hc:=hf g.Imm g.Im w _ (fun b hb=>hp.imm b hb) (fun p hp'=>hRg.1 p (hsub p hp')) hargs;have ea:(args.toList.map a.eval).toArray=args.map a.eval:=by rw [← Array.toList_map]
 rw [ea] at hc;refine Yl.call hr (hc.mono ?_);rintro e w' ⟨x,rfl,hchg,Imm',o,hI,hnew,hR,hnd,hfr⟩;refine ⟨x,rfl,hchg,{ g with Imm:=fun b=>Imm' b },o,⟨rfl,rfl,rfl,rfl,rfl,hI,fun b hb => ?_⟩,hnew,?_,hnd,hfr⟩
 ·rcases hnew b hb with h | h
  ·exact .inl h
  ·exact .inr (.inl (Nat.le_trans hp.base h.1))
 ·exact bV (g:=cz w Imm' g.Im) (g':={ g with Imm:=fun b=>Imm' b }) (fun _ h=>h) res x o hcl (.inl fun _ h=>h) hR
end
end Go.Abs
end
section
namespace Go.Abs
structure yr where
 l:Nat
 D:Nat
 fn:FuncId
 tm:Array Value
 ps:Array Tmp
 asg:Code
 bod:Code
def yr.rc (k:yr) (st:LoopState) (pe:Option Code):Loop:={ state:=st,pending:=pe,fn:=k.fn,tmps:=k.tm,params:=k.ps,assign:=k.asg,body:=k.bod,defers:=k.D }
def Gp (l D:Nat) (rc:Loop):kO where
 P:=fun _ _ o w=>o=[l,D]∧l≠D∧w.heap[l]? = some (.loop rc)∧w.heap[D]? = some (.deferred (some []))
 stab:=fun I M I' M' o w w' _ _ hw h=>by
  obtain ⟨rfl,h1,h2,h3⟩:=h
  exact ⟨rfl,h1,(hw l (.inl (by simp))).trans h2,(hw D (.inl (by simp))).trans h3⟩
def Ce (tm:Array Value) (ts:List Nat):List aJ:=ts.map fun t=>(t,.v (tm.getD t undef))
theorem js (e:aJ):bX [] e=true:=by simp only [bX,fq,List.any_nil,List.all_nil,Bool.not_false,Bool.true_and,Bool.and_true,Bool.or_true]; exact iS e.2
def FR (es:List aJ) (tm:Array Value) (l D:Nat) (rc:Loop):kO where
 P:=fun Imm Im o w=>∃ V o1,(∀ t∈es.map (·.1),V (.slot t)=tm.getD t undef)∧o=o1++[l,D]∧Es (cz w Imm Im) V w es o1∧l≠D∧w.heap[l]? = some (.loop rc)∧w.heap[D]? = some (.deferred (some []))
 stab:=fun I M I' M' o w w' hI hM hw h=>by
  obtain ⟨V,o1,h1,rfl,h2,h3,h4,h5⟩:=h
  refine ⟨V,o1,h1,rfl,?_,h3,(hw l (.inl (by simp))).trans h4,(hw D (.inl (by simp))).trans h5⟩
  exact dI (W:=[]) (g:=cz w I M) (g':=cz w' I' M') hI hM (fun _ _=>rfl) es o1 (fun e _=>js e) (fun b hb=>hw b (by
   rcases hb with hb | hb
   ·exact .inl (by simp [hb])
   ·exact .inr hb)) h2
def yr.ready (k:yr):kO:=Gp k.l k.D (k.rc .ready none)
def yr.busy (k:yr):kO:=Gp k.l k.D (k.rc .busy none)
def yr.J {S O:Type} (k:yr) (I:S→List aJ) (E:O→List aJ):S⊕O→kO
 | .inl s=>FR (I s) k.tm k.l k.D (k.rc .ready none)
 | .inr o=>FR (E o) k.tm k.l k.D (k.rc .done (some .ret))
def KN (P:Program) (k:yr) (body:Code) (Rr:Ending→World→Prop):Exit→Act→World→Prop :=
 Exit.then (fun a1 w1=>∃ w2,(Instr.beginRound k.l).run P w1 = .ok () w2∧body.wpIn (FW (some k.l)) 0 P (roundPost P k.l Rr) a1 w2) (fun _ _ _=>False)
theorem tG {g g':Gh} {V V':bF→Value} {w:World} (hI:∀ b,g.Imm b→g'.Imm b) (hM:∀ b,g.Im b→g'.Im b) (hC:∀ t i,V' (.cell t i)=V (.cell t i)):∀ (es:List aJ) (o:List Nat),es.all (fun e=>bq e.2)=true →
  (∀ t∈es.map (·.1),V' (.slot t)=V (.slot t))→Es g V w es o→Es g' V' w es o
 | [],o,_,_,h=>h
 | e::es,o,hc,hV,h=>by
  simp only [List.all_cons,ah] at hc
  obtain ⟨o1,o2,rfl,⟨h1,ht⟩,h2⟩:=h
  have he:V' (.slot e.1)=V (.slot e.1):=hV e.1 (by simp)
  refine ⟨o1,o2,rfl,⟨?_,?_⟩,tG hI hM hC es o2 hc.2 (fun t ht=>hV t (by simp at ht ⊢; exact .inr ht)) h2⟩
  ·rw [he]; exact bV hI e.2 _ o1 hc.1 (.inl hM) h1
  ·obtain ⟨t,av⟩:=e
   cases av <;> try trivial
   case box T cs =>
    intro b hb i hi
    dsimp only at hb hi ht he ⊢
    rw [he] at hb
    rw [hC]
    exact ht b hb i hi
theorem Bb {g:Gh} {V:bF→Value} {w:World} {tm:Array Value}:∀ (ts:List Nat) (o:List Nat),Es g V w (Ce tm ts) o→o=[]∧∀ t∈ts,V (.slot t)=tm.getD t undef
 | [],o,h=>⟨h,by simp⟩
 | t::ts,o,h=>by
  obtain ⟨o1,o2,rfl,⟨h1,_⟩,h2⟩:=h
  simp only [R] at h1
  obtain ⟨rfl,h3⟩:=Bb ts o2 h2
  rw [h1.2]
  refine ⟨rfl,fun u hu => ?_⟩
  rcases aW.1 hu with rfl | hu
  ·exact h1.1
  ·exact h3 u hu
theorem CA {g:Gh} {V:bF→Value} {w:World} {tm:Array Value}:∀ (ts:List Nat),(∀ t∈ts,V (.slot t)=tm.getD t undef)→Es g V w (Ce tm ts) []
 | [],_=>rfl
 | t::ts,h=>⟨[],[],rfl,⟨by simp only [R]; exact ⟨h t (by simp),trivial⟩,trivial⟩,CA ts fun u hu=>h u (by simp [hu])⟩
section
variable {P:Program} {Q:Exit→Act→World→Prop} {g0:Gh}
theorem eX.rec {g:Gh} {es:List aJ} {j:Nat} {l D:Nat} {rc:Loop} (rc':Loop) {a:Act} {w:World} (h:eX g (es++[(j,.inv (Gp l D rc))]) a w) :
  w.heap[l]? = some (.loop rc)∧eX g (es++[(j,.inv (Gp l D rc'))]) a (w.putObj l (.loop rc')):=by
 obtain ⟨V,o,hst,hes⟩:=h;obtain ⟨o1,o2,rfl,h1,o3,o4,rfl,⟨h2,_⟩,rfl⟩:=aT.1 hes;simp only [R] at h2;obtain ⟨rfl,hne,hl,hD⟩:=h2;simp only [bn] at hst;have hlt:l<w.heap.size:=(Array.getElem?_eq_some_iff.1 hl).1;have hown:=hst.own l (by simp);have hnl:l ∉ o1:=fun hm=>(ag.1 hst.nodup).2.2 l hm l (by simp) rfl;refine ⟨hl,V,o1++([l,D]++[]),⟨hst.val,hst.size,hst.defers,hst.dnd,fun E hE => ?_,by simpa using hst.nodup,fun b hb => ?_,fun b hb=>by simpa using hst.imm b hb,?_⟩,aT.2 ⟨o1,_,rfl,?_,[l,D],[],rfl,⟨?_,trivial⟩,rfl⟩⟩
 ·obtain ⟨k1,k2,k3⟩:=hst.marks E hE;refine ⟨(World.putObj_heap_other (fun e=>k2 (by simp [e]))).trans k1,by simpa using k2,k3⟩
 ·have:=hst.own b (by simpa using hb);exact ⟨by simpa using this.1,this.2⟩
 ·refine hst.chg.trans' (U:=[l]) ⟨rfl,rfl,rfl,by simp,fun k _ hk=>World.putObj_heap_other (by simpa using hk)⟩ (fun x hx => ?_);simp at hx; subst hx;exact hown.2.1.symm
 ·refine dI (W:=[]) (fun _ h=>h) (fun _ h=>h) (fun _ _=>rfl) es o1 (fun e _=>js e) (fun b hb=>World.putObj_heap_other fun e => ?_) h1;subst e;rcases hb with hb | hb
  ·exact hnl hb
  ·exact hown.2.2 hb
 ·simp only [R];exact ⟨rfl,hne,World.putObj_heap_same hlt,(World.putObj_heap_other (Ne.symm hne)).trans hD⟩
theorem xw {c:Code} {es es':List aJ} {rnd:Option Nat} (he:es=es') (h:HT rnd P Q g0 c es'):HT rnd P Q g0 c es:=he ▸ h
theorem nd {k:yr} {body:Code} {Rr:Ending→World→Prop} {es es0:List aJ} (j:Nat) (he:es++[(j,.inv k.ready)]=es0) (h:HT (some k.l) P (roundPost P k.l Rr) g0 body (es++[(j,.inv k.busy)])):PT (KN P k body Rr) g0 .normal es0:=by subst he;intro g a w hg hs;obtain ⟨h1,h2⟩:=eX.rec (k.rc .busy none) hs;exact ⟨_,run_beginRound h1 rfl,h g a _ hg h2⟩
theorem xP {S O:Type} {k:yr} {I:S→List aJ} {E:O→List aJ} {es:List aJ} {j:Nat} {ts:List Nat} (u:S⊕O) (pe:Option Code) (hpe:(pe.isNone=u.isLeft)∧k.J I E u=FR es k.tm k.l k.D (k.rc (if pe.isNone then .ready else .done) pe))
  (hts:∀ t∈es.map (·.1),t∈ts) {g:Gh} {a:Act} {w:World} (hg:g0.le g) (hs:eX g (es++(Ce k.tm ts++[(j,.inv k.busy)])) a w) :
  ∃ v w',(Instr.endRound k.l pe).run P w = .ok v w'∧tR g0.Imm g0.Im g0.io g0.w0 (k.J I E u) u.isLeft (.returned v) w':=by
 rw [← ar] at hs;obtain ⟨h1,h2⟩:=eX.rec (k.rc (if pe.isNone then .ready else .done) pe) hs;refine ⟨_,_,run_endRound pe h1,by rw [hpe.1],?_⟩;change dq g0.io g0.w0 (w.putObj k.l (.loop (k.rc (if pe.isNone then .ready else .done) pe)))∧_;obtain ⟨V,o,hst,hes⟩:=h2;obtain ⟨o1,o2,rfl,h3,o3,o4,rfl,⟨h4,_⟩,rfl⟩:=aT.1 hes;obtain ⟨oE,oP,rfl,h5,h6⟩:=aT.1 h3;obtain ⟨rfl,hpin⟩:=Bb ts oP h6;simp only [R] at h4;obtain ⟨rfl,hne,hl,hD⟩:=h4;simp only [bn] at hst;refine ⟨by have:=hst.chg; rw [hg.io,hg.w0] at this; exact this,g.Imm,oE++[k.l,k.D],hg.Imm,fun b hb => ?_,?_,hst.nodup,fun b hb => ?_⟩
 ·rcases hg.new b hb with h | h | h
  ·exact .inl h
  ·exact .inr (.inr ⟨h,hst.imm b (.inl hb)⟩)
  ·exact .inr (.inl h)
 ·rw [hpe.2];refine ⟨V,oE,fun t ht=>hpin t (hts t ht),rfl,?_,hne,hl,hD⟩;exact dI (W:=[]) (g:=g) (g':=cz _ g.Imm g0.Im) (fun _ h=>h) (fun b h=>by rw [hg.Im] at h; exact h) (fun _ _=>rfl) es oE (fun e _=>js e) (fun _ _=>rfl) h5
 ·have:=hst.own b hb;rw [hg.w0,hg.io] at this;exact ⟨this.2.1.symm,this.1,by have h7:=this.2.2; unfold Gh.imm at h7; rw [hg.Im] at h7; exact h7⟩
theorem nu {S O:Type} {k:yr} {I:S→List aJ} {E:O→List aJ} {es0:List aJ} (j:Nat) (ts:List Nat) {u:S⊕O} (s:S) (hu:u = .inl s) (he:I s++(Ce k.tm ts++[(j,.inv k.busy)])=es0) (hts:((I s).map (·.1)).all (fun t=>kL t ts)=true) :
  PT (roundPost P k.l (tR g0.Imm g0.Im g0.io g0.w0 (k.J I E u) u.isLeft)) g0 .normal es0:=by subst hu; subst he;intro g a w hg hs;exact xP (.inl s) none ⟨rfl,rfl⟩ (fun t ht=>dU.1 (aR.1 hts t ht)) hg hs
theorem FF {S O:Type} {k:yr} {I:S→List aJ} {E:O→List aJ} {es0:List aJ} (j:Nat) (ts:List Nat) {u:S⊕O} (o:O) (hu:u = .inr o) (he:E o++(Ce k.tm ts++[(j,.inv k.busy)])=es0) (hts:((E o).map (·.1)).all (fun t=>kL t ts)=true) :
  PT (roundPost P k.l (tR g0.Imm g0.Im g0.io g0.w0 (k.J I E u) u.isLeft)) g0 .ret es0:=by subst hu; subst he;intro g a w hg hs;exact xP (.inr o) (some .ret) ⟨rfl,rfl⟩ (fun t ht=>dU.1 (aR.1 hts t ht)) hg hs
end
def wG {X S O:Type} (step:X→S→Option (S⊕O)) (x:X):S⊕O→Option ((S⊕O)×Bool)
 | .inl s=>(step x s).map fun u=>(u,u.isLeft)
 | .inr _=>none
def sC {X S O:Type} (it:(X→S⊕O→Option ((S⊕O)×Bool))→S⊕O→Option (S⊕O)) (step:X→S→Option (S⊕O)) (s0:S):Option (S⊕O):=it (wG step) (.inl s0)
def Jq (gl:List (Nat×List Value)) (es:List aJ):Prop:=∀ g V w o,Es g V w es o→EZ gl g.imm w
theorem kW {gl:List (Nat×List Value)} {es:List aJ} (n:Nat) (h:look es n = .glob gl):Jq gl es:=fun g V w o hes=>by
 obtain ⟨o',_,hR,_⟩:=cE hes n
 dsimp only at hR
 rw [h] at hR
 simp only [R] at hR
 exact hR.1
end Go.Abs
end
section
namespace Go.Abs
theorem heap_alloc (w:World) (o:Obj) (k:Nat) (hk:k<w.heap.size):(w.alloc o).heap[k]? = w.heap[k]? := (dq.alloc [] w o).block k hk (by simp)
section
variable {P:Program} {Q:Exit→Act→World→Prop} {g0:Gh}
theorem zm {X S O:Type} {encY:X→AV} {step:X→S→Option (S⊕O)} {n p j:Nat} {ts:List Nat} {asg body:Code} (I:S→List aJ) (E:O→List aJ)
  (hts:∀ s,(I s).map (·.1)=ts) (hcl:∀ s,(I s).all (fun e=>bq e.2)=true) (hp:(ts.all (fun t => !Nat.beq t p))=true) (hpn:p<n) (hey:∀ x,bq (encY x)=true∧dM (encY x)=true)
  (hround:∀ (kk:yr) (g1:Gh),g1.n=n→g1.ds=[]→∀ x s u,step x s=some u→HT (some kk.l) P (KN P kk body (tR g1.Imm g1.Im g1.io g1.w0 (kk.J I E u) u.isLeft)) g1 asg ((p,encY x)::(I s++(Ce kk.tm ts++[(j,.inv kk.ready)]))))
  (kk:yr) (hsz:kk.tm.size=n) (hps:kk.ps = #[p]) (hasg:kk.asg=asg) (hbod:kk.bod=body):sI P kk.l encY (wG step) (kk.J I E):=by
 intro x t t' c hY Imm Im W v o hv hJ hnd hown himm
 cases t with
 | inr q=>simp [wG] at hY
 | inl s =>
  simp only [wG,Option.map_eq_some_iff,Prod.mk.injEq] at hY;obtain ⟨u,hu,rfl,rfl⟩:=hY;obtain ⟨V,o1,hpin,rfl,hes,hne,hl,hD⟩:=hJ;have hy:=run_yield (P:=P) (args := #[v]) hl (by simp [yr.rc,hps]);have hf:(kk.ps.zip #[v]).foldl (fun tmps (t,a)=>tmps.setIfInBounds t a) kk.tm=kk.tm.setIfInBounds p v:=by rw [hps]; simp
  have hf':((kk.rc .ready none).params.zip #[v]).foldl (fun tmps (t,a)=>tmps.setIfInBounds t a) (kk.rc .ready none).tmps=kk.tm.setIfInBounds p v:=hf;refine ⟨kk.fn,kk.tm.setIfInBounds p v,asg,body,?_,?_⟩
  ·rw [hy,hf']; simp only [yr.rc,hasg,hbod]
  ·have hdef:∀ t,(kk.tm.setIfInBounds p v).getD t undef=if t=p then v else kk.tm.getD t undef:=fun t=>by have:=eM { tmps:=kk.tm,defers:=[] } p t v (by rw [hsz]; exact hpn);simpa [Act.put] using this
   let g1:Gh:=⟨n,W,o1++[kk.l,kk.D],Imm,Im,[]⟩;have hh:=hround kk g1 rfl rfl x s u hu g1 { tmps:=kk.tm.setIfInBounds p v,defers:=[] } W g1.le_refl ?_
   ·exact roundIn_of_wpIn (F:=Fence.wide) (n:=0) trivial hh
   ·have hnp:∀ t∈ts,t≠p:=fun t ht e=>by have:=aR.1 hp t ht;rw [e,Nat.beq_refl] at this; simp at this
    let V1:bF→Value:=fun l=>match l with | .slot t=>(kk.tm.setIfInBounds p v).getD t undef | .cell t i=>V (.cell t i)
    refine ⟨V1,o1++[kk.l,kk.D],⟨fun _=>rfl,by simp [g1,hsz],rfl,List.nodup_nil,by simp [g1],hnd,fun b hb=>⟨(hown b hb).1,.inr hb,(hown b hb).2⟩,himm,dq.refl _ _⟩,?_⟩;refine ⟨[],o1++[kk.l,kk.D],rfl,⟨?_,?_⟩,aT.2 ⟨o1,[kk.l,kk.D],rfl,?_,aT.2 ⟨[],[kk.l,kk.D],rfl,CA ts fun t ht => ?_,[kk.l,kk.D],[],rfl,⟨?_,trivial⟩,rfl⟩⟩⟩
    ·have:V1 (.slot p)=v:=by simp only [V1]; rw [hdef,if_pos rfl]
     show R g1 V1 W (encY x) (V1 (.slot p)) [];rw [this];exact bV (g:=cz W Imm Im) (g':=g1) (fun _ h=>h) (encY x) v [] (hey x).1 (.inl fun _ h=>h) hv
    ·have:=(hey x).2;generalize encY x=av at this
     cases av <;> first | trivial | (simp [dM] at this)
    ·refine tG (g:=cz W Imm Im) (g':=g1) (V:=V) (V':=V1) (fun _ h=>h) (fun _ h=>h) (fun _ _=>rfl) (I s) o1 (hcl s) (fun t ht => ?_) hes;rw [hpin t ht];simp only [V1];rw [hdef,if_neg (hnp t (by rw [← hts s]; exact ht))]
    ·simp only [V1];rw [hdef,if_neg (hnp t ht)]
    ·simp only [R];exact ⟨rfl,hne,hl,hD⟩
theorem kX {X S O A:Type} {gl:List (Nat×List Value)} {caps:List AV} {encY:X→AV} {it:(X→S⊕O→Option ((S⊕O)×Bool))→S⊕O→Option (S⊕O)} {step:X→S→Option (S⊕O)} {s0:S} {k:S→Option A} {e:O→Option A} {r:A}
  (h:aB (sC it step s0) k e=some r) (f tf p j n:Nat) (ts:List Nat) {asg body:Code} {es:List aJ}
  (hrun:∀ args w,(callFunc f args).run P w = .ok (.enter f args) w) (I:S→List aJ) (E:O→List aJ)
  (fq:∀ (l:Nat) (J:S⊕O→kO) (Y:X→S⊕O→Option ((S⊕O)×Bool)),sI P l encY Y J→∀ t t':S⊕O,it Y t=some t'→Jh P gl f l caps (J t) (J t'))
  (hn:g0.n=n) (hes:(tf,.cloB f caps)::I s0=es) (hts:∀ s,(I s).map (·.1)=ts) (hcl:∀ s,(I s).all (fun e=>bq e.2)=true) (hclE:∀ o,(E o).all (fun e=>bq e.2)=true)
  (hp:(ts.all (fun t => !Nat.beq t p))=true) (hpn:Nat.blt p n=true) (hey:∀ x,bq (encY x)=true∧dM (encY x)=true) (hcc:bj caps=true) (hgl:Jq gl (I s0))
  (hround:∀ (kk:yr) (g1:Gh),g1.n=n→g1.ds=[]→∀ x s u,step x s=some u→HT (some kk.l) P (KN P kk body (tR g1.Imm g1.Im g1.io g1.w0 (kk.J I E u) u.isLeft)) g1 asg ((p,encY x)::(I s++(Ce kk.tm ts++[(j,.inv kk.ready)]))))
  (hk:∀ D s,k s=some r→PT Q { g0 with ds:=D::g0.ds } .normal (I s)) (he:∀ D o,e o=some r→PT Q { g0 with ds:=D::g0.ds } .ret (E o)):HT none P Q g0 (.rangeFunc (.tmp tf) #[p] asg body) es:=by
 subst hes;intro g a w hg hs;obtain ⟨u,hm,hkl,hkr⟩:=sA h;obtain ⟨V,o,hst,oC,oI,rfl,⟨hR,_⟩,hes⟩:=hs;simp only [R] at hR;obtain ⟨xs,hx,hRs⟩:=hR;have hsz:a.tmps.size=n:=by rw [hst.size,hg.n,hn]
 refine wpIn_rangeFunc (F:=FW none) (n:=0) fun fn hfn => ?_;let D:=w.heap.size;let kk:yr:=⟨w.heap.size+1,D,fn,a.tmps,#[p],asg,body⟩;obtain ⟨W1,hW1⟩:∃ W1,(w.alloc (.deferred (some []))).alloc (.loop (kk.rc .ready none))=W1:=⟨_,rfl⟩;have hS1:W1.heap.size=w.heap.size+2:=by rw [← hW1]; simp
 have hL1:W1.heap[w.heap.size+1]? = some (.loop (kk.rc .ready none)):=by rw [← hW1]; have:=World.alloc_heap_new (w.alloc (.deferred (some []))) (.loop (kk.rc .ready none)); rwa [World.size_alloc] at this
 have hK1:W1.heap[w.heap.size]? = some (.deferred (some [])):=by rw [← hW1]; exact (heap_alloc _ _ _ (by simp)).trans (World.alloc_heap_new w _)
 have hold:∀ b,b<w.heap.size→W1.heap[b]? = w.heap[b]? := fun b hb=>by rw [← hW1]; exact (heap_alloc _ _ b (by simp; omega)).trans (heap_alloc w _ b hb)
 have hch1:dq [] w W1:=by rw [← hW1]; exact (dq.alloc [] w _).trans (dq.alloc [] _ _)
 have hfv:a.eval (.tmp tf) = .func (.func f) #[] xs.toArray:=by simp only [Act.eval,← hst.val]; exact hx
 have hownlt:∀ b∈oC++oI,b<w.heap.size:=fun b hb=>(hst.own b hb).1;have hYO:=zm (P:=P) (asg:=asg) (body:=body) (j:=j) I E hts hcl hp (rh.1 hpn) hey hround kk (by simp [kk,hsz]) rfl rfl rfl
 refine ⟨w.heap.size+1,[{ target := .collected w.heap.size,args := #[] }],W1,{ target := .fn (.func f) xs.toArray,args := #[.func (.yield (w.heap.size+1)) #[] #[]] },W1,f,
  #[.func (.yield (w.heap.size+1)) #[] #[]]++xs.toArray,W1,?_,?_,fun _ _=>trivial,?_,fun h=>by simp [FW,Fence.wide] at h,?_⟩
 ·rw [← hW1]; exact run_enterLoop_outer _ _ _ _ _
 ·simp only [resolve,hfv];simp [go_sem]
 ·simp [invoke,go_sem,hrun]
 ·have hstab:∀ b,(b∈oC++oI∨g.imm b)→W1.heap[b]? = w.heap[b]? := fun b hb=>hold b (by
   rcases hb with hb | hb
   ·exact hownlt b hb
   ·exact hst.imm b hb)
  have hEs1:Es g V W1 (I s0) oI:=dI (W:=[]) (fun _ h=>h) (fun _ h=>h) (fun _ _=>rfl) _ oI (fun e _=>js e) (fun b hb=>hstab b (hb.imp (fun h=>by simp [h]) id)) hes
  have hRs1:Rs (cz W1 g.Imm g.Im) V0 W1 caps xs oC:=bJ (g:=g) (g':=cz W1 g.Imm g.Im) (V:=V) (V':=V0) (fun _ h=>h) caps xs oC hcc (.inl fun _ h=>h)
   (cq (W:=[]) (fun _ h=>h) (fun _ h=>h) (fun _ _=>rfl) caps xs oC (dN caps) (fun b hb=>hstab b (hb.imp (fun h=>by simp [h]) id)) hRs)
  have hgok:=hgl g V W1 oI hEs1;have hne:kk.l≠kk.D:=by simp [kk,D]
  have hcall:=fq kk.l (kk.J I E) (wG step) hYO (.inl s0) u hm g.Imm g.Im W1 xs oC (oI++[kk.l,kk.D]) (fun b hb=>am (hst.imm b hb) hch1.size) hgok hRs1
   ⟨V,oI,fun t _=>hst.val t,rfl,dI (W:=[]) (g:=g) (g':=cz W1 g.Imm g.Im) (fun _ h=>h) (fun _ h=>h) (fun _ _=>rfl) _ oI (fun e _=>js e) (fun _ _=>rfl) hEs1,hne,hL1,hK1⟩
   (by
    rw [← ar]
    refine ag.2 ⟨hst.nodup,by simp [hne],fun b hb c hc e => ?_⟩
    subst e
    have:=hownlt b hb
    simp [kk,D] at hc
    omega)
   (fun b hb=>by
    rw [← ar] at hb
    rcases ak.1 hb with hb | hb
    ·exact ⟨am (hownlt b hb) hch1.size,(hst.own b hb).2.2⟩
    ·have hbw:w.heap.size≤b∧b<w.heap.size+2:=by simp [kk,D] at hb; omega
     exact ⟨by omega,fun hi=>by have:=hst.imm b hi; omega⟩)
  have hcall':CallsIn (FW none) (0-1) P f (#[.func (.yield (w.heap.size+1)) #[] #[]]++xs.toArray) W1 (Fw (oC++(oI++[kk.l,kk.D])) g.Imm g.Im W1 (kk.J I E u)):=(callsIn_wide (n:=0-1)).2 hcall;refine hcall'.mono ?_;rintro ee W2 ⟨⟨vv,rfl⟩,hch2,Imm',o',hI',hnew',hJ',hnd',ho'⟩

  have fin:∀ (es':List aJ) (st:LoopState) (pe:Option Code),st ≠ .busy→es'.all (fun e=>bq e.2)=true→(FR es' kk.tm kk.l kk.D (kk.rc st pe)).P Imm' g.Im o' W2 →
    ∃ w4,(Instr.endLoop kk.l).run P W2 = .ok pe w4∧∃ g',Gh.le { g0 with ds:=D::g0.ds } g'∧eX g' es' { a with defers:=[{ target := .collected w.heap.size,args := #[] }]++a.defers } w4:=by
   intro es' st pe hst' hclo hP
   obtain ⟨V2,oE,hpin2,rfl,hes2,_,hl2,hD2⟩:=hP
   have hend:=run_endLoop (P:=P) hl2 hst'
   have hlt:kk.l<W2.heap.size:=(Array.getElem?_eq_some_iff.1 hl2).1
   refine ⟨_,hend,⟨g.n,g.w0,g.io,Imm',g.Im,D::g.ds⟩,⟨hg.n,hg.w0,hg.io,hg.Im,by simp [hg.ds],fun b hb=>hI' b (hg.Imm b hb),fun b hb => ?_⟩,?_⟩
   ·rcases hnew' b hb with h | h | h
    ·exact hg.new b h
    ·rw [← ar] at h
     rcases ak.1 h with h | h
     ·have:=(hst.own b h).2.1
      rw [hg.w0,hg.io] at this
      exact .inr this
     ·refine .inr (.inl ?_)
      have h1:w.heap.size≤b:=by simp [kk,D] at h; omega
      have:=hst.chg.size
      rw [hg.w0] at this
      show g0.w0.heap.size≤b
      omega
    ·refine .inr (.inl ?_)
     have:=hst.chg.size
     rw [hg.w0] at this
     show g0.w0.heap.size≤b
     omega
   ·have hlo:kk.l ∉ oE:=fun hm=>(ag.1 hnd').2.2 _ hm _ (by simp) rfl
    have hDo:kk.D ∉ oE:=fun hm=>(ag.1 hnd').2.2 _ hm _ (by simp) rfl
    have hnotin:∀ E'∈g.ds,E' ∉ oC++(oI++[kk.l,kk.D]):=fun E' hE hm=>by
     rw [← ar] at hm
     have hE1:=(hst.marks E' hE)
     have hElt:E'<w.heap.size:=(Array.getElem?_eq_some_iff.1 hE1.1).1
     rcases ak.1 hm with hm | hm
     ·exact hE1.2.1 hm
     ·simp [kk,D] at hm; omega
    let V3:bF→Value:=fun l=>match l with | .slot t=>a.tmps.getD t undef | .cell t i=>V2 (.cell t i)
    refine ⟨V3,oE,⟨fun _=>rfl,hst.size,?_,?_,fun E' hE => ?_,(ag.1 hnd').1,fun b hb => ?_,fun b hb => ?_,?_⟩,?_⟩
    ·show [({ target := .collected w.heap.size,args := #[] }:Deferred)]++a.defers=(D::g.ds).map EG
     rw [hst.defers]; rfl
    ·refine bI.2 ⟨fun hm => ?_,hst.dnd⟩
     have:=(Array.getElem?_eq_some_iff.1 (hst.marks _ hm).1).1
     simp [D] at this
    ·rcases aW.1 hE with rfl | hE
     ·refine ⟨(World.putObj_heap_other (by simp [kk,D])).trans hD2,hDo,by have:=hst.chg.size; simpa [D] using this,?_⟩
      exact (ho' kk.D (by simp)).2.2
     ·obtain ⟨k1,k2,k3,k4⟩:=hst.marks E' hE
      have hElt:E'<w.heap.size:=(Array.getElem?_eq_some_iff.1 k1).1
      have h2:W2.heap[E']? = some (.deferred (some [])):=(hch2.block E' (by omega) (hnotin E' hE)).trans ((hold E' hElt).trans k1)
      refine ⟨(World.putObj_heap_other (by simp only [kk]; omega)).trans h2,fun hm => ?_,k3,fun hi => ?_⟩
      ·rcases (ho' E' (by simp [hm])).1 with h3 | h3
       ·exact hnotin E' hE h3
       ·omega
      ·rcases hi with hi | hi
       ·rcases hnew' E' hi with h3 | h3 | h3
        ·exact k4 (.inl h3)
        ·exact hnotin E' hE h3
        ·omega
       ·exact k4 (.inr hi)
    ·obtain ⟨k1,k2,k3⟩:=ho' b (by simp [hb])
     refine ⟨by simpa using k2,?_,k3⟩
     rcases k1 with k1 | k1
     ·rw [← ar] at k1
      rcases ak.1 k1 with k1 | k1
      ·exact (hst.own b k1).2.1
      ·have h5:b=kk.l∨b=kk.D:=by simpa using k1
       rcases h5 with h5 | h5
       ·exact absurd (h5 ▸ hb) hlo
       ·exact absurd (h5 ▸ hb) hDo
     ·have:=hst.chg.size
      exact .inl (show g.w0.heap.size≤b by omega)
    ·have h6:b<W2.heap.size:=by
      rcases hb with hb | hb
      ·rcases hnew' b hb with h | h | h
       ·exact am (hst.imm b (.inl h)) (bD hch1.size hch2.size)
       ·rw [← ar] at h
        rcases ak.1 h with h | h
        ·exact am (hownlt b h) (bD hch1.size hch2.size)
        ·have h8:b<w.heap.size+2:=by simp [kk,D] at h; omega
         have:=hch2.size
         omega
       ·exact h.2
      ·exact am (hst.imm b (.inr hb)) (bD hch1.size hch2.size)
     simpa using h6
    ·refine (hst.chg.trans' (U:=[]) (hch1) (by simp)).trans' (U:=kk.l::(oC++(oI++[kk.l,kk.D]))) ?_ ?_
     ·exact (hch2.mono (by intro x hx; simp only [aW]; exact .inr hx)).trans ⟨rfl,rfl,rfl,by simp,fun k _ hk=>World.putObj_heap_other (by simp only [aW,not_or] at hk; exact hk.1)⟩
     ·intro x hx
      have hw0:=hst.chg.size
      rcases aW.1 hx with rfl | hx
      ·exact .inr (by simp only [kk]; omega)
      ·rw [← ar] at hx
       rcases ak.1 hx with hx | hx
       ·exact (hst.own x hx).2.1.symm
       ·exact .inr (by simp [kk,D] at hx; omega)
    ·refine tG (g:=cz W2 Imm' g.Im) (g':=⟨g.n,g.w0,g.io,Imm',g.Im,D::g.ds⟩) (V:=V2) (V':=V3) (fun _ h=>h) (fun _ h=>h) (fun _ _=>rfl) es' oE hclo (fun t ht=>(hpin2 t ht).symm) ?_
     refine dI (W:=[]) (g:=cz W2 Imm' g.Im) (g':=cz W2 Imm' g.Im) (fun _ h=>h) (fun _ h=>h) (fun _ _=>rfl) es' oE (fun e _=>js e) (fun b hb=>World.putObj_heap_other fun e => ?_) hes2
     subst e
     rcases hb with hb | hb
     ·exact hlo hb
     ·exact (ho' kk.l (by simp)).2.2 hb
  cases u with
  | inl s =>
   obtain ⟨w4,hend,g',hle,hsat⟩:=fin (I s) .ready none (by simp) (hcl s) hJ'
   exact ⟨none,w4,hend,hk D s (hkl s rfl) g' _ w4 hle hsat⟩
  | inr q =>
   obtain ⟨w4,hend,g',hle,hsat⟩:=fin (E q) .done (some .ret) (by simp) (hclE q) hJ'
   exact ⟨some .ret,w4,hend,wpIn_ret (he D q (hkr q rfl) g' _ w4 hle hsat)⟩
end
end Go.Abs
end
section
namespace Go.Abs
theorem DX {g:Gh} {V V':bF→Value} {w:World} {E:TypeId} {xs:List Value} {x:Value} {o:List Nat} (h:R g V w (.mkr E xs) x o):R { g with Im:=fun b=>b∈o∨g.Im b } V' w (.fl .shr 1 xs) x [] :=
 uY (oN:=o) (g':={ g with Im:=fun b=>b∈o∨g.Im b }) (fun _ hb=>hb.symm) (fun _ hb=>hb) h
theorem Cj {w:World} {b k:Nat} {cur:Array Value} {E:TypeId} {fz:Nat×Nat} (hb:w.heap[b]? = some (.cells cur E fz)) (hfz:fz.2=0∨cur.size≤fz.1) (hk:k<cur.size):w.frozen? ⟨b,k,none⟩=false:=by obtain ⟨lo,hi⟩:=fz;simp only [World.frozen?,hb,Bool.and_eq_false_iff,decide_eq_false_iff_not];simp only at hfz;omega
section
variable {P:Program} {ty:TypeId} {pos:String} {aft:Array Edge} {gd:Option (Nat×Bool)}
theorem Bt (N:List aJ) (d:Nat) {T e E:TypeId} (x:Nat) (y:Operand) {kd:IntKind} {xs:List Value} (n:Int) (i:Nat) (l:bF) (hT:P.underlying T=some (.slice e)) (hz:(P.info? e).map (·.size)=some 1)
  (hx:rd N (.tmp x) = .mkr E xs) (hl:rH N (.tmp x)=l) (hy:rd N y = .v (.int kd n)) (hn:n=(i:Int)) (hi:i<xs.length) (hd:fq [.slot d] l=false) :
  bh P ⟨some d,.indexAddr T (.tmp x) y,ty,pos,aft,gd⟩ N [] [(d,.eref l (i * 1))] [.slot d]:=by
 subst hn;refine bh.value rfl (by simp [eh,hd]) rfl fun g V oN a w hp => ?_;obtain ⟨o',_,hR⟩:=kt hp.val hp.esN (.tmp x);rw [hx] at hR;simp only [R] at hR;rcases hR with ⟨_,h0,_⟩ | ⟨b,k,n,cap,cur,fz,he,_,hlen,_,_,_,_,_,_⟩
 ·subst h0; simp at hi
 have hin:i<n:=by omega
 have h3:=bP hp.val hp.esN hy
 have hV:V l = .slice (some ⟨b,k,none⟩) n cap:=by
  rw [← hl,← he];simp only [rH];obtain ⟨o2,_,h2⟩:=CL hp.val hp.esN (.tmp x);simp only [DB] at h2
  cases hlk:look N x with
  | same l'=>rw [hlk] at h2; simp only [R] at h2; exact h2.1.symm
  | _=>simp only [hp.val,Act.eval]
 refine ⟨.pointer (some ((⟨b,k,none⟩:Addr).add (i * 1))),?_,by simp only [R]; exact ⟨_,n,cap,hV,rfl,trivial⟩⟩;simp [execOp,Instr.indexAt,Sem.run_bind,run_underlying hT,he,h3,asIntOf,bu hz,hin]
theorem BI (N:List aJ) (d:Nat) {T E:TypeId} {td:TypeDesc} (x:Operand) {xs:List Value} (l:bF) (k:Nat) (v:Value) (hT:P.underlying T=some td) (ha:dn td=false)
  (hx:bm N x = .eref l k) (hl:pf N l = .mkr E xs) (hv:xs[k]? = some v) :
  bh P ⟨some d,.load T x,ty,pos,aft,gd⟩ N [] [(d,.v v)] [.slot d]:=by
 refine bh.v rfl fun g V oN a w hp => ?_;have hR:=bE hp.val hp.esN x;rw [hx] at hR;simp only [R] at hR;obtain ⟨ad,n,c,h1,h2,_⟩:=hR;obtain ⟨o',_,h3⟩:=lm hp.esN l;rw [hl] at h3;have h3:=DX (V':=V) h3;simp only [R] at h3;obtain ⟨A,n',c',⟨h4,_⟩,_,_,hrd,_⟩:=h3;rw [h1] at h4; cases h4;obtain ⟨ad',e,hc⟩:=hrd (fun e=>by subst e; simp at hv)
 cases e
 simp [execOp,Instr.loadAt,h2,Instr.sureAddr,jr hT ha (hc k v hv)]
theorem qP (N:List aJ) (d:Nat) {t t' e E:TypeId} {x:Operand} {xs:List Value} (n:Nat) (hT:P.underlying t=some (.slice e)) (hx:rd N x = .mkr E xs) (hn:xs.length=n) :
  bh P ⟨some d,.call ⟨.builtin .len,#[x],#[t]⟩,t',pos,aft,gd⟩ N [] [(d,.v (.int .i64 (n:Int)))] [.slot d]:=by
 refine bh.v rfl fun g V oN ac w hp => ?_;obtain ⟨o',_,hr⟩:=kt hp.val hp.esN x;rw [hx] at hr;simp only [R] at hr;rcases hr with ⟨he,h0,_⟩ | ⟨b,k,n',cap,cur,fz,he,_,hl,_⟩
 ·subst h0 hn;simp [execOp,resolve,invoke,builtin,Builtin.len_,he,run_underlying hT,goInt]
 have:n'=n:=by omega
 subst this;simp [execOp,resolve,invoke,builtin,Builtin.len_,he,run_underlying hT,goInt]
theorem Dn (N:List aJ) (d:Nat) {s t e E:TypeId} (x:Operand) (l:List Int) (hs:P.underlying s=some (.slice e)) (ht:P.underlying t=some .string) (he:P.underlying e=some (.int .u8))
  (hx:rd N x = .mkr E (l.map (.int .u8))) :
  bh P ⟨some d,.convert s t x,ty,pos,aft,gd⟩ N [] [(d,.v (.string ⟨(l.map fun n=>UInt8.ofNat n.toNat).toArray⟩))] [.slot d]:=by
 refine bh.v rfl fun g V oN a w hp => ?_;obtain ⟨o',_,hr⟩:=kt hp.val hp.esN x;rw [hx] at hr;have hr:=DX (V':=V) hr;simp only [R] at hr;obtain ⟨A,n,c,⟨hv,_⟩,hl,_,hrd,_⟩:=hr
 have hrun:(convert s t (a.eval x)).run P w = .ok (.string ⟨(l.map fun n=>UInt8.ofNat n.toNat).toArray⟩) w:=by
  rw [hv]
  cases A with
  | none =>
   have:l=[]:=by
    apply Classical.byContradiction;intro hne;obtain ⟨ad,e,_⟩:=hrd (by simpa using hne)
    cases e
   subst this;rw [run_convert_bytes_nil w s e hs he n c t ht];rfl
  | some ad =>
   have hload:(loadCells ad n).run P w = .ok (l.map (Value.int .u8)).toArray w:=by
    by_cases hne:l=[]
    ·subst hne;simp at hl; subst hl;simp [loadCells,loadCellsFrom]
    ·obtain ⟨ad',e,hc⟩:=hrd (by simpa using hne)
     cases e
     have:=run_loadCells_list (P:=P) w ad (l.map (Value.int .u8)) hc;simpa [show l.length=n by simpa using hl] using this
   rw [run_convert_bytes_string w s t e _ n c hs he ht,run_bytesToString w _ n c l hload,foldl_push_bytes];simp [ByteArray.empty,ByteArray.emptyWithCapacity];rfl
 simp [execOp,hrun]
theorem Do (N:List aJ) (d:Nat) {s t e:TypeId} (x:Operand) (str:ME) {u:TypeDesc} (hs:P.underlying s=some u) (ht:P.underlying t=some (.slice e)) (he:P.underlying e=some (.int .u8))
  (hx:rd N x = .v (.string str)) :
  bh P ⟨some d,.convert s t x,ty,pos,aft,gd⟩ N [] [(d,.mkr e (List.map (Value.int .u8) (ec str)))] [.slot d]:=by
 refine bh.fresh rfl rfl fun g V oN a w hp => ?_;have h:=bP hp.val hp.esN hx
 have hrun:(execOp a.eval ⟨some d,.convert s t x,ty,pos,aft,gd⟩).run P w = .ok (.value (.slice (some ⟨w.heap.size,0,none⟩) str.size (grownCap w str.size 0 e))) (Lib.bytesWorld w e str):=by simp [execOp,h,Lib.run_convert_string_bytes w s t e str hs ht he]
 refine (Yl.val hrun).mono ?_;rintro y w' ⟨rfl,rfl⟩;have hcap:=grownCap_ge w str.size 0 e
 have hlen:(Lib.bytesCells w e str).size=grownCap w str.size 0 e:=by have hss:str.data.size=str.size:=rfl;simp only [Lib.bytesCells,Array.size_append,Array.size_map,Array.size_replicate];omega
 refine ⟨wJ w e str,g,[w.heap.size],g.le_refl,fun b hb => .inl hb,?_,by simp,fun b hb => ?_⟩
 ·simp only [R];refine .inr ⟨w.heap.size,0,str.size,_,Lib.bytesCells w e str,_,rfl,hcap,by simp [ec],by intro v hv; obtain ⟨n,_,rfl⟩:=List.mem_map.1 hv; rfl,Lib.bytesWorld_at_new w e str,.inr (aq _),by omega,?_,rfl⟩;simp only [Lib.bytesCells,Array.toList_append,Array.toList_map,List.drop_zero];rw [List.take_append_of_le_length (by simp),List.take_of_length_le (by simp)];simp [ec,Function.comp_def]
 ·simp only [List.mem_singleton] at hb;subst hb;refine ⟨aq _,by rw [Lib.bytesWorld_size]; omega,fun hi => ?_⟩;have:=hp.imm _ (.inl hi); omega
theorem Ak (N:List aJ) {T:TypeId} (ax vx:Operand) {E:TypeId} {xs:List Value} (t k:Nat) (v:Value) (xs':List Value) (hs:(P.info? T).map (·.size)=some 1)
  (hx:bm (N++[(t,.mkr E xs)]) ax = .eref (.slot t) k) (hv:rd N vx = .v v) (h1:v.oneCell'=true) (hfit:k<xs.length) (hxs:xs.set k v=xs') :
  bh P ⟨none,.store T ax vx,ty,pos,aft,gd⟩ N [(t,.mkr E xs)] [(t,.mkr E xs')] []:=by
 subst hxs;refine bh.core fun g V oN oT a w hd hp => ?_;have hT:=hp.esT;simp only [Es] at hT;obtain ⟨ob,o2,rfl,⟨hR,_⟩,rfl⟩:=hT;have hax:=bE hp.val (aT.2 ⟨oN,_,rfl,hp.esN,hp.esT⟩) ax;rw [hx] at hax;simp only [R] at hax hR;obtain ⟨ad,n1,c1,q1,q2,_⟩:=hax;rcases hR with ⟨_,h0,_⟩ | ⟨b,k0,n,cap,cur,fz,q3,hnc,hln,hone,hb,hfz,hcap,htk,rfl⟩
 ·subst h0; simp at hfit
 rw [q1] at q3
 cases q3
 rw [cw] at q2;have hvv:=bP hp.val hp.esN hv;have hk:k0+k<cur.size:=by omega
 have hcell:w.cell? ⟨b,k0+k,none⟩=some cur[k0+k]:=by simp [World.cell?,hb,hk]
 have hfro:w.frozen? ⟨b,k0+k,none⟩=false:=by exact Cj hb hfz hk
 have hvc:v.cells = #[v]:=by cases v <;> first | rfl | simp [Value.oneCell'] at h1
 have hrun:(execOp a.eval ⟨none,.store T ax vx,ty,pos,aft,gd⟩).run P w = .ok .skip (w.setRow b (cur.setIfInBounds (k0+k) v)):=by
  have hst:(store ((⟨b,k0+k,none⟩:Addr).add 0) v).run P w = .ok () (w.setRow b (cur.setIfInBounds (k0+k) v)):=by rw [cw,Nat.add_zero,run_store P w _ v _ h1,hcell];simp [hfro,setCell_eq_setRow w b (k0+k) cur E fz v hb]
  have:(storeVar T ⟨b,k0+k,none⟩ v).run P w = .ok () (w.setRow b (cur.setIfInBounds (k0+k) v)):=by simp [storeVar,Sem.run_bind,bu hs,hvc,storeCells,hst]
  simp [execOp,Instr.storeAt,q2,hvv,Instr.sureAddr,this]
 refine (Yl.skip hrun).mono ?_;rintro y w' ⟨rfl,rfl⟩;have hchg:dq [b] w (w.setRow b (cur.setIfInBounds (k0+k) v)):=gW _ _ _;have hbo:=hp.own b (by simp);refine ⟨g,V,[b],g.le_refl,fun c hc => .inl hc,fun c hc=>am (hp.imm c (.inl hc)) hchg.size,by simpa using hchg,fun _ _=>rfl,fun t=>by simpa [Act.put] using hp.val t,?_,by simp,fun c hc => ?_⟩
 ·refine ⟨[b],[],rfl,⟨?_,trivial⟩,rfl⟩;show R g V _ (.mkr E (xs.set k v)) (V (.slot t)) [b];simp only [R];refine .inr ⟨b,k0,n1,c1,cur.setIfInBounds (k0+k) v,fz,q1,hnc,by simpa using hln,fun u hu => ?_,setRow_heap w b cur _ E fz hb,by simpa using hfz,by simpa using hcap,?_,rfl⟩
  ·rcases List.mem_or_eq_of_mem_set hu with h | h
   ·exact hone u h
   ·rw [h]; exact h1
  ·rw [Array.toList_setIfInBounds,List.drop_set,if_neg (by omega),List.take_set,show k0+k-k0=k by omega,htk]
 ·simp only [List.mem_singleton] at hc;subst hc;exact ⟨.inl (by simp),am hbo.1 hchg.size,hbo.2⟩
end
def ir (w:World) (E:TypeId) (v:Value) (xs:List Value):Prop :=
 (v = .slice none 0 0∧xs=[])∨∃ (b k n cap:Nat) (cur:Array Value) (fz:Nat×Nat),v = .slice (some ⟨b,k,none⟩) n cap∧n≤cap∧xs.length=n∧w.heap[b]? = some (.cells cur E fz)∧(fz.2=0∨cur.size≤fz.1)∧k+cap≤cur.size∧(cur.toList.drop k).take n=xs
theorem Da {P:Program} (b:Nat) (E:TypeId) (fz:Nat×Nat) (ys:List Value):∀ (o i:Nat) (cur:Array Value) (w:World),w.heap[b]? = some (.cells cur E fz)→(fz.2=0∨cur.size≤fz.1)→o+i+ys.length≤cur.size→(∀ v∈ys,v.oneCell'=true) →
  ∃ cur':Array Value,(storeCells ⟨b,o,none⟩ ys i).run P w = .ok () (w.setRow b cur')∧cur'.size=cur.size∧cur'.toList.take (o+i+ys.length)=cur.toList.take (o+i)++ys:=by
 induction ys with
 | nil =>
  intro o i cur w hg _ _ _;exact ⟨cur,by rw [setRow_self w b cur E fz hg]; rfl,rfl,by simp⟩
 | cons y ys ih =>
  intro o i cur w hg hfz hl h1;simp only [List.length_cons] at hl;have hk:o+i<cur.size:=by omega
  have ha:(⟨b,o,none⟩:Addr).add i=⟨b,o+i,none⟩:=cw b o i;have hc:w.cell? ⟨b,o+i,none⟩=some cur[o+i]:=by simp [World.cell?,hg,hk]
  have hs:(store ((⟨b,o,none⟩:Addr).add i) y).run P w = .ok () (w.setRow b (cur.setIfInBounds (o+i) y)):=by rw [ha,run_store P w _ y _ (h1 y (by simp)),hc];simp [Cj hg hfz hk,setCell_eq_setRow w b (o+i) cur E fz y hg]
  obtain ⟨cur',hr,hz,ht⟩:=ih o (i+1) (cur.setIfInBounds (o+i) y) (w.setRow b (cur.setIfInBounds (o+i) y)) (setRow_heap w b cur _ E fz hg) (by simpa using hfz) (by simp; omega) (fun v hv=>h1 v (by simp [hv]));refine ⟨cur',?_,by simpa using hz,?_⟩
  ·simp only [storeCells,Sem.run_bind,hs,Result.andThen_ok,hr,setRow_setRow]
  ·have e1:o+i+(ys.length+1)=o+(i+1)+ys.length:=by omega
   rw [List.length_cons,e1,ht,Array.toList_setIfInBounds,List.take_set,show o+(i+1)=o+i+1 by omega,List.take_succ_eq_append_getElem (by simpa using hk),List.set_append];have hl2:(cur.toList.take (o+i)).length=o+i:=by simp; omega
   simp [hl2]
theorem Bo {w:World} {E:TypeId} {xs:List Value} {b k n:Nat} {cur:Array Value} {fz:Nat×Nat} (hb:w.heap[b]? = some (.cells cur E fz)) (ht:(cur.toList.drop k).take n=xs):∀ j u,xs[j]? = some u→w.cell? ((⟨b,k,none⟩:Addr).add j)=some u:=by
 intro j u hu;rw [cw,cell_of_row w b _ _ E fz hb];rw [← ht,List.getElem?_take] at hu;split at hu
 ·simpa using hu
 ·cases hu
def EL (P:Program) (T U ty e:TypeId) (by_:Nat) (w:World) (yv:Value) (m:Nat) (ys:List Value):Prop :=
 ∀ (v:Value) (xs:List Value),ir w e v xs→xs.length+m≤maxLen→(xs.length+m) * by_≤140737488355328 →
  ∃ v' w',(Builtin.append_ #[T,U] ty #[v,yv]).run P w = .ok v' w'∧ir w' e v' (xs++ys)∧w.grownBy w' v.ownBlock∧(v'.ownBlock=v.ownBlock∨v'.ownBlock=some w.heap.size)
theorem EM {w:World} {e:TypeId} {n m old:Nat} {xs ys:List Value} {zc:Array Value} (hx:xs.length=n) (hy:ys.length=m) (hz:zc.size=1) (row:Option Nat) :
  ir (w.drew.alloc (.cells (xs.toArray++ys.toArray++Builtin.zeroCells zc (grownCap w (n+m) old e-(n+m))) e)) e (.slice (some ⟨w.heap.size,0,none⟩) (n+m) (grownCap w (n+m) old e)) (xs++ys) ∧
  w.grownBy (w.drew.alloc (.cells (xs.toArray++ys.toArray++Builtin.zeroCells zc (grownCap w (n+m) old e-(n+m))) e)) row:=by
 have hge:=grownCap_ge w (n+m) old e;refine ⟨.inr ⟨w.heap.size,0,n+m,_,_,(0,0),rfl,hge,by simp [hx,hy],heap_alloc_new w.drew _,.inl rfl,?_,?_⟩,⟨rfl,rfl,rfl,by simp,fun k hk _=>heap_alloc_old w.drew _ k hk⟩⟩
 ·simp only [Array.size_append,List.size_toArray,size_zeroCells,hz,hx,hy];omega
 ·simp only [Array.toList_append,List.append_assoc,List.drop_zero];rw [← List.append_assoc];exact List.take_left' (by simp [hx,hy])
theorem DV {P:Program} {T U ty e:TypeId} {zv yv:Value} {m by_:Nat} {ys:List Value} {w:World} (hzc:zv.cells.size=1) (hm:ys.length=m) (hone:∀ u∈ys,u.oneCell'=true)
  (hnil0:m=0→(Builtin.append_ #[T,U] ty #[.slice none 0 0,yv]).run P w = .ok (.slice none 0 0) w)
  (hnil:m≠0→m≤maxLen→m * by_≤140737488355328→(Builtin.append_ #[T,U] ty #[.slice none 0 0,yv]).run P w = .ok (.slice (some ⟨w.heap.size,0,none⟩) m (grownCap w m 0 e)) (w.drew.alloc (.cells (ys.toArray++Builtin.zeroCells zv.cells (grownCap w m 0 e-m)) e)))
  (hroom:∀ (b k n cap:Nat) (w':World),n+m≤cap→(storeCells ⟨b,k+n,none⟩ ys).run P w = .ok () w'→(Builtin.append_ #[T,U] ty #[.slice (some ⟨b,k,none⟩) n cap,yv]).run P w = .ok (.slice (some ⟨b,k,none⟩) (n+m) cap) w')
  (hgrow:∀ (b k n cap:Nat) (xs:List Value),xs.length=n→(∀ j u,xs[j]? = some u→w.cell? ((⟨b,k,none⟩:Addr).add j)=some u)→cap<n+m→n+m≤maxLen→(n+m) * by_≤140737488355328 →
   (Builtin.append_ #[T,U] ty #[.slice (some ⟨b,k,none⟩) n cap,yv]).run P w = .ok (.slice (some ⟨w.heap.size,0,none⟩) (n+m) (grownCap w (n+m) cap e)) (w.drew.alloc (.cells (xs.toArray++ys.toArray++Builtin.zeroCells zv.cells (grownCap w (n+m) cap e-(n+m))) e))) :
  EL P T U ty e by_ w yv m ys:=by
 rintro v xs (⟨rfl,rfl⟩ | ⟨b,k,n,cap,cur,fz,rfl,hnc,hl,hb,hfz,hcap,ht⟩) h63 hby
 ·simp only [List.length_nil,Nat.zero_add] at h63 hby;by_cases h0:m=0
  ·have hy:ys=[]:=List.eq_nil_of_length_eq_zero (by omega);exact ⟨_,_,hnil0 h0,.inl ⟨rfl,by simp [hy]⟩,⟨rfl,rfl,rfl,Nat.le_refl _,fun _ _ _=>rfl⟩,.inl rfl⟩
  ·obtain ⟨h1,h2⟩:=EM (w:=w) (e:=e) (old:=0) (n:=0) (xs:=[]) rfl hm hzc (Value.ownBlock (.slice none 0 0));have hr:=hnil h0 h63 hby;simp only [Nat.zero_add,Array.empty_append] at h1 h2;exact ⟨_,_,hr,h1,h2,.inr rfl⟩
 rw [hl] at h63 hby;by_cases hc:n+m≤cap
 ·obtain ⟨cur',hr,hz,htk⟩:=Da (P:=P) b e fz ys (k+n) 0 cur w hb hfz (by omega) hone;refine ⟨_,_,hroom b k n cap _ hc hr,.inr ⟨b,k,n+m,cap,cur',fz,rfl,hc,by simp [hl,hm],setRow_heap w b cur _ e fz hb,by rw [hz]; exact hfz,by omega,?_⟩,⟨rfl,rfl,rfl,by simp,fun k _ hk=>setRow_other w b k _ (fun e=>hk (by simp [Value.ownBlock,e]))⟩,.inl rfl⟩;rw [Nat.add_zero,hm] at htk;have e1:(cur'.toList.drop k).take (n+m)=(cur'.toList.take (k+n+m)).drop k:=by rw [List.drop_take]; congr 1; omega
  have e2:(cur.toList.take (k+n)).drop k=(cur.toList.drop k).take n:=by rw [List.drop_take]; congr 1; omega
  rw [e1,htk,List.drop_append_of_le_length (by simp; omega),e2,ht]
 ·obtain ⟨h1,h2⟩:=EM (w:=w) (e:=e) (old:=cap) hl hm hzc (Value.ownBlock (.slice (some ⟨b,k,none⟩) n cap));exact ⟨_,_,hgrow b k n cap xs hl (Bo hb ht) (by omega) h63 hby,h1,h2,.inr rfl⟩
theorem Ac {P:Program} {T ty e:TypeId} {by_:Nat} (hE:dO P T e 1 by_) {w:World} {A:Option Addr} {m c:Nat} {ys:List Value} (hl:ys.length=m) (hrd:jl w A ys) (hone:∀ u∈ys,u.oneCell'=true):EL P T T ty e by_ w (.slice A m c) m ys:=by
 obtain ⟨i,zv,hT,hi,hz,hs,hzc,h0,rfl⟩:=hE.ex
 cases A with
 | none =>
  have:ys=[]:=by
   apply Classical.byContradiction;intro hne;obtain ⟨ad,e,_⟩:=hrd hne
   cases e
  subst this;obtain rfl:0=m:=by simpa using hl
  rintro v xs hmk _ _;refine ⟨v,w,?_,by simpa using hmk,⟨rfl,rfl,rfl,Nat.le_refl _,fun _ _ _=>rfl⟩,.inl rfl⟩;rcases hmk with ⟨rfl,rfl⟩ | ⟨b,k,n,cap,cur,fz,rfl,hnc,_⟩
  ·simp [Builtin.append_,run_underlying hT,sizeOf,typeInfo,hi,Builtin.lenOf,Builtin.firstCells]
  ·simp [Builtin.append_,run_underlying hT,sizeOf,typeInfo,hi,Builtin.lenOf,Builtin.firstCells,hnc,storeCells]
 | some a =>
  have hnews:∀ j u,ys[j]? = some u→w.cell? (a.add j)=some u:=by
   intro j u hu;obtain ⟨ad,e,hc⟩:=hrd (fun e=>by subst e; simp at hu)
   cases e
   exact hc j u hu
  refine DV (zv:=zv) hzc hl hone (fun h0 => ?_) (fun h0 h63 hby => ?_) (fun b k n cap w' hc hr => ?_) fun b k n cap xs hx holds hc h63 hby => ?_
  ·subst h0;have hn:ys=[]:=List.eq_nil_of_length_eq_zero hl;simp [Builtin.append_,run_underlying hT,sizeOf,typeInfo,hi,Builtin.lenOf,Builtin.firstCells,loadCells,loadCellsFrom]
  ·simp only [maxLen] at h63;exact run_append_nil (P:=P) w T ty e i zv hT hi hz a m c ys (by rw [hs,hl,Nat.mul_one]) hnews (by omega) (by omega) (by omega)
  ·have hf:=run_firstCells_some (P:=P) w 1 m a m c ys (by rw [hl,Nat.mul_one]) hnews;simp [Builtin.append_,run_underlying hT,sizeOf,typeInfo,hi,Builtin.lenOf,hc,hf,hs,Addr.add_lit,hr]
  ·have hm63:=h63;simp only [maxLen] at hm63;exact run_append_grow (P:=P) w T ty e i zv hT hi hz ⟨b,k,none⟩ n cap xs (by rw [hs,hx,Nat.mul_one]) holds a m c ys (by rw [hs,hl,Nat.mul_one]) hnews hc (by omega) (growslice_fits (by omega) hby)
section
variable {P:Program} {ty:TypeId} {pos:String} {aft:Array Edge} {gd:Option (Nat×Bool)}
theorem BR (N:List aJ) (d t:Nat) {T U e t':TypeId} (x y:Operand) {by_:Nat} {xs ys:List Value} (m:Nat) (hx:bm (N++[(t,.mkr e xs)]) x = .same (.slot t))
  (hap:∀ (g:Gh) (V:bF→Value) (oN:List Nat) (a:Act) (w:World),(∀ t,V (.slot t)=a.tmps.getD t undef)→Es g V w N oN→∃ yv,a.eval y=yv∧EL P T U t' e by_ w yv m ys)
  (h1y:∀ u∈ys,u.oneCell'=true) (hb:(xs.length+m) * by_≤140737488355328) (h63:xs.length+m≤maxLen) :
  bh P ⟨some d,.call ⟨.builtin .append,#[x,y],#[T,U]⟩,t',pos,aft,gd⟩ N [(t,.mkr e xs)] [(t,.any),(d,.mkr e (xs++ys))] [.slot d]:=by
 refine bh.core fun g V oN oT a w hd hp => ?_;have hT':=hp.esT;simp only [Es] at hT';obtain ⟨ob,o2,rfl,⟨hR,_⟩,rfl⟩:=hT';have hax:=bE hp.val (aT.2 ⟨oN,_,rfl,hp.esN,hp.esT⟩) x;rw [hx] at hax;simp only [R] at hax hR
 have hone:∀ u∈xs,u.oneCell'=true:=by
  rcases hR with ⟨_,h0,_⟩ | ⟨b,k,n,cap,cur,fz,q3,hnc,hln,hone,_⟩
  ·subst h0; simp
  ·exact hone
 have hrow:ir w e (V (.slot t)) xs:=by
  rcases hR with ⟨h1,h0,_⟩ | ⟨b,k,n,cap,cur,fz,q3,hnc,hln,_,hbb,hfz,hcap,htk,_⟩
  ·exact .inl ⟨h1,h0⟩
  ·exact .inr ⟨b,k,n,cap,cur,fz,q3,hnc,hln,hbb,hfz,hcap,htk⟩
 have hob:ob=(V (.slot t)).ownBlock.toList:=by
  rcases hR with ⟨h1,h0,h2⟩ | ⟨b,k,n,cap,cur,fz,q3,_,_,_,_,_,_,_,h2⟩
  ·rw [h1,h2]; rfl
  ·rw [q3,h2]; rfl
 obtain ⟨yv,he,hap⟩:=hap g V oN a w hp.val hp.esN;obtain ⟨v',w',hrun,hown',hg,hblk⟩:=hap _ xs hrow h63 hb
 have hrun':(execOp a.eval ⟨some d,.call ⟨.builtin .append,#[x,y],#[T,U]⟩,t',pos,aft,gd⟩).run P w = .ok (.value v') w':=by have h4:a.eval x=V (.slot t):=hax.1;simp [execOp,resolve,invoke,builtin,he,h4,hrun]
 refine (Yl.val hrun').mono ?_;rintro v w2 ⟨rfl,rfl⟩;have hlt:d<g.n:=hd d rfl;have hchg:dq ob w w2:=by rw [hob]; exact dq.of_grown hg
 refine ⟨g,ck V d v,v.ownBlock.toList,g.le_refl,fun b hb => .inl hb,fun b hb=>Nat.lt_of_lt_of_le (hp.imm b (.inl hb)) hchg.size,by simpa using hchg,fun l hl=>bY hl,fun u=>cU hp.val hp.size hlt u,?_,by cases v.ownBlock <;> simp,?_⟩
 ·refine ⟨[],v.ownBlock.toList,rfl,⟨by simp [R],trivial⟩,v.ownBlock.toList,[],by simp,⟨?_,trivial⟩,rfl⟩;show R g _ _ _ (ck V d v (.slot d)) _;rw [cC];simp only [R];rcases hown' with ⟨h1,h2⟩ | ⟨b',k',n',cap',cur',fz',h1,hnc',hln',hbb',hfz',hcap',htk'⟩
  ·exact .inl ⟨h1,h2,by rw [h1]; rfl⟩
  ·refine .inr ⟨b',k',n',cap',cur',fz',h1,hnc',hln',fun u hu => ?_,hbb',hfz',hcap',htk',by rw [h1]; rfl⟩;rcases List.mem_append.1 hu with h | h
   ·exact hone u h
   ·exact h1y u h
 ·intro c hc;have hvb:v.ownBlock=some c:=by cases hv:v.ownBlock <;> simp [hv] at hc ⊢; exact hc.symm
  have hlt2:c<w2.heap.size:=by
   rcases hown' with ⟨h1,_⟩ | ⟨b',k',n',cap',cur',fz',h1,_,_,hbb',_⟩
   ·rw [h1] at hvb; cases hvb
   ·rw [h1] at hvb; cases hvb; exact (Array.getElem?_eq_some_iff.1 hbb').1
  rcases hblk with h | h
  ·have hin:c∈ob:=by rw [hob,← h,hvb]; simp
   exact ⟨.inl (by simp [hin]),hlt2,(hp.own c (by simp [hin])).2⟩
  ·rw [hvb] at h
   cases h
   exact ⟨.inr (Nat.le_refl _),hlt2,fun hi=>Nat.lt_irrefl _ (hp.imm _ hi)⟩
theorem uh (N:List aJ) (d t:Nat) {T e t':TypeId} (x y:Operand) {by_:Nat} {my:Md} {xs ys zs:List Value} {l m q:List Int} (hE:dO P T e 1 by_) (hx:bm (N++[(t,.mkr e xs)]) x = .same (.slot t)) (hy:rd N y = .fl my 1 ys)
  (hl:l.map (Value.int .u8)=xs) (hm:m.map (Value.int .u8)=ys) (hq:cA by_ l m=some q) (hz:q.map (Value.int .u8)=zs) :
  bh P ⟨some d,.call ⟨.builtin .append,#[x,y],#[T,T]⟩,t',pos,aft,gd⟩ N [(t,.mkr e xs)] [(t,.any),(d,.mkr e zs)] [.slot d]:=by
 subst hz hl hm;unfold cA at hq;split at hq
 ·rename_i h
  cases hq
  rw [List.map_append];refine BR (by_:=by_) N d t x y m.length hx (fun g V oN a w hval hes => ?_) (by intro u hu; obtain ⟨n,_,rfl⟩:=List.mem_map.1 hu; rfl) (by simpa using h.1) (by simp only [maxLen,List.length_map]; omega);obtain ⟨o',_,hr⟩:=kt hval hes y;rw [hy] at hr;simp only [R] at hr;obtain ⟨A,m',c,⟨he,_⟩,hl,hone,hrd,_⟩:=hr;have:m'=m.length:=by simpa using hl.symm
  subst this;exact ⟨_,he,Ac hE (by simp) hrd hone⟩
 ·cases hq
theorem Cb (E:TypeId):uW (.v (.slice none 0 0)) (.mkr E []):=fun g V w x o h=>by
 simp only [R] at *
 exact .inl ⟨h.1,trivial,h.2⟩
theorem Cf (E:TypeId) (xs:List Value):uW (.fl (.own E) 1 xs) (.mkr E xs):=fun g V w x o h=>by
 simp only [R,bW] at *
 obtain ⟨A,n,c,⟨hx,hnc⟩,hlen,hone,hrd,⟨_,how⟩,ho⟩:=h
 rcases how with ⟨h1,h2⟩ | ⟨b,cap,cur,h1,_,hh,hn2,_,hsz2,htk⟩
 ·exact .inl ⟨h1,List.eq_nil_of_length_eq_zero (by rw [h2] at hlen; omega),by rw [ho,h1]; rfl⟩
 ·exact .inr ⟨b,0,n,cap,cur,(0,0),h1,hn2,by omega,hone,hh,.inl rfl,by omega,by simpa using htk,by rw [ho,h1]; rfl⟩
end
end Go.Abs
end
section
namespace Go.Abs
namespace Sh
def eC (s sep:ME):Option Int:=match sep.data.toList with
 | [c]=>some (Lib.indexByte s.data.toList c)
 | _=>none
@[reducible] def lw (s sep:ME):Option Int:=eC s sep
def strings_IndexByte (s:ME) (c:Int):Option Int:=some (Lib.indexByte s.data.toList c.toNat.toUInt8)
@[reducible] def tS (s:ME) (c:Int):Option Int:=strings_IndexByte s c
end Sh
theorem Ax {g:Gh} {V:bF→Value} {w:World} {a b:Value} {xs:List Value} (h:Rs g V w [.v a,.v b] xs []):xs=[a,b]:=by obtain ⟨x,y,rfl,h1,h2⟩:=wq h;simp only [R] at h1 h2;rw [h1.1,h2.1]
theorem mI {P:Program} {f:Nat}
  (c1:∀ (s:ME) (c:UInt8) (w:World),Calls P f #[.string s,.string ⟨#[c]⟩] w fun e w'=>e = .returned (.int .i64 (Lib.indexByte s.data.toList c))∧w'=w)
  (s sub:ME) (r:Int) (h:Sh.eC s sub=some r):bA P f [.v (.string s),.v (.string sub)] (.v (.int .i64 r)):=by
 obtain ⟨⟨l⟩⟩:=sub;unfold Sh.eC at h;split at h
 ·rename_i c hc;dsimp only at hc;subst hc
  cases h
  intro Imm Im w xs himm hR;have:=Ax hR;subst this;refine (c1 s c w).mono ?_;rintro e w' ⟨rfl,rfl⟩;exact pU rfl (.inl rfl) (by simp [R])
 ·cases h
theorem po {P:Program} {f:Nat}
  (c1:∀ (s:ME) (c:Int) (w:World),Calls P f #[.string s,.int .u8 c] w fun e w'=>e = .returned (.int .i64 (Lib.indexByte s.data.toList c.toNat.toUInt8))∧w'=w)
  (s:ME) (c r:Int) (h:Sh.strings_IndexByte s c=some r):bA P f [.v (.string s),.v (.int .u8 c)] (.v (.int .i64 r)):=by
 unfold Sh.strings_IndexByte at h
 cases h
 intro Imm Im w xs himm hR;have:=Ax hR;subst this;refine (c1 s c w).mono ?_;rintro e w' ⟨rfl,rfl⟩;exact pU rfl (.inl rfl) (by simp [R])
theorem Ej {A:Type} {f:A→Value} {l:List A} {i:Nat} (h:i<l.length):i<(List.map f l).length:=by rwa [List.length_map]
theorem Jk {A:Type} {f:A→Value} {l:List A} {i:Nat} (h:i<l.length):i * 1<(List.map f l).length:=by rwa [List.length_map,Nat.mul_one]
theorem GU {A:Type} {f:A→Value} {l l':List A} {i:Nat} {x:A} (h:l.set i x=l'):(List.map f l).set (i * 1) (f x)=List.map f l':=by subst h; rw [Nat.mul_one,List.map_set]
section
variable {P:Program} {ty:TypeId} {pos:String} {aft:Array Edge} {gd:Option (Nat×Bool)}
theorem wV (N:List aJ) (t d:Nat) {i:Nat} (cs ds:List AV) (av:AV) (hlk:look N t = .tup cs) (hi:cs.getD i .any = .agg ds) (hlt:i<cs.length) (hav:AV.agg (ds.map cn)=av) (hcl:eh [.slot d] av=true) :
  bh P ⟨some d,.extract (.tmp t) i,ty,pos,aft,gd⟩ N [] [(d,av)] [.slot d]:=by
 subst hav;refine bh.value rfl hcl rfl fun g V oN ac w hp => ?_;obtain ⟨o',_,hr,_⟩:=cE hp.esN t;dsimp only at hr;rw [hlk] at hr;simp only [R] at hr;obtain ⟨xs,hx,hrs⟩:=hr;have hl:=aZ hrs;obtain ⟨o2,_,h2⟩:=tQ i hrs hlt;rw [hi] at h2;have hix:i<xs.length:=by omega
 refine ⟨xs.getD i undef,?_,?_⟩
 ·have:ac.eval (.tmp t) = .tuple xs.toArray:=by simp only [Act.eval,← hp.val]; exact hx
  simp [execOp,this,Instr.extract,hix]
 ·simp only [R] at h2 ⊢;obtain ⟨ys,h3,h4⟩:=h2;exact ⟨ys,h3,rK h4⟩
theorem tI (N T G:List aJ) (W:List bF) (d:Nat) (f:FuncId) {cal:Operand} (xs ys:List Operand) {args:Array Operand} {ats:Array TypeId} (avs posts:List AV) (res:AV) (hcal:rd N cal = .v (.func (.func f) #[] #[])) (hrun:∀ args w,(callFunc f args).run P w = .ok (.enter f args) w)
  (hargs:(xs++ys).toArray=args) (hx:pG (N++T) xs T=true) (hav:ys.map (lN N)=avs) (hf:mp P f (T.map (·.2)++avs) posts res) (hpl:posts.length≤T.length) (hcl:bq res=true) (hclT:bj (T.map (·.2))=true) (hclp:bj posts=true)
  (hno:N.all (fun e=>gw e.2)=true) (hdt:T.all (fun e => !Nat.beq e.1 d)=true) (hG:fX T posts++[(d,res)]=G) (hW:bF.slot d::jo (fX T posts)=W) :
  bh P ⟨some d,.call ⟨.value cal,args,ats⟩,ty,pos,aft,gd⟩ N T G W:=by
 subst hG hW hargs;refine bh.core fun g V oN oT a w hd hp => ?_;have hN:=ka N oN hno hp.esN;have hcv:=bP hp.val hp.esN hcal
 have hr:(execOp a.eval ⟨some d,.call ⟨.value cal,(xs++ys).toArray,ats⟩,ty,pos,aft,gd⟩).run P w = .ok (.enter f ((xs++ys).toArray.map a.eval)) w:=by simp [execOp,resolve,hcv,Deferred.ofValue,invoke,hrun]
 have hxe:=mv hp.val (aT.2 ⟨oN,oT,rfl,hp.esN,hp.esT⟩) hx
 have hR:Rs (cz w g.Imm (fun b=>g.Im b∨b∈oN)) V0 w (T.map (·.2)++avs) ((xs++ys).map a.eval) oT:=by
  rw [List.map_append,hxe];refine cJ.2 ⟨_,_,oT,[],rfl,by simp,?_,?_⟩
  ·exact bJ (g:=g) (g':=cz w g.Imm (fun b=>g.Im b∨b∈oN)) (fun _ h=>h) _ _ oT hclT (.inl fun b hb => .inl hb) (xT hp.esT)
  ·rw [← hav];exact fg (g:=g) (g':=cz w g.Imm (fun b=>g.Im b∨b∈oN)) rfl (fun b hb=>hb) hp.val hp.esN _
 have hnd:=hp.nodup
 have hob:∀ b∈oT,b<w.heap.size∧¬ (g.Imm b∨g.Im b∨b∈oN):=by
  intro b hb;have h1:=hp.own b (by simp [hb]);refine ⟨h1.1,?_⟩;rintro (h | h | h)
  ·exact h1.2 (.inl h)
  ·exact h1.2 (.inr h)
  ·exact (ag.1 hnd).2.2 b h b hb rfl
 have hc:=hf g.Imm (fun b=>g.Im b∨b∈oN) w _ oT (fun b hb=>by
  rcases hb with hb | hb | hb
  ·exact hp.imm b (.inl hb)
  ·exact hp.imm b (.inr hb)
  ·exact (hp.own b (by simp [hb])).1) hR (ag.1 hnd).2.1 hob
 have ea:((xs++ys).map a.eval).toArray=(xs++ys).toArray.map a.eval:=by simp
 rw [ea] at hc;have hlt:d<g.n:=hd d rfl;refine Yl.call hr (hc.mono ?_);rintro e' w' ⟨y,rfl,hchg,Imm',o,hI,hnew,hRr,hndo,hfr⟩
 have htake:((xs++ys).map a.eval).take posts.length=(T.map fun e=>V (.slot e.1)).take posts.length:=by rw [List.map_append,hxe,List.take_append_of_le_length (by simp [hpl])]
 simp only [htake,Rs] at hRr;obtain ⟨y',iD,o1,o2,hyv,rfl,hR1,hR2⟩:=hRr;obtain ⟨rfl,rfl⟩:=List.cons.inj hyv
 let V1:bF→Value:=fun l=>match l with
  | .slot u=>if u=d then y else V (.slot u)
  | .cell u i=>if u=d then eB w' y i else if bF.cell u i∈jo (fX T posts) then eB w' (V (.slot u)) i else V (.cell u i)
 have hV1:∀ l,fq (.slot d::jo (fX T posts)) l=false→V1 l=V l:=by
  intro l hl;simp only [fq,List.any_cons,Bool.or_eq_false_iff] at hl
  cases l with
  | slot u =>
   have:u≠d:=fun e=>by subst e; simp at hl
   simp [V1,this]
  | cell u i =>
   have h1:u≠d:=fun e=>by subst e; simp at hl
   have h2:bF.cell u i ∉ jo (fX T posts):=fun hm=>by have:=List.any_eq_false.1 hl.2 _ hm;simp at this
   simp [V1,h1,h2]
 have hTd:∀ e∈T,e.1≠d:=fun e he hed=>by have:=aR.1 hdt e he;rw [hed,Nat.beq_refl] at this; cases this
 have hslotT:(T.map fun e=>V1 (.slot e.1))=T.map fun e=>V (.slot e.1):=List.map_congr_left fun e he=>by simp [V1,hTd e he]
 have hzT:∀ {T:List aJ} {ps:List AV} {t:Nat} {av:AV},(t,av)∈fX T ps→∃ e∈T,e.1=t:=by
  intro T
  induction T with
  | nil=>intro ps t av h; cases ps <;> cases h
  | cons e T ih =>
   intro ps t av h
   cases ps with
   | nil=>cases h
   | cons p ps =>
    rcases aW.1 h with h | h
    ·cases h; exact ⟨e,by simp,rfl⟩
    ·obtain ⟨e',h1,h2⟩:=ih h; exact ⟨e',by simp [h1],h2⟩
 refine ⟨y,rfl,{ g with Imm:=fun b=>Imm' b },V1,o2++o1,⟨rfl,rfl,rfl,rfl,rfl,hI,fun b hb => ?_⟩,fun b hb => ?_,fun b hb => ?_,hchg,hV1,?_,?_,?_,fun b hb => ?_⟩
 ·rcases hnew b hb with h | h | h
  ·exact .inl h
  ·exact .inr (hp.own2 b (by simp [h]))
  ·exact .inr (.inl (bD hp.base h.1))
 ·rcases hnew b hb with h | h | h
  ·exact .inl h
  ·exact .inr (.inl h)
  ·exact .inr (.inr h.1)
 ·rcases hnew b hb with h | h | h
  ·exact am (hp.imm b (.inl h)) hchg.size
  ·exact am (hob b h).1 hchg.size
  ·exact h.2
 ·intro t;rw [eM a d t y (by rw [hp.size]; exact hlt)];simp only [V1];split
  ·rfl
  ·exact hp.val t
 ·refine aT.2 ⟨o2,o1,rfl,?_,o1,[],by simp,⟨?_,?_⟩,rfl⟩
  ·refine qR (V:=V) hpl ?_ ?_
   ·rw [hslotT];exact bJ (g:=cz w Imm' (fun b=>g.Im b∨b∈oN)) (g':={ g with Imm:=fun b=>Imm' b }) (fun _ h=>h) _ _ o2 hclp (.inl fun b hb=>hb.resolve_right (by rw [hN]; simp)) hR2
   ·intro t T' cs hm b zs hb hh hsz i hi;obtain ⟨e,he,rfl⟩:=hzT hm;have htd:=hTd e he;have hb':V (.slot e.1) = .pointer (some ⟨b,0,none⟩):=by simpa [V1,htd] using hb
    have hmem:=nD hm hi;simp only [V1,htd,if_false,hmem,if_true,hb'];obtain ⟨zl⟩:=zs;exact df hh (by simpa using (show i<zl.length by simp at hsz; omega))
  ·show R _ _ _ res (V1 (.slot d)) o1;rw [show V1 (.slot d)=y by simp [V1]];exact bV (g:=cz w Imm' (fun b=>g.Im b∨b∈oN)) (g':={ g with Imm:=fun b=>Imm' b }) (fun _ h=>h) res y o1 hcl (.inl fun b hb=>hb.resolve_right (by rw [hN]; simp)) hR1
  ·cases res <;> try trivial
   case box T' cs =>
    intro b hb i hi;dsimp only at hb hi ⊢;rw [show V1 (.slot d)=y by simp [V1]] at hb;simp only [R] at hR1;obtain ⟨b',zs,os,hx',_,hh,hrs⟩:=hR1;rw [hb] at hx'; cases hx';simp only [V1,if_true,hb];exact df hh (by rw [aZ hrs]; exact hi)
 ·exact List.perm_append_comm.nodup_iff.1 hndo
 ·obtain ⟨h1,h2,h3⟩:=hfr b (by rcases ak.1 hb with h | h <;> simp [h]);refine ⟨h1,h2,?_⟩;rintro (h | h)
  ·exact h3 h
  ·rcases h1 with h1 | h1
   ·exact (hob b h1).2 (.inr (.inl h))
   ·exact absurd (hp.imm b (.inr h)) (by omega)
theorem zU (N:List aJ) (d:Nat) {T e:TypeId} (x y:Operand) {kd:IntKind} (n b k i z:Nat) (m:Int) (hT:P.underlying T=some (.array n e)) (hz:(P.info? e).map (·.size)=some z)
  (hx:rd N x = .v (.pointer (some ⟨b,k,none⟩))) (hy:rd N y = .v (.int kd m)) (hm:m=(i:Int)) (hi:i<n):bh P ⟨some d,.indexAddr T x y,ty,pos,aft,gd⟩ N [] [(d,.v (.pointer (some ⟨b,k+i * z,none⟩)))] [.slot d]:=by subst hm;refine bh.v rfl fun g V oN a w hp => ?_;have h2:=bP hp.val hp.esN hx;have h3:=bP hp.val hp.esN hy;simp [execOp,Instr.indexAt,Sem.run_bind,run_underlying hT,h2,h3,asIntOf,Instr.sureAddr,bu hz,hi,cw]
def GS (by_:Nat) (c:Int):Option Unit:=if 0≤c∧by_ * c.toNat≤140737488355328 then some () else none
end
theorem tP {H:Type} {enc:TypeId×Value→H} {P:Program} {w:World} {base:Nat} {spare:Nat→Bool} {held:Bool} {fuel t:Nat} {k:IntKind} {x:Int} {cs:List Value} {p:List MemPlace} (ht:P.underlying t=some (.int k))
  (h:DataW.trod enc P w base spare held fuel t cs=some (.lit (.int k x),p)):cs=[.int k x]:=by
 obtain ⟨n,h1,h2,_⟩:=DataW.trod_int ht h;have h3:n=x:=by simpa using (Prod.mk.inj h2).1.symm
 rw [h1,h3]
theorem sc {α:Type} (c:Nat):∀ (rs:List (List α)) (cs:List α),cs.length=rs.length * c→(∀ (i:Nat) (r:List α),rs[i]? = some r→(cs.drop (i * c)).take c=r)→cs=rs.flatten
 | [],cs,hl,_=>by simpa using hl
 | r::rs,cs,hl,h=>by
  have h0:=h 0 r rfl
  simp only [Nat.zero_mul,List.drop_zero] at h0
  have ih:=sc c rs (cs.drop c) (by simp only [List.length_drop,hl,List.length_cons,Nat.succ_mul]; omega) (fun i q hq=>by
   have:=h (i+1) q (by simpa using hq)
   rw [List.drop_drop]
   rwa [Nat.succ_mul,Nat.add_comm] at this)
  rw [List.flatten_cons,← ih,← h0,List.take_append_drop]
theorem Ex {α β:Type} (f:α→β):∀ l:List α,(l.map fun x=>[f x]).flatten=l.map f
 | []=>rfl
 | a::l=>by simp [Ex f l]
theorem Hs {H:Type} {enc:TypeId×Value→H} {P:Program} {w:World} {base:Nat} {spare:Nat→Bool} {held:Bool} {fuel t e n:Nat} {k:IntKind} {ns:List Int} {cs:List Value} {p:List MemPlace}
  (ht:P.underlying t=some (.array n e)) (he:P.underlying e=some (.int k)) (hc:P.cellsOf e=1) (hn:P.cellsOf t=n)
  (h:DataW.trod enc P w base spare held fuel t cs=some (.agg (ns.map fun x => .lit (.int k x)),p)):cs=ns.map (Value.int k):=by
 obtain ⟨xs,m,_,hx,hl,hxs,hel⟩:=DataW.trod_array ht h;have hx':xs.map (·.1)=ns.map fun x=>(.lit (.int k x):DataW H):=(DataW.agg.inj (Prod.mk.inj hx).1).symm;have hln:ns.length=n:=by have:=congrArg List.length hx'; simp only [List.length_map] at this; omega
 have:=sc 1 (ns.map fun x=>[Value.int k x]) cs (by simp only [List.length_map]; omega) (fun i r hr=>by
  simp only [List.getElem?_map,Option.map_eq_some_iff] at hr
  obtain ⟨x,hx1,rfl⟩:=hr
  have hi:i<n:=by have:=(List.getElem?_eq_some_iff.1 hx1).1; omega
  have h1:=hel i hi
  rw [hc] at h1
  have h2:(xs.map (·.1))[i]? = some (.lit (.int k x)):=by rw [hx']; simp [hx1]
  rw [List.getElem?_map,Option.map_eq_some_iff] at h2
  obtain ⟨⟨y,q⟩,h3,h4⟩:=h2
  rw [h3] at h1
  cases h4
  exact tP he h1)
 rw [this,Ex]
theorem la {P:Program} {W:World} {n:String} {g:Nat} {cs:Array Value} {vs:List Value} (hg:P.globalNamed n=some g) (hv:W.var? P n=some cs) (h:cs.toList=vs) :
  ∀ j,W.cell? ⟨g,j,none⟩=vs[j]? := by intro j;rw [World.var?_cell hg hv j,← h];simp
theorem DY {g:Gh} {es:List aJ} {a:Act} {w:World} (i:Nat) (h:eX g es a w):∃ g',g.le g'∧eX g' (es.modify i fun e=>(e.1,nH e.2)) a w:=by
 obtain ⟨V,o,hst,hes⟩:=h;obtain ⟨o',o2,hp,hr⟩:=zf es i o hes;have hin:∀ b,b∈o'∨b∈o2→b∈o:=fun b hb=>hp.mem_iff.2 (List.mem_append.2 hb);have hnd:=List.nodup_append.1 (hp.nodup_iff.1 hst.nodup)
 refine ⟨{ g with Imm:=fun b=>g.Imm b∨b∈o2 },⟨rfl,rfl,rfl,rfl,rfl,fun b hb => .inl hb,fun b hb=>hb.imp id fun hb=>(hst.own b (hin b (.inr hb))).2.1⟩,V,o',
  ⟨hst.val,hst.size,hst.defers,hst.dnd,fun D hD => ?_,hnd.1,fun b hb => ?_,fun b hb => ?_,hst.chg⟩,hr _ (fun b hb => .inl hb) (fun b hb=>hb) (fun b hb => .inr hb)⟩
 ·obtain ⟨h1,h2,h3,h4⟩:=hst.marks D hD;exact ⟨h1,fun hm=>h2 (hin D (.inl hm)),h3,fun h5=>h5.elim (fun h6=>h6.elim (fun h7=>h4 (.inl h7)) fun h7=>h2 (hin D (.inr h7))) fun h6=>h4 (.inr h6)⟩
 ·have:=hst.own b (hin b (.inl hb));exact ⟨this.1,this.2.1,fun h5=>h5.elim (fun h6=>h6.elim (fun h7=>this.2.2 (.inl h7)) fun h7=>hnd.2.2 b hb b h7 rfl) fun h6=>this.2.2 (.inr h6)⟩
 ·rcases hb with (h1 | h1) | h1
  ·exact hst.imm b (.inl h1)
  ·exact (hst.own b (hin b (.inr h1))).1
  ·exact hst.imm b (.inr h1)
theorem wE {A:Type} (f:A→A) (i:Nat):∀ (a b c:List A),i<b.length→(a++(b++c)).modify (a.length+i) f=a++(b.modify i f++c)
 | [],b,c,h=>by
  simp only [List.nil_append,List.length_nil,Nat.zero_add]
  induction b generalizing i with
  | nil=>cases h
  | cons x b ih =>
   cases i with
   | zero=>rfl
   | succ i =>
    have:=ih i (by simpa using h)
    simpa using this
 | x::a,b,c,h=>by
  have:=wE f i a b c h
  simp only [List.cons_append,List.length_cons,Nat.add_right_comm _ 1 i]
  simpa using this
theorem bh.frzG {P:Program} {o:Oper} {N T G G':List aJ} {W:List bF} (i:Nat) (h:bh P o N T G W) (hi:i<G.length) (he:(G.modify i fun e=>(e.1,nH e.2))=G'):bh P o N T G' W:=by subst he;intro g F a w K Q hd hs hc hk;refine h g F a w K Q hd hs hc fun g' a' w' hle hs' => ?_;obtain ⟨g2,hle2,hs2⟩:=DY (N.length+i) hs';rw [wE _ i N G F hi] at hs2;exact hk g2 a' w' (hle.trans hle2) hs2
end Go.Abs
end
section
namespace Go.Abs
set_option linter.unusedVariables false
namespace Sh
end Sh
def gD (w:World):Gh:=⟨0,w,[],fun _=>False,fun _=>False,[]⟩
theorem yW {g g':Gh} {V V':bF→Value} {w:World} {e:TypeId} {z:Nat} {xs:List Value} {x:Value} {o:List Nat} (h:R g V w (.fl (.own e) z xs) x o):R g' V' w (.fl (.own e) z xs) x o:=by simp only [R,bW] at *; exact h
theorem EF {g:Gh} {V:bF→Value} {w w':World} {e:TypeId} {z:Nat} {xs:List Value} {x:Value} {o:List Nat} (hw:∀ b,b∈o→w'.heap[b]? = w.heap[b]?) (h:R g V w (.fl (.own e) z xs) x o):R g V w' (.fl (.own e) z xs) x o :=
 yW (fy (g:=gD w) (g':=gD w) (V:=V) (V':=V) (W:=[]) (fun _ h=>h) (fun _ h=>h) (fun _ _=>rfl) (.fl (.own e) z xs) x o rfl (fun b hb=>hb.elim (hw b) (fun h=>h.elim False.elim False.elim)) (yW h))
def GV (T e:TypeId) (u:Bool) (v:Value) (xs:List Value) (x:Value) (o:List Nat) (w:World):Prop :=
 ∃ (b:Nat) (p:Value) (o2:List Nat),x = .pointer (some ⟨b,0,none⟩)∧o=b::o2∧w.heap[b]? = some (.cells #[p,v] T (0,0))∧(p = .pointer (some ⟨b,0,none⟩)∨(u=false∧p = .pointer none))∧R (gD w) V0 w (.fl (.own e) 1 xs) v o2
theorem GV.stab {T e:TypeId} {u:Bool} {v:Value} {xs:List Value} {x:Value} {o:List Nat} {w w':World} (h:GV T e u v xs x o w) (hw:∀ b∈o,w'.heap[b]? = w.heap[b]?):GV T e u v xs x o w':=by obtain ⟨b,p,o2,h1,rfl,h3,h4,h5⟩:=h;exact ⟨b,p,o2,h1,rfl,by rw [hw b (by simp)]; exact h3,h4,yW (EF (fun c hc=>hw c (by simp [hc])) h5)⟩
section
variable {g:Gh} {P:Program} {Q:Exit→Act→World→Prop} {g0:Gh} {rnd:Option Nat}
end
section
variable {P:Program}
end
section
variable {P:Program} {ty:TypeId} {pos:String} {aft:Array Edge} {gd:Option (Nat×Bool)}
end
namespace Sh
end Sh
namespace Sh
end Sh
def ia (P:Program) (gl:List (Nat×List Value)) (f:FuncId) (args posts:List AV) (res:AV):Prop :=
 ∀ (Imm Im:Nat→Prop) (w:World) (xs:List Value) (o0:List Nat),(∀ b,Imm b∨Im b→b<w.heap.size)→EZ gl (fun b=>Imm b∨Im b) w→Rs (cz w Imm Im) V0 w args xs o0→o0.Nodup→(∀ b∈o0,b<w.heap.size∧¬ (Imm b∨Im b)) →
  Calls P f xs.toArray w (FV xs posts o0 Imm Im w res)
theorem ia.args {P:Program} {gl:List (Nat×List Value)} {f:FuncId} {args args' posts:List AV} {res:AV} (h:ia P gl f args' posts res) (hs:nr args args'):ia P gl f args posts res:=fun Imm Im w xs o0 hi hg hr=>h Imm Im w xs o0 hi hg (hs _ _ _ _ _ hr)
section
variable {P:Program} {Q:Exit→Act→World→Prop} {g0:Gh} {rnd:Option Nat}
theorem Gs {gl:List (Nat×List Value)} {f:FuncId} {fn:Func} {c:Code} {args posts:List AV} {res:AV} (hf:P.funcs[f]? = some fn) (hb:fn.body=some c) (hk:args.length≤fn.ntmps) (hcl:bj args=true) (hpl:posts.length≤args.length)
  (h:∀ (xs:List Value),posts.length≤xs.length→∀ g0:Gh,g0.n=fn.ntmps→g0.ds=[]→HT none P (tg P fn xs posts g0.io g0.Imm g0.Im g0.w0 res) g0 c (cB args++(ff posts.length xs++[(fn.ntmps,.glob gl)]))):ia P gl f args posts res:=by
 intro Imm Im w xs o0 himm hgl hR hnd ho0;have hlen:=aZ hR;refine calls_of_wp hf hb ((wpIn_wide (n:=0)).1 ?_);have hg:=h xs (by omega) ⟨fn.ntmps,w,o0,Imm,Im,[]⟩ rfl rfl ⟨fn.ntmps,w,o0,Imm,Im,[]⟩ { tmps:=xs.toArray++Array.replicate (fn.ntmps-xs.toArray.size) undef,defers:=[] } w (Gh.le_refl _);let V:bF→Value:=fun l=>match l with | .slot t=>(xs.toArray++Array.replicate (fn.ntmps-xs.toArray.size) undef).getD t undef | .cell t i=>eB w ((xs.toArray++Array.replicate (fn.ntmps-xs.toArray.size) undef).getD t undef) i
 have hslot:∀ i x,xs[i]? = some x→V (.slot i)=x:=by intro i x hx;have hi:=(List.getElem?_eq_some_iff.1 hx).1;simp only [V,Array.getD_eq_getD_getElem?];rw [Array.getElem?_append_left (by simpa using hi)];simp [hx]
 refine hg ⟨V,o0,⟨fun _=>rfl,?_,rfl,List.nodup_nil,by simp,hnd,fun b hb=>⟨(ho0 b hb).1,.inr hb,(ho0 b hb).2⟩,himm,dq.refl _ _⟩,aT.2 ⟨o0,[],by simp,?_,aT.2 ⟨[],[],rfl,yK _ ?_,⟨[],[],rfl,⟨by simp only [R]; exact ⟨hgl,trivial⟩,trivial⟩,rfl⟩⟩⟩⟩
 ·simp; omega
 ·unfold cB;refine tu (g:=⟨fn.ntmps,w,o0,Imm,Im,[]⟩) (fun av x o hc hr=>bV (fun _ h=>h) av x o hc (.inl fun _ h=>h) hr) (fun _ _=>rfl) args xs 0 o0 hcl ?_ ?_
  ·exact bJ (g:=cz w Imm Im) (g':=⟨fn.ntmps,w,o0,Imm,Im,[]⟩) (V:=V0) (V':=V0) (fun _ h=>h) args xs o0 hcl (.inl fun _ h=>h) hR
  ·intro i x hx; rw [Nat.zero_add]; exact hslot i x hx
 ·intro i hi;rw [List.mem_range] at hi;have hi':i<xs.length:=by omega
  rw [hslot i xs[i] (List.getElem?_eq_getElem hi')];simp [List.getD,hi']
end
section
variable {P:Program} {ty:TypeId} {pos:String} {aft:Array Edge} {gd:Option (Nat×Bool)}
theorem bM (N T G:List aJ) (W:List bF) (d n:Nat) (f:FuncId) {gl gl':List (Nat×List Value)} {cal:Operand} (xs ys:List Operand) {args:Array Operand} {ats:Array TypeId} (avs posts:List AV) (res:AV) (hcal:rd N cal = .v (.func (.func f) #[] #[])) (hrun:∀ args w,(callFunc f args).run P w = .ok (.enter f args) w)
  (hargs:(xs++ys).toArray=args) (hx:pG (N++T) xs T=true) (hav:ys.map (lN N)=avs) (hgl:look N n = .glob gl') (hsub:∀ p∈gl,p∈gl') (hf:ia P gl f (T.map (·.2)++avs) posts res) (hpl:posts.length≤T.length) (hcl:bq res=true) (hclT:bj (T.map (·.2))=true) (hclp:bj posts=true)
  (hno:N.all (fun e=>gw e.2)=true) (hdt:T.all (fun e => !Nat.beq e.1 d)=true) (hG:fX T posts++[(d,res)]=G) (hW:bF.slot d::jo (fX T posts)=W) :
  bh P ⟨some d,.call ⟨.value cal,args,ats⟩,ty,pos,aft,gd⟩ N T G W:=by
 subst hG hW hargs;refine bh.core fun g V oN oT a w hd hp => ?_;have hN:=ka N oN hno hp.esN;have hcv:=bP hp.val hp.esN hcal
 have hr:(execOp a.eval ⟨some d,.call ⟨.value cal,(xs++ys).toArray,ats⟩,ty,pos,aft,gd⟩).run P w = .ok (.enter f ((xs++ys).toArray.map a.eval)) w:=by simp [execOp,resolve,hcv,Deferred.ofValue,invoke,hrun]
 have hxe:=mv hp.val (aT.2 ⟨oN,oT,rfl,hp.esN,hp.esT⟩) hx
 have hR:Rs (cz w g.Imm (fun b=>g.Im b∨b∈oN)) V0 w (T.map (·.2)++avs) ((xs++ys).map a.eval) oT:=by
  rw [List.map_append,hxe];refine cJ.2 ⟨_,_,oT,[],rfl,by simp,?_,?_⟩
  ·exact bJ (g:=g) (g':=cz w g.Imm (fun b=>g.Im b∨b∈oN)) (fun _ h=>h) _ _ oT hclT (.inl fun b hb => .inl hb) (xT hp.esT)
  ·rw [← hav];exact fg (g:=g) (g':=cz w g.Imm (fun b=>g.Im b∨b∈oN)) rfl (fun b hb=>hb) hp.val hp.esN _
 have hnd:=hp.nodup
 have hob:∀ b∈oT,b<w.heap.size∧¬ (g.Imm b∨g.Im b∨b∈oN):=by
  intro b hb;have h1:=hp.own b (by simp [hb]);refine ⟨h1.1,?_⟩;rintro (h | h | h)
  ·exact h1.2 (.inl h)
  ·exact h1.2 (.inr h)
  ·exact (List.nodup_append.1 hnd).2.2 b h b hb rfl
 obtain ⟨og,_,hRg,_⟩:=cE hp.esN n;dsimp only at hRg;rw [hgl] at hRg;simp only [R] at hRg
 have hc:=hf g.Imm (fun b=>g.Im b∨b∈oN) w _ oT (fun b hb=>by
  rcases hb with hb | hb | hb
  ·exact hp.imm b (.inl hb)
  ·exact hp.imm b (.inr hb)
  ·exact (hp.own b (by simp [hb])).1) (fun p hp'=>⟨(hRg.1 p (hsub p hp')).1.imp id .inl,(hRg.1 p (hsub p hp')).2⟩) hR (List.nodup_append.1 hnd).2.1 hob
 have ea:((xs++ys).map a.eval).toArray=(xs++ys).toArray.map a.eval:=by simp
 rw [ea] at hc;have hlt:d<g.n:=hd d rfl;refine Yl.call hr (hc.mono ?_);rintro e' w' ⟨y,rfl,hchg,Imm',o,hI,hnew,hRr,hndo,hfr⟩
 have htake:((xs++ys).map a.eval).take posts.length=(T.map fun e=>V (.slot e.1)).take posts.length:=by rw [List.map_append,hxe,List.take_append_of_le_length (by simp [hpl])]
 simp only [htake,Rs] at hRr;obtain ⟨y',iD,o1,o2,hyv,rfl,hR1,hR2⟩:=hRr;obtain ⟨rfl,rfl⟩:=List.cons.inj hyv
 let V1:bF→Value:=fun l=>match l with
  | .slot u=>if u=d then y else V (.slot u)
  | .cell u i=>if u=d then eB w' y i else if bF.cell u i∈jo (fX T posts) then eB w' (V (.slot u)) i else V (.cell u i)
 have hV1:∀ l,fq (.slot d::jo (fX T posts)) l=false→V1 l=V l:=by
  intro l hl;simp only [fq,List.any_cons,Bool.or_eq_false_iff] at hl
  cases l with
  | slot u =>
   have:u≠d:=fun e=>by subst e; simp at hl
   simp [V1,this]
  | cell u i =>
   have h1:u≠d:=fun e=>by subst e; simp at hl
   have h2:bF.cell u i ∉ jo (fX T posts):=fun hm=>by have:=List.any_eq_false.1 hl.2 _ hm;simp at this
   simp [V1,h1,h2]
 have hTd:∀ e∈T,e.1≠d:=fun e he hed=>by have:=List.all_eq_true.1 hdt e he;rw [hed,Nat.beq_refl] at this; cases this
 have hslotT:(T.map fun e=>V1 (.slot e.1))=T.map fun e=>V (.slot e.1):=List.map_congr_left fun e he=>by simp [V1,hTd e he]
 have hzT:∀ {T:List aJ} {ps:List AV} {t:Nat} {av:AV},(t,av)∈fX T ps→∃ e∈T,e.1=t:=by
  intro T
  induction T with
  | nil=>intro ps t av h; cases ps <;> cases h
  | cons e T ih =>
   intro ps t av h
   cases ps with
   | nil=>cases h
   | cons p ps =>
    rcases List.mem_cons.1 h with h | h
    ·cases h; exact ⟨e,by simp,rfl⟩
    ·obtain ⟨e',h1,h2⟩:=ih h; exact ⟨e',by simp [h1],h2⟩
 refine ⟨y,rfl,{ g with Imm:=fun b=>Imm' b },V1,o2++o1,⟨rfl,rfl,rfl,rfl,rfl,hI,fun b hb => ?_⟩,fun b hb => ?_,fun b hb => ?_,hchg,hV1,?_,?_,?_,fun b hb => ?_⟩
 ·rcases hnew b hb with h | h | h
  ·exact .inl h
  ·exact .inr (hp.own2 b (by simp [h]))
  ·exact .inr (.inl (Nat.le_trans hp.base h.1))
 ·rcases hnew b hb with h | h | h
  ·exact .inl h
  ·exact .inr (.inl h)
  ·exact .inr (.inr h.1)
 ·rcases hnew b hb with h | h | h
  ·exact Nat.lt_of_lt_of_le (hp.imm b (.inl h)) hchg.size
  ·exact Nat.lt_of_lt_of_le (hob b h).1 hchg.size
  ·exact h.2
 ·intro t;rw [eM a d t y (by rw [hp.size]; exact hlt)];simp only [V1];split
  ·rfl
  ·exact hp.val t
 ·refine aT.2 ⟨o2,o1,rfl,?_,o1,[],by simp,⟨?_,?_⟩,rfl⟩
  ·refine qR (V:=V) hpl ?_ ?_
   ·rw [hslotT];exact bJ (g:=cz w Imm' (fun b=>g.Im b∨b∈oN)) (g':={ g with Imm:=fun b=>Imm' b }) (fun _ h=>h) _ _ o2 hclp (.inl fun b hb=>hb.resolve_right (by rw [hN]; simp)) hR2
   ·intro t T' cs hm b zs hb hh hsz i hi;obtain ⟨e,he,rfl⟩:=hzT hm;have htd:=hTd e he;have hb':V (.slot e.1) = .pointer (some ⟨b,0,none⟩):=by simpa [V1,htd] using hb
    have hmem:=nD hm hi;simp only [V1,htd,if_false,hmem,if_true,hb'];obtain ⟨zl⟩:=zs;exact df hh (by simpa using (show i<zl.length by simp at hsz; omega))
  ·show R _ _ _ res (V1 (.slot d)) o1;rw [show V1 (.slot d)=y by simp [V1]];exact bV (g:=cz w Imm' (fun b=>g.Im b∨b∈oN)) (g':={ g with Imm:=fun b=>Imm' b }) (fun _ h=>h) res y o1 hcl (.inl fun b hb=>hb.resolve_right (by rw [hN]; simp)) hR1
  ·cases res <;> try trivial
   case box T' cs =>
    intro b hb i hi;dsimp only at hb hi ⊢;rw [show V1 (.slot d)=y by simp [V1]] at hb;simp only [R] at hR1;obtain ⟨b',zs,os,hx',_,hh,hrs⟩:=hR1;rw [hb] at hx'; cases hx';simp only [V1,if_true,hb];exact df hh (by rw [aZ hrs]; exact hi)
 ·exact List.perm_append_comm.nodup_iff.1 hndo
 ·obtain ⟨h1,h2,h3⟩:=hfr b (by rcases List.mem_append.1 hb with h | h <;> simp [h]);refine ⟨h1,h2,?_⟩;rintro (h | h)
  ·exact h3 h
  ·rcases h1 with h1 | h1
   ·exact (hob b h1).2 (.inr (.inl h))
   ·exact absurd (hp.imm b (.inr h)) (by omega)
end
namespace Sh
def strconv_Atoi (s:ME):Option (Int×Unit):=if s.size≤18 then (Lib.atoi s.data.toList).map fun n=>(n,()) else none
end Sh
section
variable {P:Program} {ty:TypeId} {pos:String} {aft:Array Edge} {gd:Option (Nat×Bool)}
end
section
variable {P:Program} {ty:TypeId} {pos:String} {aft:Array Edge} {gd:Option (Nat×Bool)}
theorem gv (N:List aJ) (d f t:Nat) (h:d≠t):bh P ⟨some d,.makeFunc (.func f) #[] #[.tmp t],ty,pos,aft,gd⟩ N [] [(d,.clo f [t])] [.slot d]:=by refine bh.value rfl (by simp [eh,fq,h]) rfl fun g V oN a w hp=>⟨.func (.func f) #[] #[V (.slot t)],?_,by simp [R]⟩;have:=hp.val t;simp [execOp,Instr.makeFunc,Act.eval,this]
theorem GA {g:Gh} {V:bF→Value} {w:World}:∀ {cs ys:List Value} {o:List Nat},Rs g V w (cs.map .v) ys o→ys=cs
 | [],_,_,h=>by simp only [List.map_nil,Rs] at h; exact h.1
 | c::cs,_,_,h=>by
  simp only [List.map_cons,Rs,R] at h
  obtain ⟨x,l,o1,o2,rfl,_,⟨rfl,_⟩,h2⟩:=h
  rw [GA h2]
theorem Ah (N:List aJ) (d t u:Nat) (f fc:FuncId) {cal:Operand} {args:Array Operand} {ats:Array TypeId} {T:TypeId} (cs:List Value) (xs:List Operand) (avs:List AV) (res:AV) (hcal:rd N cal = .v (.func (.func f) #[] #[])) (hrun:∀ args w,(callFunc f args).run P w = .ok (.enter f args) w)
  (hargs:(xs++[Operand.tmp u]).toArray=args) (hav:xs.map (lN N)=avs) (hu:look N u = .clo fc [t]) (hb:look N t = .box T (cs.map .v))
  (hf:∀ b,fJ P [(b,cs)] f (avs++[.v (.func (.func fc) #[] #[.pointer (some ⟨b,0,none⟩)])]) res) (hcl:bq res=true) (hsh:eW res=true) :
  bh P ⟨some d,.call ⟨.value cal,args,ats⟩,ty,pos,aft,gd⟩ N [] [(d,res)] [.slot d]:=by
 subst hargs;refine bh.fresh rfl (ft _ _ hcl) fun g V oN a w hp => ?_;have hcv:=bP hp.val hp.esN hcal
 have hr:(execOp a.eval ⟨some d,.call ⟨.value cal,(xs++[Operand.tmp u]).toArray,ats⟩,ty,pos,aft,gd⟩).run P w = .ok (.enter f ((xs++[Operand.tmp u]).toArray.map a.eval)) w:=by simp [execOp,resolve,hcv,Deferred.ofValue,invoke,hrun]
 obtain ⟨b,ys,os,hV,hh,hrs,_,hmem⟩:=qj hp.esN hb;obtain rfl:=GA hrs;obtain ⟨oc,_,hce,_⟩:=cE hp.esN u;dsimp only at hce;rw [hu] at hce;simp only [R,List.map_cons,List.map_nil] at hce
 have hev:a.eval (Operand.tmp u) = .func (.func fc) #[] #[.pointer (some ⟨b,0,none⟩)]:=by have:=hp.val u;simp only [Act.eval];rw [← this,hce.1,hV]
 have hargs:Rs (cz w g.Imm (fun b=>g.Im b∨b∈oN)) V0 w (avs++[.v (.func (.func fc) #[] #[.pointer (some ⟨b,0,none⟩)])]) ((xs++[Operand.tmp u]).map a.eval) []:=by
  rw [List.map_append];refine cJ.2 ⟨_,_,[],[],rfl,rfl,?_,?_⟩
  ·rw [← hav];exact fg (g:=g) (g':=cz w g.Imm (fun b=>g.Im b∨b∈oN)) rfl (fun b hb=>hb) hp.val hp.esN _
  ·simp only [List.map_cons,List.map_nil,Rs,R,hev];exact ⟨_,_,[],[],rfl,rfl,⟨rfl,rfl⟩,rfl,rfl⟩
 have hc:=hf b g.Imm (fun b=>g.Im b∨b∈oN) w _ (fun b hb=>by
  rcases hb with hb | hb | hb
  ·exact hp.imm b (.inl hb)
  ·exact hp.imm b (.inr hb)
  ·exact (hp.own b (by simp [hb])).1) (fun p hp'=>by
  simp only [List.mem_cons,List.not_mem_nil,or_false] at hp'
  subst hp'
  refine ⟨.inr (.inr (hmem b (by simp))),fun j => ?_⟩
  rw [cell_of_row w b j _ T (0,0) hh]
  simp) hargs
 have ea:((xs++[Operand.tmp u]).map a.eval).toArray=(xs++[Operand.tmp u]).toArray.map a.eval:=by simp
 rw [ea] at hc;refine Yl.call hr (hc.mono ?_);rintro e w' ⟨x,rfl,hchg,Imm',o,hI,hnew,hR,hnd,hfr⟩;refine ⟨x,rfl,hchg,{ g with Imm:=fun b=>Imm' b },o,⟨rfl,rfl,rfl,rfl,rfl,hI,fun b hb => ?_⟩,hnew,?_,hnd,hfr⟩
 ·rcases hnew b hb with h | h
  ·exact .inl h
  ·exact .inr (.inl (Nat.le_trans hp.base h.1))
 ·exact bV (g:=cz w Imm' (fun b=>g.Im b∨b∈oN)) (g':={ g with Imm:=fun b=>Imm' b }) (fun _ h=>h) res x o hcl (.inr hsh) hR
theorem qq (N:List aJ) (d:Nat) {s:TypeId} (x:Operand) (i:Nat) {fs:Array Field} {f:Field} (b off k2:Nat) {k:Nat} (hT:P.underlying s=some (.struct fs)) (hf:fs[i]? = some f) (hk:(P.info? f.type).map (·.size)=some (k+1))
  (hx:rd N x = .v (.pointer (some ⟨b,off,none⟩))) (hk2:off+f.offset=k2):bh P ⟨some d,.fieldAddr s x i,ty,pos,aft,gd⟩ N [] [(d,.v (.pointer (some ⟨b,k2,none⟩)))] [.slot d]:=by subst hk2;refine bh.v rfl fun g V oN a w hp => ?_;have h2:=bP hp.val hp.esN hx;simp [execOp,Instr.fieldAt,Sem.run_bind,run_underlying hT,hf,h2,Instr.sureAddr,fieldPlace,bu hk,cw]
theorem Ay (N:List aJ) (d n:Nat) (f:FuncId) {gl gl':List (Nat×List Value)} {cal:Operand} {args:Array Operand} {ats:Array TypeId} (cap:Value) (avs:List AV) (res:AV) (hcal:rd N cal = .v (.func (.func f) #[] #[cap])) (hrun:∀ args w,(callFunc f args).run P w = .ok (.enter f args) w)
  (hav:args.toList.map (lN N)=avs) (hgl:look N n = .glob gl') (hsub:∀ p∈gl,p∈gl') (hf:fJ P gl f (avs++[.v cap]) res) (hcl:bq res=true) (hsh:eW res=true) :
  bh P ⟨some d,.call ⟨.value cal,args,ats⟩,ty,pos,aft,gd⟩ N [] [(d,res)] [.slot d]:=by
 refine bh.fresh rfl (ft _ _ hcl) fun g V oN a w hp => ?_;have hcv:=bP hp.val hp.esN hcal
 have hr:(execOp a.eval ⟨some d,.call ⟨.value cal,args,ats⟩,ty,pos,aft,gd⟩).run P w = .ok (.enter f (args.map a.eval ++ #[cap])) w:=by simp [execOp,resolve,hcv,Deferred.ofValue,invoke,hrun]
 have hargs:Rs (cz w g.Imm (fun b=>g.Im b∨b∈oN)) V0 w (avs++[.v cap]) (args.toList.map a.eval++[cap]) []:=by
  refine cJ.2 ⟨_,_,[],[],rfl,rfl,?_,?_⟩
  ·rw [← hav];exact fg (g:=g) (g':=cz w g.Imm (fun b=>g.Im b∨b∈oN)) rfl (fun b hb=>hb) hp.val hp.esN _
  ·simp only [Rs,R];exact ⟨_,_,[],[],rfl,rfl,⟨rfl,rfl⟩,rfl,rfl⟩
 obtain ⟨og,_,hRg,_⟩:=cE hp.esN n;dsimp only at hRg;rw [hgl] at hRg;simp only [R] at hRg
 have hc:=hf g.Imm (fun b=>g.Im b∨b∈oN) w _ (fun b hb=>by
  rcases hb with hb | hb | hb
  ·exact hp.imm b (.inl hb)
  ·exact hp.imm b (.inr hb)
  ·exact (hp.own b (by simp [hb])).1) (fun p hp'=>by
  obtain ⟨h1,h2⟩:=hRg.1 p (hsub p hp')
  exact ⟨h1.imp id .inl,h2⟩) hargs
 have ea:(args.toList.map a.eval++[cap]).toArray=args.map a.eval ++ #[cap]:=by apply Array.ext';simp
 rw [ea] at hc;refine Yl.call hr (hc.mono ?_);rintro e w' ⟨x,rfl,hchg,Imm',o,hI,hnew,hR,hnd,hfr⟩;refine ⟨x,rfl,hchg,{ g with Imm:=fun b=>Imm' b },o,⟨rfl,rfl,rfl,rfl,rfl,hI,fun b hb => ?_⟩,hnew,?_,hnd,hfr⟩
 ·rcases hnew b hb with h | h
  ·exact .inl h
  ·exact .inr (.inl (Nat.le_trans hp.base h.1))
 ·exact bV (g:=cz w Imm' (fun b=>g.Im b∨b∈oN)) (g':={ g with Imm:=fun b=>Imm' b }) (fun _ h=>h) res x o hcl (.inr hsh) hR
end
section
variable {P:Program} {ty:TypeId} {pos:String} {aft:Array Edge} {gd:Option (Nat×Bool)}
theorem wy (N:List aJ) {T:TypeId} (ax vx:Operand) {T':TypeId} {cs:List AV} (t off:Nat) (hs:(P.info? T).map (·.size)=some 1)
  (hx:bm (N++[(t,.box T' cs)]) ax = .ptr t off) (hv:bm (N++[(t,.box T' cs)]) vx = .same (.cell t off)) (hok:dB (N++[(t,.box T' cs)]) (.same (.cell t off))=true) (hl:off+1≤cs.length) :
  bh P ⟨none,.store T ax vx,ty,pos,aft,gd⟩ N [(t,.box T' cs)] [(t,.box T' cs)] []:=by
 refine bh.core fun g V oN oT a w hdd hp => ?_;have hB':Es g V w [(t,.box T' cs)] oT:=hp.esT;have hB:=hB';simp only [Es] at hB;obtain ⟨ob,o2,rfl,hER,rfl⟩:=hB;obtain ⟨hR1,htie⟩:=hER;have hR1':=hR1;simp only [R] at hR1;obtain ⟨b,xs,os,h3,rfl,hh,hrs⟩:=hR1;dsimp only at htie h3;have hNT:=aT.2 ⟨oN,_,rfl,hp.esN,hB'⟩;have hax:=bE hp.val hNT ax;rw [hx] at hax;simp only [R] at hax;obtain ⟨b2,h4,h5,_⟩:=hax;rw [h3] at h4; cases h4;have hval:=bE hp.val hNT vx;rw [hv] at hval;obtain ⟨hvc,hone⟩:=lG hNT hok hval;simp only [cQ] at hvc;have hl2:=aZ hrs;have hlt:off<xs.length:=by omega
 have hVx:V (.cell t off)=xs[off]:=by have hcell:=htie b h3 off (by omega);rw [cell_of_row w b off _ T' (0,0) hh] at hcell;simp only [List.getElem?_toArray,List.getElem?_eq_getElem hlt,Option.some.injEq] at hcell;exact hcell.symm
 simp only [Rs,R] at hvc;obtain ⟨y,ys',p1,p2,hy,_,⟨rfl,_⟩,rfl,_⟩:=hvc
 have hrun:(execOp a.eval ⟨none,.store T ax vx,ty,pos,aft,gd⟩).run P w = .ok .skip (w.setRow b xs.toArray):=by
  have:=gn (P:=P) (w:=w) (T:=T) (off:=off) hs hh (v:=a.eval vx) (by rw [← Array.length_toList,hy]; rfl) hone (by omega)
  have e:(xs.take off++(a.eval vx).cells.toList++xs.drop (off+1)).toArray=xs.toArray:=by rw [hy,hVx,List.append_assoc,List.singleton_append,← List.drop_eq_getElem_cons hlt,List.take_append_drop]
  rw [e] at this;simp [execOp,Instr.storeAt,h5,Instr.sureAddr,this]
 refine (Yl.skip hrun).mono ?_;rintro y w' ⟨rfl,rfl⟩;have hnd:=hp.nodup;have hndT:(b::os).Nodup:=by have:=(List.nodup_append.1 hnd).2.1; simpa using this
 have hlt:∀ c,c∈b::os→c<w.heap.size∧¬ g.imm c:=fun c hc=>hp.own c (by simp at hc ⊢; exact .inr hc);have hchg:dq [b] w (w.setRow b xs.toArray):=gW _ _ _
 have hsame:∀ c,(w.setRow b xs.toArray).heap[c]? = w.heap[c]? := fun c=>by
  by_cases hc:c=b
  ·subst hc; rw [setRow_heap w c xs.toArray xs.toArray T' _ hh,hh]
  ·exact setRow_other w b c _ hc
 refine ⟨g,V,b::os,g.le_refl,fun c hc => .inl hc,fun c hc => ?_,hchg.mono (by simp),fun _ _=>rfl,?_,?_,?_,?_⟩
 ·exact Nat.lt_of_lt_of_le (hp.imm c (.inl hc)) hchg.size
 ·intro u; simp only [Act.put]; exact hp.val u
 ·refine ⟨b::os,[],by simp,⟨?_,?_⟩,rfl⟩
  ·show R _ _ _ (.box T' _) (V (.slot t)) _;simp only [R];refine ⟨b,xs,os,h3,rfl,by rw [hsame]; exact hh,?_⟩;exact cq (W:=[]) (fun _ h=>h) (fun _ h=>h) (fun _ _=>rfl) cs xs os (dN cs) (fun c _=>hsame c) hrs
  ·intro b' hb' i hi;have:=htie b' hb' i hi;rw [World.cell?_of_block (w:=w)]
   ·exact this
   ·exact hsame _
 ·exact hndT
 ·intro c hc;exact ⟨.inl (by simp at hc ⊢; exact hc),Nat.lt_of_lt_of_le (hlt c hc).1 hchg.size,(hlt c hc).2⟩
end
namespace Sh
def pA:List Int→Int
 | [] => -1
 | b::l=>if b=13∨b=10 then 0 else if pA l = -1 then-1 else pA l+1
def jj (s:List Int) (c:ME):Option Int:=if c=⟨#[13,10]⟩∧s.length<4294967281∧s.all (fun x=>decide (0≤x∧x<256))=true then some (pA s) else none
end Sh
theorem Gb {w:World} {a:Addr} {v:Value} (h:w.cell? a=some v):a.block<w.heap.size∧a.spot=none:=by
 unfold World.cell? at h;split at h
 ·rename_i c e f hh;refine ⟨(Array.getElem?_eq_some_iff.1 hh).1,?_⟩;split at h
  ·cases h
  ·rename_i hs
   cases hsp:a.spot with
   | none=>rfl
   | some _=>rw [hsp] at hs; exact absurd rfl hs
 all_goals cases h
theorem Aq:∀ l:List Int,(∀ x∈l,0≤x∧x<256)→Lib.indexAny (l.map fun x=>UInt8.ofNat x.toNat) [13,10]=Sh.pA l
 | [],_=>rfl
 | b::l,h=>by
  have ih:=Aq l fun x hx=>h x (List.mem_cons_of_mem _ hx)
  have hb:=h b List.mem_cons_self
  rw [List.map_cons]
  unfold Lib.indexAny Sh.pA
  rw [ih]
  have e:([13,10]:List UInt8).contains (UInt8.ofNat b.toNat)=decide (b=13∨b=10):=by
   rw [List.contains_eq_mem]
   refine decide_eq_decide.2 ?_
   simp only [List.mem_cons,List.not_mem_nil,or_false]
   have key:∀ k:Nat,k<256→(UInt8.ofNat b.toNat=UInt8.ofNat k↔b=(k:Int)):=fun k hk=>by
    constructor
    ·intro h
     have:=congrArg UInt8.toNat h
     simp [UInt8.toNat_ofNat'] at this
     omega
    ·intro h; rw [h]; rfl
   have k13:=key 13 (by decide)
   have k10:=key 10 (by decide)
   constructor
   ·rintro (h | h)
    ·exact .inl (k13.1 h)
    ·exact .inr (k10.1 h)
   ·rintro (h | h)
    ·exact .inl (k13.2 h)
    ·exact .inr (k10.2 h)
  rw [e]
  by_cases hc:b=13∨b=10
  ·rw [if_pos hc,if_pos (decide_eq_true hc)]
  ·rw [if_neg hc,if_neg (by rw [decide_eq_false hc]; simp)]
   by_cases hm:Sh.pA l = -1
   ·rw [if_pos hm,if_pos (beq_iff_eq.2 hm)]
   ·rw [if_neg hm,if_neg (by rw [beq_eq_false_iff_ne.2 hm]; simp)]
theorem sw {P:Program} {gl:List (Nat×List Value)} {f gb g1 g2:Nat} {mx:Int} {t1 t2:List Int} (hm:(gb,[.int .i64 mx])∈gl) (h1:(g1,List.map (Value.int .u8) t1)∈gl) (h2:(g2,List.map (Value.int .u8) t2)∈gl)
  (c1:∀ (s:ME) (b off c:Nat) (w:World),s.size<4294967281→s.size≤c→b<w.heap.size→w.cell? ⟨gb,0,none⟩=some (.int .i64 mx)→gb<w.heap.size→(∀ i,i<t1.length→w.cell? ⟨g1,i,none⟩=some (.int .u8 (t1.getD i 0)))→(∀ i,i<t2.length→w.cell? ⟨g2,i,none⟩=some (.int .u8 (t2.getD i 0)))→(g1<w.heap.size∧g2<w.heap.size)→(∀ j,j<s.size→w.cell? ⟨b,off+j,none⟩=some (.int .u8 (s.get! j).toNat)) →
   Calls P f #[.slice (some ⟨b,off,none⟩) s.size c,.string ⟨#[13,10]⟩] w fun e w'=>e = .returned (.int .i64 (Lib.indexAny s.data.toList [13,10]))∧RowKit.Below w.heap.size w w')
  (c2:∀ (p:Option Addr) (c:Nat) (w:World),Calls P f #[.slice p 0 c,.string ⟨#[13,10]⟩] w fun e w'=>e = .returned (.int .i64 (-1))∧w'=w)
  (s:List Int) (ch:ME) (r:Int) (h:Sh.jj s ch=some r):fJ P gl f [.fl .shr 1 (List.map (Value.int .u8) s),.v (.string ch)] (.v (.int .i64 r)):=by
 unfold Sh.jj at h;split at h
 case isFalse=>cases h
 rename_i hc
 cases h
 obtain ⟨rfl,h3,h4⟩:=hc;have h5:∀ x∈s,0≤x∧x<256:=fun x hx=>of_decide_eq_true (List.all_eq_true.1 h4 x hx);intro Imm Im w xs himm hgl hR;obtain ⟨x,y,rfl,hx,hy⟩:=wq hR;obtain ⟨a,n,c,rfl,hnc,hn,hsa,hca⟩:=Bw hx;simp only [R] at hy;obtain ⟨rfl,_⟩:=hy;have glt:∀ {g:Nat} {vs:List Value},(g,vs)∈gl→g<w.heap.size:=fun hg=>himm _ (hgl _ hg).1
 have gc:∀ {g:Nat} {t:List Int},(g,List.map (Value.int .u8) t)∈gl→∀ i,i<t.length→w.cell? ⟨g,i,none⟩=some (.int .u8 (t.getD i 0)):=fun {g t} hg i hi=>by refine ((hgl _ hg).2 i).trans ?_;rw [List.getElem?_map,List.getD_eq_getElem?_getD,List.getElem?_eq_getElem hi]; rfl
 by_cases h0:n=0
 ·subst h0;have:s=[]:=List.length_eq_zero_iff.1 hn;subst this;refine (c2 a c w).mono ?_;rintro e w' ⟨rfl,rfl⟩;exact pU rfl (.inl rfl) (by simp [R,Sh.pA])
 ·obtain ⟨ad,rfl⟩:=hsa (by intro e; subst e; simp at hn; omega);have hc0:=hca ad rfl 0 (by omega);have hin:=Gb hc0;have e0:ad.add 0=ad:=by simp [Addr.add]
  rw [e0] at hin;obtain ⟨b,off,sp⟩:=ad;simp only at hin;obtain ⟨hb,rfl⟩:=hin;have hadd:∀ j,(⟨b,off,none⟩:Addr).add j=⟨b,off+j,none⟩:=fun j=>by unfold Addr.add; split <;> simp_all
  have hlen:(⟨(s.map fun x=>UInt8.ofNat x.toNat).toArray⟩:ME).size=n:=by simp [ByteArray.size,hn]
  have hcells:∀ j,j<(⟨(s.map fun x=>UInt8.ofNat x.toNat).toArray⟩:ME).size→w.cell? ⟨b,off+j,none⟩=some (.int .u8 ((⟨(s.map fun x=>UInt8.ofNat x.toNat).toArray⟩:ME).get! j).toNat):=fun j hj=>by
   rw [hlen] at hj;have hjs:j<s.length:=by omega
   have hcj:=hca _ rfl j hj;rw [hadd] at hcj;rw [hcj];have hv:=h5 _ (List.getElem_mem hjs)
   have e1:(⟨(s.map fun x=>UInt8.ofNat x.toNat).toArray⟩:ME).get! j=UInt8.ofNat s[j].toNat:=by show ((s.map fun x=>UInt8.ofNat x.toNat).toArray)[j]! = _;rw [getElem!_pos _ j (by simpa using hjs)];simp
   rw [e1,List.getD_eq_getElem?_getD,List.getElem?_eq_getElem hjs];simp [UInt8.toNat_ofNat'];omega
  have hcall:=c1 ⟨(s.map fun x=>UInt8.ofNat x.toNat).toArray⟩ b off c w (by rw [hlen]; omega) (by rw [hlen]; exact hnc) hb (((hgl _ hm).2 0).trans rfl) (glt hm) (gc h1) (gc h2) ⟨glt h1,glt h2⟩ hcells;rw [hlen] at hcall;have hres:Lib.indexAny (⟨(s.map fun x=>UInt8.ofNat x.toNat).toArray⟩:ME).data.toList [13,10]=Sh.pA s:=Aq s h5;rw [hres] at hcall;refine hcall.mono ?_;rintro e w' ⟨rfl,hbel⟩;exact ⟨_,rfl,⟨hbel.os,hbel.tape,hbel.output,hbel.size,fun k hk _=>hbel.block k hk⟩,Imm,[],fun _ h=>h,fun _ h => .inl h,by simp [R],List.nodup_nil,by simp⟩
theorem Kc {H:Type} {enc:TypeId×Value→H} {P:Program} {w:World} {base:Nat} {spare:Nat→Bool} {held:Bool} {fuel t e n:Nat} {k:IntKind} {f0 f1:Field} {ns:List (Int×Int)} {cs:List Value} {p:List MemPlace}
  (ht:P.underlying t=some (.array n e)) (he:P.underlying e=some (.struct #[f0,f1])) (h0:P.underlying f0.type=some (.int k)) (h1:P.underlying f1.type=some (.int k)) (o0:f0.offset=0) (o1:f1.offset=1) (c0:P.cellsOf f0.type=1) (c1:P.cellsOf f1.type=1) (hm:P.cellsOf e=2) (hn:P.cellsOf t=n * 2)
  (h:DataW.trod enc P w base spare held fuel t cs=some (.agg (ns.map fun x => .agg [.lit (.int k x.1),.lit (.int k x.2)]),p)):cs=(ns.map fun x=>[Value.int k x.1,Value.int k x.2]).flatten:=by
 obtain ⟨xs,f,_,hx,hl,hxs,hel⟩:=DataW.trod_array ht h;have hx':xs.map (·.1)=ns.map fun x=>(.agg [.lit (.int k x.1),.lit (.int k x.2)]:DataW H):=(DataW.agg.inj (Prod.mk.inj hx).1).symm;have hln:ns.length=n:=by have:=congrArg List.length hx'; simp only [List.length_map] at this; omega
 refine sc 2 (ns.map fun x=>[Value.int k x.1,Value.int k x.2]) cs (by simp only [List.length_map]; rw [hl,hn,hln]) (fun j r hr => ?_);simp only [List.getElem?_map,Option.map_eq_some_iff] at hr;obtain ⟨x,hx1,rfl⟩:=hr;have hi':j<n:=by have:=(List.getElem?_eq_some_iff.1 hx1).1; omega
 have h2:=hel j hi';rw [hm] at h2;have h3:(xs.map (·.1))[j]? = some (.agg [.lit (.int k x.1),.lit (.int k x.2)]):=by rw [hx']; simp [hx1]
 rw [List.getElem?_map,Option.map_eq_some_iff] at h3;obtain ⟨⟨y,q⟩,h4,h5⟩:=h3;rw [h4] at h2
 cases h5
 obtain ⟨ys,f2,_,hy,hyl,hys,hye⟩:=DataW.trod_struct he h2;have hy':ys.map (·.1)=[.lit (.int k x.1),.lit (.int k x.2)]:=(DataW.agg.inj (Prod.mk.inj hy).1).symm;have e0:=hye 0 f0 rfl;have e1:=hye 1 f1 rfl;rw [hm] at hyl;generalize (cs.drop (j * 2)).take 2=zs at *
 obtain ⟨a,b,rfl⟩:∃ a b,zs=[a,b]:=by
  match zs,hyl with
  | [a,b],_=>exact ⟨a,b,rfl⟩
 obtain ⟨⟨y0,q0⟩,⟨y1,q1⟩,rfl⟩:∃ y0 y1,ys=[y0,y1]:=by
  have:ys.length=2:=by have:=congrArg List.length hy'; simpa using this
  match ys,this with
  | [a,b],_=>exact ⟨a,b,rfl⟩
 simp only [List.map_cons,List.map_nil,List.cons.injEq,and_true] at hy';obtain ⟨rfl,rfl⟩:=hy';rw [o0,c0] at e0;rw [o1,c1] at e1;have g0:=tP h0 e0;have g1:=tP h1 e1;simp at g0 g1;rw [g0,g1]
theorem wF (k:IntKind):∀ ns:List (Int×Int),(ns.map fun x=>[Value.int k x.1,Value.int k x.2]).flatten=(ns.map fun x=>[x.1,x.2]).flatten.map (Value.int k)
 | []=>rfl
 | a::l=>by simp [wF k l]
theorem rA {H:Type} {enc:TypeId×Value→H} {a:Assume} {C:Checked} {os:Os} {f:FuncId} {fn:Func} {s:ChangeSpec} {conds:List PathCond} {apart fresh handsOn again:Bool} {X:World→Array Value→Prop}
  (hX:∀ (w w':World) (args:Array Value),w.heap=w'.heap→X w args→X w' args)
  (own:ownKnob C.prog.godebug=none) (started:os.Started) (noInit:C.prog.inits.idxOf? f=none) (hfn:C.prog.funcs[f]? = some fn)
  (witness:∃ (w:World) (tape:Tape) (i:Input),w.os=os∧(w.forCall tape i).Shaped C.prog∧i.vars=[]∧Input.okWide C.prog (w.forCall tape i) .any w.heap.size f i ∧
   ((s.pre enc C.prog fn conds apart (w.forCall tape i).memory i.args∧X (w.forCall tape i).memory i.args)∧sizedMet enc C.prog fn (OpenSpec.ofChange s) apart (w.forCall tape i).memory i.args)∧a.holds C.prog (lone (Frame.enter C.prog f i.args .normal) [] (w.forCall tape i)))
  (contract:∀ (W:World) (base:Nat) (args:Array Value) (ds gs:List (DataW H)) (before:List MemPlace),
   (∀ (j:Nat) t v,fn.params[j]? = some t→args[j]? = some v→Value.okWide C.prog W .any base t v) →
   DataW.Whole enc C.prog fn.params.toList s.vars apart W args.toList ds gs before →
   conds.all (PathCond.test C.prog ⟨fn.params.toList,ds,s.plain.varTypes C.prog,gs⟩)=true →
   (DataW.weightsEach C.prog (fn.params.toList++s.plain.varTypes C.prog) (ds++gs)).all (· ≤ reachBytes)=true→X W args→W.ShapedOpen C.prog →
   a.holds C.prog (lone (Frame.enter C.prog f args .normal) [] W) →
   Calls C.prog f args W fun e W'=>∃ v,e = .returned v∧s.post enc C.prog fn apart fresh handsOn again W args v W') :
  ReturnsInHanded a C os f .any (fun w args=>(s.pre enc C.prog fn conds apart w args∧X w args)∧sizedMet enc C.prog fn (OpenSpec.ofChange s) apart w args) (s.post enc C.prog fn apart fresh handsOn again):=by refine returnsInHanded_of_calls own started noInit witness ?_;intro w tape i _ hsh _ hok hpre hholds;obtain ⟨_,_,_,fn',hfn',_,_,_,_,hval⟩:=hok;have e:fn'=fn:=Option.some.inj (hfn'.symm.trans hfn);subst e;obtain ⟨⟨⟨ds,gs,before,hw,hc⟩,hx⟩,hz⟩:=hpre;have hw':=DataW.Whole.of_heap (w':=w.forCall tape i) (by rfl) hw;refine (contract (w.forCall tape i) w.heap.size i.args ds gs before hval hw' hc (hz.weights hw) (hX _ _ _ (by rfl) hx) hsh hholds).mono fun e W' ⟨v,he,hp⟩ => ?_;subst he;exact ChangeSpec.post_blind hp
section
variable {P:Program} {Q:Exit→Act→World→Prop} {g0:Gh} {rnd:Option Nat} {ops:Array Oper} {N T G:List aJ} {W:List bF} {ty:TypeId} {pos:String} {aft:Array Edge} {gd:Option (Nat×Bool)}
abbrev zq (n:List Nat) (g s:Nat):Sp:=⟨n,[],[g],[.slot s]⟩
theorem zl {n m:Nat} (h:Nat.ble n m=true):n≤m:=Nat.le_of_ble_eq_true h
theorem zp {o:Oper} (hg:o.guard=none) (h:bh P o N T G W):zL P ops o N T G W:=nB hg h
theorem zs {o:Oper} (j:Nat) (want:Bool) {d dd:Nat} {oj:Oper} (hg:o.guard=some (j,want)) (hj:ops[j]? = some oj) (hd:oj.dst=some d) (hdd:o.dst=some dd):zL P ops o ((d,AV.v (.bool (!want)))::N) [] [(dd,.v undef)] [.slot dd] :=
 Ch j d dd want hg hj hd hdd (List.Mem.head _)
abbrev z0:ME:=⟨#[]⟩
abbrev vb (b:Bool):AV := .v (.bool b)
abbrev vs (s:ME):AV := .v (.string s)
abbrev vi (n:Int):AV := .v (.int .i64 n)
abbrev vz:AV := .v (.slice none 0 0)
abbrev fb (l:List Int):AV := .fl .shr 1 (l.map (Value.int .u8))
abbrev fi (l:List Int):AV := .fl .shr 1 (l.map (Value.int .i64))
theorem z1 {d:Nat} {x:Operand} {av:AV} (h:(gd,bm N x,eh [.slot d] av)=(none,av,true)):zL P ops ⟨some d,.move x,ty,pos,aft,gd⟩ N [] [(d,av)] [.slot d]:=nB (congrArg Prod.fst h) (CH N d x av (congrArg (fun x=>x.2.1) h) (congrArg (fun x=>x.2.2) h))
theorem z2 {d:Nat} {x:Operand} {av:AV} (h:(gd,bm N x,eh [.slot d] av)=(none,av,true)):zL P ops ⟨some d,.assign x,ty,pos,aft,gd⟩ N [] [(d,av)] [.slot d]:=nB (congrArg Prod.fst h) (nk N d x av (congrArg (fun x=>x.2.1) h) (congrArg (fun x=>x.2.2) h))
theorem z3 {d:Nat} {c x y:Operand} (b:Bool) {r:Value} (h:(gd,rd N c,rd N (if b then x else y))=(none,.v (.bool b),.v r)):zL P ops ⟨some d,.pick c x y,ty,pos,aft,gd⟩ N [] [(d,.v r)] [.slot d]:=nB (congrArg Prod.fst h) (Co N d b r (congrArg (fun x=>x.2.1) h) (congrArg (fun x=>x.2.2) h))
theorem z4 {d:Nat} {op:BinOp} {t t':TypeId} {x y:Operand} {a b r:Value} (h:(gd,rd N x,rd N y)=(none,.v a,.v b)) (h2:pn op a b=some r):zL P ops ⟨some d,.binOp op t x y t',ty,pos,aft,gd⟩ N [] [(d,.v r)] [.slot d]:=nB (congrArg Prod.fst h) (vA N d a b r (congrArg (fun x=>x.2.1) h) (congrArg (fun x=>x.2.2) h) h2)
theorem zz:True:=trivial
theorem zi {A:Type} {a b:A} (h:some a=some b):a=b:=Option.some.inj h
theorem zn {A R:Type} {m:Option A} {f:A→Option R} {r:R} (h:m.bind f=some r):∃ x,m=some x∧f x=some r:=bind_some h
theorem oB {d:Nat} {op:BinOp} {t t':TypeId} {x y:Operand} {a b r:Value} (h:(rd N x,rd N y)=(.v a,.v b)) (h2:pn op a b=some r):bh P ⟨some d,.binOp op t x y t',ty,pos,aft,gd⟩ N [] [(d,.v r)] [.slot d]:=vA N d a b r (congrArg Prod.fst h) (congrArg Prod.snd h) h2
theorem oL {d:Nat} {U:TypeId} {td:TypeDesc} {x:Operand} {T':TypeId} {cs:List AV} {t off:Nat} {av:AV} (hT:P.underlying U=some td) (h:(dn td,bm N x,look N t,Nat.ble (off+1) cs.length,mS t off (cs.getD off .any),eh [.slot d] av,dM av)=(false,.ptr t off,.box T' cs,true,av,true,true)) :
  bh P ⟨some d,.load U x,ty,pos,aft,gd⟩ N [] [(d,av)] [.slot d] :=
 za N d x t off av hT (congrArg (fun x=>x.1) h) (congrArg (fun x=>x.2.1) h) (congrArg (fun x=>x.2.2.1) h) (Nat.le_of_ble_eq_true (congrArg (fun x=>x.2.2.2.1) h)) (congrArg (fun x=>x.2.2.2.2.1) h) (congrArg (fun x=>x.2.2.2.2.2.1) h) (congrArg (fun x=>x.2.2.2.2.2.2) h)
theorem oF {d:Nat} {s:TypeId} {x:Operand} {i:Nat} {fs:Array Field} {f:Field} {t off k2 k:Nat} (hT:P.underlying s=some (.struct fs)) (h:(fs[i]?,bm N x,off+f.offset,Nat.beq t d)=(some f,.ptr t off,k2,false)) (hk:(P.info? f.type).map (·.size)=some (k+1)) :
  bh P ⟨some d,.fieldAddr s x i,ty,pos,aft,gd⟩ N [] [(d,.ptr t k2)] [.slot d] :=
 tb N d x i t off k2 hT (congrArg (fun x=>x.1) h) hk (congrArg (fun x=>x.2.1) h) (congrArg (fun x=>x.2.2.1) h) (Nat.ne_of_beq_eq_false (congrArg (fun x=>x.2.2.2) h))
theorem oS {U:TypeId} {ax vx:Operand} {T':TypeId} {cs:List AV} {t off s:Nat} {av:AV} {cs':List AV} (hs:(P.info? U).map (·.size)=some s) (h:(bm (N++[(t,.box T' cs)]) ax,bm N vx,dB N av,(cQ av).length,Nat.ble (off+s) cs.length,cs.take off++(cQ av++cs.drop (off+s)),cW (cH t off s) cs')=(.ptr t off,av,true,s,true,cs',true)) :
  bh P ⟨none,.store U ax vx,ty,pos,aft,gd⟩ N [(t,.box T' cs)] [(t,.box T' cs')] (cH t off s) :=
 dW N ax vx t off s av cs' hs (congrArg (fun x=>x.1) h) (congrArg (fun x=>x.2.1) h) (congrArg (fun x=>x.2.2.1) h) (congrArg (fun x=>x.2.2.2.1) h) (Nat.le_of_ble_eq_true (congrArg (fun x=>x.2.2.2.2.1) h)) (congrArg (fun x=>x.2.2.2.2.2.1) h) (congrArg (fun x=>x.2.2.2.2.2.2) h)
theorem oE {t d i:Nat} {cs:List AV} {av:AV} (h:(look N t,cn (cs.getD i .any),Nat.ble (i+1) cs.length,eh [.slot d] av,dM av)=(.tup cs,av,true,true,true)):bh P ⟨some d,.extract (.tmp t) i,ty,pos,aft,gd⟩ N [] [(d,av)] [.slot d] :=
 vC N t d cs av (congrArg (fun x=>x.1) h) (congrArg (fun x=>x.2.1) h) (Nat.le_of_ble_eq_true (congrArg (fun x=>x.2.2.1) h)) (congrArg (fun x=>x.2.2.2.1) h) (congrArg (fun x=>x.2.2.2.2) h)
theorem oN {d:Nat} {t t':TypeId} {x:Operand} {s:ME} (hT:P.underlying t=some .string) (hx:rd N x = .v (.string s)):bh P ⟨some d,.call ⟨.builtin .len,#[x],#[t]⟩,t',pos,aft,gd⟩ N [] [(d,.v (.int .i64 (s.size:Int)))] [.slot d]:=wj N d s hT hx
end
theorem BE {P:Program} {w:World} {g:Nat} {t:TypeId} {zero:Array Value} {k:IntKind} (h:w.ShapedOpen P) (hg:g<P.globals.size) (h0:((begin P (fun _ _=>0) default).world.heap[g]?).bind Obj.row? = some (zero,t)) (hz:zero.size=1)
  (hb:P.buildable t=true) (hc:P.cellTypes P.depth t=some [t]) (hu:P.underlying t=some (.int k)):∃ m,∀ j,w.cell? ⟨g,j,none⟩=([.int k m]:List Value)[j]? := by
 obtain ⟨cs,hh,hs,hr⟩:=h.1 g zero t hg h0;obtain ⟨ts,hts,_,hall⟩:=hr hb;rw [hc] at hts
 cases hts
 have hl:cs.toList.length=1:=by simp; omega
 obtain ⟨c,hc1⟩:=List.length_eq_one_iff.1 hl;obtain ⟨u,hu',hok⟩:=hall 0 c (by rw [← Array.getElem?_toList,hc1]; rfl);obtain rfl:u=t:=by simpa using hu'.symm
 unfold Cell.ok at hok;rw [hu] at hok
 cases c <;> simp at hok
 case int k' n =>
  refine ⟨n,fun j => ?_⟩;have e:w.cell? ⟨g,j,none⟩=cs[j]? := by simp [World.cell?,hh]
  rw [e,← Array.getElem?_toList,hc1,hok.1]
namespace Sh
def strconv_Itoa (n:Int):Option ME:=if-9223372036854775808≤n∧n≤9223372036854775807 then some ⟨(Lib.itoa n).toArray⟩ else none
end Sh
theorem HV {P:Program} {w:World} {name:String} {g:Nat} {k:IntKind} {zs:List Int} (hg:P.globalNamed name=some g) (hne:zs≠[]) (h:∀ j,w.cell? ⟨g,j,none⟩=(zs.map (Value.int k))[j]?):Lib.TabIs P w name k zs:=by
 unfold Lib.TabIs World.var?;rw [hg];have h0:=h 0;have hpos:0<zs.length:=List.length_pos_iff.2 hne;rw [List.getElem?_map,List.getElem?_eq_getElem hpos,Option.map_some] at h0
 cases hh:w.heap[g]? with
 | none=>simp [World.cell?,hh] at h0
 | some o =>
  cases o with
  | cells arr T fz =>
   have:arr=(zs.map (Value.int k)).toArray:=by apply Array.ext';apply List.ext_getElem?;intro j;have:=h j;simp only [World.cell?,hh] at this;simpa using this
   simp [hh,this]
  | _=>simp [World.cell?,hh] at h0
theorem uj {P : Program} {f g : Nat} {gl : List (Nat × List Value)} {tab : List Int} (hn : P.globalNamed "internal/strconv.uint64pow10" = some g) (hm : (g, List.map (Value.int .u64) tab) ∈ gl) (htab : tab = Lib.pow10Tab)
  (c1 : ∀ (n : Int) (w : World), -9223372036854775808 ≤ n → n ≤ 9223372036854775807 → Lib.TabIs P w "internal/strconv.uint64pow10" .u64 Lib.pow10Tab →
   Calls P f #[.int .i64 n] w fun e w'=>e = .returned (.string ⟨(Lib.itoa n).toArray⟩)∧∃ k os,w'=Go.Sort.grow (w.drewN k) os)
  (n:Int) (r:ME) (h:Sh.strconv_Itoa n=some r):fJ P gl f [.v (.int .i64 n)] (.v (.string r)):=by
 unfold Sh.strconv_Itoa at h;split at h
 case isFalse=>cases h
 rename_i hb
 cases h
 intro Imm Im w xs himm hgl hR;simp only [Rs,R] at hR;obtain ⟨x,l,o1,o2,rfl,_,⟨rfl,_⟩,rfl,_⟩:=hR;refine (c1 n w hb.1 hb.2 (HV hn (by simp [Lib.pow10Tab]) (htab ▸ (hgl _ hm).2))).mono ?_;rintro e w' ⟨rfl,k,os,rfl⟩;have hd:∀ k,(w.drewN k).heap=w.heap∧(w.drewN k).os=w.os∧(w.drewN k).tape=w.tape∧(w.drewN k).output=w.output:=fun k=>⟨rfl,rfl,rfl,rfl⟩;refine ⟨_,rfl,⟨rfl,rfl,rfl,?_,fun i hi _ => ?_⟩,Imm,[],fun _ h=>h,fun _ h => .inl h,?_,List.nodup_nil,by simp⟩
 ·show w.heap.size≤(w.heap++os).size;simp
 ·show (w.heap++os)[i]? = w.heap[i]?;rw [Array.getElem?_append_left hi]
 ·simp only [R]; exact ⟨trivial,trivial⟩
section
variable {P:Program} {ty:TypeId} {pos:String} {aft:Array Edge} {gd:Option (Nat×Bool)}
end
def KD (s:Bool) (cs:List IC) (xs:List Value):kO where
 P:=fun I M o w=>o=[]∧jk (cz w I M) w s cs xs
 stab:=by
  rintro I M I' M' o w w' hI hM hw ⟨rfl,h⟩
  refine ⟨rfl,dc (g:=cz w I M) (fun b hb => ?_) (fun b hb=>hw b (.inr hb)) cs xs h⟩
  exact jJ (g:=cz w I M) (g':=cz w' I' M') hI hM hb
theorem Hh {g:Gh} {w:World} {s:Bool} {cs:List IC} {xs:List Value} (h:jk g w s cs xs):(KD s cs xs).P g.Imm g.Im [] w :=
 ⟨rfl,dc (g:=g) (fun b hb=>jJ (g:=g) (g':=cz w g.Imm g.Im) (fun _ h=>h) (fun _ h=>h) hb) (fun _ _=>rfl) cs xs h⟩
theorem Hb {g:Gh} {w:World} {s:Bool} {cs:List IC} {xs:List Value} {o:List Nat} (h:(KD s cs xs).P g.Imm g.Im o w):o=[]∧jk g w s cs xs :=
 ⟨h.1,dc (g:=cz w g.Imm g.Im) (fun b hb=>jJ (g:=cz w g.Imm g.Im) (g':=g) (fun _ h=>h) (fun _ h=>h) hb) (fun _ _=>rfl) cs xs h.2⟩
theorem Ew {g:Gh} {V:bF→Value} {w:World} {m:Md} {s:Bool} {z:Nat} {ic:List IC}:∀ {cs:List AV} {xs:List Value} {o:List Nat} {i:Nat},Rs g V w cs xs o→cs.getD i .any = .fr m s z ic→i<cs.length→∃ vs,jk g w s ic vs∧Rs g V w (cs.set i (.fl m z vs)) xs o
 | [],_,_,_,_,_,h=>by simp at h
 | c::cs,_,_,0,h,hc,_=>by
  simp only [List.getD_cons_zero] at hc
  subst hc
  simp only [Rs] at h
  obtain ⟨x,xs',o1,o2,rfl,rfl,h1,h2⟩:=h
  obtain ⟨vs,h3,h4⟩:=mu h1
  exact ⟨vs,h4,by simp only [List.set_cons_zero,Rs]; exact ⟨x,xs',o1,o2,rfl,rfl,h3,h2⟩⟩
 | c::cs,_,_,i+1,h,hc,hi=>by
  simp only [List.getD_cons_succ] at hc
  simp only [Rs] at h
  obtain ⟨x,xs',o1,o2,rfl,rfl,h1,h2⟩:=h
  obtain ⟨vs,h3,h4⟩:=Ew h2 hc (by simpa using hi)
  exact ⟨vs,h3,by simp only [List.set_cons_succ,Rs]; exact ⟨x,xs',o1,o2,rfl,rfl,h1,h4⟩⟩
theorem Gw {g:Gh} {V:bF→Value} {w:World} {m:Md} {s:Bool} {z:Nat} {ic:List IC} {vs:List Value}:∀ {cs:List AV} {xs:List Value} {o:List Nat} {i:Nat},Rs g V w (cs.set i (.fl m z vs)) xs o→i<cs.length→jk g w s ic vs→Rs g V w (cs.set i (.fr m s z ic)) xs o
 | [],_,_,_,_,h,_=>by simp at h
 | c::cs,_,_,0,h,_,hr=>by
  simp only [List.set_cons_zero,Rs] at *
  obtain ⟨x,xs',o1,o2,rfl,rfl,h1,h2⟩:=h
  exact ⟨x,xs',o1,o2,rfl,rfl,mw h1 hr,h2⟩
 | c::cs,_,_,i+1,h,hi,hr=>by
  simp only [List.set_cons_succ,Rs] at *
  obtain ⟨x,xs',o1,o2,rfl,rfl,h1,h2⟩:=h
  exact ⟨x,xs',o1,o2,rfl,rfl,h1,Gw h2 (by simpa using hi) hr⟩
section
variable {P:Program}
theorem bh.fr_cell {o:Oper} {N:List aJ} {t i:Nat} {T:TypeId} {m:Md} {s:Bool} {z:Nat} {ac ac':List AV} {cs cs':List IC} (hi:i<ac.length) (hg:ac.getD i .any = .fr m s z cs) (hac:ac.set i (.fr m s z cs')=ac')
  (h:∀ xs:List Value,xs.length=cs.length→∃ xs',bh P o N [(t,.box T (ac.set i (.fl m z xs)))] [(t,.box T (ac.set i (.fl m z xs')))] []∧∀ (g:Gh) (w:World),jk g w s cs xs→jk g w s cs' xs'):bh P o N [(t,.box T ac)] [(t,.box T ac')] []:=by
 subst hac;intro g F a w K Q hd hs hc hk r;obtain ⟨V,ow,hst,hes⟩:=hs;obtain ⟨o1,o2,rfl,hN,hTF⟩:=aT.1 hes;obtain ⟨oT,oF,rfl,⟨hR,htie⟩,hF⟩:=hTF;simp only [R] at hR;obtain ⟨b,ys,os,hp,hob,hh,hrs⟩:=hR;dsimp only at htie;obtain ⟨xs,hri,hrs2⟩:=Ew hrs hg hi;obtain ⟨xs',hl,hback⟩:=h xs (cR hri);refine hl g ((0,.inv (KD s cs xs))::F) a w K Q hd ⟨V,_,hst,aT.2 ⟨o1,oT++oF,rfl,hN,oT,oF,rfl,⟨by simp only [R]; exact ⟨b,ys,os,hp,hob,hh,hrs2⟩,fun b' hb' j hj=>htie b' hb' j (by simpa using hj)⟩,[],oF,rfl,⟨by simp only [R]; exact Hh hri,trivial⟩,hF⟩⟩ (fun e he => ?_) (fun g' a' w' hle hs' => ?_) r
 ·rcases List.mem_append.1 he with he | he
  ·exact hc e (List.mem_append.2 (.inl he))
  ·rcases List.mem_cons.1 he with rfl | he
   ·rfl
   ·exact hc e (List.mem_append.2 (.inr he))
 ·obtain ⟨V',ow',hst',hes'⟩:=hs';obtain ⟨p1,p2,rfl,hN',hT'⟩:=aT.1 hes';obtain ⟨pT,pF,rfl,⟨hR',htie'⟩,pJ,pF2,rfl,⟨hJ,_⟩,hF'⟩:=hT';simp only [R] at hJ hR';obtain ⟨rfl,hri'⟩:=Hb hJ;obtain ⟨b',ys',os',hp',hob',hh',hrs'⟩:=hR';dsimp only at htie';exact hk g' a' w' hle ⟨V',_,hst',aT.2 ⟨p1,pT++pF2,by simp,hN',pT,pF2,rfl,⟨by simp only [R]; exact ⟨b',ys',os',hp',hob',hh',Gw hrs' hi (hback g' w' hri')⟩,fun b2 hb2 j hj=>htie' b2 hb2 j (by simpa using hj)⟩,hF'⟩⟩
variable {ty:TypeId} {pos:String} {aft:Array Edge} {gd:Option (Nat×Bool)}
theorem ny (N:List aJ) {T:TypeId} (ax vx:Operand) {E T':TypeId} {z:Nat} {s:Bool} {ac ac':List AV} {cs cs':List IC} (t i k n:Nat) (vs:List Value) (hs:(P.info? T).map (·.size)=some n)
  (hx:bm N ax = .eref (.cell t i) k) (hg:ac.getD i .any = .fr (.own E) s z cs) (hic:i<ac.length) (hv:tY N vx=some vs) (hlen:vs.length=n) (h0:0<n) (hfit:k+n≤cs.length) (hcs:cs.take k++(vs.map IC.v++cs.drop (k+n))=cs') (hac:ac.set i (.fr (.own E) s z cs')=ac') :
  bh P ⟨none,.store T ax vx,ty,pos,aft,gd⟩ N [(t,.box T' ac)] [(t,.box T' ac')] []:=by subst hcs;refine bh.fr_cell hic hg hac fun xs hl=>⟨xs.take k++(vs++xs.drop (k+n)),oU N ax vx (E:=E) (z:=z) (xs:=xs) (cs:=ac.set i (.fl (.own E) z xs)) t i k n vs _ hs hx (by simp [hic]) (by simpa using hic) hv hlen h0 (by omega) rfl (by simp),fun g w h => ?_⟩;exact gU (pL k h) (gU (lT.2 rfl) (pO (k+n) h))
end
theorem qX {A B:Type} {z:Nat} {enc:A→List B} (he:∀ x,(enc x).length=z) {l:List A} {i q s:Nat} {x:A} (h:bK l i=some x) (hq:q+s≤z):i * z+q+s≤((l.map enc).flatten).length:=by have hi:i<l.length:=(List.getElem?_eq_some_iff.1 h).1;have:=zX he hi;omega
theorem oe {A B:Type} {z:Nat} {enc:A→List B} (he:∀ x,(enc x).length=z) {l:List A} {i q s:Nat} {x y:A} {vs:List B} (h:bK l i=some x) (hy:enc y=(enc x).take q++(vs++(enc x).drop (q+s))) (hq:q+s≤z) :
  ((l.map enc).flatten).take (i * z+q)++(vs++((l.map enc).flatten).drop (i * z+q+s))=((l.set i y).map enc).flatten:=by
 unfold bK at h;obtain ⟨hi,hx⟩:=List.getElem?_eq_some_iff.1 h
 have hl:l=l.take i++x::l.drop (i+1):=by rw [← hx,List.getElem_cons_drop,List.take_append_drop]
 have e1:((l.map enc).flatten)=((l.take i).map enc).flatten++(enc x++((l.drop (i+1)).map enc).flatten):=by
  conv=>lhs; rw [hl]
  simp
 have e2:((l.set i y).map enc).flatten=((l.take i).map enc).flatten++(enc y++((l.drop (i+1)).map enc).flatten):=by rw [List.set_eq_take_append_cons_drop,if_pos hi];simp
 have hlen:(((l.take i).map enc).flatten).length=i * z:=by rw [br he,List.length_take,Nat.min_eq_left (Nat.le_of_lt hi)]
 have hex:=he x
 rw [e1,e2,hy,← hlen,List.take_length_add_append,show (((l.take i).map enc).flatten).length+q+s=(((l.take i).map enc).flatten).length+(q+s) by omega,List.drop_length_add_append,
  List.take_append_of_le_length (by omega),List.drop_append_of_le_length (by omega)]
 simp only [List.append_assoc]
namespace Sh
end Sh
inductive IG (s:Bool) (z:Nat) (N:List aJ) (zl:List Value):List (Option Operand)→List IC→Prop
 | nil:IG s z N zl [] []
 | some (x:Operand) {av:AV} {ics jcs:List IC} {es:List (Option Operand)} (h:bm N x=av) (hok:dB N av=true) (hai:EE s (cQ av) ics) (hl:ics.length=z) (hr:IG s z N zl es jcs):IG s z N zl (some x::es) (ics++jcs)
 | none {ics jcs:List IC} {es:List (Option Operand)} (hai:EE s (zl.map AV.v) ics) (hl:ics.length=z) (hr:IG s z N zl es jcs):IG s z N zl (none::es) (ics++jcs)
section
variable {P:Program} {ty:TypeId} {pos:String} {aft:Array Edge} {gd:Option (Nat×Bool)}
end
section
variable {P:Program} {ty:TypeId} {pos:String} {aft:Array Edge} {gd:Option (Nat×Bool)}
end
section
variable {P:Program} {ty:TypeId} {pos:String} {aft:Array Edge} {gd:Option (Nat×Bool)}
end
def yz (E:TypeId) (s:Bool) (z:Nat) (ics:List IC) (b n c:Nat):kO where
 P:=fun I M o w=>R (cz w I M) V0 w (.fr (.own E) s z ics) (.slice (some ⟨b,0,none⟩) n c) o
 stab:=by
  intro I M I' M' o w w' hI hM hw h
  exact fy (g:=cz w I M) (g':=cz w' I' M') (W:=[]) hI hM (fun _ _=>rfl) _ _ _ rfl (fun k hk=>hw k hk) h
theorem GF {g g':Gh} {V V':bF→Value} {w:World} {m:Md} {s:Bool} {z:Nat} {ics:List IC} {x:Value} {o:List Nat} (hI:∀ b,g.Imm b→g'.Imm b) (hM:∀ b,g.Im b→g'.Im b) (h:R g V w (.fr m s z ics) x o):R g' V' w (.fr m s z ics) x o :=
 bV hI _ _ _ rfl (.inl hM) h
theorem FM {g:Gh} {V:bF→Value} {w:World} {E:TypeId} {s:Bool} {z:Nat} {ics:List IC} {x:Value} {o:List Nat} (h0:0<ics.length) (h:R g V w (.fr (.own E) s z ics) x o):∃ b n c,x = .slice (some ⟨b,0,none⟩) n c∧ics.length=n * z:=by obtain ⟨vs,h1,h2⟩:=mu h;simp only [R] at h1;obtain ⟨a,n,c,⟨rfl,_⟩,hl,_,_,hown,_⟩:=h1;have hlen:=cR h2;obtain ⟨b,c',cur,h4,_⟩:=qM hown (fun e=>by subst e; simp at hlen; omega);exact ⟨b,n,c',h4,by rw [← hlen,hl]⟩
theorem St.perm {g:Gh} {V:bF→Value} {o o':List Nat} {a:Act} {w:World} (hs:St g V o a w) (hp:o.Perm o'):St g V o' a w :=
 ⟨hs.val,hs.size,hs.defers,hs.dnd,fun D hD=>let ⟨h1,h2,h3⟩:=hs.marks D hD; ⟨h1,fun hm=>h2 (hp.mem_iff.2 hm),h3⟩,hp.nodup_iff.1 hs.nodup,fun b hb=>hs.own b (hp.mem_iff.2 hb),hs.imm,hs.chg⟩
theorem Gx (b:Nat) (oa om oc oR:List Nat):(b::(oa++(om++oc))++oR).Perm (b::(oa++([]++oc))++(om++oR)):=by simp only [List.nil_append,List.cons_append,List.append_assoc];refine .cons _ (.append_left _ ?_);rw [← List.append_assoc,← List.append_assoc];exact List.perm_append_comm.append_right _
theorem eX.openRow {g:Gh} {a:Act} {w:World} {es:List aJ} {t i z:Nat} {T E:TypeId} {cs:List AV} {s:Bool} {ics:List IC} (gs:Nat) (hi:i<cs.length) (hg:cs.getD i .any = .fr (.own E) s z ics) (h0:0<ics.length) (h:eX g ((t,.box T cs)::es) a w) :
  ∃ b n c,ics.length=n * z∧eX g ((t,.box T (cs.set i (.v (.slice (some ⟨b,0,none⟩) n c))))::(gs,.inv (yz E s z ics b n c))::es) a w:=by
 obtain ⟨V,ow,hst,o1,oR,rfl,⟨hR,htie⟩,hF⟩:=h;simp only [R] at hR;obtain ⟨bb,ys,os,hp,rfl,hh,hrs⟩:=hR;obtain ⟨oa,om,oc,rfl,hA,hRi,hC⟩:=ke i hrs hi;rw [hg] at hRi;obtain ⟨b,n,c,hx,hn⟩:=FM h0 hRi;rw [hx] at hRi;refine ⟨b,n,c,hn,V,_,hst.perm (Gx bb oa om oc oR),bb::(oa++([]++oc)),om++oR,rfl,⟨?_,?_⟩,om,oR,rfl,⟨?_,trivial⟩,hF⟩
 ·simp only [R];exact ⟨bb,ys,_,hp,rfl,hh,nI i hi (aZ hrs) hA (by simp only [R]; exact ⟨hx,trivial⟩) hC⟩
 ·dsimp only at htie ⊢;intro b' hb' j hj;exact htie b' hb' j (by simpa using hj)
 ·simp only [R];exact GF (g:=g) (g':=cz w g.Imm g.Im) (V':=V0) (fun _ h=>h) (fun _ h=>h) hRi
theorem eX.closeRow {g:Gh} {a:Act} {w:World} {es:List aJ} {t gs i z b n c:Nat} {T E:TypeId} {cs:List AV} {s:Bool} {ics:List IC} (hi:i<cs.length) (hg:cs.getD i .any = .v (.slice (some ⟨b,0,none⟩) n c)) (h:eX g ((t,.box T cs)::(gs,.inv (yz E s z ics b n c))::es) a w) :
  eX g ((t,.box T (cs.set i (.fr (.own E) s z ics)))::es) a w:=by
 obtain ⟨V,ow,hst,o1,o2,rfl,⟨hR,htie⟩,om,oR,rfl,⟨hJ,_⟩,hF⟩:=h;simp only [R] at hR hJ;obtain ⟨bb,ys,os,hp,rfl,hh,hrs⟩:=hR;obtain ⟨oa,oi,oc,rfl,hA,hRi,hC⟩:=ke i hrs hi;rw [hg] at hRi;simp only [R] at hRi;obtain ⟨hx,rfl⟩:=hRi;refine ⟨V,_,hst.perm (Gx bb oa om oc oR).symm,bb::(oa++(om++oc)),oR,rfl,⟨?_,?_⟩,hF⟩
 ·simp only [R];refine ⟨bb,ys,_,hp,rfl,hh,nI i hi (aZ hrs) hA ?_ hC⟩;rw [hx];exact GF (V:=V0) (g:=cz w g.Imm g.Im) (fun _ h=>h) (fun _ h=>h) hJ
 ·dsimp only at htie ⊢;intro b' hb' j hj;exact htie b' hb' j (by simpa using hj)
section
variable {P:Program} {Q:Exit→Act→World→Prop} {g0:Gh} {rnd:Option Nat}
theorem FL {cd:Code} {es:List aJ} {t z:Nat} {T E:TypeId} {cs:List AV} {s:Bool} {ics:List IC} (gs i:Nat) (cs':Nat→Nat→Nat→List AV) (hi:i<cs.length) (hg:cs.getD i .any = .fr (.own E) s z ics) (hc':∀ b n c,cs.set i (.v (.slice (some ⟨b,0,none⟩) n c))=cs' b n c) (h0:0<ics.length)
  (h:∀ b n c,ics.length=n * z→HT rnd P Q g0 cd ((t,.box T (cs' b n c))::(gs,.inv (yz E s z ics b n c))::es)):HT rnd P Q g0 cd ((t,.box T cs)::es):=by intro g a w hl hs;obtain ⟨b,n,c,hn,hs'⟩:=hs.openRow gs hi hg h0;rw [hc'] at hs';exact h b n c hn g a w hl hs'
theorem EU {e:Exit} {es:List aJ} {t gs z b n c:Nat} {T E:TypeId} {cs:List AV} {s:Bool} {ics:List IC} (i:Nat) (cs':List AV) (hi:i<cs.length) (hg:cs.getD i .any = .v (.slice (some ⟨b,0,none⟩) n c)) (hc':cs.set i (.fr (.own E) s z ics)=cs')
  (h:PT Q g0 e ((t,.box T cs')::es)):PT Q g0 e ((t,.box T cs)::(gs,.inv (yz E s z ics b n c))::es):=by subst hc';exact fun g a w hl hs=>h g a w hl (hs.closeRow hi hg)
theorem Fh {A:Type} {z i:Nat} {enc:A→List IC} (he:∀ x,(enc x).length=z) (hz:0<z) {l:List A} {x:A} (h:bK l i=some x):0<((l.map enc).flatten).length:=by have hi:i<l.length:=(List.getElem?_eq_some_iff.1 h).1;rw [br he];exact Nat.mul_pos (by omega) hz
variable {ty:TypeId} {pos:String} {aft:Array Edge} {gd:Option (Nat×Bool)}
theorem xU (N:List aJ) (d:Nat) {T e:TypeId} (x y:Operand) {kd:IntKind} (nn:Int) (b n c i z:Nat) (hT:P.underlying T=some (.slice e)) (hz:(P.info? e).map (·.size)=some z)
  (hx:rd N x = .v (.slice (some ⟨b,0,none⟩) n c)) (hy:rd N y = .v (.int kd nn)) (hnn:nn=(i:Int)) (hi:i<n) :
  bh P ⟨some d,.indexAddr T x y,ty,pos,aft,gd⟩ N [] [(d,.v (.pointer (some ⟨b,i * z,none⟩)))] [.slot d]:=by subst hnn;refine bh.v rfl fun g V oN a w hp => ?_;have h2:=bP hp.val hp.esN hx;have h3:=bP hp.val hp.esN hy;simp [execOp,Instr.indexAt,Sem.run_bind,run_underlying hT,h2,h3,asIntOf,bu hz,hi,cw]
theorem DN {l:List IC} {n z i m:Nat} (hl:l.length=n * z) (hm:l.length=m * z) (hz:0<z) (hi:i<m):i<n:=by have:=Nat.eq_of_mul_eq_mul_right hz (hl.symm.trans hm);omega
theorem sN (N:List aJ) {T:TypeId} (ax vx:Operand) {E:TypeId} {z:Nat} {s:Bool} {ics ics':List IC} (gs b n c k sz:Nat) (vs:List Value) (hs:(P.info? T).map (·.size)=some sz)
  (hx:rd N ax = .v (.pointer (some ⟨b,k,none⟩))) (hv:tY N vx=some vs) (hlen:vs.length=sz) (h0:0<sz) (hfit:k+sz≤ics.length) (hcs:ics.take k++(vs.map IC.v++ics.drop (k+sz))=ics') :
  bh P ⟨none,.store T ax vx,ty,pos,aft,gd⟩ N [(gs,.inv (yz E s z ics b n c))] [(gs,.inv (yz E s z ics' b n c))] []:=by
 subst hcs;refine bh.core fun g V oN oT a w hd hp => ?_;have hT:=hp.esT;simp only [Es] at hT;obtain ⟨ob,o2,rfl,⟨hR,_⟩,rfl⟩:=hT;have h2:=bP hp.val hp.esN hx;simp only [R] at hR;have hR:R (cz w g.Imm g.Im) V0 w (.fr (.own E) s z ics) (.slice (some ⟨b,0,none⟩) n c) ob:=hR;obtain ⟨xs,hR,hic⟩:=mu hR;have hxl:=cR hic;simp only [R] at hR;obtain ⟨a0,n',c',⟨h3,_⟩,hl,hone,_,hown,hob⟩:=hR;have hne:xs≠[]:=fun e=>by subst e; simp at hxl; omega
 obtain ⟨b',c',cur,h4,hb,hnc,hcm,hsz,htk,_⟩:=qM hown hne
 cases h4
 cases h3
 obtain ⟨hvc,hvo⟩:=vr hp.val hp.esN hv
 have hrun:(execOp a.eval ⟨none,.store T ax vx,ty,pos,aft,gd⟩).run P w = .ok .skip (w.setRow b (cur.toList.take k++vs++cur.toList.drop (k+vs.length)).toArray):=by have hcl:=(by simpa using hsz:cur.toList.length=_);have:=Nat.mul_le_mul_right z hnc;have:=gn (P:=P) (w:=w) (T:=T) (off:=k) hs (cur:=cur.toList) (E:=E) (by simpa using hb) (v:=a.eval vx) (by rw [← hlen,← hvc]; simp) (by rw [hvc]; exact hvo) (by omega);rw [hvc] at this;simp [execOp,Instr.storeAt,h2,Instr.sureAddr,this,hlen]
 refine (Yl.skip hrun).mono ?_;rintro y w' ⟨rfl,rfl⟩;have hnew:=ul (w:=w) (vs:=vs) k hb hnc hcm hsz htk hl (by omega);rw [hlen] at hnew
 have hone':∀ u∈xs.take k++(vs++xs.drop (k+sz)),u.oneCell'=true:=by
  intro u hu;simp only [List.mem_append] at hu;rcases hu with hu | hu | hu
  ·exact hone u (List.mem_of_mem_take hu)
  ·exact hvo u hu
  ·exact hone u (List.mem_of_mem_drop hu)
 have hchg:dq [b] w (w.setRow b (cur.toList.take k++vs++cur.toList.drop (k+vs.length)).toArray):=gW _ _ _;have hob':ob=[b]:=by rw [hob]; rfl
 have hnb:¬ g.imm b:=(hp.own b (by simp [hob'])).2;refine ⟨g,V,ob,g.le_refl,fun c hc => .inl hc,fun c hc=>Nat.lt_of_lt_of_le (hp.imm c (.inl hc)) hchg.size,hchg.mono (by rw [hob']; simp),fun _ _=>rfl,fun u=>by simp only [Act.put]; exact hp.val u,?_,?_,?_⟩
 ·refine ⟨ob,[],by simp,⟨?_,trivial⟩,rfl⟩;simp only [R];show R (cz _ g.Imm g.Im) V0 _ (.fr (.own E) s z _) (.slice (some ⟨b,0,none⟩) n _) ob;refine mw (vs:=xs.take k++(vs++xs.drop (k+sz))) ?_ ?_
  ·rw [hob'];rw [← hlen] at hnew ⊢;exact fw hnew (by rw [hlen]; exact hone')
  ·have hst:jk (cz (w.setRow b (cur.toList.take k++vs++cur.toList.drop (k+vs.length)).toArray) g.Imm g.Im) (w.setRow b (cur.toList.take k++vs++cur.toList.drop (k+vs.length)).toArray) s ics xs :=
    dc (g:=cz w g.Imm g.Im) (g':=cz (w.setRow b (cur.toList.take k++vs++cur.toList.drop (k+vs.length)).toArray) g.Imm g.Im) (fun b' hb'=>jJ (g:=cz w g.Imm g.Im) (g':=cz (w.setRow b (cur.toList.take k++vs++cur.toList.drop (k+vs.length)).toArray) g.Imm g.Im) (fun _ h=>h) (fun _ h=>h) hb') (fun k' hk'=>hchg.block k' (hp.imm k' hk') (by simp only [List.mem_singleton]; rintro rfl; exact hnb hk')) ics xs hic
   exact gU (pL k hst) (gU (lT.2 rfl) (pO (k+sz) hst))
 ·exact (List.nodup_append.1 (List.nodup_append.1 hp.nodup).2.1).1
 ·intro c hc;have:=hp.own c (by simp [hc]);exact ⟨.inl (by simp [hc]),Nat.lt_of_lt_of_le this.1 hchg.size,this.2⟩
end
section
variable {P:Program} {ty:TypeId} {pos:String} {aft:Array Edge} {gd:Option (Nat×Bool)}
theorem Er {g:Gh} {V:bF→Value} {w:World} {B:AV}:∀ {avs:List AV} {xs:List Value} {o:List Nat},lR avs=true→Rs g V w (avs++[B]) xs o→∃ (ys:List Value) (x:Value),xs=ys++[x]∧R g V w B x o∧ys.length=avs.length
 | [],xs,o,_,h=>by
  simp only [List.nil_append,Rs] at h
  obtain ⟨x,l,o1,o2,rfl,rfl,h1,rfl,rfl⟩:=h
  exact ⟨[],x,rfl,by simpa using h1,rfl⟩
 | a::avs,xs,o,hn,h=>by
  simp only [lR,Bool.and_eq_true] at hn
  simp only [List.cons_append,Rs] at h
  obtain ⟨x,l,o1,o2,rfl,rfl,h1,h2⟩:=h
  obtain rfl:=qS a x o1 hn.1 h1
  obtain ⟨ys,z,rfl,h3,h4⟩:=Er hn.2 h2
  exact ⟨x::ys,z,rfl,by simpa using h3,by simp [h4]⟩
theorem xK (N G:List aJ) (W:List bF) (d u t n:Nat) (f:FuncId) {gl gl':List (Nat×List Value)} (ys:List Operand) {args:Array Operand} {ats:Array TypeId} (avs:List AV) (B B':AV) (res:AV) (hu:look N u = .clo f [t]) (hrun:∀ args w,(callFunc f args).run P w = .ok (.enter f args) w)
  (hargs:ys.toArray=args) (hav:ys.map (lN N)=avs) (hgl:look N n = .glob gl') (hsub:∀ p∈gl,p∈gl') (hf:ia P gl f (avs++[B]) (avs++[B']) res) (hnp:lR avs=true) (hcl:bq res=true) (hclT:bj [B]=true) (hclp:bj [B']=true)
  (hno:N.all (fun e=>gw e.2)=true) (hdt:[(t,B)].all (fun e => !Nat.beq e.1 d)=true) (hG:fX [(t,B)] [B']++[(d,res)]=G) (hW:bF.slot d::jo (fX [(t,B)] [B'])=W) :
  bh P ⟨some d,.call ⟨.value (.tmp u),args,ats⟩,ty,pos,aft,gd⟩ N [(t,B)] G W:=by
 obtain ⟨T,hTd0⟩:∃ T:List aJ,T=[(t,B)]:=⟨_,rfl⟩;obtain ⟨posts,hps0⟩:∃ ps:List AV,ps=[B']:=⟨_,rfl⟩;have hpl:posts.length≤T.length:=by rw [hps0,hTd0]; simp
 have hT2:T.map (·.2)=[B]:=by rw [hTd0]; rfl
 rw [← hTd0] at hdt hG hW ⊢;rw [← hps0] at hclp hG hW;rw [← hT2] at hclT;subst hG hW hargs;refine bh.core fun g V oN oT a w hd hp => ?_;have hN:=ka N oN hno hp.esN;obtain ⟨oc,_,hce,_⟩:=cE hp.esN u;dsimp only at hce;rw [hu] at hce;simp only [R,List.map_cons,List.map_nil] at hce
 have hev:a.eval (Operand.tmp u) = .func (.func f) #[] #[V (.slot t)]:=by have:=hp.val u;simp only [Act.eval];rw [← this,hce.1]
 have hr:(execOp a.eval ⟨some d,.call ⟨.value (.tmp u),ys.toArray,ats⟩,ty,pos,aft,gd⟩).run P w = .ok (.enter f (ys.toArray.map a.eval ++ #[V (.slot t)])) w:=by simp [execOp,resolve,hev,Deferred.ofValue,invoke,hrun]
 have hTv:(T.map fun e=>V (.slot e.1))=[V (.slot t)]:=by rw [hTd0]; rfl
 have hR:Rs (cz w g.Imm (fun b=>g.Im b∨b∈oN)) V0 w (avs++[B]) (ys.map a.eval++[V (.slot t)]) oT:=by
  refine cJ.2 ⟨_,_,[],oT,rfl,by simp,?_,?_⟩
  ·rw [← hav];exact fg (g:=g) (g':=cz w g.Imm (fun b=>g.Im b∨b∈oN)) rfl (fun b hb=>hb) hp.val hp.esN _
  ·rw [← hT2,← hTv];exact bJ (g:=g) (g':=cz w g.Imm (fun b=>g.Im b∨b∈oN)) (fun _ h=>h) _ _ oT hclT (.inl fun b hb => .inl hb) (xT hp.esT)
 have hnd:=hp.nodup
 have hob:∀ b∈oT,b<w.heap.size∧¬ (g.Imm b∨g.Im b∨b∈oN):=by
  intro b hb;have h1:=hp.own b (by simp [hb]);refine ⟨h1.1,?_⟩;rintro (h | h | h)
  ·exact h1.2 (.inl h)
  ·exact h1.2 (.inr h)
  ·exact (List.nodup_append.1 hnd).2.2 b h b hb rfl
 obtain ⟨og,_,hRg,_⟩:=cE hp.esN n;dsimp only at hRg;rw [hgl] at hRg;simp only [R] at hRg
 have hc:=hf g.Imm (fun b=>g.Im b∨b∈oN) w _ oT (fun b hb=>by
  rcases hb with hb | hb | hb
  ·exact hp.imm b (.inl hb)
  ·exact hp.imm b (.inr hb)
  ·exact (hp.own b (by simp [hb])).1) (fun p hp'=>⟨(hRg.1 p (hsub p hp')).1.imp id .inl,(hRg.1 p (hsub p hp')).2⟩) hR (List.nodup_append.1 hnd).2.1 hob
 have ea:(ys.map a.eval++[V (.slot t)]).toArray=ys.toArray.map a.eval ++ #[V (.slot t)]:=by apply Array.ext';simp
 rw [ea] at hc;have hlt:d<g.n:=hd d rfl;refine Yl.call hr (hc.mono ?_);rintro e' w' ⟨y,rfl,hchg,Imm',o,hI,hnew,hRr,hndo,hfr⟩;simp only [Rs] at hRr;obtain ⟨y',iD,o1,o2,hyv,rfl,hR1,hR2⟩:=hRr;obtain ⟨rfl,rfl⟩:=List.cons.inj hyv
 have hR2:Rs (cz w Imm' (fun b=>g.Im b∨b∈oN)) V0 w' posts ((T.map fun e=>V (.slot e.1)).take posts.length) o2:=by
  obtain ⟨zs,z,hz,h1,h2⟩:=Er hnp hR2;have hyl:(ys.map a.eval).length=avs.length:=by rw [← hav]; simp
  have hzl:zs++[z]=ys.map a.eval++[V (.slot t)]:=by rw [← hz,List.take_of_length_le (by simp [← hav])]
  have hzz:z=V (.slot t):=(List.cons.inj (List.append_inj hzl (by rw [h2,hyl])).2).1;rw [hTv,hps0];simp only [List.length_cons,List.length_nil,List.take_succ_cons,List.take_zero,Rs];exact ⟨_,_,o2,[],rfl,by simp,hzz ▸ h1,rfl,rfl⟩
 let V1:bF→Value:=fun l=>match l with
  | .slot u=>if u=d then y else V (.slot u)
  | .cell u i=>if u=d then eB w' y i else if bF.cell u i∈jo (fX T posts) then eB w' (V (.slot u)) i else V (.cell u i)
 have hV1:∀ l,fq (.slot d::jo (fX T posts)) l=false→V1 l=V l:=by
  intro l hl;simp only [fq,List.any_cons,Bool.or_eq_false_iff] at hl
  cases l with
  | slot u =>
   have:u≠d:=fun e=>by subst e; simp at hl
   simp [V1,this]
  | cell u i =>
   have h1:u≠d:=fun e=>by subst e; simp at hl
   have h2:bF.cell u i ∉ jo (fX T posts):=fun hm=>by have:=List.any_eq_false.1 hl.2 _ hm;simp at this
   simp [V1,h1,h2]
 have hTd:∀ e∈T,e.1≠d:=fun e he hed=>by have:=List.all_eq_true.1 hdt e he;rw [hed,Nat.beq_refl] at this; cases this
 have hslotT:(T.map fun e=>V1 (.slot e.1))=T.map fun e=>V (.slot e.1):=List.map_congr_left fun e he=>by simp [V1,hTd e he]
 have hzT:∀ {T:List aJ} {ps:List AV} {t:Nat} {av:AV},(t,av)∈fX T ps→∃ e∈T,e.1=t:=by
  intro T
  induction T with
  | nil=>intro ps t av h; cases ps <;> cases h
  | cons e T ih =>
   intro ps t av h
   cases ps with
   | nil=>cases h
   | cons p ps =>
    rcases List.mem_cons.1 h with h | h
    ·cases h; exact ⟨e,by simp,rfl⟩
    ·obtain ⟨e',h1,h2⟩:=ih h; exact ⟨e',by simp [h1],h2⟩
 refine ⟨y,rfl,{ g with Imm:=fun b=>Imm' b },V1,o2++o1,⟨rfl,rfl,rfl,rfl,rfl,hI,fun b hb => ?_⟩,fun b hb => ?_,fun b hb => ?_,hchg,hV1,?_,?_,?_,fun b hb => ?_⟩
 ·rcases hnew b hb with h | h | h
  ·exact .inl h
  ·exact .inr (hp.own2 b (by simp [h]))
  ·exact .inr (.inl (Nat.le_trans hp.base h.1))
 ·rcases hnew b hb with h | h | h
  ·exact .inl h
  ·exact .inr (.inl h)
  ·exact .inr (.inr h.1)
 ·rcases hnew b hb with h | h | h
  ·exact Nat.lt_of_lt_of_le (hp.imm b (.inl h)) hchg.size
  ·exact Nat.lt_of_lt_of_le (hob b h).1 hchg.size
  ·exact h.2
 ·intro t;rw [eM a d t y (by rw [hp.size]; exact hlt)];simp only [V1];split
  ·rfl
  ·exact hp.val t
 ·refine aT.2 ⟨o2,o1,rfl,?_,o1,[],by simp,⟨?_,?_⟩,rfl⟩
  ·refine qR (V:=V) hpl ?_ ?_
   ·rw [hslotT];exact bJ (g:=cz w Imm' (fun b=>g.Im b∨b∈oN)) (g':={ g with Imm:=fun b=>Imm' b }) (fun _ h=>h) _ _ o2 hclp (.inl fun b hb=>hb.resolve_right (by rw [hN]; simp)) hR2
   ·intro t T' cs hm b zs hb hh hsz i hi;obtain ⟨e,he,rfl⟩:=hzT hm;have htd:=hTd e he;have hb':V (.slot e.1) = .pointer (some ⟨b,0,none⟩):=by simpa [V1,htd] using hb
    have hmem:=nD hm hi;simp only [V1,htd,if_false,hmem,if_true,hb'];obtain ⟨zl⟩:=zs;exact df hh (by simpa using (show i<zl.length by simp at hsz; omega))
  ·show R _ _ _ res (V1 (.slot d)) o1;rw [show V1 (.slot d)=y by simp [V1]];exact bV (g:=cz w Imm' (fun b=>g.Im b∨b∈oN)) (g':={ g with Imm:=fun b=>Imm' b }) (fun _ h=>h) res y o1 hcl (.inl fun b hb=>hb.resolve_right (by rw [hN]; simp)) hR1
  ·cases res <;> try trivial
   case box T' cs =>
    intro b hb i hi;dsimp only at hb hi ⊢;rw [show V1 (.slot d)=y by simp [V1]] at hb;simp only [R] at hR1;obtain ⟨b',zs,os,hx',_,hh,hrs⟩:=hR1;rw [hb] at hx'; cases hx';simp only [V1,if_true,hb];exact df hh (by rw [aZ hrs]; exact hi)
 ·exact List.perm_append_comm.nodup_iff.1 hndo
 ·obtain ⟨h1,h2,h3⟩:=hfr b (by rcases List.mem_append.1 hb with h | h <;> simp [h]);refine ⟨h1,h2,?_⟩;rintro (h | h)
  ·exact h3 h
  ·rcases h1 with h1 | h1
   ·exact (hob b h1).2 (.inr (.inl h))
   ·exact absurd (hp.imm b (.inr h)) (by omega)
end
namespace Sh
end Sh
namespace Sh
def KL (k:List Int):Bool:=k.all fun x=>decide (0≤x)&&decide (x<256)
def Ag (n:Nat) (m:List (List Int×Int)) (k:List Int):Option Int:=if k.length=n∧KL k=true then some ((m.lookup k).getD 0) else none
def FI {A:Type} (n:Nat) (l:List A):Option (List A):=if n≤l.length then some (l.take n) else none
def Cp (n:Nat) (m:List (List Int×Int)) (k:List Int) (v:Int):Option (List (List Int×Int)):=if (k.length=n∧KL k=true)∧m.length<140737488355328 ∧ -9223372036854775808≤v∧v≤9223372036854775807 then some ((k,v)::m) else none
end Sh
end Go.Abs
end
