import Derived.Test.YtjdmcbkkacnmdaaGreatDoorBF
namespace Go.Abs
set_option linter.unusedVariables false
theorem lE.refl:∀ es:List aO,lE es es
 | [] => .nil
 | e::es => .same e (lE.refl es)
theorem lE.app:∀ (es:List aO) {fs fs':List aO},lE fs fs'→lE (es++fs) (es++fs')
 | [],_,_,h=>h
 | e::es,_,_,h => .same e (lE.app es h)
section
variable {P:Program} {Q:Exit→Act→World→Prop} {g0:Gh} {rnd:Option Nat}
variable {ty:TypeId} {pos:String} {aft:Array Edge} {gd:Option (Nat×Bool)}
inductive zS (N:List aO):List AV→List AV→Prop
 | nil:zS N [] []
 | p {c av:AV} {cs avs:List AV}:oz N c=av→zS N cs avs→zS N (c::cs) (av::avs)
 | o {t i z:Nat} {T E:TypeId} {bs xs cs avs:List AV} {ics:List IC}:look N t = .box T bs→bs[i]? = some (.hid (bu E z xs))→tN true (xs.map rp) ics→zS N cs avs→zS N (.same (.cell t i)::cs) (.fr .shr true z ics::avs)
 | q {z:Nat} {E:TypeId} {xs cs avs:List AV} {ics:List IC}:tN true (xs.map rp) ics→zS N cs avs→zS N (.hid (bu E z xs)::cs) (.fr .shr true z ics::avs)
 | v {t i z gs:Nat} {T E:TypeId} {bs xs cs avs:List AV} {vs:List Value} {ics:List IC}:look N t = .box T bs→bs[i]? = some (.fl (.own E) z vs)→(gs,.inv (ph xs vs))∈N→tN true (xs.map rp) ics→zS N cs avs→zS N (.same (.cell t i)::cs) (.fr .shr true z ics::avs)
theorem uU {g:Gh} {V:bN→Value} {w:World} {N:List aO} {oN:List Nat} (hN:Es g V w N oN):∀ {cs avs:List AV} {xs:List Value} {o:List Nat},zS N cs avs→(∀ b∈o,b∈oN)→Rs g V w cs xs o→Rs (cv w g.Imm (fun b=>g.Im b∨b∈oN)) V0 w avs xs []
 | _,_,xs,o,.nil,_,h=>by simp only [Rs] at *; exact ⟨h.1,trivial⟩
 | _,_,xs,o,.p he hl,ho,h=>by
  simp only [Rs] at *
  obtain ⟨x,xs',o1,o2,rfl,rfl,h1,h2⟩:=h
  refine ⟨x,xs',[],[],rfl,rfl,?_,uU hN hl (fun b hb=>ho b (by simp [hb])) h2⟩
  rw [← he]
  exact tC (g:=g) (g':=cv w g.Imm (fun b=>g.Im b∨b∈oN)) rfl (fun b hb=>hb) hN (fun b hb=>ho b (by simp [hb])) h1
 | _,_,xs,o,.o hlk hi hai hl,ho,h=>by
  simp only [Rs] at *
  obtain ⟨x,xs',o1,o2,rfl,rfl,h1,h2⟩:=h
  refine ⟨x,xs',[],[],rfl,rfl,?_,uU hN hl (fun b hb=>ho b (by simp [hb])) h2⟩
  simp only [R] at h1
  rename_i t i z T E bs xs2 cs avs ics
  have hil:=(List.getElem?_eq_some_iff.1 hi).1
  obtain ⟨b',ys,os,h3,hh,hrs,hnm,hso⟩:=ki hN hlk
  have hyl:=aQ hrs
  obtain ⟨o5,ho5,h5⟩:=mr i hrs hil
  rw [show bs.getD i .any = .hid (bu E z xs2) by rw [List.getD_eq_getElem?_getD,hi]; rfl] at h5
  simp only [R] at h5
  have hV:V (.cell t i)=ys.getD i undef:=hnm i _ (by simp [show i<ys.length by omega])
  rw [h1.1,hV]
  exact nQ (fun b hb=>hso b (List.mem_cons_of_mem _ (ho5 b hb))) h5 hai
 | _,_,xs,o,.q hai hl,ho,h=>by
  simp only [Rs] at *
  obtain ⟨x,xs',o1,o2,rfl,rfl,h1,h2⟩:=h
  refine ⟨x,xs',[],[],rfl,rfl,?_,uU hN hl (fun b hb=>ho b (by simp [hb])) h2⟩
  simp only [R] at h1
  exact nQ (fun b hb=>ho b (by simp [hb])) h1 hai
 | _,_,xs,o,.v hlk hi hm hai hl,ho,h=>by
  simp only [Rs] at *
  obtain ⟨x,xs',o1,o2,rfl,rfl,h1,h2⟩:=h
  refine ⟨x,xs',[],[],rfl,rfl,?_,uU hN hl (fun b hb=>ho b (by simp [hb])) h2⟩
  simp only [R] at h1
  rename_i t i z gs T E bs xs2 cs avs vs ics
  have hil:=(List.getElem?_eq_some_iff.1 hi).1
  obtain ⟨b',ys,os,h3,hh,hrs,hnm,hso⟩:=ki hN hlk
  have hyl:=aQ hrs
  obtain ⟨o5,ho5,h5⟩:=mr i hrs hil
  rw [show bs.getD i .any = .fl (.own E) z vs by rw [List.getD_eq_getElem?_getD,hi]; rfl] at h5
  have hV:V (.cell t i)=ys.getD i undef:=hnm i _ (by simp [show i<ys.length by omega])
  obtain ⟨o6,ho6,hJ⟩:=sO hN hm
  have h6:(bu E z xs2).P g.Imm g.Im (ys.getD i undef) (o5++o6) w:=⟨vs,o5,o6,rfl,oY V V0 (fun _ h=>h) h5,hJ⟩
  rw [h1.1,hV]
  refine nQ (fun b hb => ?_) h6 hai
  rcases List.mem_append.1 hb with hb | hb
  ·exact hso b (List.mem_cons_of_mem _ (ho5 b hb))
  ·exact ho6 b hb
theorem eP {N:List aO} {y:Operand} {ys:List Operand} {cs avs' avs:List AV} (hx:rd N y = .agg cs) (hl:zS N cs avs') (h:tJ N ys avs):tJ N (y::ys) (.agg avs'::avs):=fun g V oN a w hval hN=>by
 simp only [List.map_cons,Rs]
 refine ⟨_,_,[],[],rfl,rfl,?_,h g V oN a w hval hN⟩
 obtain ⟨o',ho,hr⟩:=kI hval hN y
 rw [hx] at hr
 simp only [R] at hr ⊢
 obtain ⟨xs,e,h2⟩:=hr
 exact ⟨xs,e,uU hN hl ho h2⟩
theorem fk (N:List aO) (d:Nat) (f:FuncId) {cal:Operand} {args:Array Operand} {ats:Array TypeId} (avs:List AV) (res:AV) (hcal:rd N cal = .v (.func (.func f) #[] #[])) (hrun:∀ args w,(callFunc f args).run P w = .ok (.enter f args) w)
  (hav:tJ N args.toList avs) (hf:cg P f avs res) (hcl:bk res=true) (hsh:fS res=true) :
  aY P ⟨some d,.call ⟨.value cal,args,ats⟩,ty,pos,aft,gd⟩ N [] [(d,res)] [.slot d]:=by
 refine aY.fresh rfl (dB _ _ hcl) fun g V oN a w hp => ?_
 have hcv:=dD hp.val hp.esN hcal
 have hr:(execOp a.eval ⟨some d,.call ⟨.value cal,args,ats⟩,ty,pos,aft,gd⟩).run P w = .ok (.enter f (args.map a.eval)) w:=by
  simp [execOp,resolve,hcv,Deferred.ofValue,invoke,hrun]
 have hargs:Rs (cv w g.Imm (fun b=>g.Im b∨b∈oN)) V0 w avs (args.toList.map a.eval) []:=by
  exact hav g V oN a w hp.val hp.esN
 have hc:=hf g.Imm (fun b=>g.Im b∨b∈oN) w _ (fun b hb=>by
  rcases hb with hb | hb | hb
  ·exact hp.imm b (.inl hb)
  ·exact hp.imm b (.inr hb)
  ·exact (hp.own b (by simp [hb])).1) hargs
 have ea:(args.toList.map a.eval).toArray=args.map a.eval:=by rw [← Array.toList_map]
 rw [ea] at hc
 refine Yl.call hr (hc.mono ?_)
 rintro e w' ⟨x,rfl,hchg,Imm',o,hI,hnew,hR,hnd,hfr⟩
 refine ⟨x,rfl,hchg,{ g with Imm:=fun b=>Imm' b },o,⟨rfl,rfl,rfl,rfl,rfl,hI,fun b hb => ?_⟩,hnew,?_,hnd,hfr⟩
 ·rcases hnew b hb with h | h
  ·exact .inl h
  ·exact .inr (.inl (Nat.le_trans hp.base h.1))
 ·exact cl (g:=cv w Imm' (fun b=>g.Im b∨b∈oN)) (g':={ g with Imm:=fun b=>Imm' b }) (fun _ h=>h) res x o hcl (.inr hsh) hR
theorem xP (N:List aO) (d n:Nat) (f:FuncId) {gl gl':List (Nat×List Value)} {cal:Operand} {args:Array Operand} {ats:Array TypeId} (avs:List AV) (res:AV) (hcal:rd N cal = .v (.func (.func f) #[] #[])) (hrun:∀ args w,(callFunc f args).run P w = .ok (.enter f args) w)
  (hav:tJ N args.toList avs) (hgl:look N n = .glob gl') (hsub:∀ p∈gl,p∈gl') (hf:kM P gl f avs res) (hcl:bk res=true) (hsh:fS res=true) :
  aY P ⟨some d,.call ⟨.value cal,args,ats⟩,ty,pos,aft,gd⟩ N [] [(d,res)] [.slot d]:=by
 refine aY.fresh rfl (dB _ _ hcl) fun g V oN a w hp => ?_
 have hcv:=dD hp.val hp.esN hcal
 have hr:(execOp a.eval ⟨some d,.call ⟨.value cal,args,ats⟩,ty,pos,aft,gd⟩).run P w = .ok (.enter f (args.map a.eval)) w:=by
  simp [execOp,resolve,hcv,Deferred.ofValue,invoke,hrun]
 have hargs:Rs (cv w g.Imm (fun b=>g.Im b∨b∈oN)) V0 w avs (args.toList.map a.eval) []:=by
  exact hav g V oN a w hp.val hp.esN
 obtain ⟨og,_,hRg,_⟩:=ez hp.esN n
 dsimp only at hRg
 rw [hgl] at hRg
 simp only [R] at hRg
 have hc:=hf g.Imm (fun b=>g.Im b∨b∈oN) w _ (fun b hb=>by
  rcases hb with hb | hb | hb
  ·exact hp.imm b (.inl hb)
  ·exact hp.imm b (.inr hb)
  ·exact (hp.own b (by simp [hb])).1) (fun p hp'=>by
  obtain ⟨h1,h2⟩:=hRg.1 p (hsub p hp')
  exact ⟨h1.imp id .inl,h2⟩) hargs
 have ea:(args.toList.map a.eval).toArray=args.map a.eval:=by rw [← Array.toList_map]
 rw [ea] at hc
 refine Yl.call hr (hc.mono ?_)
 rintro e w' ⟨x,rfl,hchg,Imm',o,hI,hnew,hR,hnd,hfr⟩
 refine ⟨x,rfl,hchg,{ g with Imm:=fun b=>Imm' b },o,⟨rfl,rfl,rfl,rfl,rfl,hI,fun b hb => ?_⟩,hnew,?_,hnd,hfr⟩
 ·rcases hnew b hb with h | h
  ·exact .inl h
  ·exact .inr (.inl (Nat.le_trans hp.base h.1))
 ·exact cl (g:=cv w Imm' (fun b=>g.Im b∨b∈oN)) (g':={ g with Imm:=fun b=>Imm' b }) (fun _ h=>h) res x o hcl (.inr hsh) hR
end
end Go.Abs
