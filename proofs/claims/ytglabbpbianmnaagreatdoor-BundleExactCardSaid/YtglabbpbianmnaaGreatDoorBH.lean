import Derived.Test.YtglabbpbianmnaaGreatDoorBF
namespace Go.Abs
set_option linter.unusedVariables false
theorem mn.refl:∀ es:List aO,mn es es
 | [] => .nil
 | e::es => .same e (mn.refl es)
theorem mn.app:∀ (es:List aO) {fs fs':List aO},mn fs fs'→mn (es++fs) (es++fs')
 | [],_,_,h=>h
 | e::es,_,_,h => .same e (mn.app es h)
section
variable {P:Program} {Q:Exit→Act→World→Prop} {g0:Gh} {rnd:Option Nat}
variable {ty:TypeId} {pos:String} {aft:Array Edge} {gd:Option (Nat×Bool)}
inductive GG (N:List aO):List AV→List AV→Prop
 | nil:GG N [] []
 | p {c av:AV} {cs avs:List AV}:qA N c=av→GG N cs avs→GG N (c::cs) (av::avs)
 | o {t i z:Nat} {T E:TypeId} {bs xs cs avs:List AV} {ics:List IC}:look N t = .box T bs→bs[i]? = some (.hid (Hf E z xs))→Dv true (xs.map IG) ics→GG N cs avs→GG N (.same (.cell t i)::cs) (.fr .shr true z ics::avs)
 | q {z:Nat} {E:TypeId} {xs cs avs:List AV} {ics:List IC}:Dv true (xs.map IG) ics→GG N cs avs→GG N (.hid (Hf E z xs)::cs) (.fr .shr true z ics::avs)
theorem zY (N:List aO) (d t:Nat) (f:FuncId) {cal x:Operand} {args:List Operand} {ats:Array TypeId} {e:TypeId} {vs:List Value} (avs:List AV) (res:AV) (hcal:rd N cal = .v (.func (.func f) #[] #[])) (hrun:∀ args w,(callFunc f args).run P w = .ok (.enter f args) w)
  (hx:bA (N++[(t,.mkr e vs)]) x = .same (.slot t)) (hav:args.map (pU N)=avs) (hf:Gs P f (.mkr e vs::avs) res) (hcl:bG res=true) (hsh:iS res=true) (hnb:fh res=true) :
  bD P ⟨some d,.call ⟨.value cal,(x::args).toArray,ats⟩,ty,pos,aft,gd⟩ N [(t,.mkr e vs)] [(t,.any),(d,res)] [.slot d]:=by
 refine bD.core fun g V oN oT a w hd hp => ?_
 have hT:=hp.esT
 simp only [Es] at hT
 obtain ⟨ob,o2,rfl,⟨hRt,_⟩,rfl⟩:=hT
 have hcv:=dL hp.val hp.esN hcal
 have hax:=bX hp.val (bm.2 ⟨oN,_,rfl,hp.esN,hp.esT⟩) x
 rw [hx] at hax
 have hxe:a.eval x=V (.slot t):=by simp only [R] at hax; exact hax.1
 have hr:(execOp a.eval ⟨some d,.call ⟨.value cal,(x::args).toArray,ats⟩,ty,pos,aft,gd⟩).run P w = .ok (.enter f ((x::args).toArray.map a.eval)) w:=by
  simp [execOp,resolve,hcv,Deferred.ofValue,invoke,hrun]
 have hargs:Rs (fU w g.Imm (fun b=>g.Im b∨b∈oN)) V0 w (.mkr e vs::avs) ((x::args).map a.eval) ob:=by
  simp only [List.map_cons,Rs]
  refine ⟨_,_,ob,[],rfl,by simp,?_,?_⟩
  ·rw [hxe]
   exact dZ (g:=g) (g':=fU w g.Imm (fun b=>g.Im b∨b∈oN)) (fun _ h=>h) (.mkr e vs) _ ob rfl (.inl fun b hb => .inl hb) hRt
  ·rw [← hav]
   exact lJ (g:=g) (g':=fU w g.Imm (fun b=>g.Im b∨b∈oN)) rfl (fun b hb=>hb) hp.val hp.esN _
 have hnd:=hp.nodup
 have hob:∀ b∈ob,b<w.heap.size∧¬ (g.Imm b∨g.Im b∨b∈oN):=by
  intro b hb
  have h1:=hp.own b (by simp [hb])
  refine ⟨h1.1,?_⟩
  rintro (h | h | h)
  ·exact h1.2 (.inl h)
  ·exact h1.2 (.inr h)
  ·exact (List.nodup_append.1 hnd).2.2 b h b (by simp [hb]) rfl
 have hc:=hf g.Imm (fun b=>g.Im b∨b∈oN) w _ ob (fun b hb=>by
  rcases hb with hb | hb | hb
  ·exact hp.imm b (.inl hb)
  ·exact hp.imm b (.inr hb)
  ·exact (hp.own b (by simp [hb])).1) hargs (by have:=(List.nodup_append.1 hnd).2.1; simpa using this) hob
 have ea:((x::args).map a.eval).toArray=(x::args).toArray.map a.eval:=by simp
 rw [ea] at hc
 have hlt:d<g.n:=hd d rfl
 refine Yl.call hr (hc.mono ?_)
 rintro e' w' ⟨y,rfl,hchg,Imm',o,hI,hnew,hR,hndo,hfr⟩
 refine ⟨y,rfl,{ g with Imm:=fun b=>Imm' b },dS V d y,o,⟨rfl,rfl,rfl,rfl,rfl,hI,fun b hb => ?_⟩,fun b hb => ?_,fun b hb => ?_,by simpa using hchg,fun l hl=>cW hl,fun u=>eB hp.val hp.size hlt u,?_,hndo,fun b hb => ?_⟩
 ·rcases hnew b hb with h | h | h
  ·exact .inl h
  ·exact .inr (hp.own2 b (by simp [h]))
  ·exact .inr (.inl (Nat.le_trans hp.base h.1))
 ·rcases hnew b hb with h | h | h
  ·exact .inl h
  ·exact .inr (.inl (by simp [h]))
  ·exact .inr (.inr h.1)
 ·rcases hnew b hb with h | h | h
  ·exact Nat.lt_of_lt_of_le (hp.imm b (.inl h)) hchg.size
  ·exact Nat.lt_of_lt_of_le (hob b h).1 hchg.size
  ·exact h.2
 ·refine ⟨[],o,rfl,⟨by simp [R],trivial⟩,o,[],by simp,⟨?_,?_⟩,rfl⟩
  ·show R _ _ _ res (dS V d y (.slot d)) o
   rw [dD]
   exact dZ (g:=fU w Imm' (fun b=>g.Im b∨b∈oN)) (g':={ g with Imm:=fun b=>Imm' b }) (fun _ h=>h) res y o hcl (.inr hsh) hR
  ·cases res <;> first | trivial | (simp [fh] at hnb)
 ·obtain ⟨h1,h2,h3⟩:=hfr b hb
  refine ⟨h1.imp (fun h=>by simp [h]) id,h2,?_⟩
  rintro (h | h)
  ·exact h3 h
  ·rcases h1 with h1 | h1
   ·exact (hob b h1).2 (.inr (.inl h))
   ·exact absurd (hp.imm b (.inr h)) (by omega)
end
end Go.Abs
