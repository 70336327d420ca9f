import Derived.Test.YtjdmcbkkacnmdaaGreatDoorBH
namespace Go.Abs
set_option linter.unusedVariables false
inductive Wr (cs:List AV) (vs:List Value):List AV→List Value→Prop
 | n:Wr cs vs cs vs
 | s {cs':List AV} {vs':List Value} {k:Nat} {y v:Value} (h:Wr cs vs cs' vs') (hk:cs'[k]? = some (.v y)):Wr cs vs (cs'.set k (.v v)) (vs'.set k v)
theorem Wr.P {cs cs':List AV} {vs vs':List Value} (h:Wr cs vs cs' vs') {g:Gh} {V:bN→Value} {w:World} {o:List Nat} (hr:Rs g V w cs vs o):Rs g V w cs' vs' o:=by
 induction h with
 | n=>exact hr
 | @s cs' vs' k y v h hk ih =>
  have hi:k<cs'.length:=by
   rcases Nat.lt_or_ge k cs'.length with h | h
   ·exact h
   ·rw [List.getElem?_eq_none h] at hk; cases hk
  have hl:=aQ ih
  obtain ⟨oa,om,oc,rfl,hA,hR,hC⟩:=fZ k ih hi
  have hg:cs'.getD k .any = .v y:=by rw [List.getD_eq_getElem?_getD,hk]; rfl
  rw [hg] at hR
  simp only [R] at hR
  obtain ⟨_,rfl⟩:=hR
  refine kB k hi (by rw [List.length_set]; exact hl) (by rw [List.take_set_of_le (Nat.le_refl _)]; exact hA) ?_ (by rw [List.drop_set_of_lt (Nat.lt_succ_self _)]; exact hC)
  simp only [R]
  refine ⟨?_,trivial⟩
  rw [List.getD_eq_getElem?_getD,List.getElem?_set_self (by rw [hl]; exact hi)]
  rfl
theorem yc (b:Nat) (oa p q oc oR:List Nat):(b::(oa++((p++q)++oc))++oR).Perm (b::(oa++(p++oc))++(q++oR)):=by
 simp only [List.cons_append,List.append_assoc]
 refine .cons _ (.append_left _ (.append_left _ ?_))
 rw [← List.append_assoc,← List.append_assoc]
 exact List.perm_append_comm.append_right _
theorem fR.openC {g:Gh} {a:Act} {w:World} {es:List aO} {t i z:Nat} {T E:TypeId} {cs xs:List AV} (gs:Nat) (hi:i<cs.length) (hg:cs.getD i .any = .hid (bu E z xs)) (h:fR g ((t,.box T cs)::es) a w) :
  ∃ vs:List Value,vs.length=xs.length∧fR g ((t,.box T (cs.set i (.fl (.own E) z vs)))::(gs,.inv (ph xs vs))::es) a w:=by
 obtain ⟨V,ow,hst,o1,oR,rfl,⟨hR,htie⟩,hF⟩:=h
 simp only [R] at hR
 obtain ⟨bb,ys,os,hp,rfl,hh,hrs⟩:=hR
 obtain ⟨oa,om,oc,rfl,hA,hRi,hC⟩:=fZ i hrs hi
 rw [hg] at hRi
 simp only [R] at hRi
 obtain ⟨vs,p,q,rfl,h1,h2⟩:=hRi
 refine ⟨vs,aQ h2,V,_,hst.perm (yc bb oa p q oc oR),bb::(oa++(p++oc)),q++oR,rfl,⟨?_,?_⟩,q,oR,rfl,⟨?_,trivial⟩,hF⟩
 ·have h3:R g V w (.fl (.own E) z vs) (ys.getD i Go.undef) p:=oY V0 V (fun _ h=>h) h1
  simp only [R] at h3 ⊢
  exact ⟨bb,ys,_,hp,rfl,hh,kB i hi (aQ hrs) hA (by simp only [R]; exact h3) hC⟩
 ·dsimp only at htie ⊢
  intro b' hb' j hj
  exact htie b' hb' j (by simpa using hj)
 ·simp only [R]
  exact h2
theorem fR.closeC {g:Gh} {a:Act} {w:World} {es:List aO} {t gs i z:Nat} {T E:TypeId} {cs xs xs':List AV} {vs vs':List Value} (hi:i<cs.length) (hg:cs.getD i .any = .fl (.own E) z vs') (hW:Wr xs vs xs' vs') (h:fR g ((t,.box T cs)::(gs,.inv (ph xs vs))::es) a w) :
  fR g ((t,.box T (cs.set i (.hid (bu E z xs'))))::es) a w:=by
 obtain ⟨V,ow,hst,o1,o2,rfl,⟨hR,htie⟩,om,oR,rfl,⟨hJ,_⟩,hF⟩:=h
 simp only [R] at hR hJ
 obtain ⟨bb,ys,os,hp,rfl,hh,hrs⟩:=hR
 obtain ⟨oa,oi,oc,rfl,hA,hRi,hC⟩:=fZ i hrs hi
 rw [hg] at hRi
 have h1:R (cv w g.Imm g.Im) V0 w (.fl (.own E) z vs') (ys.getD i Go.undef) oi:=oY V V0 (fun _ h=>h) hRi
 have h2:(bu E z xs').P g.Imm g.Im (ys.getD i Go.undef) (oi++om) w:=⟨vs',oi,om,rfl,h1,hW.P hJ⟩
 refine ⟨V,_,hst.perm (yc bb oa oi om oc oR).symm,bb::(oa++((oi++om)++oc)),oR,rfl,⟨?_,?_⟩,hF⟩
 ·simp only [R]
  refine ⟨bb,ys,_,hp,rfl,hh,kB i hi (aQ hrs) hA ?_ hC⟩
  simp only [R]
  exact h2
 ·dsimp only at htie ⊢
  intro b' hb' j hj
  exact htie b' hb' j (by simpa using hj)
section
variable {P:Program} {Q:Exit→Act→World→Prop} {g0:Gh} {rnd:Option Nat}
theorem el {cd:Code} {es:List aO} {t z:Nat} {T E:TypeId} {cs xs:List AV} (gs i:Nat) (cs':List Value→List AV) (hi:i<cs.length) (hg:cs.getD i .any = .hid (bu E z xs)) (hc':∀ vs,cs.set i (.fl (.own E) z vs)=cs' vs)
  (h:∀ vs:List Value,vs.length=xs.length→HT rnd P Q g0 cd ((t,.box T (cs' vs))::(gs,.inv (ph xs vs))::es)):HT rnd P Q g0 cd ((t,.box T cs)::es):=by
 intro g a w hl hs
 obtain ⟨vs,hn,hs'⟩:=hs.openC gs hi hg
 rw [hc'] at hs'
 exact h vs hn g a w hl hs'
theorem ik {e:Exit} {es:List aO} {t gs z:Nat} {T E:TypeId} {cs xs x0 xs':List AV} {vs vs':List Value} (i:Nat) (cs':List AV) (hi:i<cs.length) (hg:cs.getD i .any = .fl (.own E) z vs') (hW:Wr xs vs x0 vs') (hx:x0=xs') (hc':cs.set i (.hid (bu E z xs'))=cs')
  (h:PT Q g0 e ((t,.box T cs')::es)):PT Q g0 e ((t,.box T cs)::(gs,.inv (ph xs vs))::es):=by
 subst hc' hx
 exact fun g a w hl hs=>h g a w hl (hs.closeC hi hg hW)
theorem pG {xs:List Value} {k:Nat} {v:Value} (h:k+1≤xs.length):xs.take k++([v]++xs.drop (k+1))=xs.set k v:=by
 rw [List.set_eq_take_append_cons_drop,if_pos (by omega)]; rfl
variable {ty:TypeId} {pos:String} {aft:Array Edge} {gd:Option (Nat×Bool)}
theorem jY (N:List aO) (d n:Nat) (f:FuncId) {gl gl':List (Nat×List Value)} {cal:Operand} {args:Array Operand} {ats:Array TypeId} (avs:List AV) (res:AV) (hcal:rd N cal = .v (.func (.func f) #[] #[])) (hrun:∀ args w,(callFunc f args).run P w = .ok (.enter f args) w)
  (hav:tJ N args.toList avs) (hgl:look N n = .glob gl') (hsub:∀ p∈gl,p∈gl') (hf:kM P gl f avs res) (hcl:bk res=true) (hni:tj res) :
  aY P ⟨some d,.call ⟨.value cal,args,ats⟩,ty,pos,aft,gd⟩ N [] [(d,res)] [.slot d]:=by
 refine aY.fresh rfl (dB _ _ hcl) fun g V oN a w hp => ?_
 have hcv:=dD hp.val hp.esN hcal
 have hr:(execOp a.eval ⟨some d,.call ⟨.value cal,args,ats⟩,ty,pos,aft,gd⟩).run P w = .ok (.enter f (args.map a.eval)) w:=by
  simp [execOp,resolve,hcv,Deferred.ofValue,invoke,hrun]
 have hargs:Rs (cv w g.Imm (fun b=>g.Im b∨b∈oN)) V0 w avs (args.toList.map a.eval) []:=by
  exact hav g V oN a w hp.val hp.esN
 obtain ⟨og,_,hRg,_⟩:=ez hp.esN n
 dsimp only at hRg
 rw [hgl] at hRg
 simp only [R] at hRg
 have hc:=hf g.Imm (fun b=>g.Im b∨b∈oN) w _ (fun b hb=>by
  rcases hb with hb | hb | hb
  ·exact hp.imm b (.inl hb)
  ·exact hp.imm b (.inr hb)
  ·exact (hp.own b (by simp [hb])).1) (fun p hp'=>by
  obtain ⟨h1,h2⟩:=hRg.1 p (hsub p hp')
  exact ⟨h1.imp id .inl,h2⟩) hargs
 have ea:(args.toList.map a.eval).toArray=args.map a.eval:=by rw [← Array.toList_map]
 rw [ea] at hc
 refine Yl.call hr (hc.mono ?_)
 rintro e w' ⟨x,rfl,hchg,Imm',o,hI,hnew,hR,hnd,hfr⟩
 refine ⟨x,rfl,hchg,{ g with Imm:=fun b=>Imm' b },o,⟨rfl,rfl,rfl,rfl,rfl,hI,fun b hb => ?_⟩,hnew,?_,hnd,hfr⟩
 ·rcases hnew b hb with h | h
  ·exact .inl h
  ·exact .inr (.inl (Nat.le_trans hp.base h.1))
 ·exact cl (g:=cv w Imm' g.Im) (g':={ g with Imm:=fun b=>Imm' b }) (fun _ h=>h) res x o hcl (.inl fun _ h=>h) (hni Imm' (fun b=>g.Im b∨b∈oN) g.Im w w' x o hR)
end
theorem ix {cs:List AV} (h:qd cs):tj (.agg cs):=fun I M M' w0 w x o hr=>by
 simp only [R] at hr ⊢
 obtain ⟨xs,h1,h2⟩:=hr
 exact ⟨xs,h1,h I M M' w0 w xs o h2⟩
def DC:Value→Option Addr
 | .slice a _ _=>a
 | _=>none
def DR:Value→Nat
 | .slice _ n _=>n
 | _=>0
def Ey:Value→Nat
 | .slice _ _ c=>c
 | _=>0
theorem aY.ownSl {P:Program} {o:Oper} {N T G:List aO} {W:List bN} {gs k z:Nat} {E:TypeId} {cs:List AV} {vs l:List Value} {v:Value} (hJ:(gs,.inv (ph cs vs))∈N) (hk:vs[k]? = some v) (hc:cs[k]? = some (.fl (.own E) z l)) (h:v = .slice (DC v) (DR v) (Ey v)→aY P o N T G W):aY P o N T G W:=by
 intro g F a w K Q hd hs
 refine h ?_ g F a w K Q hd hs
 obtain ⟨V,ow,hst,hes⟩:=hs
 obtain ⟨oN,oR,rfl,hN,hR⟩:=bi.1 hes
 obtain ⟨oJ,_,hj⟩:=sO hN hJ
 have hj:Rs (cv w g.Imm g.Im) V0 w cs vs oJ:=hj
 have hi:k<cs.length:=(List.getElem?_eq_some_iff.1 hc).1
 obtain ⟨oa,o1,ob,_,_,hR2,_⟩:=fZ k hj hi
 have e1:cs.getD k .any = .fl (.own E) z l:=by simp [List.getD_eq_getElem?_getD,hc]
 have e2:vs.getD k undef=v:=by simp [List.getD_eq_getElem?_getD,hk]
 rw [e1,e2] at hR2
 simp only [R] at hR2
 obtain ⟨a,n,c,⟨rfl,_⟩,_⟩:=hR2
 rfl
theorem uC {T:TypeId} {cs:List AV} (h:qd cs):tj (.box T cs):=fun I M M' w0 w x o hr=>by
 simp only [R] at hr ⊢
 obtain ⟨b,xs,os,h1,h2,h3,h4⟩:=hr
 exact ⟨b,xs,os,h1,h2,h3,h I M M' w0 w xs os h4⟩
end Go.Abs
