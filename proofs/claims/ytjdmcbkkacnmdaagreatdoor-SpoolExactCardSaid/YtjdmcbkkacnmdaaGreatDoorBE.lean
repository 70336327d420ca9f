import Derived.Test.YtjdmcbkkacnmdaaGreatDoorBD
namespace Go.Abs
set_option linter.unusedVariables false
def rp:AV→AV
 | .v x => .v x
 | .fl _ z xs => .fl .shr z xs
 | .fr _ _ z xs => .fr .shr true z xs
 | _ => .any
theorem Dp {g g':Gh} {w:World} {oN:List Nat} (hI:g'.Imm=g.Imm) (hM:∀ b,g.Im b∨b∈oN→g'.Im b) {av:AV} {x:Value} {o:List Nat} (ho:∀ b∈o,b∈oN) (h:R g V0 w av x o):R g' V0 w (rp av) x []:=by
 cases av with
 | v y=>simp only [R,rp] at *; exact ⟨h.1,trivial⟩
 | fl m z xs=>exact qj (V':=V0) hI hM ho h
 | fr m s z xs=>exact vl (V':=V0) hI hM ho h
 | _=>simp [R,rp]
theorem wF {g:Gh} {w:World} {oN:List Nat}:∀ {cs:List AV} {xs:List Value} {o:List Nat},(∀ b∈o,b∈oN)→Rs (cv w g.Imm g.Im) V0 w cs xs o→Rs (cv w g.Imm (fun b=>g.Im b∨b∈oN)) V0 w (cs.map rp) xs []
 | [],xs,o,_,h=>by simp only [Rs,List.map_nil] at *; exact ⟨h.1,trivial⟩
 | c::cs,xs,o,ho,h=>by
  simp only [Rs,List.map_cons] at *
  obtain ⟨x,xs',o1,o2,rfl,rfl,h1,h2⟩:=h
  exact ⟨x,xs',[],[],rfl,rfl,Dp (g:=cv w g.Imm g.Im) (g':=cv w g.Imm (fun b=>g.Im b∨b∈oN)) (oN:=oN) rfl (fun b hb=>hb) (fun b hb=>ho b (by simp [hb])) h1,wF (fun b hb=>ho b (by simp [hb])) h2⟩
section
variable {A:Type}
theorem oS:∀ (cs ds:List AV),br (cs++ds)=(br cs&&br ds)
 | [],ds=>by simp [br]
 | c::cs,ds=>by simp only [List.cons_append,br,oS cs ds,Bool.and_assoc]
theorem qC:∀ (cs ds:List AV),fp (cs++ds)=(fp cs&&fp ds)
 | [],ds=>by simp [fp]
 | c::cs,ds=>by simp only [List.cons_append,fp,qC cs ds,Bool.and_assoc]
theorem eU {enc:A→List AV} (h:∀ x,br (enc x)=true) (l:List A):br ((l.map enc).flatten)=true:=by
 induction l with
 | nil=>rfl
 | cons x l ih=>rw [List.map_cons,List.flatten_cons,oS,h x,ih]; rfl
theorem fy {enc:A→List AV} (h:∀ x,fp (enc x)=true) (l:List A):fp ((l.map enc).flatten)=true:=by
 induction l with
 | nil=>rfl
 | cons x l ih=>rw [List.map_cons,List.flatten_cons,qC,h x,ih]; rfl
theorem qv {z:Nat} {enc:A→List AV} (he:∀ x,(enc x).length=z) {l:List A} {i q:Nat} {x y:A} {a:AV} (h:aA l i=some x) (hy:(enc x).set q a=enc y) (hq:q<z) :
  ((l.map enc).flatten).set (i * z+q) a=((l.set i y).map enc).flatten:=by
 have hfit:=je he h (q:=q) (s:=1) (by omega)
 rw [← ju he h (q:=q) (s:=1) (vs:=[a]) (y:=y) (by
  rw [← hy,List.set_eq_take_append_cons_drop,if_pos (by rw [he x]; exact hq)]; rfl) (by omega)]
 rw [List.set_eq_take_append_cons_drop,if_pos (by omega)]
 rfl
theorem cx {z:Nat} {enc:A→List AV} (he:∀ x,(enc x).length=z) {l:List A} {vs:List Value} {i q:Nat} {x:A} (hv:vs.length=((l.map enc).flatten).length) (h:aA l i=some x) (hq:q<z):vs[i * z+q]? = some (vs.getD (i * z+q) undef):=by
 have hfit:=je he h (q:=q) (s:=1) (by omega)
 have h2:i * z+q<vs.length:=by rw [hv]; omega
 rw [List.getD_eq_getElem?_getD,List.getElem?_eq_getElem h2]; rfl
theorem nz {z:Nat} {enc:A→List AV} (he:∀ x,(enc x).length=z) {l:List A} {vs:List Value} (hv:vs.length=((l.map enc).flatten).length):vs.length=l.length * z:=hv.trans (bT he l)
theorem gu {z:Nat} {enc:A→List AV} (he:∀ x,(enc x).length=z) {l:List A} {vs:List Value} {i:Nat} (hv:vs.length=((l.map enc).flatten).length) (hi:i<l.length):i * z+z≤vs.length:=by
 rw [hv]; exact ng he hi
theorem vY {s:Bool}:∀ {as bs:List AV} {cs ds:List IC},tN s as cs→tN s bs ds→tN s (as++bs) (cs++ds)
 | _,_,_,_,.nil,h=>h
 | _,_,_,_,.cons h hs,k => .cons h (vY hs k)
theorem gX {s:Bool} {enc:A→List AV} {ie:A→List IC} (h:∀ x,tN s ((enc x).map rp) (ie x)) (l:List A):tN s (((l.map enc).flatten).map rp) ((l.map ie).flatten):=by
 induction l with
 | nil=>exact .nil
 | cons x l ih =>
  rw [List.map_cons,List.flatten_cons,List.map_append,List.map_cons,List.flatten_cons]
  exact vY (h x) ih
end
section
variable {P:Program} {ty:TypeId} {pos:String} {aft:Array Edge} {gd:Option (Nat×Bool)}
theorem mD {A:Type} (T:TypeId) (z:Nat) (enc:A→List AV):Af (.v (.slice none 0 0)) (.hid (bu T z (([]:List A).map enc).flatten)):=uu T z
theorem vK {A:Type} (N:List aO) (d t u:Nat) {T e t':TypeId} {z by_:Nat} {xs ys zs:List AV} {l m q:List A} (hE:iN P T e z by_)
  (hn:xs.length=l.length * z) (hm:ys.length=m.length * z) (hq:dO by_ l m=some q) (hz:xs++ys=zs) :
  aY P ⟨some d,.call ⟨.builtin .append,#[.tmp t,.tmp u],#[T,T]⟩,t',pos,aft,gd⟩ N [(t,.hid (bu e z xs)),(u,.hid (bu e z ys))] [(t,.any),(u,.any),(d,.hid (bu e z zs))] [.slot d]:=by
 subst hz
 unfold dO at hq
 split at hq
 case isFalse=>cases hq
 rename_i hlim
 obtain ⟨ti,zv,hT,hi,hz,hs,hzc,h0,rfl⟩:=hE.ex
 refine aY.core fun g V oN oT a w hd hp => ?_
 have hT':=hp.esT
 simp only [Es] at hT'
 obtain ⟨ob,o2,rfl,⟨hRt,_⟩,ou,o2',rfl,⟨hRu,_⟩,rfl⟩:=hT'
 simp only [R] at hRt hRu
 obtain ⟨us,p1,p2,rfl,hRi,hix⟩:=hRt
 obtain ⟨vs,q1,q2,rfl,hr,hiy⟩:=hRu
 rw [← aQ hix] at hn
 rw [← aQ hiy] at hm
 simp only [R] at hRi hr
 obtain ⟨a0,n0,c0,⟨h3,_⟩,hl0,hone0,_,hown,hob⟩:=hRi
 obtain ⟨A',m',c,⟨he,_⟩,hl,hone,hrd,_⟩:=hr
 have em:m'=m.length:=Nat.eq_of_mul_eq_mul_right h0 (by omega)
 subst em
 have en:n0=l.length:=Nat.eq_of_mul_eq_mul_right h0 (by omega)
 subst en
 obtain ⟨v',w',hrun,hown',hg,hblk⟩:=eH (P:=P) (ty:=t') (c:=c) hT hi hz hs hzc h0 hown hl hrd hone (by simp only [maxLen]; omega) (by simpa using hlim.1)
 have hrun':(execOp a.eval ⟨some d,.call ⟨.builtin .append,#[.tmp t,.tmp u],#[T,T]⟩,t',pos,aft,gd⟩).run P w = .ok (.value v') w':=by
  have h4:a.eval (.tmp t)=V (.slot t):=by rw [hp.val]; rfl
  have h5:a.eval (.tmp u) = .slice A' m.length c:=by rw [← he,hp.val]; rfl
  simp [execOp,resolve,invoke,builtin,h5,h4,hrun]
 refine (Yl.val hrun').mono ?_
 rintro v w2 ⟨rfl,rfl⟩
 have hlt:d<g.n:=hd d rfl
 have hchg:ei p1 w w2:=by rw [hob]; exact ei.of_grown hg
 have hndT:((p1++p2)++(q1++q2)).Nodup:=by have:=(List.nodup_append.1 hp.nodup).2.1; simpa using this
 have hpm:((p1++p2)++(q1++q2)).Perm (p1++(p2++(q1++q2))):=by rw [List.append_assoc]
 have hnd3:=hpm.nodup_iff.1 hndT
 have hlts:∀ c,c∈p1++(p2++(q1++q2))→c<w.heap.size∧¬ g.imm c:=fun c hc'=>hp.own c (by
  have:=hpm.mem_iff.2 hc'
  simp only [List.mem_append,List.not_mem_nil,or_false] at this ⊢
  exact .inr this)
 have hkeep:∀ c,c∈p2++(q1++q2)∨g.imm c→w2.heap[c]? = w.heap[c]? := by
  intro c hc'
  rcases hc' with hc' | hc'
  ·exact hchg.block c (hlts c (List.mem_append.2 (.inr hc'))).1 fun h1=>(List.nodup_append.1 hnd3).2.2 c h1 c hc' rfl
  ·exact hchg.block c (hp.imm c hc') fun h1=>(hlts c (List.mem_append.2 (.inl h1))).2 hc'
 have hvb:∀ c∈v.ownBlock.toList,(c∈p1∨w.heap.size≤c)∧c<w2.heap.size∧¬ g.imm c:=by
  intro c hc'
  have hv:v.ownBlock=some c:=by cases hv:v.ownBlock <;> simp [hv] at hc' ⊢; exact hc'.symm
  have hlt2:=(hown'.lt c hv).2
  rcases hblk with h | h
  ·have hin:c∈p1:=by rw [hob,← h,hv]; simp
   exact ⟨.inl hin,hlt2,(hlts c (List.mem_append.2 (.inl hin))).2⟩
  ·rw [hv] at h
   cases h
   exact ⟨.inr (Nat.le_refl _),hlt2,fun hi=>Nat.lt_irrefl _ (hp.imm _ hi)⟩
 have hsub:∀ c,c∈p2++q2→c∈p2++(q1++q2):=fun c hc'=>by
  simp only [List.mem_append] at hc' ⊢
  rcases hc' with h | h
  ·exact .inl h
  ·exact .inr (.inr h)
 refine ⟨g,cF V d v,v.ownBlock.toList++(p2++q2),g.le_refl,fun b hb => .inl hb,fun b hb=>Nat.lt_of_lt_of_le (hp.imm b (.inl hb)) hchg.size,?_,fun l hl=>ct hl,fun u=>dt hp.val hp.size hlt u,?_,?_,?_⟩
 ·refine hchg.mono fun c hc' => ?_
  have:=hpm.mem_iff.2 (List.mem_append.2 (.inl hc'))
  simpa using this
 ·refine ⟨[],v.ownBlock.toList++(p2++q2),rfl,⟨by simp [R],trivial⟩,[],v.ownBlock.toList++(p2++q2),rfl,⟨by simp [R],trivial⟩,v.ownBlock.toList++(p2++q2),[],by simp,⟨?_,trivial⟩,rfl⟩
  show R g _ _ (.hid (bu e z (xs++ys))) (cF V d v (.slot d)) _
  rw [cL]
  have h6:=fV (g:=cv w2 g.Imm g.Im) (V:=V0) hown' fun u hu=>by
   rcases List.mem_append.1 hu with h | h
   ·exact hone0 u h
   ·exact hone u h
  have h7:(bu e z (xs++ys)).P g.Imm g.Im v (v.ownBlock.toList++(p2++q2)) w2 :=
   ⟨us++vs,_,p2++q2,rfl,h6,dj.2 ⟨us,vs,p2,q2,rfl,rfl,
    kn (g:=g) (g':=g) (fun _ h=>h) (fun _ h=>h) (fun c hc'=>hkeep c (hc'.imp (fun h=>hsub c (by simp [h])) id)) hix,
    kn (g:=g) (g':=g) (fun _ h=>h) (fun _ h=>h) (fun c hc'=>hkeep c (hc'.imp (fun h=>hsub c (by simp [h])) id)) hiy⟩⟩
  simp only [R]
  exact h7
 ·have hn4:(p2++q2).Nodup:=by
   have h8:=(List.nodup_append.1 hnd3).2.1
   have h9:(p2++(q1++q2)).Perm (q1++(p2++q2)):=by
    rw [← List.append_assoc,← List.append_assoc]; exact List.perm_append_comm.append_right _
   exact (List.nodup_append.1 (h9.nodup_iff.1 h8)).2.1
  refine List.nodup_append.2 ⟨by cases v.ownBlock <;> simp,hn4,fun c hc' c2 hc2 e => ?_⟩
  subst e
  have hc3:=hsub c hc2
  rcases (hvb c hc').1 with h | h
  ·exact (List.nodup_append.1 hnd3).2.2 c h c hc3 rfl
  ·have:=(hlts c (List.mem_append.2 (.inr hc3))).1; omega
 ·intro c hc'
  rcases List.mem_append.1 hc' with h | h
  ·obtain ⟨h1,h2,h3⟩:=hvb c h
   refine ⟨h1.imp (fun h => ?_) id,h2,h3⟩
   have:=hpm.mem_iff.2 (List.mem_append.2 (.inl h))
   simpa using this
  ·have h5:=List.mem_append.2 (.inr (hsub c h):c∈p1∨_)
   have h1:=hlts c h5
   refine ⟨.inl ?_,Nat.lt_of_lt_of_le h1.1 hchg.size,h1.2⟩
   have:=hpm.mem_iff.2 h5
   simpa using this
theorem nQ {g:Gh} {w:World} {T:TypeId} {z:Nat} {cs:List AV} {ics:List IC} {x:Value} {o oN:List Nat} (hs:∀ b∈o,b∈oN) (h:(bu T z cs).P g.Imm g.Im x o w) (hai:tN true (cs.map rp) ics) :
  R (cv w g.Imm (fun b=>g.Im b∨b∈oN)) V0 w (.fr .shr true z ics) x []:=by
 obtain ⟨vs,o1,o2,rfl,h1,h2⟩:=h
 have h3:=qj (g:=cv w g.Imm g.Im) (g':=cv w g.Imm (fun b=>g.Im b∨b∈oN)) (V':=V0) (oN:=oN) rfl (fun b hb=>hb) (fun b hb=>hs b (by simp [hb])) h1
 exact mj h3 (uz hai (wF (fun b hb=>hs b (by simp [hb])) h2))
def tj (av:AV):Prop:=∀ (I M M':Nat→Prop) (w0 w:World) (x:Value) (o:List Nat),R (cv w0 I M) V0 w av x o→R (cv w0 I M') V0 w av x o
def qd (cs:List AV):Prop:=∀ (I M M':Nat→Prop) (w0 w:World) (xs:List Value) (o:List Nat),Rs (cv w0 I M) V0 w cs xs o→Rs (cv w0 I M') V0 w cs xs o
theorem bc {av:AV} (hc:bk av=true) (hs:fS av=true):tj av:=fun I M M' w0 w x o h=>cl (g:=cv w0 I M) (g':=cv w0 I M') (fun _ h=>h) av x o hc (.inr hs) h
theorem fY {T:TypeId} {z:Nat} {cs:List AV} (hc:br cs=true) (hs:fp cs=true):tj (.hid (bu T z cs)):=fun I M M' w0 w x o h=>by
 simp only [R] at h ⊢
 obtain ⟨vs,o1,o2,rfl,h1,h2⟩:=h
 exact ⟨vs,o1,o2,rfl,oY V0 V0 (fun _ h=>h) h1,cn (g:=cv w I M) (g':=cv w I M') (V:=V0) (V':=V0) (fun _ h=>h) _ _ _ hc (.inr hs) h2⟩
theorem cC:qd []:=fun I M M' w0 w xs o h=>h
theorem aG {av:AV} {cs:List AV} (h:tj av) (hs:qd cs):qd (av::cs):=fun I M M' w0 w xs o hr=>by
 simp only [Rs] at hr ⊢
 obtain ⟨x,xs',o1,o2,h1,h2,h3,h4⟩:=hr
 exact ⟨x,xs',o1,o2,h1,h2,h I M M' w0 w x o1 h3,hs I M M' w0 w xs' o2 h4⟩
theorem jf {cs:List AV} (h:qd cs):tj (.tup cs):=fun I M M' w0 w x o hr=>by
 simp only [R] at hr ⊢
 obtain ⟨xs,h1,h2⟩:=hr
 exact ⟨xs,h1,h I M M' w0 w xs o h2⟩
theorem nI (N:List aO) (d:Nat) (f:FuncId) {cal:Operand} {args:Array Operand} {ats:Array TypeId} (avs:List AV) (res:AV) (hcal:rd N cal = .v (.func (.func f) #[] #[])) (hrun:∀ args w,(callFunc f args).run P w = .ok (.enter f args) w)
  (hav:args.toList.map (lx N)=avs) (hf:cg P f avs res) (hcl:bk res=true) (hni:tj res) :
  aY P ⟨some d,.call ⟨.value cal,args,ats⟩,ty,pos,aft,gd⟩ N [] [(d,res)] [.slot d]:=by
 refine aY.fresh rfl (dB _ _ hcl) fun g V oN a w hp => ?_
 have hcv:=dD hp.val hp.esN hcal
 have hr:(execOp a.eval ⟨some d,.call ⟨.value cal,args,ats⟩,ty,pos,aft,gd⟩).run P w = .ok (.enter f (args.map a.eval)) w:=by
  simp [execOp,resolve,hcv,Deferred.ofValue,invoke,hrun]
 have hargs:Rs (cv w g.Imm (fun b=>g.Im b∨b∈oN)) V0 w avs (args.toList.map a.eval) []:=by
  rw [← hav]
  exact gC (g:=g) (g':=cv w g.Imm (fun b=>g.Im b∨b∈oN)) rfl (fun b hb=>hb) hp.val hp.esN _
 have hc:=hf g.Imm (fun b=>g.Im b∨b∈oN) w _ (fun b hb=>by
  rcases hb with hb | hb | hb
  ·exact hp.imm b (.inl hb)
  ·exact hp.imm b (.inr hb)
  ·exact (hp.own b (by simp [hb])).1) hargs
 have ea:(args.toList.map a.eval).toArray=args.map a.eval:=by rw [← Array.toList_map]
 rw [ea] at hc
 refine Yl.call hr (hc.mono ?_)
 rintro e w' ⟨x,rfl,hchg,Imm',o,hI,hnew,hR,hnd,hfr⟩
 refine ⟨x,rfl,hchg,{ g with Imm:=fun b=>Imm' b },o,⟨rfl,rfl,rfl,rfl,rfl,hI,fun b hb => ?_⟩,hnew,?_,hnd,hfr⟩
 ·rcases hnew b hb with h | h
  ·exact .inl h
  ·exact .inr (.inl (Nat.le_trans hp.base h.1))
 ·exact cl (g:=cv w Imm' g.Im) (g':={ g with Imm:=fun b=>Imm' b }) (fun _ h=>h) res x o hcl (.inl fun _ h=>h) (hni Imm' (fun b=>g.Im b∨b∈oN) g.Im w w' x o hR)
theorem aY.ownEq {o:Oper} {N T G:List aO} {W:List bN} {gs k:Nat} {cs:List AV} {vs:List Value} {v y:Value} (hJ:(gs,.inv (ph cs vs))∈N) (hk:vs[k]? = some v) (hc:cs[k]? = some (.v y)) (h:v=y→aY P o N T G W):aY P o N T G W:=by
 intro g F a w K Q hd hs
 refine h ?_ g F a w K Q hd hs
 obtain ⟨V,ow,hst,hes⟩:=hs
 obtain ⟨oN,oR,rfl,hN,hR⟩:=bi.1 hes
 obtain ⟨oJ,_,hj⟩:=sO hN hJ
 have hj:Rs (cv w g.Imm g.Im) V0 w cs vs oJ:=hj
 have hi:k<cs.length:=(List.getElem?_eq_some_iff.1 hc).1
 obtain ⟨oa,o1,ob,_,_,hR2,_⟩:=fZ k hj hi
 have e1:cs.getD k .any = .v y:=by simp [List.getD_eq_getElem?_getD,hc]
 have e2:vs.getD k undef=v:=by simp [List.getD_eq_getElem?_getD,hk]
 rw [e1,e2] at hR2
 simp only [R] at hR2
 exact hR2.1
end
end Go.Abs
