import Derived.Test.YtjdmcbkkacnmdaaGreatDoorAN
namespace Go.Abs
set_option linter.unusedVariables false
def ph (cs:List AV) (vs:List Value):iZ :=
 ⟨fun I M o w=>Rs (cv w I M) V0 w cs vs o,fun I M I' M' o w w' hI hM hw h =>
  cT (g:=cv w I M) (g':=cv w' I' M') (W:=[]) hI hM (fun _ _=>rfl) cs vs o (eC cs) (fun b hb=>hw b hb) h⟩
def bu (T:TypeId) (z:Nat) (cs:List AV):DB where
 P I M x o w:=∃ (vs:List Value) (o1 o2:List Nat),o=o1++o2∧R (cv w I M) V0 w (.fl (.own T) z vs) x o1∧Rs (cv w I M) V0 w cs vs o2
 stab I M I' M' x o w w' hI hM hw h:=by
  obtain ⟨vs,o1,o2,rfl,h1,h2⟩:=h
  exact ⟨vs,o1,o2,rfl,
   gH (g:=cv w I M) (g':=cv w' I' M') (W:=[]) hI hM (fun _ _=>rfl) _ x o1 rfl (fun b hb=>hw b (hb.imp (fun h=>by simp [h]) id)) h1,
   cT (g:=cv w I M) (g':=cv w' I' M') (W:=[]) hI hM (fun _ _=>rfl) cs vs o2 (eC cs) (fun b hb=>hw b (hb.imp (fun h=>by simp [h]) id)) h2⟩
 one:=true
 cell _ I M x o w h:=by
  obtain ⟨vs,o1,o2,rfl,h1,h2⟩:=h
  simp only [R] at h1
  obtain ⟨a,n,c,⟨rfl,_⟩,_⟩:=h1
  rfl
theorem oY {g g':Gh} (V V':bN→Value) {w:World} {T:TypeId} {z:Nat} {vs:List Value} {x:Value} {o:List Nat} (hI:∀ b,g.Imm b→g'.Imm b) (h:R g V w (.fl (.own T) z vs) x o):R g' V' w (.fl (.own T) z vs) x o :=
 cl hI _ _ _ rfl (.inr rfl) h
theorem uu (T:TypeId) (z:Nat):Af (.v (.slice none 0 0)) (.hid (bu T z [])):=fun g V w x o h=>by
 have h':=dA T z g V w x o h
 simp only [R] at h ⊢
 exact ⟨[],o,[],by simp,oY V V0 (fun _ h=>h) h',by simp [Rs]⟩
section
variable {g:Gh} {a:Act} {w:World}
end
section
variable {P:Program} {Q:Exit→Act→World→Prop} {g0:Gh} {rnd:Option Nat}
end
section
variable {P:Program} {ty:TypeId} {pos:String} {aft:Array Edge} {gd:Option (Nat×Bool)}
theorem mA (N:List aO) (d:Nat) {t' u e T:TypeId} {x:Operand} {z:Nat} {cs:List AV} (n:Nat) (hT:P.underlying u=some (.slice e)) (hx:rd N x = .hid (bu T z cs)) (hn:cs.length=n * z) (h0:0<z) :
  aY P ⟨some d,.call ⟨.builtin .len,#[x],#[u]⟩,t',pos,aft,gd⟩ N [] [(d,.v (.int .i64 (n:Int)))] [.slot d]:=by
 refine aY.v rfl fun g V oN a w hp => ?_
 obtain ⟨o',_,hr⟩:=kI hp.val hp.esN x
 rw [hx] at hr
 simp only [R] at hr
 obtain ⟨vs,o1,o2,_,h1,h2⟩:=hr
 simp only [R] at h1
 obtain ⟨A,m,c,⟨hv,_⟩,hl,_⟩:=h1
 have hm:m=n:=Nat.eq_of_mul_eq_mul_right h0 (by rw [← hl,aQ h2,hn])
 subst hm
 simp [execOp,resolve,invoke,builtin,Builtin.len_,hv,run_underlying hT,goInt]
theorem sO {g:Gh} {V:bN→Value} {w:World} {N:List aO} {oN:List Nat} {gs:Nat} {J:iZ} (h:Es g V w N oN) (hm:(gs,AV.inv J)∈N):∃ o',(∀ b∈o',b∈oN)∧J.P g.Imm g.Im o' w:=by
 obtain ⟨o',hs,hr,_⟩:=qy h hm
 simp only [R] at hr
 exact ⟨o',hs,hr⟩
theorem vo (N:List aO) (d gs k:Nat) (f:FuncId) {cal x:Operand} {ys:List Operand} {args:Array Operand} {ats:Array TypeId} {cs cs':List AV} {vs:List Value} {v:Value} {E:TypeId} {z:Nat} {l l':List Value} (avs:List AV) (res:AV) (hcal:rd N cal = .v (.func (.func f) #[] #[])) (hrun:∀ args w,(callFunc f args).run P w = .ok (.enter f args) w)
  (hargs:(x::ys).toArray=args) (hx:rd N x = .v v) (hk:vs[k]? = some v) (hc:cs[k]? = some (.fl (.own E) z l)) (hc':cs.set k (.fl (.own E) z l')=cs') (hav:ys.map (lx N)=avs) (hf:Ax P f (.fl (.own E) z l::avs) [.fl (.own E) z l'] res) (hcl:bk res=true) (hsh:fS res=true) (hnb:dY res=true) :
  aY P ⟨some d,.call ⟨.value cal,args,ats⟩,ty,pos,aft,gd⟩ N [(gs,.inv (ph cs vs))] [(gs,.inv (ph cs' vs)),(d,res)] [.slot d]:=by
 subst hargs hc'
 refine aY.core fun g V oN oT a w hd hp => ?_
 have hcv:=dD hp.val hp.esN hcal
 have hxv:=dD hp.val hp.esN hx
 have hr:(execOp a.eval ⟨some d,.call ⟨.value cal,(x::ys).toArray,ats⟩,ty,pos,aft,gd⟩).run P w = .ok (.enter f ((x::ys).toArray.map a.eval)) w:=by
  simp [execOp,resolve,hcv,Deferred.ofValue,invoke,hrun]
 have hT:=hp.esT
 simp only [Es] at hT
 obtain ⟨oJ,o2',rfl,⟨hJ,_⟩,rfl⟩:=hT
 simp only [R] at hJ
 have hJ:Rs (cv w g.Imm g.Im) V0 w cs vs oJ:=hJ
 have hi:k<cs.length:=(List.getElem?_eq_some_iff.1 hc).1
 have hlen:=aQ hJ
 obtain ⟨oa,o1,ob,rfl,hA,hR,hB⟩:=fZ k hJ hi
 have e1:cs.getD k .any = .fl (.own E) z l:=by simp [List.getD_eq_getElem?_getD,hc]
 have e2:vs.getD k undef=v:=by simp [List.getD_eq_getElem?_getD,hk]
 rw [e1,e2] at hR
 have hnd0:(oN++(oa++(o1++ob))).Nodup:=by have:=hp.nodup; simpa using this
 have hndT:(oa++(o1++ob)).Nodup:=(List.nodup_append.1 hnd0).2.1
 have hoT:∀ b∈oa++(o1++ob),b<w.heap.size∧¬ (g.Imm b∨g.Im b∨b∈oN):=by
  intro b hb
  have h1:=hp.own b (by simp only [List.mem_append] at hb ⊢; simp only [List.not_mem_nil,or_false]; exact .inr hb)
  refine ⟨h1.1,?_⟩
  rintro (h | h | h)
  ·exact h1.2 (.inl h)
  ·exact h1.2 (.inr h)
  ·exact (List.nodup_append.1 hnd0).2.2 b h b hb rfl
 have ho1:∀ b∈o1,b∈oa++(o1++ob):=fun b hb=>by simp [hb]
 have hargs:Rs (cv w g.Imm (fun b=>g.Im b∨b∈oN)) V0 w (.fl (.own E) z l::avs) ((x::ys).map a.eval) o1:=by
  simp only [List.map_cons,Rs]
  refine ⟨_,_,o1,[],rfl,by simp,?_,?_⟩
  ·rw [hxv]; exact oY V0 V0 (fun _ h=>h) hR
  ·rw [← hav]
   exact gC (g:=g) (g':=cv w g.Imm (fun b=>g.Im b∨b∈oN)) rfl (fun b hb=>hb) hp.val hp.esN _
 have hcl2:=hf g.Imm (fun b=>g.Im b∨b∈oN) w _ o1 (fun b hb=>by
  rcases hb with hb | hb | hb
  ·exact hp.imm b (.inl hb)
  ·exact hp.imm b (.inr hb)
  ·exact (hp.own b (by simp [hb])).1) hargs (by have:=(List.nodup_append.1 hndT).2.1; exact (List.nodup_append.1 this).1) (fun b hb=>hoT b (ho1 b hb))
 have ea:((x::ys).map a.eval).toArray=(x::ys).toArray.map a.eval:=by simp
 rw [ea] at hcl2
 have hlt:d<g.n:=hd d rfl
 refine Yl.call hr (hcl2.mono ?_)
 rintro e' w' ⟨y,rfl,hchg,Imm',o,hI,hnew,hRr,hndo,hfr⟩
 simp only [List.map_cons,List.length_cons,List.length_nil,Nat.zero_add,List.take_succ_cons,List.take_zero,Rs] at hRr
 obtain ⟨y',ys',p1,p2,hyv,rfl,hR1,x',xs',q1,q2,hxe,rfl,hR2,rfl,rfl⟩:=hRr
 obtain ⟨rfl,rfl⟩:=List.cons.inj hyv
 obtain ⟨rfl,_⟩:=List.cons.inj hxe
 rw [hxv] at hR2
 have hkeep:∀ b,b∈oa∨b∈ob∨g.Imm b∨g.Im b→w'.heap[b]? = w.heap[b]? := by
  intro b hb
  have hb1:b ∉ o1:=by
   intro h1
   rcases hb with hb | hb | hb
   ·exact (List.nodup_append.1 hndT).2.2 b hb b (by simp [h1]) rfl
   ·exact (List.nodup_append.1 (List.nodup_append.1 hndT).2.1).2.2 b h1 b hb rfl
   ·exact (hoT b (ho1 b h1)).2 (hb.imp id .inl)
  refine hchg.block b ?_ hb1
  rcases hb with hb | hb | hb
  ·exact (hoT b (by simp [hb])).1
  ·exact (hoT b (by simp [hb])).1
  ·exact hp.imm b hb
 have hq:∀ b∈p1++(q1++[]),(b∈o1∨w.heap.size≤b)∧b<w'.heap.size∧¬ (Imm' b∨g.Im b):=by
  intro b hb
  obtain ⟨h1,h2,h3⟩:=hfr b hb
  refine ⟨h1,h2,?_⟩
  rintro (h | h)
  ·exact h3 h
  ·rcases h1 with h1 | h1
   ·exact (hoT b (ho1 b h1)).2 (.inr (.inl h))
   ·exact absurd (hp.imm b (.inr h)) (by omega)
 have hold:∀ b∈oa++ob,b<w'.heap.size∧¬ (Imm' b∨g.Im b):=by
  intro b hb
  have hb':b∈oa++(o1++ob):=by simp only [List.mem_append] at hb ⊢; exact hb.imp id .inr
  have h0:=hoT b hb'
  refine ⟨Nat.lt_of_lt_of_le h0.1 hchg.size,?_⟩
  rintro (h | h)
  ·rcases hnew b h with h | h | h
   ·exact h0.2 (.inl h)
   ·rcases List.mem_append.1 hb with h1 | h1
    ·exact (List.nodup_append.1 hndT).2.2 b h1 b (by simp [h]) rfl
    ·exact (List.nodup_append.1 (List.nodup_append.1 hndT).2.1).2.2 b h b h1 rfl
   ·omega
  ·exact h0.2 (.inr (.inl h))
 refine ⟨y,rfl,{ g with Imm:=fun b=>Imm' b },cF V d y,(oa++(q1++ob))++p1,⟨rfl,rfl,rfl,rfl,rfl,hI,fun b hb => ?_⟩,fun b hb => ?_,fun b hb => ?_,?_,fun l hl=>ct hl,fun u=>dt hp.val hp.size hlt u,?_,?_,fun b hb => ?_⟩
 ·rcases hnew b hb with h | h | h
  ·exact .inl h
  ·exact .inr (hp.own2 b (by simp [h]))
  ·exact .inr (.inl (Nat.le_trans hp.base h.1))
 ·rcases hnew b hb with h | h | h
  ·exact .inl h
  ·exact .inr (.inl (by simp [h]))
  ·exact .inr (.inr h.1)
 ·rcases hnew b hb with h | h | h
  ·exact Nat.lt_of_lt_of_le (hp.imm b (.inl h)) hchg.size
  ·exact Nat.lt_of_lt_of_le (hoT b (ho1 b h)).1 hchg.size
  ·exact h.2
 ·exact hchg.mono fun b hb=>by simp [hb]
 ·refine ⟨oa++(q1++ob),p1,rfl,⟨?_,trivial⟩,p1,[],by simp,⟨?_,?_⟩,rfl⟩
  ·show R _ _ _ (.inv (ph (cs.set k (.fl (.own E) z l')) vs)) _ _
   simp only [R]
   have hst:∀ {c:List AV} {u:List Value} {o:List Nat},(∀ b∈o,b∈oa∨b∈ob)→Rs (cv w g.Imm g.Im) V0 w c u o→Rs (cv w' Imm' g.Im) V0 w' c u o:=fun ho h =>
    cT (g:=cv w g.Imm g.Im) (g':=cv w' Imm' g.Im) (W:=[]) hI (fun _ h=>h) (fun _ _=>rfl) _ _ _ (eC _) (fun b hb=>hkeep b (by
     rcases hb with hb | hb
     ·exact (ho b hb).imp id .inl
     ·exact .inr (.inr hb))) h
   exact kB (g:=cv w' Imm' g.Im) (V:=V0) k hi hlen (hst (fun b hb => .inl hb) hA) (by rw [e2]; exact oY (g:=cv w Imm' (fun b=>g.Im b∨b∈oN)) V0 V0 (fun _ h=>h) hR2) (hst (fun b hb => .inr hb) hB)
  ·show R _ _ _ res (cF V d y (.slot d)) p1
   rw [cL]
   exact cl (g:=cv w Imm' (fun b=>g.Im b∨b∈oN)) (g':={ g with Imm:=fun b=>Imm' b }) (fun _ h=>h) res y p1 hcl (.inr hsh) hR1
  ·cases res <;> first | trivial | (simp [dY] at hnb)
 ·have hn1:(q1++p1).Nodup:=by
   have:(p1++q1).Nodup:=by simpa using hndo
   exact List.perm_append_comm.nodup_iff.1 this
  have hn2:(oa++ob).Nodup:=by
   have:(o1++(oa++ob)).Nodup:=by
    have hperm:(oa++(o1++ob)).Perm (o1++(oa++ob)):=by
     rw [← List.append_assoc,← List.append_assoc]; exact List.perm_append_comm.append_right _
    exact hperm.nodup_iff.1 hndT
   exact (List.nodup_append.1 this).2.1
  have hdis:∀ b∈oa++ob,b ∉ q1++p1:=by
   intro b hb hq1
   have h1:=(hq b (by simp only [List.mem_append] at hq1 ⊢; simpa [or_comm] using hq1)).1
   have hb':b∈oa++(o1++ob):=by simp only [List.mem_append] at hb ⊢; exact hb.imp id .inr
   rcases h1 with h1 | h1
   ·rcases List.mem_append.1 hb with h2 | h2
    ·exact (List.nodup_append.1 hndT).2.2 b h2 b (by simp [h1]) rfl
    ·exact (List.nodup_append.1 (List.nodup_append.1 hndT).2.1).2.2 b h1 b h2 rfl
   ·have:=(hoT b hb').1; omega
  have hperm:((oa++(q1++ob))++p1).Perm ((oa++ob)++(q1++p1)):=by
   have e:(q1++ob).Perm (ob++q1):=List.perm_append_comm
   simpa [List.append_assoc] using ((e.append_left oa).append_right p1)
  exact hperm.nodup_iff.2 (List.nodup_append.2 ⟨hn2,hn1,fun b hb c hc e=>hdis b hb (e ▸ hc)⟩)
 ·have:b∈oa++ob∨b∈p1++(q1++[]):=by
   simp only [List.mem_append,List.not_mem_nil,or_false] at hb ⊢
   rcases hb with (h | h | h) | h
   ·exact .inl (.inl h)
   ·exact .inr (.inr h)
   ·exact .inl (.inr h)
   ·exact .inr (.inl h)
  rcases this with h | h
  ·have h2:=hold b h
   refine ⟨.inl (by simp only [List.mem_append] at h ⊢; simp only [List.not_mem_nil,or_false]; exact h.imp id .inr),h2⟩
  ·obtain ⟨h1,h2,h3⟩:=hq b h
   exact ⟨h1.imp (fun h=>by simp [h]) id,h2,h3⟩
theorem kn {g g':Gh} {w w':World} {cs:List AV} {vs:List Value} {o:List Nat} (hI:∀ b,g.Imm b→g'.Imm b) (hM:∀ b,g.Im b→g'.Im b) (hw:∀ b,b∈o∨g.imm b→w'.heap[b]? = w.heap[b]?)
  (h:Rs (cv w g.Imm g.Im) V0 w cs vs o):Rs (cv w' g'.Imm g'.Im) V0 w' cs vs o :=
 cT (g:=cv w g.Imm g.Im) (g':=cv w' g'.Imm g'.Im) (W:=[]) hI hM (fun _ _=>rfl) _ _ _ (eC _) hw h
theorem mg (N:List aO) (d t:Nat) {T e:TypeId} (z:Nat) (zv:Value) (av:AV) (cs:List AV) (hT:P.underlying T=some (.slice e)) (hz:(P.info? e).map (·.size)=some z)
  (hzv:(P.info? e).bind (·.zero)=some zv) (hok:dK [] av=true) (hcs:cX av=cs) (hl:cs.length=z) (h0:0<z) (hsm:z≤16777216) (hcl:br cs=true) :
  aY P ⟨some d,.buildSlice T 1 #[(0,.tmp t)],ty,pos,aft,gd⟩ N [(t,av)] [(d,.hid (bu e z cs))] [.slot d]:=by
 subst hcs
 refine aY.core fun g V oN oT a w hd hp => ?_
 have hT':=hp.esT
 simp only [Es] at hT'
 obtain ⟨ot,o2',rfl,⟨hR0,_⟩,rfl⟩:=hT'
 have he:a.eval (.tmp t)=V (.slot t):=by rw [hp.val]; rfl
 have hR:R g V w av (a.eval (.tmp t)) ot:=by rw [he]; exact hR0
 obtain ⟨h1,hone⟩:=iz (NT:=[]) (oNT:=[]) (g:=g) (V:=V) (w:=w) rfl hok hR
 have hcl':(a.eval (.tmp t)).cells.toList.length=z:=by rw [aQ h1,hl]
 have hcs:(a.eval (.tmp t)).cells.size=z:=by simpa using hcl'
 have hfill:Instr.fill (fun i=>some (i * z,z)) ((Array.range (1 * z)).map (zv.cells[· % zv.cells.size]!)) [(0,a.eval (.tmp t))]=some (a.eval (.tmp t)).cells:=by
  have hno:¬ ((a.eval (.tmp t)).cells.size≠z∨0 * z+(a.eval (.tmp t)).cells.size > ((Array.range (1 * z)).map (zv.cells[· % zv.cells.size]!)).size):=by
   rw [Array.size_map,Array.size_range,hcs]; omega
  unfold Instr.fill
  simp only []
  rw [if_neg (by rw [Bool.or_eq_true,decide_eq_true_iff,decide_eq_true_iff]; exact hno)]
  unfold Instr.fill
  congr 1
  have:=iw (a.eval (.tmp t)).cells.toList (0 * z) ((Array.range (1 * z)).map (zv.cells[· % zv.cells.size]!)) 0 (by simp [hcs])
  apply Array.toList_inj.1
  rw [← Array.foldl_toList,Array.toList_zipIdx]
  refine Eq.trans ?_ (this.trans ?_)
  ·rfl
  ·simp only [Nat.zero_mul,Nat.zero_add,List.take_zero,List.nil_append]
   rw [List.drop_eq_nil_of_le (by simp [hcs]),List.append_nil]
 have hr:(execOp a.eval ⟨some d,.buildSlice T 1 #[(0,.tmp t)],ty,pos,aft,gd⟩).run P w = .ok (.value (.slice (some ⟨w.heap.size,0,none⟩) 1 1)) (w.alloc (.cells (a.eval (.tmp t)).cells e)):=by
  have hbig:¬ 1 * z > 2 ^ 24:=by omega
  have hnz:¬ 1 * z=0:=by omega
  simp only [execOp,Instr.buildSlice,Sem.run_bind,run_underlying hT,Result.andThen_ok,bE hz,hbig,if_false,hnz,jg hzv]
  have e1:((#[(0,.tmp t)]:Array (Nat×Operand)).map fun (i,x)=>(i,a.eval x)).toList=[(0,a.eval (.tmp t))]:=by simp
  simp only [Sem.run_pure,Result.andThen_ok]
  rw [e1,hfill]
  simp [newRow,newObj]
  rfl
 have hown:=World.ownsRow_lit (base:=0) (e:=e) (size:=z) w (a.eval (.tmp t)).cells 1 (Nat.zero_le _) (by simp only [maxLen]; omega) (by omega)
 refine (Yl.val hr).mono ?_
 rintro v w2 ⟨rfl,rfl⟩
 have hlt:d<g.n:=hd d rfl
 have hot:∀ b∈ot,b<w.heap.size∧¬ g.imm b:=fun b hb=>hp.own b (by simp [hb])
 have hnd:ot.Nodup:=by have:=(List.nodup_append.1 hp.nodup).2.1; simpa using this
 refine ⟨g,cF V d _,w.heap.size::ot,g.le_refl,fun b hb => .inl hb,fun b hb=>Nat.lt_of_lt_of_le (hp.imm b (.inl hb)) (ei.alloc [] w _).size,ei.alloc _ _ _,fun l hl=>ct hl,fun u=>dt hp.val hp.size hlt u,?_,?_,?_⟩
 ·refine ⟨w.heap.size::ot,[],by simp,⟨?_,trivial⟩,rfl⟩
  show R g _ _ (.hid (bu e z (cX av))) (cF V d _ (.slot d)) _
  rw [cL]
  have h3:=fV (g:=cv (w.alloc (.cells (a.eval (.tmp t)).cells e)) g.Imm g.Im) (V:=V0) hown hone
  have h2:Rs (cv w g.Imm g.Im) V0 w (cX av) (a.eval (.tmp t)).cells.toList ot:=cn (g:=g) (g':=cv w g.Imm g.Im) (V:=V) (V':=V0) (fun _ h=>h) _ _ _ hcl (.inl fun _ h=>h) h1
  have h4:(bu e z (cX av)).P g.Imm g.Im (.slice (some ⟨w.heap.size,0,none⟩) 1 1) (w.heap.size::ot) (w.alloc (.cells (a.eval (.tmp t)).cells e)) :=
   ⟨_,[w.heap.size],ot,rfl,h3,kn (g:=g) (g':=g) (fun _ h=>h) (fun _ h=>h) (fun b hb=>(ei.alloc [] w _).block b (hb.elim (fun h=>(hot b h).1) (fun h=>hp.imm b h)) (by simp)) h2⟩
  simp only [R]
  exact h4
 ·exact List.nodup_cons.2 ⟨fun h=>Nat.lt_irrefl _ (hot _ h).1,hnd⟩
 ·intro b hb
  rcases List.mem_cons.1 hb with rfl | hb
  ·exact ⟨.inr (Nat.le_refl _),by simp,fun hi=>Nat.lt_irrefl _ (hp.imm _ hi)⟩
  ·exact ⟨.inl (by simp [hb]),Nat.lt_of_lt_of_le (hot b hb).1 (ei.alloc [] w _).size,(hot b hb).2⟩
theorem pf {A:Type} (N:List aO) (d t u i:Nat) {T e t' T':TypeId} (x:Operand) {z by_:Nat} {cs:List AV} {xs ys zs:List AV} {l m q:List A} (hE:iN P T e z by_) (hx:bw N x = .same (.cell t i)) (hc:cs.getD i .any = .hid (bu e z xs)) (hic:i<cs.length)
  (hn:xs.length=l.length * z) (hm:ys.length=m.length * z) (hq:dO by_ l m=some q) (hz:xs++ys=zs) (hdt:d≠t) {cs':List AV} (hcs:cs.set i .any=cs') (hcl:dP [.slot d] cs'=true) :
  aY P ⟨some d,.call ⟨.builtin .append,#[x,.tmp u],#[T,T]⟩,t',pos,aft,gd⟩ N [(t,.box T' cs),(u,.hid (bu e z ys))] [(t,.box T' cs'),(u,.any),(d,.hid (bu e z zs))] [.slot d]:=by
 subst hz hcs
 unfold dO at hq
 split at hq
 case isFalse=>cases hq
 rename_i hlim
 obtain ⟨ti,zv,hT,hi,hz,hs,hzc,h0,rfl⟩:=hE.ex
 refine aY.core fun g V oN oT a w hd hp => ?_
 have hT':=hp.esT
 simp only [Es] at hT'
 obtain ⟨ob,o2,rfl,hER,ou,o2',rfl,⟨hRu,_⟩,rfl⟩:=hT'
 obtain ⟨hR,htie⟩:=hER
 have hax:=ce hp.val hp.esN x
 rw [hx] at hax
 simp only [R] at hax hR hRu
 obtain ⟨b,cur,os,hpt,rfl,hh,hrs⟩:=hR
 dsimp only at htie
 obtain ⟨o1,o3,hperm,hRi,hrest⟩:=gz i hrs hic
 rw [hc] at hRi
 have hlen:=aQ hrs
 have hcell:=htie b hpt i hic
 rw [cell_of_row w b i _ T' (0,0) hh] at hcell
 have hil:i<cur.length:=by omega
 have hVc:V (.cell t i)=cur.getD i undef:=by
  simp only [List.getElem?_toArray,List.getElem?_eq_getElem hil,Option.some.injEq] at hcell
  rw [← hcell]; simp [hil]
 obtain ⟨u0,hu0⟩:∃ u,u=cur.getD i undef:=⟨_,rfl⟩
 rw [← hu0] at hVc hRi
 simp only [R] at hRi
 obtain ⟨us,p1,p2,rfl,hRi,hix⟩:=hRi
 obtain ⟨vs,q1,q2,rfl,hr,hiy⟩:=hRu
 rw [← aQ hix] at hn
 rw [← aQ hiy] at hm
 simp only [R] at hRi hr
 obtain ⟨a0,n0,c0,⟨h3,_⟩,hl0,hone0,_,hown,hob⟩:=hRi
 obtain ⟨A,m',c,⟨he,_⟩,hl,hone,hrd,_⟩:=hr
 have em:m'=m.length:=Nat.eq_of_mul_eq_mul_right h0 (by omega)
 subst em
 have en:n0=l.length:=Nat.eq_of_mul_eq_mul_right h0 (by omega)
 subst en
 obtain ⟨v',w',hrun,hown',hg,hblk⟩:=eH (P:=P) (ty:=t') (c:=c) hT hi hz hs hzc h0 hown hl hrd hone (by simp only [maxLen]; omega) (by simpa using hlim.1)
 have hrun':(execOp a.eval ⟨some d,.call ⟨.builtin .append,#[x,.tmp u],#[T,T]⟩,t',pos,aft,gd⟩).run P w = .ok (.value v') w':=by
  have h4:a.eval x=u0:=by rw [hax.1,hVc]
  have h5:a.eval (.tmp u) = .slice A m.length c:=by rw [← he,hp.val]; rfl
  simp [execOp,resolve,invoke,builtin,h5,h4,hrun]
 refine (Yl.val hrun').mono ?_
 rintro v w2 ⟨rfl,rfl⟩
 have hlt:d<g.n:=hd d rfl
 have hchg:ei p1 w w2:=by rw [hob]; exact ei.of_grown hg
 -- the blocks,all apart
 have hndT:((b::os)++(q1++q2)).Nodup:=by have:=(List.nodup_append.1 hp.nodup).2.1; simpa using this
 have hpm:((b::os)++(q1++q2)).Perm (p1++((b::o3)++(p2++(q1++q2)))):=by
  have e1:(b::os).Perm (p1++((b::o3)++p2)):=by
   refine (hperm.cons b).trans ?_
   have e2:((p1++p2)++o3).Perm (p1++(o3++p2)):=by rw [List.append_assoc]; exact List.perm_append_comm.append_left p1
   exact (e2.cons b).trans List.perm_middle.symm
  refine (e1.append_right _).trans ?_
  simp [List.append_assoc]
 have hnd3:=hpm.nodup_iff.1 hndT
 have hlts:∀ c,c∈p1++((b::o3)++(p2++(q1++q2)))→c<w.heap.size∧¬ g.imm c:=fun c hc'=>hp.own c (by
  have:=hpm.mem_iff.2 hc'
  simp only [List.mem_append,List.not_mem_nil,or_false] at this ⊢
  exact .inr this)
 have hkeep:∀ c,c∈(b::o3)++(p2++(q1++q2))∨g.imm c→w2.heap[c]? = w.heap[c]? := by
  intro c hc'
  rcases hc' with hc' | hc'
  ·exact hchg.block c (hlts c (List.mem_append.2 (.inr hc'))).1 fun h1=>(List.nodup_append.1 hnd3).2.2 c h1 c hc' rfl
  ·exact hchg.block c (hp.imm c hc') fun h1=>(hlts c (List.mem_append.2 (.inl h1))).2 hc'
 have hdtl:∀ l,gK [.slot d] l=false→cF V d v l=V l:=fun l hl=>ct hl
 have hvb:∀ c∈v.ownBlock.toList,(c∈p1∨w.heap.size≤c)∧c<w2.heap.size∧¬ g.imm c:=by
  intro c hc'
  have hv:v.ownBlock=some c:=by cases hv:v.ownBlock <;> simp [hv] at hc' ⊢; exact hc'.symm
  have hlt2:=(hown'.lt c hv).2
  rcases hblk with h | h
  ·have hin:c∈p1:=by rw [hob,← h,hv]; simp
   exact ⟨.inl hin,hlt2,(hlts c (List.mem_append.2 (.inl hin))).2⟩
  ·rw [hv] at h
   cases h
   exact ⟨.inr (Nat.le_refl _),hlt2,fun hi=>Nat.lt_irrefl _ (hp.imm _ hi)⟩
 have hsub:∀ c,c∈p2++q2→c∈(b::o3)++(p2++(q1++q2)):=fun c hc'=>by
  simp only [List.mem_append] at hc' ⊢
  rcases hc' with h | h
  ·exact .inr (.inl h)
  ·exact .inr (.inr (.inr h))
 refine ⟨g,cF V d v,(b::o3)++(v.ownBlock.toList++(p2++q2)),g.le_refl,fun b hb => .inl hb,fun b hb=>Nat.lt_of_lt_of_le (hp.imm b (.inl hb)) hchg.size,?_,hdtl,fun u=>dt hp.val hp.size hlt u,?_,?_,?_⟩
 ·refine hchg.mono fun c hc' => ?_
  have:=hpm.mem_iff.2 (List.mem_append.2 (.inl hc'))
  simpa using this
 ·have hVt:cF V d v (.slot t)=V (.slot t):=by simp only [cF]; rw [if_neg fun e=>hdt e.symm]
  have hVtc:∀ j,cF V d v (.cell t j)=V (.cell t j):=fun j=>rfl
  refine ⟨b::o3,v.ownBlock.toList++(p2++q2),rfl,⟨?_,?_⟩,[],v.ownBlock.toList++(p2++q2),rfl,⟨by simp [R],trivial⟩,v.ownBlock.toList++(p2++q2),[],by simp,⟨?_,trivial⟩,rfl⟩
  ·show R g _ _ (.box T' _) (cF V d v (.slot t)) _
   rw [hVt]
   simp only [R]
   refine ⟨b,cur,o3,hpt,rfl,by rw [hkeep b (.inl (by simp))]; exact hh,?_⟩
   exact cT (W:=[.slot d]) (fun _ h=>h) (fun _ h=>h) hdtl _ _ _ hcl (fun c hc'=>hkeep c (hc'.imp (fun h=>by simp [h]) id)) hrest
  ·intro b' hb' j hj
   rw [hVt] at hb'
   rw [hVtc]
   rw [World.cell?_of_block (w:=w) (by
    rw [hpt] at hb'; cases hb'
    exact hkeep b (.inl (by simp)))]
   exact htie b' hb' j (by simpa using hj)
  ·show R g _ _ (.hid (bu e z (xs++ys))) (cF V d v (.slot d)) _
   rw [cL]
   have h6:=fV (g:=cv w2 g.Imm g.Im) (V:=V0) hown' fun u hu=>by
    rcases List.mem_append.1 hu with h | h
    ·exact hone0 u h
    ·exact hone u h
   have h7:(bu e z (xs++ys)).P g.Imm g.Im v (v.ownBlock.toList++(p2++q2)) w2 :=
    ⟨us++vs,_,p2++q2,rfl,h6,dj.2 ⟨us,vs,p2,q2,rfl,rfl,
     kn (g:=g) (g':=g) (fun _ h=>h) (fun _ h=>h) (fun c hc'=>hkeep c (hc'.imp (fun h=>hsub c (by simp [h])) id)) hix,
     kn (g:=g) (g':=g) (fun _ h=>h) (fun _ h=>h) (fun c hc'=>hkeep c (hc'.imp (fun h=>hsub c (by simp [h])) id)) hiy⟩⟩
   simp only [R]
   exact h7
 ·have hn4:((b::o3)++(p2++q2)).Nodup:=by
   have h8:=(List.nodup_append.1 hnd3).2.1
   have h9:((b::o3)++(p2++(q1++q2))).Perm (q1++((b::o3)++(p2++q2))):=by
    have e:(p2++(q1++q2)).Perm (q1++(p2++q2)):=by
     rw [← List.append_assoc,← List.append_assoc]; exact List.perm_append_comm.append_right _
    refine (e.append_left _).trans ?_
    have e3:=(List.perm_append_comm (l₁:=b::o3) (l₂:=q1)).append_right (p2++q2)
    simpa only [List.append_assoc] using e3
   exact (List.nodup_append.1 (h9.nodup_iff.1 h8)).2.1
  have hpm2:((b::o3)++(v.ownBlock.toList++(p2++q2))).Perm (v.ownBlock.toList++((b::o3)++(p2++q2))):=by
   have e3:=(List.perm_append_comm (l₁:=b::o3) (l₂:=v.ownBlock.toList)).append_right (p2++q2)
   simpa only [List.append_assoc] using e3
  refine hpm2.nodup_iff.2 (List.nodup_append.2 ⟨by cases v.ownBlock <;> simp,hn4,fun c hc' c2 hc2 e => ?_⟩)
  subst e
  have hc3:c∈(b::o3)++(p2++(q1++q2)):=by
   simp only [List.mem_append] at hc2 ⊢
   rcases hc2 with h | h | h
   ·exact .inl h
   ·exact .inr (.inl h)
   ·exact .inr (.inr (.inr h))
  rcases (hvb c hc').1 with h | h
  ·exact (List.nodup_append.1 hnd3).2.2 c h c hc3 rfl
  ·have:=(hlts c (List.mem_append.2 (.inr hc3))).1; omega
 ·intro c hc'
  rcases List.mem_append.1 hc' with h | h
  ·have h1:=hlts c (List.mem_append.2 (.inr (List.mem_append.2 (.inl h))))
   refine ⟨.inl ?_,Nat.lt_of_lt_of_le h1.1 hchg.size,h1.2⟩
   have:=hpm.mem_iff.2 (List.mem_append.2 (.inr (List.mem_append.2 (.inl h))))
   simpa using this
  ·rcases List.mem_append.1 h with h | h
   ·obtain ⟨h1,h2,h3⟩:=hvb c h
    refine ⟨h1.imp (fun h => ?_) id,h2,h3⟩
    have:=hpm.mem_iff.2 (List.mem_append.2 (.inl h))
    simpa using this
   ·have h5:=List.mem_append.2 (.inr (hsub c h):c∈p1∨_)
    have h1:=hlts c h5
    refine ⟨.inl ?_,Nat.lt_of_lt_of_le h1.1 hchg.size,h1.2⟩
    have:=hpm.mem_iff.2 h5
    simpa using this
theorem zG (N:List aO) (d:Nat) (f:FuncId) {cal:Operand} {args:Array Operand} {ats:Array TypeId} {T:TypeId} {z:Nat} {cs:List AV} (avs:List AV) (hcal:rd N cal = .v (.func (.func f) #[] #[])) (hrun:∀ args w,(callFunc f args).run P w = .ok (.enter f args) w)
  (hav:args.toList.map (lx N)=avs) (hf:cg P f avs (.hid (bu T z cs))) (hcl:br cs=true) (hsh:fp cs=true) :
  aY P ⟨some d,.call ⟨.value cal,args,ats⟩,ty,pos,aft,gd⟩ N [] [(d,.hid (bu T z cs))] [.slot d]:=by
 refine aY.fresh rfl rfl fun g V oN a w hp => ?_
 have hcv:=dD hp.val hp.esN hcal
 have hr:(execOp a.eval ⟨some d,.call ⟨.value cal,args,ats⟩,ty,pos,aft,gd⟩).run P w = .ok (.enter f (args.map a.eval)) w:=by
  simp [execOp,resolve,hcv,Deferred.ofValue,invoke,hrun]
 have hargs:Rs (cv w g.Imm (fun b=>g.Im b∨b∈oN)) V0 w avs (args.toList.map a.eval) []:=by
  rw [← hav]
  exact gC (g:=g) (g':=cv w g.Imm (fun b=>g.Im b∨b∈oN)) rfl (fun b hb=>hb) hp.val hp.esN _
 have hc:=hf g.Imm (fun b=>g.Im b∨b∈oN) w _ (fun b hb=>by
  rcases hb with hb | hb | hb
  ·exact hp.imm b (.inl hb)
  ·exact hp.imm b (.inr hb)
  ·exact (hp.own b (by simp [hb])).1) hargs
 have ea:(args.toList.map a.eval).toArray=args.map a.eval:=by rw [← Array.toList_map]
 rw [ea] at hc
 refine Yl.call hr (hc.mono ?_)
 rintro e w' ⟨x,rfl,hchg,Imm',o,hI,hnew,hR,hnd,hfr⟩
 refine ⟨x,rfl,hchg,{ g with Imm:=fun b=>Imm' b },o,⟨rfl,rfl,rfl,rfl,rfl,hI,fun b hb => ?_⟩,hnew,?_,hnd,hfr⟩
 ·rcases hnew b hb with h | h
  ·exact .inl h
  ·exact .inr (.inl (Nat.le_trans hp.base h.1))
 ·simp only [R] at hR ⊢
  obtain ⟨vs,o1,o2,rfl,h1,h2⟩:=hR
  exact ⟨vs,o1,o2,rfl,oY V0 V0 (fun _ h=>h) h1,cn (g:=cv w' Imm' (fun b=>g.Im b∨b∈oN)) (g':=cv w' Imm' g.Im) (V:=V0) (V':=V0) (fun _ h=>h) _ _ _ hcl (.inr hsh) h2⟩
end
section
variable {A:Type} {E:TypeId} {f:A→Value}
end
end Go.Abs
