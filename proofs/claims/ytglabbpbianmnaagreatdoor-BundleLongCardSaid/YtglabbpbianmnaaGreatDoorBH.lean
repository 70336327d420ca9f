/-
 A row of own rows in a cell of a variable,its header laid open; a row is taken out of an element,another one is put into it.
-/
import Derived.Test.YtglabbpbianmnaaGreatDoorBF
namespace Go.Abs
set_option linter.unusedVariables false
def rowO (E:TypeId) (z:Nat) (cs:List AV) (b n c:Nat):InvT where
 P I M o w:=(ownJ E z cs).P I M (.slice (some ⟨b,0,none⟩) n c) o w
 stab I M I' M' o w w' hI hM hw h:=(ownJ E z cs).stab I M I' M' _ o w w' hI hM hw h
theorem own_head {I M:Nat→Prop} {w:World} {E:TypeId} {z:Nat} {cs:List AV} {x:Value} {o:List Nat} (h0:0<cs.length) (h:(ownJ E z cs).P I M x o w):∃ b n c,x = .slice (some ⟨b,0,none⟩) n c∧cs.length=n * z:=by
 obtain ⟨vs,o1,o2,rfl,h1,h2⟩:=h
 have hlen:=Rs_length h2
 simp only [R] at h1
 obtain ⟨a,n,c,⟨rfl,_⟩,hl,_,_,hown,_⟩:=h1
 obtain ⟨b,c',cur,h4,_⟩:=own_parts hown (fun e=>by subst e; simp at hlen; omega)
 exact ⟨b,n,c',h4,by rw [← hlen,hl]⟩
theorem Sat.openQ {g:Gh} {a:Act} {w:World} {es:List Ent} {t i z:Nat} {T E:TypeId} {cs xs:List AV} (gs:Nat) (hi:i<cs.length) (hg:cs.getD i .any = .hid (ownJ E z xs)) (h0:0<xs.length) (h:Sat g ((t,.box T cs)::es) a w) :
  ∃ b n c,xs.length=n * z∧Sat g ((t,.box T (cs.set i (.v (.slice (some ⟨b,0,none⟩) n c))))::(gs,.inv (rowO E z xs b n c))::es) a w:=by
 obtain ⟨V,ow,hst,o1,oR,rfl,⟨hR,htie⟩,hF⟩:=h
 simp only [R] at hR
 obtain ⟨bb,ys,os,hp,rfl,hh,hrs⟩:=hR
 obtain ⟨oa,om,oc,rfl,hA,hRi,hC⟩:=Rs_parts i hrs hi
 rw [hg] at hRi
 simp only [R] at hRi
 obtain ⟨b,n,c,hx,hn⟩:=own_head h0 hRi
 rw [hx] at hRi
 refine ⟨b,n,c,hn,V,_,hst.perm (openP bb oa om oc oR),bb::(oa++([]++oc)),om++oR,rfl,⟨?_,?_⟩,om,oR,rfl,⟨?_,trivial⟩,hF⟩
 ·simp only [R]
  exact ⟨bb,ys,_,hp,rfl,hh,Rs_join i hi (Rs_length hrs) hA (by simp only [R]; exact ⟨hx,trivial⟩) hC⟩
 ·dsimp only at htie ⊢
  intro b' hb' j hj
  exact htie b' hb' j (by simpa using hj)
 ·simp only [R]
  exact hRi
theorem Sat.closeQ {g:Gh} {a:Act} {w:World} {es:List Ent} {t gs i z b n c:Nat} {T E:TypeId} {cs xs:List AV} (hi:i<cs.length) (hg:cs.getD i .any = .v (.slice (some ⟨b,0,none⟩) n c)) (h:Sat g ((t,.box T cs)::(gs,.inv (rowO E z xs b n c))::es) a w) :
  Sat g ((t,.box T (cs.set i (.hid (ownJ E z xs))))::es) a w:=by
 obtain ⟨V,ow,hst,o1,o2,rfl,⟨hR,htie⟩,om,oR,rfl,⟨hJ,_⟩,hF⟩:=h
 simp only [R] at hR hJ
 obtain ⟨bb,ys,os,hp,rfl,hh,hrs⟩:=hR
 obtain ⟨oa,oi,oc,rfl,hA,hRi,hC⟩:=Rs_parts i hrs hi
 rw [hg] at hRi
 simp only [R] at hRi
 obtain ⟨hx,rfl⟩:=hRi
 refine ⟨V,_,hst.perm (openP bb oa om oc oR).symm,bb::(oa++(om++oc)),oR,rfl,⟨?_,?_⟩,hF⟩
 ·simp only [R]
  refine ⟨bb,ys,_,hp,rfl,hh,Rs_join i hi (Rs_length hrs) hA ?_ hC⟩
  rw [hx]
  simp only [R]
  exact hJ
 ·dsimp only at htie ⊢
  intro b' hb' j hj
  exact htie b' hb' j (by simpa using hj)
theorem ix_pos {n:Int} {len v:Nat} (h:ixO n len=some v):0<len:=Nat.lt_of_le_of_lt (Nat.zero_le _) (ix_ok h).2
theorem avs_lt {l:List AV} {n z i m:Nat} (hl:l.length=n * z) (hm:l.length=m * z) (hz:0<z) (hi:i<m):i<n:=by
 have:=Nat.eq_of_mul_eq_mul_right hz (hl.symm.trans hm)
 omega
theorem avs_pos {l:List AV} {z m:Nat} (hm:l.length=m * z) (hz:0<z) (hi:0<m):0<l.length:=by rw [hm]; exact Nat.mul_pos hi hz
theorem oe_lenH {A:Type} {z k:Nat} {enc:A→List AV} {a:AV} (he:∀ x,(enc x).length=z) (l:List A):(((l.map enc).flatten).set k a).length=l.length * z:=by rw [List.length_set]; exact gflat_len he l
theorem oe_setH {A:Type} {z:Nat} {enc:A→List AV} (he:∀ x,(enc x).length=z) {l:List A} {i q:Nat} {x y:A} {a b:AV} (h:getO l i=some x) (hy:(enc x).set q a=enc y) (hq:q<z):(((l.map enc).flatten).set (i * z+q) b).set (i * z+q) a=((l.set i y).map enc).flatten:=by
 rw [List.set_set]; exact oe_set he h hy hq
theorem SubE.refl:∀ es:List Ent,SubE es es
 | [] => .nil
 | e::es => .same e (SubE.refl es)
theorem SubE.app:∀ (es:List Ent) {fs fs':List Ent},SubE fs fs'→SubE (es++fs) (es++fs')
 | [],_,_,h=>h
 | e::es,_,_,h => .same e (SubE.app es h)
theorem LOp.subT {P:Program} {o:Oper} {N G:List Ent} {W:List Loc} {t:Nat} {av av':AV} (hs:Sub av av') (hb:noBox av'=true) (h:LOp P o N [(t,av')] G W):LOp P o N [(t,av)] G W:=fun g F a w K Q hd hsat hc hk=>h g F a w K Q hd (by
 obtain ⟨V,o,h1,h2⟩:=hsat
 exact ⟨V,o,h1,SubE_Es (SubE.app N (.sub t hs hb (SubE.refl F))) h2⟩) hc hk
section
variable {P:Program} {Q:Exit→Act→World→Prop} {g0:Gh} {rnd:Option Nat}
theorem ht_openQ {cd:Code} {es:List Ent} {t z:Nat} {T E:TypeId} {cs xs:List AV} (gs i:Nat) (cs':Nat→Nat→Nat→List AV) (hi:i<cs.length) (hg:cs.getD i .any = .hid (ownJ E z xs)) (hc':∀ b n c,cs.set i (.v (.slice (some ⟨b,0,none⟩) n c))=cs' b n c) (h0:0<xs.length)
  (h:∀ b n c,xs.length=n * z→HT rnd P Q g0 cd ((t,.box T (cs' b n c))::(gs,.inv (rowO E z xs b n c))::es)):HT rnd P Q g0 cd ((t,.box T cs)::es):=by
 intro g a w hl hs
 obtain ⟨b,n,c,hn,hs'⟩:=hs.openQ gs hi hg h0
 rw [hc'] at hs'
 exact h b n c hn g a w hl hs'
theorem pt_closeQ {e:Exit} {es:List Ent} {t gs z b n c:Nat} {T E:TypeId} {cs xs:List AV} (i:Nat) (cs':List AV) (hi:i<cs.length) (hg:cs.getD i .any = .v (.slice (some ⟨b,0,none⟩) n c)) (hc':cs.set i (.hid (ownJ E z xs))=cs')
  (h:PT Q g0 e ((t,.box T cs')::es)):PT Q g0 e ((t,.box T cs)::(gs,.inv (rowO E z xs b n c))::es):=by
 subst hc'
 exact fun g a w hl hs=>h g a w hl (hs.closeQ hi hg)
variable {ty:TypeId} {pos:String} {aft:Array Edge} {gd:Option (Nat×Bool)}
theorem op_load_tk (N:List Ent) (d:Nat) {T E e2:TypeId} {td:TypeDesc} (x:Operand) {z z2:Nat} {cs cs':List AV} {l:List Value} (gs b n c k:Nat) (hT:P.underlying T=some td) (ha:isAggD td=false)
  (hx:rd N x = .v (.pointer (some ⟨b,k,none⟩))) (hk:cs[k]? = some (.fl (.own e2) z2 l)) (hc':cs.set k .any=cs') :
  LOp P ⟨some d,.load T x,ty,pos,aft,gd⟩ N [(gs,.inv (rowO E z cs b n c))] [(gs,.inv (rowO E z cs' b n c)),(d,.fl (.own e2) z2 l)] [.slot d]:=by
 subst hc'
 refine LOp.core fun g V oN oT a w hd hp => ?_
 have hT':=hp.esT
 simp only [Es] at hT'
 obtain ⟨oJ,o2',rfl,⟨hJ,_⟩,rfl⟩:=hT'
 have h2:=rd_v hp.val hp.esN hx
 simp only [R] at hJ
 have hJ:(ownJ E z cs).P g.Imm g.Im (.slice (some ⟨b,0,none⟩) n c) oJ w:=hJ
 obtain ⟨vs,o1,o2,rfl,h1,h3⟩:=hJ
 have hi:k<cs.length:=(List.getElem?_eq_some_iff.1 hk).1
 have hlen:=Rs_length h3
 obtain ⟨oa,om,ob,rfl,hA,hRi,hB⟩:=Rs_parts k h3 hi
 have e1:cs.getD k .any = .fl (.own e2) z2 l:=by simp [List.getD_eq_getElem?_getD,hk]
 rw [e1] at hRi
 have hvk:vs[k]? = some (vs.getD k undef):=by simp [show k<vs.length by omega]
 have hrun:(execOp a.eval ⟨some d,.load T x,ty,pos,aft,gd⟩).run P w = .ok (.value (vs.getD k undef)) w:=by
  have h1':=h1
  simp only [R] at h1'
  obtain ⟨A,m,cc,⟨hs,_⟩,_,_,hrd,_⟩:=h1'
  cases hs
  obtain ⟨ad,e,hc⟩:=hrd (fun e=>by subst e; simp at hlen; omega)
  cases e
  have hcell:=hc k _ hvk
  rw [add_flat] at hcell
  have hcell:w.cell? ⟨b,k,none⟩=some (vs.getD k undef):=by simpa using hcell
  simp [execOp,Instr.loadAt,h2,Instr.sureAddr,run_load1 hT ha hcell]
 refine (Yl.val hrun).mono ?_
 rintro y w' ⟨rfl,rfl⟩
 have hlt:d<g.n:=hd d rfl
 have hperm:(o1++(oa++(om++ob))++[]).Perm ((o1++(oa++([]++ob)))++(om++[])):=by
  simp only [List.append_nil,List.nil_append,List.append_assoc]
  refine .append_left _ (.append_left _ ?_)
  exact List.perm_append_comm
 have hnT:=(List.nodup_append.1 hp.nodup).2.1
 refine ⟨g,setV V d (vs.getD k undef),(o1++(oa++([]++ob)))++(om++[]),g.le_refl,fun b hb => .inl hb,fun b hb=>hp.imm b (.inl hb),Chg.refl _ _,fun l hl=>setV_hit hl,fun u=>setV_val hp.val hp.size hlt u,?_,hperm.nodup_iff.1 hnT,fun c' hc' => ?_⟩
 ·refine ⟨o1++(oa++([]++ob)),om++[],rfl,⟨?_,trivial⟩,om,[],rfl,⟨?_,trivial⟩,rfl⟩
  ·simp only [R]
   exact ⟨vs,o1,oa++([]++ob),rfl,h1,Rs_join k hi hlen hA (by simp [R]) hB⟩
  ·show R g _ _ (.fl (.own e2) z2 l) (setV V d (vs.getD k undef) (.slot d)) om
   rw [setV_slot]
   exact fl_gh (g:=gh0 _ g.Imm g.Im) V0 _ (fun _ h=>h) hRi
 ·have hm:=hperm.mem_iff.2 hc'
  have:=hp.own c' (List.mem_append.2 (.inr hm))
  exact ⟨.inl hm,this⟩
theorem op_store_pt (N:List Ent) {T E e2:TypeId} (ax:Operand) {z z2:Nat} {cs cs':List AV} {l:List Value} (gs u b n c k:Nat) (hs:(P.info? T).map (·.size)=some 1)
  (hx:rd N ax = .v (.pointer (some ⟨b,k,none⟩))) (hk:k<cs.length) (hc':cs.set k (.fl (.own e2) z2 l)=cs') :
  LOp P ⟨none,.store T ax (.tmp u),ty,pos,aft,gd⟩ N [(gs,.inv (rowO E z cs b n c)),(u,.fl (.own e2) z2 l)] [(gs,.inv (rowO E z cs' b n c)),(u,.any)] []:=by
 subst hc'
 refine LOp.core fun g V oN oT a w hd hp => ?_
 have hT':=hp.esT
 simp only [Es] at hT'
 obtain ⟨oJ,o2',rfl,⟨hJ,_⟩,ou,o3',rfl,⟨hU,_⟩,rfl⟩:=hT'
 have h2:=rd_v hp.val hp.esN hx
 simp only [R] at hJ
 have hJ:(ownJ E z cs).P g.Imm g.Im (.slice (some ⟨b,0,none⟩) n c) oJ w:=hJ
 obtain ⟨vs,o1,o2,rfl,h1,h3⟩:=hJ
 have hlen:=Rs_length h3
 obtain ⟨oa,om,ob,rfl,hA,_,hB⟩:=Rs_parts k h3 hk
 have hU1:(V (.slot u)).oneCell'=true:=by
  have:=hU
  simp only [R] at this
  obtain ⟨A,m,cc,⟨hx,_⟩,_⟩:=this
  rw [hx]; rfl
 have hue:a.eval (.tmp u)=V (.slot u):=by rw [hp.val]; rfl
 have h1':=h1
 simp only [R] at h1'
 obtain ⟨a0,n',cc,⟨hs0,_⟩,hl,hone,_,hown,ho1⟩:=h1'
 have hne:vs≠[]:=fun e=>by subst e; simp at hlen; omega
 obtain ⟨b',c',cur,h4,hb,hnc,hcm,hsz,htk,_⟩:=own_parts hown hne
 cases h4
 cases hs0
 have hcells:(V (.slot u)).cells.toList=[V (.slot u)]:=by
  have h5:=hU
  simp only [R] at h5
  obtain ⟨A,m,cc,⟨hx,_⟩,_⟩:=h5
  rw [hx]; rfl
 have hrun:(execOp a.eval ⟨none,.store T ax (.tmp u),ty,pos,aft,gd⟩).run P w = .ok .skip (w.setRow b (cur.toList.take k++[V (.slot u)]++cur.toList.drop (k+1)).toArray):=by
  have hcl:=(by simpa using hsz:cur.toList.length=_)
  have:=Nat.mul_le_mul_right z hnc
  have:=run_storeRow (P:=P) (w:=w) (T:=T) (off:=k) hs (cur:=cur.toList) (E:=E) (by simpa using hb) (v:=a.eval (.tmp u)) (by rw [hue]; have:=congrArg List.length hcells; simpa using this) (by rw [hue,hcells]; intro y hy; rw [List.mem_singleton.1 hy]; exact hU1) (by omega)
  rw [hue,hcells] at this
  simp [execOp,Instr.storeAt,h2,Instr.sureAddr,this,hue]
 refine (Yl.skip hrun).mono ?_
 rintro y w' ⟨rfl,rfl⟩
 have hnew:=own_write (w:=w) (vs:=[V (.slot u)]) k hb hnc hcm hsz htk hl (by simp; omega)
 simp only [List.length_cons,List.length_nil,Nat.zero_add] at hnew
 have hone':∀ v∈vs.take k++([V (.slot u)]++vs.drop (k+1)),v.oneCell'=true:=by
  intro v hv
  simp only [List.mem_append,List.mem_singleton] at hv
  rcases hv with hv | hv | hv
  ·exact hone v (List.mem_of_mem_take hv)
  ·rw [hv]; exact hU1
  ·exact hone v (List.mem_of_mem_drop hv)
 have hchg:Chg [b] w (w.setRow b (cur.toList.take k++[V (.slot u)]++cur.toList.drop (k+1)).toArray):=setRow_chg _ _ _
 have ho1':o1=[b]:=by rw [ho1]; rfl
 subst ho1'
 have hnd:([b]++(oa++(om++ob))++(ou++[])).Nodup:=(List.nodup_append.1 hp.nodup).2.1
 have hbT:∀ c'∈[b]++(oa++(om++ob))++(ou++[]),c'<w.heap.size∧¬ g.imm c':=fun c' hc'=>hp.own c' (List.mem_append.2 (.inr hc'))
 have hbn:∀ c'∈(oa++(om++ob))++ou,c'≠b:=by
  intro c' hc' e
  subst e
  have h6:([c']++((oa++(om++ob))++ou)).Nodup:=by simpa using hnd
  exact (List.nodup_append.1 h6).2.2 c' (by simp) c' hc' rfl
 have hkeep:∀ c',c'∈(oa++(om++ob))++ou∨g.imm c'→(w.setRow b (cur.toList.take k++[V (.slot u)]++cur.toList.drop (k+1)).toArray).heap[c']? = w.heap[c']? := by
  intro c' hc'
  rcases hc' with hc' | hc'
  ·refine hchg.block c' (hbT c' ?_).1 (by simpa using hbn c' hc')
   have:c'∈[b]++((oa++(om++ob))++ou):=List.mem_append.2 (.inr hc')
   simpa using this
  ·refine hchg.block c' (hp.imm c' hc') ?_
   simp only [List.mem_singleton]
   rintro rfl
   exact (hbT c' (by simp)).2 hc'
 have hset:vs.set k (V (.slot u))=vs.take k++([V (.slot u)]++vs.drop (k+1)):=by
  rw [List.set_eq_take_append_cons_drop,if_pos (by omega)]; rfl
 have hst:∀ {cs:List AV} {xs:List Value} {o:List Nat},(∀ c'∈o,c'∈(oa++(om++ob))++ou)→Rs (gh0 w g.Imm g.Im) V0 w cs xs o→Rs (gh0 (w.setRow b (cur.toList.take k++[V (.slot u)]++cur.toList.drop (k+1)).toArray) g.Imm g.Im) V0 (w.setRow b (cur.toList.take k++[V (.slot u)]++cur.toList.drop (k+1)).toArray) cs xs o :=
  fun ho h=>ownJ_stab (g:=g) (g':=g) (fun _ h=>h) (fun _ h=>h) (fun c' hc'=>hkeep c' (hc'.imp (ho c') id)) h
 have hperm:([b]++(oa++(om++ob))++(ou++[])).Perm (([b]++(oa++(ou++ob)))++om):=by
  simp only [List.append_nil,List.append_assoc]
  refine .append_left _ (.append_left _ ?_)
  have h7:(om++(ob++ou)).Perm ((ob++ou)++om):=List.perm_append_comm
  refine h7.trans ?_
  rw [List.append_assoc,← List.append_assoc ou]
  have h8:(ob++ou).Perm (ou++ob):=List.perm_append_comm
  have h9:=List.Perm.append_right om h8
  simpa using h9
 have hsub:∀ c',c'∈([b]++(oa++(ou++ob)))++([]++[])→c'∈[b]++(oa++(om++ob))++(ou++[]):=fun c' hc'=>hperm.mem_iff.2 (List.mem_append.2 (.inl (by simpa using hc')))
 refine ⟨g,V,([b]++(oa++(ou++ob)))++([]++[]),g.le_refl,fun b hb => .inl hb,fun c' hc'=>Nat.lt_of_lt_of_le (hp.imm c' (.inl hc')) hchg.size,hchg.mono (by simp),fun _ _=>rfl,fun q=>by simp only [Act.put]; exact hp.val q,?_,?_,fun c' hc' => ?_⟩
 ·refine ⟨[b]++(oa++(ou++ob)),[]++[],rfl,⟨?_,trivial⟩,[],[],rfl,⟨by simp [R],trivial⟩,rfl⟩
  simp only [R]
  refine ⟨vs.set k (V (.slot u)),[b],oa++(ou++ob),rfl,?_,?_⟩
  ·rw [hset]
   exact own_fl (g:=gh0 _ g.Imm g.Im) (V:=V0) hnew hone'
  ·have hgd:(vs.set k (V (.slot u))).getD k undef=V (.slot u):=by
    rw [List.getD_eq_getElem?_getD,List.getElem?_set_self (by omega)]; rfl
   have htk2:(vs.set k (V (.slot u))).take k=vs.take k:=by rw [List.take_set_of_le (Nat.le_refl _)]
   have hdr2:(vs.set k (V (.slot u))).drop (k+1)=vs.drop (k+1):=by rw [List.drop_set_of_lt (by omega)]
   refine Rs_join (xs:=vs.set k (V (.slot u))) k hk (by simpa using hlen) (by rw [htk2]; exact hst (fun c' h=>by simp [h]) hA) ?_ (by rw [hdr2]; exact hst (fun c' h=>by simp [h]) hB)
   rw [hgd]
   have h10:=fl_gh (g:=g) (g':=gh0 w g.Imm g.Im) V V0 (fun _ h=>h) hU
   exact R_stab (g:=gh0 w g.Imm g.Im) (g':=gh0 _ g.Imm g.Im) (W:=[]) (fun _ h=>h) (fun _ h=>h) (fun _ _=>rfl) _ _ _ rfl (fun c' hc'=>hkeep c' (hc'.imp (fun h=>by simp [h]) id)) h10
 ·have:=hperm.nodup_iff.1 hnd
  simpa using (List.nodup_append.1 this).1
 ·have hm:=hsub c' hc'
  have:=hbT c' hm
  exact ⟨.inl hm,Nat.lt_of_lt_of_le this.1 hchg.size,this.2⟩
inductive LCs (N:List Ent):List AV→List AV→Prop
 | nil:LCs N [] []
 | p {c av:AV} {cs avs:List AV}:toArg N c=av→LCs N cs avs→LCs N (c::cs) (av::avs)
 | o {t i z:Nat} {T E:TypeId} {bs xs cs avs:List AV} {ics:List IC}:look N t = .box T bs→bs[i]? = some (.hid (ownJ E z xs))→AIs true (xs.map shrA) ics→LCs N cs avs→LCs N (.same (.cell t i)::cs) (.fr .shr true z ics::avs)
 | q {z:Nat} {E:TypeId} {xs cs avs:List AV} {ics:List IC}:AIs true (xs.map shrA) ics→LCs N cs avs→LCs N (.hid (ownJ E z xs)::cs) (.fr .shr true z ics::avs)
theorem LCs_R {g:Gh} {V:Loc→Value} {w:World} {N:List Ent} {oN:List Nat} (hN:Es g V w N oN):∀ {cs avs:List AV} {xs:List Value} {o:List Nat},LCs N cs avs→(∀ b∈o,b∈oN)→Rs g V w cs xs o→Rs (gh0 w g.Imm (fun b=>g.Im b∨b∈oN)) V0 w avs xs []
 | _,_,xs,o,.nil,_,h=>by simp only [Rs] at *; exact ⟨h.1,trivial⟩
 | _,_,xs,o,.p he hl,ho,h=>by
  simp only [Rs] at *
  obtain ⟨x,xs',o1,o2,rfl,rfl,h1,h2⟩:=h
  refine ⟨x,xs',[],[],rfl,rfl,?_,LCs_R hN hl (fun b hb=>ho b (by simp [hb])) h2⟩
  rw [← he]
  exact toArg_R (g:=g) (g':=gh0 w g.Imm (fun b=>g.Im b∨b∈oN)) rfl (fun b hb=>hb) hN (fun b hb=>ho b (by simp [hb])) h1
 | _,_,xs,o,.o hlk hi hai hl,ho,h=>by
  simp only [Rs] at *
  obtain ⟨x,xs',o1,o2,rfl,rfl,h1,h2⟩:=h
  refine ⟨x,xs',[],[],rfl,rfl,?_,LCs_R hN hl (fun b hb=>ho b (by simp [hb])) h2⟩
  simp only [R] at h1
  rename_i t i z T E bs xs2 cs avs ics
  have hil:=(List.getElem?_eq_some_iff.1 hi).1
  obtain ⟨b',ys,os,h3,hh,hrs,hnm,hso⟩:=box_look hN hlk
  have hyl:=Rs_length hrs
  obtain ⟨o5,ho5,h5⟩:=Rs_get i hrs hil
  rw [show bs.getD i .any = .hid (ownJ E z xs2) by rw [List.getD_eq_getElem?_getD,hi]; rfl] at h5
  simp only [R] at h5
  have hV:V (.cell t i)=ys.getD i undef:=hnm i _ (by simp [show i<ys.length by omega])
  rw [h1.1,hV]
  exact ownJ_lend (fun b hb=>hso b (List.mem_cons_of_mem _ (ho5 b hb))) h5 hai
 | _,_,xs,o,.q hai hl,ho,h=>by
  simp only [Rs] at *
  obtain ⟨x,xs',o1,o2,rfl,rfl,h1,h2⟩:=h
  refine ⟨x,xs',[],[],rfl,rfl,?_,LCs_R hN hl (fun b hb=>ho b (by simp [hb])) h2⟩
  simp only [R] at h1
  exact ownJ_lend (fun b hb=>ho b (by simp [hb])) h1 hai
theorem lend_agg {N:List Ent} {y:Operand} {ys:List Operand} {cs avs' avs:List AV} (hx:rd N y = .agg cs) (hl:LCs N cs avs') (h:Lend N ys avs):Lend N (y::ys) (.agg avs'::avs):=fun g V oN a w hval hN=>by
 simp only [List.map_cons,Rs]
 refine ⟨_,_,[],[],rfl,rfl,?_,h g V oN a w hval hN⟩
 obtain ⟨o',ho,hr⟩:=rd_R hval hN y
 rw [hx] at hr
 simp only [R] at hr ⊢
 obtain ⟨xs,e,h2⟩:=hr
 exact ⟨xs,e,LCs_R hN hl ho h2⟩
theorem op_callLd (N:List Ent) (d:Nat) (f:FuncId) {cal:Operand} {args:Array Operand} {ats:Array TypeId} (avs:List AV) (res:AV) (hcal:rd N cal = .v (.func (.func f) #[] #[])) (hrun:∀ args w,(callFunc f args).run P w = .ok (.enter f args) w)
  (hav:Lend N args.toList avs) (hf:FnOK P f avs res) (hcl:closed res=true) (hsh:noShr res=true) :
  LOp P ⟨some d,.call ⟨.value cal,args,ats⟩,ty,pos,aft,gd⟩ N [] [(d,res)] [.slot d]:=by
 refine LOp.fresh rfl (clr_of_closed _ _ hcl) fun g V oN a w hp => ?_
 have hcv:=rd_v hp.val hp.esN hcal
 have hr:(execOp a.eval ⟨some d,.call ⟨.value cal,args,ats⟩,ty,pos,aft,gd⟩).run P w = .ok (.enter f (args.map a.eval)) w:=by
  simp [execOp,resolve,hcv,Deferred.ofValue,invoke,hrun]
 have hargs:Rs (gh0 w g.Imm (fun b=>g.Im b∨b∈oN)) V0 w avs (args.toList.map a.eval) []:=by
  exact hav g V oN a w hp.val hp.esN
 have hc:=hf g.Imm (fun b=>g.Im b∨b∈oN) w _ (fun b hb=>by
  rcases hb with hb | hb | hb
  ·exact hp.imm b (.inl hb)
  ·exact hp.imm b (.inr hb)
  ·exact (hp.own b (by simp [hb])).1) hargs
 have ea:(args.toList.map a.eval).toArray=args.map a.eval:=by rw [← Array.toList_map]
 rw [ea] at hc
 refine Yl.call hr (hc.mono ?_)
 rintro e w' ⟨x,rfl,hchg,Imm',o,hI,hnew,hR,hnd,hfr⟩
 refine ⟨x,rfl,hchg,{ g with Imm:=fun b=>Imm' b },o,⟨rfl,rfl,rfl,rfl,rfl,hI,fun b hb => ?_⟩,hnew,?_,hnd,hfr⟩
 ·rcases hnew b hb with h | h
  ·exact .inl h
  ·exact .inr (.inl (Nat.le_trans hp.base h.1))
 ·exact R_closed (g:=gh0 w Imm' (fun b=>g.Im b∨b∈oN)) (g':={ g with Imm:=fun b=>Imm' b }) (fun _ h=>h) res x o hcl (.inr hsh) hR
theorem op_callGL (N:List Ent) (d n:Nat) (f:FuncId) {gl gl':List (Nat×List Value)} {cal:Operand} {args:Array Operand} {ats:Array TypeId} (avs:List AV) (res:AV) (hcal:rd N cal = .v (.func (.func f) #[] #[])) (hrun:∀ args w,(callFunc f args).run P w = .ok (.enter f args) w)
  (hav:Lend N args.toList avs) (hgl:look N n = .glob gl') (hsub:∀ p∈gl,p∈gl') (hf:FnG P gl f avs res) (hcl:closed res=true) (hsh:noShr res=true) :
  LOp P ⟨some d,.call ⟨.value cal,args,ats⟩,ty,pos,aft,gd⟩ N [] [(d,res)] [.slot d]:=by
 refine LOp.fresh rfl (clr_of_closed _ _ hcl) fun g V oN a w hp => ?_
 have hcv:=rd_v hp.val hp.esN hcal
 have hr:(execOp a.eval ⟨some d,.call ⟨.value cal,args,ats⟩,ty,pos,aft,gd⟩).run P w = .ok (.enter f (args.map a.eval)) w:=by
  simp [execOp,resolve,hcv,Deferred.ofValue,invoke,hrun]
 have hargs:Rs (gh0 w g.Imm (fun b=>g.Im b∨b∈oN)) V0 w avs (args.toList.map a.eval) []:=by
  exact hav g V oN a w hp.val hp.esN
 obtain ⟨og,_,hRg,_⟩:=look_ER hp.esN n
 dsimp only at hRg
 rw [hgl] at hRg
 simp only [R] at hRg
 have hc:=hf g.Imm (fun b=>g.Im b∨b∈oN) w _ (fun b hb=>by
  rcases hb with hb | hb | hb
  ·exact hp.imm b (.inl hb)
  ·exact hp.imm b (.inr hb)
  ·exact (hp.own b (by simp [hb])).1) (fun p hp'=>by
  obtain ⟨h1,h2⟩:=hRg.1 p (hsub p hp')
  exact ⟨h1.imp id .inl,h2⟩) hargs
 have ea:(args.toList.map a.eval).toArray=args.map a.eval:=by rw [← Array.toList_map]
 rw [ea] at hc
 refine Yl.call hr (hc.mono ?_)
 rintro e w' ⟨x,rfl,hchg,Imm',o,hI,hnew,hR,hnd,hfr⟩
 refine ⟨x,rfl,hchg,{ g with Imm:=fun b=>Imm' b },o,⟨rfl,rfl,rfl,rfl,rfl,hI,fun b hb => ?_⟩,hnew,?_,hnd,hfr⟩
 ·rcases hnew b hb with h | h
  ·exact .inl h
  ·exact .inr (.inl (Nat.le_trans hp.base h.1))
 ·exact R_closed (g:=gh0 w Imm' (fun b=>g.Im b∨b∈oN)) (g':={ g with Imm:=fun b=>Imm' b }) (fun _ h=>h) res x o hcl (.inr hsh) hR
end
end Go.Abs
