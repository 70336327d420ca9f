import Derived.Test.YtkgfjkfccpjcgaaDoorAN
import Derived.Maps.Own
import Derived.Maps.Views
import Derived.WideKeyArr
import Derived.Laws.Cover3
namespace Go.Abs
open Go.WideMaps (ArrKey)
theorem Ar {k:List Int} (h:Sh.Jf k=true):∀ x∈k,0≤x∧x<256:=by
 intro x hx
 have:=List.all_eq_true.1 h x hx
 simpa using this
def sB (q:List Int):Value := .agg (q.map (Value.int .u8)).toArray
theorem Dw {a b:List Int} (h:sB a=sB b):a=b:=by
 unfold sB at h
 have h1:=Value.agg.inj h
 have h2:=congrArg Array.toList h1
 simp only at h2
 clear h h1
 induction a generalizing b with
 | nil=>cases b with
  | nil=>rfl
  | cons y b=>simp at h2
 | cons x a ih=>cases b with
  | nil=>simp at h2
  | cons y b =>
   simp only [List.map_cons,List.cons.injEq,Value.int.injEq,true_and] at h2
   rw [h2.1,ih h2.2]
theorem tb {A B:Type} (f:A→Option B):∀ l:List A,(∀ a∈l,∃ b,f a=some b)→∃ bs,l.mapM f=some bs
 | [],_=>⟨[],rfl⟩
 | a::l,h=>by
  obtain ⟨b,hb⟩:=h a List.mem_cons_self
  obtain ⟨bs,hbs⟩:=tb f l fun x hx=>h x (List.mem_cons_of_mem _ hx)
  exact ⟨b::bs,by rw [List.mapM_cons,hb,hbs]; rfl⟩
theorem Jy {x:Int} (h:0≤x∧x<256):(Lit.int .u8 x).wf=true:=by
 have h1:IntKind.u8.min=0:=by decide
 have h2:IntKind.u8.max=255:=by decide
 simp [Lit.wf,h1,h2]; omega
theorem Hy {x:Int} (h0 : -9223372036854775808≤x) (h1:x≤9223372036854775807):(Lit.int .i64 x).wf=true:=by
 have h2:IntKind.i64.min = -9223372036854775808:=by decide
 have h3:IntKind.i64.max=9223372036854775807:=by decide
 simp [Lit.wf,h2,h3]; omega
section
variable {P:Program}
theorem vA {k e:TypeId} {n:Nat} (A:ArrKey P k e n) (he:P.underlying e=some (.int .u8)) (hsz:∃ m,P.types.size=m+1) {q:List Int} (hl:q.length=n) (hq:∀ x∈q,0≤x∧x<256):∃ l,keyOf P k (sB q)=some l:=by
 have hkt:=A.keyType hsz
 obtain ⟨m,hm⟩:=hsz
 unfold keyOf
 simp only [A.hu]
 rw [if_pos (by simp [hkt,Value.formed,A.hu,A.size,sB,hl]),hm]
 unfold Program.keyLits
 simp only [A.hu,Value.cells,sB]
 rw [if_pos (by rw [A.size]; simp [hl])]
 obtain ⟨bs,hbs⟩:=tb (fun i=>P.keyLits (m+1) e (((q.map (Value.int .u8)).drop (i * P.cellsOf e)).take (P.cellsOf e))) (List.range n) (fun i hi=>by
  have hi:i<q.length:=by rw [hl]; simpa using hi
  rw [A.one,Nat.mul_one]
  have e1:((q.map (Value.int .u8)).drop i).take 1=[Value.int .u8 q[i]]:=by
   rw [List.drop_eq_getElem_cons (by simpa using hi)]
   simp
  rw [e1]
  unfold Program.keyLits
  simp only [he]
  exact ⟨[.int .u8 q[i]],by simp [Jy (hq _ (List.getElem_mem hi))]⟩)
 simp only [hbs]
 exact ⟨_,rfl⟩
structure FS (P:Program) (T k e:TypeId) (n:Nat):Prop where
 ut:P.underlying T=some (.map k e)
 ue:P.underlying e=some (.int .i64)
 ze:(P.info? e).bind (·.zero)=some (.int .i64 0)
 kd:Maps.Keyed P k
 ky:∀ q:List Int,q.length=n→(∀ x∈q,0≤x∧x<256)→∃ l,keyOf P k (sB q)=some l
theorem Fo {T k e u:TypeId} {n:Nat} (h1:P.underlying T=some (.map k e)) (h2:P.underlying e=some (.int .i64)) (h3:(P.info? e).bind (·.zero)=some (.int .i64 0)) (h4:P.underlying k=some (.array n u)) (h5:P.underlying u=some (.int .u8)) (h6:P.plainKey u=true) (h7:P.cellsOf u=1) (h8:P.cellsOf k=n) (h9:Nat.ble 1 P.types.size=true):FS P T k e n :=
 have A:ArrKey P k u n:=⟨h4,h6,h7,h8⟩
 ⟨h1,h2,h3,Maps.Keyed.of_law A.law,fun q hl hq=>vA A h5 ⟨P.types.size-1,by have:=Nat.le_of_ble_eq_true h9; omega⟩ hl hq⟩
def eF (Pr:Program) (k e:TypeId) (m:List (List Int×Int)):Hc where
 P _ _ x o w:=∃ (b:Nat) (D:DataW Unit),x = .map (some b)∧o=[b]∧w.ownsMap Pr k (plainElem Pr e) b m.length D∧Maps.IsMap D∧∀ q l,keyOf Pr k (sB q)=some l→D.atKey l (.lit (.int .i64 0)) = .lit (.int .i64 ((m.lookup q).getD 0))
 stab:=by
  rintro I M I' M' x o w w' _ _ hw ⟨b,D,rfl,rfl,⟨es,clock,hb,h1⟩,h2⟩
  exact ⟨b,D,rfl,rfl,⟨es,clock,by rw [hw b (.inl (by simp))]; exact hb,h1⟩,h2⟩
 one:=true
 cell:=by
  rintro _ I M x o w ⟨b,D,rfl,_⟩
  rfl
variable {ty:TypeId} {pos:String} {aft:Array Edge} {gd:Option (Nat×Bool)}
theorem xx (N:List aJ) (d:Nat) {T k e:TypeId}:bm P ⟨some d,.makeMap T none,ty,pos,aft,gd⟩ N [] [(d,.hid (eF P k e []))] [.slot d]:=by
 refine bm.fresh rfl rfl fun g V oN a w hp => ?_
 have hr:(execOp a.eval ⟨some d,.makeMap T none,ty,pos,aft,gd⟩).run P w = .ok (.value (.map (some w.heap.size))) (w.alloc (.map #[] 0)):=by
  simp [execOp]
  rfl
 refine (Yl.val hr).mono ?_
 rintro x w' ⟨rfl,rfl⟩
 refine ⟨ep.alloc _ _ _,g,[w.heap.size],g.le_refl,fun b hb => .inl hb,?_,by simp,?_⟩
 ·simp only [R]
  exact ⟨w.heap.size,.map [],rfl,rfl,World.ownsMap_made w P k _,Maps.isMap_empty,fun q l h=>rfl⟩
 ·intro b hb
  simp at hb; subst hb
  exact ⟨Nat.le_refl _,by simp,fun hi=>Nat.lt_irrefl _ (hp.imm _ (.inl hi))⟩
theorem Cb {n:Nat} {m:List (List Int×Int)} {q:List Int} {v:Int} (h:Sh.oZ n m q=some v):(q.length=n∧∀ x∈q,0≤x∧x<256)∧v=(m.lookup q).getD 0:=by
 unfold Sh.oZ at h
 split at h
 ·rename_i hc
  exact ⟨⟨hc.1,Ar hc.2⟩,(Option.some.inj h).symm⟩
 ·cases h
theorem sU (N:List aJ) (d:Nat) {T k e T':TypeId} {n:Nat} {m:List (List Int×Int)} (x y:Operand) {cs:List AV} (t j:Nat) (q:List Int) (v:Int) (M:FS P T k e n)
  (hx:bj N x = .same (.cell t j)) (hl:look N t = .box T' cs) (hj:j<cs.length) (hc:cs.getD j .any = .hid (eF P k e m)) (hy:rd N y = .v (sB q)) (hv:Sh.oZ n m q=some v) :
  bm P ⟨some d,.lookup T x y false,ty,pos,aft,gd⟩ N [] [(d,.v (.int .i64 v))] [.slot d]:=by
 refine bm.v rfl fun g V oN a w hp => ?_
 have hR:=bM hp.val hp.esN x
 rw [hx] at hR
 simp only [R] at hR
 have h3:=cX hp.val hp.esN hy
 obtain ⟨b',xs,os,_,_,hrs,hnm,_⟩:=mh hp.esN hl
 have hlen:=aU hrs
 obtain ⟨o2,_,h4⟩:=qF j hrs hj
 rw [hc] at h4
 simp only [R] at h4
 obtain ⟨b,D,hxb,_,hown,hism,hat⟩:=h4
 have hge:xs[j]? = some (xs.getD j undef):=by
  have:j<xs.length:=by omega
  simp [this]
 have hxv:a.eval x = .map (some b):=by rw [hR.1,hnm j _ hge,hxb]
 obtain ⟨⟨hq1,hq2⟩,rfl⟩:=Cb hv
 obtain ⟨l,hkl⟩:=M.ky q hq1 hq2
 obtain ⟨c,hrun,hc2,_⟩:=hown.lookup_int M.kd M.ut M.ue (iM M.ze) hkl
 rw [hat q l hkl] at hc2
 have hcv:(m.lookup q).getD 0=c:=by
  have:=DataW.lit.inj hc2
  exact (Lit.int.inj this).2
 rw [hcv]
 simp [execOp,hxv,h3,hrun]
theorem BN {n:Nat} {m m':List (List Int×Int)} {q:List Int} {v:Int} (h:Sh.th n m q v=some m'):(q.length=n∧∀ x∈q,0≤x∧x<256)∧m.length<140737488355328∧(Lit.int .i64 v).wf=true∧m'=(q,v)::m:=by
 unfold Sh.th at h
 split at h
 ·rename_i hc
  exact ⟨⟨hc.1.1,Ar hc.1.2⟩,hc.2.1,Hy hc.2.2.1 hc.2.2.2,(Option.some.inj h).symm⟩
 ·cases h
theorem rP {m:List (List Int×Int)} {q r:List Int} {v:Int} (h:r≠q):((q,v)::m).lookup r=m.lookup r:=by
 rw [List.lookup_cons]
 have:(r==q)=false:=beq_eq_false_iff_ne.2 h
 rw [this]
theorem uE (N:List aJ) {T k e T':TypeId} {n:Nat} {m m':List (List Int×Int)} (x y z:Operand) {cs cs':List AV} (t i:Nat) (q:List Int) (v:Int) (M:FS P T k e n)
  (hx:bj N x = .same (.cell t i)) (hic:i<cs.length) (hc:cs.getD i .any = .hid (eF P k e m)) (hy:rd N y = .v (sB q)) (hz:rd N z = .v (.int .i64 v)) (hv:Sh.th n m q v=some m') (hcs:cs.set i (.hid (eF P k e m'))=cs') :
  bm P ⟨none,.mapUpdate T x y z,ty,pos,aft,gd⟩ N [(t,.box T' cs)] [(t,.box T' cs')] []:=by
 subst hcs
 obtain ⟨⟨hq1,hq2⟩,hml,hwf,rfl⟩:=BN hv
 refine bm.core fun g V oN oT a w hd hp => ?_
 have hT':=hp.esT
 simp only [Es] at hT'
 obtain ⟨ob0,o2,rfl,hER,rfl⟩:=hT'
 obtain ⟨hRb,htie⟩:=hER
 have hax:=bM hp.val hp.esN x
 rw [hx] at hax
 simp only [R] at hax hRb
 obtain ⟨bb,curb,os,hpt,rfl,hhb,hrs⟩:=hRb
 dsimp only at htie
 obtain ⟨oa,o1,oc,hos,hA,hRi,hC⟩:=kA i hrs hic
 rw [hc] at hRi
 have hlenb:=aU hrs
 have hcell:=htie bb hpt i hic
 rw [cell_of_row w bb i _ T' (0,0) hhb] at hcell
 have hil:i<curb.length:=by omega
 have hVc:V (.cell t i)=curb.getD i undef:=by
  simp only [List.getElem?_toArray,List.getElem?_eq_getElem hil,Option.some.injEq] at hcell
  rw [← hcell]; simp [hil]
 simp only [R] at hRi
 obtain ⟨b,D,hxb,rfl,hown,hism,hat⟩:=hRi
 have hxv:a.eval x = .map (some b):=by rw [hax.1,hVc,hxb]
 have h3:=cX hp.val hp.esN hy
 have h4:=cX hp.val hp.esN hz
 obtain ⟨l,hkl⟩:=M.ky q hq1 hq2
 obtain ⟨w1,hrun0,hown1,hgrow⟩:=hown.update M.kd M.ut (by unfold maxLen; omega) hkl (plainElem_int M.ue hwf)
 have hrun:(execOp a.eval ⟨none,.mapUpdate T x y z,ty,pos,aft,gd⟩).run P w = .ok .skip w1:=by
  simp [execOp,hxv,h3,h4,hrun0]
 refine (Yl.skip hrun).mono ?_
 rintro y' w' ⟨rfl,rfl⟩
 subst hos
 have hchg:ep [b] w w':=ep.of_grown hgrow
 have hnd:(bb::(oa++([b]++oc))).Nodup:=by have:=(List.nodup_append.1 hp.nodup).2.1; simpa using this
 have hlts:∀ c,c∈bb::(oa++([b]++oc))→c<w.heap.size∧¬ g.imm c:=fun c hc'=>hp.own c (by simp at hc' ⊢; exact .inr hc')
 have hbb:bb≠b:=fun e=>by subst e; simp at hnd
 have hba:∀ c∈oa,c≠b:=fun c hc' e=>by
  subst e
  have:=(List.nodup_append.1 (List.nodup_cons.1 hnd).2).2.2 c hc' c (by simp)
  exact this rfl
 have hbc:∀ c∈oc,c≠b:=fun c hc' e=>by
  subst e
  have:=(List.nodup_append.1 (List.nodup_cons.1 hnd).2).2.1
  simp at this; exact this.1 hc'
 have hkeep:∀ c,c<w.heap.size→c≠b→w'.heap[c]? = w.heap[c]? := fun c hc1 hc2=>hchg.block c hc1 (by simpa using hc2)
 have himm:∀ c,g.imm c→w'.heap[c]? = w.heap[c]? := fun c hc'=>hkeep c (hp.imm c hc') fun e=>(hlts b (by simp)).2 (e ▸ hc')
 refine ⟨g,V,bb::(oa++([b]++oc)),g.le_refl,fun c hc => .inl hc,fun c hc=>Nat.lt_of_lt_of_le (hp.imm c (.inl hc)) hchg.size,hchg.mono (by simp),fun _ _=>rfl,fun u=>by simp only [Act.put]; exact hp.val u,?_,hnd,?_⟩
 ·refine ⟨bb::(oa++([b]++oc)),[],by simp,⟨?_,?_⟩,rfl⟩
  ·show R g V _ (.box T' _) (V (.slot t)) _
   simp only [R]
   refine ⟨bb,curb,_,hpt,rfl,by rw [hkeep bb (hlts bb (by simp)).1 hbb]; exact hhb,?_⟩
   refine oS i hic hlenb ?_ ?_ ?_
   ·exact cQ (W:=[]) (fun _ h=>h) (fun _ h=>h) (fun _ _=>rfl) _ _ _ (eT _) (fun c hc'=>hc'.elim (fun h=>hkeep c (hlts c (by simp [h])).1 (hba c h)) (himm c)) hA
   ·simp only [R]
    refine ⟨b,D.put l (.lit (.int .i64 v)),hxb,rfl,hown1,hism.put _ _,fun r lr hr => ?_⟩
    by_cases hrq:r=q
    ·subst hrq
     rw [hkl] at hr
     obtain rfl:=Option.some.inj hr
     rw [Maps.atKey_put_same hism (M.kd.key hkl),List.lookup_cons_self]
     rfl
    ·have hne:lr≠l:=fun e=>hrq (Dw (M.kd.inj hr (e ▸ hkl)))
     rw [Maps.atKey_put_other hne,rP hrq]
     exact hat r lr hr
   ·exact cQ (W:=[]) (fun _ h=>h) (fun _ h=>h) (fun _ _=>rfl) _ _ _ (eT _) (fun c hc'=>hc'.elim (fun h=>hkeep c (hlts c (by simp [h])).1 (hbc c h)) (himm c)) hC
  ·intro b' hb' j hj
   dsimp only at hb' hj ⊢
   rw [World.cell?_of_block (w:=w) (by
    rw [hpt] at hb'; cases hb'
    exact hkeep bb (hlts bb (by simp)).1 hbb)]
   exact htie b' hb' j (by simpa using hj)
 ·intro c hc
  exact ⟨.inl (by simpa using hc),Nat.lt_of_lt_of_le (hlts c hc).1 hchg.size,(hlts c hc).2⟩
theorem yf (N:List aJ) (d t:Nat) {T e:TypeId} {m:Md} {xs:List Value} (n:Nat) (hT:P.underlying T=some (.array n e)) (hx:look N t = .fl m 1 xs) (hn:n≤xs.length) (h0:0<n) (hd:fA [.slot d] (.slot t)=false) :
  bm P ⟨some d,.sliceToArrayPointer T (.tmp t),ty,pos,aft,gd⟩ N [] [(d,.eref (.slot t) 0)] [.slot d]:=by
 refine bm.value rfl (by simp only [eO]; rw [hd]; rfl) rfl fun g V oN a w hp => ?_
 obtain ⟨o',_,h3,_⟩:=eo hp.esN t
 dsimp only at h3
 rw [hx] at h3
 simp only [R] at h3
 obtain ⟨A,n',c',⟨h4,_⟩,hl,_,hrd,_⟩:=h3
 obtain ⟨ad,e',_⟩:=hrd (fun e=>by subst e; simp at hn; omega)
 subst e'
 have hev:a.eval (.tmp t) = .slice (some ad) n' c':=by rw [← h4,hp.val]; rfl
 refine ⟨.pointer (some ad),?_,by simp only [R]; exact ⟨ad,n',c',h4,by simp [Addr.add],trivial⟩⟩
 have hn':n≤n':=by omega
 simp [execOp,hev,run_arrayAt w T e n (some ad) n' c' hT hn']
theorem xp (N:List aJ) (d:Nat) {T:TypeId} {td:TypeDesc} (x:Operand) {m:Md} {z:Nat} {xs:List Value} (l:bH) (k s:Nat) (vs:List Value) (hT:P.underlying T=some td) (ha:cY td=true) (hs:(P.info? T).map (·.size)=some s)
  (hx:bj N x = .eref l k) (hl:nO N l = .fl m z xs) (hv:(xs.drop k).take s=vs) (hlen:vs.length=s) (h0:0<s) :
  bm P ⟨some d,.load T x,ty,pos,aft,gd⟩ N [] [(d,.v (.agg vs.toArray))] [.slot d]:=by
 refine bm.v rfl fun g V oN a w hp => ?_
 have hR:=bM hp.val hp.esN x
 rw [hx] at hR
 simp only [R] at hR
 obtain ⟨ad,n,c,h1,h2,_⟩:=hR
 obtain ⟨o',_,h3⟩:=lU hp.esN l
 rw [hl] at h3
 simp only [R] at h3
 obtain ⟨A,n',c',⟨h4,_⟩,_,_,hrd,_⟩:=h3
 rw [h1] at h4; cases h4
 obtain ⟨ad',e,hc⟩:=hrd (fun e=>by subst e; simp at hv; subst hv; simp at hlen; omega)
 cases e
 have hload:=fo (P:=P) (w:=w) (a:=ad.add k) (xs:=vs) hT ha hs hlen (fun j v hj=>by
  rw [add_add]
  refine hc (k+j) v ?_
  rw [← hv] at hj
  simp only [List.getElem?_take,List.getElem?_drop] at hj
  split at hj
  ·exact hj
  ·cases hj)
 simp [execOp,Instr.loadAt,h2,Instr.sureAddr,hload]
theorem Cs {A:Type} {n:Nat} {l q:List A} (h:Sh.Bt n l=some q):n≤l.length∧l.take n=q∧q.length=n:=by
 unfold Sh.Bt at h
 split at h
 ·rename_i hc
  obtain rfl:=Option.some.inj h
  exact ⟨hc,rfl,by rw [List.length_take]; omega⟩
 ·cases h
theorem uo {A:Type} {f:A→Value} {n:Nat} {l q:List A} (h:Sh.Bt n l=some q):(((l.map f).drop 0).take n=q.map f)∧(q.map f).length=n∧n≤(l.map f).length:=by
 obtain ⟨h1,rfl,h3⟩:=Cs h
 exact ⟨by rw [List.drop_zero,List.map_take],by rw [List.length_map,h3],by rw [List.length_map]; exact h1⟩
end
end Go.Abs
