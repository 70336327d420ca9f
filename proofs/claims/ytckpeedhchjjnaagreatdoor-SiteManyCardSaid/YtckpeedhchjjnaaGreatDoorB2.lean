import Derived.Test.YtckpeedhchjjnaaGreatDoorAN
import Derived.Maps.Own
import Derived.Maps.Views
import Derived.WideKeyArr
import Derived.Laws.Cover3
namespace Go.Abs
open Go.WideMaps (ArrKey)
theorem Cz {k:List Int} (h:Sh.KL k=true):∀ x∈k,0≤x∧x<256:=by intro x hx;have:=aR.1 h x hx;simpa using this
def wT (q:List Int):Value := .agg (q.map (Value.int .u8)).toArray
theorem Ef {a b:List Int} (h:wT a=wT b):a=b:=by
 unfold wT at h;have h1:=Value.agg.inj h;have h2:=congrArg Array.toList h1;simp only at h2;clear h h1
 induction a generalizing b with
 | nil=>cases b with
  | nil=>rfl
  | cons y b=>simp at h2
 | cons x a ih=>cases b with
  | nil=>simp at h2
  | cons y b =>
   simp only [List.map_cons,List.cons.injEq,Value.int.injEq,true_and] at h2
   rw [h2.1,ih h2.2]
theorem xX {A B:Type} (f:A→Option B):∀ l:List A,(∀ a∈l,∃ b,f a=some b)→∃ bs,l.mapM f=some bs
 | [],_=>⟨[],rfl⟩
 | a::l,h=>by
  obtain ⟨b,hb⟩:=h a List.mem_cons_self
  obtain ⟨bs,hbs⟩:=xX f l fun x hx=>h x (List.mem_cons_of_mem _ hx)
  exact ⟨b::bs,by rw [List.mapM_cons,hb,hbs]; rfl⟩
theorem IQ {x:Int} (h:0≤x∧x<256):(Lit.int .u8 x).wf=true:=by
 have h1:IntKind.u8.min=0:=by decide
 have h2:IntKind.u8.max=255:=by decide
 simp [Lit.wf,h1,h2]; omega
theorem Ho {x:Int} (h0 : -9223372036854775808≤x) (h1:x≤9223372036854775807):(Lit.int .i64 x).wf=true:=by
 have h2:IntKind.i64.min = -9223372036854775808:=by decide
 have h3:IntKind.i64.max=9223372036854775807:=by decide
 simp [Lit.wf,h2,h3]; omega
section
variable {P:Program}
theorem Ad {k e:TypeId} {n:Nat} (A:ArrKey P k e n) (he:P.underlying e=some (.int .u8)) (hsz:∃ m,P.types.size=m+1) {q:List Int} (hl:q.length=n) (hq:∀ x∈q,0≤x∧x<256):∃ l,keyOf P k (wT q)=some l:=by
 have hkt:=A.keyType hsz;obtain ⟨m,hm⟩:=hsz;unfold keyOf;simp only [A.hu];rw [if_pos (by simp [hkt,Value.formed,A.hu,A.size,wT,hl]),hm];unfold Program.keyLits;simp only [A.hu,Value.cells,wT];rw [if_pos (by rw [A.size]; simp [hl])]
 obtain ⟨bs,hbs⟩:=xX (fun i=>P.keyLits (m+1) e (((q.map (Value.int .u8)).drop (i * P.cellsOf e)).take (P.cellsOf e))) (List.range n) (fun i hi=>by
  have hi:i<q.length:=by rw [hl]; simpa using hi
  rw [A.one,Nat.mul_one]
  have e1:((q.map (Value.int .u8)).drop i).take 1=[Value.int .u8 q[i]]:=by
   rw [List.drop_eq_getElem_cons (by simpa using hi)]
   simp
  rw [e1]
  unfold Program.keyLits
  simp only [he]
  exact ⟨[.int .u8 q[i]],by simp [IQ (hq _ (List.getElem_mem hi))]⟩)
 simp only [hbs];exact ⟨_,rfl⟩
structure Fy (P:Program) (T k e:TypeId) (n:Nat):Prop where
 ut:P.underlying T=some (.map k e)
 ue:P.underlying e=some (.int .i64)
 ze:(P.info? e).bind (·.zero)=some (.int .i64 0)
 kd:Maps.Keyed P k
 ky:∀ q:List Int,q.length=n→(∀ x∈q,0≤x∧x<256)→∃ l,keyOf P k (wT q)=some l
theorem Fg {T k e u:TypeId} {n:Nat} (h1:P.underlying T=some (.map k e)) (h2:P.underlying e=some (.int .i64)) (h3:(P.info? e).bind (·.zero)=some (.int .i64 0)) (h4:P.underlying k=some (.array n u)) (h5:P.underlying u=some (.int .u8)) (h6:P.plainKey u=true) (h7:P.cellsOf u=1) (h8:P.cellsOf k=n) (h9:Nat.ble 1 P.types.size=true):Fy P T k e n :=
 have A:ArrKey P k u n:=⟨h4,h6,h7,h8⟩
 ⟨h1,h2,h3,Maps.Keyed.of_law A.law,fun q hl hq=>Ad A h5 ⟨P.types.size-1,by have:=Nat.le_of_ble_eq_true h9; omega⟩ hl hq⟩
def yN (Pr:Program) (k e:TypeId) (m:List (List Int×Int)):EK where
 P _ _ x o w:=∃ (b:Nat) (D:DataW Unit),x = .map (some b)∧o=[b]∧w.ownsMap Pr k (plainElem Pr e) b m.length D∧Maps.IsMap D∧∀ q l,keyOf Pr k (wT q)=some l→D.atKey l (.lit (.int .i64 0)) = .lit (.int .i64 ((m.lookup q).getD 0))
 stab:=by
  rintro I M I' M' x o w w' _ _ hw ⟨b,D,rfl,rfl,⟨es,clock,hb,h1⟩,h2⟩
  exact ⟨b,D,rfl,rfl,⟨es,clock,by rw [hw b (.inl (by simp))]; exact hb,h1⟩,h2⟩
 one:=true
 cell:=by
  rintro _ I M x o w ⟨b,D,rfl,_⟩
  rfl
variable {ty:TypeId} {pos:String} {aft:Array Edge} {gd:Option (Nat×Bool)}
theorem BY (N:List aJ) (d:Nat) {T k e:TypeId}:bh P ⟨some d,.makeMap T none,ty,pos,aft,gd⟩ N [] [(d,.hid (yN P k e []))] [.slot d]:=by
 refine bh.fresh rfl rfl fun g V oN a w hp => ?_
 have hr:(execOp a.eval ⟨some d,.makeMap T none,ty,pos,aft,gd⟩).run P w = .ok (.value (.map (some w.heap.size))) (w.alloc (.map #[] 0)):=by simp [execOp];rfl
 refine (Yl.val hr).mono ?_;rintro x w' ⟨rfl,rfl⟩;refine ⟨dq.alloc _ _ _,g,[w.heap.size],g.le_refl,fun b hb => .inl hb,?_,by simp,?_⟩
 ·simp only [R];exact ⟨w.heap.size,.map [],rfl,rfl,World.ownsMap_made w P k _,Maps.isMap_empty,fun q l h=>rfl⟩
 ·intro b hb;simp at hb; subst hb;exact ⟨aq _,by simp,fun hi=>Nat.lt_irrefl _ (hp.imm _ (.inl hi))⟩
theorem Di {n:Nat} {m:List (List Int×Int)} {q:List Int} {v:Int} (h:Sh.Ag n m q=some v):(q.length=n∧∀ x∈q,0≤x∧x<256)∧v=(m.lookup q).getD 0:=by
 unfold Sh.Ag at h;split at h
 ·rename_i hc;exact ⟨⟨hc.1,Cz hc.2⟩,(ay h).symm⟩
 ·cases h
theorem xG (N:List aJ) (d:Nat) {T k e T':TypeId} {n:Nat} {m:List (List Int×Int)} (x y:Operand) {cs:List AV} (t j:Nat) (q:List Int) (v:Int) (M:Fy P T k e n)
  (hx:bm N x = .same (.cell t j)) (hl:look N t = .box T' cs) (hj:j<cs.length) (hc:cs.getD j .any = .hid (yN P k e m)) (hy:rd N y = .v (wT q)) (hv:Sh.Ag n m q=some v) :
  bh P ⟨some d,.lookup T x y false,ty,pos,aft,gd⟩ N [] [(d,.v (.int .i64 v))] [.slot d]:=by
 refine bh.v rfl fun g V oN a w hp => ?_;have hR:=bE hp.val hp.esN x;rw [hx] at hR;simp only [R] at hR;have h3:=bP hp.val hp.esN hy;obtain ⟨b',xs,os,_,_,hrs,hnm,_⟩:=qj hp.esN hl;have hlen:=aZ hrs;obtain ⟨o2,_,h4⟩:=tQ j hrs hj;rw [hc] at h4;simp only [R] at h4;obtain ⟨b,D,hxb,_,hown,hism,hat⟩:=h4
 have hge:xs[j]? = some (xs.getD j undef):=by
  have:j<xs.length:=by omega
  simp [this]
 have hxv:a.eval x = .map (some b):=by rw [hR.1,hnm j _ hge,hxb]
 obtain ⟨⟨hq1,hq2⟩,rfl⟩:=Di hv;obtain ⟨l,hkl⟩:=M.ky q hq1 hq2;obtain ⟨c,hrun,hc2,_⟩:=hown.lookup_int M.kd M.ut M.ue (jg M.ze) hkl;rw [hat q l hkl] at hc2
 have hcv:(m.lookup q).getD 0=c:=by have:=DataW.lit.inj hc2;exact (Lit.int.inj this).2
 rw [hcv];simp [execOp,hxv,h3,hrun]
theorem DD {n:Nat} {m m':List (List Int×Int)} {q:List Int} {v:Int} (h:Sh.Cp n m q v=some m'):(q.length=n∧∀ x∈q,0≤x∧x<256)∧m.length<140737488355328∧(Lit.int .i64 v).wf=true∧m'=(q,v)::m:=by
 unfold Sh.Cp at h;split at h
 ·rename_i hc;exact ⟨⟨hc.1.1,Cz hc.1.2⟩,hc.2.1,Ho hc.2.2.1 hc.2.2.2,(ay h).symm⟩
 ·cases h
theorem wv {m:List (List Int×Int)} {q r:List Int} {v:Int} (h:r≠q):((q,v)::m).lookup r=m.lookup r:=by rw [List.lookup_cons];have:(r==q)=false:=beq_eq_false_iff_ne.2 h;rw [this]
theorem zb (N:List aJ) {T k e T':TypeId} {n:Nat} {m m':List (List Int×Int)} (x y z:Operand) {cs cs':List AV} (t i:Nat) (q:List Int) (v:Int) (M:Fy P T k e n)
  (hx:bm N x = .same (.cell t i)) (hic:i<cs.length) (hc:cs.getD i .any = .hid (yN P k e m)) (hy:rd N y = .v (wT q)) (hz:rd N z = .v (.int .i64 v)) (hv:Sh.Cp n m q v=some m') (hcs:cs.set i (.hid (yN P k e m'))=cs') :
  bh P ⟨none,.mapUpdate T x y z,ty,pos,aft,gd⟩ N [(t,.box T' cs)] [(t,.box T' cs')] []:=by
 subst hcs;obtain ⟨⟨hq1,hq2⟩,hml,hwf,rfl⟩:=DD hv;refine bh.core fun g V oN oT a w hd hp => ?_;have hT':=hp.esT;simp only [Es] at hT';obtain ⟨ob0,o2,rfl,hER,rfl⟩:=hT';obtain ⟨hRb,htie⟩:=hER;have hax:=bE hp.val hp.esN x;rw [hx] at hax;simp only [R] at hax hRb;obtain ⟨bb,curb,os,hpt,rfl,hhb,hrs⟩:=hRb;dsimp only at htie;obtain ⟨oa,o1,oc,hos,hA,hRi,hC⟩:=ke i hrs hic;rw [hc] at hRi;have hlenb:=aZ hrs;have hcell:=htie bb hpt i hic;rw [cell_of_row w bb i _ T' (0,0) hhb] at hcell;have hil:i<curb.length:=by omega
 have hVc:V (.cell t i)=curb.getD i undef:=by simp only [List.getElem?_toArray,List.getElem?_eq_getElem hil,Option.some.injEq] at hcell;rw [← hcell]; simp [hil]
 simp only [R] at hRi;obtain ⟨b,D,hxb,rfl,hown,hism,hat⟩:=hRi;have hxv:a.eval x = .map (some b):=by rw [hax.1,hVc,hxb]
 have h3:=bP hp.val hp.esN hy;have h4:=bP hp.val hp.esN hz;obtain ⟨l,hkl⟩:=M.ky q hq1 hq2;obtain ⟨w1,hrun0,hown1,hgrow⟩:=hown.update M.kd M.ut (by unfold maxLen; omega) hkl (plainElem_int M.ue hwf)
 have hrun:(execOp a.eval ⟨none,.mapUpdate T x y z,ty,pos,aft,gd⟩).run P w = .ok .skip w1:=by simp [execOp,hxv,h3,h4,hrun0]
 refine (Yl.skip hrun).mono ?_;rintro y' w' ⟨rfl,rfl⟩;subst hos;have hchg:dq [b] w w':=dq.of_grown hgrow;have hnd:(bb::(oa++([b]++oc))).Nodup:=by have:=(ag.1 hp.nodup).2.1; simpa using this
 have hlts:∀ c,c∈bb::(oa++([b]++oc))→c<w.heap.size∧¬ g.imm c:=fun c hc'=>hp.own c (by simp at hc' ⊢; exact .inr hc');have hbb:bb≠b:=fun e=>by subst e; simp at hnd
 have hba:∀ c∈oa,c≠b:=fun c hc' e=>by subst e;have:=(ag.1 (bI.1 hnd).2).2.2 c hc' c (by simp);exact this rfl
 have hbc:∀ c∈oc,c≠b:=fun c hc' e=>by subst e;have:=(ag.1 (bI.1 hnd).2).2.1;simp at this; exact this.1 hc'
 have hkeep:∀ c,c<w.heap.size→c≠b→w'.heap[c]? = w.heap[c]? := fun c hc1 hc2=>hchg.block c hc1 (by simpa using hc2);have himm:∀ c,g.imm c→w'.heap[c]? = w.heap[c]? := fun c hc'=>hkeep c (hp.imm c hc') fun e=>(hlts b (by simp)).2 (e ▸ hc');refine ⟨g,V,bb::(oa++([b]++oc)),g.le_refl,fun c hc => .inl hc,fun c hc=>am (hp.imm c (.inl hc)) hchg.size,hchg.mono (by simp),fun _ _=>rfl,fun u=>by simp only [Act.put]; exact hp.val u,?_,hnd,?_⟩
 ·refine ⟨bb::(oa++([b]++oc)),[],by simp,⟨?_,?_⟩,rfl⟩
  ·show R g V _ (.box T' _) (V (.slot t)) _;simp only [R];refine ⟨bb,curb,_,hpt,rfl,by rw [hkeep bb (hlts bb (by simp)).1 hbb]; exact hhb,?_⟩;refine nI i hic hlenb ?_ ?_ ?_
   ·exact cq (W:=[]) (fun _ h=>h) (fun _ h=>h) (fun _ _=>rfl) _ _ _ (dN _) (fun c hc'=>hc'.elim (fun h=>hkeep c (hlts c (by simp [h])).1 (hba c h)) (himm c)) hA
   ·simp only [R];refine ⟨b,D.put l (.lit (.int .i64 v)),hxb,rfl,hown1,hism.put _ _,fun r lr hr => ?_⟩;by_cases hrq:r=q
    ·subst hrq;rw [hkl] at hr;obtain rfl:=ay hr;rw [Maps.atKey_put_same hism (M.kd.key hkl),List.lookup_cons_self];rfl
    ·have hne:lr≠l:=fun e=>hrq (Ef (M.kd.inj hr (e ▸ hkl)));rw [Maps.atKey_put_other hne,wv hrq];exact hat r lr hr
   ·exact cq (W:=[]) (fun _ h=>h) (fun _ h=>h) (fun _ _=>rfl) _ _ _ (dN _) (fun c hc'=>hc'.elim (fun h=>hkeep c (hlts c (by simp [h])).1 (hbc c h)) (himm c)) hC
  ·intro b' hb' j hj;dsimp only at hb' hj ⊢
   rw [World.cell?_of_block (w:=w) (by
    rw [hpt] at hb'; cases hb'
    exact hkeep bb (hlts bb (by simp)).1 hbb)]
   exact htie b' hb' j (by simpa using hj)
 ·intro c hc;exact ⟨.inl (by simpa using hc),am (hlts c hc).1 hchg.size,(hlts c hc).2⟩
theorem BA (N:List aJ) (d t:Nat) {T e:TypeId} {m:Md} {xs:List Value} (n:Nat) (hT:P.underlying T=some (.array n e)) (hx:look N t = .fl m 1 xs) (hn:n≤xs.length) (h0:0<n) (hd:fq [.slot d] (.slot t)=false) :
  bh P ⟨some d,.sliceToArrayPointer T (.tmp t),ty,pos,aft,gd⟩ N [] [(d,.eref (.slot t) 0)] [.slot d]:=by
 refine bh.value rfl (by simp only [eh]; rw [hd]; rfl) rfl fun g V oN a w hp => ?_;obtain ⟨o',_,h3,_⟩:=cE hp.esN t;dsimp only at h3;rw [hx] at h3;simp only [R] at h3;obtain ⟨A,n',c',⟨h4,_⟩,hl,_,hrd,_⟩:=h3;obtain ⟨ad,e',_⟩:=hrd (fun e=>by subst e; simp at hn; omega);subst e';have hev:a.eval (.tmp t) = .slice (some ad) n' c':=by rw [← h4,hp.val]; rfl
 refine ⟨.pointer (some ad),?_,by simp only [R]; exact ⟨ad,n',c',h4,by simp [Addr.add],trivial⟩⟩;have hn':n≤n':=by omega
 simp [execOp,hev,run_arrayAt w T e n (some ad) n' c' hT hn']
theorem BM (N:List aJ) (d:Nat) {T:TypeId} {td:TypeDesc} (x:Operand) {m:Md} {z:Nat} {xs:List Value} (l:bF) (k s:Nat) (vs:List Value) (hT:P.underlying T=some td) (ha:dn td=true) (hs:(P.info? T).map (·.size)=some s)
  (hx:bm N x = .eref l k) (hl:pf N l = .fl m z xs) (hv:(xs.drop k).take s=vs) (hlen:vs.length=s) (h0:0<s) :
  bh P ⟨some d,.load T x,ty,pos,aft,gd⟩ N [] [(d,.v (.agg vs.toArray))] [.slot d]:=by
 refine bh.v rfl fun g V oN a w hp => ?_;have hR:=bE hp.val hp.esN x;rw [hx] at hR;simp only [R] at hR;obtain ⟨ad,n,c,h1,h2,_⟩:=hR;obtain ⟨o',_,h3⟩:=lm hp.esN l;rw [hl] at h3;simp only [R] at h3;obtain ⟨A,n',c',⟨h4,_⟩,_,_,hrd,_⟩:=h3;rw [h1] at h4; cases h4;obtain ⟨ad',e,hc⟩:=hrd (fun e=>by subst e; simp at hv; subst hv; simp at hlen; omega)
 cases e
 have hload:=gj (P:=P) (w:=w) (a:=ad.add k) (xs:=vs) hT ha hs hlen (fun j v hj=>by
  rw [qK]
  refine hc (k+j) v ?_
  rw [← hv] at hj
  simp only [List.getElem?_take,List.getElem?_drop] at hj
  split at hj
  ·exact hj
  ·cases hj)
 simp [execOp,Instr.loadAt,h2,Instr.sureAddr,hload]
theorem Ez {A:Type} {n:Nat} {l q:List A} (h:Sh.FI n l=some q):n≤l.length∧l.take n=q∧q.length=n:=by
 unfold Sh.FI at h;split at h
 ·rename_i hc;obtain rfl:=ay h;exact ⟨hc,rfl,by rw [List.length_take]; omega⟩
 ·cases h
theorem yU {A:Type} {f:A→Value} {n:Nat} {l q:List A} (h:Sh.FI n l=some q):(((l.map f).drop 0).take n=q.map f)∧(q.map f).length=n∧n≤(l.map f).length:=by obtain ⟨h1,rfl,h3⟩:=Ez h;exact ⟨by rw [List.drop_zero,List.map_take],by rw [List.length_map,h3],by rw [List.length_map]; exact h1⟩
end
end Go.Abs
