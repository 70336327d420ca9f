import Derived.Test.YtckpeedhchjjnaaGreatDoorB5
import Derived.Test.YtckpeedhchjjnaaGreatDoorB7
import Derived.Shelf.SlSortCmp.Kit1
set_option linter.unusedVariables false
namespace Go.Abs
open Go.Sort Go.Proofs
def Bu (ws:List Int) (x y:Int):Bool:=decide (ws.getD x.toNat 0<ws.getD y.toNat 0)||(decide (ws.getD x.toNat 0=ws.getD y.toNat 0)&&decide (x≤y))
def vO (ws:List Int) (x:Int):List Int→List Int
 | []=>[x]
 | y::l=>if Bu ws x y then x::y::l else y::vO ws x l
def tL (ws:List Int):List Int→List Int
 | []=>[]
 | x::l=>vO ws x (tL ws l)
def zK (ws xs:List Int):Bool:=decide (0<xs.length)&&decide (xs.length<4294967296)&&decide (ws.length<4294967296)&&xs.all (fun x=>decide (0≤x∧x<(ws.length:Int)))&&ws.all (fun y=>decide (-1099511627776≤y∧y≤1099511627776))&&decide (xs.Pairwise (· ≤ ·))
def Sh.slices_SortStable (ws xs:List Int):Option (List Int):=if zK ws xs then some (tL ws xs) else none
theorem ve {ws:List Int} {x y:Int}:Bu ws x y=true↔ws.getD x.toNat 0<ws.getD y.toNat 0∨(ws.getD x.toNat 0=ws.getD y.toNat 0∧x≤y):=by simp [Bu]
theorem Db {ws:List Int} {x y z:Int} (h:Bu ws x y=true) (k:Bu ws y z=true):Bu ws x z=true:=by rw [ve] at *; omega
theorem DC {ws:List Int} {x y:Int} (h:Bu ws x y=false):Bu ws y x=true:=by
 have h1:¬ Bu ws x y=true:=by simp [h]
 rw [ve] at *; omega
theorem Ee {ws:List Int} {x y:Int} (h:Bu ws x y=true) (k:Bu ws y x=true):x=y:=by rw [ve] at *; omega
theorem sa (ws:List Int) (x:Int):∀ l:List Int,(vO ws x l).Perm (x::l)
 | []=>List.Perm.refl _
 | y::l=>by
  rw [vO]
  split
  ·exact List.Perm.refl _
  ·exact ((sa ws x l).cons y).trans (List.Perm.swap x y l)
theorem pN (ws:List Int):∀ l:List Int,(tL ws l).Perm l
 | []=>List.Perm.refl _
 | x::l=>(sa ws x _).trans ((pN ws l).cons x)
theorem Bf (ws:List Int) (x:Int):∀ l:List Int,l.Pairwise (fun a b=>Bu ws a b=true)→(vO ws x l).Pairwise (fun a b=>Bu ws a b=true)
 | [],_=>by simp [vO]
 | y::l,h=>by
  rw [vO]
  rw [List.pairwise_cons] at h
  split
  ·rename_i hxy
   refine List.pairwise_cons.2 ⟨fun z hz => ?_,List.pairwise_cons.2 h⟩
   rcases aW.1 hz with rfl | hz
   ·exact hxy
   ·exact Db hxy (h.1 z hz)
  ·rename_i hxy
   refine List.pairwise_cons.2 ⟨fun z hz => ?_,Bf ws x l h.2⟩
   rcases aW.1 ((sa ws x l).mem_iff.1 hz) with rfl | hz
   ·exact DC (by simpa using hxy)
   ·exact h.1 z hz
theorem xO (ws:List Int):∀ l:List Int,(tL ws l).Pairwise (fun a b=>Bu ws a b=true)
 | []=>List.Pairwise.nil
 | x::l=>Bf ws x _ (xO ws l)
theorem vo {ws:List Int}:∀ {l m:List Int},l.Perm m→l.Pairwise (fun a b=>Bu ws a b=true)→m.Pairwise (fun a b=>Bu ws a b=true)→l=m
 | [],m,p,_,_=>by rw [List.nil_perm.1 p]
 | x::l,[],p,_,_=>by cases List.perm_nil.1 p
 | x::l,y::m,p,hl,hm=>by
  rw [List.pairwise_cons] at hl hm
  have hxy:x=y:=by
   have h1:x∈y::m:=p.mem_iff.1 (by simp)
   have h2:y∈x::l:=p.mem_iff.2 (by simp)
   rcases aW.1 h1 with h | h
   ·exact h
   ·rcases aW.1 h2 with h' | h'
    ·exact h'.symm
    ·exact Ee (hl.1 y h') (hm.1 x h)
  subst hxy
  rw [vo (List.Perm.cons_inv p) hl.2 hm.2]
def BU (P:Program) (f g:FuncId) (e:TypeId):Prop:=∀ (w:World) (v:Value) (xs ws:List Int) (c:Nat) (p:Option Addr) (cp:Nat),
 w.ownsRow 0 e 1 v xs.length (xs.map (Value.int .i64))→w.cell? ⟨c,0,none⟩=some (.slice p ws.length cp)→jl w p (ws.map (Value.int .i64))→v.ownBlock≠some c→(∀ ad,p=some ad→v.ownBlock≠some ad.block)→zK ws xs=true →
 Calls P f #[v,.func (.func g) #[] #[.pointer (some ⟨c,0,none⟩)]] w fun e' w'=>e' = .returned (.tuple #[])∧w'.ownsRow 0 e 1 v xs.length ((tL ws xs).map (Value.int .i64))∧dq v.ownBlock.toList w w'
def CE (P:Program) (g:FuncId):Prop:=∀ (W:World) (c:Nat) (p:Option Addr) (cp:Nat) (ws:List Int) (x y:Nat),W.cell? ⟨c,0,none⟩=some (.slice p ws.length cp)→jl W p (ws.map (Value.int .i64))→x<ws.length→y<ws.length→ws.length<4294967296→(∀ y∈ws,-1099511627776≤y∧y≤1099511627776) →
 Calls P g #[.int .i64 (x:Int),.int .i64 (y:Int),.pointer (some ⟨c,0,none⟩)] W fun e w'=>e = .returned (.int .i64 (ws.getD x 0-ws.getD y 0))∧∃ q,w'=W.drewN q
theorem oZ (enc:Nat→Value) (w:World) (blk off m:Nat) (dk:Array Nat) (os:Array Obj) (k:Nat) (hk:k<w.heap.size) (hne:k≠blk):(sortWorld enc w blk off m dk os).heap[k]? = w.heap[k]? := by unfold sortWorld;rw [Sort.heap_grow_old _ _ (by rw [Sort.size_putRow]; exact hk)];simp only [putRow,mapBlock,Sort.ahead,Array.getElem?_modify];rw [if_neg (Ne.symm hne)]
theorem xd (enc:Nat→Value) (w:World) (blk m:Nat) (dk:Array Nat) (os:Array Obj) (cur:Array Value) (e:TypeId) (hb:w.heap[blk]? = some (.cells cur e (0,0))):(sortWorld enc w blk 0 m dk os).heap[blk]? = some (.cells (putCells enc 0 dk cur) e (0,0)):=by
 unfold sortWorld
 have hk:blk<w.heap.size:=by
  rcases Nat.lt_or_ge blk w.heap.size with h | h
  ·exact h
  ·rw [Array.getElem?_eq_none h] at hb; cases hb
 rw [Sort.heap_grow_old _ _ (by rw [Sort.size_putRow]; exact hk)];simp only [putRow,mapBlock,Sort.ahead,Array.getElem?_modify];rw [if_pos trivial,hb];rfl
theorem xt (enc:Nat→Value) (w:World) (blk m:Nat) (dk:Array Nat) (os:Array Obj):dq [blk] w (sortWorld enc w blk 0 m dk os) :=
 ⟨rfl,rfl,rfl,by unfold sortWorld; rw [Sort.size_grow,Sort.size_putRow]; exact Nat.le_add_right _ _,fun k hk hS=>oZ enc w blk 0 m dk os k hk (by simpa using hS)⟩
theorem xq (enc:Nat→Value) (dk:Array Nat) (cur:Array Value) (h:dk.size≤cur.size):(putCells enc 0 dk cur).toList.take dk.size=dk.toList.map enc:=by
 apply List.ext_getElem?;intro i;simp only [putCells,List.getElem?_take,Array.getElem?_toList,Array.getElem?_mapIdx,List.getElem?_map];by_cases hi:i<dk.size
 ·rw [if_pos hi,Array.getElem?_eq_getElem (show i<cur.size by omega),Array.getElem?_eq_getElem hi];simp [hi]
 ·rw [if_neg hi,Array.getElem?_eq_none (by omega)];rfl
theorem Ab {w w':World} {p:Option Addr} {xs:List Value} {blk:Nat} (h:jl w p xs) (hp:∀ ad,p=some ad→blk≠ad.block) (hw:∀ k,k<w.heap.size→k≠blk→w'.heap[k]? = w.heap[k]?):jl w' p xs:=by
 intro hne;obtain ⟨ad,e,hc⟩:=h hne;refine ⟨ad,e,fun j u hu => ?_⟩;have h1:=hc j u hu;have hb:(ad.add j).block=ad.block:=by unfold Addr.add; split <;> rfl
 have hlt:(ad.add j).block<w.heap.size:=by
  rcases Nat.lt_or_ge (ad.add j).block w.heap.size with h2 | h2
  ·exact h2
  ·rw [World.cell?,Array.getElem?_eq_none h2] at h1; cases h1
 rw [World.cell?_of_block (w:=w)]
 ·exact h1
 ·exact hw _ hlt (by rw [hb]; exact Ne.symm (hp ad e))
theorem CC {n:Int} (h:0≤n):((n.toNat:Nat):Int)=n:=Int.toNat_of_nonneg h
theorem Dq {P:Program} {f g:FuncId} {e:TypeId} (eg:∀ args w,(callFunc g args).run P w = .ok (.enter g args) w) (hg:CE P g)
  (htop:∀ (enc:Nat→Value) (wt:Nat→Int) (cf:Nat→Nat→Int),(∀ x y,cf x y=wt x-wt y)→∀ (cb:Array Value) (blk cap:Nat) (d0:Array Nat) (w0:World),CmpLays1 P g cb enc cf blk 0 d0.size w0→Row1 enc w0 blk 0 d0→d0.size<1152921504606846976→Holds enc w0 blk 0 d0 →
   (∀ i j,i<j→j<d0.size→d0[i]! ≤ d0[j]!)→Calls P f #[.slice (some ⟨blk,0,none⟩) d0.size cap,.func (.func g) #[] cb] w0 fun e w'=>e = .returned (.tuple #[])∧∃ d',PermIn 0 d0.size d0 d'∧Up wt d' 0 d0.size∧SW enc w0 blk 0 d' w'):BU P f g e:=by
 intro w v xs ws c p cp hown hc hp hvc hvp hok;simp only [zK,ah,decide_eq_true_eq,aR] at hok;obtain ⟨⟨⟨⟨⟨h1,h2⟩,h3⟩,h4⟩,h5⟩,h6⟩:=hok;obtain ⟨hlen,hv⟩:=hown;rcases hv with ⟨rfl,hn⟩ | ⟨blk,cap,cur,rfl,_,hb,hnc,hcm,hcs,hct⟩
 ·omega
 rw [Nat.mul_one] at hcs hct;simp only [Value.ownBlock,Option.toList] at *;have hcb:c≠blk:=fun e=>hvc (by rw [e]);have hpb:∀ ad,p=some ad→blk≠ad.block:=fun ad e1 e2=>hvp ad e1 (by rw [e2]);obtain ⟨m,hm⟩:∃ m,m=ws.length:=⟨_,rfl⟩
 have hm0:0<m:=by have:=h4 (xs[0]'(by omega)) (List.getElem_mem _);omega
 obtain ⟨enc,henc⟩:∃ enc:Nat→Value,enc=fun x => .int .i64 ((x % m:Nat):Int):=⟨_,rfl⟩;obtain ⟨wt,hwt⟩:∃ wt:Nat→Int,wt=fun x=>ws.getD (x % m) 0:=⟨_,rfl⟩;obtain ⟨d0,hd0⟩:∃ d0:Array Nat,d0=(xs.map Int.toNat).toArray:=⟨_,rfl⟩;have hds:d0.size=xs.length:=by rw [hd0]; simp
 have hget:∀ i,i<xs.length→d0[i]! = (xs.getD i 0).toNat:=by intro i hi;rw [hd0,getElem!_pos _ i (by simpa using hi)];simp [hi]
 have hin:∀ i,i<xs.length→0≤xs.getD i 0∧xs.getD i 0<(m:Int):=by intro i hi;have:=h4 (xs[i]) (List.getElem_mem _);simp only [List.getD_eq_getElem?_getD,List.getElem?_eq_getElem hi,Option.getD_some];omega
 have hlt:∀ i,i<xs.length→d0[i]! < m:=by intro i hi;rw [hget i hi];have:=hin i hi;omega
 have hencx:∀ i,i<xs.length→enc d0[i]! = .int .i64 (xs.getD i 0):=by intro i hi;rw [henc];simp only;rw [Nat.mod_eq_of_lt (hlt i hi),hget i hi,CC (hin i hi).1]
 have hO:OneCell enc:=fun x=>by rw [henc]; rfl
 have hblk:blk<w.heap.size:=by
  rcases Nat.lt_or_ge blk w.heap.size with h | h
  ·exact h
  ·rw [Array.getElem?_eq_none h] at hb; cases hb
 have hclt:c<w.heap.size:=by
  rcases Nat.lt_or_ge c w.heap.size with h | h
  ·exact h
  ·rw [World.cell?,Array.getElem?_eq_none h] at hc; cases hc
 have hH:Holds enc w blk 0 d0:=by intro j hj;rw [hds] at hj;refine ⟨?_,by simp [World.frozen?,hb]⟩;rw [Nat.zero_add,cell_of_row w blk j _ _ (0,0) hb,hencx j hj];have:=congrArg (fun l=>l[j]?) hct;simp only [List.getElem?_take,List.getElem?_map,if_pos hj,List.getElem?_eq_getElem hj,Option.map_some] at this;rw [Array.getElem?_toList] at this;rw [this];simp [hj]
 have hcmp:CmpLays1 P g #[.pointer (some ⟨c,0,none⟩)] enc (fun x y=>wt x-wt y) blk 0 d0.size w:=by refine CmpReads.lays ?_;intro mm os dk hs x y;have hW:∀ k,k<w.heap.size→k≠blk→(sortWorld enc w blk 0 mm dk os).heap[k]? = w.heap[k]? := fun k hk hne=>oZ enc w blk 0 mm dk os k hk hne;have:=hg (sortWorld enc w blk 0 mm dk os) c p cp ws (x % m) (y % m) (by rw [World.cell?_of_block (w:=w) (hW c hclt hcb)]; exact hc) (Ab hp hpb hW) (by rw [← hm]; exact Nat.mod_lt _ hm0) (by rw [← hm]; exact Nat.mod_lt _ hm0) h3 h5;rw [henc] at this ⊢;rw [hwt];exact this
 have hasc:∀ i j,i<j→j<d0.size→d0[i]! ≤ d0[j]! := by intro i j hij hj;rw [hds] at hj;rw [hget i (by omega),hget j hj];have:=(List.pairwise_iff_getElem.1 h6) i j (by omega) hj hij;simp only [List.getD_eq_getElem?_getD,List.getElem?_eq_getElem hj,List.getElem?_eq_getElem (show i<xs.length by omega),Option.getD_some];omega
 have hC:=htop enc wt _ (fun _ _=>rfl) #[.pointer (some ⟨c,0,none⟩)] blk cap d0 w hcmp ⟨hO,hH,hblk⟩ (by omega) hH hasc;rw [hds] at hC;refine hC.mono ?_;rintro e' w' ⟨rfl,d',p1,u1,mm,os,rfl⟩;have hsz':d'.size=xs.length:=by rw [p1.1,hds]
 have hrow:=xd enc w blk mm d' os cur e hb
 have hperm:d'.toList.Perm d0.toList:=by
  have h7:=p1.2.2;rw [← hds] at h7;have ea:(d'.extract 0 d0.size)=d':=by rw [show d0.size=d'.size by rw [hsz',hds]]; exact Array.extract_size
  have eb:(d0.extract 0 d0.size)=d0:=Array.extract_size;rw [ea,eb] at h7;exact h7
 have hmem:∀ x∈d'.toList,x<m:=by intro x hx;have:=hperm.mem_iff.1 hx;rw [hd0] at this;simp only [List.mem_map] at this;obtain ⟨y,hy,rfl⟩:=this;have:=h4 y hy;omega
 have hlist:d'.toList.map (fun x:Nat=>(x:Int))=tL ws xs:=by
  refine vo (ws:=ws) ?_ ?_ (xO ws xs)
  ·refine ((hperm.map _).trans ?_).trans (pN ws xs).symm;rw [hd0]
   have:(xs.map Int.toNat).map (fun x:Nat=>(x:Int))=xs:=by
    rw [List.map_map]
    conv=>rhs; rw [← List.map_id xs]
    apply List.map_congr_left;intro y hy;have:=h4 y hy;simp only [Function.comp,id];exact CC this.1
   simp only [this];exact List.Perm.refl _
  ·rw [List.pairwise_map,List.pairwise_iff_getElem];intro i j hi hj hij;simp only [Array.length_toList] at hi hj;have:=u1 i j (Nat.zero_le _) hij (by omega);rw [getElem!_pos d' i hi,getElem!_pos d' j hj] at this;have e1:=hmem (d'[i]) (by simp);have e2:=hmem (d'[j]) (by simp);rw [ve];simp only [Le,hwt,Nat.mod_eq_of_lt e1,Nat.mod_eq_of_lt e2] at this;simp only [Array.getElem_toList,Int.toNat_natCast];omega
 refine ⟨rfl,⟨by rw [List.length_map,(pN ws xs).length_eq,Nat.mul_one],.inr ⟨blk,cap,_,rfl,Nat.zero_le _,hrow,hnc,hcm,by simp [putCells]; omega,?_⟩⟩,xt enc w blk mm d' os⟩;rw [Nat.mul_one,← hsz',xq enc d' cur (by omega),← hlist,List.map_map];apply List.map_congr_left;intro x hx;rw [henc];simp only [Function.comp];rw [Nat.mod_eq_of_lt (hmem x hx)]
section
variable {P:Program} {ty:TypeId} {pos:String} {aft:Array Edge} {gd:Option (Nat×Bool)}
theorem Fk (N:List aJ) (d t u c:Nat) (f g0:FuncId) {cal x:Operand} {ats:Array TypeId} {e T':TypeId} {m:Md} (ws l q:List Int) {xs zs wsv:List Value} (hcal:rd N cal = .v (.func (.func f) #[] #[])) (hrun:∀ args w,(callFunc f args).run P w = .ok (.enter f args) w) (hs:BU P f g0 e)
  (hx:bm N x = .same (.slot t)) (hu:look N u = .clo g0 [c]) (hb:look N c = .box T' [.fl m 1 wsv]) (hw:ws.map (Value.int .i64)=wsv) (hl:l.map (Value.int .i64)=xs) (hq:Sh.slices_SortStable ws l=some q) (hz:q.map (Value.int .i64)=zs) (hdt:d≠t) :
  bh P ⟨some d,.call ⟨.value cal,#[x,.tmp u],ats⟩,ty,pos,aft,gd⟩ N [(t,.fl (.own e) 1 xs)] [(t,.fl (.own e) 1 zs),(d,.tup [])] [.slot d]:=by
 unfold Sh.slices_SortStable at hq;split at hq
 case isFalse=>cases hq
 rename_i hok
 cases hq
 subst hz hl hw;refine bh.core fun g V oN oT a w hd hp => ?_;have hT':=hp.esT;simp only [Es] at hT';obtain ⟨o1,o2,rfl,⟨hR,_⟩,rfl⟩:=hT';dsimp only at hR;simp only [R,bW] at hR;obtain ⟨a0,n0,c0,⟨h3,_⟩,hl0,hone0,_,hown,hob⟩:=hR;rw [Nat.mul_one,List.length_map] at hl0;subst hl0;obtain ⟨oc,hoc,hcR,hctie⟩:=cE hp.esN c;dsimp only at hcR hctie;rw [hb] at hcR hctie;simp only [R,Rs] at hcR;obtain ⟨bc,xs',os',hVc,rfl,hbh,x1,xs1,q1,q2,rfl,rfl,hx1,rfl,rfl⟩:=hcR;obtain ⟨p,np,cp,⟨rfl,hnp⟩,hlw,_,hreads,hmode⟩:=hx1;rw [Nat.mul_one,List.length_map] at hlw;subst hlw
 have hcell:w.cell? ⟨bc,0,none⟩=some (.slice p ws.length cp):=by rw [cell_of_row w bc 0 _ T' (0,0) hbh]; rfl
 obtain ⟨ou,_,hce,_⟩:=cE hp.esN u;dsimp only at hce;rw [hu] at hce;simp only [R,List.map_cons,List.map_nil] at hce;have hax:=bE hp.val hp.esN x;rw [hx] at hax;simp only [R] at hax;have hcv:=bP hp.val hp.esN hcal
 have h5:a.eval (.tmp u) = .func (.func g0) #[] #[.pointer (some ⟨bc,0,none⟩)]:=by have:=hp.val u;simp only [Act.eval];rw [← this,hce.1,hVc]
 have hnd:=hp.nodup;have hobm:∀ b,(V (.slot t)).ownBlock=some b→b∈o1:=fun b hb=>by rw [hob,hb]; simp
 have hd1:(V (.slot t)).ownBlock≠some bc:=by intro h;exact (ag.1 hnd).2.2 bc (hoc bc (by simp)) bc (by simp [hobm bc h]) rfl
 have hd2:∀ ad,p=some ad→(V (.slot t)).ownBlock≠some ad.block:=by
  intro ad hpa h;by_cases hne:ws.map (Value.int .i64)=[]
  ·have h6:ws=[]:=by simpa using hne
   subst h6;simp only [zK,ah,decide_eq_true_eq,aR,List.length_nil] at hok;obtain ⟨⟨⟨⟨⟨k1,k2⟩,k3⟩,k4⟩,k5⟩,k6⟩:=hok;have:=k4 (l[0]'k1) (List.getElem_mem _);omega
  ·rcases sD hmode hne hpa with h7 | h7
   ·exact (ag.1 hnd).2.2 ad.block (hoc ad.block (by simp [h7])) ad.block (by simp [hobm _ h]) rfl
   ·exact (hp.own ad.block (by simp [hobm _ h])).2 h7
 have hcall:=hs w (V (.slot t)) l ws bc p cp hown hcell hreads hd1 hd2 hok
 have hr:(execOp a.eval ⟨some d,.call ⟨.value cal,#[x,.tmp u],ats⟩,ty,pos,aft,gd⟩).run P w = .ok (.enter f (#[x,.tmp u].map a.eval)) w:=by simp [execOp,resolve,hcv,Deferred.ofValue,invoke,hrun]
 have ea:(#[x,.tmp u].map a.eval) = #[V (.slot t),.func (.func g0) #[] #[.pointer (some ⟨bc,0,none⟩)]]:=by simp [hax.1,h5]
 rw [← ea] at hcall;refine Yl.call hr (hcall.mono ?_);rintro e2 w2 ⟨rfl,hown',hchg0⟩;have hlt:d<g.n:=hd d rfl;have hchg:dq o1 w w2:=by rw [hob]; exact hchg0
 have hdtl:∀ l,fq [.slot d] l=false→ck V d (.tuple #[]) l=V l:=fun l hl=>bY hl;refine ⟨.tuple #[],rfl,g,ck V d (.tuple #[]),o1,g.le_refl,fun b hb => .inl hb,fun b hb=>am (hp.imm b (.inl hb)) hchg.size,?_,hdtl,fun u=>cU hp.val hp.size hlt u,?_,?_,?_⟩
 ·exact hchg.mono fun c hc'=>by simpa using hc'
 ·have hVt:ck V d (.tuple #[]) (.slot t)=V (.slot t):=by simp only [ck]; rw [if_neg fun e=>hdt e.symm]
  refine ⟨o1,[],by simp,⟨?_,trivial⟩,[],[],rfl,⟨?_,trivial⟩,rfl⟩
  ·show R g _ _ _ (ck V d _ (.slot t)) _;rw [hVt,hob];refine fw (n:=l.length) hown' fun u hu => ?_;obtain ⟨y,_,rfl⟩:=List.mem_map.1 hu;rfl
  ·show R g _ _ _ (ck V d _ (.slot d)) _;rw [cC];simp only [R,Rs];exact ⟨[],rfl,rfl,trivial⟩
 ·have:=(ag.1 hnd).2.1;simpa using this
 ·intro c hc';have h4:=hp.own c (by simp [hc']);exact ⟨.inl (by simpa using hc'),am h4.1 hchg.size,h4.2⟩
end
end Go.Abs
