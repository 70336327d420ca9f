/-
 Sets of structs in a variable's place.
-/
import Derived.Test.YtofbofdggabfiaaGreatDoorB2
import Derived.DeepKeys3
import Derived.Maps.OwnSet
namespace Go.Abs
open Go.Maps
inductive CK
 | i (q:IntKind)
 | b
 | s
namespace Sh
def ckOK:CK→Value→Bool
 | .i q,.int q' n=>decide (q'=q)&&(Lit.int q n).wf
 | .b,.bool _=>true
 | .s,.string s=>Nat.ble s.size 140737488355328
 | _,_=>false
def cksOK:List CK→List Value→Bool
 | [],[]=>true
 | k::ks,v::vs=>ckOK k v&&cksOK ks vs
 | _,_=>false
def saddO {α:Type} [DecidableEq α] (ks:List CK) (f:α→List Value) (m:List α) (q:α):Option (List α) :=
 if cksOK ks (f q)&&Nat.blt m.length 140737488355328 then some (if q∈m then m else q::m) else none
end Sh
open Sh
section
variable (P:Program)
def kindsF (g:TypeId→Option (List CK)):List Field→Nat→Option (List CK)
 | [],_=>some []
 | f::fs,off =>
  match g f.type with
  | some ks=>if f.offset=off∧P.cellsOf f.type=ks.length then (kindsF g fs (off+ks.length)).map (ks ++ ·) else none
  | none=>none
def kinds:Nat→TypeId→Option (List CK)
 | 0,_=>none
 | d+1,t =>
  match P.underlying t with
  | some .bool=>some [.b]
  | some (.int q)=>some [.i q]
  | some .string=>some [.s]
  | some (.struct fs) =>
   if fs.all (·.name != "_") = true then
    match kindsF P (kinds d) fs.toList 0 with
    | some ks=>if ks.length=P.cellsOf t then some ks else none
    | none=>none
   else none
  | _=>none
end
theorem cksOK_len:∀ {ks:List CK} {vs:List Value},cksOK ks vs=true→vs.length=ks.length
 | [],[],_=>rfl
 | [],_::_,h=>by simp [cksOK] at h
 | _::_,[],h=>by simp [cksOK] at h
 | k::ks,v::vs,h=>by
  simp only [cksOK,Bool.and_eq_true] at h
  simp [cksOK_len h.2]
theorem cksOK_app:∀ {ks ls:List CK} {vs:List Value},cksOK (ks++ls) vs=true→cksOK ks (vs.take ks.length)=true∧cksOK ls (vs.drop ks.length)=true
 | [],ls,vs,h=>⟨rfl,h⟩
 | k::ks,ls,[],h=>by simp [cksOK] at h
 | k::ks,ls,v::vs,h=>by
  simp only [List.cons_append,cksOK,Bool.and_eq_true] at h
  have:=cksOK_app h.2
  simp only [List.length_cons,List.take_succ_cons,List.drop_succ_cons,cksOK,Bool.and_eq_true]
  exact ⟨⟨h.1,this.1⟩,this.2⟩
theorem ck_one {k:CK} {cs:List Value} (h:cksOK [k] cs=true):∃ v,cs=[v]∧ckOK k v=true:=by
 match cs,h with
 | [v],h=>exact ⟨v,rfl,by simpa [cksOK] using h⟩
 | _::_::_,h=>simp [cksOK] at h
section
variable {P:Program}
theorem kindsF_lits {g:TypeId→Option (List CK)} {D:Nat} (hg:∀ t ks vs,g t=some ks→cksOK ks vs=true→∃ l,P.keyLits D t vs=some l) (cs:List Value) :
  ∀ (fs:List Field) (off:Nat) (ks:List CK),kindsF P g fs off=some ks→cksOK ks (cs.drop off)=true→∃ ls,fs.mapM (fun f=>P.keyLits D f.type ((cs.drop f.offset).take (P.cellsOf f.type)))=some ls
 | [],_,_,_,_=>⟨[],rfl⟩
 | f::fs,off,ks,h,hk=>by
  unfold kindsF at h
  split at h
  case h_2=>cases h
  rename_i ks1 hg1
  split at h
  case isFalse=>cases h
  rename_i hc
  obtain ⟨h1,h2⟩:=hc
  cases hr:kindsF P g fs (off+ks1.length) with
  | none=>rw [hr] at h; cases h
  | some ks2 =>
   rw [hr] at h
   simp only [Option.map_some,Option.some.injEq] at h
   subst h
   obtain ⟨a1,a2⟩:=cksOK_app hk
   rw [List.drop_drop] at a2
   obtain ⟨l1,hl1⟩:=hg f.type ks1 _ hg1 a1
   obtain ⟨l2,hl2⟩:=kindsF_lits hg cs fs _ ks2 hr a2
   refine ⟨l1::l2,?_⟩
   rw [List.mapM_cons,h1,h2,hl1,hl2]
   rfl
theorem kinds_lits:∀ (d:Nat) (t:TypeId) (ks:List CK) (cs:List Value) (D:Nat),kinds P d t=some ks→cksOK ks cs=true→d≤D→∃ l,P.keyLits D t cs=some l
 | 0,_,_,_,_,h,_,_=>by cases h
 | d+1,t,ks,cs,D,h,hk,hD=>by
  obtain ⟨D,rfl⟩:∃ D',D=D'+1:=⟨D-1,by omega⟩
  unfold kinds at h
  unfold Program.keyLits
  split at h
  ·rename_i hu
   obtain rfl:=Option.some.inj h
   rw [hu]
   obtain ⟨v,rfl,hv⟩:=ck_one hk
   cases v <;> first | (exact ⟨_,rfl⟩) | (simp [ckOK] at hv)
  ·rename_i q hu
   obtain rfl:=Option.some.inj h
   rw [hu]
   obtain ⟨v,rfl,hv⟩:=ck_one hk
   cases v <;> first | (simp [ckOK] at hv; done) | skip
   simp only [ckOK,Bool.and_eq_true,decide_eq_true_eq] at hv
   exact ⟨_,if_pos ⟨hv.1,hv.2⟩⟩
  ·rename_i hu
   obtain rfl:=Option.some.inj h
   rw [hu]
   obtain ⟨v,rfl,hv⟩:=ck_one hk
   cases v <;> first | (simp [ckOK] at hv; done) | skip
   exact ⟨_,if_pos (show _≤maxLen from Nat.le_trans (Nat.le_of_ble_eq_true (show Nat.ble _ 140737488355328=true from hv)) (by unfold maxLen; omega))⟩
  ·rename_i fs hu
   rw [hu]
   split at h
   case isFalse=>cases h
   rename_i hn
   split at h
   case h_2=>cases h
   rename_i ks' hks
   split at h
   case isFalse=>cases h
   rename_i hlen
   obtain rfl:=Option.some.inj h
   have hcl:=cksOK_len hk
   obtain ⟨ls,hls⟩:=kindsF_lits (P:=P) (D:=D) (fun t ks vs h1 h2=>kinds_lits d t ks vs D h1 h2 (by omega)) cs fs.toList 0 ks' hks (by simpa using hk)
   refine ⟨ls.flatten,?_⟩
   simp only
   rw [if_pos ⟨by omega,hn⟩,hls]
   rfl
  ·cases h
structure SetF (P:Program) (T k e:TypeId) {α:Type} (ks:List CK) (f:α→List Value):Prop where
 ut:P.underlying T=some (.map k e)
 kd:Maps.Keyed P k
 ky:∀ q:α,cksOK ks (f q)=true→∃ l,keyOf P k (.agg (f q).toArray)=some l
 inj:∀ a b:α,f a=f b→a=b
theorem setF_of {T k e:TypeId} {α:Type} {ks:List CK} {f:α→List Value} {fs:Array Field} {m:Nat} (h1:P.underlying T=some (.map k e)) (h2:P.underlying k=some (.struct fs)) (h3:P.keyTypeAt m k=true) (h4:P.tiled m k=true) (h5:kinds P m k=some ks)
  (h6:P.keyType k=true) (h7:Nat.ble m (P.types.size+1)=true) (h8:Nat.ble (m+1) 10000=true) (h9:ks.length=P.cellsOf k) (hi:∀ a b:α,f a=f b→a=b):SetF P T k e ks f :=
 ⟨h1,Maps.Keyed.of_law (deep_law (m:=m) (Nat.le_of_ble_eq_true h8) h3 h4 (by rw [h2])),fun q hq=>by
  obtain ⟨l,hl⟩:=kinds_lits m k ks (f q) (P.types.size+1) h5 hq (Nat.le_of_ble_eq_true h7)
  unfold keyOf
  simp only [h2]
  rw [if_pos (by simp only [h6,Bool.true_and,Value.formed,h2]; rw [beq_iff_eq,← h9,← cksOK_len hq]; simp)]
  simp only [Value.cells]
  rw [hl]
  exact ⟨_,rfl⟩,hi⟩
def setT (Pr:Program) (k:TypeId) {α:Type} (f:α→List Value) (m:List α):HidT where
 P _ _ x o w:=∃ (b:Nat) (D:DataW Unit),x = .map (some b)∧o=[b]∧w.ownsMap Pr k unitElem b m.length D∧Maps.size D=m.length∧∀ q l,keyOf Pr k (.agg (f q).toArray)=some l→(Maps.has D l=true↔q∈m)
 stab:=by
  rintro I M I' M' x o w w' _ _ hw ⟨b,D,rfl,rfl,⟨es,clock,hb,h1⟩,h2⟩
  exact ⟨b,D,rfl,rfl,⟨es,clock,by rw [hw b (.inl (by simp))]; exact hb,h1⟩,h2⟩
 one:=true
 cell:=by
  rintro _ I M x o w ⟨b,D,rfl,_⟩
  rfl
variable {ty:TypeId} {pos:String} {aft:Array Edge} {gd:Option (Nat×Bool)} {α:Type}
theorem op_makeSet (N:List Ent) (d:Nat) {T k:TypeId} (f:α→List Value):LOp P ⟨some d,.makeMap T none,ty,pos,aft,gd⟩ N [] [(d,.hid (setT P k f []))] [.slot d]:=by
 refine LOp.fresh rfl rfl fun g V oN a w hp => ?_
 have hr:(execOp a.eval ⟨some d,.makeMap T none,ty,pos,aft,gd⟩).run P w = .ok (.value (.map (some w.heap.size))) (w.alloc (.map #[] 0)):=by
  simp [execOp]
  rfl
 refine (Yl.val hr).mono ?_
 rintro x w' ⟨rfl,rfl⟩
 refine ⟨Chg.alloc _ _ _,g,[w.heap.size],g.le_refl,fun b hb => .inl hb,?_,by simp,?_⟩
 ·simp only [R]
  exact ⟨w.heap.size,.map [],rfl,rfl,World.ownsMap_made w P k _,rfl,fun q l h=>by simp [Maps.has]⟩
 ·intro b hb
  simp at hb; subst hb
  exact ⟨Nat.le_refl _,by simp,fun hi=>Nat.lt_irrefl _ (hp.imm _ (.inl hi))⟩
theorem sadd_some [DecidableEq α] {ks:List CK} {f:α→List Value} {m m':List α} {q:α} (h:saddO ks f m q=some m'):cksOK ks (f q)=true∧m.length<140737488355328∧m'=if q∈m then m else q::m:=by
 unfold saddO at h
 split at h
 ·rename_i hc
  rw [Bool.and_eq_true] at hc
  exact ⟨hc.1,by simpa using hc.2,(Option.some.inj h).symm⟩
 ·cases h
theorem op_setUpdate [DecidableEq α] (N:List Ent) {T k e:TypeId} {ks:List CK} {f:α→List Value} {m m':List α} (x y z:Operand) (t:Nat) (q:α) (M:SetF P T k e ks f)
  (hx:dupOp N x = .same (.slot t)) (hy:rd N y = .agg ((f q).map .v)) (hz:rd N z = .agg (List.map .v [])) (hv:saddO ks f m q=some m') :
  LOp P ⟨none,.mapUpdate T x y z,ty,pos,aft,gd⟩ N [(t,.hid (setT P k f m))] [(t,.hid (setT P k f m'))] []:=by
 obtain ⟨hq,hml,rfl⟩:=sadd_some hv
 refine LOp.core fun g V oN oT a w hd hp => ?_
 have hT':=hp.esT
 simp only [Es] at hT'
 obtain ⟨ob0,o2,rfl,⟨hRb,_⟩,rfl⟩:=hT'
 have hax:=dupOp_R hp.val hp.esN x
 rw [hx] at hax
 simp only [R] at hax hRb
 obtain ⟨b,D,hxb,rfl,hown,hsz,hat⟩:=hRb
 have hxv:a.eval x = .map (some b):=by rw [hax.1,hxb]
 have h3:=agg_v hp.val hp.esN hy
 have h4:=agg_v hp.val hp.esN hz
 obtain ⟨l,hkl⟩:=M.ky q hq
 obtain ⟨w1,hrun0,hown1,hgrow⟩:=hown.update M.kd M.ut (by unfold maxLen; omega) hkl (unitElem_mk (H:=Unit))
 have hrun:(execOp a.eval ⟨none,.mapUpdate T x y z,ty,pos,aft,gd⟩).run P w = .ok .skip w1:=by
  simp [execOp,hxv,h3,h4,hrun0]
 refine (Yl.skip hrun).mono ?_
 rintro y' w' ⟨rfl,rfl⟩
 have hchg:Chg [b] w w':=Chg.of_grown hgrow
 have hlts:=hp.own b (by simp)
 have htd:=hown.tidy M.kd
 have hsp:=Maps.size_put (k:=l) htd (.agg []:DataW Unit)
 have hhas:=hat q l hkl
 refine ⟨g,V,[b],g.le_refl,fun c hc => .inl hc,fun c hc=>Nat.lt_of_lt_of_le (hp.imm c (.inl hc)) hchg.size,by simpa using hchg,fun _ _=>rfl,fun u=>by simp only [Act.put]; exact hp.val u,?_,by simp,?_⟩
 ·refine ⟨[b],[],by simp,⟨?_,trivial⟩,rfl⟩
  simp only [R]
  have hmem:∀ r lr,keyOf P k (.agg (f r).toArray)=some lr→(Maps.has (D.put l (.agg [])) lr=true↔r∈(if q∈m then m else q::m)):=by
   intro r lr hr
   by_cases hrq:r=q
   ·subst hrq
    rw [hkl] at hr
    obtain rfl:=Option.some.inj hr
    rw [Maps.has_put_same htd.isMap (M.kd.key hkl)]
    constructor
    ·intro _; split
     ·assumption
     ·exact List.mem_cons_self
    ·intro _; rfl
   ·have hne:lr≠l:=fun e=>hrq (M.inj _ _ (by
     have:=M.kd.inj hr (e ▸ hkl)
     have:=Value.agg.inj this
     exact congrArg Array.toList this |> fun h=>by simpa using h))
    rw [Maps.has_put_other hne,hat r lr hr]
    split
    ·rfl
    ·simp [hrq]
  by_cases hqm:q∈m
  ·rw [if_pos hqm] at hmem ⊢
   have hh:=hhas.2 hqm
   rw [if_pos hh] at hsp
   refine ⟨b,D.put l (.agg []),hxb,rfl,?_,by omega,hmem⟩
   obtain ⟨es',clock',e1,e2,e3,e4⟩:=hown1
   refine ⟨es',clock',e1,e2,?_,e4⟩
   have:Maps.size (D.put l (.agg []:DataW Unit))=es'.size:=by
    rw [e4,Maps.size_eq]
    exact length_read es'
   omega
  ·rw [if_neg hqm] at hmem ⊢
   have hh:¬ Maps.has D l=true:=fun h=>hqm (hhas.1 h)
   rw [if_neg hh] at hsp
   exact ⟨b,D.put l (.agg []),hxb,rfl,hown1,by simp only [List.length_cons]; omega,hmem⟩
 ·intro c hc
  have hc:=List.mem_singleton.1 hc
  subst hc
  exact ⟨.inl (by simp),Nat.lt_of_lt_of_le hlts.1 hchg.size,hlts.2⟩
theorem op_len_setT (N:List Ent) (d:Nat) {t' T k e:TypeId} (t:Nat) {f:α→List Value} {m:List α} (hT:P.underlying T=some (.map k e)) (hl:look N t = .hid (setT P k f m)) :
  LOp P ⟨some d,.call ⟨.builtin .len,#[.tmp t],#[T]⟩,t',pos,aft,gd⟩ N [] [(d,.v (.int .i64 (m.length:Int)))] [.slot d]:=by
 refine LOp.v rfl fun g V oN ac w hp => ?_
 obtain ⟨o',_,h3,_⟩:=look_ER hp.esN t
 dsimp only at h3
 rw [hl] at h3
 simp only [R] at h3
 obtain ⟨b,D,hxb,_,hown,hsz,_⟩:=h3
 have hxv:ac.eval (.tmp t) = .map (some b):=by rw [← hxb,hp.val]; rfl
 have:=hown.len hT t'
 rw [hsz] at this
 simp [execOp,resolve,invoke,builtin,hxv,this]
end
/-! Arrays of two strings,each in a cell. -/
section
variable {P:Program} {ty:TypeId} {pos:String} {aft:Array Edge} {gd:Option (Nat×Bool)}
theorem op_ix_dyn (N:List Ent) (d:Nat) {T e:TypeId} (x y:Operand) {kd:IntKind} {j:Int} (n t off i:Nat) (hT:P.underlying T=some (.array n e)) (hz:(P.info? e).map (·.size)=some 1)
  (hx:dupOp N x = .ptr t off) (hy:rd N y = .v (.int kd j)) (hj:j=(i:Int)) (hi:i<n) (ht:t≠d):LOp P ⟨some d,.indexAddr T x y,ty,pos,aft,gd⟩ N [] [(d,.ptr t (off+i * 1))] [.slot d]:=by
 subst hj
 exact op_indexAddr_a N d x y n t off i 1 hT hz hx hy hi ht
theorem op_load_dyn (N:List Ent) (d:Nat) {T:TypeId} (x:Operand) {T':TypeId} {cs:List AV} (t off i n:Nat) (ss:List ByteArray) (s:ByteArray) (hT:P.underlying T=some .string)
  (hx:dupOp N x = .ptr t (off+i * 1)) (hl:look N t = .box T' cs) (hcs:(cs.drop off).take n=(ss.map Value.string).map .v) (hn:ss.length=n) (hv:getO ss i=some s) :
  LOp P ⟨some d,.load T x,ty,pos,aft,gd⟩ N [] [(d,.v (.string s))] [.slot d]:=by
 have hi:ss[i]? = some s:=hv
 have hlt:i<ss.length:=(List.getElem?_eq_some_iff.1 hi).1
 have hlen:=congrArg List.length hcs
 simp only [List.length_take,List.length_drop,List.length_map] at hlen
 refine op_load N d x t (off+i * 1) _ hT rfl hx hl (by omega) ?_ rfl rfl
 have h1:((cs.drop off).take n)[i]? = some (.v (.string s)):=by rw [hcs]; simp [hi]
 rw [List.getElem?_take,if_pos (by omega),List.getElem?_drop] at h1
 rw [Nat.mul_one,List.getD_eq_getElem?_getD,h1]
 rfl
end
section
variable {H:Type} {enc:TypeId×Value→H} {P:Program} {W:World} {sp:Nat→Bool} {hd:Bool} {t:TypeId}
theorem arr2_open {e:TypeId} {fuel:Nat} {cs:List Value} {y:DataW H×List MemPlace} (ht:P.underlying t=some (.array 2 e)) (he:P.underlying e=some .string) (h1:P.cellsOf e=1) (h2:P.cellsOf t=2) (h:DataW.trod enc P W 0 sp hd fuel t cs=some y) :
  ∃ a b:ByteArray,cs=[.string a,.string b]∧wfS a∧wfS b∧y.1 = .agg [.lit (.string a.data.toList),.lit (.string b.data.toList)]:=by
 obtain ⟨xs,m,_,hy,hlen,hl,hel⟩:=DataW.trod_array ht h
 rw [h2] at hlen
 obtain ⟨c0,c1,rfl⟩:∃ c0 c1,cs=[c0,c1]:=by
  match cs,hlen with
  | [c0,c1],_=>exact ⟨c0,c1,rfl⟩
 obtain ⟨y0,y1,rfl⟩:∃ y0 y1,xs=[y0,y1]:=by
  match xs,hl with
  | [y0,y1],_=>exact ⟨y0,y1,rfl⟩
 have g0:=hel 0 (by omega)
 have g1:=hel 1 (by omega)
 rw [h1] at g0 g1
 obtain ⟨a,e0,r0,w0⟩:=DataW.trod_string he g0
 obtain ⟨b,e1,r1,w1⟩:=DataW.trod_string he g1
 obtain rfl:c0 = .string a:=by simpa using e0
 obtain rfl:c1 = .string b:=by simpa using e1
 refine ⟨a,b,rfl,w0,w1,?_⟩
 rw [hy,r0,r1]
 rfl
theorem camez_arr2 {e:TypeId} (ht:P.underlying t=some (.array 2 e)) (he:P.underlying e=some .string) (h1:P.cellsOf e=1) (h2:P.cellsOf t=2) :
  CameZ enc P W sp hd t (fun l:List ByteArray=>[IC.v (.string (l.getD 0 (⟨#[]⟩:ByteArray))),IC.v (.string (l.getD 1 (⟨#[]⟩:ByteArray)))]) (fun l=>l.length=2∧∀ x∈l,wzS x):=by
 intro fuel cs y h hz
 obtain ⟨a,b,rfl,_,_,hy⟩:=arr2_open ht he h1 h2 h
 rw [hy] at hz
 have za:=hz a.data.toList.length (by simp [DataW.weights,ht,DataW.weightsAll])
 have zb:=hz b.data.toList.length (by simp [DataW.weights,ht,DataW.weightsAll])
 refine ⟨[a,b],?_,by simp [Value.oneCell'],rfl,?_⟩
 ·exact RIs_append (RIs_one.2 (by simp only [RI]; rfl)) (RIs_one.2 (by simp only [RI]; rfl))
 ·intro x hx
  simp only [List.mem_cons,List.not_mem_nil,or_false] at hx
  rcases hx with rfl | rfl
  ·simpa [wzS] using za
  ·simpa [wzS] using zb
end
end Go.Abs
