import Derived.Lib.IndexLaws
import Derived.Lib.Bytes
import Derived.Deep.Draws
import Derived.Laws.Pointers
import Derived.SizedLaws
import Derived.Test.YtckpeedhchjjnaaGreatDoorAL
section
namespace Go.Abs
def EZ (gl:List (Nat×List Value)) (I:Nat→Prop) (w:World):Prop:=∀ p∈gl,I p.1∧∀ j,w.cell? ⟨p.1,j,none⟩=p.2[j]?
def fJ (P:Program) (gl:List (Nat×List Value)) (f:FuncId) (args:List AV) (res:AV):Prop :=
 ∀ (Imm Im:Nat→Prop) (w:World) (xs:List Value),(∀ b,Imm b∨Im b→b<w.heap.size)→EZ gl (fun b=>Imm b∨Im b) w→Rs (cz w Imm Im) V0 w args xs []→Calls P f xs.toArray w (GM Imm Im w res)
theorem bA.toG {P:Program} {gl:List (Nat×List Value)} {f:FuncId} {args:List AV} {res:AV} (h:bA P f args res):fJ P gl f args res:=fun Imm Im w xs h1 _ h2=>h Imm Im w xs h1 h2
theorem fJ.args {P:Program} {gl:List (Nat×List Value)} {f:FuncId} {as bs:List AV} {res:AV} (h:fJ P gl f as res) (hs:nr bs as):fJ P gl f bs res:=by intro Imm Im w xs himm hg hR;exact h Imm Im w xs himm hg (hs _ _ _ _ _ hR)
section
variable {P:Program} {Q:Exit→Act→World→Prop} {g0:Gh} {rnd:Option Nat}
theorem Hr {f:FuncId} {fn:Func} {c:Code} {gl:List (Nat×List Value)} {args:List AV} {res:AV} (hf:P.funcs[f]? = some fn) (hb:fn.body=some c) (hk:args.length≤fn.ntmps) (hcl:bj args=true) (hnb:args.all dM=true)
  (h:∀ g0:Gh,g0.n=fn.ntmps→g0.io=[]→HT none P (CI P fn g0.Imm g0.Im g0.w0 res) g0 c (cB args++[(fn.ntmps,.glob gl)])):fJ P gl f args res:=by
 intro Imm Im w xs himm hgl hR;have hlen:=aZ hR;refine callsIn_wide.1 (callsIn_of_wp_marks (n:=0) (F:=Fence.wide) hf hb trivial ?_);have hg:=h ⟨fn.ntmps,w,[],Imm,Im,[]⟩ rfl rfl ⟨fn.ntmps,w,[],Imm,Im,[]⟩ { tmps:=xs.toArray++Array.replicate (fn.ntmps-xs.toArray.size) undef,defers:=[] } w (Gh.le_refl _);refine hg ⟨fun l=>match l with | .slot t=>(xs.toArray++Array.replicate (fn.ntmps-xs.toArray.size) undef).getD t undef | .cell _ _=>undef,[],⟨fun _=>rfl,?_,rfl,List.nodup_nil,by simp,List.nodup_nil,by simp,himm,dq.refl _ _⟩,aT.2 ⟨[],[],rfl,?_,?_⟩⟩
 ·simp; omega
 ·unfold cB;refine yi (g:=⟨fn.ntmps,w,[],Imm,Im,[]⟩) (fun av x o hc hr=>bV (fun _ h=>h) av x o hc (.inl fun _ h=>h) hr) args xs 0 hcl hnb ?_ ?_
  ·exact bJ (g:=cz w Imm Im) (g':=⟨fn.ntmps,w,[],Imm,Im,[]⟩) (V:=V0) (V':=V0) (fun _ h=>h) args xs [] hcl (.inl fun _ h=>h) hR
  ·intro i x hx;have hi:=(List.getElem?_eq_some_iff.1 hx).1;simp only [Nat.zero_add,Array.getD_eq_getD_getElem?];rw [Array.getElem?_append_left (by simpa using hi)];simp [hx]
 ·exact ⟨[],[],rfl,⟨by simp only [R]; exact ⟨hgl,trivial⟩,trivial⟩,rfl⟩
end
section
variable {P:Program} {ty:TypeId} {pos:String} {aft:Array Edge} {gd:Option (Nat×Bool)}
theorem sK (N:List aJ) (d n:Nat) (f:FuncId) {gl gl':List (Nat×List Value)} {cal:Operand} {args:Array Operand} {ats:Array TypeId} (avs:List AV) (res:AV) (hcal:rd N cal = .v (.func (.func f) #[] #[])) (hrun:∀ args w,(callFunc f args).run P w = .ok (.enter f args) w)
  (hav:args.toList.map (lN N)=avs) (hgl:look N n = .glob gl') (hsub:∀ p∈gl,p∈gl') (hf:fJ P gl f avs res) (hcl:bq res=true) (hsh:eW res=true) :
  bh P ⟨some d,.call ⟨.value cal,args,ats⟩,ty,pos,aft,gd⟩ N [] [(d,res)] [.slot d]:=by
 refine bh.fresh rfl (ft _ _ hcl) fun g V oN a w hp => ?_;have hcv:=bP hp.val hp.esN hcal
 have hr:(execOp a.eval ⟨some d,.call ⟨.value cal,args,ats⟩,ty,pos,aft,gd⟩).run P w = .ok (.enter f (args.map a.eval)) w:=by simp [execOp,resolve,hcv,Deferred.ofValue,invoke,hrun]
 have hargs:Rs (cz w g.Imm (fun b=>g.Im b∨b∈oN)) V0 w avs (args.toList.map a.eval) []:=by rw [← hav];exact fg (g:=g) (g':=cz w g.Imm (fun b=>g.Im b∨b∈oN)) rfl (fun b hb=>hb) hp.val hp.esN _
 obtain ⟨og,_,hRg,_⟩:=cE hp.esN n;dsimp only at hRg;rw [hgl] at hRg;simp only [R] at hRg
 have hc:=hf g.Imm (fun b=>g.Im b∨b∈oN) w _ (fun b hb=>by
  rcases hb with hb | hb | hb
  ·exact hp.imm b (.inl hb)
  ·exact hp.imm b (.inr hb)
  ·exact (hp.own b (by simp [hb])).1) (fun p hp'=>by
  obtain ⟨h1,h2⟩:=hRg.1 p (hsub p hp')
  exact ⟨h1.imp id .inl,h2⟩) hargs
 have ea:(args.toList.map a.eval).toArray=args.map a.eval:=by rw [← Array.toList_map]
 rw [ea] at hc;refine Yl.call hr (hc.mono ?_);rintro e w' ⟨x,rfl,hchg,Imm',o,hI,hnew,hR,hnd,hfr⟩;refine ⟨x,rfl,hchg,{ g with Imm:=fun b=>Imm' b },o,⟨rfl,rfl,rfl,rfl,rfl,hI,fun b hb => ?_⟩,hnew,?_,hnd,hfr⟩
 ·rcases hnew b hb with h | h
  ·exact .inl h
  ·exact .inr (.inl (Nat.le_trans hp.base h.1))
 ·exact bV (g:=cz w Imm' (fun b=>g.Im b∨b∈oN)) (g':={ g with Imm:=fun b=>Imm' b }) (fun _ h=>h) res x o hcl (.inr hsh) hR
theorem nN (N:List aJ) (d n:Nat) {T:TypeId} {td:TypeDesc} {x:Operand} {gl:List (Nat×List Value)} (b k:Nat) (vs:List Value) (v:Value) (hT:P.underlying T=some td) (ha:dn td=false) (hx:rd N x = .v (.pointer (some ⟨b,k,none⟩))) (hgl:look N n = .glob gl)
  (hm:(b,vs)∈gl) (hv:vs[k]? = some v):bh P ⟨some d,.load T x,ty,pos,aft,gd⟩ N [] [(d,.v v)] [.slot d]:=by refine bh.v rfl fun g V oN a w hp => ?_;have h1:=bP hp.val hp.esN hx;obtain ⟨og,_,hRg,_⟩:=cE hp.esN n;dsimp only at hRg;rw [hgl] at hRg;simp only [R] at hRg;have hc:=((hRg.1 _ hm).2 k).trans hv;have:=jr (P:=P) hT ha hc;simp [execOp,Instr.loadAt,h1,Instr.sureAddr,this]
theorem xu (N:List aJ) (d n:Nat) {T:TypeId} {td:TypeDesc} {x:Operand} {gl:List (Nat×List Value)} (b:Nat) (vs:List Value) (hT:P.underlying T=some td) (ha:dn td=true) (hs:(P.info? T).map (·.size)=some vs.length) (hx:rd N x = .v (.pointer (some ⟨b,0,none⟩))) (hgl:look N n = .glob gl)
  (hm:(b,vs)∈gl):bh P ⟨some d,.load T x,ty,pos,aft,gd⟩ N [] [(d,.v (.agg vs.toArray))] [.slot d]:=by refine bh.v rfl fun g V oN a w hp => ?_;have h1:=bP hp.val hp.esN hx;obtain ⟨og,_,hRg,_⟩:=cE hp.esN n;dsimp only at hRg;rw [hgl] at hRg;simp only [R] at hRg;have hc:=(hRg.1 _ hm).2;have:=gj (P:=P) (xs:=vs) (a:=⟨b,0,none⟩) hT ha hs rfl (fun j u hu=>by rw [cw,Nat.zero_add]; exact (hc j).trans hu);simp [execOp,Instr.loadAt,h1,Instr.sureAddr,this]
end
end Go.Abs
end
section
namespace Go.Abs
def JH (l:List Int):Prop:=∀ x∈l,0≤x∧x<256
instance (l:List Int):Decidable (JH l):=by unfold JH; infer_instance
theorem pU {Imm Im:Nat→Prop} {w w':World} {res:AV} {e:Ending} {x:Value} (he:e = .returned x) (hw:w'=w∨∃ q,w'=w.drewN q) (hR:R (cz w Imm Im) V0 w res x []):GM Imm Im w res e w':=by
 have hh:w'.heap=w.heap∧w'.os=w.os∧w'.tape=w.tape∧w'.output=w.output:=by rcases hw with rfl | ⟨q,rfl⟩ <;> exact ⟨rfl,rfl,rfl,rfl⟩
 obtain ⟨h1,h2,h3,h4⟩:=hh;refine ⟨x,he,⟨h2,h3,h4,by rw [h1]; exact aq _,fun k _ _=>by rw [h1]⟩,Imm,[],fun _ h=>h,fun _ h => .inl h,?_,List.nodup_nil,by simp⟩;exact fy (W:=[]) (fun _ h=>h) (fun _ h=>h) (fun _ _=>rfl) res x [] (iS _) (fun b _=>by rw [h1]) hR
theorem Bw {g:Gh} {V:bF→Value} {w:World} {l:List Int} {x:Value} {o:List Nat} (h:R g V w (.fl .shr 1 (List.map (Value.int .u8) l)) x o) :
  ∃ a n c,x = .slice a n c∧n≤c∧l.length=n∧(l≠[]→∃ ad,a=some ad)∧(∀ ad,a=some ad→∀ i,i<n→w.cell? (ad.add i)=some (.int .u8 (l.getD i 0))):=by
 simp only [R] at h;obtain ⟨a,n,c,⟨rfl,hnc⟩,hl,_,hr,_⟩:=h;have hn:l.length=n:=by simpa using hl
 refine ⟨a,n,c,rfl,hnc,hn,fun hne => ?_,fun ad ha i hi => ?_⟩
 ·obtain ⟨ad,e,_⟩:=hr (by simpa using hne);exact ⟨ad,e⟩
 ·have hne:List.map (Value.int .u8) l≠[]:=by intro e; simp at e; subst e; simp at hn; omega
  obtain ⟨ad',e,hc⟩:=hr hne;rw [ha] at e; cases e;have hi':i<l.length:=by omega
  refine hc i _ ?_;simp [hi']
theorem wq {g:Gh} {V:bF→Value} {w:World} {a b:AV} {xs:List Value} (h:Rs g V w [a,b] xs []):∃ x y,xs=[x,y]∧R g V w a x []∧R g V w b y []:=by simp only [Rs] at h;obtain ⟨x,ys,o1,o2,rfl,e,h1,y,zs,o3,o4,rfl,rfl,h2,rfl,rfl⟩:=h;simp at e;obtain ⟨rfl,rfl⟩:=e;exact ⟨x,y,rfl,h1,h2⟩
theorem FX {g:Gh} {V:bF→Value} {w:World} {a:AV} {xs:List Value} (h:Rs g V w [a] xs []):∃ x,xs=[x]∧R g V w a x []:=by simp only [Rs] at h;obtain ⟨x,ys,o1,o2,rfl,e,h1,rfl,rfl⟩:=h;simp at e;subst e;exact ⟨x,rfl,h1⟩
namespace Sh
def mj (s sep:List Int):Option Int:=if s.length<4294967281∧2≤sep.length∧sep.length<4294967281∧JH s∧JH sep then some (Lib.index (Lib.bytesOf s) (Lib.bytesOf sep)) else none
end Sh
theorem Bg {s sub:List UInt8} (h:s.length<sub.length):Lib.index s sub = -1:=by
 induction s with
 | nil =>
  unfold Lib.index
  cases sub with
  | nil=>simp at h
  | cons a t=>rfl
 | cons b l ih =>
  unfold Lib.index
  have:sub.isPrefixOf (b::l)=false:=by
   cases hp:sub.isPrefixOf (b::l) with
   | false=>rfl
   | true =>
    have:=(List.isPrefixOf_iff_prefix.1 hp).length_le;omega
  rw [this];simp only [Bool.false_eq_true,if_false];rw [ih (by simp at h; omega)];rfl
theorem uK {P:Program} {gl:List (Nat×List Value)} {f gb:Nat} {mx:Int} (hm:(gb,[.int .i64 mx])∈gl)
  (c1:∀ (a1 a2:Addr) (n c1 k c2:Nat) (xs ys:List Int) (m:Int) (w:World),xs.length=n→ys.length=k→(∀ x∈xs,0≤x∧x<256)→(∀ y∈ys,0≤y∧y<256)→(∀ i,i<n→w.cell? (a1.add i)=some (.int .u8 (xs.getD i 0)))→(∀ i,i<k→w.cell? (a2.add i)=some (.int .u8 (ys.getD i 0))) →
   n≤c1→n<4294967281→k≤9223372036854775807→w.cell? ⟨gb,0,none⟩=some (.int .i64 m)→Calls P f #[.slice (some a1) n c1,.slice (some a2) k c2] w fun e w'=>e = .returned (.int .i64 (Lib.index (Lib.bytesOf xs) (Lib.bytesOf ys)))∧∃ q,w'=w.drewN q)
  (c2:∀ (p q:Option Addr) (n c m d:Nat) (w:World),2≤m→n<m→m≤9223372036854775807→Calls P f #[.slice p n c,.slice q m d] w fun e w'=>e = .returned (.int .i64 (-1))∧w'=w)
  (s sep:List Int) (r:Int) (h:Sh.mj s sep=some r):fJ P gl f [.fl .shr 1 (List.map (Value.int .u8) s),.fl .shr 1 (List.map (Value.int .u8) sep)] (.v (.int .i64 r)):=by
 unfold Sh.mj at h;split at h
 ·rename_i hc
  cases h
  obtain ⟨h1,h2,h3,h4,h5⟩:=hc;intro Imm Im w xs himm hgl hR;obtain ⟨x,y,rfl,hx,hy⟩:=wq hR;obtain ⟨a,n,c,rfl,hnc,hn,hsa,hca⟩:=Bw hx;obtain ⟨b,k,d,rfl,hkd,hk,hsb,hcb⟩:=Bw hy;obtain ⟨bd,rfl⟩:=hsb (by intro e; subst e; simp at h2);by_cases hshort:n<k
  ·have e:Lib.index (Lib.bytesOf s) (Lib.bytesOf sep) = -1:=Bg (by simp only [Lib.bytesOf_length]; omega);rw [e];refine (c2 a (some bd) n c k d w (by omega) hshort (by omega)).mono ?_;rintro e w' ⟨rfl,rfl⟩;exact pU rfl (.inl rfl) (by simp [R])
  ·obtain ⟨ad,rfl⟩:=hsa (by intro e; subst e; simp at hn; omega);refine (c1 ad bd n c k d s sep mx w hn hk h4 h5 (hca ad rfl) (hcb bd rfl) hnc (by omega) (by omega) (((hgl _ hm).2 0).trans rfl)).mono ?_;rintro e w' ⟨rfl,q,rfl⟩;exact pU rfl (.inr ⟨q,rfl⟩) (by simp [R])
 ·cases h
end Go.Abs
end
section
namespace Go.Abs
def BP {E R:Type}:Option E→(E→Option R)→Option R→Option R
 | some x,f,_=>f x
 | none,_,n=>n
section
variable {g:Gh} {V:bF→Value} {w:World}
theorem BO (T:TypeId) (cs:List AV):uW (.v (.pointer none)) (.obox false T cs):=fun g V w x o h=>by
 simp only [R] at *
 exact ⟨fun h=>(by cases h),fun _=>h⟩
theorem ey (T:TypeId) {cs ds:List AV} (hs:nr cs ds):uW (.box T cs) (.obox true T ds):=fun g V w x o h=>by
 simp only [R] at *
 obtain ⟨b,xs,os,h1,h2,h3,h4⟩:=h
 exact ⟨fun _=>⟨b,xs,os,h1,h2,h3,hs _ _ _ _ _ h4⟩,fun h=>by cases h⟩
theorem Dy {a:Act} {es1 es2:List aJ} {t n:Nat} {T:TypeId} {cs:List AV} (hn:cs.length=n) (hcl:(es1++es2).all (bX (cH t 0 n))=true) (hcs:cW (cH t 0 n) cs=true)
  (h:eX g (es1++(t,.obox true T cs)::es2) a w):eX g (es1++(t,.box T cs)::es2) a w:=by
 subst hn;obtain ⟨V,o,hst,hes⟩:=h;obtain ⟨o1,o2',rfl,h1,h2'⟩:=aT.1 hes;obtain ⟨o3,o2,rfl,⟨h3,_⟩,h2⟩:=h2';simp only [R] at h3;obtain ⟨b,xs,os,hx,rfl,hh,hrs⟩:=h3.1 trivial;have hl:=aZ hrs;have hV':∀ l,fq (cH t 0 cs.length) l=false→rP V t 0 xs l=V l:=fun l hl'=>zO (by rw [hl]; exact hl');simp only [aR,ak] at hcl;refine ⟨rP V t 0 xs,_,⟨fun u=>hst.val u,hst.size,hst.defers,hst.dnd,hst.marks,hst.nodup,hst.own,hst.imm,hst.chg⟩,aT.2 ⟨o1,_,rfl,?_,?_⟩⟩
 ·exact dI (W:=cH t 0 cs.length) (fun _ h=>h) (fun _ h=>h) hV' es1 o1 (fun e he=>hcl e (.inl he)) (fun _ _=>rfl) h1
 ·refine ⟨b::os,o2,rfl,⟨?_,?_⟩,dI (W:=cH t 0 cs.length) (fun _ h=>h) (fun _ h=>h) hV' es2 o2 (fun e he=>hcl e (.inr he)) (fun _ _=>rfl) h2⟩
  ·simp only [R,rP];exact ⟨b,xs,os,hx,rfl,hh,cq (W:=cH t 0 cs.length) (fun _ h=>h) (fun _ h=>h) hV' cs xs os hcs (fun _ _=>rfl) hrs⟩
  ·intro b' hb' i hi;simp only [rP] at hb';rw [hx] at hb'; cases hb';rw [cell_of_row w b i _ T (0,0) hh];simp only [List.getElem?_toArray,rP,true_and,Nat.zero_le,Nat.zero_add,Nat.sub_zero];have:i<xs.length:=by rw [hl]; exact hi
   rw [if_pos this];simp [List.getD_eq_getElem?_getD,List.getElem?_eq_getElem this]
theorem Dg {a:Act} {es1 es2:List aJ} {t:Nat} {T:TypeId} {cs:List AV} (h:eX g (es1++(t,.obox false T cs)::es2) a w):eX g (es1++(t,.v (.pointer none))::es2) a w:=by obtain ⟨V,o,hst,hes⟩:=h;obtain ⟨o1,o2',rfl,h1,h2'⟩:=aT.1 hes;obtain ⟨o3,o2,rfl,⟨h3,_⟩,h2⟩:=h2';simp only [R] at h3;obtain ⟨hx,rfl⟩:=h3.2 trivial;refine ⟨V,_,hst,aT.2 ⟨o1,_,rfl,h1,[],o2,rfl,⟨?_,trivial⟩,h2⟩⟩;simp only [R];exact ⟨hx,trivial⟩
end
section
variable {P:Program}
theorem mp.args {f:FuncId} {args args' posts:List AV} {res:AV} (h:mp P f args' posts res) (hs:nr args args'):mp P f args posts res:=fun Imm Im w xs o0 hi hr=>h Imm Im w xs o0 hi (hs _ _ _ _ _ hr)
theorem Hn.args {f:FuncId} {args args':List AV} {res:AV} (h:Hn P f args' res) (hs:nr args args'):Hn P f args res:=fun Imm Im w xs o0 hi hr=>h Imm Im w xs o0 hi (hs _ _ _ _ _ hr)
end
section
variable {Q:Exit→Act→World→Prop} {g0:Gh} {rnd:Option Nat}
theorem rJ {E R:Type} {e:Option E} {d:E} {f:E→List AV} {r:R} {A:E→Option R} {B:Option R} {es:List aJ} (i n t:Nat) (T:TypeId) (h:BP e A B=some r)
  {es1:E→List aJ} {es0:List aJ} (he:es.take i++(t,.obox e.isSome T (f (e.getD d)))::es.drop (i+1)=es) (hn:∀ x,(f x).length=n)
  (hcl:(es.take i++es.drop (i+1)).all (bX (cH t 0 n))=true) (hcs:∀ x,cW (cH t 0 n) (f x)=true)
  (he1:∀ x,es.take i++(t,.box T (f x))::es.drop (i+1)=es1 x) (he0:es.take i++(t,.v (.pointer none))::es.drop (i+1)=es0)
  (hs:∀ x,e=some x→A x=some r→PT Q g0 .normal (es1 x)) (hz:e=none→B=some r→PT Q g0 .normal es0):PT Q g0 .normal es:=by
 intro g a w hg hsat;rw [← he] at hsat
 cases e with
 | some x =>
  refine hs x rfl h g a w hg ?_;rw [← he1];exact Dy (hn x) hcl (hcs x) hsat
 | none =>
  refine hz rfl h g a w hg ?_;rw [← he0];exact Dg hsat
end
section
variable {P:Program} {ty:TypeId} {pos:String} {aft:Array Edge} {gd:Option (Nat×Bool)}
theorem qV (op:BinOp) (t:TypeId) (x y:Operand) (p q:Option Addr):eqGuard op t x y (.pointer p) (.pointer q)=pure ():=by unfold eqGuard; cases op <;> simp
theorem sZ (N:List aJ) (d:Nat) {t t':TypeId} {x y:Operand} {u off:Nat} (neg:Bool) (hT:P.underlying t=some (.pointer (P.pointee t))) (hx:bm N x = .ptr u off) (hy:rd N y = .v (.pointer none)) :
  bh P ⟨some d,.binOp (if neg then .neq else .eql) t x y t',ty,pos,aft,gd⟩ N [] [(d,.v (.bool neg))] [.slot d]:=by
 refine bh.v rfl fun g V oN ac w hp => ?_;have h1:=bE hp.val hp.esN x;rw [hx] at h1;simp only [R] at h1;obtain ⟨b,_,h1,_⟩:=h1;have h2:=bP hp.val hp.esN hy
 cases neg
 ·have:=run_eql_pointer_nil (P:=P) (w:=w) t (some ⟨b,off,none⟩) hT;simp only [execOp,h1,h2,Sem.run_bind,qV,Bool.false_eq_true,if_false];simp [this]
 ·have:=run_neq_pointer_nil (P:=P) (w:=w) t (some ⟨b,off,none⟩) hT;simp only [execOp,h1,h2,Sem.run_bind,qV,if_true];simp [this]
theorem dC (N:List aJ) (d t:Nat) (hcl:fq [.slot d] (.slot t)=false):bh P ⟨some d,.move (.tmp t),ty,pos,aft,gd⟩ N [] [(d,.same (.slot t))] [.slot d] :=
 bh.value rfl (by simp [eh,hcl]) rfl fun g V oN a w hp=>⟨a.eval (.tmp t),by simp [execOp,pure],by simp only [R,Act.eval,hp.val]; exact ⟨trivial,trivial⟩⟩
theorem cI (N:List aJ) (d:Nat) (x:Operand) (t:Nat) {T:TypeId} {cs:List AV} (h:bm N x = .same (.slot t)) (hb:look N t = .box T cs) (hdt:d≠t) :
  bh P ⟨some d,.nilCheck x,ty,pos,aft,gd⟩ N [] [(d,.ptr t 0)] [.slot d]:=by
 refine bh.value rfl (by simp [eh,fq,hdt]) rfl fun g V oN a w hp => ?_;have hR:=bE hp.val hp.esN x;rw [h] at hR;simp only [R] at hR;obtain ⟨o',_,hE,_⟩:=cE hp.esN t;dsimp only at hE;rw [hb] at hE;simp only [R] at hE;obtain ⟨b,xs,os,h1,_⟩:=hE;have h2:a.eval x = .pointer (some ⟨b,0,none⟩):=by rw [hR.1,h1]
 refine ⟨a.eval x,?_,by simp only [R]; exact ⟨b,h1,h2,trivial⟩⟩;simp [execOp,h2]
end
end Go.Abs
end
section
namespace Go.Abs
section
variable {g:Gh} {V:bF→Value} {w:World}
end
section
variable {A:Type}
end
section
variable {P:Program} {ty:TypeId} {pos:String} {aft:Array Edge} {gd:Option (Nat×Bool)}
theorem eQ {A:Type} (N:List aJ) (d t i:Nat) {T e t' T':TypeId} (x y:Operand) {z by_:Nat} {my:Md} {s s1 s2:Bool} {cs:List AV} {xs ys zs:List IC} {l m q:List A} (hE:dO P T e z by_) (hx:bm N x = .same (.cell t i)) (hc:cs.getD i .any = .fr (.own e) s1 z xs) (hic:i<cs.length)
  (hy:rd N y = .fr my s2 z ys) (hn:xs.length=l.length * z) (hm:ys.length=m.length * z) (hq:cA by_ l m=some q) (hz:xs++ys=zs) (hs1:s1=true→s=true) (hs2:s2=true→s=true) (hdt:d≠t) {cs':List AV} (hcs:cs.set i .any=cs') (hcl:cW [.slot d] cs'=true) :
  bh P ⟨some d,.call ⟨.builtin .append,#[x,y],#[T,T]⟩,t',pos,aft,gd⟩ N [(t,.box T' cs)] [(t,.box T' cs'),(d,.fr (.own e) s z zs)] [.slot d]:=by
 subst hz hcs;unfold cA at hq;split at hq
 case isFalse=>cases hq
 rename_i hlim;obtain ⟨ti,zv,hT,hi,hz,hs,hzc,h0,rfl⟩:=hE.ex;refine bh.core fun g V oN oT a w hd hp => ?_;have hT':=hp.esT;simp only [Es] at hT';obtain ⟨ob,o2,rfl,hER,rfl⟩:=hT';obtain ⟨hR,htie⟩:=hER;have hax:=bE hp.val hp.esN x;rw [hx] at hax;simp only [R] at hax hR;obtain ⟨b,cur,os,hpt,rfl,hh,hrs⟩:=hR;dsimp only at htie;obtain ⟨o1,o3,hperm,hRi,hrest⟩:=fu i hrs hic;rw [hc] at hRi;have hlen:=aZ hrs;have hcell:=htie b hpt i hic;rw [cell_of_row w b i _ T' (0,0) hh] at hcell;have hil:i<cur.length:=by omega
 have hVc:V (.cell t i)=cur.getD i undef:=by simp only [List.getElem?_toArray,List.getElem?_eq_getElem hil,Option.some.injEq] at hcell;rw [← hcell]; simp [hil]
 obtain ⟨u0,hu0⟩:∃ u,u=cur.getD i undef:=⟨_,rfl⟩;rw [← hu0] at hVc hRi;obtain ⟨us,hRi,hix⟩:=mu hRi;rw [← cR hix] at hn;simp only [R] at hRi;obtain ⟨a0,n0,c0,⟨h3,_⟩,hl0,hone0,_,hown,hob⟩:=hRi;obtain ⟨o',_,hr⟩:=kt hp.val hp.esN y;rw [hy] at hr;obtain ⟨vs,hr,hiy⟩:=mu hr;rw [← cR hiy] at hm;simp only [R] at hr;obtain ⟨A,m',c,⟨he,_⟩,hl,hone,hrd,_⟩:=hr;have em:m'=m.length:=Nat.eq_of_mul_eq_mul_right h0 (by omega);subst em;have en:n0=l.length:=Nat.eq_of_mul_eq_mul_right h0 (by omega);subst en;obtain ⟨v',w',hrun,hown',hg,hblk⟩:=fv (P:=P) (ty:=t') (c:=c) hT hi hz hs hzc h0 hown hl hrd hone (by simp only [maxLen]; omega) (by simpa using hlim.1)
 have hrun':(execOp a.eval ⟨some d,.call ⟨.builtin .append,#[x,y],#[T,T]⟩,t',pos,aft,gd⟩).run P w = .ok (.value v') w':=by
  have h4:a.eval x=u0:=by rw [hax.1,hVc]
  simp [execOp,resolve,invoke,builtin,he,h4,hrun]
 refine (Yl.val hrun').mono ?_;rintro v w2 ⟨rfl,rfl⟩;have hlt:d<g.n:=hd d rfl;have hchg:dq o1 w w2:=by rw [hob]; exact dq.of_grown hg
 have hin1:∀ c,c∈o1→c∈b::os:=fun c hc'=>by have:=hperm.mem_iff.2 (List.mem_append.2 (.inl hc')); simp [this]
 have hin3:∀ c,c∈o3→c∈b::os:=fun c hc'=>by have:=hperm.mem_iff.2 (List.mem_append.2 (.inr hc')); simp [this]
 have hinb:∀ c,c∈b::o3→c∈b::os:=by
  intro c hc';rcases List.mem_cons.1 hc' with h | h
  ·simp [h]
  ·exact hin3 c h
 have hnd2:(b::os).Nodup:=by have:=(List.nodup_append.1 hp.nodup).2.1; simpa using this
 have hnd3:(b::(o1++o3)).Nodup:=((hperm.cons b).nodup_iff).1 hnd2;have hlts:∀ c,c∈b::os→c<w.heap.size∧¬ g.imm c:=fun c hc'=>hp.own c (by simp at hc' ⊢; exact .inr hc')
 have hkeep:∀ c,c∈b::o3∨g.imm c→w2.heap[c]? = w.heap[c]? := by
  intro c hc';rcases hc' with hc' | hc'
  ·refine hchg.block c (hlts c (hinb c hc')).1 fun h1 => ?_;simp only [List.nodup_cons,List.mem_append,List.nodup_append] at hnd3;rcases List.mem_cons.1 hc' with rfl | h3
   ·exact hnd3.1 (.inl h1)
   ·exact hnd3.2.2.2 c h1 c h3 rfl
  ·exact hchg.block c (hp.imm c hc') fun h1=>(hlts c (hin1 c h1)).2 hc'
 have hdtl:∀ l,fq [.slot d] l=false→ck V d v l=V l:=fun l hl=>bY hl;refine ⟨g,ck V d v,(b::o3)++v.ownBlock.toList,g.le_refl,fun b hb => .inl hb,fun b hb=>Nat.lt_of_lt_of_le (hp.imm b (.inl hb)) hchg.size,?_,hdtl,fun u=>cU hp.val hp.size hlt u,?_,?_,?_⟩
 ·exact hchg.mono fun c hc'=>by simpa using hin1 c hc'
 ·have hVt:ck V d v (.slot t)=V (.slot t):=by simp only [ck]; rw [if_neg fun e=>hdt e.symm]
  have hVtc:∀ j,ck V d v (.cell t j)=V (.cell t j):=fun j=>rfl;refine ⟨b::o3,v.ownBlock.toList,rfl,⟨?_,?_⟩,v.ownBlock.toList,[],by simp,⟨?_,trivial⟩,rfl⟩
  ·show R g _ _ (.box T' _) (ck V d v (.slot t)) _;rw [hVt];simp only [R];refine ⟨b,cur,o3,hpt,rfl,by rw [hkeep b (.inl (by simp))]; exact hh,?_⟩;exact cq (W:=[.slot d]) (fun _ h=>h) (fun _ h=>h) hdtl _ _ _ hcl (fun c hc'=>hkeep c (hc'.imp (fun h=>by simp [h]) id)) hrest
  ·intro b' hb' j hj;rw [hVt] at hb';rw [hVtc]
   rw [World.cell?_of_block (w:=w) (by
    rw [hpt] at hb'; cases hb'
    exact hkeep b (.inl (by simp)))]
   exact htie b' hb' j (by simpa using hj)
  ·show R g _ _ _ (ck V d v (.slot d)) _;rw [cC];refine mw (fw hown' fun u hu => ?_) (dc (fun b h=>h) (fun c hc'=>hkeep c (.inr hc')) _ _ (gU (kZ hs1 hix) (kZ hs2 hiy)));rcases List.mem_append.1 hu with h | h
   ·exact hone0 u h
   ·exact hone u h
 ·refine List.nodup_append.2 ⟨?_,by cases v.ownBlock <;> simp,?_⟩
  ·have:(o1++(b::o3)).Nodup:=(List.perm_middle.nodup_iff).2 hnd3;exact (List.nodup_append.1 this).2.1
  ·intro c hc' c2 hc2 e;subst e;have hvb:v.ownBlock=some c:=by cases hv:v.ownBlock <;> simp [hv] at hc2 ⊢; exact hc2.symm
   rcases hblk with h | h
   ·have hin:c∈o1:=by rw [hob,← h,hvb]; simp
    simp only [List.nodup_cons,List.mem_append,List.nodup_append] at hnd3;rcases List.mem_cons.1 hc' with rfl | h3
    ·exact hnd3.1 (.inl hin)
    ·exact hnd3.2.2.2 c hin c h3 rfl
   ·rw [hvb] at h
    cases h
    have:=(hlts w.heap.size (hinb _ hc')).1;omega
 ·intro c hc';rcases List.mem_append.1 hc' with hc' | hc'
  ·have h4:c∈b::os:=hinb c hc';exact ⟨.inl (by simpa using h4),Nat.lt_of_lt_of_le (hlts c h4).1 hchg.size,(hlts c h4).2⟩
  ·have hvb:v.ownBlock=some c:=by cases hv:v.ownBlock <;> simp [hv] at hc' ⊢; exact hc'.symm
   have hlt2:=(hown'.lt c hvb).2;rcases hblk with h | h
   ·have hin:c∈o1:=by rw [hob,← h,hvb]; simp
    exact ⟨.inl (by simpa using hin1 c hin),hlt2,(hlts c (hin1 c hin)).2⟩
   ·rw [hvb] at h
    cases h
    exact ⟨.inr (Nat.le_refl _),hlt2,fun hi=>Nat.lt_irrefl _ (hp.imm _ hi)⟩
def EI (N:List aJ) (x:Operand):AV :=
 match rd N x with
 | .fl .ro z xs => .fl .ro z xs
 | .fr .ro false z cs => .fr .ro false z cs
 | _=>lN N x
theorem HW {g g':Gh} {V V':bF→Value} {w:World} {N:List aJ} {oN:List Nat} {a:Act} (hI:g'.Imm=g.Imm) (hM:∀ b,g.Im b∨b∈oN→g'.Im b) (hv:∀ t,V (.slot t)=a.tmps.getD t undef) (hN:Es g V w N oN) (x:Operand):R g' V' w (EI N x) (a.eval x) []:=by
 obtain ⟨o',_,hr⟩:=kt hv hN x;have hd:=Ca (V':=V') hI hM hv hN x;unfold EI;split
 ·rename_i z xs hx;rw [hx] at hr;simp only [R,bW] at *;obtain ⟨A,n,c,h1,h2,h3,h4,h5,h6⟩:=hr;exact ⟨A,n,c,h1,h2,h3,h4,trivial,fun hne=>let ⟨ad,e,hi⟩:=h6 hne; ⟨ad,e,hI ▸ hi⟩⟩
 ·rename_i z cs hx;rw [hx] at hr;simp only [R,bW] at *;obtain ⟨vs,A,n,c,h1,h2,h3,h4,⟨h5,h6⟩,h7⟩:=hr;exact ⟨vs,A,n,c,h1,h2,h3,h4,⟨trivial,fun hne=>let ⟨ad,e,hi⟩:=h6 hne; ⟨ad,e,hI ▸ hi⟩⟩,dc (fun b h=>by simp only [xo] at *; exact hI ▸ h) (fun _ _=>rfl) cs vs h7⟩
 ·exact hd
theorem CD {g g':Gh} {V V':bF→Value} {w:World} {N:List aJ} {oN:List Nat} {a:Act} (hI:g'.Imm=g.Imm) (hM:∀ b,g.Im b∨b∈oN→g'.Im b) (hv:∀ t,V (.slot t)=a.tmps.getD t undef) (hN:Es g V w N oN):∀ (xs:List Operand),Rs g' V' w (xs.map (EI N)) (xs.map a.eval) []
 | []=>by simp [Rs]
 | x::xs=>by
  simp only [List.map_cons,Rs]
  exact ⟨_,_,[],[],rfl,rfl,HW hI hM hv hN x,CD hI hM hv hN xs⟩
theorem EH (N:List aJ) (d:Nat) (f:FuncId) {cal:Operand} {args:Array Operand} {ats:Array TypeId} (avs:List AV) (res:AV) (hcal:rd N cal = .v (.func (.func f) #[] #[])) (hrun:∀ args w,(callFunc f args).run P w = .ok (.enter f args) w)
  (hav:args.toList.map (EI N)=avs) (hf:bA P f avs res) (hcl:bq res=true) (hsh:eW res=true) :
  bh P ⟨some d,.call ⟨.value cal,args,ats⟩,ty,pos,aft,gd⟩ N [] [(d,res)] [.slot d]:=by
 refine bh.fresh rfl (ft _ _ hcl) fun g V oN a w hp => ?_;have hcv:=bP hp.val hp.esN hcal
 have hr:(execOp a.eval ⟨some d,.call ⟨.value cal,args,ats⟩,ty,pos,aft,gd⟩).run P w = .ok (.enter f (args.map a.eval)) w:=by simp [execOp,resolve,hcv,Deferred.ofValue,invoke,hrun]
 have hargs:Rs (cz w g.Imm (fun b=>g.Im b∨b∈oN)) V0 w avs (args.toList.map a.eval) []:=by rw [← hav];exact CD (g:=g) (g':=cz w g.Imm (fun b=>g.Im b∨b∈oN)) rfl (fun b hb=>hb) hp.val hp.esN _
 have hc:=hf g.Imm (fun b=>g.Im b∨b∈oN) w _ (fun b hb=>by
  rcases hb with hb | hb | hb
  ·exact hp.imm b (.inl hb)
  ·exact hp.imm b (.inr hb)
  ·exact (hp.own b (by simp [hb])).1) hargs
 have ea:(args.toList.map a.eval).toArray=args.map a.eval:=by rw [← Array.toList_map]
 rw [ea] at hc;refine Yl.call hr (hc.mono ?_);rintro e w' ⟨x,rfl,hchg,Imm',o,hI,hnew,hR,hnd,hfr⟩;refine ⟨x,rfl,hchg,{ g with Imm:=fun b=>Imm' b },o,⟨rfl,rfl,rfl,rfl,rfl,hI,fun b hb => ?_⟩,hnew,?_,hnd,hfr⟩
 ·rcases hnew b hb with h | h
  ·exact .inl h
  ·exact .inr (.inl (Nat.le_trans hp.base h.1))
 ·exact bV (g:=cz w Imm' (fun b=>g.Im b∨b∈oN)) (g':={ g with Imm:=fun b=>Imm' b }) (fun _ h=>h) res x o hcl (.inr hsh) hR
end
end Go.Abs
end
section
namespace Go.Abs
open Go.WideShapes
section
variable {H:Type} {enc:TypeId×Value→H} {P:Program} {W:World} {sp:Nat→Bool} {hd:Bool} {t:TypeId}
end
end Go.Abs
end
