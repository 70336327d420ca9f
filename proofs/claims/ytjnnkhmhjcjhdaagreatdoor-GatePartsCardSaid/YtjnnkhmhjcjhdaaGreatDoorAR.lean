import Derived.Lib.IndexLaws
import Derived.Lib.Bytes
import Derived.Deep.Draws
import Derived.Laws.Pointers
import Derived.SizedLaws
import Derived.Test.YtjnnkhmhjcjhdaaGreatDoorAL
section
namespace Go.Abs
def Ec (gl:List (Nat×List Value)) (I:Nat→Prop) (w:World):Prop:=∀ p∈gl,I p.1∧∀ j,w.cell? ⟨p.1,j,none⟩=p.2[j]?
def ir (P:Program) (gl:List (Nat×List Value)) (f:FuncId) (args:List AV) (res:AV):Prop :=
 ∀ (Imm Im:Nat→Prop) (w:World) (xs:List Value),(∀ b,Imm b∨Im b→b<w.heap.size)→Ec gl (fun b=>Imm b∨Im b) w→Rs (eM w Imm Im) V0 w args xs []→Calls P f xs.toArray w (Gs Imm Im w res)
theorem ir.args {P:Program} {gl:List (Nat×List Value)} {f:FuncId} {as bs:List AV} {res:AV} (h:ir P gl f as res) (hs:sX bs as):ir P gl f bs res:=by
 intro Imm Im w xs himm hg hR
 exact h Imm Im w xs himm hg (hs _ _ _ _ _ hR)
section
variable {P:Program} {Q:Exit→Act→World→Prop} {g0:Gh} {rnd:Option Nat}
theorem FH {f:FuncId} {fn:Func} {c:Code} {gl:List (Nat×List Value)} {args:List AV} {res:AV} (hf:P.funcs[f]? = some fn) (hb:fn.body=some c) (hk:args.length≤fn.ntmps) (hcl:aW args=true) (hnb:args.all eN=true)
  (h:∀ g0:Gh,g0.n=fn.ntmps→g0.io=[]→HT none P (Fs P fn g0.Imm g0.Im g0.w0 res) g0 c (cC args++[(fn.ntmps,.glob gl)])):ir P gl f args res:=by
 intro Imm Im w xs himm hgl hR
 have hlen:=aN hR
 refine callsIn_wide.1 (callsIn_of_wp_marks (n:=0) (F:=Fence.wide) hf hb trivial ?_)
 have hg:=h ⟨fn.ntmps,w,[],Imm,Im,[]⟩ rfl rfl ⟨fn.ntmps,w,[],Imm,Im,[]⟩ { tmps:=xs.toArray++Array.replicate (fn.ntmps-xs.toArray.size) undef,defers:=[] } w (Gh.le_refl _)
 refine hg ⟨fun l=>match l with | .slot t=>(xs.toArray++Array.replicate (fn.ntmps-xs.toArray.size) undef).getD t undef | .cell _ _=>undef,[],⟨fun _=>rfl,?_,rfl,List.nodup_nil,by simp,List.nodup_nil,by simp,himm,dq.refl _ _⟩,aB.2 ⟨[],[],rfl,?_,?_⟩⟩
 ·simp; omega
 ·unfold cC
  refine uZ (g:=⟨fn.ntmps,w,[],Imm,Im,[]⟩) (fun av x o hc hr=>cu (fun _ h=>h) av x o hc (.inl fun _ h=>h) hr) args xs 0 hcl hnb ?_ ?_
  ·exact bA (g:=eM w Imm Im) (g':=⟨fn.ntmps,w,[],Imm,Im,[]⟩) (V:=V0) (V':=V0) (fun _ h=>h) args xs [] hcl (.inl fun _ h=>h) hR
  ·intro i x hx
   have hi:=(List.getElem?_eq_some_iff.1 hx).1
   simp only [Nat.zero_add,Array.getD_eq_getD_getElem?]
   rw [Array.getElem?_append_left (by simpa using hi)]
   simp [hx]
 ·exact ⟨[],[],rfl,⟨by simp only [R]; exact ⟨hgl,trivial⟩,trivial⟩,rfl⟩
end
section
variable {P:Program} {ty:TypeId} {pos:String} {aft:Array Edge} {gd:Option (Nat×Bool)}
theorem sx (N:List az) (d n:Nat) (f:FuncId) {gl gl':List (Nat×List Value)} {cal:Operand} {args:Array Operand} {ats:Array TypeId} (avs:List AV) (res:AV) (hcal:rd N cal = .v (.func (.func f) #[] #[])) (hrun:∀ args w,(callFunc f args).run P w = .ok (.enter f args) w)
  (hav:args.toList.map (mo N)=avs) (hgl:look N n = .glob gl') (hsub:∀ p∈gl,p∈gl') (hf:ir P gl f avs res) (hcl:aT res=true) (hsh:gC res=true) :
  aJ P ⟨some d,.call ⟨.value cal,args,ats⟩,ty,pos,aft,gd⟩ N [] [(d,res)] [.slot d]:=by
 refine aJ.fresh rfl (fo _ _ hcl) fun g V oN a w hp => ?_
 have hcv:=bL hp.val hp.esN hcal
 have hr:(execOp a.eval ⟨some d,.call ⟨.value cal,args,ats⟩,ty,pos,aft,gd⟩).run P w = .ok (.enter f (args.map a.eval)) w:=by
  simp [execOp,resolve,hcv,Deferred.ofValue,invoke,hrun]
 have hargs:Rs (eM w g.Imm (fun b=>g.Im b∨b∈oN)) V0 w avs (args.toList.map a.eval) []:=by
  rw [← hav]
  exact iJ (g:=g) (g':=eM w g.Imm (fun b=>g.Im b∨b∈oN)) rfl (fun b hb=>hb) hp.val hp.esN _
 obtain ⟨og,_,hRg,_⟩:=cE hp.esN n
 dsimp only at hRg
 rw [hgl] at hRg
 simp only [R] at hRg
 have hc:=hf g.Imm (fun b=>g.Im b∨b∈oN) w _ (fun b hb=>by
  rcases hb with hb | hb | hb
  ·exact hp.imm b (.inl hb)
  ·exact hp.imm b (.inr hb)
  ·exact (hp.own b (by simp [hb])).1) (fun p hp'=>by
  obtain ⟨h1,h2⟩:=hRg.1 p (hsub p hp')
  exact ⟨h1.imp id .inl,h2⟩) hargs
 have ea:(args.toList.map a.eval).toArray=args.map a.eval:=by rw [← Array.toList_map]
 rw [ea] at hc
 refine Yl.call hr (hc.mono ?_)
 rintro e w' ⟨x,rfl,hchg,Imm',o,hI,hnew,hR,hnd,hfr⟩
 refine ⟨x,rfl,hchg,{ g with Imm:=fun b=>Imm' b },o,⟨rfl,rfl,rfl,rfl,rfl,hI,fun b hb => ?_⟩,hnew,?_,hnd,hfr⟩
 ·rcases hnew b hb with h | h
  ·exact .inl h
  ·exact .inr (.inl (Nat.le_trans hp.base h.1))
 ·exact cu (g:=eM w Imm' (fun b=>g.Im b∨b∈oN)) (g':={ g with Imm:=fun b=>Imm' b }) (fun _ h=>h) res x o hcl (.inr hsh) hR
theorem lZ (N:List az) (d n:Nat) {T:TypeId} {td:TypeDesc} {x:Operand} {gl:List (Nat×List Value)} (b k:Nat) (vs:List Value) (v:Value) (hT:P.underlying T=some td) (ha:cO td=false) (hx:rd N x = .v (.pointer (some ⟨b,k,none⟩))) (hgl:look N n = .glob gl)
  (hm:(b,vs)∈gl) (hv:vs[k]? = some v):aJ P ⟨some d,.load T x,ty,pos,aft,gd⟩ N [] [(d,.v v)] [.slot d]:=by
 refine aJ.v rfl fun g V oN a w hp => ?_
 have h1:=bL hp.val hp.esN hx
 obtain ⟨og,_,hRg,_⟩:=cE hp.esN n
 dsimp only at hRg
 rw [hgl] at hRg
 simp only [R] at hRg
 have hc:=((hRg.1 _ hm).2 k).trans hv
 have:=il (P:=P) hT ha hc
 simp [execOp,Instr.loadAt,h1,Instr.sureAddr,this]
theorem sK (N:List az) (d n:Nat) {T:TypeId} {td:TypeDesc} {x:Operand} {gl:List (Nat×List Value)} (b:Nat) (vs:List Value) (hT:P.underlying T=some td) (ha:cO td=true) (hs:(P.info? T).map (·.size)=some vs.length) (hx:rd N x = .v (.pointer (some ⟨b,0,none⟩))) (hgl:look N n = .glob gl)
  (hm:(b,vs)∈gl):aJ P ⟨some d,.load T x,ty,pos,aft,gd⟩ N [] [(d,.v (.agg vs.toArray))] [.slot d]:=by
 refine aJ.v rfl fun g V oN a w hp => ?_
 have h1:=bL hp.val hp.esN hx
 obtain ⟨og,_,hRg,_⟩:=cE hp.esN n
 dsimp only at hRg
 rw [hgl] at hRg
 simp only [R] at hRg
 have hc:=(hRg.1 _ hm).2
 have:=iw (P:=P) (xs:=vs) (a:=⟨b,0,none⟩) hT ha hs rfl (fun j u hu=>by rw [bG,Nat.zero_add]; exact (hc j).trans hu)
 simp [execOp,Instr.loadAt,h1,Instr.sureAddr,this]
end
end Go.Abs
end
section
namespace Go.Abs
def dv (l:List Int):Prop:=∀ x∈l,0≤x∧x<256
instance (l:List Int):Decidable (dv l):=by unfold dv; infer_instance
theorem mQ {Imm Im:Nat→Prop} {w w':World} {res:AV} {e:Ending} {x:Value} (he:e = .returned x) (hw:w'=w∨∃ q,w'=w.drewN q) (hR:R (eM w Imm Im) V0 w res x []):Gs Imm Im w res e w':=by
 have hh:w'.heap=w.heap∧w'.os=w.os∧w'.tape=w.tape∧w'.output=w.output:=by
  rcases hw with rfl | ⟨q,rfl⟩ <;> exact ⟨rfl,rfl,rfl,rfl⟩
 obtain ⟨h1,h2,h3,h4⟩:=hh
 refine ⟨x,he,⟨h2,h3,h4,by rw [h1]; exact Nat.le_refl _,fun k _ _=>by rw [h1]⟩,Imm,[],fun _ h=>h,fun _ h => .inl h,?_,List.nodup_nil,by simp⟩
 exact jG (W:=[]) (fun _ h=>h) (fun _ h=>h) (fun _ _=>rfl) res x [] (iN _) (fun b _=>by rw [h1]) hR
theorem xX {g:Gh} {V:aZ→Value} {w:World} {l:List Int} {x:Value} {o:List Nat} (h:R g V w (.fl .shr 1 (List.map (Value.int .u8) l)) x o) :
  ∃ a n c,x = .slice a n c∧n≤c∧l.length=n∧(l≠[]→∃ ad,a=some ad)∧(∀ ad,a=some ad→∀ i,i<n→w.cell? (ad.add i)=some (.int .u8 (l.getD i 0))):=by
 simp only [R] at h
 obtain ⟨a,n,c,⟨rfl,hnc⟩,hl,_,hr,_⟩:=h
 have hn:l.length=n:=by simpa using hl
 refine ⟨a,n,c,rfl,hnc,hn,fun hne => ?_,fun ad ha i hi => ?_⟩
 ·obtain ⟨ad,e,_⟩:=hr (by simpa using hne)
  exact ⟨ad,e⟩
 ·have hne:List.map (Value.int .u8) l≠[]:=by
   intro e; simp at e; subst e; simp at hn; omega
  obtain ⟨ad',e,hc⟩:=hr hne
  rw [ha] at e; cases e
  have hi':i<l.length:=by omega
  refine hc i _ ?_
  simp [hi']
theorem sc {g:Gh} {V:aZ→Value} {w:World} {a b:AV} {xs:List Value} (h:Rs g V w [a,b] xs []):∃ x y,xs=[x,y]∧R g V w a x []∧R g V w b y []:=by
 simp only [Rs] at h
 obtain ⟨x,ys,o1,o2,rfl,e,h1,y,zs,o3,o4,rfl,rfl,h2,rfl,rfl⟩:=h
 simp at e
 obtain ⟨rfl,rfl⟩:=e
 exact ⟨x,y,rfl,h1,h2⟩
namespace Sh
def ig (s sep:List Int):Option Int:=if s.length<4294967281∧2≤sep.length∧sep.length<4294967281∧dv s∧dv sep then some (Lib.index (Lib.bytesOf s) (Lib.bytesOf sep)) else none
end Sh
theorem wD {s sub:List UInt8} (h:s.length<sub.length):Lib.index s sub = -1:=by
 induction s with
 | nil =>
  unfold Lib.index
  cases sub with
  | nil=>simp at h
  | cons a t=>rfl
 | cons b l ih =>
  unfold Lib.index
  have:sub.isPrefixOf (b::l)=false:=by
   cases hp:sub.isPrefixOf (b::l) with
   | false=>rfl
   | true =>
    have:=(List.isPrefixOf_iff_prefix.1 hp).length_le
    omega
  rw [this]
  simp only [Bool.false_eq_true,if_false]
  rw [ih (by simp at h; omega)]
  rfl
theorem qP {P:Program} {gl:List (Nat×List Value)} {f gb:Nat} {mx:Int} (hm:(gb,[.int .i64 mx])∈gl)
  (c1:∀ (a1 a2:Addr) (n c1 k c2:Nat) (xs ys:List Int) (m:Int) (w:World),xs.length=n→ys.length=k→(∀ x∈xs,0≤x∧x<256)→(∀ y∈ys,0≤y∧y<256)→(∀ i,i<n→w.cell? (a1.add i)=some (.int .u8 (xs.getD i 0)))→(∀ i,i<k→w.cell? (a2.add i)=some (.int .u8 (ys.getD i 0))) →
   n≤c1→n<4294967281→k≤9223372036854775807→w.cell? ⟨gb,0,none⟩=some (.int .i64 m)→Calls P f #[.slice (some a1) n c1,.slice (some a2) k c2] w fun e w'=>e = .returned (.int .i64 (Lib.index (Lib.bytesOf xs) (Lib.bytesOf ys)))∧∃ q,w'=w.drewN q)
  (c2:∀ (p q:Option Addr) (n c m d:Nat) (w:World),2≤m→n<m→m≤9223372036854775807→Calls P f #[.slice p n c,.slice q m d] w fun e w'=>e = .returned (.int .i64 (-1))∧w'=w)
  (s sep:List Int) (r:Int) (h:Sh.ig s sep=some r):ir P gl f [.fl .shr 1 (List.map (Value.int .u8) s),.fl .shr 1 (List.map (Value.int .u8) sep)] (.v (.int .i64 r)):=by
 unfold Sh.ig at h
 split at h
 ·rename_i hc
  cases h
  obtain ⟨h1,h2,h3,h4,h5⟩:=hc
  intro Imm Im w xs himm hgl hR
  obtain ⟨x,y,rfl,hx,hy⟩:=sc hR
  obtain ⟨a,n,c,rfl,hnc,hn,hsa,hca⟩:=xX hx
  obtain ⟨b,k,d,rfl,hkd,hk,hsb,hcb⟩:=xX hy
  obtain ⟨bd,rfl⟩:=hsb (by intro e; subst e; simp at h2)
  by_cases hshort:n<k
  ·have e:Lib.index (Lib.bytesOf s) (Lib.bytesOf sep) = -1:=wD (by simp only [Lib.bytesOf_length]; omega)
   rw [e]
   refine (c2 a (some bd) n c k d w (by omega) hshort (by omega)).mono ?_
   rintro e w' ⟨rfl,rfl⟩
   exact mQ rfl (.inl rfl) (by simp [R])
  ·obtain ⟨ad,rfl⟩:=hsa (by intro e; subst e; simp at hn; omega)
   refine (c1 ad bd n c k d s sep mx w hn hk h4 h5 (hca ad rfl) (hcb bd rfl) hnc (by omega) (by omega) (((hgl _ hm).2 0).trans rfl)).mono ?_
   rintro e w' ⟨rfl,q,rfl⟩
   exact mQ rfl (.inr ⟨q,rfl⟩) (by simp [R])
 ·cases h
end Go.Abs
end
section
namespace Go.Abs
section
variable {g:Gh} {V:aZ→Value} {w:World}
theorem Aa {a:Act} {es1 es2:List az} {t n:Nat} {T:TypeId} {cs:List AV} (hn:cs.length=n) (hcl:(es1++es2).all (bz (bO t 0 n))=true) (hcs:cM (bO t 0 n) cs=true)
  (h:eI g (es1++(t,.obox true T cs)::es2) a w):eI g (es1++(t,.box T cs)::es2) a w:=by
 subst hn
 obtain ⟨V,o,hst,hes⟩:=h
 obtain ⟨o1,o2',rfl,h1,h2'⟩:=aB.1 hes
 obtain ⟨o3,o2,rfl,⟨h3,_⟩,h2⟩:=h2'
 simp only [R] at h3
 obtain ⟨b,xs,os,hx,rfl,hh,hrs⟩:=h3.1 trivial
 have hl:=aN hrs
 have hV':∀ l,fG (bO t 0 cs.length) l=false→kz V t 0 xs l=V l:=fun l hl'=>ru (by rw [hl]; exact hl')
 simp only [List.all_eq_true,List.mem_append] at hcl
 refine ⟨kz V t 0 xs,_,⟨fun u=>hst.val u,hst.size,hst.defers,hst.dnd,hst.marks,hst.nodup,hst.own,hst.imm,hst.chg⟩,aB.2 ⟨o1,_,rfl,?_,?_⟩⟩
 ·exact dl (W:=bO t 0 cs.length) (fun _ h=>h) (fun _ h=>h) hV' es1 o1 (fun e he=>hcl e (.inl he)) (fun _ _=>rfl) h1
 ·refine ⟨b::os,o2,rfl,⟨?_,?_⟩,dl (W:=bO t 0 cs.length) (fun _ h=>h) (fun _ h=>h) hV' es2 o2 (fun e he=>hcl e (.inr he)) (fun _ _=>rfl) h2⟩
  ·simp only [R,kz]
   exact ⟨b,xs,os,hx,rfl,hh,cR (W:=bO t 0 cs.length) (fun _ h=>h) (fun _ h=>h) hV' cs xs os hcs (fun _ _=>rfl) hrs⟩
  ·intro b' hb' i hi
   simp only [kz] at hb'
   rw [hx] at hb'; cases hb'
   rw [cell_of_row w b i _ T (0,0) hh]
   simp only [List.getElem?_toArray,kz,true_and,Nat.zero_le,Nat.zero_add,Nat.sub_zero]
   have:i<xs.length:=by rw [hl]; exact hi
   rw [if_pos this]
   simp [List.getD_eq_getElem?_getD,List.getElem?_eq_getElem this]
end
section
variable {P:Program}
theorem oM.args {f:FuncId} {args args' posts:List AV} {res:AV} (h:oM P f args' posts res) (hs:sX args args'):oM P f args posts res:=fun Imm Im w xs o0 hi hr=>h Imm Im w xs o0 hi (hs _ _ _ _ _ hr)
theorem IB.args {f:FuncId} {args args':List AV} {res:AV} (h:IB P f args' res) (hs:sX args args'):IB P f args res:=fun Imm Im w xs o0 hi hr=>h Imm Im w xs o0 hi (hs _ _ _ _ _ hr)
end
section
variable {Q:Exit→Act→World→Prop} {g0:Gh} {rnd:Option Nat}
end
section
variable {P:Program} {ty:TypeId} {pos:String} {aft:Array Edge} {gd:Option (Nat×Bool)}
theorem db (N:List az) (d t:Nat) (hcl:fG [.slot d] (.slot t)=false):aJ P ⟨some d,.move (.tmp t),ty,pos,aft,gd⟩ N [] [(d,.same (.slot t))] [.slot d] :=
 aJ.value rfl (by simp [dQ,hcl]) rfl fun g V oN a w hp=>⟨a.eval (.tmp t),by simp [execOp,pure],by simp only [R,Act.eval,hp.val]; exact ⟨trivial,trivial⟩⟩
theorem eE (N:List az) (d:Nat) (x:Operand) (t:Nat) {T:TypeId} {cs:List AV} (h:aK N x = .same (.slot t)) (hb:look N t = .box T cs) (hdt:d≠t) :
  aJ P ⟨some d,.nilCheck x,ty,pos,aft,gd⟩ N [] [(d,.ptr t 0)] [.slot d]:=by
 refine aJ.value rfl (by simp [dQ,fG,hdt]) rfl fun g V oN a w hp => ?_
 have hR:=aY hp.val hp.esN x
 rw [h] at hR
 simp only [R] at hR
 obtain ⟨o',_,hE,_⟩:=cE hp.esN t
 dsimp only at hE
 rw [hb] at hE
 simp only [R] at hE
 obtain ⟨b,xs,os,h1,_⟩:=hE
 have h2:a.eval x = .pointer (some ⟨b,0,none⟩):=by rw [hR.1,h1]
 refine ⟨a.eval x,?_,by simp only [R]; exact ⟨b,h1,h2,trivial⟩⟩
 simp [execOp,h2]
end
end Go.Abs
end
section
namespace Go.Abs
section
variable {g:Gh} {V:aZ→Value} {w:World}
end
section
variable {A:Type}
end
section
variable {P:Program} {ty:TypeId} {pos:String} {aft:Array Edge} {gd:Option (Nat×Bool)}
theorem iG {A:Type} (N:List az) (d t i:Nat) {T e t' T':TypeId} (x y:Operand) {z by_:Nat} {my:Md} {s s1 s2:Bool} {cs:List AV} {xs ys zs:List IC} {l m q:List A} (hE:fM P T e z by_) (hx:aK N x = .same (.cell t i)) (hc:cs.getD i .any = .fr (.own e) s1 z xs) (hic:i<cs.length)
  (hy:rd N y = .fr my s2 z ys) (hn:xs.length=l.length * z) (hm:ys.length=m.length * z) (hq:cq by_ l m=some q) (hz:xs++ys=zs) (hs1:s1=true→s=true) (hs2:s2=true→s=true) (hdt:d≠t) {cs':List AV} (hcs:cs.set i .any=cs') (hcl:cM [.slot d] cs'=true) :
  aJ P ⟨some d,.call ⟨.builtin .append,#[x,y],#[T,T]⟩,t',pos,aft,gd⟩ N [(t,.box T' cs)] [(t,.box T' cs'),(d,.fr (.own e) s z zs)] [.slot d]:=by
 subst hz hcs
 unfold cq at hq
 split at hq
 case isFalse=>cases hq
 rename_i hlim
 obtain ⟨ti,zv,hT,hi,hz,hs,hzc,h0,rfl⟩:=hE.ex
 refine aJ.core fun g V oN oT a w hd hp => ?_
 have hT':=hp.esT
 simp only [Es] at hT'
 obtain ⟨ob,o2,rfl,hER,rfl⟩:=hT'
 obtain ⟨hR,htie⟩:=hER
 have hax:=aY hp.val hp.esN x
 rw [hx] at hax
 simp only [R] at hax hR
 obtain ⟨b,cur,os,hpt,rfl,hh,hrs⟩:=hR
 dsimp only at htie
 obtain ⟨o1,o3,hperm,hRi,hrest⟩:=gr i hrs hic
 rw [hc] at hRi
 have hlen:=aN hrs
 have hcell:=htie b hpt i hic
 rw [cell_of_row w b i _ T' (0,0) hh] at hcell
 have hil:i<cur.length:=by omega
 have hVc:V (.cell t i)=cur.getD i undef:=by
  simp only [List.getElem?_toArray,List.getElem?_eq_getElem hil,Option.some.injEq] at hcell
  rw [← hcell]; simp [hil]
 obtain ⟨u0,hu0⟩:∃ u,u=cur.getD i undef:=⟨_,rfl⟩
 rw [← hu0] at hVc hRi
 obtain ⟨us,hRi,hix⟩:=qz hRi
 rw [← ei hix] at hn
 simp only [R] at hRi
 obtain ⟨a0,n0,c0,⟨h3,_⟩,hl0,hone0,_,hown,hob⟩:=hRi
 obtain ⟨o',_,hr⟩:=jF hp.val hp.esN y
 rw [hy] at hr
 obtain ⟨vs,hr,hiy⟩:=qz hr
 rw [← ei hiy] at hm
 simp only [R] at hr
 obtain ⟨A,m',c,⟨he,_⟩,hl,hone,hrd,_⟩:=hr
 have em:m'=m.length:=Nat.eq_of_mul_eq_mul_right h0 (by omega)
 subst em
 have en:n0=l.length:=Nat.eq_of_mul_eq_mul_right h0 (by omega)
 subst en
 obtain ⟨v',w',hrun,hown',hg,hblk⟩:=gA (P:=P) (ty:=t') (c:=c) hT hi hz hs hzc h0 hown hl hrd hone (by simp only [maxLen]; omega) (by simpa using hlim.1)
 have hrun':(execOp a.eval ⟨some d,.call ⟨.builtin .append,#[x,y],#[T,T]⟩,t',pos,aft,gd⟩).run P w = .ok (.value v') w':=by
  have h4:a.eval x=u0:=by rw [hax.1,hVc]
  simp [execOp,resolve,invoke,builtin,he,h4,hrun]
 refine (Yl.val hrun').mono ?_
 rintro v w2 ⟨rfl,rfl⟩
 have hlt:d<g.n:=hd d rfl
 have hchg:dq o1 w w2:=by rw [hob]; exact dq.of_grown hg
 have hin1:∀ c,c∈o1→c∈b::os:=fun c hc'=>by have:=hperm.mem_iff.2 (List.mem_append.2 (.inl hc')); simp [this]
 have hin3:∀ c,c∈o3→c∈b::os:=fun c hc'=>by have:=hperm.mem_iff.2 (List.mem_append.2 (.inr hc')); simp [this]
 have hinb:∀ c,c∈b::o3→c∈b::os:=by
  intro c hc'
  rcases List.mem_cons.1 hc' with h | h
  ·simp [h]
  ·exact hin3 c h
 have hnd2:(b::os).Nodup:=by have:=(List.nodup_append.1 hp.nodup).2.1; simpa using this
 have hnd3:(b::(o1++o3)).Nodup:=((hperm.cons b).nodup_iff).1 hnd2
 have hlts:∀ c,c∈b::os→c<w.heap.size∧¬ g.imm c:=fun c hc'=>hp.own c (by simp at hc' ⊢; exact .inr hc')
 have hkeep:∀ c,c∈b::o3∨g.imm c→w2.heap[c]? = w.heap[c]? := by
  intro c hc'
  rcases hc' with hc' | hc'
  ·refine hchg.block c (hlts c (hinb c hc')).1 fun h1 => ?_
   simp only [List.nodup_cons,List.mem_append,List.nodup_append] at hnd3
   rcases List.mem_cons.1 hc' with rfl | h3
   ·exact hnd3.1 (.inl h1)
   ·exact hnd3.2.2.2 c h1 c h3 rfl
  ·exact hchg.block c (hp.imm c hc') fun h1=>(hlts c (hin1 c h1)).2 hc'
 have hdtl:∀ l,fG [.slot d] l=false→bK V d v l=V l:=fun l hl=>bE hl
 refine ⟨g,bK V d v,(b::o3)++v.ownBlock.toList,g.le_refl,fun b hb => .inl hb,fun b hb=>Nat.lt_of_lt_of_le (hp.imm b (.inl hb)) hchg.size,?_,hdtl,fun u=>cn hp.val hp.size hlt u,?_,?_,?_⟩
 ·exact hchg.mono fun c hc'=>by simpa using hin1 c hc'
 ·have hVt:bK V d v (.slot t)=V (.slot t):=by simp only [bK]; rw [if_neg fun e=>hdt e.symm]
  have hVtc:∀ j,bK V d v (.cell t j)=V (.cell t j):=fun j=>rfl
  refine ⟨b::o3,v.ownBlock.toList,rfl,⟨?_,?_⟩,v.ownBlock.toList,[],by simp,⟨?_,trivial⟩,rfl⟩
  ·show R g _ _ (.box T' _) (bK V d v (.slot t)) _
   rw [hVt]
   simp only [R]
   refine ⟨b,cur,o3,hpt,rfl,by rw [hkeep b (.inl (by simp))]; exact hh,?_⟩
   exact cR (W:=[.slot d]) (fun _ h=>h) (fun _ h=>h) hdtl _ _ _ hcl (fun c hc'=>hkeep c (hc'.imp (fun h=>by simp [h]) id)) hrest
  ·intro b' hb' j hj
   rw [hVt] at hb'
   rw [hVtc]
   rw [World.cell?_of_block (w:=w) (by
    rw [hpt] at hb'; cases hb'
    exact hkeep b (.inl (by simp)))]
   exact htie b' hb' j (by simpa using hj)
  ·show R g _ _ _ (bK V d v (.slot d)) _
   rw [bV]
   refine wm (jl hown' fun u hu => ?_) (dS (fun b h=>h) (fun c hc'=>hkeep c (.inr hc')) _ _ (br (lD hs1 hix) (lD hs2 hiy)))
   rcases List.mem_append.1 hu with h | h
   ·exact hone0 u h
   ·exact hone u h
 ·refine List.nodup_append.2 ⟨?_,by cases v.ownBlock <;> simp,?_⟩
  ·have:(o1++(b::o3)).Nodup:=(List.perm_middle.nodup_iff).2 hnd3
   exact (List.nodup_append.1 this).2.1
  ·intro c hc' c2 hc2 e
   subst e
   have hvb:v.ownBlock=some c:=by cases hv:v.ownBlock <;> simp [hv] at hc2 ⊢; exact hc2.symm
   rcases hblk with h | h
   ·have hin:c∈o1:=by rw [hob,← h,hvb]; simp
    simp only [List.nodup_cons,List.mem_append,List.nodup_append] at hnd3
    rcases List.mem_cons.1 hc' with rfl | h3
    ·exact hnd3.1 (.inl hin)
    ·exact hnd3.2.2.2 c hin c h3 rfl
   ·rw [hvb] at h
    cases h
    have:=(hlts w.heap.size (hinb _ hc')).1
    omega
 ·intro c hc'
  rcases List.mem_append.1 hc' with hc' | hc'
  ·have h4:c∈b::os:=hinb c hc'
   exact ⟨.inl (by simpa using h4),Nat.lt_of_lt_of_le (hlts c h4).1 hchg.size,(hlts c h4).2⟩
  ·have hvb:v.ownBlock=some c:=by cases hv:v.ownBlock <;> simp [hv] at hc' ⊢; exact hc'.symm
   have hlt2:=(hown'.lt c hvb).2
   rcases hblk with h | h
   ·have hin:c∈o1:=by rw [hob,← h,hvb]; simp
    exact ⟨.inl (by simpa using hin1 c hin),hlt2,(hlts c (hin1 c hin)).2⟩
   ·rw [hvb] at h
    cases h
    exact ⟨.inr (Nat.le_refl _),hlt2,fun hi=>Nat.lt_irrefl _ (hp.imm _ hi)⟩
def CA (N:List az) (x:Operand):AV :=
 match rd N x with
 | .fl .ro z xs => .fl .ro z xs
 | .fr .ro false z cs => .fr .ro false z cs
 | _=>mo N x
theorem FC {g g':Gh} {V V':aZ→Value} {w:World} {N:List az} {oN:List Nat} {a:Act} (hI:g'.Imm=g.Imm) (hM:∀ b,g.Im b∨b∈oN→g'.Im b) (hv:∀ t,V (.slot t)=a.tmps.getD t undef) (hN:Es g V w N oN) (x:Operand):R g' V' w (CA N x) (a.eval x) []:=by
 obtain ⟨o',_,hr⟩:=jF hv hN x
 have hd:=xF (V':=V') hI hM hv hN x
 unfold CA
 split
 ·rename_i z xs hx
  rw [hx] at hr
  simp only [R,bk] at *
  obtain ⟨A,n,c,h1,h2,h3,h4,h5,h6⟩:=hr
  exact ⟨A,n,c,h1,h2,h3,h4,trivial,fun hne=>let ⟨ad,e,hi⟩:=h6 hne; ⟨ad,e,hI ▸ hi⟩⟩
 ·rename_i z cs hx
  rw [hx] at hr
  simp only [R,bk] at *
  obtain ⟨vs,A,n,c,h1,h2,h3,h4,⟨h5,h6⟩,h7⟩:=hr
  exact ⟨vs,A,n,c,h1,h2,h3,h4,⟨trivial,fun hne=>let ⟨ad,e,hi⟩:=h6 hne; ⟨ad,e,hI ▸ hi⟩⟩,dS (fun b h=>by simp only [sV] at *; exact hI ▸ h) (fun _ _=>rfl) cs vs h7⟩
 ·exact hd
theorem yi {g g':Gh} {V V':aZ→Value} {w:World} {N:List az} {oN:List Nat} {a:Act} (hI:g'.Imm=g.Imm) (hM:∀ b,g.Im b∨b∈oN→g'.Im b) (hv:∀ t,V (.slot t)=a.tmps.getD t undef) (hN:Es g V w N oN):∀ (xs:List Operand),Rs g' V' w (xs.map (CA N)) (xs.map a.eval) []
 | []=>by simp [Rs]
 | x::xs=>by
  simp only [List.map_cons,Rs]
  exact ⟨_,_,[],[],rfl,rfl,FC hI hM hv hN x,yi hI hM hv hN xs⟩
theorem CS (N:List az) (d:Nat) (f:FuncId) {cal:Operand} {args:Array Operand} {ats:Array TypeId} (avs:List AV) (res:AV) (hcal:rd N cal = .v (.func (.func f) #[] #[])) (hrun:∀ args w,(callFunc f args).run P w = .ok (.enter f args) w)
  (hav:args.toList.map (CA N)=avs) (hf:bM P f avs res) (hcl:aT res=true) (hsh:gC res=true) :
  aJ P ⟨some d,.call ⟨.value cal,args,ats⟩,ty,pos,aft,gd⟩ N [] [(d,res)] [.slot d]:=by
 refine aJ.fresh rfl (fo _ _ hcl) fun g V oN a w hp => ?_
 have hcv:=bL hp.val hp.esN hcal
 have hr:(execOp a.eval ⟨some d,.call ⟨.value cal,args,ats⟩,ty,pos,aft,gd⟩).run P w = .ok (.enter f (args.map a.eval)) w:=by
  simp [execOp,resolve,hcv,Deferred.ofValue,invoke,hrun]
 have hargs:Rs (eM w g.Imm (fun b=>g.Im b∨b∈oN)) V0 w avs (args.toList.map a.eval) []:=by
  rw [← hav]
  exact yi (g:=g) (g':=eM w g.Imm (fun b=>g.Im b∨b∈oN)) rfl (fun b hb=>hb) hp.val hp.esN _
 have hc:=hf g.Imm (fun b=>g.Im b∨b∈oN) w _ (fun b hb=>by
  rcases hb with hb | hb | hb
  ·exact hp.imm b (.inl hb)
  ·exact hp.imm b (.inr hb)
  ·exact (hp.own b (by simp [hb])).1) hargs
 have ea:(args.toList.map a.eval).toArray=args.map a.eval:=by rw [← Array.toList_map]
 rw [ea] at hc
 refine Yl.call hr (hc.mono ?_)
 rintro e w' ⟨x,rfl,hchg,Imm',o,hI,hnew,hR,hnd,hfr⟩
 refine ⟨x,rfl,hchg,{ g with Imm:=fun b=>Imm' b },o,⟨rfl,rfl,rfl,rfl,rfl,hI,fun b hb => ?_⟩,hnew,?_,hnd,hfr⟩
 ·rcases hnew b hb with h | h
  ·exact .inl h
  ·exact .inr (.inl (Nat.le_trans hp.base h.1))
 ·exact cu (g:=eM w Imm' (fun b=>g.Im b∨b∈oN)) (g':={ g with Imm:=fun b=>Imm' b }) (fun _ h=>h) res x o hcl (.inr hsh) hR
end
end Go.Abs
end
section
namespace Go.Abs
open Go.WideShapes
def uq (s:KK):Prop:=s.size≤reachBytes
def xd {A:Type} (b:Nat) (p:A→Prop) (l:List A):Prop:=l.length * b≤reachBytes∧∀ x∈l,p x
def lN {H:Type} (P:Program) (t:TypeId) (d:DataW H):Prop:=∀ n∈d.weights P t,n≤reachBytes
def gM {H:Type} (enc:TypeId×Value→H) (P:Program) (W:World) (sp:Nat→Bool) (hd:Bool) (t:TypeId) {A:Type} (ie:A→List IC) (wf:A→Prop):Prop :=
 ∀ (fuel:Nat) (cs:List Value) (y:DataW H×List MemPlace),DataW.trod enc P W 0 sp hd fuel t cs=some y→lN P t y.1→∃ x:A,iB (xM W) W true (ie x) cs∧(∀ u∈cs,u.oneCell'=true)∧wf x
section
variable {H:Type} {enc:TypeId×Value→H} {P:Program} {W:World} {sp:Nat→Bool} {hd:Bool} {t:TypeId}
theorem mK {e:TypeId} {d:DataW H} {n:Nat} (hn:n∈d.weights P e):∀ {ds:List (DataW H)},d∈ds→n∈DataW.weightsAll P e ds
 | d0::ds,h=>by
  simp only [DataW.weightsAll,List.mem_append]
  rcases List.mem_cons.1 h with rfl | h
  ·exact .inl hn
  ·exact .inr (mK hn h)
theorem jO {ts:List TypeId} {ds:List (DataW H)} (h:(DataW.weightsEach P ts ds).all (· ≤ reachBytes)=true) (j:Nat) {t:TypeId} {d:DataW H} (ht:ts[j]? = some t) (hd:ds[j]? = some d):lN P t d:=fun n hn=>by
 simpa using List.all_eq_true.1 h _ (DataW.weights_mem_each ht hd n hn)
theorem tM {k:IntKind} (ht:P.underlying t=some (.int k)):gM enc P W sp hd t (fun n:Int=>[IC.v (.int k n)]) (nQ k):=fun fuel cs y h _=>BM ht fuel cs y h
theorem xx (ht:P.underlying t=some .bool):gM enc P W sp hd t (fun b:Bool=>[IC.v (.bool b)]) (fun _=>True):=fun fuel cs y h _=>zI ht fuel cs y h
theorem ur (ht:P.underlying t=some .string):gM enc P W sp hd t (fun s:KK=>[IC.v (.string s)]) uq:=by
 intro fuel cs y h hz
 obtain ⟨n,rfl,rfl,hw⟩:=DataW.trod_string ht h
 refine ⟨n,kA.2 (by simp only [RI]),by simp [Value.oneCell'],?_⟩
 have:=hz n.data.toList.length (by simp [DataW.weights])
 simpa [uq] using this
theorem qn {e:TypeId} {A:Type} {ie:A→List IC} {wf:A→Prop} {z b:Nat} (hby:P.bytesOf e=b) (ht:P.underlying t=some (.slice e)) (hc:P.cellsOf e=z) (h0:0<z) (hzz:∀ x,(ie x).length=z)
  (he:gM enc P W sp hd e ie wf):gM enc P W sp hd t (fun l:List A=>[IC.row z (List.flatten (List.map ie l))]) (xd b wf):=by
 intro fuel cs y h hz
 rcases DataW.trod_slice ht h with ⟨rfl,_⟩ | ⟨a,len,cap,elems,rest,n,_,rfl,hyy,hb,hl,hm,hlen,hel,_,_⟩
 ·refine ⟨[],kA.2 ?_,by simp [Value.oneCell'],by simp [xd]⟩
  simp only [RI]
  exact ⟨[],none,0,0,⟨rfl,Nat.le_refl _⟩,by simp,by simp,fun h=>absurd rfl h,fun h=>absurd rfl h,by simp [iB]⟩
 ·have hsl:∀ n,n∈(elems.length+rest.length) * P.bytesOf e::(DataW.weightsAll P e (elems.map (·.1))++DataW.weightsAll P e (rest.map (·.1)))→n≤reachBytes:=by
   intro n hn
   refine hz n ?_
   rw [hyy]
   simpa [DataW.weights,ht,List.length_map] using hn
  have each:∀ i,i<len→∃ (x:A) (ys:List Value),ys.length=z∧(∀ j,j<z→W.cell? (a.add (i * z+j))=ys[j]?)∧iB (xM W) W true (ie x) ys∧(∀ u∈ys,u.oneCell'=true)∧wf x:=by
   intro i hi
   have h1:=hel i hi
   rw [List.getElem?_eq_getElem (by omega),hc] at h1
   obtain ⟨ys,hcs,hy⟩:=Option.bind_eq_some_iff.1 h1
   obtain ⟨_,hyl,hcell⟩:=World.cells?_some hcs
   obtain ⟨x,h2,h3,h4⟩:=he _ _ _ hy (fun n hn=>hsl n (List.mem_cons_of_mem _ (List.mem_append.2 (.inl (mK hn (List.mem_map.2 ⟨elems[i],List.getElem_mem _,rfl⟩))))))
   exact ⟨x,ys,hyl,fun j hj=>by rw [← hcell j hj,Addr.add_add],h2,h3,h4⟩
  have build:∀ k,k≤len→∃ (l:List A) (vs:List Value),l.length=k∧vs.length=k * z∧(∀ j,j<k * z→W.cell? (a.add j)=vs[j]?)∧(∀ i,∀ h:i<l.length,iB (xM W) W true (ie l[i]) ((vs.drop (i * z)).take z))∧(∀ u∈vs,u.oneCell'=true)∧∀ x∈l,wf x:=by
   intro k
   induction k with
   | zero=>intro _; exact ⟨[],[],rfl,by simp,by simp,fun i h=>by simp at h,by simp,by simp⟩
   | succ k ih =>
    intro hk
    obtain ⟨l,vs,h1,h2,h3,h4,h5,h6⟩:=ih (by omega)
    obtain ⟨x,ys,e1,e2,e3,e4,e5⟩:=each k (by omega)
    refine ⟨l++[x],vs++ys,by simp [h1],by rw [List.length_append,h2,e1,Nat.add_mul]; omega,?_,?_,?_,?_⟩
    ·intro j hj
     by_cases hjk:j<k * z
     ·rw [List.getElem?_append_left (by omega)]; exact h3 j hjk
     ·rw [List.getElem?_append_right (by omega),h2,← e2 (j-k * z) (by rw [Nat.add_mul] at hj; omega)]
      congr 2; omega
    ·intro i hi
     by_cases hik:i<l.length
     ·rw [List.getElem_append_left hik]
      have hle:(i+1) * z≤k * z:=Nat.mul_le_mul_right z (by omega)
      rw [Nat.add_mul] at hle
      rw [List.drop_append_of_le_length (by omega),List.take_append_of_le_length (by rw [List.length_drop]; omega)]
      exact h4 i hik
     ·have:i=l.length:=by simp at hi; omega
      subst this
      rw [List.getElem_concat_length rfl,h1,List.drop_append_of_le_length (by omega),List.drop_eq_nil_of_le (by omega),List.nil_append,List.take_of_length_le (by omega)]
      exact e3
    ·intro u hu
     rcases List.mem_append.1 hu with h | h
     ·exact h5 u h
     ·exact e4 u h
    ·intro u hu
     rcases List.mem_append.1 hu with h | h
     ·exact h6 u h
     ·rw [List.mem_singleton.1 h]; exact e5
  obtain ⟨l,vs,h1,h2,h3,h4,h5,h6⟩:=build len (Nat.le_refl _)
  refine ⟨l,kA.2 ?_,by simp [Value.oneCell'],?_,h6⟩
  ·simp only [RI]
   refine ⟨vs,some a,len,cap,⟨rfl,hl⟩,h2,h5,fun _=>⟨a,rfl,fun j u hu => ?_⟩,fun hne=>⟨a,rfl,.inr ?_⟩,xa hzz l vs (by rw [h1,h2]) h4⟩
   ·have hj:=(List.getElem?_eq_some_iff.1 hu).1
    rw [h3 j (by omega)]; exact hu
   ·have hpos:0<vs.length:=List.length_pos_iff.2 hne
    have h0':=h3 0 (by omega)
    rw [List.getElem?_eq_getElem hpos] at h0'
    have:=World.block_lt_of_cell? W _ h0'
    rwa [qa] at this
  ·have:=hsl _ (List.mem_cons_self ..)
   rw [hby] at this
   rw [h1]
   exact Nat.le_trans (Nat.mul_le_mul_right b (by omega)) this
theorem rI {e:TypeId} {A:Type} {f:A→Value} {wf:A→Prop} {b:Nat} (hby:P.bytesOf e=b) (ht:P.underlying t=some (.slice e)) (hc:P.cellsOf e=1) (he:gM enc P W sp hd e (fun x=>[IC.v (f x)]) wf) :
  gM enc P W sp hd t (fun l:List A=>[IC.row 1 (List.map IC.v (List.map f l))]) (xd b wf):=by
 intro fuel cs y h hzy
 obtain ⟨l,h1,h2,h3⟩:=qn hby ht hc (by omega) (fun _=>rfl) he fuel cs y h hzy
 refine ⟨l,?_,h2,h3⟩
 dsimp only at h1 ⊢
 rw [ET (fun x=>IC.v (f x))] at h1
 rw [List.map_map]
 exact h1
theorem wQ {e:TypeId} {A:Type} {en:A→List Value} {wf:A→Prop} {z b:Nat} (hby:P.bytesOf e=b) (ht:P.underlying t=some (.slice e)) (hc:P.cellsOf e=z) (h0:0<z) (hz:∀ x,(en x).length=z)
  (he:gM enc P W sp hd e (fun x=>List.map IC.v (en x)) wf):gM enc P W sp hd t (fun l:List A=>[IC.row z (List.map IC.v (List.flatten (List.map en l)))]) (xd b wf):=by
 intro fuel cs y h hzy
 obtain ⟨l,h1,h2,h3⟩:=qn hby ht hc h0 (fun x=>by simp [hz x]) he fuel cs y h hzy
 refine ⟨l,?_,h2,h3⟩
 dsimp only at h1 ⊢
 rw [List.map_flatten,List.map_map]
 exact h1
theorem cp {xs:List (DataW H×List MemPlace)} {fs:Array Field} {m o k:Nat} {cs ds:List Value} {T:TypeId} (ht:P.underlying t=some (.struct fs)) (hg:∀ (i:Nat) (f:Field),fs[i]? = some f→DataW.trod enc P W 0 sp hd m f.type ((cs.drop f.offset).take (P.cellsOf f.type))=xs[i]?) (hxs:xs.length=fs.size) (hz:lN P t (DataW.agg (xs.map (·.1))))
  (i:Nat) (hf:(fs[i]?).map (fun f=>(f.type,f.offset))=some (T,o)) (hk:P.cellsOf T=k) (hds:(cs.drop o).take k=ds):∃ y,DataW.trod enc P W 0 sp hd m T ds=some y∧lN P T y.1:=by
 cases hq:fs[i]? with
 | none=>simp [hq] at hf
 | some f =>
  simp only [hq,Option.map_some,Option.some.injEq,Prod.mk.injEq] at hf
  have hi:i<xs.length:=by rw [hxs]; exact (Array.getElem?_eq_some_iff.1 hq).1
  have:=hg i f hq
  rw [hf.1,hf.2,hk,hds,List.getElem?_eq_getElem hi] at this
  refine ⟨_,this,fun n hn=>hz n ?_⟩
  simp only [DataW.weights,ht]
  refine DataW.weights_mem_each (j:=i) (t:=T) (d:=xs[i].1) ?_ ?_ n hn
  ·rw [List.getElem?_map,Array.getElem?_toList,hq]; simp [hf.1]
  ·rw [List.getElem?_map,List.getElem?_eq_getElem hi]; rfl
end
end Go.Abs
end
