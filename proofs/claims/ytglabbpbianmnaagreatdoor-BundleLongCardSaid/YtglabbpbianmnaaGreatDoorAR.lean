/-
 The logic of places: texts AR AS AT AU AV.
-/
import Derived.Lib.IndexLaws
import Derived.Lib.Bytes
import Derived.Deep.Draws
import Derived.Laws.Pointers
import Derived.SizedLaws
import Derived.Test.YtglabbpbianmnaaGreatDoorAL
section
/-
 Package-level variables that are never written: known to a call,read,handed on to the calls that it makes.
-/
namespace Go.Abs
def GOK (gl:List (Nat×List Value)) (I:Nat→Prop) (w:World):Prop:=∀ p∈gl,I p.1∧∀ j,w.cell? ⟨p.1,j,none⟩=p.2[j]?
def FnG (P:Program) (gl:List (Nat×List Value)) (f:FuncId) (args:List AV) (res:AV):Prop :=
 ∀ (Imm Im:Nat→Prop) (w:World) (xs:List Value),(∀ b,Imm b∨Im b→b<w.heap.size)→GOK gl (fun b=>Imm b∨Im b) w→Rs (gh0 w Imm Im) V0 w args xs []→Calls P f xs.toArray w (Ans Imm Im w res)
theorem FnG.args {P:Program} {gl:List (Nat×List Value)} {f:FuncId} {as bs:List AV} {res:AV} (h:FnG P gl f as res) (hs:Subs bs as):FnG P gl f bs res:=by
 intro Imm Im w xs himm hg hR
 exact h Imm Im w xs himm hg (hs _ _ _ _ _ hR)
section
variable {P:Program} {Q:Exit→Act→World→Prop} {g0:Gh} {rnd:Option Nat}
theorem fn_okG {f:FuncId} {fn:Func} {c:Code} {gl:List (Nat×List Value)} {args:List AV} {res:AV} (hf:P.funcs[f]? = some fn) (hb:fn.body=some c) (hk:args.length≤fn.ntmps) (hcl:closeds args=true) (hnb:args.all noBox=true)
  (h:∀ g0:Gh,g0.n=fn.ntmps→g0.io=[]→HT none P (FnQ P fn g0.Imm g0.Im g0.w0 res) g0 c (argEnts args++[(fn.ntmps,.glob gl)])):FnG P gl f args res:=by
 intro Imm Im w xs himm hgl hR
 have hlen:=Rs_length hR
 refine callsIn_wide.1 (callsIn_of_wp_marks (n:=0) (F:=Fence.wide) hf hb trivial ?_)
 have hg:=h ⟨fn.ntmps,w,[],Imm,Im,[]⟩ rfl rfl ⟨fn.ntmps,w,[],Imm,Im,[]⟩ { tmps:=xs.toArray++Array.replicate (fn.ntmps-xs.toArray.size) undef,defers:=[] } w (Gh.le_refl _)
 refine hg ⟨fun l=>match l with | .slot t=>(xs.toArray++Array.replicate (fn.ntmps-xs.toArray.size) undef).getD t undef | .cell _ _=>undef,[],⟨fun _=>rfl,?_,rfl,List.nodup_nil,by simp,List.nodup_nil,by simp,himm,Chg.refl _ _⟩,Es_append.2 ⟨[],[],rfl,?_,?_⟩⟩
 ·simp; omega
 ·unfold argEnts
  refine Es_args (g:=⟨fn.ntmps,w,[],Imm,Im,[]⟩) (fun av x o hc hr=>R_closed (fun _ h=>h) av x o hc (.inl fun _ h=>h) hr) args xs 0 hcl hnb ?_ ?_
  ·exact Rs_closed (g:=gh0 w Imm Im) (g':=⟨fn.ntmps,w,[],Imm,Im,[]⟩) (V:=V0) (V':=V0) (fun _ h=>h) args xs [] hcl (.inl fun _ h=>h) hR
  ·intro i x hx
   have hi:=(List.getElem?_eq_some_iff.1 hx).1
   simp only [Nat.zero_add,Array.getD_eq_getD_getElem?]
   rw [Array.getElem?_append_left (by simpa using hi)]
   simp [hx]
 ·exact ⟨[],[],rfl,⟨by simp only [R]; exact ⟨hgl,trivial⟩,trivial⟩,rfl⟩
end
section
variable {P:Program} {ty:TypeId} {pos:String} {aft:Array Edge} {gd:Option (Nat×Bool)}
theorem op_callG (N:List Ent) (d n:Nat) (f:FuncId) {gl gl':List (Nat×List Value)} {cal:Operand} {args:Array Operand} {ats:Array TypeId} (avs:List AV) (res:AV) (hcal:rd N cal = .v (.func (.func f) #[] #[])) (hrun:∀ args w,(callFunc f args).run P w = .ok (.enter f args) w)
  (hav:args.toList.map (argv N)=avs) (hgl:look N n = .glob gl') (hsub:∀ p∈gl,p∈gl') (hf:FnG P gl f avs res) (hcl:closed res=true) (hsh:noShr res=true) :
  LOp P ⟨some d,.call ⟨.value cal,args,ats⟩,ty,pos,aft,gd⟩ N [] [(d,res)] [.slot d]:=by
 refine LOp.fresh rfl (clr_of_closed _ _ hcl) fun g V oN a w hp => ?_
 have hcv:=rd_v hp.val hp.esN hcal
 have hr:(execOp a.eval ⟨some d,.call ⟨.value cal,args,ats⟩,ty,pos,aft,gd⟩).run P w = .ok (.enter f (args.map a.eval)) w:=by
  simp [execOp,resolve,hcv,Deferred.ofValue,invoke,hrun]
 have hargs:Rs (gh0 w g.Imm (fun b=>g.Im b∨b∈oN)) V0 w avs (args.toList.map a.eval) []:=by
  rw [← hav]
  exact argvs_R (g:=g) (g':=gh0 w g.Imm (fun b=>g.Im b∨b∈oN)) rfl (fun b hb=>hb) hp.val hp.esN _
 obtain ⟨og,_,hRg,_⟩:=look_ER hp.esN n
 dsimp only at hRg
 rw [hgl] at hRg
 simp only [R] at hRg
 have hc:=hf g.Imm (fun b=>g.Im b∨b∈oN) w _ (fun b hb=>by
  rcases hb with hb | hb | hb
  ·exact hp.imm b (.inl hb)
  ·exact hp.imm b (.inr hb)
  ·exact (hp.own b (by simp [hb])).1) (fun p hp'=>by
  obtain ⟨h1,h2⟩:=hRg.1 p (hsub p hp')
  exact ⟨h1.imp id .inl,h2⟩) hargs
 have ea:(args.toList.map a.eval).toArray=args.map a.eval:=by rw [← Array.toList_map]
 rw [ea] at hc
 refine Yl.call hr (hc.mono ?_)
 rintro e w' ⟨x,rfl,hchg,Imm',o,hI,hnew,hR,hnd,hfr⟩
 refine ⟨x,rfl,hchg,{ g with Imm:=fun b=>Imm' b },o,⟨rfl,rfl,rfl,rfl,rfl,hI,fun b hb => ?_⟩,hnew,?_,hnd,hfr⟩
 ·rcases hnew b hb with h | h
  ·exact .inl h
  ·exact .inr (.inl (Nat.le_trans hp.base h.1))
 ·exact R_closed (g:=gh0 w Imm' (fun b=>g.Im b∨b∈oN)) (g':={ g with Imm:=fun b=>Imm' b }) (fun _ h=>h) res x o hcl (.inr hsh) hR
theorem op_load_glob (N:List Ent) (d n:Nat) {T:TypeId} {td:TypeDesc} {x:Operand} {gl:List (Nat×List Value)} (b k:Nat) (vs:List Value) (v:Value) (hT:P.underlying T=some td) (ha:isAggD td=false) (hx:rd N x = .v (.pointer (some ⟨b,k,none⟩))) (hgl:look N n = .glob gl)
  (hm:(b,vs)∈gl) (hv:vs[k]? = some v):LOp P ⟨some d,.load T x,ty,pos,aft,gd⟩ N [] [(d,.v v)] [.slot d]:=by
 refine LOp.v rfl fun g V oN a w hp => ?_
 have h1:=rd_v hp.val hp.esN hx
 obtain ⟨og,_,hRg,_⟩:=look_ER hp.esN n
 dsimp only at hRg
 rw [hgl] at hRg
 simp only [R] at hRg
 have hc:=((hRg.1 _ hm).2 k).trans hv
 have:=run_load1 (P:=P) hT ha hc
 simp [execOp,Instr.loadAt,h1,Instr.sureAddr,this]
end
end Go.Abs
end
section
/-
 The library's functions,told in Lean; what their contracts come to.
-/
namespace Go.Abs
def byt (l:List Int):Prop:=∀ x∈l,0≤x∧x<256
instance (l:List Int):Decidable (byt l):=by unfold byt; infer_instance
theorem ans_same {Imm Im:Nat→Prop} {w w':World} {res:AV} {e:Ending} {x:Value} (he:e = .returned x) (hw:w'=w∨∃ q,w'=w.drewN q) (hR:R (gh0 w Imm Im) V0 w res x []):Ans Imm Im w res e w':=by
 have hh:w'.heap=w.heap∧w'.os=w.os∧w'.tape=w.tape∧w'.output=w.output:=by
  rcases hw with rfl | ⟨q,rfl⟩ <;> exact ⟨rfl,rfl,rfl,rfl⟩
 obtain ⟨h1,h2,h3,h4⟩:=hh
 refine ⟨x,he,⟨h2,h3,h4,by rw [h1]; exact Nat.le_refl _,fun k _ _=>by rw [h1]⟩,Imm,[],fun _ h=>h,fun _ h => .inl h,?_,List.nodup_nil,by simp⟩
 exact R_stab (W:=[]) (fun _ h=>h) (fun _ h=>h) (fun _ _=>rfl) res x [] (clr_nil _) (fun b _=>by rw [h1]) hR
theorem row_in {g:Gh} {V:Loc→Value} {w:World} {l:List Int} {x:Value} {o:List Nat} (h:R g V w (.fl .shr 1 (List.map (Value.int .u8) l)) x o) :
  ∃ a n c,x = .slice a n c∧n≤c∧l.length=n∧(l≠[]→∃ ad,a=some ad)∧(∀ ad,a=some ad→∀ i,i<n→w.cell? (ad.add i)=some (.int .u8 (l.getD i 0))):=by
 simp only [R] at h
 obtain ⟨a,n,c,⟨rfl,hnc⟩,hl,_,hr,_⟩:=h
 have hn:l.length=n:=by simpa using hl
 refine ⟨a,n,c,rfl,hnc,hn,fun hne => ?_,fun ad ha i hi => ?_⟩
 ·obtain ⟨ad,e,_⟩:=hr (by simpa using hne)
  exact ⟨ad,e⟩
 ·have hne:List.map (Value.int .u8) l≠[]:=by
   intro e; simp at e; subst e; simp at hn; omega
  obtain ⟨ad',e,hc⟩:=hr hne
  rw [ha] at e; cases e
  have hi':i<l.length:=by omega
  refine hc i _ ?_
  simp [hi']
theorem two_args {g:Gh} {V:Loc→Value} {w:World} {a b:AV} {xs:List Value} (h:Rs g V w [a,b] xs []):∃ x y,xs=[x,y]∧R g V w a x []∧R g V w b y []:=by
 simp only [Rs] at h
 obtain ⟨x,ys,o1,o2,rfl,e,h1,y,zs,o3,o4,rfl,rfl,h2,rfl,rfl⟩:=h
 simp at e
 obtain ⟨rfl,rfl⟩:=e
 exact ⟨x,y,rfl,h1,h2⟩
namespace Sh
def bytes_Index (s sep:List Int):Option Int:=if s.length<4294967281∧2≤sep.length∧sep.length<4294967281∧byt s∧byt sep then some (Lib.index (Lib.bytesOf s) (Lib.bytesOf sep)) else none
end Sh
theorem index_short {s sub:List UInt8} (h:s.length<sub.length):Lib.index s sub = -1:=by
 induction s with
 | nil =>
  unfold Lib.index
  cases sub with
  | nil=>simp at h
  | cons a t=>rfl
 | cons b l ih =>
  unfold Lib.index
  have:sub.isPrefixOf (b::l)=false:=by
   cases hp:sub.isPrefixOf (b::l) with
   | false=>rfl
   | true =>
    have:=(List.isPrefixOf_iff_prefix.1 hp).length_le
    omega
  rw [this]
  simp only [Bool.false_eq_true,if_false]
  rw [ih (by simp at h; omega)]
  rfl
theorem lib_bytes_Index {P:Program} {gl:List (Nat×List Value)} {f gb:Nat} {mx:Int} (hm:(gb,[.int .i64 mx])∈gl)
  (c1:∀ (a1 a2:Addr) (n c1 k c2:Nat) (xs ys:List Int) (m:Int) (w:World),xs.length=n→ys.length=k→(∀ x∈xs,0≤x∧x<256)→(∀ y∈ys,0≤y∧y<256)→(∀ i,i<n→w.cell? (a1.add i)=some (.int .u8 (xs.getD i 0)))→(∀ i,i<k→w.cell? (a2.add i)=some (.int .u8 (ys.getD i 0))) →
   n≤c1→n<4294967281→k≤9223372036854775807→w.cell? ⟨gb,0,none⟩=some (.int .i64 m)→Calls P f #[.slice (some a1) n c1,.slice (some a2) k c2] w fun e w'=>e = .returned (.int .i64 (Lib.index (Lib.bytesOf xs) (Lib.bytesOf ys)))∧∃ q,w'=w.drewN q)
  (c2:∀ (p q:Option Addr) (n c m d:Nat) (w:World),2≤m→n<m→m≤9223372036854775807→Calls P f #[.slice p n c,.slice q m d] w fun e w'=>e = .returned (.int .i64 (-1))∧w'=w)
  (s sep:List Int) (r:Int) (h:Sh.bytes_Index s sep=some r):FnG P gl f [.fl .shr 1 (List.map (Value.int .u8) s),.fl .shr 1 (List.map (Value.int .u8) sep)] (.v (.int .i64 r)):=by
 unfold Sh.bytes_Index at h
 split at h
 ·rename_i hc
  cases h
  obtain ⟨h1,h2,h3,h4,h5⟩:=hc
  intro Imm Im w xs himm hgl hR
  obtain ⟨x,y,rfl,hx,hy⟩:=two_args hR
  obtain ⟨a,n,c,rfl,hnc,hn,hsa,hca⟩:=row_in hx
  obtain ⟨b,k,d,rfl,hkd,hk,hsb,hcb⟩:=row_in hy
  obtain ⟨bd,rfl⟩:=hsb (by intro e; subst e; simp at h2)
  by_cases hshort:n<k
  ·have e:Lib.index (Lib.bytesOf s) (Lib.bytesOf sep) = -1:=index_short (by simp only [Lib.bytesOf_length]; omega)
   rw [e]
   refine (c2 a (some bd) n c k d w (by omega) hshort (by omega)).mono ?_
   rintro e w' ⟨rfl,rfl⟩
   exact ans_same rfl (.inl rfl) (by simp [R])
  ·obtain ⟨ad,rfl⟩:=hsa (by intro e; subst e; simp at hn; omega)
   refine (c1 ad bd n c k d s sep mx w hn hk h4 h5 (hca ad rfl) (hcb bd rfl) hnc (by omega) (by omega) (((hgl _ hm).2 0).trans rfl)).mono ?_
   rintro e w' ⟨rfl,q,rfl⟩
   exact ans_same rfl (.inr ⟨q,rfl⟩) (by simp [R])
 ·cases h
end Go.Abs
end
section
/-
 Pointers that may be nil: a call's answer that is a pointer to a new struct,or nil.
-/
namespace Go.Abs
section
variable {g:Gh} {V:Loc→Value} {w:World}
end
section
variable {P:Program}
theorem FnP.args {f:FuncId} {args args' posts:List AV} {res:AV} (h:FnP P f args' posts res) (hs:Subs args args'):FnP P f args posts res:=fun Imm Im w xs o0 hi hr=>h Imm Im w xs o0 hi (hs _ _ _ _ _ hr)
theorem FnE.args {f:FuncId} {args args':List AV} {res:AV} (h:FnE P f args' res) (hs:Subs args args'):FnE P f args res:=fun Imm Im w xs o0 hi hr=>h Imm Im w xs o0 hi (hs _ _ _ _ _ hr)
end
section
variable {Q:Exit→Act→World→Prop} {g0:Gh} {rnd:Option Nat}
end
section
variable {P:Program} {ty:TypeId} {pos:String} {aft:Array Edge} {gd:Option (Nat×Bool)}
theorem op_move_name (N:List Ent) (d t:Nat) (hcl:hit [.slot d] (.slot t)=false):LOp P ⟨some d,.move (.tmp t),ty,pos,aft,gd⟩ N [] [(d,.same (.slot t))] [.slot d] :=
 LOp.value rfl (by simp [clr,hcl]) rfl fun g V oN a w hp=>⟨a.eval (.tmp t),by simp [execOp,pure],by simp only [R,Act.eval,hp.val]; exact ⟨trivial,trivial⟩⟩
theorem op_nilCheck_name (N:List Ent) (d:Nat) (x:Operand) (t:Nat) {T:TypeId} {cs:List AV} (h:dupOp N x = .same (.slot t)) (hb:look N t = .box T cs) (hdt:d≠t) :
  LOp P ⟨some d,.nilCheck x,ty,pos,aft,gd⟩ N [] [(d,.ptr t 0)] [.slot d]:=by
 refine LOp.value rfl (by simp [clr,hit,hdt]) rfl fun g V oN a w hp => ?_
 have hR:=dupOp_R hp.val hp.esN x
 rw [h] at hR
 simp only [R] at hR
 obtain ⟨o',_,hE,_⟩:=look_ER hp.esN t
 dsimp only at hE
 rw [hb] at hE
 simp only [R] at hE
 obtain ⟨b,xs,os,h1,_⟩:=hE
 have h2:a.eval x = .pointer (some ⟨b,0,none⟩):=by rw [hR.1,h1]
 refine ⟨a.eval x,?_,by simp only [R]; exact ⟨b,h1,h2,trivial⟩⟩
 simp [execOp,h2]
end
end Go.Abs
end
section
/-
 An own row is cut: x=x[:k] in a variable; an append of rows to a cell.
-/
namespace Go.Abs
section
variable {g:Gh} {V:Loc→Value} {w:World}
end
section
variable {A:Type}
end
section
variable {P:Program} {ty:TypeId} {pos:String} {aft:Array Edge} {gd:Option (Nat×Bool)}
def argw (N:List Ent) (x:Operand):AV :=
 match rd N x with
 | .fl .ro z xs => .fl .ro z xs
 | .fr .ro false z cs => .fr .ro false z cs
 | _=>argv N x
theorem argw_R {g g':Gh} {V V':Loc→Value} {w:World} {N:List Ent} {oN:List Nat} {a:Act} (hI:g'.Imm=g.Imm) (hM:∀ b,g.Im b∨b∈oN→g'.Im b) (hv:∀ t,V (.slot t)=a.tmps.getD t undef) (hN:Es g V w N oN) (x:Operand):R g' V' w (argw N x) (a.eval x) []:=by
 obtain ⟨o',_,hr⟩:=rd_R hv hN x
 have hd:=argv_R (V':=V') hI hM hv hN x
 unfold argw
 split
 ·rename_i z xs hx
  rw [hx] at hr
  simp only [R,modeOk] at *
  obtain ⟨A,n,c,h1,h2,h3,h4,h5,h6⟩:=hr
  exact ⟨A,n,c,h1,h2,h3,h4,trivial,fun hne=>let ⟨ad,e,hi⟩:=h6 hne; ⟨ad,e,hI ▸ hi⟩⟩
 ·rename_i z cs hx
  rw [hx] at hr
  simp only [R,modeOk] at *
  obtain ⟨vs,A,n,c,h1,h2,h3,h4,⟨h5,h6⟩,h7⟩:=hr
  exact ⟨vs,A,n,c,h1,h2,h3,h4,⟨trivial,fun hne=>let ⟨ad,e,hi⟩:=h6 hne; ⟨ad,e,hI ▸ hi⟩⟩,RIs_stab (fun b h=>by simp only [immB] at *; exact hI ▸ h) (fun _ _=>rfl) cs vs h7⟩
 ·exact hd
theorem argws_R {g g':Gh} {V V':Loc→Value} {w:World} {N:List Ent} {oN:List Nat} {a:Act} (hI:g'.Imm=g.Imm) (hM:∀ b,g.Im b∨b∈oN→g'.Im b) (hv:∀ t,V (.slot t)=a.tmps.getD t undef) (hN:Es g V w N oN):∀ (xs:List Operand),Rs g' V' w (xs.map (argw N)) (xs.map a.eval) []
 | []=>by simp [Rs]
 | x::xs=>by
  simp only [List.map_cons,Rs]
  exact ⟨_,_,[],[],rfl,rfl,argw_R hI hM hv hN x,argws_R hI hM hv hN xs⟩
theorem op_callR (N:List Ent) (d:Nat) (f:FuncId) {cal:Operand} {args:Array Operand} {ats:Array TypeId} (avs:List AV) (res:AV) (hcal:rd N cal = .v (.func (.func f) #[] #[])) (hrun:∀ args w,(callFunc f args).run P w = .ok (.enter f args) w)
  (hav:args.toList.map (argw N)=avs) (hf:FnOK P f avs res) (hcl:closed res=true) (hsh:noShr res=true) :
  LOp P ⟨some d,.call ⟨.value cal,args,ats⟩,ty,pos,aft,gd⟩ N [] [(d,res)] [.slot d]:=by
 refine LOp.fresh rfl (clr_of_closed _ _ hcl) fun g V oN a w hp => ?_
 have hcv:=rd_v hp.val hp.esN hcal
 have hr:(execOp a.eval ⟨some d,.call ⟨.value cal,args,ats⟩,ty,pos,aft,gd⟩).run P w = .ok (.enter f (args.map a.eval)) w:=by
  simp [execOp,resolve,hcv,Deferred.ofValue,invoke,hrun]
 have hargs:Rs (gh0 w g.Imm (fun b=>g.Im b∨b∈oN)) V0 w avs (args.toList.map a.eval) []:=by
  rw [← hav]
  exact argws_R (g:=g) (g':=gh0 w g.Imm (fun b=>g.Im b∨b∈oN)) rfl (fun b hb=>hb) hp.val hp.esN _
 have hc:=hf g.Imm (fun b=>g.Im b∨b∈oN) w _ (fun b hb=>by
  rcases hb with hb | hb | hb
  ·exact hp.imm b (.inl hb)
  ·exact hp.imm b (.inr hb)
  ·exact (hp.own b (by simp [hb])).1) hargs
 have ea:(args.toList.map a.eval).toArray=args.map a.eval:=by rw [← Array.toList_map]
 rw [ea] at hc
 refine Yl.call hr (hc.mono ?_)
 rintro e w' ⟨x,rfl,hchg,Imm',o,hI,hnew,hR,hnd,hfr⟩
 refine ⟨x,rfl,hchg,{ g with Imm:=fun b=>Imm' b },o,⟨rfl,rfl,rfl,rfl,rfl,hI,fun b hb => ?_⟩,hnew,?_,hnd,hfr⟩
 ·rcases hnew b hb with h | h
  ·exact .inl h
  ·exact .inr (.inl (Nat.le_trans hp.base h.1))
 ·exact R_closed (g:=gh0 w Imm' (fun b=>g.Im b∨b∈oN)) (g':={ g with Imm:=fun b=>Imm' b }) (fun _ h=>h) res x o hcl (.inr hsh) hR
end
end Go.Abs
end
section
/-
 What came in,opened,with the form's own reach: each row and each text takes at most so many bytes.
-/
namespace Go.Abs
open Go.WideShapes
def wzS (s:ByteArray):Prop:=s.size≤reachBytes
def wzL {A:Type} (b:Nat) (p:A→Prop) (l:List A):Prop:=l.length * b≤reachBytes∧∀ x∈l,p x
section
variable {H:Type} {enc:TypeId×Value→H} {P:Program} {W:World} {sp:Nat→Bool} {hd:Bool} {t:TypeId}
end
end Go.Abs
end
