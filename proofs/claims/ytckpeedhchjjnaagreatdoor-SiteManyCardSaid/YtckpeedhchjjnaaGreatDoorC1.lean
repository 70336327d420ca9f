import Derived.KernelRfl
import Derived.Test.YtckpeedhchjjnaaGreatDoorAN
section
namespace Go.Abs
inductive Tk:Nat→List aJ→AV→List aJ→Prop
 | h {t:Nat} {av:AV} {r:List aJ}:Tk t ((t,av)::r) av r
 | t {t:Nat} {av:AV} {e:aJ} {r r':List aJ}:Tk t r av r'→Tk t (e::r) av (e::r')
theorem Tk.perm {t:Nat} {es:List aJ} {av:AV} {es':List aJ} (h:Tk t es av es'):es.Perm ((t,av)::es'):=by
 induction h with
 | h=>exact .refl _
 | t _ ih=>exact (ih.cons _).trans (.swap _ _ _)
inductive Kp:List Nat→List aJ→List aJ→Prop
 | n {es:List aJ}:Kp [] es []
 | c {t:Nat} {ts:List Nat} {av:AV} {es es1 out:List aJ}:Tk t es av es1→Kp ts es1 out→Kp (t::ts) es ((t,av)::out)
theorem Kp.perm {ts:List Nat} {es out:List aJ} (h:Kp ts es out):∃ ds,es.Perm (ds++out):=by
 induction h with
 | n=>exact ⟨_,by rw [bn]⟩
 | c h1 _ ih =>
  obtain ⟨ds,p⟩:=ih;exact ⟨ds,(h1.perm.trans (p.cons _)).trans List.perm_middle.symm⟩
inductive Ts:List Nat→List aJ→List aJ→List aJ→Prop
 | n {es:List aJ}:Ts [] es [] es
 | c {t:Nat} {ts:List Nat} {av:AV} {es es1 T N:List aJ}:Tk t es av es1→Ts ts es1 T N→Ts (t::ts) es ((t,av)::T) N
theorem Ts.perm {ts:List Nat} {es T N:List aJ} (h:Ts ts es T N):es.Perm (T++N):=by
 induction h with
 | n=>exact .refl _
 | c h1 _ ih=>exact h1.perm.trans (ih.cons _)
section
variable {P:Program} {Q:Exit→Act→World→Prop} {g0:Gh} {rnd:Option Nat} {ops:Array Oper}
def RT (rnd:Option Nat) (P:Program) (ops:Array Oper) (Q:Exit→Act→World→Prop) (g0:Gh) (l:List Oper) (es:List aJ):Prop :=
 ∀ (k:Nat) (g:Gh) (a:Act) (w:World),(∀ j o,l[j]? = some o→ops[k+j]? = some o)→(∀ (i d:Nat),(ops[i]?).bind Oper.dst=some d→d<g0.n)→g0.le g→eX g es a w →
  wpOpsIn (FW rnd) 0 P ops Q (List.range' k l.length) a w
theorem tc {id n:Nat} {l:List Oper} {es:List aJ} (hn:g0.n=n) (hd:qe n l=true) (h:RT rnd P l.toArray Q g0 l es):HT rnd P Q g0 (.region id l.toArray false) es:=by intro g a w hg hs;refine wpIn_region ?_;rw [List.size_toArray,List.range_eq_range'];exact h 0 g a w (fun j o hj=>by simpa using hj) (by rw [hn]; exact uq hd) hg hs
theorem zr {ts:List Nat} {es es':List aJ} (hk:Kp ts es es') (hQ:PT Q g0 .normal es'):RT rnd P ops Q g0 [] es:=by intro k g a w _ _ hg hs;simp only [List.length_nil,List.range'_zero,wpOpsIn];exact hQ g a w hg (hs.sub hk.perm)
theorem mD {o:Oper} {l:List Oper} {es N T G:List aJ} {W:List bF} (h:zL P ops o N T G W) (hp:es.Perm (T++N)) (hc:N.all (bX W)=true) (k:RT rnd P ops Q g0 l (G++N)):RT rnd P ops Q g0 (o::l) es:=by
 intro i g a w hl hd hg hs;rw [List.length_cons,List.range'_succ,wpOpsIn_cons];have ho:ops[i]? = some o:=by simpa using hl 0 o rfl
 refine h i ho g [] a w _ Q (fun d hd'=>by rw [hg.n]; exact hd i d hd') ?_ ?_ ?_ rnd
 ·refine hs.perm ?_;rw [bn];exact hp.trans List.perm_append_comm
 ·intro e he;rw [bn] at he;exact aR.1 hc e he
 ·intro g' a' w' hle hs';refine k (i+1) g' a' w' (fun j o' hj=>by rw [show i+1+j=i+(j+1) by omega]; exact hl (j+1) o' (by simpa using hj)) hd (hg.trans hle) (hs'.perm ?_);rw [bn];exact List.perm_append_comm
theorem yZ {ts:List Nat} {l:List Oper} {es T N:List aJ} (h:Ts ts es T N) (k:RT rnd P ops Q g0 l N):RT rnd P ops Q g0 l es:=by intro i g a w hl hd hg hs;exact k i g a w hl hd hg (hs.sub ⟨T,h.perm⟩)
theorem IJ {l:List Oper} {es:List aJ} {d:Nat} {b c:Bool} (hb:b=c) (k:RT rnd P ops Q g0 l ((d,.v (.bool c))::es)):RT rnd P ops Q g0 l ((d,.v (.bool b))::es):=by subst hb; exact k
def JF (b:Bool):AV→Bool
 | .v (.bool c)=>b==c
 | _=>false
def JU:AV→Bool
 | .v (.tuple xs)=>Nat.beq xs.size 0
 | _=>false
def JG (ops:Array Oper) (N:List aJ) (j:Nat):Option AV:=match ops[j]? with
 | some oj=>match oj.dst with
  | some d=>some (look N d)
  | none=>none
 | none=>none
def wC (gd:Option (Nat×Bool)) (ops:Array Oper) (N:List aJ):Bool:=match gd with
 | none=>true
 | some (j,want)=>match JG ops N j with
  | some av=>JF want av
  | none=>false
def Cx (gd:Option (Nat×Bool)) (ops:Array Oper) (N:List aJ):Bool:=match gd with
 | none=>false
 | some (j,want)=>match JG ops N j with
  | some av=>JF (!want) av||JU av
  | none=>false
theorem Av {N:List aJ} {j:Nat} {av:AV} (h:JG ops N j=some av):∃ oj d,ops[j]? = some oj∧oj.dst=some d∧look N d=av:=by
 unfold JG at h;split at h
 ·rename_i oj ho;split at h
  ·rename_i d hd;exact ⟨oj,d,ho,hd,ay h⟩
  ·cases h
 ·cases h
theorem Bi {b:Bool} {av:AV} (h:JF b av=true):av = .v (.bool b):=by
 unfold JF at h;split at h
 ·rename_i c
  cases b <;> cases c <;> first | rfl | (cases h)
 ·cases h
theorem Et {av:AV} (h:JU av=true):av = .v undef:=by
 unfold JU at h;split at h
 ·rename_i xs;have:=Nat.eq_of_beq_eq_true h;rw [Array.size_eq_zero_iff] at this;subst this; rfl
 ·cases h
theorem zF {N:List aJ} {d:Nat} {x:Value} (h:look N d = .v x):(d,AV.v x)∈N:=by
 rcases Aw (N:=N) (t:=d) with h1 | h1
 ·rw [h1] at h; cases h
 ·rw [h] at h1; exact h1
theorem gF {o:Oper} {N T G:List aJ} {W:List bF} (hg:wC o.guard ops N=true) (h:bh P o N T G W):zL P ops o N T G W:=by
 cases hgd:o.guard with
 | none=>exact nB hgd h
 | some q =>
  obtain ⟨j,want⟩:=q;rw [hgd] at hg;unfold wC at hg;simp only at hg;split at hg
  ·rename_i av hav;obtain ⟨oj,d,h1,h2,h3⟩:=Av hav;rw [Bi hg] at h3;exact HK j d want hgd h1 h2 (zF h3) h
  ·cases hg
theorem zP {o:Oper} {N:List aJ} {dd:Nat} (hg:Cx o.guard ops N=true) (hd:o.dst=some dd):zL P ops o N [] [(dd,.v undef)] [.slot dd]:=by
 cases hgd:o.guard with
 | none=>rw [hgd] at hg; cases hg
 | some q =>
  obtain ⟨j,want⟩:=q;rw [hgd] at hg;unfold Cx at hg;simp only at hg;split at hg
  ·rename_i av hav;obtain ⟨oj,d,h1,h2,h3⟩:=Av hav;rcases Bool.or_eq_true_iff.1 hg with hg | hg
   ·rw [Bi hg] at h3;exact Ch j d dd want hgd h1 h2 hd (zF h3)
   ·rw [Et hg] at h3;exact Ev j d dd want hgd h1 h2 hd (zF h3)
  ·cases hg
def IU (gd:Option (Nat×Bool)) (ops:Array Oper) (es:List aJ) (d:Nat):Bool:=wC gd ops es&&es.all (bX [.slot d])
theorem Jg {o:Oper} {l:List Oper} {es:List aJ} {d:Nat} {av:AV} (h:bh P o es [] [(d,av)] [.slot d]) (hc:IU o.guard ops es d=true) (k:RT rnd P ops Q g0 l ((d,av)::es)):RT rnd P ops Q g0 (o::l) es:=by rw [IU,ah] at hc;exact mD (gF hc.1 h) (.refl _) hc.2 k
end
end Go.Abs
end
section
set_option linter.unusedVariables false
namespace Go.Abs
class UD (P:Program) (t:TypeId) (d:outParam TypeDesc):Prop where h:P.underlying t=some d
def JJ (P:Program) (t:TypeId) (b:Bool) (s:Nat):Bool:=(match P.underlying t with
 | some td=>dn td==b
 | none=>false)&&(match P.info? t with
 | some i=>Nat.beq i.size s
 | none=>false)
class AS (P:Program) (t:TypeId):Prop where h:JJ P t false 1=true
class AA (P:Program) (t:TypeId) (s:outParam Nat):Prop where h:JJ P t true s=true
theorem iQ {P:Program} {t:TypeId} {b:Bool} {s:Nat} (h:JJ P t b s=true):(∃ td,P.underlying t=some td∧dn td=b)∧(P.info? t).map (·.size)=some s:=by
 rw [JJ,ah] at h;obtain ⟨h1,h2⟩:=h;refine ⟨?_,?_⟩
 ·split at h1
  ·rename_i td e; exact ⟨td,e,by cases b <;> cases hh:dn td <;> simp_all⟩
  ·cases h1
 ·split at h2
  ·rename_i i e; rw [e]; exact congrArg some (Nat.eq_of_beq_eq_true h2)
  ·cases h2
def La (P:Program) (s:TypeId) (i off:Nat):Bool:=match P.underlying s with
 | some (.struct fs)=>match fs[i]? with
  | some f=>Nat.beq f.offset off&&(match P.info? f.type with
   | some j=>Nat.blt 0 j.size
   | none=>false)
  | none=>false
 | _=>false
class FO (P:Program) (s:TypeId) (i:Nat) (off:outParam Nat):Prop where h:La P s i off=true
theorem FO.get {P:Program} {s:TypeId} {i off:Nat} (h:FO P s i off):∃ fs f k,P.underlying s=some (.struct fs)∧fs[i]? = some f∧(P.info? f.type).map (·.size)=some (k+1)∧f.offset=off:=by
 have h:=h.h;unfold La at h;split at h
 ·rename_i fs e1;split at h
  ·rename_i f e2;rw [ah] at h;obtain ⟨h1,h2⟩:=h;split at h2
   ·rename_i j e3;have:=rh.1 h2;refine ⟨fs,f,j.size-1,e1,e2,?_,Nat.eq_of_beq_eq_true h1⟩;rw [e3]; exact congrArg some (show j.size=j.size-1+1 by omega)
   ·cases h2
  ·cases h
 ·cases h
class LenE {A:Type} (enc:A→List Value) (z:outParam Nat):Prop where h:∀ x,(enc x).length=z
class LenI {A:Type} (enc:A→List IC) (z:outParam Nat):Prop where h:∀ x,(enc x).length=z
section
variable {P:Program} {Q:Exit→Act→World→Prop} {g0:Gh} {rnd:Option Nat} {ops:Array Oper}
structure pd (P:Program) (ops:Array Oper) (n:Nat) (l:List Oper) (es:List aJ) (l':List Oper) (es':List aJ):Prop where
 run:∀ (rnd:Option Nat) (Q:Exit→Act→World→Prop) (g0:Gh),RT rnd P ops Q g0 l' es'→RT rnd P ops Q g0 l es
variable {l l':List Oper} {es es':List aJ} {n:Nat} {ty:TypeId} {pos:String} {aft:Array Edge} {gd:Option (Nat×Bool)} {d:Nat} {av:AV}
theorem sn:pd P ops 0 l es l es:=⟨fun _ _ _ h=>h⟩
theorem Lq {o:Oper} (h:bh P o es [] [(d,av)] [.slot d]) (hc:IU o.guard ops es d=true) (k:pd P ops n l ((d,av)::es) l' es'):pd P ops (n+1) (o::l) es l' es' :=
 ⟨fun rnd Q g0 hr=>Jg h hc (k.run rnd Q g0 hr)⟩
theorem oA {o:Oper} {T G M:List aJ} {W:List bF} (h:bh P o [] T G W):bh P o M T G W:=by
 intro g F a w K Q hd hs hc hk;refine h g (M++F) a w K Q hd ?_ (fun e he=>hc e (by simpa using he)) ?_
 ·refine hs.perm ?_;rw [List.nil_append,← ar,← ar];exact List.perm_append_comm.append_right _
 ·intro g' a' w' hle hs';refine hk g' a' w' hle (hs'.perm ?_);rw [List.nil_append,← ar,← ar];exact List.perm_append_comm.append_right _
theorem bh.fr {o:Oper} {N T G F M:List aJ} {W:List bF} (h:bh P o N T G W) (hp:M.Perm (N++F)):bh P o M T G W:=by
 intro g F' a w K Q hd hs hc hk;refine h g (F++F') a w K Q hd ?_ (fun e he=>hc e ?_) ?_
 ·refine hs.perm ?_;refine (hp.append_right _).trans ?_;rw [ar];refine List.Perm.append_left _ ?_;rw [← ar,← ar];exact List.perm_append_comm.append_right _
 ·rw [← ar] at he;rcases ak.1 he with h1 | h1
  ·exact List.mem_append_left _ (hp.mem_iff.2 h1)
  ·exact List.mem_append_right _ h1
 ·intro g' a' w' hle hs';refine hk g' a' w' hle (hs'.perm ?_);refine List.Perm.trans ?_ (hp.append_right _).symm;rw [ar];refine List.Perm.append_left _ ?_;rw [← ar,← ar];exact List.perm_append_comm.append_right _
structure Bx (p:Prop):Prop where
 h:p
def OL (P:Program) (l:List Oper) (es:List aJ) (d:Nat) (a:AV):Prop:=match l with
 | []=>False
 | o::_=>Bx (bh P o es [] [(d,a)] [.slot d])
def OX (P:Program) (l:List Oper) (N T G:List aJ) (W:List bF):Prop:=match l with
 | []=>False
 | o::_=>Bx (bh P o N T G W)
theorem OL.get {o:Oper} (h:OL P l' es d av) (e:l'=o::l):bh P o es [] [(d,av)] [.slot d]:=by subst e; exact Bx.h h
theorem OX.get {o:Oper} {N T G:List aJ} {W:List bF} (h:OX P l' N T G W) (e:l'=o::l):bh P o N T G W:=by subst e; exact Bx.h h
theorem Lh {a:AV} {x:Value} (h:a = .v x):a = .v x:=h
theorem Lk {a:AV} {m:Md} {z:Nat} {xs:List Value} (h:a = .fl m z xs):a = .fl m z xs:=h
theorem Lg {a:AV} {m:Md} {s:Bool} {z:Nat} {cs:List IC} (h:a = .fr m s z cs):a = .fr m s z cs:=h
theorem Lf {a:AV} {c:bF} (h:a = .same c):a = .same c:=h
theorem Li {a:AV} {t k:Nat} (h:a = .ptr t k):a = .ptr t k:=h
theorem Lj {a:AV} {c:bF} {k:Nat} (h:a = .eref c k):a = .eref c k:=h
theorem Lp {a:AV} {c:bF} {k:Nat} (h:a = .cut c k):a = .cut c k:=h
theorem Lv {a:AV} {cs cs':List AV} (h:a = .agg cs) (h2:cs=cs'):a = .agg cs':=by rw [h,h2]
inductive Mp (f:AV→AV):List AV→List AV→Prop
 | n:Mp f [] []
 | c {a b:AV} {cs ds:List AV} (h:f a=b) (r:Mp f cs ds):Mp f (a::cs) (b::ds)
theorem Mp.eq {f:AV→AV} {cs ds:List AV} (h:Mp f cs ds):cs.map f=ds:=by
 induction h with
 | n=>rfl
 | c h _ ih=>rw [List.map_cons,h,ih]
inductive Dl (t:Nat):Nat→Nat→Nat→List AV→List AV→Prop
 | n {off p:Nat} {cs:List AV}:Dl t off p 0 cs []
 | s {off p k:Nat} {a:AV} {cs ds:List AV} (h:Dl t off p (k+1) cs ds):Dl t off (p+1) (k+1) (a::cs) ds
 | c {off k:Nat} {a b:AV} {cs ds:List AV} (h:mS t off a=b) (r:Dl t (off+1) 0 k cs ds):Dl t off 0 (k+1) (a::cs) (b::ds)
theorem Dl.eq {t off p k:Nat} {cs ds:List AV} (h:Dl t off p k cs ds):uB t off ((cs.drop p).take k)=ds∧(0<k→p+k≤cs.length):=by
 induction h with
 | n=>simp [uB]
 | s _ ih=>simp only [List.drop_succ_cons,List.length_cons]; exact ⟨ih.1,fun h=>by have:=ih.2 h; omega⟩
 | c h _ ih =>
  rename_i off k a b cs ds _;simp only [List.drop_zero,List.take_succ_cons,uB,h] at *;refine ⟨by rw [ih.1],fun _ => ?_⟩;by_cases hk:0<k
  ·have:=ih.2 hk; simp; omega
  ·simp; omega
inductive Sl:Nat→List AV→List AV→List AV→Prop
 | n {cs:List AV}:Sl 0 [] cs cs
 | s {p:Nat} {vs cs ds:List AV} {a:AV} (h:Sl p vs cs ds):Sl (p+1) vs (a::cs) (a::ds)
 | c {v a:AV} {vs cs ds:List AV} (h:Sl 0 vs cs ds):Sl 0 (v::vs) (a::cs) (v::ds)
theorem Sl.eq {p:Nat} {vs cs ds:List AV} (h:Sl p vs cs ds):cs.take p++(vs++cs.drop (p+vs.length))=ds∧p+vs.length≤cs.length:=by
 induction h with
 | n=>simp
 | s _ ih=>simp only [List.take_succ_cons,List.length_cons,List.cons_append]; rw [show ∀ p x:Nat,p+1+x=p+x+1 by omega,List.drop_succ_cons]; exact ⟨by rw [ih.1],by omega⟩
 | c _ ih=>simp only [List.take_zero,List.nil_append,Nat.zero_add,List.length_cons,List.drop_succ_cons,List.cons_append] at *; exact ⟨by rw [ih.1],by omega⟩
theorem Ko {i:Op} {q:Nat×Bool} (h1:Cx (some q) ops es=true) (h2:es.all (bX [.slot d])=true) (k:pd P ops n l ((d,.v undef)::es) l' es'):pd P ops (n+1) (⟨some d,i,ty,pos,aft,some q⟩::l) es l' es':=by exact ⟨fun rnd Q g0 hr=>mD (zP (o:=⟨some d,i,ty,pos,aft,some q⟩) h1 rfl) (.refl _) h2 (k.run rnd Q g0 hr)⟩
theorem JZ {t:Nat} (hc:fq [.slot d] (.slot t)=false):bh P ⟨some d,.move (.tmp t),ty,pos,aft,gd⟩ [] [] [(d,.same (.slot t))] [.slot d]:=dC _ _ _ hc
theorem Ki {t:Nat} {q:Nat×Bool} {e:aJ} (hc:fq [.slot d] (.slot t)=false):bh P ⟨some d,.move (.tmp t),ty,pos,aft,some q⟩ [e] [] [(d,.same (.slot t))] [.slot d]:=bh.fr (F:=[e]) (N:=[]) (dC _ _ _ hc) (List.Perm.refl [e])
theorem Kr {x:Operand} (h:bm es x=av) (hc:eh [.slot d] av=true):bh P ⟨some d,.move x,ty,pos,aft,gd⟩ es [] [(d,av)] [.slot d]:=CH _ _ _ _ h hc
theorem JO {x:Operand} (h:bm es x=av) (hc:eh [.slot d] av=true):bh P ⟨some d,.assign x,ty,pos,aft,gd⟩ es [] [(d,av)] [.slot d]:=nk _ _ _ _ h hc
theorem KR {c x y:Operand} {b:Bool} {r:Value} (h:rd es c = .v (.bool b)) (h2:rd es (if b then x else y) = .v r):bh P ⟨some d,.pick c x y,ty,pos,aft,gd⟩ es [] [(d,.v r)] [.slot d]:=Co _ _ b r h h2
theorem KG {op:BinOp} {t t':TypeId} {x y:Operand} {a b r:Value} (hx:rd es x = .v a) (hy:rd es y = .v b) (h:pn op a b=some r):bh P ⟨some d,.binOp op t x y t',ty,pos,aft,gd⟩ es [] [(d,.v r)] [.slot d]:=vA _ _ a b r hx hy h
theorem KP {op:UnOp} {t:TypeId} {x:Operand} {a r:Value} (hx:rd es x = .v a) (h:Kn op a=some r):bh P ⟨some d,.unOp op t x,ty,pos,aft,gd⟩ es [] [(d,.v r)] [.slot d]:=Jz _ _ a r hx h
theorem JM {t i:Nat} {cs:List AV} (h:look es t = .tup cs) (h2:cn (cs.getD i .any)=av) (hc:(eh [.slot d] av&&(Nat.blt i cs.length&&dM av))=true):bh P ⟨some d,.extract (.tmp t) i,ty,pos,aft,gd⟩ es [] [(d,av)] [.slot d]:=by rw [ah,ah] at hc;exact vC _ _ _ cs av h h2 (rh.1 hc.2.1) hc.1 hc.2.2
theorem Kq {s:TypeId} {x:Operand} {i o2 t off:Nat} (F:FO P s i o2) (hx:bm es x = .ptr t off) (hc:Nat.beq t d=false):bh P ⟨some d,.fieldAddr s x i,ty,pos,aft,gd⟩ es [] [(d,.ptr t (off+o2))] [.slot d]:=by obtain ⟨fs,f,kk,h1,h2,h3,h4⟩:=F.get;exact tb _ _ x i t off _ h1 h2 h3 hx (by rw [h4]) (aQ hc)
theorem Kk {s:TypeId} {x:Operand} {i o2 j:Nat} {c:bF} (F:FO P s i o2) (hx:bm es x = .eref c j) (hc:fq [.slot d] c=false):bh P ⟨some d,.fieldAddr s x i,ty,pos,aft,gd⟩ es [] [(d,.eref c (j+o2))] [.slot d]:=by obtain ⟨fs,f,kk,h1,h2,h3,h4⟩:=F.get;exact wu _ _ x i c j _ h1 h2 h3 hx (by rw [h4]) hc
theorem JP {x:Operand} {t off:Nat} (hx:bm es x = .ptr t off) (hc:Nat.beq d t=false):bh P ⟨some d,.nilCheck x,ty,pos,aft,gd⟩ es [] [(d,.ptr t off)] [.slot d]:=Am _ _ x t off hx (aQ hc)
theorem KO {x:Operand} {t:Nat} {T:TypeId} {cs:List AV} (hx:bm es x = .same (.slot t)) (hb:look es t = .box T cs) (hc:Nat.beq d t=false):bh P ⟨some d,.nilCheck x,ty,pos,aft,gd⟩ es [] [(d,.ptr t 0)] [.slot d]:=cI _ _ x t hx hb (aQ hc)
theorem KA {U T':TypeId} {x:Operand} {t off:Nat} {cs:List AV} (A:AS P U) (hx:bm es x = .ptr t off) (hl:look es t = .box T' cs) (ha:mS t off (cs.getD off .any)=av) (hc:(eh [.slot d] av&&(Nat.blt off cs.length&&dM av))=true):bh P ⟨some d,.load U x,ty,pos,aft,gd⟩ es [] [(d,av)] [.slot d]:=by rw [ah,ah] at hc;obtain ⟨⟨td,h1,h2⟩,_⟩:=iQ A.h;exact za _ _ x t off av h1 h2 hx hl (rh.1 hc.2.1) ha hc.1 hc.2.2
theorem KS {U T':TypeId} {s:Nat} {x:Operand} {t off:Nat} {cs ds:List AV} (A:AA P U s) (hx:bm es x = .ptr t off) (hl:look es t = .box T' cs) (ha:Dl t off off s cs ds) (hc:(cW [.slot d] ds&&Nat.blt 0 s)=true):bh P ⟨some d,.load U x,ty,pos,aft,gd⟩ es [] [(d,.agg ds)] [.slot d]:=by rw [ah] at hc;obtain ⟨⟨td,h1,h2⟩,h3⟩:=iQ A.h;obtain ⟨e1,e2⟩:=ha.eq;exact pM _ _ x t off s ds h1 h2 h3 hx hl (e2 (rh.1 hc.2)) e1 hc.1
theorem Kz {t t':TypeId} {x:Operand} {s:ME} (U:UD P t .string) (hx:rd es x = .v (.string s)):bh P ⟨some d,.call ⟨.builtin .len,#[x],#[t]⟩,t',pos,aft,gd⟩ es [] [(d,.v (.int .i64 (s.size:Int)))] [.slot d]:=wj _ _ s U.h hx
theorem JR {t t' e:TypeId} {x:Operand} {m:Md} {z:Nat} {xs:List Value} {q:Nat} (U:UD P t (.slice e)) (hx:rd es x = .fl m z xs) (hn:xs.length=q * z) (hc:Nat.blt 0 z=true):bh P ⟨some d,.call ⟨.builtin .len,#[x],#[t]⟩,t',pos,aft,gd⟩ es [] [(d,.v (.int .i64 (q:Int)))] [.slot d]:=DA _ _ q U.h hx (rh.1 hc) hn
theorem JX {t t' e:TypeId} {x:Operand} {m:Md} {s:Bool} {z:Nat} {cs:List IC} {q:Nat} (U:UD P t (.slice e)) (hx:rd es x = .fr m s z cs) (hn:cs.length=q * z) (hc:Nat.blt 0 z=true):bh P ⟨some d,.call ⟨.builtin .len,#[x],#[t]⟩,t',pos,aft,gd⟩ es [] [(d,.v (.int .i64 (q:Int)))] [.slot d]:=Ds _ _ q U.h hx (rh.1 hc) hn
theorem JL {T:TypeId} {x:Operand} {cs:List AV} (h:bm es x=av) (hv:cQ av=cs) (hc:(dB es av&&cW [.slot d] cs)=true):bh P ⟨some d,.box T x,ty,pos,aft,gd⟩ es [] [(d,.box T cs)] [.slot d]:=by rw [ah] at hc;subst hv;exact Ht _ _ x av h hc.1 hc.2
theorem GI {U T':TypeId} {s t off:Nat} {ax vx:Operand} {cs vs cs':List AV} {av:AV} {es1:List aJ} (A:(P.info? U).map (·.size)=some s) (hx:bm es ax = .ptr t off) (ht:Tk t es (.box T' cs) es1) (hv:bm es1 vx=av) (hvs:cQ av=vs) (hS:Sl off vs cs cs')
  (hx2:bm (es1++[(t,.box T' cs)]) ax = .ptr t off)
  (hc:(wC gd ops es1&&(es1.all (bX (cH t off s))&&(dB es1 av&&(Nat.beq vs.length s&&cW (cH t off s) cs'))))=true) (k:pd P ops n l ((t,.box T' cs')::es1) l' es'):pd P ops (n+1) (⟨none,.store U ax vx,ty,pos,aft,gd⟩::l) es l' es':=by rw [ah,ah,ah,ah] at hc;obtain ⟨c1,c2,c3,c4,c5⟩:=hc;have hl:=Nat.eq_of_beq_eq_true c4;subst hvs;obtain ⟨e1,e2⟩:=hS.eq;rw [hl] at e1 e2;exact ⟨fun rnd Q g0 hr=>mD (gF (o:=⟨none,.store U ax vx,ty,pos,aft,gd⟩) c1 (dW es1 ax vx t off s av cs' A hx2 hv c3 hl e2 e1 c5)) ht.perm c2 (k.run rnd Q g0 hr)⟩
theorem Gu {U T':TypeId} {s t off:Nat} {ax vx:Operand} {cs vs cs':List AV} {av:AV} {es1 N F:List aJ} (A:(P.info? U).map (·.size)=some s) (hx:bm es ax = .ptr t off) (ht:Tk t es (.box T' cs) es1) (hN:es1.Perm (N++F)) (hv:bm N vx=av) (hvs:cQ av=vs) (hS:Sl off vs cs cs')
  (hx2:bm (N++[(t,.box T' cs)]) ax = .ptr t off)
  (hc:(wC gd ops es1&&(es1.all (bX (cH t off s))&&(dB N av&&(Nat.beq vs.length s&&cW (cH t off s) cs'))))=true) (k:pd P ops n l ((t,.box T' cs')::es1) l' es'):pd P ops (n+1) (⟨none,.store U ax vx,ty,pos,aft,gd⟩::l) es l' es':=by rw [ah,ah,ah,ah] at hc;obtain ⟨c1,c2,c3,c4,c5⟩:=hc;have hl:=Nat.eq_of_beq_eq_true c4;subst hvs;obtain ⟨e1,e2⟩:=hS.eq;rw [hl] at e1 e2;exact ⟨fun rnd Q g0 hr=>mD (gF (o:=⟨none,.store U ax vx,ty,pos,aft,gd⟩) c1 ((dW N ax vx t off s av cs' A hx2 hv c3 hl e2 e1 c5).fr hN)) ht.perm c2 (k.run rnd Q g0 hr)⟩
theorem Km {U T':TypeId} {t off:Nat} {ax:Operand} {v:Value} {cs cs':List AV} {es1:List aJ} (A:AS P U) (hx:bm es ax = .ptr t off) (ht:Tk t es (.box T' cs) es1) (hS:Sl off [.v v] cs cs')
  (hx2:bm [(t,.box T' cs)] ax = .ptr t off)
  (hc:(wC gd ops es1&&(es1.all (bX (cH t off 1))&&(dB [] (.v v)&&(Nat.beq [AV.v v].length 1&&cW (cH t off 1) cs'))))=true) (hvs:cQ (.v v)=[.v v]) (k:pd P ops n l ((t,.box T' cs')::es1) l' es'):pd P ops (n+1) (⟨none,.store U ax (.const v),ty,pos,aft,gd⟩::l) es l' es' :=
 Gu (N:=[]) (F:=es1) (iQ A.h).2 hx ht (.refl _) rfl hvs hS hx2 hc k
theorem KH {U T':TypeId} {t off u:Nat} {ax:Operand} {av a0:AV} {cs vs cs':List AV} {es1 F:List aJ} (A:AS P U) (hx:bm es ax = .ptr t off) (ht:Tk t es (.box T' cs) es1) (hu:Tk u es1 a0 F) (hv:bm [(u,a0)] (.tmp u)=av) (hvs:cQ av=vs) (hS:Sl off vs cs cs')
  (hx2:bm ([(u,a0)]++[(t,.box T' cs)]) ax = .ptr t off)
  (hc:(wC gd ops es1&&(es1.all (bX (cH t off 1))&&(dB [(u,a0)] av&&(Nat.beq vs.length 1&&cW (cH t off 1) cs'))))=true) (k:pd P ops n l ((t,.box T' cs')::es1) l' es'):pd P ops (n+1) (⟨none,.store U ax (.tmp u),ty,pos,aft,gd⟩::l) es l' es' :=
 Gu (N:=[(u,a0)]) (F:=F) (iQ A.h).2 hx ht hu.perm hv hvs hS hx2 hc k
theorem KI {U T':TypeId} {t off:Nat} {ax vx:Operand} {cs vs cs':List AV} {av:AV} {es1:List aJ} (A:AS P U) (hx:bm es ax = .ptr t off) (ht:Tk t es (.box T' cs) es1) (hv:bm es1 vx=av) (hvs:cQ av=vs) (hS:Sl off vs cs cs')
  (hx2:bm (es1++[(t,.box T' cs)]) ax = .ptr t off)
  (hc:(wC gd ops es1&&(es1.all (bX (cH t off 1))&&(dB es1 av&&(Nat.beq vs.length 1&&cW (cH t off 1) cs'))))=true) (k:pd P ops n l ((t,.box T' cs')::es1) l' es'):pd P ops (n+1) (⟨none,.store U ax vx,ty,pos,aft,gd⟩::l) es l' es' :=
 GI (iQ A.h).2 hx ht hv hvs hS hx2 hc k
theorem Kt {U T':TypeId} {s t off:Nat} {ax vx:Operand} {cs vs cs':List AV} {av:AV} {es1:List aJ} (A:AA P U s) (hx:bm es ax = .ptr t off) (ht:Tk t es (.box T' cs) es1) (hv:bm es1 vx=av) (hvs:cQ av=vs) (hS:Sl off vs cs cs')
  (hx2:bm (es1++[(t,.box T' cs)]) ax = .ptr t off)
  (hc:(wC gd ops es1&&(es1.all (bX (cH t off s))&&(dB es1 av&&(Nat.beq vs.length s&&cW (cH t off s) cs'))))=true) (k:pd P ops n l ((t,.box T' cs')::es1) l' es'):pd P ops (n+1) (⟨none,.store U ax vx,ty,pos,aft,gd⟩::l) es l' es' :=
 GI (iQ A.h).2 hx ht hv hvs hS hx2 hc k
end
end Go.Abs
end
section
namespace Go.Abs
theorem aw {a b:AV} (h:a=b:=by
 first
  | exact Lh rfl
  | exact Lk rfl
  | exact Lf rfl
  | exact Lg rfl
  | exact Li rfl
  | exact Lj rfl
  | exact rfl):a=b:=h
theorem av {a b:AV} (h:a=b:=by
 first
  | exact Lh rfl
  | exact Li rfl
  | exact Lk rfl
  | exact Lf rfl
  | exact Lg rfl
  | exact Lj rfl
  | exact Lp rfl
  | (apply Lv; exact rfl; apply Mp.eq; (repeat (first | exact .n | (apply Mp.c; exact aw))))
  | exact rfl):a=b:=h
theorem KE {cs ds:List AV} (h:cs=ds):cQ (.agg cs)=ds:=h
theorem vc {a:AV} {cs:List AV} (h:cQ a=cs:=by
 first
  | exact KE rfl
  | exact rfl):cQ a=cs:=h
section
variable {P:Program} {Q:Exit→Act→World→Prop} {g0:Gh} {rnd:Option Nat} {ops:Array Oper} {l l':List Oper} {es es' es'':List aJ} {o:Oper}
theorem Gn {t:Nat} {av:AV} (h:Tk t es av es':=by repeat (first | exact .h | apply Tk.t)):Tk t es av es':=h
theorem kp {ts:List Nat} (h:Kp ts es es':=by repeat (first | exact .n | (apply Kp.c; (repeat (first | exact .h | apply Tk.t))))):Kp ts es es':=h
theorem Iu {ts:List Nat} {T:List aJ} (h:Ts ts es T es':=by repeat (first | exact .n | (apply Ts.c; (repeat (first | exact .h | apply Tk.t))))):Ts ts es T es':=h
theorem Ll {d:Nat} {a:AV} {N:List aJ} (h:bh P o N [] [(d,a)] [.slot d]:=by
 first
  | (apply JZ; kernel_rfl)
  | (apply Ki; kernel_rfl)
  | (apply Kr; exact av; kernel_rfl)
  | (apply JO; exact av; kernel_rfl)
  | (apply KR; exact rfl; exact rfl)
  | (apply Kq; exact inferInstance; exact rfl; kernel_rfl)
  | (apply KA; exact inferInstance; exact rfl; exact rfl; exact aw; kernel_rfl)
  | (apply KG; exact rfl; exact rfl; exact rfl)
  | (apply KP; exact rfl; exact rfl)
  | (apply JM; exact rfl; exact aw; kernel_rfl)
  | (apply KS; exact inferInstance; exact rfl; exact rfl; (repeat (first | exact .n | (apply Dl.c; exact aw) | apply Dl.s)); kernel_rfl)
  | (apply Kz; exact inferInstance; exact rfl)
  | (apply JR; exact inferInstance; exact rfl; (first | exact eK _ | exact lp LenE.h _); kernel_rfl)
  | (apply JX; exact inferInstance; exact rfl; exact br LenI.h _; kernel_rfl)
  | (apply JP; exact rfl; kernel_rfl)
  | (apply KO; exact rfl; exact rfl; kernel_rfl)
  | (apply Kk; exact inferInstance; exact rfl; kernel_rfl)
  | (apply JL; exact av; exact vc; kernel_rfl)):bh P o N [] [(d,a)] [.slot d]:=h
theorem sg {n:Nat} (h:pd P ops n l es l' es':=by
 repeat (first
  | exact sn
  | (apply Ko; exact rfl; kernel_rfl)
  | (apply Lq; exact Ll; kernel_rfl)
  | (apply KI; exact inferInstance; exact rfl; (repeat (first | exact .h | apply Tk.t)); exact av; exact vc; (repeat (first | exact .n | apply Sl.c | apply Sl.s)); exact rfl; kernel_rfl)
  | (apply Km; exact inferInstance; exact rfl; (repeat (first | exact .h | apply Tk.t)); (repeat (first | exact .n | apply Sl.c | apply Sl.s)); exact rfl; kernel_rfl; exact rfl)
  | (apply KH; exact inferInstance; exact rfl; (repeat (first | exact .h | apply Tk.t)); (repeat (first | exact .h | apply Tk.t)); exact av; exact vc; (repeat (first | exact .n | apply Sl.c | apply Sl.s)); exact rfl; kernel_rfl)
  | (apply Kt; exact inferInstance; exact rfl; (repeat (first | exact .h | apply Tk.t)); exact av; exact vc; (repeat (first | exact .n | apply Sl.c | apply Sl.s)); exact rfl; kernel_rfl))):pd P ops n l es l' es':=h
theorem yx {id m:Nat} {l:List Oper} (hn:g0.n=m) (n:Nat) (k:RT rnd P l.toArray Q g0 l' es') (hd:qe m l=true:=by kernel_rfl) (hs:pd P l.toArray n l es l' es':=by exact sg):HT rnd P Q g0 (.region id l.toArray false) es :=
 tc hn hd (hs.run _ _ _ k)
theorem cX {id m:Nat} {l:List Oper} {y:Code} (hn:g0.n=m) (n:Nat) (k:RT rnd P l.toArray (Exit.then (y.wpIn (FW rnd) 0 P Q) Q) g0 l' es') (hd:qe m l=true:=by kernel_rfl) (hs:pd P l.toArray n l es l' es':=by exact sg):HT rnd P Q g0 (.seq (.region id l.toArray false) y) es :=
 aa (tc hn hd (hs.run _ _ _ k))
theorem yS {d:Nat} {l0:List Oper} (a:AV) (n:Nat) (h:OL P l0 es d a) (k:RT rnd P ops Q g0 l' es') (e:l0=o::l:=by rfl) (hc:IU o.guard ops es d=true:=by kernel_rfl) (hs:pd P ops n l ((d,a)::es) l' es':=by exact sg):RT rnd P ops Q g0 l0 es:=by have h2:=h.get e;subst e;exact Jg h2 hc (hs.run _ _ _ k)
theorem ys {d:Nat} {a:AV} {l0:List Oper} (n:Nat) (h:OL P l0 es d a) (k:RT rnd P ops Q g0 l' es') (e:l0=o::l:=by rfl) (hc:IU o.guard ops es d=true:=by kernel_rfl) (hs:pd P ops n l ((d,a)::es) l' es':=by exact sg):RT rnd P ops Q g0 l0 es:=yS a n h k e hc hs
theorem yd {d:Nat} {b c:Bool} (hb:b=c) (n:Nat) (k:RT rnd P ops Q g0 l' es') (hs:pd P ops n l ((d,.v (.bool c))::es) l' es':=by exact sg):RT rnd P ops Q g0 l ((d,.v (.bool b))::es) :=
 IJ hb (hs.run _ _ _ k)
theorem yw (ts:List Nat) (n:Nat) {T N:List aJ} (k:RT rnd P ops Q g0 l' es') (ht:Ts ts es T N:=by exact Iu) (hs:pd P ops n l N l' es':=by exact sg):RT rnd P ops Q g0 l es :=
 yZ ht (hs.run _ _ _ k)
def RX (rnd:Option Nat) (P:Program) (ops:Array Oper) (Q:Exit→Act→World→Prop) (g0:Gh) (T N M:List aJ) (l:List Oper):Prop:=(∃ F,M.Perm (N++F))→RT rnd P ops Q g0 l (T++M)
theorem yk (ts ns:List Nat) {T M N F:List aJ} (k:RX rnd P ops Q g0 T N M l) (ht:Ts ts es T M:=by exact Iu) (hn:Ts ns M N F:=by exact Iu):RT rnd P ops Q g0 l es:=by intro i g a w hl hd hg hs;exact k ⟨F,hn.perm⟩ i g a w hl hd hg (hs.perm ht.perm)
theorem yt {l0:List Oper} (e:aJ) (n:Nat) {T N M:List aJ} {W:List bF} (h:OX P l0 N T [e] W) (k:RT rnd P ops Q g0 l' es') (hl:l0=o::l:=by rfl) (hc:(wC o.guard ops M&&M.all (bX W))=true:=by kernel_rfl) (hs:pd P ops n l (e::M) l' es':=by exact sg):RX rnd P ops Q g0 T N M l0:=by rintro ⟨F,hp⟩;rw [ah] at hc;have h2:=h.get hl;subst hl;exact mD (gF hc.1 (h2.fr hp)) (.refl _) hc.2 (hs.run _ _ _ k)
theorem ib {l0:List Oper} (e e2:aJ) (n:Nat) {T N M:List aJ} {W:List bF} (h:OX P l0 N T [e,e2] W) (k:RT rnd P ops Q g0 l' es') (hl:l0=o::l:=by rfl) (hc:(wC o.guard ops M&&M.all (bX W))=true:=by kernel_rfl) (hs:pd P ops n l (e::e2::M) l' es':=by exact sg):RX rnd P ops Q g0 T N M l0:=by rintro ⟨F,hp⟩;rw [ah] at hc;have h2:=h.get hl;subst hl;exact mD (gF hc.1 (h2.fr hp)) (.refl _) hc.2 (hs.run _ _ _ k)
inductive Ap:List aJ→List aJ→List aJ→Prop
 | n {M:List aJ}:Ap [] M M
 | c {e:aJ} {G M out:List aJ}:Ap G M out→Ap (e::G) M (e::out)
theorem Ap.eq {G M out:List aJ} (h:Ap G M out):G++M=out:=by
 induction h with
 | n=>rfl
 | c _ ih=>rw [List.cons_append,ih]
theorem yn {l0:List Oper} (G:List aJ) (n:Nat) {T N M out:List aJ} {W:List bF} (h:OX P l0 N T G W) (k:RT rnd P ops Q g0 l' es') (hl:l0=o::l:=by rfl) (hc:(wC o.guard ops M&&M.all (bX W))=true:=by kernel_rfl) (ha:Ap G M out:=by repeat (first | exact .n | apply Ap.c)) (hs:pd P ops n l out l' es':=by exact sg):RX rnd P ops Q g0 T N M l0:=by rintro ⟨F,hp⟩;rw [ah] at hc;have h2:=h.get hl;subst hl;refine mD (gF hc.1 (h2.fr hp)) (.refl _) hc.2 ?_;rw [ha.eq];exact hs.run _ _ _ k
theorem ym {t d:Nat} {av:AV} {N:List aJ} {ty:TypeId} {pos:String} {aft:Array Edge} {gd:Option (Nat×Bool)} (n:Nat) (k:RT rnd P ops Q g0 l' es') (ht:Tk t es av N:=by exact Gn) (hc:(wC gd ops N&&(N.all (bX [.slot d])&&eh [.slot d] av))=true:=by kernel_rfl) (hs:pd P ops n l ((d,av)::N) l' es':=by exact sg):RT rnd P ops Q g0 (⟨some d,.move (.tmp t),ty,pos,aft,gd⟩::l) es:=by rw [ah,ah] at hc;exact mD (gF (o:=⟨some d,.move (.tmp t),ty,pos,aft,gd⟩) hc.1 (gh _ _ _ _ hc.2.2)) ht.perm hc.2.1 (hs.run _ _ _ k)
theorem ya {t d:Nat} {av:AV} {N:List aJ} {ty:TypeId} {pos:String} {aft:Array Edge} {gd:Option (Nat×Bool)} (n:Nat) (k:RT rnd P ops Q g0 l' es') (ht:Tk t es av N:=by exact Gn) (hc:(wC gd ops N&&(N.all (bX [.slot d])&&eh [.slot d] av))=true:=by kernel_rfl) (hs:pd P ops n l ((d,av)::N) l' es':=by exact sg):RT rnd P ops Q g0 (⟨some d,.assign (.tmp t),ty,pos,aft,gd⟩::l) es:=by rw [ah,ah] at hc;exact mD (gF (o:=⟨some d,.assign (.tmp t),ty,pos,aft,gd⟩) hc.1 (cF _ _ _ _ hc.2.2)) ht.perm hc.2.1 (hs.run _ _ _ k)
theorem ye (ts:List Nat) (hQ:PT Q g0 .normal es') (hk:Kp ts es es':=by exact kp):RT rnd P ops Q g0 [] es:=zr hk hQ
theorem aS (ts:List Nat) {y:Code} (hQ:HT rnd P Q g0 y es') (hk:Kp ts es es':=by exact kp):RT rnd P ops (Exit.then (y.wpIn (FW rnd) 0 P Q) Q) g0 [] es:=zr hk (ae hQ)
theorem yy {id m:Nat} {l:List Oper} (hn:g0.n=m) (n:Nat) (ts:List Nat) (hQ:PT Q g0 .normal es'') (hd:qe m l=true:=by kernel_rfl) (hs:pd P l.toArray n l es [] es':=by exact sg) (hk:Kp ts es' es'':=by exact kp):HT rnd P Q g0 (.region id l.toArray false) es :=
 tc hn hd (hs.run _ _ _ (zr hk hQ))
theorem aI {id m:Nat} {l:List Oper} {y:Code} (hn:g0.n=m) (n:Nat) (ts:List Nat) (hQ:HT rnd P Q g0 y es'') (hd:qe m l=true:=by kernel_rfl) (hs:pd P l.toArray n l es [] es':=by exact sg) (hk:Kp ts es' es'':=by exact kp):HT rnd P Q g0 (.seq (.region id l.toArray false) y) es :=
 aa (tc hn hd (hs.run _ _ _ (zr hk (ae hQ))))
def bg (args:List AV) (n m:Nat):Bool:=(Nat.ble args.length n&&bj args)&&Nat.beq n m
theorem wm {args:List AV} {n m:Nat} (h:bg args n m=true):args.length≤n∧bj args=true∧n=m:=by rw [bg,ah,ah] at h;exact ⟨Nat.le_of_ble_eq_true h.1.1,h.1.2,Nat.eq_of_beq_eq_true h.2⟩
theorem yO {f:FuncId} {fn:Func} {c:Code} {args:List AV} {res:AV} (m:Nat) (hf:P.funcs[f]? = some fn) (h:∀ g0:Gh,g0.n=m→g0.io=[]→HT none P (CI P fn g0.Imm g0.Im g0.w0 res) g0 c es) (hb:fn.body=some c:=by rfl) (hk:(bg args fn.ntmps m&&args.all dM)=true:=by kernel_rfl) (he:cB args=es:=by
  dsimp only [cB,ff,List.zipIdx,List.map,List.cons_append,List.nil_append,List.length_cons,List.length_nil,Nat.zero_add,Nat.reduceAdd,List.range,List.range.loop]
  first | done | rfl):bA P f args res:=by
 rw [ah] at hk
 obtain ⟨h1,h2,h3⟩:=wm hk.1
 subst h3 he
 exact Jj hf hb h1 h2 hk.2 h
theorem yG {f:FuncId} {fn:Func} {c:Code} {gl:List (Nat×List Value)} {args:List AV} {res:AV} (m:Nat) (hf:P.funcs[f]? = some fn) (h:∀ g0:Gh,g0.n=m→g0.io=[]→HT none P (CI P fn g0.Imm g0.Im g0.w0 res) g0 c es) (hb:fn.body=some c:=by rfl) (hk:(bg args fn.ntmps m&&args.all dM)=true:=by kernel_rfl) (he:cB args++[(m,.glob gl)]=es:=by
  dsimp only [cB,ff,List.zipIdx,List.map,List.cons_append,List.nil_append,List.length_cons,List.length_nil,Nat.zero_add,Nat.reduceAdd,List.range,List.range.loop]
  first | done | rfl):fJ P gl f args res:=by
 rw [ah] at hk
 obtain ⟨h1,h2,h3⟩:=wm hk.1
 subst h3 he
 exact Hr hf hb h1 h2 hk.2 h
theorem yE {f:FuncId} {fn:Func} {c:Code} {args:List AV} {res:AV} (m:Nat) (hf:P.funcs[f]? = some fn) (h:∀ g0:Gh,g0.n=m→g0.ds=[]→HT none P (uU P fn g0.io g0.Imm g0.Im g0.w0 res) g0 c es) (hb:fn.body=some c:=by rfl) (hk:(bg args fn.ntmps m&&args.all dM)=true:=by kernel_rfl) (he:cB args=es:=by
  dsimp only [cB,ff,List.zipIdx,List.map,List.cons_append,List.nil_append,List.length_cons,List.length_nil,Nat.zero_add,Nat.reduceAdd,List.range,List.range.loop]
  first | done | rfl):Hn P f args res:=by
 rw [ah] at hk
 obtain ⟨h1,h2,h3⟩:=wm hk.1
 subst h3 he
 exact Il hf hb h1 h2 hk.2 h
theorem yP {f:FuncId} {fn:Func} {c:Code} {args posts:List AV} {res:AV} {Z:List Value→List aJ} (m:Nat) (hf:P.funcs[f]? = some fn) (h:∀ (xs:List Value),posts.length≤xs.length→∀ g0:Gh,g0.n=m→g0.ds=[]→HT none P (tg P fn xs posts g0.io g0.Imm g0.Im g0.w0 res) g0 c (Z xs)) (hb:fn.body=some c:=by rfl) (hk:(bg args fn.ntmps m&&Nat.ble posts.length args.length)=true:=by kernel_rfl) (he:∀ xs,cB args++ff posts.length xs=Z xs:=by
  intro xs
  dsimp only [cB,ff,List.zipIdx,List.map,List.cons_append,List.nil_append,List.length_cons,List.length_nil,Nat.zero_add,Nat.reduceAdd,List.range,List.range.loop]
  first | done | rfl):mp P f args posts res:=by
 rw [ah] at hk
 obtain ⟨h1,h2,h3⟩:=wm hk.1
 subst h3
 exact If hf hb h1 h2 (Nat.le_of_ble_eq_true hk.2) fun xs hx g0 hn hd=>by rw [he]; exact h xs hx g0 hn hd
theorem vU {f:FuncId} {fn:Func} {c:Code} {gl:List (Nat×List Value)} {args posts:List AV} {res:AV} {Z:List Value→List aJ} (m:Nat) (hf:P.funcs[f]? = some fn) (h:∀ (xs:List Value),posts.length≤xs.length→∀ g0:Gh,g0.n=m→g0.ds=[]→HT none P (tg P fn xs posts g0.io g0.Imm g0.Im g0.w0 res) g0 c (Z xs)) (hb:fn.body=some c:=by rfl) (hk:(bg args fn.ntmps m&&Nat.ble posts.length args.length)=true:=by kernel_rfl) (he:∀ xs,cB args++(ff posts.length xs++[(m,.glob gl)])=Z xs:=by
  intro xs
  dsimp only [cB,ff,List.zipIdx,List.map,List.cons_append,List.nil_append,List.length_cons,List.length_nil,Nat.zero_add,Nat.reduceAdd,List.range,List.range.loop]
  first | done | rfl):ia P gl f args posts res:=by
 rw [ah] at hk
 obtain ⟨h1,h2,h3⟩:=wm hk.1
 subst h3
 exact Gs hf hb h1 h2 (Nat.le_of_ble_eq_true hk.2) fun xs hx g0 hn hd=>by rw [he]; exact h xs hx g0 hn hd
theorem yI {f:FuncId} {fn:Func} {c:Code} {gl:List (Nat×List Value)} {l:Nat} {caps:List AV} {J J':kO} (m:Nat) (hf:P.funcs[f]? = some fn) (h:∀ g0:Gh,g0.n=m→g0.ds=[]→HT none P (Dc P fn g0.io g0.Imm g0.Im g0.w0 J') g0 c es) (hb:fn.body=some c:=by rfl) (hk:(Nat.ble (caps.length+1) fn.ntmps&&(bj caps&&Nat.beq fn.ntmps m))=true:=by kernel_rfl) (he:cB (.v (.func (.yield l) #[] #[])::caps)++[(m,.glob gl),(m+1,.inv J)]=es:=by
  dsimp only [cB,ff,List.zipIdx,List.map,List.cons_append,List.nil_append,List.length_cons,List.length_nil,Nat.zero_add,Nat.reduceAdd,List.range,List.range.loop]
  first | done | rfl):Jh P gl f l caps J J':=by
 rw [ah,ah] at hk
 have h3:=Nat.eq_of_beq_eq_true hk.2.2
 subst h3 he
 exact Hj hf hb (Nat.le_of_ble_eq_true hk.1) hk.2.1 h
end
end Go.Abs
end
section
set_option linter.unusedVariables false
namespace Go.Abs
class SZ (P:Program) (t:TypeId) (s:outParam Nat):Prop where h:(P.info? t).map (·.size)=some s
theorem Kf {c:bF} {t:Nat} (h:c = .slot t):c = .slot t:=h
theorem Ku {c:bF} {t k:Nat} (h:c = .cell t k):c = .cell t k:=h
theorem lc {a b:bF} (h:a=b:=by
 first
  | exact Kf rfl
  | exact Ku rfl):a=b:=h
inductive HS:Nat→List AV→List AV→Prop
 | h {a:AV} {cs:List AV}:HS 0 (a::cs) (.any::cs)
 | t {i:Nat} {a:AV} {cs ds:List AV}:HS i cs ds→HS (i+1) (a::cs) (a::ds)
theorem HS.eq {i:Nat} {cs ds:List AV} (h:HS i cs ds):cs.set i .any=ds∧i<cs.length:=by
 induction h with
 | h=>simp
 | t _ ih=>simp only [List.set_cons_succ,ih.1,List.length_cons,true_and]; omega
section
variable {P:Program} {Q:Exit→Act→World→Prop} {g0:Gh} {rnd:Option Nat} {ops:Array Oper} {l l':List Oper} {es es' es1:List aJ}
variable {ty:TypeId} {pos:String} {aft:Array Edge} {gd:Option (Nat×Bool)} {d:Nat}
theorem lb {op:BinOp} {t t':TypeId} {x y:Operand} {kk:IntKind} {a b:Value} {X v:Int} (hv:some X=some v) (hx:rd es x = .v a:=by exact rfl) (hy:rd es y = .v b:=by exact rfl) (h:pn op a b=some (.int kk X):=by exact rfl):bh P ⟨some d,.binOp op t x y t',ty,pos,aft,gd⟩ es [] [(d,.v (.int kk v))] [.slot d] :=
 vA _ _ a b _ hx hy (by rw [h,ay hv])
theorem lB {op:BinOp} {t t':TypeId} {x y:Operand} {a b r:Value} (h:pn op a b=some r) (hx:rd es x = .v a:=by exact rfl) (hy:rd es y = .v b:=by exact rfl):bh P ⟨some d,.binOp op t x y t',ty,pos,aft,gd⟩ es [] [(d,.v r)] [.slot d]:=vA _ _ a b _ hx hy h
theorem lv {s t:TypeId} {x:Operand} {e:TypeDesc} {kk k':IntKind} {m v:Int} (hv:some (kk.wrap m)=some v) (h1:P.underlying s=some e:=by exact UD.h) (h2:P.underlying t=some (.int kk):=by exact UD.h) (hx:rd es x = .v (.int k' m):=by exact rfl):bh P ⟨some d,.convert s t x,ty,pos,aft,gd⟩ es [] [(d,.v (.int kk v))] [.slot d]:=by have:=ay hv;subst this;exact Gi _ _ m h1 h2 hx
theorem lS {s t e:TypeId} {x:Operand} {m:Md} {a:List Int} {v:ME} (hv:some (wI a)=some v) (h1:P.underlying s=some (.slice e):=by exact UD.h) (h2:P.underlying t=some .string:=by exact UD.h) (h3:P.underlying e=some (.int .u8):=by exact UD.h) (hx:rd es x = .fl m 1 (a.map (Value.int .u8)):=by exact rfl):bh P ⟨some d,.convert s t x,ty,pos,aft,gd⟩ es [] [(d,.v (.string v))] [.slot d]:=by have:=ay hv;subst this;exact yJ _ _ x a h1 h2 h3 hx
theorem lM {s t e E:TypeId} {x:Operand} {a:List Int} {v:ME} (hv:some (wI a)=some v) (h1:P.underlying s=some (.slice e):=by exact UD.h) (h2:P.underlying t=some .string:=by exact UD.h) (h3:P.underlying e=some (.int .u8):=by exact UD.h) (hx:rd es x = .mkr E (a.map (Value.int .u8)):=by exact rfl):bh P ⟨some d,.convert s t x,ty,pos,aft,gd⟩ es [] [(d,.v (.string v))] [.slot d]:=by have:=ay hv;subst this;exact Dn _ _ x a h1 h2 h3 hx
theorem lU {s t e:TypeId} {x:Operand} {a:ME} {v:List Int} {u:TypeDesc} (hv:some (ec a)=some v) (h1:P.underlying s=some u:=by exact UD.h) (h2:P.underlying t=some (.slice e):=by exact UD.h) (h3:P.underlying e=some (.int .u8):=by exact UD.h) (hx:rd es x = .v (.string a):=by exact rfl):bh P ⟨some d,.convert s t x,ty,pos,aft,gd⟩ es [] [(d,.mkr e (v.map (Value.int .u8)))] [.slot d]:=by have:=ay hv;subst this;exact Do _ _ x a h1 h2 h3 hx
theorem lh {t:TypeId} {x y:Operand} {kk:IntKind} {s:ME} {i q:Int} (hv:qx s i=some q) (h1:P.underlying t=some .string:=by exact UD.h) (hx:rd es x = .v (.string s):=by exact rfl) (hy:rd es y = .v (.int kk i):=by exact rfl):bh P ⟨some d,.index t x y,ty,pos,aft,gd⟩ es [] [(d,.v (.int .u8 q))] [.slot d]:=Ip _ _ s i q h1 hx hy hv
def ca (res:AV):Bool:=bq res&&eW res
theorem lk {f:FuncId} {cal:Operand} {args:Array Operand} {ats:Array TypeId} {avs:List AV} {res:AV} (hrun:∀ args w,(callFunc f args).run P w = .ok (.enter f args) w) (hf:bA P f avs res) (hcal:rd es cal = .v (.func (.func f) #[] #[]):=by exact rfl)
  (hav:args.toList.map (lN es)=avs:=by exact rfl) (hc:ca res=true:=by kernel_rfl):bh P ⟨some d,.call ⟨.value cal,args,ats⟩,ty,pos,aft,gd⟩ es [] [(d,res)] [.slot d]:=by rw [ca,ah] at hc;exact yD _ _ f avs res hcal hrun hav hf hc.1 hc.2
theorem lr {f:FuncId} {cal:Operand} {args:Array Operand} {ats:Array TypeId} {avs:List AV} {res:AV} (hrun:∀ args w,(callFunc f args).run P w = .ok (.enter f args) w) (hf:bA P f avs res) (hcal:rd es cal = .v (.func (.func f) #[] #[]):=by exact rfl)
  (hav:args.toList.map (EI es)=avs:=by exact rfl) (hc:ca res=true:=by kernel_rfl):bh P ⟨some d,.call ⟨.value cal,args,ats⟩,ty,pos,aft,gd⟩ es [] [(d,res)] [.slot d]:=by rw [ca,ah] at hc;exact EH _ _ f avs res hcal hrun hav hf hc.1 hc.2
theorem lg {f:Nat} {gl:List (Nat×List Value)} {cal:Operand} {args:Array Operand} {ats:Array TypeId} {avs:List AV} {res:AV} (hrun:∀ args w,(callFunc f args).run P w = .ok (.enter f args) w) (hf:fJ P gl f avs res) (m:Nat) (hcal:rd es cal = .v (.func (.func f) #[] #[]):=by exact rfl)
  (hav:args.toList.map (lN es)=avs:=by exact rfl) (hgl:look es m = .glob gl:=by exact rfl) (hc:ca res=true:=by kernel_rfl):bh P ⟨some d,.call ⟨.value cal,args,ats⟩,ty,pos,aft,gd⟩ es [] [(d,res)] [.slot d]:=by rw [ca,ah] at hc;exact sK _ _ m f avs res hcal hrun hav hgl (fun _ h=>h) hf hc.1 hc.2
theorem li {A:Type} {T e:TypeId} {x i:Nat} {y:Operand} {kd:IntKind} {m:Md} {f:A→Value} {L:List A} {nn:Int} {c:bF} (hv:du nn L.length=some i) (h1:P.underlying T=some (.slice e):=by exact UD.h) (h2:(P.info? e).map (·.size)=some 1:=by exact SZ.h) (hx:rd es (.tmp x) = .fl m 1 (L.map f):=by exact rfl)
  (hl:rH es (.tmp x)=c:=by exact lc) (hy:rd es y = .v (.int kd nn):=by exact rfl) (hc:fq [.slot d] c=false:=by kernel_rfl):bh P ⟨some d,.indexAddr T (.tmp x) y,ty,pos,aft,gd⟩ es [] [(d,.eref c (i * 1))] [.slot d] :=
 GE _ _ x y nn i 1 c h1 h2 (by decide) hx hl hy (bL hv).1 (lK (bL hv).2) hc
theorem lj {A:Type} {z:Nat} {T e:TypeId} {x i:Nat} {y:Operand} {kd:IntKind} {m:Md} {enc:A→List Value} {L:List A} {nn:Int} {c:bF} (hv:du nn L.length=some i) (h1:P.underlying T=some (.slice e):=by exact UD.h) (h2:(P.info? e).map (·.size)=some z:=by exact SZ.h) (hx:rd es (.tmp x) = .fl m z ((L.map enc).flatten):=by exact rfl)
  (hE:∀ x,(enc x).length=z:=by exact LenE.h) (hl:rH es (.tmp x)=c:=by exact lc) (hy:rd es y = .v (.int kd nn):=by exact rfl) (hc:(Nat.blt 0 z && !fq [.slot d] c)=true:=by kernel_rfl):bh P ⟨some d,.indexAddr T (.tmp x) y,ty,pos,aft,gd⟩ es [] [(d,.eref c (i * z))] [.slot d]:=by rw [ah,Bool.not_eq_true'] at hc;exact GE _ _ x y nn i z c h1 h2 (rh.1 hc.1) hx hl hy (bL hv).1 (FK hE (bL hv).2) hc.2
theorem lI {A:Type} {z:Nat} {s:Bool} {T e:TypeId} {x i:Nat} {y:Operand} {kd:IntKind} {m:Md} {enc:A→List IC} {L:List A} {nn:Int} {c:bF} (hv:du nn L.length=some i) (h1:P.underlying T=some (.slice e):=by exact UD.h) (h2:(P.info? e).map (·.size)=some z:=by exact SZ.h) (hx:rd es (.tmp x) = .fr m s z ((L.map enc).flatten):=by exact rfl)
  (hE:∀ x,(enc x).length=z:=by exact LenI.h) (hl:rH es (.tmp x)=c:=by exact lc) (hy:rd es y = .v (.int kd nn):=by exact rfl) (hc:(Nat.blt 0 z && !fq [.slot d] c)=true:=by kernel_rfl):bh P ⟨some d,.indexAddr T (.tmp x) y,ty,pos,aft,gd⟩ es [] [(d,.eref c (i * z))] [.slot d]:=by rw [ah,Bool.not_eq_true'] at hc;exact EA _ _ x y nn i z c h1 h2 (rh.1 hc.1) hx hl hy (bL hv).1 (zX hE (bL hv).2) hc.2
theorem ll {A:Type} {U:TypeId} {x:Operand} {i:Nat} {m:Md} {f:A→Value} {L:List A} {v:A} {c:bF} (hv:bK L i=some v) (h1:AS P U:=by infer_instance) (hx:bm es x = .eref c (i * 1):=by exact rfl) (hl:pf es c = .fl m 1 (L.map f):=by exact rfl):bh P ⟨some d,.load U x,ty,pos,aft,gd⟩ es [] [(d,.v (f v))] [.slot d]:=by obtain ⟨⟨td,u1,u2⟩,_⟩:=iQ h1.h;exact CZ _ _ x c (i * 1) (f v) u1 u2 hx hl (Cs hv)
theorem yp {A:Type} {T e t':TypeId} {by_ t:Nat} {x y:Operand} {my:Md} {f:A→Value} {L M q:List A} (hE:dO P T e 1 by_) (hv:cA by_ L M=some q) (n:Nat) (k:RT rnd P ops Q g0 l' es') (hx:bm es x = .same (.slot t):=by exact rfl) (ht:Tk t es (.fl (.own e) 1 (L.map f)) es1:=by exact Gn)
  (hx2:bm (es1++[(t,.fl (.own e) 1 (L.map f))]) x = .same (.slot t):=by exact rfl) (hy:rd es1 y = .fl my 1 (M.map f):=by exact rfl) (hc:(wC gd ops es1&&es1.all (bX [.slot d]))=true:=by kernel_rfl) (hs:pd P ops n l ((d,.fl (.own e) 1 (q.map f))::es1) l' es':=by exact sg) :
  RT rnd P ops Q g0 (⟨some d,.call ⟨.builtin .append,#[x,y],#[T,T]⟩,t',pos,aft,gd⟩::l) es:=by rw [ah] at hc;refine mD (o:=⟨some d,.call ⟨.builtin .append,#[x,y],#[T,T]⟩,t',pos,aft,gd⟩) (gF hc.1 (DQ es1 d t x y hE hx2 hy (eK _) (eK _) hv ((List.map_append).symm.trans (congrArg (List.map _) (dV hv))))) ht.perm hc.2 ?_;exact yZ (.c .h .n) (hs.run _ _ _ k)
theorem Lc {A:Type} {z:Nat} {T e t':TypeId} {by_ t:Nat} {x y:Operand} {my:Md} {enc:A→List Value} {L M q:List A} (hE:dO P T e z by_) (hv:cA by_ L M=some q) (n:Nat) (k:RT rnd P ops Q g0 l' es') (hx:bm es x = .same (.slot t):=by exact rfl) (ht:Tk t es (.fl (.own e) z ((L.map enc).flatten)) es1:=by exact Gn)
  (hx2:bm (es1++[(t,.fl (.own e) z ((L.map enc).flatten))]) x = .same (.slot t):=by exact rfl) (hy:rd es1 y = .fl my z ((M.map enc).flatten):=by exact rfl) (hL:∀ x,(enc x).length=z:=by exact LenE.h) (hc:(wC gd ops es1&&es1.all (bX [.slot d]))=true:=by kernel_rfl) (hs:pd P ops n l ((d,.fl (.own e) z ((q.map enc).flatten))::es1) l' es':=by exact sg) :
  RT rnd P ops Q g0 (⟨some d,.call ⟨.builtin .append,#[x,y],#[T,T]⟩,t',pos,aft,gd⟩::l) es:=by rw [ah] at hc;refine mD (o:=⟨some d,.call ⟨.builtin .append,#[x,y],#[T,T]⟩,t',pos,aft,gd⟩) (gF hc.1 (DQ es1 d t x y hE hx2 hy (lp hL _) (lp hL _) hv (dv (dV hv)))) ht.perm hc.2 ?_;exact yZ (.c .h .n) (hs.run _ _ _ k)
theorem mL {t i:Nat} {cs ds:List AV} {av:AV} (n:Nat) (k:RT rnd P ops Q g0 l' es') (ht:Tk t es (.tup cs) es1:=by exact Gn) (hi:cs.getD i .any=av:=by exact rfl) (hcs:HS i cs ds:=by repeat (first | exact .h | apply HS.t)) (hc:((wC gd ops es1&&es1.all (bX [.slot d]))&&((eh [.slot d] av&&cW [.slot d] ds)&&(!Nat.beq d t&&dM av)))=true:=by kernel_rfl)
  (hs:pd P ops n l ((d,av)::(t,.tup ds)::es1) l' es':=by exact sg):RT rnd P ops Q g0 (⟨some d,.extract (.tmp t) i,ty,pos,aft,gd⟩::l) es:=by rw [ah,ah,ah,ah,ah,Bool.not_eq_true'] at hc;obtain ⟨⟨c1,c2⟩,⟨c3,c4⟩,c5,c6⟩:=hc;obtain ⟨e1,e2⟩:=hcs.eq;subst e1;refine mD (o:=⟨some d,.extract (.tmp t) i,ty,pos,aft,gd⟩) (gF c1 (gR es1 t d cs av hi e2 c3 c4 (aQ c5) c6)) ht.perm c2 ?_;intro j g a w hl hd hg hs';exact hs.run _ _ _ k j g a w hl hd hg (hs'.perm (.swap _ _ _))
theorem yq {f:FuncId} {cal x0:Operand} {ys:List Operand} {ats:Array TypeId} {a0 post res:AV} {avs:List AV} {M N F:List aJ} (hrun:∀ args w,(callFunc f args).run P w = .ok (.enter f args) w) (hf:mp P f (a0::avs) [post] res) (t:Nat) (ns:List Nat) (n:Nat) (k:RT rnd P ops Q g0 l' es')
  (ht:Tk t es a0 M:=by exact Gn) (hn:Ts ns M N F:=by exact Iu) (hcal:rd N cal = .v (.func (.func f) #[] #[]):=by exact rfl) (hx:pG (N++[(t,a0)]) [x0] [(t,a0)]=true:=by exact rfl) (hav:ys.map (lN N)=avs:=by exact rfl)
  (hc:((wC gd ops M&&M.all (bX (bF.slot d::jo [(t,post)])))&&((bq res&&bj [a0])&&(bj [post]&&(N.all (fun e=>gw e.2) && !Nat.beq t d))))=true:=by kernel_rfl) (hs:pd P ops n l ((t,post)::(d,res)::M) l' es':=by exact sg):RT rnd P ops Q g0 (⟨some d,.call ⟨.value cal,(x0::ys).toArray,ats⟩,ty,pos,aft,gd⟩::l) es:=by rw [ah,ah,ah,ah,ah,ah] at hc;obtain ⟨⟨c1,c2⟩,⟨c3,c4⟩,c5,c6,c7⟩:=hc;exact mD (o:=⟨some d,.call ⟨.value cal,(x0::ys).toArray,ats⟩,ty,pos,aft,gd⟩) (gF c1 ((tI N [(t,a0)] _ _ d f [x0] ys avs [post] res hcal hrun rfl hx hav hf (aq _) c3 c4 c5 c6 (by simpa using c7) rfl rfl).fr hn.perm)) ht.perm c2 (hs.run _ _ _ k)
theorem yQ {f:FuncId} {cal x0:Operand} {ys:List Operand} {ats:Array TypeId} {a0 post res:AV} {avs:List AV} {M N F:List aJ} (hrun:∀ args w,(callFunc f args).run P w = .ok (.enter f args) w) (hf:mp P f (a0::avs) [post] res) (t:Nat) (ns:List Nat) (n:Nat) (k:RT rnd P ops Q g0 l' es')
  (ht:Tk t es a0 M:=by exact Gn) (hn:Ts ns M N F:=by exact Iu) (hcal:rd N cal = .v (.func (.func f) #[] #[]):=by exact rfl) (hx:pG (N++[(t,a0)]) [x0] [(t,a0)]=true:=by exact rfl) (hav:ys.map (lN N)=avs:=by exact rfl)
  (hc:((wC gd ops M&&M.all (bX (bF.slot d::jo [(t,post)])))&&((bq res&&bj [a0])&&(bj [post]&&((eW res&&kq [post]) && !Nat.beq t d))))=true:=by kernel_rfl) (hs:pd P ops n l ((t,post)::(d,res)::M) l' es':=by exact sg):RT rnd P ops Q g0 (⟨some d,.call ⟨.value cal,(x0::ys).toArray,ats⟩,ty,pos,aft,gd⟩::l) es:=by rw [ah,ah,ah,ah,ah,ah,ah] at hc;obtain ⟨⟨c1,c2⟩,⟨c3,c4⟩,c5,⟨c6,c8⟩,c7⟩:=hc;exact mD (o:=⟨some d,.call ⟨.value cal,(x0::ys).toArray,ats⟩,ty,pos,aft,gd⟩) (gF c1 ((tp N [(t,a0)] _ _ d f [x0] ys avs [post] res hcal hrun rfl hx hav hf (aq _) c3 c4 c5 c6 c8 (by simpa using c7) rfl rfl).fr hn.perm)) ht.perm c2 (hs.run _ _ _ k)
end
end Go.Abs
end
section
set_option linter.unusedVariables false
namespace Go.Abs
abbrev TE:=Nat×aJ
inductive Fv (t:Nat):List TE→Nat→AV→Prop
 | h {i:Nat} {av:AV} {r:List TE}:Fv t ((i,(t,av))::r) i av
 | t {i:Nat} {av:AV} {e:TE} {r:List TE}:Fv t r i av→Fv t (e::r) i av
inductive Nv:List Nat→List TE→List Nat→List aJ→Prop
 | n {vw:List TE}:Nv [] vw [] []
 | c {t i:Nat} {av:AV} {ts I:List Nat} {vw:List TE} {N:List aJ}:Fv t vw i av→Nv ts vw I N→Nv (t::ts) vw (i::I) ((t,av)::N)
inductive Rv (t:Nat):List TE→Nat→AV→List TE→Prop
 | h {i:Nat} {av:AV} {r:List TE}:Rv t ((i,(t,av))::r) i av r
 | t {i:Nat} {av:AV} {e:TE} {r r':List TE}:Rv t r i av r'→Rv t (e::r) i av (e::r')
inductive Tv:List Nat→List TE→List Nat→List aJ→List TE→Prop
 | n {vw:List TE}:Tv [] vw [] [] vw
 | c {t i:Nat} {av:AV} {ts I:List Nat} {vw vw1 vw2:List TE} {N:List aJ}:Rv t vw i av vw1→Tv ts vw1 I N vw2→Tv (t::ts) vw (i::I) ((t,av)::N) vw2
inductive Vw:Nat→List aJ→List TE→Nat→Prop
 | n {k:Nat}:Vw k [] [] k
 | c {k k1 m:Nat} {e:aJ} {es:List aJ} {vw:List TE}:k+1=k1→Vw k1 es vw m→Vw k (e::es) ((k,e)::vw) m
inductive Rr {A:Type}:List A→List A→List A→Prop
 | n {acc:List A}:Rr [] acc acc
 | c {x:A} {l acc out:List A}:Rr l (x::acc) out→Rr (x::l) acc out
theorem Rr.eq {A:Type} {l acc out:List A} (h:Rr l acc out):l.reverse++acc=out:=by
 induction h with
 | n=>rfl
 | c _ ih=>rw [List.reverse_cons,ar]; exact ih
def Gz (El:List aJ) (vw:List TE):Prop:=∀ p∈vw,El[p.1]? = some p.2
theorem Fv.mem {t i:Nat} {av:AV} {vw:List TE} (h:Fv t vw i av):(i,(t,av))∈vw:=by
 induction h with
 | h=>exact .head _
 | t _ ih=>exact .tail _ ih
theorem Rv.mem {t i:Nat} {av:AV} {vw vw1:List TE} (h:Rv t vw i av vw1):(i,(t,av))∈vw∧∀ p∈vw1,p∈vw:=by
 induction h with
 | h=>exact ⟨.head _,fun p hp => .tail _ hp⟩
 | t _ ih =>
  refine ⟨.tail _ ih.1,fun p hp => ?_⟩
  cases hp with
  | head=>exact .head _
  | tail _ hp=>exact .tail _ (ih.2 p hp)
theorem yl {El ext:List aJ} {i:Nat} {e:aJ} (h:El[i]? = some e):kP (El++ext) i=e:=by have hi:=(List.getElem?_eq_some_iff.1 h).1;rw [kP,List.getD_eq_getElem?_getD,List.getElem?_append_left hi,h]; rfl
theorem Nv.tags {ts I:List Nat} {vw:List TE} {N:List aJ} (h:Nv ts vw I N) {El:List aJ} (hv:Gz El vw) (ext:List aJ):I.map (kP (El++ext))=N:=by
 induction h with
 | n=>rfl
 | c h1 _ ih=>rw [List.map_cons,ih hv,yl (hv _ h1.mem)]
theorem Tv.tags {ts I:List Nat} {vw vw1:List TE} {N:List aJ} (h:Tv ts vw I N vw1) {El:List aJ} (hv:Gz El vw) (ext:List aJ):I.map (kP (El++ext))=N∧∀ p∈vw1,p∈vw:=by
 induction h with
 | n=>exact ⟨rfl,fun p hp=>hp⟩
 | c h1 _ ih =>
  have:=ih (fun p hp=>hv p (h1.mem.2 p hp));exact ⟨by rw [List.map_cons,this.1,yl (hv _ h1.mem.1)],fun p hp=>h1.mem.2 p (this.2 p hp)⟩
theorem Vw.ok {k m:Nat} {es:List aJ} {vw:List TE} (h:Vw k es vw m):(∀ p∈vw,k≤p.1∧es[p.1-k]? = some p.2)∧m=k+es.length:=by
 induction h with
 | n=>exact ⟨fun p hp=>(by cases hp),rfl⟩
 | c h0 _ ih =>
  subst h0;rename_i k m e es vw _;refine ⟨fun p hp => ?_,by rw [ih.2,List.length_cons]; omega⟩
  cases hp with
  | head=>simp
  | tail _ hp =>
   have:=ih.1 p hp;refine ⟨by omega,?_⟩;rw [show p.1-k=p.1-(k+1)+1 by omega,List.getElem?_cons_succ];exact this.2
theorem Vw.snd {k m:Nat} {es:List aJ} {vw:List TE} (h:Vw k es vw m):vw.map (fun p=>p.2)=es:=by
 induction h with
 | n=>rfl
 | c _ _ ih=>rw [List.map_cons,ih]
section
variable {P:Program} {Q:Exit→Act→World→Prop} {g0:Gh} {rnd:Option Nat}
theorem un {ops:Array Oper} {E:Nat→aJ} {o:Oper} {s:Sp}:∀ {done:List Oper} {sps:List Sp},rT P ops E done sps→zL P ops o (s.N.map E) (s.T.map E) (s.G.map E) s.W→rT P ops E (done++[o]) (sps++[s])
 | [],[],_,h2=>⟨h2,trivial⟩
 | [],_::_,h,_=>h.elim
 | _::_,[],h,_=>h.elim
 | _::_,_::_,h,h2=>⟨h.1,un h.2 h2⟩
def WT (rnd:Option Nat) (P:Program) (Q:Exit→Act→World→Prop) (g0:Gh) (id:Nat) (es:List aJ) (L:List Oper) (Or:List aJ) (Sr:List Sp) (l:List Oper) (vw:List TE) (nx:Nat):Prop :=
 (∃ done,L=done++l∧∀ ext,rT P L.toArray (kP ((es++Or.reverse)++ext)) done Sr.reverse)→Gz (es++Or.reverse) vw→nx=es.length+Or.length→HT rnd P Q g0 (.region id L.toArray true) es
variable {id nx m:Nat} {ts ns:List Nat} {es Or:List aJ} {L l l':List Oper} {Sr:List Sp} {vw:List TE}
theorem Gz.app {El:List aJ} (h:Gz El vw) (ext:List aJ):Gz (El++ext) vw:=fun p hp=>by
 have:=h p hp
 rw [List.getElem?_append_left (List.getElem?_eq_some_iff.1 this).1]; exact this
theorem JA {o:Oper} {N T G:List aJ} {W:List bF} {ts ns IT IN:List Nat} {vw1 gt:List TE} (hT:Tv ts vw IT T vw1) (hN:Nv ns vw IN N) (hG:Vw nx G gt m) (h:zL P L.toArray o N T G W) (k:WT rnd P Q g0 id es L (G.reverse++Or) (⟨IN,IT,gt.map (·.1),W⟩::Sr) l (gt++vw1) m):WT rnd P Q g0 id es L Or Sr (o::l) vw nx:=by
 rintro ⟨done,hL,hst⟩ hv hnx;have hEl:es++(G.reverse++Or).reverse=(es++Or.reverse)++G:=by rw [List.reverse_append,List.reverse_reverse,ar]
 have hg:=hG.ok;have hgt:=hG.snd
 have hvG:Gz ((es++Or.reverse)++G) gt:=fun p hp=>by have:=hg.1 p hp;rw [List.getElem?_append_right (by rw [List.length_append,List.length_reverse]; omega),List.length_append,List.length_reverse,← hnx];exact this.2
 refine k ⟨done++[o],by rw [hL,ar]; rfl,fun ext => ?_⟩ ?_ ?_
 ·rw [List.reverse_cons];refine un ?_ ?_
  ·rw [hEl];have:=hst (G++ext);rw [← ar] at this;exact this
  ·rw [hEl]
   have e1:IN.map (kP (((es++Or.reverse)++G)++ext))=N:=by have:=hN.tags hv (G++ext);rw [← ar] at this; exact this
   have e2:IT.map (kP (((es++Or.reverse)++G)++ext))=T:=by have:=(hT.tags hv (G++ext)).1;rw [← ar] at this; exact this
   have e3:(gt.map (·.1)).map (kP (((es++Or.reverse)++G)++ext))=G:=by
    rw [List.map_map]
    conv=>rhs; rw [← hgt]
    exact List.map_congr_left fun p hp=>yl (hvG p hp)
   show zL P L.toArray o (IN.map _) (IT.map _) ((gt.map (·.1)).map _) W;rw [e1,e2,e3]; exact h
 ·rw [hEl];intro p hp;rcases ak.1 hp with hp | hp
  ·exact hvG p hp
  ·exact hv.app G p ((hT.tags hv []).2 p hp)
 ·rw [hg.2,hnx,List.length_append,List.length_reverse]; omega
theorem JW {o:Oper} {N:List aJ} {d:Nat} {av:AV} {W:List bF} {ns IN:List Nat} (hN:Nv ns vw IN N) (h:zL P L.toArray o N [] [(d,av)] W) (k:WT rnd P Q g0 id es L ((d,av)::Or) (⟨IN,[],[nx],W⟩::Sr) l ((nx,(d,av))::vw) (nx+1)):WT rnd P Q g0 id es L Or Sr (o::l) vw nx :=
 JA .n hN (.c rfl .n) h k
theorem Fo {y:Nat} (hv:Vw 0 es vw nx) (k:WT rnd P Q g0 id es L [] [] L vw nx):HT rnd P Q g0 (.region id L.toArray true) es:=by obtain ⟨h1,h2⟩:=hv.ok;refine k ⟨[],rfl,fun ext=>trivial⟩ (fun p hp => ?_) (by rw [h2]; simp);have:=(h1 p hp).2;simpa using this
inductive Kv:List Nat→List TE→List Nat→List aJ→Prop
 | n {vw:List TE}:Kv [] vw [] []
 | c {t i:Nat} {av:AV} {ts I:List Nat} {vw vw1:List TE} {N:List aJ}:Rv t vw i av vw1→Kv ts vw1 I N→Kv (t::ts) vw (i::I) ((t,av)::N)
theorem Kv.tags {ts I:List Nat} {vw:List TE} {N:List aJ} (h:Kv ts vw I N) {El:List aJ} (hv:Gz El vw):I.map (kP El)=N:=by
 induction h with
 | n=>rfl
 | c h1 _ ih =>
  have:=yl (ext:=[]) (hv _ h1.mem.1);rw [bn] at this;rw [List.map_cons,ih (fun p hp=>hv p (h1.mem.2 p hp)),this]
theorem GK {n:Nat} {ts fin:List Nat} {outs es':List aJ} {sps:List Sp} (hm:P.follows .mixedOrders=true) (hn:g0.n=n) (hk:Kv ts vw fin es') (hO:Rr Or [] outs) (hS:Rr Sr [] sps) (hQ:PT Q g0 .normal es') (hc:xJ n L (es++outs) (List.range es.length) sps fin=true):WT rnd P Q g0 id es L Or Sr [] vw nx:=by
 rintro ⟨done,hL,hst⟩ hv hnx;rw [bn] at hL;subst hL;have e1:=hO.eq;have e2:=hS.eq;rw [bn] at e1 e2;subst e1 e2;have h0:=hst [];rw [bn] at h0;refine sL hm hn hc ?_ (hk.tags hv) h0 hQ;apply List.ext_getElem?;intro i;simp only [List.getElem?_map];by_cases h:i<es.length
 ·rw [List.getElem?_range h];simp only [Option.map_some,kP,List.getD_eq_getElem?_getD];rw [List.getElem?_append_left h,List.getElem?_eq_getElem h];rfl
 ·rw [List.getElem?_eq_none (by simpa using Nat.le_of_not_lt h),List.getElem?_eq_none (Nat.le_of_not_lt h)]; rfl
structure WS (P:Program) (L:List Oper) (hs:List (List Nat)) (Or:List aJ) (Sr:List Sp) (l:List Oper) (vw:List TE) (nx:Nat) (Or':List aJ) (Sr':List Sp) (l':List Oper) (vw':List TE) (nx':Nat):Prop where
 run:∀ (rnd:Option Nat) (Q:Exit→Act→World→Prop) (g0:Gh) (id:Nat) (es:List aJ),WT rnd P Q g0 id es L Or' Sr' l' vw' nx'→WT rnd P Q g0 id es L Or Sr l vw nx
variable {hs:List (List Nat)} {Or':List aJ} {Sr':List Sp} {vw':List TE} {nx':Nat}
theorem wn:WS P L [] Or Sr l vw nx Or Sr l vw nx:=⟨fun _ _ _ _ _ h=>h⟩
theorem Iw {a b:Nat} (h:a=b:=by simp only [Nat.reduceAdd]; rfl):a=b:=h
theorem Kh {i:Op} {q:Nat×Bool} {ty:TypeId} {pos:String} {aft:Array Edge} {d:Nat} {N:List aJ} {ns IN:List Nat} (hN:Nv ns vw IN N) {n1:Nat} (hg:Cx (some q) L.toArray N=true) (h1:nx+1=n1) (k:WS P L hs ((d,.v undef)::Or) (⟨IN,[],[nx],[.slot d]⟩::Sr) l ((nx,(d,.v undef))::vw) n1 Or' Sr' l' vw' nx') :
  WS P L (ns::hs) Or Sr (⟨some d,i,ty,pos,aft,some q⟩::l) vw nx Or' Sr' l' vw' nx' :=
 ⟨fun rnd Q g0 id es h=>JW hN (zP (o:=⟨some d,i,ty,pos,aft,some q⟩) hg rfl) (h1 ▸ k.run rnd Q g0 id es h)⟩
theorem Ls {o:Oper} {d:Nat} {av:AV} {N:List aJ} {ns IN:List Nat} (hN:Nv ns vw IN N) (h:bh P o N [] [(d,av)] [.slot d]) {n1:Nat} (hg:wC o.guard L.toArray N=true) (h1:nx+1=n1) (k:WS P L hs ((d,av)::Or) (⟨IN,[],[nx],[.slot d]⟩::Sr) l ((nx,(d,av))::vw) n1 Or' Sr' l' vw' nx') :
  WS P L (ns::hs) Or Sr (o::l) vw nx Or' Sr' l' vw' nx' :=
 ⟨fun rnd Q g0 id es hh=>JW hN (gF hg h) (h1 ▸ k.run rnd Q g0 id es hh)⟩
theorem ws (h:WS P L hs Or Sr l vw nx Or' Sr' l' vw' nx':=by
 repeat (first
  | exact wn
  | (apply Kh; (repeat (first | exact .n | (apply Nv.c; (repeat (first | exact .h | apply Fv.t))))); exact rfl; exact Iw)
  | (apply Ls; (repeat (first | exact .n | (apply Nv.c; (repeat (first | exact .h | apply Fv.t))))); exact Ll; kernel_rfl; exact Iw))):WS P L hs Or Sr l vw nx Or' Sr' l' vw' nx':=h
theorem nv {ns IN:List Nat} {N:List aJ} (h:Nv ns vw IN N:=by repeat (first | exact .n | (apply Nv.c; (repeat (first | exact .h | apply Fv.t))))):Nv ns vw IN N:=h
theorem wb (hs:List (List Nat)) (k:WT rnd P Q g0 id es L Or' Sr' l' vw' nx') (hv:Vw 0 es vw nx:=by repeat (first | exact .n | (apply Vw.c; exact Iw))) (h:WS P L hs [] [] L vw nx Or' Sr' l' vw' nx':=by exact ws):HT rnd P Q g0 (.region id L.toArray true) es :=
 Fo (y:=0) hv (h.run _ _ _ _ _ k)
def WX (rnd:Option Nat) (P:Program) (Q:Exit→Act→World→Prop) (g0:Gh) (id:Nat) (es:List aJ) (L:List Oper) (Or:List aJ) (Sr:List Sp) (l:List Oper) (vw:List TE) (nx:Nat) (IN:List Nat) (N:List aJ):Prop:=(∃ ns,Nv ns vw IN N)→WT rnd P Q g0 id es L Or Sr l vw nx
def WY (rnd:Option Nat) (P:Program) (Q:Exit→Act→World→Prop) (g0:Gh) (id:Nat) (es:List aJ) (L:List Oper) (Or:List aJ) (Sr:List Sp) (l:List Oper) (vw vw1:List TE) (nx:Nat) (IT:List Nat) (T:List aJ) (IN:List Nat) (N:List aJ):Prop:=(∃ ns,Nv ns vw IN N)→(∃ ts,Tv ts vw IT T vw1)→WT rnd P Q g0 id es L Or Sr l vw nx
theorem wN {IN:List Nat} {N:List aJ} (ns:List Nat) (k:WX rnd P Q g0 id es L Or Sr l vw nx IN N) (hN:Nv ns vw IN N:=by exact nv):WT rnd P Q g0 id es L Or Sr l vw nx:=k ⟨ns,hN⟩
theorem wK {IN IT:List Nat} {N T:List aJ} {vw1:List TE} (ts ns:List Nat) (k:WY rnd P Q g0 id es L Or Sr l vw vw1 nx IT T IN N) (hT:Tv ts vw IT T vw1:=by repeat (first | exact .n | (apply Tv.c; (repeat (first | exact .h | apply Rv.t))))) (hN:Nv ns vw IN N:=by exact nv):WT rnd P Q g0 id es L Or Sr l vw nx:=k ⟨ns,hN⟩ ⟨ts,hT⟩
theorem wS {d:Nat} {l0:List Oper} {o:Oper} {N:List aJ} {IN:List Nat} {n1:Nat} (a:AV) (hs:List (List Nat)) (h:OL P l0 N d a) (k:WT rnd P Q g0 id es L Or' Sr' l' vw' nx') (e:l0=o::l:=by rfl) (hg:wC o.guard L.toArray N=true:=by kernel_rfl) (h1:nx+1=n1:=by exact Iw)
  (h2:WS P L hs ((d,a)::Or) (⟨IN,[],[nx],[.slot d]⟩::Sr) l ((nx,(d,a))::vw) n1 Or' Sr' l' vw' nx':=by exact ws):WX rnd P Q g0 id es L Or Sr l0 vw nx IN N:=by rintro ⟨ns,hN⟩;have h3:=h.get e;subst e h1;exact JW hN (gF hg h3) (h2.run _ _ _ _ _ k)
theorem wo {d:Nat} {a:AV} {l0:List Oper} {o:Oper} {N:List aJ} {IN:List Nat} {n1:Nat} (hs:List (List Nat)) (h:OL P l0 N d a) (k:WT rnd P Q g0 id es L Or' Sr' l' vw' nx') (e:l0=o::l:=by rfl) (hg:wC o.guard L.toArray N=true:=by kernel_rfl) (h1:nx+1=n1:=by exact Iw)
 (h2:WS P L hs ((d,a)::Or) (⟨IN,[],[nx],[.slot d]⟩::Sr) l ((nx,(d,a))::vw) n1 Or' Sr' l' vw' nx':=by exact ws):WX rnd P Q g0 id es L Or Sr l0 vw nx IN N:=wS a hs h k e hg h1 h2
theorem wt {l0:List Oper} {o:Oper} {N T:List aJ} {W:List bF} {IN IT:List Nat} {vw1 gt vw2:List TE} {m:Nat} {Or1:List aJ} {gi:List Nat} (G:List aJ) (hs:List (List Nat)) (h:OX P l0 N T G W) (k:WT rnd P Q g0 id es L Or' Sr' l' vw' nx') (e:l0=o::l:=by rfl) (hg:wC o.guard L.toArray N=true:=by kernel_rfl)
  (hG:Vw nx G gt m:=by repeat (first | exact .n | (apply Vw.c; exact Iw))) (e1:Rr G Or Or1:=by repeat (first | exact .n | apply Rr.c)) (e2:gt.map (·.1)=gi:=by rfl) (e3:gt++vw1=vw2:=by dsimp only [List.cons_append,List.nil_append]; first | done | rfl)
  (h2:WS P L hs Or1 (⟨IN,IT,gi,W⟩::Sr) l vw2 m Or' Sr' l' vw' nx':=by exact ws):WY rnd P Q g0 id es L Or Sr l0 vw vw1 nx IT T IN N:=by rintro ⟨ns,hN⟩ ⟨ts,hT⟩;have h3:=h.get e;have h4:=e1.eq;subst e e2 e3 h4;exact JA hT hN hG (gF hg h3) (h2.run _ _ _ _ _ k)
theorem we {n:Nat} {fin:List Nat} {outs es':List aJ} {sps:List Sp} (hn:g0.n=n) (ts:List Nat) (hQ:PT Q g0 .normal es') (hm:P.follows .mixedOrders=true:=by kernel_rfl) (hk:Kv ts vw fin es':=by repeat (first | exact .n | (apply Kv.c; (repeat (first | exact .h | apply Rv.t))))) (hO:Rr Or [] outs:=by repeat (first | exact .n | apply Rr.c)) (hS:Rr Sr [] sps:=by repeat (first | exact .n | apply Rr.c))
 (hc:xJ n L (es++outs) (List.range es.length) sps fin=true:=by kernel_rfl):WT rnd P Q g0 id es L Or Sr [] vw nx:=GK hm hn hk hO hS hQ hc
theorem qO {y:Code} {n:Nat} {fin:List Nat} {outs es':List aJ} {sps:List Sp} (hn:g0.n=n) (ts:List Nat) (hQ:HT rnd P Q g0 y es') (hm:P.follows .mixedOrders=true:=by kernel_rfl) (hk:Kv ts vw fin es':=by repeat (first | exact .n | (apply Kv.c; (repeat (first | exact .h | apply Rv.t))))) (hO:Rr Or [] outs:=by repeat (first | exact .n | apply Rr.c)) (hS:Rr Sr [] sps:=by repeat (first | exact .n | apply Rr.c))
 (hc:xJ n L (es++outs) (List.range es.length) sps fin=true:=by kernel_rfl):WT rnd P (Exit.then (y.wpIn (FW rnd) 0 P Q) Q) g0 id es L Or Sr [] vw nx:=GK hm hn hk hO hS (ae hQ) hc
theorem wd {d:Nat} {b c:Bool} (hb:b=c) (hs:List (List Nat)) (k:WT rnd P Q g0 id es L Or' Sr' l' vw' nx') (h2:WS P L hs ((d,.v (.bool c))::Or) Sr l ((nx,(d,.v (.bool c)))::vw) m Or' Sr' l' vw' nx':=by exact ws) :
  WT rnd P Q g0 id es L ((d,.v (.bool b))::Or) Sr l ((nx,(d,.v (.bool b)))::vw) m:=by subst hb;exact h2.run _ _ _ _ _ k
end
section
variable {P:Program} {Q:Exit→Act→World→Prop} {g0:Gh} {rnd:Option Nat}
theorem zd {R:Type} {c:Operand} {x y:Code} {es:List aJ} {b:Bool} {A B:Option R} {r:R} (h:cond b A B=some r) (hc:rd es c = .v (.bool b)) (ht:b=true→A=some r→HT rnd P Q g0 x es) (hf:b=false→B=some r→HT rnd P Q g0 y es):HT rnd P Q g0 (.cond c x y) es :=
 Gd b hc (fun e=>ht e (Hm e h)) (fun e=>hf e (HZ e h))
theorem zc {R:Type} {c:Operand} {x y:Code} {es:List aJ} {b:Bool} {A B:Option R} {r:R} (h:cond b A B=some r) (hc:rd es c = .v (.bool b)) (ht:A=some r→HT rnd P Q g0 x es) (hf:B=some r→HT rnd P Q g0 y es):HT rnd P Q g0 (.cond c x y) es :=
 zd h hc (fun _=>ht) (fun _=>hf)
theorem cL {A R S:Type} {m:Option A} {g:A→Option S} {f:A→S→Option R} {r:R} (h:m.bind (fun x=>(g x).bind (f x))=some r):∃ x,m=some x∧∃ y,g x=some y∧f x y=some r:=by obtain ⟨x,h1,h2⟩:=bind_some h;obtain ⟨y,h3,h4⟩:=bind_some h2;exact ⟨x,h1,y,h3,h4⟩
theorem mJ {A R S T:Type} {m:Option A} {g:A→Option S} {k:A→S→Option T} {f:A→S→T→Option R} {r:R} (h:m.bind (fun x=>(g x).bind (fun y=>(k x y).bind (f x y)))=some r):∃ x,m=some x∧∃ y,g x=some y∧∃ z,k x y=some z∧f x y z=some r:=by obtain ⟨x,h1,h2⟩:=bind_some h;obtain ⟨y,h3,z,h4,h5⟩:=cL h2;exact ⟨x,h1,y,h3,z,h4,h5⟩
theorem pc {A R S T U:Type} {m:Option A} {g:A→Option S} {k:A→S→Option T} {l:A→S→T→Option U} {f:A→S→T→U→Option R} {r:R} (h:m.bind (fun x=>(g x).bind (fun y=>(k x y).bind (fun z=>(l x y z).bind (f x y z))))=some r):∃ x,m=some x∧∃ y,g x=some y∧∃ z,k x y=some z∧∃ u,l x y z=some u∧f x y z u=some r:=by obtain ⟨x,h1,h2⟩:=bind_some h;obtain ⟨y,h3,z,h4,u,h5,h6⟩:=mJ h2;exact ⟨x,h1,y,h3,z,h4,u,h5,h6⟩
end
end Go.Abs
end
