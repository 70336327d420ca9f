import Derived.KernelRfl
import Derived.Test.YtjnnkhmhjcjhdaaGreatDoorAN
section
namespace Go.Abs
inductive Tk:Nat→List aE→AV→List aE→Prop
 | h {t:Nat} {av:AV} {r:List aE}:Tk t ((t,av)::r) av r
 | t {t:Nat} {av:AV} {e:aE} {r r':List aE}:Tk t r av r'→Tk t (e::r) av (e::r')
theorem Tk.perm {t:Nat} {es:List aE} {av:AV} {es':List aE} (h:Tk t es av es'):es.Perm ((t,av)::es'):=by
 induction h with
 | h=>exact .refl _
 | t _ ih=>exact (ih.cons _).trans (.swap _ _ _)
inductive Kp:List Nat→List aE→List aE→Prop
 | n {es:List aE}:Kp [] es []
 | c {t:Nat} {ts:List Nat} {av:AV} {es es1 out:List aE}:Tk t es av es1→Kp ts es1 out→Kp (t::ts) es ((t,av)::out)
theorem Kp.perm {ts:List Nat} {es out:List aE} (h:Kp ts es out):∃ ds,es.Perm (ds++out):=by
 induction h with
 | n=>exact ⟨_,by rw [List.append_nil]⟩
 | c h1 _ ih =>
  obtain ⟨ds,p⟩:=ih
  exact ⟨ds,(h1.perm.trans (p.cons _)).trans List.perm_middle.symm⟩
inductive Ts:List Nat→List aE→List aE→List aE→Prop
 | n {es:List aE}:Ts [] es [] es
 | c {t:Nat} {ts:List Nat} {av:AV} {es es1 T N:List aE}:Tk t es av es1→Ts ts es1 T N→Ts (t::ts) es ((t,av)::T) N
theorem Ts.perm {ts:List Nat} {es T N:List aE} (h:Ts ts es T N):es.Perm (T++N):=by
 induction h with
 | n=>exact .refl _
 | c h1 _ ih=>exact h1.perm.trans (ih.cons _)
section
variable {P:Program} {Q:Exit→Act→World→Prop} {g0:Gh} {rnd:Option Nat} {ops:Array Oper}
def RT (rnd:Option Nat) (P:Program) (ops:Array Oper) (Q:Exit→Act→World→Prop) (g0:Gh) (l:List Oper) (es:List aE):Prop :=
 ∀ (k:Nat) (g:Gh) (a:Act) (w:World),(∀ j o,l[j]? = some o→ops[k+j]? = some o)→(∀ (i d:Nat),(ops[i]?).bind Oper.dst=some d→d<g0.n)→g0.le g→fg g es a w →
  wpOpsIn (FW rnd) 0 P ops Q (List.range' k l.length) a w
theorem qB {id n:Nat} {l:List Oper} {es:List aE} (hn:g0.n=n) (hd:mq n l=true) (h:RT rnd P l.toArray Q g0 l es):HT rnd P Q g0 (.region id l.toArray false) es:=by
 intro g a w hg hs
 refine wpIn_region ?_
 rw [List.size_toArray,List.range_eq_range']
 exact h 0 g a w (fun j o hj=>by simpa using hj) (by rw [hn]; exact nE hd) hg hs
theorem vW {ts:List Nat} {es es':List aE} (hk:Kp ts es es') (hQ:PT Q g0 .normal es'):RT rnd P ops Q g0 [] es:=by
 intro k g a w _ _ hg hs
 simp only [List.length_nil,List.range'_zero,wpOpsIn]
 exact hQ g a w hg (hs.sub hk.perm)
theorem mf {o:Oper} {l:List Oper} {es N T G:List aE} {W:List bl} (h:wJ P ops o N T G W) (hp:es.Perm (T++N)) (hc:N.all (bJ W)=true) (k:RT rnd P ops Q g0 l (G++N)):RT rnd P ops Q g0 (o::l) es:=by
 intro i g a w hl hd hg hs
 rw [List.length_cons,List.range'_succ,wpOpsIn_cons]
 have ho:ops[i]? = some o:=by simpa using hl 0 o rfl
 refine h i ho g [] a w _ Q (fun d hd'=>by rw [hg.n]; exact hd i d hd') ?_ ?_ ?_ rnd
 ·refine hs.perm ?_
  rw [List.append_nil]
  exact hp.trans List.perm_append_comm
 ·intro e he
  rw [List.append_nil] at he
  exact List.all_eq_true.1 hc e he
 ·intro g' a' w' hle hs'
  refine k (i+1) g' a' w' (fun j o' hj=>by rw [show i+1+j=i+(j+1) by omega]; exact hl (j+1) o' (by simpa using hj)) hd (hg.trans hle) (hs'.perm ?_)
  rw [List.append_nil]
  exact List.perm_append_comm
theorem wC {ts:List Nat} {l:List Oper} {es T N:List aE} (h:Ts ts es T N) (k:RT rnd P ops Q g0 l N):RT rnd P ops Q g0 l es:=by
 intro i g a w hl hd hg hs
 exact k i g a w hl hd hg (hs.sub ⟨T,h.perm⟩)
theorem Ja {l:List Oper} {es:List aE} {d:Nat} {b c:Bool} (hb:b=c) (k:RT rnd P ops Q g0 l ((d,.v (.bool c))::es)):RT rnd P ops Q g0 l ((d,.v (.bool b))::es):=by subst hb; exact k
def JA (b:Bool):AV→Bool
 | .v (.bool c)=>b==c
 | _=>false
def Kl:AV→Bool
 | .v (.tuple xs)=>Nat.beq xs.size 0
 | _=>false
def JF (ops:Array Oper) (N:List aE) (j:Nat):Option AV:=match ops[j]? with
 | some oj=>match oj.dst with
  | some d=>some (look N d)
  | none=>none
 | none=>none
def um (gd:Option (Nat×Bool)) (ops:Array Oper) (N:List aE):Bool:=match gd with
 | none=>true
 | some (j,want)=>match JF ops N j with
  | some av=>JA want av
  | none=>false
def Ax (gd:Option (Nat×Bool)) (ops:Array Oper) (N:List aE):Bool:=match gd with
 | none=>false
 | some (j,want)=>match JF ops N j with
  | some av=>JA (!want) av||Kl av
  | none=>false
theorem xd {N:List aE} {j:Nat} {av:AV} (h:JF ops N j=some av):∃ oj d,ops[j]? = some oj∧oj.dst=some d∧look N d=av:=by
 unfold JF at h
 split at h
 ·rename_i oj ho
  split at h
  ·rename_i d hd
   exact ⟨oj,d,ho,hd,Option.some.inj h⟩
  ·cases h
 ·cases h
theorem xM {b:Bool} {av:AV} (h:JA b av=true):av = .v (.bool b):=by
 unfold JA at h
 split at h
 ·rename_i c
  cases b <;> cases c <;> first | rfl | (cases h)
 ·cases h
theorem DS {av:AV} (h:Kl av=true):av = .v undef:=by
 unfold Kl at h
 split at h
 ·rename_i xs
  have:=Nat.eq_of_beq_eq_true h
  rw [Array.size_eq_zero_iff] at this
  subst this; rfl
 ·cases h
theorem vI {N:List aE} {d:Nat} {x:Value} (h:look N d = .v x):(d,AV.v x)∈N:=by
 rcases wZ (N:=N) (t:=d) with h1 | h1
 ·rw [h1] at h; cases h
 ·rw [h] at h1; exact h1
theorem ia {o:Oper} {N T G:List aE} {W:List bl} (hg:um o.guard ops N=true) (h:aN P o N T G W):wJ P ops o N T G W:=by
 cases hgd:o.guard with
 | none=>exact lV hgd h
 | some q =>
  obtain ⟨j,want⟩:=q
  rw [hgd] at hg
  unfold um at hg
  simp only at hg
  split at hg
  ·rename_i av hav
   obtain ⟨oj,d,h1,h2,h3⟩:=xd hav
   rw [xM hg] at h3
   exact Ia j d want hgd h1 h2 (vI h3) h
  ·cases hg
theorem xA {o:Oper} {N:List aE} {dd:Nat} (hg:Ax o.guard ops N=true) (hd:o.dst=some dd):wJ P ops o N [] [(dd,.v undef)] [.slot dd]:=by
 cases hgd:o.guard with
 | none=>rw [hgd] at hg; cases hg
 | some q =>
  obtain ⟨j,want⟩:=q
  rw [hgd] at hg
  unfold Ax at hg
  simp only at hg
  split at hg
  ·rename_i av hav
   obtain ⟨oj,d,h1,h2,h3⟩:=xd hav
   rcases Bool.or_eq_true_iff.1 hg with hg | hg
   ·rw [xM hg] at h3
    exact Bg j d dd want hgd h1 h2 hd (vI h3)
   ·rw [DS hg] at h3
    exact Ct j d dd want hgd h1 h2 hd (vI h3)
  ·cases hg
def Jc (gd:Option (Nat×Bool)) (ops:Array Oper) (es:List aE) (d:Nat):Bool:=um gd ops es&&es.all (bJ [.slot d])
theorem IL {o:Oper} {l:List Oper} {es:List aE} {d:Nat} {av:AV} (h:aN P o es [] [(d,av)] [.slot d]) (hc:Jc o.guard ops es d=true) (k:RT rnd P ops Q g0 l ((d,av)::es)):RT rnd P ops Q g0 (o::l) es:=by
 rw [Jc,Bool.and_eq_true] at hc
 exact mf (ia hc.1 h) (.refl _) hc.2 k
end
end Go.Abs
end
section
set_option linter.unusedVariables false
namespace Go.Abs
class UD (P:Program) (t:TypeId) (d:outParam TypeDesc):Prop where h:P.underlying t=some d
def JC (P:Program) (t:TypeId) (b:Bool) (s:Nat):Bool:=(match P.underlying t with
 | some td=>cT td==b
 | none=>false)&&(match P.info? t with
 | some i=>Nat.beq i.size s
 | none=>false)
class AS (P:Program) (t:TypeId):Prop where h:JC P t false 1=true
class AA (P:Program) (t:TypeId) (s:outParam Nat):Prop where h:JC P t true s=true
theorem lp {P:Program} {t:TypeId} {b:Bool} {s:Nat} (h:JC P t b s=true):(∃ td,P.underlying t=some td∧cT td=b)∧(P.info? t).map (·.size)=some s:=by
 rw [JC,Bool.and_eq_true] at h
 obtain ⟨h1,h2⟩:=h
 refine ⟨?_,?_⟩
 ·split at h1
  ·rename_i td e; exact ⟨td,e,by cases b <;> cases hh:cT td <;> simp_all⟩
  ·cases h1
 ·split at h2
  ·rename_i i e; rw [e]; exact congrArg some (Nat.eq_of_beq_eq_true h2)
  ·cases h2
def KR (P:Program) (s:TypeId) (i off:Nat):Bool:=match P.underlying s with
 | some (.struct fs)=>match fs[i]? with
  | some f=>Nat.beq f.offset off&&(match P.info? f.type with
   | some j=>Nat.blt 0 j.size
   | none=>false)
  | none=>false
 | _=>false
class FO (P:Program) (s:TypeId) (i:Nat) (off:outParam Nat):Prop where h:KR P s i off=true
theorem FO.get {P:Program} {s:TypeId} {i off:Nat} (h:FO P s i off):∃ fs f k,P.underlying s=some (.struct fs)∧fs[i]? = some f∧(P.info? f.type).map (·.size)=some (k+1)∧f.offset=off:=by
 have h:=h.h
 unfold KR at h
 split at h
 ·rename_i fs e1
  split at h
  ·rename_i f e2
   rw [Bool.and_eq_true] at h
   obtain ⟨h1,h2⟩:=h
   split at h2
   ·rename_i j e3
    have:=pf.1 h2
    refine ⟨fs,f,j.size-1,e1,e2,?_,Nat.eq_of_beq_eq_true h1⟩
    rw [e3]; exact congrArg some (show j.size=j.size-1+1 by omega)
   ·cases h2
  ·cases h
 ·cases h
class LenE {A:Type} (enc:A→List Value) (z:outParam Nat):Prop where h:∀ x,(enc x).length=z
class LenI {A:Type} (enc:A→List IC) (z:outParam Nat):Prop where h:∀ x,(enc x).length=z
section
variable {P:Program} {Q:Exit→Act→World→Prop} {g0:Gh} {rnd:Option Nat} {ops:Array Oper}
structure nh (P:Program) (ops:Array Oper) (n:Nat) (l:List Oper) (es:List aE) (l':List Oper) (es':List aE):Prop where
 run:∀ (rnd:Option Nat) (Q:Exit→Act→World→Prop) (g0:Gh),RT rnd P ops Q g0 l' es'→RT rnd P ops Q g0 l es
variable {l l':List Oper} {es es':List aE} {n:Nat} {ty:TypeId} {pos:String} {aft:Array Edge} {gd:Option (Nat×Bool)} {d:Nat} {av:AV}
theorem sn:nh P ops 0 l es l es:=⟨fun _ _ _ h=>h⟩
theorem Li {o:Oper} (h:aN P o es [] [(d,av)] [.slot d]) (hc:Jc o.guard ops es d=true) (k:nh P ops n l ((d,av)::es) l' es'):nh P ops (n+1) (o::l) es l' es' :=
 ⟨fun rnd Q g0 hr=>IL h hc (k.run rnd Q g0 hr)⟩
theorem oA {o:Oper} {T G M:List aE} {W:List bl} (h:aN P o [] T G W):aN P o M T G W:=by
 intro g F a w K Q hd hs hc hk
 refine h g (M++F) a w K Q hd ?_ (fun e he=>hc e (by simpa using he)) ?_
 ·refine hs.perm ?_
  rw [List.nil_append,← List.append_assoc,← List.append_assoc]
  exact List.perm_append_comm.append_right _
 ·intro g' a' w' hle hs'
  refine hk g' a' w' hle (hs'.perm ?_)
  rw [List.nil_append,← List.append_assoc,← List.append_assoc]
  exact List.perm_append_comm.append_right _
theorem aN.fr {o:Oper} {N T G F M:List aE} {W:List bl} (h:aN P o N T G W) (hp:M.Perm (N++F)):aN P o M T G W:=by
 intro g F' a w K Q hd hs hc hk
 refine h g (F++F') a w K Q hd ?_ (fun e he=>hc e ?_) ?_
 ·refine hs.perm ?_
  refine (hp.append_right _).trans ?_
  rw [List.append_assoc]
  refine List.Perm.append_left _ ?_
  rw [← List.append_assoc,← List.append_assoc]
  exact List.perm_append_comm.append_right _
 ·rw [← List.append_assoc] at he
  rcases List.mem_append.1 he with h1 | h1
  ·exact List.mem_append_left _ (hp.mem_iff.2 h1)
  ·exact List.mem_append_right _ h1
 ·intro g' a' w' hle hs'
  refine hk g' a' w' hle (hs'.perm ?_)
  refine List.Perm.trans ?_ (hp.append_right _).symm
  rw [List.append_assoc]
  refine List.Perm.append_left _ ?_
  rw [← List.append_assoc,← List.append_assoc]
  exact List.perm_append_comm.append_right _
structure Bx (p:Prop):Prop where
 h:p
def OL (P:Program) (l:List Oper) (es:List aE) (d:Nat) (a:AV):Prop:=match l with
 | []=>False
 | o::_=>Bx (aN P o es [] [(d,a)] [.slot d])
def OX (P:Program) (l:List Oper) (N T G:List aE) (W:List bl):Prop:=match l with
 | []=>False
 | o::_=>Bx (aN P o N T G W)
theorem OL.get {o:Oper} (h:OL P l' es d av) (e:l'=o::l):aN P o es [] [(d,av)] [.slot d]:=by subst e; exact Bx.h h
theorem OX.get {o:Oper} {N T G:List aE} {W:List bl} (h:OX P l' N T G W) (e:l'=o::l):aN P o N T G W:=by subst e; exact Bx.h h
theorem KU {a:AV} {x:Value} (h:a = .v x):a = .v x:=h
theorem KV {a:AV} {m:Md} {z:Nat} {xs:List Value} (h:a = .fl m z xs):a = .fl m z xs:=h
theorem KP {a:AV} {m:Md} {s:Bool} {z:Nat} {cs:List IC} (h:a = .fr m s z cs):a = .fr m s z cs:=h
theorem KO {a:AV} {c:bl} (h:a = .same c):a = .same c:=h
theorem KN {a:AV} {t k:Nat} (h:a = .ptr t k):a = .ptr t k:=h
theorem KT {a:AV} {c:bl} {k:Nat} (h:a = .eref c k):a = .eref c k:=h
theorem Ls {a:AV} {c:bl} {k:Nat} (h:a = .cut c k):a = .cut c k:=h
theorem Lu {a:AV} {cs cs':List AV} (h:a = .agg cs) (h2:cs=cs'):a = .agg cs':=by rw [h,h2]
inductive Mp (f:AV→AV):List AV→List AV→Prop
 | n:Mp f [] []
 | c {a b:AV} {cs ds:List AV} (h:f a=b) (r:Mp f cs ds):Mp f (a::cs) (b::ds)
theorem Mp.eq {f:AV→AV} {cs ds:List AV} (h:Mp f cs ds):cs.map f=ds:=by
 induction h with
 | n=>rfl
 | c h _ ih=>rw [List.map_cons,h,ih]
inductive Dl (t:Nat):Nat→Nat→Nat→List AV→List AV→Prop
 | n {off p:Nat} {cs:List AV}:Dl t off p 0 cs []
 | s {off p k:Nat} {a:AV} {cs ds:List AV} (h:Dl t off p (k+1) cs ds):Dl t off (p+1) (k+1) (a::cs) ds
 | c {off k:Nat} {a b:AV} {cs ds:List AV} (h:lx t off a=b) (r:Dl t (off+1) 0 k cs ds):Dl t off 0 (k+1) (a::cs) (b::ds)
theorem Dl.eq {t off p k:Nat} {cs ds:List AV} (h:Dl t off p k cs ds):rK t off ((cs.drop p).take k)=ds∧(0<k→p+k≤cs.length):=by
 induction h with
 | n=>simp [rK]
 | s _ ih=>simp only [List.drop_succ_cons,List.length_cons]; exact ⟨ih.1,fun h=>by have:=ih.2 h; omega⟩
 | c h _ ih =>
  rename_i off k a b cs ds _
  simp only [List.drop_zero,List.take_succ_cons,rK,h] at *
  refine ⟨by rw [ih.1],fun _ => ?_⟩
  by_cases hk:0<k
  ·have:=ih.2 hk; simp; omega
  ·simp; omega
inductive Sl:Nat→List AV→List AV→List AV→Prop
 | n {cs:List AV}:Sl 0 [] cs cs
 | s {p:Nat} {vs cs ds:List AV} {a:AV} (h:Sl p vs cs ds):Sl (p+1) vs (a::cs) (a::ds)
 | c {v a:AV} {vs cs ds:List AV} (h:Sl 0 vs cs ds):Sl 0 (v::vs) (a::cs) (v::ds)
theorem Sl.eq {p:Nat} {vs cs ds:List AV} (h:Sl p vs cs ds):cs.take p++(vs++cs.drop (p+vs.length))=ds∧p+vs.length≤cs.length:=by
 induction h with
 | n=>simp
 | s _ ih=>simp only [List.take_succ_cons,List.length_cons,List.cons_append]; rw [show ∀ p x:Nat,p+1+x=p+x+1 by omega,List.drop_succ_cons]; exact ⟨by rw [ih.1],by omega⟩
 | c _ ih=>simp only [List.take_zero,List.nil_append,Nat.zero_add,List.length_cons,List.drop_succ_cons,List.cons_append] at *; exact ⟨by rw [ih.1],by omega⟩
theorem Kg {i:Op} {q:Nat×Bool} (h1:Ax (some q) ops es=true) (h2:es.all (bJ [.slot d])=true) (k:nh P ops n l ((d,.v undef)::es) l' es'):nh P ops (n+1) (⟨some d,i,ty,pos,aft,some q⟩::l) es l' es':=by
 exact ⟨fun rnd Q g0 hr=>mf (xA (o:=⟨some d,i,ty,pos,aft,some q⟩) h1 rfl) (.refl _) h2 (k.run rnd Q g0 hr)⟩
theorem Kc {t:Nat} (hc:fX [.slot d] (.slot t)=false):aN P ⟨some d,.move (.tmp t),ty,pos,aft,gd⟩ [] [] [(d,.same (.slot t))] [.slot d]:=dv _ _ _ hc
theorem KE {t:Nat} {q:Nat×Bool} {e:aE} (hc:fX [.slot d] (.slot t)=false):aN P ⟨some d,.move (.tmp t),ty,pos,aft,some q⟩ [e] [] [(d,.same (.slot t))] [.slot d]:=aN.fr (F:=[e]) (N:=[]) (dv _ _ _ hc) (List.Perm.refl [e])
theorem JW {x:Operand} (h:aO es x=av) (hc:eM [.slot d] av=true):aN P ⟨some d,.move x,ty,pos,aft,gd⟩ es [] [(d,av)] [.slot d]:=Bo _ _ _ _ h hc
theorem KL {x:Operand} (h:aO es x=av) (hc:eM [.slot d] av=true):aN P ⟨some d,.assign x,ty,pos,aft,gd⟩ es [] [(d,av)] [.slot d]:=lK _ _ _ _ h hc
theorem JM {c x y:Operand} {b:Bool} {r:Value} (h:rd es c = .v (.bool b)) (h2:rd es (if b then x else y) = .v r):aN P ⟨some d,.pick c x y,ty,pos,aft,gd⟩ es [] [(d,.v r)] [.slot d]:=Bc _ _ b r h h2
theorem KB {op:BinOp} {t t':TypeId} {x y:Operand} {a b r:Value} (hx:rd es x = .v a) (hy:rd es y = .v b) (h:mW op a b=some r):aN P ⟨some d,.binOp op t x y t',ty,pos,aft,gd⟩ es [] [(d,.v r)] [.slot d]:=tR _ _ a b r hx hy h
theorem Ks {op:UnOp} {t:TypeId} {x:Operand} {a r:Value} (hx:rd es x = .v a) (h:Kq op a=some r):aN P ⟨some d,.unOp op t x,ty,pos,aft,gd⟩ es [] [(d,.v r)] [.slot d]:=Dn _ _ a r hx h
theorem Kw {t i:Nat} {cs:List AV} (h:look es t = .tup cs) (h2:bR (cs.getD i .any)=av) (hc:(eM [.slot d] av&&(Nat.blt i cs.length&&fu av))=true):aN P ⟨some d,.extract (.tmp t) i,ty,pos,aft,gd⟩ es [] [(d,av)] [.slot d]:=by
 rw [Bool.and_eq_true,Bool.and_eq_true] at hc
 exact ub _ _ _ cs av h h2 (pf.1 hc.2.1) hc.1 hc.2.2
theorem Kn {s:TypeId} {x:Operand} {i o2 t off:Nat} (F:FO P s i o2) (hx:aO es x = .ptr t off) (hc:Nat.beq t d=false):aN P ⟨some d,.fieldAddr s x i,ty,pos,aft,gd⟩ es [] [(d,.ptr t (off+o2))] [.slot d]:=by
 obtain ⟨fs,f,kk,h1,h2,h3,h4⟩:=F.get
 exact qi _ _ x i t off _ h1 h2 h3 hx (by rw [h4]) (Nat.ne_of_beq_eq_false hc)
theorem Kz {s:TypeId} {x:Operand} {i o2 j:Nat} {c:bl} (F:FO P s i o2) (hx:aO es x = .eref c j) (hc:fX [.slot d] c=false):aN P ⟨some d,.fieldAddr s x i,ty,pos,aft,gd⟩ es [] [(d,.eref c (j+o2))] [.slot d]:=by
 obtain ⟨fs,f,kk,h1,h2,h3,h4⟩:=F.get
 exact tH _ _ x i c j _ h1 h2 h3 hx (by rw [h4]) hc
theorem JZ {x:Operand} {t off:Nat} (hx:aO es x = .ptr t off) (hc:Nat.beq d t=false):aN P ⟨some d,.nilCheck x,ty,pos,aft,gd⟩ es [] [(d,.ptr t off)] [.slot d]:=jP _ _ x t off hx (Nat.ne_of_beq_eq_false hc)
theorem KK {x:Operand} {t:Nat} {T:TypeId} {cs:List AV} (hx:aO es x = .same (.slot t)) (hb:look es t = .box T cs) (hc:Nat.beq d t=false):aN P ⟨some d,.nilCheck x,ty,pos,aft,gd⟩ es [] [(d,.ptr t 0)] [.slot d]:=fq _ _ x t hx hb (Nat.ne_of_beq_eq_false hc)
theorem KG {U T':TypeId} {x:Operand} {t off:Nat} {cs:List AV} (A:AS P U) (hx:aO es x = .ptr t off) (hl:look es t = .box T' cs) (ha:lx t off (cs.getD off .any)=av) (hc:(eM [.slot d] av&&(Nat.blt off cs.length&&fu av))=true):aN P ⟨some d,.load U x,ty,pos,aft,gd⟩ es [] [(d,av)] [.slot d]:=by
 rw [Bool.and_eq_true,Bool.and_eq_true] at hc
 obtain ⟨⟨td,h1,h2⟩,_⟩:=lp A.h
 exact vO _ _ x t off av h1 h2 hx hl (pf.1 hc.2.1) ha hc.1 hc.2.2
theorem Kb {U T':TypeId} {s:Nat} {x:Operand} {t off:Nat} {cs ds:List AV} (A:AA P U s) (hx:aO es x = .ptr t off) (hl:look es t = .box T' cs) (ha:Dl t off off s cs ds) (hc:(di [.slot d] ds&&Nat.blt 0 s)=true):aN P ⟨some d,.load U x,ty,pos,aft,gd⟩ es [] [(d,.agg ds)] [.slot d]:=by
 rw [Bool.and_eq_true] at hc
 obtain ⟨⟨td,h1,h2⟩,h3⟩:=lp A.h
 obtain ⟨e1,e2⟩:=ha.eq
 exact DP _ _ x t off s ds h1 h2 h3 hx hl (e2 (pf.1 hc.2)) e1 hc.1
theorem Kj {t t':TypeId} {x:Operand} {s:Mf} (U:UD P t .string) (hx:rd es x = .v (.string s)):aN P ⟨some d,.call ⟨.builtin .len,#[x],#[t]⟩,t',pos,aft,gd⟩ es [] [(d,.v (.int .i64 (s.size:Int)))] [.slot d]:=sy _ _ s U.h hx
theorem KI {t t' e:TypeId} {x:Operand} {m:Md} {z:Nat} {xs:List Value} {q:Nat} (U:UD P t (.slice e)) (hx:rd es x = .fl m z xs) (hn:xs.length=q * z) (hc:Nat.blt 0 z=true):aN P ⟨some d,.call ⟨.builtin .len,#[x],#[t]⟩,t',pos,aft,gd⟩ es [] [(d,.v (.int .i64 (q:Int)))] [.slot d]:=Cb _ _ q U.h hx (pf.1 hc) hn
theorem Kf {t t' e:TypeId} {x:Operand} {m:Md} {s:Bool} {z:Nat} {cs:List IC} {q:Nat} (U:UD P t (.slice e)) (hx:rd es x = .fr m s z cs) (hn:cs.length=q * z) (hc:Nat.blt 0 z=true):aN P ⟨some d,.call ⟨.builtin .len,#[x],#[t]⟩,t',pos,aft,gd⟩ es [] [(d,.v (.int .i64 (q:Int)))] [.slot d]:=BL _ _ q U.h hx (pf.1 hc) hn
theorem JO {T:TypeId} {x:Operand} {cs:List AV} (h:aO es x=av) (hv:cA av=cs) (hc:(dj es av&&di [.slot d] cs)=true):aN P ⟨some d,.box T x,ty,pos,aft,gd⟩ es [] [(d,.box T cs)] [.slot d]:=by
 rw [Bool.and_eq_true] at hc
 subst hv
 exact HO _ _ x av h hc.1 hc.2
theorem Gl {U T':TypeId} {s t off:Nat} {ax vx:Operand} {cs vs cs':List AV} {av:AV} {es1:List aE} (A:(P.info? U).map (·.size)=some s) (hx:aO es ax = .ptr t off) (ht:Tk t es (.box T' cs) es1) (hv:aO es1 vx=av) (hvs:cA av=vs) (hS:Sl off vs cs cs')
  (hx2:aO (es1++[(t,.box T' cs)]) ax = .ptr t off)
  (hc:(um gd ops es1&&(es1.all (bJ (bW t off s))&&(dj es1 av&&(Nat.beq vs.length s&&di (bW t off s) cs'))))=true) (k:nh P ops n l ((t,.box T' cs')::es1) l' es'):nh P ops (n+1) (⟨none,.store U ax vx,ty,pos,aft,gd⟩::l) es l' es':=by
 rw [Bool.and_eq_true,Bool.and_eq_true,Bool.and_eq_true,Bool.and_eq_true] at hc
 obtain ⟨c1,c2,c3,c4,c5⟩:=hc
 have hl:=Nat.eq_of_beq_eq_true c4
 subst hvs
 obtain ⟨e1,e2⟩:=hS.eq
 rw [hl] at e1 e2
 exact ⟨fun rnd Q g0 hr=>mf (ia (o:=⟨none,.store U ax vx,ty,pos,aft,gd⟩) c1 (dZ es1 ax vx t off s av cs' A hx2 hv c3 hl e2 e1 c5)) ht.perm c2 (k.run rnd Q g0 hr)⟩
theorem Gj {U T':TypeId} {s t off:Nat} {ax vx:Operand} {cs vs cs':List AV} {av:AV} {es1 N F:List aE} (A:(P.info? U).map (·.size)=some s) (hx:aO es ax = .ptr t off) (ht:Tk t es (.box T' cs) es1) (hN:es1.Perm (N++F)) (hv:aO N vx=av) (hvs:cA av=vs) (hS:Sl off vs cs cs')
  (hx2:aO (N++[(t,.box T' cs)]) ax = .ptr t off)
  (hc:(um gd ops es1&&(es1.all (bJ (bW t off s))&&(dj N av&&(Nat.beq vs.length s&&di (bW t off s) cs'))))=true) (k:nh P ops n l ((t,.box T' cs')::es1) l' es'):nh P ops (n+1) (⟨none,.store U ax vx,ty,pos,aft,gd⟩::l) es l' es':=by
 rw [Bool.and_eq_true,Bool.and_eq_true,Bool.and_eq_true,Bool.and_eq_true] at hc
 obtain ⟨c1,c2,c3,c4,c5⟩:=hc
 have hl:=Nat.eq_of_beq_eq_true c4
 subst hvs
 obtain ⟨e1,e2⟩:=hS.eq
 rw [hl] at e1 e2
 exact ⟨fun rnd Q g0 hr=>mf (ia (o:=⟨none,.store U ax vx,ty,pos,aft,gd⟩) c1 ((dZ N ax vx t off s av cs' A hx2 hv c3 hl e2 e1 c5).fr hN)) ht.perm c2 (k.run rnd Q g0 hr)⟩
theorem Ky {U T':TypeId} {t off:Nat} {ax:Operand} {v:Value} {cs cs':List AV} {es1:List aE} (A:AS P U) (hx:aO es ax = .ptr t off) (ht:Tk t es (.box T' cs) es1) (hS:Sl off [.v v] cs cs')
  (hx2:aO [(t,.box T' cs)] ax = .ptr t off)
  (hc:(um gd ops es1&&(es1.all (bJ (bW t off 1))&&(dj [] (.v v)&&(Nat.beq [AV.v v].length 1&&di (bW t off 1) cs'))))=true) (hvs:cA (.v v)=[.v v]) (k:nh P ops n l ((t,.box T' cs')::es1) l' es'):nh P ops (n+1) (⟨none,.store U ax (.const v),ty,pos,aft,gd⟩::l) es l' es' :=
 Gj (N:=[]) (F:=es1) (lp A.h).2 hx ht (.refl _) rfl hvs hS hx2 hc k
theorem KH {U T':TypeId} {t off u:Nat} {ax:Operand} {av a0:AV} {cs vs cs':List AV} {es1 F:List aE} (A:AS P U) (hx:aO es ax = .ptr t off) (ht:Tk t es (.box T' cs) es1) (hu:Tk u es1 a0 F) (hv:aO [(u,a0)] (.tmp u)=av) (hvs:cA av=vs) (hS:Sl off vs cs cs')
  (hx2:aO ([(u,a0)]++[(t,.box T' cs)]) ax = .ptr t off)
  (hc:(um gd ops es1&&(es1.all (bJ (bW t off 1))&&(dj [(u,a0)] av&&(Nat.beq vs.length 1&&di (bW t off 1) cs'))))=true) (k:nh P ops n l ((t,.box T' cs')::es1) l' es'):nh P ops (n+1) (⟨none,.store U ax (.tmp u),ty,pos,aft,gd⟩::l) es l' es' :=
 Gj (N:=[(u,a0)]) (F:=F) (lp A.h).2 hx ht hu.perm hv hvs hS hx2 hc k
theorem JN {U T':TypeId} {t off:Nat} {ax vx:Operand} {cs vs cs':List AV} {av:AV} {es1:List aE} (A:AS P U) (hx:aO es ax = .ptr t off) (ht:Tk t es (.box T' cs) es1) (hv:aO es1 vx=av) (hvs:cA av=vs) (hS:Sl off vs cs cs')
  (hx2:aO (es1++[(t,.box T' cs)]) ax = .ptr t off)
  (hc:(um gd ops es1&&(es1.all (bJ (bW t off 1))&&(dj es1 av&&(Nat.beq vs.length 1&&di (bW t off 1) cs'))))=true) (k:nh P ops n l ((t,.box T' cs')::es1) l' es'):nh P ops (n+1) (⟨none,.store U ax vx,ty,pos,aft,gd⟩::l) es l' es' :=
 Gl (lp A.h).2 hx ht hv hvs hS hx2 hc k
theorem Kk {U T':TypeId} {s t off:Nat} {ax vx:Operand} {cs vs cs':List AV} {av:AV} {es1:List aE} (A:AA P U s) (hx:aO es ax = .ptr t off) (ht:Tk t es (.box T' cs) es1) (hv:aO es1 vx=av) (hvs:cA av=vs) (hS:Sl off vs cs cs')
  (hx2:aO (es1++[(t,.box T' cs)]) ax = .ptr t off)
  (hc:(um gd ops es1&&(es1.all (bJ (bW t off s))&&(dj es1 av&&(Nat.beq vs.length s&&di (bW t off s) cs'))))=true) (k:nh P ops n l ((t,.box T' cs')::es1) l' es'):nh P ops (n+1) (⟨none,.store U ax vx,ty,pos,aft,gd⟩::l) es l' es' :=
 Gl (lp A.h).2 hx ht hv hvs hS hx2 hc k
end
end Go.Abs
end
section
namespace Go.Abs
theorem aw {a b:AV} (h:a=b:=by
 first
  | exact KU rfl
  | exact KV rfl
  | exact KO rfl
  | exact KP rfl
  | exact KN rfl
  | exact KT rfl
  | exact rfl):a=b:=h
theorem av {a b:AV} (h:a=b:=by
 first
  | exact KU rfl
  | exact KN rfl
  | exact KV rfl
  | exact KO rfl
  | exact KP rfl
  | exact KT rfl
  | exact Ls rfl
  | (apply Lu; exact rfl; apply Mp.eq; (repeat (first | exact .n | (apply Mp.c; exact aw))))
  | exact rfl):a=b:=h
theorem KC {cs ds:List AV} (h:cs=ds):cA (.agg cs)=ds:=h
theorem vc {a:AV} {cs:List AV} (h:cA a=cs:=by
 first
  | exact KC rfl
  | exact rfl):cA a=cs:=h
section
variable {P:Program} {Q:Exit→Act→World→Prop} {g0:Gh} {rnd:Option Nat} {ops:Array Oper} {l l':List Oper} {es es' es'':List aE} {o:Oper}
theorem Ed {t:Nat} {av:AV} (h:Tk t es av es':=by repeat (first | exact .h | apply Tk.t)):Tk t es av es':=h
theorem kp {ts:List Nat} (h:Kp ts es es':=by repeat (first | exact .n | (apply Kp.c; (repeat (first | exact .h | apply Tk.t))))):Kp ts es es':=h
theorem Io {ts:List Nat} {T:List aE} (h:Ts ts es T es':=by repeat (first | exact .n | (apply Ts.c; (repeat (first | exact .h | apply Tk.t))))):Ts ts es T es':=h
theorem KQ {d:Nat} {a:AV} {N:List aE} (h:aN P o N [] [(d,a)] [.slot d]:=by
 first
  | (apply Kc; kernel_rfl)
  | (apply KE; kernel_rfl)
  | (apply JW; exact av; kernel_rfl)
  | (apply KL; exact av; kernel_rfl)
  | (apply JM; exact rfl; exact rfl)
  | (apply Kn; exact inferInstance; exact rfl; kernel_rfl)
  | (apply KG; exact inferInstance; exact rfl; exact rfl; exact aw; kernel_rfl)
  | (apply KB; exact rfl; exact rfl; exact rfl)
  | (apply Ks; exact rfl; exact rfl)
  | (apply Kw; exact rfl; exact aw; kernel_rfl)
  | (apply Kb; exact inferInstance; exact rfl; exact rfl; (repeat (first | exact .n | (apply Dl.c; exact aw) | apply Dl.s)); kernel_rfl)
  | (apply Kj; exact inferInstance; exact rfl)
  | (apply KI; exact inferInstance; exact rfl; (first | exact eW _ | exact gR LenE.h _); kernel_rfl)
  | (apply Kf; exact inferInstance; exact rfl; exact fO LenI.h _; kernel_rfl)
  | (apply JZ; exact rfl; kernel_rfl)
  | (apply KK; exact rfl; exact rfl; kernel_rfl)
  | (apply Kz; exact inferInstance; exact rfl; kernel_rfl)
  | (apply JO; exact av; exact vc; kernel_rfl)):aN P o N [] [(d,a)] [.slot d]:=h
theorem sg {n:Nat} (h:nh P ops n l es l' es':=by
 repeat (first
  | exact sn
  | (apply Kg; exact rfl; kernel_rfl)
  | (apply Li; exact KQ; kernel_rfl)
  | (apply JN; exact inferInstance; exact rfl; (repeat (first | exact .h | apply Tk.t)); exact av; exact vc; (repeat (first | exact .n | apply Sl.c | apply Sl.s)); exact rfl; kernel_rfl)
  | (apply Ky; exact inferInstance; exact rfl; (repeat (first | exact .h | apply Tk.t)); (repeat (first | exact .n | apply Sl.c | apply Sl.s)); exact rfl; kernel_rfl; exact rfl)
  | (apply KH; exact inferInstance; exact rfl; (repeat (first | exact .h | apply Tk.t)); (repeat (first | exact .h | apply Tk.t)); exact av; exact vc; (repeat (first | exact .n | apply Sl.c | apply Sl.s)); exact rfl; kernel_rfl)
  | (apply Kk; exact inferInstance; exact rfl; (repeat (first | exact .h | apply Tk.t)); exact av; exact vc; (repeat (first | exact .n | apply Sl.c | apply Sl.s)); exact rfl; kernel_rfl))):nh P ops n l es l' es':=h
theorem yx {id m:Nat} {l:List Oper} (hn:g0.n=m) (n:Nat) (k:RT rnd P l.toArray Q g0 l' es') (hd:mq m l=true:=by kernel_rfl) (hs:nh P l.toArray n l es l' es':=by exact sg):HT rnd P Q g0 (.region id l.toArray false) es :=
 qB hn hd (hs.run _ _ _ k)
theorem gH {id m:Nat} {l:List Oper} {y:Code} (hn:g0.n=m) (n:Nat) (k:RT rnd P l.toArray (Exit.then (y.wpIn (FW rnd) 0 P Q) Q) g0 l' es') (hd:mq m l=true:=by kernel_rfl) (hs:nh P l.toArray n l es l' es':=by exact sg):HT rnd P Q g0 (.seq (.region id l.toArray false) y) es :=
 ab (qB hn hd (hs.run _ _ _ k))
theorem yS {d:Nat} {l0:List Oper} (a:AV) (n:Nat) (h:OL P l0 es d a) (k:RT rnd P ops Q g0 l' es') (e:l0=o::l:=by rfl) (hc:Jc o.guard ops es d=true:=by kernel_rfl) (hs:nh P ops n l ((d,a)::es) l' es':=by exact sg):RT rnd P ops Q g0 l0 es:=by
 have h2:=h.get e
 subst e
 exact IL h2 hc (hs.run _ _ _ k)
theorem ys {d:Nat} {a:AV} {l0:List Oper} (n:Nat) (h:OL P l0 es d a) (k:RT rnd P ops Q g0 l' es') (e:l0=o::l:=by rfl) (hc:Jc o.guard ops es d=true:=by kernel_rfl) (hs:nh P ops n l ((d,a)::es) l' es':=by exact sg):RT rnd P ops Q g0 l0 es:=yS a n h k e hc hs
theorem yd {d:Nat} {b c:Bool} (hb:b=c) (n:Nat) (k:RT rnd P ops Q g0 l' es') (hs:nh P ops n l ((d,.v (.bool c))::es) l' es':=by exact sg):RT rnd P ops Q g0 l ((d,.v (.bool b))::es) :=
 Ja hb (hs.run _ _ _ k)
theorem yw (ts:List Nat) (n:Nat) {T N:List aE} (k:RT rnd P ops Q g0 l' es') (ht:Ts ts es T N:=by exact Io) (hs:nh P ops n l N l' es':=by exact sg):RT rnd P ops Q g0 l es :=
 wC ht (hs.run _ _ _ k)
def RX (rnd:Option Nat) (P:Program) (ops:Array Oper) (Q:Exit→Act→World→Prop) (g0:Gh) (T N M:List aE) (l:List Oper):Prop:=(∃ F,M.Perm (N++F))→RT rnd P ops Q g0 l (T++M)
theorem yk (ts ns:List Nat) {T M N F:List aE} (k:RX rnd P ops Q g0 T N M l) (ht:Ts ts es T M:=by exact Io) (hn:Ts ns M N F:=by exact Io):RT rnd P ops Q g0 l es:=by
 intro i g a w hl hd hg hs
 exact k ⟨F,hn.perm⟩ i g a w hl hd hg (hs.perm ht.perm)
theorem yt {l0:List Oper} (e:aE) (n:Nat) {T N M:List aE} {W:List bl} (h:OX P l0 N T [e] W) (k:RT rnd P ops Q g0 l' es') (hl:l0=o::l:=by rfl) (hc:(um o.guard ops M&&M.all (bJ W))=true:=by kernel_rfl) (hs:nh P ops n l (e::M) l' es':=by exact sg):RX rnd P ops Q g0 T N M l0:=by
 rintro ⟨F,hp⟩
 rw [Bool.and_eq_true] at hc
 have h2:=h.get hl
 subst hl
 exact mf (ia hc.1 (h2.fr hp)) (.refl _) hc.2 (hs.run _ _ _ k)
theorem mS {l0:List Oper} (e e2:aE) (n:Nat) {T N M:List aE} {W:List bl} (h:OX P l0 N T [e,e2] W) (k:RT rnd P ops Q g0 l' es') (hl:l0=o::l:=by rfl) (hc:(um o.guard ops M&&M.all (bJ W))=true:=by kernel_rfl) (hs:nh P ops n l (e::e2::M) l' es':=by exact sg):RX rnd P ops Q g0 T N M l0:=by
 rintro ⟨F,hp⟩
 rw [Bool.and_eq_true] at hc
 have h2:=h.get hl
 subst hl
 exact mf (ia hc.1 (h2.fr hp)) (.refl _) hc.2 (hs.run _ _ _ k)
inductive Ap:List aE→List aE→List aE→Prop
 | n {M:List aE}:Ap [] M M
 | c {e:aE} {G M out:List aE}:Ap G M out→Ap (e::G) M (e::out)
theorem Ap.eq {G M out:List aE} (h:Ap G M out):G++M=out:=by
 induction h with
 | n=>rfl
 | c _ ih=>rw [List.cons_append,ih]
theorem ym {t d:Nat} {av:AV} {N:List aE} {ty:TypeId} {pos:String} {aft:Array Edge} {gd:Option (Nat×Bool)} (n:Nat) (k:RT rnd P ops Q g0 l' es') (ht:Tk t es av N:=by exact Ed) (hc:(um gd ops N&&(N.all (bJ [.slot d])&&eM [.slot d] av))=true:=by kernel_rfl) (hs:nh P ops n l ((d,av)::N) l' es':=by exact sg):RT rnd P ops Q g0 (⟨some d,.move (.tmp t),ty,pos,aft,gd⟩::l) es:=by
 rw [Bool.and_eq_true,Bool.and_eq_true] at hc
 exact mf (ia (o:=⟨some d,.move (.tmp t),ty,pos,aft,gd⟩) hc.1 (jd _ _ _ _ hc.2.2)) ht.perm hc.2.1 (hs.run _ _ _ k)
theorem ya {t d:Nat} {av:AV} {N:List aE} {ty:TypeId} {pos:String} {aft:Array Edge} {gd:Option (Nat×Bool)} (n:Nat) (k:RT rnd P ops Q g0 l' es') (ht:Tk t es av N:=by exact Ed) (hc:(um gd ops N&&(N.all (bJ [.slot d])&&eM [.slot d] av))=true:=by kernel_rfl) (hs:nh P ops n l ((d,av)::N) l' es':=by exact sg):RT rnd P ops Q g0 (⟨some d,.assign (.tmp t),ty,pos,aft,gd⟩::l) es:=by
 rw [Bool.and_eq_true,Bool.and_eq_true] at hc
 exact mf (ia (o:=⟨some d,.assign (.tmp t),ty,pos,aft,gd⟩) hc.1 (gr _ _ _ _ hc.2.2)) ht.perm hc.2.1 (hs.run _ _ _ k)
theorem ye (ts:List Nat) (hQ:PT Q g0 .normal es') (hk:Kp ts es es':=by exact kp):RT rnd P ops Q g0 [] es:=vW hk hQ
theorem aV (ts:List Nat) {y:Code} (hQ:HT rnd P Q g0 y es') (hk:Kp ts es es':=by exact kp):RT rnd P ops (Exit.then (y.wpIn (FW rnd) 0 P Q) Q) g0 [] es:=vW hk (ae hQ)
theorem yy {id m:Nat} {l:List Oper} (hn:g0.n=m) (n:Nat) (ts:List Nat) (hQ:PT Q g0 .normal es'') (hd:mq m l=true:=by kernel_rfl) (hs:nh P l.toArray n l es [] es':=by exact sg) (hk:Kp ts es' es'':=by exact kp):HT rnd P Q g0 (.region id l.toArray false) es :=
 qB hn hd (hs.run _ _ _ (vW hk hQ))
theorem aG {id m:Nat} {l:List Oper} {y:Code} (hn:g0.n=m) (n:Nat) (ts:List Nat) (hQ:HT rnd P Q g0 y es'') (hd:mq m l=true:=by kernel_rfl) (hs:nh P l.toArray n l es [] es':=by exact sg) (hk:Kp ts es' es'':=by exact kp):HT rnd P Q g0 (.seq (.region id l.toArray false) y) es :=
 ab (qB hn hd (hs.run _ _ _ (vW hk (ae hQ))))
def bg (args:List AV) (n m:Nat):Bool:=(Nat.ble args.length n&&bi args)&&Nat.beq n m
theorem vr {args:List AV} {n m:Nat} (h:bg args n m=true):args.length≤n∧bi args=true∧n=m:=by
 rw [bg,Bool.and_eq_true,Bool.and_eq_true] at h
 exact ⟨Nat.le_of_ble_eq_true h.1.1,h.1.2,Nat.eq_of_beq_eq_true h.2⟩
theorem yO {f:FuncId} {fn:Func} {c:Code} {args:List AV} {res:AV} (m:Nat) (hf:P.funcs[f]? = some fn) (h:∀ g0:Gh,g0.n=m→g0.io=[]→HT none P (Ha P fn g0.Imm g0.Im g0.w0 res) g0 c es) (hb:fn.body=some c:=by rfl) (hk:(bg args fn.ntmps m&&args.all fu)=true:=by kernel_rfl) (he:cS args=es:=by
  dsimp only [cS,gT,List.zipIdx,List.map,List.cons_append,List.nil_append,List.length_cons,List.length_nil,Nat.zero_add,Nat.reduceAdd,List.range,List.range.loop]
  first | done | rfl):bF P f args res:=by
 rw [Bool.and_eq_true] at hk
 obtain ⟨h1,h2,h3⟩:=vr hk.1
 subst h3 he
 exact IM hf hb h1 h2 hk.2 h
theorem yG {f:FuncId} {fn:Func} {c:Code} {gl:List (Nat×List Value)} {args:List AV} {res:AV} (m:Nat) (hf:P.funcs[f]? = some fn) (h:∀ g0:Gh,g0.n=m→g0.io=[]→HT none P (Ha P fn g0.Imm g0.Im g0.w0 res) g0 c es) (hb:fn.body=some c:=by rfl) (hk:(bg args fn.ntmps m&&args.all fu)=true:=by kernel_rfl) (he:cS args++[(m,.glob gl)]=es:=by
  dsimp only [cS,gT,List.zipIdx,List.map,List.cons_append,List.nil_append,List.length_cons,List.length_nil,Nat.zero_add,Nat.reduceAdd,List.range,List.range.loop]
  first | done | rfl):iq P gl f args res:=by
 rw [Bool.and_eq_true] at hk
 obtain ⟨h1,h2,h3⟩:=vr hk.1
 subst h3 he
 exact GN hf hb h1 h2 hk.2 h
theorem yP {f:FuncId} {fn:Func} {c:Code} {args posts:List AV} {res:AV} {Z:List Value→List aE} (m:Nat) (hf:P.funcs[f]? = some fn) (h:∀ (xs:List Value),posts.length≤xs.length→∀ g0:Gh,g0.n=m→g0.ds=[]→HT none P (wU P fn xs posts g0.io g0.Imm g0.Im g0.w0 res) g0 c (Z xs)) (hb:fn.body=some c:=by rfl) (hk:(bg args fn.ntmps m&&Nat.ble posts.length args.length)=true:=by kernel_rfl) (he:∀ xs,cS args++gT posts.length xs=Z xs:=by
  intro xs
  dsimp only [cS,gT,List.zipIdx,List.map,List.cons_append,List.nil_append,List.length_cons,List.length_nil,Nat.zero_add,Nat.reduceAdd,List.range,List.range.loop]
  first | done | rfl):pO P f args posts res:=by
 rw [Bool.and_eq_true] at hk
 obtain ⟨h1,h2,h3⟩:=vr hk.1
 subst h3
 exact wG hf hb h1 h2 (Nat.le_of_ble_eq_true hk.2) fun xs hx g0 hn hd=>by rw [he]; exact h xs hx g0 hn hd
theorem DZ {f:FuncId} {fn:Func} {c:Code} {gl:List (Nat×List Value)} {args posts:List AV} {res:AV} {Z:List Value→List aE} (m:Nat) (hf:P.funcs[f]? = some fn) (h:∀ (xs:List Value),posts.length≤xs.length→∀ g0:Gh,g0.n=m→g0.ds=[]→HT none P (wU P fn xs posts g0.io g0.Imm g0.Im g0.w0 res) g0 c (Z xs)) (hb:fn.body=some c:=by rfl) (hk:(bg args fn.ntmps m&&Nat.ble posts.length args.length)=true:=by kernel_rfl) (he:∀ xs,cS args++(gT posts.length xs++[(m,.glob gl)])=Z xs:=by
  intro xs
  dsimp only [cS,gT,List.zipIdx,List.map,List.cons_append,List.nil_append,List.length_cons,List.length_nil,Nat.zero_add,Nat.reduceAdd,List.range,List.range.loop]
  first | done | rfl):ny P gl f args posts res:=by
 rw [Bool.and_eq_true] at hk
 obtain ⟨h1,h2,h3⟩:=vr hk.1
 subst h3
 exact Ek hf hb h1 h2 (Nat.le_of_ble_eq_true hk.2) fun xs hx g0 hn hd=>by rw [he]; exact h xs hx g0 hn hd
theorem yI {f:FuncId} {fn:Func} {c:Code} {gl:List (Nat×List Value)} {l:Nat} {caps:List AV} {J J':lE} (m:Nat) (hf:P.funcs[f]? = some fn) (h:∀ g0:Gh,g0.n=m→g0.ds=[]→HT none P (Cd P fn g0.io g0.Imm g0.Im g0.w0 J') g0 c es) (hb:fn.body=some c:=by rfl) (hk:(Nat.ble (caps.length+1) fn.ntmps&&(bi caps&&Nat.beq fn.ntmps m))=true:=by kernel_rfl) (he:cS (.v (.func (.yield l) #[] #[])::caps)++[(m,.glob gl),(m+1,.inv J)]=es:=by
  dsimp only [cS,gT,List.zipIdx,List.map,List.cons_append,List.nil_append,List.length_cons,List.length_nil,Nat.zero_add,Nat.reduceAdd,List.range,List.range.loop]
  first | done | rfl):Jv P gl f l caps J J':=by
 rw [Bool.and_eq_true,Bool.and_eq_true] at hk
 have h3:=Nat.eq_of_beq_eq_true hk.2.2
 subst h3 he
 exact HW hf hb (Nat.le_of_ble_eq_true hk.1) hk.2.1 h
end
end Go.Abs
end
section
set_option linter.unusedVariables false
namespace Go.Abs
class SZ (P:Program) (t:TypeId) (s:outParam Nat):Prop where h:(P.info? t).map (·.size)=some s
theorem Kx {c:bl} {t:Nat} (h:c = .slot t):c = .slot t:=h
theorem Ku {c:bl} {t k:Nat} (h:c = .cell t k):c = .cell t k:=h
theorem lc {a b:bl} (h:a=b:=by
 first
  | exact Kx rfl
  | exact Ku rfl):a=b:=h
inductive Hw:Nat→List AV→List AV→Prop
 | h {a:AV} {cs:List AV}:Hw 0 (a::cs) (.any::cs)
 | t {i:Nat} {a:AV} {cs ds:List AV}:Hw i cs ds→Hw (i+1) (a::cs) (a::ds)
theorem Hw.eq {i:Nat} {cs ds:List AV} (h:Hw i cs ds):cs.set i .any=ds∧i<cs.length:=by
 induction h with
 | h=>simp
 | t _ ih=>simp only [List.set_cons_succ,ih.1,List.length_cons,true_and]; omega
section
variable {P:Program} {Q:Exit→Act→World→Prop} {g0:Gh} {rnd:Option Nat} {ops:Array Oper} {l l':List Oper} {es es' es1:List aE}
variable {ty:TypeId} {pos:String} {aft:Array Edge} {gd:Option (Nat×Bool)} {d:Nat}
theorem lb {op:BinOp} {t t':TypeId} {x y:Operand} {kk:IntKind} {a b:Value} {X v:Int} (hv:some X=some v) (hx:rd es x = .v a:=by exact rfl) (hy:rd es y = .v b:=by exact rfl) (h:mW op a b=some (.int kk X):=by exact rfl):aN P ⟨some d,.binOp op t x y t',ty,pos,aft,gd⟩ es [] [(d,.v (.int kk v))] [.slot d] :=
 tR _ _ a b _ hx hy (by rw [h,Option.some.inj hv])
theorem lB {op:BinOp} {t t':TypeId} {x y:Operand} {a b r:Value} (h:mW op a b=some r) (hx:rd es x = .v a:=by exact rfl) (hy:rd es y = .v b:=by exact rfl):aN P ⟨some d,.binOp op t x y t',ty,pos,aft,gd⟩ es [] [(d,.v r)] [.slot d]:=tR _ _ a b _ hx hy h
theorem lv {s t:TypeId} {x:Operand} {e:TypeDesc} {kk k':IntKind} {m v:Int} (hv:some (kk.wrap m)=some v) (h1:P.underlying s=some e:=by exact UD.h) (h2:P.underlying t=some (.int kk):=by exact UD.h) (hx:rd es x = .v (.int k' m):=by exact rfl):aN P ⟨some d,.convert s t x,ty,pos,aft,gd⟩ es [] [(d,.v (.int kk v))] [.slot d]:=by
 have:=Option.some.inj hv
 subst this
 exact EJ _ _ m h1 h2 hx
theorem lS {s t e:TypeId} {x:Operand} {m:Md} {a:List Int} {v:Mf} (hv:some (aQ a)=some v) (h1:P.underlying s=some (.slice e):=by exact UD.h) (h2:P.underlying t=some .string:=by exact UD.h) (h3:P.underlying e=some (.int .u8):=by exact UD.h) (hx:rd es x = .fl m 1 (a.map (Value.int .u8)):=by exact rfl):aN P ⟨some d,.convert s t x,ty,pos,aft,gd⟩ es [] [(d,.v (.string v))] [.slot d]:=by
 have:=Option.some.inj hv
 subst this
 exact vH _ _ x a h1 h2 h3 hx
theorem lM {s t e E:TypeId} {x:Operand} {a:List Int} {v:Mf} (hv:some (aQ a)=some v) (h1:P.underlying s=some (.slice e):=by exact UD.h) (h2:P.underlying t=some .string:=by exact UD.h) (h3:P.underlying e=some (.int .u8):=by exact UD.h) (hx:rd es x = .mkr E (a.map (Value.int .u8)):=by exact rfl):aN P ⟨some d,.convert s t x,ty,pos,aft,gd⟩ es [] [(d,.v (.string v))] [.slot d]:=by
 have:=Option.some.inj hv
 subst this
 exact BG _ _ x a h1 h2 h3 hx
theorem lT {s t e:TypeId} {x:Operand} {a:Mf} {v:List Int} {u:TypeDesc} (hv:some (ao a)=some v) (h1:P.underlying s=some u:=by exact UD.h) (h2:P.underlying t=some (.slice e):=by exact UD.h) (h3:P.underlying e=some (.int .u8):=by exact UD.h) (hx:rd es x = .v (.string a):=by exact rfl):aN P ⟨some d,.convert s t x,ty,pos,aft,gd⟩ es [] [(d,.fl .ro 1 (v.map (Value.int .u8)))] [.slot d]:=by
 have:=Option.some.inj hv
 subst this
 exact vY _ _ x a h1 h2 h3 hx
theorem lU {s t e:TypeId} {x:Operand} {a:Mf} {v:List Int} {u:TypeDesc} (hv:some (ao a)=some v) (h1:P.underlying s=some u:=by exact UD.h) (h2:P.underlying t=some (.slice e):=by exact UD.h) (h3:P.underlying e=some (.int .u8):=by exact UD.h) (hx:rd es x = .v (.string a):=by exact rfl):aN P ⟨some d,.convert s t x,ty,pos,aft,gd⟩ es [] [(d,.mkr e (v.map (Value.int .u8)))] [.slot d]:=by
 have:=Option.some.inj hv
 subst this
 exact Cf _ _ x a h1 h2 h3 hx
theorem lh {t:TypeId} {x y:Operand} {kk:IntKind} {s:Mf} {i q:Int} (hv:dc s i=some q) (h1:P.underlying t=some .string:=by exact UD.h) (hx:rd es x = .v (.string s):=by exact rfl) (hy:rd es y = .v (.int kk i):=by exact rfl):aN P ⟨some d,.index t x y,ty,pos,aft,gd⟩ es [] [(d,.v (.int .u8 q))] [.slot d]:=Hb _ _ s i q h1 hx hy hv
def ca (res:AV):Bool:=aY res&&il res
theorem lk {f:FuncId} {cal:Operand} {args:Array Operand} {ats:Array TypeId} {avs:List AV} {res:AV} (hrun:∀ args w,(callFunc f args).run P w = .ok (.enter f args) w) (hf:bF P f avs res) (hcal:rd es cal = .v (.func (.func f) #[] #[]):=by exact rfl)
  (hav:args.toList.map (nc es)=avs:=by exact rfl) (hc:ca res=true:=by kernel_rfl):aN P ⟨some d,.call ⟨.value cal,args,ats⟩,ty,pos,aft,gd⟩ es [] [(d,res)] [.slot d]:=by
 rw [ca,Bool.and_eq_true] at hc
 exact vE _ _ f avs res hcal hrun hav hf hc.1 hc.2
theorem lg {f:Nat} {gl:List (Nat×List Value)} {cal:Operand} {args:Array Operand} {ats:Array TypeId} {avs:List AV} {res:AV} (hrun:∀ args w,(callFunc f args).run P w = .ok (.enter f args) w) (hf:iq P gl f avs res) (m:Nat) (hcal:rd es cal = .v (.func (.func f) #[] #[]):=by exact rfl)
  (hav:args.toList.map (nc es)=avs:=by exact rfl) (hgl:look es m = .glob gl:=by exact rfl) (hc:ca res=true:=by kernel_rfl):aN P ⟨some d,.call ⟨.value cal,args,ats⟩,ty,pos,aft,gd⟩ es [] [(d,res)] [.slot d]:=by
 rw [ca,Bool.and_eq_true] at hc
 exact yf _ _ m f avs res hcal hrun hav hgl (fun _ h=>h) hf hc.1 hc.2
theorem li {A:Type} {T e:TypeId} {x i:Nat} {y:Operand} {kd:IntKind} {m:Md} {f:A→Value} {L:List A} {nn:Int} {c:bl} (hv:dw nn L.length=some i) (h1:P.underlying T=some (.slice e):=by exact UD.h) (h2:(P.info? e).map (·.size)=some 1:=by exact SZ.h) (hx:rd es (.tmp x) = .fl m 1 (L.map f):=by exact rfl)
  (hl:pp es (.tmp x)=c:=by exact lc) (hy:rd es y = .v (.int kd nn):=by exact rfl) (hc:fX [.slot d] c=false:=by kernel_rfl):aN P ⟨some d,.indexAddr T (.tmp x) y,ty,pos,aft,gd⟩ es [] [(d,.eref c (i * 1))] [.slot d] :=
 Gf _ _ x y nn i 1 c h1 h2 (by decide) hx hl hy (bA hv).1 (yR (bA hv).2) hc
theorem lj {A:Type} {z:Nat} {T e:TypeId} {x i:Nat} {y:Operand} {kd:IntKind} {m:Md} {enc:A→List Value} {L:List A} {nn:Int} {c:bl} (hv:dw nn L.length=some i) (h1:P.underlying T=some (.slice e):=by exact UD.h) (h2:(P.info? e).map (·.size)=some z:=by exact SZ.h) (hx:rd es (.tmp x) = .fl m z ((L.map enc).flatten):=by exact rfl)
  (hE:∀ x,(enc x).length=z:=by exact LenE.h) (hl:pp es (.tmp x)=c:=by exact lc) (hy:rd es y = .v (.int kd nn):=by exact rfl) (hc:(Nat.blt 0 z && !fX [.slot d] c)=true:=by kernel_rfl):aN P ⟨some d,.indexAddr T (.tmp x) y,ty,pos,aft,gd⟩ es [] [(d,.eref c (i * z))] [.slot d]:=by
 rw [Bool.and_eq_true,Bool.not_eq_true'] at hc
 exact Gf _ _ x y nn i z c h1 h2 (pf.1 hc.1) hx hl hy (bA hv).1 (EE hE (bA hv).2) hc.2
theorem lI {A:Type} {z:Nat} {s:Bool} {T e:TypeId} {x i:Nat} {y:Operand} {kd:IntKind} {m:Md} {enc:A→List IC} {L:List A} {nn:Int} {c:bl} (hv:dw nn L.length=some i) (h1:P.underlying T=some (.slice e):=by exact UD.h) (h2:(P.info? e).map (·.size)=some z:=by exact SZ.h) (hx:rd es (.tmp x) = .fr m s z ((L.map enc).flatten):=by exact rfl)
  (hE:∀ x,(enc x).length=z:=by exact LenI.h) (hl:pp es (.tmp x)=c:=by exact lc) (hy:rd es y = .v (.int kd nn):=by exact rfl) (hc:(Nat.blt 0 z && !fX [.slot d] c)=true:=by kernel_rfl):aN P ⟨some d,.indexAddr T (.tmp x) y,ty,pos,aft,gd⟩ es [] [(d,.eref c (i * z))] [.slot d]:=by
 rw [Bool.and_eq_true,Bool.not_eq_true'] at hc
 exact Dm _ _ x y nn i z c h1 h2 (pf.1 hc.1) hx hl hy (bA hv).1 (CM hE (bA hv).2) hc.2
theorem ll {A:Type} {U:TypeId} {x:Operand} {i:Nat} {m:Md} {f:A→Value} {L:List A} {v:A} {c:bl} (hv:bp L i=some v) (h1:AS P U:=by infer_instance) (hx:aO es x = .eref c (i * 1):=by exact rfl) (hl:qc es c = .fl m 1 (L.map f):=by exact rfl):aN P ⟨some d,.load U x,ty,pos,aft,gd⟩ es [] [(d,.v (f v))] [.slot d]:=by
 obtain ⟨⟨td,u1,u2⟩,_⟩:=lp h1.h
 exact uP _ _ x c (i * 1) (f v) u1 u2 hx hl (zY hv)
theorem lL {A:Type} {z j:Nat} {U:TypeId} {x:Operand} {i:Nat} {m:Md} {enc:A→List Value} {L:List A} {v:A} {r:Value} {c:bl} (hv:bp L i=some v) (h1:AS P U:=by infer_instance) (hx:aO es x = .eref c (i * z+j):=by exact rfl) (hl:qc es c = .fl m z ((L.map enc).flatten):=by exact rfl) (hE:∀ x,(enc x).length=z:=by exact LenE.h)
  (hr:(enc v)[j]? = some r:=by exact rfl):aN P ⟨some d,.load U x,ty,pos,aft,gd⟩ es [] [(d,.v r)] [.slot d]:=by
 obtain ⟨⟨td,u1,u2⟩,_⟩:=lp h1.h
 exact uP _ _ x c _ r u1 u2 hx hl (BN hE hv hr)
theorem yp {A:Type} {T e t':TypeId} {by_ t:Nat} {x y:Operand} {my:Md} {f:A→Value} {L M q:List A} (hE:fH P T e 1 by_) (hv:cc by_ L M=some q) (n:Nat) (k:RT rnd P ops Q g0 l' es') (hx:aO es x = .same (.slot t):=by exact rfl) (ht:Tk t es (.fl (.own e) 1 (L.map f)) es1:=by exact Ed)
  (hx2:aO (es1++[(t,.fl (.own e) 1 (L.map f))]) x = .same (.slot t):=by exact rfl) (hy:rd es1 y = .fl my 1 (M.map f):=by exact rfl) (hc:(um gd ops es1&&es1.all (bJ [.slot d]))=true:=by kernel_rfl) (hs:nh P ops n l ((d,.fl (.own e) 1 (q.map f))::es1) l' es':=by exact sg) :
  RT rnd P ops Q g0 (⟨some d,.call ⟨.builtin .append,#[x,y],#[T,T]⟩,t',pos,aft,gd⟩::l) es:=by
 rw [Bool.and_eq_true] at hc
 refine mf (o:=⟨some d,.call ⟨.builtin .append,#[x,y],#[T,T]⟩,t',pos,aft,gd⟩) (ia hc.1 (zb es1 d t x y hE hx2 hy (eW _) (eW _) hv ((List.map_append).symm.trans (congrArg (List.map _) (iY hv))))) ht.perm hc.2 ?_
 exact wC (.c .h .n) (hs.run _ _ _ k)
theorem Lq {A:Type} {z:Nat} {T e t':TypeId} {by_ t:Nat} {x y:Operand} {my:Md} {enc:A→List Value} {L M q:List A} (hE:fH P T e z by_) (hv:cc by_ L M=some q) (n:Nat) (k:RT rnd P ops Q g0 l' es') (hx:aO es x = .same (.slot t):=by exact rfl) (ht:Tk t es (.fl (.own e) z ((L.map enc).flatten)) es1:=by exact Ed)
  (hx2:aO (es1++[(t,.fl (.own e) z ((L.map enc).flatten))]) x = .same (.slot t):=by exact rfl) (hy:rd es1 y = .fl my z ((M.map enc).flatten):=by exact rfl) (hL:∀ x,(enc x).length=z:=by exact LenE.h) (hc:(um gd ops es1&&es1.all (bJ [.slot d]))=true:=by kernel_rfl) (hs:nh P ops n l ((d,.fl (.own e) z ((q.map enc).flatten))::es1) l' es':=by exact sg) :
  RT rnd P ops Q g0 (⟨some d,.call ⟨.builtin .append,#[x,y],#[T,T]⟩,t',pos,aft,gd⟩::l) es:=by
 rw [Bool.and_eq_true] at hc
 refine mf (o:=⟨some d,.call ⟨.builtin .append,#[x,y],#[T,T]⟩,t',pos,aft,gd⟩) (ia hc.1 (zb es1 d t x y hE hx2 hy (gR hL _) (gR hL _) hv (lN (iY hv)))) ht.perm hc.2 ?_
 exact wC (.c .h .n) (hs.run _ _ _ k)
theorem Jt {t i:Nat} {cs ds:List AV} {av:AV} (n:Nat) (k:RT rnd P ops Q g0 l' es') (ht:Tk t es (.tup cs) es1:=by exact Ed) (hi:cs.getD i .any=av:=by exact rfl) (hcs:Hw i cs ds:=by repeat (first | exact .h | apply Hw.t)) (hc:((um gd ops es1&&es1.all (bJ [.slot d]))&&((eM [.slot d] av&&di [.slot d] ds)&&(!Nat.beq d t&&fu av)))=true:=by kernel_rfl)
  (hs:nh P ops n l ((d,av)::(t,.tup ds)::es1) l' es':=by exact sg):RT rnd P ops Q g0 (⟨some d,.extract (.tmp t) i,ty,pos,aft,gd⟩::l) es:=by
 rw [Bool.and_eq_true,Bool.and_eq_true,Bool.and_eq_true,Bool.and_eq_true,Bool.and_eq_true,Bool.not_eq_true'] at hc
 obtain ⟨⟨c1,c2⟩,⟨c3,c4⟩,c5,c6⟩:=hc
 obtain ⟨e1,e2⟩:=hcs.eq
 subst e1
 refine mf (o:=⟨some d,.extract (.tmp t) i,ty,pos,aft,gd⟩) (ia c1 (ke es1 t d cs av hi e2 c3 c4 (Nat.ne_of_beq_eq_false c5) c6)) ht.perm c2 ?_
 intro j g a w hl hd hg hs'
 exact hs.run _ _ _ k j g a w hl hd hg (hs'.perm (.swap _ _ _))
theorem yq {f:FuncId} {cal x0:Operand} {ys:List Operand} {ats:Array TypeId} {a0 post res:AV} {avs:List AV} {M N F:List aE} (hrun:∀ args w,(callFunc f args).run P w = .ok (.enter f args) w) (hf:pO P f (a0::avs) [post] res) (t:Nat) (ns:List Nat) (n:Nat) (k:RT rnd P ops Q g0 l' es')
  (ht:Tk t es a0 M:=by exact Ed) (hn:Ts ns M N F:=by exact Io) (hcal:rd N cal = .v (.func (.func f) #[] #[]):=by exact rfl) (hx:nz (N++[(t,a0)]) [x0] [(t,a0)]=true:=by exact rfl) (hav:ys.map (nc N)=avs:=by exact rfl)
  (hc:((um gd ops M&&M.all (bJ (bl.slot d::kL [(t,post)])))&&((aY res&&bi [a0])&&(bi [post]&&(N.all (fun e=>gN e.2) && !Nat.beq t d))))=true:=by kernel_rfl) (hs:nh P ops n l ((t,post)::(d,res)::M) l' es':=by exact sg):RT rnd P ops Q g0 (⟨some d,.call ⟨.value cal,(x0::ys).toArray,ats⟩,ty,pos,aft,gd⟩::l) es:=by
 rw [Bool.and_eq_true,Bool.and_eq_true,Bool.and_eq_true,Bool.and_eq_true,Bool.and_eq_true,Bool.and_eq_true] at hc
 obtain ⟨⟨c1,c2⟩,⟨c3,c4⟩,c5,c6,c7⟩:=hc
 exact mf (o:=⟨some d,.call ⟨.value cal,(x0::ys).toArray,ats⟩,ty,pos,aft,gd⟩) (ia c1 ((me N [(t,a0)] _ _ d f [x0] ys avs [post] res hcal hrun rfl hx hav hf (Nat.le_refl _) c3 c4 c5 c6 (by simpa using c7) rfl rfl).fr hn.perm)) ht.perm c2 (hs.run _ _ _ k)
theorem yQ {f:FuncId} {cal x0:Operand} {ys:List Operand} {ats:Array TypeId} {a0 post res:AV} {avs:List AV} {M N F:List aE} (hrun:∀ args w,(callFunc f args).run P w = .ok (.enter f args) w) (hf:pO P f (a0::avs) [post] res) (t:Nat) (ns:List Nat) (n:Nat) (k:RT rnd P ops Q g0 l' es')
  (ht:Tk t es a0 M:=by exact Ed) (hn:Ts ns M N F:=by exact Io) (hcal:rd N cal = .v (.func (.func f) #[] #[]):=by exact rfl) (hx:nz (N++[(t,a0)]) [x0] [(t,a0)]=true:=by exact rfl) (hav:ys.map (nc N)=avs:=by exact rfl)
  (hc:((um gd ops M&&M.all (bJ (bl.slot d::kL [(t,post)])))&&((aY res&&bi [a0])&&(bi [post]&&((il res&&lA [post]) && !Nat.beq t d))))=true:=by kernel_rfl) (hs:nh P ops n l ((t,post)::(d,res)::M) l' es':=by exact sg):RT rnd P ops Q g0 (⟨some d,.call ⟨.value cal,(x0::ys).toArray,ats⟩,ty,pos,aft,gd⟩::l) es:=by
 rw [Bool.and_eq_true,Bool.and_eq_true,Bool.and_eq_true,Bool.and_eq_true,Bool.and_eq_true,Bool.and_eq_true,Bool.and_eq_true] at hc
 obtain ⟨⟨c1,c2⟩,⟨c3,c4⟩,c5,⟨c6,c8⟩,c7⟩:=hc
 exact mf (o:=⟨some d,.call ⟨.value cal,(x0::ys).toArray,ats⟩,ty,pos,aft,gd⟩) (ia c1 ((uh N [(t,a0)] _ _ d f [x0] ys avs [post] res hcal hrun rfl hx hav hf (Nat.le_refl _) c3 c4 c5 c6 c8 (by simpa using c7) rfl rfl).fr hn.perm)) ht.perm c2 (hs.run _ _ _ k)
end
end Go.Abs
end
section
set_option linter.unusedVariables false
namespace Go.Abs
abbrev TE:=Nat×aE
inductive Fv (t:Nat):List TE→Nat→AV→Prop
 | h {i:Nat} {av:AV} {r:List TE}:Fv t ((i,(t,av))::r) i av
 | t {i:Nat} {av:AV} {e:TE} {r:List TE}:Fv t r i av→Fv t (e::r) i av
inductive Nv:List Nat→List TE→List Nat→List aE→Prop
 | n {vw:List TE}:Nv [] vw [] []
 | c {t i:Nat} {av:AV} {ts I:List Nat} {vw:List TE} {N:List aE}:Fv t vw i av→Nv ts vw I N→Nv (t::ts) vw (i::I) ((t,av)::N)
inductive Rv (t:Nat):List TE→Nat→AV→List TE→Prop
 | h {i:Nat} {av:AV} {r:List TE}:Rv t ((i,(t,av))::r) i av r
 | t {i:Nat} {av:AV} {e:TE} {r r':List TE}:Rv t r i av r'→Rv t (e::r) i av (e::r')
inductive Tv:List Nat→List TE→List Nat→List aE→List TE→Prop
 | n {vw:List TE}:Tv [] vw [] [] vw
 | c {t i:Nat} {av:AV} {ts I:List Nat} {vw vw1 vw2:List TE} {N:List aE}:Rv t vw i av vw1→Tv ts vw1 I N vw2→Tv (t::ts) vw (i::I) ((t,av)::N) vw2
inductive Vw:Nat→List aE→List TE→Nat→Prop
 | n {k:Nat}:Vw k [] [] k
 | c {k k1 m:Nat} {e:aE} {es:List aE} {vw:List TE}:k+1=k1→Vw k1 es vw m→Vw k (e::es) ((k,e)::vw) m
inductive Rr {A:Type}:List A→List A→List A→Prop
 | n {acc:List A}:Rr [] acc acc
 | c {x:A} {l acc out:List A}:Rr l (x::acc) out→Rr (x::l) acc out
theorem Rr.eq {A:Type} {l acc out:List A} (h:Rr l acc out):l.reverse++acc=out:=by
 induction h with
 | n=>rfl
 | c _ ih=>rw [List.reverse_cons,List.append_assoc]; exact ih
def Gg (El:List aE) (vw:List TE):Prop:=∀ p∈vw,El[p.1]? = some p.2
theorem Fv.mem {t i:Nat} {av:AV} {vw:List TE} (h:Fv t vw i av):(i,(t,av))∈vw:=by
 induction h with
 | h=>exact .head _
 | t _ ih=>exact .tail _ ih
theorem Rv.mem {t i:Nat} {av:AV} {vw vw1:List TE} (h:Rv t vw i av vw1):(i,(t,av))∈vw∧∀ p∈vw1,p∈vw:=by
 induction h with
 | h=>exact ⟨.head _,fun p hp => .tail _ hp⟩
 | t _ ih =>
  refine ⟨.tail _ ih.1,fun p hp => ?_⟩
  cases hp with
  | head=>exact .head _
  | tail _ hp=>exact .tail _ (ih.2 p hp)
theorem vt {El ext:List aE} {i:Nat} {e:aE} (h:El[i]? = some e):eG (El++ext) i=e:=by
 have hi:=(List.getElem?_eq_some_iff.1 h).1
 rw [eG,List.getD_eq_getElem?_getD,List.getElem?_append_left hi,h]; rfl
theorem Nv.tags {ts I:List Nat} {vw:List TE} {N:List aE} (h:Nv ts vw I N) {El:List aE} (hv:Gg El vw) (ext:List aE):I.map (eG (El++ext))=N:=by
 induction h with
 | n=>rfl
 | c h1 _ ih=>rw [List.map_cons,ih hv,vt (hv _ h1.mem)]
theorem Tv.tags {ts I:List Nat} {vw vw1:List TE} {N:List aE} (h:Tv ts vw I N vw1) {El:List aE} (hv:Gg El vw) (ext:List aE):I.map (eG (El++ext))=N∧∀ p∈vw1,p∈vw:=by
 induction h with
 | n=>exact ⟨rfl,fun p hp=>hp⟩
 | c h1 _ ih =>
  have:=ih (fun p hp=>hv p (h1.mem.2 p hp))
  exact ⟨by rw [List.map_cons,this.1,vt (hv _ h1.mem.1)],fun p hp=>h1.mem.2 p (this.2 p hp)⟩
theorem Vw.ok {k m:Nat} {es:List aE} {vw:List TE} (h:Vw k es vw m):(∀ p∈vw,k≤p.1∧es[p.1-k]? = some p.2)∧m=k+es.length:=by
 induction h with
 | n=>exact ⟨fun p hp=>(by cases hp),rfl⟩
 | c h0 _ ih =>
  subst h0
  rename_i k m e es vw _
  refine ⟨fun p hp => ?_,by rw [ih.2,List.length_cons]; omega⟩
  cases hp with
  | head=>simp
  | tail _ hp =>
   have:=ih.1 p hp
   refine ⟨by omega,?_⟩
   rw [show p.1-k=p.1-(k+1)+1 by omega,List.getElem?_cons_succ]
   exact this.2
theorem Vw.snd {k m:Nat} {es:List aE} {vw:List TE} (h:Vw k es vw m):vw.map (fun p=>p.2)=es:=by
 induction h with
 | n=>rfl
 | c _ _ ih=>rw [List.map_cons,ih]
section
variable {P:Program} {Q:Exit→Act→World→Prop} {g0:Gh} {rnd:Option Nat}
theorem rH {ops:Array Oper} {E:Nat→aE} {o:Oper} {s:Sp}:∀ {done:List Oper} {sps:List Sp},mP P ops E done sps→wJ P ops o (s.N.map E) (s.T.map E) (s.G.map E) s.W→mP P ops E (done++[o]) (sps++[s])
 | [],[],_,h2=>⟨h2,trivial⟩
 | [],_::_,h,_=>h.elim
 | _::_,[],h,_=>h.elim
 | _::_,_::_,h,h2=>⟨h.1,rH h.2 h2⟩
def WT (rnd:Option Nat) (P:Program) (Q:Exit→Act→World→Prop) (g0:Gh) (id:Nat) (es:List aE) (L:List Oper) (Or:List aE) (Sr:List Sp) (l:List Oper) (vw:List TE) (nx:Nat):Prop :=
 (∃ done,L=done++l∧∀ ext,mP P L.toArray (eG ((es++Or.reverse)++ext)) done Sr.reverse)→Gg (es++Or.reverse) vw→nx=es.length+Or.length→HT rnd P Q g0 (.region id L.toArray true) es
variable {id nx m:Nat} {ts ns:List Nat} {es Or:List aE} {L l l':List Oper} {Sr:List Sp} {vw:List TE}
theorem Gg.app {El:List aE} (h:Gg El vw) (ext:List aE):Gg (El++ext) vw:=fun p hp=>by
 have:=h p hp
 rw [List.getElem?_append_left (List.getElem?_eq_some_iff.1 this).1]; exact this
theorem IB {o:Oper} {N T G:List aE} {W:List bl} {ts ns IT IN:List Nat} {vw1 gt:List TE} (hT:Tv ts vw IT T vw1) (hN:Nv ns vw IN N) (hG:Vw nx G gt m) (h:wJ P L.toArray o N T G W) (k:WT rnd P Q g0 id es L (G.reverse++Or) (⟨IN,IT,gt.map (·.1),W⟩::Sr) l (gt++vw1) m):WT rnd P Q g0 id es L Or Sr (o::l) vw nx:=by
 rintro ⟨done,hL,hst⟩ hv hnx
 have hEl:es++(G.reverse++Or).reverse=(es++Or.reverse)++G:=by rw [List.reverse_append,List.reverse_reverse,List.append_assoc]
 have hg:=hG.ok
 have hgt:=hG.snd
 have hvG:Gg ((es++Or.reverse)++G) gt:=fun p hp=>by
  have:=hg.1 p hp
  rw [List.getElem?_append_right (by rw [List.length_append,List.length_reverse]; omega),List.length_append,List.length_reverse,← hnx]
  exact this.2
 refine k ⟨done++[o],by rw [hL,List.append_assoc]; rfl,fun ext => ?_⟩ ?_ ?_
 ·rw [List.reverse_cons]
  refine rH ?_ ?_
  ·rw [hEl]
   have:=hst (G++ext)
   rw [← List.append_assoc] at this
   exact this
  ·rw [hEl]
   have e1:IN.map (eG (((es++Or.reverse)++G)++ext))=N:=by
    have:=hN.tags hv (G++ext)
    rw [← List.append_assoc] at this; exact this
   have e2:IT.map (eG (((es++Or.reverse)++G)++ext))=T:=by
    have:=(hT.tags hv (G++ext)).1
    rw [← List.append_assoc] at this; exact this
   have e3:(gt.map (·.1)).map (eG (((es++Or.reverse)++G)++ext))=G:=by
    rw [List.map_map]
    conv=>rhs; rw [← hgt]
    exact List.map_congr_left fun p hp=>vt (hvG p hp)
   show wJ P L.toArray o (IN.map _) (IT.map _) ((gt.map (·.1)).map _) W
   rw [e1,e2,e3]; exact h
 ·rw [hEl]
  intro p hp
  rcases List.mem_append.1 hp with hp | hp
  ·exact hvG p hp
  ·exact hv.app G p ((hT.tags hv []).2 p hp)
 ·rw [hg.2,hnx,List.length_append,List.length_reverse]; omega
theorem JQ {o:Oper} {N:List aE} {d:Nat} {av:AV} {W:List bl} {ns IN:List Nat} (hN:Nv ns vw IN N) (h:wJ P L.toArray o N [] [(d,av)] W) (k:WT rnd P Q g0 id es L ((d,av)::Or) (⟨IN,[],[nx],W⟩::Sr) l ((nx,(d,av))::vw) (nx+1)):WT rnd P Q g0 id es L Or Sr (o::l) vw nx :=
 IB .n hN (.c rfl .n) h k
theorem FA {y:Nat} (hv:Vw 0 es vw nx) (k:WT rnd P Q g0 id es L [] [] L vw nx):HT rnd P Q g0 (.region id L.toArray true) es:=by
 obtain ⟨h1,h2⟩:=hv.ok
 refine k ⟨[],rfl,fun ext=>trivial⟩ (fun p hp => ?_) (by rw [h2]; simp)
 have:=(h1 p hp).2
 simpa using this
inductive Kv:List Nat→List TE→List Nat→List aE→Prop
 | n {vw:List TE}:Kv [] vw [] []
 | c {t i:Nat} {av:AV} {ts I:List Nat} {vw vw1:List TE} {N:List aE}:Rv t vw i av vw1→Kv ts vw1 I N→Kv (t::ts) vw (i::I) ((t,av)::N)
theorem Kv.tags {ts I:List Nat} {vw:List TE} {N:List aE} (h:Kv ts vw I N) {El:List aE} (hv:Gg El vw):I.map (eG El)=N:=by
 induction h with
 | n=>rfl
 | c h1 _ ih =>
  have:=vt (ext:=[]) (hv _ h1.mem.1)
  rw [List.append_nil] at this
  rw [List.map_cons,ih (fun p hp=>hv p (h1.mem.2 p hp)),this]
theorem Gx {n:Nat} {ts fin:List Nat} {outs es':List aE} {sps:List Sp} (hm:P.follows .mixedOrders=true) (hn:g0.n=n) (hk:Kv ts vw fin es') (hO:Rr Or [] outs) (hS:Rr Sr [] sps) (hQ:PT Q g0 .normal es') (hc:uT n L (es++outs) (List.range es.length) sps fin=true):WT rnd P Q g0 id es L Or Sr [] vw nx:=by
 rintro ⟨done,hL,hst⟩ hv hnx
 rw [List.append_nil] at hL
 subst hL
 have e1:=hO.eq
 have e2:=hS.eq
 rw [List.append_nil] at e1 e2
 subst e1 e2
 have h0:=hst []
 rw [List.append_nil] at h0
 refine su hm hn hc ?_ (hk.tags hv) h0 hQ
 apply List.ext_getElem?
 intro i
 simp only [List.getElem?_map]
 by_cases h:i<es.length
 ·rw [List.getElem?_range h]
  simp only [Option.map_some,eG,List.getD_eq_getElem?_getD]
  rw [List.getElem?_append_left h,List.getElem?_eq_getElem h]
  rfl
 ·rw [List.getElem?_eq_none (by simpa using Nat.le_of_not_lt h),List.getElem?_eq_none (Nat.le_of_not_lt h)]; rfl
structure WS (P:Program) (L:List Oper) (hs:List (List Nat)) (Or:List aE) (Sr:List Sp) (l:List Oper) (vw:List TE) (nx:Nat) (Or':List aE) (Sr':List Sp) (l':List Oper) (vw':List TE) (nx':Nat):Prop where
 run:∀ (rnd:Option Nat) (Q:Exit→Act→World→Prop) (g0:Gh) (id:Nat) (es:List aE),WT rnd P Q g0 id es L Or' Sr' l' vw' nx'→WT rnd P Q g0 id es L Or Sr l vw nx
variable {hs:List (List Nat)} {Or':List aE} {Sr':List Sp} {vw':List TE} {nx':Nat}
theorem wn:WS P L [] Or Sr l vw nx Or Sr l vw nx:=⟨fun _ _ _ _ _ h=>h⟩
theorem Ii {a b:Nat} (h:a=b:=by simp only [Nat.reduceAdd]; rfl):a=b:=h
theorem JI {i:Op} {q:Nat×Bool} {ty:TypeId} {pos:String} {aft:Array Edge} {d:Nat} {N:List aE} {ns IN:List Nat} (hN:Nv ns vw IN N) {n1:Nat} (hg:Ax (some q) L.toArray N=true) (h1:nx+1=n1) (k:WS P L hs ((d,.v undef)::Or) (⟨IN,[],[nx],[.slot d]⟩::Sr) l ((nx,(d,.v undef))::vw) n1 Or' Sr' l' vw' nx') :
  WS P L (ns::hs) Or Sr (⟨some d,i,ty,pos,aft,some q⟩::l) vw nx Or' Sr' l' vw' nx' :=
 ⟨fun rnd Q g0 id es h=>JQ hN (xA (o:=⟨some d,i,ty,pos,aft,some q⟩) hg rfl) (h1 ▸ k.run rnd Q g0 id es h)⟩
theorem Le {o:Oper} {d:Nat} {av:AV} {N:List aE} {ns IN:List Nat} (hN:Nv ns vw IN N) (h:aN P o N [] [(d,av)] [.slot d]) {n1:Nat} (hg:um o.guard L.toArray N=true) (h1:nx+1=n1) (k:WS P L hs ((d,av)::Or) (⟨IN,[],[nx],[.slot d]⟩::Sr) l ((nx,(d,av))::vw) n1 Or' Sr' l' vw' nx') :
  WS P L (ns::hs) Or Sr (o::l) vw nx Or' Sr' l' vw' nx' :=
 ⟨fun rnd Q g0 id es hh=>JQ hN (ia hg h) (h1 ▸ k.run rnd Q g0 id es hh)⟩
theorem ws (h:WS P L hs Or Sr l vw nx Or' Sr' l' vw' nx':=by
 repeat (first
  | exact wn
  | (apply JI; (repeat (first | exact .n | (apply Nv.c; (repeat (first | exact .h | apply Fv.t))))); exact rfl; exact Ii)
  | (apply Le; (repeat (first | exact .n | (apply Nv.c; (repeat (first | exact .h | apply Fv.t))))); exact KQ; kernel_rfl; exact Ii))):WS P L hs Or Sr l vw nx Or' Sr' l' vw' nx':=h
theorem nv {ns IN:List Nat} {N:List aE} (h:Nv ns vw IN N:=by repeat (first | exact .n | (apply Nv.c; (repeat (first | exact .h | apply Fv.t))))):Nv ns vw IN N:=h
theorem wb (hs:List (List Nat)) (k:WT rnd P Q g0 id es L Or' Sr' l' vw' nx') (hv:Vw 0 es vw nx:=by repeat (first | exact .n | (apply Vw.c; exact Ii))) (h:WS P L hs [] [] L vw nx Or' Sr' l' vw' nx':=by exact ws):HT rnd P Q g0 (.region id L.toArray true) es :=
 FA (y:=0) hv (h.run _ _ _ _ _ k)
def WX (rnd:Option Nat) (P:Program) (Q:Exit→Act→World→Prop) (g0:Gh) (id:Nat) (es:List aE) (L:List Oper) (Or:List aE) (Sr:List Sp) (l:List Oper) (vw:List TE) (nx:Nat) (IN:List Nat) (N:List aE):Prop:=(∃ ns,Nv ns vw IN N)→WT rnd P Q g0 id es L Or Sr l vw nx
def WY (rnd:Option Nat) (P:Program) (Q:Exit→Act→World→Prop) (g0:Gh) (id:Nat) (es:List aE) (L:List Oper) (Or:List aE) (Sr:List Sp) (l:List Oper) (vw vw1:List TE) (nx:Nat) (IT:List Nat) (T:List aE) (IN:List Nat) (N:List aE):Prop:=(∃ ns,Nv ns vw IN N)→(∃ ts,Tv ts vw IT T vw1)→WT rnd P Q g0 id es L Or Sr l vw nx
theorem wN {IN:List Nat} {N:List aE} (ns:List Nat) (k:WX rnd P Q g0 id es L Or Sr l vw nx IN N) (hN:Nv ns vw IN N:=by exact nv):WT rnd P Q g0 id es L Or Sr l vw nx:=k ⟨ns,hN⟩
theorem wK {IN IT:List Nat} {N T:List aE} {vw1:List TE} (ts ns:List Nat) (k:WY rnd P Q g0 id es L Or Sr l vw vw1 nx IT T IN N) (hT:Tv ts vw IT T vw1:=by repeat (first | exact .n | (apply Tv.c; (repeat (first | exact .h | apply Rv.t))))) (hN:Nv ns vw IN N:=by exact nv):WT rnd P Q g0 id es L Or Sr l vw nx:=k ⟨ns,hN⟩ ⟨ts,hT⟩
theorem wS {d:Nat} {l0:List Oper} {o:Oper} {N:List aE} {IN:List Nat} {n1:Nat} (a:AV) (hs:List (List Nat)) (h:OL P l0 N d a) (k:WT rnd P Q g0 id es L Or' Sr' l' vw' nx') (e:l0=o::l:=by rfl) (hg:um o.guard L.toArray N=true:=by kernel_rfl) (h1:nx+1=n1:=by exact Ii)
  (h2:WS P L hs ((d,a)::Or) (⟨IN,[],[nx],[.slot d]⟩::Sr) l ((nx,(d,a))::vw) n1 Or' Sr' l' vw' nx':=by exact ws):WX rnd P Q g0 id es L Or Sr l0 vw nx IN N:=by
 rintro ⟨ns,hN⟩
 have h3:=h.get e
 subst e h1
 exact JQ hN (ia hg h3) (h2.run _ _ _ _ _ k)
theorem wo {d:Nat} {a:AV} {l0:List Oper} {o:Oper} {N:List aE} {IN:List Nat} {n1:Nat} (hs:List (List Nat)) (h:OL P l0 N d a) (k:WT rnd P Q g0 id es L Or' Sr' l' vw' nx') (e:l0=o::l:=by rfl) (hg:um o.guard L.toArray N=true:=by kernel_rfl) (h1:nx+1=n1:=by exact Ii)
 (h2:WS P L hs ((d,a)::Or) (⟨IN,[],[nx],[.slot d]⟩::Sr) l ((nx,(d,a))::vw) n1 Or' Sr' l' vw' nx':=by exact ws):WX rnd P Q g0 id es L Or Sr l0 vw nx IN N:=wS a hs h k e hg h1 h2
theorem wt {l0:List Oper} {o:Oper} {N T:List aE} {W:List bl} {IN IT:List Nat} {vw1 gt vw2:List TE} {m:Nat} {Or1:List aE} {gi:List Nat} (G:List aE) (hs:List (List Nat)) (h:OX P l0 N T G W) (k:WT rnd P Q g0 id es L Or' Sr' l' vw' nx') (e:l0=o::l:=by rfl) (hg:um o.guard L.toArray N=true:=by kernel_rfl)
  (hG:Vw nx G gt m:=by repeat (first | exact .n | (apply Vw.c; exact Ii))) (e1:Rr G Or Or1:=by repeat (first | exact .n | apply Rr.c)) (e2:gt.map (·.1)=gi:=by rfl) (e3:gt++vw1=vw2:=by dsimp only [List.cons_append,List.nil_append]; first | done | rfl)
  (h2:WS P L hs Or1 (⟨IN,IT,gi,W⟩::Sr) l vw2 m Or' Sr' l' vw' nx':=by exact ws):WY rnd P Q g0 id es L Or Sr l0 vw vw1 nx IT T IN N:=by
 rintro ⟨ns,hN⟩ ⟨ts,hT⟩
 have h3:=h.get e
 have h4:=e1.eq
 subst e e2 e3 h4
 exact IB hT hN hG (ia hg h3) (h2.run _ _ _ _ _ k)
theorem we {n:Nat} {fin:List Nat} {outs es':List aE} {sps:List Sp} (hn:g0.n=n) (ts:List Nat) (hQ:PT Q g0 .normal es') (hm:P.follows .mixedOrders=true:=by kernel_rfl) (hk:Kv ts vw fin es':=by repeat (first | exact .n | (apply Kv.c; (repeat (first | exact .h | apply Rv.t))))) (hO:Rr Or [] outs:=by repeat (first | exact .n | apply Rr.c)) (hS:Rr Sr [] sps:=by repeat (first | exact .n | apply Rr.c))
 (hc:uT n L (es++outs) (List.range es.length) sps fin=true:=by kernel_rfl):WT rnd P Q g0 id es L Or Sr [] vw nx:=Gx hm hn hk hO hS hQ hc
theorem sf {y:Code} {n:Nat} {fin:List Nat} {outs es':List aE} {sps:List Sp} (hn:g0.n=n) (ts:List Nat) (hQ:HT rnd P Q g0 y es') (hm:P.follows .mixedOrders=true:=by kernel_rfl) (hk:Kv ts vw fin es':=by repeat (first | exact .n | (apply Kv.c; (repeat (first | exact .h | apply Rv.t))))) (hO:Rr Or [] outs:=by repeat (first | exact .n | apply Rr.c)) (hS:Rr Sr [] sps:=by repeat (first | exact .n | apply Rr.c))
 (hc:uT n L (es++outs) (List.range es.length) sps fin=true:=by kernel_rfl):WT rnd P (Exit.then (y.wpIn (FW rnd) 0 P Q) Q) g0 id es L Or Sr [] vw nx:=Gx hm hn hk hO hS (ae hQ) hc
theorem wd {d:Nat} {b c:Bool} (hb:b=c) (hs:List (List Nat)) (k:WT rnd P Q g0 id es L Or' Sr' l' vw' nx') (h2:WS P L hs ((d,.v (.bool c))::Or) Sr l ((nx,(d,.v (.bool c)))::vw) m Or' Sr' l' vw' nx':=by exact ws) :
  WT rnd P Q g0 id es L ((d,.v (.bool b))::Or) Sr l ((nx,(d,.v (.bool b)))::vw) m:=by
 subst hb
 exact h2.run _ _ _ _ _ k
end
section
variable {P:Program} {Q:Exit→Act→World→Prop} {g0:Gh} {rnd:Option Nat}
theorem zd {R:Type} {c:Operand} {x y:Code} {es:List aE} {b:Bool} {A B:Option R} {r:R} (h:cond b A B=some r) (hc:rd es c = .v (.bool b)) (ht:b=true→A=some r→HT rnd P Q g0 x es) (hf:b=false→B=some r→HT rnd P Q g0 y es):HT rnd P Q g0 (.cond c x y) es :=
 ES b hc (fun e=>ht e (HB e h)) (fun e=>hf e (GY e h))
theorem zc {R:Type} {c:Operand} {x y:Code} {es:List aE} {b:Bool} {A B:Option R} {r:R} (h:cond b A B=some r) (hc:rd es c = .v (.bool b)) (ht:A=some r→HT rnd P Q g0 x es) (hf:B=some r→HT rnd P Q g0 y es):HT rnd P Q g0 (.cond c x y) es :=
 zd h hc (fun _=>ht) (fun _=>hf)
theorem dM {A R S:Type} {m:Option A} {g:A→Option S} {f:A→S→Option R} {r:R} (h:m.bind (fun x=>(g x).bind (f x))=some r):∃ x,m=some x∧∃ y,g x=some y∧f x y=some r:=by
 obtain ⟨x,h1,h2⟩:=bind_some h
 obtain ⟨y,h3,h4⟩:=bind_some h2
 exact ⟨x,h1,y,h3,h4⟩
theorem ng {A R S T:Type} {m:Option A} {g:A→Option S} {k:A→S→Option T} {f:A→S→T→Option R} {r:R} (h:m.bind (fun x=>(g x).bind (fun y=>(k x y).bind (f x y)))=some r):∃ x,m=some x∧∃ y,g x=some y∧∃ z,k x y=some z∧f x y z=some r:=by
 obtain ⟨x,h1,h2⟩:=bind_some h
 obtain ⟨y,h3,z,h4,h5⟩:=dM h2
 exact ⟨x,h1,y,h3,z,h4,h5⟩
theorem jX {A R S T U:Type} {m:Option A} {g:A→Option S} {k:A→S→Option T} {l:A→S→T→Option U} {f:A→S→T→U→Option R} {r:R} (h:m.bind (fun x=>(g x).bind (fun y=>(k x y).bind (fun z=>(l x y z).bind (f x y z))))=some r):∃ x,m=some x∧∃ y,g x=some y∧∃ z,k x y=some z∧∃ u,l x y z=some u∧f x y z u=some r:=by
 obtain ⟨x,h1,h2⟩:=bind_some h
 obtain ⟨y,h3,z,h4,u,h5,h6⟩:=ng h2
 exact ⟨x,h1,y,h3,z,h4,u,h5,h6⟩
end
end Go.Abs
end
