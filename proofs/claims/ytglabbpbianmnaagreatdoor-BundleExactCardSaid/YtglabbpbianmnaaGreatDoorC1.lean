import Derived.KernelRfl
import Derived.Test.YtglabbpbianmnaaGreatDoorAN
section
namespace Go.Abs
inductive Tk:Nat→List aO→AV→List aO→Prop
 | h {t:Nat} {av:AV} {r:List aO}:Tk t ((t,av)::r) av r
 | t {t:Nat} {av:AV} {e:aO} {r r':List aO}:Tk t r av r'→Tk t (e::r) av (e::r')
theorem Tk.perm {t:Nat} {es:List aO} {av:AV} {es':List aO} (h:Tk t es av es'):es.Perm ((t,av)::es'):=by
 induction h with
 | h=>exact .refl _
 | t _ ih=>exact (ih.cons _).trans (.swap _ _ _)
inductive Kp:List Nat→List aO→List aO→Prop
 | n {es:List aO}:Kp [] es []
 | c {t:Nat} {ts:List Nat} {av:AV} {es es1 out:List aO}:Tk t es av es1→Kp ts es1 out→Kp (t::ts) es ((t,av)::out)
theorem Kp.perm {ts:List Nat} {es out:List aO} (h:Kp ts es out):∃ ds,es.Perm (ds++out):=by
 induction h with
 | n=>exact ⟨_,by rw [List.append_nil]⟩
 | c h1 _ ih =>
  obtain ⟨ds,p⟩:=ih
  exact ⟨ds,(h1.perm.trans (p.cons _)).trans List.perm_middle.symm⟩
inductive Ts:List Nat→List aO→List aO→List aO→Prop
 | n {es:List aO}:Ts [] es [] es
 | c {t:Nat} {ts:List Nat} {av:AV} {es es1 T N:List aO}:Tk t es av es1→Ts ts es1 T N→Ts (t::ts) es ((t,av)::T) N
theorem Ts.perm {ts:List Nat} {es T N:List aO} (h:Ts ts es T N):es.Perm (T++N):=by
 induction h with
 | n=>exact .refl _
 | c h1 _ ih=>exact h1.perm.trans (ih.cons _)
section
variable {P:Program} {Q:Exit→Act→World→Prop} {g0:Gh} {rnd:Option Nat} {ops:Array Oper}
def RT (rnd:Option Nat) (P:Program) (ops:Array Oper) (Q:Exit→Act→World→Prop) (g0:Gh) (l:List Oper) (es:List aO):Prop :=
 ∀ (k:Nat) (g:Gh) (a:Act) (w:World),(∀ j o,l[j]? = some o→ops[k+j]? = some o)→(∀ (i d:Nat),(ops[i]?).bind Oper.dst=some d→d<g0.n)→g0.le g→iR g es a w →
  wpOpsIn (FW rnd) 0 P ops Q (List.range' k l.length) a w
theorem pm {id n:Nat} {l:List Oper} {es:List aO} (hn:g0.n=n) (hd:mG n l=true) (h:RT rnd P l.toArray Q g0 l es):HT rnd P Q g0 (.region id l.toArray false) es:=by
 intro g a w hg hs
 refine wpIn_region ?_
 rw [List.size_toArray,List.range_eq_range']
 exact h 0 g a w (fun j o hj=>by simpa using hj) (by rw [hn]; exact qJ hd) hg hs
theorem uk {ts:List Nat} {es es':List aO} (hk:Kp ts es es') (hQ:PT Q g0 .normal es'):RT rnd P ops Q g0 [] es:=by
 intro k g a w _ _ hg hs
 simp only [List.length_nil,List.range'_zero,wpOpsIn]
 exact hQ g a w hg (hs.sub hk.perm)
theorem nP {o:Oper} {l:List Oper} {es N T G:List aO} {W:List ce} (h:vD P ops o N T G W) (hp:es.Perm (T++N)) (hc:N.all (dl W)=true) (k:RT rnd P ops Q g0 l (G++N)):RT rnd P ops Q g0 (o::l) es:=by
 intro i g a w hl hd hg hs
 rw [List.length_cons,List.range'_succ,wpOpsIn_cons]
 have ho:ops[i]? = some o:=by simpa using hl 0 o rfl
 refine h i ho g [] a w _ Q (fun d hd'=>by rw [hg.n]; exact hd i d hd') ?_ ?_ ?_ rnd
 ·refine hs.perm ?_
  rw [List.append_nil]
  exact hp.trans List.perm_append_comm
 ·intro e he
  rw [List.append_nil] at he
  exact List.all_eq_true.1 hc e he
 ·intro g' a' w' hle hs'
  refine k (i+1) g' a' w' (fun j o' hj=>by rw [show i+1+j=i+(j+1) by omega]; exact hl (j+1) o' (by simpa using hj)) hd (hg.trans hle) (hs'.perm ?_)
  rw [List.append_nil]
  exact List.perm_append_comm
theorem yR {ts:List Nat} {l:List Oper} {es T N:List aO} (h:Ts ts es T N) (k:RT rnd P ops Q g0 l N):RT rnd P ops Q g0 l es:=by
 intro i g a w hl hd hg hs
 exact k i g a w hl hd hg (hs.sub ⟨T,h.perm⟩)
theorem Hu {l:List Oper} {es:List aO} {d:Nat} {b c:Bool} (hb:b=c) (k:RT rnd P ops Q g0 l ((d,.v (.bool c))::es)):RT rnd P ops Q g0 l ((d,.v (.bool b))::es):=by subst hb; exact k
def IX (b:Bool):AV→Bool
 | .v (.bool c)=>b==c
 | _=>false
def Js:AV→Bool
 | .v (.tuple xs)=>Nat.beq xs.size 0
 | _=>false
def IZ (ops:Array Oper) (N:List aO) (j:Nat):Option AV:=match ops[j]? with
 | some oj=>match oj.dst with
  | some d=>some (look N d)
  | none=>none
 | none=>none
def uu (gd:Option (Nat×Bool)) (ops:Array Oper) (N:List aO):Bool:=match gd with
 | none=>true
 | some (j,want)=>match IZ ops N j with
  | some av=>IX want av
  | none=>false
def yP (gd:Option (Nat×Bool)) (ops:Array Oper) (N:List aO):Bool:=match gd with
 | none=>false
 | some (j,want)=>match IZ ops N j with
  | some av=>IX (!want) av||Js av
  | none=>false
theorem xg {N:List aO} {j:Nat} {av:AV} (h:IZ ops N j=some av):∃ oj d,ops[j]? = some oj∧oj.dst=some d∧look N d=av:=by
 unfold IZ at h
 split at h
 ·rename_i oj ho
  split at h
  ·rename_i d hd
   exact ⟨oj,d,ho,hd,Option.some.inj h⟩
  ·cases h
 ·cases h
theorem wE {b:Bool} {av:AV} (h:IX b av=true):av = .v (.bool b):=by
 unfold IX at h
 split at h
 ·rename_i c
  cases b <;> cases c <;> first | rfl | (cases h)
 ·cases h
theorem BI {av:AV} (h:Js av=true):av = .v undef:=by
 unfold Js at h
 split at h
 ·rename_i xs
  have:=Nat.eq_of_beq_eq_true h
  rw [Array.size_eq_zero_iff] at this
  subst this; rfl
 ·cases h
theorem vk {N:List aO} {d:Nat} {x:Value} (h:look N d = .v x):(d,AV.v x)∈N:=by
 rcases xm (N:=N) (t:=d) with h1 | h1
 ·rw [h1] at h; cases h
 ·rw [h] at h1; exact h1
theorem jE {o:Oper} {N T G:List aO} {W:List ce} (hg:uu o.guard ops N=true) (h:bD P o N T G W):vD P ops o N T G W:=by
 cases hgd:o.guard with
 | none=>exact ld hgd h
 | some q =>
  obtain ⟨j,want⟩:=q
  rw [hgd] at hg
  unfold uu at hg
  simp only at hg
  split at hg
  ·rename_i av hav
   obtain ⟨oj,d,h1,h2,h3⟩:=xg hav
   rw [wE hg] at h3
   exact Hh j d want hgd h1 h2 (vk h3) h
  ·cases hg
theorem vS {o:Oper} {N:List aO} {dd:Nat} (hg:yP o.guard ops N=true) (hd:o.dst=some dd):vD P ops o N [] [(dd,.v undef)] [.slot dd]:=by
 cases hgd:o.guard with
 | none=>rw [hgd] at hg; cases hg
 | some q =>
  obtain ⟨j,want⟩:=q
  rw [hgd] at hg
  unfold yP at hg
  simp only at hg
  split at hg
  ·rename_i av hav
   obtain ⟨oj,d,h1,h2,h3⟩:=xg hav
   rcases Bool.or_eq_true_iff.1 hg with hg | hg
   ·rw [wE hg] at h3
    exact yH j d dd want hgd h1 h2 hd (vk h3)
   ·rw [BI hg] at h3
    exact BG j d dd want hgd h1 h2 hd (vk h3)
  ·cases hg
def Hz (gd:Option (Nat×Bool)) (ops:Array Oper) (es:List aO) (d:Nat):Bool:=uu gd ops es&&es.all (dl [.slot d])
theorem Iu {o:Oper} {l:List Oper} {es:List aO} {d:Nat} {av:AV} (h:bD P o es [] [(d,av)] [.slot d]) (hc:Hz o.guard ops es d=true) (k:RT rnd P ops Q g0 l ((d,av)::es)):RT rnd P ops Q g0 (o::l) es:=by
 rw [Hz,Bool.and_eq_true] at hc
 exact nP (jE hc.1 h) (.refl _) hc.2 k
end
end Go.Abs
end
section
set_option linter.unusedVariables false
namespace Go.Abs
class UD (P:Program) (t:TypeId) (d:outParam TypeDesc):Prop where h:P.underlying t=some d
def IL (P:Program) (t:TypeId) (b:Bool) (s:Nat):Bool:=(match P.underlying t with
 | some td=>eE td==b
 | none=>false)&&(match P.info? t with
 | some i=>Nat.beq i.size s
 | none=>false)
class AS (P:Program) (t:TypeId):Prop where h:IL P t false 1=true
class AA (P:Program) (t:TypeId) (s:outParam Nat):Prop where h:IL P t true s=true
theorem kD {P:Program} {t:TypeId} {b:Bool} {s:Nat} (h:IL P t b s=true):(∃ td,P.underlying t=some td∧eE td=b)∧(P.info? t).map (·.size)=some s:=by
 rw [IL,Bool.and_eq_true] at h
 obtain ⟨h1,h2⟩:=h
 refine ⟨?_,?_⟩
 ·split at h1
  ·rename_i td e; exact ⟨td,e,by cases b <;> cases hh:eE td <;> simp_all⟩
  ·cases h1
 ·split at h2
  ·rename_i i e; rw [e]; exact congrArg some (Nat.eq_of_beq_eq_true h2)
  ·cases h2
def KB (P:Program) (s:TypeId) (i off:Nat):Bool:=match P.underlying s with
 | some (.struct fs)=>match fs[i]? with
  | some f=>Nat.beq f.offset off&&(match P.info? f.type with
   | some j=>Nat.blt 0 j.size
   | none=>false)
  | none=>false
 | _=>false
class FO (P:Program) (s:TypeId) (i:Nat) (off:outParam Nat):Prop where h:KB P s i off=true
theorem FO.get {P:Program} {s:TypeId} {i off:Nat} (h:FO P s i off):∃ fs f k,P.underlying s=some (.struct fs)∧fs[i]? = some f∧(P.info? f.type).map (·.size)=some (k+1)∧f.offset=off:=by
 have h:=h.h
 unfold KB at h
 split at h
 ·rename_i fs e1
  split at h
  ·rename_i f e2
   rw [Bool.and_eq_true] at h
   obtain ⟨h1,h2⟩:=h
   split at h2
   ·rename_i j e3
    have:=nI.1 h2
    refine ⟨fs,f,j.size-1,e1,e2,?_,Nat.eq_of_beq_eq_true h1⟩
    rw [e3]; exact congrArg some (show j.size=j.size-1+1 by omega)
   ·cases h2
  ·cases h
 ·cases h
class LenE {A:Type} (enc:A→List Value) (z:outParam Nat):Prop where h:∀ x,(enc x).length=z
class LenI {A:Type} (enc:A→List IC) (z:outParam Nat):Prop where h:∀ x,(enc x).length=z
section
variable {P:Program} {Q:Exit→Act→World→Prop} {g0:Gh} {rnd:Option Nat} {ops:Array Oper}
structure nA (P:Program) (ops:Array Oper) (n:Nat) (l:List Oper) (es:List aO) (l':List Oper) (es':List aO):Prop where
 run:∀ (rnd:Option Nat) (Q:Exit→Act→World→Prop) (g0:Gh),RT rnd P ops Q g0 l' es'→RT rnd P ops Q g0 l es
variable {l l':List Oper} {es es':List aO} {n:Nat} {ty:TypeId} {pos:String} {aft:Array Edge} {gd:Option (Nat×Bool)} {d:Nat} {av:AV}
theorem sn:nA P ops 0 l es l es:=⟨fun _ _ _ h=>h⟩
theorem KZ {o:Oper} (h:bD P o es [] [(d,av)] [.slot d]) (hc:Hz o.guard ops es d=true) (k:nA P ops n l ((d,av)::es) l' es'):nA P ops (n+1) (o::l) es l' es' :=
 ⟨fun rnd Q g0 hr=>Iu h hc (k.run rnd Q g0 hr)⟩
theorem oA {o:Oper} {T G M:List aO} {W:List ce} (h:bD P o [] T G W):bD P o M T G W:=by
 intro g F a w K Q hd hs hc hk
 refine h g (M++F) a w K Q hd ?_ (fun e he=>hc e (by simpa using he)) ?_
 ·refine hs.perm ?_
  rw [List.nil_append,← List.append_assoc,← List.append_assoc]
  exact List.perm_append_comm.append_right _
 ·intro g' a' w' hle hs'
  refine hk g' a' w' hle (hs'.perm ?_)
  rw [List.nil_append,← List.append_assoc,← List.append_assoc]
  exact List.perm_append_comm.append_right _
theorem bD.fr {o:Oper} {N T G F M:List aO} {W:List ce} (h:bD P o N T G W) (hp:M.Perm (N++F)):bD P o M T G W:=by
 intro g F' a w K Q hd hs hc hk
 refine h g (F++F') a w K Q hd ?_ (fun e he=>hc e ?_) ?_
 ·refine hs.perm ?_
  refine (hp.append_right _).trans ?_
  rw [List.append_assoc]
  refine List.Perm.append_left _ ?_
  rw [← List.append_assoc,← List.append_assoc]
  exact List.perm_append_comm.append_right _
 ·rw [← List.append_assoc] at he
  rcases List.mem_append.1 he with h1 | h1
  ·exact List.mem_append_left _ (hp.mem_iff.2 h1)
  ·exact List.mem_append_right _ h1
 ·intro g' a' w' hle hs'
  refine hk g' a' w' hle (hs'.perm ?_)
  refine List.Perm.trans ?_ (hp.append_right _).symm
  rw [List.append_assoc]
  refine List.Perm.append_left _ ?_
  rw [← List.append_assoc,← List.append_assoc]
  exact List.perm_append_comm.append_right _
structure Bx (p:Prop):Prop where
 h:p
def OL (P:Program) (l:List Oper) (es:List aO) (d:Nat) (a:AV):Prop:=match l with
 | []=>False
 | o::_=>Bx (bD P o es [] [(d,a)] [.slot d])
def OX (P:Program) (l:List Oper) (N T G:List aO) (W:List ce):Prop:=match l with
 | []=>False
 | o::_=>Bx (bD P o N T G W)
theorem OL.get {o:Oper} (h:OL P l' es d av) (e:l'=o::l):bD P o es [] [(d,av)] [.slot d]:=by subst e; exact Bx.h h
theorem OX.get {o:Oper} {N T G:List aO} {W:List ce} (h:OX P l' N T G W) (e:l'=o::l):bD P o N T G W:=by subst e; exact Bx.h h
theorem Km {a:AV} {x:Value} (h:a = .v x):a = .v x:=h
theorem Kz {a:AV} {m:Md} {z:Nat} {xs:List Value} (h:a = .fl m z xs):a = .fl m z xs:=h
theorem KG {a:AV} {m:Md} {s:Bool} {z:Nat} {cs:List IC} (h:a = .fr m s z cs):a = .fr m s z cs:=h
theorem KF {a:AV} {c:ce} (h:a = .same c):a = .same c:=h
theorem KD {a:AV} {t k:Nat} (h:a = .ptr t k):a = .ptr t k:=h
theorem Kn {a:AV} {c:ce} {k:Nat} (h:a = .eref c k):a = .eref c k:=h
theorem KP {a:AV} {c:ce} {k:Nat} (h:a = .cut c k):a = .cut c k:=h
theorem KU {a:AV} {cs cs':List AV} (h:a = .agg cs) (h2:cs=cs'):a = .agg cs':=by rw [h,h2]
inductive Mp (f:AV→AV):List AV→List AV→Prop
 | n:Mp f [] []
 | c {a b:AV} {cs ds:List AV} (h:f a=b) (r:Mp f cs ds):Mp f (a::cs) (b::ds)
theorem Mp.eq {f:AV→AV} {cs ds:List AV} (h:Mp f cs ds):cs.map f=ds:=by
 induction h with
 | n=>rfl
 | c h _ ih=>rw [List.map_cons,h,ih]
inductive Dl (t:Nat):Nat→Nat→Nat→List AV→List AV→Prop
 | n {off p:Nat} {cs:List AV}:Dl t off p 0 cs []
 | s {off p k:Nat} {a:AV} {cs ds:List AV} (h:Dl t off p (k+1) cs ds):Dl t off (p+1) (k+1) (a::cs) ds
 | c {off k:Nat} {a b:AV} {cs ds:List AV} (h:kY t off a=b) (r:Dl t (off+1) 0 k cs ds):Dl t off 0 (k+1) (a::cs) (b::ds)
theorem Dl.eq {t off p k:Nat} {cs ds:List AV} (h:Dl t off p k cs ds):qE t off ((cs.drop p).take k)=ds∧(0<k→p+k≤cs.length):=by
 induction h with
 | n=>simp [qE]
 | s _ ih=>simp only [List.drop_succ_cons,List.length_cons]; exact ⟨ih.1,fun h=>by have:=ih.2 h; omega⟩
 | c h _ ih =>
  rename_i off k a b cs ds _
  simp only [List.drop_zero,List.take_succ_cons,qE,h] at *
  refine ⟨by rw [ih.1],fun _ => ?_⟩
  by_cases hk:0<k
  ·have:=ih.2 hk; simp; omega
  ·simp; omega
inductive Sl:Nat→List AV→List AV→List AV→Prop
 | n {cs:List AV}:Sl 0 [] cs cs
 | s {p:Nat} {vs cs ds:List AV} {a:AV} (h:Sl p vs cs ds):Sl (p+1) vs (a::cs) (a::ds)
 | c {v a:AV} {vs cs ds:List AV} (h:Sl 0 vs cs ds):Sl 0 (v::vs) (a::cs) (v::ds)
theorem Sl.eq {p:Nat} {vs cs ds:List AV} (h:Sl p vs cs ds):cs.take p++(vs++cs.drop (p+vs.length))=ds∧p+vs.length≤cs.length:=by
 induction h with
 | n=>simp
 | s _ ih=>simp only [List.take_succ_cons,List.length_cons,List.cons_append]; rw [show ∀ p x:Nat,p+1+x=p+x+1 by omega,List.drop_succ_cons]; exact ⟨by rw [ih.1],by omega⟩
 | c _ ih=>simp only [List.take_zero,List.nil_append,Nat.zero_add,List.length_cons,List.drop_succ_cons,List.cons_append] at *; exact ⟨by rw [ih.1],by omega⟩
theorem Jz {i:Op} {q:Nat×Bool} (h1:yP (some q) ops es=true) (h2:es.all (dl [.slot d])=true) (k:nA P ops n l ((d,.v undef)::es) l' es'):nA P ops (n+1) (⟨some d,i,ty,pos,aft,some q⟩::l) es l' es':=by
 exact ⟨fun rnd Q g0 hr=>nP (vS (o:=⟨some d,i,ty,pos,aft,some q⟩) h1 rfl) (.refl _) h2 (k.run rnd Q g0 hr)⟩
theorem JK {t:Nat} (hc:iL [.slot d] (.slot t)=false):bD P ⟨some d,.move (.tmp t),ty,pos,aft,gd⟩ [] [] [(d,.same (.slot t))] [.slot d]:=po _ _ _ hc
theorem Kd {t:Nat} {q:Nat×Bool} {e:aO} (hc:iL [.slot d] (.slot t)=false):bD P ⟨some d,.move (.tmp t),ty,pos,aft,some q⟩ [e] [] [(d,.same (.slot t))] [.slot d]:=bD.fr (F:=[e]) (N:=[]) (po _ _ _ hc) (List.Perm.refl [e])
theorem JQ {x:Operand} (h:bA es x=av) (hc:fG [.slot d] av=true):bD P ⟨some d,.move x,ty,pos,aft,gd⟩ es [] [(d,av)] [.slot d]:=zD _ _ _ _ h hc
theorem JY {x:Operand} (h:bA es x=av) (hc:fG [.slot d] av=true):bD P ⟨some d,.assign x,ty,pos,aft,gd⟩ es [] [(d,av)] [.slot d]:=nt _ _ _ _ h hc
theorem Jv {c x y:Operand} {b:Bool} {r:Value} (h:rd es c = .v (.bool b)) (h2:rd es (if b then x else y) = .v r):bD P ⟨some d,.pick c x y,ty,pos,aft,gd⟩ es [] [(d,.v r)] [.slot d]:=uV _ _ b r h h2
theorem Kh {op:BinOp} {t t':TypeId} {x y:Operand} {a b r:Value} (hx:rd es x = .v a) (hy:rd es y = .v b) (h:lT op a b=some r):bD P ⟨some d,.binOp op t x y t',ty,pos,aft,gd⟩ es [] [(d,.v r)] [.slot d]:=sJ _ _ a b r hx hy h
theorem JM {op:UnOp} {t:TypeId} {x:Operand} {a r:Value} (hx:rd es x = .v a) (h:Kf op a=some r):bD P ⟨some d,.unOp op t x,ty,pos,aft,gd⟩ es [] [(d,.v r)] [.slot d]:=Ih _ _ a r hx h
theorem JS {t i:Nat} {cs:List AV} (h:look es t = .tup cs) (h2:cB (cs.getD i .any)=av) (hc:(fG [.slot d] av&&(Nat.blt i cs.length&&fh av))=true):bD P ⟨some d,.extract (.tmp t) i,ty,pos,aft,gd⟩ es [] [(d,av)] [.slot d]:=by
 rw [Bool.and_eq_true,Bool.and_eq_true] at hc
 exact sK _ _ _ cs av h h2 (nI.1 hc.2.1) hc.1 hc.2.2
theorem JA {s:TypeId} {x:Operand} {i o2 t off:Nat} (F:FO P s i o2) (hx:bA es x = .ptr t off) (hc:Nat.beq t d=false):bD P ⟨some d,.fieldAddr s x i,ty,pos,aft,gd⟩ es [] [(d,.ptr t (off+o2))] [.slot d]:=by
 obtain ⟨fs,f,kk,h1,h2,h3,h4⟩:=F.get
 exact pH _ _ x i t off _ h1 h2 h3 hx (by rw [h4]) (Nat.ne_of_beq_eq_false hc)
theorem JN {s:TypeId} {x:Operand} {i o2 j:Nat} {c:ce} (F:FO P s i o2) (hx:bA es x = .eref c j) (hc:iL [.slot d] c=false):bD P ⟨some d,.fieldAddr s x i,ty,pos,aft,gd⟩ es [] [(d,.eref c (j+o2))] [.slot d]:=by
 obtain ⟨fs,f,kk,h1,h2,h3,h4⟩:=F.get
 exact rE _ _ x i c j _ h1 h2 h3 hx (by rw [h4]) hc
theorem JF {x:Operand} {t off:Nat} (hx:bA es x = .ptr t off) (hc:Nat.beq d t=false):bD P ⟨some d,.nilCheck x,ty,pos,aft,gd⟩ es [] [(d,.ptr t off)] [.slot d]:=wk _ _ x t off hx (Nat.ne_of_beq_eq_false hc)
theorem JC {x:Operand} {t:Nat} {T:TypeId} {cs:List AV} (hx:bA es x = .same (.slot t)) (hb:look es t = .box T cs) (hc:Nat.beq d t=false):bD P ⟨some d,.nilCheck x,ty,pos,aft,gd⟩ es [] [(d,.ptr t 0)] [.slot d]:=pR _ _ x t hx hb (Nat.ne_of_beq_eq_false hc)
theorem Jg {U T':TypeId} {x:Operand} {t off:Nat} {cs:List AV} (A:AS P U) (hx:bA es x = .ptr t off) (hl:look es t = .box T' cs) (ha:kY t off (cs.getD off .any)=av) (hc:(fG [.slot d] av&&(Nat.blt off cs.length&&fh av))=true):bD P ⟨some d,.load U x,ty,pos,aft,gd⟩ es [] [(d,av)] [.slot d]:=by
 rw [Bool.and_eq_true,Bool.and_eq_true] at hc
 obtain ⟨⟨td,h1,h2⟩,_⟩:=kD A.h
 exact Eh _ _ x t off av h1 h2 hx hl (nI.1 hc.2.1) ha hc.1 hc.2.2
theorem JH {U T':TypeId} {s:Nat} {x:Operand} {t off:Nat} {cs ds:List AV} (A:AA P U s) (hx:bA es x = .ptr t off) (hl:look es t = .box T' cs) (ha:Dl t off off s cs ds) (hc:(eH [.slot d] ds&&Nat.blt 0 s)=true):bD P ⟨some d,.load U x,ty,pos,aft,gd⟩ es [] [(d,.agg ds)] [.slot d]:=by
 rw [Bool.and_eq_true] at hc
 obtain ⟨⟨td,h1,h2⟩,h3⟩:=kD A.h
 obtain ⟨e1,e2⟩:=ha.eq
 exact Bs _ _ x t off s ds h1 h2 h3 hx hl (e2 (nI.1 hc.2)) e1 hc.1
theorem JU {t t':TypeId} {x:Operand} {s:Ll} (U:UD P t .string) (hx:rd es x = .v (.string s)):bD P ⟨some d,.call ⟨.builtin .len,#[x],#[t]⟩,t',pos,aft,gd⟩ es [] [(d,.v (.int .i64 (s.size:Int)))] [.slot d]:=sA _ _ s U.h hx
theorem Jk {t t' e:TypeId} {x:Operand} {m:Md} {z:Nat} {xs:List Value} {q:Nat} (U:UD P t (.slice e)) (hx:rd es x = .fl m z xs) (hn:xs.length=q * z) (hc:Nat.blt 0 z=true):bD P ⟨some d,.call ⟨.builtin .len,#[x],#[t]⟩,t',pos,aft,gd⟩ es [] [(d,.v (.int .i64 (q:Int)))] [.slot d]:=Ac _ _ q U.h hx (nI.1 hc) hn
theorem Ke {t t' e:TypeId} {x:Operand} {m:Md} {s:Bool} {z:Nat} {cs:List IC} {q:Nat} (U:UD P t (.slice e)) (hx:rd es x = .fr m s z cs) (hn:cs.length=q * z) (hc:Nat.blt 0 z=true):bD P ⟨some d,.call ⟨.builtin .len,#[x],#[t]⟩,t',pos,aft,gd⟩ es [] [(d,.v (.int .i64 (q:Int)))] [.slot d]:=Aj _ _ q U.h hx (nI.1 hc) hn
theorem JP {T:TypeId} {x:Operand} {cs:List AV} (h:bA es x=av) (hv:dP av=cs) (hc:(el es av&&eH [.slot d] cs)=true):bD P ⟨some d,.box T x,ty,pos,aft,gd⟩ es [] [(d,.box T cs)] [.slot d]:=by
 rw [Bool.and_eq_true] at hc
 subst hv
 exact Gc _ _ x av h hc.1 hc.2
theorem FD {U T':TypeId} {s t off:Nat} {ax vx:Operand} {cs vs cs':List AV} {av:AV} {es1:List aO} (A:(P.info? U).map (·.size)=some s) (hx:bA es ax = .ptr t off) (ht:Tk t es (.box T' cs) es1) (hv:bA es1 vx=av) (hvs:dP av=vs) (hS:Sl off vs cs cs')
  (hx2:bA (es1++[(t,.box T' cs)]) ax = .ptr t off)
  (hc:(uu gd ops es1&&(es1.all (dl (dG t off s))&&(el es1 av&&(Nat.beq vs.length s&&eH (dG t off s) cs'))))=true) (k:nA P ops n l ((t,.box T' cs')::es1) l' es'):nA P ops (n+1) (⟨none,.store U ax vx,ty,pos,aft,gd⟩::l) es l' es':=by
 rw [Bool.and_eq_true,Bool.and_eq_true,Bool.and_eq_true,Bool.and_eq_true] at hc
 obtain ⟨c1,c2,c3,c4,c5⟩:=hc
 have hl:=Nat.eq_of_beq_eq_true c4
 subst hvs
 obtain ⟨e1,e2⟩:=hS.eq
 rw [hl] at e1 e2
 exact ⟨fun rnd Q g0 hr=>nP (jE (o:=⟨none,.store U ax vx,ty,pos,aft,gd⟩) c1 (kR es1 ax vx t off s av cs' A hx2 hv c3 hl e2 e1 c5)) ht.perm c2 (k.run rnd Q g0 hr)⟩
theorem Fk {U T':TypeId} {s t off:Nat} {ax vx:Operand} {cs vs cs':List AV} {av:AV} {es1 N F:List aO} (A:(P.info? U).map (·.size)=some s) (hx:bA es ax = .ptr t off) (ht:Tk t es (.box T' cs) es1) (hN:es1.Perm (N++F)) (hv:bA N vx=av) (hvs:dP av=vs) (hS:Sl off vs cs cs')
  (hx2:bA (N++[(t,.box T' cs)]) ax = .ptr t off)
  (hc:(uu gd ops es1&&(es1.all (dl (dG t off s))&&(el N av&&(Nat.beq vs.length s&&eH (dG t off s) cs'))))=true) (k:nA P ops n l ((t,.box T' cs')::es1) l' es'):nA P ops (n+1) (⟨none,.store U ax vx,ty,pos,aft,gd⟩::l) es l' es':=by
 rw [Bool.and_eq_true,Bool.and_eq_true,Bool.and_eq_true,Bool.and_eq_true] at hc
 obtain ⟨c1,c2,c3,c4,c5⟩:=hc
 have hl:=Nat.eq_of_beq_eq_true c4
 subst hvs
 obtain ⟨e1,e2⟩:=hS.eq
 rw [hl] at e1 e2
 exact ⟨fun rnd Q g0 hr=>nP (jE (o:=⟨none,.store U ax vx,ty,pos,aft,gd⟩) c1 ((kR N ax vx t off s av cs' A hx2 hv c3 hl e2 e1 c5).fr hN)) ht.perm c2 (k.run rnd Q g0 hr)⟩
theorem Kb {U T':TypeId} {t off:Nat} {ax:Operand} {v:Value} {cs cs':List AV} {es1:List aO} (A:AS P U) (hx:bA es ax = .ptr t off) (ht:Tk t es (.box T' cs) es1) (hS:Sl off [.v v] cs cs')
  (hx2:bA [(t,.box T' cs)] ax = .ptr t off)
  (hc:(uu gd ops es1&&(es1.all (dl (dG t off 1))&&(el [] (.v v)&&(Nat.beq [AV.v v].length 1&&eH (dG t off 1) cs'))))=true) (hvs:dP (.v v)=[.v v]) (k:nA P ops n l ((t,.box T' cs')::es1) l' es'):nA P ops (n+1) (⟨none,.store U ax (.const v),ty,pos,aft,gd⟩::l) es l' es' :=
 Fk (N:=[]) (F:=es1) (kD A.h).2 hx ht (.refl _) rfl hvs hS hx2 hc k
theorem Jh {U T':TypeId} {t off u:Nat} {ax:Operand} {av a0:AV} {cs vs cs':List AV} {es1 F:List aO} (A:AS P U) (hx:bA es ax = .ptr t off) (ht:Tk t es (.box T' cs) es1) (hu:Tk u es1 a0 F) (hv:bA [(u,a0)] (.tmp u)=av) (hvs:dP av=vs) (hS:Sl off vs cs cs')
  (hx2:bA ([(u,a0)]++[(t,.box T' cs)]) ax = .ptr t off)
  (hc:(uu gd ops es1&&(es1.all (dl (dG t off 1))&&(el [(u,a0)] av&&(Nat.beq vs.length 1&&eH (dG t off 1) cs'))))=true) (k:nA P ops n l ((t,.box T' cs')::es1) l' es'):nA P ops (n+1) (⟨none,.store U ax (.tmp u),ty,pos,aft,gd⟩::l) es l' es' :=
 Fk (N:=[(u,a0)]) (F:=F) (kD A.h).2 hx ht hu.perm hv hvs hS hx2 hc k
theorem JV {U T':TypeId} {t off:Nat} {ax vx:Operand} {cs vs cs':List AV} {av:AV} {es1:List aO} (A:AS P U) (hx:bA es ax = .ptr t off) (ht:Tk t es (.box T' cs) es1) (hv:bA es1 vx=av) (hvs:dP av=vs) (hS:Sl off vs cs cs')
  (hx2:bA (es1++[(t,.box T' cs)]) ax = .ptr t off)
  (hc:(uu gd ops es1&&(es1.all (dl (dG t off 1))&&(el es1 av&&(Nat.beq vs.length 1&&eH (dG t off 1) cs'))))=true) (k:nA P ops n l ((t,.box T' cs')::es1) l' es'):nA P ops (n+1) (⟨none,.store U ax vx,ty,pos,aft,gd⟩::l) es l' es' :=
 FD (kD A.h).2 hx ht hv hvs hS hx2 hc k
theorem Jt {U T':TypeId} {s t off:Nat} {ax vx:Operand} {cs vs cs':List AV} {av:AV} {es1:List aO} (A:AA P U s) (hx:bA es ax = .ptr t off) (ht:Tk t es (.box T' cs) es1) (hv:bA es1 vx=av) (hvs:dP av=vs) (hS:Sl off vs cs cs')
  (hx2:bA (es1++[(t,.box T' cs)]) ax = .ptr t off)
  (hc:(uu gd ops es1&&(es1.all (dl (dG t off s))&&(el es1 av&&(Nat.beq vs.length s&&eH (dG t off s) cs'))))=true) (k:nA P ops n l ((t,.box T' cs')::es1) l' es'):nA P ops (n+1) (⟨none,.store U ax vx,ty,pos,aft,gd⟩::l) es l' es' :=
 FD (kD A.h).2 hx ht hv hvs hS hx2 hc k
end
end Go.Abs
end
section
namespace Go.Abs
theorem aw {a b:AV} (h:a=b:=by
 first
  | exact Km rfl
  | exact Kz rfl
  | exact KF rfl
  | exact KG rfl
  | exact KD rfl
  | exact Kn rfl
  | exact rfl):a=b:=h
theorem av {a b:AV} (h:a=b:=by
 first
  | exact Km rfl
  | exact KD rfl
  | exact Kz rfl
  | exact KF rfl
  | exact KG rfl
  | exact Kn rfl
  | exact KP rfl
  | (apply KU; exact rfl; apply Mp.eq; (repeat (first | exact .n | (apply Mp.c; exact aw))))
  | exact rfl):a=b:=h
theorem JT {cs ds:List AV} (h:cs=ds):dP (.agg cs)=ds:=h
theorem vc {a:AV} {cs:List AV} (h:dP a=cs:=by
 first
  | exact JT rfl
  | exact rfl):dP a=cs:=h
section
variable {P:Program} {Q:Exit→Act→World→Prop} {g0:Gh} {rnd:Option Nat} {ops:Array Oper} {l l':List Oper} {es es' es'':List aO} {o:Oper}
theorem IK {t:Nat} {av:AV} (h:Tk t es av es':=by repeat (first | exact .h | apply Tk.t)):Tk t es av es':=h
theorem kp {ts:List Nat} (h:Kp ts es es':=by repeat (first | exact .n | (apply Kp.c; (repeat (first | exact .h | apply Tk.t))))):Kp ts es es':=h
theorem JX {ts:List Nat} {T:List aO} (h:Ts ts es T es':=by repeat (first | exact .n | (apply Ts.c; (repeat (first | exact .h | apply Tk.t))))):Ts ts es T es':=h
theorem Kk {d:Nat} {a:AV} {N:List aO} (h:bD P o N [] [(d,a)] [.slot d]:=by
 first
  | (apply JK; kernel_rfl)
  | (apply Kd; kernel_rfl)
  | (apply JQ; exact av; kernel_rfl)
  | (apply JY; exact av; kernel_rfl)
  | (apply Jv; exact rfl; exact rfl)
  | (apply JA; exact inferInstance; exact rfl; kernel_rfl)
  | (apply Jg; exact inferInstance; exact rfl; exact rfl; exact aw; kernel_rfl)
  | (apply Kh; exact rfl; exact rfl; exact rfl)
  | (apply JM; exact rfl; exact rfl)
  | (apply JS; exact rfl; exact aw; kernel_rfl)
  | (apply JH; exact inferInstance; exact rfl; exact rfl; (repeat (first | exact .n | (apply Dl.c; exact aw) | apply Dl.s)); kernel_rfl)
  | (apply JU; exact inferInstance; exact rfl)
  | (apply Jk; exact inferInstance; exact rfl; (first | exact gN _ | exact kx LenE.h _); kernel_rfl)
  | (apply Ke; exact inferInstance; exact rfl; exact ei LenI.h _; kernel_rfl)
  | (apply JF; exact rfl; kernel_rfl)
  | (apply JC; exact rfl; exact rfl; kernel_rfl)
  | (apply JN; exact inferInstance; exact rfl; kernel_rfl)
  | (apply JP; exact av; exact vc; kernel_rfl)):bD P o N [] [(d,a)] [.slot d]:=h
theorem sg {n:Nat} (h:nA P ops n l es l' es':=by
 repeat (first
  | exact sn
  | (apply Jz; exact rfl; kernel_rfl)
  | (apply KZ; exact Kk; kernel_rfl)
  | (apply JV; exact inferInstance; exact rfl; (repeat (first | exact .h | apply Tk.t)); exact av; exact vc; (repeat (first | exact .n | apply Sl.c | apply Sl.s)); exact rfl; kernel_rfl)
  | (apply Kb; exact inferInstance; exact rfl; (repeat (first | exact .h | apply Tk.t)); (repeat (first | exact .n | apply Sl.c | apply Sl.s)); exact rfl; kernel_rfl; exact rfl)
  | (apply Jh; exact inferInstance; exact rfl; (repeat (first | exact .h | apply Tk.t)); (repeat (first | exact .h | apply Tk.t)); exact av; exact vc; (repeat (first | exact .n | apply Sl.c | apply Sl.s)); exact rfl; kernel_rfl)
  | (apply Jt; exact inferInstance; exact rfl; (repeat (first | exact .h | apply Tk.t)); exact av; exact vc; (repeat (first | exact .n | apply Sl.c | apply Sl.s)); exact rfl; kernel_rfl))):nA P ops n l es l' es':=h
theorem yx {id m:Nat} {l:List Oper} (hn:g0.n=m) (n:Nat) (k:RT rnd P l.toArray Q g0 l' es') (hd:mG m l=true:=by kernel_rfl) (hs:nA P l.toArray n l es l' es':=by exact sg):HT rnd P Q g0 (.region id l.toArray false) es :=
 pm hn hd (hs.run _ _ _ k)
theorem gh {id m:Nat} {l:List Oper} {y:Code} (hn:g0.n=m) (n:Nat) (k:RT rnd P l.toArray (Exit.then (y.wpIn (FW rnd) 0 P Q) Q) g0 l' es') (hd:mG m l=true:=by kernel_rfl) (hs:nA P l.toArray n l es l' es':=by exact sg):HT rnd P Q g0 (.seq (.region id l.toArray false) y) es :=
 ag (pm hn hd (hs.run _ _ _ k))
theorem yS {d:Nat} {l0:List Oper} (a:AV) (n:Nat) (h:OL P l0 es d a) (k:RT rnd P ops Q g0 l' es') (e:l0=o::l:=by rfl) (hc:Hz o.guard ops es d=true:=by kernel_rfl) (hs:nA P ops n l ((d,a)::es) l' es':=by exact sg):RT rnd P ops Q g0 l0 es:=by
 have h2:=h.get e
 subst e
 exact Iu h2 hc (hs.run _ _ _ k)
theorem ys {d:Nat} {a:AV} {l0:List Oper} (n:Nat) (h:OL P l0 es d a) (k:RT rnd P ops Q g0 l' es') (e:l0=o::l:=by rfl) (hc:Hz o.guard ops es d=true:=by kernel_rfl) (hs:nA P ops n l ((d,a)::es) l' es':=by exact sg):RT rnd P ops Q g0 l0 es:=yS a n h k e hc hs
theorem yd {d:Nat} {b c:Bool} (hb:b=c) (n:Nat) (k:RT rnd P ops Q g0 l' es') (hs:nA P ops n l ((d,.v (.bool c))::es) l' es':=by exact sg):RT rnd P ops Q g0 l ((d,.v (.bool b))::es) :=
 Hu hb (hs.run _ _ _ k)
theorem yw (ts:List Nat) (n:Nat) {T N:List aO} (k:RT rnd P ops Q g0 l' es') (ht:Ts ts es T N:=by exact JX) (hs:nA P ops n l N l' es':=by exact sg):RT rnd P ops Q g0 l es :=
 yR ht (hs.run _ _ _ k)
def RX (rnd:Option Nat) (P:Program) (ops:Array Oper) (Q:Exit→Act→World→Prop) (g0:Gh) (T N M:List aO) (l:List Oper):Prop:=(∃ F,M.Perm (N++F))→RT rnd P ops Q g0 l (T++M)
theorem yk (ts ns:List Nat) {T M N F:List aO} (k:RX rnd P ops Q g0 T N M l) (ht:Ts ts es T M:=by exact JX) (hn:Ts ns M N F:=by exact JX):RT rnd P ops Q g0 l es:=by
 intro i g a w hl hd hg hs
 exact k ⟨F,hn.perm⟩ i g a w hl hd hg (hs.perm ht.perm)
theorem yt {l0:List Oper} (e:aO) (n:Nat) {T N M:List aO} {W:List ce} (h:OX P l0 N T [e] W) (k:RT rnd P ops Q g0 l' es') (hl:l0=o::l:=by rfl) (hc:(uu o.guard ops M&&M.all (dl W))=true:=by kernel_rfl) (hs:nA P ops n l (e::M) l' es':=by exact sg):RX rnd P ops Q g0 T N M l0:=by
 rintro ⟨F,hp⟩
 rw [Bool.and_eq_true] at hc
 have h2:=h.get hl
 subst hl
 exact nP (jE hc.1 (h2.fr hp)) (.refl _) hc.2 (hs.run _ _ _ k)
theorem pX {l0:List Oper} (e e2:aO) (n:Nat) {T N M:List aO} {W:List ce} (h:OX P l0 N T [e,e2] W) (k:RT rnd P ops Q g0 l' es') (hl:l0=o::l:=by rfl) (hc:(uu o.guard ops M&&M.all (dl W))=true:=by kernel_rfl) (hs:nA P ops n l (e::e2::M) l' es':=by exact sg):RX rnd P ops Q g0 T N M l0:=by
 rintro ⟨F,hp⟩
 rw [Bool.and_eq_true] at hc
 have h2:=h.get hl
 subst hl
 exact nP (jE hc.1 (h2.fr hp)) (.refl _) hc.2 (hs.run _ _ _ k)
inductive Ap:List aO→List aO→List aO→Prop
 | n {M:List aO}:Ap [] M M
 | c {e:aO} {G M out:List aO}:Ap G M out→Ap (e::G) M (e::out)
theorem Ap.eq {G M out:List aO} (h:Ap G M out):G++M=out:=by
 induction h with
 | n=>rfl
 | c _ ih=>rw [List.cons_append,ih]
theorem ym {t d:Nat} {av:AV} {N:List aO} {ty:TypeId} {pos:String} {aft:Array Edge} {gd:Option (Nat×Bool)} (n:Nat) (k:RT rnd P ops Q g0 l' es') (ht:Tk t es av N:=by exact IK) (hc:(uu gd ops N&&(N.all (dl [.slot d])&&fG [.slot d] av))=true:=by kernel_rfl) (hs:nA P ops n l ((d,av)::N) l' es':=by exact sg):RT rnd P ops Q g0 (⟨some d,.move (.tmp t),ty,pos,aft,gd⟩::l) es:=by
 rw [Bool.and_eq_true,Bool.and_eq_true] at hc
 exact nP (jE (o:=⟨some d,.move (.tmp t),ty,pos,aft,gd⟩) hc.1 (eG _ _ _ _ hc.2.2)) ht.perm hc.2.1 (hs.run _ _ _ k)
theorem ya {t d:Nat} {av:AV} {N:List aO} {ty:TypeId} {pos:String} {aft:Array Edge} {gd:Option (Nat×Bool)} (n:Nat) (k:RT rnd P ops Q g0 l' es') (ht:Tk t es av N:=by exact IK) (hc:(uu gd ops N&&(N.all (dl [.slot d])&&fG [.slot d] av))=true:=by kernel_rfl) (hs:nA P ops n l ((d,av)::N) l' es':=by exact sg):RT rnd P ops Q g0 (⟨some d,.assign (.tmp t),ty,pos,aft,gd⟩::l) es:=by
 rw [Bool.and_eq_true,Bool.and_eq_true] at hc
 exact nP (jE (o:=⟨some d,.assign (.tmp t),ty,pos,aft,gd⟩) hc.1 (gr _ _ _ _ hc.2.2)) ht.perm hc.2.1 (hs.run _ _ _ k)
theorem ye (ts:List Nat) (hQ:PT Q g0 .normal es') (hk:Kp ts es es':=by exact kp):RT rnd P ops Q g0 [] es:=uk hk hQ
theorem bH (ts:List Nat) {y:Code} (hQ:HT rnd P Q g0 y es') (hk:Kp ts es es':=by exact kp):RT rnd P ops (Exit.then (y.wpIn (FW rnd) 0 P Q) Q) g0 [] es:=uk hk (ai hQ)
theorem yy {id m:Nat} {l:List Oper} (hn:g0.n=m) (n:Nat) (ts:List Nat) (hQ:PT Q g0 .normal es'') (hd:mG m l=true:=by kernel_rfl) (hs:nA P l.toArray n l es [] es':=by exact sg) (hk:Kp ts es' es'':=by exact kp):HT rnd P Q g0 (.region id l.toArray false) es :=
 pm hn hd (hs.run _ _ _ (uk hk hQ))
theorem aX {id m:Nat} {l:List Oper} {y:Code} (hn:g0.n=m) (n:Nat) (ts:List Nat) (hQ:HT rnd P Q g0 y es'') (hd:mG m l=true:=by kernel_rfl) (hs:nA P l.toArray n l es [] es':=by exact sg) (hk:Kp ts es' es'':=by exact kp):HT rnd P Q g0 (.seq (.region id l.toArray false) y) es :=
 ag (pm hn hd (hs.run _ _ _ (uk hk (ai hQ))))
def bg (args:List AV) (n m:Nat):Bool:=(Nat.ble args.length n&&bY args)&&Nat.beq n m
theorem uB {args:List AV} {n m:Nat} (h:bg args n m=true):args.length≤n∧bY args=true∧n=m:=by
 rw [bg,Bool.and_eq_true,Bool.and_eq_true] at h
 exact ⟨Nat.le_of_ble_eq_true h.1.1,h.1.2,Nat.eq_of_beq_eq_true h.2⟩
theorem yO {f:FuncId} {fn:Func} {c:Code} {args:List AV} {res:AV} (m:Nat) (hf:P.funcs[f]? = some fn) (h:∀ g0:Gh,g0.n=m→g0.io=[]→HT none P (GW P fn g0.Imm g0.Im g0.w0 res) g0 c es) (hb:fn.body=some c:=by rfl) (hk:(bg args fn.ntmps m&&args.all fh)=true:=by kernel_rfl) (he:dI args=es:=by
  dsimp only [dI,jP,List.zipIdx,List.map,List.cons_append,List.nil_append,List.length_cons,List.length_nil,Nat.zero_add,Nat.reduceAdd,List.range,List.range.loop]
  first | done | rfl):cl P f args res:=by
 rw [Bool.and_eq_true] at hk
 obtain ⟨h1,h2,h3⟩:=uB hk.1
 subst h3 he
 exact Ip hf hb h1 h2 hk.2 h
theorem yG {f:FuncId} {fn:Func} {c:Code} {gl:List (Nat×List Value)} {args:List AV} {res:AV} (m:Nat) (hf:P.funcs[f]? = some fn) (h:∀ g0:Gh,g0.n=m→g0.io=[]→HT none P (GW P fn g0.Imm g0.Im g0.w0 res) g0 c es) (hb:fn.body=some c:=by rfl) (hk:(bg args fn.ntmps m&&args.all fh)=true:=by kernel_rfl) (he:dI args++[(m,.glob gl)]=es:=by
  dsimp only [dI,jP,List.zipIdx,List.map,List.cons_append,List.nil_append,List.length_cons,List.length_nil,Nat.zero_add,Nat.reduceAdd,List.range,List.range.loop]
  first | done | rfl):kF P gl f args res:=by
 rw [Bool.and_eq_true] at hk
 obtain ⟨h1,h2,h3⟩:=uB hk.1
 subst h3 he
 exact Gk hf hb h1 h2 hk.2 h
theorem yE {f:FuncId} {fn:Func} {c:Code} {args:List AV} {res:AV} (m:Nat) (hf:P.funcs[f]? = some fn) (h:∀ g0:Gh,g0.n=m→g0.ds=[]→HT none P (Dc P fn g0.io g0.Imm g0.Im g0.w0 res) g0 c es) (hb:fn.body=some c:=by rfl) (hk:(bg args fn.ntmps m&&args.all fh)=true:=by kernel_rfl) (he:dI args=es:=by
  dsimp only [dI,jP,List.zipIdx,List.map,List.cons_append,List.nil_append,List.length_cons,List.length_nil,Nat.zero_add,Nat.reduceAdd,List.range,List.range.loop]
  first | done | rfl):Gs P f args res:=by
 rw [Bool.and_eq_true] at hk
 obtain ⟨h1,h2,h3⟩:=uB hk.1
 subst h3 he
 exact FU hf hb h1 h2 hk.2 h
theorem KR {f:FuncId} {fn:Func} {c:Code} {gl:List (Nat×List Value)} {args posts:List AV} {res:AV} {Z:List Value→List aO} (m:Nat) (hf:P.funcs[f]? = some fn) (h:∀ (xs:List Value),posts.length≤xs.length→∀ g0:Gh,g0.n=m→g0.ds=[]→HT none P (BK P fn xs posts g0.io g0.Imm g0.Im g0.w0 res) g0 c (Z xs)) (hb:fn.body=some c:=by rfl) (hk:(bg args fn.ntmps m&&Nat.ble posts.length args.length)=true:=by kernel_rfl) (he:∀ xs,dI args++(jP posts.length xs++[(m,.glob gl)])=Z xs:=by
  intro xs
  dsimp only [dI,jP,List.zipIdx,List.map,List.cons_append,List.nil_append,List.length_cons,List.length_nil,Nat.zero_add,Nat.reduceAdd,List.range,List.range.loop]
  first | done | rfl):xV P gl f args posts res:=by
 rw [Bool.and_eq_true] at hk
 obtain ⟨h1,h2,h3⟩:=uB hk.1
 subst h3
 exact DR hf hb h1 h2 (Nat.le_of_ble_eq_true hk.2) fun xs hx g0 hn hd=>by rw [he]; exact h xs hx g0 hn hd
theorem yI {f:FuncId} {fn:Func} {c:Code} {gl:List (Nat×List Value)} {l:Nat} {caps:List AV} {J J':kL} (m:Nat) (hf:P.funcs[f]? = some fn) (h:∀ g0:Gh,g0.n=m→g0.ds=[]→HT none P (Bi P fn g0.io g0.Imm g0.Im g0.w0 J') g0 c es) (hb:fn.body=some c:=by rfl) (hk:(Nat.ble (caps.length+1) fn.ntmps&&(bY caps&&Nat.beq fn.ntmps m))=true:=by kernel_rfl) (he:dI (.v (.func (.yield l) #[] #[])::caps)++[(m,.glob gl),(m+1,.inv J)]=es:=by
  dsimp only [dI,jP,List.zipIdx,List.map,List.cons_append,List.nil_append,List.length_cons,List.length_nil,Nat.zero_add,Nat.reduceAdd,List.range,List.range.loop]
  first | done | rfl):Ia P gl f l caps J J':=by
 rw [Bool.and_eq_true,Bool.and_eq_true] at hk
 have h3:=Nat.eq_of_beq_eq_true hk.2.2
 subst h3 he
 exact Gi hf hb (Nat.le_of_ble_eq_true hk.1) hk.2.1 h
end
end Go.Abs
end
section
set_option linter.unusedVariables false
namespace Go.Abs
class SZ (P:Program) (t:TypeId) (s:outParam Nat):Prop where h:(P.info? t).map (·.size)=some s
theorem Jn {c:ce} {t:Nat} (h:c = .slot t):c = .slot t:=h
theorem JR {c:ce} {t k:Nat} (h:c = .cell t k):c = .cell t k:=h
theorem lc {a b:ce} (h:a=b:=by
 first
  | exact Jn rfl
  | exact JR rfl):a=b:=h
inductive FZ:Nat→List AV→List AV→Prop
 | h {a:AV} {cs:List AV}:FZ 0 (a::cs) (.any::cs)
 | t {i:Nat} {a:AV} {cs ds:List AV}:FZ i cs ds→FZ (i+1) (a::cs) (a::ds)
theorem FZ.eq {i:Nat} {cs ds:List AV} (h:FZ i cs ds):cs.set i .any=ds∧i<cs.length:=by
 induction h with
 | h=>simp
 | t _ ih=>simp only [List.set_cons_succ,ih.1,List.length_cons,true_and]; omega
section
variable {P:Program} {Q:Exit→Act→World→Prop} {g0:Gh} {rnd:Option Nat} {ops:Array Oper} {l l':List Oper} {es es' es1:List aO}
variable {ty:TypeId} {pos:String} {aft:Array Edge} {gd:Option (Nat×Bool)} {d:Nat}
theorem lb {op:BinOp} {t t':TypeId} {x y:Operand} {kk:IntKind} {a b:Value} {X v:Int} (hv:some X=some v) (hx:rd es x = .v a:=by exact rfl) (hy:rd es y = .v b:=by exact rfl) (h:lT op a b=some (.int kk X):=by exact rfl):bD P ⟨some d,.binOp op t x y t',ty,pos,aft,gd⟩ es [] [(d,.v (.int kk v))] [.slot d] :=
 sJ _ _ a b _ hx hy (by rw [h,Option.some.inj hv])
theorem lB {op:BinOp} {t t':TypeId} {x y:Operand} {a b r:Value} (h:lT op a b=some r) (hx:rd es x = .v a:=by exact rfl) (hy:rd es y = .v b:=by exact rfl):bD P ⟨some d,.binOp op t x y t',ty,pos,aft,gd⟩ es [] [(d,.v r)] [.slot d]:=sJ _ _ a b _ hx hy h
theorem lv {s t:TypeId} {x:Operand} {e:TypeDesc} {kk k':IntKind} {m v:Int} (hv:some (kk.wrap m)=some v) (h1:P.underlying s=some e:=by exact UD.h) (h2:P.underlying t=some (.int kk):=by exact UD.h) (hx:rd es x = .v (.int k' m):=by exact rfl):bD P ⟨some d,.convert s t x,ty,pos,aft,gd⟩ es [] [(d,.v (.int kk v))] [.slot d]:=by
 have:=Option.some.inj hv
 subst this
 exact EO _ _ m h1 h2 hx
theorem lS {s t e:TypeId} {x:Operand} {m:Md} {a:List Int} {v:Ll} (hv:some (aL a)=some v) (h1:P.underlying s=some (.slice e):=by exact UD.h) (h2:P.underlying t=some .string:=by exact UD.h) (h3:P.underlying e=some (.int .u8):=by exact UD.h) (hx:rd es x = .fl m 1 (a.map (Value.int .u8)):=by exact rfl):bD P ⟨some d,.convert s t x,ty,pos,aft,gd⟩ es [] [(d,.v (.string v))] [.slot d]:=by
 have:=Option.some.inj hv
 subst this
 exact uD _ _ x a h1 h2 h3 hx
theorem lU {s t e:TypeId} {x:Operand} {a:Ll} {v:List Int} {u:TypeDesc} (hv:some (ao a)=some v) (h1:P.underlying s=some u:=by exact UD.h) (h2:P.underlying t=some (.slice e):=by exact UD.h) (h3:P.underlying e=some (.int .u8):=by exact UD.h) (hx:rd es x = .v (.string a):=by exact rfl):bD P ⟨some d,.convert s t x,ty,pos,aft,gd⟩ es [] [(d,.mkr e (v.map (Value.int .u8)))] [.slot d]:=by
 have:=Option.some.inj hv
 subst this
 exact zV _ _ x a h1 h2 h3 hx
theorem lh {t:TypeId} {x y:Operand} {kk:IntKind} {s:Ll} {i q:Int} (hv:dh s i=some q) (h1:P.underlying t=some .string:=by exact UD.h) (hx:rd es x = .v (.string s):=by exact rfl) (hy:rd es y = .v (.int kk i):=by exact rfl):bD P ⟨some d,.index t x y,ty,pos,aft,gd⟩ es [] [(d,.v (.int .u8 q))] [.slot d]:=Hg _ _ s i q h1 hx hy hv
def ca (res:AV):Bool:=bG res&&iS res
theorem lk {f:FuncId} {cal:Operand} {args:Array Operand} {ats:Array TypeId} {avs:List AV} {res:AV} (hrun:∀ args w,(callFunc f args).run P w = .ok (.enter f args) w) (hf:cl P f avs res) (hcal:rd es cal = .v (.func (.func f) #[] #[]):=by exact rfl)
  (hav:args.toList.map (pU es)=avs:=by exact rfl) (hc:ca res=true:=by kernel_rfl):bD P ⟨some d,.call ⟨.value cal,args,ats⟩,ty,pos,aft,gd⟩ es [] [(d,res)] [.slot d]:=by
 rw [ca,Bool.and_eq_true] at hc
 exact DZ _ _ f avs res hcal hrun hav hf hc.1 hc.2
theorem lr {f:FuncId} {cal:Operand} {args:Array Operand} {ats:Array TypeId} {avs:List AV} {res:AV} (hrun:∀ args w,(callFunc f args).run P w = .ok (.enter f args) w) (hf:cl P f avs res) (hcal:rd es cal = .v (.func (.func f) #[] #[]):=by exact rfl)
  (hav:args.toList.map (zS es)=avs:=by exact rfl) (hc:ca res=true:=by kernel_rfl):bD P ⟨some d,.call ⟨.value cal,args,ats⟩,ty,pos,aft,gd⟩ es [] [(d,res)] [.slot d]:=by
 rw [ca,Bool.and_eq_true] at hc
 exact BJ _ _ f avs res hcal hrun hav hf hc.1 hc.2
theorem lg {f:Nat} {gl:List (Nat×List Value)} {cal:Operand} {args:Array Operand} {ats:Array TypeId} {avs:List AV} {res:AV} (hrun:∀ args w,(callFunc f args).run P w = .ok (.enter f args) w) (hf:kF P gl f avs res) (m:Nat) (hcal:rd es cal = .v (.func (.func f) #[] #[]):=by exact rfl)
  (hav:args.toList.map (pU es)=avs:=by exact rfl) (hgl:look es m = .glob gl:=by exact rfl) (hc:ca res=true:=by kernel_rfl):bD P ⟨some d,.call ⟨.value cal,args,ats⟩,ty,pos,aft,gd⟩ es [] [(d,res)] [.slot d]:=by
 rw [ca,Bool.and_eq_true] at hc
 exact Dp _ _ m f avs res hcal hrun hav hgl (fun _ h=>h) hf hc.1 hc.2
theorem li {A:Type} {T e:TypeId} {x i:Nat} {y:Operand} {kd:IntKind} {m:Md} {f:A→Value} {L:List A} {nn:Int} {c:ce} (hv:cj nn L.length=some i) (h1:P.underlying T=some (.slice e):=by exact UD.h) (h2:(P.info? e).map (·.size)=some 1:=by exact SZ.h) (hx:rd es (.tmp x) = .fl m 1 (L.map f):=by exact rfl)
  (hl:nT es (.tmp x)=c:=by exact lc) (hy:rd es y = .v (.int kd nn):=by exact rfl) (hc:iL [.slot d] c=false:=by kernel_rfl):bD P ⟨some d,.indexAddr T (.tmp x) y,ty,pos,aft,gd⟩ es [] [(d,.eref c (i * 1))] [.slot d] :=
 FG _ _ x y nn i 1 c h1 h2 (by decide) hx hl hy (ez hv).1 (xy (ez hv).2) hc
theorem lj {A:Type} {z:Nat} {T e:TypeId} {x i:Nat} {y:Operand} {kd:IntKind} {m:Md} {enc:A→List Value} {L:List A} {nn:Int} {c:ce} (hv:cj nn L.length=some i) (h1:P.underlying T=some (.slice e):=by exact UD.h) (h2:(P.info? e).map (·.size)=some z:=by exact SZ.h) (hx:rd es (.tmp x) = .fl m z ((L.map enc).flatten):=by exact rfl)
  (hE:∀ x,(enc x).length=z:=by exact LenE.h) (hl:nT es (.tmp x)=c:=by exact lc) (hy:rd es y = .v (.int kd nn):=by exact rfl) (hc:(Nat.blt 0 z && !iL [.slot d] c)=true:=by kernel_rfl):bD P ⟨some d,.indexAddr T (.tmp x) y,ty,pos,aft,gd⟩ es [] [(d,.eref c (i * z))] [.slot d]:=by
 rw [Bool.and_eq_true,Bool.not_eq_true'] at hc
 exact FG _ _ x y nn i z c h1 h2 (nI.1 hc.1) hx hl hy (ez hv).1 (EQ hE (ez hv).2) hc.2
theorem lI {A:Type} {z:Nat} {s:Bool} {T e:TypeId} {x i:Nat} {y:Operand} {kd:IntKind} {m:Md} {enc:A→List IC} {L:List A} {nn:Int} {c:ce} (hv:cj nn L.length=some i) (h1:P.underlying T=some (.slice e):=by exact UD.h) (h2:(P.info? e).map (·.size)=some z:=by exact SZ.h) (hx:rd es (.tmp x) = .fr m s z ((L.map enc).flatten):=by exact rfl)
  (hE:∀ x,(enc x).length=z:=by exact LenI.h) (hl:nT es (.tmp x)=c:=by exact lc) (hy:rd es y = .v (.int kd nn):=by exact rfl) (hc:(Nat.blt 0 z && !iL [.slot d] c)=true:=by kernel_rfl):bD P ⟨some d,.indexAddr T (.tmp x) y,ty,pos,aft,gd⟩ es [] [(d,.eref c (i * z))] [.slot d]:=by
 rw [Bool.and_eq_true,Bool.not_eq_true'] at hc
 exact Ch _ _ x y nn i z c h1 h2 (nI.1 hc.1) hx hl hy (ez hv).1 (CK hE (ez hv).2) hc.2
theorem ll {A:Type} {U:TypeId} {x:Operand} {i:Nat} {m:Md} {f:A→Value} {L:List A} {v:A} {c:ce} (hv:aN L i=some v) (h1:AS P U:=by infer_instance) (hx:bA es x = .eref c (i * 1):=by exact rfl) (hl:py es c = .fl m 1 (L.map f):=by exact rfl):bD P ⟨some d,.load U x,ty,pos,aft,gd⟩ es [] [(d,.v (f v))] [.slot d]:=by
 obtain ⟨⟨td,u1,u2⟩,_⟩:=kD h1.h
 exact tz _ _ x c (i * 1) (f v) u1 u2 hx hl (zo hv)
theorem lL {A:Type} {z j:Nat} {U:TypeId} {x:Operand} {i:Nat} {m:Md} {enc:A→List Value} {L:List A} {v:A} {r:Value} {c:ce} (hv:aN L i=some v) (h1:AS P U:=by infer_instance) (hx:bA es x = .eref c (i * z+j):=by exact rfl) (hl:py es c = .fl m z ((L.map enc).flatten):=by exact rfl) (hE:∀ x,(enc x).length=z:=by exact LenE.h)
  (hr:(enc v)[j]? = some r:=by exact rfl):bD P ⟨some d,.load U x,ty,pos,aft,gd⟩ es [] [(d,.v r)] [.slot d]:=by
 obtain ⟨⟨td,u1,u2⟩,_⟩:=kD h1.h
 exact tz _ _ x c _ r u1 u2 hx hl (zZ hE hv hr)
theorem yp {A:Type} {T e t':TypeId} {by_ t:Nat} {x y:Operand} {my:Md} {f:A→Value} {L M q:List A} (hE:ga P T e 1 by_) (hv:co by_ L M=some q) (n:Nat) (k:RT rnd P ops Q g0 l' es') (hx:bA es x = .same (.slot t):=by exact rfl) (ht:Tk t es (.fl (.own e) 1 (L.map f)) es1:=by exact IK)
  (hx2:bA (es1++[(t,.fl (.own e) 1 (L.map f))]) x = .same (.slot t):=by exact rfl) (hy:rd es1 y = .fl my 1 (M.map f):=by exact rfl) (hc:(uu gd ops es1&&es1.all (dl [.slot d]))=true:=by kernel_rfl) (hs:nA P ops n l ((d,.fl (.own e) 1 (q.map f))::es1) l' es':=by exact sg) :
  RT rnd P ops Q g0 (⟨some d,.call ⟨.builtin .append,#[x,y],#[T,T]⟩,t',pos,aft,gd⟩::l) es:=by
 rw [Bool.and_eq_true] at hc
 refine nP (o:=⟨some d,.call ⟨.builtin .append,#[x,y],#[T,T]⟩,t',pos,aft,gd⟩) (jE hc.1 (Do es1 d t x y hE hx2 hy (gN _) (gN _) hv ((List.map_append).symm.trans (congrArg (List.map _) (jb hv))))) ht.perm hc.2 ?_
 exact yR (.c .h .n) (hs.run _ _ _ k)
theorem zC {t i:Nat} {cs ds:List AV} {av:AV} (n:Nat) (k:RT rnd P ops Q g0 l' es') (ht:Tk t es (.tup cs) es1:=by exact IK) (hi:cs.getD i .any=av:=by exact rfl) (hcs:FZ i cs ds:=by repeat (first | exact .h | apply FZ.t)) (hc:((uu gd ops es1&&es1.all (dl [.slot d]))&&((fG [.slot d] av&&eH [.slot d] ds)&&(!Nat.beq d t&&fh av)))=true:=by kernel_rfl)
  (hs:nA P ops n l ((d,av)::(t,.tup ds)::es1) l' es':=by exact sg):RT rnd P ops Q g0 (⟨some d,.extract (.tmp t) i,ty,pos,aft,gd⟩::l) es:=by
 rw [Bool.and_eq_true,Bool.and_eq_true,Bool.and_eq_true,Bool.and_eq_true,Bool.and_eq_true,Bool.not_eq_true'] at hc
 obtain ⟨⟨c1,c2⟩,⟨c3,c4⟩,c5,c6⟩:=hc
 obtain ⟨e1,e2⟩:=hcs.eq
 subst e1
 refine nP (o:=⟨some d,.extract (.tmp t) i,ty,pos,aft,gd⟩) (jE c1 (qK es1 t d cs av hi e2 c3 c4 (Nat.ne_of_beq_eq_false c5) c6)) ht.perm c2 ?_
 intro j g a w hl hd hg hs'
 exact hs.run _ _ _ k j g a w hl hd hg (hs'.perm (.swap _ _ _))
end
end Go.Abs
end
section
set_option linter.unusedVariables false
namespace Go.Abs
abbrev TE:=Nat×aO
inductive Fv (t:Nat):List TE→Nat→AV→Prop
 | h {i:Nat} {av:AV} {r:List TE}:Fv t ((i,(t,av))::r) i av
 | t {i:Nat} {av:AV} {e:TE} {r:List TE}:Fv t r i av→Fv t (e::r) i av
inductive Nv:List Nat→List TE→List Nat→List aO→Prop
 | n {vw:List TE}:Nv [] vw [] []
 | c {t i:Nat} {av:AV} {ts I:List Nat} {vw:List TE} {N:List aO}:Fv t vw i av→Nv ts vw I N→Nv (t::ts) vw (i::I) ((t,av)::N)
inductive Rv (t:Nat):List TE→Nat→AV→List TE→Prop
 | h {i:Nat} {av:AV} {r:List TE}:Rv t ((i,(t,av))::r) i av r
 | t {i:Nat} {av:AV} {e:TE} {r r':List TE}:Rv t r i av r'→Rv t (e::r) i av (e::r')
inductive Tv:List Nat→List TE→List Nat→List aO→List TE→Prop
 | n {vw:List TE}:Tv [] vw [] [] vw
 | c {t i:Nat} {av:AV} {ts I:List Nat} {vw vw1 vw2:List TE} {N:List aO}:Rv t vw i av vw1→Tv ts vw1 I N vw2→Tv (t::ts) vw (i::I) ((t,av)::N) vw2
inductive Vw:Nat→List aO→List TE→Nat→Prop
 | n {k:Nat}:Vw k [] [] k
 | c {k k1 m:Nat} {e:aO} {es:List aO} {vw:List TE}:k+1=k1→Vw k1 es vw m→Vw k (e::es) ((k,e)::vw) m
inductive Rr {A:Type}:List A→List A→List A→Prop
 | n {acc:List A}:Rr [] acc acc
 | c {x:A} {l acc out:List A}:Rr l (x::acc) out→Rr (x::l) acc out
theorem Rr.eq {A:Type} {l acc out:List A} (h:Rr l acc out):l.reverse++acc=out:=by
 induction h with
 | n=>rfl
 | c _ ih=>rw [List.reverse_cons,List.append_assoc]; exact ih
def Fh (El:List aO) (vw:List TE):Prop:=∀ p∈vw,El[p.1]? = some p.2
theorem Fv.mem {t i:Nat} {av:AV} {vw:List TE} (h:Fv t vw i av):(i,(t,av))∈vw:=by
 induction h with
 | h=>exact .head _
 | t _ ih=>exact .tail _ ih
theorem Rv.mem {t i:Nat} {av:AV} {vw vw1:List TE} (h:Rv t vw i av vw1):(i,(t,av))∈vw∧∀ p∈vw1,p∈vw:=by
 induction h with
 | h=>exact ⟨.head _,fun p hp => .tail _ hp⟩
 | t _ ih =>
  refine ⟨.tail _ ih.1,fun p hp => ?_⟩
  cases hp with
  | head=>exact .head _
  | tail _ hp=>exact .tail _ (ih.2 p hp)
theorem uF {El ext:List aO} {i:Nat} {e:aO} (h:El[i]? = some e):jX (El++ext) i=e:=by
 have hi:=(List.getElem?_eq_some_iff.1 h).1
 rw [jX,List.getD_eq_getElem?_getD,List.getElem?_append_left hi,h]; rfl
theorem Nv.tags {ts I:List Nat} {vw:List TE} {N:List aO} (h:Nv ts vw I N) {El:List aO} (hv:Fh El vw) (ext:List aO):I.map (jX (El++ext))=N:=by
 induction h with
 | n=>rfl
 | c h1 _ ih=>rw [List.map_cons,ih hv,uF (hv _ h1.mem)]
theorem Tv.tags {ts I:List Nat} {vw vw1:List TE} {N:List aO} (h:Tv ts vw I N vw1) {El:List aO} (hv:Fh El vw) (ext:List aO):I.map (jX (El++ext))=N∧∀ p∈vw1,p∈vw:=by
 induction h with
 | n=>exact ⟨rfl,fun p hp=>hp⟩
 | c h1 _ ih =>
  have:=ih (fun p hp=>hv p (h1.mem.2 p hp))
  exact ⟨by rw [List.map_cons,this.1,uF (hv _ h1.mem.1)],fun p hp=>h1.mem.2 p (this.2 p hp)⟩
theorem Vw.ok {k m:Nat} {es:List aO} {vw:List TE} (h:Vw k es vw m):(∀ p∈vw,k≤p.1∧es[p.1-k]? = some p.2)∧m=k+es.length:=by
 induction h with
 | n=>exact ⟨fun p hp=>(by cases hp),rfl⟩
 | c h0 _ ih =>
  subst h0
  rename_i k m e es vw _
  refine ⟨fun p hp => ?_,by rw [ih.2,List.length_cons]; omega⟩
  cases hp with
  | head=>simp
  | tail _ hp =>
   have:=ih.1 p hp
   refine ⟨by omega,?_⟩
   rw [show p.1-k=p.1-(k+1)+1 by omega,List.getElem?_cons_succ]
   exact this.2
theorem Vw.snd {k m:Nat} {es:List aO} {vw:List TE} (h:Vw k es vw m):vw.map (fun p=>p.2)=es:=by
 induction h with
 | n=>rfl
 | c _ _ ih=>rw [List.map_cons,ih]
section
variable {P:Program} {Q:Exit→Act→World→Prop} {g0:Gh} {rnd:Option Nat}
theorem qB {ops:Array Oper} {E:Nat→aO} {o:Oper} {s:Sp}:∀ {done:List Oper} {sps:List Sp},oz P ops E done sps→vD P ops o (s.N.map E) (s.T.map E) (s.G.map E) s.W→oz P ops E (done++[o]) (sps++[s])
 | [],[],_,h2=>⟨h2,trivial⟩
 | [],_::_,h,_=>h.elim
 | _::_,[],h,_=>h.elim
 | _::_,_::_,h,h2=>⟨h.1,qB h.2 h2⟩
def WT (rnd:Option Nat) (P:Program) (Q:Exit→Act→World→Prop) (g0:Gh) (id:Nat) (es:List aO) (L:List Oper) (Or:List aO) (Sr:List Sp) (l:List Oper) (vw:List TE) (nx:Nat):Prop :=
 (∃ done,L=done++l∧∀ ext,oz P L.toArray (jX ((es++Or.reverse)++ext)) done Sr.reverse)→Fh (es++Or.reverse) vw→nx=es.length+Or.length→HT rnd P Q g0 (.region id L.toArray true) es
variable {id nx m:Nat} {ts ns:List Nat} {es Or:List aO} {L l l':List Oper} {Sr:List Sp} {vw:List TE}
theorem Fh.app {El:List aO} (h:Fh El vw) (ext:List aO):Fh (El++ext) vw:=fun p hp=>by
 have:=h p hp
 rw [List.getElem?_append_left (List.getElem?_eq_some_iff.1 this).1]; exact this
theorem Hs {o:Oper} {N T G:List aO} {W:List ce} {ts ns IT IN:List Nat} {vw1 gt:List TE} (hT:Tv ts vw IT T vw1) (hN:Nv ns vw IN N) (hG:Vw nx G gt m) (h:vD P L.toArray o N T G W) (k:WT rnd P Q g0 id es L (G.reverse++Or) (⟨IN,IT,gt.map (·.1),W⟩::Sr) l (gt++vw1) m):WT rnd P Q g0 id es L Or Sr (o::l) vw nx:=by
 rintro ⟨done,hL,hst⟩ hv hnx
 have hEl:es++(G.reverse++Or).reverse=(es++Or.reverse)++G:=by rw [List.reverse_append,List.reverse_reverse,List.append_assoc]
 have hg:=hG.ok
 have hgt:=hG.snd
 have hvG:Fh ((es++Or.reverse)++G) gt:=fun p hp=>by
  have:=hg.1 p hp
  rw [List.getElem?_append_right (by rw [List.length_append,List.length_reverse]; omega),List.length_append,List.length_reverse,← hnx]
  exact this.2
 refine k ⟨done++[o],by rw [hL,List.append_assoc]; rfl,fun ext => ?_⟩ ?_ ?_
 ·rw [List.reverse_cons]
  refine qB ?_ ?_
  ·rw [hEl]
   have:=hst (G++ext)
   rw [← List.append_assoc] at this
   exact this
  ·rw [hEl]
   have e1:IN.map (jX (((es++Or.reverse)++G)++ext))=N:=by
    have:=hN.tags hv (G++ext)
    rw [← List.append_assoc] at this; exact this
   have e2:IT.map (jX (((es++Or.reverse)++G)++ext))=T:=by
    have:=(hT.tags hv (G++ext)).1
    rw [← List.append_assoc] at this; exact this
   have e3:(gt.map (·.1)).map (jX (((es++Or.reverse)++G)++ext))=G:=by
    rw [List.map_map]
    conv=>rhs; rw [← hgt]
    exact List.map_congr_left fun p hp=>uF (hvG p hp)
   show vD P L.toArray o (IN.map _) (IT.map _) ((gt.map (·.1)).map _) W
   rw [e1,e2,e3]; exact h
 ·rw [hEl]
  intro p hp
  rcases List.mem_append.1 hp with hp | hp
  ·exact hvG p hp
  ·exact hv.app G p ((hT.tags hv []).2 p hp)
 ·rw [hg.2,hnx,List.length_append,List.length_reverse]; omega
theorem Ju {o:Oper} {N:List aO} {d:Nat} {av:AV} {W:List ce} {ns IN:List Nat} (hN:Nv ns vw IN N) (h:vD P L.toArray o N [] [(d,av)] W) (k:WT rnd P Q g0 id es L ((d,av)::Or) (⟨IN,[],[nx],W⟩::Sr) l ((nx,(d,av))::vw) (nx+1)):WT rnd P Q g0 id es L Or Sr (o::l) vw nx :=
 Hs .n hN (.c rfl .n) h k
theorem EH {y:Nat} (hv:Vw 0 es vw nx) (k:WT rnd P Q g0 id es L [] [] L vw nx):HT rnd P Q g0 (.region id L.toArray true) es:=by
 obtain ⟨h1,h2⟩:=hv.ok
 refine k ⟨[],rfl,fun ext=>trivial⟩ (fun p hp => ?_) (by rw [h2]; simp)
 have:=(h1 p hp).2
 simpa using this
inductive Kv:List Nat→List TE→List Nat→List aO→Prop
 | n {vw:List TE}:Kv [] vw [] []
 | c {t i:Nat} {av:AV} {ts I:List Nat} {vw vw1:List TE} {N:List aO}:Rv t vw i av vw1→Kv ts vw1 I N→Kv (t::ts) vw (i::I) ((t,av)::N)
theorem Kv.tags {ts I:List Nat} {vw:List TE} {N:List aO} (h:Kv ts vw I N) {El:List aO} (hv:Fh El vw):I.map (jX El)=N:=by
 induction h with
 | n=>rfl
 | c h1 _ ih =>
  have:=uF (ext:=[]) (hv _ h1.mem.1)
  rw [List.append_nil] at this
  rw [List.map_cons,ih (fun p hp=>hv p (h1.mem.2 p hp)),this]
theorem Fm {n:Nat} {ts fin:List Nat} {outs es':List aO} {sps:List Sp} (hm:P.follows .mixedOrders=true) (hn:g0.n=n) (hk:Kv ts vw fin es') (hO:Rr Or [] outs) (hS:Rr Sr [] sps) (hQ:PT Q g0 .normal es') (hc:uc n L (es++outs) (List.range es.length) sps fin=true):WT rnd P Q g0 id es L Or Sr [] vw nx:=by
 rintro ⟨done,hL,hst⟩ hv hnx
 rw [List.append_nil] at hL
 subst hL
 have e1:=hO.eq
 have e2:=hS.eq
 rw [List.append_nil] at e1 e2
 subst e1 e2
 have h0:=hst []
 rw [List.append_nil] at h0
 refine DC hm hn hc ?_ (hk.tags hv) h0 hQ
 apply List.ext_getElem?
 intro i
 simp only [List.getElem?_map]
 by_cases h:i<es.length
 ·rw [List.getElem?_range h]
  simp only [Option.map_some,jX,List.getD_eq_getElem?_getD]
  rw [List.getElem?_append_left h,List.getElem?_eq_getElem h]
  rfl
 ·rw [List.getElem?_eq_none (by simpa using Nat.le_of_not_lt h),List.getElem?_eq_none (Nat.le_of_not_lt h)]; rfl
structure WS (P:Program) (L:List Oper) (hs:List (List Nat)) (Or:List aO) (Sr:List Sp) (l:List Oper) (vw:List TE) (nx:Nat) (Or':List aO) (Sr':List Sp) (l':List Oper) (vw':List TE) (nx':Nat):Prop where
 run:∀ (rnd:Option Nat) (Q:Exit→Act→World→Prop) (g0:Gh) (id:Nat) (es:List aO),WT rnd P Q g0 id es L Or' Sr' l' vw' nx'→WT rnd P Q g0 id es L Or Sr l vw nx
variable {hs:List (List Nat)} {Or':List aO} {Sr':List Sp} {vw':List TE} {nx':Nat}
theorem wn:WS P L [] Or Sr l vw nx Or Sr l vw nx:=⟨fun _ _ _ _ _ h=>h⟩
theorem Hk {a b:Nat} (h:a=b:=by simp only [Nat.reduceAdd]; rfl):a=b:=h
theorem JJ {i:Op} {q:Nat×Bool} {ty:TypeId} {pos:String} {aft:Array Edge} {d:Nat} {N:List aO} {ns IN:List Nat} (hN:Nv ns vw IN N) {n1:Nat} (hg:yP (some q) L.toArray N=true) (h1:nx+1=n1) (k:WS P L hs ((d,.v undef)::Or) (⟨IN,[],[nx],[.slot d]⟩::Sr) l ((nx,(d,.v undef))::vw) n1 Or' Sr' l' vw' nx') :
  WS P L (ns::hs) Or Sr (⟨some d,i,ty,pos,aft,some q⟩::l) vw nx Or' Sr' l' vw' nx' :=
 ⟨fun rnd Q g0 id es h=>Ju hN (vS (o:=⟨some d,i,ty,pos,aft,some q⟩) hg rfl) (h1 ▸ k.run rnd Q g0 id es h)⟩
theorem KO {o:Oper} {d:Nat} {av:AV} {N:List aO} {ns IN:List Nat} (hN:Nv ns vw IN N) (h:bD P o N [] [(d,av)] [.slot d]) {n1:Nat} (hg:uu o.guard L.toArray N=true) (h1:nx+1=n1) (k:WS P L hs ((d,av)::Or) (⟨IN,[],[nx],[.slot d]⟩::Sr) l ((nx,(d,av))::vw) n1 Or' Sr' l' vw' nx') :
  WS P L (ns::hs) Or Sr (o::l) vw nx Or' Sr' l' vw' nx' :=
 ⟨fun rnd Q g0 id es hh=>Ju hN (jE hg h) (h1 ▸ k.run rnd Q g0 id es hh)⟩
theorem ws (h:WS P L hs Or Sr l vw nx Or' Sr' l' vw' nx':=by
 repeat (first
  | exact wn
  | (apply JJ; (repeat (first | exact .n | (apply Nv.c; (repeat (first | exact .h | apply Fv.t))))); exact rfl; exact Hk)
  | (apply KO; (repeat (first | exact .n | (apply Nv.c; (repeat (first | exact .h | apply Fv.t))))); exact Kk; kernel_rfl; exact Hk))):WS P L hs Or Sr l vw nx Or' Sr' l' vw' nx':=h
theorem nv {ns IN:List Nat} {N:List aO} (h:Nv ns vw IN N:=by repeat (first | exact .n | (apply Nv.c; (repeat (first | exact .h | apply Fv.t))))):Nv ns vw IN N:=h
theorem wb (hs:List (List Nat)) (k:WT rnd P Q g0 id es L Or' Sr' l' vw' nx') (hv:Vw 0 es vw nx:=by repeat (first | exact .n | (apply Vw.c; exact Hk))) (h:WS P L hs [] [] L vw nx Or' Sr' l' vw' nx':=by exact ws):HT rnd P Q g0 (.region id L.toArray true) es :=
 EH (y:=0) hv (h.run _ _ _ _ _ k)
def WX (rnd:Option Nat) (P:Program) (Q:Exit→Act→World→Prop) (g0:Gh) (id:Nat) (es:List aO) (L:List Oper) (Or:List aO) (Sr:List Sp) (l:List Oper) (vw:List TE) (nx:Nat) (IN:List Nat) (N:List aO):Prop:=(∃ ns,Nv ns vw IN N)→WT rnd P Q g0 id es L Or Sr l vw nx
def WY (rnd:Option Nat) (P:Program) (Q:Exit→Act→World→Prop) (g0:Gh) (id:Nat) (es:List aO) (L:List Oper) (Or:List aO) (Sr:List Sp) (l:List Oper) (vw vw1:List TE) (nx:Nat) (IT:List Nat) (T:List aO) (IN:List Nat) (N:List aO):Prop:=(∃ ns,Nv ns vw IN N)→(∃ ts,Tv ts vw IT T vw1)→WT rnd P Q g0 id es L Or Sr l vw nx
theorem wN {IN:List Nat} {N:List aO} (ns:List Nat) (k:WX rnd P Q g0 id es L Or Sr l vw nx IN N) (hN:Nv ns vw IN N:=by exact nv):WT rnd P Q g0 id es L Or Sr l vw nx:=k ⟨ns,hN⟩
theorem wK {IN IT:List Nat} {N T:List aO} {vw1:List TE} (ts ns:List Nat) (k:WY rnd P Q g0 id es L Or Sr l vw vw1 nx IT T IN N) (hT:Tv ts vw IT T vw1:=by repeat (first | exact .n | (apply Tv.c; (repeat (first | exact .h | apply Rv.t))))) (hN:Nv ns vw IN N:=by exact nv):WT rnd P Q g0 id es L Or Sr l vw nx:=k ⟨ns,hN⟩ ⟨ts,hT⟩
theorem wS {d:Nat} {l0:List Oper} {o:Oper} {N:List aO} {IN:List Nat} {n1:Nat} (a:AV) (hs:List (List Nat)) (h:OL P l0 N d a) (k:WT rnd P Q g0 id es L Or' Sr' l' vw' nx') (e:l0=o::l:=by rfl) (hg:uu o.guard L.toArray N=true:=by kernel_rfl) (h1:nx+1=n1:=by exact Hk)
  (h2:WS P L hs ((d,a)::Or) (⟨IN,[],[nx],[.slot d]⟩::Sr) l ((nx,(d,a))::vw) n1 Or' Sr' l' vw' nx':=by exact ws):WX rnd P Q g0 id es L Or Sr l0 vw nx IN N:=by
 rintro ⟨ns,hN⟩
 have h3:=h.get e
 subst e h1
 exact Ju hN (jE hg h3) (h2.run _ _ _ _ _ k)
theorem wo {d:Nat} {a:AV} {l0:List Oper} {o:Oper} {N:List aO} {IN:List Nat} {n1:Nat} (hs:List (List Nat)) (h:OL P l0 N d a) (k:WT rnd P Q g0 id es L Or' Sr' l' vw' nx') (e:l0=o::l:=by rfl) (hg:uu o.guard L.toArray N=true:=by kernel_rfl) (h1:nx+1=n1:=by exact Hk)
 (h2:WS P L hs ((d,a)::Or) (⟨IN,[],[nx],[.slot d]⟩::Sr) l ((nx,(d,a))::vw) n1 Or' Sr' l' vw' nx':=by exact ws):WX rnd P Q g0 id es L Or Sr l0 vw nx IN N:=wS a hs h k e hg h1 h2
theorem wt {l0:List Oper} {o:Oper} {N T:List aO} {W:List ce} {IN IT:List Nat} {vw1 gt vw2:List TE} {m:Nat} {Or1:List aO} {gi:List Nat} (G:List aO) (hs:List (List Nat)) (h:OX P l0 N T G W) (k:WT rnd P Q g0 id es L Or' Sr' l' vw' nx') (e:l0=o::l:=by rfl) (hg:uu o.guard L.toArray N=true:=by kernel_rfl)
  (hG:Vw nx G gt m:=by repeat (first | exact .n | (apply Vw.c; exact Hk))) (e1:Rr G Or Or1:=by repeat (first | exact .n | apply Rr.c)) (e2:gt.map (·.1)=gi:=by rfl) (e3:gt++vw1=vw2:=by dsimp only [List.cons_append,List.nil_append]; first | done | rfl)
  (h2:WS P L hs Or1 (⟨IN,IT,gi,W⟩::Sr) l vw2 m Or' Sr' l' vw' nx':=by exact ws):WY rnd P Q g0 id es L Or Sr l0 vw vw1 nx IT T IN N:=by
 rintro ⟨ns,hN⟩ ⟨ts,hT⟩
 have h3:=h.get e
 have h4:=e1.eq
 subst e e2 e3 h4
 exact Hs hT hN hG (jE hg h3) (h2.run _ _ _ _ _ k)
theorem we {n:Nat} {fin:List Nat} {outs es':List aO} {sps:List Sp} (hn:g0.n=n) (ts:List Nat) (hQ:PT Q g0 .normal es') (hm:P.follows .mixedOrders=true:=by kernel_rfl) (hk:Kv ts vw fin es':=by repeat (first | exact .n | (apply Kv.c; (repeat (first | exact .h | apply Rv.t))))) (hO:Rr Or [] outs:=by repeat (first | exact .n | apply Rr.c)) (hS:Rr Sr [] sps:=by repeat (first | exact .n | apply Rr.c))
 (hc:uc n L (es++outs) (List.range es.length) sps fin=true:=by kernel_rfl):WT rnd P Q g0 id es L Or Sr [] vw nx:=Fm hm hn hk hO hS hQ hc
theorem sI {y:Code} {n:Nat} {fin:List Nat} {outs es':List aO} {sps:List Sp} (hn:g0.n=n) (ts:List Nat) (hQ:HT rnd P Q g0 y es') (hm:P.follows .mixedOrders=true:=by kernel_rfl) (hk:Kv ts vw fin es':=by repeat (first | exact .n | (apply Kv.c; (repeat (first | exact .h | apply Rv.t))))) (hO:Rr Or [] outs:=by repeat (first | exact .n | apply Rr.c)) (hS:Rr Sr [] sps:=by repeat (first | exact .n | apply Rr.c))
 (hc:uc n L (es++outs) (List.range es.length) sps fin=true:=by kernel_rfl):WT rnd P (Exit.then (y.wpIn (FW rnd) 0 P Q) Q) g0 id es L Or Sr [] vw nx:=Fm hm hn hk hO hS (ai hQ) hc
theorem wd {d:Nat} {b c:Bool} (hb:b=c) (hs:List (List Nat)) (k:WT rnd P Q g0 id es L Or' Sr' l' vw' nx') (h2:WS P L hs ((d,.v (.bool c))::Or) Sr l ((nx,(d,.v (.bool c)))::vw) m Or' Sr' l' vw' nx':=by exact ws) :
  WT rnd P Q g0 id es L ((d,.v (.bool b))::Or) Sr l ((nx,(d,.v (.bool b)))::vw) m:=by
 subst hb
 exact h2.run _ _ _ _ _ k
end
section
variable {P:Program} {Q:Exit→Act→World→Prop} {g0:Gh} {rnd:Option Nat}
theorem zd {R:Type} {c:Operand} {x y:Code} {es:List aO} {b:Bool} {A B:Option R} {r:R} (h:cond b A B=some r) (hc:rd es c = .v (.bool b)) (ht:b=true→A=some r→HT rnd P Q g0 x es) (hf:b=false→B=some r→HT rnd P Q g0 y es):HT rnd P Q g0 (.cond c x y) es :=
 DI b hc (fun e=>ht e (Hb e h)) (fun e=>hf e (FP e h))
theorem zc {R:Type} {c:Operand} {x y:Code} {es:List aO} {b:Bool} {A B:Option R} {r:R} (h:cond b A B=some r) (hc:rd es c = .v (.bool b)) (ht:A=some r→HT rnd P Q g0 x es) (hf:B=some r→HT rnd P Q g0 y es):HT rnd P Q g0 (.cond c x y) es :=
 zd h hc (fun _=>ht) (fun _=>hf)
theorem fK {A R S:Type} {m:Option A} {g:A→Option S} {f:A→S→Option R} {r:R} (h:m.bind (fun x=>(g x).bind (f x))=some r):∃ x,m=some x∧∃ y,g x=some y∧f x y=some r:=by
 obtain ⟨x,h1,h2⟩:=bind_some h
 obtain ⟨y,h3,h4⟩:=bind_some h2
 exact ⟨x,h1,y,h3,h4⟩
theorem mh {A R S T:Type} {m:Option A} {g:A→Option S} {k:A→S→Option T} {f:A→S→T→Option R} {r:R} (h:m.bind (fun x=>(g x).bind (fun y=>(k x y).bind (f x y)))=some r):∃ x,m=some x∧∃ y,g x=some y∧∃ z,k x y=some z∧f x y z=some r:=by
 obtain ⟨x,h1,h2⟩:=bind_some h
 obtain ⟨y,h3,z,h4,h5⟩:=fK h2
 exact ⟨x,h1,y,h3,z,h4,h5⟩
theorem ov {A R S T U:Type} {m:Option A} {g:A→Option S} {k:A→S→Option T} {l:A→S→T→Option U} {f:A→S→T→U→Option R} {r:R} (h:m.bind (fun x=>(g x).bind (fun y=>(k x y).bind (fun z=>(l x y z).bind (f x y z))))=some r):∃ x,m=some x∧∃ y,g x=some y∧∃ z,k x y=some z∧∃ u,l x y z=some u∧f x y z u=some r:=by
 obtain ⟨x,h1,h2⟩:=bind_some h
 obtain ⟨y,h3,z,h4,u,h5,h6⟩:=mh h2
 exact ⟨x,h1,y,h3,z,h4,u,h5,h6⟩
end
end Go.Abs
end
