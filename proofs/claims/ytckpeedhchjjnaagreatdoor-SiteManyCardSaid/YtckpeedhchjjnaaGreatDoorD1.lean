import Derived.Test.YtckpeedhchjjnaaGreatDoorBB
namespace Go.Abs
inductive Se:AV→AV→Prop
 | r {a:AV}:Se a a
 | s {a b:AV}:uW a b→dM b=true→Se a b
 | b {T:TypeId} {cs ds:List AV}:nr cs ds→ds.length=cs.length→Se (.box T cs) (.box T ds)
inductive Ks:List aJ→List aJ→Prop
 | n {es:List aJ}:Ks es []
 | c {t:Nat} {av av':AV} {es es1 fs:List aJ}:Tk t es av es1→Se av av'→Ks es1 fs→Ks es ((t,av')::fs)
theorem Ks.spec {es fs:List aJ} (h:Ks es fs):∃ ds ps,es.Perm (ds++ps)∧lW ps fs:=by
 induction h with
 | n=>exact ⟨_,[],by rw [bn],.nil⟩
 | c h1 h2 _ ih =>
  obtain ⟨ds,ps,p,q⟩:=ih;refine ⟨ds,(_,_)::ps,(h1.perm.trans (p.cons _)).trans List.perm_middle.symm,?_⟩
  cases h2 with
  | r=>exact .same _ q
  | s a b=>exact .sub _ a b q
  | b a b=>exact .box _ _ a b q
inductive RV:List ResultVar→List AV→AV→Prop
 | one {x:ResultVar} {a:AV}:RV [x] [a] a
 | nil:RV [] [] (.tup [])
 | two {x y:ResultVar} {l:List ResultVar} {a b:AV} {m:List AV}:RV (x::y::l) (a::b::m) (.tup (a::b::m))
theorem RV.spec {l:List ResultVar} {m:List AV} {a:AV} (h:RV l m a):iW m=a:=by cases h <;> rfl
section
variable {P:Program} {Q:Exit→Act→World→Prop} {g0:Gh} {rnd:Option Nat} {l l':List ResultVar} {es es' fs:List aJ} {avs posts:List AV} {res:AV} {fn:Func} {e:Exit}
theorem Br (s:Bool) (z:Nat):uW (.v (.slice none 0 0)) (.fr .ro s z []):=fun g V w x o h =>
 mw (vs:=[]) (fN z g V w x o h) (by simp [jk])
theorem JK {a b:AV} (h:uW a b:=by
 repeat first
  | exact aV _
  | exact iV
  | apply aH
  | exact fj _ _
  | exact ew _ _ _
  | exact qb _
  | exact uA _ _
  | exact Br _ _
  | exact Cb _
  | exact sq _ _
  | exact ww _ _ _
  | exact fN _
  | apply zt):uW a b:=h
theorem JT {a b:List AV} (h:nr a b:=by repeat first | exact iV | (apply aH; exact JK)):nr a b:=h
theorem Hy {a b:AV} (h:Se a b:=by
 first
  | exact .r
  | exact .b JT rfl
  | exact .s JK rfl):Se a b:=h
theorem Ld (h:Ks es fs:=by
 repeat (apply Ks.c; (repeat first | exact .h | apply Tk.t); exact Hy)
 exact .n):Ks es fs:=h
inductive RK (P:Program):List ResultVar→List aJ→List AV→List aJ→Prop
 | n {es:List aJ}:RK P [] es [] es
 | t {t:Nat} {av av':AV} {l:List ResultVar} {es es1 r:List aJ} {avs:List AV}:Tk t es av es1→Se av av'→RK P l es1 avs r→RK P (.tmp t::l) es (av'::avs) r
 | o {t:Nat} {T T':TypeId} {c c':AV} {l:List ResultVar} {es es1 r:List aJ} {avs:List AV} (u:AS P T):Tk t es (.box T' [c]) es1→uW c c'→RK P l es1 avs r→RK P (.cell t T::l) es (c'::avs) r
 | A {t s:Nat} {T T':TypeId} {cs cs':List AV} {l:List ResultVar} {es es1 r:List aJ} {avs:List AV} (u:AA P T s):Tk t es (.box T' cs) es1→nr cs cs'→cs'.length=cs.length→s=cs'.length→RK P l es1 avs r→RK P (.cell t T::l) es (.agg cs'::avs) r
 | tz {t:Nat} {av av1 av':AV} {l:List ResultVar} {es es1 r:List aJ} {avs:List AV}:Tk t es av es1→nH av=av1→Se av1 av'→RK P l es1 avs r→RK P (.tmp t::l) es (av'::avs) r
 | oz {t:Nat} {T T':TypeId} {c c1 c':AV} {l:List ResultVar} {es es1 r:List aJ} {avs:List AV} (u:AS P T):Tk t es (.box T' [c]) es1→nH (.box T' [c]) = .box T' [c1]→uW c1 c'→RK P l es1 avs r→RK P (.cell t T::l) es (c'::avs) r
 | Az {t s:Nat} {T T':TypeId} {cs cs1 cs':List AV} {l:List ResultVar} {es es1 r:List aJ} {avs:List AV} (u:AA P T s):Tk t es (.box T' cs) es1→nH (.box T' cs) = .box T' cs1→nr cs1 cs'→cs'.length=cs1.length→s=cs'.length→RK P l es1 avs r→RK P (.cell t T::l) es (.agg cs'::avs) r
inductive EY:List aJ→List aJ→Prop
 | nil:EY [] []
 | same (e:aJ) {a b:List aJ}:EY a b→EY (e::a) (e::b)
 | fz (t:Nat) {v v1:AV} {a b:List aJ}:nH v=v1→EY a b→EY ((t,v)::a) ((t,v1)::b)
theorem DT {x:aJ} {f:aJ→aJ} {b:List aJ}:∀ {a:List aJ},(a++x::b).modify a.length f=a++f x::b
 | []=>rfl
 | y::_=>congrArg (y :: ·) DT
theorem xF {a b:List aJ} (hz:∀ (i:Nat) {es es':List aJ},(es.modify i fun e=>(e.1,nH e.2))=es'→PT Q g0 e es'→PT Q g0 e es) (h:EY a b):∀ (p r:List aJ),PT Q g0 e (p++(b++r))→PT Q g0 e (p++(a++r)):=by
 induction h with
 | nil=>exact fun _ _ k=>k
 | same x _ ih =>
  intro p r k;have:=ih (p++[x]) r (by simpa using k);simpa using this
 | @fz t v v1 a b e _ ih =>
  intro p r k;subst e;refine hz p.length (DT (f:=fun e:aJ=>(e.1,nH e.2))) ?_;have:=ih (p++[(t,nH v)]) r (by simpa using k);simpa using this
theorem RK.spec {r:List aJ} (h:RK P l es avs r):∃ ps qs fs,es.Perm (ps++r)∧EY ps qs∧lW qs fs∧ng P l fs avs:=by
 induction h with
 | n=>exact ⟨[],[],[],.refl _,.nil,.nil,.nil⟩
 | t h1 h2 _ ih =>
  obtain ⟨ps,qs,fs,p,f,q,z⟩:=ih;refine ⟨(_,_)::ps,(_,_)::qs,(_,_)::fs,h1.perm.trans (p.cons _),.same _ f,?_,.tmp _ _ z⟩
  cases h2 with
  | r=>exact .same _ q
  | s a b=>exact .sub _ a b q
  | b a b=>exact .box _ _ a b q
 | o u h1 h2 _ ih =>
  obtain ⟨ps,qs,fs,p,f,q,z⟩:=ih;obtain ⟨⟨td,a1,a2⟩,_⟩:=iQ u.h;exact ⟨(_,_)::ps,(_,_)::qs,(_,_)::fs,h1.perm.trans (p.cons _),.same _ f,.box _ _ (aH h2 iV) rfl q,.cell1 _ _ _ _ a1 a2 z⟩
 | A u h1 h2 h3 h4 _ ih =>
  obtain ⟨ps,qs,fs,p,f,q,z⟩:=ih;obtain ⟨⟨td,a1,a2⟩,a3⟩:=iQ u.h;exact ⟨(_,_)::ps,(_,_)::qs,(_,_)::fs,h1.perm.trans (p.cons _),.same _ f,.box _ _ h2 h3 q,.cellA _ _ _ _ a1 a2 (by rw [a3,h4]) z⟩
 | tz h1 hf h2 _ ih =>
  obtain ⟨ps,qs,fs,p,f,q,z⟩:=ih;refine ⟨(_,_)::ps,(_,_)::qs,(_,_)::fs,h1.perm.trans (p.cons _),EY.fz _ hf f,?_,.tmp _ _ z⟩
  cases h2 with
  | r=>exact .same _ q
  | s a b=>exact .sub _ a b q
  | b a b=>exact .box _ _ a b q
 | oz u h1 hf h2 _ ih =>
  obtain ⟨ps,qs,fs,p,f,q,z⟩:=ih;obtain ⟨⟨td,a1,a2⟩,_⟩:=iQ u.h;exact ⟨(_,_)::ps,(_,_)::qs,(_,_)::fs,h1.perm.trans (p.cons _),EY.fz _ hf f,.box _ _ (aH h2 iV) rfl q,.cell1 _ _ _ _ a1 a2 z⟩
 | Az u h1 hf h2 h3 h4 _ ih =>
  obtain ⟨ps,qs,fs,p,f,q,z⟩:=ih;obtain ⟨⟨td,a1,a2⟩,a3⟩:=iQ u.h;exact ⟨(_,_)::ps,(_,_)::qs,(_,_)::fs,h1.perm.trans (p.cons _),EY.fz _ hf f,.box _ _ h2 h3 q,.cellA _ _ _ _ a1 a2 (by rw [a3,h4]) z⟩
theorem lW.appD {a b c d:List aJ} (h:lW a b) (k:lW c d):lW (a++c) (b++d):=by
 induction h with
 | nil=>exact k
 | same _ _ ih=>exact .same _ ih
 | sub _ x y _ ih=>exact .sub _ x y ih
 | box _ _ x y _ ih=>exact .box _ _ x y ih
theorem IB {r:List aJ} (h:RK P l es avs r:=by
 repeat first
  | exact .n
  | (apply RK.t; (repeat first | exact .h | apply Tk.t); exact Hy)
  | (apply RK.o; exact inferInstance; (repeat first | exact .h | apply Tk.t); exact JK)
  | (apply RK.A; exact inferInstance; (repeat first | exact .h | apply Tk.t); exact JT; exact rfl; exact rfl)
  | (apply RK.tz; (repeat first | exact .h | apply Tk.t); exact rfl; exact Hy)
  | (apply RK.oz; exact inferInstance; (repeat first | exact .h | apply Tk.t); exact rfl; exact JK)
  | (apply RK.Az; exact inferInstance; (repeat first | exact .h | apply Tk.t); exact rfl; exact JT; exact rfl; exact rfl)):RK P l es avs r:=h
theorem Ir {m:List AV} {a:AV} (h:RV l m a:=by first | exact .one | exact .two | exact .nil):RV l m a:=h
theorem rq {Imm Im:Nat→Prop} {w0:World} {r:List aJ} (hio:g0.io=[]) (hI:g0.Imm=Imm:=by rfl) (hv:RV fn.results.toList avs res:=by exact Ir) (hk:RK P fn.results.toList es avs r:=by exact IB) (hcl:bj avs=true:=by rfl) (hM:g0.Im=Im:=by rfl) (hw:g0.w0=w0:=by rfl):PT (CI P fn Imm Im w0 res) g0 .ret es:=by obtain ⟨ps,qs,fs,p,f,q,z⟩:=hk.spec;have h1:PT (CI P fn Imm Im w0 res) g0 _ (qs++r):=fun g a w hg hs=>eZ (Q:=CI P fn Imm Im w0 res) q (iE hio hI z hcl hv.spec hM hw) g a w hg (hs.perm List.perm_append_comm).dropLeft;have h2:=xF (fun i _ _ a b=>yR i hio a b) f [] r h1;exact fun g a w hg hs=>h2 g a w hg (hs.perm p)
theorem Ln {Imm Im:Nat→Prop} {w0:World} {r:List aJ} (hio:g0.io=[]) (hI:g0.Imm=Imm:=by rfl) (hv:RV fn.results.toList avs res:=by exact Ir) (hk:RK P fn.results.toList es avs r:=by exact IB) (hcl:bj avs=true:=by rfl) (hM:g0.Im=Im:=by rfl) (hw:g0.w0=w0:=by rfl):PT (CI P fn Imm Im w0 res) g0 .normal es:=by obtain ⟨ps,qs,fs,p,f,q,z⟩:=hk.spec;have h1:PT (CI P fn Imm Im w0 res) g0 _ (qs++r):=fun g a w hg hs=>eZ (Q:=CI P fn Imm Im w0 res) q (HH hio hI z hcl hv.spec hM hw) g a w hg (hs.perm List.perm_append_comm).dropLeft;have h2:=xF (fun i _ _ a b=>yR i hio a b) f [] r h1;exact fun g a w hg hs=>h2 g a w hg (hs.perm p)
theorem Lt {Imm:Nat→Prop} {r:List aJ} (hds:g0.ds=[]) (hI:g0.Imm=Imm:=by rfl) (hv:RV fn.results.toList avs res:=by exact Ir) (hk:RK P fn.results.toList es avs r:=by exact IB) (hcl:bj avs=true:=by rfl):PT (uU P fn g0.io Imm g0.Im g0.w0 res) g0 .ret es:=by obtain ⟨ps,qs,fs,p,f,q,z⟩:=hk.spec;have h1:PT (uU P fn g0.io Imm g0.Im g0.w0 res) g0 _ (qs++r):=fun g a w hg hs=>eZ (Q:=uU P fn g0.io Imm g0.Im g0.w0 res) q (Gl hds hI z hcl hv.spec) g a w hg (hs.perm List.perm_append_comm).dropLeft;have h2:=xF (fun i _ _ a b=>mH i hds a b) f [] r h1;exact fun g a w hg hs=>h2 g a w hg (hs.perm p)
theorem KT {Imm:Nat→Prop} {r:List aJ} (hds:g0.ds=[]) (hI:g0.Imm=Imm:=by rfl) (hv:RV fn.results.toList avs res:=by exact Ir) (hk:RK P fn.results.toList es avs r:=by exact IB) (hcl:bj avs=true:=by rfl):PT (uU P fn g0.io Imm g0.Im g0.w0 res) g0 .normal es:=by obtain ⟨ps,qs,fs,p,f,q,z⟩:=hk.spec;have h1:PT (uU P fn g0.io Imm g0.Im g0.w0 res) g0 _ (qs++r):=fun g a w hg hs=>eZ (Q:=uU P fn g0.io Imm g0.Im g0.w0 res) q (FN hds hI z hcl hv.spec) g a w hg (hs.perm List.perm_append_comm).dropLeft;have h2:=xF (fun i _ _ a b=>mH i hds a b) f [] r h1;exact fun g a w hg hs=>h2 g a w hg (hs.perm p)
theorem Lr {Imm:Nat→Prop} {xs:List Value} {r:List aJ} (hds:g0.ds=[]) (hpl:posts.length≤xs.length) (hI:g0.Imm=Imm:=by rfl) (hv:RV fn.results.toList avs res:=by exact Ir) (hk:RK P fn.results.toList es avs r:=by exact IB) (hp:Ks r (cB posts++ff posts.length xs):=by exact Ld) (hcl:bj avs=true:=by rfl) (hclp:bj posts=true:=by rfl):PT (tg P fn xs posts g0.io Imm g0.Im g0.w0 res) g0 .ret es:=by obtain ⟨ps,qs,fs,p,f,q,z⟩:=hk.spec;obtain ⟨ds,ps2,p2,q2⟩:=hp.spec;have h1:PT (tg P fn xs posts g0.io Imm g0.Im g0.w0 res) g0 _ (qs++(ds++ps2)):=fun g a w hg hs=>eZ (Q:=tg P fn xs posts g0.io Imm g0.Im g0.w0 res) (q.appD q2) (qW hds hI rfl z hcl hclp hpl hv.spec) g a w hg (hs.perm (show List.Perm (qs++(ds++ps2)) (ds++(qs++ps2)) by rw [← ar,← ar]; exact List.perm_append_comm.append_right _)).dropLeft;have h2:=xF (fun i _ _ a b=>mH i hds a b) f [] _ h1;exact fun g a w hg hs=>h2 g a w hg (hs.perm (p.trans (p2.append_left ps)))
theorem KQ {Imm:Nat→Prop} {xs:List Value} {r:List aJ} (hds:g0.ds=[]) (hpl:posts.length≤xs.length) (hI:g0.Imm=Imm:=by rfl) (hv:RV fn.results.toList avs res:=by exact Ir) (hk:RK P fn.results.toList es avs r:=by exact IB) (hp:Ks r (cB posts++ff posts.length xs):=by exact Ld) (hcl:bj avs=true:=by rfl) (hclp:bj posts=true:=by rfl):PT (tg P fn xs posts g0.io Imm g0.Im g0.w0 res) g0 .normal es:=by obtain ⟨ps,qs,fs,p,f,q,z⟩:=hk.spec;obtain ⟨ds,ps2,p2,q2⟩:=hp.spec;have h1:PT (tg P fn xs posts g0.io Imm g0.Im g0.w0 res) g0 _ (qs++(ds++ps2)):=fun g a w hg hs=>eZ (Q:=tg P fn xs posts g0.io Imm g0.Im g0.w0 res) (q.appD q2) (Gj hds hI rfl z hcl hclp hpl hv.spec) g a w hg (hs.perm (show List.Perm (qs++(ds++ps2)) (ds++(qs++ps2)) by rw [← ar,← ar]; exact List.perm_append_comm.append_right _)).dropLeft;have h2:=xF (fun i _ _ a b=>mH i hds a b) f [] _ h1;exact fun g a w hg hs=>h2 g a w hg (hs.perm (p.trans (p2.append_left ps)))
end
theorem qr {p:Prop} (x:p:=by
 repeat with_reducible first | refine bH ?_ | refine dS ?_ | refine mq ?_
 obtain rfl:=zi h
 first
  | exact rq K
  | exact Lr K H
  | exact Lt K
  | exact Ln K
  | exact KQ K H
  | exact KT K):p:=x
end Go.Abs
