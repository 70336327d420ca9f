import Derived.Test.YtjnnkhmhjcjhdaaGreatDoorGatA
import Derived.Test.YtjnnkhmhjcjhdaaGreatDoorGatQ
namespace Go.Abs.Sh
set_option linter.unusedVariables false
set_option linter.unusedSimpArgs false
set_option maxRecDepth 100000
/-! Bytes,one after the other. -/
inductive FR (i t:Int):dE×List dG→List Int→dE×List dG→Prop
 | nil (p):FR i t p [] p
 | cons {p q r:dE×List dG} {x:Int} {xs:List Int} (h:Ei i t 1 x p q) (t':FR i t q xs r):FR i t p (x::xs) r
theorem FR.app {i t:Int} {p q r:dE×List dG} {a b:List Int} (h:FR i t p a q) (h2:FR i t q b r):FR i t p (a++b) r:=by
 induction h with
 | nil=>exact h2
 | cons h _ ih=>exact .cons h (ih h2)
theorem FR.one {i t:Int} {p q:dE×List dG} {x:Int} (h:Ei i t 1 x p q):FR i t p [x] q := .cons h (.nil _)
theorem FR.traj {i t:Int} {p r:dE×List dG} {b:List Int} (h:FR i t p b r):∃ st:Nat→dE×List dG,st 0=p∧st b.length=r∧∀ k (hk:k<b.length),Ei i t 1 b[k] (st k) (st (k+1)):=by
 induction h with
 | nil p=>exact ⟨fun _=>p,rfl,rfl,fun k hk=>absurd hk (Nat.not_lt_zero k)⟩
 | @cons p q r x xs h _ ih =>
  obtain ⟨st,h0,h1,h2⟩:=ih
  refine ⟨fun k=>match k with | 0=>p | k+1=>st k,rfl,h1,fun k hk => ?_⟩
  cases k with
  | zero=>show Ei i t 1 x p (st 0); rw [h0]; exact h
  | succ k=>exact h2 k (by simpa using hk)
theorem SE {i t x:Int} {p q:dE×List dG} {k:Nat} (hk:k≠0) (h:Ei i t 1 x p q):Ei i t k x p q:=by
 obtain ⟨h1,c,h2,h3⟩:=h
 rw [if_neg (by decide)] at h2
 exact ⟨h1,c,by rw [if_neg hk]; exact h2,h3⟩
theorem LG {i t:Int} {g:dE} {o:List dG} (h:g.Buf=[]):fo (SG i t g o)=some (false,SG i t g o):=by
 by_cases h4:g.Phase=4
 ·unfold fo
  refine fm (beq_iff_eq.2 h4) (dR (x:=(false,SG i t g o)) ?_ rfl)
  unfold mm
  refine dR (x:=([],0,9)) ?_ (fm rfl rfl)
  show ub g.Buf=_
  rw [h]; kernel_rfl
 ·exact IZ h4 (by rw [h]; intro x hx; cases hx) (by rw [h]; exact Nat.zero_le _) (by rw [h]; rfl)
theorem RP {i t x:Int} {g:dE} {o:List dG} (h4:g.Phase≠4) (hx:x≠10) (hl:g.Buf.length<512):Ei i t 1 x (g,o) (sP g (g.Buf++[x]),o):=by
 refine ⟨by show g.Buf.length<_; omega,false,?_,rfl⟩
 rw [if_neg (by decide)]
 refine (Dx (g:=sP g (g.Buf++[x])) h4).trans ?_
 rw [beq_eq_false_iff_ne.2 hx,decide_eq_false (by show ¬ (512:Int)<((g.Buf++[x]).length:Nat); rw [List.length_append]; show ¬ (512:Int)<((g.Buf.length+1:Nat):Int); omega)]; rfl
theorem LA {i t:Int} {g:dE} {o:List dG} (h4:g.Phase≠4):∀ (l b:List Int),(∀ x∈l,x≠10)→b.length+l.length≤512→FR i t (sP g b,o) l (sP g (b++l),o)
 | [],b,_,_=>by rw [List.append_nil]; exact .nil _
 | x::l,b,h,hl=>by
  simp only [List.length_cons] at hl
  have h1:=RP (i:=i) (t:=t) (g:=sP g b) (o:=o) (x:=x) h4 (h x (by simp)) (by show b.length<512; omega)
  have h2:=LA (i:=i) (t:=t) (g:=g) (o:=o) h4 l (b++[x]) (fun y hy=>h y (by simp [hy])) (by rw [List.length_append]; show b.length+1+l.length≤512; omega)
  rw [List.append_assoc] at h2
  exact .cons h1 h2
theorem Ox {i t:Int} {g g':dE} {o o':List dG} {L:List Int} (h4:g.Phase≠4) (hg:g.Buf=[]) (hb:BA L) (hc:Wz L) (hl:L.length≤510)
  (h:eU (SG i t g o) (lz L)=some (SG i t g' o')) (hg':g'.Buf=[]):FR i t (g,o) (L++[13,10]) (g',o'):=by
 have eg:g=sP g []:=by
  obtain ⟨a,b,c,d,e,f,k,l⟩:=g
  have:f=[]:=hg
  subst this; rfl
 have h1:=LA (i:=i) (t:=t) (g:=g) (o:=o) h4 (L++[13]) [] (fun x hx=>by
  rcases List.mem_append.1 hx with hx | hx
  ·exact (hc x hx).2
  ·rw [List.mem_singleton.1 hx]; decide) (by rw [List.length_append]; show 0+(L.length+1)≤512; omega)
 rw [← eg,List.nil_append] at h1
 have e:L++[13,10]=(L++[13])++[10]:=by simp
 rw [e]
 refine h1.app (.one ⟨by show (L++[13]).length<_; rw [List.length_append]; show L.length+1<_; omega,true,?_,?_⟩)
 ·rw [if_neg (by decide)]
  exact (Dx (g:=sP g ((L++[13])++[10])) h4).trans rfl
 ·rw [if_pos rfl]
  show iy (SG i t (sP g ((L++[13])++[10])) o)=some (SG i t g' o')
  rw [← e]
  have hx:Ar (L++13::10::[])=some L.length:=Jb fun x hx=>(hc x hx).1
  have e1:(L++13::10::[]).drop (L.length+2)=[]:=List.drop_eq_nil_of_le (by rw [List.length_append]; exact Nat.le_refl _)
  have e2:(L++13::10::[]).take L.length=L:=by simp
  refine Tl (PA (g:=sP g (L++[13,10])) (g':=g') (o:=o) (o':=o') (e:=L.length) h4 (Fg hb (by decide)) (by show (L++[13,10]).length<_; rw [List.length_append]; show L.length+2<_; omega) hx ?_) (LG hg')
  show eU (SG i t (sP g ((L++13::10::[]).drop (L.length+2))) o) (lz ((L++13::10::[]).take L.length))=some (SG i t g' o')
  rw [e1,e2,← eg]; exact h
theorem OK {i t:Int} {g:dE} {x:Int} {xs:List Int} {r:dE×List dG} (h:FR i t (g,[]) (x::xs) r) (h4:g.Phase≠4) (hg:g.Buf=[]) (hx:x≠10) (hxb:0≤x∧x<256) (hi:i=0∨i=1) (ht:0≤t∧t≤1099511627776) (hv:nA g=some true)
  (hb:(x::xs).length<1000000) (ht0:g.To.length<100000) (he:r.1.To.length<100000∧r.1.Buf.length<1000000):kT RB i t g (x::xs)=some (r.1,r.2,0):=by
 obtain ⟨st,h0,h1,h2⟩:=h.traj
 have:=Tc (i:=i) (t:=t) g (x::xs) st h0 hi ht hv hb ⟨ht0,by rw [hg]; decide⟩ (by rw [h1]; exact he) (fun k hk => ?_)
 ·rw [h1] at this; exact this
 by_cases hk0:k=0
 ·subst hk0
  have hq:=h2 0 hk
  rw [h0] at hq ⊢
  obtain ⟨l1,c,h3,h5⟩:=hq
  rw [if_neg (by decide)] at h3
  have hc:c=false:=by
   have h6:=h3.symm.trans (Dx (o:=([]:List dG)) (show (sP g (g.Buf++[x])).Phase≠4 from h4))
   have h7:c=((x==10)||decide ((512:Int)<((g.Buf++[x]).length:Nat))):=congrArg Prod.fst (Option.some.inj h6)
   rw [h7]
   rw [hg,beq_eq_false_iff_ne.2 hx]; rfl
  rw [hc,if_neg (by decide)] at h5
  refine ⟨l1,true,by rw [if_pos rfl],?_⟩
  rw [if_pos rfl]
  rw [h5]
  refine VE (IZ h4 ?_ ?_ ?_)
  ·show BA (g.Buf++[x])
   rw [hg]; intro y hy; rw [List.mem_singleton.1 hy]; exact hxb
  ·show (g.Buf++[x]).length≤512
   rw [hg]; exact Nat.le_of_ble_eq_true rfl
  ·show Ar (g.Buf++[x])=none
   rw [hg]
   show (if x=13∧([]:List Int).head? = some 10 then some 0 else (Ar []).map (· + 1))=none
   rw [if_neg (fun e=>by cases e.2)]; rfl
 ·exact SE hk0 (h2 k hk)
end Go.Abs.Sh
