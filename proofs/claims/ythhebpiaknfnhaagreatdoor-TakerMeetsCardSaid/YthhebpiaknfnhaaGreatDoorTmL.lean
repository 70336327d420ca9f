import Derived.Test.YthhebpiaknfnhaaGreatDoorTmK
namespace Go.Abs.Sh
set_option linter.unusedVariables false
set_option linter.unusedSimpArgs false
structure Y where
 rdy:Bool
 b:Nat
 n:Nat
 w:Nat
 m:Nat
 op:Bool
 a:Nat
def lst (L:List Bool) (a:Nat):Bool:=L.getD (a-1) false
theorem lst_ge {L:List Bool} {a:Nat} (h:L.length<a):lst L a=false:=by
 unfold lst
 rw [List.getD_eq_getElem?_getD,List.getElem?_eq_none (by omega)]
 rfl
def hello1 (L:List Bool) (x:Y):Y :=
 if lst L (x.a+1)=true then ⟨x.rdy,x.b,x.n,x.w,x.m,x.op,x.a+1⟩
 else if lst L (x.a+2)=true then ⟨x.rdy,x.b,x.n,x.w,x.m,true,x.a+2⟩
 else ⟨true,x.m,x.m,0,x.m,true,x.a+2⟩
def ackY (x:Y) (q:Nat):Y:=if x.b<q then ⟨x.rdy,q,x.n,3,x.m,x.op,x.a⟩ else x
def piece1 (L:List Bool) (P:Nat) (x:Y) (i:Nat):Option Y :=
 if lst L (x.a+1)=true then some ⟨x.rdy,x.b,x.n,x.w,x.m,x.op,x.a+1⟩
 else if i=x.m then
  if x.m+1=P then none
  else if lst L (x.a+2)=true then some ⟨x.rdy,x.b,x.n,x.w,x.m+1,x.op,x.a+2⟩
  else some (ackY ⟨x.rdy,x.b,x.n,x.w,x.m+1,x.op,x.a+2⟩ (x.m+1))
 else if lst L (x.a+2)=true then some ⟨x.rdy,x.b,x.n,x.w,x.m,x.op,x.a+2⟩
 else some (ackY ⟨x.rdy,x.b,x.n,x.w,x.m,x.op,x.a+2⟩ x.m)
def run1 (L:List Bool) (P:Nat):Nat→Nat→Y→Option Y
 | 0,_,x=>some x
 | k+1,i,x=>(piece1 L P x i).bind (run1 L P k (i+1))
def wnY (P:Nat) (x:Y):Nat:=if P<x.b+7 then P else x.b+7
def tick1 (L:List Bool) (P:Nat) (x:Y):Option Y :=
 if x.rdy=false then (if 0<x.w then some ⟨x.rdy,x.b,x.n,x.w-1,x.m,x.op,x.a⟩ else some (hello1 L ⟨x.rdy,x.b,x.n,3,x.m,x.op,x.a⟩))
 else if x.n<wnY P x then run1 L P (wnY P x-x.n) x.n ⟨x.rdy,x.b,wnY P x,3,x.m,x.op,x.a⟩
 else if x.w=0 then some (hello1 L ⟨false,0,0,3,x.m,x.op,x.a⟩)
 else some ⟨x.rdy,x.b,x.n,x.w-1,x.m,x.op,x.a⟩
structure OkY (P:Nat) (x:Y):Prop where
 mP:x.m<P
 w3:x.w≤3
 r0:x.rdy=false→x.b=0∧x.n=0
 r1:x.rdy=true→x.op=true∧x.b≤x.m∧x.m≤x.n∧x.n≤x.b+7∧x.n≤P
theorem okY_no {P:Nat} {b n w m a:Nat} {o:Bool} (h1:m<P) (h2:w≤3) (h3:b=0) (h4:n=0):OkY P ⟨false,b,n,w,m,o,a⟩:=⟨h1,h2,fun _=>⟨h3,h4⟩,nofun⟩
theorem okY_yes {P:Nat} {b n w m a:Nat} (h1:m<P) (h2:w≤3) (h3:b≤m) (h4:m≤n) (h5:n≤b+7) (h6:n≤P):OkY P ⟨true,b,n,w,m,true,a⟩:=⟨h1,h2,nofun,fun _=>⟨rfl,h3,h4,h5,h6⟩⟩
theorem ok_hello {L:List Bool} {P:Nat} {x:Y} (h:OkY P x) (hr:x.rdy=false):OkY P (hello1 L x)∧x.a<(hello1 L x).a∧(L.length≤x.a→hello1 L x=⟨true,x.m,x.m,0,x.m,true,x.a+2⟩):=by
 obtain ⟨r,b,n,w,m,o,a⟩:=x
 have mP:=h.mP; have w3:=h.w3; have r0:=h.r0 hr
 dsimp only at hr mP w3 r0 ⊢
 subst hr
 unfold hello1
 dsimp only
 by_cases h1:lst L (a+1)=true
 ·rw [if_pos h1]
  refine ⟨okY_no mP w3 r0.1 r0.2,by dsimp only; omega,fun hl => ?_⟩
  rw [lst_ge (by omega)] at h1; cases h1
 rw [if_neg h1]
 by_cases h2:lst L (a+2)=true
 ·rw [if_pos h2]
  refine ⟨okY_no mP w3 r0.1 r0.2,by dsimp only; omega,fun hl => ?_⟩
  rw [lst_ge (by omega)] at h2; cases h2
 rw [if_neg h2]
 exact ⟨okY_yes mP (by omega) (by omega) (by omega) (by omega) (by omega),by dsimp only; omega,fun _=>rfl⟩
theorem ok_piece {L:List Bool} {P i:Nat} {x y:Y} (h:OkY P x) (hr:x.rdy=true) (hi:i<x.n) (he:piece1 L P x i=some y) :
  OkY P y∧y.rdy=true∧y.n=x.n∧x.a<y.a∧(L.length≤x.a→(i=x.m→y.m=x.m+1∧y.b=x.m+1)∧(i≠x.m→y.m=x.m)):=by
 obtain ⟨r,b,n,w,m,o,a⟩:=x
 have mP:=h.mP; have w3:=h.w3; obtain ⟨ho,r1,r2,r3,r4⟩:=h.r1 hr
 dsimp only at hr mP w3 ho r1 r2 r3 r4 hi ⊢
 subst hr; subst ho
 unfold piece1 at he
 dsimp only at he
 by_cases h1:lst L (a+1)=true
 ·rw [if_pos h1] at he
  obtain rfl:=Option.some.inj he
  refine ⟨okY_yes mP w3 r1 r2 r3 r4,rfl,rfl,by dsimp only; omega,fun hl => ?_⟩
  rw [lst_ge (by omega)] at h1; cases h1
 rw [if_neg h1] at he
 by_cases hm:i=m
 ·rw [if_pos hm] at he
  by_cases hp:m+1=P
  ·rw [if_pos hp] at he; cases he
  rw [if_neg hp] at he
  by_cases h2:lst L (a+2)=true
  ·rw [if_pos h2] at he
   obtain rfl:=Option.some.inj he
   refine ⟨okY_yes (by omega) w3 (by omega) (by omega) r3 r4,rfl,rfl,by dsimp only; omega,fun hl => ?_⟩
   rw [lst_ge (by omega)] at h2; cases h2
  rw [if_neg h2] at he
  obtain rfl:=Option.some.inj he
  unfold ackY
  dsimp only
  rw [if_pos (by omega)]
  exact ⟨okY_yes (by omega) (by omega) (by omega) (by omega) (by omega) r4,rfl,rfl,by dsimp only; omega,fun _=>⟨fun _=>⟨rfl,rfl⟩,fun hh=>absurd hm hh⟩⟩
 rw [if_neg hm] at he
 by_cases h2:lst L (a+2)=true
 ·rw [if_pos h2] at he
  obtain rfl:=Option.some.inj he
  exact ⟨okY_yes mP w3 r1 r2 r3 r4,rfl,rfl,by dsimp only; omega,fun _=>⟨fun hh=>absurd hh hm,fun _=>rfl⟩⟩
 rw [if_neg h2] at he
 obtain rfl:=Option.some.inj he
 unfold ackY
 dsimp only
 by_cases hb:b<m
 ·rw [if_pos hb]
  exact ⟨okY_yes mP (by omega) (by omega) r2 (by omega) r4,rfl,rfl,by dsimp only; omega,fun _=>⟨fun hh=>absurd hh hm,fun _=>rfl⟩⟩
 ·rw [if_neg hb]
  exact ⟨okY_yes mP w3 r1 r2 r3 r4,rfl,rfl,by dsimp only; omega,fun _=>⟨fun hh=>absurd hh hm,fun _=>rfl⟩⟩
theorem ok_run {L:List Bool} {P:Nat}:∀ (k i:Nat) (x y:Y),OkY P x→x.rdy=true→i+k=x.n→run1 L P k i x=some y →
  OkY P y∧y.rdy=true∧y.n=x.n∧x.a+k≤y.a∧(L.length≤x.a→(i=x.m→y.m=x.n∧(0<k→y.b=x.n))∧(x.m<i→y.m=x.m))
 | 0,i,x,y,h,hr,hi,he=>by
  obtain rfl:=Option.some.inj he
  exact ⟨h,hr,rfl,by omega,fun _=>⟨fun hh=>⟨by omega,fun h0=>absurd h0 (by omega)⟩,fun _=>rfl⟩⟩
 | k+1,i,x,y,h,hr,hi,he=>by
  unfold run1 at he
  cases hp:piece1 L P x i with
  | none=>rw [hp] at he; cases he
  | some z =>
   rw [hp] at he
   have he:run1 L P k (i+1) z=some y:=he
   obtain ⟨p1,p2,p3,p4,p5⟩:=ok_piece h hr (by omega) hp
   obtain ⟨q1,q2,q3,q4,q5⟩:=ok_run k (i+1) z y p1 p2 (by omega) he
   refine ⟨q1,q2,by omega,by omega,fun hl => ?_⟩
   have q5:=q5 (by omega)
   have p5:=p5 hl
   refine ⟨fun e => ?_,fun e => ?_⟩
   ·have p6:=p5.1 e
    have q6:=q5.1 (by omega)
    refine ⟨by omega,fun _ => ?_⟩
    by_cases hk:0<k
    ·rw [q6.2 hk,p3]
    ·obtain rfl:k=0:=by omega
     have:z=y:=Option.some.inj he
     subst this
     omega
   ·have p6:=p5.2 (by omega)
    have q6:=q5.2 (by omega)
    omega
def psiY (P:Nat) (x:Y):Nat:=if x.rdy=true then (if x.b=x.m∧x.n=x.m then P-x.m else 30+4 * (x.m+7-x.n)+x.w) else 26+x.w
def phiY (L:List Bool) (P:Nat) (x:Y):Nat:=if x.a<L.length then 4 * (L.length-x.a)+x.w+100 else psiY P x
theorem psi_le {P:Nat} {x:Y} (h:OkY P x) (hP:P≤25):psiY P x≤100:=by
 have:=h.w3
 unfold psiY
 split
 ·rename_i hr
  have:=h.r1 hr
  split <;> omega
 ·omega
theorem phi_dec {L:List Bool} {P:Nat} {x y:Y} (hP:P≤25) (hy:OkY P y) (h1:x.a<L.length→4 * y.w+0≤4 * y.w∧(x.a<y.a∧y.w≤3∨x.a=y.a∧y.w<x.w)) (h2:L.length≤x.a→x.a≤y.a∧psiY P y<psiY P x):phiY L P y<phiY L P x:=by
 have hp:=psi_le hy hP
 unfold phiY
 by_cases ha:x.a<L.length
 ·rw [if_pos ha]
  have:=(h1 ha).2
  split <;> omega
 ·rw [if_neg ha]
  have:=h2 (by omega)
  rw [if_neg (by omega)]
  exact this.2
theorem tick_dec {L:List Bool} {P:Nat} {x:Y} (h:OkY P x) (hP:P≤25):tick1 L P x=none∨∃ y,tick1 L P x=some y∧OkY P y∧phiY L P y<phiY L P x:=by
 obtain ⟨r,b,n,w,m,o,a⟩:=x
 have mP:=h.mP; have w3:=h.w3
 dsimp only at mP w3
 unfold tick1
 dsimp only
 by_cases hr:r=false
 ·rw [if_pos hr]
  subst hr
  have r0:=h.r0 rfl
  dsimp only at r0
  by_cases hw:0<w
  ·rw [if_pos hw]
   have hy:OkY P ⟨false,b,n,w-1,m,o,a⟩:=okY_no mP (by omega) r0.1 r0.2
   refine .inr ⟨_,rfl,hy,phi_dec hP hy (fun _=>⟨by omega,.inr ⟨rfl,by dsimp only; omega⟩⟩) fun _=>⟨by dsimp only; omega,?_⟩⟩
   unfold psiY
   dsimp only
   rw [if_neg (by simp),if_neg (by simp)]
   omega
  ·rw [if_neg hw]
   have hx:OkY P ⟨false,b,n,3,m,o,a⟩:=okY_no mP (by omega) r0.1 r0.2
   obtain ⟨p1,p2,p3⟩:=ok_hello (L:=L) hx rfl
   dsimp only at p2 p3
   refine .inr ⟨_,rfl,p1,phi_dec hP p1 (fun _=>⟨by omega,.inl ⟨p2,p1.w3⟩⟩) fun hl=>⟨by dsimp only; omega,?_⟩⟩
   rw [p3 hl]
   unfold psiY
   dsimp only
   rw [if_pos rfl,if_pos ⟨rfl,rfl⟩,if_neg (by simp)]
   omega
 rw [if_neg hr]
 have hr:r=true:=by cases r; exact absurd rfl hr; rfl
 subst hr
 obtain ⟨ho,r1,r2,r3,r4⟩:=h.r1 rfl
 dsimp only at ho r1 r2 r3 r4
 subst ho
 by_cases hn:n<wnY P ⟨true,b,n,w,m,true,a⟩
 ·rw [if_pos hn]
  obtain ⟨v,hv⟩:∃ v,v=wnY P ⟨true,b,n,w,m,true,a⟩:=⟨_,rfl⟩
  rw [← hv] at hn ⊢
  have hvb:v≤P∧v≤b+7:=by
   rw [hv]; unfold wnY; dsimp only
   split <;> omega
  cases he:run1 L P (v-n) n ⟨true,b,v,3,m,true,a⟩ with
  | none=>exact .inl rfl
  | some y =>
   have hx:OkY P ⟨true,b,v,3,m,true,a⟩:=okY_yes mP (by omega) r1 (by omega) hvb.2 hvb.1
   obtain ⟨p1,p2,p3,p4,p5⟩:=ok_run (v-n) n _ y hx rfl (by dsimp only; omega) he
   dsimp only at p3 p4 p5
   refine .inr ⟨y,rfl,p1,phi_dec hP p1 (fun _=>⟨by omega,.inl ⟨by dsimp only; omega,p1.w3⟩⟩) fun hl=>⟨by dsimp only; omega,?_⟩⟩
   have p5:=p5 hl
   have y1:=p1.r1 p2
   have y2:=p1.mP
   have y3:=p1.w3
   unfold psiY
   rw [if_pos p2,if_pos rfl]
   dsimp only
   by_cases hnm:n=m
   ·have p6:=p5.1 hnm
    have p7:=p6.2 (by omega)
    rw [if_pos ⟨by omega,by omega⟩]
    split <;> omega
   ·have p6:=p5.2 (by omega)
    rw [if_neg (by omega:¬ (b=m∧n=m))]
    split <;> omega
 rw [if_neg hn]
 have hne:¬ (b=m∧n=m):=by
  intro hh
  apply hn
  unfold wnY; dsimp only
  split <;> omega
 by_cases hw:w=0
 ·rw [if_pos hw]
  have hx:OkY P ⟨false,0,0,3,m,true,a⟩:=okY_no mP (by omega) rfl rfl
  obtain ⟨p1,p2,p3⟩:=ok_hello (L:=L) hx rfl
  dsimp only at p2 p3
  refine .inr ⟨_,rfl,p1,phi_dec hP p1 (fun _=>⟨by omega,.inl ⟨p2,p1.w3⟩⟩) fun hl=>⟨by dsimp only; omega,?_⟩⟩
  rw [p3 hl]
  unfold psiY
  dsimp only
  rw [if_pos rfl,if_pos ⟨rfl,rfl⟩,if_pos rfl,if_neg hne]
  omega
 ·rw [if_neg hw]
  have hy:OkY P ⟨true,b,n,w-1,m,true,a⟩:=okY_yes mP (by omega) r1 r2 r3 r4
  refine .inr ⟨_,rfl,hy,phi_dec hP hy (fun _=>⟨by omega,.inr ⟨rfl,by dsimp only; omega⟩⟩) fun _=>⟨by dsimp only; omega,?_⟩⟩
  unfold psiY
  dsimp only
  rw [if_pos rfl,if_neg hne,if_pos rfl,if_neg hne]
  omega
end Go.Abs.Sh
