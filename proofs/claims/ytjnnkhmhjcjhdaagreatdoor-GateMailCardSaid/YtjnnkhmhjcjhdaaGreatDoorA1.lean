import Derived.Orders
import Derived.Below
import Derived.Laws.OwnMore
import Derived.Laws.Rows
import Derived.OrdersIn
import Derived.RangeFuncRecord
import Derived.OwnWalkIn
import Derived.Laws.Entries
import Derived.IntWalk
import Derived.Laws.CopyOwn
import Derived.Laws.Cells
abbrev Go.Abs.Mf:=ByteArray
section
namespace Go.Abs
inductive bl where
 | slot (t:Nat)
 | cell (t off:Nat)
 deriving DecidableEq
inductive Md where
 | own (T:TypeId)
 | ro
 | shr
inductive IC where
 | v (x:Value)
 | row (z:Nat) (cs:List IC)
structure lE where
 P:(Nat→Prop)→(Nat→Prop)→List Nat→World→Prop
 stab:∀ (I M I' M':Nat→Prop) (o:List Nat) (w w':World),(∀ b,I b→I' b)→(∀ b,M b→M' b)→(∀ b,(b∈o∨I b∨M b)→w'.heap[b]? = w.heap[b]?)→P I M o w→P I' M' o w'
structure Fe where
 P:(Nat→Prop)→(Nat→Prop)→Value→List Nat→World→Prop
 stab:∀ (I M I' M':Nat→Prop) (x:Value) (o:List Nat) (w w':World),(∀ b,I b→I' b)→(∀ b,M b→M' b)→(∀ b,(b∈o∨I b∨M b)→w'.heap[b]? = w.heap[b]?)→P I M x o w→P I' M' x o w'
 one:Bool:=false
 cell:one=true→∀ (I M:Nat→Prop) (x:Value) (o:List Nat) (w:World),P I M x o w→x.oneCell'=true:=by intro h; cases h
inductive AV where
 | any
 | v (x:Value)
 | fl (m:Md) (z:Nat) (xs:List Value)
 | agg (cs:List AV)
 | tup (cs:List AV)
 | box (T:TypeId) (cs:List AV)
 | same (l:bl)
 | ptr (t off:Nat)
 | eref (l:bl) (k:Nat)
 | arr (T:TypeId) (vs:List Value)
 | fr (m:Md) (s:Bool) (z:Nat) (cs:List IC)
 | glob (gl:List (Nat×List Value))
 | obox (p:Bool) (T:TypeId) (cs:List AV)
 | clo (f:Nat) (ts:List Nat)
 | cut (l:bl) (h:Nat)
 | cloB (f:Nat) (cs:List AV)
 | inv (J:lE)
 | mkr (E:TypeId) (xs:List Value)
 | asl (t n:Nat)
 | hid (J:Fe)
abbrev aE:=Nat×AV
structure Gh where
 n:Nat
 w0:World
 io:List Nat
 Imm:Nat→Prop
 Im:Nat→Prop
 ds:List Nat
def Gh.imm (g:Gh) (b:Nat):Prop:=g.Imm b∨g.Im b
structure Gh.le (g g':Gh):Prop where
 n:g'.n=g.n
 w0:g'.w0=g.w0
 io:g'.io=g.io
 Im:g'.Im=g.Im
 ds:g'.ds=g.ds
 Imm:∀ b,g.Imm b→g'.Imm b
 new:∀ b,g'.Imm b→g.Imm b∨g.w0.heap.size≤b∨b∈g.io
theorem Gh.le_refl (g:Gh):g.le g:=⟨rfl,rfl,rfl,rfl,rfl,fun _ h=>h,fun _ h => .inl h⟩
theorem Gh.le.trans {a b c:Gh} (h:a.le b) (k:b.le c):a.le c :=
 ⟨k.n.trans h.n,k.w0.trans h.w0,k.io.trans h.io,k.Im.trans h.Im,k.ds.trans h.ds,fun x hx=>k.Imm x (h.Imm x hx),fun x hx=>by
  rcases k.new x hx with h1 | h1
  ·exact h.new x h1
  ·refine .inr ?_
   rw [h.w0,h.io] at h1
   exact h1⟩
structure dH (S:List Nat) (w w':World):Prop where
 os:w'.os=w.os
 tape:w'.tape=w.tape
 output:w'.output=w.output
 size:w.heap.size≤w'.heap.size
 block:∀ k,k<w.heap.size→k ∉ S→w'.heap[k]? = w.heap[k]?
theorem dH.refl (S:List Nat) (w:World):dH S w w:=⟨rfl,rfl,rfl,Nat.le_refl _,fun _ _ _=>rfl⟩
theorem dH.trans {S:List Nat} {a b c:World} (h:dH S a b) (k:dH S b c):dH S a c :=
 ⟨k.os.trans h.os,k.tape.trans h.tape,k.output.trans h.output,Nat.le_trans h.size k.size,fun i hi hS=>(k.block i (Nat.lt_of_lt_of_le hi h.size) hS).trans (h.block i hi hS)⟩
theorem dH.trans' {S U:List Nat} {a b c:World} (h:dH S a b) (k:dH U b c) (hU:∀ x∈U,x∈S∨a.heap.size≤x):dH S a c :=
 ⟨k.os.trans h.os,k.tape.trans h.tape,k.output.trans h.output,Nat.le_trans h.size k.size,fun i hi hS =>
  (k.block i (Nat.lt_of_lt_of_le hi h.size) (fun hx=>by
   rcases hU i hx with h1 | h1
   ·exact hS h1
   ·omega)).trans (h.block i hi hS)⟩
theorem dH.mono {S U:List Nat} {a b:World} (h:dH S a b) (hU:∀ x∈S,x∈U):dH U a b :=
 ⟨h.os,h.tape,h.output,h.size,fun i hi hS=>h.block i hi (fun hx=>hS (hU i hx))⟩
theorem dH.of_grown {w w':World} {row:Option Nat} (h:w.grownBy w' row):dH row.toList w w' :=
 ⟨h.os,h.tape,h.output,h.size,fun k hk hS=>h.block k hk (fun e=>hS (by simp [← e]))⟩
theorem dH.alloc (S:List Nat) (w:World) (o:Obj):dH S w (w.alloc o):=(dH.of_grown (World.grownBy_alloc w o none)).mono (by simp)
theorem dH.drew (S:List Nat) (w:World):dH S w { w with drawn:=w.drawn+1 }:=⟨rfl,rfl,rfl,Nat.le_refl _,fun _ _ _=>rfl⟩
def kF (w:World) (a:Option Addr) (xs:List Value):Prop :=
 xs≠[]→∃ ad,a=some ad∧∀ j u,xs[j]? = some u→w.cell? (ad.add j)=some u
def bI (g:Gh) (w:World) (m:Md) (z:Nat) (x:Value) (n:Nat) (a:Option Addr) (xs:List Value) (o:List Nat):Prop :=
 match m with
 | .own T=>w.ownsRow 0 T z x n xs∧o=(x.ownBlock).toList
 | .ro=>o=[]∧(xs≠[]→∃ ad,a=some ad∧g.Imm ad.block)
 | .shr=>o=[]∧(xs≠[]→∃ ad,a=some ad∧g.imm ad.block)
def wE (g:Gh) (s:Bool) (b:Nat):Prop:=match s with
 | true=>g.imm b
 | false=>g.Imm b
mutual
def RI (g:Gh) (w:World) (s:Bool):IC→Value→Prop
 | .v y,x=>x=y
 | .row z cs,x=>∃ (vs:List Value) (a:Option Addr) (n c:Nat),(x = .slice a n c∧n≤c)∧vs.length=n * z∧(∀ u∈vs,u.oneCell'=true)∧kF w a vs∧(vs≠[]→∃ ad,a=some ad∧wE g s ad.block)∧ji g w s cs vs
def ji (g:Gh) (w:World) (s:Bool):List IC→List Value→Prop
 | [],xs=>xs=[]
 | c::cs,xs=>∃ x xs',xs=x::xs'∧RI g w s c x∧ji g w s cs xs'
end
theorem wO {g:Gh} {s:Bool} {b:Nat} (h:wE g s b):g.imm b:=by
 cases s
 ·exact .inl h
 ·exact h
theorem rb {g g':Gh} {s:Bool} {b:Nat} (hI:∀ b,g.Imm b→g'.Imm b) (hM:∀ b,g.Im b→g'.Im b) (h:wE g s b):wE g' s b:=by
 cases s
 ·exact hI _ h
 ·exact h.imp (hI _) (hM _)
mutual
theorem FG {g g':Gh} {w w':World} {s s':Bool} (hi:∀ b,wE g s b→wE g' s' b) (hw:∀ b,g.imm b→w'.heap[b]? = w.heap[b]?):∀ (c:IC) (x:Value),RI g w s c x→RI g' w' s' c x
 | .v y,x,h=>by simp only [RI] at *; exact h
 | .row z cs,x,h=>by
  simp only [RI] at *
  obtain ⟨vs,a,n,c,h1,h2,h3,h4,h5,h6⟩:=h
  refine ⟨vs,a,n,c,h1,h2,h3,fun hne => ?_,fun hne => ?_,fL hi hw cs vs h6⟩
  ·obtain ⟨ad,e,hc⟩:=h4 hne
   obtain ⟨ad',e',hb⟩:=h5 hne
   rw [e] at e'; cases e'
   refine ⟨ad,e,fun j u hu => ?_⟩
   rw [World.cell?_of_block (w:=w)]
   ·exact hc j u hu
   ·have:(ad.add j).block=ad.block:=by unfold Addr.add; split <;> rfl
    rw [this]; exact hw _ (wO hb)
  ·obtain ⟨ad,e,hb⟩:=h5 hne
   exact ⟨ad,e,hi _ hb⟩
theorem fL {g g':Gh} {w w':World} {s s':Bool} (hi:∀ b,wE g s b→wE g' s' b) (hw:∀ b,g.imm b→w'.heap[b]? = w.heap[b]?):∀ (cs:List IC) (xs:List Value),ji g w s cs xs→ji g' w' s' cs xs
 | [],xs,h=>by simp only [ji] at *; exact h
 | c::cs,xs,h=>by
  simp only [ji] at *
  obtain ⟨x,xs',h1,h2,h3⟩:=h
  exact ⟨x,xs',h1,FG hi hw c x h2,fL hi hw cs xs' h3⟩
end

mutual
def R (g:Gh) (V:bl→Value) (w:World):AV→Value→List Nat→Prop
 | .any,_,o=>o=[]
 | .v y,x,o=>x=y∧o=[]
 | .fl m z xs,x,o=>∃ a n c,(x = .slice a n c∧n≤c)∧xs.length=n * z∧(∀ u∈xs,u.oneCell'=true)∧kF w a xs∧bI g w m z x n a xs o
 | .agg cs,x,o=>∃ xs:List Value,x = .agg xs.toArray∧Rs g V w cs xs o
 | .tup cs,x,o=>∃ xs:List Value,x = .tuple xs.toArray∧Rs g V w cs xs o
 | .box T cs,x,o=>∃ (b:Nat) (xs:List Value) (os:List Nat),x = .pointer (some ⟨b,0,none⟩)∧o=b::os∧w.heap[b]? = some (.cells xs.toArray T (0,0))∧Rs g V w cs xs os
 | .same l,x,o=>x=V l∧o=[]
 | .ptr t off,x,o=>∃ b,V (.slot t) = .pointer (some ⟨b,0,none⟩)∧x = .pointer (some ⟨b,off,none⟩)∧o=[]
 | .eref l k,x,o=>∃ a n c,V l = .slice (some a) n c∧x = .pointer (some (a.add k))∧o=[]
 | .arr T vs,x,o=>∃ b:Nat,x = .pointer (some ⟨b,0,none⟩)∧o=[b]∧w.heap[b]? = some (.cells vs.toArray T (0,0))
 | .fr m s z cs,x,o=>∃ (vs:List Value) (a:Option Addr) (n c:Nat),(x = .slice a n c∧n≤c)∧vs.length=n * z∧(∀ u∈vs,u.oneCell'=true)∧kF w a vs∧bI g w m z x n a vs o∧ji g w s cs vs
 | .glob gl,_,o=>(∀ p∈gl,g.imm p.1∧∀ j,w.cell? ⟨p.1,j,none⟩=p.2[j]?)∧o=[]
 | .obox p T cs,x,o=>(p=true→∃ (b:Nat) (xs:List Value) (os:List Nat),x = .pointer (some ⟨b,0,none⟩)∧o=b::os∧w.heap[b]? = some (.cells xs.toArray T (0,0))∧Rs g V w cs xs os)∧(p=false→x = .pointer none∧o=[])
 | .cut l h,x,o=>∃ a n c,V l = .slice a n c∧h≤n∧(0<h→∃ A,a=some A)∧x = .slice a h c∧o=[]
 | .clo f ts,x,o=>x = .func (.func f) #[] (ts.map fun t=>V (.slot t)).toArray∧o=[]
 | .cloB f cs,x,o=>∃ xs:List Value,x = .func (.func f) #[] xs.toArray∧Rs g V w cs xs o
 | .inv J,_,o=>J.P g.Imm g.Im o w
 | .mkr E xs,x,o=>(x = .slice none 0 0∧xs=[]∧o=[])∨∃ (b k n cap:Nat) (cur:Array Value) (fz:Nat×Nat),x = .slice (some ⟨b,k,none⟩) n cap∧n≤cap∧xs.length=n∧(∀ u∈xs,u.oneCell'=true)∧w.heap[b]? = some (.cells cur E fz)∧(fz.2=0∨cur.size≤fz.1)∧k+cap≤cur.size∧(cur.toList.drop k).take n=xs∧o=[b]
 | .asl t n,x,o=>∃ b,V (.slot t) = .pointer (some ⟨b,0,none⟩)∧x = .slice (some ⟨b,0,none⟩) n n∧o=[]
 | .hid J,x,o=>J.P g.Imm g.Im x o w
def Rs (g:Gh) (V:bl→Value) (w:World):List AV→List Value→List Nat→Prop
 | [],xs,o=>xs=[]∧o=[]
 | c::cs,xs,o=>∃ x xs' o1 o2,xs=x::xs'∧o=o1++o2∧R g V w c x o1∧Rs g V w cs xs' o2
end

def fX (W:List bl) (l:bl):Bool :=
 W.any fun m=>decide (m=l)||match m,l with | .slot t,.cell t' _=>t==t' | _,_=>false
mutual
def eM (W:List bl):AV→Bool
 | .any=>true
 | .v _=>true
 | .fl .. => true
 | .agg cs=>di W cs
 | .tup cs=>di W cs
 | .box _ cs=>di W cs
 | .same l => !fX W l
 | .ptr t _ => !fX W (.slot t)
 | .eref l _ => !fX W l
 | .cut l _ => !fX W l
 | .arr .. => true
 | .fr .. => true
 | .glob _=>true
 | .obox _ _ cs=>di W cs
 | .clo _ ts=>ts.all fun t => !fX W (.slot t)
 | .cloB _ cs=>di W cs
 | .inv _=>true
 | .mkr .. => true
 | .asl t _ => !fX W (.slot t)
 | .hid _=>true
def di (W:List bl):List AV→Bool
 | []=>true
 | c::cs=>eM W c&&di W cs
end

theorem nN (W:List bl):∀ (cs ds:List AV),di W (cs++ds)=(di W cs&&di W ds)
 | [],ds=>by simp [di]
 | c::cs,ds=>by simp only [List.cons_append,di,nN W cs ds,Bool.and_assoc]
theorem rG {g g':Gh} {w w':World} {m:Md} {z n:Nat} {x:Value} {a:Option Addr} {xs:List Value} {o:List Nat}
  (hI:∀ b,g.Imm b→g'.Imm b) (hM:∀ b,g.Im b→g'.Im b) (hw:∀ b,b∈o→w'.heap[b]? = w.heap[b]?) (h:bI g w m z x n a xs o):bI g' w' m z x n a xs o:=by
 cases m with
 | own T =>
  obtain ⟨h1,h2⟩:=h
  refine ⟨⟨h1.1,?_⟩,h2⟩
  rcases h1.2 with h3 | ⟨b,cap,cur,hv,hb,hh,r⟩
  ·exact .inl h3
  ·refine .inr ⟨b,cap,cur,hv,hb,?_,r⟩
   rw [hw b (by rw [h2,hv]; simp [Value.ownBlock])]; exact hh
 | ro=>exact ⟨h.1,fun hne=>let ⟨ad,e,hi⟩:=h.2 hne; ⟨ad,e,hI _ hi⟩⟩
 | shr=>exact ⟨h.1,fun hne=>let ⟨ad,e,hi⟩:=h.2 hne; ⟨ad,e,hi.imp (hI _) (hM _)⟩⟩
theorem vF {g:Gh} {w:World} {m:Md} {z n c:Nat} {a:Option Addr} {xs:List Value} {o:List Nat} {ad:Addr}
  (h:bI g w m z (.slice a n c) n a xs o) (hne:xs≠[]) (ha:a=some ad):ad.block∈o∨g.imm ad.block:=by
 subst ha
 cases m with
 | own T=>exact .inl (by rw [h.2]; simp [Value.ownBlock])
 | ro=>obtain ⟨ad',e,hi⟩:=h.2 hne; cases e; exact .inr (.inl hi)
 | shr=>obtain ⟨ad',e,hi⟩:=h.2 hne; cases e; exact .inr hi
theorem tn {g:Gh} {w w':World} {m:Md} {z n c:Nat} {a:Option Addr} {xs:List Value} {o:List Nat}
  (hm:bI g w m z (.slice a n c) n a xs o) (hw:∀ b,(b∈o∨g.imm b)→w'.heap[b]? = w.heap[b]?) (h:kF w a xs):kF w' a xs:=by
 intro hne
 obtain ⟨ad,e,hc⟩:=h hne
 refine ⟨ad,e,fun j u hu => ?_⟩
 have hb:=vF hm hne e
 rw [World.cell?_of_block (w:=w)]
 ·exact hc j u hu
 ·have:(ad.add j).block=ad.block:=by unfold Addr.add; split <;> rfl
  rw [this]; exact hw _ hb
mutual
theorem ka {g g':Gh} {V V':bl→Value} {w w':World} {W:List bl}
  (hI:∀ b,g.Imm b→g'.Imm b) (hM:∀ b,g.Im b→g'.Im b) (hV:∀ l,fX W l=false→V' l=V l) :
  ∀ (av:AV) (x:Value) (o:List Nat),eM W av=true→(∀ b,(b∈o∨g.imm b)→w'.heap[b]? = w.heap[b]?)→R g V w av x o→R g' V' w' av x o
 | .any,x,o,_,_,h=>by simp only [R] at *; exact h
 | .v y,x,o,_,_,h=>by simp only [R] at *; exact h
 | .fl m z xs,x,o,_,hw,h=>by
  simp only [R] at *
  obtain ⟨a,n,c,⟨rfl,hnc⟩,hl,h1,hr,hm⟩:=h
  exact ⟨a,n,c,⟨rfl,hnc⟩,hl,h1,tn hm hw hr,rG hI hM (fun b hb=>hw b (.inl hb)) hm⟩
 | .agg cs,x,o,hc,hw,h=>by
  simp only [R,eM] at *
  obtain ⟨xs,rfl,h⟩:=h
  exact ⟨xs,rfl,dk hI hM hV cs xs o hc hw h⟩
 | .tup cs,x,o,hc,hw,h=>by
  simp only [R,eM] at *
  obtain ⟨xs,rfl,h⟩:=h
  exact ⟨xs,rfl,dk hI hM hV cs xs o hc hw h⟩
 | .box T cs,x,o,hc,hw,h=>by
  simp only [R,eM] at *
  obtain ⟨b,xs,os,rfl,rfl,hb,h⟩:=h
  exact ⟨b,xs,os,rfl,rfl,by rw [hw b (.inl (by simp))]; exact hb,dk hI hM hV cs xs os hc (fun b' hb'=>hw b' (hb'.imp (fun h=>by simp [h]) id)) h⟩
 | .same l,x,o,hc,_,h=>by
  simp only [R,eM,Bool.not_eq_true'] at *
  rw [hV l hc]; exact h
 | .ptr t off,x,o,hc,_,h=>by
  simp only [R,eM,Bool.not_eq_true'] at *
  rw [hV _ hc]; exact h
 | .eref l k,x,o,hc,_,h=>by
  simp only [R,eM,Bool.not_eq_true'] at *
  rw [hV l hc]; exact h
 | .cut l k,x,o,hc,_,h=>by
  simp only [R,eM,Bool.not_eq_true'] at *
  rw [hV l hc]; exact h
 | .arr T vs,x,o,_,hw,h=>by
  simp only [R] at *
  obtain ⟨b,rfl,rfl,hb⟩:=h
  exact ⟨b,rfl,rfl,by rw [hw b (.inl (by simp))]; exact hb⟩
 | .fr m s z cs,x,o,_,hw,h=>by
  simp only [R] at *
  obtain ⟨vs,a,n,c,⟨rfl,hnc⟩,hl,h1,hr,hm,hi⟩:=h
  exact ⟨vs,a,n,c,⟨rfl,hnc⟩,hl,h1,tn hm hw hr,rG hI hM (fun b hb=>hw b (.inl hb)) hm,fL (fun b h=>rb hI hM h) (fun b hb=>hw b (.inr hb)) cs vs hi⟩
 | .glob gl,x,o,_,hw,h=>by
  simp only [R] at *
  refine ⟨fun p hp => ?_,h.2⟩
  obtain ⟨h1,h2⟩:=h.1 p hp
  refine ⟨h1.imp (hI _) (hM _),fun j => ?_⟩
  rw [World.cell?_of_block (w:=w)]
  ·exact h2 j
  ·exact hw _ (.inr h1)
 | .obox p T cs,x,o,hc,hw,h=>by
  simp only [R,eM] at *
  refine ⟨fun hp => ?_,h.2⟩
  obtain ⟨b,xs,os,rfl,rfl,hb,h⟩:=h.1 hp
  exact ⟨b,xs,os,rfl,rfl,by rw [hw b (.inl (by simp))]; exact hb,dk hI hM hV cs xs os hc (fun b' hb'=>hw b' (hb'.imp (fun h=>by simp [h]) id)) h⟩
 | .clo f ts,x,o,hc,_,h=>by
  simp only [R,eM,List.all_eq_true,Bool.not_eq_true'] at *
  refine ⟨?_,h.2⟩
  rw [h.1]
  congr 2
  exact List.map_congr_left fun t ht=>(hV _ (hc t ht)).symm
 | .cloB f cs,x,o,hc,hw,h=>by
  simp only [R,eM] at *
  obtain ⟨xs,rfl,h⟩:=h
  exact ⟨xs,rfl,dk hI hM hV cs xs o hc hw h⟩
 | .inv J,x,o,_,hw,h=>by
  simp only [R] at *
  exact J.stab _ _ _ _ o w w' hI hM hw h
 | .mkr E xs,x,o,_,hw,h=>by
  simp only [R] at *
  rcases h with h | ⟨b,k,n,cap,cur,fz,h1,h2,h3,h4,h5,h6,h7,h8,rfl⟩
  ·exact .inl h
  ·exact .inr ⟨b,k,n,cap,cur,fz,h1,h2,h3,h4,by rw [hw b (.inl (by simp))]; exact h5,h6,h7,h8,rfl⟩
 | .asl t n,x,o,hc,_,h=>by
  simp only [R,eM,Bool.not_eq_true'] at *
  rw [hV _ hc]; exact h
 | .hid J,x,o,_,hw,h=>by
  simp only [R] at *
  exact J.stab _ _ _ _ x o w w' hI hM hw h
theorem dk {g g':Gh} {V V':bl→Value} {w w':World} {W:List bl}
  (hI:∀ b,g.Imm b→g'.Imm b) (hM:∀ b,g.Im b→g'.Im b) (hV:∀ l,fX W l=false→V' l=V l) :
  ∀ (cs:List AV) (xs:List Value) (o:List Nat),di W cs=true→(∀ b,(b∈o∨g.imm b)→w'.heap[b]? = w.heap[b]?)→Rs g V w cs xs o→Rs g' V' w' cs xs o
 | [],xs,o,_,_,h=>by simp only [Rs] at *; exact h
 | c::cs,xs,o,hc,hw,h=>by
  simp only [Rs,di,Bool.and_eq_true] at *
  obtain ⟨x,xs',o1,o2,rfl,rfl,h1,h2⟩:=h
  exact ⟨x,xs',o1,o2,rfl,rfl,ka hI hM hV c x o1 hc.1 (fun b hb=>hw b (hb.imp (fun h=>by simp [h]) id)) h1,
   dk hI hM hV cs xs' o2 hc.2 (fun b hb=>hw b (hb.imp (fun h=>by simp [h]) id)) h2⟩
end

def ER (g:Gh) (V:bl→Value) (w:World) (e:aE) (o:List Nat):Prop :=
 R g V w e.2 (V (.slot e.1)) o ∧
 match e.2 with
 | .box _ cs=>∀ b,V (.slot e.1) = .pointer (some ⟨b,0,none⟩)→∀ i,i<cs.length→w.cell? ⟨b,i,none⟩=some (V (.cell e.1 i))
 | _=>True
def Es (g:Gh) (V:bl→Value) (w:World):List aE→List Nat→Prop
 | [],o=>o=[]
 | e::es,o=>∃ o1 o2,o=o1++o2∧ER g V w e o1∧Es g V w es o2
def GW:AV→Bool
 | .box .. => true
 | _=>false
def bJ (W:List bl) (e:aE):Bool :=
 !fX W (.slot e.1)&&eM W e.2&&(!GW e.2||W.all fun m=>match m with | .cell t _=>t != e.1 | _=>true)
theorem wX {W:List bl} {e:aE} (h:bJ W e=true) (htied:GW e.2=true) (i:Nat):fX W (.cell e.1 i)=false:=by
 simp only [bJ,htied,Bool.not_true,Bool.false_or,Bool.and_eq_true,Bool.not_eq_true',List.all_eq_true] at h
 obtain ⟨⟨h1,_⟩,h3⟩:=h
 simp only [fX,List.any_eq_false] at *
 intro m hm
 have h1':=h1 m hm
 have h3':=h3 m hm
 cases m with
 | slot t=>simpa using h1'
 | cell t o=>simp at h3' ⊢; intro e; exact absurd e h3'
theorem Av {g g':Gh} {V V':bl→Value} {w w':World} {W:List bl}
  (hI:∀ b,g.Imm b→g'.Imm b) (hM:∀ b,g.Im b→g'.Im b) (hV:∀ l,fX W l=false→V' l=V l)
  (e:aE) (o:List Nat) (hc:bJ W e=true) (hw:∀ b,(b∈o∨g.imm b)→w'.heap[b]? = w.heap[b]?) (h:ER g V w e o):ER g' V' w' e o:=by
 obtain ⟨h1,h2⟩:=h
 have hcc:=fun (ht:GW e.2=true)=>wX hc ht
 have hc':=hc
 simp only [bJ,Bool.and_eq_true,Bool.not_eq_true'] at hc'
 obtain ⟨⟨hs,hcl⟩,_⟩:=hc'
 have hslot:V' (.slot e.1)=V (.slot e.1):=hV _ hs
 refine ⟨by rw [hslot]; exact ka hI hM hV _ _ _ hcl hw h1,?_⟩
 obtain ⟨t,av⟩:=e
 cases av <;> try trivial
 case box T cs =>
  intro b hb i hi
  rw [hslot] at hb
  simp only [R] at h1
  obtain ⟨b',xs,os,hx,rfl,hh,_⟩:=h1
  dsimp only at hb hi hcc h2 hx hslot
  rw [hb] at hx
  cases hx
  rw [World.cell?_of_block (w:=w) (hw b (.inl (by simp))),hV _ (hcc rfl i)]
  exact h2 b hb i hi
theorem dF {g g':Gh} {V V':bl→Value} {w w':World} {W:List bl}
  (hI:∀ b,g.Imm b→g'.Imm b) (hM:∀ b,g.Im b→g'.Im b) (hV:∀ l,fX W l=false→V' l=V l) :
  ∀ (es:List aE) (o:List Nat),(∀ e∈es,bJ W e=true)→(∀ b,(b∈o∨g.imm b)→w'.heap[b]? = w.heap[b]?)→Es g V w es o→Es g' V' w' es o
 | [],o,_,_,h=>h
 | e::es,o,hc,hw,h=>by
  obtain ⟨o1,o2,rfl,h1,h2⟩:=h
  exact ⟨o1,o2,rfl,Av hI hM hV e o1 (hc e (by simp)) (fun b hb=>hw b (hb.imp (fun h=>by simp [h]) id)) h1,
   dF hI hM hV es o2 (fun e' he'=>hc e' (by simp [he'])) (fun b hb=>hw b (hb.imp (fun h=>by simp [h]) id)) h2⟩
theorem aH {g:Gh} {V:bl→Value} {w:World}:∀ {es fs:List aE} {o:List Nat},Es g V w (es++fs) o↔∃ o1 o2,o=o1++o2∧Es g V w es o1∧Es g V w fs o2
 | [],fs,o=>by
  constructor
  ·intro h; exact ⟨[],o,rfl,rfl,h⟩
  ·rintro ⟨o1,o2,rfl,h1,h2⟩; cases h1; exact h2
 | e::es,fs,o=>by
  constructor
  ·rintro ⟨o1,o2,rfl,h1,h2⟩
   obtain ⟨o3,o4,rfl,h3,h4⟩:=aH.1 h2
   exact ⟨o1++o3,o4,by simp,⟨o1,o3,rfl,h1,h3⟩,h4⟩
  ·rintro ⟨o1,o2,rfl,⟨o3,o4,rfl,h3,h4⟩,h2⟩
   exact ⟨o3,o4++o2,by simp,h3,aH.2 ⟨o4,o2,rfl,h4,h2⟩⟩
theorem Ff {g:Gh} {V:bl→Value} {w:World} {es fs:List aE} (hp:es.Perm fs):∀ {o:List Nat},Es g V w es o→∃ o',o.Perm o'∧Es g V w fs o':=by
 induction hp with
 | nil=>intro o h; exact ⟨o,.refl _,h⟩
 | cons e _ ih =>
  rintro o ⟨o1,o2,rfl,h1,h2⟩
  obtain ⟨o',hp',h'⟩:=ih h2
  exact ⟨o1++o',hp'.append_left o1,o1,o',rfl,h1,h'⟩
 | swap a b l =>
  rintro o ⟨o1,o2,rfl,h1,o3,o4,rfl,h3,h4⟩
  refine ⟨o3++(o1++o4),?_,o3,o1++o4,rfl,h3,o1,o4,rfl,h1,h4⟩
  rw [← List.append_assoc,← List.append_assoc]
  exact List.perm_append_comm.append_right _
 | trans _ _ ih1 ih2 =>
  intro o h
  obtain ⟨o1,p1,h1⟩:=ih1 h
  obtain ⟨o2,p2,h2⟩:=ih2 h1
  exact ⟨o2,p1.trans p2,h2⟩
def DJ (D:Nat):Deferred:={ target := .collected D,args := #[] }
def FW (r:Option Nat):Fence:={ Fence.wide with round:=r }
structure St (g:Gh) (V:bl→Value) (o:List Nat) (a:Act) (w:World):Prop where
 val:∀ t,V (.slot t)=a.tmps.getD t undef
 size:a.tmps.size=g.n
 defers:a.defers=g.ds.map DJ
 dnd:g.ds.Nodup
 marks:∀ D∈g.ds,w.heap[D]? = some (.deferred (some []))∧D ∉ o∧g.w0.heap.size≤D∧¬ g.imm D
 nodup:o.Nodup
 own:∀ b∈o,b<w.heap.size∧(g.w0.heap.size≤b∨b∈g.io)∧¬ g.imm b
 imm:∀ b,g.imm b→b<w.heap.size
 chg:dH g.io g.w0 w
def fg (g:Gh) (es:List aE) (a:Act) (w:World):Prop:=∃ V o,St g V o a w∧Es g V w es o
theorem fg.perm {g:Gh} {es fs:List aE} {a:Act} {w:World} (h:fg g es a w) (hp:es.Perm fs):fg g fs a w:=by
 obtain ⟨V,o,hs,he⟩:=h
 obtain ⟨o',hp',he'⟩:=Ff hp he
 exact ⟨V,o',⟨hs.val,hs.size,hs.defers,hs.dnd,fun D hD=>let ⟨h1,h2,h3⟩:=hs.marks D hD; ⟨h1,fun hm=>h2 (hp'.mem_iff.2 hm),h3⟩,hp'.nodup_iff.1 hs.nodup,fun b hb=>hs.own b (hp'.mem_iff.2 hb),hs.imm,hs.chg⟩,he'⟩
theorem fg.dropLeft {g:Gh} {es fs:List aE} {a:Act} {w:World} (h:fg g (es++fs) a w):fg g fs a w:=by
 obtain ⟨V,o,hs,he⟩:=h
 obtain ⟨o1,o2,rfl,_,h2⟩:=aH.1 he
 exact ⟨V,o2,⟨hs.val,hs.size,hs.defers,hs.dnd,fun D hD=>let ⟨h1,h2,h3⟩:=hs.marks D hD; ⟨h1,fun hm=>h2 (by simp [hm]),h3⟩,(List.nodup_append.1 hs.nodup).2.1,fun b hb=>hs.own b (by simp [hb]),hs.imm,hs.chg⟩,h2⟩
theorem fg.sub {g:Gh} {es fs:List aE} {a:Act} {w:World} (h:fg g es a w) (hs:∃ ds,es.Perm (ds++fs)):fg g fs a w :=
 let ⟨_,hp⟩:=hs; (h.perm hp).dropLeft
end Go.Abs
end
section
namespace Go.Abs
def aN (P:Program) (o:Oper) (N T G:List aE) (W:List bl):Prop :=
 ∀ (g:Gh) (F:List aE) (a:Act) (w:World) (K:Act→World→Prop) (Q:Exit→Act→World→Prop),(∀ d,o.dst=some d→d<g.n) →
  fg g (N++(T++F)) a w→(∀ e∈N++F,bJ W e=true) →
  (∀ g' a' w',g.le g'→fg g' (N++(G++F)) a' w'→K a' w')→∀ r,o.wpIn (FW r) 0 P a w K Q
def rT (P:Program) (ops:Array Oper) (i:Nat) (N T G:List aE) (W:List bl):Prop :=
 ∀ (g:Gh) (F:List aE) (a:Act) (w:World) (K:Act→World→Prop) (Q:Exit→Act→World→Prop),(∀ d,(ops[i]?).bind Oper.dst=some d→d<g.n) →
  fg g (N++(T++F)) a w→(∀ e∈N++F,bJ W e=true) →
  (∀ g' a' w',g.le g'→fg g' (N++(G++F)) a' w'→K a' w')→∀ r,wpOpIn (FW r) 0 P ops Q i K a w
theorem rT.plain {P:Program} {ops:Array Oper} {i:Nat} {o:Oper} {N T G:List aE} {W:List bl} (ho:ops[i]? = some o) (hg:o.guard=none)
  (h:aN P o N T G W):rT P ops i N T G W:=by
 intro g F a w K Q hd hs hc hk r
 unfold wpOpIn
 rw [ho]
 simp only [Region.wanted,hg,if_true]
 exact h g F a w K Q (fun d hd'=>hd d (by simp [ho,hd'])) hs hc hk r
theorem wF {g:Gh} {V:bl→Value} {w:World} {e:aE}:∀ {es:List aE} {o:List Nat},Es g V w es o→e∈es→∃ o',(∀ b∈o',b∈o)∧ER g V w e o'
 | [],_,_,hm=>by cases hm
 | e'::es,o,h,hm=>by
  obtain ⟨o1,o2,rfl,h1,h2⟩:=h
  rcases List.mem_cons.1 hm with rfl | hm
  ·exact ⟨o1,fun b hb=>by simp [hb],h1⟩
  ·obtain ⟨o',hs,h⟩:=wF h2 hm
   exact ⟨o',fun b hb=>by simp [hs b hb],h⟩
theorem fg.bool {g:Gh} {es:List aE} {a:Act} {w:World} {d:Nat} {b:Bool} (h:fg g es a w) (hm:(d,AV.v (.bool b))∈es):a.tmps.getD d undef = .bool b:=by
 obtain ⟨V,o,hs,he⟩:=h
 obtain ⟨o',_,hr,_⟩:=wF he hm
 simp only [R] at hr
 rw [← hs.val]; exact hr.1
theorem vf {ops:Array Oper} {o:Oper} {tmps:Array Value} {j d:Nat} {want b:Bool} {oj:Oper} (hg:o.guard=some (j,want)) (hj:ops[j]? = some oj) (hd:oj.dst=some d)
  (hb:tmps.getD d undef = .bool b):Region.wanted o (yielded ops tmps)=(b==want):=by
 simp only [Region.wanted,hg,yielded,hj,Option.bind_some,hd]
 have:tmps.getD d undef = .bool b:=hb
 simp only [Array.getD_eq_getD_getElem?] at this
 cases hx:tmps[d]? with
 | none=>simp [hx,undef] at this
 | some x=>simp [hx] at this; subst this; cases b <;> cases want <;> rfl
theorem rT.run {P:Program} {ops:Array Oper} {i:Nat} {o:Oper} {N T G:List aE} {W:List bl} (j d:Nat) (want:Bool) (oj:Oper) (ho:ops[i]? = some o) (hg:o.guard=some (j,want))
  (hj:ops[j]? = some oj) (hd:oj.dst=some d) (hN:(d,AV.v (.bool want))∈N) (h:aN P o N T G W):rT P ops i N T G W:=by
 intro g F a w K Q hd' hs hc hk r
 unfold wpOpIn
 rw [ho]
 have hb:=hs.bool (d:=d) (b:=want) (by simp [hN])
 simp only [vf hg hj hd hb,BEq.rfl,if_true]
 exact h g F a w K Q (fun d hd''=>hd' d (by simp [ho,hd''])) hs hc hk r
theorem gJ (a:Act) (d t:Nat) (v:Value) (hd:d<a.tmps.size):(a.put (some d) v).tmps.getD t undef=if t=d then v else a.tmps.getD t undef:=by
 simp only [Act.put,Array.getD_eq_getD_getElem?]
 by_cases h:t=d
 ·subst h; simp [hd]
 ·rw [Array.getElem?_setIfInBounds_ne (fun e=>h e.symm),if_neg h]
theorem St.put {g:Gh} {V:bl→Value} {o:List Nat} {a:Act} {w:World} (h:St g V o a w) (d:Nat) (x:Value) (hd:d<g.n) :
  St g (fun l=>match l with | .slot t=>if t=d then x else V (.slot t) | .cell t i=>V (.cell t i)) o (a.put (some d) x) w :=
 ⟨fun t=>by rw [gJ a d t x (by rw [h.size]; exact hd)]; simp only [h.val],by simp [Act.put,h.size],h.defers,h.dnd,h.marks,h.nodup,h.own,h.imm,h.chg⟩
theorem mo (d:Nat) (l:bl) (h:fX [.slot d] l=false):(match l with | .slot t=>t≠d | .cell t _=>t≠d):=by
 simp only [fX,List.any_cons,List.any_nil,Bool.or_false,Bool.or_eq_false_iff,decide_eq_false_iff_not] at h
 cases l with
 | slot t=>intro e; exact h.1 (by rw [e])
 | cell t i=>intro e; simp [e] at h
theorem fg.undef {g:Gh} {es:List aE} {a:Act} {w:World} {d:Nat} (h:fg g es a w) (hm:(d,AV.v undef)∈es):a.tmps.getD d undef=undef:=by
 obtain ⟨V,o,hst,he⟩:=h
 obtain ⟨o',_,hR,_⟩:=wF he hm
 simp only [R] at hR
 rw [← hst.val]; exact hR.1
theorem wg {ops:Array Oper} {o:Oper} {tmps:Array Value} {j d:Nat} {want:Bool} {oj:Oper} (hg:o.guard=some (j,want)) (hj:ops[j]? = some oj) (hd:oj.dst=some d)
  (hb:tmps.getD d undef=undef):Region.wanted o (yielded ops tmps)=false:=by
 simp only [Region.wanted,hg,yielded,hj,Option.bind_some,hd]
 simp only [Array.getD_eq_getD_getElem?] at hb
 cases hx:tmps[d]? with
 | none=>cases want <;> rfl
 | some x=>simp [hx] at hb; subst hb; cases want <;> rfl
theorem rT.skip {P:Program} {ops:Array Oper} {i:Nat} {o:Oper} {N:List aE} (j d dd:Nat) (want:Bool) (oj:Oper) (ho:ops[i]? = some o) (hg:o.guard=some (j,want))
  (hj:ops[j]? = some oj) (hd:oj.dst=some d) (hdd:o.dst=some dd) (hN:(d,AV.v (.bool (!want)))∈N):rT P ops i N [] [(dd,.v undef)] [.slot dd]:=by
 intro g F a w K Q hd' hs hc hk r
 unfold wpOpIn
 rw [ho]
 have hb:=hs.bool (d:=d) (b := !want) (by simp [hN])
 have hw:Region.wanted o (yielded ops a.tmps)=false:=by rw [vf hg hj hd hb]; cases want <;> rfl
 simp only [hw]
 obtain ⟨V,ow,hst,hes⟩:=hs
 have hlt:dd<g.n:=hd' dd (by simp [ho,hdd])
 have hst':=hst.put dd undef hlt
 rw [hdd]
 refine ⟨fun _ _=>trivial,hk g _ w g.le_refl ⟨_,_,hst',?_⟩⟩
 simp only [List.nil_append] at hes
 obtain ⟨o1,o2,rfl,h1,h2⟩:=aH.1 hes
 have stab:=fun es o hcl hh=>dF (g:=g) (g':=g) (V:=V) (V':=(fun l=>match l with | .slot t=>if t=dd then undef else V (.slot t) | .cell t i=>V (.cell t i))) (w:=w) (w':=w) (W:=[.slot dd])
  (fun _ h=>h) (fun _ h=>h) (fun l hl=>by have:=mo dd l hl; cases l <;> simp_all) es o hcl (fun _ _=>rfl) hh
 refine aH.2 ⟨o1,o2,rfl,stab _ _ (fun e he=>hc e (by simp [he])) h1,[],o2,rfl,⟨by simp [R],trivial⟩,stab _ _ (fun e he=>hc e (List.mem_append.2 (.inr he))) h2⟩
theorem rT.skipU {P:Program} {ops:Array Oper} {i:Nat} {o:Oper} {N:List aE} (j d dd:Nat) (want:Bool) (oj:Oper) (ho:ops[i]? = some o) (hg:o.guard=some (j,want))
  (hj:ops[j]? = some oj) (hd:oj.dst=some d) (hdd:o.dst=some dd) (hN:(d,AV.v undef)∈N):rT P ops i N [] [(dd,.v undef)] [.slot dd]:=by
 intro g F a w K Q hd' hs hc hk r
 unfold wpOpIn
 rw [ho]
 have hb:=hs.undef (d:=d) (by simp [hN])
 have hw:Region.wanted o (yielded ops a.tmps)=false:=wg hg hj hd hb
 simp only [hw]
 obtain ⟨V,ow,hst,hes⟩:=hs
 have hlt:dd<g.n:=hd' dd (by simp [ho,hdd])
 have hst':=hst.put dd undef hlt
 rw [hdd]
 refine ⟨fun _ _=>trivial,hk g _ w g.le_refl ⟨_,_,hst',?_⟩⟩
 simp only [List.nil_append] at hes
 obtain ⟨o1,o2,rfl,h1,h2⟩:=aH.1 hes
 have stab:=fun es o hcl hh=>dF (g:=g) (g':=g) (V:=V) (V':=(fun l=>match l with | .slot t=>if t=dd then undef else V (.slot t) | .cell t i=>V (.cell t i))) (w:=w) (w':=w) (W:=[.slot dd])
  (fun _ h=>h) (fun _ h=>h) (fun l hl=>by have:=mo dd l hl; cases l <;> simp_all) es o hcl (fun _ _=>rfl) hh
 refine aH.2 ⟨o1,o2,rfl,stab _ _ (fun e he=>hc e (by simp [he])) h1,[],o2,rfl,⟨by simp [R],trivial⟩,stab _ _ (fun e he=>hc e (List.mem_append.2 (.inr he))) h2⟩
mutual
theorem ja:∀ (av:AV),eM [] av=true
 | .any=>by simp [eM]
 | .v _=>by simp [eM]
 | .fl .. => by simp [eM]
 | .agg cs=>by simp only [eM]; exact jb cs
 | .tup cs=>by simp only [eM]; exact jb cs
 | .box _ cs=>by simp only [eM]; exact jb cs
 | .same l=>by simp [eM,fX]
 | .ptr t _=>by simp [eM,fX]
 | .eref l _=>by simp [eM,fX]
 | .cut l _=>by simp [eM,fX]
 | .arr .. => rfl
 | .fr .. => rfl
 | .glob _=>rfl
 | .obox _ _ cs=>by simp only [eM]; exact jb cs
 | .clo _ ts=>by simp [eM,fX]
 | .cloB _ cs=>by simp only [eM]; exact jb cs
 | .inv _=>rfl
 | .mkr .. => rfl
 | .asl t _=>by simp [eM,fX]
 | .hid _=>rfl
theorem jb:∀ (cs:List AV),di [] cs=true
 | []=>by simp [di]
 | c::cs=>by simp only [di,ja c,jb cs,Bool.and_self]
end

theorem uU (p q:Nat→Bool):∀ (l:List Nat),(∀ j∈l,p j=true→q j=true)→∀ i∈l,q i=true→p i=false→l.countP p<l.countP q
 | [],_,i,hi,_,_=>by cases hi
 | x::l,himp,i,hi,hq,hp=>by
  have hle:l.countP p≤l.countP q:=List.countP_mono_left fun j hj h=>himp j (by simp [hj]) h
  rcases List.mem_cons.1 hi with rfl | hi
  ·simp [hq,hp]; omega
  ·have ih:=uU p q l (fun j hj=>himp j (by simp [hj])) i hi hq hp
   simp only [List.countP_cons]
   have hx:=himp x (by simp)
   cases hpx:p x <;> cases hqx:q x <;> simp_all <;> omega
structure Sp where
 N:List Nat
 T:List Nat
 G:List Nat
 W:List bl
def fJ (e:Nat):List Nat→Bool
 | []=>false
 | x::r=>Nat.beq e x||fJ e r
theorem cI {e:Nat}:∀ {l:List Nat},fJ e l=true↔e∈l
 | []=>by simp [fJ]
 | x::r=>by simp [fJ,cI (l:=r)]
def uv (n:Nat) (f:Nat→Bool):Bool:=Nat.rec true (fun k r=>f k&&r) n
theorem iP {f:Nat→Bool}:∀ {n:Nat},uv n f=true↔∀ k,k<n→f k=true
 | 0=>⟨fun _ k hk=>absurd hk (by omega),fun _=>rfl⟩
 | n+1=>by
  have ih:=iP (f:=f) (n:=n)
  show (f n&&uv n f)=true↔_
  rw [Bool.and_eq_true,ih]
  constructor
  ·rintro ⟨h1,h2⟩ k hk
   rcases Nat.lt_succ_iff_lt_or_eq.1 hk with h | rfl
   ·exact h2 k h
   ·exact h1
  ·intro h; exact ⟨h n (by omega),fun k hk=>h k (by omega)⟩
def CE (sps:List Sp) (i:Nat):Sp:=(sps[i]?).getD ⟨[],[],[],[]⟩
structure Fq (n m:Nat) (E:Nat→aE) (init:List Nat) (sp:Nat→Sp) (pre:Nat→Nat→Bool):Prop where
 init_lt:∀ e∈init,e<m
 init_nodup:init.Nodup
 avail:∀ i,i<n→∀ e,e∈(sp i).N++(sp i).T→e<m∧(e∈init∨∃ j,j<n∧pre i j=true∧e∈(sp j).G)
 kept:∀ i k,i<n→k<n→k≠i→∀ e,e∈(sp i).N++(sp i).T→e∈(sp k).T→pre k i=true
 made:∀ i,i<n→∀ e,e∈(sp i).G→e<m∧e ∉ init∧(∀ k,k<n→e∈(sp k).T→pre k i=true∧k≠i)∧(∀ k,k<n→k≠i→e ∉ (sp k).G)
 nodup:∀ i,i<n→((sp i).N++(sp i).T).Nodup∧(sp i).G.Nodup∧∀ e∈(sp i).G,e ∉ (sp i).N++(sp i).T
 clear:∀ i,i<n→∀ e,e<m→e ∉ (sp i).T→(∀ j,j<n→e∈(sp j).G→j≠i∧pre j i=false)→(∀ k,k<n→e∈(sp k).T→pre i k=false)→bJ (sp i).W (E e)=true
section
variable {n m:Nat} {E:Nat→aE} {init:List Nat} {sp:Nat→Sp} {pre:Nat→Nat→Bool}
def zT (n:Nat) (init:List Nat) (sp:Nat→Sp) (L:Nat→Bool) (e:Nat):Prop :=
 (e∈init∨∃ j,j<n∧L j=true∧e∈(sp j).G)∧∀ k,k<n→L k=true→e ∉ (sp k).T
open Classical in
noncomputable def dz (n m:Nat) (init:List Nat) (sp:Nat→Sp) (L:Nat→Bool):List Nat:=(List.range m).filter fun e=>decide (zT n init sp L e)
theorem eD {L:Nat→Bool} {e:Nat}:e∈dz n m init sp L↔e<m∧zT n init sp L e:=by simp [dz]
theorem gp {L:Nat→Bool}:(dz n m init sp L).Nodup:=List.Nodup.sublist List.filter_sublist List.nodup_range
theorem BM (hp:Fq n m E init sp pre) {L:Nat→Bool} {i:Nat} (hi:i<n) (hL:L i=false) (hpre:∀ j,j<n→pre i j=true→L j=true)
  (hcl:∀ i,i<n→L i=true→∀ j,j<n→pre i j=true→L j=true) :
  ∃ F:List Nat,(dz n m init sp L).Perm ((sp i).N++((sp i).T++F)) ∧
   (dz n m init sp (fun j=>L j||j==i)).Perm ((sp i).N++((sp i).G++F))∧∀ e∈(sp i).N++F,bJ (sp i).W (E e)=true:=by
 have hav:∀ e,e∈(sp i).N++(sp i).T→e∈dz n m init sp L:=by
  intro e he
  obtain ⟨h1,h2⟩:=hp.avail i hi e he
  refine eD.2 ⟨h1,?_,?_⟩
  ·rcases h2 with h2 | ⟨j,hj,hpj,hg⟩
   ·exact .inl h2
   ·exact .inr ⟨j,hj,hpre j hj hpj,hg⟩
  ·intro k hk hLk hT
   have hne:k≠i:=fun e=>by subst e; simp [hL] at hLk
   have:=hcl k hk hLk i hi (hp.kept i k hi hk hne e he hT)
   simp [hL] at this
 obtain ⟨nd1,nd2,nd3⟩:=hp.nodup i hi
 let F:=(dz n m init sp L).filter fun e => !fJ e ((sp i).N++(sp i).T)
 have hF:∀ e,e∈F↔e∈dz n m init sp L∧e ∉ (sp i).N++(sp i).T:=by
  intro e
  simp only [F,List.mem_filter,Bool.not_eq_true']
  refine and_congr_right fun _ => ?_
  rw [← cI (l:=(sp i).N++(sp i).T)]; simp
 have ndF:F.Nodup:=List.Nodup.sublist List.filter_sublist gp
 have gS:∀ e∈(sp i).G,e ∉ dz n m init sp L:=by
  intro e he hs
  obtain ⟨_,h2,_,h4⟩:=hp.made i hi e he
  obtain ⟨_,h5,_⟩:=eD.1 hs
  rcases h5 with h5 | ⟨j,hj,hLj,hg⟩
  ·exact h2 h5
  ·exact h4 j hj (fun e=>by subst e; simp [hL] at hLj) hg
 have nd1':=List.nodup_append.1 nd1
 refine ⟨F,?_,?_,?_⟩
 ·refine (List.perm_ext_iff_of_nodup gp ?_).2 fun e => ?_
  ·rw [← List.append_assoc]
   exact List.nodup_append.2 ⟨nd1,ndF,fun a ha b hb e=>by subst e; exact ((hF _).1 hb).2 ha⟩
  ·rw [← List.append_assoc,List.mem_append,hF]
   constructor
   ·intro h
    by_cases h':e∈(sp i).N++(sp i).T
    ·exact .inl h'
    ·exact .inr ⟨h,h'⟩
   ·rintro (h | h)
    ·exact hav e h
    ·exact h.1
 ·refine (List.perm_ext_iff_of_nodup gp ?_).2 fun e => ?_
  ·refine List.nodup_append.2 ⟨nd1'.1,List.nodup_append.2 ⟨nd2,ndF,fun a ha b hb e=>by subst e; exact gS _ ha ((hF _).1 hb).1⟩,fun a ha b hb e => ?_⟩
   subst e
   rcases List.mem_append.1 hb with h | h
   ·exact nd3 _ h (by simp [ha])
   ·exact ((hF _).1 h).2 (by simp [ha])
  ·rw [eD,List.mem_append,List.mem_append,hF,eD]
   constructor
   ·rintro ⟨h1,h2,h3⟩
    have hnT:e ∉ (sp i).T:=h3 i hi (by simp)
    have hnk:∀ k,k<n→L k=true→e ∉ (sp k).T:=fun k hk hLk=>h3 k hk (by simp [hLk])
    by_cases hN:e∈(sp i).N
    ·exact .inl hN
    right
    rcases h2 with h2 | ⟨j,hj,hLj,hg⟩
    ·exact .inr ⟨⟨h1,.inl h2,hnk⟩,by simp [hN,hnT]⟩
    ·by_cases hji:j=i
     ·subst hji; exact .inl hg
     ·exact .inr ⟨⟨h1,.inr ⟨j,hj,by simpa [hji] using hLj,hg⟩,hnk⟩,by simp [hN,hnT]⟩
   ·rintro (h | h | ⟨⟨h1,h2,h3⟩,h4⟩)
    ·obtain ⟨h1,h2,h3⟩:=eD.1 (hav e (by simp [h]))
     refine ⟨h1,?_,?_⟩
     ·rcases h2 with h2 | ⟨j,hj,hLj,hg⟩
      ·exact .inl h2
      ·exact .inr ⟨j,hj,by simp [hLj],hg⟩
     ·intro k hk hLk hT
      by_cases hki:k=i
      ·subst hki; exact nd1'.2.2 e h e hT rfl
      ·exact h3 k hk (by simpa [hki] using hLk) hT
    ·obtain ⟨h1,h2,h3,h4⟩:=hp.made i hi e h
     refine ⟨h1,.inr ⟨i,hi,by simp,h⟩,?_⟩
     intro k hk hLk hT
     obtain ⟨h5,h6⟩:=h3 k hk hT
     have:=hcl k hk (by simpa [h6] using hLk) i hi h5
     simp [hL] at this
    ·refine ⟨h1,?_,?_⟩
     ·rcases h2 with h2 | ⟨j,hj,hLj,hg⟩
      ·exact .inl h2
      ·exact .inr ⟨j,hj,by simp [hLj],hg⟩
     ·intro k hk hLk hT
      by_cases hki:k=i
      ·subst hki; exact h4 (by simp [hT])
      ·exact h3 k hk (by simpa [hki] using hLk) hT
 ·intro e he
  have hes:e∈dz n m init sp L∧e ∉ (sp i).T:=by
   rcases List.mem_append.1 he with h | h
   ·exact ⟨hav e (by simp [h]),fun hT=>nd1'.2.2 e h e hT rfl⟩
   ·exact ⟨((hF e).1 h).1,fun hT=>((hF e).1 h).2 (by simp [hT])⟩
  obtain ⟨⟨h1,h2,h3⟩,h4⟩:=And.intro (eD.1 hes.1) hes.2
  refine hp.clear i hi e h1 h4 ?_ ?_
  ·intro j hj hg
   have hLj:L j=true:=by
    rcases h2 with h2 | ⟨j',hj',hLj',hg'⟩
    ·exact absurd h2 (hp.made j hj e hg).2.1
    ·by_cases hjj:j'=j
     ·subst hjj; exact hLj'
     ·exact absurd hg' ((hp.made j hj e hg).2.2.2 j' hj' hjj)
   refine ⟨fun e=>by subst e; simp [hL] at hLj,?_⟩
   cases hpj:pre j i
   ·rfl
   ·have:=hcl j hj hLj i hi hpj; simp [hL] at this
  ·intro k hk hT
   cases hpk:pre i k
   ·rfl
   ·exact absurd hT (h3 k hk (hpre k hk hpk))
end
theorem fg.drew {g:Gh} {es:List aE} {a:Act} {w:World} (h:fg g es a w):fg g es a { w with drawn:=w.drawn+1 }:=by
 obtain ⟨V,o,hs,he⟩:=h
 refine ⟨V,o,⟨hs.val,hs.size,hs.defers,hs.dnd,hs.marks,hs.nodup,hs.own,hs.imm,hs.chg.trans (dH.drew _ _)⟩,?_⟩
 exact dF (W:=[]) (w:=w) (w':={ w with drawn:=w.drawn+1 }) (fun _ h=>h) (fun _ h=>h) (fun _ _=>rfl) es o (fun e _=>by
  simp only [bJ,fX,List.any_nil,List.all_nil,Bool.not_false,Bool.true_and,Bool.and_true,Bool.or_true]; exact ja e.2) (fun _ _=>rfl) he
section
variable {P:Program} {ops:Array Oper} {n m:Nat} {E:Nat→aE} {init:List Nat} {sp:Nat→Sp} {pre:Nat→Nat→Bool} {Q:Exit→Act→World→Prop} {r:Option Nat}
def yC (P:Program) (ops:Array Oper) (E:Nat→aE) (sp:Nat→Sp) (n:Nat):Prop :=
 ∀ i,i<n→rT P ops i ((sp i).N.map E) ((sp i).T.map E) ((sp i).G.map E) (sp i).W
theorem kH {L L':Nat→Bool} (h:∀ j,j<n→L j=L' j):dz n m init sp L=dz n m init sp L':=by
 unfold dz
 congr 1
 funext e
 congr 1
 unfold zT
 apply propext
 constructor
 ·rintro ⟨h1,h2⟩
  exact ⟨h1.imp id fun ⟨j,hj,hl,hg⟩=>⟨j,hj,(h j hj) ▸ hl,hg⟩,fun k hk hl=>h2 k hk ((h k hk).symm ▸ hl)⟩
 ·rintro ⟨h1,h2⟩
  exact ⟨h1.imp id fun ⟨j,hj,hl,hg⟩=>⟨j,hj,(h j hj).symm ▸ hl,hg⟩,fun k hk hl=>h2 k hk ((h k hk) ▸ hl)⟩
theorem DK (hp:Fq n m E init sp pre) (hsteps:yC P ops E sp n) {g:Gh} (hdst:∀ (i d:Nat),(ops[i]?).bind Oper.dst=some d→d<g.n) {L:Nat→Bool} {i:Nat} (hi:i<n) (hL:L i=false)
  (hpre:∀ j,j<n→pre i j=true→L j=true) (hcl:∀ i,i<n→L i=true→∀ j,j<n→pre i j=true→L j=true)
  {a:Act} {w:World} (hs:fg g ((dz n m init sp L).map E) a w) {K:Act→World→Prop}
  (hk:∀ g' a' w',g.le g'→fg g' ((dz n m init sp (fun j=>L j||j==i)).map E) a' w'→K a' w'):wpOpIn (FW r) 0 P ops Q i K a w:=by
 obtain ⟨F,p1,p2,hc⟩:=BM hp hi hL hpre hcl
 have hs1:fg g ((sp i).N.map E++((sp i).T.map E++F.map E)) a w:=by
  have:=hs.perm (p1.map E)
  simpa using this
 refine hsteps i hi g (F.map E) a w K Q (hdst i) hs1 ?_ ?_ r
 ·intro e he
  rw [← List.map_append] at he
  obtain ⟨x,hx,rfl⟩:=List.mem_map.1 he
  exact hc x hx
 ·intro g' a' w' hle hs'
  refine hk g' a' w' hle (hs'.perm ?_)
  have:=(p2.map E).symm
  simpa using this
theorem Bz (hp:Fq n m E init sp pre) (hsteps:yC P ops E sp n) (hn:ops.size=n)
  (hpre:∀ (i:Nat) o,ops[i]? = some o→∀ j,j<n→pre i j=true→∃ e∈o.after,Region.binds .any e=true∧(j=e.on∨pre e.on j=true))
  (hon:∀ (i:Nat) o,ops[i]? = some o→∀ e∈o.after,Region.binds .any e=true→e.on<i) {g0:Gh} (hdst:∀ (i d:Nat),(ops[i]?).bind Oper.dst=some d→d<g0.n) :
  ∀ (fuel:Nat) (listed:Array Bool),listed.size=n→(List.range n).countP (fun j => !listed.getD j false)≤fuel →
   (∀ i,i<n→listed.getD i false=true→∀ j,j<n→pre i j=true→listed.getD j false=true)→∀ (g:Gh) (a:Act) (w:World),g0.le g →
   fg g ((dz n m init sp (fun j=>listed.getD j false)).map E) a w →
   (∀ g' a' w',g0.le g'→fg g' ((dz n m init sp (fun _=>true)).map E) a' w'→Q .normal a' w')→wpAnyIn (FW r) 0 P .any ops Q fuel listed a w:=by
 have hfull:∀ (listed:Array Bool),listed.size=n→Region.ready .any ops listed=[]→∀ j,j<n→listed.getD j false=true:=by
  intro listed hsz hr j
  induction j using Nat.strongRecOn with
  | _ j ih =>
   intro hj
   cases hlj:listed.getD j false
   ·exfalso
    have hjo:j<ops.size:=by omega
    have:j∈Region.ready .any ops listed:=by
     rw [mem_ready]
     refine ⟨?_,ops[j],Array.getElem?_eq_getElem hjo,?_⟩
     ·have hjl:j<listed.size:=by omega
      simp only [Array.getD_eq_getD_getElem?,Array.getElem?_eq_getElem hjl,Option.getD_some] at hlj ⊢
      exact hlj
     ·intro e he hb
      have h1:=hon j _ (Array.getElem?_eq_getElem hjo) e he hb
      exact ih e.on h1 (by omega)
    rw [hr] at this; cases this
   ·rfl
 intro fuel
 induction fuel with
 | zero =>
  intro listed hsz hcnt hcl g a w hg hs hQ
  have hall:∀ j,j<n→listed.getD j false=true:=by
   have h0:(List.range n).countP (fun j => !listed.getD j false)=0:=by omega
   rw [List.countP_eq_zero] at h0
   intro j hj
   have:=h0 j (by simpa using hj)
   simpa using this
  refine ⟨?_,hQ g a w hg ?_⟩
  ·apply List.eq_nil_iff_forall_not_mem.2
   intro j hj
   rw [mem_ready] at hj
   obtain ⟨h1,o,ho,_⟩:=hj
   have hj:j<n:=by rw [← hn]; exact (Array.getElem?_eq_some_iff.1 ho).1
   have h2:=hall j hj
   have hjl:j<listed.size:=by omega
   simp only [Array.getD_eq_getD_getElem?,Array.getElem?_eq_getElem hjl,Option.getD_some] at h1 h2
   rw [h1] at h2; cases h2
  ·rw [kH (L':=fun _=>true) (fun j hj=>hall j hj)] at hs
   exact hs
 | succ fuel ih =>
  intro listed hsz hcnt hcl g a w hg hs hQ
  refine ⟨fun hr=>hQ g a w hg ?_,?_⟩
  ·rw [kH (L':=fun _=>true) (fun j hj=>hfull listed hsz hr j hj)] at hs
   exact hs
  ·intro i hi
   have hi':=hi
   rw [mem_ready] at hi'
   obtain ⟨h1,o,ho,hedge⟩:=hi'
   have hin:i<n:=by rw [← hn]; exact (Array.getElem?_eq_some_iff.1 ho).1
   have hil:i<listed.size:=by omega
   have hLi:listed.getD i false=false:=by
    simp only [Array.getD_eq_getD_getElem?,Array.getElem?_eq_getElem hil,Option.getD_some] at h1 ⊢
    exact h1
   have hpi:∀ j,j<n→pre i j=true→listed.getD j false=true:=by
    intro j hj hp'
    obtain ⟨e,he,hb,hor⟩:=hpre i o ho j hj hp'
    have h2:=hedge e he hb
    rcases hor with rfl | hor
    ·exact h2
    ·have hen:e.on<n:=by have:=hon i o ho e he hb; omega
     exact hcl e.on hen h2 j hj hor
   refine DK hp hsteps (fun i d h=>by rw [hg.n]; exact hdst i d h) (L:=fun j=>listed.getD j false) hin hLi hpi hcl hs ?_
   intro g' a' w' hle hs'
   have hset:∀ j,(listed.setIfInBounds i true).getD j false=(listed.getD j false||j==i):=by
    intro j
    by_cases hji:j=i
    ·subst hji; simp [hil]
    ·rw [getD_set_ne false (fun e=>hji e.symm)]; simp [hji]
   refine ih (listed.setIfInBounds i true) (by simpa using hsz) ?_ ?_ g' a' w' (hg.trans hle) ?_ hQ
   ·have hlt:(List.range n).countP (fun j => !(listed.setIfInBounds i true).getD j false)<(List.range n).countP (fun j => !listed.getD j false):=by
     refine uU _ _ _ (fun j _ h => ?_) i (by simpa using hin) (by simp [hLi]) (by rw [hset]; simp)
     rw [hset] at h; simp at h ⊢; exact h.1
    omega
   ·intro k hk hlk j hj hpj
    rw [hset] at hlk ⊢
    by_cases hki:k=i
    ·subst hki; simp [hpi j hj hpj]
    ·have:listed.getD k false=true:=by simpa [hki] using hlk
     simp [hcl k hk this j hj hpj]
   ·rw [kH (L':=fun j=>listed.getD j false||j==i) (fun j _=>hset j)]
    exact hs'
end
end Go.Abs
end
section
namespace Go.Abs
theorem pf {a b:Nat}:Nat.blt a b=true↔a<b:=by unfold Nat.blt; rw [Nat.ble_eq]; exact Iff.rfl
theorem tg (m j:Nat):(Array.replicate m false).getD j false=false:=by
 simp only [Array.getD_eq_getD_getElem?,Array.getElem?_replicate]; split <;> rfl
def eG (El:List aE) (i:Nat):aE:=El.getD i (0,.any)
def EN (a b:List Nat):Bool:=a.all fun e=>fJ e b
def iV:List Nat→Bool
 | []=>true
 | x::r => !fJ x r&&iV r
theorem xK {a b:List Nat} (h:EN a b=true):∀ e∈a,e∈b:=by
 simp only [EN,List.all_eq_true] at h
 exact fun e he=>cI.1 (h e he)
theorem eO:∀ {l:List Nat},iV l=true→l.Nodup
 | [],_=>List.nodup_nil
 | x::r,h=>by
  simp only [iV,Bool.and_eq_true,Bool.not_eq_true'] at h
  refine List.nodup_cons.2 ⟨fun hm => ?_,eO h.2⟩
  rw [cI.2 hm] at h; exact absurd h.1 (by simp)
def qQ (El:List aE):List Sp→List Nat→Option (List Nat)
 | [],S=>some S
 | s::r,S =>
  if EN (s.N++s.T) S&&iV (s.N++s.T)&&iV s.G&&s.G.all (fun e => !fJ e S)&&(S.all fun e=>fJ e s.T||bJ s.W (eG El e))
  then qQ El r ((S.filter fun e => !fJ e s.T)++s.G) else none
theorem tZ {S A:List Nat} (hS:S.Nodup) (hA:A.Nodup) (hsub:∀ e∈A,e∈S):S.Perm (A++S.filter fun e => !fJ e A):=by
 refine (List.perm_ext_iff_of_nodup hS ?_).2 fun e => ?_
 ·refine List.nodup_append.2 ⟨hA,List.Nodup.sublist List.filter_sublist hS,fun a ha b hb e => ?_⟩
  subst e
  have:=(List.mem_filter.1 hb).2
  rw [cI.2 ha] at this; simp at this
 ·rw [List.mem_append,List.mem_filter]
  constructor
  ·intro h
   by_cases ha:e∈A
   ·exact .inl ha
   ·refine .inr ⟨h,?_⟩
    cases hm:fJ e A
    ·rfl
    ·exact absurd (cI.1 hm) ha
  ·rintro (h | h)
   ·exact hsub e h
   ·exact h.1
def pN (P:Program) (ops:Array Oper) (E:Nat→aE):Nat→List Sp→Prop
 | _,[]=>True
 | k,s::r=>rT P ops k (s.N.map E) (s.T.map E) (s.G.map E) s.W∧pN P ops E (k+1) r
def mq (n:Nat) (ops:List Oper):Bool:=ops.all fun o=>match o.dst with | none=>true | some d=>Nat.blt d n
theorem nE {n:Nat} {ops:List Oper} (h:mq n ops=true):∀ (i d:Nat),((ops.toArray)[i]?).bind Oper.dst=some d→d<n:=by
 intro i d hd
 simp only [List.getElem?_toArray] at hd
 cases ho:ops[i]? with
 | none=>simp [ho] at hd
 | some o =>
  simp only [ho,Option.bind_some] at hd
  simp only [mq,List.all_eq_true] at h
  have:=h o (List.mem_of_getElem? ho)
  simp only [hd] at this
  exact pf.1 this
section
variable {P:Program} {ops:Array Oper} {El:List aE} {Q:Exit→Act→World→Prop} {r:Option Nat}
theorem uI {g0:Gh} (hdst:∀ (i d:Nat),(ops[i]?).bind Oper.dst=some d→d<g0.n):∀ (sps:List Sp) (k:Nat) (S S':List Nat),pN P ops (eG El) k sps→qQ El sps S=some S'→S.Nodup →
  ∀ (g:Gh) (a:Act) (w:World),g0.le g→fg g (S.map (eG El)) a w→(∀ g' a' w',g0.le g'→S'.Nodup→fg g' (S'.map (eG El)) a' w'→Q .normal a' w')→wpOpsIn (FW r) 0 P ops Q (List.range' k sps.length) a w
 | [],k,S,S',_,hr,hn,g,a,w,hg,hs,hQ=>by
  simp only [qQ,Option.some.injEq] at hr
  subst hr
  simp only [List.length_nil,List.range'_zero,wpOpsIn]
  exact hQ g a w hg hn hs
 | s::r',k,S,S',hst,hr,hn,g,a,w,hg,hs,hQ=>by
  simp only [qQ] at hr
  split at hr
  ·rename_i hc
   simp only [Bool.and_eq_true,List.all_eq_true,Bool.or_eq_true] at hc
   obtain ⟨⟨⟨⟨c1,c2⟩,c3⟩,c4⟩,c5⟩:=hc
   obtain ⟨h1,h2⟩:=hst
   rw [List.length_cons,List.range'_succ,wpOpsIn_cons]
   have nd:=eO c2
   have nd':=List.nodup_append.1 nd
   have hsub:=xK c1
   have p1:=tZ hn nd hsub
   have hnT:∀ e,(!fJ e s.T)=true↔e ∉ s.T:=fun e=>by rw [← cI (l:=s.T)]; simp
   have hnA:∀ e,(!fJ e (s.N++s.T))=true↔e ∉ s.N++s.T:=fun e=>by rw [← cI (l:=s.N++s.T)]; simp
   have ndS':((S.filter fun e => !fJ e s.T)++s.G).Nodup:=by
    refine List.nodup_append.2 ⟨List.Nodup.sublist List.filter_sublist hn,eO c3,fun a ha b hb e => ?_⟩
    subst e
    have:=c4 _ hb
    rw [cI.2 (List.mem_filter.1 ha).1] at this; simp at this
   have p2:((S.filter fun e => !fJ e s.T)++s.G).Perm (s.N++(s.G++S.filter fun e => !fJ e (s.N++s.T))):=by
    have q:(S.filter fun e => !fJ e s.T).Perm (s.N++S.filter fun e => !fJ e (s.N++s.T)):=by
     refine (List.perm_ext_iff_of_nodup (List.Nodup.sublist List.filter_sublist hn) ?_).2 fun e => ?_
     ·refine List.nodup_append.2 ⟨nd'.1,List.Nodup.sublist List.filter_sublist hn,fun a ha b hb e => ?_⟩
      subst e
      exact (hnA _).1 (List.mem_filter.1 hb).2 (by simp [ha])
     ·rw [List.mem_append,List.mem_filter,List.mem_filter,hnT,hnA]
      constructor
      ·rintro ⟨h3,h4⟩
       by_cases h5:e∈s.N
       ·exact .inl h5
       ·exact .inr ⟨h3,by simp [h5,h4]⟩
      ·rintro (h3 | ⟨h3,h4⟩)
       ·exact ⟨hsub e (by simp [h3]),fun h4=>nd'.2.2 e h3 e h4 rfl⟩
       ·exact ⟨h3,fun h5=>h4 (by simp [h5])⟩
    refine (q.append_right s.G).trans ?_
    rw [List.append_assoc]
    exact List.perm_append_comm.append_left s.N
   refine h1 g ((S.filter fun e => !fJ e (s.N++s.T)).map (eG El)) a w _ Q (fun d hd=>by rw [hg.n]; exact hdst k d hd) ?_ ?_ ?_ r
   ·have:=hs.perm (p1.map (eG El))
    simpa using this
   ·intro e he
    rw [← List.map_append] at he
    obtain ⟨x,hx,rfl⟩:=List.mem_map.1 he
    have hxS:x∈S∧x ∉ s.T:=by
     rcases List.mem_append.1 hx with h | h
     ·exact ⟨hsub x (by simp [h]),fun hT=>nd'.2.2 x h x hT rfl⟩
     ·exact ⟨(List.mem_filter.1 h).1,fun hT=>(hnA x).1 (List.mem_filter.1 h).2 (by simp [hT])⟩
    exact (c5 x hxS.1).resolve_left fun h=>hxS.2 (cI.1 h)
   ·intro g' a' w' hle hs'
    refine uI hdst r' (k+1) _ S' h2 hr ndS' g' a' w' (hg.trans hle) ?_ hQ
    have:=hs'.perm ((by simpa using (p2.map (eG El)).symm):(s.N.map (eG El)++(s.G.map (eG El)++(S.filter fun e => !fJ e (s.N++s.T)).map (eG El))).Perm (((S.filter fun e => !fJ e s.T)++s.G).map (eG El)))
    exact this
  ·cases hr
theorem fg.ofSub {g:Gh} {S fin:List Nat} {E:Nat→aE} {a:Act} {w:World} (hs:fg g (S.map E) a w) (hn:S.Nodup) (hf:fin.Nodup) (hsub:∀ e∈fin,e∈S):fg g (fin.map E) a w:=by
 have p:=tZ hn hf hsub
 have:=hs.perm (p.map E)
 rw [List.map_append] at this
 exact this.perm List.perm_append_comm |>.dropLeft
def Bh (n:Nat) (ops:List Oper) (El:List aE) (init:List Nat) (sps:List Sp) (fin:List Nat):Bool :=
 Nat.beq ops.length sps.length&&mq n ops&&iV init&&iV fin &&
 match qQ El sps init with
 | some S=>EN fin S
 | none=>false
theorem yF {id:Nat} {l:List Oper} {n:Nat} {init fin:List Nat} {sps:List Sp} {g:Gh} {a:Act} {w:World} (hg:g.n=n)
  (hc:Bh n l El init sps fin=true) (hst:pN P l.toArray (eG El) 0 sps) (hs:fg g (init.map (eG El)) a w)
  (hQ:∀ g' a' w',g.le g'→fg g' (fin.map (eG El)) a' w'→Q .normal a' w'):(Code.region id l.toArray false).wpIn (FW r) 0 P Q a w:=by
 simp only [Bh,Bool.and_eq_true] at hc
 obtain ⟨⟨⟨⟨c1,c2⟩,c3⟩,c4⟩,c5⟩:=hc
 cases hr:qQ El sps init with
 | none=>simp [hr] at c5
 | some S =>
  simp only [hr] at c5
  refine wpIn_region ?_
  have hl:l.length=sps.length:=by simpa using Nat.eq_of_beq_eq_true c1
  rw [List.size_toArray,hl,List.range_eq_range']
  exact uI (El:=El) (g0:=g) (by rw [hg]; exact nE c2) sps 0 init S hst hr (eO c3) g a w g.le_refl hs
   fun g' a' w' hle hn hs'=>hQ g' a' w' hle (hs'.ofSub hn (eO c4) (xK c5))
def BB (n:Nat) (f:Nat→Bool):Bool := !uv n fun k => !f k
theorem qv {f:Nat→Bool} {n:Nat} (h:BB n f=true):∃ k,k<n∧f k=true:=by
 simp only [BB,Bool.not_eq_true'] at h
 apply Classical.byContradiction
 intro hno
 have:uv n (fun k => !f k)=true:=iP.2 fun k hk=>by
  cases hf:f k
  ·rfl
  ·exact absurd ⟨k,hk,hf⟩ hno
 rw [this] at h; cases h
def zG (n m:Nat) (E:Nat→aE) (init:List Nat) (sp:Nat→Sp) (pre:Nat→Nat→Bool):Bool :=
 init.all (fun e=>Nat.blt e m)&&iV init &&
 uv n fun i =>
  ((sp i).N++(sp i).T).all (fun e=>Nat.blt e m&&(fJ e init||BB n fun j=>pre i j&&fJ e (sp j).G)&&uv n fun k=>Nat.beq k i || !fJ e (sp k).T||pre k i) &&
  (sp i).G.all (fun e=>Nat.blt e m && !fJ e init&&uv n fun k=>(!fJ e (sp k).T||(pre k i && !Nat.beq k i))&&(Nat.beq k i || !fJ e (sp k).G)) &&
  iV ((sp i).N++(sp i).T)&&iV (sp i).G&&(sp i).G.all (fun e => !fJ e ((sp i).N++(sp i).T)) &&
  uv m fun e=>bJ (sp i).W (E e)||fJ e (sp i).T||(BB n fun j=>fJ e (sp j).G&&(Nat.beq j i||pre j i))||BB n fun k=>fJ e (sp k).T&&pre i k
theorem Fu {a b:Nat}:Nat.beq a b=true↔a=b:=⟨Nat.eq_of_beq_eq_true,fun h=>by subst h; exact Nat.beq_refl a⟩
theorem mc {e:Nat} {l:List Nat}:(!fJ e l)=true↔e ∉ l:=by rw [← cI (l:=l)]; simp
theorem zH {n m:Nat} {E:Nat→aE} {init:List Nat} {sp:Nat→Sp} {pre:Nat→Nat→Bool} (h:zG n m E init sp pre=true):Fq n m E init sp pre:=by
 simp only [zG,Bool.and_eq_true] at h
 obtain ⟨⟨h1,h2⟩,h3⟩:=h
 have h3:=iP.1 h3
 simp only [List.all_eq_true] at h1
 refine ⟨fun e he=>pf.1 (h1 e he),eO h2,?_,?_,?_,?_,?_⟩
 ·intro i hi e he
  have:=h3 i hi
  simp only [Bool.and_eq_true,List.all_eq_true] at this
  obtain ⟨⟨⟨⟨⟨a1,a2⟩,a3⟩,a4⟩,a5⟩,a6⟩:=this
  obtain ⟨⟨b1,b2⟩,b3⟩:=a1 e he
  refine ⟨pf.1 b1,?_⟩
  rcases Bool.or_eq_true_iff.1 b2 with b2 | b2
  ·exact .inl (cI.1 b2)
  ·obtain ⟨j,hj,hh⟩:=qv b2
   rw [Bool.and_eq_true] at hh
   exact .inr ⟨j,hj,hh.1,cI.1 hh.2⟩
 ·intro i k hi hk hne e he hT
  have:=h3 i hi
  simp only [Bool.and_eq_true,List.all_eq_true] at this
  obtain ⟨⟨⟨⟨⟨a1,a2⟩,a3⟩,a4⟩,a5⟩,a6⟩:=this
  obtain ⟨⟨b1,b2⟩,b3⟩:=a1 e he
  have:=iP.1 b3 k hk
  simp only [Bool.or_eq_true] at this
  rcases this with (h | h) | h
  ·exact absurd (Fu.1 h) hne
  ·exact absurd hT (mc.1 h)
  ·exact h
 ·intro i hi e he
  have:=h3 i hi
  simp only [Bool.and_eq_true,List.all_eq_true] at this
  obtain ⟨⟨⟨⟨⟨a1,a2⟩,a3⟩,a4⟩,a5⟩,a6⟩:=this
  obtain ⟨⟨b1,b2⟩,b3⟩:=a2 e he
  refine ⟨pf.1 b1,mc.1 b2,?_,?_⟩
  ·intro k hk hT
   have:=iP.1 b3 k hk
   simp only [Bool.or_eq_true,Bool.and_eq_true] at this
   rcases this.1 with h | h
   ·exact absurd hT (mc.1 h)
   ·exact ⟨h.1,fun e=>by subst e; simp [Nat.beq_refl] at h⟩
  ·intro k hk hne hG
   have:=iP.1 b3 k hk
   simp only [Bool.or_eq_true,Bool.and_eq_true] at this
   rcases this.2 with h | h
   ·exact hne (Fu.1 h)
   ·exact mc.1 h hG
 ·intro i hi
  have:=h3 i hi
  simp only [Bool.and_eq_true,List.all_eq_true] at this
  obtain ⟨⟨⟨⟨⟨a1,a2⟩,a3⟩,a4⟩,a5⟩,a6⟩:=this
  exact ⟨eO a3,eO a4,fun e he=>mc.1 (a5 e he)⟩
 ·intro i hi e he hT hG hK
  have:=h3 i hi
  simp only [Bool.and_eq_true,List.all_eq_true] at this
  obtain ⟨⟨⟨⟨⟨a1,a2⟩,a3⟩,a4⟩,a5⟩,a6⟩:=this
  have:=iP.1 a6 e he
  simp only [Bool.or_eq_true] at this
  rcases this with ((h | h) | h) | h
  ·exact h
  ·exact absurd (cI.1 h) hT
  ·obtain ⟨j,hj,hh⟩:=qv h
   simp only [Bool.and_eq_true,Bool.or_eq_true] at hh
   obtain ⟨h4,h5⟩:=hG j hj (cI.1 hh.1)
   rcases hh.2 with h6 | h6
   ·exact absurd (Fu.1 h6) h4
   ·rw [h5] at h6; cases h6
  ·obtain ⟨k,hk,hh⟩:=qv h
   simp only [Bool.and_eq_true] at hh
   rw [hK k hk (cI.1 hh.1)] at hh; exact absurd hh.2 (by simp)
def Bq:List Oper→List Nat→List Nat
 | [],acc=>acc
 | o::r,acc=>Bq r (acc++[o.after.toList.foldl (fun s e=>if Region.binds .any e then s ||| (1 <<< e.on) ||| acc.getD e.on 0 else s) 0])
def mu (ms:List Nat) (i j:Nat):Bool:=Nat.testBit (ms.getD i 0) j
def Gk (n:Nat) (ops:List Oper) (ms:List Nat):Bool :=
 (ops.zipIdx).all fun (o,i) =>
  (o.after.toList.all fun e => !Region.binds .any e||Nat.blt e.on i) &&
  uv n fun j => !mu ms i j||o.after.toList.any fun e=>Region.binds .any e&&(Nat.beq j e.on||mu ms e.on j)
def uT (n:Nat) (ops:List Oper) (El:List aE) (init:List Nat) (sps:List Sp) (fin:List Nat):Bool :=
 let ms:=Bq ops []
 Nat.beq ops.length sps.length&&mq n ops&&iV fin&&Gk ops.length ops ms &&
 zG ops.length El.length (eG El) init (CE sps) (mu ms) &&
 fin.all fun e=>Nat.blt e El.length&&(fJ e init||BB ops.length fun j=>fJ e (CE sps j).G)&&uv ops.length fun k => !fJ e (CE sps k).T
theorem vj {E:Nat→aE}:∀ (sps:List Sp) (k i:Nat) (s:Sp),pN P ops E k sps→sps[i]? = some s→rT P ops (k+i) (s.N.map E) (s.T.map E) (s.G.map E) s.W
 | [],k,i,s,_,h=>by simp at h
 | s'::r,k,0,s,hst,h=>by simp at h; subst h; exact hst.1
 | s'::r,k,i+1,s,hst,h=>by
  have:=vj r (k+1) i s hst.2 (by simpa using h)
  rwa [show k+1+i=k+(i+1) by omega] at this
theorem yJ {id:Nat} {l:List Oper} {n:Nat} {init fin:List Nat} {sps:List Sp} {g:Gh} {a:Act} {w:World} (hm:P.follows .mixedOrders=true) (hg:g.n=n)
  (hc:uT n l El init sps fin=true) (hst:pN P l.toArray (eG El) 0 sps) (hs:fg g (init.map (eG El)) a w)
  (hQ:∀ g' a' w',g.le g'→fg g' (fin.map (eG El)) a' w'→Q .normal a' w'):(Code.region id l.toArray true).wpIn (FW r) 0 P Q a w:=by
 simp only [uT,Bool.and_eq_true,List.all_eq_true] at hc
 obtain ⟨⟨⟨⟨⟨c1,c2⟩,c3⟩,c4⟩,c5⟩,c6⟩:=hc
 have hl:l.length=sps.length:=by simpa using Nat.eq_of_beq_eq_true c1
 have hp:=zH c5
 have hsteps:yC P l.toArray (eG El) (CE sps) l.length:=by
  intro i hi
  have hi':i<sps.length:=by omega
  have:=vj sps 0 i sps[i] hst (List.getElem?_eq_getElem hi')
  rw [Nat.zero_add] at this
  simpa [CE,List.getElem?_eq_getElem hi'] using this
 simp only [Gk,List.all_eq_true] at c4
 refine wpIn_region_any hm ?_
 have hzip:∀ (i:Nat) (o:Oper),l[i]? = some o→(o,i)∈l.zipIdx:=by
  intro i o ho
  rw [List.mem_zipIdx_iff_getElem?]; simpa using ho
 refine Bz (Q:=Q) (g0:=g) hp hsteps (by simp) ?_ ?_ (by rw [hg]; exact nE c2) l.toArray.size (Array.replicate l.toArray.size false) (by simp) ?_ ?_ g a _ g.le_refl ?_ ?_
 ·intro i o ho j hj hpj
  have h1:=c4 _ (hzip i o (by simpa using ho))
  simp only [Bool.and_eq_true] at h1
  have h2:=iP.1 h1.2 j hj
  rw [hpj] at h2
  simp only [Bool.not_true,Bool.false_or,List.any_eq_true,Bool.and_eq_true,Bool.or_eq_true,Array.mem_toList_iff] at h2
  obtain ⟨e,he,hb,hor⟩:=h2
  exact ⟨e,he,hb,hor.imp Fu.1 fun h=>h⟩
 ·intro i o ho e he hb
  have h1:=c4 _ (hzip i o (by simpa using ho))
  simp only [Bool.and_eq_true,List.all_eq_true] at h1
  have h2:=h1.1 e (by simpa using he)
  rw [hb] at h2
  exact pf.1 (by simpa using h2)
 ·simp only [List.size_toArray]
  exact Nat.le_trans List.countP_le_length (by simp)
 ·intro i hi hli
  rw [tg] at hli; cases hli
 ·have:=hs.drew
  refine this.perm ?_
  refine List.Perm.map _ ?_
  refine (List.perm_ext_iff_of_nodup hp.init_nodup gp).2 fun e => ?_
  rw [eD]
  simp only [zT]
  constructor
  ·intro h; exact ⟨hp.init_lt e h,.inl h,fun k _ hk=>by rw [tg] at hk; cases hk⟩
  ·rintro ⟨_,h | ⟨j,_,hj,_⟩,_⟩
   ·exact h
   ·rw [tg] at hj; cases hj
 ·intro g' a' w' hle hs'
  refine hQ g' a' w' hle (hs'.ofSub gp (eO c3) fun e he => ?_)
  obtain ⟨⟨d1,d2⟩,d3⟩:=c6 e he
  refine eD.2 ⟨pf.1 d1,?_,fun k hk _=>mc.1 (iP.1 d3 k hk)⟩
  rcases Bool.or_eq_true_iff.1 d2 with d2 | d2
  ·exact .inl (cI.1 d2)
  ·obtain ⟨j,hj,hh⟩:=qv d2
   exact .inr ⟨j,hj,rfl,cI.1 hh⟩
end
end Go.Abs
end
section
namespace Go.Abs
def Yl (P:Program) (o:Oper) (a:Act) (w:World) (Φ:Value→World→Prop):Prop :=
 ∀ (K:Act→World→Prop) (Q:Exit→Act→World→Prop),(∀ x w',Φ x w'→K (a.put o.dst x) w')→∀ r,o.wpIn (FW r) 0 P a w K Q
theorem qG {P:Program} {r:Option Nat} {ρ:Operand→Value} {o:Oper} {w w':World} {x:Next} (h:(execOp ρ o).run P w = .ok x w') (hx:∀ d,x ≠ .defer d):(Oper.semAt r ρ o).run P w = .ok x w':=by
 by_cases hd:∃ c,o.op = .defer c
 ·exfalso
  obtain ⟨c,hc⟩:=hd
  simp only [execOp,hc,Sem.run_bind] at h
  cases hr:(resolve ρ c o.type).run P w with
  | ok d w1=>simp only [hr,Result.andThen] at h; simp at h; exact hx _ h.1.symm
  | halt e w1=>simp [hr,Result.andThen] at h
 ·have:=Oper.semAt_plain (FW r) ρ o (fun c hc=>hd ⟨c,hc⟩)
  rw [show (FW r).round=r from rfl] at this
  rw [this]; exact h
theorem Yl.val {P:Program} {o:Oper} {a:Act} {w w':World} {x:Value} (h:(execOp a.eval o).run P w = .ok (.value x) w'):Yl P o a w (fun y v=>y=x∧v=w'):=by
 intro K Q hk r
 refine ⟨fun _ _=>trivial,?_⟩
 rw [show (FW r).round=r from rfl,qG h (fun d hd=>by cases hd)]
 exact hk x w' ⟨rfl,rfl⟩
theorem Yl.skip {P:Program} {o:Oper} {a:Act} {w w':World} (h:(execOp a.eval o).run P w = .ok .skip w'):Yl P o a w (fun y v=>y=undef∧v=w'):=by
 intro K Q hk r
 refine ⟨fun _ _=>trivial,?_⟩
 rw [show (FW r).round=r from rfl,qG h (fun d hd=>by cases hd)]
 exact hk undef w' ⟨rfl,rfl⟩
theorem Yl.call {P:Program} {o:Oper} {a:Act} {w w':World} {f:FuncId} {args:Array Value} {Φ:Value→World→Prop} (h:(execOp a.eval o).run P w = .ok (.enter f args) w')
  (hc:Calls P f args w' fun e w''=>∃ v,e = .returned v∧Φ v w''):Yl P o a w Φ:=by
 intro K Q hk r
 refine ⟨fun _ _=>trivial,?_⟩
 rw [show (FW r).round=r from rfl,qG h (fun d hd=>by cases hd)]
 refine ⟨fun h=>by simp [FW,Fence.wide] at h,?_⟩
 have hc':CallsIn (FW r) (0-1) P f args w' fun e w''=>∃ v,e = .returned v∧Φ v w'':=(callsIn_wide (n:=0-1)).2 hc
 refine hc'.mono ?_
 rintro e w'' ⟨v,rfl,hv⟩
 exact hk v w'' hv
theorem Yl.round {P:Program} {o:Oper} {a:Act} {w w':World} {l:Nat} {f:FuncId} {tmps:Array Value} {assign body:Code} {Φ:Value→World→Prop} (h:(execOp a.eval o).run P w = .ok (.round l f tmps assign body) w')
  (hc:RoundIn Fence.wide 0 P l f tmps assign body w' fun e w''=>∃ v,e = .returned v∧Φ v w''):Yl P o a w Φ:=by
 intro K Q hk r
 refine ⟨fun _ _=>trivial,?_⟩
 rw [show (FW r).round=r from rfl,qG h (fun d hd=>by cases hd)]
 refine ⟨fun h=>by simp [FW,Fence.wide] at h,?_⟩
 have hc':RoundIn (FW r) (0-1) P l f tmps assign body w' fun e w''=>∃ v,e = .returned v∧Φ v w'':=hc
 refine hc'.mono ?_
 rintro e w'' ⟨v,rfl,hv⟩
 exact hk v w'' hv
theorem Yl.mono {P:Program} {o:Oper} {a:Act} {w:World} {Φ Ψ:Value→World→Prop} (h:Yl P o a w Φ) (hh:∀ x w',Φ x w'→Ψ x w'):Yl P o a w Ψ :=
 fun K Q hk=>h K Q fun x w' hx=>hk x w' (hh x w' hx)
structure FE (g:Gh) (V:bl→Value) (N T:List aE) (oN oT:List Nat) (a:Act) (w:World):Prop where
 val:∀ t,V (.slot t)=a.tmps.getD t undef
 size:a.tmps.size=g.n
 imm:∀ b,g.imm b→b<w.heap.size
 own:∀ b∈oN++oT,b<w.heap.size∧¬ g.imm b
 own2:∀ b∈oN++oT,g.w0.heap.size≤b∨b∈g.io
 nodup:(oN++oT).Nodup
 esN:Es g V w N oN
 esT:Es g V w T oT
 base:g.w0.heap.size≤w.heap.size
structure BV (g:Gh) (V:bl→Value) (G:List aE) (W:List bl) (oT:List Nat) (dst:Option Tmp) (a:Act) (w:World) (x:Value) (w':World):Prop where
 out:∃ (g':Gh) (V':bl→Value) (oG:List Nat),g.le g'∧(∀ b,g'.Imm b→g.Imm b∨b∈oT∨w.heap.size≤b)∧(∀ b,g'.Imm b→b<w'.heap.size)∧dH oT w w' ∧
  (∀ l,fX W l=false→V' l=V l)∧(∀ t,V' (.slot t)=(a.put dst x).tmps.getD t undef)∧Es g' V' w' G oG∧oG.Nodup∧(∀ b∈oG,(b∈oT∨w.heap.size≤b)∧b<w'.heap.size∧¬ g'.imm b)
theorem aN.core {P:Program} {o:Oper} {N T G:List aE} {W:List bl}
  (h:∀ (g:Gh) (V:bl→Value) (oN oT:List Nat) (a:Act) (w:World),(∀ d,o.dst=some d→d<g.n)→FE g V N T oN oT a w →
   Yl P o a w fun x w'=>BV g V G W oT o.dst a w x w'):aN P o N T G W:=by
 intro g F a w K Q hd hs hc hk
 obtain ⟨V,ow,hst,hes⟩:=hs
 obtain ⟨oN,oR,rfl,hN,hR⟩:=aH.1 hes
 obtain ⟨oT,oF,rfl,hT,hF⟩:=aH.1 hR
 have hnd:=hst.nodup
 have hnd1:(oN++oT).Nodup:=by rw [← List.append_assoc] at hnd; exact (List.nodup_append.1 hnd).1
 have hpre:FE g V N T oN oT a w:=⟨hst.val,hst.size,hst.imm,fun b hb=>by
  have:=hst.own b (by simp at hb ⊢; rcases hb with h | h <;> simp [h])
  exact ⟨this.1,this.2.2⟩,fun b hb=>(hst.own b (by simp at hb ⊢; rcases hb with h | h <;> simp [h])).2.1,hnd1,hN,hT,hst.chg.size⟩
 refine fun r=>h g V oN oT a w hd hpre K Q ?_ r
 rintro x w' ⟨g',V',oG,hle,hnew,himm,hchg,hV,hval,hG,hGn,hGo⟩
 have hIM:∀ b,g.Im b→g'.Im b:=fun b hb=>by rw [hle.Im]; exact hb
 have hnF:∀ b,b∈oN∨b∈oF→b ∉ oT:=by
  intro b hb hT
  rcases hb with hb | hb
  ·exact (List.nodup_append.1 hnd1).2.2 b hb b hT rfl
  ·have h1:=(List.nodup_append.1 hnd).2.1
   exact (List.nodup_append.1 h1).2.2 b hT b hb rfl
 have hownlt:∀ b,b∈oN∨b∈oT∨b∈oF→b<w.heap.size∧(g.w0.heap.size≤b∨b∈g.io)∧¬ g.imm b:=fun b hb=>hst.own b (by simpa using hb)
 have himmT:∀ b,g.imm b→b ∉ oT:=fun b hb hT=>(hownlt b (.inr (.inl hT))).2.2 hb
 have hNstab:Es g' V' w' N oN:=dF hle.Imm hIM hV N oN (fun e he=>hc e (by simp [he])) (fun b hb=>by
  rcases hb with hb | hb
  ·exact hchg.block b (hownlt b (.inl hb)).1 (hnF b (.inl hb))
  ·exact hchg.block b (hst.imm b hb) (himmT b hb)) hN
 have hFstab:Es g' V' w' F oF:=dF hle.Imm hIM hV F oF (fun e he=>hc e (by simp [he])) (fun b hb=>by
  rcases hb with hb | hb
  ·exact hchg.block b (hownlt b (.inr (.inr hb))).1 (hnF b (.inr hb))
  ·exact hchg.block b (hst.imm b hb) (himmT b hb)) hF
 refine hk g' _ w' hle ⟨V',oN++(oG++oF),⟨hval,?_,?_,?_,?_,?_,?_,?_,?_⟩,aH.2 ⟨oN,_,rfl,hNstab,aH.2 ⟨oG,oF,rfl,hG,hFstab⟩⟩⟩
 ·rw [hle.n,← hst.size]; unfold Act.put; split <;> simp
 ·rw [hle.ds]; unfold Act.put; split <;> exact hst.defers
 ·rw [hle.ds]; exact hst.dnd
 ·intro D hD
  rw [hle.ds] at hD
  obtain ⟨h1,h2,h3,h4⟩:=hst.marks D hD
  have hlt:D<w.heap.size:=(Array.getElem?_eq_some_iff.1 h1).1
  refine ⟨(hchg.block D hlt (fun hT=>h2 (by simp [hT]))).trans h1,fun hm => ?_,by rw [hle.w0]; exact h3,fun hi => ?_⟩
  ·rcases List.mem_append.1 hm with hm | hm
   ·exact h2 (by simp [hm])
   ·rcases List.mem_append.1 hm with hm | hm
    ·rcases (hGo D hm).1 with h5 | h5
     ·exact h2 (by simp [h5])
     ·omega
    ·exact h2 (by simp [hm])
  ·rcases hi with hi | hi
   ·rcases hnew D hi with h5 | h5 | h5
    ·exact h4 (.inl h5)
    ·exact h2 (by simp [h5])
    ·omega
   ·rw [hle.Im] at hi; exact h4 (.inr hi)
 ·have h1:=List.nodup_append.1 hnd
  have h2:=List.nodup_append.1 h1.2.1
  refine List.nodup_append.2 ⟨h1.1,List.nodup_append.2 ⟨hGn,h2.2.1,?_⟩,?_⟩
  ·intro b hb c hc e
   subst e
   rcases (hGo b hb).1 with h3 | h3
   ·exact h2.2.2 b h3 b hc rfl
   ·have:=(hownlt b (.inr (.inr hc))).1; omega
  ·intro b hb c hc e
   subst e
   rcases List.mem_append.1 hc with hc | hc
   ·rcases (hGo b hc).1 with h3 | h3
    ·exact h1.2.2 b hb b (by simp [h3]) rfl
    ·have:=(hownlt b (.inl hb)).1; omega
   ·exact h1.2.2 b hb b (by simp [hc]) rfl
 ·intro b hb
  rw [hle.w0,hle.io]
  have hold:b∈oN∨b∈oF→b<w'.heap.size∧(g.w0.heap.size≤b∨b∈g.io)∧¬ g'.imm b:=by
   intro hb'
   have h1:=hownlt b (hb'.imp id .inr)
   refine ⟨Nat.lt_of_lt_of_le h1.1 hchg.size,h1.2.1,fun hi => ?_⟩
   rcases hi with hi | hi
   ·rcases hnew b hi with h2 | h2 | h2
    ·exact h1.2.2 (.inl h2)
    ·exact hnF b hb' h2
    ·omega
   ·rw [hle.Im] at hi; exact h1.2.2 (.inr hi)
  rcases List.mem_append.1 hb with hb | hb
  ·exact hold (.inl hb)
  ·rcases List.mem_append.1 hb with hb | hb
   ·obtain ⟨h1,h2,h3⟩:=hGo b hb
    refine ⟨h2,?_,h3⟩
    rcases h1 with h1 | h1
    ·exact (hownlt b (.inr (.inl h1))).2.1
    ·exact .inl (Nat.le_trans hst.chg.size h1)
   ·exact hold (.inr hb)
 ·intro b hb
  rcases hb with hb | hb
  ·exact himm b hb
  ·rw [hle.Im] at hb; exact Nat.lt_of_lt_of_le (hst.imm b (.inr hb)) hchg.size
 ·rw [hle.w0,hle.io]
  refine hst.chg.trans' hchg ?_
  intro b hb
  rcases (hownlt b (.inr (.inl hb))).2.1 with h1 | h1
  ·exact .inr h1
  ·exact .inl h1
def bU (V:bl→Value) (d:Nat) (x:Value):bl→Value:=fun l=>match l with | .slot t=>if t=d then x else V (.slot t) | .cell t i=>V (.cell t i)
theorem cf (V:bl→Value) (d:Nat) (x:Value):bU V d x (.slot d)=x:=by simp [bU]
theorem bO {V:bl→Value} {d:Nat} {x:Value} {l:bl} (h:fX [.slot d] l=false):bU V d x l=V l:=by
 have:=mo d l h
 cases l with
 | slot t=>simp only at this; simp [bU,this]
 | cell t i=>rfl
theorem cK {V:bl→Value} {a:Act} {d n:Nat} {x:Value} (hv:∀ t,V (.slot t)=a.tmps.getD t undef) (hs:a.tmps.size=n) (hd:d<n) (t:Nat) :
  bU V d x (.slot t)=(a.put (some d) x).tmps.getD t undef:=by
 rw [gJ a d t x (by omega)]
 simp only [bU]
 split
 ·rfl
 ·exact hv t
theorem aR {g:Gh} {V:bl→Value} {w:World}:∀ {cs:List AV} {xs:List Value} {o:List Nat},Rs g V w cs xs o→xs.length=cs.length
 | [],xs,o,h=>by simp only [Rs] at h; simp [h.1]
 | c::cs,xs,o,h=>by
  simp only [Rs] at h
  obtain ⟨x,xs',o1,o2,rfl,rfl,_,h2⟩:=h
  simp [aR h2]
def gv (w:World) (y:Value) (i:Nat):Value:=match y with | .pointer (some ad)=>(w.cell? ⟨ad.block,i,none⟩).getD undef | _=>undef
def fu:AV→Bool
 | .box .. => false
 | .arr .. => false
 | _=>true
theorem aN.value {P:Program} {o:Oper} {N:List aE} {d:Nat} {av:AV} (ho:o.dst=some d) (hcl:eM [.slot d] av=true) (hb:fu av=true)
  (h:∀ (g:Gh) (V:bl→Value) (oN:List Nat) (a:Act) (w:World),FE g V N [] oN [] a w→∃ x,(execOp a.eval o).run P w = .ok (.value x) w∧R g V w av x []) :
  aN P o N [] [(d,av)] [.slot d]:=by
 refine aN.core fun g V oN oT a w hd hpre => ?_
 have hT:=hpre.esT
 simp only [Es] at hT
 subst hT
 obtain ⟨x,hr,hR⟩:=h g V oN a w hpre
 refine (Yl.val hr).mono ?_
 rintro y w' ⟨rfl,rfl⟩
 have hlt:d<g.n:=hd d ho
 refine ⟨g,bU V d y,[],g.le_refl,fun b hb => .inl hb,fun b hb=>hpre.imm b (.inl hb),dH.refl _ _,fun l hl=>bO hl,?_,?_,List.nodup_nil,by simp⟩
 ·intro t; rw [ho]; exact cK hpre.val hpre.size hlt t
 ·refine ⟨[],[],rfl,⟨?_,?_⟩,rfl⟩
  ·show R g _ _ av (bU V d y (.slot d)) []
   rw [cf]
   exact ka (W:=[.slot d]) (fun _ h=>h) (fun _ h=>h) (fun l hl=>bO hl) av y [] hcl (fun _ _=>rfl) hR
  ·cases av <;> first | trivial | (simp [fu] at hb)
theorem aN.fresh {P:Program} {o:Oper} {N:List aE} {d:Nat} {av:AV} (ho:o.dst=some d) (hcl:eM [.slot d] av=true)
  (h:∀ (g:Gh) (V:bl→Value) (oN:List Nat) (a:Act) (w:World),FE g V N [] oN [] a w →
   Yl P o a w fun x w'=>dH [] w w'∧∃ (g':Gh) (oG:List Nat),g.le g'∧(∀ b,g'.Imm b→g.Imm b∨(w.heap.size≤b∧b<w'.heap.size))∧R g' V w' av x oG∧oG.Nodup ∧
    ∀ b∈oG,w.heap.size≤b∧b<w'.heap.size∧¬ g'.Imm b) :
  aN P o N [] [(d,av)] [.slot d]:=by
 refine aN.core fun g V oN oT a w hd hpre => ?_
 have hT:=hpre.esT
 simp only [Es] at hT
 subst hT
 refine (h g V oN a w hpre).mono ?_
 rintro y w' ⟨hchg,g',oG,hle,hnew,hR,hnd,hfr⟩
 have hlt:d<g.n:=hd d ho
 let V1:bl→Value:=fun l=>match l with
  | .slot t=>if t=d then y else V (.slot t)
  | .cell t i=>if t=d then gv w' y i else V (.cell t i)
 have hV1:∀ l,fX [.slot d] l=false→V1 l=V l:=by
  intro l hl
  have:=mo d l hl
  cases l with
  | slot t=>simp only at this; simp [V1,this]
  | cell t i=>simp only at this; simp [V1,this]
 refine ⟨g',V1,oG,hle,fun b hb=>(hnew b hb).imp id fun h => .inr h.1,fun b hb => ?_,hchg,hV1,?_,?_,hnd,?_⟩
 ·rcases hnew b hb with h1 | h1
  ·exact Nat.lt_of_lt_of_le (hpre.imm b (.inl h1)) hchg.size
  ·exact h1.2
 ·intro t
  rw [ho,gJ a d t y (by rw [hpre.size]; exact hlt)]
  simp only [V1]
  split
  ·rfl
  ·exact hpre.val t
 ·refine ⟨oG,[],by simp,⟨?_,?_⟩,rfl⟩
  ·show R g' _ _ av (V1 (.slot d)) oG
   rw [show V1 (.slot d)=y by simp [V1]]
   exact ka (W:=[.slot d]) (fun _ h=>h) (fun _ h=>h) hV1 av y oG hcl (fun _ _=>rfl) hR
  ·cases av <;> try trivial
   case box T cs =>
    intro b hb i hi
    have hy:V1 (.slot d)=y:=by simp [V1]
    dsimp only at hb ⊢
    rw [hy] at hb
    simp only [R] at hR
    obtain ⟨b',xs,os,hx,_,hh,hrs⟩:=hR
    rw [hb] at hx; cases hx
    have hl:xs.length=cs.length:=aR hrs
    rw [cell_of_row w' b i _ T (0,0) hh]
    simp only [V1,if_true,hb,gv]
    rw [cell_of_row w' b i _ T (0,0) hh]
    have:i<xs.length:=by omega
    simp [this]
 ·intro b hb
  obtain ⟨h1,h2,h3⟩:=hfr b hb
  refine ⟨.inr h1,h2,?_⟩
  rintro (hi | hi)
  ·exact h3 hi
  ·rw [hle.Im] at hi; have:=hpre.imm b (.inr hi); omega
def look (N:List aE) (t:Nat):AV:=match N with
 | [] => .any
 | (s,av)::r=>if Nat.beq s t then av else look r t
def qc (N:List aE):bl→AV
 | .slot t=>look N t
 | .cell t i=>match look N t with | .box _ cs=>cs.getD i .any | _ => .any
def Bj (N:List aE):Operand→AV
 | .const v => .v v
 | .tmp t=>look N t
 | .func f => .v (.func (.func f) #[] #[])
 | .global g => .v (.pointer (some ⟨g,0,none⟩))
def Gz (N:List aE):AV→AV
 | .same l=>qc N l
 | av=>av
def rd (N:List aE) (x:Operand):AV:=Gz N (Bj N x)
theorem wZ {N:List aE} {t:Nat}:look N t = .any∨(t,look N t)∈N:=by
 induction N with
 | nil=>exact .inl rfl
 | cons e r ih =>
  obtain ⟨s,av⟩:=e
  simp only [look]
  split
  ·rename_i h; have:=Nat.eq_of_beq_eq_true h; subst this; exact .inr (by simp)
  ·exact ih.imp id fun h=>by simp [h]
section
variable {g:Gh} {V:bl→Value} {w:World} {N:List aE} {o:List Nat} {a:Act}
theorem cO (h:Es g V w N o) (t:Nat):∃ o',(∀ b∈o',b∈o)∧ER g V w (t,look N t) o':=by
 rcases wZ (N:=N) (t:=t) with h1 | h1
 ·rw [h1]; exact ⟨[],by simp,by simp [R],trivial⟩
 ·exact wF h h1
theorem xz (hv:∀ t,V (.slot t)=a.tmps.getD t undef) (h:Es g V w N o) (x:Operand):∃ o',(∀ b∈o',b∈o)∧R g V w (Bj N x) (a.eval x) o':=by
 cases x with
 | const v=>exact ⟨[],by simp,by simp [Bj,R,Act.eval]⟩
 | func f=>exact ⟨[],by simp,by simp [Bj,R,Act.eval]⟩
 | global f=>exact ⟨[],by simp,by simp [Bj,R,Act.eval]⟩
 | tmp t =>
  obtain ⟨o',hs,hr,_⟩:=cO h t
  exact ⟨o',hs,by simp only [Act.eval,← hv]; exact hr⟩
theorem sD:∀ {cs:List AV} {xs:List Value} {o:List Nat} (i:Nat),Rs g V w cs xs o→i<cs.length→∃ o',(∀ b∈o',b∈o)∧R g V w (cs.getD i .any) (xs.getD i undef) o'
 | [],_,_,i,_,hi=>by simp at hi
 | c::cs,xs,o,i,h,hi=>by
  simp only [Rs] at h
  obtain ⟨x,xs',o1,o2,rfl,rfl,h1,h2⟩:=h
  cases i with
  | zero=>exact ⟨o1,fun b hb=>by simp [hb],by simpa using h1⟩
  | succ i =>
   obtain ⟨o',hs,hr⟩:=sD i h2 (by simpa using hi)
   exact ⟨o',fun b hb=>by simp [hs b hb],by simpa using hr⟩
theorem nk (h:Es g V w N o) (l:bl):∃ o',(∀ b∈o',b∈o)∧R g V w (qc N l) (V l) o':=by
 cases l with
 | slot t=>obtain ⟨o',hs,hr,_⟩:=cO h t; exact ⟨o',hs,hr⟩
 | cell t i =>
  obtain ⟨o',hs,hr,ht⟩:=cO h t
  simp only [qc]
  dsimp only at hr ht
  cases hl:look N t with
  | box T cs =>
   rw [hl] at hr ht
   simp only [R] at hr
   obtain ⟨b,xs,os,hx,rfl,hh,hrs⟩:=hr
   by_cases hi:i<cs.length
   ·obtain ⟨o2,hs2,h2⟩:=sD i hrs hi
    have hc:=ht b hx i hi
    rw [cell_of_row w b i _ T (0,0) hh] at hc
    have hlen:=aR hrs
    have:i<xs.length:=by omega
    simp only [List.getElem?_toArray,List.getElem?_eq_getElem this,Option.some.injEq] at hc
    refine ⟨o2,fun b' hb'=>hs b' (by simp [hs2 b' hb']),?_⟩
    have e:V (.cell t i)=xs.getD i undef:=by rw [← hc]; simp [this]
    show R g V w (cs.getD i .any) (V (.cell t i)) o2
    rw [e]; exact h2
   ·refine ⟨[],by simp,?_⟩
    show R g V w (cs.getD i .any) (V (.cell t i)) []
    have:cs.getD i .any = .any:=by simp [List.getD_eq_getElem?_getD,List.getElem?_eq_none (Nat.le_of_not_lt hi)]
    rw [this]; simp [R]
  | _=>exact ⟨[],by simp,by simp [R]⟩
theorem kJ (hv:∀ t,V (.slot t)=a.tmps.getD t undef) (h:Es g V w N o) (x:Operand):∃ o',(∀ b∈o',b∈o)∧R g V w (rd N x) (a.eval x) o':=by
 obtain ⟨o',hs,hr⟩:=xz hv h x
 unfold rd
 cases hx:Bj N x with
 | same l =>
  rw [hx] at hr
  simp only [R] at hr
  simp only [Gz]
  rw [hr.1]; exact nk h l
 | _=>rw [hx] at hr; exact ⟨o',hs,hr⟩
theorem bZ {y:Value} (hv:∀ t,V (.slot t)=a.tmps.getD t undef) (h:Es g V w N o) {x:Operand} (hx:rd N x = .v y):a.eval x=y:=by
 obtain ⟨o',_,hr⟩:=kJ hv h x
 rw [hx] at hr
 simp only [R] at hr
 exact hr.1
end
def bR:AV→AV
 | .v x => .v x
 | .fl (.own _) _ _ => .any
 | .fl m z xs => .fl m z xs
 | .fr (.own _) _ _ _ => .any
 | .fr m s z xs => .fr m s z xs
 | .same l => .same l
 | .ptr t i => .ptr t i
 | .asl t i => .asl t i
 | .eref l k => .eref l k
 | .cut l k => .cut l k
 | .clo f ts => .clo f ts
 | _ => .any
def jJ (t:Nat):AV→AV
 | .v x => .v x
 | .fl (.own _) _ _ => .same (.slot t)
 | .fl m z xs => .fl m z xs
 | .fr (.own _) _ _ _ => .same (.slot t)
 | .fr m s z xs => .fr m s z xs
 | .agg cs => .agg (cs.map bR)
 | .box _ _ => .ptr t 0
 | .arr _ _ => .ptr t 0
 | .asl t i => .asl t i
 | .same l => .same l
 | .ptr t i => .ptr t i
 | .eref l k => .eref l k
 | .cut l k => .cut l k
 | .clo f ts => .clo f ts
 | .mkr _ _ => .same (.slot t)
 | _ => .any
def aO (N:List aE):Operand→AV
 | .tmp t=>jJ t (look N t)
 | x=>Bj N x
section
variable {g:Gh} {V:bl→Value} {w:World}
theorem fo {av:AV} {x:Value} {o:List Nat} (h:R g V w av x o):R g V w (bR av) x []:=by
 cases av with
 | v y=>simp only [R,bR] at *; exact ⟨h.1,trivial⟩
 | fl m z xs =>
  cases m with
  | own T=>simp [bR,R]
  | ro=>simp only [R,bR,bI] at *; obtain ⟨a,n,c,h1,h2,h3,h4,h5,h6⟩:=h; exact ⟨a,n,c,h1,h2,h3,h4,trivial,h6⟩
  | shr=>simp only [R,bR,bI] at *; obtain ⟨a,n,c,h1,h2,h3,h4,h5,h6⟩:=h; exact ⟨a,n,c,h1,h2,h3,h4,trivial,h6⟩
 | same l=>simp only [R,bR] at *; exact ⟨h.1,trivial⟩
 | ptr t i=>simp only [R,bR] at *; obtain ⟨b,h1,h2,_⟩:=h; exact ⟨b,h1,h2,trivial⟩
 | eref l k=>simp only [R,bR] at *; obtain ⟨a,n,c,h1,h2,_⟩:=h; exact ⟨a,n,c,h1,h2,trivial⟩
 | cut l k=>simp only [R,bR] at *; obtain ⟨a,n,c,h1,h2,h3,h4,_⟩:=h; exact ⟨a,n,c,h1,h2,h3,h4,trivial⟩
 | any=>simp [R,bR]
 | agg cs=>simp [R,bR]
 | tup cs=>simp [R,bR]
 | box T cs=>simp [R,bR]
 | arr T vs=>simp [R,bR]
 | glob gl=>simp [R,bR]
 | obox p T cs=>simp [R,bR]
 | clo f ts=>simp only [R,bR] at *; exact ⟨h.1,trivial⟩
 | cloB f cs=>simp [R,bR]
 | inv J=>simp [R,bR]
 | mkr E xs=>simp [R,bR]
 | hid J=>simp [R,bR]
 | asl t i=>simp only [R,bR] at *; obtain ⟨b,h1,h2,_⟩:=h; exact ⟨b,h1,h2,trivial⟩
 | fr m s z xs =>
  cases m with
  | own T=>simp [bR,R]
  | ro=>simp only [R,bR,bI] at *; obtain ⟨vs,a,n,c,h1,h2,h3,h4,⟨h5,h6⟩,h7⟩:=h; exact ⟨vs,a,n,c,h1,h2,h3,h4,⟨trivial,h6⟩,h7⟩
  | shr=>simp only [R,bR,bI] at *; obtain ⟨vs,a,n,c,h1,h2,h3,h4,⟨h5,h6⟩,h7⟩:=h; exact ⟨vs,a,n,c,h1,h2,h3,h4,⟨trivial,h6⟩,h7⟩
theorem pT:∀ {cs:List AV} {xs:List Value} {o:List Nat},Rs g V w cs xs o→Rs g V w (cs.map bR) xs []
 | [],xs,o,h=>by simp only [Rs,List.map_nil] at *; exact ⟨h.1,trivial⟩
 | c::cs,xs,o,h=>by
  simp only [Rs,List.map_cons] at *
  obtain ⟨x,xs',o1,o2,rfl,rfl,h1,h2⟩:=h
  exact ⟨x,xs',[],[],rfl,rfl,fo h1,pT h2⟩
theorem GU {av:AV} {t:Nat} {o:List Nat} (h:R g V w av (V (.slot t)) o):R g V w (jJ t av) (V (.slot t)) []:=by
 cases av with
 | v y=>simp only [R,jJ] at *; exact ⟨h.1,trivial⟩
 | fl m z xs =>
  cases m with
  | own T=>simp [jJ,R]
  | ro=>simp only [R,jJ,bI] at *; obtain ⟨a,n,c,h1,h2,h3,h4,h5,h6⟩:=h; exact ⟨a,n,c,h1,h2,h3,h4,trivial,h6⟩
  | shr=>simp only [R,jJ,bI] at *; obtain ⟨a,n,c,h1,h2,h3,h4,h5,h6⟩:=h; exact ⟨a,n,c,h1,h2,h3,h4,trivial,h6⟩
 | same l=>simp only [R,jJ] at *; exact ⟨h.1,trivial⟩
 | ptr t i=>simp only [R,jJ] at *; obtain ⟨b,h1,h2,_⟩:=h; exact ⟨b,h1,h2,trivial⟩
 | eref l k=>simp only [R,jJ] at *; obtain ⟨a,n,c,h1,h2,_⟩:=h; exact ⟨a,n,c,h1,h2,trivial⟩
 | cut l k=>simp only [R,jJ] at *; obtain ⟨a,n,c,h1,h2,h3,h4,_⟩:=h; exact ⟨a,n,c,h1,h2,h3,h4,trivial⟩
 | any=>simp [R,jJ]
 | agg cs=>simp only [R,jJ] at *; obtain ⟨xs,h1,h2⟩:=h; exact ⟨xs,h1,pT h2⟩
 | tup cs=>simp [R,jJ]
 | box T cs=>simp only [R,jJ] at *; obtain ⟨b,xs,os,h1,_⟩:=h; exact ⟨b,h1,h1,trivial⟩
 | arr T vs=>simp only [R,jJ] at *; obtain ⟨b,h1,_⟩:=h; exact ⟨b,h1,h1,trivial⟩
 | glob gl=>simp [R,jJ]
 | obox p T cs=>simp [R,jJ]
 | clo f ts=>simp only [R,jJ] at *; exact ⟨h.1,trivial⟩
 | cloB f cs=>simp [R,jJ]
 | inv J=>simp [R,jJ]
 | mkr E xs=>simp [R,jJ]
 | hid J=>simp [R,jJ]
 | asl t i=>simp only [R,jJ] at *; obtain ⟨b,h1,h2,_⟩:=h; exact ⟨b,h1,h2,trivial⟩
 | fr m s z xs =>
  cases m with
  | own T=>simp [jJ,R]
  | ro=>simp only [R,jJ,bI] at *; obtain ⟨vs,a,n,c,h1,h2,h3,h4,⟨h5,h6⟩,h7⟩:=h; exact ⟨vs,a,n,c,h1,h2,h3,h4,⟨trivial,h6⟩,h7⟩
  | shr=>simp only [R,jJ,bI] at *; obtain ⟨vs,a,n,c,h1,h2,h3,h4,⟨h5,h6⟩,h7⟩:=h; exact ⟨vs,a,n,c,h1,h2,h3,h4,⟨trivial,h6⟩,h7⟩
theorem bk {N:List aE} {o:List Nat} {a:Act} (hv:∀ t,V (.slot t)=a.tmps.getD t undef) (h:Es g V w N o) (x:Operand):R g V w (aO N x) (a.eval x) []:=by
 cases x with
 | const v=>simp [aO,Bj,R,Act.eval]
 | func f=>simp [aO,Bj,R,Act.eval]
 | global f=>simp [aO,Bj,R,Act.eval]
 | tmp t =>
  obtain ⟨o',hs,hr,_⟩:=cO h t
  simp only [aO,Act.eval,← hv]
  exact GU hr
end
section
variable {P:Program} {ty:TypeId} {pos:String} {aft:Array Edge} {gd:Option (Nat×Bool)}
theorem uJ (N:List aE) (x:Operand):fu (aO N x)=true:=by
 cases x with
 | tmp t =>
  simp only [aO]
  cases look N t <;> try rfl
  case fl m z xs=>cases m <;> rfl
  case fr m s z xs=>cases m <;> rfl
 | _=>rfl
theorem Bo (N:List aE) (d:Nat) (x:Operand) (av:AV) (h:aO N x=av) (hcl:eM [.slot d] av=true) :
  aN P ⟨some d,.move x,ty,pos,aft,gd⟩ N [] [(d,av)] [.slot d]:=by
 subst h
 exact aN.value rfl hcl (uJ N x) fun g V oN a w hp=>⟨a.eval x,by simp [execOp,pure],bk hp.val hp.esN x⟩
theorem lK (N:List aE) (d:Nat) (x:Operand) (av:AV) (h:aO N x=av) (hcl:eM [.slot d] av=true) :
  aN P ⟨some d,.assign x,ty,pos,aft,gd⟩ N [] [(d,av)] [.slot d]:=by
 subst h
 exact aN.value rfl hcl (uJ N x) fun g V oN a w hp=>⟨a.eval x,by simp [execOp,pure],bk hp.val hp.esN x⟩
theorem aN.drop {o:Oper} {N T G:List aE} {W:List bl} (D:List aE) (h:aN P o N T G W):aN P o N (D++T) G W:=by
 intro g F a w K Q hd hs hc hk
 refine h g F a w K Q hd ?_ hc hk
 obtain ⟨V,ow,hst,hes⟩:=hs
 have:fg g (N++((D++T)++F)) a w:=⟨V,ow,hst,hes⟩
 refine this.sub ⟨D,?_⟩
 rw [← List.append_assoc,← List.append_assoc,← List.append_assoc]
 exact (List.perm_append_comm.append_right T).append_right F |>.trans (by simp)
end
end Go.Abs
end
section
namespace Go.Abs
def mW (op:BinOp) (x y:Value):Option Value :=
 match x,y with
 | .int k a,.int k' b =>
  match op with
  | .shl=>if 0≤b then some (.int k (k.wrap (a * 2 ^ min b.toNat k.bits))) else none
  | .shr=>if 0≤b then some (.int k (a.fdiv (2 ^ min b.toNat k.bits))) else none
  | op=>if k=k' then
   match op with
   | .add=>some (.int k (k.wrap (a+b)))
   | .sub=>some (.int k (k.wrap (a-b)))
   | .mul=>some (.int k (k.wrap (a * b)))
   | .quo=>if b=0 then none else some (.int k (k.wrap (a.tdiv b)))
   | .rem=>if b=0 then none else some (.int k (a.tmod b))
   | .and=>some (.int k (bits .and k a b))
   | .or=>some (.int k (bits .or k a b))
   | .xor=>some (.int k (bits .xor k a b))
   | .andNot=>some (.int k (bits .andNot k a b))
   | .eql=>some (.bool (a==b))
   | .neq=>some (.bool (a != b))
   | .lss=>some (.bool (decide (a<b)))
   | .leq=>some (.bool (decide (a≤b)))
   | .gtr=>some (.bool (decide (b<a)))
   | .geq=>some (.bool (decide (b≤a)))
   | _=>none
   else none
 | .string s,.string t =>
  match op with
  | .add=>if s.size+t.size≤9223372036854775807 then some (.string (s++t)) else none
  | .eql=>some (.bool (s.toList==t.toList))
  | .neq=>some (.bool !(s.toList==t.toList))
  | _=>none
 | _,_=>none
section
variable {P:Program} {ty:TypeId} {pos:String} {aft:Array Edge} {gd:Option (Nat×Bool)} {w:World}
theorem Em {op:BinOp} {t:TypeId} {x y:Operand} {a b r:Value} (h:mW op a b=some r):(do eqGuard op t x y a b; binOp op t a b).run P w = .ok r w:=by
 unfold mW at h
 split at h
 ·rename_i k m k' m'
  have hg:eqGuard op t x y (.int k m) (.int k' m')=pure ():=by
   unfold eqGuard; cases op <;> simp
  rw [hg]
  split at h
  ·split at h
   ·rename_i hb
    cases h
    simp [binOp,Op.shift,Int.not_lt.2 hb]
   ·cases h
  ·split at h
   ·rename_i hb
    cases h
    simp [binOp,Op.shift,Int.not_lt.2 hb]
   ·cases h
  ·split at h
   ·rename_i hk
    subst hk
    split at h <;> try (cases h; done)
    all_goals first
     | (cases h; simp [binOp,Op.intArith,Op.intCmp]; done)
     | (cases h; simp [binOp,intBits_and,intBits_or,intBits_xor,intBits_andNot]; done)
     | (
      split at h
      ·cases h
      ·rename_i hb; cases h; simp [binOp,Op.intDiv,hb])
   ·cases h
 ·rename_i s u
  have hg:eqGuard op t x y (.string s) (.string u)=pure ():=by
   unfold eqGuard; cases op <;> simp
  rw [hg]
  split at h <;> try (cases h; done)
  ·split at h
   ·rename_i hb
    cases h
    have:¬ ((s.size+u.size:Nat):Int) > IntKind.i64.max:=by
     have:IntKind.i64.max=9223372036854775807:=by decide
     omega
    simp [binOp,Op.stringOp]
    simp at this
    omega
   ·cases h
  ·cases h; simp [binOp,Op.stringOp]
  ·cases h; simp [binOp,Op.stringOp]
 ·cases h
theorem aN.v {o:Oper} {N:List aE} {d:Nat} {r:Value} (ho:o.dst=some d)
  (h:∀ (g:Gh) (V:bl→Value) (oN:List Nat) (a:Act) (w:World),FE g V N [] oN [] a w→(execOp a.eval o).run P w = .ok (.value r) w):aN P o N [] [(d,.v r)] [.slot d] :=
 aN.value ho rfl rfl fun g V oN a w hp=>⟨r,h g V oN a w hp,by simp [R]⟩
theorem tR (N:List aE) (d:Nat) {op:BinOp} {t t':TypeId} {x y:Operand} (a b r:Value) (hx:rd N x = .v a) (hy:rd N y = .v b) (h:mW op a b=some r) :
  aN P ⟨some d,.binOp op t x y t',ty,pos,aft,gd⟩ N [] [(d,.v r)] [.slot d]:=by
 refine aN.v rfl fun g V oN ac w hp => ?_
 have h1:=bZ hp.val hp.esN hx
 have h2:=bZ hp.val hp.esN hy
 simp only [execOp,h1,h2,Sem.run_bind]
 have:=Em (P:=P) (w:=w) (t:=t) (x:=x) (y:=y) h
 simp only [Sem.run_bind] at this
 rw [this]
 simp
theorem th {t:TypeId} (a b:Bool) (hT:P.underlying t=some .bool):(Op.equal t (.bool a) (.bool b)).run P w = .ok (a==b) w:=by
 unfold Op.equal
 rw [show Op.maxDepth=9999+1 from rfl]
 generalize 9999=d
 simp [Op.equalIn,run_underlying hT]
theorem tO (t:TypeId) (a b:Bool):binOp .eql t (.bool a) (.bool b)=(do pure (.bool (← Op.equal t (.bool a) (.bool b)))):=rfl
theorem ra (N:List aE) (d:Nat) {t t':TypeId} {x y:Operand} (a b:Bool) (hT:P.underlying t=some .bool) (hx:rd N x = .v (.bool a)) (hy:rd N y = .v (.bool b)) :
  aN P ⟨some d,.binOp .eql t x y t',ty,pos,aft,gd⟩ N [] [(d,.v (.bool (a==b)))] [.slot d]:=by
 refine aN.v rfl fun g V oN ac w hp => ?_
 have h1:=bZ hp.val hp.esN hx
 have h2:=bZ hp.val hp.esN hy
 have hg:eqGuard .eql t x y (.bool a) (.bool b)=pure ():=by unfold eqGuard; simp
 simp only [execOp,h1,h2,hg,tO,Sem.run_bind,th a b hT]
 simp
def Kq (op:UnOp) (x:Value):Option Value :=
 match op,x with
 | .not,.bool b=>some (.bool !b)
 | .neg,.int k n=>some (.int k (k.wrap (0-n)))
 | .xor,.int k n=>some (.int k (bits .xor k (if k.signed then-1 else k.max) n))
 | _,_=>none
theorem Dn (N:List aE) (d:Nat) {op:UnOp} {t:TypeId} {x:Operand} (a r:Value) (hx:rd N x = .v a) (h:Kq op a=some r) :
  aN P ⟨some d,.unOp op t x,ty,pos,aft,gd⟩ N [] [(d,.v r)] [.slot d]:=by
 refine aN.v rfl fun g V oN ac w hp => ?_
 have h1:=bZ hp.val hp.esN hx
 unfold Kq at h
 split at h <;> cases h
 ·simp [execOp,h1,Op.unary]
 ·simp [execOp,h1,Op.unary,Op.intArith]
 ·simp [execOp,h1,Op.unary,intBits_xor]
theorem EJ (N:List aE) (d:Nat) {s t:TypeId} {x:Operand} {e:TypeDesc} {k k':IntKind} (n:Int) (hs:P.underlying s=some e) (ht:P.underlying t=some (.int k)) (hx:rd N x = .v (.int k' n)) :
  aN P ⟨some d,.convert s t x,ty,pos,aft,gd⟩ N [] [(d,.v (.int k (k.wrap n)))] [.slot d]:=by
 refine aN.v rfl fun g V oN ac w hp => ?_
 have h1:=bZ hp.val hp.esN hx
 simp [execOp,h1,convert,run_underlying hs,run_underlying ht,Conv.intToInt]
theorem Bc (N:List aE) (d:Nat) {c x y:Operand} (b:Bool) (r:Value) (hc:rd N c = .v (.bool b)) (h:rd N (if b then x else y) = .v r) :
  aN P ⟨some d,.pick c x y,ty,pos,aft,gd⟩ N [] [(d,.v r)] [.slot d]:=by
 refine aN.v rfl fun g V oN ac w hp => ?_
 have h1:=bZ hp.val hp.esN hc
 have h2:=bZ hp.val hp.esN h
 simp only [execOp,h1,asBool]
 cases b <;> simp_all
theorem Cb (N:List aE) (d:Nat) {t t' e:TypeId} {x:Operand} {m:Md} {z:Nat} {xs:List Value} (n:Nat) (hT:P.underlying t=some (.slice e)) (hx:rd N x = .fl m z xs) (hz:0<z) (hn:xs.length=n * z) :
  aN P ⟨some d,.call ⟨.builtin .len,#[x],#[t]⟩,t',pos,aft,gd⟩ N [] [(d,.v (.int .i64 (n:Int)))] [.slot d]:=by
 refine aN.v rfl fun g V oN ac w hp => ?_
 obtain ⟨o',_,hr⟩:=kJ hp.val hp.esN x
 rw [hx] at hr
 simp only [R] at hr
 obtain ⟨a,n',c,⟨he,_⟩,hl,_⟩:=hr
 have:n'=n:=Nat.eq_of_mul_eq_mul_right hz (by omega)
 subst this
 simp [execOp,resolve,invoke,builtin,Builtin.len_,he,run_underlying hT,goInt]
theorem sy (N:List aE) (d:Nat) {t t':TypeId} {x:Operand} (s:Mf) (hT:P.underlying t=some .string) (hx:rd N x = .v (.string s)) :
  aN P ⟨some d,.call ⟨.builtin .len,#[x],#[t]⟩,t',pos,aft,gd⟩ N [] [(d,.v (.int .i64 (s.size:Int)))] [.slot d]:=by
 refine aN.v rfl fun g V oN ac w hp => ?_
 have h1:=bZ hp.val hp.esN hx
 simp [execOp,resolve,invoke,builtin,Builtin.len_,h1,run_underlying hT,goInt]
theorem vJ (N:List aE) (d:Nat) {ts:Array TypeId} {t':TypeId} {x y:Operand} {k:IntKind} (a b:Int) (hx:rd N x = .v (.int k a)) (hy:rd N y = .v (.int k b)) :
  aN P ⟨some d,.call ⟨.builtin .min,#[x,y],ts⟩,t',pos,aft,gd⟩ N [] [(d,.v (.int k (if b<a then b else a)))] [.slot d]:=by
 refine aN.v rfl fun g V oN ac w hp => ?_
 have h1:=bZ hp.val hp.esN hx
 have h2:=bZ hp.val hp.esN hy
 simp [execOp,resolve,invoke,builtin,Builtin.min_,h1,h2,Builtin.min2]
theorem vy (N:List aE) (d:Nat) {t:TypeId} {x y:Operand} {k:IntKind} (s:Mf) (i:Nat) (b:UInt8) (hT:P.underlying t=some .string) (hx:rd N x = .v (.string s)) (hy:rd N y = .v (.int k (i:Int)))
  (hb:s.data.toList[i]? = some b):aN P ⟨some d,.index t x y,ty,pos,aft,gd⟩ N [] [(d,.v (.int .u8 (b.toNat:Int)))] [.slot d]:=by
 refine aN.v rfl fun g V oN ac w hp => ?_
 have h1:=bZ hp.val hp.esN hx
 have h2:=bZ hp.val hp.esN hy
 have hlt:i<s.size:=by
  have:=(List.getElem?_eq_some_iff.1 hb).1
  simpa using this
 have hs:s[i]? = some b:=by
  have:=(List.getElem?_eq_some_iff.1 hb).2
  rw [getElem?_pos s i hlt]
  exact congrArg some (by simpa using this:s.data[i]=b)
 simp [execOp,Instr.index,h1,h2,asIntOf,run_underlying hT,hs]
theorem ww (N:List aE) (d:Nat) {t:TypeId} {x:Operand} {lo hi:Option Operand} (s:Mf) (l h:Nat) (hT:P.underlying t=some .string) (hx:rd N x = .v (.string s))
  (hl:match lo with | some y=>∃ k,rd N y = .v (.int k (l:Int)) | none=>l=0) (hh:match hi with | some y=>∃ k,rd N y = .v (.int k (h:Int)) | none=>h=s.size) (h1:l≤h) (h2:h≤s.size) :
  aN P ⟨some d,.slice t x lo hi none,ty,pos,aft,gd⟩ N [] [(d,.v (.string (s.extract l h)))] [.slot d]:=by
 refine aN.v rfl fun g V oN ac w hp => ?_
 have e1:=bZ hp.val hp.esN hx
 have e2:∀ y,lo=some y→∃ k,ac.eval y = .int k (l:Int):=by
  intro y hy; subst hy; obtain ⟨k,hk⟩:=hl; exact ⟨k,bZ hp.val hp.esN hk⟩
 have e3:∀ y,hi=some y→∃ k,ac.eval y = .int k (h:Int):=by
  intro y hy; subst hy; obtain ⟨k,hk⟩:=hh; exact ⟨k,bZ hp.val hp.esN hk⟩
 cases lo with
 | none =>
  simp only at hl; subst hl
  cases hi with
  | none =>
   simp only at hh; subst hh
   simp [execOp,Instr.sliceAt,Instr.slice,run_underlying hT,e1,Instr.sliceBounds]
  | some y =>
   obtain ⟨k,hk⟩:=e3 y rfl
   simp [execOp,Instr.sliceAt,Instr.slice,run_underlying hT,e1,Instr.sliceBounds,Instr.sliceBound,asIntOf,hk,h2]
 | some y =>
  obtain ⟨k,hk⟩:=e2 y rfl
  cases hi with
  | none =>
   simp only at hh; subst hh
   simp [execOp,Instr.sliceAt,Instr.slice,run_underlying hT,e1,Instr.sliceBounds,Instr.sliceBound,asIntOf,hk,h1]
  | some y' =>
   obtain ⟨k',hk'⟩:=e3 y' rfl
   simp [execOp,Instr.sliceAt,Instr.slice,run_underlying hT,e1,Instr.sliceBounds,Instr.sliceBound,asIntOf,hk,hk',h1,h2]
theorem ub (N:List aE) (t d:Nat) {i:Nat} (cs:List AV) (av:AV) (hlk:look N t = .tup cs) (hi:bR (cs.getD i .any)=av) (hlt:i<cs.length) (hcl:eM [.slot d] av=true) (hb:fu av=true) :
  aN P ⟨some d,.extract (.tmp t) i,ty,pos,aft,gd⟩ N [] [(d,av)] [.slot d]:=by
 refine aN.value rfl hcl hb fun g V oN ac w hp => ?_
 obtain ⟨o',_,hr,_⟩:=cO hp.esN t
 dsimp only at hr
 rw [hlk] at hr
 simp only [R] at hr
 obtain ⟨xs,hx,hrs⟩:=hr
 have hl:=aR hrs
 obtain ⟨o2,_,h2⟩:=sD i hrs hlt
 have hix:i<xs.length:=by omega
 refine ⟨xs.getD i undef,?_,by rw [← hi]; exact fo h2⟩
 have:ac.eval (.tmp t) = .tuple xs.toArray:=by simp only [Act.eval,← hp.val]; exact hx
 simp [execOp,this,Instr.extract,hix]
end
end Go.Abs
end
section
namespace Go.Abs
theorem bQ (b o i:Nat):(⟨b,o,none⟩:Addr).add i=⟨b,o+i,none⟩:=by
 unfold Addr.add
 by_cases hi:i=0 <;> simp [hi]
theorem add_add (a:Addr) (i j:Nat):(a.add i).add j=a.add (i+j):=by
 unfold Addr.add
 by_cases hi:i=0 <;> by_cases hj:j=0 <;> simp [hi,hj,Nat.add_assoc]
theorem rh (a:Addr) (n:Nat):(a.add n).block=a.block:=by unfold Addr.add; split <;> rfl
def cT:TypeDesc→Bool
 | .struct _=>true
 | .array _ _=>true
 | _=>false
section
variable {P:Program} {w:World}
theorem oM {T:TypeId} {d:TypeDesc} (hu:P.underlying T=some d):(isAgg T).run P w = .ok (cT d) w:=by
 unfold isAgg
 rw [Sem.run_bind,run_underlying hu w]
 cases d <;> simp [cT]
theorem aW {T:TypeId} {s:Nat} (h:(P.info? T).map (·.size)=some s):(sizeOf T).run P w = .ok s w:=by
 cases hq:P.info? T with
 | none=>simp [hq] at h
 | some i=>simp [hq] at h; simp [sizeOf,typeInfo,hq,h]
theorem jW {T:TypeId} {z:Value} (h:(P.info? T).bind (·.zero)=some z):(zeroValue T).run P w = .ok z w:=by
 cases hq:P.info? T with
 | none=>simp [hq] at h
 | some i=>simp [hq] at h; simp [zeroValue,typeInfo,hq,h]
theorem iE {T:TypeId} {d:TypeDesc} (hu:P.underlying T=some d) (hd:cT d=false) {a:Addr} {v:Value} (hc:w.cell? a=some v):(loadVar T a).run P w = .ok v w:=by
 simp [loadVar,Sem.run_bind,oM hu,hd,load,Sem.run,hc]
theorem im {T:TypeId} {d:TypeDesc} {s:Nat} (hu:P.underlying T=some d) (hd:cT d=true) (hs:(P.info? T).map (·.size)=some s) {a:Addr} {xs:List Value} (hl:xs.length=s)
  (hc:∀ j v,xs[j]? = some v→w.cell? (a.add j)=some v):(loadVar T a).run P w = .ok (.agg xs.toArray) w:=by
 subst hl
 have:=run_loadCells_list (P:=P) w a xs hc
 simp [loadVar,Sem.run_bind,oM hu,hd,aW hs,this]
theorem iO {T:TypeId} {s:Nat} (hs:(P.info? T).map (·.size)=some s) {b off:Nat} {E:TypeId} {cur:List Value} {v:Value} (hb:w.heap[b]? = some (.cells cur.toArray E (0,0)))
  (hv:v.cells.size=s) (h1:∀ u∈v.cells.toList,u.oneCell'=true) (hfit:off+s≤cur.length) :
  (storeVar T ⟨b,off,none⟩ v).run P w = .ok () (w.setRow b (cur.take off++v.cells.toList++cur.drop (off+s)).toArray):=by
 subst hv
 have:=run_storeCells_at P b off E v.cells.toList 0 cur.toArray w hb (by simpa using hfit) h1
 simp only [Nat.add_zero,Array.length_toList] at this
 simp [storeVar,Sem.run_bind,aW hs,this]
end
section
variable {P:Program} {ty:TypeId} {pos:String} {aft:Array Edge} {gd:Option (Nat×Bool)}
theorem qa {g:Gh} {V:bl→Value} {w:World}:∀ (xs:List Value),Rs g V w (xs.map .v) xs []
 | []=>by simp [Rs]
 | x::xs=>by simp only [List.map_cons,Rs]; exact ⟨x,xs,[],[],rfl,rfl,by simp [R],qa xs⟩
theorem aT (d:Nat) {T:TypeId} (z:Value) (hz:(P.info? T).bind (·.zero)=some z) :
  aN P ⟨some d,.alloc T,ty,pos,aft,gd⟩ [] [] [(d,.box T (z.cells.toList.map .v))] [.slot d]:=by
 refine aN.fresh rfl ?_ fun g V oN a w hp => ?_
 ·simp only [eM]; induction z.cells.toList with
  | nil=>rfl
  | cons x xs ih=>simp [di,eM,ih]
 ·have hr:(execOp a.eval ⟨some d,.alloc T,ty,pos,aft,gd⟩).run P w = .ok (.value (.pointer (some ⟨w.heap.size,0,none⟩))) (w.alloc (.cells z.cells T)):=by
   simp [execOp,Instr.alloc,Sem.run_bind,jW hz,newVar,newRow,newObj]
   rfl
  refine (Yl.val hr).mono ?_
  rintro x w' ⟨rfl,rfl⟩
  refine ⟨dH.alloc _ _ _,g,[w.heap.size],g.le_refl,fun b hb => .inl hb,?_,by simp,?_⟩
  ·simp only [R]
   exact ⟨w.heap.size,z.cells.toList,[],rfl,rfl,by simpa using heap_alloc_new w (.cells z.cells T),qa _⟩
  ·intro b hb
   simp at hb; subst hb
   exact ⟨Nat.le_refl _,by simp,fun hi=>Nat.lt_irrefl _ (hp.imm _ (.inl hi))⟩
def cA:AV→List AV
 | .agg cs=>cs
 | av=>[av]
def fw (NT:List aE):AV→Bool
 | .v y=>y.oneCell'
 | .fl .. => true
 | .fr .. => true
 | .box .. => true
 | .ptr .. => true
 | .eref .. => true
 | .same l=>match qc NT l with | .fl .. => true | .fr .. => true | _=>false
 | .hid J=>J.one
 | .mkr .. => true
 | _=>false
def dj (NT:List aE):AV→Bool
 | .agg cs=>cs.all (fw NT)
 | av=>fw NT av
section
variable {g:Gh} {V:bl→Value} {w:World} {NT:List aE} {oNT:List Nat}
theorem xO (hes:Es g V w NT oNT) {c:AV} {x:Value} {o:List Nat} (hc:fw NT c=true) (h:R g V w c x o):x.oneCell'=true:=by
 cases c with
 | v y=>simp only [R] at h; simp only [fw] at hc; rw [h.1]; exact hc
 | fl m z xs=>simp only [R] at h; obtain ⟨a,n,c,⟨rfl,_⟩,_⟩:=h; rfl
 | box T cs=>simp only [R] at h; obtain ⟨b,xs,os,rfl,_⟩:=h; rfl
 | ptr t i=>simp only [R] at h; obtain ⟨b,_,rfl,_⟩:=h; rfl
 | eref l k=>simp only [R] at h; obtain ⟨a,n,c,_,rfl,_⟩:=h; rfl
 | same l =>
  simp only [R] at h
  simp only [fw] at hc
  obtain ⟨o',_,hr⟩:=nk hes l
  rw [h.1]
  cases hl:qc NT l <;> simp [hl] at hc <;> rw [hl] at hr <;> simp only [R] at hr
  ·obtain ⟨a,n,c,⟨he,_⟩,_⟩:=hr
   rw [he]; rfl
  ·obtain ⟨vs,a,n,c,⟨he,_⟩,_⟩:=hr
   rw [he]; rfl
 | any=>simp [fw] at hc
 | agg cs=>simp [fw] at hc
 | tup cs=>simp [fw] at hc
 | arr T vs=>simp [fw] at hc
 | glob gl=>simp [fw] at hc
 | obox p T cs=>simp [fw] at hc
 | clo f ts=>simp [fw] at hc
 | cloB f cs=>simp [fw] at hc
 | inv J=>simp [fw] at hc
 | mkr E xs =>
  simp only [R] at h
  rcases h with ⟨rfl,_⟩ | ⟨b,k,n,cap,cur,fz,rfl,_⟩ <;> rfl
 | asl t i=>simp [fw] at hc
 | hid J=>simp only [R] at h; simp only [fw] at hc; exact J.cell hc _ _ _ _ _ h
 | cut l k=>simp [fw] at hc
 | fr m s z xs=>simp only [R] at h; obtain ⟨vs,a,n,c,⟨rfl,_⟩,_⟩:=h; rfl
theorem uY (hes:Es g V w NT oNT):∀ {cs:List AV} {xs:List Value} {o:List Nat},(∀ c∈cs,fw NT c=true)→Rs g V w cs xs o→∀ u∈xs,u.oneCell'=true
 | [],xs,o,_,h,u,hu=>by simp only [Rs] at h; rw [h.1] at hu; cases hu
 | c::cs,xs,o,hc,h,u,hu=>by
  simp only [Rs] at h
  obtain ⟨x,xs',o1,o2,rfl,rfl,h1,h2⟩:=h
  rcases List.mem_cons.1 hu with rfl | hu
  ·exact xO hes (hc c (by simp)) h1
  ·exact uY hes (fun c' hc'=>hc c' (by simp [hc'])) h2 u hu
theorem jS (hes:Es g V w NT oNT) {av:AV} {x:Value} {o:List Nat} (hok:dj NT av=true) (h:R g V w av x o) :
  Rs g V w (cA av) x.cells.toList o∧∀ u∈x.cells.toList,u.oneCell'=true:=by
 have single:∀ c:AV,fw NT c=true→R g V w c x o→Rs g V w [c] x.cells.toList o∧∀ u∈x.cells.toList,u.oneCell'=true:=by
  intro c hc hr
  have h1:=xO hes hc hr
  have:x.cells = #[x]:=by cases x <;> first | rfl | simp [Value.oneCell'] at h1
  rw [this]
  refine ⟨?_,by simp [h1]⟩
  simp only [Rs]
  exact ⟨x,[],o,[],rfl,by simp,hr,rfl,rfl⟩
 cases av with
 | agg cs =>
  simp only [R] at h
  obtain ⟨xs,rfl,h⟩:=h
  simp only [dj,List.all_eq_true] at hok
  exact ⟨by simpa [cA,Value.cells] using h,by simpa [Value.cells] using uY hes hok h⟩
 | _=>exact single _ hok h
end
theorem HO (N:List aE) (d:Nat) {T:TypeId} (x:Operand) (av:AV) (h:aO N x=av) (hok:dj N av=true) (hcl:di [.slot d] (cA av)=true) :
  aN P ⟨some d,.box T x,ty,pos,aft,gd⟩ N [] [(d,.box T (cA av))] [.slot d]:=by
 refine aN.fresh rfl (by simp only [eM]; exact hcl) fun g V oN a w hp => ?_
 have hr:(execOp a.eval ⟨some d,.box T x,ty,pos,aft,gd⟩).run P w = .ok (.value (.pointer (some ⟨w.heap.size,0,none⟩))) (w.alloc (.cells (a.eval x).cells T)):=by
  simp [execOp,Instr.box,newVar,newRow,newObj]
  rfl
 refine (Yl.val hr).mono ?_
 rintro y w' ⟨rfl,rfl⟩
 have hR:=bk hp.val hp.esN x
 rw [h] at hR
 obtain ⟨h1,_⟩:=jS hp.esN hok hR
 refine ⟨dH.alloc _ _ _,g,[w.heap.size],g.le_refl,fun b hb => .inl hb,?_,by simp,?_⟩
 ·simp only [R]
  refine ⟨w.heap.size,(a.eval x).cells.toList,[],rfl,rfl,by simpa using heap_alloc_new w (.cells (a.eval x).cells T),?_⟩
  refine dk (W:=[]) (fun _ h=>h) (fun _ h=>h) (fun _ _=>rfl) _ _ _ (jb _) ?_ h1
  intro b hb
  rcases hb with hb | hb
  ·cases hb
  ·exact heap_alloc_old w _ b (hp.imm b hb)
 ·intro b hb
  simp at hb; subst hb
  exact ⟨Nat.le_refl _,by simp,fun hi=>Nat.lt_irrefl _ (hp.imm _ (.inl hi))⟩
theorem qi (N:List aE) (d:Nat) {s:TypeId} (x:Operand) (i:Nat) {fs:Array Field} {f:Field} (t off k2:Nat) {k:Nat} (hT:P.underlying s=some (.struct fs)) (hf:fs[i]? = some f) (hk:(P.info? f.type).map (·.size)=some (k+1))
  (hx:aO N x = .ptr t off) (hk2:off+f.offset=k2) (ht:t≠d):aN P ⟨some d,.fieldAddr s x i,ty,pos,aft,gd⟩ N [] [(d,.ptr t k2)] [.slot d]:=by
 subst hk2
 refine aN.value rfl (by simp [eM,fX]; exact fun e=>ht e.symm) rfl fun g V oN a w hp => ?_
 have hR:=bk hp.val hp.esN x
 rw [hx] at hR
 simp only [R] at hR
 obtain ⟨b,h1,h2,_⟩:=hR
 refine ⟨.pointer (some ⟨b,off+f.offset,none⟩),?_,by simp only [R]; exact ⟨b,h1,rfl,trivial⟩⟩
 simp [execOp,Instr.fieldAt,Sem.run_bind,run_underlying hT,hf,h2,Instr.sureAddr,fieldPlace,aW hk,bQ]
theorem tH (N:List aE) (d:Nat) {s:TypeId} (x:Operand) (i:Nat) {fs:Array Field} {f:Field} (l:bl) (j k2:Nat) {k:Nat} (hT:P.underlying s=some (.struct fs)) (hf:fs[i]? = some f) (hk:(P.info? f.type).map (·.size)=some (k+1))
  (hx:aO N x = .eref l j) (hk2:j+f.offset=k2) (hl:fX [.slot d] l=false):aN P ⟨some d,.fieldAddr s x i,ty,pos,aft,gd⟩ N [] [(d,.eref l k2)] [.slot d]:=by
 subst hk2
 refine aN.value rfl (by simp [eM,hl]) rfl fun g V oN a w hp => ?_
 have hR:=bk hp.val hp.esN x
 rw [hx] at hR
 simp only [R] at hR
 obtain ⟨ad,n,c,h1,h2,_⟩:=hR
 refine ⟨.pointer (some (ad.add (j+f.offset))),?_,by simp only [R]; exact ⟨ad,n,c,h1,rfl,trivial⟩⟩
 simp [execOp,Instr.fieldAt,Sem.run_bind,run_underlying hT,hf,h2,Instr.sureAddr,fieldPlace,aW hk,add_add]
theorem bV (N:List aE) (d:Nat) {T e:TypeId} (x y:Operand) {kd:IntKind} (n t off i z:Nat) (hT:P.underlying T=some (.array n e)) (hz:(P.info? e).map (·.size)=some z)
  (hx:aO N x = .ptr t off) (hy:rd N y = .v (.int kd (i:Int))) (hi:i<n) (ht:t≠d):aN P ⟨some d,.indexAddr T x y,ty,pos,aft,gd⟩ N [] [(d,.ptr t (off+i * z))] [.slot d]:=by
 refine aN.value rfl (by simp [eM,fX]; exact fun e=>ht e.symm) rfl fun g V oN a w hp => ?_
 have hR:=bk hp.val hp.esN x
 rw [hx] at hR
 simp only [R] at hR
 obtain ⟨b,h1,h2,_⟩:=hR
 have h3:=bZ hp.val hp.esN hy
 refine ⟨.pointer (some ⟨b,off+i * z,none⟩),?_,by simp only [R]; exact ⟨b,h1,rfl,trivial⟩⟩
 simp [execOp,Instr.indexAt,Sem.run_bind,run_underlying hT,h2,h3,asIntOf,Instr.sureAddr,aW hz,hi,bQ]
def pp (N:List aE):Operand→bl
 | .tmp t=>match look N t with | .same l=>l | _ => .slot t
 | _ => .slot 0
theorem vM (N:List aE) (d:Nat) {T e:TypeId} (x:Nat) (y:Operand) {kd:IntKind} {m:Md} {xs:List Value} (i z:Nat) (l:bl) (hT:P.underlying T=some (.slice e)) (hz:(P.info? e).map (·.size)=some z)
  (hx:rd N (.tmp x) = .fl m z xs) (hl:pp N (.tmp x)=l) (hy:rd N y = .v (.int kd (i:Int))) (hi:i * z+z≤xs.length) (h0:0<z) (hd:fX [.slot d] l=false) :
  aN P ⟨some d,.indexAddr T (.tmp x) y,ty,pos,aft,gd⟩ N [] [(d,.eref l (i * z))] [.slot d]:=by
 refine aN.value rfl (by simp [eM,hd]) rfl fun g V oN a w hp => ?_
 obtain ⟨o',_,hR⟩:=kJ hp.val hp.esN (.tmp x)
 rw [hx] at hR
 simp only [R] at hR
 obtain ⟨ad,n,c,⟨he,_⟩,hlen,_,hrd,_⟩:=hR
 have hne:xs≠[]:=fun e=>by subst e; simp at hi; omega
 obtain ⟨A,rfl,_⟩:=hrd hne
 have hin:i<n:=by
  rw [hlen] at hi
  have:(i+1) * z≤n * z:=by rw [Nat.add_mul]; omega
  exact Nat.lt_of_succ_le (Nat.le_of_mul_le_mul_right this h0)
 have h3:=bZ hp.val hp.esN hy
 have hV:V l = .slice (some A) n c:=by
  rw [← hl,← he]
  simp only [pp]
  obtain ⟨o2,_,h2⟩:=xz hp.val hp.esN (.tmp x)
  simp only [Bj] at h2
  cases hlk:look N x with
  | same l'=>rw [hlk] at h2; simp only [R] at h2; exact h2.1.symm
  | _=>simp only [hp.val,Act.eval]
 refine ⟨.pointer (some (A.add (i * z))),?_,by simp only [R]; exact ⟨A,n,c,hV,rfl,trivial⟩⟩
 simp [execOp,Instr.indexAt,Sem.run_bind,run_underlying hT,he,h3,asIntOf,aW hz,hin]
def lx (t off:Nat):AV→AV
 | .v x => .v x
 | .fl (.own _) _ _ => .same (.cell t off)
 | .fl m z xs => .fl m z xs
 | .fr (.own _) _ _ _ => .same (.cell t off)
 | .fr m s z xs => .fr m s z xs
 | .same l => .same l
 | .ptr t i => .ptr t i
 | .eref l k => .eref l k
 | .cut l k => .cut l k
 | .hid _ => .same (.cell t off)
 | .mkr _ _ => .same (.cell t off)
 | _ => .any
def rK (t off:Nat):List AV→List AV
 | []=>[]
 | c::cs=>lx t off c::rK t (off+1) cs
section
variable {g:Gh} {V:bl→Value} {w:World}
theorem DN {av:AV} {x:Value} {o:List Nat} {t off:Nat} (h:R g V w av x o) (hx:V (.cell t off)=x):R g V w (lx t off av) x []:=by
 cases av with
 | fl m z xs =>
  cases m with
  | own T=>simp [lx,R,hx]
  | ro=>exact fo (av := .fl .ro z xs) h
  | shr=>exact fo (av := .fl .shr z xs) h
 | v y=>exact fo (av := .v y) h
 | same l=>exact fo (av := .same l) h
 | ptr t i=>exact fo (av := .ptr t i) h
 | eref l k=>exact fo (av := .eref l k) h
 | cut l k=>exact fo (av := .cut l k) h
 | any=>simp [R,lx]
 | agg cs=>simp [R,lx]
 | tup cs=>simp [R,lx]
 | box T cs=>simp [R,lx]
 | arr T vs=>simp [R,lx]
 | glob gl=>simp [R,lx]
 | obox p T cs=>simp [R,lx]
 | clo f ts=>simp [R,lx]
 | cloB f cs=>simp [R,lx]
 | inv J=>simp [R,lx]
 | mkr E xs=>simp [R,lx,hx]
 | asl t i=>simp [R,lx]
 | hid J=>simp [R,lx,hx]
 | fr m s z xs =>
  cases m with
  | own T=>simp [lx,R,hx]
  | ro=>exact fo (av := .fr .ro s z xs) h
  | shr=>exact fo (av := .fr .shr s z xs) h
theorem zL:∀ {cs:List AV} {xs:List Value} {o:List Nat} {t off:Nat},Rs g V w cs xs o→(∀ i x,xs[i]? = some x→V (.cell t (off+i))=x)→Rs g V w (rK t off cs) xs []
 | [],xs,o,t,off,h,_=>by simp only [Rs,rK] at *; exact ⟨h.1,trivial⟩
 | c::cs,xs,o,t,off,h,hv=>by
  simp only [Rs,rK] at *
  obtain ⟨x,xs',o1,o2,rfl,rfl,h1,h2⟩:=h
  refine ⟨x,xs',[],[],rfl,rfl,DN h1 (by simpa using hv 0 x rfl),zL h2 fun i y hy => ?_⟩
  have:=hv (i+1) y (by simpa using hy)
  rwa [show off+1+i=off+(i+1) by omega]
theorem yW:∀ {cs:List AV} {xs:List Value} {o:List Nat} (k n:Nat),Rs g V w cs xs o→∃ o',(∀ b∈o',b∈o)∧Rs g V w ((cs.drop k).take n) ((xs.drop k).take n) o'
 | [],xs,o,k,n,h=>by simp only [Rs] at h; obtain ⟨rfl,rfl⟩:=h; exact ⟨[],by simp,by simp [Rs]⟩
 | c::cs,xs,o,0,0,h=>⟨[],by simp,by simp [Rs]⟩
 | c::cs,xs,o,0,n+1,h=>by
  simp only [Rs] at h
  obtain ⟨x,xs',o1,o2,rfl,rfl,h1,h2⟩:=h
  obtain ⟨o',hs,h3⟩:=yW 0 n h2
  refine ⟨o1++o',fun b hb => ?_,?_⟩
  ·simp at hb ⊢; exact hb.imp id (hs b)
  ·simp only [List.drop_zero,List.take_succ_cons,Rs] at h3 ⊢
   exact ⟨x,_,o1,o',rfl,rfl,h1,h3⟩
 | c::cs,xs,o,k+1,n,h=>by
  simp only [Rs] at h
  obtain ⟨x,xs',o1,o2,rfl,rfl,h1,h2⟩:=h
  obtain ⟨o',hs,h3⟩:=yW k n h2
  exact ⟨o',fun b hb=>by simp [hs b hb],by simpa using h3⟩
theorem qm {N:List aE} {oN:List Nat} (h:Es g V w N oN) {t:Nat} {T:TypeId} {cs:List AV} (hl:look N t = .box T cs) :
  ∃ (b:Nat) (xs:List Value) (os:List Nat),V (.slot t) = .pointer (some ⟨b,0,none⟩)∧w.heap[b]? = some (.cells xs.toArray T (0,0))∧Rs g V w cs xs os∧(∀ i x,xs[i]? = some x→V (.cell t i)=x)∧(∀ c∈b::os,c∈oN):=by
 obtain ⟨o',hs,hr,ht⟩:=cO h t
 dsimp only at hr ht
 rw [hl] at hr ht
 simp only [R] at hr
 obtain ⟨b,xs,os,hx,rfl,hh,hrs⟩:=hr
 refine ⟨b,xs,os,hx,hh,hrs,fun i x hi => ?_,hs⟩
 have hlen:=aR hrs
 have hlt:=(List.getElem?_eq_some_iff.1 hi).1
 have hc:=ht b hx i (by omega)
 rw [cell_of_row w b i _ T (0,0) hh] at hc
 simp only [List.getElem?_toArray,hi,Option.some.injEq] at hc
 exact hc.symm
end
theorem vO (N:List aE) (d:Nat) {T:TypeId} {td:TypeDesc} (x:Operand) {T':TypeId} {cs:List AV} (t off:Nat) (av:AV) (hT:P.underlying T=some td) (ha:cT td=false)
  (hx:aO N x = .ptr t off) (hl:look N t = .box T' cs) (ho:off<cs.length) (hav:lx t off (cs.getD off .any)=av) (hcl:eM [.slot d] av=true) (hb:fu av=true) :
  aN P ⟨some d,.load T x,ty,pos,aft,gd⟩ N [] [(d,av)] [.slot d]:=by
 refine aN.value rfl hcl hb fun g V oN a w hp => ?_
 have hR:=bk hp.val hp.esN x
 rw [hx] at hR
 simp only [R] at hR
 obtain ⟨b,h1,h2,_⟩:=hR
 obtain ⟨b',xs,os,h3,hh,hrs,hnm,_⟩:=qm hp.esN hl
 rw [h1] at h3; cases h3
 have hlen:=aR hrs
 have hlt:off<xs.length:=by omega
 obtain ⟨o2,_,h4⟩:=sD off hrs ho
 have hget:xs[off]? = some (xs.getD off undef):=by simp [hlt]
 refine ⟨xs.getD off undef,?_,?_⟩
 ·have hc:w.cell? ⟨b,off,none⟩=some (xs.getD off undef):=by rw [cell_of_row w b off _ T' (0,0) hh]; simpa using hget
  simp [execOp,Instr.loadAt,h2,Instr.sureAddr,iE hT ha hc]
 ·rw [← hav]; exact DN h4 (hnm off _ hget)
theorem DP (N:List aE) (d:Nat) {T:TypeId} {td:TypeDesc} (x:Operand) {T':TypeId} {cs:List AV} (t off s:Nat) (cs':List AV) (hT:P.underlying T=some td) (ha:cT td=true) (hs:(P.info? T).map (·.size)=some s)
  (hx:aO N x = .ptr t off) (hl:look N t = .box T' cs) (ho:off+s≤cs.length) (hav:rK t off ((cs.drop off).take s)=cs') (hcl:di [.slot d] cs'=true) :
  aN P ⟨some d,.load T x,ty,pos,aft,gd⟩ N [] [(d,.agg cs')] [.slot d]:=by
 refine aN.value rfl (by simp only [eM]; exact hcl) rfl fun g V oN a w hp => ?_
 have hR:=bk hp.val hp.esN x
 rw [hx] at hR
 simp only [R] at hR
 obtain ⟨b,h1,h2,_⟩:=hR
 obtain ⟨b',xs,os,h3,hh,hrs,hnm,_⟩:=qm hp.esN hl
 rw [h1] at h3; cases h3
 have hlen:=aR hrs
 obtain ⟨o2,_,h4⟩:=yW off s hrs
 refine ⟨.agg ((xs.drop off).take s).toArray,?_,?_⟩
 ·have hload:=im (P:=P) (w:=w) (a:=⟨b,off,none⟩) (xs:=(xs.drop off).take s) hT ha hs (by simp; omega) (fun j v hj=>by
   rw [bQ,cell_of_row w b _ _ T' (0,0) hh]
   simp only [List.getElem?_take,List.getElem?_drop] at hj
   split at hj
   ·simpa using hj
   ·cases hj)
  simp [execOp,Instr.loadAt,h2,Instr.sureAddr,hload]
 ·simp only [R]
  refine ⟨_,rfl,?_⟩
  rw [← hav]
  refine zL h4 fun i y hy => ?_
  simp only [List.getElem?_take,List.getElem?_drop] at hy
  split at hy
  ·exact hnm _ _ hy
  ·cases hy
theorem uP (N:List aE) (d:Nat) {T:TypeId} {td:TypeDesc} (x:Operand) {m:Md} {z:Nat} {xs:List Value} (l:bl) (k:Nat) (v:Value) (hT:P.underlying T=some td) (ha:cT td=false)
  (hx:aO N x = .eref l k) (hl:qc N l = .fl m z xs) (hv:xs[k]? = some v) :
  aN P ⟨some d,.load T x,ty,pos,aft,gd⟩ N [] [(d,.v v)] [.slot d]:=by
 refine aN.v rfl fun g V oN a w hp => ?_
 have hR:=bk hp.val hp.esN x
 rw [hx] at hR
 simp only [R] at hR
 obtain ⟨ad,n,c,h1,h2,_⟩:=hR
 obtain ⟨o',_,h3⟩:=nk hp.esN l
 rw [hl] at h3
 simp only [R] at h3
 obtain ⟨A,n',c',⟨h4,_⟩,_,_,hrd,_⟩:=h3
 rw [h1] at h4; cases h4
 obtain ⟨ad',e,hc⟩:=hrd (fun e=>by subst e; simp at hv)
 cases e
 simp [execOp,Instr.loadAt,h2,Instr.sureAddr,iE hT ha (hc k v hv)]
theorem fy (N:List aE) (d:Nat) {T:TypeId} {td:TypeDesc} (x:Operand) {m:Md} {z:Nat} {xs:List Value} (l:bl) (k s:Nat) (vs:List Value) (hT:P.underlying T=some td) (ha:cT td=true) (hs:(P.info? T).map (·.size)=some s)
  (hx:aO N x = .eref l k) (hl:qc N l = .fl m z xs) (hv:(xs.drop k).take s=vs) (hlen:vs.length=s) (h0:0<s) :
  aN P ⟨some d,.load T x,ty,pos,aft,gd⟩ N [] [(d,.agg (vs.map .v))] [.slot d]:=by
 refine aN.value rfl ?_ rfl fun g V oN a w hp => ?_
 ·simp only [eM]; clear hv hlen; induction vs with
  | nil=>rfl
  | cons x xs ih=>simp [di,eM,ih]
 have hR:=bk hp.val hp.esN x
 rw [hx] at hR
 simp only [R] at hR
 obtain ⟨ad,n,c,h1,h2,_⟩:=hR
 obtain ⟨o',_,h3⟩:=nk hp.esN l
 rw [hl] at h3
 simp only [R] at h3
 obtain ⟨A,n',c',⟨h4,_⟩,_,_,hrd,_⟩:=h3
 rw [h1] at h4; cases h4
 obtain ⟨ad',e,hc⟩:=hrd (fun e=>by subst e; simp at hv; subst hv; simp at hlen; omega)
 cases e
 refine ⟨.agg vs.toArray,?_,by simp only [R]; exact ⟨vs,rfl,qa vs⟩⟩
 have hload:=im (P:=P) (w:=w) (a:=ad.add k) (xs:=vs) hT ha hs hlen (fun j v hj=>by
  rw [add_add]
  refine hc (k+j) v ?_
  rw [← hv] at hj
  simp only [List.getElem?_take,List.getElem?_drop] at hj
  split at hj
  ·exact hj
  ·cases hj)
 simp [execOp,Instr.loadAt,h2,Instr.sureAddr,hload]
end
end Go.Abs
end
