import Derived.Orders
import Derived.Below
import Derived.Laws.OwnMore
import Derived.Laws.Rows
import Derived.OrdersIn
import Derived.RangeFuncRecord
import Derived.OwnWalkIn
import Derived.Laws.Entries
import Derived.IntWalk
import Derived.Laws.CopyOwn
import Derived.Laws.Cells
abbrev Go.Abs.ME:=ByteArray
section
namespace Go.Abs
theorem ag {α:Type} {l m:List α}:(l++m).Nodup↔l.Nodup∧m.Nodup∧∀ a∈l,∀ b∈m,a≠b:=List.nodup_append
theorem ah (a b:Bool):((a&&b)=true)=(a=true∧b=true):=Bool.and_eq_true a b
theorem am {n m k:Nat}:n<m→m≤k→n<k:=Nat.lt_of_lt_of_le
theorem ak {α:Type} {a:α} {s t:List α}:a∈s++t↔a∈s∨a∈t:=List.mem_append
theorem ar {α:Type} (a b c:List α):a++b++c=a++(b++c):=List.append_assoc a b c
theorem aq (n:Nat):n≤n:=Nat.le_refl n
theorem ay {α:Type} {a b:α}:some a=some b→a=b:=Option.some.inj
theorem aR {α:Type} {p:α→Bool} {l:List α}:l.all p=true↔∀ x∈l,p x=true:=List.all_eq_true
theorem aO {a b c:Nat}:0<a→b*a=c*a→b=c:=Nat.eq_of_mul_eq_mul_right
theorem aW {α:Type} {b:α} {l:List α} {a:α}:a∈b::l↔a=b∨a∈l:=List.mem_cons
theorem bn {α:Type} (a:List α):a++[]=a:=List.append_nil a
theorem bD {n m k:Nat}:n≤m→m≤k→n≤k:=Nat.le_trans
theorem bI {α:Type} {a:α} {l:List α}:(a::l).Nodup↔a∉l∧l.Nodup:=List.nodup_cons
theorem aQ {n m:Nat}:n.beq m=false→n≠m:=Nat.ne_of_beq_eq_false
inductive bF where
 | slot (t:Nat)
 | cell (t off:Nat)
 deriving DecidableEq
inductive Md where
 | own (T:TypeId)
 | ro
 | shr
inductive IC where
 | v (x:Value)
 | row (z:Nat) (cs:List IC)
structure kO where
 P:(Nat→Prop)→(Nat→Prop)→List Nat→World→Prop
 stab:∀ (I M I' M':Nat→Prop) (o:List Nat) (w w':World),(∀ b,I b→I' b)→(∀ b,M b→M' b)→(∀ b,(b∈o∨I b∨M b)→w'.heap[b]? = w.heap[b]?)→P I M o w→P I' M' o w'
structure EK where
 P:(Nat→Prop)→(Nat→Prop)→Value→List Nat→World→Prop
 stab:∀ (I M I' M':Nat→Prop) (x:Value) (o:List Nat) (w w':World),(∀ b,I b→I' b)→(∀ b,M b→M' b)→(∀ b,(b∈o∨I b∨M b)→w'.heap[b]? = w.heap[b]?)→P I M x o w→P I' M' x o w'
 one:Bool:=false
 cell:one=true→∀ (I M:Nat→Prop) (x:Value) (o:List Nat) (w:World),P I M x o w→x.oneCell'=true:=by intro h; cases h
inductive AV where
 | any
 | v (x:Value)
 | fl (m:Md) (z:Nat) (xs:List Value)
 | agg (cs:List AV)
 | tup (cs:List AV)
 | box (T:TypeId) (cs:List AV)
 | same (l:bF)
 | ptr (t off:Nat)
 | eref (l:bF) (k:Nat)
 | arr (T:TypeId) (vs:List Value)
 | fr (m:Md) (s:Bool) (z:Nat) (cs:List IC)
 | glob (gl:List (Nat×List Value))
 | obox (p:Bool) (T:TypeId) (cs:List AV)
 | clo (f:Nat) (ts:List Nat)
 | cut (l:bF) (h:Nat)
 | cloB (f:Nat) (cs:List AV)
 | inv (J:kO)
 | mkr (E:TypeId) (xs:List Value)
 | asl (t n:Nat)
 | hid (J:EK)
abbrev aJ:=Nat×AV
structure Gh where
 n:Nat
 w0:World
 io:List Nat
 Imm:Nat→Prop
 Im:Nat→Prop
 ds:List Nat
def Gh.imm (g:Gh) (b:Nat):Prop:=g.Imm b∨g.Im b
structure Gh.le (g g':Gh):Prop where
 n:g'.n=g.n
 w0:g'.w0=g.w0
 io:g'.io=g.io
 Im:g'.Im=g.Im
 ds:g'.ds=g.ds
 Imm:∀ b,g.Imm b→g'.Imm b
 new:∀ b,g'.Imm b→g.Imm b∨g.w0.heap.size≤b∨b∈g.io
theorem Gh.le_refl (g:Gh):g.le g:=⟨rfl,rfl,rfl,rfl,rfl,fun _ h=>h,fun _ h => .inl h⟩
theorem Gh.le.trans {a b c:Gh} (h:a.le b) (k:b.le c):a.le c :=
 ⟨k.n.trans h.n,k.w0.trans h.w0,k.io.trans h.io,k.Im.trans h.Im,k.ds.trans h.ds,fun x hx=>k.Imm x (h.Imm x hx),fun x hx=>by
  rcases k.new x hx with h1 | h1
  ·exact h.new x h1
  ·refine .inr ?_
   rw [h.w0,h.io] at h1
   exact h1⟩
structure dq (S:List Nat) (w w':World):Prop where
 os:w'.os=w.os
 tape:w'.tape=w.tape
 output:w'.output=w.output
 size:w.heap.size≤w'.heap.size
 block:∀ k,k<w.heap.size→k ∉ S→w'.heap[k]? = w.heap[k]?
theorem dq.refl (S:List Nat) (w:World):dq S w w:=⟨rfl,rfl,rfl,aq _,fun _ _ _=>rfl⟩
theorem dq.trans {S:List Nat} {a b c:World} (h:dq S a b) (k:dq S b c):dq S a c :=
 ⟨k.os.trans h.os,k.tape.trans h.tape,k.output.trans h.output,bD h.size k.size,fun i hi hS=>(k.block i (am hi h.size) hS).trans (h.block i hi hS)⟩
theorem dq.trans' {S U:List Nat} {a b c:World} (h:dq S a b) (k:dq U b c) (hU:∀ x∈U,x∈S∨a.heap.size≤x):dq S a c :=
 ⟨k.os.trans h.os,k.tape.trans h.tape,k.output.trans h.output,bD h.size k.size,fun i hi hS =>
  (k.block i (am hi h.size) (fun hx=>by
   rcases hU i hx with h1 | h1
   ·exact hS h1
   ·omega)).trans (h.block i hi hS)⟩
theorem dq.mono {S U:List Nat} {a b:World} (h:dq S a b) (hU:∀ x∈S,x∈U):dq U a b :=
 ⟨h.os,h.tape,h.output,h.size,fun i hi hS=>h.block i hi (fun hx=>hS (hU i hx))⟩
theorem dq.of_grown {w w':World} {row:Option Nat} (h:w.grownBy w' row):dq row.toList w w' :=
 ⟨h.os,h.tape,h.output,h.size,fun k hk hS=>h.block k hk (fun e=>hS (by simp [← e]))⟩
theorem dq.alloc (S:List Nat) (w:World) (o:Obj):dq S w (w.alloc o):=(dq.of_grown (World.grownBy_alloc w o none)).mono (by simp)
theorem dq.drew (S:List Nat) (w:World):dq S w { w with drawn:=w.drawn+1 }:=⟨rfl,rfl,rfl,aq _,fun _ _ _=>rfl⟩
def jl (w:World) (a:Option Addr) (xs:List Value):Prop :=
 xs≠[]→∃ ad,a=some ad∧∀ j u,xs[j]? = some u→w.cell? (ad.add j)=some u
def bW (g:Gh) (w:World) (m:Md) (z:Nat) (x:Value) (n:Nat) (a:Option Addr) (xs:List Value) (o:List Nat):Prop :=
 match m with
 | .own T=>w.ownsRow 0 T z x n xs∧o=(x.ownBlock).toList
 | .ro=>o=[]∧(xs≠[]→∃ ad,a=some ad∧g.Imm ad.block)
 | .shr=>o=[]∧(xs≠[]→∃ ad,a=some ad∧g.imm ad.block)
def xo (g:Gh) (s:Bool) (b:Nat):Prop:=match s with
 | true=>g.imm b
 | false=>g.Imm b
mutual
def RI (g:Gh) (w:World) (s:Bool):IC→Value→Prop
 | .v y,x=>x=y
 | .row z cs,x=>∃ (vs:List Value) (a:Option Addr) (n c:Nat),(x = .slice a n c∧n≤c)∧vs.length=n * z∧(∀ u∈vs,u.oneCell'=true)∧jl w a vs∧(vs≠[]→∃ ad,a=some ad∧xo g s ad.block)∧jk g w s cs vs
def jk (g:Gh) (w:World) (s:Bool):List IC→List Value→Prop
 | [],xs=>xs=[]
 | c::cs,xs=>∃ x xs',xs=x::xs'∧RI g w s c x∧jk g w s cs xs'
end
theorem Au {g:Gh} {s:Bool} {b:Nat} (h:xo g s b):g.imm b:=by
 cases s
 ·exact .inl h
 ·exact h
theorem jJ {g g':Gh} {s:Bool} {b:Nat} (hI:∀ b,g.Imm b→g'.Imm b) (hM:∀ b,g.Im b→g'.Im b) (h:xo g s b):xo g' s b:=by
 cases s
 ·exact hI _ h
 ·exact h.imp (hI _) (hM _)
mutual
theorem Fi {g g':Gh} {w w':World} {s s':Bool} (hi:∀ b,xo g s b→xo g' s' b) (hw:∀ b,g.imm b→w'.heap[b]? = w.heap[b]?):∀ (c:IC) (x:Value),RI g w s c x→RI g' w' s' c x
 | .v y,x,h=>by simp only [RI] at *; exact h
 | .row z cs,x,h=>by
  simp only [RI] at *
  obtain ⟨vs,a,n,c,h1,h2,h3,h4,h5,h6⟩:=h
  refine ⟨vs,a,n,c,h1,h2,h3,fun hne => ?_,fun hne => ?_,dc hi hw cs vs h6⟩
  ·obtain ⟨ad,e,hc⟩:=h4 hne
   obtain ⟨ad',e',hb⟩:=h5 hne
   rw [e] at e'; cases e'
   refine ⟨ad,e,fun j u hu => ?_⟩
   rw [World.cell?_of_block (w:=w)]
   ·exact hc j u hu
   ·have:(ad.add j).block=ad.block:=by unfold Addr.add; split <;> rfl
    rw [this]; exact hw _ (Au hb)
  ·obtain ⟨ad,e,hb⟩:=h5 hne
   exact ⟨ad,e,hi _ hb⟩
theorem dc {g g':Gh} {w w':World} {s s':Bool} (hi:∀ b,xo g s b→xo g' s' b) (hw:∀ b,g.imm b→w'.heap[b]? = w.heap[b]?):∀ (cs:List IC) (xs:List Value),jk g w s cs xs→jk g' w' s' cs xs
 | [],xs,h=>by simp only [jk] at *; exact h
 | c::cs,xs,h=>by
  simp only [jk] at *
  obtain ⟨x,xs',h1,h2,h3⟩:=h
  exact ⟨x,xs',h1,Fi hi hw c x h2,dc hi hw cs xs' h3⟩
end

mutual
def R (g:Gh) (V:bF→Value) (w:World):AV→Value→List Nat→Prop
 | .any,_,o=>o=[]
 | .v y,x,o=>x=y∧o=[]
 | .fl m z xs,x,o=>∃ a n c,(x = .slice a n c∧n≤c)∧xs.length=n * z∧(∀ u∈xs,u.oneCell'=true)∧jl w a xs∧bW g w m z x n a xs o
 | .agg cs,x,o=>∃ xs:List Value,x = .agg xs.toArray∧Rs g V w cs xs o
 | .tup cs,x,o=>∃ xs:List Value,x = .tuple xs.toArray∧Rs g V w cs xs o
 | .box T cs,x,o=>∃ (b:Nat) (xs:List Value) (os:List Nat),x = .pointer (some ⟨b,0,none⟩)∧o=b::os∧w.heap[b]? = some (.cells xs.toArray T (0,0))∧Rs g V w cs xs os
 | .same l,x,o=>x=V l∧o=[]
 | .ptr t off,x,o=>∃ b,V (.slot t) = .pointer (some ⟨b,0,none⟩)∧x = .pointer (some ⟨b,off,none⟩)∧o=[]
 | .eref l k,x,o=>∃ a n c,V l = .slice (some a) n c∧x = .pointer (some (a.add k))∧o=[]
 | .arr T vs,x,o=>∃ b:Nat,x = .pointer (some ⟨b,0,none⟩)∧o=[b]∧w.heap[b]? = some (.cells vs.toArray T (0,0))
 | .fr m s z cs,x,o=>∃ (vs:List Value) (a:Option Addr) (n c:Nat),(x = .slice a n c∧n≤c)∧vs.length=n * z∧(∀ u∈vs,u.oneCell'=true)∧jl w a vs∧bW g w m z x n a vs o∧jk g w s cs vs
 | .glob gl,_,o=>(∀ p∈gl,g.imm p.1∧∀ j,w.cell? ⟨p.1,j,none⟩=p.2[j]?)∧o=[]
 | .obox p T cs,x,o=>(p=true→∃ (b:Nat) (xs:List Value) (os:List Nat),x = .pointer (some ⟨b,0,none⟩)∧o=b::os∧w.heap[b]? = some (.cells xs.toArray T (0,0))∧Rs g V w cs xs os)∧(p=false→x = .pointer none∧o=[])
 | .cut l h,x,o=>∃ a n c,V l = .slice a n c∧h≤n∧(0<h→∃ A,a=some A)∧x = .slice a h c∧o=[]
 | .clo f ts,x,o=>x = .func (.func f) #[] (ts.map fun t=>V (.slot t)).toArray∧o=[]
 | .cloB f cs,x,o=>∃ xs:List Value,x = .func (.func f) #[] xs.toArray∧Rs g V w cs xs o
 | .inv J,_,o=>J.P g.Imm g.Im o w
 | .mkr E xs,x,o=>(x = .slice none 0 0∧xs=[]∧o=[])∨∃ (b k n cap:Nat) (cur:Array Value) (fz:Nat×Nat),x = .slice (some ⟨b,k,none⟩) n cap∧n≤cap∧xs.length=n∧(∀ u∈xs,u.oneCell'=true)∧w.heap[b]? = some (.cells cur E fz)∧(fz.2=0∨cur.size≤fz.1)∧k+cap≤cur.size∧(cur.toList.drop k).take n=xs∧o=[b]
 | .asl t n,x,o=>∃ b,V (.slot t) = .pointer (some ⟨b,0,none⟩)∧x = .slice (some ⟨b,0,none⟩) n n∧o=[]
 | .hid J,x,o=>J.P g.Imm g.Im x o w
def Rs (g:Gh) (V:bF→Value) (w:World):List AV→List Value→List Nat→Prop
 | [],xs,o=>xs=[]∧o=[]
 | c::cs,xs,o=>∃ x xs' o1 o2,xs=x::xs'∧o=o1++o2∧R g V w c x o1∧Rs g V w cs xs' o2
end

def fq (W:List bF) (l:bF):Bool :=
 W.any fun m=>decide (m=l)||match m,l with | .slot t,.cell t' _=>t==t' | _,_=>false
mutual
def eh (W:List bF):AV→Bool
 | .any=>true
 | .v _=>true
 | .fl .. => true
 | .agg cs=>cW W cs
 | .tup cs=>cW W cs
 | .box _ cs=>cW W cs
 | .same l => !fq W l
 | .ptr t _ => !fq W (.slot t)
 | .eref l _ => !fq W l
 | .cut l _ => !fq W l
 | .arr .. => true
 | .fr .. => true
 | .glob _=>true
 | .obox _ _ cs=>cW W cs
 | .clo _ ts=>ts.all fun t => !fq W (.slot t)
 | .cloB _ cs=>cW W cs
 | .inv _=>true
 | .mkr .. => true
 | .asl t _ => !fq W (.slot t)
 | .hid _=>true
def cW (W:List bF):List AV→Bool
 | []=>true
 | c::cs=>eh W c&&cW W cs
end

theorem mN (W:List bF):∀ (cs ds:List AV),cW W (cs++ds)=(cW W cs&&cW W ds)
 | [],ds=>by simp [cW]
 | c::cs,ds=>by simp only [List.cons_append,cW,mN W cs ds,Bool.and_assoc]
theorem uy {g g':Gh} {w w':World} {m:Md} {z n:Nat} {x:Value} {a:Option Addr} {xs:List Value} {o:List Nat}
  (hI:∀ b,g.Imm b→g'.Imm b) (hM:∀ b,g.Im b→g'.Im b) (hw:∀ b,b∈o→w'.heap[b]? = w.heap[b]?) (h:bW g w m z x n a xs o):bW g' w' m z x n a xs o:=by
 cases m with
 | own T =>
  obtain ⟨h1,h2⟩:=h;refine ⟨⟨h1.1,?_⟩,h2⟩;rcases h1.2 with h3 | ⟨b,cap,cur,hv,hb,hh,r⟩
  ·exact .inl h3
  ·refine .inr ⟨b,cap,cur,hv,hb,?_,r⟩;rw [hw b (by rw [h2,hv]; simp [Value.ownBlock])]; exact hh
 | ro=>exact ⟨h.1,fun hne=>let ⟨ad,e,hi⟩:=h.2 hne; ⟨ad,e,hI _ hi⟩⟩
 | shr=>exact ⟨h.1,fun hne=>let ⟨ad,e,hi⟩:=h.2 hne; ⟨ad,e,hi.imp (hI _) (hM _)⟩⟩
theorem sD {g:Gh} {w:World} {m:Md} {z n c:Nat} {a:Option Addr} {xs:List Value} {o:List Nat} {ad:Addr}
  (h:bW g w m z (.slice a n c) n a xs o) (hne:xs≠[]) (ha:a=some ad):ad.block∈o∨g.imm ad.block:=by
 subst ha
 cases m with
 | own T=>exact .inl (by rw [h.2]; simp [Value.ownBlock])
 | ro=>obtain ⟨ad',e,hi⟩:=h.2 hne; cases e; exact .inr (.inl hi)
 | shr=>obtain ⟨ad',e,hi⟩:=h.2 hne; cases e; exact .inr hi
theorem wi {g:Gh} {w w':World} {m:Md} {z n c:Nat} {a:Option Addr} {xs:List Value} {o:List Nat}
  (hm:bW g w m z (.slice a n c) n a xs o) (hw:∀ b,(b∈o∨g.imm b)→w'.heap[b]? = w.heap[b]?) (h:jl w a xs):jl w' a xs:=by
 intro hne;obtain ⟨ad,e,hc⟩:=h hne;refine ⟨ad,e,fun j u hu => ?_⟩;have hb:=sD hm hne e;rw [World.cell?_of_block (w:=w)]
 ·exact hc j u hu
 ·have:(ad.add j).block=ad.block:=by unfold Addr.add; split <;> rfl
  rw [this]; exact hw _ hb
mutual
theorem fy {g g':Gh} {V V':bF→Value} {w w':World} {W:List bF}
  (hI:∀ b,g.Imm b→g'.Imm b) (hM:∀ b,g.Im b→g'.Im b) (hV:∀ l,fq W l=false→V' l=V l) :
  ∀ (av:AV) (x:Value) (o:List Nat),eh W av=true→(∀ b,(b∈o∨g.imm b)→w'.heap[b]? = w.heap[b]?)→R g V w av x o→R g' V' w' av x o
 | .any,x,o,_,_,h=>by simp only [R] at *; exact h
 | .v y,x,o,_,_,h=>by simp only [R] at *; exact h
 | .fl m z xs,x,o,_,hw,h=>by
  simp only [R] at *
  obtain ⟨a,n,c,⟨rfl,hnc⟩,hl,h1,hr,hm⟩:=h
  exact ⟨a,n,c,⟨rfl,hnc⟩,hl,h1,wi hm hw hr,uy hI hM (fun b hb=>hw b (.inl hb)) hm⟩
 | .agg cs,x,o,hc,hw,h=>by
  simp only [R,eh] at *
  obtain ⟨xs,rfl,h⟩:=h
  exact ⟨xs,rfl,cq hI hM hV cs xs o hc hw h⟩
 | .tup cs,x,o,hc,hw,h=>by
  simp only [R,eh] at *
  obtain ⟨xs,rfl,h⟩:=h
  exact ⟨xs,rfl,cq hI hM hV cs xs o hc hw h⟩
 | .box T cs,x,o,hc,hw,h=>by
  simp only [R,eh] at *
  obtain ⟨b,xs,os,rfl,rfl,hb,h⟩:=h
  exact ⟨b,xs,os,rfl,rfl,by rw [hw b (.inl (by simp))]; exact hb,cq hI hM hV cs xs os hc (fun b' hb'=>hw b' (hb'.imp (fun h=>by simp [h]) id)) h⟩
 | .same l,x,o,hc,_,h=>by
  simp only [R,eh,Bool.not_eq_true'] at *
  rw [hV l hc]; exact h
 | .ptr t off,x,o,hc,_,h=>by
  simp only [R,eh,Bool.not_eq_true'] at *
  rw [hV _ hc]; exact h
 | .eref l k,x,o,hc,_,h=>by
  simp only [R,eh,Bool.not_eq_true'] at *
  rw [hV l hc]; exact h
 | .cut l k,x,o,hc,_,h=>by
  simp only [R,eh,Bool.not_eq_true'] at *
  rw [hV l hc]; exact h
 | .arr T vs,x,o,_,hw,h=>by
  simp only [R] at *
  obtain ⟨b,rfl,rfl,hb⟩:=h
  exact ⟨b,rfl,rfl,by rw [hw b (.inl (by simp))]; exact hb⟩
 | .fr m s z cs,x,o,_,hw,h=>by
  simp only [R] at *
  obtain ⟨vs,a,n,c,⟨rfl,hnc⟩,hl,h1,hr,hm,hi⟩:=h
  exact ⟨vs,a,n,c,⟨rfl,hnc⟩,hl,h1,wi hm hw hr,uy hI hM (fun b hb=>hw b (.inl hb)) hm,dc (fun b h=>jJ hI hM h) (fun b hb=>hw b (.inr hb)) cs vs hi⟩
 | .glob gl,x,o,_,hw,h=>by
  simp only [R] at *
  refine ⟨fun p hp => ?_,h.2⟩
  obtain ⟨h1,h2⟩:=h.1 p hp
  refine ⟨h1.imp (hI _) (hM _),fun j => ?_⟩
  rw [World.cell?_of_block (w:=w)]
  ·exact h2 j
  ·exact hw _ (.inr h1)
 | .obox p T cs,x,o,hc,hw,h=>by
  simp only [R,eh] at *
  refine ⟨fun hp => ?_,h.2⟩
  obtain ⟨b,xs,os,rfl,rfl,hb,h⟩:=h.1 hp
  exact ⟨b,xs,os,rfl,rfl,by rw [hw b (.inl (by simp))]; exact hb,cq hI hM hV cs xs os hc (fun b' hb'=>hw b' (hb'.imp (fun h=>by simp [h]) id)) h⟩
 | .clo f ts,x,o,hc,_,h=>by
  simp only [R,eh,List.all_eq_true,Bool.not_eq_true'] at *
  refine ⟨?_,h.2⟩
  rw [h.1]
  congr 2
  exact List.map_congr_left fun t ht=>(hV _ (hc t ht)).symm
 | .cloB f cs,x,o,hc,hw,h=>by
  simp only [R,eh] at *
  obtain ⟨xs,rfl,h⟩:=h
  exact ⟨xs,rfl,cq hI hM hV cs xs o hc hw h⟩
 | .inv J,x,o,_,hw,h=>by
  simp only [R] at *
  exact J.stab _ _ _ _ o w w' hI hM hw h
 | .mkr E xs,x,o,_,hw,h=>by
  simp only [R] at *
  rcases h with h | ⟨b,k,n,cap,cur,fz,h1,h2,h3,h4,h5,h6,h7,h8,rfl⟩
  ·exact .inl h
  ·exact .inr ⟨b,k,n,cap,cur,fz,h1,h2,h3,h4,by rw [hw b (.inl (by simp))]; exact h5,h6,h7,h8,rfl⟩
 | .asl t n,x,o,hc,_,h=>by
  simp only [R,eh,Bool.not_eq_true'] at *
  rw [hV _ hc]; exact h
 | .hid J,x,o,_,hw,h=>by
  simp only [R] at *
  exact J.stab _ _ _ _ x o w w' hI hM hw h
theorem cq {g g':Gh} {V V':bF→Value} {w w':World} {W:List bF}
  (hI:∀ b,g.Imm b→g'.Imm b) (hM:∀ b,g.Im b→g'.Im b) (hV:∀ l,fq W l=false→V' l=V l) :
  ∀ (cs:List AV) (xs:List Value) (o:List Nat),cW W cs=true→(∀ b,(b∈o∨g.imm b)→w'.heap[b]? = w.heap[b]?)→Rs g V w cs xs o→Rs g' V' w' cs xs o
 | [],xs,o,_,_,h=>by simp only [Rs] at *; exact h
 | c::cs,xs,o,hc,hw,h=>by
  simp only [Rs,cW,Bool.and_eq_true] at *
  obtain ⟨x,xs',o1,o2,rfl,rfl,h1,h2⟩:=h
  exact ⟨x,xs',o1,o2,rfl,rfl,fy hI hM hV c x o1 hc.1 (fun b hb=>hw b (hb.imp (fun h=>by simp [h]) id)) h1,
   cq hI hM hV cs xs' o2 hc.2 (fun b hb=>hw b (hb.imp (fun h=>by simp [h]) id)) h2⟩
end

def ER (g:Gh) (V:bF→Value) (w:World) (e:aJ) (o:List Nat):Prop :=
 R g V w e.2 (V (.slot e.1)) o ∧
 match e.2 with
 | .box _ cs=>∀ b,V (.slot e.1) = .pointer (some ⟨b,0,none⟩)→∀ i,i<cs.length→w.cell? ⟨b,i,none⟩=some (V (.cell e.1 i))
 | _=>True
def Es (g:Gh) (V:bF→Value) (w:World):List aJ→List Nat→Prop
 | [],o=>o=[]
 | e::es,o=>∃ o1 o2,o=o1++o2∧ER g V w e o1∧Es g V w es o2
def GX:AV→Bool
 | .box .. => true
 | _=>false
def bX (W:List bF) (e:aJ):Bool :=
 !fq W (.slot e.1)&&eh W e.2&&(!GX e.2||W.all fun m=>match m with | .cell t _=>t != e.1 | _=>true)
theorem Bl {W:List bF} {e:aJ} (h:bX W e=true) (htied:GX e.2=true) (i:Nat):fq W (.cell e.1 i)=false:=by
 simp only [bX,htied,Bool.not_true,Bool.false_or,Bool.and_eq_true,Bool.not_eq_true',List.all_eq_true] at h;obtain ⟨⟨h1,_⟩,h3⟩:=h;simp only [fq,List.any_eq_false] at *;intro m hm;have h1':=h1 m hm;have h3':=h3 m hm
 cases m with
 | slot t=>simpa using h1'
 | cell t o=>simp at h3' ⊢; intro e; exact absurd e h3'
theorem Cu {g g':Gh} {V V':bF→Value} {w w':World} {W:List bF}
  (hI:∀ b,g.Imm b→g'.Imm b) (hM:∀ b,g.Im b→g'.Im b) (hV:∀ l,fq W l=false→V' l=V l)
  (e:aJ) (o:List Nat) (hc:bX W e=true) (hw:∀ b,(b∈o∨g.imm b)→w'.heap[b]? = w.heap[b]?) (h:ER g V w e o):ER g' V' w' e o:=by
 obtain ⟨h1,h2⟩:=h;have hcc:=fun (ht:GX e.2=true)=>Bl hc ht;have hc':=hc;simp only [bX,Bool.and_eq_true,Bool.not_eq_true'] at hc';obtain ⟨⟨hs,hcl⟩,_⟩:=hc';have hslot:V' (.slot e.1)=V (.slot e.1):=hV _ hs;refine ⟨by rw [hslot]; exact fy hI hM hV _ _ _ hcl hw h1,?_⟩;obtain ⟨t,av⟩:=e
 cases av <;> try trivial
 case box T cs =>
  intro b hb i hi;rw [hslot] at hb;simp only [R] at h1;obtain ⟨b',xs,os,hx,rfl,hh,_⟩:=h1;dsimp only at hb hi hcc h2 hx hslot;rw [hb] at hx
  cases hx
  rw [World.cell?_of_block (w:=w) (hw b (.inl (by simp))),hV _ (hcc rfl i)];exact h2 b hb i hi
theorem dI {g g':Gh} {V V':bF→Value} {w w':World} {W:List bF}
  (hI:∀ b,g.Imm b→g'.Imm b) (hM:∀ b,g.Im b→g'.Im b) (hV:∀ l,fq W l=false→V' l=V l) :
  ∀ (es:List aJ) (o:List Nat),(∀ e∈es,bX W e=true)→(∀ b,(b∈o∨g.imm b)→w'.heap[b]? = w.heap[b]?)→Es g V w es o→Es g' V' w' es o
 | [],o,_,_,h=>h
 | e::es,o,hc,hw,h=>by
  obtain ⟨o1,o2,rfl,h1,h2⟩:=h
  exact ⟨o1,o2,rfl,Cu hI hM hV e o1 (hc e (by simp)) (fun b hb=>hw b (hb.imp (fun h=>by simp [h]) id)) h1,
   dI hI hM hV es o2 (fun e' he'=>hc e' (by simp [he'])) (fun b hb=>hw b (hb.imp (fun h=>by simp [h]) id)) h2⟩
theorem aT {g:Gh} {V:bF→Value} {w:World}:∀ {es fs:List aJ} {o:List Nat},Es g V w (es++fs) o↔∃ o1 o2,o=o1++o2∧Es g V w es o1∧Es g V w fs o2
 | [],fs,o=>by
  constructor
  ·intro h; exact ⟨[],o,rfl,rfl,h⟩
  ·rintro ⟨o1,o2,rfl,h1,h2⟩; cases h1; exact h2
 | e::es,fs,o=>by
  constructor
  ·rintro ⟨o1,o2,rfl,h1,h2⟩
   obtain ⟨o3,o4,rfl,h3,h4⟩:=aT.1 h2
   exact ⟨o1++o3,o4,by simp,⟨o1,o3,rfl,h1,h3⟩,h4⟩
  ·rintro ⟨o1,o2,rfl,⟨o3,o4,rfl,h3,h4⟩,h2⟩
   exact ⟨o3,o4++o2,by simp,h3,aT.2 ⟨o4,o2,rfl,h4,h2⟩⟩
theorem FC {g:Gh} {V:bF→Value} {w:World} {es fs:List aJ} (hp:es.Perm fs):∀ {o:List Nat},Es g V w es o→∃ o',o.Perm o'∧Es g V w fs o':=by
 induction hp with
 | nil=>intro o h; exact ⟨o,.refl _,h⟩
 | cons e _ ih =>
  rintro o ⟨o1,o2,rfl,h1,h2⟩;obtain ⟨o',hp',h'⟩:=ih h2;exact ⟨o1++o',hp'.append_left o1,o1,o',rfl,h1,h'⟩
 | swap a b l =>
  rintro o ⟨o1,o2,rfl,h1,o3,o4,rfl,h3,h4⟩;refine ⟨o3++(o1++o4),?_,o3,o1++o4,rfl,h3,o1,o4,rfl,h1,h4⟩;rw [← List.append_assoc,← List.append_assoc];exact List.perm_append_comm.append_right _
 | trans _ _ ih1 ih2 =>
  intro o h;obtain ⟨o1,p1,h1⟩:=ih1 h;obtain ⟨o2,p2,h2⟩:=ih2 h1;exact ⟨o2,p1.trans p2,h2⟩
def EG (D:Nat):Deferred:={ target := .collected D,args := #[] }
def FW (r:Option Nat):Fence:={ Fence.wide with round:=r }
structure St (g:Gh) (V:bF→Value) (o:List Nat) (a:Act) (w:World):Prop where
 val:∀ t,V (.slot t)=a.tmps.getD t undef
 size:a.tmps.size=g.n
 defers:a.defers=g.ds.map EG
 dnd:g.ds.Nodup
 marks:∀ D∈g.ds,w.heap[D]? = some (.deferred (some []))∧D ∉ o∧g.w0.heap.size≤D∧¬ g.imm D
 nodup:o.Nodup
 own:∀ b∈o,b<w.heap.size∧(g.w0.heap.size≤b∨b∈g.io)∧¬ g.imm b
 imm:∀ b,g.imm b→b<w.heap.size
 chg:dq g.io g.w0 w
def eX (g:Gh) (es:List aJ) (a:Act) (w:World):Prop:=∃ V o,St g V o a w∧Es g V w es o
theorem eX.perm {g:Gh} {es fs:List aJ} {a:Act} {w:World} (h:eX g es a w) (hp:es.Perm fs):eX g fs a w:=by obtain ⟨V,o,hs,he⟩:=h;obtain ⟨o',hp',he'⟩:=FC hp he;exact ⟨V,o',⟨hs.val,hs.size,hs.defers,hs.dnd,fun D hD=>let ⟨h1,h2,h3⟩:=hs.marks D hD; ⟨h1,fun hm=>h2 (hp'.mem_iff.2 hm),h3⟩,hp'.nodup_iff.1 hs.nodup,fun b hb=>hs.own b (hp'.mem_iff.2 hb),hs.imm,hs.chg⟩,he'⟩
theorem eX.dropLeft {g:Gh} {es fs:List aJ} {a:Act} {w:World} (h:eX g (es++fs) a w):eX g fs a w:=by obtain ⟨V,o,hs,he⟩:=h;obtain ⟨o1,o2,rfl,_,h2⟩:=aT.1 he;exact ⟨V,o2,⟨hs.val,hs.size,hs.defers,hs.dnd,fun D hD=>let ⟨h1,h2,h3⟩:=hs.marks D hD; ⟨h1,fun hm=>h2 (by simp [hm]),h3⟩,(List.nodup_append.1 hs.nodup).2.1,fun b hb=>hs.own b (by simp [hb]),hs.imm,hs.chg⟩,h2⟩
theorem eX.sub {g:Gh} {es fs:List aJ} {a:Act} {w:World} (h:eX g es a w) (hs:∃ ds,es.Perm (ds++fs)):eX g fs a w :=
 let ⟨_,hp⟩:=hs; (h.perm hp).dropLeft
end Go.Abs
end
section
namespace Go.Abs
def bh (P:Program) (o:Oper) (N T G:List aJ) (W:List bF):Prop :=
 ∀ (g:Gh) (F:List aJ) (a:Act) (w:World) (K:Act→World→Prop) (Q:Exit→Act→World→Prop),(∀ d,o.dst=some d→d<g.n) →
  eX g (N++(T++F)) a w→(∀ e∈N++F,bX W e=true) →
  (∀ g' a' w',g.le g'→eX g' (N++(G++F)) a' w'→K a' w')→∀ r,o.wpIn (FW r) 0 P a w K Q
def uT (P:Program) (ops:Array Oper) (i:Nat) (N T G:List aJ) (W:List bF):Prop :=
 ∀ (g:Gh) (F:List aJ) (a:Act) (w:World) (K:Act→World→Prop) (Q:Exit→Act→World→Prop),(∀ d,(ops[i]?).bind Oper.dst=some d→d<g.n) →
  eX g (N++(T++F)) a w→(∀ e∈N++F,bX W e=true) →
  (∀ g' a' w',g.le g'→eX g' (N++(G++F)) a' w'→K a' w')→∀ r,wpOpIn (FW r) 0 P ops Q i K a w
theorem uT.plain {P:Program} {ops:Array Oper} {i:Nat} {o:Oper} {N T G:List aJ} {W:List bF} (ho:ops[i]? = some o) (hg:o.guard=none)
  (h:bh P o N T G W):uT P ops i N T G W:=by intro g F a w K Q hd hs hc hk r;unfold wpOpIn;rw [ho];simp only [Region.wanted,hg,if_true];exact h g F a w K Q (fun d hd'=>hd d (by simp [ho,hd'])) hs hc hk r
theorem zg {g:Gh} {V:bF→Value} {w:World} {e:aJ}:∀ {es:List aJ} {o:List Nat},Es g V w es o→e∈es→∃ o',(∀ b∈o',b∈o)∧ER g V w e o'
 | [],_,_,hm=>by cases hm
 | e'::es,o,h,hm=>by
  obtain ⟨o1,o2,rfl,h1,h2⟩:=h
  rcases aW.1 hm with rfl | hm
  ·exact ⟨o1,fun b hb=>by simp [hb],h1⟩
  ·obtain ⟨o',hs,h⟩:=zg h2 hm
   exact ⟨o',fun b hb=>by simp [hs b hb],h⟩
theorem eX.bool {g:Gh} {es:List aJ} {a:Act} {w:World} {d:Nat} {b:Bool} (h:eX g es a w) (hm:(d,AV.v (.bool b))∈es):a.tmps.getD d undef = .bool b:=by obtain ⟨V,o,hs,he⟩:=h;obtain ⟨o',_,hr,_⟩:=zg he hm;simp only [R] at hr;rw [← hs.val]; exact hr.1
theorem xI {ops:Array Oper} {o:Oper} {tmps:Array Value} {j d:Nat} {want b:Bool} {oj:Oper} (hg:o.guard=some (j,want)) (hj:ops[j]? = some oj) (hd:oj.dst=some d)
  (hb:tmps.getD d undef = .bool b):Region.wanted o (yielded ops tmps)=(b==want):=by
 simp only [Region.wanted,hg,yielded,hj,Option.bind_some,hd];have:tmps.getD d undef = .bool b:=hb;simp only [Array.getD_eq_getD_getElem?] at this
 cases hx:tmps[d]? with
 | none=>simp [hx,undef] at this
 | some x=>simp [hx] at this; subst this; cases b <;> cases want <;> rfl
theorem uT.run {P:Program} {ops:Array Oper} {i:Nat} {o:Oper} {N T G:List aJ} {W:List bF} (j d:Nat) (want:Bool) (oj:Oper) (ho:ops[i]? = some o) (hg:o.guard=some (j,want))
  (hj:ops[j]? = some oj) (hd:oj.dst=some d) (hN:(d,AV.v (.bool want))∈N) (h:bh P o N T G W):uT P ops i N T G W:=by intro g F a w K Q hd' hs hc hk r;unfold wpOpIn;rw [ho];have hb:=hs.bool (d:=d) (b:=want) (by simp [hN]);simp only [xI hg hj hd hb,BEq.rfl,if_true];exact h g F a w K Q (fun d hd''=>hd' d (by simp [ho,hd''])) hs hc hk r
theorem eM (a:Act) (d t:Nat) (v:Value) (hd:d<a.tmps.size):(a.put (some d) v).tmps.getD t undef=if t=d then v else a.tmps.getD t undef:=by
 simp only [Act.put,Array.getD_eq_getD_getElem?];by_cases h:t=d
 ·subst h; simp [hd]
 ·rw [Array.getElem?_setIfInBounds_ne (fun e=>h e.symm),if_neg h]
theorem St.put {g:Gh} {V:bF→Value} {o:List Nat} {a:Act} {w:World} (h:St g V o a w) (d:Nat) (x:Value) (hd:d<g.n) :
  St g (fun l=>match l with | .slot t=>if t=d then x else V (.slot t) | .cell t i=>V (.cell t i)) o (a.put (some d) x) w :=
 ⟨fun t=>by rw [eM a d t x (by rw [h.size]; exact hd)]; simp only [h.val],by simp [Act.put,h.size],h.defers,h.dnd,h.marks,h.nodup,h.own,h.imm,h.chg⟩
theorem jV (d:Nat) (l:bF) (h:fq [.slot d] l=false):(match l with | .slot t=>t≠d | .cell t _=>t≠d):=by
 simp only [fq,List.any_cons,List.any_nil,Bool.or_false,Bool.or_eq_false_iff,decide_eq_false_iff_not] at h
 cases l with
 | slot t=>intro e; exact h.1 (by rw [e])
 | cell t i=>intro e; simp [e] at h
theorem eX.undef {g:Gh} {es:List aJ} {a:Act} {w:World} {d:Nat} (h:eX g es a w) (hm:(d,AV.v undef)∈es):a.tmps.getD d undef=undef:=by obtain ⟨V,o,hst,he⟩:=h;obtain ⟨o',_,hR,_⟩:=zg he hm;simp only [R] at hR;rw [← hst.val]; exact hR.1
theorem yh {ops:Array Oper} {o:Oper} {tmps:Array Value} {j d:Nat} {want:Bool} {oj:Oper} (hg:o.guard=some (j,want)) (hj:ops[j]? = some oj) (hd:oj.dst=some d)
  (hb:tmps.getD d undef=undef):Region.wanted o (yielded ops tmps)=false:=by
 simp only [Region.wanted,hg,yielded,hj,Option.bind_some,hd];simp only [Array.getD_eq_getD_getElem?] at hb
 cases hx:tmps[d]? with
 | none=>cases want <;> rfl
 | some x=>simp [hx] at hb; subst hb; cases want <;> rfl
theorem uT.skip {P:Program} {ops:Array Oper} {i:Nat} {o:Oper} {N:List aJ} (j d dd:Nat) (want:Bool) (oj:Oper) (ho:ops[i]? = some o) (hg:o.guard=some (j,want))
  (hj:ops[j]? = some oj) (hd:oj.dst=some d) (hdd:o.dst=some dd) (hN:(d,AV.v (.bool (!want)))∈N):uT P ops i N [] [(dd,.v undef)] [.slot dd]:=by
 intro g F a w K Q hd' hs hc hk r;unfold wpOpIn;rw [ho];have hb:=hs.bool (d:=d) (b := !want) (by simp [hN]);have hw:Region.wanted o (yielded ops a.tmps)=false:=by rw [xI hg hj hd hb]; cases want <;> rfl
 simp only [hw];obtain ⟨V,ow,hst,hes⟩:=hs;have hlt:dd<g.n:=hd' dd (by simp [ho,hdd]);have hst':=hst.put dd undef hlt;rw [hdd];refine ⟨fun _ _=>trivial,hk g _ w g.le_refl ⟨_,_,hst',?_⟩⟩;simp only [List.nil_append] at hes;obtain ⟨o1,o2,rfl,h1,h2⟩:=aT.1 hes
 have stab:=fun es o hcl hh=>dI (g:=g) (g':=g) (V:=V) (V':=(fun l=>match l with | .slot t=>if t=dd then undef else V (.slot t) | .cell t i=>V (.cell t i))) (w:=w) (w':=w) (W:=[.slot dd])
  (fun _ h=>h) (fun _ h=>h) (fun l hl=>by have:=jV dd l hl; cases l <;> simp_all) es o hcl (fun _ _=>rfl) hh
 refine aT.2 ⟨o1,o2,rfl,stab _ _ (fun e he=>hc e (by simp [he])) h1,[],o2,rfl,⟨by simp [R],trivial⟩,stab _ _ (fun e he=>hc e (ak.2 (.inr he))) h2⟩
theorem uT.skipU {P:Program} {ops:Array Oper} {i:Nat} {o:Oper} {N:List aJ} (j d dd:Nat) (want:Bool) (oj:Oper) (ho:ops[i]? = some o) (hg:o.guard=some (j,want))
  (hj:ops[j]? = some oj) (hd:oj.dst=some d) (hdd:o.dst=some dd) (hN:(d,AV.v undef)∈N):uT P ops i N [] [(dd,.v undef)] [.slot dd]:=by
 intro g F a w K Q hd' hs hc hk r;unfold wpOpIn;rw [ho];have hb:=hs.undef (d:=d) (by simp [hN]);have hw:Region.wanted o (yielded ops a.tmps)=false:=yh hg hj hd hb;simp only [hw];obtain ⟨V,ow,hst,hes⟩:=hs;have hlt:dd<g.n:=hd' dd (by simp [ho,hdd]);have hst':=hst.put dd undef hlt;rw [hdd];refine ⟨fun _ _=>trivial,hk g _ w g.le_refl ⟨_,_,hst',?_⟩⟩;simp only [List.nil_append] at hes;obtain ⟨o1,o2,rfl,h1,h2⟩:=aT.1 hes
 have stab:=fun es o hcl hh=>dI (g:=g) (g':=g) (V:=V) (V':=(fun l=>match l with | .slot t=>if t=dd then undef else V (.slot t) | .cell t i=>V (.cell t i))) (w:=w) (w':=w) (W:=[.slot dd])
  (fun _ h=>h) (fun _ h=>h) (fun l hl=>by have:=jV dd l hl; cases l <;> simp_all) es o hcl (fun _ _=>rfl) hh
 refine aT.2 ⟨o1,o2,rfl,stab _ _ (fun e he=>hc e (by simp [he])) h1,[],o2,rfl,⟨by simp [R],trivial⟩,stab _ _ (fun e he=>hc e (ak.2 (.inr he))) h2⟩
mutual
theorem iS:∀ (av:AV),eh [] av=true
 | .any=>by simp [eh]
 | .v _=>by simp [eh]
 | .fl .. => by simp [eh]
 | .agg cs=>by simp only [eh]; exact dN cs
 | .tup cs=>by simp only [eh]; exact dN cs
 | .box _ cs=>by simp only [eh]; exact dN cs
 | .same l=>by simp [eh,fq]
 | .ptr t _=>by simp [eh,fq]
 | .eref l _=>by simp [eh,fq]
 | .cut l _=>by simp [eh,fq]
 | .arr .. => rfl
 | .fr .. => rfl
 | .glob _=>rfl
 | .obox _ _ cs=>by simp only [eh]; exact dN cs
 | .clo _ ts=>by simp [eh,fq]
 | .cloB _ cs=>by simp only [eh]; exact dN cs
 | .inv _=>rfl
 | .mkr .. => rfl
 | .asl t _=>by simp [eh,fq]
 | .hid _=>rfl
theorem dN:∀ (cs:List AV),cW [] cs=true
 | []=>by simp [cW]
 | c::cs=>by simp only [cW,iS c,dN cs,Bool.and_self]
end

theorem xY (p q:Nat→Bool):∀ (l:List Nat),(∀ j∈l,p j=true→q j=true)→∀ i∈l,q i=true→p i=false→l.countP p<l.countP q
 | [],_,i,hi,_,_=>by cases hi
 | x::l,himp,i,hi,hq,hp=>by
  have hle:l.countP p≤l.countP q:=List.countP_mono_left fun j hj h=>himp j (by simp [hj]) h
  rcases List.mem_cons.1 hi with rfl | hi
  ·simp [hq,hp]; omega
  ·have ih:=xY p q l (fun j hj=>himp j (by simp [hj])) i hi hq hp
   simp only [List.countP_cons]
   have hx:=himp x (by simp)
   cases hpx:p x <;> cases hqx:q x <;> simp_all <;> omega
structure Sp where
 N:List Nat
 T:List Nat
 G:List Nat
 W:List bF
def kL (e:Nat):List Nat→Bool
 | []=>false
 | x::r=>Nat.beq e x||kL e r
theorem dU {e:Nat}:∀ {l:List Nat},kL e l=true↔e∈l
 | []=>by simp [kL]
 | x::r=>by simp [kL,dU (l:=r)]
def wX (n:Nat) (f:Nat→Bool):Bool:=Nat.rec true (fun k r=>f k&&r) n
theorem jf {f:Nat→Bool}:∀ {n:Nat},wX n f=true↔∀ k,k<n→f k=true
 | 0=>⟨fun _ k hk=>absurd hk (by omega),fun _=>rfl⟩
 | n+1=>by
  have ih:=jf (f:=f) (n:=n)
  show (f n&&wX n f)=true↔_
  rw [Bool.and_eq_true,ih]
  constructor
  ·rintro ⟨h1,h2⟩ k hk
   rcases Nat.lt_succ_iff_lt_or_eq.1 hk with h | rfl
   ·exact h2 k h
   ·exact h1
  ·intro h; exact ⟨h n (by omega),fun k hk=>h k (by omega)⟩
def DJ (sps:List Sp) (i:Nat):Sp:=(sps[i]?).getD ⟨[],[],[],[]⟩
structure Fs (n m:Nat) (E:Nat→aJ) (init:List Nat) (sp:Nat→Sp) (pre:Nat→Nat→Bool):Prop where
 init_lt:∀ e∈init,e<m
 init_nodup:init.Nodup
 avail:∀ i,i<n→∀ e,e∈(sp i).N++(sp i).T→e<m∧(e∈init∨∃ j,j<n∧pre i j=true∧e∈(sp j).G)
 kept:∀ i k,i<n→k<n→k≠i→∀ e,e∈(sp i).N++(sp i).T→e∈(sp k).T→pre k i=true
 made:∀ i,i<n→∀ e,e∈(sp i).G→e<m∧e ∉ init∧(∀ k,k<n→e∈(sp k).T→pre k i=true∧k≠i)∧(∀ k,k<n→k≠i→e ∉ (sp k).G)
 nodup:∀ i,i<n→((sp i).N++(sp i).T).Nodup∧(sp i).G.Nodup∧∀ e∈(sp i).G,e ∉ (sp i).N++(sp i).T
 clear:∀ i,i<n→∀ e,e<m→e ∉ (sp i).T→(∀ j,j<n→e∈(sp j).G→j≠i∧pre j i=false)→(∀ k,k<n→e∈(sp k).T→pre i k=false)→bX (sp i).W (E e)=true
section
variable {n m:Nat} {E:Nat→aJ} {init:List Nat} {sp:Nat→Sp} {pre:Nat→Nat→Bool}
def CN (n:Nat) (init:List Nat) (sp:Nat→Sp) (L:Nat→Bool) (e:Nat):Prop :=
 (e∈init∨∃ j,j<n∧L j=true∧e∈(sp j).G)∧∀ k,k<n→L k=true→e ∉ (sp k).T
open Classical in
noncomputable def dE (n m:Nat) (init:List Nat) (sp:Nat→Sp) (L:Nat→Bool):List Nat:=(List.range m).filter fun e=>decide (CN n init sp L e)
theorem ej {L:Nat→Bool} {e:Nat}:e∈dE n m init sp L↔e<m∧CN n init sp L e:=by simp [dE]
theorem fR {L:Nat→Bool}:(dE n m init sp L).Nodup:=List.Nodup.sublist List.filter_sublist List.nodup_range
theorem DH (hp:Fs n m E init sp pre) {L:Nat→Bool} {i:Nat} (hi:i<n) (hL:L i=false) (hpre:∀ j,j<n→pre i j=true→L j=true)
  (hcl:∀ i,i<n→L i=true→∀ j,j<n→pre i j=true→L j=true) :
  ∃ F:List Nat,(dE n m init sp L).Perm ((sp i).N++((sp i).T++F)) ∧
   (dE n m init sp (fun j=>L j||j==i)).Perm ((sp i).N++((sp i).G++F))∧∀ e∈(sp i).N++F,bX (sp i).W (E e)=true:=by
 have hav:∀ e,e∈(sp i).N++(sp i).T→e∈dE n m init sp L:=by
  intro e he;obtain ⟨h1,h2⟩:=hp.avail i hi e he;refine ej.2 ⟨h1,?_,?_⟩
  ·rcases h2 with h2 | ⟨j,hj,hpj,hg⟩
   ·exact .inl h2
   ·exact .inr ⟨j,hj,hpre j hj hpj,hg⟩
  ·intro k hk hLk hT;have hne:k≠i:=fun e=>by subst e; simp [hL] at hLk
   have:=hcl k hk hLk i hi (hp.kept i k hi hk hne e he hT);simp [hL] at this
 obtain ⟨nd1,nd2,nd3⟩:=hp.nodup i hi;let F:=(dE n m init sp L).filter fun e => !kL e ((sp i).N++(sp i).T)
 have hF:∀ e,e∈F↔e∈dE n m init sp L∧e ∉ (sp i).N++(sp i).T:=by intro e;simp only [F,List.mem_filter,Bool.not_eq_true'];refine and_congr_right fun _ => ?_;rw [← dU (l:=(sp i).N++(sp i).T)]; simp
 have ndF:F.Nodup:=List.Nodup.sublist List.filter_sublist fR
 have gS:∀ e∈(sp i).G,e ∉ dE n m init sp L:=by
  intro e he hs;obtain ⟨_,h2,_,h4⟩:=hp.made i hi e he;obtain ⟨_,h5,_⟩:=ej.1 hs;rcases h5 with h5 | ⟨j,hj,hLj,hg⟩
  ·exact h2 h5
  ·exact h4 j hj (fun e=>by subst e; simp [hL] at hLj) hg
 have nd1':=List.nodup_append.1 nd1;refine ⟨F,?_,?_,?_⟩
 ·refine (List.perm_ext_iff_of_nodup fR ?_).2 fun e => ?_
  ·rw [← List.append_assoc];exact List.nodup_append.2 ⟨nd1,ndF,fun a ha b hb e=>by subst e; exact ((hF _).1 hb).2 ha⟩
  ·rw [← List.append_assoc,List.mem_append,hF];constructor
   ·intro h;by_cases h':e∈(sp i).N++(sp i).T
    ·exact .inl h'
    ·exact .inr ⟨h,h'⟩
   ·rintro (h | h)
    ·exact hav e h
    ·exact h.1
 ·refine (List.perm_ext_iff_of_nodup fR ?_).2 fun e => ?_
  ·refine List.nodup_append.2 ⟨nd1'.1,List.nodup_append.2 ⟨nd2,ndF,fun a ha b hb e=>by subst e; exact gS _ ha ((hF _).1 hb).1⟩,fun a ha b hb e => ?_⟩;subst e;rcases List.mem_append.1 hb with h | h
   ·exact nd3 _ h (by simp [ha])
   ·exact ((hF _).1 h).2 (by simp [ha])
  ·rw [ej,List.mem_append,List.mem_append,hF,ej];constructor
   ·rintro ⟨h1,h2,h3⟩;have hnT:e ∉ (sp i).T:=h3 i hi (by simp);have hnk:∀ k,k<n→L k=true→e ∉ (sp k).T:=fun k hk hLk=>h3 k hk (by simp [hLk]);by_cases hN:e∈(sp i).N
    ·exact .inl hN
    right;rcases h2 with h2 | ⟨j,hj,hLj,hg⟩
    ·exact .inr ⟨⟨h1,.inl h2,hnk⟩,by simp [hN,hnT]⟩
    ·by_cases hji:j=i
     ·subst hji; exact .inl hg
     ·exact .inr ⟨⟨h1,.inr ⟨j,hj,by simpa [hji] using hLj,hg⟩,hnk⟩,by simp [hN,hnT]⟩
   ·rintro (h | h | ⟨⟨h1,h2,h3⟩,h4⟩)
    ·obtain ⟨h1,h2,h3⟩:=ej.1 (hav e (by simp [h]));refine ⟨h1,?_,?_⟩
     ·rcases h2 with h2 | ⟨j,hj,hLj,hg⟩
      ·exact .inl h2
      ·exact .inr ⟨j,hj,by simp [hLj],hg⟩
     ·intro k hk hLk hT;by_cases hki:k=i
      ·subst hki; exact nd1'.2.2 e h e hT rfl
      ·exact h3 k hk (by simpa [hki] using hLk) hT
    ·obtain ⟨h1,h2,h3,h4⟩:=hp.made i hi e h;refine ⟨h1,.inr ⟨i,hi,by simp,h⟩,?_⟩;intro k hk hLk hT;obtain ⟨h5,h6⟩:=h3 k hk hT;have:=hcl k hk (by simpa [h6] using hLk) i hi h5;simp [hL] at this
    ·refine ⟨h1,?_,?_⟩
     ·rcases h2 with h2 | ⟨j,hj,hLj,hg⟩
      ·exact .inl h2
      ·exact .inr ⟨j,hj,by simp [hLj],hg⟩
     ·intro k hk hLk hT;by_cases hki:k=i
      ·subst hki; exact h4 (by simp [hT])
      ·exact h3 k hk (by simpa [hki] using hLk) hT
 ·intro e he
  have hes:e∈dE n m init sp L∧e ∉ (sp i).T:=by
   rcases List.mem_append.1 he with h | h
   ·exact ⟨hav e (by simp [h]),fun hT=>nd1'.2.2 e h e hT rfl⟩
   ·exact ⟨((hF e).1 h).1,fun hT=>((hF e).1 h).2 (by simp [hT])⟩
  obtain ⟨⟨h1,h2,h3⟩,h4⟩:=And.intro (ej.1 hes.1) hes.2;refine hp.clear i hi e h1 h4 ?_ ?_
  ·intro j hj hg
   have hLj:L j=true:=by
    rcases h2 with h2 | ⟨j',hj',hLj',hg'⟩
    ·exact absurd h2 (hp.made j hj e hg).2.1
    ·by_cases hjj:j'=j
     ·subst hjj; exact hLj'
     ·exact absurd hg' ((hp.made j hj e hg).2.2.2 j' hj' hjj)
   refine ⟨fun e=>by subst e; simp [hL] at hLj,?_⟩
   cases hpj:pre j i
   ·rfl
   ·have:=hcl j hj hLj i hi hpj; simp [hL] at this
  ·intro k hk hT
   cases hpk:pre i k
   ·rfl
   ·exact absurd hT (h3 k hk (hpre k hk hpk))
end
theorem eX.drew {g:Gh} {es:List aJ} {a:Act} {w:World} (h:eX g es a w):eX g es a { w with drawn:=w.drawn+1 }:=by
 obtain ⟨V,o,hs,he⟩:=h;refine ⟨V,o,⟨hs.val,hs.size,hs.defers,hs.dnd,hs.marks,hs.nodup,hs.own,hs.imm,hs.chg.trans (dq.drew _ _)⟩,?_⟩
 exact dI (W:=[]) (w:=w) (w':={ w with drawn:=w.drawn+1 }) (fun _ h=>h) (fun _ h=>h) (fun _ _=>rfl) es o (fun e _=>by
  simp only [bX,fq,List.any_nil,List.all_nil,Bool.not_false,Bool.true_and,Bool.and_true,Bool.or_true]; exact iS e.2) (fun _ _=>rfl) he
section
variable {P:Program} {ops:Array Oper} {n m:Nat} {E:Nat→aJ} {init:List Nat} {sp:Nat→Sp} {pre:Nat→Nat→Bool} {Q:Exit→Act→World→Prop} {r:Option Nat}
def BL (P:Program) (ops:Array Oper) (E:Nat→aJ) (sp:Nat→Sp) (n:Nat):Prop :=
 ∀ i,i<n→uT P ops i ((sp i).N.map E) ((sp i).T.map E) ((sp i).G.map E) (sp i).W
theorem kY {L L':Nat→Bool} (h:∀ j,j<n→L j=L' j):dE n m init sp L=dE n m init sp L':=by
 unfold dE;congr 1;funext e;congr 1;unfold CN;apply propext;constructor
 ·rintro ⟨h1,h2⟩;exact ⟨h1.imp id fun ⟨j,hj,hl,hg⟩=>⟨j,hj,(h j hj) ▸ hl,hg⟩,fun k hk hl=>h2 k hk ((h k hk).symm ▸ hl)⟩
 ·rintro ⟨h1,h2⟩;exact ⟨h1.imp id fun ⟨j,hj,hl,hg⟩=>⟨j,hj,(h j hj).symm ▸ hl,hg⟩,fun k hk hl=>h2 k hk ((h k hk) ▸ hl)⟩
theorem EO (hp:Fs n m E init sp pre) (hsteps:BL P ops E sp n) {g:Gh} (hdst:∀ (i d:Nat),(ops[i]?).bind Oper.dst=some d→d<g.n) {L:Nat→Bool} {i:Nat} (hi:i<n) (hL:L i=false)
  (hpre:∀ j,j<n→pre i j=true→L j=true) (hcl:∀ i,i<n→L i=true→∀ j,j<n→pre i j=true→L j=true)
  {a:Act} {w:World} (hs:eX g ((dE n m init sp L).map E) a w) {K:Act→World→Prop}
  (hk:∀ g' a' w',g.le g'→eX g' ((dE n m init sp (fun j=>L j||j==i)).map E) a' w'→K a' w'):wpOpIn (FW r) 0 P ops Q i K a w:=by
 obtain ⟨F,p1,p2,hc⟩:=DH hp hi hL hpre hcl
 have hs1:eX g ((sp i).N.map E++((sp i).T.map E++F.map E)) a w:=by have:=hs.perm (p1.map E);simpa using this
 refine hsteps i hi g (F.map E) a w K Q (hdst i) hs1 ?_ ?_ r
 ·intro e he;rw [← List.map_append] at he;obtain ⟨x,hx,rfl⟩:=List.mem_map.1 he;exact hc x hx
 ·intro g' a' w' hle hs';refine hk g' a' w' hle (hs'.perm ?_);have:=(p2.map E).symm;simpa using this
theorem DG (hp:Fs n m E init sp pre) (hsteps:BL P ops E sp n) (hn:ops.size=n)
  (hpre:∀ (i:Nat) o,ops[i]? = some o→∀ j,j<n→pre i j=true→∃ e∈o.after,Region.binds .any e=true∧(j=e.on∨pre e.on j=true))
  (hon:∀ (i:Nat) o,ops[i]? = some o→∀ e∈o.after,Region.binds .any e=true→e.on<i) {g0:Gh} (hdst:∀ (i d:Nat),(ops[i]?).bind Oper.dst=some d→d<g0.n) :
  ∀ (fuel:Nat) (listed:Array Bool),listed.size=n→(List.range n).countP (fun j => !listed.getD j false)≤fuel →
   (∀ i,i<n→listed.getD i false=true→∀ j,j<n→pre i j=true→listed.getD j false=true)→∀ (g:Gh) (a:Act) (w:World),g0.le g →
   eX g ((dE n m init sp (fun j=>listed.getD j false)).map E) a w →
   (∀ g' a' w',g0.le g'→eX g' ((dE n m init sp (fun _=>true)).map E) a' w'→Q .normal a' w')→wpAnyIn (FW r) 0 P .any ops Q fuel listed a w:=by
 have hfull:∀ (listed:Array Bool),listed.size=n→Region.ready .any ops listed=[]→∀ j,j<n→listed.getD j false=true:=by
  intro listed hsz hr j
  induction j using Nat.strongRecOn with
  | _ j ih =>
   intro hj
   cases hlj:listed.getD j false
   ·exfalso;have hjo:j<ops.size:=by omega
    have:j∈Region.ready .any ops listed:=by
     rw [mem_ready];refine ⟨?_,ops[j],Array.getElem?_eq_getElem hjo,?_⟩
     ·have hjl:j<listed.size:=by omega
      simp only [Array.getD_eq_getD_getElem?,Array.getElem?_eq_getElem hjl,Option.getD_some] at hlj ⊢;exact hlj
     ·intro e he hb;have h1:=hon j _ (Array.getElem?_eq_getElem hjo) e he hb;exact ih e.on h1 (by omega)
    rw [hr] at this; cases this
   ·rfl
 intro fuel
 induction fuel with
 | zero =>
  intro listed hsz hcnt hcl g a w hg hs hQ
  have hall:∀ j,j<n→listed.getD j false=true:=by
   have h0:(List.range n).countP (fun j => !listed.getD j false)=0:=by omega
   rw [List.countP_eq_zero] at h0;intro j hj;have:=h0 j (by simpa using hj);simpa using this
  refine ⟨?_,hQ g a w hg ?_⟩
  ·apply List.eq_nil_iff_forall_not_mem.2;intro j hj;rw [mem_ready] at hj;obtain ⟨h1,o,ho,_⟩:=hj;have hj:j<n:=by rw [← hn]; exact (Array.getElem?_eq_some_iff.1 ho).1
   have h2:=hall j hj;have hjl:j<listed.size:=by omega
   simp only [Array.getD_eq_getD_getElem?,Array.getElem?_eq_getElem hjl,Option.getD_some] at h1 h2;rw [h1] at h2; cases h2
  ·rw [kY (L':=fun _=>true) (fun j hj=>hall j hj)] at hs;exact hs
 | succ fuel ih =>
  intro listed hsz hcnt hcl g a w hg hs hQ;refine ⟨fun hr=>hQ g a w hg ?_,?_⟩
  ·rw [kY (L':=fun _=>true) (fun j hj=>hfull listed hsz hr j hj)] at hs;exact hs
  ·intro i hi;have hi':=hi;rw [mem_ready] at hi';obtain ⟨h1,o,ho,hedge⟩:=hi';have hin:i<n:=by rw [← hn]; exact (Array.getElem?_eq_some_iff.1 ho).1
   have hil:i<listed.size:=by omega
   have hLi:listed.getD i false=false:=by simp only [Array.getD_eq_getD_getElem?,Array.getElem?_eq_getElem hil,Option.getD_some] at h1 ⊢;exact h1
   have hpi:∀ j,j<n→pre i j=true→listed.getD j false=true:=by
    intro j hj hp';obtain ⟨e,he,hb,hor⟩:=hpre i o ho j hj hp';have h2:=hedge e he hb;rcases hor with rfl | hor
    ·exact h2
    ·have hen:e.on<n:=by have:=hon i o ho e he hb; omega
     exact hcl e.on hen h2 j hj hor
   refine EO hp hsteps (fun i d h=>by rw [hg.n]; exact hdst i d h) (L:=fun j=>listed.getD j false) hin hLi hpi hcl hs ?_;intro g' a' w' hle hs'
   have hset:∀ j,(listed.setIfInBounds i true).getD j false=(listed.getD j false||j==i):=by
    intro j;by_cases hji:j=i
    ·subst hji; simp [hil]
    ·rw [getD_set_ne false (fun e=>hji e.symm)]; simp [hji]
   refine ih (listed.setIfInBounds i true) (by simpa using hsz) ?_ ?_ g' a' w' (hg.trans hle) ?_ hQ
   ·have hlt:(List.range n).countP (fun j => !(listed.setIfInBounds i true).getD j false)<(List.range n).countP (fun j => !listed.getD j false):=by refine xY _ _ _ (fun j _ h => ?_) i (by simpa using hin) (by simp [hLi]) (by rw [hset]; simp);rw [hset] at h; simp at h ⊢; exact h.1
    omega
   ·intro k hk hlk j hj hpj;rw [hset] at hlk ⊢;by_cases hki:k=i
    ·subst hki; simp [hpi j hj hpj]
    ·have:listed.getD k false=true:=by simpa [hki] using hlk
     simp [hcl k hk this j hj hpj]
   ·rw [kY (L':=fun j=>listed.getD j false||j==i) (fun j _=>hset j)];exact hs'
end
end Go.Abs
end
section
namespace Go.Abs
theorem rh {a b:Nat}:Nat.blt a b=true↔a<b:=by unfold Nat.blt; rw [Nat.ble_eq]; exact Iff.rfl
theorem wB (m j:Nat):(Array.replicate m false).getD j false=false:=by simp only [Array.getD_eq_getD_getElem?,Array.getElem?_replicate]; split <;> rfl
def kP (El:List aJ) (i:Nat):aJ:=El.getD i (0,.any)
def mV:List Nat→Bool
 | []=>true
 | x::r => !kL x r&&mV r
theorem jw:∀ {l:List Nat},mV l=true→l.Nodup
 | [],_=>List.nodup_nil
 | x::r,h=>by
  simp only [mV,ah,Bool.not_eq_true'] at h
  refine bI.2 ⟨fun hm => ?_,jw h.2⟩
  rw [dU.2 hm] at h; exact absurd h.1 (by simp)
theorem BS {S A:List Nat} (hS:S.Nodup) (hA:A.Nodup) (hsub:∀ e∈A,e∈S):S.Perm (A++S.filter fun e => !kL e A):=by
 refine (List.perm_ext_iff_of_nodup hS ?_).2 fun e => ?_
 ·refine ag.2 ⟨hA,List.Nodup.sublist List.filter_sublist hS,fun a ha b hb e => ?_⟩;subst e;have:=(List.mem_filter.1 hb).2;rw [dU.2 ha] at this; simp at this
 ·rw [ak,List.mem_filter];constructor
  ·intro h;by_cases ha:e∈A
   ·exact .inl ha
   ·refine .inr ⟨h,?_⟩
    cases hm:kL e A
    ·rfl
    ·exact absurd (dU.1 hm) ha
  ·rintro (h | h)
   ·exact hsub e h
   ·exact h.1
def vF (P:Program) (ops:Array Oper) (E:Nat→aJ):Nat→List Sp→Prop
 | _,[]=>True
 | k,s::r=>uT P ops k (s.N.map E) (s.T.map E) (s.G.map E) s.W∧vF P ops E (k+1) r
def qe (n:Nat) (ops:List Oper):Bool:=ops.all fun o=>match o.dst with | none=>true | some d=>Nat.blt d n
theorem uq {n:Nat} {ops:List Oper} (h:qe n ops=true):∀ (i d:Nat),((ops.toArray)[i]?).bind Oper.dst=some d→d<n:=by
 intro i d hd;simp only [List.getElem?_toArray] at hd
 cases ho:ops[i]? with
 | none=>simp [ho] at hd
 | some o =>
  simp only [ho,Option.bind_some] at hd;simp only [qe,aR] at h;have:=h o (List.mem_of_getElem? ho);simp only [hd] at this;exact rh.1 this
section
variable {P:Program} {ops:Array Oper} {El:List aJ} {Q:Exit→Act→World→Prop} {r:Option Nat}
theorem eX.ofSub {g:Gh} {S fin:List Nat} {E:Nat→aJ} {a:Act} {w:World} (hs:eX g (S.map E) a w) (hn:S.Nodup) (hf:fin.Nodup) (hsub:∀ e∈fin,e∈S):eX g (fin.map E) a w:=by have p:=BS hn hf hsub;have:=hs.perm (p.map E);rw [List.map_append] at this;exact this.perm List.perm_append_comm |>.dropLeft
def Dz (n:Nat) (f:Nat→Bool):Bool := !wX n fun k => !f k
theorem sG {f:Nat→Bool} {n:Nat} (h:Dz n f=true):∃ k,k<n∧f k=true:=by
 simp only [Dz,Bool.not_eq_true'] at h;apply Classical.byContradiction;intro hno
 have:wX n (fun k => !f k)=true:=jf.2 fun k hk=>by
  cases hf:f k
  ·rfl
  ·exact absurd ⟨k,hk,hf⟩ hno
 rw [this] at h; cases h
def Cg (n m:Nat) (E:Nat→aJ) (init:List Nat) (sp:Nat→Sp) (pre:Nat→Nat→Bool):Bool :=
 init.all (fun e=>Nat.blt e m)&&mV init &&
 wX n fun i =>
  ((sp i).N++(sp i).T).all (fun e=>Nat.blt e m&&(kL e init||Dz n fun j=>pre i j&&kL e (sp j).G)&&wX n fun k=>Nat.beq k i || !kL e (sp k).T||pre k i) &&
  (sp i).G.all (fun e=>Nat.blt e m && !kL e init&&wX n fun k=>(!kL e (sp k).T||(pre k i && !Nat.beq k i))&&(Nat.beq k i || !kL e (sp k).G)) &&
  mV ((sp i).N++(sp i).T)&&mV (sp i).G&&(sp i).G.all (fun e => !kL e ((sp i).N++(sp i).T)) &&
  wX m fun e=>bX (sp i).W (E e)||kL e (sp i).T||(Dz n fun j=>kL e (sp j).G&&(Nat.beq j i||pre j i))||Dz n fun k=>kL e (sp k).T&&pre i k
theorem Gr {a b:Nat}:Nat.beq a b=true↔a=b:=⟨Nat.eq_of_beq_eq_true,fun h=>by subst h; exact Nat.beq_refl a⟩
theorem mZ {e:Nat} {l:List Nat}:(!kL e l)=true↔e ∉ l:=by rw [← dU (l:=l)]; simp
theorem BJ {n m:Nat} {E:Nat→aJ} {init:List Nat} {sp:Nat→Sp} {pre:Nat→Nat→Bool} (h:Cg n m E init sp pre=true):Fs n m E init sp pre:=by
 simp only [Cg,ah] at h;obtain ⟨⟨h1,h2⟩,h3⟩:=h;have h3:=jf.1 h3;simp only [aR] at h1;refine ⟨fun e he=>rh.1 (h1 e he),jw h2,?_,?_,?_,?_,?_⟩
 ·intro i hi e he;have:=h3 i hi;simp only [ah,aR] at this;obtain ⟨⟨⟨⟨⟨a1,a2⟩,a3⟩,a4⟩,a5⟩,a6⟩:=this;obtain ⟨⟨b1,b2⟩,b3⟩:=a1 e he;refine ⟨rh.1 b1,?_⟩;rcases Bool.or_eq_true_iff.1 b2 with b2 | b2
  ·exact .inl (dU.1 b2)
  ·obtain ⟨j,hj,hh⟩:=sG b2;rw [ah] at hh;exact .inr ⟨j,hj,hh.1,dU.1 hh.2⟩
 ·intro i k hi hk hne e he hT;have:=h3 i hi;simp only [ah,aR] at this;obtain ⟨⟨⟨⟨⟨a1,a2⟩,a3⟩,a4⟩,a5⟩,a6⟩:=this;obtain ⟨⟨b1,b2⟩,b3⟩:=a1 e he;have:=jf.1 b3 k hk;simp only [Bool.or_eq_true] at this;rcases this with (h | h) | h
  ·exact absurd (Gr.1 h) hne
  ·exact absurd hT (mZ.1 h)
  ·exact h
 ·intro i hi e he;have:=h3 i hi;simp only [ah,aR] at this;obtain ⟨⟨⟨⟨⟨a1,a2⟩,a3⟩,a4⟩,a5⟩,a6⟩:=this;obtain ⟨⟨b1,b2⟩,b3⟩:=a2 e he;refine ⟨rh.1 b1,mZ.1 b2,?_,?_⟩
  ·intro k hk hT;have:=jf.1 b3 k hk;simp only [Bool.or_eq_true,ah] at this;rcases this.1 with h | h
   ·exact absurd hT (mZ.1 h)
   ·exact ⟨h.1,fun e=>by subst e; simp [Nat.beq_refl] at h⟩
  ·intro k hk hne hG;have:=jf.1 b3 k hk;simp only [Bool.or_eq_true,ah] at this;rcases this.2 with h | h
   ·exact hne (Gr.1 h)
   ·exact mZ.1 h hG
 ·intro i hi;have:=h3 i hi;simp only [ah,aR] at this;obtain ⟨⟨⟨⟨⟨a1,a2⟩,a3⟩,a4⟩,a5⟩,a6⟩:=this;exact ⟨jw a3,jw a4,fun e he=>mZ.1 (a5 e he)⟩
 ·intro i hi e he hT hG hK;have:=h3 i hi;simp only [ah,aR] at this;obtain ⟨⟨⟨⟨⟨a1,a2⟩,a3⟩,a4⟩,a5⟩,a6⟩:=this;have:=jf.1 a6 e he;simp only [Bool.or_eq_true] at this;rcases this with ((h | h) | h) | h
  ·exact h
  ·exact absurd (dU.1 h) hT
  ·obtain ⟨j,hj,hh⟩:=sG h;simp only [ah,Bool.or_eq_true] at hh;obtain ⟨h4,h5⟩:=hG j hj (dU.1 hh.1);rcases hh.2 with h6 | h6
   ·exact absurd (Gr.1 h6) h4
   ·rw [h5] at h6; cases h6
  ·obtain ⟨k,hk,hh⟩:=sG h;simp only [ah] at hh;rw [hK k hk (dU.1 hh.1)] at hh; exact absurd hh.2 (by simp)
def CO:List Oper→List Nat→List Nat
 | [],acc=>acc
 | o::r,acc=>CO r (acc++[o.after.toList.foldl (fun s e=>if Region.binds .any e then s ||| (1 <<< e.on) ||| acc.getD e.on 0 else s) 0])
def Hw (ms:List Nat) (i j:Nat):Bool:=Nat.testBit (ms.getD i 0) j
def GD (n:Nat) (ops:List Oper) (ms:List Nat):Bool :=
 (ops.zipIdx).all fun (o,i) =>
  (o.after.toList.all fun e => !Region.binds .any e||Nat.blt e.on i) &&
  wX n fun j => !Hw ms i j||o.after.toList.any fun e=>Region.binds .any e&&(Nat.beq j e.on||Hw ms e.on j)
def xJ (n:Nat) (ops:List Oper) (El:List aJ) (init:List Nat) (sps:List Sp) (fin:List Nat):Bool :=
 let ms:=CO ops []
 Nat.beq ops.length sps.length&&qe n ops&&mV fin&&GD ops.length ops ms &&
 Cg ops.length El.length (kP El) init (DJ sps) (Hw ms) &&
 fin.all fun e=>Nat.blt e El.length&&(kL e init||Dz ops.length fun j=>kL e (DJ sps j).G)&&wX ops.length fun k => !kL e (DJ sps k).T
theorem yg {E:Nat→aJ}:∀ (sps:List Sp) (k i:Nat) (s:Sp),vF P ops E k sps→sps[i]? = some s→uT P ops (k+i) (s.N.map E) (s.T.map E) (s.G.map E) s.W
 | [],k,i,s,_,h=>by simp at h
 | s'::r,k,0,s,hst,h=>by simp at h; subst h; exact hst.1
 | s'::r,k,i+1,s,hst,h=>by
  have:=yg r (k+1) i s hst.2 (by simpa using h)
  rwa [show k+1+i=k+(i+1) by omega] at this
theorem BZ {id:Nat} {l:List Oper} {n:Nat} {init fin:List Nat} {sps:List Sp} {g:Gh} {a:Act} {w:World} (hm:P.follows .mixedOrders=true) (hg:g.n=n)
  (hc:xJ n l El init sps fin=true) (hst:vF P l.toArray (kP El) 0 sps) (hs:eX g (init.map (kP El)) a w)
  (hQ:∀ g' a' w',g.le g'→eX g' (fin.map (kP El)) a' w'→Q .normal a' w'):(Code.region id l.toArray true).wpIn (FW r) 0 P Q a w:=by
 simp only [xJ,ah,aR] at hc;obtain ⟨⟨⟨⟨⟨c1,c2⟩,c3⟩,c4⟩,c5⟩,c6⟩:=hc;have hl:l.length=sps.length:=by simpa using Nat.eq_of_beq_eq_true c1
 have hp:=BJ c5
 have hsteps:BL P l.toArray (kP El) (DJ sps) l.length:=by
  intro i hi;have hi':i<sps.length:=by omega
  have:=yg sps 0 i sps[i] hst (List.getElem?_eq_getElem hi');rw [Nat.zero_add] at this;simpa [DJ,List.getElem?_eq_getElem hi'] using this
 simp only [GD,aR] at c4;refine wpIn_region_any hm ?_
 have hzip:∀ (i:Nat) (o:Oper),l[i]? = some o→(o,i)∈l.zipIdx:=by intro i o ho;rw [List.mem_zipIdx_iff_getElem?]; simpa using ho
 refine DG (Q:=Q) (g0:=g) hp hsteps (by simp) ?_ ?_ (by rw [hg]; exact uq c2) l.toArray.size (Array.replicate l.toArray.size false) (by simp) ?_ ?_ g a _ g.le_refl ?_ ?_
 ·intro i o ho j hj hpj;have h1:=c4 _ (hzip i o (by simpa using ho));simp only [ah] at h1;have h2:=jf.1 h1.2 j hj;rw [hpj] at h2;simp only [Bool.not_true,Bool.false_or,List.any_eq_true,ah,Bool.or_eq_true,Array.mem_toList_iff] at h2;obtain ⟨e,he,hb,hor⟩:=h2;exact ⟨e,he,hb,hor.imp Gr.1 fun h=>h⟩
 ·intro i o ho e he hb;have h1:=c4 _ (hzip i o (by simpa using ho));simp only [ah,aR] at h1;have h2:=h1.1 e (by simpa using he);rw [hb] at h2;exact rh.1 (by simpa using h2)
 ·simp only [List.size_toArray];exact bD List.countP_le_length (by simp)
 ·intro i hi hli;rw [wB] at hli; cases hli
 ·have:=hs.drew;refine this.perm ?_;refine List.Perm.map _ ?_;refine (List.perm_ext_iff_of_nodup hp.init_nodup fR).2 fun e => ?_;rw [ej];simp only [CN];constructor
  ·intro h; exact ⟨hp.init_lt e h,.inl h,fun k _ hk=>by rw [wB] at hk; cases hk⟩
  ·rintro ⟨_,h | ⟨j,_,hj,_⟩,_⟩
   ·exact h
   ·rw [wB] at hj; cases hj
 ·intro g' a' w' hle hs';refine hQ g' a' w' hle (hs'.ofSub fR (jw c3) fun e he => ?_);obtain ⟨⟨d1,d2⟩,d3⟩:=c6 e he;refine ej.2 ⟨rh.1 d1,?_,fun k hk _=>mZ.1 (jf.1 d3 k hk)⟩;rcases Bool.or_eq_true_iff.1 d2 with d2 | d2
  ·exact .inl (dU.1 d2)
  ·obtain ⟨j,hj,hh⟩:=sG d2;exact .inr ⟨j,hj,rfl,dU.1 hh⟩
end
end Go.Abs
end
section
namespace Go.Abs
def Yl (P:Program) (o:Oper) (a:Act) (w:World) (Φ:Value→World→Prop):Prop :=
 ∀ (K:Act→World→Prop) (Q:Exit→Act→World→Prop),(∀ x w',Φ x w'→K (a.put o.dst x) w')→∀ r,o.wpIn (FW r) 0 P a w K Q
theorem sO {P:Program} {r:Option Nat} {ρ:Operand→Value} {o:Oper} {w w':World} {x:Next} (h:(execOp ρ o).run P w = .ok x w') (hx:∀ d,x ≠ .defer d):(Oper.semAt r ρ o).run P w = .ok x w':=by
 by_cases hd:∃ c,o.op = .defer c
 ·exfalso;obtain ⟨c,hc⟩:=hd;simp only [execOp,hc,Sem.run_bind] at h
  cases hr:(resolve ρ c o.type).run P w with
  | ok d w1=>simp only [hr,Result.andThen] at h; simp at h; exact hx _ h.1.symm
  | halt e w1=>simp [hr,Result.andThen] at h
 ·have:=Oper.semAt_plain (FW r) ρ o (fun c hc=>hd ⟨c,hc⟩);rw [show (FW r).round=r from rfl] at this;rw [this]; exact h
theorem Yl.val {P:Program} {o:Oper} {a:Act} {w w':World} {x:Value} (h:(execOp a.eval o).run P w = .ok (.value x) w'):Yl P o a w (fun y v=>y=x∧v=w'):=by intro K Q hk r;refine ⟨fun _ _=>trivial,?_⟩;rw [show (FW r).round=r from rfl,sO h (fun d hd=>by cases hd)];exact hk x w' ⟨rfl,rfl⟩
theorem Yl.skip {P:Program} {o:Oper} {a:Act} {w w':World} (h:(execOp a.eval o).run P w = .ok .skip w'):Yl P o a w (fun y v=>y=undef∧v=w'):=by intro K Q hk r;refine ⟨fun _ _=>trivial,?_⟩;rw [show (FW r).round=r from rfl,sO h (fun d hd=>by cases hd)];exact hk undef w' ⟨rfl,rfl⟩
theorem Yl.call {P:Program} {o:Oper} {a:Act} {w w':World} {f:FuncId} {args:Array Value} {Φ:Value→World→Prop} (h:(execOp a.eval o).run P w = .ok (.enter f args) w')
  (hc:Calls P f args w' fun e w''=>∃ v,e = .returned v∧Φ v w''):Yl P o a w Φ:=by intro K Q hk r;refine ⟨fun _ _=>trivial,?_⟩;rw [show (FW r).round=r from rfl,sO h (fun d hd=>by cases hd)];refine ⟨fun h=>by simp [FW,Fence.wide] at h,?_⟩;have hc':CallsIn (FW r) (0-1) P f args w' fun e w''=>∃ v,e = .returned v∧Φ v w'':=(callsIn_wide (n:=0-1)).2 hc;refine hc'.mono ?_;rintro e w'' ⟨v,rfl,hv⟩;exact hk v w'' hv
theorem Yl.round {P:Program} {o:Oper} {a:Act} {w w':World} {l:Nat} {f:FuncId} {tmps:Array Value} {assign body:Code} {Φ:Value→World→Prop} (h:(execOp a.eval o).run P w = .ok (.round l f tmps assign body) w')
  (hc:RoundIn Fence.wide 0 P l f tmps assign body w' fun e w''=>∃ v,e = .returned v∧Φ v w''):Yl P o a w Φ:=by intro K Q hk r;refine ⟨fun _ _=>trivial,?_⟩;rw [show (FW r).round=r from rfl,sO h (fun d hd=>by cases hd)];refine ⟨fun h=>by simp [FW,Fence.wide] at h,?_⟩;have hc':RoundIn (FW r) (0-1) P l f tmps assign body w' fun e w''=>∃ v,e = .returned v∧Φ v w'':=hc;refine hc'.mono ?_;rintro e w'' ⟨v,rfl,hv⟩;exact hk v w'' hv
theorem Yl.mono {P:Program} {o:Oper} {a:Act} {w:World} {Φ Ψ:Value→World→Prop} (h:Yl P o a w Φ) (hh:∀ x w',Φ x w'→Ψ x w'):Yl P o a w Ψ :=
 fun K Q hk=>h K Q fun x w' hx=>hk x w' (hh x w' hx)
structure FT (g:Gh) (V:bF→Value) (N T:List aJ) (oN oT:List Nat) (a:Act) (w:World):Prop where
 val:∀ t,V (.slot t)=a.tmps.getD t undef
 size:a.tmps.size=g.n
 imm:∀ b,g.imm b→b<w.heap.size
 own:∀ b∈oN++oT,b<w.heap.size∧¬ g.imm b
 own2:∀ b∈oN++oT,g.w0.heap.size≤b∨b∈g.io
 nodup:(oN++oT).Nodup
 esN:Es g V w N oN
 esT:Es g V w T oT
 base:g.w0.heap.size≤w.heap.size
structure vY (g:Gh) (V:bF→Value) (G:List aJ) (W:List bF) (oT:List Nat) (dst:Option Tmp) (a:Act) (w:World) (x:Value) (w':World):Prop where
 out:∃ (g':Gh) (V':bF→Value) (oG:List Nat),g.le g'∧(∀ b,g'.Imm b→g.Imm b∨b∈oT∨w.heap.size≤b)∧(∀ b,g'.Imm b→b<w'.heap.size)∧dq oT w w' ∧
  (∀ l,fq W l=false→V' l=V l)∧(∀ t,V' (.slot t)=(a.put dst x).tmps.getD t undef)∧Es g' V' w' G oG∧oG.Nodup∧(∀ b∈oG,(b∈oT∨w.heap.size≤b)∧b<w'.heap.size∧¬ g'.imm b)
theorem bh.core {P:Program} {o:Oper} {N T G:List aJ} {W:List bF}
  (h:∀ (g:Gh) (V:bF→Value) (oN oT:List Nat) (a:Act) (w:World),(∀ d,o.dst=some d→d<g.n)→FT g V N T oN oT a w →
   Yl P o a w fun x w'=>vY g V G W oT o.dst a w x w'):bh P o N T G W:=by
 intro g F a w K Q hd hs hc hk;obtain ⟨V,ow,hst,hes⟩:=hs;obtain ⟨oN,oR,rfl,hN,hR⟩:=aT.1 hes;obtain ⟨oT,oF,rfl,hT,hF⟩:=aT.1 hR;have hnd:=hst.nodup;have hnd1:(oN++oT).Nodup:=by rw [← ar] at hnd; exact (ag.1 hnd).1
 have hpre:FT g V N T oN oT a w:=⟨hst.val,hst.size,hst.imm,fun b hb=>by
  have:=hst.own b (by simp at hb ⊢; rcases hb with h | h <;> simp [h])
  exact ⟨this.1,this.2.2⟩,fun b hb=>(hst.own b (by simp at hb ⊢; rcases hb with h | h <;> simp [h])).2.1,hnd1,hN,hT,hst.chg.size⟩
 refine fun r=>h g V oN oT a w hd hpre K Q ?_ r;rintro x w' ⟨g',V',oG,hle,hnew,himm,hchg,hV,hval,hG,hGn,hGo⟩;have hIM:∀ b,g.Im b→g'.Im b:=fun b hb=>by rw [hle.Im]; exact hb
 have hnF:∀ b,b∈oN∨b∈oF→b ∉ oT:=by
  intro b hb hT;rcases hb with hb | hb
  ·exact (ag.1 hnd1).2.2 b hb b hT rfl
  ·have h1:=(ag.1 hnd).2.1;exact (ag.1 h1).2.2 b hT b hb rfl
 have hownlt:∀ b,b∈oN∨b∈oT∨b∈oF→b<w.heap.size∧(g.w0.heap.size≤b∨b∈g.io)∧¬ g.imm b:=fun b hb=>hst.own b (by simpa using hb);have himmT:∀ b,g.imm b→b ∉ oT:=fun b hb hT=>(hownlt b (.inr (.inl hT))).2.2 hb
 have hNstab:Es g' V' w' N oN:=dI hle.Imm hIM hV N oN (fun e he=>hc e (by simp [he])) (fun b hb=>by
  rcases hb with hb | hb
  ·exact hchg.block b (hownlt b (.inl hb)).1 (hnF b (.inl hb))
  ·exact hchg.block b (hst.imm b hb) (himmT b hb)) hN
 have hFstab:Es g' V' w' F oF:=dI hle.Imm hIM hV F oF (fun e he=>hc e (by simp [he])) (fun b hb=>by
  rcases hb with hb | hb
  ·exact hchg.block b (hownlt b (.inr (.inr hb))).1 (hnF b (.inr hb))
  ·exact hchg.block b (hst.imm b hb) (himmT b hb)) hF
 refine hk g' _ w' hle ⟨V',oN++(oG++oF),⟨hval,?_,?_,?_,?_,?_,?_,?_,?_⟩,aT.2 ⟨oN,_,rfl,hNstab,aT.2 ⟨oG,oF,rfl,hG,hFstab⟩⟩⟩
 ·rw [hle.n,← hst.size]; unfold Act.put; split <;> simp
 ·rw [hle.ds]; unfold Act.put; split <;> exact hst.defers
 ·rw [hle.ds]; exact hst.dnd
 ·intro D hD;rw [hle.ds] at hD;obtain ⟨h1,h2,h3,h4⟩:=hst.marks D hD;have hlt:D<w.heap.size:=(Array.getElem?_eq_some_iff.1 h1).1;refine ⟨(hchg.block D hlt (fun hT=>h2 (by simp [hT]))).trans h1,fun hm => ?_,by rw [hle.w0]; exact h3,fun hi => ?_⟩
  ·rcases ak.1 hm with hm | hm
   ·exact h2 (by simp [hm])
   ·rcases ak.1 hm with hm | hm
    ·rcases (hGo D hm).1 with h5 | h5
     ·exact h2 (by simp [h5])
     ·omega
    ·exact h2 (by simp [hm])
  ·rcases hi with hi | hi
   ·rcases hnew D hi with h5 | h5 | h5
    ·exact h4 (.inl h5)
    ·exact h2 (by simp [h5])
    ·omega
   ·rw [hle.Im] at hi; exact h4 (.inr hi)
 ·have h1:=ag.1 hnd;have h2:=ag.1 h1.2.1;refine ag.2 ⟨h1.1,ag.2 ⟨hGn,h2.2.1,?_⟩,?_⟩
  ·intro b hb c hc e;subst e;rcases (hGo b hb).1 with h3 | h3
   ·exact h2.2.2 b h3 b hc rfl
   ·have:=(hownlt b (.inr (.inr hc))).1; omega
  ·intro b hb c hc e;subst e;rcases ak.1 hc with hc | hc
   ·rcases (hGo b hc).1 with h3 | h3
    ·exact h1.2.2 b hb b (by simp [h3]) rfl
    ·have:=(hownlt b (.inl hb)).1; omega
   ·exact h1.2.2 b hb b (by simp [hc]) rfl
 ·intro b hb;rw [hle.w0,hle.io]
  have hold:b∈oN∨b∈oF→b<w'.heap.size∧(g.w0.heap.size≤b∨b∈g.io)∧¬ g'.imm b:=by
   intro hb';have h1:=hownlt b (hb'.imp id .inr);refine ⟨am h1.1 hchg.size,h1.2.1,fun hi => ?_⟩;rcases hi with hi | hi
   ·rcases hnew b hi with h2 | h2 | h2
    ·exact h1.2.2 (.inl h2)
    ·exact hnF b hb' h2
    ·omega
   ·rw [hle.Im] at hi; exact h1.2.2 (.inr hi)
  rcases ak.1 hb with hb | hb
  ·exact hold (.inl hb)
  ·rcases ak.1 hb with hb | hb
   ·obtain ⟨h1,h2,h3⟩:=hGo b hb;refine ⟨h2,?_,h3⟩;rcases h1 with h1 | h1
    ·exact (hownlt b (.inr (.inl h1))).2.1
    ·exact .inl (bD hst.chg.size h1)
   ·exact hold (.inr hb)
 ·intro b hb;rcases hb with hb | hb
  ·exact himm b hb
  ·rw [hle.Im] at hb; exact am (hst.imm b (.inr hb)) hchg.size
 ·rw [hle.w0,hle.io];refine hst.chg.trans' hchg ?_;intro b hb;rcases (hownlt b (.inr (.inl hb))).2.1 with h1 | h1
  ·exact .inr h1
  ·exact .inl h1
def ck (V:bF→Value) (d:Nat) (x:Value):bF→Value:=fun l=>match l with | .slot t=>if t=d then x else V (.slot t) | .cell t i=>V (.cell t i)
theorem cC (V:bF→Value) (d:Nat) (x:Value):ck V d x (.slot d)=x:=by simp [ck]
theorem bY {V:bF→Value} {d:Nat} {x:Value} {l:bF} (h:fq [.slot d] l=false):ck V d x l=V l:=by
 have:=jV d l h
 cases l with
 | slot t=>simp only at this; simp [ck,this]
 | cell t i=>rfl
theorem cU {V:bF→Value} {a:Act} {d n:Nat} {x:Value} (hv:∀ t,V (.slot t)=a.tmps.getD t undef) (hs:a.tmps.size=n) (hd:d<n) (t:Nat) :
  ck V d x (.slot t)=(a.put (some d) x).tmps.getD t undef:=by
 rw [eM a d t x (by omega)];simp only [ck];split
 ·rfl
 ·exact hv t
theorem aZ {g:Gh} {V:bF→Value} {w:World}:∀ {cs:List AV} {xs:List Value} {o:List Nat},Rs g V w cs xs o→xs.length=cs.length
 | [],xs,o,h=>by simp only [Rs] at h; simp [h.1]
 | c::cs,xs,o,h=>by
  simp only [Rs] at h
  obtain ⟨x,xs',o1,o2,rfl,rfl,_,h2⟩:=h
  simp [aZ h2]
def eB (w:World) (y:Value) (i:Nat):Value:=match y with | .pointer (some ad)=>(w.cell? ⟨ad.block,i,none⟩).getD undef | _=>undef
def dM:AV→Bool
 | .box .. => false
 | .arr .. => false
 | _=>true
theorem bh.value {P:Program} {o:Oper} {N:List aJ} {d:Nat} {av:AV} (ho:o.dst=some d) (hcl:eh [.slot d] av=true) (hb:dM av=true)
  (h:∀ (g:Gh) (V:bF→Value) (oN:List Nat) (a:Act) (w:World),FT g V N [] oN [] a w→∃ x,(execOp a.eval o).run P w = .ok (.value x) w∧R g V w av x []) :
  bh P o N [] [(d,av)] [.slot d]:=by
 refine bh.core fun g V oN oT a w hd hpre => ?_;have hT:=hpre.esT;simp only [Es] at hT;subst hT;obtain ⟨x,hr,hR⟩:=h g V oN a w hpre;refine (Yl.val hr).mono ?_;rintro y w' ⟨rfl,rfl⟩;have hlt:d<g.n:=hd d ho;refine ⟨g,ck V d y,[],g.le_refl,fun b hb => .inl hb,fun b hb=>hpre.imm b (.inl hb),dq.refl _ _,fun l hl=>bY hl,?_,?_,List.nodup_nil,by simp⟩
 ·intro t; rw [ho]; exact cU hpre.val hpre.size hlt t
 ·refine ⟨[],[],rfl,⟨?_,?_⟩,rfl⟩
  ·show R g _ _ av (ck V d y (.slot d)) [];rw [cC];exact fy (W:=[.slot d]) (fun _ h=>h) (fun _ h=>h) (fun l hl=>bY hl) av y [] hcl (fun _ _=>rfl) hR
  ·cases av <;> first | trivial | (simp [dM] at hb)
theorem bh.fresh {P:Program} {o:Oper} {N:List aJ} {d:Nat} {av:AV} (ho:o.dst=some d) (hcl:eh [.slot d] av=true)
  (h:∀ (g:Gh) (V:bF→Value) (oN:List Nat) (a:Act) (w:World),FT g V N [] oN [] a w →
   Yl P o a w fun x w'=>dq [] w w'∧∃ (g':Gh) (oG:List Nat),g.le g'∧(∀ b,g'.Imm b→g.Imm b∨(w.heap.size≤b∧b<w'.heap.size))∧R g' V w' av x oG∧oG.Nodup ∧
    ∀ b∈oG,w.heap.size≤b∧b<w'.heap.size∧¬ g'.Imm b) :
  bh P o N [] [(d,av)] [.slot d]:=by
 refine bh.core fun g V oN oT a w hd hpre => ?_;have hT:=hpre.esT;simp only [Es] at hT;subst hT;refine (h g V oN a w hpre).mono ?_;rintro y w' ⟨hchg,g',oG,hle,hnew,hR,hnd,hfr⟩;have hlt:d<g.n:=hd d ho
 let V1:bF→Value:=fun l=>match l with
  | .slot t=>if t=d then y else V (.slot t)
  | .cell t i=>if t=d then eB w' y i else V (.cell t i)
 have hV1:∀ l,fq [.slot d] l=false→V1 l=V l:=by
  intro l hl;have:=jV d l hl
  cases l with
  | slot t=>simp only at this; simp [V1,this]
  | cell t i=>simp only at this; simp [V1,this]
 refine ⟨g',V1,oG,hle,fun b hb=>(hnew b hb).imp id fun h => .inr h.1,fun b hb => ?_,hchg,hV1,?_,?_,hnd,?_⟩
 ·rcases hnew b hb with h1 | h1
  ·exact am (hpre.imm b (.inl h1)) hchg.size
  ·exact h1.2
 ·intro t;rw [ho,eM a d t y (by rw [hpre.size]; exact hlt)];simp only [V1];split
  ·rfl
  ·exact hpre.val t
 ·refine ⟨oG,[],by simp,⟨?_,?_⟩,rfl⟩
  ·show R g' _ _ av (V1 (.slot d)) oG;rw [show V1 (.slot d)=y by simp [V1]];exact fy (W:=[.slot d]) (fun _ h=>h) (fun _ h=>h) hV1 av y oG hcl (fun _ _=>rfl) hR
  ·cases av <;> try trivial
   case box T cs =>
    intro b hb i hi;have hy:V1 (.slot d)=y:=by simp [V1]
    dsimp only at hb ⊢;rw [hy] at hb;simp only [R] at hR;obtain ⟨b',xs,os,hx,_,hh,hrs⟩:=hR;rw [hb] at hx; cases hx;have hl:xs.length=cs.length:=aZ hrs;rw [cell_of_row w' b i _ T (0,0) hh];simp only [V1,if_true,hb,eB];rw [cell_of_row w' b i _ T (0,0) hh];have:i<xs.length:=by omega
    simp [this]
 ·intro b hb;obtain ⟨h1,h2,h3⟩:=hfr b hb;refine ⟨.inr h1,h2,?_⟩;rintro (hi | hi)
  ·exact h3 hi
  ·rw [hle.Im] at hi; have:=hpre.imm b (.inr hi); omega
def look (N:List aJ) (t:Nat):AV:=match N with
 | [] => .any
 | (s,av)::r=>if Nat.beq s t then av else look r t
def pf (N:List aJ):bF→AV
 | .slot t=>look N t
 | .cell t i=>match look N t with | .box _ cs=>cs.getD i .any | _ => .any
def DB (N:List aJ):Operand→AV
 | .const v => .v v
 | .tmp t=>look N t
 | .func f => .v (.func (.func f) #[] #[])
 | .global g => .v (.pointer (some ⟨g,0,none⟩))
def GG (N:List aJ):AV→AV
 | .same l=>pf N l
 | av=>av
def rd (N:List aJ) (x:Operand):AV:=GG N (DB N x)
theorem Aw {N:List aJ} {t:Nat}:look N t = .any∨(t,look N t)∈N:=by
 induction N with
 | nil=>exact .inl rfl
 | cons e r ih =>
  obtain ⟨s,av⟩:=e;simp only [look];split
  ·rename_i h; have:=Nat.eq_of_beq_eq_true h; subst this; exact .inr (by simp)
  ·exact ih.imp id fun h=>by simp [h]
section
variable {g:Gh} {V:bF→Value} {w:World} {N:List aJ} {o:List Nat} {a:Act}
theorem cE (h:Es g V w N o) (t:Nat):∃ o',(∀ b∈o',b∈o)∧ER g V w (t,look N t) o':=by
 rcases Aw (N:=N) (t:=t) with h1 | h1
 ·rw [h1]; exact ⟨[],by simp,by simp [R],trivial⟩
 ·exact zg h h1
theorem CL (hv:∀ t,V (.slot t)=a.tmps.getD t undef) (h:Es g V w N o) (x:Operand):∃ o',(∀ b∈o',b∈o)∧R g V w (DB N x) (a.eval x) o':=by
 cases x with
 | const v=>exact ⟨[],by simp,by simp [DB,R,Act.eval]⟩
 | func f=>exact ⟨[],by simp,by simp [DB,R,Act.eval]⟩
 | global f=>exact ⟨[],by simp,by simp [DB,R,Act.eval]⟩
 | tmp t =>
  obtain ⟨o',hs,hr,_⟩:=cE h t;exact ⟨o',hs,by simp only [Act.eval,← hv]; exact hr⟩
theorem tQ:∀ {cs:List AV} {xs:List Value} {o:List Nat} (i:Nat),Rs g V w cs xs o→i<cs.length→∃ o',(∀ b∈o',b∈o)∧R g V w (cs.getD i .any) (xs.getD i undef) o'
 | [],_,_,i,_,hi=>by simp at hi
 | c::cs,xs,o,i,h,hi=>by
  simp only [Rs] at h
  obtain ⟨x,xs',o1,o2,rfl,rfl,h1,h2⟩:=h
  cases i with
  | zero=>exact ⟨o1,fun b hb=>by simp [hb],by simpa using h1⟩
  | succ i =>
   obtain ⟨o',hs,hr⟩:=tQ i h2 (by simpa using hi)
   exact ⟨o',fun b hb=>by simp [hs b hb],by simpa using hr⟩
theorem lm (h:Es g V w N o) (l:bF):∃ o',(∀ b∈o',b∈o)∧R g V w (pf N l) (V l) o':=by
 cases l with
 | slot t=>obtain ⟨o',hs,hr,_⟩:=cE h t; exact ⟨o',hs,hr⟩
 | cell t i =>
  obtain ⟨o',hs,hr,ht⟩:=cE h t;simp only [pf];dsimp only at hr ht
  cases hl:look N t with
  | box T cs =>
   rw [hl] at hr ht;simp only [R] at hr;obtain ⟨b,xs,os,hx,rfl,hh,hrs⟩:=hr;by_cases hi:i<cs.length
   ·obtain ⟨o2,hs2,h2⟩:=tQ i hrs hi;have hc:=ht b hx i hi;rw [cell_of_row w b i _ T (0,0) hh] at hc;have hlen:=aZ hrs;have:i<xs.length:=by omega
    simp only [List.getElem?_toArray,List.getElem?_eq_getElem this,Option.some.injEq] at hc;refine ⟨o2,fun b' hb'=>hs b' (by simp [hs2 b' hb']),?_⟩;have e:V (.cell t i)=xs.getD i undef:=by rw [← hc]; simp [this]
    show R g V w (cs.getD i .any) (V (.cell t i)) o2;rw [e]; exact h2
   ·refine ⟨[],by simp,?_⟩;show R g V w (cs.getD i .any) (V (.cell t i)) [];have:cs.getD i .any = .any:=by simp [List.getD_eq_getElem?_getD,List.getElem?_eq_none (Nat.le_of_not_lt hi)]
    rw [this]; simp [R]
  | _=>exact ⟨[],by simp,by simp [R]⟩
theorem kt (hv:∀ t,V (.slot t)=a.tmps.getD t undef) (h:Es g V w N o) (x:Operand):∃ o',(∀ b∈o',b∈o)∧R g V w (rd N x) (a.eval x) o':=by
 obtain ⟨o',hs,hr⟩:=CL hv h x;unfold rd
 cases hx:DB N x with
 | same l =>
  rw [hx] at hr;simp only [R] at hr;simp only [GG];rw [hr.1]; exact lm h l
 | _=>rw [hx] at hr; exact ⟨o',hs,hr⟩
theorem bP {y:Value} (hv:∀ t,V (.slot t)=a.tmps.getD t undef) (h:Es g V w N o) {x:Operand} (hx:rd N x = .v y):a.eval x=y:=by obtain ⟨o',_,hr⟩:=kt hv h x;rw [hx] at hr;simp only [R] at hr;exact hr.1
end
def cn:AV→AV
 | .v x => .v x
 | .fl (.own _) _ _ => .any
 | .fl m z xs => .fl m z xs
 | .fr (.own _) _ _ _ => .any
 | .fr m s z xs => .fr m s z xs
 | .same l => .same l
 | .ptr t i => .ptr t i
 | .asl t i => .asl t i
 | .eref l k => .eref l k
 | .cut l k => .cut l k
 | .clo f ts => .clo f ts
 | _ => .any
def jZ (t:Nat):AV→AV
 | .v x => .v x
 | .fl (.own _) _ _ => .same (.slot t)
 | .fl m z xs => .fl m z xs
 | .fr (.own _) _ _ _ => .same (.slot t)
 | .fr m s z xs => .fr m s z xs
 | .agg cs => .agg (cs.map cn)
 | .box _ _ => .ptr t 0
 | .arr _ _ => .ptr t 0
 | .asl t i => .asl t i
 | .same l => .same l
 | .ptr t i => .ptr t i
 | .eref l k => .eref l k
 | .cut l k => .cut l k
 | .clo f ts => .clo f ts
 | .mkr _ _ => .same (.slot t)
 | _ => .any
def bm (N:List aJ):Operand→AV
 | .tmp t=>jZ t (look N t)
 | x=>DB N x
section
variable {g:Gh} {V:bF→Value} {w:World}
theorem eP {av:AV} {x:Value} {o:List Nat} (h:R g V w av x o):R g V w (cn av) x []:=by
 cases av with
 | v y=>simp only [R,cn] at *; exact ⟨h.1,trivial⟩
 | fl m z xs =>
  cases m with
  | own T=>simp [cn,R]
  | ro=>simp only [R,cn,bW] at *; obtain ⟨a,n,c,h1,h2,h3,h4,h5,h6⟩:=h; exact ⟨a,n,c,h1,h2,h3,h4,trivial,h6⟩
  | shr=>simp only [R,cn,bW] at *; obtain ⟨a,n,c,h1,h2,h3,h4,h5,h6⟩:=h; exact ⟨a,n,c,h1,h2,h3,h4,trivial,h6⟩
 | same l=>simp only [R,cn] at *; exact ⟨h.1,trivial⟩
 | ptr t i=>simp only [R,cn] at *; obtain ⟨b,h1,h2,_⟩:=h; exact ⟨b,h1,h2,trivial⟩
 | eref l k=>simp only [R,cn] at *; obtain ⟨a,n,c,h1,h2,_⟩:=h; exact ⟨a,n,c,h1,h2,trivial⟩
 | cut l k=>simp only [R,cn] at *; obtain ⟨a,n,c,h1,h2,h3,h4,_⟩:=h; exact ⟨a,n,c,h1,h2,h3,h4,trivial⟩
 | any=>simp [R,cn]
 | agg cs=>simp [R,cn]
 | tup cs=>simp [R,cn]
 | box T cs=>simp [R,cn]
 | arr T vs=>simp [R,cn]
 | glob gl=>simp [R,cn]
 | obox p T cs=>simp [R,cn]
 | clo f ts=>simp only [R,cn] at *; exact ⟨h.1,trivial⟩
 | cloB f cs=>simp [R,cn]
 | inv J=>simp [R,cn]
 | mkr E xs=>simp [R,cn]
 | hid J=>simp [R,cn]
 | asl t i=>simp only [R,cn] at *; obtain ⟨b,h1,h2,_⟩:=h; exact ⟨b,h1,h2,trivial⟩
 | fr m s z xs =>
  cases m with
  | own T=>simp [cn,R]
  | ro=>simp only [R,cn,bW] at *; obtain ⟨vs,a,n,c,h1,h2,h3,h4,⟨h5,h6⟩,h7⟩:=h; exact ⟨vs,a,n,c,h1,h2,h3,h4,⟨trivial,h6⟩,h7⟩
  | shr=>simp only [R,cn,bW] at *; obtain ⟨vs,a,n,c,h1,h2,h3,h4,⟨h5,h6⟩,h7⟩:=h; exact ⟨vs,a,n,c,h1,h2,h3,h4,⟨trivial,h6⟩,h7⟩
theorem rK:∀ {cs:List AV} {xs:List Value} {o:List Nat},Rs g V w cs xs o→Rs g V w (cs.map cn) xs []
 | [],xs,o,h=>by simp only [Rs,List.map_nil] at *; exact ⟨h.1,trivial⟩
 | c::cs,xs,o,h=>by
  simp only [Rs,List.map_cons] at *
  obtain ⟨x,xs',o1,o2,rfl,rfl,h1,h2⟩:=h
  exact ⟨x,xs',[],[],rfl,rfl,eP h1,rK h2⟩
theorem HY {av:AV} {t:Nat} {o:List Nat} (h:R g V w av (V (.slot t)) o):R g V w (jZ t av) (V (.slot t)) []:=by
 cases av with
 | v y=>simp only [R,jZ] at *; exact ⟨h.1,trivial⟩
 | fl m z xs =>
  cases m with
  | own T=>simp [jZ,R]
  | ro=>simp only [R,jZ,bW] at *; obtain ⟨a,n,c,h1,h2,h3,h4,h5,h6⟩:=h; exact ⟨a,n,c,h1,h2,h3,h4,trivial,h6⟩
  | shr=>simp only [R,jZ,bW] at *; obtain ⟨a,n,c,h1,h2,h3,h4,h5,h6⟩:=h; exact ⟨a,n,c,h1,h2,h3,h4,trivial,h6⟩
 | same l=>simp only [R,jZ] at *; exact ⟨h.1,trivial⟩
 | ptr t i=>simp only [R,jZ] at *; obtain ⟨b,h1,h2,_⟩:=h; exact ⟨b,h1,h2,trivial⟩
 | eref l k=>simp only [R,jZ] at *; obtain ⟨a,n,c,h1,h2,_⟩:=h; exact ⟨a,n,c,h1,h2,trivial⟩
 | cut l k=>simp only [R,jZ] at *; obtain ⟨a,n,c,h1,h2,h3,h4,_⟩:=h; exact ⟨a,n,c,h1,h2,h3,h4,trivial⟩
 | any=>simp [R,jZ]
 | agg cs=>simp only [R,jZ] at *; obtain ⟨xs,h1,h2⟩:=h; exact ⟨xs,h1,rK h2⟩
 | tup cs=>simp [R,jZ]
 | box T cs=>simp only [R,jZ] at *; obtain ⟨b,xs,os,h1,_⟩:=h; exact ⟨b,h1,h1,trivial⟩
 | arr T vs=>simp only [R,jZ] at *; obtain ⟨b,h1,_⟩:=h; exact ⟨b,h1,h1,trivial⟩
 | glob gl=>simp [R,jZ]
 | obox p T cs=>simp [R,jZ]
 | clo f ts=>simp only [R,jZ] at *; exact ⟨h.1,trivial⟩
 | cloB f cs=>simp [R,jZ]
 | inv J=>simp [R,jZ]
 | mkr E xs=>simp [R,jZ]
 | hid J=>simp [R,jZ]
 | asl t i=>simp only [R,jZ] at *; obtain ⟨b,h1,h2,_⟩:=h; exact ⟨b,h1,h2,trivial⟩
 | fr m s z xs =>
  cases m with
  | own T=>simp [jZ,R]
  | ro=>simp only [R,jZ,bW] at *; obtain ⟨vs,a,n,c,h1,h2,h3,h4,⟨h5,h6⟩,h7⟩:=h; exact ⟨vs,a,n,c,h1,h2,h3,h4,⟨trivial,h6⟩,h7⟩
  | shr=>simp only [R,jZ,bW] at *; obtain ⟨vs,a,n,c,h1,h2,h3,h4,⟨h5,h6⟩,h7⟩:=h; exact ⟨vs,a,n,c,h1,h2,h3,h4,⟨trivial,h6⟩,h7⟩
theorem bE {N:List aJ} {o:List Nat} {a:Act} (hv:∀ t,V (.slot t)=a.tmps.getD t undef) (h:Es g V w N o) (x:Operand):R g V w (bm N x) (a.eval x) []:=by
 cases x with
 | const v=>simp [bm,DB,R,Act.eval]
 | func f=>simp [bm,DB,R,Act.eval]
 | global f=>simp [bm,DB,R,Act.eval]
 | tmp t =>
  obtain ⟨o',hs,hr,_⟩:=cE h t;simp only [bm,Act.eval,← hv];exact HY hr
end
section
variable {P:Program} {ty:TypeId} {pos:String} {aft:Array Edge} {gd:Option (Nat×Bool)}
theorem yb (N:List aJ) (x:Operand):dM (bm N x)=true:=by
 cases x with
 | tmp t =>
  simp only [bm]
  cases look N t <;> try rfl
  case fl m z xs=>cases m <;> rfl
  case fr m s z xs=>cases m <;> rfl
 | _=>rfl
theorem CH (N:List aJ) (d:Nat) (x:Operand) (av:AV) (h:bm N x=av) (hcl:eh [.slot d] av=true) :
  bh P ⟨some d,.move x,ty,pos,aft,gd⟩ N [] [(d,av)] [.slot d]:=by subst h;exact bh.value rfl hcl (yb N x) fun g V oN a w hp=>⟨a.eval x,by simp [execOp,pure],bE hp.val hp.esN x⟩
theorem nk (N:List aJ) (d:Nat) (x:Operand) (av:AV) (h:bm N x=av) (hcl:eh [.slot d] av=true) :
  bh P ⟨some d,.assign x,ty,pos,aft,gd⟩ N [] [(d,av)] [.slot d]:=by subst h;exact bh.value rfl hcl (yb N x) fun g V oN a w hp=>⟨a.eval x,by simp [execOp,pure],bE hp.val hp.esN x⟩
theorem bh.drop {o:Oper} {N T G:List aJ} {W:List bF} (D:List aJ) (h:bh P o N T G W):bh P o N (D++T) G W:=by intro g F a w K Q hd hs hc hk;refine h g F a w K Q hd ?_ hc hk;obtain ⟨V,ow,hst,hes⟩:=hs;have:eX g (N++((D++T)++F)) a w:=⟨V,ow,hst,hes⟩;refine this.sub ⟨D,?_⟩;rw [← List.append_assoc,← List.append_assoc,← List.append_assoc];exact (List.perm_append_comm.append_right T).append_right F |>.trans (by simp)
end
end Go.Abs
end
section
namespace Go.Abs
def pn (op:BinOp) (x y:Value):Option Value :=
 match x,y with
 | .int k a,.int k' b =>
  match op with
  | .shl=>if 0≤b then some (.int k (k.wrap (a * 2 ^ min b.toNat k.bits))) else none
  | .shr=>if 0≤b then some (.int k (a.fdiv (2 ^ min b.toNat k.bits))) else none
  | op=>if k=k' then
   match op with
   | .add=>some (.int k (k.wrap (a+b)))
   | .sub=>some (.int k (k.wrap (a-b)))
   | .mul=>some (.int k (k.wrap (a * b)))
   | .quo=>if b=0 then none else some (.int k (k.wrap (a.tdiv b)))
   | .rem=>if b=0 then none else some (.int k (a.tmod b))
   | .and=>some (.int k (bits .and k a b))
   | .or=>some (.int k (bits .or k a b))
   | .xor=>some (.int k (bits .xor k a b))
   | .andNot=>some (.int k (bits .andNot k a b))
   | .eql=>some (.bool (a==b))
   | .neq=>some (.bool (a != b))
   | .lss=>some (.bool (decide (a<b)))
   | .leq=>some (.bool (decide (a≤b)))
   | .gtr=>some (.bool (decide (b<a)))
   | .geq=>some (.bool (decide (b≤a)))
   | _=>none
   else none
 | .string s,.string t =>
  match op with
  | .add=>if s.size+t.size≤9223372036854775807 then some (.string (s++t)) else none
  | .eql=>some (.bool (s.toList==t.toList))
  | .neq=>some (.bool !(s.toList==t.toList))
  | _=>none
 | _,_=>none
section
variable {P:Program} {ty:TypeId} {pos:String} {aft:Array Edge} {gd:Option (Nat×Bool)} {w:World}
theorem Gk {op:BinOp} {t:TypeId} {x y:Operand} {a b r:Value} (h:pn op a b=some r):(do eqGuard op t x y a b; binOp op t a b).run P w = .ok r w:=by
 unfold pn at h;split at h
 ·rename_i k m k' m'
  have hg:eqGuard op t x y (.int k m) (.int k' m')=pure ():=by unfold eqGuard; cases op <;> simp
  rw [hg];split at h
  ·split at h
   ·rename_i hb
    cases h
    simp [binOp,Op.shift,Int.not_lt.2 hb]
   ·cases h
  ·split at h
   ·rename_i hb
    cases h
    simp [binOp,Op.shift,Int.not_lt.2 hb]
   ·cases h
  ·split at h
   ·rename_i hk;subst hk;split at h <;> try (cases h; done)
    all_goals first
     | (cases h; simp [binOp,Op.intArith,Op.intCmp]; done)
     | (cases h; simp [binOp,intBits_and,intBits_or,intBits_xor,intBits_andNot]; done)
     | (
      split at h
      ·cases h
      ·rename_i hb; cases h; simp [binOp,Op.intDiv,hb])
   ·cases h
 ·rename_i s u
  have hg:eqGuard op t x y (.string s) (.string u)=pure ():=by unfold eqGuard; cases op <;> simp
  rw [hg];split at h <;> try (cases h; done)
  ·split at h
   ·rename_i hb
    cases h
    have:¬ ((s.size+u.size:Nat):Int) > IntKind.i64.max:=by
     have:IntKind.i64.max=9223372036854775807:=by decide
     omega
    simp [binOp,Op.stringOp];simp at this;omega
   ·cases h
  ·cases h; simp [binOp,Op.stringOp]
  ·cases h; simp [binOp,Op.stringOp]
 ·cases h
theorem bh.v {o:Oper} {N:List aJ} {d:Nat} {r:Value} (ho:o.dst=some d)
  (h:∀ (g:Gh) (V:bF→Value) (oN:List Nat) (a:Act) (w:World),FT g V N [] oN [] a w→(execOp a.eval o).run P w = .ok (.value r) w):bh P o N [] [(d,.v r)] [.slot d] :=
 bh.value ho rfl rfl fun g V oN a w hp=>⟨r,h g V oN a w hp,by simp [R]⟩
theorem vA (N:List aJ) (d:Nat) {op:BinOp} {t t':TypeId} {x y:Operand} (a b r:Value) (hx:rd N x = .v a) (hy:rd N y = .v b) (h:pn op a b=some r) :
  bh P ⟨some d,.binOp op t x y t',ty,pos,aft,gd⟩ N [] [(d,.v r)] [.slot d]:=by refine bh.v rfl fun g V oN ac w hp => ?_;have h1:=bP hp.val hp.esN hx;have h2:=bP hp.val hp.esN hy;simp only [execOp,h1,h2,Sem.run_bind];have:=Gk (P:=P) (w:=w) (t:=t) (x:=x) (y:=y) h;simp only [Sem.run_bind] at this;rw [this];simp
def Kn (op:UnOp) (x:Value):Option Value :=
 match op,x with
 | .not,.bool b=>some (.bool !b)
 | .neg,.int k n=>some (.int k (k.wrap (0-n)))
 | .xor,.int k n=>some (.int k (bits .xor k (if k.signed then-1 else k.max) n))
 | _,_=>none
theorem Jz (N:List aJ) (d:Nat) {op:UnOp} {t:TypeId} {x:Operand} (a r:Value) (hx:rd N x = .v a) (h:Kn op a=some r) :
  bh P ⟨some d,.unOp op t x,ty,pos,aft,gd⟩ N [] [(d,.v r)] [.slot d]:=by
 refine bh.v rfl fun g V oN ac w hp => ?_;have h1:=bP hp.val hp.esN hx;unfold Kn at h;split at h <;> cases h
 ·simp [execOp,h1,Op.unary]
 ·simp [execOp,h1,Op.unary,Op.intArith]
 ·simp [execOp,h1,Op.unary,intBits_xor]
theorem Gi (N:List aJ) (d:Nat) {s t:TypeId} {x:Operand} {e:TypeDesc} {k k':IntKind} (n:Int) (hs:P.underlying s=some e) (ht:P.underlying t=some (.int k)) (hx:rd N x = .v (.int k' n)) :
  bh P ⟨some d,.convert s t x,ty,pos,aft,gd⟩ N [] [(d,.v (.int k (k.wrap n)))] [.slot d]:=by refine bh.v rfl fun g V oN ac w hp => ?_;have h1:=bP hp.val hp.esN hx;simp [execOp,h1,convert,run_underlying hs,run_underlying ht,Conv.intToInt]
theorem Co (N:List aJ) (d:Nat) {c x y:Operand} (b:Bool) (r:Value) (hc:rd N c = .v (.bool b)) (h:rd N (if b then x else y) = .v r) :
  bh P ⟨some d,.pick c x y,ty,pos,aft,gd⟩ N [] [(d,.v r)] [.slot d]:=by
 refine bh.v rfl fun g V oN ac w hp => ?_;have h1:=bP hp.val hp.esN hc;have h2:=bP hp.val hp.esN h;simp only [execOp,h1,asBool]
 cases b <;> simp_all
theorem DA (N:List aJ) (d:Nat) {t t' e:TypeId} {x:Operand} {m:Md} {z:Nat} {xs:List Value} (n:Nat) (hT:P.underlying t=some (.slice e)) (hx:rd N x = .fl m z xs) (hz:0<z) (hn:xs.length=n * z) :
  bh P ⟨some d,.call ⟨.builtin .len,#[x],#[t]⟩,t',pos,aft,gd⟩ N [] [(d,.v (.int .i64 (n:Int)))] [.slot d]:=by refine bh.v rfl fun g V oN ac w hp => ?_;obtain ⟨o',_,hr⟩:=kt hp.val hp.esN x;rw [hx] at hr;simp only [R] at hr;obtain ⟨a,n',c,⟨he,_⟩,hl,_⟩:=hr;have:n'=n:=aO hz (by omega);subst this;simp [execOp,resolve,invoke,builtin,Builtin.len_,he,run_underlying hT,goInt]
theorem wj (N:List aJ) (d:Nat) {t t':TypeId} {x:Operand} (s:ME) (hT:P.underlying t=some .string) (hx:rd N x = .v (.string s)) :
  bh P ⟨some d,.call ⟨.builtin .len,#[x],#[t]⟩,t',pos,aft,gd⟩ N [] [(d,.v (.int .i64 (s.size:Int)))] [.slot d]:=by refine bh.v rfl fun g V oN ac w hp => ?_;have h1:=bP hp.val hp.esN hx;simp [execOp,resolve,invoke,builtin,Builtin.len_,h1,run_underlying hT,goInt]
theorem vH (N:List aJ) (d:Nat) {ts:Array TypeId} {t':TypeId} {x y:Operand} {k:IntKind} (a b:Int) (hx:rd N x = .v (.int k a)) (hy:rd N y = .v (.int k b)) :
  bh P ⟨some d,.call ⟨.builtin .min,#[x,y],ts⟩,t',pos,aft,gd⟩ N [] [(d,.v (.int k (if b<a then b else a)))] [.slot d]:=by refine bh.v rfl fun g V oN ac w hp => ?_;have h1:=bP hp.val hp.esN hx;have h2:=bP hp.val hp.esN hy;simp [execOp,resolve,invoke,builtin,Builtin.min_,h1,h2,Builtin.min2]
theorem zw (N:List aJ) (d:Nat) {t:TypeId} {x y:Operand} {k:IntKind} (s:ME) (i:Nat) (b:UInt8) (hT:P.underlying t=some .string) (hx:rd N x = .v (.string s)) (hy:rd N y = .v (.int k (i:Int)))
  (hb:s.data.toList[i]? = some b):bh P ⟨some d,.index t x y,ty,pos,aft,gd⟩ N [] [(d,.v (.int .u8 (b.toNat:Int)))] [.slot d]:=by
 refine bh.v rfl fun g V oN ac w hp => ?_;have h1:=bP hp.val hp.esN hx;have h2:=bP hp.val hp.esN hy
 have hlt:i<s.size:=by have:=(List.getElem?_eq_some_iff.1 hb).1;simpa using this
 have hs:s[i]? = some b:=by have:=(List.getElem?_eq_some_iff.1 hb).2;rw [getElem?_pos s i hlt];exact congrArg some (by simpa using this:s.data[i]=b)
 simp [execOp,Instr.index,h1,h2,asIntOf,run_underlying hT,hs]
theorem yj (N:List aJ) (d:Nat) {t:TypeId} {x:Operand} {lo hi:Option Operand} (s:ME) (l h:Nat) (hT:P.underlying t=some .string) (hx:rd N x = .v (.string s))
  (hl:match lo with | some y=>∃ k,rd N y = .v (.int k (l:Int)) | none=>l=0) (hh:match hi with | some y=>∃ k,rd N y = .v (.int k (h:Int)) | none=>h=s.size) (h1:l≤h) (h2:h≤s.size) :
  bh P ⟨some d,.slice t x lo hi none,ty,pos,aft,gd⟩ N [] [(d,.v (.string (s.extract l h)))] [.slot d]:=by
 refine bh.v rfl fun g V oN ac w hp => ?_;have e1:=bP hp.val hp.esN hx
 have e2:∀ y,lo=some y→∃ k,ac.eval y = .int k (l:Int):=by intro y hy; subst hy; obtain ⟨k,hk⟩:=hl; exact ⟨k,bP hp.val hp.esN hk⟩
 have e3:∀ y,hi=some y→∃ k,ac.eval y = .int k (h:Int):=by intro y hy; subst hy; obtain ⟨k,hk⟩:=hh; exact ⟨k,bP hp.val hp.esN hk⟩
 cases lo with
 | none =>
  simp only at hl; subst hl
  cases hi with
  | none =>
   simp only at hh; subst hh;simp [execOp,Instr.sliceAt,Instr.slice,run_underlying hT,e1,Instr.sliceBounds]
  | some y =>
   obtain ⟨k,hk⟩:=e3 y rfl;simp [execOp,Instr.sliceAt,Instr.slice,run_underlying hT,e1,Instr.sliceBounds,Instr.sliceBound,asIntOf,hk,h2]
 | some y =>
  obtain ⟨k,hk⟩:=e2 y rfl
  cases hi with
  | none =>
   simp only at hh; subst hh;simp [execOp,Instr.sliceAt,Instr.slice,run_underlying hT,e1,Instr.sliceBounds,Instr.sliceBound,asIntOf,hk,h1]
  | some y' =>
   obtain ⟨k',hk'⟩:=e3 y' rfl;simp [execOp,Instr.sliceAt,Instr.slice,run_underlying hT,e1,Instr.sliceBounds,Instr.sliceBound,asIntOf,hk,hk',h1,h2]
theorem vC (N:List aJ) (t d:Nat) {i:Nat} (cs:List AV) (av:AV) (hlk:look N t = .tup cs) (hi:cn (cs.getD i .any)=av) (hlt:i<cs.length) (hcl:eh [.slot d] av=true) (hb:dM av=true) :
  bh P ⟨some d,.extract (.tmp t) i,ty,pos,aft,gd⟩ N [] [(d,av)] [.slot d]:=by
 refine bh.value rfl hcl hb fun g V oN ac w hp => ?_;obtain ⟨o',_,hr,_⟩:=cE hp.esN t;dsimp only at hr;rw [hlk] at hr;simp only [R] at hr;obtain ⟨xs,hx,hrs⟩:=hr;have hl:=aZ hrs;obtain ⟨o2,_,h2⟩:=tQ i hrs hlt;have hix:i<xs.length:=by omega
 refine ⟨xs.getD i undef,?_,by rw [← hi]; exact eP h2⟩;have:ac.eval (.tmp t) = .tuple xs.toArray:=by simp only [Act.eval,← hp.val]; exact hx
 simp [execOp,this,Instr.extract,hix]
end
end Go.Abs
end
section
namespace Go.Abs
theorem cw (b o i:Nat):(⟨b,o,none⟩:Addr).add i=⟨b,o+i,none⟩:=by unfold Addr.add;by_cases hi:i=0 <;> simp [hi]
theorem qK (a:Addr) (i j:Nat):(a.add i).add j=a.add (i+j):=by unfold Addr.add;by_cases hi:i=0 <;> by_cases hj:j=0 <;> simp [hi,hj,Nat.add_assoc]
theorem qJ (a:Addr) (n:Nat):(a.add n).block=a.block:=by unfold Addr.add; split <;> rfl
def dn:TypeDesc→Bool
 | .struct _=>true
 | .array _ _=>true
 | _=>false
section
variable {P:Program} {w:World}
theorem qQ {T:TypeId} {d:TypeDesc} (hu:P.underlying T=some d):(isAgg T).run P w = .ok (dn d) w:=by
 unfold isAgg;rw [Sem.run_bind,run_underlying hu w]
 cases d <;> simp [dn]
theorem bu {T:TypeId} {s:Nat} (h:(P.info? T).map (·.size)=some s):(sizeOf T).run P w = .ok s w:=by
 cases hq:P.info? T with
 | none=>simp [hq] at h
 | some i=>simp [hq] at h; simp [sizeOf,typeInfo,hq,h]
theorem jg {T:TypeId} {z:Value} (h:(P.info? T).bind (·.zero)=some z):(zeroValue T).run P w = .ok z w:=by
 cases hq:P.info? T with
 | none=>simp [hq] at h
 | some i=>simp [hq] at h; simp [zeroValue,typeInfo,hq,h]
theorem jr {T:TypeId} {d:TypeDesc} (hu:P.underlying T=some d) (hd:dn d=false) {a:Addr} {v:Value} (hc:w.cell? a=some v):(loadVar T a).run P w = .ok v w:=by simp [loadVar,Sem.run_bind,qQ hu,hd,load,Sem.run,hc]
theorem gj {T:TypeId} {d:TypeDesc} {s:Nat} (hu:P.underlying T=some d) (hd:dn d=true) (hs:(P.info? T).map (·.size)=some s) {a:Addr} {xs:List Value} (hl:xs.length=s)
  (hc:∀ j v,xs[j]? = some v→w.cell? (a.add j)=some v):(loadVar T a).run P w = .ok (.agg xs.toArray) w:=by subst hl;have:=run_loadCells_list (P:=P) w a xs hc;simp [loadVar,Sem.run_bind,qQ hu,hd,bu hs,this]
theorem gn {T:TypeId} {s:Nat} (hs:(P.info? T).map (·.size)=some s) {b off:Nat} {E:TypeId} {cur:List Value} {v:Value} (hb:w.heap[b]? = some (.cells cur.toArray E (0,0)))
  (hv:v.cells.size=s) (h1:∀ u∈v.cells.toList,u.oneCell'=true) (hfit:off+s≤cur.length) :
  (storeVar T ⟨b,off,none⟩ v).run P w = .ok () (w.setRow b (cur.take off++v.cells.toList++cur.drop (off+s)).toArray):=by subst hv;have:=run_storeCells_at P b off E v.cells.toList 0 cur.toArray w hb (by simpa using hfit) h1;simp only [Nat.add_zero,Array.length_toList] at this;simp [storeVar,Sem.run_bind,bu hs,this]
end
section
variable {P:Program} {ty:TypeId} {pos:String} {aft:Array Edge} {gd:Option (Nat×Bool)}
theorem ta {g:Gh} {V:bF→Value} {w:World}:∀ (xs:List Value),Rs g V w (xs.map .v) xs []
 | []=>by simp [Rs]
 | x::xs=>by simp only [List.map_cons,Rs]; exact ⟨x,xs,[],[],rfl,rfl,by simp [R],ta xs⟩
theorem aN (d:Nat) {T:TypeId} (z:Value) (hz:(P.info? T).bind (·.zero)=some z) :
  bh P ⟨some d,.alloc T,ty,pos,aft,gd⟩ [] [] [(d,.box T (z.cells.toList.map .v))] [.slot d]:=by
 refine bh.fresh rfl ?_ fun g V oN a w hp => ?_
 ·simp only [eh]; induction z.cells.toList with
  | nil=>rfl
  | cons x xs ih=>simp [cW,eh,ih]
 ·have hr:(execOp a.eval ⟨some d,.alloc T,ty,pos,aft,gd⟩).run P w = .ok (.value (.pointer (some ⟨w.heap.size,0,none⟩))) (w.alloc (.cells z.cells T)):=by simp [execOp,Instr.alloc,Sem.run_bind,jg hz,newVar,newRow,newObj];rfl
  refine (Yl.val hr).mono ?_;rintro x w' ⟨rfl,rfl⟩;refine ⟨dq.alloc _ _ _,g,[w.heap.size],g.le_refl,fun b hb => .inl hb,?_,by simp,?_⟩
  ·simp only [R];exact ⟨w.heap.size,z.cells.toList,[],rfl,rfl,by simpa using heap_alloc_new w (.cells z.cells T),ta _⟩
  ·intro b hb;simp at hb; subst hb;exact ⟨Nat.le_refl _,by simp,fun hi=>Nat.lt_irrefl _ (hp.imm _ (.inl hi))⟩
def cQ:AV→List AV
 | .agg cs=>cs
 | av=>[av]
def fh (NT:List aJ):AV→Bool
 | .v y=>y.oneCell'
 | .fl .. => true
 | .fr .. => true
 | .box .. => true
 | .ptr .. => true
 | .eref .. => true
 | .same l=>match pf NT l with | .fl .. => true | .fr .. => true | _=>false
 | .hid J=>J.one
 | .mkr .. => true
 | _=>false
def dB (NT:List aJ):AV→Bool
 | .agg cs=>cs.all (fh NT)
 | av=>fh NT av
section
variable {g:Gh} {V:bF→Value} {w:World} {NT:List aJ} {oNT:List Nat}
theorem Bj (hes:Es g V w NT oNT) {c:AV} {x:Value} {o:List Nat} (hc:fh NT c=true) (h:R g V w c x o):x.oneCell'=true:=by
 cases c with
 | v y=>simp only [R] at h; simp only [fh] at hc; rw [h.1]; exact hc
 | fl m z xs=>simp only [R] at h; obtain ⟨a,n,c,⟨rfl,_⟩,_⟩:=h; rfl
 | box T cs=>simp only [R] at h; obtain ⟨b,xs,os,rfl,_⟩:=h; rfl
 | ptr t i=>simp only [R] at h; obtain ⟨b,_,rfl,_⟩:=h; rfl
 | eref l k=>simp only [R] at h; obtain ⟨a,n,c,_,rfl,_⟩:=h; rfl
 | same l =>
  simp only [R] at h;simp only [fh] at hc;obtain ⟨o',_,hr⟩:=lm hes l;rw [h.1]
  cases hl:pf NT l <;> simp [hl] at hc <;> rw [hl] at hr <;> simp only [R] at hr
  ·obtain ⟨a,n,c,⟨he,_⟩,_⟩:=hr;rw [he]; rfl
  ·obtain ⟨vs,a,n,c,⟨he,_⟩,_⟩:=hr;rw [he]; rfl
 | any=>simp [fh] at hc
 | agg cs=>simp [fh] at hc
 | tup cs=>simp [fh] at hc
 | arr T vs=>simp [fh] at hc
 | glob gl=>simp [fh] at hc
 | obox p T cs=>simp [fh] at hc
 | clo f ts=>simp [fh] at hc
 | cloB f cs=>simp [fh] at hc
 | inv J=>simp [fh] at hc
 | mkr E xs =>
  simp only [R] at h;rcases h with ⟨rfl,_⟩ | ⟨b,k,n,cap,cur,fz,rfl,_⟩ <;> rfl
 | asl t i=>simp [fh] at hc
 | hid J=>simp only [R] at h; simp only [fh] at hc; exact J.cell hc _ _ _ _ _ h
 | cut l k=>simp [fh] at hc
 | fr m s z xs=>simp only [R] at h; obtain ⟨vs,a,n,c,⟨rfl,_⟩,_⟩:=h; rfl
theorem xQ (hes:Es g V w NT oNT):∀ {cs:List AV} {xs:List Value} {o:List Nat},(∀ c∈cs,fh NT c=true)→Rs g V w cs xs o→∀ u∈xs,u.oneCell'=true
 | [],xs,o,_,h,u,hu=>by simp only [Rs] at h; rw [h.1] at hu; cases hu
 | c::cs,xs,o,hc,h,u,hu=>by
  simp only [Rs] at h
  obtain ⟨x,xs',o1,o2,rfl,rfl,h1,h2⟩:=h
  rcases List.mem_cons.1 hu with rfl | hu
  ·exact Bj hes (hc c (by simp)) h1
  ·exact xQ hes (fun c' hc'=>hc c' (by simp [hc'])) h2 u hu
theorem lG (hes:Es g V w NT oNT) {av:AV} {x:Value} {o:List Nat} (hok:dB NT av=true) (h:R g V w av x o) :
  Rs g V w (cQ av) x.cells.toList o∧∀ u∈x.cells.toList,u.oneCell'=true:=by
 have single:∀ c:AV,fh NT c=true→R g V w c x o→Rs g V w [c] x.cells.toList o∧∀ u∈x.cells.toList,u.oneCell'=true:=by
  intro c hc hr;have h1:=Bj hes hc hr;have:x.cells = #[x]:=by cases x <;> first | rfl | simp [Value.oneCell'] at h1
  rw [this];refine ⟨?_,by simp [h1]⟩;simp only [Rs];exact ⟨x,[],o,[],rfl,by simp,hr,rfl,rfl⟩
 cases av with
 | agg cs =>
  simp only [R] at h;obtain ⟨xs,rfl,h⟩:=h;simp only [dB,List.all_eq_true] at hok;exact ⟨by simpa [cQ,Value.cells] using h,by simpa [Value.cells] using xQ hes hok h⟩
 | _=>exact single _ hok h
end
theorem Ht (N:List aJ) (d:Nat) {T:TypeId} (x:Operand) (av:AV) (h:bm N x=av) (hok:dB N av=true) (hcl:cW [.slot d] (cQ av)=true) :
  bh P ⟨some d,.box T x,ty,pos,aft,gd⟩ N [] [(d,.box T (cQ av))] [.slot d]:=by
 refine bh.fresh rfl (by simp only [eh]; exact hcl) fun g V oN a w hp => ?_
 have hr:(execOp a.eval ⟨some d,.box T x,ty,pos,aft,gd⟩).run P w = .ok (.value (.pointer (some ⟨w.heap.size,0,none⟩))) (w.alloc (.cells (a.eval x).cells T)):=by simp [execOp,Instr.box,newVar,newRow,newObj];rfl
 refine (Yl.val hr).mono ?_;rintro y w' ⟨rfl,rfl⟩;have hR:=bE hp.val hp.esN x;rw [h] at hR;obtain ⟨h1,_⟩:=lG hp.esN hok hR;refine ⟨dq.alloc _ _ _,g,[w.heap.size],g.le_refl,fun b hb => .inl hb,?_,by simp,?_⟩
 ·simp only [R];refine ⟨w.heap.size,(a.eval x).cells.toList,[],rfl,rfl,by simpa using heap_alloc_new w (.cells (a.eval x).cells T),?_⟩;refine cq (W:=[]) (fun _ h=>h) (fun _ h=>h) (fun _ _=>rfl) _ _ _ (dN _) ?_ h1;intro b hb;rcases hb with hb | hb
  ·cases hb
  ·exact heap_alloc_old w _ b (hp.imm b hb)
 ·intro b hb;simp at hb; subst hb;exact ⟨Nat.le_refl _,by simp,fun hi=>Nat.lt_irrefl _ (hp.imm _ (.inl hi))⟩
theorem tb (N:List aJ) (d:Nat) {s:TypeId} (x:Operand) (i:Nat) {fs:Array Field} {f:Field} (t off k2:Nat) {k:Nat} (hT:P.underlying s=some (.struct fs)) (hf:fs[i]? = some f) (hk:(P.info? f.type).map (·.size)=some (k+1))
  (hx:bm N x = .ptr t off) (hk2:off+f.offset=k2) (ht:t≠d):bh P ⟨some d,.fieldAddr s x i,ty,pos,aft,gd⟩ N [] [(d,.ptr t k2)] [.slot d]:=by subst hk2;refine bh.value rfl (by simp [eh,fq]; exact fun e=>ht e.symm) rfl fun g V oN a w hp => ?_;have hR:=bE hp.val hp.esN x;rw [hx] at hR;simp only [R] at hR;obtain ⟨b,h1,h2,_⟩:=hR;refine ⟨.pointer (some ⟨b,off+f.offset,none⟩),?_,by simp only [R]; exact ⟨b,h1,rfl,trivial⟩⟩;simp [execOp,Instr.fieldAt,Sem.run_bind,run_underlying hT,hf,h2,Instr.sureAddr,fieldPlace,bu hk,cw]
theorem wu (N:List aJ) (d:Nat) {s:TypeId} (x:Operand) (i:Nat) {fs:Array Field} {f:Field} (l:bF) (j k2:Nat) {k:Nat} (hT:P.underlying s=some (.struct fs)) (hf:fs[i]? = some f) (hk:(P.info? f.type).map (·.size)=some (k+1))
  (hx:bm N x = .eref l j) (hk2:j+f.offset=k2) (hl:fq [.slot d] l=false):bh P ⟨some d,.fieldAddr s x i,ty,pos,aft,gd⟩ N [] [(d,.eref l k2)] [.slot d]:=by subst hk2;refine bh.value rfl (by simp [eh,hl]) rfl fun g V oN a w hp => ?_;have hR:=bE hp.val hp.esN x;rw [hx] at hR;simp only [R] at hR;obtain ⟨ad,n,c,h1,h2,_⟩:=hR;refine ⟨.pointer (some (ad.add (j+f.offset))),?_,by simp only [R]; exact ⟨ad,n,c,h1,rfl,trivial⟩⟩;simp [execOp,Instr.fieldAt,Sem.run_bind,run_underlying hT,hf,h2,Instr.sureAddr,fieldPlace,bu hk,qK]
theorem cv (N:List aJ) (d:Nat) {T e:TypeId} (x y:Operand) {kd:IntKind} (n t off i z:Nat) (hT:P.underlying T=some (.array n e)) (hz:(P.info? e).map (·.size)=some z)
  (hx:bm N x = .ptr t off) (hy:rd N y = .v (.int kd (i:Int))) (hi:i<n) (ht:t≠d):bh P ⟨some d,.indexAddr T x y,ty,pos,aft,gd⟩ N [] [(d,.ptr t (off+i * z))] [.slot d]:=by refine bh.value rfl (by simp [eh,fq]; exact fun e=>ht e.symm) rfl fun g V oN a w hp => ?_;have hR:=bE hp.val hp.esN x;rw [hx] at hR;simp only [R] at hR;obtain ⟨b,h1,h2,_⟩:=hR;have h3:=bP hp.val hp.esN hy;refine ⟨.pointer (some ⟨b,off+i * z,none⟩),?_,by simp only [R]; exact ⟨b,h1,rfl,trivial⟩⟩;simp [execOp,Instr.indexAt,Sem.run_bind,run_underlying hT,h2,h3,asIntOf,Instr.sureAddr,bu hz,hi,cw]
def rH (N:List aJ):Operand→bF
 | .tmp t=>match look N t with | .same l=>l | _ => .slot t
 | _ => .slot 0
theorem zh (N:List aJ) (d:Nat) {T e:TypeId} (x:Nat) (y:Operand) {kd:IntKind} {m:Md} {xs:List Value} (i z:Nat) (l:bF) (hT:P.underlying T=some (.slice e)) (hz:(P.info? e).map (·.size)=some z)
  (hx:rd N (.tmp x) = .fl m z xs) (hl:rH N (.tmp x)=l) (hy:rd N y = .v (.int kd (i:Int))) (hi:i * z+z≤xs.length) (h0:0<z) (hd:fq [.slot d] l=false) :
  bh P ⟨some d,.indexAddr T (.tmp x) y,ty,pos,aft,gd⟩ N [] [(d,.eref l (i * z))] [.slot d]:=by
 refine bh.value rfl (by simp [eh,hd]) rfl fun g V oN a w hp => ?_;obtain ⟨o',_,hR⟩:=kt hp.val hp.esN (.tmp x);rw [hx] at hR;simp only [R] at hR;obtain ⟨ad,n,c,⟨he,_⟩,hlen,_,hrd,_⟩:=hR;have hne:xs≠[]:=fun e=>by subst e; simp at hi; omega
 obtain ⟨A,rfl,_⟩:=hrd hne
 have hin:i<n:=by
  rw [hlen] at hi;have:(i+1) * z≤n * z:=by rw [Nat.add_mul]; omega
  exact Nat.lt_of_succ_le (Nat.le_of_mul_le_mul_right this h0)
 have h3:=bP hp.val hp.esN hy
 have hV:V l = .slice (some A) n c:=by
  rw [← hl,← he];simp only [rH];obtain ⟨o2,_,h2⟩:=CL hp.val hp.esN (.tmp x);simp only [DB] at h2
  cases hlk:look N x with
  | same l'=>rw [hlk] at h2; simp only [R] at h2; exact h2.1.symm
  | _=>simp only [hp.val,Act.eval]
 refine ⟨.pointer (some (A.add (i * z))),?_,by simp only [R]; exact ⟨A,n,c,hV,rfl,trivial⟩⟩;simp [execOp,Instr.indexAt,Sem.run_bind,run_underlying hT,he,h3,asIntOf,bu hz,hin]
def mS (t off:Nat):AV→AV
 | .v x => .v x
 | .fl (.own _) _ _ => .same (.cell t off)
 | .fl m z xs => .fl m z xs
 | .fr (.own _) _ _ _ => .same (.cell t off)
 | .fr m s z xs => .fr m s z xs
 | .same l => .same l
 | .ptr t i => .ptr t i
 | .eref l k => .eref l k
 | .cut l k => .cut l k
 | .hid _ => .same (.cell t off)
 | .mkr _ _ => .same (.cell t off)
 | _ => .any
def uB (t off:Nat):List AV→List AV
 | []=>[]
 | c::cs=>mS t off c::uB t (off+1) cs
section
variable {g:Gh} {V:bF→Value} {w:World}
theorem EW {av:AV} {x:Value} {o:List Nat} {t off:Nat} (h:R g V w av x o) (hx:V (.cell t off)=x):R g V w (mS t off av) x []:=by
 cases av with
 | fl m z xs =>
  cases m with
  | own T=>simp [mS,R,hx]
  | ro=>exact eP (av := .fl .ro z xs) h
  | shr=>exact eP (av := .fl .shr z xs) h
 | v y=>exact eP (av := .v y) h
 | same l=>exact eP (av := .same l) h
 | ptr t i=>exact eP (av := .ptr t i) h
 | eref l k=>exact eP (av := .eref l k) h
 | cut l k=>exact eP (av := .cut l k) h
 | any=>simp [R,mS]
 | agg cs=>simp [R,mS]
 | tup cs=>simp [R,mS]
 | box T cs=>simp [R,mS]
 | arr T vs=>simp [R,mS]
 | glob gl=>simp [R,mS]
 | obox p T cs=>simp [R,mS]
 | clo f ts=>simp [R,mS]
 | cloB f cs=>simp [R,mS]
 | inv J=>simp [R,mS]
 | mkr E xs=>simp [R,mS,hx]
 | asl t i=>simp [R,mS]
 | hid J=>simp [R,mS,hx]
 | fr m s z xs =>
  cases m with
  | own T=>simp [mS,R,hx]
  | ro=>exact eP (av := .fr .ro s z xs) h
  | shr=>exact eP (av := .fr .shr s z xs) h
theorem Ct:∀ {cs:List AV} {xs:List Value} {o:List Nat} {t off:Nat},Rs g V w cs xs o→(∀ i x,xs[i]? = some x→V (.cell t (off+i))=x)→Rs g V w (uB t off cs) xs []
 | [],xs,o,t,off,h,_=>by simp only [Rs,uB] at *; exact ⟨h.1,trivial⟩
 | c::cs,xs,o,t,off,h,hv=>by
  simp only [Rs,uB] at *
  obtain ⟨x,xs',o1,o2,rfl,rfl,h1,h2⟩:=h
  refine ⟨x,xs',[],[],rfl,rfl,EW h1 (by simpa using hv 0 x rfl),Ct h2 fun i y hy => ?_⟩
  have:=hv (i+1) y (by simpa using hy)
  rwa [show off+1+i=off+(i+1) by omega]
theorem Cd:∀ {cs:List AV} {xs:List Value} {o:List Nat} (k n:Nat),Rs g V w cs xs o→∃ o',(∀ b∈o',b∈o)∧Rs g V w ((cs.drop k).take n) ((xs.drop k).take n) o'
 | [],xs,o,k,n,h=>by simp only [Rs] at h; obtain ⟨rfl,rfl⟩:=h; exact ⟨[],by simp,by simp [Rs]⟩
 | c::cs,xs,o,0,0,h=>⟨[],by simp,by simp [Rs]⟩
 | c::cs,xs,o,0,n+1,h=>by
  simp only [Rs] at h
  obtain ⟨x,xs',o1,o2,rfl,rfl,h1,h2⟩:=h
  obtain ⟨o',hs,h3⟩:=Cd 0 n h2
  refine ⟨o1++o',fun b hb => ?_,?_⟩
  ·simp at hb ⊢; exact hb.imp id (hs b)
  ·simp only [List.drop_zero,List.take_succ_cons,Rs] at h3 ⊢
   exact ⟨x,_,o1,o',rfl,rfl,h1,h3⟩
 | c::cs,xs,o,k+1,n,h=>by
  simp only [Rs] at h
  obtain ⟨x,xs',o1,o2,rfl,rfl,h1,h2⟩:=h
  obtain ⟨o',hs,h3⟩:=Cd k n h2
  exact ⟨o',fun b hb=>by simp [hs b hb],by simpa using h3⟩
theorem qj {N:List aJ} {oN:List Nat} (h:Es g V w N oN) {t:Nat} {T:TypeId} {cs:List AV} (hl:look N t = .box T cs) :
  ∃ (b:Nat) (xs:List Value) (os:List Nat),V (.slot t) = .pointer (some ⟨b,0,none⟩)∧w.heap[b]? = some (.cells xs.toArray T (0,0))∧Rs g V w cs xs os∧(∀ i x,xs[i]? = some x→V (.cell t i)=x)∧(∀ c∈b::os,c∈oN):=by obtain ⟨o',hs,hr,ht⟩:=cE h t;dsimp only at hr ht;rw [hl] at hr ht;simp only [R] at hr;obtain ⟨b,xs,os,hx,rfl,hh,hrs⟩:=hr;refine ⟨b,xs,os,hx,hh,hrs,fun i x hi => ?_,hs⟩;have hlen:=aZ hrs;have hlt:=(List.getElem?_eq_some_iff.1 hi).1;have hc:=ht b hx i (by omega);rw [cell_of_row w b i _ T (0,0) hh] at hc;simp only [List.getElem?_toArray,hi,Option.some.injEq] at hc;exact hc.symm
end
theorem za (N:List aJ) (d:Nat) {T:TypeId} {td:TypeDesc} (x:Operand) {T':TypeId} {cs:List AV} (t off:Nat) (av:AV) (hT:P.underlying T=some td) (ha:dn td=false)
  (hx:bm N x = .ptr t off) (hl:look N t = .box T' cs) (ho:off<cs.length) (hav:mS t off (cs.getD off .any)=av) (hcl:eh [.slot d] av=true) (hb:dM av=true) :
  bh P ⟨some d,.load T x,ty,pos,aft,gd⟩ N [] [(d,av)] [.slot d]:=by
 refine bh.value rfl hcl hb fun g V oN a w hp => ?_;have hR:=bE hp.val hp.esN x;rw [hx] at hR;simp only [R] at hR;obtain ⟨b,h1,h2,_⟩:=hR;obtain ⟨b',xs,os,h3,hh,hrs,hnm,_⟩:=qj hp.esN hl;rw [h1] at h3; cases h3;have hlen:=aZ hrs;have hlt:off<xs.length:=by omega
 obtain ⟨o2,_,h4⟩:=tQ off hrs ho;have hget:xs[off]? = some (xs.getD off undef):=by simp [hlt]
 refine ⟨xs.getD off undef,?_,?_⟩
 ·have hc:w.cell? ⟨b,off,none⟩=some (xs.getD off undef):=by rw [cell_of_row w b off _ T' (0,0) hh]; simpa using hget
  simp [execOp,Instr.loadAt,h2,Instr.sureAddr,jr hT ha hc]
 ·rw [← hav]; exact EW h4 (hnm off _ hget)
theorem pM (N:List aJ) (d:Nat) {T:TypeId} {td:TypeDesc} (x:Operand) {T':TypeId} {cs:List AV} (t off s:Nat) (cs':List AV) (hT:P.underlying T=some td) (ha:dn td=true) (hs:(P.info? T).map (·.size)=some s)
  (hx:bm N x = .ptr t off) (hl:look N t = .box T' cs) (ho:off+s≤cs.length) (hav:uB t off ((cs.drop off).take s)=cs') (hcl:cW [.slot d] cs'=true) :
  bh P ⟨some d,.load T x,ty,pos,aft,gd⟩ N [] [(d,.agg cs')] [.slot d]:=by
 refine bh.value rfl (by simp only [eh]; exact hcl) rfl fun g V oN a w hp => ?_;have hR:=bE hp.val hp.esN x;rw [hx] at hR;simp only [R] at hR;obtain ⟨b,h1,h2,_⟩:=hR;obtain ⟨b',xs,os,h3,hh,hrs,hnm,_⟩:=qj hp.esN hl;rw [h1] at h3; cases h3;have hlen:=aZ hrs;obtain ⟨o2,_,h4⟩:=Cd off s hrs;refine ⟨.agg ((xs.drop off).take s).toArray,?_,?_⟩
 ·have hload:=gj (P:=P) (w:=w) (a:=⟨b,off,none⟩) (xs:=(xs.drop off).take s) hT ha hs (by simp; omega) (fun j v hj=>by
   rw [cw,cell_of_row w b _ _ T' (0,0) hh]
   simp only [List.getElem?_take,List.getElem?_drop] at hj
   split at hj
   ·simpa using hj
   ·cases hj)
  simp [execOp,Instr.loadAt,h2,Instr.sureAddr,hload]
 ·simp only [R];refine ⟨_,rfl,?_⟩;rw [← hav];refine Ct h4 fun i y hy => ?_;simp only [List.getElem?_take,List.getElem?_drop] at hy;split at hy
  ·exact hnm _ _ hy
  ·cases hy
theorem CZ (N:List aJ) (d:Nat) {T:TypeId} {td:TypeDesc} (x:Operand) {m:Md} {z:Nat} {xs:List Value} (l:bF) (k:Nat) (v:Value) (hT:P.underlying T=some td) (ha:dn td=false)
  (hx:bm N x = .eref l k) (hl:pf N l = .fl m z xs) (hv:xs[k]? = some v) :
  bh P ⟨some d,.load T x,ty,pos,aft,gd⟩ N [] [(d,.v v)] [.slot d]:=by
 refine bh.v rfl fun g V oN a w hp => ?_;have hR:=bE hp.val hp.esN x;rw [hx] at hR;simp only [R] at hR;obtain ⟨ad,n,c,h1,h2,_⟩:=hR;obtain ⟨o',_,h3⟩:=lm hp.esN l;rw [hl] at h3;simp only [R] at h3;obtain ⟨A,n',c',⟨h4,_⟩,_,_,hrd,_⟩:=h3;rw [h1] at h4; cases h4;obtain ⟨ad',e,hc⟩:=hrd (fun e=>by subst e; simp at hv)
 cases e
 simp [execOp,Instr.loadAt,h2,Instr.sureAddr,jr hT ha (hc k v hv)]
theorem ik (N:List aJ) (d:Nat) {T:TypeId} {td:TypeDesc} (x:Operand) {m:Md} {z:Nat} {xs:List Value} (l:bF) (k s:Nat) (vs:List Value) (hT:P.underlying T=some td) (ha:dn td=true) (hs:(P.info? T).map (·.size)=some s)
  (hx:bm N x = .eref l k) (hl:pf N l = .fl m z xs) (hv:(xs.drop k).take s=vs) (hlen:vs.length=s) (h0:0<s) :
  bh P ⟨some d,.load T x,ty,pos,aft,gd⟩ N [] [(d,.agg (vs.map .v))] [.slot d]:=by
 refine bh.value rfl ?_ rfl fun g V oN a w hp => ?_
 ·simp only [eh]; clear hv hlen; induction vs with
  | nil=>rfl
  | cons x xs ih=>simp [cW,eh,ih]
 have hR:=bE hp.val hp.esN x;rw [hx] at hR;simp only [R] at hR;obtain ⟨ad,n,c,h1,h2,_⟩:=hR;obtain ⟨o',_,h3⟩:=lm hp.esN l;rw [hl] at h3;simp only [R] at h3;obtain ⟨A,n',c',⟨h4,_⟩,_,_,hrd,_⟩:=h3;rw [h1] at h4; cases h4;obtain ⟨ad',e,hc⟩:=hrd (fun e=>by subst e; simp at hv; subst hv; simp at hlen; omega)
 cases e
 refine ⟨.agg vs.toArray,?_,by simp only [R]; exact ⟨vs,rfl,ta vs⟩⟩
 have hload:=gj (P:=P) (w:=w) (a:=ad.add k) (xs:=vs) hT ha hs hlen (fun j v hj=>by
  rw [qK]
  refine hc (k+j) v ?_
  rw [← hv] at hj
  simp only [List.getElem?_take,List.getElem?_drop] at hj
  split at hj
  ·exact hj
  ·cases hj)
 simp [execOp,Instr.loadAt,h2,Instr.sureAddr,hload]
end
end Go.Abs
end
