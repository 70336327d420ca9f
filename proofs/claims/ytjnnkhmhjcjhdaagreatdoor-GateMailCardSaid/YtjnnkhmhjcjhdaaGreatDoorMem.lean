import Derived.Test.YtjnnkhmhjcjhdaaGreatDoorRows
import Derived.WalkKit
import Derived.WalkLawsBesides
import Derived.WalkSpells
import Derived.Outline
import Derived.Lib.Hide
import Derived.Deep.QuietTactic
import Derived.BigQuiet
import Derived.Deep.Draws
import Derived.Below
import Derived.Laws.OwnMore
import Derived.Deep.AppendLies
import Derived.Maps.AppendAt
import Derived.RegionTactic
import Derived.OwnWalk
namespace Go.Proofs.YtjnnkhmhjcjhdaaGreatDoor
open Go.RowKit
theorem pY (a:Addr) (n:Nat):(a.add n).block=a.block:=by unfold Addr.add; split <;> rfl
theorem yN (a:Addr) (i j:Nat):(a.add i).add j=a.add (i+j):=by
 unfold Addr.add
 by_cases hi:i=0 <;> by_cases hj:j=0 <;> simp [hi,hj,Nat.add_assoc]
theorem bQ (b o i:Nat):(⟨b,o,none⟩:Addr).add i=⟨b,o+i,none⟩:=by
 unfold Addr.add
 by_cases hi:i=0 <;> simp [hi]
def dy (w:World) (B size:Nat) (A:Option Addr) (n:Nat) (xs:List Value):Prop :=
 xs.length=n * size∧(0<n→∃ ad,A=some ad∧ad.block<B∧∀ j u,xs[j]? = some u→w.cell? (ad.add j)=some u)
section
variable {w w':World} {B B' size n:Nat} {A:Option Addr} {xs:List Value}
theorem dy.at_ {k:Nat} (h:dy w B 1 A n xs) (hk:k<n):∃ ad u,A=some ad∧ad.block<B∧xs[k]? = some u∧w.cell? (ad.add k)=some u:=by
 obtain ⟨ad,e,hb,hc⟩:=h.2 (by omega)
 have hl:k<xs.length:=by have:=h.1; omega
 exact ⟨ad,xs[k],e,hb,List.getElem?_eq_getElem hl,hc k _ (List.getElem?_eq_getElem hl)⟩
theorem dy.keep (h:dy w B size A n xs) (hk:∀ p:Addr,p.block<B→w'.cell? p=w.cell? p):dy w' B size A n xs :=
 ⟨h.1,fun hn=>by
  obtain ⟨ad,e,hb,hc⟩:=h.2 hn
  exact ⟨ad,e,hb,fun j u hu=>(hk _ (by rw [pY]; exact hb)).trans (hc j u hu)⟩⟩
theorem dy.more (h:dy w B size A n xs) (hB:B≤B'):dy w B' size A n xs :=
 ⟨h.1,fun hn=>by
  obtain ⟨ad,e,hb,hc⟩:=h.2 hn
  exact ⟨ad,e,by omega,hc⟩⟩
theorem dy.drew (h:dy w B size A n xs):dy w.drew B size A n xs:=h
theorem dy.drewN (h:dy w B size A n xs) (k:Nat):dy (w.drewN k) B size A n xs:=h
theorem dy.alloc (h:dy w B size A n xs) (hB:B≤w.heap.size) (o:Obj):dy (w.alloc o) B size A n xs:=h.keep fun p hp=>World.cell?_alloc_lt w o p (by omega)
theorem dy.setCell (h:dy w B size A n xs) {p:Addr} (hB:B≤p.block) (u:Value):dy (w.setCell p u) B size A n xs :=
 h.keep fun q hq=>World.cell?_setCell_other w p q u (fun e=>by subst e; omega)
theorem dy.grown (h:dy w B size A n xs) {row:Option Nat} (hg:w.grownBy w' row) (hB:B≤w.heap.size) (hr:∀ g,row=some g→B≤g):dy w' B size A n xs :=
 h.keep fun p hp=>World.cell?_of_block (hg.block p.block (by omega) (fun e=>by have:=hr _ e.symm; omega))
theorem dy.cut (h:dy w B size A n xs) {k cap:Nat} (hk:k≤n) (hc:n≤cap) :
  dy w B size (if cap=k then A else A.map (·.add (k * size))) (n-k) (xs.drop (k * size)):=by
 refine ⟨by rw [List.length_drop,h.1,Nat.sub_mul],fun hn => ?_⟩
 obtain ⟨ad,rfl,hb,hcell⟩:=h.2 (by omega)
 rw [if_neg (by omega)]
 refine ⟨ad.add (k * size),rfl,by rw [pY]; exact hb,fun j u hu => ?_⟩
 rw [yN]
 exact hcell _ u (by rw [← hu,List.getElem?_drop])
theorem dy.take (h:dy w B 1 A n xs) {k:Nat} (hk:k≤n):dy w B 1 A k (xs.take k):=by
 refine ⟨by rw [List.length_take,h.1]; omega,fun hn => ?_⟩
 obtain ⟨ad,rfl,hb,hcell⟩:=h.2 (by omega)
 refine ⟨ad,rfl,hb,fun j u hu=>hcell j u ?_⟩
 rw [List.getElem?_take] at hu
 split at hu
 ·exact hu
 ·cases hu
end
def bv (l:List UInt8):List Value:=l.map fun u => .int .u8 (u.toNat:Int)
def iv (l:List Int):List Value:=l.map (.int .i64)
@[simp] theorem Ip (l:List UInt8):(bv l).length=l.length:=by simp [bv]
@[simp] theorem Ir (l:List Int):(iv l).length=l.length:=by simp [iv]
def uR (w:World) (B:Nat) (A:Option Addr) (n:Nat) (l:List UInt8):Prop:=dy w B 1 A n (bv l)
def BC (w:World) (B:Nat) (A:Option Addr) (n:Nat) (l:List Int):Prop:=dy w B 1 A n (iv l)
section
variable {w w':World} {B B' n:Nat} {A:Option Addr} {l:List UInt8} {z:List Int}
theorem uR.len (h:uR w B A n l):l.length=n:=by have:=h.1; simpa using this
theorem BC.len (h:BC w B A n z):z.length=n:=by have:=h.1; simpa using this
theorem uR.at_ {k:Nat} (h:uR w B A n l) (hk:k<l.length) :
  ∃ b off,A=some ⟨b,off,none⟩∧b<B∧w.cell? ⟨b,off+k,none⟩=some (.int .u8 (l[k].toNat:Int)):=by
 have hn:=h.len
 obtain ⟨ad,u,e,hb,hx,hc⟩:=dy.at_ h (k:=k) (by omega)
 obtain ⟨b,off,spot⟩:=ad
 have hs:spot=none:=by
  obtain ⟨ad0,u0,e0,_,_,hc0⟩:=dy.at_ h (k:=0) (by omega)
  rw [e] at e0; injection e0 with e0; subst e0
  exact World.cell?_spot hc0
 subst hs
 rw [bQ] at hc
 refine ⟨b,off,e,hb,?_⟩
 rw [hc,← hx]; simp [bv,hk]
theorem BC.at_ {k:Nat} (h:BC w B A n z) (hk:k<z.length) :
  ∃ b off,A=some ⟨b,off,none⟩∧b<B∧w.cell? ⟨b,off+k,none⟩=some (.int .i64 z[k]):=by
 have hn:=h.len
 obtain ⟨ad,u,e,hb,hx,hc⟩:=dy.at_ h (k:=k) (by omega)
 obtain ⟨b,off,spot⟩:=ad
 have hs:spot=none:=by
  obtain ⟨ad0,u0,e0,_,_,hc0⟩:=dy.at_ h (k:=0) (by omega)
  rw [e] at e0; injection e0 with e0; subst e0
  exact World.cell?_spot hc0
 subst hs
 rw [bQ] at hc
 refine ⟨b,off,e,hb,?_⟩
 rw [hc,← hx]; simp [iv,hk]
theorem uR.all (h:uR w B A n l) (hn:0<l.length) :
  ∃ b off,A=some ⟨b,off,none⟩∧b<B∧∀ k (hk:k<l.length),w.cell? ⟨b,off+k,none⟩=some (.int .u8 (l[k].toNat:Int)):=by
 obtain ⟨b,off,e,hb,_⟩:=h.at_ hn
 refine ⟨b,off,e,hb,fun k hk => ?_⟩
 obtain ⟨b',off',e',_,hc⟩:=h.at_ hk
 rw [e] at e'; injection e' with e'; injection e' with e1 e2; subst e1; subst e2
 exact hc
theorem BC.all (h:BC w B A n z) (hn:0<z.length) :
  ∃ b off,A=some ⟨b,off,none⟩∧b<B∧∀ k (hk:k<z.length),w.cell? ⟨b,off+k,none⟩=some (.int .i64 z[k]):=by
 obtain ⟨b,off,e,hb,_⟩:=h.at_ hn
 refine ⟨b,off,e,hb,fun k hk => ?_⟩
 obtain ⟨b',off',e',_,hc⟩:=h.at_ hk
 rw [e] at e'; injection e' with e'; injection e' with e1 e2; subst e1; subst e2
 exact hc
end
def ul (w:World) (g:Nat) (t:TypeId) (cs:Array Value):Prop:=w.heap[g]? = some (.cells cs t (0,0))
section
variable {w w':World} {g:Nat} {t:TypeId} {cs:Array Value}
theorem ul.lt (h:ul w g t cs):g<w.heap.size:=by
 rcases Nat.lt_or_ge g w.heap.size with hlt | hge
 ·exact hlt
 ·unfold ul at h; rw [Array.getElem?_eq_none hge] at h; cases h
theorem ul.cell (h:ul w g t cs) (i:Nat):w.cell? ⟨g,i,none⟩=cs[i]? := cell_of_row w g i cs t (0,0) h
theorem ul.frozen (h:ul w g t cs) (i:Nat):w.frozen? ⟨g,i,none⟩=false:=by
 unfold ul at h
 simp [World.frozen?,h]
theorem ul.new (w:World) (t:TypeId) (cs:Array Value):ul (w.alloc (.cells cs t)) w.heap.size t cs:=heap_alloc_new w _
theorem ul.drew (h:ul w g t cs):ul w.drew g t cs:=h
theorem ul.drewN (h:ul w g t cs) (n:Nat):ul (w.drewN n) g t cs:=h
theorem ul.alloc (h:ul w g t cs) (o:Obj):ul (w.alloc o) g t cs:=(Below.heap_alloc w o g h.lt).trans h
theorem ul.grown {row:Option Nat} (h:ul w g t cs) (hb:w.grownBy w' row) (hg:some g≠row):ul w' g t cs:=(hb.block g h.lt hg).trans h
end
section
variable {P:Program} (w:World)
end
end Go.Proofs.YtjnnkhmhjcjhdaaGreatDoor
