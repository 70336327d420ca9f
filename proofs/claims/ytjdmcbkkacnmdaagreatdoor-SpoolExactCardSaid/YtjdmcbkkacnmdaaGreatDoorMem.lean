import Derived.Test.YtjdmcbkkacnmdaaGreatDoorRows
import Derived.WalkKit
import Derived.WalkLawsBesides
import Derived.WalkSpells
import Derived.Outline
import Derived.Lib.Hide
import Derived.Deep.QuietTactic
import Derived.BigQuiet
import Derived.Deep.Draws
import Derived.Below
import Derived.Laws.OwnMore
import Derived.Deep.AppendLies
import Derived.Maps.AppendAt
import Derived.RegionTactic
import Derived.OwnWalk
namespace Go.Proofs.YtjdmcbkkacnmdaaGreatDoor
open Go.RowKit
theorem nb (a:Addr) (n:Nat):(a.add n).block=a.block:=by unfold Addr.add; split <;> rfl
theorem vE (a:Addr) (i j:Nat):(a.add i).add j=a.add (i+j):=by
 unfold Addr.add
 by_cases hi:i=0 <;> by_cases hj:j=0 <;> simp [hi,hj,Nat.add_assoc]
theorem dV (b o i:Nat):(⟨b,o,none⟩:Addr).add i=⟨b,o+i,none⟩:=by
 unfold Addr.add
 by_cases hi:i=0 <;> simp [hi]
def eo (w:World) (B size:Nat) (A:Option Addr) (n:Nat) (xs:List Value):Prop :=
 xs.length=n * size∧(0<n→∃ ad,A=some ad∧ad.block<B∧∀ j u,xs[j]? = some u→w.cell? (ad.add j)=some u)
section
variable {w w':World} {B B' size n:Nat} {A:Option Addr} {xs:List Value}
theorem eo.at_ {k:Nat} (h:eo w B 1 A n xs) (hk:k<n):∃ ad u,A=some ad∧ad.block<B∧xs[k]? = some u∧w.cell? (ad.add k)=some u:=by
 obtain ⟨ad,e,hb,hc⟩:=h.2 (by omega)
 have hl:k<xs.length:=by have:=h.1; omega
 exact ⟨ad,xs[k],e,hb,List.getElem?_eq_getElem hl,hc k _ (List.getElem?_eq_getElem hl)⟩
theorem eo.keep (h:eo w B size A n xs) (hk:∀ p:Addr,p.block<B→w'.cell? p=w.cell? p):eo w' B size A n xs :=
 ⟨h.1,fun hn=>by
  obtain ⟨ad,e,hb,hc⟩:=h.2 hn
  exact ⟨ad,e,hb,fun j u hu=>(hk _ (by rw [nb]; exact hb)).trans (hc j u hu)⟩⟩
theorem eo.more (h:eo w B size A n xs) (hB:B≤B'):eo w B' size A n xs :=
 ⟨h.1,fun hn=>by
  obtain ⟨ad,e,hb,hc⟩:=h.2 hn
  exact ⟨ad,e,by omega,hc⟩⟩
theorem eo.drew (h:eo w B size A n xs):eo w.drew B size A n xs:=h
theorem eo.drewN (h:eo w B size A n xs) (k:Nat):eo (w.drewN k) B size A n xs:=h
theorem eo.alloc (h:eo w B size A n xs) (hB:B≤w.heap.size) (o:Obj):eo (w.alloc o) B size A n xs:=h.keep fun p hp=>World.cell?_alloc_lt w o p (by omega)
theorem eo.cut (h:eo w B size A n xs) {k cap:Nat} (hk:k≤n) (hc:n≤cap) :
  eo w B size (if cap=k then A else A.map (·.add (k * size))) (n-k) (xs.drop (k * size)):=by
 refine ⟨by rw [List.length_drop,h.1,Nat.sub_mul],fun hn => ?_⟩
 obtain ⟨ad,rfl,hb,hcell⟩:=h.2 (by omega)
 rw [if_neg (by omega)]
 refine ⟨ad.add (k * size),rfl,by rw [nb]; exact hb,fun j u hu => ?_⟩
 rw [vE]
 exact hcell _ u (by rw [← hu,List.getElem?_drop])
theorem eo.take (h:eo w B 1 A n xs) {k:Nat} (hk:k≤n):eo w B 1 A k (xs.take k):=by
 refine ⟨by rw [List.length_take,h.1]; omega,fun hn => ?_⟩
 obtain ⟨ad,rfl,hb,hcell⟩:=h.2 (by omega)
 refine ⟨ad,rfl,hb,fun j u hu=>hcell j u ?_⟩
 rw [List.getElem?_take] at hu
 split at hu
 ·exact hu
 ·cases hu
end
def bv (l:List UInt8):List Value:=l.map fun u => .int .u8 (u.toNat:Int)
def iv (l:List Int):List Value:=l.map (.int .i64)
@[simp] theorem Ds (l:List UInt8):(bv l).length=l.length:=by simp [bv]
@[simp] theorem Du (l:List Int):(iv l).length=l.length:=by simp [iv]
def sv (w:World) (B:Nat) (A:Option Addr) (n:Nat) (l:List UInt8):Prop:=eo w B 1 A n (bv l)
def xl (w:World) (B:Nat) (A:Option Addr) (n:Nat) (l:List Int):Prop:=eo w B 1 A n (iv l)
section
variable {w w':World} {B B' n:Nat} {A:Option Addr} {l:List UInt8} {z:List Int}
theorem sv.len (h:sv w B A n l):l.length=n:=by have:=h.1; simpa using this
theorem xl.len (h:xl w B A n z):z.length=n:=by have:=h.1; simpa using this
theorem sv.at_ {k:Nat} (h:sv w B A n l) (hk:k<l.length) :
  ∃ b off,A=some ⟨b,off,none⟩∧b<B∧w.cell? ⟨b,off+k,none⟩=some (.int .u8 (l[k].toNat:Int)):=by
 have hn:=h.len
 obtain ⟨ad,u,e,hb,hx,hc⟩:=eo.at_ h (k:=k) (by omega)
 obtain ⟨b,off,spot⟩:=ad
 have hs:spot=none:=by
  obtain ⟨ad0,u0,e0,_,_,hc0⟩:=eo.at_ h (k:=0) (by omega)
  rw [e] at e0; injection e0 with e0; subst e0
  exact World.cell?_spot hc0
 subst hs
 rw [dV] at hc
 refine ⟨b,off,e,hb,?_⟩
 rw [hc,← hx]; simp [bv,hk]
theorem xl.at_ {k:Nat} (h:xl w B A n z) (hk:k<z.length) :
  ∃ b off,A=some ⟨b,off,none⟩∧b<B∧w.cell? ⟨b,off+k,none⟩=some (.int .i64 z[k]):=by
 have hn:=h.len
 obtain ⟨ad,u,e,hb,hx,hc⟩:=eo.at_ h (k:=k) (by omega)
 obtain ⟨b,off,spot⟩:=ad
 have hs:spot=none:=by
  obtain ⟨ad0,u0,e0,_,_,hc0⟩:=eo.at_ h (k:=0) (by omega)
  rw [e] at e0; injection e0 with e0; subst e0
  exact World.cell?_spot hc0
 subst hs
 rw [dV] at hc
 refine ⟨b,off,e,hb,?_⟩
 rw [hc,← hx]; simp [iv,hk]
theorem sv.all (h:sv w B A n l) (hn:0<l.length) :
  ∃ b off,A=some ⟨b,off,none⟩∧b<B∧∀ k (hk:k<l.length),w.cell? ⟨b,off+k,none⟩=some (.int .u8 (l[k].toNat:Int)):=by
 obtain ⟨b,off,e,hb,_⟩:=h.at_ hn
 refine ⟨b,off,e,hb,fun k hk => ?_⟩
 obtain ⟨b',off',e',_,hc⟩:=h.at_ hk
 rw [e] at e'; injection e' with e'; injection e' with e1 e2; subst e1; subst e2
 exact hc
theorem xl.all (h:xl w B A n z) (hn:0<z.length) :
  ∃ b off,A=some ⟨b,off,none⟩∧b<B∧∀ k (hk:k<z.length),w.cell? ⟨b,off+k,none⟩=some (.int .i64 z[k]):=by
 obtain ⟨b,off,e,hb,_⟩:=h.at_ hn
 refine ⟨b,off,e,hb,fun k hk => ?_⟩
 obtain ⟨b',off',e',_,hc⟩:=h.at_ hk
 rw [e] at e'; injection e' with e'; injection e' with e1 e2; subst e1; subst e2
 exact hc
end
def tD (w:World) (g:Nat) (t:TypeId) (cs:Array Value):Prop:=w.heap[g]? = some (.cells cs t (0,0))
section
variable {w w':World} {g:Nat} {t:TypeId} {cs:Array Value}
theorem tD.lt (h:tD w g t cs):g<w.heap.size:=by
 rcases Nat.lt_or_ge g w.heap.size with hlt | hge
 ·exact hlt
 ·unfold tD at h; rw [Array.getElem?_eq_none hge] at h; cases h
theorem tD.cell (h:tD w g t cs) (i:Nat):w.cell? ⟨g,i,none⟩=cs[i]? := cell_of_row w g i cs t (0,0) h
theorem tD.frozen (h:tD w g t cs) (i:Nat):w.frozen? ⟨g,i,none⟩=false:=by
 unfold tD at h
 simp [World.frozen?,h]
theorem tD.new (w:World) (t:TypeId) (cs:Array Value):tD (w.alloc (.cells cs t)) w.heap.size t cs:=heap_alloc_new w _
theorem tD.drew (h:tD w g t cs):tD w.drew g t cs:=h
theorem tD.drewN (h:tD w g t cs) (n:Nat):tD (w.drewN n) g t cs:=h
theorem tD.alloc (h:tD w g t cs) (o:Obj):tD (w.alloc o) g t cs:=(Below.heap_alloc w o g h.lt).trans h
end
section
variable {P:Program} (w:World)
end
end Go.Proofs.YtjdmcbkkacnmdaaGreatDoor
