import Derived.Test.YtckpeedhchjjnaaGreatDoorRows
import Derived.WalkKit
import Derived.WalkLawsBesides
import Derived.WalkSpells
import Derived.Outline
import Derived.Lib.Hide
import Derived.Deep.QuietTactic
import Derived.BigQuiet
import Derived.Deep.Draws
import Derived.Below
import Derived.Laws.OwnMore
import Derived.Deep.AppendLies
import Derived.Maps.AppendAt
import Derived.RegionTactic
import Derived.OwnWalk
namespace Go.Proofs.YtckpeedhchjjnaaGreatDoor
open Go.RowKit
theorem tk (a:Addr) (n:Nat):(a.add n).block=a.block:=by unfold Addr.add; split <;> rfl
theorem BV (a:Addr) (i j:Nat):(a.add i).add j=a.add (i+j):=by unfold Addr.add;by_cases hi:i=0 <;> by_cases hj:j=0 <;> simp [hi,hj,Nat.add_assoc]
theorem cw (b o i:Nat):(⟨b,o,none⟩:Addr).add i=⟨b,o+i,none⟩:=by unfold Addr.add;by_cases hi:i=0 <;> simp [hi]
def dD (w:World) (B size:Nat) (A:Option Addr) (n:Nat) (xs:List Value):Prop :=
 xs.length=n * size∧(0<n→∃ ad,A=some ad∧ad.block<B∧∀ j u,xs[j]? = some u→w.cell? (ad.add j)=some u)
section
variable {w w':World} {B B' size n:Nat} {A:Option Addr} {xs:List Value}
theorem dD.at_ {k:Nat} (h:dD w B 1 A n xs) (hk:k<n):∃ ad u,A=some ad∧ad.block<B∧xs[k]? = some u∧w.cell? (ad.add k)=some u:=by
 obtain ⟨ad,e,hb,hc⟩:=h.2 (by omega);have hl:k<xs.length:=by have:=h.1; omega
 exact ⟨ad,xs[k],e,hb,List.getElem?_eq_getElem hl,hc k _ (List.getElem?_eq_getElem hl)⟩
theorem dD.keep (h:dD w B size A n xs) (hk:∀ p:Addr,p.block<B→w'.cell? p=w.cell? p):dD w' B size A n xs :=
 ⟨h.1,fun hn=>by
  obtain ⟨ad,e,hb,hc⟩:=h.2 hn
  exact ⟨ad,e,hb,fun j u hu=>(hk _ (by rw [tk]; exact hb)).trans (hc j u hu)⟩⟩
theorem dD.more (h:dD w B size A n xs) (hB:B≤B'):dD w B' size A n xs :=
 ⟨h.1,fun hn=>by
  obtain ⟨ad,e,hb,hc⟩:=h.2 hn
  exact ⟨ad,e,by omega,hc⟩⟩
theorem dD.drew (h:dD w B size A n xs):dD w.drew B size A n xs:=h
theorem dD.drewN (h:dD w B size A n xs) (k:Nat):dD (w.drewN k) B size A n xs:=h
theorem dD.alloc (h:dD w B size A n xs) (hB:B≤w.heap.size) (o:Obj):dD (w.alloc o) B size A n xs:=h.keep fun p hp=>World.cell?_alloc_lt w o p (by omega)
theorem dD.setCell (h:dD w B size A n xs) {p:Addr} (hB:B≤p.block) (u:Value):dD (w.setCell p u) B size A n xs :=
 h.keep fun q hq=>World.cell?_setCell_other w p q u (fun e=>by subst e; omega)
theorem dD.grown (h:dD w B size A n xs) {row:Option Nat} (hg:w.grownBy w' row) (hB:B≤w.heap.size) (hr:∀ g,row=some g→B≤g):dD w' B size A n xs :=
 h.keep fun p hp=>World.cell?_of_block (hg.block p.block (by omega) (fun e=>by have:=hr _ e.symm; omega))
theorem dD.cut (h:dD w B size A n xs) {k cap:Nat} (hk:k≤n) (hc:n≤cap) :
  dD w B size (if cap=k then A else A.map (·.add (k * size))) (n-k) (xs.drop (k * size)):=by refine ⟨by rw [List.length_drop,h.1,Nat.sub_mul],fun hn => ?_⟩;obtain ⟨ad,rfl,hb,hcell⟩:=h.2 (by omega);rw [if_neg (by omega)];refine ⟨ad.add (k * size),rfl,by rw [tk]; exact hb,fun j u hu => ?_⟩;rw [BV];exact hcell _ u (by rw [← hu,List.getElem?_drop])
theorem dD.take (h:dD w B 1 A n xs) {k:Nat} (hk:k≤n):dD w B 1 A k (xs.take k):=by
 refine ⟨by rw [List.length_take,h.1]; omega,fun hn => ?_⟩;obtain ⟨ad,rfl,hb,hcell⟩:=h.2 (by omega);refine ⟨ad,rfl,hb,fun j u hu=>hcell j u ?_⟩;rw [List.getElem?_take] at hu;split at hu
 ·exact hu
 ·cases hu
end
def bv (l:List UInt8):List Value:=l.map fun u => .int .u8 (u.toNat:Int)
def iv (l:List Int):List Value:=l.map (.int .i64)
@[simp] theorem Ix (l:List UInt8):(bv l).length=l.length:=by simp [bv]
@[simp] theorem It (l:List Int):(iv l).length=l.length:=by simp [iv]
def xx (w:World) (B:Nat) (A:Option Addr) (n:Nat) (l:List UInt8):Prop:=dD w B 1 A n (bv l)
def Dh (w:World) (B:Nat) (A:Option Addr) (n:Nat) (l:List Int):Prop:=dD w B 1 A n (iv l)
section
variable {w w':World} {B B' n:Nat} {A:Option Addr} {l:List UInt8} {z:List Int}
theorem xx.len (h:xx w B A n l):l.length=n:=by have:=h.1; simpa using this
theorem Dh.len (h:Dh w B A n z):z.length=n:=by have:=h.1; simpa using this
theorem xx.at_ {k:Nat} (h:xx w B A n l) (hk:k<l.length) :
  ∃ b off,A=some ⟨b,off,none⟩∧b<B∧w.cell? ⟨b,off+k,none⟩=some (.int .u8 (l[k].toNat:Int)):=by
 have hn:=h.len;obtain ⟨ad,u,e,hb,hx,hc⟩:=dD.at_ h (k:=k) (by omega);obtain ⟨b,off,spot⟩:=ad
 have hs:spot=none:=by obtain ⟨ad0,u0,e0,_,_,hc0⟩:=dD.at_ h (k:=0) (by omega);rw [e] at e0; injection e0 with e0; subst e0;exact World.cell?_spot hc0
 subst hs;rw [cw] at hc;refine ⟨b,off,e,hb,?_⟩;rw [hc,← hx]; simp [bv,hk]
theorem Dh.at_ {k:Nat} (h:Dh w B A n z) (hk:k<z.length) :
  ∃ b off,A=some ⟨b,off,none⟩∧b<B∧w.cell? ⟨b,off+k,none⟩=some (.int .i64 z[k]):=by
 have hn:=h.len;obtain ⟨ad,u,e,hb,hx,hc⟩:=dD.at_ h (k:=k) (by omega);obtain ⟨b,off,spot⟩:=ad
 have hs:spot=none:=by obtain ⟨ad0,u0,e0,_,_,hc0⟩:=dD.at_ h (k:=0) (by omega);rw [e] at e0; injection e0 with e0; subst e0;exact World.cell?_spot hc0
 subst hs;rw [cw] at hc;refine ⟨b,off,e,hb,?_⟩;rw [hc,← hx]; simp [iv,hk]
theorem xx.all (h:xx w B A n l) (hn:0<l.length) :
  ∃ b off,A=some ⟨b,off,none⟩∧b<B∧∀ k (hk:k<l.length),w.cell? ⟨b,off+k,none⟩=some (.int .u8 (l[k].toNat:Int)):=by obtain ⟨b,off,e,hb,_⟩:=h.at_ hn;refine ⟨b,off,e,hb,fun k hk => ?_⟩;obtain ⟨b',off',e',_,hc⟩:=h.at_ hk;rw [e] at e'; injection e' with e'; injection e' with e1 e2; subst e1; subst e2;exact hc
theorem Dh.all (h:Dh w B A n z) (hn:0<z.length) :
  ∃ b off,A=some ⟨b,off,none⟩∧b<B∧∀ k (hk:k<z.length),w.cell? ⟨b,off+k,none⟩=some (.int .i64 z[k]):=by obtain ⟨b,off,e,hb,_⟩:=h.at_ hn;refine ⟨b,off,e,hb,fun k hk => ?_⟩;obtain ⟨b',off',e',_,hc⟩:=h.at_ hk;rw [e] at e'; injection e' with e'; injection e' with e1 e2; subst e1; subst e2;exact hc
end
def wM (w:World) (g:Nat) (t:TypeId) (cs:Array Value):Prop:=w.heap[g]? = some (.cells cs t (0,0))
section
variable {w w':World} {g:Nat} {t:TypeId} {cs:Array Value}
theorem wM.lt (h:wM w g t cs):g<w.heap.size:=by
 rcases Nat.lt_or_ge g w.heap.size with hlt | hge
 ·exact hlt
 ·unfold wM at h; rw [Array.getElem?_eq_none hge] at h; cases h
theorem wM.cell (h:wM w g t cs) (i:Nat):w.cell? ⟨g,i,none⟩=cs[i]? := cell_of_row w g i cs t (0,0) h
theorem wM.frozen (h:wM w g t cs) (i:Nat):w.frozen? ⟨g,i,none⟩=false:=by unfold wM at h;simp [World.frozen?,h]
theorem wM.new (w:World) (t:TypeId) (cs:Array Value):wM (w.alloc (.cells cs t)) w.heap.size t cs:=heap_alloc_new w _
theorem wM.drew (h:wM w g t cs):wM w.drew g t cs:=h
theorem wM.drewN (h:wM w g t cs) (n:Nat):wM (w.drewN n) g t cs:=h
theorem wM.alloc (h:wM w g t cs) (o:Obj):wM (w.alloc o) g t cs:=(Below.heap_alloc w o g h.lt).trans h
theorem wM.grown {row:Option Nat} (h:wM w g t cs) (hb:w.grownBy w' row) (hg:some g≠row):wM w' g t cs:=(hb.block g h.lt hg).trans h
end
section
variable {P:Program} (w:World)
end
end Go.Proofs.YtckpeedhchjjnaaGreatDoor
