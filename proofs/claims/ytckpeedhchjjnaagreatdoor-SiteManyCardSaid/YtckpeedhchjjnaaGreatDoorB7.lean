import Derived.Test.YtckpeedhchjjnaaGreatDoorB6
set_option linter.unusedVariables false
namespace Go.Abs
open Go.Sort
def Cr (d:Array Nat) (n c:Nat):Prop:=∀ i j,i<c→c≤j→j<n→d[i]! ≤ d[j]!
theorem Cr.perm {d d':Array Nat} {n c a b:Nat} (h:Cr d n c) (p:PermIn a b d d') (hb:b≤n) (hn:n≤d.size) (hc:c≤a∨b≤c):Cr d' n c:=by
 intro i j hi hj hjn;rcases hc with hc | hc
 ·rw [p.2.1 i (.inl (by omega))];by_cases h1:a≤j∧j<b
  ·exact permIn_all d d' a b (fun y=>d[i]! ≤ y) (by omega) p (fun k hk hkb=>h i k hi (by omega) (by omega)) j h1.1 h1.2
  ·rw [p.2.1 j (by omega)]; exact h i j hi hj hjn
 ·rw [p.2.1 j (.inr (by omega))];by_cases h1:a≤i∧i<b
  ·exact permIn_all d d' a b (fun x=>x≤d[j]!) (by omega) p (fun k hk hkb=>h k j (by omega) hj hjn) i h1.1 h1.2
  ·rw [p.2.1 i (by omega)]; exact h i j hi hj hjn
theorem Up.out {w:Nat→Int} {d d':Array Nat} {s e a b:Nat} (h:Up w d s e) (p:PermIn a b d d') (hc:e≤a∨b≤s):Up w d' s e:=by intro i j hi hij hj;rw [p.2.1 i (by omega),p.2.1 j (by omega)];exact h i j hi hij hj
def Bs (w:Nat→Int) (d:Array Nat) (n B:Nat):Prop:=∀ c,B ∣ c→Up w d c (min (c+B) n)∧Cr d n c
structure BN (w:Nat→Int) (d:Array Nat) (n B a:Nat):Prop where
 big:∀ c,2 * B ∣ c→c<a→Up w d c (min (c+2 * B) n)
 cr2:∀ c,2 * B ∣ c→Cr d n c
 small:∀ c,B ∣ c→a≤c→Up w d c (min (c+B) n)∧Cr d n c
theorem oq {B a c:Nat} (ha:B ∣ a) (hc:B ∣ c) (h:c<a):c+B≤a:=by have:=Nat.le_of_dvd (by omega) (Nat.dvd_sub ha hc);omega
theorem vd {B c:Nat} (h:2 * B ∣ c):B ∣ c:=Nat.dvd_trans ⟨2,by omega⟩ h
theorem BW {w:Nat→Int} {d:Array Nat} {n B:Nat} (h:Bs w d n B):BN w d n B 0 :=
 ⟨fun c _ h0=>by omega,fun c hc=>(h c (vd hc)).2,fun c hc _=>h c hc⟩
theorem Ae {w:Nat→Int} {d:Array Nat} {n B a b:Nat} (h:BN w d n B a) (ha:2 * B ∣ a) (hm:a+B≤n) (hb:b=min (a+2 * B) n):Eg w d a (a+B) b:=by have h1:=h.small a (vd ha) (Nat.le_refl _);have h2:=h.small (a+B) (Nat.dvd_add (vd ha) (Nat.dvd_refl B)) (by omega);refine ⟨fun i j q1 q2 q3=>h1.1 i j q1 q2 (by omega),fun i j q1 q2 q3=>h2.1 i j q1 q2 (by omega),fun i j q1 q2 q3 q4=>h2.2 i j q2 q3 (by omega)⟩
theorem xE {w:Nat→Int} {d d':Array Nat} {n B a b:Nat} (h:BN w d n B a) (ha:2 * B ∣ a) (hn:n≤d.size) (hb:b=min (a+2 * B) n) (hab:a≤n) (p:PermIn a b d d') (hu:Up w d' a b):BN w d' n B (a+2 * B):=by
 refine ⟨fun c hc hlt => ?_,fun c hc => ?_,fun c hc hle => ?_⟩
 ·rcases Nat.lt_trichotomy c a with h1 | h1 | h1
  ·have:=oq ha hc h1;exact (h.big c hc h1).out p (.inl (by omega))
  ·subst h1; rw [← hb]; exact hu
  ·have:=oq hc ha h1;omega
 ·refine (h.cr2 c hc).perm p (by omega) hn ?_;rcases Nat.lt_or_ge a c with h1 | h1
  ·have:=oq hc ha h1;omega
  ·omega
 ·have h2:=h.small c hc (by omega);exact ⟨h2.1.out p (by omega),h2.2.perm p (by omega) hn (by omega)⟩
theorem Bk {w:Nat→Int} {d:Array Nat} {n B a:Nat} (h:BN w d n B a) (ha:2 * B ∣ a) (hn:n≤a+B):Bs w d n (2 * B):=by
 intro c hc;refine ⟨?_,h.cr2 c hc⟩;rcases Nat.lt_trichotomy c a with h1 | h1 | h1
 ·exact h.big c hc h1
 ·subst h1;have:=(h.small c (vd hc) (Nat.le_refl _)).1;exact fun i j q1 q2 q3=>this i j q1 q2 (by omega)
 ·have:=oq hc ha h1;intro i j q1 q2 q3;omega
structure L1 (w:Nat→Int) (d0 d:Array Nat) (n a:Nat):Prop where
 big:∀ c,20 ∣ c→c<a→Up w d c (min (c+20) n)
 cr:∀ c,20 ∣ c→Cr d n c
 rest:∀ k,a≤k→d[k]! = d0[k]!
theorem ET {w:Nat→Int} {d:Array Nat} {n:Nat} (h:∀ i j,i<j→j<n→d[i]! ≤ d[j]!):L1 w d d n 0 :=
 ⟨fun c _ h0=>by omega,fun c _ i j q1 q2 q3=>h i j (by omega) q3,fun _ _=>rfl⟩
theorem DO {w:Nat→Int} {d0 d:Array Nat} {n a b:Nat} (h:L1 w d0 d n a) (h0:∀ i j,i<j→j<n→d0[i]! ≤ d0[j]!) (hb:b≤n):Ids d a b a:=by intro k t hk hkt _ ht;rw [h.rest k hk,h.rest t (by omega)];exact h0 k t hkt (by omega)
theorem Cy {w:Nat→Int} {d0 d d':Array Nat} {n a b:Nat} (h:L1 w d0 d n a) (ha:20 ∣ a) (hn:n≤d.size) (hb:b=min (a+20) n) (hab:a≤n) (p:PermIn a b d d') (hu:Up w d' a b):L1 w d0 d' n (a+20):=by
 refine ⟨fun c hc hlt => ?_,fun c hc => ?_,fun k hk => ?_⟩
 ·rcases Nat.lt_trichotomy c a with h1 | h1 | h1
  ·have:=oq ha hc h1;exact (h.big c hc h1).out p (.inl (by omega))
  ·subst h1; rw [← hb]; exact hu
  ·have:=oq hc ha h1;omega
 ·refine (h.cr c hc).perm p (by omega) hn ?_;rcases Nat.lt_or_ge a c with h1 | h1
  ·have:=oq hc ha h1;omega
  ·omega
 ·rw [p.2.1 k (.inr (by omega))]; exact h.rest k (by omega)
theorem Hp {w:Nat→Int} {d0 d:Array Nat} {n a:Nat} (h:L1 w d0 d n a) (hn:n≤a):Bs w d n 20:=by
 intro c hc;refine ⟨?_,h.cr c hc⟩;rcases Nat.lt_or_ge c a with h1 | h1
 ·exact h.big c hc h1
 ·intro i j q1 q2 q3;omega
end Go.Abs
