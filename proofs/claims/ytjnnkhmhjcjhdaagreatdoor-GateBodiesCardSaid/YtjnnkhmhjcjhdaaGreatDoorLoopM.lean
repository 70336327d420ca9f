import Derived.Test.YtjnnkhmhjcjhdaaGreatDoorLawM
namespace Go.Abs.Sh
set_option linter.unusedVariables false
theorem BV {S O:Type} {f:S→Option (S⊕O)} (st:Nat→S) {o:O}:∀ (n fuel:Nat),n<fuel→(∀ i,i<n→f (st i)=some (.inl (st (i+1))))→f (st n)=some (.inr o)→cz f fuel (st 0)=some o:=by
 intro n
 induction n generalizing st with
 | zero =>
  intro fuel hf _ he
  obtain ⟨k,rfl⟩:∃ k,fuel=k+1:=⟨fuel-1,by omega⟩
  exact rC he
 | succ n ih =>
  intro fuel hf hs he
  obtain ⟨k,rfl⟩:∃ k,fuel=k+1:=⟨fuel-1,by omega⟩
  rw [vf (hs 0 (by omega))]
  exact ih (fun i=>st (i+1)) k (by omega) (fun i hi=>hs (i+1) (by omega)) he
theorem kH {S O:Type} {f:S→Option (S⊕O)} {s:S} (st:Nat→S) {o:O} (n fuel:Nat) (h0:st 0=s) (hn:n<fuel) (hs:∀ i,i<n→f (st i)=some (.inl (st (i+1)))) (he:f (st n)=some (.inr o)):cz f fuel s=some o:=by
 subst h0; exact BV st n fuel hn hs he
theorem th (p:Nat→Bool):∀ n,(∀ i,i<n→p i=true)∨∃ k,k<n∧(∀ i,i<k→p i=true)∧p k=false
 | 0 => .inl fun i h=>absurd h (Nat.not_lt_zero i)
 | n+1=>by
  rcases th p n with h | ⟨k,h1,h2,h3⟩
  ·cases hp:p n
   ·exact .inr ⟨n,by omega,h,hp⟩
   ·refine .inl fun i hi => ?_
    by_cases h':i=n
    ·subst h'; exact hp
    ·exact h i (by omega)
  ·exact .inr ⟨k,by omega,h2,h3⟩
theorem xA {R:Type} {f:Int→Option (Int⊕(Unit⊕R))} (p:Nat→Bool) (n:Nat) (r:R) {fuel:Nat} (hf:n<fuel) (hgo:∀ i,i<n→p i=true→f (i:Int)=some (.inl ((i+1:Nat):Int))) (hno:∀ i,i<n→p i=false→f (i:Int)=some (.inr (.inr r))) (hend:f (n:Int)=some (.inr (.inl ()))) :
  cz f fuel 0=some (if ∀ i,i<n→p i=true then .inl () else .inr r):=by
 rcases th p n with h | ⟨k,h1,h2,h3⟩
 ·rw [if_pos h]
  exact kH (fun i=>(i:Int)) n fuel rfl hf (fun i hi=>hgo i hi (h i hi)) hend
 ·rw [if_neg fun h=>by rw [h k h1] at h3; cases h3]
  exact kH (fun i=>(i:Int)) k fuel rfl (by omega) (fun i hi=>hgo i (by omega) (h2 i hi)) (hno k h1 h3)
theorem iA {n:Int} (h0 : -9223372036854775808≤n) (h1:n<9223372036854775808):some (IntKind.i64.wrap n)=some n:=by rw [qN h0 h1]
theorem qj {A:Type} (l:List A) {a b:Nat} (h1:a≤b) (h2:b≤l.length):ml l (a:Int) (b:Int)=some ((l.drop a).take (b-a)):=by
 unfold ml
 rw [if_pos (by omega)]
 simp only [Int.toNat_natCast]
theorem ij {A:Type} {k:Nat} {l m:List A} (h:(l.length+m.length) * k≤140737488355328) (h1:l.length+m.length≤140737488355328):cW k l m=some (l++m):=by
 unfold cW; rw [if_pos ⟨h,h1⟩]
end Go.Abs.Sh
