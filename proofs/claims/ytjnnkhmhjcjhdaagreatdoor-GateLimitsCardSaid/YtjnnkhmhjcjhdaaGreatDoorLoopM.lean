import Derived.Test.YtjnnkhmhjcjhdaaGreatDoorLawM
namespace Go.Abs.Sh
set_option linter.unusedVariables false
theorem Ir {S O:Type} {f:S→Option (S⊕O)} (st:Nat→S) {o:O}:∀ (n fuel:Nat),n<fuel→(∀ i,i<n→f (st i)=some (.inl (st (i+1))))→f (st n)=some (.inr o)→dP f fuel (st 0)=some o:=by
 intro n
 induction n generalizing st with
 | zero =>
  intro fuel hf _ he
  obtain ⟨k,rfl⟩:∃ k,fuel=k+1:=⟨fuel-1,by omega⟩
  exact ik he
 | succ n ih =>
  intro fuel hf hs he
  obtain ⟨k,rfl⟩:∃ k,fuel=k+1:=⟨fuel-1,by omega⟩
  rw [kG (hs 0 (by omega))]
  exact ih (fun i=>st (i+1)) k (by omega) (fun i hi=>hs (i+1) (by omega)) he
theorem jd {S O:Type} {f:S→Option (S⊕O)} {s:S} (st:Nat→S) {o:O} (n fuel:Nat) (h0:st 0=s) (hn:n<fuel) (hs:∀ i,i<n→f (st i)=some (.inl (st (i+1)))) (he:f (st n)=some (.inr o)):dP f fuel s=some o:=by
 subst h0; exact Ir st n fuel hn hs he
theorem uf (p:Nat→Bool):∀ n,(∀ i,i<n→p i=true)∨∃ k,k<n∧(∀ i,i<k→p i=true)∧p k=false
 | 0 => .inl fun i h=>absurd h (Nat.not_lt_zero i)
 | n+1=>by
  rcases uf p n with h | ⟨k,h1,h2,h3⟩
  ·cases hp:p n
   ·exact .inr ⟨n,by omega,h,hp⟩
   ·refine .inl fun i hi => ?_
    by_cases h':i=n
    ·subst h'; exact hp
    ·exact h i (by omega)
  ·exact .inr ⟨k,by omega,h2,h3⟩
theorem uK {R:Type} {f:Int→Option (Int⊕(Unit⊕R))} (p:Nat→Bool) (n:Nat) (r:R) {fuel:Nat} (hf:n<fuel) (hgo:∀ i,i<n→p i=true→f (i:Int)=some (.inl ((i+1:Nat):Int))) (hno:∀ i,i<n→p i=false→f (i:Int)=some (.inr (.inr r))) (hend:f (n:Int)=some (.inr (.inl ()))) :
  dP f fuel 0=some (if ∀ i,i<n→p i=true then .inl () else .inr r):=by
 rcases uf p n with h | ⟨k,h1,h2,h3⟩
 ·rw [if_pos h]
  exact jd (fun i=>(i:Int)) n fuel rfl hf (fun i hi=>hgo i hi (h i hi)) hend
 ·rw [if_neg fun h=>by rw [h k h1] at h3; cases h3]
  exact jd (fun i=>(i:Int)) k fuel rfl (by omega) (fun i hi=>hgo i (by omega) (h2 i hi)) (hno k h1 h3)
theorem Iy (n:Nat) (h:n<9223372036854775808):IntKind.i64.wrap (n:Int)=(n:Int):=vn (by omega) (by omega)
theorem jJ {n:Nat} (h:n<4611686018427387904):IntKind.i64.wrap ((n:Int)+1)=((n+1:Nat):Int):=by rw [vn (by omega) (by omega)]; simp
theorem jh {n:Int} (h0 : -9223372036854775808≤n) (h1:n<9223372036854775808):some (IntKind.i64.wrap n)=some n:=by rw [vn h0 h1]
theorem Ct {n:Int} (h0:0≤n) (h1:n<256):IntKind.u8.wrap n=n:=by
 simp only [IntKind.wrap,IntKind.bits,IntKind.signed]
 have e:(2:Int) ^ 8=256:=by decide
 simp only [e,Bool.false_and,Bool.false_eq_true,if_false]
 omega
theorem GX (a b:Nat) (hb:0<b) (ha:a<9223372036854775808):xk .i64 (a:Int) (b:Int)=some ((a / b:Nat):Int):=by
 simp only [xk]
 have:a / b≤a:=Nat.div_le_self a b
 rw [if_neg (by omega),Int.tdiv_eq_ediv_of_nonneg (by omega)]
 have e:(a:Int) / (b:Int)=((a / b:Nat):Int):=rfl
 rw [e,Iy _ (by omega)]
theorem xx (a b:Nat) (hb:0<b):qn (a:Int) (b:Int)=some ((a % b:Nat):Int):=by
 simp only [qn]
 rw [if_neg (by omega),Int.tmod_eq_emod_of_nonneg (by omega)]
 rfl
theorem ua {A:Type} {k:Nat} {l m:List A} (h:(l.length+m.length) * k≤140737488355328) (h1:l.length+m.length≤140737488355328):fZ k l m=some (l++m):=by
 unfold fZ; rw [if_pos ⟨h,h1⟩]
end Go.Abs.Sh
