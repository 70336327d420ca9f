import Derived.Test.YthceldoojddpiaaDoorLawM
namespace Go.Abs.Sh
set_option linter.unusedVariables false
theorem loop_run {S O:Type} {f:S→Option (S⊕O)} (st:Nat→S) {o:O}:∀ (n fuel:Nat),n<fuel→(∀ i,i<n→f (st i)=some (.inl (st (i+1))))→f (st n)=some (.inr o)→loopF f fuel (st 0)=some o:=by
 intro n
 induction n generalizing st with
 | zero =>
  intro fuel hf _ he
  obtain ⟨k,rfl⟩:∃ k,fuel=k+1:=⟨fuel-1,by omega⟩
  exact loop_exit he
 | succ n ih =>
  intro fuel hf hs he
  obtain ⟨k,rfl⟩:∃ k,fuel=k+1:=⟨fuel-1,by omega⟩
  rw [loop_next (hs 0 (by omega))]
  exact ih (fun i=>st (i+1)) k (by omega) (fun i hi=>hs (i+1) (by omega)) he
theorem loop_from {S O:Type} {f:S→Option (S⊕O)} {s:S} (st:Nat→S) {o:O} (n fuel:Nat) (h0:st 0=s) (hn:n<fuel) (hs:∀ i,i<n→f (st i)=some (.inl (st (i+1)))) (he:f (st n)=some (.inr o)):loopF f fuel s=some o:=by
 subst h0; exact loop_run st n fuel hn hs he
theorem wrap_nat (n:Nat) (h:n<9223372036854775808):IntKind.i64.wrap (n:Int)=(n:Int):=wrap_i64 (by omega) (by omega)
theorem wrap_succ {n:Nat} (h:n<4611686018427387904):IntKind.i64.wrap ((n:Int)+1)=((n+1:Nat):Int):=by rw [wrap_i64 (by omega) (by omega)]; simp
theorem quo_nat (a b:Nat) (hb:0<b) (ha:a<9223372036854775808):quoO .i64 (a:Int) (b:Int)=some ((a / b:Nat):Int):=by
 simp only [quoO]
 have:a / b≤a:=Nat.div_le_self a b
 rw [if_neg (by omega),Int.tdiv_eq_ediv_of_nonneg (by omega)]
 have e:(a:Int) / (b:Int)=((a / b:Nat):Int):=rfl
 rw [e,wrap_nat _ (by omega)]
theorem rem_nat (a b:Nat) (hb:0<b):remO (a:Int) (b:Int)=some ((a % b:Nat):Int):=by
 simp only [remO]
 rw [if_neg (by omega),Int.tmod_eq_emod_of_nonneg (by omega)]
 rfl
theorem sli_nat {A:Type} (l:List A) {a b:Nat} (h1:a≤b) (h2:b≤l.length):sliO l (a:Int) (b:Int)=some ((l.drop a).take (b-a)):=by
 unfold sliO
 rw [if_pos (by omega)]
 simp only [Int.toNat_natCast]
theorem app_of {A:Type} {k:Nat} {l m:List A} (h:(l.length+m.length) * k≤140737488355328) (h1:l.length+m.length≤140737488355328):appO k l m=some (l++m):=by
 unfold appO; rw [if_pos ⟨h,h1⟩]
end Go.Abs.Sh
