import Derived.Test.YtbioodcjmceefaaBA
/-!
  Rows of bytes behind a pointer or in a variable's cell, which may begin anywhere in their block.
-/
set_option linter.unusedVariables false
set_option linter.unusedSimpArgs false
namespace Go.Abs
section
variable {P : Program} {ty : TypeId} {pos : String} {aft : Array Edge} {gd : Option (Nat × Bool)}
theorem Rs_lit {g : Gh} {V : Loc → Value} {w : World} : ∀ (xs : List Value), Rs g V w (xs.map AV.v) xs []
  | [] => by simp [Rs]
  | x :: xs => by
    simp only [List.map_cons, Rs]
    exact ⟨x, xs, [], [], rfl, rfl, by simp [R], Rs_lit xs⟩
theorem evals_v {g : Gh} {V : Loc → Value} {w : World} {N : List Ent} {oN : List Nat} {a : Act} (hv : ∀ t, V (.slot t) = a.tmps.getD t undef) (h : Es g V w N oN) : ∀ {ys : List Operand} {vs : List Value}, ys.map (rd N) = vs.map AV.v → ys.map a.eval = vs
  | [], [], _ => rfl
  | y :: ys, v :: vs, he => by
    simp only [List.map_cons, List.cons.injEq] at he ⊢
    exact ⟨rd_v hv h he.1, evals_v hv h he.2⟩
end
/-! A part of a region whose ways meet again. -/
inductive Dp : Nat → List Oper → List Oper → Prop
  | z {l : List Oper} : Dp 0 l l
  | s {n : Nat} {o : Oper} {l l' : List Oper} : Dp n l l' → Dp (n + 1) (o :: l) l'
section
variable {P : Program} {Q : Exit → Act → World → Prop} {g0 : Gh} {rnd : Option Nat} {ops : Array Oper}
end
end Go.Abs
