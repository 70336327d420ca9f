import Derived.Test.YtbioodcjmceefaaNumM
import Derived.KernelRfl
namespace Go.Abs.Sh
set_option linter.unusedVariables false
theorem bnd {A R : Type} {m : Option A} {f : A → Option R} {x : A} {r : Option R} (h : m = some x) (h2 : f x = r) : m.bind f = r := by subst h; exact h2
theorem bndL {S A R : Type} {m : Option (S ⊕ A)} {k : S → Option R} {e : A → Option R} {s : S} {r : Option R} (h : m = some (.inl s)) (h2 : k s = r) : bindS m k e = r := by subst h; exact h2
theorem bndR {S A R : Type} {m : Option (S ⊕ A)} {k : S → Option R} {e : A → Option R} {a : A} {r : Option R} (h : m = some (.inr a)) (h2 : e a = r) : bindS m k e = r := by subst h; exact h2
theorem loop_next {S O : Type} {step : S → Option (S ⊕ O)} {n : Nat} {s s' : S} (h : step s = some (.inl s')) : loopF step (n + 1) s = loopF step n s' := by
  simp only [loopF, h]
theorem loop_exit {S O : Type} {step : S → Option (S ⊕ O)} {n : Nat} {s : S} {o : O} (h : step s = some (.inr o)) : loopF step (n + 1) s = some o := by
  simp only [loopF, h]
theorem cnd_f {R : Type} {c : Bool} {x y r : R} (hc : c = false) (h : y = r) : cond c x y = r := by subst hc; exact h
theorem cnd_t {R : Type} {c : Bool} {x y r : R} (hc : c = true) (h : x = r) : cond c x y = r := by subst hc; exact h
end Go.Abs.Sh
