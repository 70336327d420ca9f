import Derived.Test.YtjnnkhmhjcjhdaaGreatDoorNumM
import Derived.KernelRfl
namespace Go.Abs.Sh
set_option linter.unusedVariables false
theorem dR {A R:Type} {m:Option A} {f:A→Option R} {x:A} {r:Option R} (h:m=some x) (h2:f x=r):m.bind f=r:=by subst h; exact h2
theorem iz {S A R:Type} {m:Option (S⊕A)} {k:S→Option R} {e:A→Option R} {s:S} {r:Option R} (h:m=some (.inl s)) (h2:k s=r):eb m k e=r:=by subst h; exact h2
theorem Wf {S A R:Type} {m:Option (S⊕A)} {k:S→Option R} {e:A→Option R} {a:A} {r:Option R} (h:m=some (.inr a)) (h2:e a=r):eb m k e=r:=by subst h; exact h2
theorem PK {S O:Type} {step:S→Option (S⊕O)} {n:Nat} {s s':S} (h:step s=some (.inl s')):fN step (n+1) s=fN step n s':=by
 simp only [fN,h]
theorem PV {S O:Type} {step:S→Option (S⊕O)} {n:Nat} {s:S} {o:O} (h:step s=some (.inr o)):fN step (n+1) s=some o:=by
 simp only [fN,h]
theorem eG {R:Type} {c:Bool} {x y r:R} (hc:c=false) (h:y=r):cond c x y=r:=by subst hc; exact h
theorem fm {R:Type} {c:Bool} {x y r:R} (hc:c=true) (h:x=r):cond c x y=r:=by subst hc; exact h
end Go.Abs.Sh
