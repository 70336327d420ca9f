import Derived.Test.YtjnnkhmhjcjhdaaGreatDoorNumM
import Derived.KernelRfl
namespace Go.Abs.Sh
set_option linter.unusedVariables false
theorem cJ {A R:Type} {m:Option A} {f:A→Option R} {x:A} {r:Option R} (h:m=some x) (h2:f x=r):m.bind f=r:=by subst h; exact h2
theorem cW {S A R:Type} {m:Option (S⊕A)} {k:S→Option R} {e:A→Option R} {s:S} {r:Option R} (h:m=some (.inl s)) (h2:k s=r):cu m k e=r:=by subst h; exact h2
theorem yJ {S A R:Type} {m:Option (S⊕A)} {k:S→Option R} {e:A→Option R} {a:A} {r:Option R} (h:m=some (.inr a)) (h2:e a=r):cu m k e=r:=by subst h; exact h2
theorem kG {S O:Type} {step:S→Option (S⊕O)} {n:Nat} {s s':S} (h:step s=some (.inl s')):dP step (n+1) s=dP step n s':=by
 simp only [dP,h]
theorem ik {S O:Type} {step:S→Option (S⊕O)} {n:Nat} {s:S} {o:O} (h:step s=some (.inr o)):dP step (n+1) s=some o:=by
 simp only [dP,h]
theorem bY {R:Type} {c:Bool} {x y r:R} (hc:c=false) (h:y=r):cond c x y=r:=by subst hc; exact h
theorem cx {R:Type} {c:Bool} {x y r:R} (hc:c=true) (h:x=r):cond c x y=r:=by subst hc; exact h
end Go.Abs.Sh
