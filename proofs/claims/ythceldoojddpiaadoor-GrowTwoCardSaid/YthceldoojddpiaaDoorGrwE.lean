import Derived.Test.YthceldoojddpiaaDoorGrwD
import Derived.KernelRfl
namespace Go.Abs.Sh
set_option linter.unusedVariables false
set_option linter.unusedSimpArgs false
set_option maxRecDepth 100000
/-! Empty blocks ahead. -/
def e5:List Int:=[0,0,0,255,255]
theorem bitC_right (A C:List Int) (q:Nat):bitC (A++C) (8 * A.length+q)=bitC C q:=by
 unfold bitC
 rw [show (8 * A.length+q) / 8=A.length+q / 8 by omega,show (8 * A.length+q) % 8=q % 8 by omega,List.getD_eq_getElem?_getD,List.getD_eq_getElem?_getD,List.getElem?_append_right (by omega),show A.length+q / 8-A.length=q / 8 by omega]
theorem bitC_left (A C:List Int) {q:Nat} (h:q<8 * A.length):bitC (A++C) q=bitC A q:=by
 unfold bitC
 rw [List.getD_eq_getElem?_getD,List.getD_eq_getElem?_getD,List.getElem?_append_left (by omega)]
theorem Sp_right (A C:List Int):∀ (ps:List (Nat×Nat)) (N:Nat),Sp ps N C→Sp ps (8 * A.length+N) (A++C)
 | [],N,h=>trivial
 | p::ps,N,h=>⟨fun t ht=>by rw [Nat.add_assoc,bitC_right]; exact h.1 t ht,by rw [Nat.add_assoc]; exact Sp_right A C ps (N+p.2) h.2⟩
theorem Sp_left (A C:List Int) {ps:List (Nat×Nat)} {N:Nat} (hN:N+wid ps≤8 * A.length) (h:Sp ps N A):Sp ps N (A++C):=Sp_keep ps N A (A++C) (fun q hq=>bitC_left A C (by omega)) h
end Go.Abs.Sh
