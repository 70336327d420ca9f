import Derived.Test.YtkgfjkfccpjcgaaDoorShkR
import Derived.Test.YtkgfjkfccpjcgaaDoorCanS
import Derived.KernelRfl
namespace Go.Abs.Sh
set_option linter.unusedVariables false
set_option linter.unusedSimpArgs false
set_option maxRecDepth 1000000
/-! Read back. -/
theorem take_run {l:List Int} {i n:Nat} (hi:i≤l.length) (h:n≤runL l i):l.take i++List.replicate n (l.getD i 0)=l.take (i+n):=by
 have hle:=run_le l i
 apply List.ext_getElem?
 intro j
 rw [List.getElem?_append,List.getElem?_replicate,List.length_take]
 simp only [List.getElem?_take]
 by_cases h1:j<min i l.length
 ·rw [if_pos h1,if_pos (by omega),if_pos (by omega)]
 ·rw [if_neg h1]
  by_cases h2:j<i+n
  ·have hn:0<runL l i:=by
    by_cases hz:i<l.length
    ·exact run_pos hz
    ·omega
   rw [if_pos (by omega),if_pos h2]
   have:=run_at (l:=l) (i:=i) (j:=j-i) (by omega)
   rw [show i+(j-i)=j by omega] at this
   exact this.symm
  ·rw [if_neg (by omega),if_neg h2]
theorem stp_back {l:List Int} (hv:∀ n∈l,0≤n∧n≤15) {i:Nat} (hi:i<l.length):((stpL l i).1=18∧l.getD i 0=0∧(stpL l i).2.2=11+(stpL l i).2.1)∨((stpL l i).1=17∧l.getD i 0=0∧(stpL l i).2.2=3+(stpL l i).2.1) ∨
  ((stpL l i).1=16∧0<i∧l.getD (i-1) 0=l.getD i 0∧(stpL l i).2.2=3+(stpL l i).2.1)∨((stpL l i).1=l.getD i 0∧0≤l.getD i 0∧l.getD i 0≤15∧(stpL l i).2=(0,1)):=by
 have hx:=hv _ (List.getElem_mem hi)
 rw [← getDa hi] at hx
 have hp:=run_pos hi
 unfold stpL stpR
 by_cases h1:l.getD i 0=0∧11≤runL l i
 ·rw [if_pos h1]; exact .inl ⟨rfl,h1.1,by simp only; omega⟩
 ·rw [if_neg h1]
  by_cases h2:l.getD i 0=0∧3≤runL l i
  ·rw [if_pos h2]; exact .inr (.inl ⟨rfl,h2.1,by simp only; omega⟩)
  ·rw [if_neg h2]
   by_cases h3:l.getD i 0≠0∧3≤runL l i∧prvR l i=true
   ·rw [if_pos h3]
    have:=of_decide_eq_true h3.2.2
    exact .inr (.inr (.inl ⟨rfl,this.1,this.2,by simp only; omega⟩))
   ·rw [if_neg h3]; exact .inr (.inr (.inr ⟨rfl,hx.1,hx.2,rfl⟩))
end Go.Abs.Sh
