import Derived.Test.YtkgfjkfccpjcgaaDoorShkE
import Derived.Test.YtkgfjkfccpjcgaaDoorShkH
import Derived.KernelRfl
namespace Go.Abs.Sh
set_option linter.unusedVariables false
set_option linter.unusedSimpArgs false
set_option maxRecDepth 1000000
theorem stored_is {b:List Int} (hb:∀ n∈b,0≤n∧n<256) (hl:b.length≤4096):∃ w,shrink_Stored b=some (w.b,0)∧shrink_storedBlock b=some (some w)∧WP w (stQ b):=by
 obtain ⟨w,p,q⟩:=storedBlock_eq hb (by omega)
 refine ⟨w,?_,p,q⟩
 unfold shrink_Stored
 exact cnd_f (decide_eq_false (by omega)) (bnd p rfl)
theorem dynamic_is {b:List Int} (hb:∀ n∈b,0≤n∧n<256) (hl:b.length≤4096):∃ w,shrink_Dynamic b=some (w.b,0)∧shrink_dynamicBlock (toksS b)=some (some w)∧WP w (dynP (toksS b)):=by
 obtain ⟨w,p,q⟩:=dynamicBlock_eq (tl_5000 hl) (toksS_ok hb) (check_toks hl)
 refine ⟨w,?_,p,q⟩
 unfold shrink_Dynamic
 exact bnd (tokens_eq hb hl) (cnd_f rfl (bnd p rfl))
theorem shrink_is {b:List Int} (hb:∀ n∈b,0≤n∧n<256) (hl:b.length≤4096):∃ w ps,shrink_Shrink b=some (w.b,0)∧WP w ps∧(ps=stQ b∨ps=fxP (toksS b)∨ps=dynP (toksS b))∧wid ps≤wid (stQ b)∧wid ps≤wid (fxP (toksS b))∧wid ps≤wid (dynP (toksS b)):=by
 obtain ⟨s,_,s2,s3⟩:=stored_is hb hl
 obtain ⟨f,_,f2,f3⟩:=fixed_is hb hl
 obtain ⟨d,_,d2,d3⟩:=dynamic_is hb hl
 have ns:=s3.n
 have nf:=f3.n
 have nd:=d3.n
 have key:shrink_Shrink b=some ((if d.n<(if f.n<s.n then f.n else s.n) then d.b else if f.n<s.n then f.b else s.b),0):=by
  unfold shrink_Shrink
  exact bnd (tokens_eq hb hl) (cnd_f rfl (bnd s2 (bnd f2 (bnd d2 rfl))))
 rw [key]
 by_cases h1:f.n<s.n
 ·simp only [if_pos h1]
  by_cases h2:d.n<f.n
  ·simp only [if_pos h2]
   exact ⟨d,_,rfl,d3,.inr (.inr rfl),by omega,by omega,Nat.le_refl _⟩
  ·simp only [if_neg h2]
   exact ⟨f,_,rfl,f3,.inr (.inl rfl),by omega,Nat.le_refl _,by omega⟩
 ·simp only [if_neg h1]
  by_cases h2:d.n<s.n
  ·simp only [if_pos h2]
   exact ⟨d,_,rfl,d3,.inr (.inr rfl),by omega,by omega,Nat.le_refl _⟩
  ·simp only [if_neg h2]
   exact ⟨s,_,rfl,s3,.inl rfl,Nat.le_refl _,by omega,by omega⟩
theorem wid_stQ (b:List Int):wid (stQ b)=40+8 * b.length:=by
 unfold stQ
 rw [wid_app,wid_st]; rfl
/-! Bytes by their bits. -/
end Go.Abs.Sh
