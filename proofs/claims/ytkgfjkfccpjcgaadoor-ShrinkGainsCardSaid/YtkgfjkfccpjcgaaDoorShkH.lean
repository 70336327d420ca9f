import Derived.Test.YtkgfjkfccpjcgaaDoorShkT
import Derived.KernelRfl
namespace Go.Abs.Sh
set_option linter.unusedVariables false
set_option linter.unusedSimpArgs false
set_option maxRecDepth 1000000
theorem wakes6:wherrylaw06_wakes=some true:=by kernel_rfl
theorem inlB {A:Type} {a b:Bool} (h:a=b):(some (.inl a):Option (Bool⊕A))=some (.inl b):=by rw [h]
def fxP (l:List T_Tok):List (Nat×Nat):=[(1,1),(1,2)]++(tksP mL mD l++[syP mL 256])
def stQ (b:List Int):List (Nat×Nat):=[(1,1),(0,2),(0,5),(b.length,16),(65535-b.length,16)]++stP b
theorem tl_5000 {b:List Int} (hl:b.length≤4096):(toksS b).length≤5000:=by
 have:=toksS_len b
 omega
theorem fixed_is {b:List Int} (hb:∀ n∈b,0≤n∧n<256) (hl:b.length≤4096):∃ w,shrink_Fixed b=some (w.b,0)∧shrink_fixedBlock (toksS b)=some (some w)∧WP w (fxP (toksS b)):=by
 obtain ⟨w,p,q⟩:=fixedBlock_eq (tl_5000 hl) (toksS_ok hb)
 refine ⟨w,?_,p,q⟩
 unfold shrink_Fixed
 exact bnd (tokens_eq hb hl) (cnd_f rfl (bnd p rfl))
theorem check_toks {b:List Int} (hl:b.length≤4096):match_Check (toksS b)=some 0:=by
 have:=toksS_len b
 rw [check_eq (by omega)]
 unfold ckE
 rw [chk_toksS b]
 show some (if 4096<b.length then (2:Int) else 0)=some 0
 rw [if_neg (by omega)]
end Go.Abs.Sh
