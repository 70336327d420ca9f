import Derived.Test.YtjnnkhmhjcjhdaaGreatDoorGatD
namespace Go.Abs.Sh
set_option linter.unusedVariables false
set_option linter.unusedSimpArgs false
set_option maxRecDepth 100000
theorem EX:mh=some true:=by kernel_rfl
abbrev UE:cz:=cz.mk false (⟨#[114]⟩:ByteArray) (⟨#[98]⟩:ByteArray)
theorem Xh:(0:Int)≠4:=by decide
theorem Xj:(1:Int)≠4:=by decide
theorem Xy:(2:Int)≠4:=by decide
theorem WN:(3:Int)≠4:=by decide
theorem Xc (l:List Int) (h:l.all (fun x=>x != 13&&x != 10)=true):Wz l:=fun x hx=>by
 have:=List.all_eq_true.1 h x hx
 simpa using this
theorem Ou (l:List Int) (h:l.all (fun x=>decide (0≤x)&&decide (x<256))=true):BA l:=fun x hx=>by
 have:=List.all_eq_true.1 h x hx
 simpa using this
theorem lf {i t:Int} {g g':dE} {o o':List dG} (L:List Int) (h4:g.Phase≠4) (hg:g.Buf=[]) (hL:(L.all (fun x=>x != 13&&x != 10)&&L.all (fun x=>decide (0≤x)&&decide (x<256))&&decide (L.length≤510))=true)
  (h:eU (SG i t g o) (lz L)=some (SG i t g' o')) (hg':g'.Buf=[]):FR i t (g,o) (L++[13,10]) (g',o'):=by
 simp only [Bool.and_eq_true,decide_eq_true_eq] at hL
 exact Ox h4 hg (Ou L hL.1.2) (Xc L hL.1.1) hL.2 h hg'
end Go.Abs.Sh
