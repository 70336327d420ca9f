import Derived.Test.YtjnnkhmhjcjhdaaGreatDoorGatD
namespace Go.Abs.Sh
set_option linter.unusedVariables false
set_option linter.unusedSimpArgs false
set_option maxRecDepth 100000
theorem xv:fx=some true:=by kernel_rfl
abbrev OD:cq:=cq.mk 0 (⟨#[]⟩:ByteArray) zP [] false [] (⟨#[]⟩:ByteArray) false
abbrev gE:cq:=cq.mk 1 (⟨#[104]⟩:ByteArray) zP [] false [] (⟨#[]⟩:ByteArray) false
abbrev zN:bu:=bu.mk true (⟨#[]⟩:ByteArray) (⟨#[]⟩:ByteArray)
abbrev Jk:bu:=bu.mk false (⟨#[114]⟩:ByteArray) (⟨#[98]⟩:ByteArray)
theorem PB:(0:Int)≠4:=by decide
theorem PS:(1:Int)≠4:=by decide
theorem Mr (l:List Int) (h:l.all (fun x=>x != 13&&x != 10)=true):Ob l:=fun x hx=>by
 have:=List.all_eq_true.1 h x hx
 simpa using this
theorem zw (l:List Int) (h:l.all (fun x=>decide (0≤x)&&decide (x<256))=true):mU l:=fun x hx=>by
 have:=List.all_eq_true.1 h x hx
 simpa using this
theorem lf {i t:Int} {g g':cq} {o o':List cc} (L:List Int) (h4:g.Phase≠4) (hg:g.Buf=[]) (hL:(L.all (fun x=>x != 13&&x != 10)&&L.all (fun x=>decide (0≤x)&&decide (x<256))&&decide (L.length≤510))=true)
  (h:dz (SG i t g o) (cH L)=some (SG i t g' o')) (hg':g'.Buf=[]):FR i t (g,o) (L++[13,10]) (g',o'):=by
 simp only [Bool.and_eq_true,decide_eq_true_eq] at hL
 exact Cc h4 hg (zw L hL.1.2) (Mr L hL.1.1) hL.2 h hg'
end Go.Abs.Sh
