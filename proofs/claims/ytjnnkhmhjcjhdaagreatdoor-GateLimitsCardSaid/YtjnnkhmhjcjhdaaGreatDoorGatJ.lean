import Derived.Test.YtjnnkhmhjcjhdaaGreatDoorGatS
import Derived.Test.YtjnnkhmhjcjhdaaGreatDoorGatR
namespace Go.Abs.Sh
set_option linter.unusedVariables false
set_option linter.unusedSimpArgs false
set_option maxRecDepth 100000
def tA:List Int:=[77,65,73,76,32,70,82,79,77,58,60,62,32,83,73,90,69,61]
abbrev BL:ByteArray:=⟨#[83,73,90,69]⟩
def Aq (k:Nat):Bool:=decide (uc (tA++nc k)=(dA.mk 2 (⟨#[]⟩:ByteArray) zN [bX.mk BL (cH (nc k))],0))&&(decide (jI (cH (nc k))=some (k:Int))&&((nc k).all (fun x=>decide (48≤x)&&decide (x≤57))&&decide ((nc k).length≤4)))
theorem MX:(List.range 500).all (fun k=>Aq (k+0))=true:=by kernel_rfl
theorem Nt:(List.range 500).all (fun k=>Aq (k+500))=true:=by kernel_rfl
theorem MZ:(List.range 500).all (fun k=>Aq (k+1000))=true:=by kernel_rfl
theorem NY:(List.range 500).all (fun k=>Aq (k+1500))=true:=by kernel_rfl
theorem NP:(List.range 500).all (fun k=>Aq (k+2000))=true:=by kernel_rfl
theorem NX:(List.range 500).all (fun k=>Aq (k+2500))=true:=by kernel_rfl
theorem KI (k:Nat) (h:k<3000):Aq k=true:=by
 have go:∀ m,(List.range 500).all (fun k=>Aq (k+m))=true→m≤k→k<m+500→Aq k=true:=fun m hm h1 h2=>by
  have:=List.all_eq_true.1 hm (k-m) (List.mem_range.2 (by omega))
  rwa [Nat.sub_add_cancel h1] at this
 by_cases h1:k<500
 ·exact go 0 MX (by omega) (by omega)
 by_cases h2:k<1000
 ·exact go 500 Nt (by omega) (by omega)
 by_cases h3:k<1500
 ·exact go 1000 MZ (by omega) (by omega)
 by_cases h4:k<2000
 ·exact go 1500 NY (by omega) (by omega)
 by_cases h5:k<2500
 ·exact go 2000 NP (by omega) (by omega)
 ·exact go 2500 NX (by omega) (by omega)
end Go.Abs.Sh
