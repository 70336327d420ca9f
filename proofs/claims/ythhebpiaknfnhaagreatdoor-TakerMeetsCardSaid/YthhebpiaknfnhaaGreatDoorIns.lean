/-
  slices.Insert at a row of numbers: where its functions and types stand in this program.
-/
import Derived.Test.YthhebpiaknfnhaaGreatDoorProg
import Derived.Shelf.Lays2
import Derived.KernelRfl
set_option maxRecDepth 100000
namespace Go.Proofs
def Tryz.lays2_ren:Go.Shelf.Ren:=⟨fun | 21=>45 | 27=>55 | 28=>56 | 35=>61 | 39=>67 | n=>n, fun | 0=>0 | 3=>3 | 4=>4 | 22=>31 | n=>n, fun n=>n⟩
theorem Tryz.lays2_21:Lays2.n21 Tryz.prog Tryz.lays2_ren:={
  mixed:=by kernel_rfl
  f21:=Tryz.func45.trans (congrArg some (by kernel_rfl))
  f27:=Tryz.func55.trans (congrArg some (by kernel_rfl))
  f28:=Tryz.func56.trans (congrArg some (by kernel_rfl))
  f35:=Tryz.func61.trans (congrArg some (by kernel_rfl))
  f39:=Tryz.func67.trans (congrArg some (by kernel_rfl))
  t0:=Tryz.underlying0
  a0:=Tryz.isAgg0
  z0:=Tryz.sizeOf0
  v0:=Tryz.zeroValue0
  t3:=Tryz.underlying3
  a3:=Tryz.isAgg3
  z3:=Tryz.sizeOf3
  v3:=Tryz.zeroValue3
  t4:=Tryz.underlying4
  a4:=Tryz.isAgg4
  z4:=Tryz.sizeOf4
  v4:=Tryz.zeroValue4
  t22:=Tryz.underlying31
  a22:=Tryz.isAgg31
  z22:=Tryz.sizeOf31
  v22:=Tryz.zeroValue31
  i3:=by kernel_rfl }
end Go.Proofs
