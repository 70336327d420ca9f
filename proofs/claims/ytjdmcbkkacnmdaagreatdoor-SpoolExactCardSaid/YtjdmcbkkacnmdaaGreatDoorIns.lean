import Derived.Test.YtjdmcbkkacnmdaaGreatDoorProg
import Derived.Shelf.Lays2
import Derived.KernelRfl
set_option maxRecDepth 100000
namespace Go.Proofs
def Tryz.lays2_ren:Go.Shelf.Ren:=⟨fun | 21=>50 | 27=>67 | 28=>68 | 35=>75 | 39=>85 | n=>n, fun | 0=>0 | 3=>3 | 4=>4 | 22=>29 | n=>n, fun n=>n⟩
theorem Tryz.lays2_21:Lays2.n21 Tryz.prog Tryz.lays2_ren:={
 mixed:=by kernel_rfl
 f21:=Tryz.func50.trans (congrArg some (by kernel_rfl))
 f27:=Tryz.func67.trans (congrArg some (by kernel_rfl))
 f28:=Tryz.func68.trans (congrArg some (by kernel_rfl))
 f35:=Tryz.func75.trans (congrArg some (by kernel_rfl))
 f39:=Tryz.func85.trans (congrArg some (by kernel_rfl))
 t0:=Tryz.underlying0
 a0:=Tryz.isAgg0
 z0:=Tryz.sizeOf0
 v0:=Tryz.zeroValue0
 t3:=Tryz.underlying3
 a3:=Tryz.isAgg3
 z3:=Tryz.sizeOf3
 v3:=Tryz.zeroValue3
 t4:=Tryz.underlying4
 a4:=Tryz.isAgg4
 z4:=Tryz.sizeOf4
 v4:=Tryz.zeroValue4
 t22:=Tryz.underlying29
 a22:=Tryz.isAgg29
 z22:=Tryz.sizeOf29
 v22:=Tryz.zeroValue29
 i3:=by kernel_rfl }
end Go.Proofs
