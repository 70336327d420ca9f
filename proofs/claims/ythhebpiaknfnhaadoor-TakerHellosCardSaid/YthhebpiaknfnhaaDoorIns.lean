/-
  slices.Insert at a row of numbers: where its functions and types stand in this program.
-/
import Derived.Test.YthhebpiaknfnhaaDoorProg
import Derived.Shelf.Lays2
import Derived.KernelRfl
set_option maxRecDepth 100000
namespace Go.Proofs
def Tryd.lays2_ren : Go.Shelf.Ren := ⟨fun | 21 => 28 | 27 => 41 | 28 => 42 | 35 => 48 | 39 => 54 | n => n, fun | 0 => 0 | 3 => 3 | 4 => 4 | 22 => 28 | n => n, fun n => n⟩
theorem Tryd.lays2_21 : Lays2.n21 Tryd.prog Tryd.lays2_ren := {
  mixed := by kernel_rfl
  f21 := Tryd.func28.trans (congrArg some (by kernel_rfl))
  f27 := Tryd.func41.trans (congrArg some (by kernel_rfl))
  f28 := Tryd.func42.trans (congrArg some (by kernel_rfl))
  f35 := Tryd.func48.trans (congrArg some (by kernel_rfl))
  f39 := Tryd.func54.trans (congrArg some (by kernel_rfl))
  t0 := Tryd.underlying0
  a0 := Tryd.isAgg0
  z0 := Tryd.sizeOf0
  v0 := Tryd.zeroValue0
  t3 := Tryd.underlying3
  a3 := Tryd.isAgg3
  z3 := Tryd.sizeOf3
  v3 := Tryd.zeroValue3
  t4 := Tryd.underlying4
  a4 := Tryd.isAgg4
  z4 := Tryd.sizeOf4
  v4 := Tryd.zeroValue4
  t22 := Tryd.underlying28
  a22 := Tryd.isAgg28
  z22 := Tryd.sizeOf28
  v22 := Tryd.zeroValue28
  i3 := by kernel_rfl }
end Go.Proofs
