/-
  What came in, by its type.
-/
import Derived.Test.YtjnnkhmhjcjhdaaGreatDoorProg
import Derived.Test.YtjnnkhmhjcjhdaaGreatDoorSh
import Derived.KernelRfl
set_option linter.unusedVariables false
set_option maxRecDepth 100000
namespace Go.Proofs.YtjnnkhmhjcjhdaaGreatDoor
open Go.Abs Go.Abs.Sh

theorem IM {H:Type} {enc:TypeId×Value→H} {W:World} {sp:Nat→Bool} {hd:Bool}:yT enc Tryz.prog W sp hd 5 (fun n:Int=>[IC.v (.int .u8 n)]) (qf .u8):=Dg Tryz.underlying5
theorem GQ {H:Type} {enc:TypeId×Value→H} {W:World} {sp:Nat→Bool} {hd:Bool}:yT enc Tryz.prog W sp hd 28 (fun l:List Int=>[IC.row 1 (List.map IC.v (List.map (Value.int .u8) l))]) (yC (qf .u8)):=Au Tryz.underlying28 (by kernel_rfl) IM
end Go.Proofs.YtjnnkhmhjcjhdaaGreatDoor
