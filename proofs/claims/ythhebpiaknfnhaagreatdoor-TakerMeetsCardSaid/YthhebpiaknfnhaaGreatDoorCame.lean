/-
  What came in, by its type.
-/
import Derived.Test.YthhebpiaknfnhaaGreatDoorProg
import Derived.Test.YthhebpiaknfnhaaGreatDoorSh
import Derived.KernelRfl
set_option linter.unusedVariables false
set_option maxRecDepth 100000
namespace Go.Proofs.YthhebpiaknfnhaaGreatDoor
open Go.Abs Go.Abs.Sh

theorem cm5 {H:Type} {enc:TypeId×Value→H} {W:World} {sp:Nat→Bool} {hd:Bool}:Came enc Tryz.prog W sp hd 5 (fun n:Int=>[IC.v (.int .u8 n)]) (wfI .u8):=came_int Tryz.underlying5
theorem cm22 {H:Type} {enc:TypeId×Value→H} {W:World} {sp:Nat→Bool} {hd:Bool}:Came enc Tryz.prog W sp hd 22 (fun l:List Int=>[IC.row 1 (List.map IC.v (List.map (Value.int .u8) l))]) (wfL (wfI .u8)):=came_row1 Tryz.underlying22 (by kernel_rfl) cm5
theorem cm4 {H:Type} {enc:TypeId×Value→H} {W:World} {sp:Nat→Bool} {hd:Bool}:Came enc Tryz.prog W sp hd 4 (fun b:Bool=>[IC.v (.bool b)]) (fun _=>True):=came_bool Tryz.underlying4
theorem cm23 {H:Type} {enc:TypeId×Value→H} {W:World} {sp:Nat→Bool} {hd:Bool}:Came enc Tryz.prog W sp hd 23 (fun l:List Bool=>[IC.row 1 (List.map IC.v (List.map Value.bool l))]) (wfL (fun _=>True)):=came_row1 Tryz.underlying23 (by kernel_rfl) cm4
end Go.Proofs.YthhebpiaknfnhaaGreatDoor
