/-
  What came in, by its type.
-/
import Derived.Test.YtgonanjdmdlkjaaDoorProg
import Derived.Test.YtgonanjdmdlkjaaDoorSh
import Derived.KernelRfl
set_option linter.unusedVariables false
set_option maxRecDepth 100000
namespace Go.Proofs.YtgonanjdmdlkjaaDoor
open Go.Abs Go.Abs.Sh

theorem cm5 {H : Type} {enc : TypeId × Value → H} {W : World} {sp : Nat → Bool} {hd : Bool} : Came enc Tryd.prog W sp hd 5 (fun n : Int => [IC.v (.int .u8 n)]) (wfI .u8) := came_int Tryd.underlying5
theorem cm22 {H : Type} {enc : TypeId × Value → H} {W : World} {sp : Nat → Bool} {hd : Bool} : Came enc Tryd.prog W sp hd 22 (fun l : List Int => [IC.row 1 (List.map IC.v (List.map (Value.int .u8) l))]) (wfL (wfI .u8)) := came_row1 Tryd.underlying22 (by kernel_rfl) cm5
end Go.Proofs.YtgonanjdmdlkjaaDoor
