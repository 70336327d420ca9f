/-
  What came in, by its type.
-/
import Derived.Test.YtabnbhknefibaaaDoorProg
import Derived.Test.YtabnbhknefibaaaDoorSh
import Derived.KernelRfl
set_option linter.unusedVariables false
set_option maxRecDepth 100000
namespace Go.Proofs.YtabnbhknefibaaaDoor
open Go.Abs Go.Abs.Sh

theorem cm4 {H : Type} {enc : TypeId × Value → H} {W : World} {sp : Nat → Bool} {hd : Bool} : Came enc Tryd.prog W sp hd 4 (fun b : Bool => [IC.v (.bool b)]) (fun _ => True) := came_bool Tryd.underlying4
theorem cm48 {H : Type} {enc : TypeId × Value → H} {W : World} {sp : Nat → Bool} {hd : Bool} : Came enc Tryd.prog W sp hd 48 (fun l : List Bool => [IC.row 1 (List.map IC.v (List.map Value.bool l))]) (wfL (fun _ => True)) := came_row1 Tryd.underlying48 (by kernel_rfl) cm4
end Go.Proofs.YtabnbhknefibaaaDoor
