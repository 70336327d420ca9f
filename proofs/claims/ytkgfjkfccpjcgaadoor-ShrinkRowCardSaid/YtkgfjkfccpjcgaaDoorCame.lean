/-
  What came in, by its type.
-/
import Derived.Test.YtkgfjkfccpjcgaaDoorProg
import Derived.Test.YtkgfjkfccpjcgaaDoorSh
import Derived.KernelRfl
set_option linter.unusedVariables false
set_option maxRecDepth 100000
namespace Go.Proofs.YtkgfjkfccpjcgaaDoor
open Go.Abs Go.Abs.Sh

theorem cm3 {H : Type} {enc : TypeId × Value → H} {W : World} {sp : Nat → Bool} {hd : Bool} : Came enc Tryd.prog W sp hd 3 (fun n : Int => [IC.v (.int .i64 n)]) (wfI .i64) := came_int Tryd.underlying3
theorem cm37 {H : Type} {enc : TypeId × Value → H} {W : World} {sp : Nat → Bool} {hd : Bool} : Came enc Tryd.prog W sp hd 37 (fun l : List Int => [IC.row 1 (List.map IC.v (List.map (Value.int .i64) l))]) (wfL (wfI .i64)) := came_row1 Tryd.underlying37 (by kernel_rfl) cm3
end Go.Proofs.YtkgfjkfccpjcgaaDoor
