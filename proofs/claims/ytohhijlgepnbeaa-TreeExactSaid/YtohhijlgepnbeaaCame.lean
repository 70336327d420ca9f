/-
  What came in, by its type.
-/
import Derived.Test.YtohhijlgepnbeaaProg
import Derived.Test.YtohhijlgepnbeaaSh
import Derived.KernelRfl
set_option linter.unusedVariables false
set_option maxRecDepth 100000
namespace Go.Proofs.Ytohhijlgepnbeaa
open Go.Abs Go.Abs.Sh

theorem cm3 {H : Type} {enc : TypeId × Value → H} {W : World} {sp : Nat → Bool} {hd : Bool} : Came enc Try.prog W sp hd 3 (fun n : Int => [IC.v (.int .i64 n)]) (wfI .i64) := came_int Try.underlying3
theorem cm22 {H : Type} {enc : TypeId × Value → H} {W : World} {sp : Nat → Bool} {hd : Bool} : Came enc Try.prog W sp hd 22 (fun l : List Int => [IC.row 1 (List.map IC.v (List.map (Value.int .i64) l))]) (wfL (wfI .i64)) := came_row1 Try.underlying22 (by kernel_rfl) cm3
end Go.Proofs.Ytohhijlgepnbeaa
