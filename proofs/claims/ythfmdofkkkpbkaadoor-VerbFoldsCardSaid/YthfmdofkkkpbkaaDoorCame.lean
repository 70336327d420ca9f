/-
  What came in, by its type.
-/
import Derived.Test.YthfmdofkkkpbkaaDoorProg
import Derived.Test.YthfmdofkkkpbkaaDoorSh
import Derived.KernelRfl
set_option linter.unusedVariables false
set_option maxRecDepth 100000
namespace Go.Proofs.YthfmdofkkkpbkaaDoor
open Go.Abs Go.Abs.Sh

theorem cz4 {H : Type} {enc : TypeId × Value → H} {W : World} {sp : Nat → Bool} {hd : Bool} : CameZ enc Tryd.prog W sp hd 4 (fun b : Bool => [IC.v (.bool b)]) (fun _ => True) := camez_bool Tryd.underlying4
theorem cz36 {H : Type} {enc : TypeId × Value → H} {W : World} {sp : Nat → Bool} {hd : Bool} : CameZ enc Tryd.prog W sp hd 36 (fun l : List Bool => [IC.row 1 (List.map IC.v (List.map Value.bool l))]) (wzL 1 (fun _ => True)) := camez_row1 (b := 1) (by kernel_rfl) Tryd.underlying36 (by kernel_rfl) cz4
end Go.Proofs.YthfmdofkkkpbkaaDoor
