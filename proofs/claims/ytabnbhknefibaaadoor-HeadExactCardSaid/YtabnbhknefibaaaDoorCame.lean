/-
  What came in, by its type.
-/
import Derived.Test.YtabnbhknefibaaaDoorProg
import Derived.Test.YtabnbhknefibaaaDoorSh
import Derived.KernelRfl
set_option linter.unusedVariables false
set_option maxRecDepth 100000
namespace Go.Proofs.YtabnbhknefibaaaDoor
open Go.Abs Go.Abs.Sh

theorem cz5 {H : Type} {enc : TypeId × Value → H} {W : World} {sp : Nat → Bool} {hd : Bool} : CameZ enc Tryd.prog W sp hd 5 (fun n : Int => [IC.v (.int .u8 n)]) (wfI .u8) := camez_int Tryd.underlying5
theorem cz22 {H : Type} {enc : TypeId × Value → H} {W : World} {sp : Nat → Bool} {hd : Bool} : CameZ enc Tryd.prog W sp hd 22 (fun l : List Int => [IC.row 1 (List.map IC.v (List.map (Value.int .u8) l))]) (wzL 1 (wfI .u8)) := camez_row1 (b := 1) (by kernel_rfl) Tryd.underlying22 (by kernel_rfl) cz5
end Go.Proofs.YtabnbhknefibaaaDoor
