import Derived.Test.YtkgfjkfccpjcgaaDoorProg
import Derived.Test.YtkgfjkfccpjcgaaDoorSh
import Derived.KernelRfl
set_option linter.unusedVariables false
set_option maxRecDepth 100000
namespace Go.Proofs.YtkgfjkfccpjcgaaDoor
open Go.Abs Go.Abs.Sh

theorem Lk {H:Type} {enc:TypeId×Value→H} {W:World} {sp:Nat→Bool} {hd:Bool}:yN enc Tryd.prog W sp hd 5 (fun n:Int=>[IC.v (.int .u8 n)]) (lm .u8):=Cw Tryd.underlying5
theorem KD {H:Type} {enc:TypeId×Value→H} {W:World} {sp:Nat→Bool} {hd:Bool}:yN enc Tryd.prog W sp hd 22 (fun l:List Int=>[IC.row 1 (List.map IC.v (List.map (Value.int .u8) l))]) (Dr (lm .u8)):=Bp Tryd.underlying22 (by kernel_rfl) Lk
end Go.Proofs.YtkgfjkfccpjcgaaDoor
