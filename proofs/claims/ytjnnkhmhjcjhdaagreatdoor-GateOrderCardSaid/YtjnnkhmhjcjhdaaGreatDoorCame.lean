/-
 What came in, by its type.
-/
import Derived.Test.YtjnnkhmhjcjhdaaGreatDoorProg
import Derived.Test.YtjnnkhmhjcjhdaaGreatDoorSh
set_option linter.unusedVariables false
set_option maxRecDepth 100000
namespace Go.Proofs.YtjnnkhmhjcjhdaaGreatDoor
open Go.Abs Go.Abs.Sh

theorem Em {H:Type} {enc:TypeId×Value→H} {W:World} {sp:Nat→Bool} {hd:Bool}:sA enc Tryz.prog W sp hd 3 (fun n:Int=>[IC.v (.int .i64 n)]) (mf .i64):=tA Tryz.underlying3
theorem CN {H:Type} {enc:TypeId×Value→H} {W:World} {sp:Nat→Bool} {hd:Bool}:sA enc Tryz.prog W sp hd 31 (fun l:List Int=>[IC.row 1 (List.map IC.v (List.map (Value.int .i64) l))]) (uw (mf .i64)):=rk Tryz.underlying31 (by kernel_rfl) Em
theorem En {H:Type} {enc:TypeId×Value→H} {W:World} {sp:Nat→Bool} {hd:Bool}:sA enc Tryz.prog W sp hd 5 (fun n:Int=>[IC.v (.int .u8 n)]) (mf .u8):=tA Tryz.underlying5
theorem Df {H:Type} {enc:TypeId×Value→H} {W:World} {sp:Nat→Bool} {hd:Bool}:sA enc Tryz.prog W sp hd 28 (fun l:List Int=>[IC.row 1 (List.map IC.v (List.map (Value.int .u8) l))]) (uw (mf .u8)):=rk Tryz.underlying28 (by kernel_rfl) En
end Go.Proofs.YtjnnkhmhjcjhdaaGreatDoor
