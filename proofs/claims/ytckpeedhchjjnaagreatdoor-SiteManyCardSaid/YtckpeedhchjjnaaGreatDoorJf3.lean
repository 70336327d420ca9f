import Derived.HandedShaped
import Derived.Test.YtckpeedhchjjnaaGreatDoorTie
import Derived.Test.YtckpeedhchjjnaaGreatDoorCards
import Derived.LaidMore
import Derived.Lay
import Derived.SevenTiedAt
import Derived.Stop.Joined
import Derived.KernelRfl
namespace Go.Proofs.YtckpeedhchjjnaaGreatDoor
theorem jfF:Tryz.pinned.checked.prog.funcNamed Rows.siteManyRow.func=some 3:=by kernel_rfl
theorem jfG:true=Tryz.pinned.checked.prog.looks []:=by kernel_rfl
theorem jfH:false=Rows.siteManyRow.goesBy Tryz.pinned.checked.prog:=by kernel_rfl
end Go.Proofs.YtckpeedhchjjnaaGreatDoor
