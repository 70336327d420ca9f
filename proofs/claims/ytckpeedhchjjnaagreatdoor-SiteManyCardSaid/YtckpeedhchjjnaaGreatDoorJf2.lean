import Derived.HandedShaped
import Derived.Test.YtckpeedhchjjnaaGreatDoorTie
import Derived.Test.YtckpeedhchjjnaaGreatDoorCards
import Derived.LaidMore
import Derived.Lay
import Derived.SevenTiedAt
import Derived.Stop.Joined
import Derived.KernelRfl
namespace Go.Proofs.YtckpeedhchjjnaaGreatDoor
theorem jfC:(Rows.siteManyRow.recurses==Tryz.pinned.checked.prog.recurses 3)=true:=by kernel_rfl
theorem jfD:(Rows.siteManyRow.named==Tryz.pinned.checked.prog.varsNamed 3)=true:=by kernel_rfl
end Go.Proofs.YtckpeedhchjjnaaGreatDoor
