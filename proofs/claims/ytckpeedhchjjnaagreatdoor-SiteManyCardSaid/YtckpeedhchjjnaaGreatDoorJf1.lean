import Derived.HandedShaped
import Derived.Test.YtckpeedhchjjnaaGreatDoorTie
import Derived.Test.YtckpeedhchjjnaaGreatDoorCards
import Derived.LaidMore
import Derived.Lay
import Derived.SevenTiedAt
import Derived.Stop.Joined
import Derived.KernelRfl
namespace Go.Proofs.YtckpeedhchjjnaaGreatDoor
theorem jfA:(Rows.siteManyRow.inPlace==Tryz.pinned.checked.prog.inPlace 3)=true:=by kernel_rfl
theorem jfB:(Rows.siteManyRow.unfollowed==Tryz.pinned.checked.prog.unfollowed 3)=true:=by kernel_rfl
end Go.Proofs.YtckpeedhchjjnaaGreatDoor
