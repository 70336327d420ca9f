import Derived.HandedShaped
import Derived.Test.YtckpeedhchjjnaaGreatDoorTie
import Derived.Test.YtckpeedhchjjnaaGreatDoorCards
import Derived.LaidMore
import Derived.Lay
import Derived.SevenTiedAt
import Derived.Stop.Joined
import Derived.KernelRfl
import Derived.Test.YtckpeedhchjjnaaGreatDoorJf1
import Derived.Test.YtckpeedhchjjnaaGreatDoorJf2
namespace Go.Proofs.YtckpeedhchjjnaaGreatDoor
theorem jfE:joinedFacts Tryz.pinned.checked.prog 3 Tryz.f3 Rows.siteManySpec Rows.siteManyRow=true:=by
 unfold joinedFacts
 rw [jfA,jfB,jfC,jfD]
 kernel_rfl
end Go.Proofs.YtckpeedhchjjnaaGreatDoor
