/-
  DERIVED. GIVEN WITH THE SEED: THE CARDS: each row of YtjnnkhmhjcjhdaaGreatDoorRows.lean that lists a variable, with what it lists TIED to the program's text (the seventh form; the later family's looks); each row that meets fmt, with fmt's text TOLD by the authors' own Lean function (tested against real Go, not proved from fmt's source: count such statements apart). THE CARD IS WHAT COUNTS. Prove the row's statement (the work); the ties are given (YtjnnkhmhjcjhdaaGreatDoorTie.lean); close each card by the builder's one call (the guide's Derived/Test/ToyasCard.lean, 'card_holds'). Laid BY PROGRAM, IN A SANDBOX (cutbox-door.mjs). By AI agents, Wed Nov 11 2026. No macro, syntax, notation, axiom, sorry.
-/
import Derived.Test.YtjnnkhmhjcjhdaaGreatDoorRows
import GoSem.ClaimSeven
namespace Go.Proofs.YtjnnkhmhjcjhdaaGreatDoor
namespace Rows

/-- THE TIED CARD OF 'wherrylaw23.GateParts'. -/
def gatePartsCard : Claim7 := { stood := { row := gatePartsRow, standIns := [], harness := (true, "a7aafa883f8ad755866d007a519e8581e5dcfa371c87fe61ea40ec0f0a8cb5ae"), looks := true }, kinds := [], alts := [], laidByText := true, laidKinds := [.data, .data, .data, .data, .data, .data, .sentinel, .sentinel, .pinned], laidTests := true, laidLooks := .later }
def GatePartsCardSaid : Prop := Claim7.holds Tryz.pinned (.plain (OpenSpec.ofChange gatePartsSpec)) gatePartsCard

/-- THE TIED CARD OF 'wherrylaw23.GateMail'. -/
def gateMailCard : Claim7 := { stood := { row := gateMailRow, standIns := [], harness := (true, "a7aafa883f8ad755866d007a519e8581e5dcfa371c87fe61ea40ec0f0a8cb5ae"), looks := true }, kinds := [], alts := [], laidByText := true, laidKinds := [.data, .data, .data, .data, .data, .data, .sentinel, .sentinel, .pinned], laidTests := true, laidLooks := .later }
def GateMailCardSaid : Prop := Claim7.holds Tryz.pinned (.plain (OpenSpec.ofChange gateMailSpec)) gateMailCard

/-- THE TIED CARD OF 'wherrylaw23.GateProves'. -/
def gateProvesCard : Claim7 := { stood := { row := gateProvesRow, standIns := [], harness := (true, "a7aafa883f8ad755866d007a519e8581e5dcfa371c87fe61ea40ec0f0a8cb5ae"), looks := true }, kinds := [], alts := [], laidByText := true, laidKinds := [.data, .data, .data, .data, .data, .data, .sentinel, .sentinel, .pinned], laidTests := true, laidLooks := .later }
def GateProvesCardSaid : Prop := Claim7.holds Tryz.pinned (.plain (OpenSpec.ofChange gateProvesSpec)) gateProvesCard

/-- THE TIED CARD OF 'wherrylaw23.GateOrder'. -/
def gateOrderCard : Claim7 := { stood := { row := gateOrderRow, standIns := [], harness := (true, "a7aafa883f8ad755866d007a519e8581e5dcfa371c87fe61ea40ec0f0a8cb5ae"), looks := true }, kinds := [], alts := [], laidByText := true, laidKinds := [.data, .data, .data, .data, .data, .data, .sentinel, .sentinel, .pinned], laidTests := true, laidLooks := .later }
def GateOrderCardSaid : Prop := Claim7.holds Tryz.pinned (.plain (OpenSpec.ofChange gateOrderSpec)) gateOrderCard

/-- THE TIED CARD OF 'wherrylaw23.GateLimits'. -/
def gateLimitsCard : Claim7 := { stood := { row := gateLimitsRow, standIns := [], harness := (true, "a7aafa883f8ad755866d007a519e8581e5dcfa371c87fe61ea40ec0f0a8cb5ae"), looks := true }, kinds := [], alts := [], laidByText := true, laidKinds := [.data, .data, .data, .data, .data, .data, .sentinel, .sentinel, .pinned], laidTests := true, laidLooks := .later }
def GateLimitsCardSaid : Prop := Claim7.holds Tryz.pinned (.plain (OpenSpec.ofChange gateLimitsSpec)) gateLimitsCard

/-- THE TIED CARD OF 'wherrylaw23.GateLong'. -/
def gateLongCard : Claim7 := { stood := { row := gateLongRow, standIns := [], harness := (true, "a7aafa883f8ad755866d007a519e8581e5dcfa371c87fe61ea40ec0f0a8cb5ae"), looks := true }, kinds := [], alts := [], laidByText := true, laidKinds := [.data, .data, .data, .data, .data, .data, .sentinel, .sentinel, .pinned], laidTests := true, laidLooks := .later }
def GateLongCardSaid : Prop := Claim7.holds Tryz.pinned (.plain (OpenSpec.ofChange gateLongSpec)) gateLongCard

/-- THE TIED CARD OF 'wherrylaw23.GateResets'. -/
def gateResetsCard : Claim7 := { stood := { row := gateResetsRow, standIns := [], harness := (true, "a7aafa883f8ad755866d007a519e8581e5dcfa371c87fe61ea40ec0f0a8cb5ae"), looks := true }, kinds := [], alts := [], laidByText := true, laidKinds := [.data, .data, .data, .data, .data, .data, .sentinel, .sentinel, .pinned], laidTests := true, laidLooks := .later }
def GateResetsCardSaid : Prop := Claim7.holds Tryz.pinned (.plain (OpenSpec.ofChange gateResetsSpec)) gateResetsCard

/-- THE TIED CARD OF 'wherrylaw23.GateBodies'. -/
def gateBodiesCard : Claim7 := { stood := { row := gateBodiesRow, standIns := [], harness := (true, "a7aafa883f8ad755866d007a519e8581e5dcfa371c87fe61ea40ec0f0a8cb5ae"), looks := true }, kinds := [], alts := [], laidByText := true, laidKinds := [.data, .data, .data, .data, .data, .data, .sentinel, .sentinel, .pinned], laidTests := true, laidLooks := .later }
def GateBodiesCardSaid : Prop := Claim7.holds Tryz.pinned (.plain (OpenSpec.ofChange gateBodiesSpec)) gateBodiesCard

/-- THE SECOND FORM's CARD OF 'wherrylaw23.GateParts'. -/
def gatePartsUptoCard : Claim7 := { stood := { row := gatePartsUptoRow, standIns := [], harness := (true, "a7aafa883f8ad755866d007a519e8581e5dcfa371c87fe61ea40ec0f0a8cb5ae"), looks := true }, kinds := [], alts := [], laidByText := true, laidKinds := [.data, .data, .data, .data, .data, .data, .sentinel, .sentinel, .pinned], laidTests := true, laidLooks := .later }
def GatePartsUptoCardSaid : Prop := Claim7.holds Tryz.pinned (.plain (OpenSpec.upto gatePartsSpec)) gatePartsUptoCard

/-- THE SECOND FORM's CARD OF 'wherrylaw23.GateMail'. -/
def gateMailUptoCard : Claim7 := { stood := { row := gateMailUptoRow, standIns := [], harness := (true, "a7aafa883f8ad755866d007a519e8581e5dcfa371c87fe61ea40ec0f0a8cb5ae"), looks := true }, kinds := [], alts := [], laidByText := true, laidKinds := [.data, .data, .data, .data, .data, .data, .sentinel, .sentinel, .pinned], laidTests := true, laidLooks := .later }
def GateMailUptoCardSaid : Prop := Claim7.holds Tryz.pinned (.plain (OpenSpec.upto gateMailSpec)) gateMailUptoCard

/-- THE SECOND FORM's CARD OF 'wherrylaw23.GateProves'. -/
def gateProvesUptoCard : Claim7 := { stood := { row := gateProvesUptoRow, standIns := [], harness := (true, "a7aafa883f8ad755866d007a519e8581e5dcfa371c87fe61ea40ec0f0a8cb5ae"), looks := true }, kinds := [], alts := [], laidByText := true, laidKinds := [.data, .data, .data, .data, .data, .data, .sentinel, .sentinel, .pinned], laidTests := true, laidLooks := .later }
def GateProvesUptoCardSaid : Prop := Claim7.holds Tryz.pinned (.plain (OpenSpec.upto gateProvesSpec)) gateProvesUptoCard

/-- THE SECOND FORM's CARD OF 'wherrylaw23.GateOrder'. -/
def gateOrderUptoCard : Claim7 := { stood := { row := gateOrderUptoRow, standIns := [], harness := (true, "a7aafa883f8ad755866d007a519e8581e5dcfa371c87fe61ea40ec0f0a8cb5ae"), looks := true }, kinds := [], alts := [], laidByText := true, laidKinds := [.data, .data, .data, .data, .data, .data, .sentinel, .sentinel, .pinned], laidTests := true, laidLooks := .later }
def GateOrderUptoCardSaid : Prop := Claim7.holds Tryz.pinned (.plain (OpenSpec.upto gateOrderSpec)) gateOrderUptoCard

/-- THE SECOND FORM's CARD OF 'wherrylaw23.GateLimits'. -/
def gateLimitsUptoCard : Claim7 := { stood := { row := gateLimitsUptoRow, standIns := [], harness := (true, "a7aafa883f8ad755866d007a519e8581e5dcfa371c87fe61ea40ec0f0a8cb5ae"), looks := true }, kinds := [], alts := [], laidByText := true, laidKinds := [.data, .data, .data, .data, .data, .data, .sentinel, .sentinel, .pinned], laidTests := true, laidLooks := .later }
def GateLimitsUptoCardSaid : Prop := Claim7.holds Tryz.pinned (.plain (OpenSpec.upto gateLimitsSpec)) gateLimitsUptoCard

/-- THE SECOND FORM's CARD OF 'wherrylaw23.GateLong'. -/
def gateLongUptoCard : Claim7 := { stood := { row := gateLongUptoRow, standIns := [], harness := (true, "a7aafa883f8ad755866d007a519e8581e5dcfa371c87fe61ea40ec0f0a8cb5ae"), looks := true }, kinds := [], alts := [], laidByText := true, laidKinds := [.data, .data, .data, .data, .data, .data, .sentinel, .sentinel, .pinned], laidTests := true, laidLooks := .later }
def GateLongUptoCardSaid : Prop := Claim7.holds Tryz.pinned (.plain (OpenSpec.upto gateLongSpec)) gateLongUptoCard

/-- THE SECOND FORM's CARD OF 'wherrylaw23.GateResets'. -/
def gateResetsUptoCard : Claim7 := { stood := { row := gateResetsUptoRow, standIns := [], harness := (true, "a7aafa883f8ad755866d007a519e8581e5dcfa371c87fe61ea40ec0f0a8cb5ae"), looks := true }, kinds := [], alts := [], laidByText := true, laidKinds := [.data, .data, .data, .data, .data, .data, .sentinel, .sentinel, .pinned], laidTests := true, laidLooks := .later }
def GateResetsUptoCardSaid : Prop := Claim7.holds Tryz.pinned (.plain (OpenSpec.upto gateResetsSpec)) gateResetsUptoCard

/-- THE SECOND FORM's CARD OF 'wherrylaw23.GateBodies'. -/
def gateBodiesUptoCard : Claim7 := { stood := { row := gateBodiesUptoRow, standIns := [], harness := (true, "a7aafa883f8ad755866d007a519e8581e5dcfa371c87fe61ea40ec0f0a8cb5ae"), looks := true }, kinds := [], alts := [], laidByText := true, laidKinds := [.data, .data, .data, .data, .data, .data, .sentinel, .sentinel, .pinned], laidTests := true, laidLooks := .later }
def GateBodiesUptoCardSaid : Prop := Claim7.holds Tryz.pinned (.plain (OpenSpec.upto gateBodiesSpec)) gateBodiesUptoCard
end Rows
end Go.Proofs.YtjnnkhmhjcjhdaaGreatDoor
