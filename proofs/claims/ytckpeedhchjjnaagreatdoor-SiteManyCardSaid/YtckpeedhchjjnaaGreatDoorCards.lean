/-
  DERIVED. GIVEN WITH THE SEED: THE CARDS: each row of YtckpeedhchjjnaaGreatDoorRows.lean that lists a variable, with what it lists TIED to the program's text (the seventh form; the later family's looks); each row that meets fmt, with fmt's text TOLD by the authors' own Lean function (tested against real Go, not proved from fmt's source: count such statements apart). THE CARD IS WHAT COUNTS. Prove the row's statement (the work); the ties are given (YtckpeedhchjjnaaGreatDoorTie.lean); close each card by the builder's one call (the guide's Derived/Test/ToyasCard.lean, 'card_holds'). Laid BY PROGRAM, IN A SANDBOX (cutbox-door.mjs). By AI agents, Wed Nov 11 2026. No macro, syntax, notation, axiom, sorry.
-/
import Derived.Test.YtckpeedhchjjnaaGreatDoorRows
import GoSem.ClaimSeven
namespace Go.Proofs.YtckpeedhchjjnaaGreatDoor
namespace Rows

/-- THE TIED CARD OF 'wherrylaw24.SiteMany'. -/
def siteManyCard : Claim7 := { stood := { row := siteManyRow, standIns := [], harness := (true, "3f47f8002a27df710da4d1df00b4b2314377dc53ae1b776b9846532f2827bd76"), looks := true }, kinds := [], alts := [], laidByText := true, laidKinds := [.data, .data, .data, .data, .data, .data, .data, .sentinel, .sentinel, .data, .pinned], laidTests := true, laidLooks := .later }
def SiteManyCardSaid : Prop := Claim7.holds Tryz.pinned (.plain (OpenSpec.ofChange siteManySpec)) siteManyCard

/-- THE SECOND FORM's CARD OF 'wherrylaw24.SiteMany'. -/
def siteManyUptoCard : Claim7 := { stood := { row := siteManyUptoRow, standIns := [], harness := (true, "3f47f8002a27df710da4d1df00b4b2314377dc53ae1b776b9846532f2827bd76"), looks := true }, kinds := [], alts := [], laidByText := true, laidKinds := [.data, .data, .data, .data, .data, .data, .data, .sentinel, .sentinel, .data, .pinned], laidTests := true, laidLooks := .later }
def SiteManyUptoCardSaid : Prop := Claim7.holds Tryz.pinned (.plain (OpenSpec.upto siteManySpec)) siteManyUptoCard
end Rows
end Go.Proofs.YtckpeedhchjjnaaGreatDoor
