/-
  DERIVED. GIVEN WITH THE SEED: THE CARDS: each row of YthhebpiaknfnhaaGreatDoorRows.lean that lists a variable, with what it lists TIED to the program's text (the seventh form; the later family's looks); each row that meets fmt, with fmt's text TOLD by the authors' own Lean function (tested against real Go, not proved from fmt's source: count such statements apart). THE CARD IS WHAT COUNTS. Prove the row's statement (the work); the ties are given (YthhebpiaknfnhaaGreatDoorTie.lean); close each card by the builder's one call (the guide's Derived/Test/ToyasCard.lean, 'card_holds'). Laid BY PROGRAM, IN A SANDBOX (cutbox-door.mjs). By AI agents, Wed Nov 11 2026. No macro, syntax, notation, axiom, sorry.
-/
import Derived.Test.YthhebpiaknfnhaaGreatDoorRows
import GoSem.ClaimSeven
namespace Go.Proofs.YthhebpiaknfnhaaGreatDoor
namespace Rows

/-- THE TIED CARD OF 'wherrylaw22.TakerMeets'. -/
def takerMeetsCard : Claim7 := { stood := { row := takerMeetsRow, standIns := [], harness := (true, "015e517fe1c112fcf09370fb86ffd73536dbef0a9a016a3161f4f04d7f6e5450"), looks := false }, kinds := [], alts := [], laidByText := true, laidKinds := [.data, .pinned], laidTests := true, laidLooks := .later }
def TakerMeetsCardSaid : Prop := Claim7.holds Tryz.pinned (.plain (OpenSpec.ofChange takerMeetsSpec)) takerMeetsCard

/-- THE SECOND FORM's CARD OF 'wherrylaw22.TakerMeets'. -/
def takerMeetsUptoCard : Claim7 := { stood := { row := takerMeetsUptoRow, standIns := [], harness := (true, "015e517fe1c112fcf09370fb86ffd73536dbef0a9a016a3161f4f04d7f6e5450"), looks := false }, kinds := [], alts := [], laidByText := true, laidKinds := [.data, .pinned], laidTests := true, laidLooks := .later }
def TakerMeetsUptoCardSaid : Prop := Claim7.holds Tryz.pinned (.plain (OpenSpec.upto takerMeetsSpec)) takerMeetsUptoCard
end Rows
end Go.Proofs.YthhebpiaknfnhaaGreatDoor
