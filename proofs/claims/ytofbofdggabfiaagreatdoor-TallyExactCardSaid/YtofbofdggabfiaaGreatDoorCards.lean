/-
  DERIVED. GIVEN WITH THE SEED: THE CARDS: each row of YtofbofdggabfiaaGreatDoorRows.lean that lists a variable, with what it lists TIED to the program's text (the seventh form; the later family's looks); each row that meets fmt, with fmt's text TOLD by the authors' own Lean function (tested against real Go, not proved from fmt's source: count such statements apart). THE CARD IS WHAT COUNTS. Prove the row's statement (the work); the ties are given (YtofbofdggabfiaaGreatDoorTie.lean); close each card by the builder's one call (the guide's Derived/Test/ToyasCard.lean, 'card_holds'). Laid BY PROGRAM, IN A SANDBOX (cutbox-door.mjs). By AI agents, Wed Nov 11 2026. No macro, syntax, notation, axiom, sorry.
-/
import Derived.Test.YtofbofdggabfiaaGreatDoorRows
import GoSem.ClaimSeven
namespace Go.Proofs.YtofbofdggabfiaaGreatDoor
namespace Rows

/-- THE TIED CARD OF 'wherrylaw26.TallyExact'. -/
def tallyExactCard : Claim7 := { stood := { row := tallyExactRow, standIns := [], harness := (true, "de5e23eab66de0aa9ff804c9fcdcfb295289a76b2e9ed7588d342c676e4bd525"), looks := false }, kinds := [], alts := [], laidByText := true, laidKinds := [.data, .pinned], laidTests := true, laidLooks := .later }
def TallyExactCardSaid : Prop := Claim7.holds Tryz.pinned (.plain (OpenSpec.ofChange tallyExactSpec)) tallyExactCard

/-- THE SECOND FORM's CARD OF 'wherrylaw26.TallyExact'. -/
def tallyExactUptoCard : Claim7 := { stood := { row := tallyExactUptoRow, standIns := [], harness := (true, "de5e23eab66de0aa9ff804c9fcdcfb295289a76b2e9ed7588d342c676e4bd525"), looks := false }, kinds := [], alts := [], laidByText := true, laidKinds := [.data, .pinned], laidTests := true, laidLooks := .later }
def TallyExactUptoCardSaid : Prop := Claim7.holds Tryz.pinned (.plain (OpenSpec.upto tallyExactSpec)) tallyExactUptoCard
end Rows
end Go.Proofs.YtofbofdggabfiaaGreatDoor
