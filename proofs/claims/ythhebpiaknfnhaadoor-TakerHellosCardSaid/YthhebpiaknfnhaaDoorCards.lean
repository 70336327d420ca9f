/-
  DERIVED. GIVEN WITH THE SEED: THE CARDS: each row of YthhebpiaknfnhaaDoorRows.lean that lists a variable, with what it lists TIED to the program's text (the seventh form; the later family's looks); each row that meets fmt, with fmt's text TOLD by the authors' own Lean function (tested against real Go, not proved from fmt's source: count such statements apart). THE CARD IS WHAT COUNTS. Prove the row's statement (the work); the ties are given (YthhebpiaknfnhaaDoorTie.lean); close each card by the builder's one call (the guide's Derived/Test/ToyasCard.lean, 'card_holds'). Laid BY PROGRAM, IN A SANDBOX (cutbox-door.mjs). By AI agents, Wed Nov 11 2026. No macro, syntax, notation, axiom, sorry.
-/
import Derived.Test.YthhebpiaknfnhaaDoorRows
import GoSem.ClaimSeven
namespace Go.Proofs.YthhebpiaknfnhaaDoor
namespace Rows

/-- THE TIED CARD OF 'wherrylaw22.TakerHellos'. -/
def takerHellosCard : Claim7 := { stood := { row := takerHellosRow, standIns := [], harness := (true, "3f93dc5d73bd5252b93d28c1a4cac6cda47aacec03d8762368a32ff4762438ad"), looks := false }, kinds := [], alts := [], laidByText := true, laidKinds := [.data, .pinned], laidTests := true, laidLooks := .later }
def TakerHellosCardSaid : Prop := Claim7.holds Tryd.pinned (.plain (OpenSpec.ofChange takerHellosSpec)) takerHellosCard

/-- THE SECOND FORM's CARD OF 'wherrylaw22.TakerHellos'. -/
def takerHellosUptoCard : Claim7 := { stood := { row := takerHellosUptoRow, standIns := [], harness := (true, "3f93dc5d73bd5252b93d28c1a4cac6cda47aacec03d8762368a32ff4762438ad"), looks := false }, kinds := [], alts := [], laidByText := true, laidKinds := [.data, .pinned], laidTests := true, laidLooks := .later }
def TakerHellosUptoCardSaid : Prop := Claim7.holds Tryd.pinned (.plain (OpenSpec.upto takerHellosSpec)) takerHellosUptoCard
end Rows
end Go.Proofs.YthhebpiaknfnhaaDoor
