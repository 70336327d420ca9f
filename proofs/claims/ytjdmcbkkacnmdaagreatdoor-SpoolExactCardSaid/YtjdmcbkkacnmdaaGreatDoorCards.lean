/-
  DERIVED. GIVEN WITH THE SEED: THE CARDS: each row of YtjdmcbkkacnmdaaGreatDoorRows.lean that lists a variable, with what it lists TIED to the program's text (the seventh form; the later family's looks); each row that meets fmt, with fmt's text TOLD by the authors' own Lean function (tested against real Go, not proved from fmt's source: count such statements apart). THE CARD IS WHAT COUNTS. Prove the row's statement (the work); the ties are given (YtjdmcbkkacnmdaaGreatDoorTie.lean); close each card by the builder's one call (the guide's Derived/Test/ToyasCard.lean, 'card_holds'). Laid BY PROGRAM, IN A SANDBOX (cutbox-door.mjs). By AI agents, Wed Nov 11 2026. No macro, syntax, notation, axiom, sorry.
-/
import Derived.Test.YtjdmcbkkacnmdaaGreatDoorRows
import GoSem.ClaimSeven
namespace Go.Proofs.YtjdmcbkkacnmdaaGreatDoor
namespace Rows

/-- THE TIED CARD OF 'wherrylaw19.SpoolExact'. -/
def spoolExactCard : Claim7 := { stood := { row := spoolExactRow, standIns := [], harness := (true, "88dc75893aadb9174ce61ead087d5b5ffd4a4b68ab7cf44d56f3e5b169636f46"), looks := false }, kinds := [], alts := [], laidByText := true, laidKinds := [.data, .pinned], laidTests := true, laidLooks := .later }
def SpoolExactCardSaid : Prop := Claim7.holds Tryz.pinned (.plain (OpenSpec.ofChange spoolExactSpec)) spoolExactCard

/-- THE TIED CARD OF 'wherrylaw19.SpoolLean'. -/
def spoolLeanCard : Claim7 := { stood := { row := spoolLeanRow, standIns := [], harness := (true, "88dc75893aadb9174ce61ead087d5b5ffd4a4b68ab7cf44d56f3e5b169636f46"), looks := false }, kinds := [], alts := [], laidByText := true, laidKinds := [.data, .pinned], laidTests := true, laidLooks := .later }
def SpoolLeanCardSaid : Prop := Claim7.holds Tryz.pinned (.plain (OpenSpec.ofChange spoolLeanSpec)) spoolLeanCard

/-- THE TIED CARD OF 'wherrylaw19.SpoolUnnamed'. -/
def spoolUnnamedCard : Claim7 := { stood := { row := spoolUnnamedRow, standIns := [], harness := (true, "88dc75893aadb9174ce61ead087d5b5ffd4a4b68ab7cf44d56f3e5b169636f46"), looks := false }, kinds := [], alts := [], laidByText := true, laidKinds := [.data, .pinned], laidTests := true, laidLooks := .later }
def SpoolUnnamedCardSaid : Prop := Claim7.holds Tryz.pinned (.plain (OpenSpec.ofChange spoolUnnamedSpec)) spoolUnnamedCard

/-- THE SECOND FORM's CARD OF 'wherrylaw19.SpoolExact'. -/
def spoolExactUptoCard : Claim7 := { stood := { row := spoolExactUptoRow, standIns := [], harness := (true, "88dc75893aadb9174ce61ead087d5b5ffd4a4b68ab7cf44d56f3e5b169636f46"), looks := false }, kinds := [], alts := [], laidByText := true, laidKinds := [.data, .pinned], laidTests := true, laidLooks := .later }
def SpoolExactUptoCardSaid : Prop := Claim7.holds Tryz.pinned (.plain (OpenSpec.upto spoolExactSpec)) spoolExactUptoCard

/-- THE SECOND FORM's CARD OF 'wherrylaw19.SpoolLean'. -/
def spoolLeanUptoCard : Claim7 := { stood := { row := spoolLeanUptoRow, standIns := [], harness := (true, "88dc75893aadb9174ce61ead087d5b5ffd4a4b68ab7cf44d56f3e5b169636f46"), looks := false }, kinds := [], alts := [], laidByText := true, laidKinds := [.data, .pinned], laidTests := true, laidLooks := .later }
def SpoolLeanUptoCardSaid : Prop := Claim7.holds Tryz.pinned (.plain (OpenSpec.upto spoolLeanSpec)) spoolLeanUptoCard

/-- THE SECOND FORM's CARD OF 'wherrylaw19.SpoolUnnamed'. -/
def spoolUnnamedUptoCard : Claim7 := { stood := { row := spoolUnnamedUptoRow, standIns := [], harness := (true, "88dc75893aadb9174ce61ead087d5b5ffd4a4b68ab7cf44d56f3e5b169636f46"), looks := false }, kinds := [], alts := [], laidByText := true, laidKinds := [.data, .pinned], laidTests := true, laidLooks := .later }
def SpoolUnnamedUptoCardSaid : Prop := Claim7.holds Tryz.pinned (.plain (OpenSpec.upto spoolUnnamedSpec)) spoolUnnamedUptoCard
end Rows
end Go.Proofs.YtjdmcbkkacnmdaaGreatDoor
