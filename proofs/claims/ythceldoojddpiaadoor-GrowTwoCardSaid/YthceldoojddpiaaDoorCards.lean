/-
  DERIVED. GIVEN WITH THE SEED: THE CARDS: each row of YthceldoojddpiaaDoorRows.lean that lists a variable, with what it lists TIED to the program's text (the seventh form; the later family's looks); each row that meets fmt, with fmt's text TOLD by the authors' own Lean function (tested against real Go, not proved from fmt's source: count such statements apart). THE CARD IS WHAT COUNTS. Prove the row's statement (the work); the ties are given (YthceldoojddpiaaDoorTie.lean); close each card by the builder's one call (the guide's Derived/Test/ToyasCard.lean, 'card_holds'). Laid BY PROGRAM, IN A SANDBOX (cutbox-door.mjs). By AI agents, Wed Nov 11 2026. No macro, syntax, notation, axiom, sorry.
-/
import Derived.Test.YthceldoojddpiaaDoorRows
import GoSem.ClaimSeven
namespace Go.Proofs.YthceldoojddpiaaDoor
namespace Rows

/-- THE TIED CARD OF 'wherrylaw07.GrowBack'. -/
def growBackCard : Claim7 := { stood := { row := growBackRow, standIns := [], harness := (true, "da8e02bd3a74d51c4bdb20a790356f489a72c29e74a137ae2a2f089ab19b1cfd"), looks := false }, kinds := [], alts := [], laidByText := true, laidKinds := [.data, .data], laidTests := true, laidLooks := .later }
def GrowBackCardSaid : Prop := Claim7.holds Tryd.pinned (.plain (OpenSpec.ofChange growBackSpec)) growBackCard

/-- THE TIED CARD OF 'wherrylaw07.GrowCut'. -/
def growCutCard : Claim7 := { stood := { row := growCutRow, standIns := [], harness := (true, "da8e02bd3a74d51c4bdb20a790356f489a72c29e74a137ae2a2f089ab19b1cfd"), looks := false }, kinds := [], alts := [], laidByText := true, laidKinds := [.data], laidTests := true, laidLooks := .later }
def GrowCutCardSaid : Prop := Claim7.holds Tryd.pinned (.plain (OpenSpec.ofChange growCutSpec)) growCutCard

/-- THE TIED CARD OF 'wherrylaw07.GrowTwo'. -/
def growTwoCard : Claim7 := { stood := { row := growTwoRow, standIns := [], harness := (true, "da8e02bd3a74d51c4bdb20a790356f489a72c29e74a137ae2a2f089ab19b1cfd"), looks := false }, kinds := [], alts := [], laidByText := true, laidKinds := [.data, .data], laidTests := true, laidLooks := .later }
def GrowTwoCardSaid : Prop := Claim7.holds Tryd.pinned (.plain (OpenSpec.ofChange growTwoSpec)) growTwoCard

/-- THE TIED CARD OF 'wherrylaw07.GrowFar'. -/
def growFarCard : Claim7 := { stood := { row := growFarRow, standIns := [], harness := (true, "da8e02bd3a74d51c4bdb20a790356f489a72c29e74a137ae2a2f089ab19b1cfd"), looks := false }, kinds := [], alts := [], laidByText := true, laidKinds := [.data], laidTests := true, laidLooks := .later }
def GrowFarCardSaid : Prop := Claim7.holds Tryd.pinned (.plain (OpenSpec.ofChange growFarSpec)) growFarCard

/-- THE TIED CARD OF 'wherrylaw07.GrowMore'. -/
def growMoreCard : Claim7 := { stood := { row := growMoreRow, standIns := [], harness := (true, "da8e02bd3a74d51c4bdb20a790356f489a72c29e74a137ae2a2f089ab19b1cfd"), looks := false }, kinds := [], alts := [], laidByText := true, laidKinds := [.data], laidTests := true, laidLooks := .later }
def GrowMoreCardSaid : Prop := Claim7.holds Tryd.pinned (.plain (OpenSpec.ofChange growMoreSpec)) growMoreCard

/-- THE TIED CARD OF 'wherrylaw07.GrowBad'. -/
def growBadCard : Claim7 := { stood := { row := growBadRow, standIns := [], harness := (true, "da8e02bd3a74d51c4bdb20a790356f489a72c29e74a137ae2a2f089ab19b1cfd"), looks := false }, kinds := [], alts := [], laidByText := true, laidKinds := [.data], laidTests := true, laidLooks := .later }
def GrowBadCardSaid : Prop := Claim7.holds Tryd.pinned (.plain (OpenSpec.ofChange growBadSpec)) growBadCard

/-- THE TIED CARD OF 'wherrylaw07.GrowEmpty'. -/
def growEmptyCard : Claim7 := { stood := { row := growEmptyRow, standIns := [], harness := (true, "da8e02bd3a74d51c4bdb20a790356f489a72c29e74a137ae2a2f089ab19b1cfd"), looks := false }, kinds := [], alts := [], laidByText := true, laidKinds := [.data, .data], laidTests := true, laidLooks := .later }
def GrowEmptyCardSaid : Prop := Claim7.holds Tryd.pinned (.plain (OpenSpec.ofChange growEmptySpec)) growEmptyCard

/-- THE SECOND FORM's CARD OF 'wherrylaw07.GrowBack'. -/
def growBackUptoCard : Claim7 := { stood := { row := growBackUptoRow, standIns := [], harness := (true, "da8e02bd3a74d51c4bdb20a790356f489a72c29e74a137ae2a2f089ab19b1cfd"), looks := false }, kinds := [], alts := [], laidByText := true, laidKinds := [.data, .data], laidTests := true, laidLooks := .later }
def GrowBackUptoCardSaid : Prop := Claim7.holds Tryd.pinned (.plain (OpenSpec.upto growBackSpec)) growBackUptoCard

/-- THE SECOND FORM's CARD OF 'wherrylaw07.GrowCut'. -/
def growCutUptoCard : Claim7 := { stood := { row := growCutUptoRow, standIns := [], harness := (true, "da8e02bd3a74d51c4bdb20a790356f489a72c29e74a137ae2a2f089ab19b1cfd"), looks := false }, kinds := [], alts := [], laidByText := true, laidKinds := [.data], laidTests := true, laidLooks := .later }
def GrowCutUptoCardSaid : Prop := Claim7.holds Tryd.pinned (.plain (OpenSpec.upto growCutSpec)) growCutUptoCard

/-- THE SECOND FORM's CARD OF 'wherrylaw07.GrowTwo'. -/
def growTwoUptoCard : Claim7 := { stood := { row := growTwoUptoRow, standIns := [], harness := (true, "da8e02bd3a74d51c4bdb20a790356f489a72c29e74a137ae2a2f089ab19b1cfd"), looks := false }, kinds := [], alts := [], laidByText := true, laidKinds := [.data, .data], laidTests := true, laidLooks := .later }
def GrowTwoUptoCardSaid : Prop := Claim7.holds Tryd.pinned (.plain (OpenSpec.upto growTwoSpec)) growTwoUptoCard

/-- THE SECOND FORM's CARD OF 'wherrylaw07.GrowFar'. -/
def growFarUptoCard : Claim7 := { stood := { row := growFarUptoRow, standIns := [], harness := (true, "da8e02bd3a74d51c4bdb20a790356f489a72c29e74a137ae2a2f089ab19b1cfd"), looks := false }, kinds := [], alts := [], laidByText := true, laidKinds := [.data], laidTests := true, laidLooks := .later }
def GrowFarUptoCardSaid : Prop := Claim7.holds Tryd.pinned (.plain (OpenSpec.upto growFarSpec)) growFarUptoCard

/-- THE SECOND FORM's CARD OF 'wherrylaw07.GrowMore'. -/
def growMoreUptoCard : Claim7 := { stood := { row := growMoreUptoRow, standIns := [], harness := (true, "da8e02bd3a74d51c4bdb20a790356f489a72c29e74a137ae2a2f089ab19b1cfd"), looks := false }, kinds := [], alts := [], laidByText := true, laidKinds := [.data], laidTests := true, laidLooks := .later }
def GrowMoreUptoCardSaid : Prop := Claim7.holds Tryd.pinned (.plain (OpenSpec.upto growMoreSpec)) growMoreUptoCard

/-- THE SECOND FORM's CARD OF 'wherrylaw07.GrowBad'. -/
def growBadUptoCard : Claim7 := { stood := { row := growBadUptoRow, standIns := [], harness := (true, "da8e02bd3a74d51c4bdb20a790356f489a72c29e74a137ae2a2f089ab19b1cfd"), looks := false }, kinds := [], alts := [], laidByText := true, laidKinds := [.data], laidTests := true, laidLooks := .later }
def GrowBadUptoCardSaid : Prop := Claim7.holds Tryd.pinned (.plain (OpenSpec.upto growBadSpec)) growBadUptoCard

/-- THE SECOND FORM's CARD OF 'wherrylaw07.GrowEmpty'. -/
def growEmptyUptoCard : Claim7 := { stood := { row := growEmptyUptoRow, standIns := [], harness := (true, "da8e02bd3a74d51c4bdb20a790356f489a72c29e74a137ae2a2f089ab19b1cfd"), looks := false }, kinds := [], alts := [], laidByText := true, laidKinds := [.data, .data], laidTests := true, laidLooks := .later }
def GrowEmptyUptoCardSaid : Prop := Claim7.holds Tryd.pinned (.plain (OpenSpec.upto growEmptySpec)) growEmptyUptoCard
end Rows
end Go.Proofs.YthceldoojddpiaaDoor
