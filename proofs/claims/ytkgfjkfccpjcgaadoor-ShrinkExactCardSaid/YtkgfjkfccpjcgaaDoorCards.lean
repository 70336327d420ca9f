/-
  DERIVED. GIVEN WITH THE SEED: THE CARDS: each row of YtkgfjkfccpjcgaaDoorRows.lean that lists a variable, with what it lists TIED to the program's text (the seventh form; the later family's looks); each row that meets fmt, with fmt's text TOLD by the authors' own Lean function (tested against real Go, not proved from fmt's source: count such statements apart). THE CARD IS WHAT COUNTS. Prove the row's statement (the work); the ties are given (YtkgfjkfccpjcgaaDoorTie.lean); close each card by the builder's one call (the guide's Derived/Test/ToyasCard.lean, 'card_holds'). Laid BY PROGRAM, IN A SANDBOX (cutbox-door.mjs). By AI agents, Wed Nov 11 2026. No macro, syntax, notation, axiom, sorry.
-/
import Derived.Test.YtkgfjkfccpjcgaaDoorRows
import GoSem.ClaimSeven
namespace Go.Proofs.YtkgfjkfccpjcgaaDoor
namespace Rows

/-- THE TIED CARD OF 'wherrylaw06.ShrinkExact'. -/
def shrinkExactCard : Claim7 := { stood := { row := shrinkExactRow, standIns := [], harness := (true, "95bf423e54d617eaa9e8d61919020d47254ab7abd159bb00bb9911d6f2ccd476"), looks := false }, kinds := [], alts := [], laidByText := true, laidKinds := [.data], laidTests := true, laidLooks := .later }
def ShrinkExactCardSaid : Prop := Claim7.holds Tryd.pinned (.plain (OpenSpec.ofChange shrinkExactSpec)) shrinkExactCard

/-- THE TIED CARD OF 'wherrylaw06.ShrinkBack'. -/
def shrinkBackCard : Claim7 := { stood := { row := shrinkBackRow, standIns := [], harness := (true, "95bf423e54d617eaa9e8d61919020d47254ab7abd159bb00bb9911d6f2ccd476"), looks := false }, kinds := [], alts := [], laidByText := true, laidKinds := [.data], laidTests := true, laidLooks := .later }
def ShrinkBackCardSaid : Prop := Claim7.holds Tryd.pinned (.plain (OpenSpec.ofChange shrinkBackSpec)) shrinkBackCard

/-- THE TIED CARD OF 'wherrylaw06.ShrinkLeast'. -/
def shrinkLeastCard : Claim7 := { stood := { row := shrinkLeastRow, standIns := [], harness := (true, "95bf423e54d617eaa9e8d61919020d47254ab7abd159bb00bb9911d6f2ccd476"), looks := false }, kinds := [], alts := [], laidByText := true, laidKinds := [.data], laidTests := true, laidLooks := .later }
def ShrinkLeastCardSaid : Prop := Claim7.holds Tryd.pinned (.plain (OpenSpec.ofChange shrinkLeastSpec)) shrinkLeastCard

/-- THE TIED CARD OF 'wherrylaw06.ShrinkLong'. -/
def shrinkLongCard : Claim7 := { stood := { row := shrinkLongRow, standIns := [], harness := (true, "95bf423e54d617eaa9e8d61919020d47254ab7abd159bb00bb9911d6f2ccd476"), looks := false }, kinds := [], alts := [], laidByText := true, laidKinds := [.data], laidTests := true, laidLooks := .later }
def ShrinkLongCardSaid : Prop := Claim7.holds Tryd.pinned (.plain (OpenSpec.ofChange shrinkLongSpec)) shrinkLongCard

/-- THE TIED CARD OF 'wherrylaw06.ShrinkRow'. -/
def shrinkRowCard : Claim7 := { stood := { row := shrinkRowRow, standIns := [], harness := (true, "95bf423e54d617eaa9e8d61919020d47254ab7abd159bb00bb9911d6f2ccd476"), looks := false }, kinds := [], alts := [], laidByText := true, laidKinds := [.data], laidTests := true, laidLooks := .later }
def ShrinkRowCardSaid : Prop := Claim7.holds Tryd.pinned (.plain (OpenSpec.ofChange shrinkRowSpec)) shrinkRowCard

/-- THE TIED CARD OF 'wherrylaw06.ShrinkBits'. -/
def shrinkBitsCard : Claim7 := { stood := { row := shrinkBitsRow, standIns := [], harness := (true, "95bf423e54d617eaa9e8d61919020d47254ab7abd159bb00bb9911d6f2ccd476"), looks := false }, kinds := [], alts := [], laidByText := true, laidKinds := [.data], laidTests := true, laidLooks := .later }
def ShrinkBitsCardSaid : Prop := Claim7.holds Tryd.pinned (.plain (OpenSpec.ofChange shrinkBitsSpec)) shrinkBitsCard

/-- THE TIED CARD OF 'wherrylaw06.ShrinkUnlike'. -/
def shrinkUnlikeCard : Claim7 := { stood := { row := shrinkUnlikeRow, standIns := [], harness := (true, "95bf423e54d617eaa9e8d61919020d47254ab7abd159bb00bb9911d6f2ccd476"), looks := false }, kinds := [], alts := [], laidByText := true, laidKinds := [.data], laidTests := true, laidLooks := .later }
def ShrinkUnlikeCardSaid : Prop := Claim7.holds Tryd.pinned (.plain (OpenSpec.ofChange shrinkUnlikeSpec)) shrinkUnlikeCard

/-- THE TIED CARD OF 'wherrylaw06.ShrinkKinds'. -/
def shrinkKindsCard : Claim7 := { stood := { row := shrinkKindsRow, standIns := [], harness := (true, "95bf423e54d617eaa9e8d61919020d47254ab7abd159bb00bb9911d6f2ccd476"), looks := false }, kinds := [], alts := [], laidByText := true, laidKinds := [.data], laidTests := true, laidLooks := .later }
def ShrinkKindsCardSaid : Prop := Claim7.holds Tryd.pinned (.plain (OpenSpec.ofChange shrinkKindsSpec)) shrinkKindsCard

/-- THE TIED CARD OF 'wherrylaw06.ShrinkGains'. -/
def shrinkGainsCard : Claim7 := { stood := { row := shrinkGainsRow, standIns := [], harness := (true, "95bf423e54d617eaa9e8d61919020d47254ab7abd159bb00bb9911d6f2ccd476"), looks := false }, kinds := [], alts := [], laidByText := true, laidKinds := [.data], laidTests := true, laidLooks := .later }
def ShrinkGainsCardSaid : Prop := Claim7.holds Tryd.pinned (.plain (OpenSpec.ofChange shrinkGainsSpec)) shrinkGainsCard

/-- THE SECOND FORM's CARD OF 'wherrylaw06.ShrinkExact'. -/
def shrinkExactUptoCard : Claim7 := { stood := { row := shrinkExactUptoRow, standIns := [], harness := (true, "95bf423e54d617eaa9e8d61919020d47254ab7abd159bb00bb9911d6f2ccd476"), looks := false }, kinds := [], alts := [], laidByText := true, laidKinds := [.data], laidTests := true, laidLooks := .later }
def ShrinkExactUptoCardSaid : Prop := Claim7.holds Tryd.pinned (.plain (OpenSpec.upto shrinkExactSpec)) shrinkExactUptoCard

/-- THE SECOND FORM's CARD OF 'wherrylaw06.ShrinkBack'. -/
def shrinkBackUptoCard : Claim7 := { stood := { row := shrinkBackUptoRow, standIns := [], harness := (true, "95bf423e54d617eaa9e8d61919020d47254ab7abd159bb00bb9911d6f2ccd476"), looks := false }, kinds := [], alts := [], laidByText := true, laidKinds := [.data], laidTests := true, laidLooks := .later }
def ShrinkBackUptoCardSaid : Prop := Claim7.holds Tryd.pinned (.plain (OpenSpec.upto shrinkBackSpec)) shrinkBackUptoCard

/-- THE SECOND FORM's CARD OF 'wherrylaw06.ShrinkLeast'. -/
def shrinkLeastUptoCard : Claim7 := { stood := { row := shrinkLeastUptoRow, standIns := [], harness := (true, "95bf423e54d617eaa9e8d61919020d47254ab7abd159bb00bb9911d6f2ccd476"), looks := false }, kinds := [], alts := [], laidByText := true, laidKinds := [.data], laidTests := true, laidLooks := .later }
def ShrinkLeastUptoCardSaid : Prop := Claim7.holds Tryd.pinned (.plain (OpenSpec.upto shrinkLeastSpec)) shrinkLeastUptoCard

/-- THE SECOND FORM's CARD OF 'wherrylaw06.ShrinkLong'. -/
def shrinkLongUptoCard : Claim7 := { stood := { row := shrinkLongUptoRow, standIns := [], harness := (true, "95bf423e54d617eaa9e8d61919020d47254ab7abd159bb00bb9911d6f2ccd476"), looks := false }, kinds := [], alts := [], laidByText := true, laidKinds := [.data], laidTests := true, laidLooks := .later }
def ShrinkLongUptoCardSaid : Prop := Claim7.holds Tryd.pinned (.plain (OpenSpec.upto shrinkLongSpec)) shrinkLongUptoCard

/-- THE SECOND FORM's CARD OF 'wherrylaw06.ShrinkRow'. -/
def shrinkRowUptoCard : Claim7 := { stood := { row := shrinkRowUptoRow, standIns := [], harness := (true, "95bf423e54d617eaa9e8d61919020d47254ab7abd159bb00bb9911d6f2ccd476"), looks := false }, kinds := [], alts := [], laidByText := true, laidKinds := [.data], laidTests := true, laidLooks := .later }
def ShrinkRowUptoCardSaid : Prop := Claim7.holds Tryd.pinned (.plain (OpenSpec.upto shrinkRowSpec)) shrinkRowUptoCard

/-- THE SECOND FORM's CARD OF 'wherrylaw06.ShrinkBits'. -/
def shrinkBitsUptoCard : Claim7 := { stood := { row := shrinkBitsUptoRow, standIns := [], harness := (true, "95bf423e54d617eaa9e8d61919020d47254ab7abd159bb00bb9911d6f2ccd476"), looks := false }, kinds := [], alts := [], laidByText := true, laidKinds := [.data], laidTests := true, laidLooks := .later }
def ShrinkBitsUptoCardSaid : Prop := Claim7.holds Tryd.pinned (.plain (OpenSpec.upto shrinkBitsSpec)) shrinkBitsUptoCard

/-- THE SECOND FORM's CARD OF 'wherrylaw06.ShrinkUnlike'. -/
def shrinkUnlikeUptoCard : Claim7 := { stood := { row := shrinkUnlikeUptoRow, standIns := [], harness := (true, "95bf423e54d617eaa9e8d61919020d47254ab7abd159bb00bb9911d6f2ccd476"), looks := false }, kinds := [], alts := [], laidByText := true, laidKinds := [.data], laidTests := true, laidLooks := .later }
def ShrinkUnlikeUptoCardSaid : Prop := Claim7.holds Tryd.pinned (.plain (OpenSpec.upto shrinkUnlikeSpec)) shrinkUnlikeUptoCard

/-- THE SECOND FORM's CARD OF 'wherrylaw06.ShrinkKinds'. -/
def shrinkKindsUptoCard : Claim7 := { stood := { row := shrinkKindsUptoRow, standIns := [], harness := (true, "95bf423e54d617eaa9e8d61919020d47254ab7abd159bb00bb9911d6f2ccd476"), looks := false }, kinds := [], alts := [], laidByText := true, laidKinds := [.data], laidTests := true, laidLooks := .later }
def ShrinkKindsUptoCardSaid : Prop := Claim7.holds Tryd.pinned (.plain (OpenSpec.upto shrinkKindsSpec)) shrinkKindsUptoCard

/-- THE SECOND FORM's CARD OF 'wherrylaw06.ShrinkGains'. -/
def shrinkGainsUptoCard : Claim7 := { stood := { row := shrinkGainsUptoRow, standIns := [], harness := (true, "95bf423e54d617eaa9e8d61919020d47254ab7abd159bb00bb9911d6f2ccd476"), looks := false }, kinds := [], alts := [], laidByText := true, laidKinds := [.data], laidTests := true, laidLooks := .later }
def ShrinkGainsUptoCardSaid : Prop := Claim7.holds Tryd.pinned (.plain (OpenSpec.upto shrinkGainsSpec)) shrinkGainsUptoCard
end Rows
end Go.Proofs.YtkgfjkfccpjcgaaDoor
