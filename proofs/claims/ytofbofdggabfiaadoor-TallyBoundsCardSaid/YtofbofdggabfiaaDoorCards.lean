/-
  DERIVED. GIVEN WITH THE SEED: THE CARDS: each row of YtofbofdggabfiaaDoorRows.lean that lists a variable, with what it lists TIED to the program's text (the seventh form; the later family's looks); each row that meets fmt, with fmt's text TOLD by the authors' own Lean function (tested against real Go, not proved from fmt's source: count such statements apart). THE CARD IS WHAT COUNTS. Prove the row's statement (the work); the ties are given (YtofbofdggabfiaaDoorTie.lean); close each card by the builder's one call (the guide's Derived/Test/ToyasCard.lean, 'card_holds'). Laid BY PROGRAM, IN A SANDBOX (cutbox-door.mjs). By AI agents, Wed Nov 11 2026. No macro, syntax, notation, axiom, sorry.
-/
import Derived.Test.YtofbofdggabfiaaDoorRows
import GoSem.ClaimSeven
namespace Go.Proofs.YtofbofdggabfiaaDoor
namespace Rows

/-- THE TIED CARD OF 'wherrylaw26.TallyOnce'. -/
def tallyOnceCard : Claim7 := { stood := { row := tallyOnceRow, standIns := [], harness := (true, "62cbf99dfc978b94cacdf69309e9ef63c4222f3c28bb12a0b0100590b65ce568"), looks := false }, kinds := [], alts := [], laidByText := true, laidKinds := [.data, .pinned], laidTests := true, laidLooks := .later }
def TallyOnceCardSaid : Prop := Claim7.holds Tryd.pinned (.plain (OpenSpec.ofChange tallyOnceSpec)) tallyOnceCard

/-- THE TIED CARD OF 'wherrylaw26.TallyBounds'. -/
def tallyBoundsCard : Claim7 := { stood := { row := tallyBoundsRow, standIns := [], harness := (true, "62cbf99dfc978b94cacdf69309e9ef63c4222f3c28bb12a0b0100590b65ce568"), looks := false }, kinds := [], alts := [], laidByText := true, laidKinds := [.data, .pinned], laidTests := true, laidLooks := .later }
def TallyBoundsCardSaid : Prop := Claim7.holds Tryd.pinned (.plain (OpenSpec.ofChange tallyBoundsSpec)) tallyBoundsCard

/-- THE TIED CARD OF 'wherrylaw26.TallyFar'. -/
def tallyFarCard : Claim7 := { stood := { row := tallyFarRow, standIns := [], harness := (true, "62cbf99dfc978b94cacdf69309e9ef63c4222f3c28bb12a0b0100590b65ce568"), looks := false }, kinds := [], alts := [], laidByText := true, laidKinds := [.data, .pinned], laidTests := true, laidLooks := .later }
def TallyFarCardSaid : Prop := Claim7.holds Tryd.pinned (.plain (OpenSpec.ofChange tallyFarSpec)) tallyFarCard

/-- THE TIED CARD OF 'wherrylaw26.TallyKinds'. -/
def tallyKindsCard : Claim7 := { stood := { row := tallyKindsRow, standIns := [], harness := (true, "62cbf99dfc978b94cacdf69309e9ef63c4222f3c28bb12a0b0100590b65ce568"), looks := false }, kinds := [], alts := [], laidByText := true, laidKinds := [.data, .pinned], laidTests := true, laidLooks := .later }
def TallyKindsCardSaid : Prop := Claim7.holds Tryd.pinned (.plain (OpenSpec.ofChange tallyKindsSpec)) tallyKindsCard

/-- THE TIED CARD OF 'wherrylaw26.TallyUnlike'. -/
def tallyUnlikeCard : Claim7 := { stood := { row := tallyUnlikeRow, standIns := [], harness := (true, "62cbf99dfc978b94cacdf69309e9ef63c4222f3c28bb12a0b0100590b65ce568"), looks := false }, kinds := [], alts := [], laidByText := true, laidKinds := [.data, .pinned], laidTests := true, laidLooks := .later }
def TallyUnlikeCardSaid : Prop := Claim7.holds Tryd.pinned (.plain (OpenSpec.ofChange tallyUnlikeSpec)) tallyUnlikeCard

/-- THE SECOND FORM's CARD OF 'wherrylaw26.TallyOnce'. -/
def tallyOnceUptoCard : Claim7 := { stood := { row := tallyOnceUptoRow, standIns := [], harness := (true, "62cbf99dfc978b94cacdf69309e9ef63c4222f3c28bb12a0b0100590b65ce568"), looks := false }, kinds := [], alts := [], laidByText := true, laidKinds := [.data, .pinned], laidTests := true, laidLooks := .later }
def TallyOnceUptoCardSaid : Prop := Claim7.holds Tryd.pinned (.plain (OpenSpec.upto tallyOnceSpec)) tallyOnceUptoCard

/-- THE SECOND FORM's CARD OF 'wherrylaw26.TallyBounds'. -/
def tallyBoundsUptoCard : Claim7 := { stood := { row := tallyBoundsUptoRow, standIns := [], harness := (true, "62cbf99dfc978b94cacdf69309e9ef63c4222f3c28bb12a0b0100590b65ce568"), looks := false }, kinds := [], alts := [], laidByText := true, laidKinds := [.data, .pinned], laidTests := true, laidLooks := .later }
def TallyBoundsUptoCardSaid : Prop := Claim7.holds Tryd.pinned (.plain (OpenSpec.upto tallyBoundsSpec)) tallyBoundsUptoCard

/-- THE SECOND FORM's CARD OF 'wherrylaw26.TallyFar'. -/
def tallyFarUptoCard : Claim7 := { stood := { row := tallyFarUptoRow, standIns := [], harness := (true, "62cbf99dfc978b94cacdf69309e9ef63c4222f3c28bb12a0b0100590b65ce568"), looks := false }, kinds := [], alts := [], laidByText := true, laidKinds := [.data, .pinned], laidTests := true, laidLooks := .later }
def TallyFarUptoCardSaid : Prop := Claim7.holds Tryd.pinned (.plain (OpenSpec.upto tallyFarSpec)) tallyFarUptoCard

/-- THE SECOND FORM's CARD OF 'wherrylaw26.TallyKinds'. -/
def tallyKindsUptoCard : Claim7 := { stood := { row := tallyKindsUptoRow, standIns := [], harness := (true, "62cbf99dfc978b94cacdf69309e9ef63c4222f3c28bb12a0b0100590b65ce568"), looks := false }, kinds := [], alts := [], laidByText := true, laidKinds := [.data, .pinned], laidTests := true, laidLooks := .later }
def TallyKindsUptoCardSaid : Prop := Claim7.holds Tryd.pinned (.plain (OpenSpec.upto tallyKindsSpec)) tallyKindsUptoCard

/-- THE SECOND FORM's CARD OF 'wherrylaw26.TallyUnlike'. -/
def tallyUnlikeUptoCard : Claim7 := { stood := { row := tallyUnlikeUptoRow, standIns := [], harness := (true, "62cbf99dfc978b94cacdf69309e9ef63c4222f3c28bb12a0b0100590b65ce568"), looks := false }, kinds := [], alts := [], laidByText := true, laidKinds := [.data, .pinned], laidTests := true, laidLooks := .later }
def TallyUnlikeUptoCardSaid : Prop := Claim7.holds Tryd.pinned (.plain (OpenSpec.upto tallyUnlikeSpec)) tallyUnlikeUptoCard
end Rows
end Go.Proofs.YtofbofdggabfiaaDoor
