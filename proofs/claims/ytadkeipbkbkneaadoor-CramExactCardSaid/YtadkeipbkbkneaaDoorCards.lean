/-
  DERIVED. GIVEN WITH THE SEED: THE CARDS: each row of YtadkeipbkbkneaaDoorRows.lean that lists a variable, with what it lists TIED to the program's text (the seventh form; the later family's looks); each row that meets fmt, with fmt's text TOLD by the authors' own Lean function (tested against real Go, not proved from fmt's source: count such statements apart). THE CARD IS WHAT COUNTS. Prove the row's statement (the work); the ties are given (YtadkeipbkbkneaaDoorTie.lean); close each card by the builder's one call (the guide's Derived/Test/ToyasCard.lean, 'card_holds'). Laid BY PROGRAM, IN A SANDBOX (cutbox-door.mjs). By AI agents, Wed Nov 11 2026. No macro, syntax, notation, axiom, sorry.
-/
import Derived.Test.YtadkeipbkbkneaaDoorRows
import GoSem.ClaimSeven
namespace Go.Proofs.YtadkeipbkbkneaaDoor
namespace Rows

/-- THE TIED CARD OF 'wherrylaw10.CramExact'. -/
def cramExactCard : Claim7 := { stood := { row := cramExactRow, standIns := [], harness := (true, "d284a654c93cbeb23ed50074d96146752d6364de9ee2e84b13ab4ad1274ee2cd"), looks := false }, kinds := [], alts := [], laidByText := true, laidKinds := [.data, .data, .data, .pinned], laidTests := true, laidLooks := .later }
def CramExactCardSaid : Prop := Claim7.holds Tryd.pinned (.plain (OpenSpec.ofChange cramExactSpec)) cramExactCard

/-- THE TIED CARD OF 'wherrylaw10.CramBack'. -/
def cramBackCard : Claim7 := { stood := { row := cramBackRow, standIns := [], harness := (true, "d284a654c93cbeb23ed50074d96146752d6364de9ee2e84b13ab4ad1274ee2cd"), looks := false }, kinds := [], alts := [], laidByText := true, laidKinds := [.data, .data, .data, .pinned], laidTests := true, laidLooks := .later }
def CramBackCardSaid : Prop := Claim7.holds Tryd.pinned (.plain (OpenSpec.ofChange cramBackSpec)) cramBackCard

/-- THE TIED CARD OF 'wherrylaw10.CramProves'. -/
def cramProvesCard : Claim7 := { stood := { row := cramProvesRow, standIns := [], harness := (true, "d284a654c93cbeb23ed50074d96146752d6364de9ee2e84b13ab4ad1274ee2cd"), looks := false }, kinds := [], alts := [], laidByText := true, laidKinds := [.data, .data], laidTests := true, laidLooks := .later }
def CramProvesCardSaid : Prop := Claim7.holds Tryd.pinned (.plain (OpenSpec.ofChange cramProvesSpec)) cramProvesCard

/-- THE TIED CARD OF 'wherrylaw10.CramHexes'. -/
def cramHexesCard : Claim7 := { stood := { row := cramHexesRow, standIns := [], harness := (true, "d284a654c93cbeb23ed50074d96146752d6364de9ee2e84b13ab4ad1274ee2cd"), looks := false }, kinds := [], alts := [], laidByText := true, laidKinds := [.data, .data], laidTests := true, laidLooks := .later }
def CramHexesCardSaid : Prop := Claim7.holds Tryd.pinned (.plain (OpenSpec.ofChange cramHexesSpec)) cramHexesCard

/-- THE TIED CARD OF 'wherrylaw10.CramBad'. -/
def cramBadCard : Claim7 := { stood := { row := cramBadRow, standIns := [], harness := (true, "d284a654c93cbeb23ed50074d96146752d6364de9ee2e84b13ab4ad1274ee2cd"), looks := false }, kinds := [], alts := [], laidByText := true, laidKinds := [.data, .data, .data, .pinned], laidTests := true, laidLooks := .later }
def CramBadCardSaid : Prop := Claim7.holds Tryd.pinned (.plain (OpenSpec.ofChange cramBadSpec)) cramBadCard

/-- THE SECOND FORM's CARD OF 'wherrylaw10.CramExact'. -/
def cramExactUptoCard : Claim7 := { stood := { row := cramExactUptoRow, standIns := [], harness := (true, "d284a654c93cbeb23ed50074d96146752d6364de9ee2e84b13ab4ad1274ee2cd"), looks := false }, kinds := [], alts := [], laidByText := true, laidKinds := [.data, .data, .data, .pinned], laidTests := true, laidLooks := .later }
def CramExactUptoCardSaid : Prop := Claim7.holds Tryd.pinned (.plain (OpenSpec.upto cramExactSpec)) cramExactUptoCard

/-- THE SECOND FORM's CARD OF 'wherrylaw10.CramBack'. -/
def cramBackUptoCard : Claim7 := { stood := { row := cramBackUptoRow, standIns := [], harness := (true, "d284a654c93cbeb23ed50074d96146752d6364de9ee2e84b13ab4ad1274ee2cd"), looks := false }, kinds := [], alts := [], laidByText := true, laidKinds := [.data, .data, .data, .pinned], laidTests := true, laidLooks := .later }
def CramBackUptoCardSaid : Prop := Claim7.holds Tryd.pinned (.plain (OpenSpec.upto cramBackSpec)) cramBackUptoCard

/-- THE SECOND FORM's CARD OF 'wherrylaw10.CramProves'. -/
def cramProvesUptoCard : Claim7 := { stood := { row := cramProvesUptoRow, standIns := [], harness := (true, "d284a654c93cbeb23ed50074d96146752d6364de9ee2e84b13ab4ad1274ee2cd"), looks := false }, kinds := [], alts := [], laidByText := true, laidKinds := [.data, .data], laidTests := true, laidLooks := .later }
def CramProvesUptoCardSaid : Prop := Claim7.holds Tryd.pinned (.plain (OpenSpec.upto cramProvesSpec)) cramProvesUptoCard

/-- THE SECOND FORM's CARD OF 'wherrylaw10.CramHexes'. -/
def cramHexesUptoCard : Claim7 := { stood := { row := cramHexesUptoRow, standIns := [], harness := (true, "d284a654c93cbeb23ed50074d96146752d6364de9ee2e84b13ab4ad1274ee2cd"), looks := false }, kinds := [], alts := [], laidByText := true, laidKinds := [.data, .data], laidTests := true, laidLooks := .later }
def CramHexesUptoCardSaid : Prop := Claim7.holds Tryd.pinned (.plain (OpenSpec.upto cramHexesSpec)) cramHexesUptoCard

/-- THE SECOND FORM's CARD OF 'wherrylaw10.CramBad'. -/
def cramBadUptoCard : Claim7 := { stood := { row := cramBadUptoRow, standIns := [], harness := (true, "d284a654c93cbeb23ed50074d96146752d6364de9ee2e84b13ab4ad1274ee2cd"), looks := false }, kinds := [], alts := [], laidByText := true, laidKinds := [.data, .data, .data, .pinned], laidTests := true, laidLooks := .later }
def CramBadUptoCardSaid : Prop := Claim7.holds Tryd.pinned (.plain (OpenSpec.upto cramBadSpec)) cramBadUptoCard
end Rows
end Go.Proofs.YtadkeipbkbkneaaDoor
