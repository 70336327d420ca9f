/-
  DERIVED. GIVEN WITH THE SEED: THE CARDS: each row of YtgonanjdmdlkjaaDoorRows.lean that lists a variable, with what it lists TIED to the program's text (the seventh form; the later family's looks); each row that meets fmt, with fmt's text TOLD by the authors' own Lean function (tested against real Go, not proved from fmt's source: count such statements apart). THE CARD IS WHAT COUNTS. Prove the row's statement (the work); the ties are given (YtgonanjdmdlkjaaDoorTie.lean); close each card by the builder's one call (the guide's Derived/Test/ToyasCard.lean, 'card_holds'). Laid BY PROGRAM, IN A SANDBOX (cutbox-door.mjs). By AI agents, Wed Nov 11 2026. No macro, syntax, notation, axiom, sorry.
-/
import Derived.Test.YtgonanjdmdlkjaaDoorRows
import GoSem.ClaimSeven
namespace Go.Proofs.YtgonanjdmdlkjaaDoor
namespace Rows

/-- THE TIED CARD OF 'wherrylaw14.DotsExact'. -/
def dotsExactCard : Claim7 := { stood := { row := dotsExactRow, standIns := [], harness := (true, "afb5d8c28bc7b1aaa43742db29577ae766541bb7cd95afc50f442470e6e40493"), looks := false }, kinds := [], alts := [], laidByText := true, laidKinds := [.data, .pinned], laidTests := true, laidLooks := .later }
def DotsExactCardSaid : Prop := Claim7.holds Tryd.pinned (.plain (OpenSpec.ofChange dotsExactSpec)) dotsExactCard

/-- THE TIED CARD OF 'wherrylaw14.DotsBack'. -/
def dotsBackCard : Claim7 := { stood := { row := dotsBackRow, standIns := [], harness := (true, "afb5d8c28bc7b1aaa43742db29577ae766541bb7cd95afc50f442470e6e40493"), looks := false }, kinds := [], alts := [], laidByText := true, laidKinds := [.data, .pinned], laidTests := true, laidLooks := .later }
def DotsBackCardSaid : Prop := Claim7.holds Tryd.pinned (.plain (OpenSpec.ofChange dotsBackSpec)) dotsBackCard

/-- THE TIED CARD OF 'wherrylaw14.DotsOpen'. -/
def dotsOpenCard : Claim7 := { stood := { row := dotsOpenRow, standIns := [], harness := (true, "afb5d8c28bc7b1aaa43742db29577ae766541bb7cd95afc50f442470e6e40493"), looks := false }, kinds := [], alts := [], laidByText := true, laidKinds := [.data, .pinned], laidTests := true, laidLooks := .later }
def DotsOpenCardSaid : Prop := Claim7.holds Tryd.pinned (.plain (OpenSpec.ofChange dotsOpenSpec)) dotsOpenCard

/-- THE TIED CARD OF 'wherrylaw14.DotsJoin'. -/
def dotsJoinCard : Claim7 := { stood := { row := dotsJoinRow, standIns := [], harness := (true, "afb5d8c28bc7b1aaa43742db29577ae766541bb7cd95afc50f442470e6e40493"), looks := false }, kinds := [], alts := [], laidByText := true, laidKinds := [.data, .pinned], laidTests := true, laidLooks := .later }
def DotsJoinCardSaid : Prop := Claim7.holds Tryd.pinned (.plain (OpenSpec.ofChange dotsJoinSpec)) dotsJoinCard

/-- THE TIED CARD OF 'wherrylaw14.DotsLines'. -/
def dotsLinesCard : Claim7 := { stood := { row := dotsLinesRow, standIns := [], harness := (true, "afb5d8c28bc7b1aaa43742db29577ae766541bb7cd95afc50f442470e6e40493"), looks := false }, kinds := [], alts := [], laidByText := true, laidKinds := [.data, .pinned], laidTests := true, laidLooks := .later }
def DotsLinesCardSaid : Prop := Claim7.holds Tryd.pinned (.plain (OpenSpec.ofChange dotsLinesSpec)) dotsLinesCard

/-- THE TIED CARD OF 'wherrylaw14.DotsBare'. -/
def dotsBareCard : Claim7 := { stood := { row := dotsBareRow, standIns := [], harness := (true, "afb5d8c28bc7b1aaa43742db29577ae766541bb7cd95afc50f442470e6e40493"), looks := false }, kinds := [], alts := [], laidByText := true, laidKinds := [.data, .pinned], laidTests := true, laidLooks := .later }
def DotsBareCardSaid : Prop := Claim7.holds Tryd.pinned (.plain (OpenSpec.ofChange dotsBareSpec)) dotsBareCard

/-- THE TIED CARD OF 'wherrylaw14.DotsTwo'. -/
def dotsTwoCard : Claim7 := { stood := { row := dotsTwoRow, standIns := [], harness := (true, "afb5d8c28bc7b1aaa43742db29577ae766541bb7cd95afc50f442470e6e40493"), looks := false }, kinds := [], alts := [], laidByText := true, laidKinds := [.data, .pinned], laidTests := true, laidLooks := .later }
def DotsTwoCardSaid : Prop := Claim7.holds Tryd.pinned (.plain (OpenSpec.ofChange dotsTwoSpec)) dotsTwoCard

/-- THE SECOND FORM's CARD OF 'wherrylaw14.DotsExact'. -/
def dotsExactUptoCard : Claim7 := { stood := { row := dotsExactUptoRow, standIns := [], harness := (true, "afb5d8c28bc7b1aaa43742db29577ae766541bb7cd95afc50f442470e6e40493"), looks := false }, kinds := [], alts := [], laidByText := true, laidKinds := [.data, .pinned], laidTests := true, laidLooks := .later }
def DotsExactUptoCardSaid : Prop := Claim7.holds Tryd.pinned (.plain (OpenSpec.upto dotsExactSpec)) dotsExactUptoCard

/-- THE SECOND FORM's CARD OF 'wherrylaw14.DotsBack'. -/
def dotsBackUptoCard : Claim7 := { stood := { row := dotsBackUptoRow, standIns := [], harness := (true, "afb5d8c28bc7b1aaa43742db29577ae766541bb7cd95afc50f442470e6e40493"), looks := false }, kinds := [], alts := [], laidByText := true, laidKinds := [.data, .pinned], laidTests := true, laidLooks := .later }
def DotsBackUptoCardSaid : Prop := Claim7.holds Tryd.pinned (.plain (OpenSpec.upto dotsBackSpec)) dotsBackUptoCard

/-- THE SECOND FORM's CARD OF 'wherrylaw14.DotsOpen'. -/
def dotsOpenUptoCard : Claim7 := { stood := { row := dotsOpenUptoRow, standIns := [], harness := (true, "afb5d8c28bc7b1aaa43742db29577ae766541bb7cd95afc50f442470e6e40493"), looks := false }, kinds := [], alts := [], laidByText := true, laidKinds := [.data, .pinned], laidTests := true, laidLooks := .later }
def DotsOpenUptoCardSaid : Prop := Claim7.holds Tryd.pinned (.plain (OpenSpec.upto dotsOpenSpec)) dotsOpenUptoCard

/-- THE SECOND FORM's CARD OF 'wherrylaw14.DotsJoin'. -/
def dotsJoinUptoCard : Claim7 := { stood := { row := dotsJoinUptoRow, standIns := [], harness := (true, "afb5d8c28bc7b1aaa43742db29577ae766541bb7cd95afc50f442470e6e40493"), looks := false }, kinds := [], alts := [], laidByText := true, laidKinds := [.data, .pinned], laidTests := true, laidLooks := .later }
def DotsJoinUptoCardSaid : Prop := Claim7.holds Tryd.pinned (.plain (OpenSpec.upto dotsJoinSpec)) dotsJoinUptoCard

/-- THE SECOND FORM's CARD OF 'wherrylaw14.DotsLines'. -/
def dotsLinesUptoCard : Claim7 := { stood := { row := dotsLinesUptoRow, standIns := [], harness := (true, "afb5d8c28bc7b1aaa43742db29577ae766541bb7cd95afc50f442470e6e40493"), looks := false }, kinds := [], alts := [], laidByText := true, laidKinds := [.data, .pinned], laidTests := true, laidLooks := .later }
def DotsLinesUptoCardSaid : Prop := Claim7.holds Tryd.pinned (.plain (OpenSpec.upto dotsLinesSpec)) dotsLinesUptoCard

/-- THE SECOND FORM's CARD OF 'wherrylaw14.DotsBare'. -/
def dotsBareUptoCard : Claim7 := { stood := { row := dotsBareUptoRow, standIns := [], harness := (true, "afb5d8c28bc7b1aaa43742db29577ae766541bb7cd95afc50f442470e6e40493"), looks := false }, kinds := [], alts := [], laidByText := true, laidKinds := [.data, .pinned], laidTests := true, laidLooks := .later }
def DotsBareUptoCardSaid : Prop := Claim7.holds Tryd.pinned (.plain (OpenSpec.upto dotsBareSpec)) dotsBareUptoCard

/-- THE SECOND FORM's CARD OF 'wherrylaw14.DotsTwo'. -/
def dotsTwoUptoCard : Claim7 := { stood := { row := dotsTwoUptoRow, standIns := [], harness := (true, "afb5d8c28bc7b1aaa43742db29577ae766541bb7cd95afc50f442470e6e40493"), looks := false }, kinds := [], alts := [], laidByText := true, laidKinds := [.data, .pinned], laidTests := true, laidLooks := .later }
def DotsTwoUptoCardSaid : Prop := Claim7.holds Tryd.pinned (.plain (OpenSpec.upto dotsTwoSpec)) dotsTwoUptoCard
end Rows
end Go.Proofs.YtgonanjdmdlkjaaDoor
