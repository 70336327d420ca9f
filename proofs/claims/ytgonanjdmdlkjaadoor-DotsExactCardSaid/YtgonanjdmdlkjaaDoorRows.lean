/-
  NARROWER THAN 'FOR EVERY INPUT', by the rows' own cells (each row's printed sentence says how): DotsExact: laid · DotsBack: laid · DotsOpen: laid · DotsJoin: laid · DotsLines: laid · DotsBare: laid · DotsTwo: laid.
  DERIVED. THE GIVEN ROWS OF THIS SEAT. 7 by the template 'for every input the law returns true; each argument reads behind the call as it read before'; 0 by the template 'total and deterministic' (their statements: YtgonanjdmdlkjaaDoorTotals.lean).
  GIVEN WITH THE SEED: the statements are not yours to turn. If you find one false, say at which input.
  Laid BY PROGRAM, IN A SANDBOX (cutbox-rows.mjs): the forced cells as the released guide's own fill.sh prints them over the translation 10753af60eea20d1… (all of the seat's roots in one cut). By AI agents, Wed Nov 11 2026. No macro, syntax, notation, axiom, sorry.
-/
import Derived.Test.YtgonanjdmdlkjaaDoorChecked
import GoSem.PinnedTables
import GoSem.Claim
import GoSem.ClaimJoined
import GoSem.ClaimMapViews
import Derived.JoinedTies
import Derived.KernelRfl
namespace Go.Proofs.YtgonanjdmdlkjaaDoor
/- THE CELL 'sum', in the pinned program and in every row, IS THE sha256 OF THE DUMP (.gsa) THAT YtgonanjdmdlkjaaDoorProg.lean LOADS. Nothing in Lean hashes anything: it is a label: what it is worth is what the hold of that sum in a sandbox is worth. -/
noncomputable def Tryd.pinned : Pinned := { name := "ytgonanjdmdlkjaadoor", sum := "10753af60eea20d12a6eee96dd1082970aa70d6c96fbb2ad8917c53a6930b039", checked := Tryd.checked }
namespace Rows
def none {H : Type} : Left H := { results := [], args := [] }

/- WHAT THE LISTED PACKAGE-LEVEL VARIABLES READ AS WHEN THE CALL BEGINS. Each datum BY PROGRAM (the guide's laid-datum.mjs) off the statement by which the dump's own 'gosem.cut.vars' lays the variable. In a bare row this is a premise. The card (YtgonanjdmdlkjaaDoorCards.lean) ties it to the program's text. -/
def laid_unicode_utf8_acceptRanges {H : Type} : DataW H := .agg [.agg [.lit (.int .u8 128), .lit (.int .u8 191)], .agg [.lit (.int .u8 160), .lit (.int .u8 191)], .agg [.lit (.int .u8 128), .lit (.int .u8 159)], .agg [.lit (.int .u8 144), .lit (.int .u8 191)], .agg [.lit (.int .u8 128), .lit (.int .u8 143)], .agg [.lit (.int .u8 0), .lit (.int .u8 0)], .agg [.lit (.int .u8 0), .lit (.int .u8 0)], .agg [.lit (.int .u8 0), .lit (.int .u8 0)], .agg [.lit (.int .u8 0), .lit (.int .u8 0)], .agg [.lit (.int .u8 0), .lit (.int .u8 0)], .agg [.lit (.int .u8 0), .lit (.int .u8 0)], .agg [.lit (.int .u8 0), .lit (.int .u8 0)], .agg [.lit (.int .u8 0), .lit (.int .u8 0)], .agg [.lit (.int .u8 0), .lit (.int .u8 0)], .agg [.lit (.int .u8 0), .lit (.int .u8 0)], .agg [.lit (.int .u8 0), .lit (.int .u8 0)]]
/-- One of Go's own tables, pinned by name: the form's constant. -/
def laid_unicode_utf8_first : DataW Unit := Go.Pinned.utf8First

/-- 'wherrylaw14.DotsExact': WHATEVER THE INPUT: true; the input reads as it did. -/
def dotsExactSpec : ChangeSpec := { name := "dotsExact", fn := fun _ => fun
  | [d] => { results := [.lit (.bool true)], args := [d] }
  | _ => none }
def dotsExactRow : OpenClaim := { program := "ytgonanjdmdlkjaadoor", sum := "10753af60eea20d12a6eee96dd1082970aa70d6c96fbb2ad8917c53a6930b039", func := "wherry/wherrylaw14.DotsExact", spec := "dotsExact", inPlace := ["internal/bytealg.IndexByte", "internal/bytealg.Index", "internal/bytealg.IndexByteString", "internal/bytealg.IndexString"], unfollowed := true, recurses := true, named := ["internal/bytealg.MaxLen", "unicode/utf8.first", "unicode/utf8.acceptRanges"], apart := false, laid := [("unicode/utf8.acceptRanges", laid_unicode_utf8_acceptRanges), ("unicode/utf8.first", laid_unicode_utf8_first)] }
def DotsExactSaid : Prop := dotsExactRow.holds Tryd.pinned (OpenSpec.ofChange dotsExactSpec)

/-- ITS FALSE NEIGHBOUR: 'it returns false'. Refute it at one input. -/
def dotsExactWrong : ChangeSpec := { name := "dotsExact", fn := fun _ => fun
  | [d] => { results := [.lit (.bool false)], args := [d] }
  | _ => none }
def DotsExactWrongFalsely : Prop := dotsExactRow.holds Tryd.pinned (OpenSpec.ofChange dotsExactWrong)

/-- 'wherrylaw14.DotsBack': WHATEVER THE INPUT: true; the input reads as it did. -/
def dotsBackSpec : ChangeSpec := { name := "dotsBack", fn := fun _ => fun
  | [d1, d2] => { results := [.lit (.bool true)], args := [d1, d2] }
  | _ => none }
def dotsBackRow : OpenClaim := { program := "ytgonanjdmdlkjaadoor", sum := "10753af60eea20d12a6eee96dd1082970aa70d6c96fbb2ad8917c53a6930b039", func := "wherry/wherrylaw14.DotsBack", spec := "dotsBack", inPlace := ["internal/bytealg.IndexByte", "internal/bytealg.Index", "internal/bytealg.IndexByteString", "internal/bytealg.IndexString"], unfollowed := true, recurses := true, named := ["internal/bytealg.MaxLen", "unicode/utf8.first", "unicode/utf8.acceptRanges"], apart := false, laid := [("unicode/utf8.acceptRanges", laid_unicode_utf8_acceptRanges), ("unicode/utf8.first", laid_unicode_utf8_first)] }
def DotsBackSaid : Prop := dotsBackRow.holds Tryd.pinned (OpenSpec.ofChange dotsBackSpec)

/-- ITS FALSE NEIGHBOUR: 'it returns false'. Refute it at one input. -/
def dotsBackWrong : ChangeSpec := { name := "dotsBack", fn := fun _ => fun
  | [d1, d2] => { results := [.lit (.bool false)], args := [d1, d2] }
  | _ => none }
def DotsBackWrongFalsely : Prop := dotsBackRow.holds Tryd.pinned (OpenSpec.ofChange dotsBackWrong)

/-- 'wherrylaw14.DotsOpen': WHATEVER THE INPUT: true; the input reads as it did. -/
def dotsOpenSpec : ChangeSpec := { name := "dotsOpen", fn := fun _ => fun
  | [d] => { results := [.lit (.bool true)], args := [d] }
  | _ => none }
def dotsOpenRow : OpenClaim := { program := "ytgonanjdmdlkjaadoor", sum := "10753af60eea20d12a6eee96dd1082970aa70d6c96fbb2ad8917c53a6930b039", func := "wherry/wherrylaw14.DotsOpen", spec := "dotsOpen", inPlace := ["internal/bytealg.IndexByte", "internal/bytealg.Index", "internal/bytealg.IndexByteString", "internal/bytealg.IndexString"], unfollowed := true, recurses := true, named := ["internal/bytealg.MaxLen", "unicode/utf8.first", "unicode/utf8.acceptRanges"], apart := false, laid := [("unicode/utf8.acceptRanges", laid_unicode_utf8_acceptRanges), ("unicode/utf8.first", laid_unicode_utf8_first)] }
def DotsOpenSaid : Prop := dotsOpenRow.holds Tryd.pinned (OpenSpec.ofChange dotsOpenSpec)

/-- ITS FALSE NEIGHBOUR: 'it returns false'. Refute it at one input. -/
def dotsOpenWrong : ChangeSpec := { name := "dotsOpen", fn := fun _ => fun
  | [d] => { results := [.lit (.bool false)], args := [d] }
  | _ => none }
def DotsOpenWrongFalsely : Prop := dotsOpenRow.holds Tryd.pinned (OpenSpec.ofChange dotsOpenWrong)

/-- 'wherrylaw14.DotsJoin': WHATEVER THE INPUT: true; the input reads as it did. -/
def dotsJoinSpec : ChangeSpec := { name := "dotsJoin", fn := fun _ => fun
  | [d1, d2] => { results := [.lit (.bool true)], args := [d1, d2] }
  | _ => none }
def dotsJoinRow : OpenClaim := { program := "ytgonanjdmdlkjaadoor", sum := "10753af60eea20d12a6eee96dd1082970aa70d6c96fbb2ad8917c53a6930b039", func := "wherry/wherrylaw14.DotsJoin", spec := "dotsJoin", inPlace := ["internal/bytealg.IndexByte", "internal/bytealg.Index", "internal/bytealg.IndexByteString", "internal/bytealg.IndexString"], unfollowed := true, recurses := true, named := ["internal/bytealg.MaxLen", "unicode/utf8.first", "unicode/utf8.acceptRanges"], apart := false, laid := [("unicode/utf8.acceptRanges", laid_unicode_utf8_acceptRanges), ("unicode/utf8.first", laid_unicode_utf8_first)] }
def DotsJoinSaid : Prop := dotsJoinRow.holds Tryd.pinned (OpenSpec.ofChange dotsJoinSpec)

/-- ITS FALSE NEIGHBOUR: 'it returns false'. Refute it at one input. -/
def dotsJoinWrong : ChangeSpec := { name := "dotsJoin", fn := fun _ => fun
  | [d1, d2] => { results := [.lit (.bool false)], args := [d1, d2] }
  | _ => none }
def DotsJoinWrongFalsely : Prop := dotsJoinRow.holds Tryd.pinned (OpenSpec.ofChange dotsJoinWrong)

/-- 'wherrylaw14.DotsLines': WHATEVER THE INPUT: true; the input reads as it did. -/
def dotsLinesSpec : ChangeSpec := { name := "dotsLines", fn := fun _ => fun
  | [d] => { results := [.lit (.bool true)], args := [d] }
  | _ => none }
def dotsLinesRow : OpenClaim := { program := "ytgonanjdmdlkjaadoor", sum := "10753af60eea20d12a6eee96dd1082970aa70d6c96fbb2ad8917c53a6930b039", func := "wherry/wherrylaw14.DotsLines", spec := "dotsLines", inPlace := ["internal/bytealg.IndexByte", "internal/bytealg.Index", "internal/bytealg.IndexByteString", "internal/bytealg.IndexString"], unfollowed := true, recurses := true, named := ["internal/bytealg.MaxLen", "unicode/utf8.first", "unicode/utf8.acceptRanges"], apart := false, laid := [("unicode/utf8.acceptRanges", laid_unicode_utf8_acceptRanges), ("unicode/utf8.first", laid_unicode_utf8_first)] }
def DotsLinesSaid : Prop := dotsLinesRow.holds Tryd.pinned (OpenSpec.ofChange dotsLinesSpec)

/-- ITS FALSE NEIGHBOUR: 'it returns false'. Refute it at one input. -/
def dotsLinesWrong : ChangeSpec := { name := "dotsLines", fn := fun _ => fun
  | [d] => { results := [.lit (.bool false)], args := [d] }
  | _ => none }
def DotsLinesWrongFalsely : Prop := dotsLinesRow.holds Tryd.pinned (OpenSpec.ofChange dotsLinesWrong)

/-- 'wherrylaw14.DotsBare': WHATEVER THE INPUT: true; the input reads as it did. -/
def dotsBareSpec : ChangeSpec := { name := "dotsBare", fn := fun _ => fun
  | [d1, d2, d3] => { results := [.lit (.bool true)], args := [d1, d2, d3] }
  | _ => none }
def dotsBareRow : OpenClaim := { program := "ytgonanjdmdlkjaadoor", sum := "10753af60eea20d12a6eee96dd1082970aa70d6c96fbb2ad8917c53a6930b039", func := "wherry/wherrylaw14.DotsBare", spec := "dotsBare", inPlace := ["internal/bytealg.IndexByte", "internal/bytealg.Index", "internal/bytealg.IndexByteString", "internal/bytealg.IndexString"], unfollowed := true, recurses := true, named := ["internal/bytealg.MaxLen", "unicode/utf8.first", "unicode/utf8.acceptRanges"], apart := false, laid := [("unicode/utf8.acceptRanges", laid_unicode_utf8_acceptRanges), ("unicode/utf8.first", laid_unicode_utf8_first)] }
def DotsBareSaid : Prop := dotsBareRow.holds Tryd.pinned (OpenSpec.ofChange dotsBareSpec)

/-- ITS FALSE NEIGHBOUR: 'it returns false'. Refute it at one input. -/
def dotsBareWrong : ChangeSpec := { name := "dotsBare", fn := fun _ => fun
  | [d1, d2, d3] => { results := [.lit (.bool false)], args := [d1, d2, d3] }
  | _ => none }
def DotsBareWrongFalsely : Prop := dotsBareRow.holds Tryd.pinned (OpenSpec.ofChange dotsBareWrong)

/-- 'wherrylaw14.DotsTwo': WHATEVER THE INPUT: true; the input reads as it did. -/
def dotsTwoSpec : ChangeSpec := { name := "dotsTwo", fn := fun _ => fun
  | [d1, d2] => { results := [.lit (.bool true)], args := [d1, d2] }
  | _ => none }
def dotsTwoRow : OpenClaim := { program := "ytgonanjdmdlkjaadoor", sum := "10753af60eea20d12a6eee96dd1082970aa70d6c96fbb2ad8917c53a6930b039", func := "wherry/wherrylaw14.DotsTwo", spec := "dotsTwo", inPlace := ["internal/bytealg.IndexByte", "internal/bytealg.Index", "internal/bytealg.IndexByteString", "internal/bytealg.IndexString"], unfollowed := true, recurses := true, named := ["internal/bytealg.MaxLen", "unicode/utf8.first", "unicode/utf8.acceptRanges"], apart := false, laid := [("unicode/utf8.acceptRanges", laid_unicode_utf8_acceptRanges), ("unicode/utf8.first", laid_unicode_utf8_first)] }
def DotsTwoSaid : Prop := dotsTwoRow.holds Tryd.pinned (OpenSpec.ofChange dotsTwoSpec)

/-- ITS FALSE NEIGHBOUR: 'it returns false'. Refute it at one input. -/
def dotsTwoWrong : ChangeSpec := { name := "dotsTwo", fn := fun _ => fun
  | [d1, d2] => { results := [.lit (.bool false)], args := [d1, d2] }
  | _ => none }
def DotsTwoWrongFalsely : Prop := dotsTwoRow.holds Tryd.pinned (OpenSpec.ofChange dotsTwoWrong)

/- THE SECOND FORM. 'bulk': how many values and letters a reading holds, each counted each time it is reached (what is shared counts as often as it is met; a slice's spare places count too). A statement '..UptoSaid' is the law's where the arguments, and the package variables that the reading takes, are together of bulk at most 1048576: NARROWER than '..Said'. Prove '..Said' where nothing that the law and all that it calls make is longer than what came in: it says more and counts as full. Else prove '..UptoSaid'. A law counts once. -/
mutual
def uptoBulk {H : Type} : DataW H → Nat
  | .lit (.string bytes) => bytes.length + 1
  | .lit _ => 1
  | .nil => 1
  | .ptr d => uptoBulk d + 1
  | .slice elems spare => uptoBulkAll elems + uptoBulkAll spare + 1
  | .agg parts => uptoBulkAll parts + 1
  | .iface _ d => uptoBulk d + 1
  | .map entries => uptoBulkEntries entries + 1
  | .held _ => 1
def uptoBulkAll {H : Type} : List (DataW H) → Nat
  | [] => 0
  | d :: r => uptoBulk d + uptoBulkAll r
def uptoBulkEntries {H : Type} : List (Lit × DataW H) → Nat
  | [] => 0
  | x :: r => uptoBulkEntry x + uptoBulkEntries r
def uptoBulkEntry {H : Type} : Lit × DataW H → Nat
  | (.string bytes, d) => bytes.length + uptoBulk d + 1
  | (_, d) => uptoBulk d + 1
 end
def uptoSmall : (H : Type) → List (DataW H) → Bool := fun _ ds => decide (uptoBulkAll ds ≤ 1048576)
def OpenSpec.upto (s : _root_.Go.ChangeSpec) : _root_.Go.OpenSpec := { _root_.Go.OpenSpec.ofChange s with cond := some uptoSmall }

/-- 'wherrylaw14.DotsExact', WHERE WHAT IT READS IS OF BULK AT MOST 1048576: true; the input reads as it did. -/
def dotsExactUptoRow : OpenClaim := { program := "ytgonanjdmdlkjaadoor", sum := "10753af60eea20d12a6eee96dd1082970aa70d6c96fbb2ad8917c53a6930b039", func := "wherry/wherrylaw14.DotsExact", spec := "dotsExact", inPlace := ["internal/bytealg.IndexByte", "internal/bytealg.Index", "internal/bytealg.IndexByteString", "internal/bytealg.IndexString"], unfollowed := true, recurses := true, named := ["internal/bytealg.MaxLen", "unicode/utf8.first", "unicode/utf8.acceptRanges"], apart := false, laid := [("unicode/utf8.acceptRanges", laid_unicode_utf8_acceptRanges), ("unicode/utf8.first", laid_unicode_utf8_first)], narrowed := true }
def DotsExactUptoSaid : Prop := dotsExactUptoRow.holds Tryd.pinned (OpenSpec.upto dotsExactSpec)

/-- 'wherrylaw14.DotsBack', WHERE WHAT IT READS IS OF BULK AT MOST 1048576: true; the input reads as it did. -/
def dotsBackUptoRow : OpenClaim := { program := "ytgonanjdmdlkjaadoor", sum := "10753af60eea20d12a6eee96dd1082970aa70d6c96fbb2ad8917c53a6930b039", func := "wherry/wherrylaw14.DotsBack", spec := "dotsBack", inPlace := ["internal/bytealg.IndexByte", "internal/bytealg.Index", "internal/bytealg.IndexByteString", "internal/bytealg.IndexString"], unfollowed := true, recurses := true, named := ["internal/bytealg.MaxLen", "unicode/utf8.first", "unicode/utf8.acceptRanges"], apart := false, laid := [("unicode/utf8.acceptRanges", laid_unicode_utf8_acceptRanges), ("unicode/utf8.first", laid_unicode_utf8_first)], narrowed := true }
def DotsBackUptoSaid : Prop := dotsBackUptoRow.holds Tryd.pinned (OpenSpec.upto dotsBackSpec)

/-- 'wherrylaw14.DotsOpen', WHERE WHAT IT READS IS OF BULK AT MOST 1048576: true; the input reads as it did. -/
def dotsOpenUptoRow : OpenClaim := { program := "ytgonanjdmdlkjaadoor", sum := "10753af60eea20d12a6eee96dd1082970aa70d6c96fbb2ad8917c53a6930b039", func := "wherry/wherrylaw14.DotsOpen", spec := "dotsOpen", inPlace := ["internal/bytealg.IndexByte", "internal/bytealg.Index", "internal/bytealg.IndexByteString", "internal/bytealg.IndexString"], unfollowed := true, recurses := true, named := ["internal/bytealg.MaxLen", "unicode/utf8.first", "unicode/utf8.acceptRanges"], apart := false, laid := [("unicode/utf8.acceptRanges", laid_unicode_utf8_acceptRanges), ("unicode/utf8.first", laid_unicode_utf8_first)], narrowed := true }
def DotsOpenUptoSaid : Prop := dotsOpenUptoRow.holds Tryd.pinned (OpenSpec.upto dotsOpenSpec)

/-- 'wherrylaw14.DotsJoin', WHERE WHAT IT READS IS OF BULK AT MOST 1048576: true; the input reads as it did. -/
def dotsJoinUptoRow : OpenClaim := { program := "ytgonanjdmdlkjaadoor", sum := "10753af60eea20d12a6eee96dd1082970aa70d6c96fbb2ad8917c53a6930b039", func := "wherry/wherrylaw14.DotsJoin", spec := "dotsJoin", inPlace := ["internal/bytealg.IndexByte", "internal/bytealg.Index", "internal/bytealg.IndexByteString", "internal/bytealg.IndexString"], unfollowed := true, recurses := true, named := ["internal/bytealg.MaxLen", "unicode/utf8.first", "unicode/utf8.acceptRanges"], apart := false, laid := [("unicode/utf8.acceptRanges", laid_unicode_utf8_acceptRanges), ("unicode/utf8.first", laid_unicode_utf8_first)], narrowed := true }
def DotsJoinUptoSaid : Prop := dotsJoinUptoRow.holds Tryd.pinned (OpenSpec.upto dotsJoinSpec)

/-- 'wherrylaw14.DotsLines', WHERE WHAT IT READS IS OF BULK AT MOST 1048576: true; the input reads as it did. -/
def dotsLinesUptoRow : OpenClaim := { program := "ytgonanjdmdlkjaadoor", sum := "10753af60eea20d12a6eee96dd1082970aa70d6c96fbb2ad8917c53a6930b039", func := "wherry/wherrylaw14.DotsLines", spec := "dotsLines", inPlace := ["internal/bytealg.IndexByte", "internal/bytealg.Index", "internal/bytealg.IndexByteString", "internal/bytealg.IndexString"], unfollowed := true, recurses := true, named := ["internal/bytealg.MaxLen", "unicode/utf8.first", "unicode/utf8.acceptRanges"], apart := false, laid := [("unicode/utf8.acceptRanges", laid_unicode_utf8_acceptRanges), ("unicode/utf8.first", laid_unicode_utf8_first)], narrowed := true }
def DotsLinesUptoSaid : Prop := dotsLinesUptoRow.holds Tryd.pinned (OpenSpec.upto dotsLinesSpec)

/-- 'wherrylaw14.DotsBare', WHERE WHAT IT READS IS OF BULK AT MOST 1048576: true; the input reads as it did. -/
def dotsBareUptoRow : OpenClaim := { program := "ytgonanjdmdlkjaadoor", sum := "10753af60eea20d12a6eee96dd1082970aa70d6c96fbb2ad8917c53a6930b039", func := "wherry/wherrylaw14.DotsBare", spec := "dotsBare", inPlace := ["internal/bytealg.IndexByte", "internal/bytealg.Index", "internal/bytealg.IndexByteString", "internal/bytealg.IndexString"], unfollowed := true, recurses := true, named := ["internal/bytealg.MaxLen", "unicode/utf8.first", "unicode/utf8.acceptRanges"], apart := false, laid := [("unicode/utf8.acceptRanges", laid_unicode_utf8_acceptRanges), ("unicode/utf8.first", laid_unicode_utf8_first)], narrowed := true }
def DotsBareUptoSaid : Prop := dotsBareUptoRow.holds Tryd.pinned (OpenSpec.upto dotsBareSpec)

/-- 'wherrylaw14.DotsTwo', WHERE WHAT IT READS IS OF BULK AT MOST 1048576: true; the input reads as it did. -/
def dotsTwoUptoRow : OpenClaim := { program := "ytgonanjdmdlkjaadoor", sum := "10753af60eea20d12a6eee96dd1082970aa70d6c96fbb2ad8917c53a6930b039", func := "wherry/wherrylaw14.DotsTwo", spec := "dotsTwo", inPlace := ["internal/bytealg.IndexByte", "internal/bytealg.Index", "internal/bytealg.IndexByteString", "internal/bytealg.IndexString"], unfollowed := true, recurses := true, named := ["internal/bytealg.MaxLen", "unicode/utf8.first", "unicode/utf8.acceptRanges"], apart := false, laid := [("unicode/utf8.acceptRanges", laid_unicode_utf8_acceptRanges), ("unicode/utf8.first", laid_unicode_utf8_first)], narrowed := true }
def DotsTwoUptoSaid : Prop := dotsTwoUptoRow.holds Tryd.pinned (OpenSpec.upto dotsTwoSpec)

end Rows
end Go.Proofs.YtgonanjdmdlkjaaDoor
