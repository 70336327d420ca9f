/-
  NARROWER THAN 'FOR EVERY INPUT', by the rows' own cells (each row's printed sentence says how): GrowBack: laid · GrowCut: laid · GrowTwo: laid · GrowFar: laid · GrowMore: laid · GrowBad: laid · GrowEmpty: laid.
  DERIVED. THE GIVEN ROWS OF THIS SEAT. 7 by the template 'for every input the law returns true; each argument reads behind the call as it read before'; 0 by the template 'total and deterministic' (their statements: YthceldoojddpiaaDoorTotals.lean).
  GIVEN WITH THE SEED: the statements are not yours to turn. If you find one false, say at which input.
  Laid BY PROGRAM, IN A SANDBOX (cutbox-rows.mjs): the forced cells as the released guide's own fill.sh prints them over the translation 4668d071442104b7… (all of the seat's roots in one cut). By AI agents, Wed Nov 11 2026. No macro, syntax, notation, axiom, sorry.
-/
import Derived.Test.YthceldoojddpiaaDoorChecked
import GoSem.Claim
import GoSem.ClaimJoined
import GoSem.ClaimMapViews
import Derived.JoinedTies
import Derived.KernelRfl
namespace Go.Proofs.YthceldoojddpiaaDoor
/- THE CELL 'sum', in the pinned program and in every row, IS THE sha256 OF THE DUMP (.gsa) THAT YthceldoojddpiaaDoorProg.lean LOADS. Nothing in Lean hashes anything: it is a label: what it is worth is what the hold of that sum in a sandbox is worth. -/
noncomputable def Tryd.pinned : Pinned := { name := "ythceldoojddpiaadoor", sum := "4668d071442104b73fa96589a7bbbb35742f0305925324301299ef7231066c57", checked := Tryd.checked }
namespace Rows
def none {H : Type} : Left H := { results := [], args := [] }

/- WHAT THE LISTED PACKAGE-LEVEL VARIABLES READ AS WHEN THE CALL BEGINS. Each datum BY PROGRAM (the guide's laid-datum.mjs) off the statement by which the dump's own 'gosem.cut.vars' lays the variable. In a bare row this is a premise. The card (YthceldoojddpiaaDoorCards.lean) ties it to the program's text. -/
def laid_wherry_grow_rowOrder {H : Type} : DataW H := .agg [.lit (.int .i64 16), .lit (.int .i64 17), .lit (.int .i64 18), .lit (.int .i64 0), .lit (.int .i64 8), .lit (.int .i64 7), .lit (.int .i64 9), .lit (.int .i64 6), .lit (.int .i64 10), .lit (.int .i64 5), .lit (.int .i64 11), .lit (.int .i64 4), .lit (.int .i64 12), .lit (.int .i64 3), .lit (.int .i64 13), .lit (.int .i64 2), .lit (.int .i64 14), .lit (.int .i64 1), .lit (.int .i64 15)]
def laid_wherry_shrink_rowOrder {H : Type} : DataW H := .agg [.lit (.int .i64 16), .lit (.int .i64 17), .lit (.int .i64 18), .lit (.int .i64 0), .lit (.int .i64 8), .lit (.int .i64 7), .lit (.int .i64 9), .lit (.int .i64 6), .lit (.int .i64 10), .lit (.int .i64 5), .lit (.int .i64 11), .lit (.int .i64 4), .lit (.int .i64 12), .lit (.int .i64 3), .lit (.int .i64 13), .lit (.int .i64 2), .lit (.int .i64 14), .lit (.int .i64 1), .lit (.int .i64 15)]

/-- 'wherrylaw07.GrowBack': WHATEVER THE INPUT: true; the input reads as it did. -/
def growBackSpec : ChangeSpec := { name := "growBack", fn := fun _ => fun
  | [d] => { results := [.lit (.bool true)], args := [d] }
  | _ => none }
def growBackRow : OpenClaim := { program := "ythceldoojddpiaadoor", sum := "4668d071442104b73fa96589a7bbbb35742f0305925324301299ef7231066c57", func := "wherry/wherrylaw07.GrowBack", spec := "growBack", unfollowed := true, recurses := true, named := ["wherry/shrink.rowOrder", "wherry/grow.rowOrder"], plainKeys := false, apart := false, laid := [("wherry/grow.rowOrder", laid_wherry_grow_rowOrder), ("wherry/shrink.rowOrder", laid_wherry_shrink_rowOrder)] }
def GrowBackSaid : Prop := growBackRow.holds Tryd.pinned (OpenSpec.ofChange growBackSpec)

/-- ITS FALSE NEIGHBOUR: 'it returns false'. Refute it at one input. -/
def growBackWrong : ChangeSpec := { name := "growBack", fn := fun _ => fun
  | [d] => { results := [.lit (.bool false)], args := [d] }
  | _ => none }
def GrowBackWrongFalsely : Prop := growBackRow.holds Tryd.pinned (OpenSpec.ofChange growBackWrong)

/-- 'wherrylaw07.GrowCut': WHATEVER THE INPUT: true; the input reads as it did. -/
def growCutSpec : ChangeSpec := { name := "growCut", fn := fun _ => fun
  | [d1, d2, d3] => { results := [.lit (.bool true)], args := [d1, d2, d3] }
  | _ => none }
def growCutRow : OpenClaim := { program := "ythceldoojddpiaadoor", sum := "4668d071442104b73fa96589a7bbbb35742f0305925324301299ef7231066c57", func := "wherry/wherrylaw07.GrowCut", spec := "growCut", named := ["wherry/grow.rowOrder"], plainKeys := false, apart := false, laid := [("wherry/grow.rowOrder", laid_wherry_grow_rowOrder)] }
def GrowCutSaid : Prop := growCutRow.holds Tryd.pinned (OpenSpec.ofChange growCutSpec)

/-- ITS FALSE NEIGHBOUR: 'it returns false'. Refute it at one input. -/
def growCutWrong : ChangeSpec := { name := "growCut", fn := fun _ => fun
  | [d1, d2, d3] => { results := [.lit (.bool false)], args := [d1, d2, d3] }
  | _ => none }
def GrowCutWrongFalsely : Prop := growCutRow.holds Tryd.pinned (OpenSpec.ofChange growCutWrong)

/-- 'wherrylaw07.GrowTwo': WHATEVER THE INPUT: true; the input reads as it did. -/
def growTwoSpec : ChangeSpec := { name := "growTwo", fn := fun _ => fun
  | [d1, d2] => { results := [.lit (.bool true)], args := [d1, d2] }
  | _ => none }
def growTwoRow : OpenClaim := { program := "ythceldoojddpiaadoor", sum := "4668d071442104b73fa96589a7bbbb35742f0305925324301299ef7231066c57", func := "wherry/wherrylaw07.GrowTwo", spec := "growTwo", unfollowed := true, recurses := true, named := ["wherry/shrink.rowOrder", "wherry/grow.rowOrder"], plainKeys := false, apart := false, laid := [("wherry/grow.rowOrder", laid_wherry_grow_rowOrder), ("wherry/shrink.rowOrder", laid_wherry_shrink_rowOrder)] }
def GrowTwoSaid : Prop := growTwoRow.holds Tryd.pinned (OpenSpec.ofChange growTwoSpec)

/-- ITS FALSE NEIGHBOUR: 'it returns false'. Refute it at one input. -/
def growTwoWrong : ChangeSpec := { name := "growTwo", fn := fun _ => fun
  | [d1, d2] => { results := [.lit (.bool false)], args := [d1, d2] }
  | _ => none }
def GrowTwoWrongFalsely : Prop := growTwoRow.holds Tryd.pinned (OpenSpec.ofChange growTwoWrong)

/-- 'wherrylaw07.GrowFar': WHATEVER THE INPUT: true; the input reads as it did. -/
def growFarSpec : ChangeSpec := { name := "growFar", fn := fun _ => fun
  | [d1, d2, d3, d4] => { results := [.lit (.bool true)], args := [d1, d2, d3, d4] }
  | _ => none }
def growFarRow : OpenClaim := { program := "ythceldoojddpiaadoor", sum := "4668d071442104b73fa96589a7bbbb35742f0305925324301299ef7231066c57", func := "wherry/wherrylaw07.GrowFar", spec := "growFar", named := ["wherry/grow.rowOrder"], plainKeys := false, apart := false, laid := [("wherry/grow.rowOrder", laid_wherry_grow_rowOrder)] }
def GrowFarSaid : Prop := growFarRow.holds Tryd.pinned (OpenSpec.ofChange growFarSpec)

/-- ITS FALSE NEIGHBOUR: 'it returns false'. Refute it at one input. -/
def growFarWrong : ChangeSpec := { name := "growFar", fn := fun _ => fun
  | [d1, d2, d3, d4] => { results := [.lit (.bool false)], args := [d1, d2, d3, d4] }
  | _ => none }
def GrowFarWrongFalsely : Prop := growFarRow.holds Tryd.pinned (OpenSpec.ofChange growFarWrong)

/-- 'wherrylaw07.GrowMore': WHATEVER THE INPUT: true; the input reads as it did. -/
def growMoreSpec : ChangeSpec := { name := "growMore", fn := fun _ => fun
  | [d1, d2, d3] => { results := [.lit (.bool true)], args := [d1, d2, d3] }
  | _ => none }
def growMoreRow : OpenClaim := { program := "ythceldoojddpiaadoor", sum := "4668d071442104b73fa96589a7bbbb35742f0305925324301299ef7231066c57", func := "wherry/wherrylaw07.GrowMore", spec := "growMore", named := ["wherry/grow.rowOrder"], plainKeys := false, apart := false, laid := [("wherry/grow.rowOrder", laid_wherry_grow_rowOrder)] }
def GrowMoreSaid : Prop := growMoreRow.holds Tryd.pinned (OpenSpec.ofChange growMoreSpec)

/-- ITS FALSE NEIGHBOUR: 'it returns false'. Refute it at one input. -/
def growMoreWrong : ChangeSpec := { name := "growMore", fn := fun _ => fun
  | [d1, d2, d3] => { results := [.lit (.bool false)], args := [d1, d2, d3] }
  | _ => none }
def GrowMoreWrongFalsely : Prop := growMoreRow.holds Tryd.pinned (OpenSpec.ofChange growMoreWrong)

/-- 'wherrylaw07.GrowBad': WHATEVER THE INPUT: true; the input reads as it did. -/
def growBadSpec : ChangeSpec := { name := "growBad", fn := fun _ => fun
  | [d1, d2] => { results := [.lit (.bool true)], args := [d1, d2] }
  | _ => none }
def growBadRow : OpenClaim := { program := "ythceldoojddpiaadoor", sum := "4668d071442104b73fa96589a7bbbb35742f0305925324301299ef7231066c57", func := "wherry/wherrylaw07.GrowBad", spec := "growBad", named := ["wherry/grow.rowOrder"], plainKeys := false, apart := false, laid := [("wherry/grow.rowOrder", laid_wherry_grow_rowOrder)] }
def GrowBadSaid : Prop := growBadRow.holds Tryd.pinned (OpenSpec.ofChange growBadSpec)

/-- ITS FALSE NEIGHBOUR: 'it returns false'. Refute it at one input. -/
def growBadWrong : ChangeSpec := { name := "growBad", fn := fun _ => fun
  | [d1, d2] => { results := [.lit (.bool false)], args := [d1, d2] }
  | _ => none }
def GrowBadWrongFalsely : Prop := growBadRow.holds Tryd.pinned (OpenSpec.ofChange growBadWrong)

/-- 'wherrylaw07.GrowEmpty': WHATEVER THE INPUT: true; the input reads as it did. -/
def growEmptySpec : ChangeSpec := { name := "growEmpty", fn := fun _ => fun
  | [d1, d2] => { results := [.lit (.bool true)], args := [d1, d2] }
  | _ => none }
def growEmptyRow : OpenClaim := { program := "ythceldoojddpiaadoor", sum := "4668d071442104b73fa96589a7bbbb35742f0305925324301299ef7231066c57", func := "wherry/wherrylaw07.GrowEmpty", spec := "growEmpty", unfollowed := true, recurses := true, named := ["wherry/shrink.rowOrder", "wherry/grow.rowOrder"], plainKeys := false, apart := false, laid := [("wherry/grow.rowOrder", laid_wherry_grow_rowOrder), ("wherry/shrink.rowOrder", laid_wherry_shrink_rowOrder)] }
def GrowEmptySaid : Prop := growEmptyRow.holds Tryd.pinned (OpenSpec.ofChange growEmptySpec)

/-- ITS FALSE NEIGHBOUR: 'it returns false'. Refute it at one input. -/
def growEmptyWrong : ChangeSpec := { name := "growEmpty", fn := fun _ => fun
  | [d1, d2] => { results := [.lit (.bool false)], args := [d1, d2] }
  | _ => none }
def GrowEmptyWrongFalsely : Prop := growEmptyRow.holds Tryd.pinned (OpenSpec.ofChange growEmptyWrong)

/- THE SECOND FORM. 'bulk': how many values and letters a reading holds, each counted each time it is reached (what is shared counts as often as it is met; a slice's spare places count too). A statement '..UptoSaid' is the law's where the arguments, and the package variables that the reading takes, are together of bulk at most 1048576: NARROWER than '..Said'. Prove '..Said' where nothing that the law and all that it calls make is longer than what came in: it says more and counts as full. Else prove '..UptoSaid'. A law counts once. -/
mutual
def uptoBulk {H : Type} : DataW H → Nat
  | .lit (.string bytes) => bytes.length + 1
  | .lit _ => 1
  | .nil => 1
  | .ptr d => uptoBulk d + 1
  | .slice elems spare => uptoBulkAll elems + uptoBulkAll spare + 1
  | .agg parts => uptoBulkAll parts + 1
  | .iface _ d => uptoBulk d + 1
  | .map entries => uptoBulkEntries entries + 1
  | .held _ => 1
def uptoBulkAll {H : Type} : List (DataW H) → Nat
  | [] => 0
  | d :: r => uptoBulk d + uptoBulkAll r
def uptoBulkEntries {H : Type} : List (Lit × DataW H) → Nat
  | [] => 0
  | x :: r => uptoBulkEntry x + uptoBulkEntries r
def uptoBulkEntry {H : Type} : Lit × DataW H → Nat
  | (.string bytes, d) => bytes.length + uptoBulk d + 1
  | (_, d) => uptoBulk d + 1
 end
def uptoSmall : (H : Type) → List (DataW H) → Bool := fun _ ds => decide (uptoBulkAll ds ≤ 1048576)
def OpenSpec.upto (s : _root_.Go.ChangeSpec) : _root_.Go.OpenSpec := { _root_.Go.OpenSpec.ofChange s with cond := some uptoSmall }

/-- 'wherrylaw07.GrowBack', WHERE WHAT IT READS IS OF BULK AT MOST 1048576: true; the input reads as it did. -/
def growBackUptoRow : OpenClaim := { program := "ythceldoojddpiaadoor", sum := "4668d071442104b73fa96589a7bbbb35742f0305925324301299ef7231066c57", func := "wherry/wherrylaw07.GrowBack", spec := "growBack", unfollowed := true, recurses := true, named := ["wherry/shrink.rowOrder", "wherry/grow.rowOrder"], plainKeys := false, apart := false, laid := [("wherry/grow.rowOrder", laid_wherry_grow_rowOrder), ("wherry/shrink.rowOrder", laid_wherry_shrink_rowOrder)], narrowed := true }
def GrowBackUptoSaid : Prop := growBackUptoRow.holds Tryd.pinned (OpenSpec.upto growBackSpec)

/-- 'wherrylaw07.GrowCut', WHERE WHAT IT READS IS OF BULK AT MOST 1048576: true; the input reads as it did. -/
def growCutUptoRow : OpenClaim := { program := "ythceldoojddpiaadoor", sum := "4668d071442104b73fa96589a7bbbb35742f0305925324301299ef7231066c57", func := "wherry/wherrylaw07.GrowCut", spec := "growCut", named := ["wherry/grow.rowOrder"], plainKeys := false, apart := false, laid := [("wherry/grow.rowOrder", laid_wherry_grow_rowOrder)], narrowed := true }
def GrowCutUptoSaid : Prop := growCutUptoRow.holds Tryd.pinned (OpenSpec.upto growCutSpec)

/-- 'wherrylaw07.GrowTwo', WHERE WHAT IT READS IS OF BULK AT MOST 1048576: true; the input reads as it did. -/
def growTwoUptoRow : OpenClaim := { program := "ythceldoojddpiaadoor", sum := "4668d071442104b73fa96589a7bbbb35742f0305925324301299ef7231066c57", func := "wherry/wherrylaw07.GrowTwo", spec := "growTwo", unfollowed := true, recurses := true, named := ["wherry/shrink.rowOrder", "wherry/grow.rowOrder"], plainKeys := false, apart := false, laid := [("wherry/grow.rowOrder", laid_wherry_grow_rowOrder), ("wherry/shrink.rowOrder", laid_wherry_shrink_rowOrder)], narrowed := true }
def GrowTwoUptoSaid : Prop := growTwoUptoRow.holds Tryd.pinned (OpenSpec.upto growTwoSpec)

/-- 'wherrylaw07.GrowFar', WHERE WHAT IT READS IS OF BULK AT MOST 1048576: true; the input reads as it did. -/
def growFarUptoRow : OpenClaim := { program := "ythceldoojddpiaadoor", sum := "4668d071442104b73fa96589a7bbbb35742f0305925324301299ef7231066c57", func := "wherry/wherrylaw07.GrowFar", spec := "growFar", named := ["wherry/grow.rowOrder"], plainKeys := false, apart := false, laid := [("wherry/grow.rowOrder", laid_wherry_grow_rowOrder)], narrowed := true }
def GrowFarUptoSaid : Prop := growFarUptoRow.holds Tryd.pinned (OpenSpec.upto growFarSpec)

/-- 'wherrylaw07.GrowMore', WHERE WHAT IT READS IS OF BULK AT MOST 1048576: true; the input reads as it did. -/
def growMoreUptoRow : OpenClaim := { program := "ythceldoojddpiaadoor", sum := "4668d071442104b73fa96589a7bbbb35742f0305925324301299ef7231066c57", func := "wherry/wherrylaw07.GrowMore", spec := "growMore", named := ["wherry/grow.rowOrder"], plainKeys := false, apart := false, laid := [("wherry/grow.rowOrder", laid_wherry_grow_rowOrder)], narrowed := true }
def GrowMoreUptoSaid : Prop := growMoreUptoRow.holds Tryd.pinned (OpenSpec.upto growMoreSpec)

/-- 'wherrylaw07.GrowBad', WHERE WHAT IT READS IS OF BULK AT MOST 1048576: true; the input reads as it did. -/
def growBadUptoRow : OpenClaim := { program := "ythceldoojddpiaadoor", sum := "4668d071442104b73fa96589a7bbbb35742f0305925324301299ef7231066c57", func := "wherry/wherrylaw07.GrowBad", spec := "growBad", named := ["wherry/grow.rowOrder"], plainKeys := false, apart := false, laid := [("wherry/grow.rowOrder", laid_wherry_grow_rowOrder)], narrowed := true }
def GrowBadUptoSaid : Prop := growBadUptoRow.holds Tryd.pinned (OpenSpec.upto growBadSpec)

/-- 'wherrylaw07.GrowEmpty', WHERE WHAT IT READS IS OF BULK AT MOST 1048576: true; the input reads as it did. -/
def growEmptyUptoRow : OpenClaim := { program := "ythceldoojddpiaadoor", sum := "4668d071442104b73fa96589a7bbbb35742f0305925324301299ef7231066c57", func := "wherry/wherrylaw07.GrowEmpty", spec := "growEmpty", unfollowed := true, recurses := true, named := ["wherry/shrink.rowOrder", "wherry/grow.rowOrder"], plainKeys := false, apart := false, laid := [("wherry/grow.rowOrder", laid_wherry_grow_rowOrder), ("wherry/shrink.rowOrder", laid_wherry_shrink_rowOrder)], narrowed := true }
def GrowEmptyUptoSaid : Prop := growEmptyUptoRow.holds Tryd.pinned (OpenSpec.upto growEmptySpec)

end Rows
end Go.Proofs.YthceldoojddpiaaDoor
