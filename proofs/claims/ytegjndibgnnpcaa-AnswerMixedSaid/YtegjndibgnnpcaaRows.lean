/-
  No cell of these rows narrows 'for every input' (looked for: loops, veiled, ifaces, maps, wideKeys, modest, calm, conditions, laid).
  DERIVED. THE GIVEN ROWS OF THIS SEAT. 5 by the template 'for every input the law returns true; each argument reads behind the call as it read before'; 0 by the template 'total and deterministic' (their statements: YtegjndibgnnpcaaTotals.lean).
  GIVEN WITH THE SEED: the statements are not yours to turn. If you find one false, say at which input.
  Laid BY PROGRAM, IN A SANDBOX (cutbox-rows.mjs): the forced cells as the released guide's own fill.sh prints them over the translation 94cc8a4a314d47d1… (all of the seat's roots in one cut). By AI agents, Wed Nov 11 2026. No macro, syntax, notation, axiom, sorry.
-/
import Derived.Test.YtegjndibgnnpcaaChecked
import GoSem.Claim
import GoSem.ClaimJoined
import GoSem.ClaimMapViews
import Derived.JoinedTies
import Derived.KernelRfl
namespace Go.Proofs.Ytegjndibgnnpcaa
/- THE CELL 'sum', in the pinned program and in every row, IS THE sha256 OF THE DUMP (.gsa) THAT YtegjndibgnnpcaaProg.lean LOADS. Nothing in Lean hashes anything: it is a label: what it is worth is what the hold of that sum in a sandbox is worth. -/
noncomputable def Try.pinned : Pinned := { name := "ytegjndibgnnpcaa", sum := "94cc8a4a314d47d12f61883f774d5b78195ab1917d1eed7070bb4a69474d3b13", checked := Try.checked }
namespace Rows
def none {H : Type} : Left H := { results := [], args := [] }

/-- 'wherrylaw13.AnswerExact': WHATEVER THE INPUT: true; the input reads as it did. -/
def answerExactSpec : ChangeSpec := { name := "answerExact", fn := fun _ => fun
  | [d1, d2, d3] => { results := [.lit (.bool true)], args := [d1, d2, d3] }
  | _ => none }
def answerExactRow : OpenClaim := { program := "ytegjndibgnnpcaa", sum := "94cc8a4a314d47d12f61883f774d5b78195ab1917d1eed7070bb4a69474d3b13", func := "wherry/wherrylaw13.AnswerExact", spec := "answerExact", inPlace := ["internal/bytealg.IndexByte", "internal/bytealg.Index"], named := ["internal/bytealg.MaxLen"], apart := false }
def AnswerExactSaid : Prop := answerExactRow.holds Try.pinned (OpenSpec.ofChange answerExactSpec)

/-- ITS FALSE NEIGHBOUR: 'it returns false'. Refute it at one input. -/
def answerExactWrong : ChangeSpec := { name := "answerExact", fn := fun _ => fun
  | [d1, d2, d3] => { results := [.lit (.bool false)], args := [d1, d2, d3] }
  | _ => none }
def AnswerExactWrongFalsely : Prop := answerExactRow.holds Try.pinned (OpenSpec.ofChange answerExactWrong)

/-- 'wherrylaw13.AnswerBack': WHATEVER THE INPUT: true; the input reads as it did. -/
def answerBackSpec : ChangeSpec := { name := "answerBack", fn := fun _ => fun
  | [d1, d2] => { results := [.lit (.bool true)], args := [d1, d2] }
  | _ => none }
def answerBackRow : OpenClaim := { program := "ytegjndibgnnpcaa", sum := "94cc8a4a314d47d12f61883f774d5b78195ab1917d1eed7070bb4a69474d3b13", func := "wherry/wherrylaw13.AnswerBack", spec := "answerBack", inPlace := ["internal/bytealg.IndexByte", "internal/bytealg.Index"], named := ["internal/bytealg.MaxLen"], apart := false }
def AnswerBackSaid : Prop := answerBackRow.holds Try.pinned (OpenSpec.ofChange answerBackSpec)

/-- ITS FALSE NEIGHBOUR: 'it returns false'. Refute it at one input. -/
def answerBackWrong : ChangeSpec := { name := "answerBack", fn := fun _ => fun
  | [d1, d2] => { results := [.lit (.bool false)], args := [d1, d2] }
  | _ => none }
def AnswerBackWrongFalsely : Prop := answerBackRow.holds Try.pinned (OpenSpec.ofChange answerBackWrong)

/-- 'wherrylaw13.AnswerReads': WHATEVER THE INPUT: true; the input reads as it did. -/
def answerReadsSpec : ChangeSpec := { name := "answerReads", fn := fun _ => fun
  | [d] => { results := [.lit (.bool true)], args := [d] }
  | _ => none }
def answerReadsRow : OpenClaim := { program := "ytegjndibgnnpcaa", sum := "94cc8a4a314d47d12f61883f774d5b78195ab1917d1eed7070bb4a69474d3b13", func := "wherry/wherrylaw13.AnswerReads", spec := "answerReads", inPlace := ["internal/bytealg.IndexByte", "internal/bytealg.Index"], named := ["internal/bytealg.MaxLen"], apart := false }
def AnswerReadsSaid : Prop := answerReadsRow.holds Try.pinned (OpenSpec.ofChange answerReadsSpec)

/-- ITS FALSE NEIGHBOUR: 'it returns false'. Refute it at one input. -/
def answerReadsWrong : ChangeSpec := { name := "answerReads", fn := fun _ => fun
  | [d] => { results := [.lit (.bool false)], args := [d] }
  | _ => none }
def AnswerReadsWrongFalsely : Prop := answerReadsRow.holds Try.pinned (OpenSpec.ofChange answerReadsWrong)

/-- 'wherrylaw13.AnswerEnds': WHATEVER THE INPUT: true; the input reads as it did. -/
def answerEndsSpec : ChangeSpec := { name := "answerEnds", fn := fun _ => fun
  | [d1, d2, d3] => { results := [.lit (.bool true)], args := [d1, d2, d3] }
  | _ => none }
def answerEndsRow : OpenClaim := { program := "ytegjndibgnnpcaa", sum := "94cc8a4a314d47d12f61883f774d5b78195ab1917d1eed7070bb4a69474d3b13", func := "wherry/wherrylaw13.AnswerEnds", spec := "answerEnds", inPlace := ["internal/bytealg.IndexByte", "internal/bytealg.Index"], named := ["internal/bytealg.MaxLen"], apart := false }
def AnswerEndsSaid : Prop := answerEndsRow.holds Try.pinned (OpenSpec.ofChange answerEndsSpec)

/-- ITS FALSE NEIGHBOUR: 'it returns false'. Refute it at one input. -/
def answerEndsWrong : ChangeSpec := { name := "answerEnds", fn := fun _ => fun
  | [d1, d2, d3] => { results := [.lit (.bool false)], args := [d1, d2, d3] }
  | _ => none }
def AnswerEndsWrongFalsely : Prop := answerEndsRow.holds Try.pinned (OpenSpec.ofChange answerEndsWrong)

/-- 'wherrylaw13.AnswerMixed': WHATEVER THE INPUT: true; the input reads as it did. -/
def answerMixedSpec : ChangeSpec := { name := "answerMixed", fn := fun _ => fun
  | [d1, d2] => { results := [.lit (.bool true)], args := [d1, d2] }
  | _ => none }
def answerMixedRow : OpenClaim := { program := "ytegjndibgnnpcaa", sum := "94cc8a4a314d47d12f61883f774d5b78195ab1917d1eed7070bb4a69474d3b13", func := "wherry/wherrylaw13.AnswerMixed", spec := "answerMixed", inPlace := ["internal/bytealg.IndexByte", "internal/bytealg.Index"], named := ["internal/bytealg.MaxLen"], apart := false }
def AnswerMixedSaid : Prop := answerMixedRow.holds Try.pinned (OpenSpec.ofChange answerMixedSpec)

/-- ITS FALSE NEIGHBOUR: 'it returns false'. Refute it at one input. -/
def answerMixedWrong : ChangeSpec := { name := "answerMixed", fn := fun _ => fun
  | [d1, d2] => { results := [.lit (.bool false)], args := [d1, d2] }
  | _ => none }
def AnswerMixedWrongFalsely : Prop := answerMixedRow.holds Try.pinned (OpenSpec.ofChange answerMixedWrong)

/- THE SECOND FORM. 'bulk': how many values and letters a reading holds, each counted each time it is reached (what is shared counts as often as it is met; a slice's spare places count too). A statement '..UptoSaid' is the law's where the arguments, and the package variables that the reading takes, are together of bulk at most 1048576: NARROWER than '..Said'. Prove '..Said' where nothing that the law and all that it calls make is longer than what came in: it says more and counts as full. Else prove '..UptoSaid'. A law counts once. -/
mutual
def uptoBulk {H : Type} : DataW H → Nat
  | .lit (.string bytes) => bytes.length + 1
  | .lit _ => 1
  | .nil => 1
  | .ptr d => uptoBulk d + 1
  | .slice elems spare => uptoBulkAll elems + uptoBulkAll spare + 1
  | .agg parts => uptoBulkAll parts + 1
  | .iface _ d => uptoBulk d + 1
  | .map entries => uptoBulkEntries entries + 1
  | .held _ => 1
def uptoBulkAll {H : Type} : List (DataW H) → Nat
  | [] => 0
  | d :: r => uptoBulk d + uptoBulkAll r
def uptoBulkEntries {H : Type} : List (Lit × DataW H) → Nat
  | [] => 0
  | x :: r => uptoBulkEntry x + uptoBulkEntries r
def uptoBulkEntry {H : Type} : Lit × DataW H → Nat
  | (.string bytes, d) => bytes.length + uptoBulk d + 1
  | (_, d) => uptoBulk d + 1
 end
def uptoSmall : (H : Type) → List (DataW H) → Bool := fun _ ds => decide (uptoBulkAll ds ≤ 1048576)
def OpenSpec.upto (s : _root_.Go.ChangeSpec) : _root_.Go.OpenSpec := { _root_.Go.OpenSpec.ofChange s with cond := some uptoSmall }

/-- 'wherrylaw13.AnswerExact', WHERE WHAT IT READS IS OF BULK AT MOST 1048576: true; the input reads as it did. -/
def answerExactUptoRow : OpenClaim := { program := "ytegjndibgnnpcaa", sum := "94cc8a4a314d47d12f61883f774d5b78195ab1917d1eed7070bb4a69474d3b13", func := "wherry/wherrylaw13.AnswerExact", spec := "answerExact", inPlace := ["internal/bytealg.IndexByte", "internal/bytealg.Index"], named := ["internal/bytealg.MaxLen"], apart := false, narrowed := true }
def AnswerExactUptoSaid : Prop := answerExactUptoRow.holds Try.pinned (OpenSpec.upto answerExactSpec)

/-- 'wherrylaw13.AnswerBack', WHERE WHAT IT READS IS OF BULK AT MOST 1048576: true; the input reads as it did. -/
def answerBackUptoRow : OpenClaim := { program := "ytegjndibgnnpcaa", sum := "94cc8a4a314d47d12f61883f774d5b78195ab1917d1eed7070bb4a69474d3b13", func := "wherry/wherrylaw13.AnswerBack", spec := "answerBack", inPlace := ["internal/bytealg.IndexByte", "internal/bytealg.Index"], named := ["internal/bytealg.MaxLen"], apart := false, narrowed := true }
def AnswerBackUptoSaid : Prop := answerBackUptoRow.holds Try.pinned (OpenSpec.upto answerBackSpec)

/-- 'wherrylaw13.AnswerReads', WHERE WHAT IT READS IS OF BULK AT MOST 1048576: true; the input reads as it did. -/
def answerReadsUptoRow : OpenClaim := { program := "ytegjndibgnnpcaa", sum := "94cc8a4a314d47d12f61883f774d5b78195ab1917d1eed7070bb4a69474d3b13", func := "wherry/wherrylaw13.AnswerReads", spec := "answerReads", inPlace := ["internal/bytealg.IndexByte", "internal/bytealg.Index"], named := ["internal/bytealg.MaxLen"], apart := false, narrowed := true }
def AnswerReadsUptoSaid : Prop := answerReadsUptoRow.holds Try.pinned (OpenSpec.upto answerReadsSpec)

/-- 'wherrylaw13.AnswerEnds', WHERE WHAT IT READS IS OF BULK AT MOST 1048576: true; the input reads as it did. -/
def answerEndsUptoRow : OpenClaim := { program := "ytegjndibgnnpcaa", sum := "94cc8a4a314d47d12f61883f774d5b78195ab1917d1eed7070bb4a69474d3b13", func := "wherry/wherrylaw13.AnswerEnds", spec := "answerEnds", inPlace := ["internal/bytealg.IndexByte", "internal/bytealg.Index"], named := ["internal/bytealg.MaxLen"], apart := false, narrowed := true }
def AnswerEndsUptoSaid : Prop := answerEndsUptoRow.holds Try.pinned (OpenSpec.upto answerEndsSpec)

/-- 'wherrylaw13.AnswerMixed', WHERE WHAT IT READS IS OF BULK AT MOST 1048576: true; the input reads as it did. -/
def answerMixedUptoRow : OpenClaim := { program := "ytegjndibgnnpcaa", sum := "94cc8a4a314d47d12f61883f774d5b78195ab1917d1eed7070bb4a69474d3b13", func := "wherry/wherrylaw13.AnswerMixed", spec := "answerMixed", inPlace := ["internal/bytealg.IndexByte", "internal/bytealg.Index"], named := ["internal/bytealg.MaxLen"], apart := false, narrowed := true }
def AnswerMixedUptoSaid : Prop := answerMixedUptoRow.holds Try.pinned (OpenSpec.upto answerMixedSpec)

end Rows
end Go.Proofs.Ytegjndibgnnpcaa
