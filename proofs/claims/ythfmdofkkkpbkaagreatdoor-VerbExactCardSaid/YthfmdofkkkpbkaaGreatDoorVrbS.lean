import Derived.Test.YthfmdofkkkpbkaaGreatDoorPatI
namespace Go.Abs.Sh
set_option linter.unusedVariables false
set_option linter.unusedSimpArgs false
/-! What a line is, over its bytes. -/
def prB (x : Int) : Bool := decide (32 ≤ x) && decide (x ≤ 126)
def pfx (w l : List Int) : Option (List Int) := if w.length ≤ l.length ∧ lowL (l.take w.length) = lowL w then some (l.drop w.length) else none
def wAuth : List Int := [65, 85, 84, 72, 32]
def wCram : List Int := [67, 82, 65, 77, 45, 77, 68, 53]
def wMail : List Int := [77, 65, 73, 76, 32, 70, 82, 79, 77, 58]
def wRcpt : List Int := [82, 67, 80, 84, 32, 84, 79, 58]
def cutW (c : Int) (l : List Int) : List Int × List Int × Bool := match idx1 c l with
  | none => (l, [], false)
  | some e => (l.take e, l.drop (e + 1), true)
def kindW (w : List Int) : Int :=
  if w = [101, 104, 108, 111] ∨ w = [104, 101, 108, 111] then 1
  else if w = [109, 97, 105, 108] then 2
  else if w = [114, 99, 112, 116] then 3
  else if w = [100, 97, 116, 97] then 4
  else if w = [114, 115, 101, 116] then 5
  else if w = [113, 117, 105, 116] then 8
  else if w = [110, 111, 111, 112] then 7
  else if w = [118, 114, 102, 121] then 6
  else if w = [101, 116, 114, 110] then 9
  else if w = [97, 117, 116, 104] then 10
  else if w = [97, 116, 114, 110] then 11
  else 0
def kindL (l : List Int) : Int := kindW (lowL (cutW 32 l).1)
def mechB (l : List Int) : Bool := match pfx wAuth l with
  | none => false
  | some n => !n.isEmpty && (decide (lowL n ≠ lowL wCram) && n.all lbB)
def dgB (c : Int) : Bool := decide (48 ≤ c) && decide (c ≤ 57)
def numB (l : List Int) : Bool := !l.isEmpty && (decide (l.length ≤ 9) && (!(l.head? == some 48 && decide (l ≠ [48])) && l.all dgB))
def paramL (kind : Int) (p : List Int) : Option T_Param :=
  if kind = 2 ∧ lowL (cutW 61 p).1 = [115, 105, 122, 101] then (if numB (cutW 61 p).2.1 then some ⟨bstr [83, 73, 90, 69], bstr (cutW 61 p).2.1⟩ else none)
  else if kind = 2 ∧ lowL (cutW 61 p).1 = [114, 101, 116] then
    (if lowL (cutW 61 p).2.1 = [102, 117, 108, 108] then some ⟨bstr [82, 69, 84], bstr [70, 85, 76, 76]⟩
     else if lowL (cutW 61 p).2.1 = [104, 100, 114, 115] then some ⟨bstr [82, 69, 84], bstr [72, 68, 82, 83]⟩ else none)
  else if kind = 3 ∧ lowL (cutW 61 p).1 = [110, 111, 116, 105, 102, 121] then
    (if lowL (cutW 61 p).2.1 = [110, 101, 118, 101, 114] then some ⟨bstr [78, 79, 84, 73, 70, 89], bstr [78, 69, 86, 69, 82]⟩
     else if lowL (cutW 61 p).2.1 = [102, 97, 105, 108, 117, 114, 101] then some ⟨bstr [78, 79, 84, 73, 70, 89], bstr [70, 65, 73, 76, 85, 82, 69]⟩ else none)
  else none
def foldP (kind : Int) : List (List Int) → List T_Param → Option (List T_Param)
  | [], acc => some acc
  | p :: ps, acc => match paramL kind p with
    | none => none
    | some q => if acc.any (fun x => decide (x.Key = q.Key)) then none else foldP kind ps (acc ++ [q])
def parsL (kind : Int) (l : List Int) : Option (List T_Param) := match l with
  | [] => some []
  | x :: r => if x = 32 then foldP kind (spl 32 r) [] else none
def openW (kind : Int) : List Int := if kind = 2 then wMail else wRcpt
def boxedL (kind : Int) (l : List Int) : Option T_Cmd := match idx1 62 l with
  | none => none
  | some e => match parL (l.take (e + 1)) with
    | none => none
    | some p => if kind = 3 ∧ p.Null = true then none else match parsL kind (l.drop (e + 1)) with
      | none => none
      | some ps => some ⟨kind, e0, p, ps⟩
def cmdL (l : List Int) : Option T_Cmd :=
  let k := kindL l
  let c := cutW 32 l
  if k = 2 ∨ k = 3 then (pfx (openW k) l).bind (boxedL k)
  else if k = 1 ∨ k = 9 then (if domB c.2.1 then some ⟨k, bstr c.2.1, noP, []⟩ else none)
  else if k = 6 then (if c.2.1 = [] then none else some ⟨k, bstr c.2.1, noP, []⟩)
  else if k = 11 then (if c.2.2 = true ∧ domB c.2.1 = false then none else some ⟨k, bstr c.2.1, noP, []⟩)
  else if k = 10 then (if lowL c.2.1 = lowL wCram then some ⟨k, e0, noP, []⟩ else none)
  else if k = 7 then some ⟨k, e0, noP, []⟩
  else (if c.2.2 = true then none else some ⟨k, e0, noP, []⟩)
def noC : T_Cmd := ⟨0, e0, noP, []⟩
def vparse (l : List Int) : T_Cmd × Int :=
  if 510 < l.length ∨ l.all prB = false ∨ kindL l = 0 then (noC, 500)
  else if mechB l then (noC, 504)
  else match cmdL l with | none => (noC, 501) | some c => (c, 0)
end Go.Abs.Sh
