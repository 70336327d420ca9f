import Derived.Test.YtofbofdggabfiaaDoorPatC
import Derived.Test.YtofbofdggabfiaaDoorPatG
import Derived.Test.YtofbofdggabfiaaDoorLineM
import Derived.Test.YtofbofdggabfiaaDoorKeepM
import Derived.KernelRfl
namespace Go.Abs.Sh
set_option linter.unusedVariables false
set_option linter.unusedSimpArgs false
set_option maxRecDepth 10000
inductive Lns : List Int → List (List Int) → List Int → Prop
  | nil {b : List Int} (h : idx2 b = none) : Lns b [] b
  | cons {b : List Int} {e : Nat} {ls : List (List Int)} {r : List Int} (h : idx2 b = some e) (t : Lns (b.drop (e + 2)) ls r) : Lns b (b.take e :: ls) r
/-! DotB's and DotD's lemmas that stages without Stuff want too: Lines, the reference's Body. -/
def q1 : ByteArray := (⟨#[70, 114, 111, 109, 58, 32, 60, 112, 111, 115, 116, 109, 97, 115, 116, 101, 114, 64]⟩ : ByteArray)
def q2 : ByteArray := (⟨#[84, 111, 58, 32]⟩ : ByteArray)
theorem byt1 {c : Int} (h : 0 ≤ c ∧ c < 256) : byt [c] := fun x hx => by rw [List.mem_singleton.1 hx]; exact h
structure Sm (p : T_Path) : Prop where
  l : p.Local.size ≤ 32000
  d : p.Domain.size ≤ 32000
theorem Sm.small {p : T_Path} (h : Sm p) : Small p := ⟨by have := h.l; omega, by have := h.d; omega⟩
theorem sz_of {s : ByteArray} (h : wzS s) : s.size ≤ 140737488351232 := by simpa only [wzS, reachBytes] using h
theorem pz_of {p : T_Path} (h : T_Path.wz p) : p.Local.size ≤ 140737488351232 ∧ p.Domain.size ≤ 140737488351232 := ⟨sz_of h.2.1, sz_of h.2.2⟩
theorem bz_of {l : List Int} (h : wzL 1 (wfI .u8) l) : byt l := byt_of_wf ⟨by have := h.1; simp only [reachBytes] at this; simp only [maxLen]; omega, h.2⟩
end Go.Abs.Sh
