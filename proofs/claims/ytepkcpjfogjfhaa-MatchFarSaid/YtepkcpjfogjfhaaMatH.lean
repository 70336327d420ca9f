import Derived.Test.YtepkcpjfogjfhaaMatG
namespace Go.Abs.Sh
set_option linter.unusedVariables false
set_option linter.unusedSimpArgs false
set_option maxRecDepth 10000
theorem bys {l : List Int} (h : wfL (wfI .u8) l) : ∀ n ∈ l, 0 ≤ n ∧ n < 256 := by
  intro x hx
  have := h.2 x hx
  unfold wfI at this
  have h1 : IntKind.u8.min = 0 := by decide
  have h2 : IntKind.u8.max = 255 := by decide
  simp [Lit.wf, h1, h2] at this
  omega
theorem toksS_len (b : List Int) : (toksS b).length ≤ b.length := by
  have := toks_len b b.length 0
  unfold toksS; omega
theorem inl_ofB {A : Type} {a b : Bool} (h : a = b) : (some (.inl a) : Option (Bool ⊕ A)) = some (.inl b) := by rw [h]
end Go.Abs.Sh
