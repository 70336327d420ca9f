import Derived.Test.YtofbofdggabfiaaDoorLoopM
namespace Go.Abs.Sh
set_option linter.unusedVariables false
theorem bstr_size (l : List Int) : (bstr l).size = l.length := by simp [bstr, ByteArray.size]
theorem byt_app {l m : List Int} (h : byt l) (k : byt m) : byt (l ++ m) := by
  intro x hx
  rcases List.mem_append.1 hx with h1 | h1
  · exact h x h1
  · exact k x h1
theorem byt_of_wf {l : List Int} (h : wfL (wfI .u8) l) : byt l := by
  intro x hx
  have := h.2 x hx
  simp only [wfI, Lit.wf, IntKind.min, IntKind.max, IntKind.signed, IntKind.bits] at this
  have h2 : 0 ≤ x ∧ x ≤ 255 := by simpa using this
  omega
end Go.Abs.Sh
