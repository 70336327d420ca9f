import Derived.Test.YtgonanjdmdlkjaaDoorLoopM
namespace Go.Abs.Sh
set_option linter.unusedVariables false
theorem sbytes_bstr {l : List Int} (h : byt l) : sbytes (bstr l) = l := by
  simp only [bstr, sbytes, List.map_map]
  conv => rhs; rw [← List.map_id l]
  apply List.map_congr_left
  intro x hx
  have := h x hx
  simp only [Function.comp, id_eq, UInt8.toNat_ofNat']
  omega
theorem byt_drop {l : List Int} (h : byt l) (n : Nat) : byt (l.drop n) := fun x hx => h x (List.mem_of_mem_drop hx)
theorem byt_take {l : List Int} (h : byt l) (n : Nat) : byt (l.take n) := fun x hx => h x (List.mem_of_mem_take hx)
theorem byt_of_wf {l : List Int} (h : wfL (wfI .u8) l) : byt l := by
  intro x hx
  have := h.2 x hx
  simp only [wfI, Lit.wf, IntKind.min, IntKind.max, IntKind.signed, IntKind.bits] at this
  have h2 : 0 ≤ x ∧ x ≤ 255 := by simpa using this
  omega
theorem toList_beq (s t : ByteArray) : (s.toList == t.toList) = decide (s = t) := by
  rw [← beq_toListBytes, Bool.eq_iff_iff, decide_eq_true_eq]
  obtain ⟨a⟩ := s
  obtain ⟨b⟩ := t
  show (a == b) = true ↔ _
  rw [beq_iff_eq]
  exact ⟨fun h => by rw [h], fun h => by injection h⟩
end Go.Abs.Sh
