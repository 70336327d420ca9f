import Derived.Test.YtabnbhknefibaaaDoorPatA
import Derived.KernelRfl
namespace Go.Abs.Sh
set_option linter.unusedVariables false
set_option linter.unusedSimpArgs false
theorem hasPrefix_eq (s p : ByteArray) : internal_stringslite_HasPrefix s p = some (decide (sbytes p <+: sbytes s)) := by
  unfold internal_stringslite_HasPrefix
  by_cases h : p.size ≤ s.size
  · have e := sub_of (s := s) (a := 0) (b := p.size) (by omega) h
    refine bndL (s := decide (sbytes p <+: sbytes s)) (cnd_t (decide_eq_true (by omega)) (bnd e ?_)) rfl
    congr 2
    rw [toList_beq]
    congr 1
    rw [str_eq_iff, sbytes_bstr (byt_take (byt_drop (byt_sbytes s) 0) _), List.prefix_iff_eq_take, sbytes_len]
    simp only [List.drop_zero, Nat.sub_zero, eq_iff_iff]
    exact eq_comm
  · refine bndL (s := false) (cnd_f (decide_eq_false (by omega)) rfl) ?_
    rw [decide_eq_false]
    intro hp
    have := hp.length_le
    rw [sbytes_len, sbytes_len] at this
    omega
def e0 : ByteArray := ⟨#[]⟩
theorem pre1 (c : Int) (l : List Int) : [c] <+: l ↔ l.head? = some c := by
  cases l with
  | nil => simp
  | cons x l => simp [List.cons_prefix_cons, eq_comm]
theorem byt_cons {c : Int} {l : List Int} (h : 0 ≤ c ∧ c < 256) (hl : byt l) : byt (c :: l) := by
  intro x hx
  simp only [List.mem_cons] at hx
  rcases hx with rfl | hx
  · exact h
  · exact hl x hx
end Go.Abs.Sh
