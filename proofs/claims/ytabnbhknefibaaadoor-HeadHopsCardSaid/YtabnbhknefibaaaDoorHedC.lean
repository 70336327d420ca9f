import Derived.Test.YtabnbhknefibaaaDoorHedB
namespace Go.Abs.Sh
set_option linter.unusedVariables false
set_option linter.unusedSimpArgs false
theorem stp_nil (fs : List T_Field) : stp fs (bstr []) = none := by
  have h1 : conx (bstr []) = false := by kernel_rfl
  have h2 : (fsx (bstr [])).2.2 = false := by kernel_rfl
  unfold stp
  rw [h1, h2]
  simp
theorem stp_len {fs fs' : List T_Field} {s : ByteArray} (e : stp fs s = some fs') : fs'.length ≤ fs.length + 1 := by
  unfold stp at e
  split at e
  · cases e; simp
  · split at e
    · cases e; simp
    · cases e
theorem scan_len : ∀ (ls : List (List Int)) (fs : List T_Field) (e : Nat), (scn ls fs e).1.length ≤ fs.length + ls.length
  | [], fs, e => by simp [scn]
  | l :: ls, fs, e => by
    simp only [scn]
    cases h : stp fs (bstr l) with
    | none => simp only [List.length_cons]; omega
    | some f =>
      have h1 := stp_len h
      have h2 := scan_len ls f (e + (l.length + 2))
      simp only [List.length_cons]; omega
theorem len_tot15 : ∀ ls : List (List Int), ls.length ≤ tot ls
  | [] => by simp
  | l :: ls => by have := len_tot15 ls; simp only [tot, List.length_cons]; omega
end Go.Abs.Sh
