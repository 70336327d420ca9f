import Derived.Test.YtabnbhknefibaaaDoorHedB
namespace Go.Abs.Sh
set_option linter.unusedVariables false
set_option linter.unusedSimpArgs false
theorem fields_refl (l : List T_Field) (hn : l.length < 4294967296) : wherrykeep_Fields l l = some true := by
  unfold wherrykeep_Fields
  refine cnd_f (by simp) (bndL (s := ()) (loop_from (fun i => (i : Int)) l.length BIG rfl (by unfold BIG; omega) (fun i hi => ?_) (cnd_f (decide_eq_false (by omega)) rfl)) rfl)
  exact cnd_t (decide_eq_true (by omega)) (bndL (s := false) (bnd (ixO_of hi) (bnd (getO_of hi) (bnd (ixO_of hi) (bnd (getO_of hi) (cnd_f (by simp) (bnd (ixO_of hi) (bnd (getO_of hi) (bnd (ixO_of hi) (bnd (getO_of hi) (by simp)))))))))) (cnd_f rfl (bnd (some_wrap (by omega) (by omega)) rfl)))
theorem stp_len {fs fs' : List T_Field} {s : ByteArray} (e : stp fs s = some fs') : fs'.length ≤ fs.length + 1 := by
  unfold stp at e
  split at e
  · cases e; simp
  · split at e
    · cases e; simp
    · cases e
theorem scan_len : ∀ (ls : List (List Int)) (fs : List T_Field) (e : Nat), (scn ls fs e).1.length ≤ fs.length + ls.length
  | [], fs, e => by simp [scn]
  | l :: ls, fs, e => by
    simp only [scn]
    cases h : stp fs (bstr l) with
    | none => simp only [List.length_cons]; omega
    | some f =>
      have h1 := stp_len h
      have h2 := scan_len ls f (e + (l.length + 2))
      simp only [List.length_cons]; omega
theorem len_tot15 : ∀ ls : List (List Int), ls.length ≤ tot ls
  | [] => by simp
  | l :: ls => by have := len_tot15 ls; simp only [tot, List.length_cons]; omega
end Go.Abs.Sh
