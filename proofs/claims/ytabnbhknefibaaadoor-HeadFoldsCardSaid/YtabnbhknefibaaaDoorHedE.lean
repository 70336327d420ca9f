import Derived.Test.YtabnbhknefibaaaDoorHedD
namespace Go.Abs.Sh
set_option linter.unusedVariables false
set_option linter.unusedSimpArgs false
theorem sb_get {s : ByteArray} {P : Int → Prop} (h : ∀ i, (hi : i < (sbytes s).length) → P ((sbytes s)[i]'hi)) : ∀ x ∈ sbytes s, P x := by
  intro x hx
  obtain ⟨i, hi, rfl⟩ := List.mem_iff_getElem.1 hx
  exact h i hi
theorem plain_any (s : ByteArray) (hz : s.size < 1000000) : ∃ r, wherrylaw15_plain s = some r ∧ (r = true → cln (sbytes s)) := by
  have key := loop_all (R := Bool) (f := fun (s17 : Int) =>
      cond ((decide (s17 < (s.size : Int))))
        (bindS (S := Bool) (A := ((Int) ⊕ ((Unit) ⊕ Bool)))
          ((chrO s s17).bind fun v2 =>
          cond ((v2 == 13))
            (some (.inl true))
            ((chrO s s17).bind fun v3 =>
            some (.inl (v3 == 10))))
          (fun (s31 : Bool) =>
            cond (s31)
              (some (.inr (.inr (false))))
              ((some (IntKind.i64.wrap (s17 + 1))).bind fun v9 =>
              some (.inl v9))) some)
        (some (.inr (.inl ())))) (fun i => match (sbytes s)[i]? with | some c => !(c == 13 || c == 10) | none => false) s.size false (fuel := BIG) (by unfold BIG; omega)
    (fun i hi hp => by
      have hi2 : i < (sbytes s).length := by rw [sbytes_len]; exact hi
      rw [get_of hi2] at hp
      simp only [Bool.not_eq_true', Bool.or_eq_false_iff] at hp
      exact cnd_t (decide_eq_true (by omega)) (bndL (s := false) (bnd (chr_of hi) (cnd_f hp.1 (bnd (chr_of hi) (by rw [hp.2])))) (cnd_f rfl (bnd (some_wrap (by omega) (by omega)) rfl))))
    (fun i hi hp => by
      have hi2 : i < (sbytes s).length := by rw [sbytes_len]; exact hi
      rw [get_of hi2] at hp
      cases h13 : ((sbytes s)[i] == 13)
      · simp only [h13, Bool.false_or, Bool.not_eq_false'] at hp
        exact cnd_t (decide_eq_true (by omega)) (bndL (s := true) (bnd (chr_of hi) (cnd_f h13 (bnd (chr_of hi) (by rw [hp])))) (cnd_t rfl rfl))
      · exact cnd_t (decide_eq_true (by omega)) (bndL (s := true) (bnd (chr_of hi) (cnd_t h13 rfl)) (cnd_t rfl rfl)))
    (cnd_f (decide_eq_false (by omega)) rfl)
  unfold wherrylaw15_plain
  split at key
  · rename_i hall
    refine ⟨true, bndL (s := ()) key rfl, fun _ => sb_get (P := fun x => x ≠ 13 ∧ x ≠ 10) fun i hi => ?_⟩
    have := hall i (by rw [← sbytes_len]; exact hi)
    rw [get_of hi] at this
    simp only [Bool.not_eq_true', Bool.or_eq_false_iff, beq_eq_false_iff_ne] at this
    exact this
  · exact ⟨false, bndR (a := false) key rfl, fun h => by cases h⟩
end Go.Abs.Sh
