import Derived.Test.YtabnbhknefibaaaDoorDotH
namespace Go.Abs.Sh
set_option linter.unusedVariables false
set_option linter.unusedSimpArgs false
theorem okb_bad : ∀ (b : List Int) (p : Int), okb p b → ∀ i, i < b.length → (b[i]? = some 13 → b[i + 1]? = some 10) ∧ (b[i]? = some 10 → (if i = 0 then some p else b[i - 1]?) = some 13)
  | x :: l, p, h, 0, _ => by
    obtain ⟨h1, h2, h3⟩ := h
    refine ⟨fun e => ?_, fun e => ?_⟩
    · have := h1 (by simpa using e)
      cases l with
      | nil => simp at this
      | cons y l => simpa using this
    · have := h2 (by simpa using e)
      simp [this]
  | x :: l, p, h, i + 1, hi => by
    have := okb_bad l x h.2.2 i (by simpa using hi)
    refine ⟨fun e => by simpa using this.1 (by simpa using e), fun e => ?_⟩
    have h2 := this.2 (by simpa using e)
    rw [if_neg (by omega)]
    cases i with
    | zero => simpa using h2
    | succ i => simpa using h2
theorem bad_yes {b : List Int} (h : okb 0 b) : ∀ i, i < b.length → (!bad b i) = true := by
  intro i hi
  obtain ⟨h1, h2⟩ := okb_bad b 0 h i hi
  simp only [bad, Bool.not_eq_true']
  split
  · rename_i e
    rw [decide_eq_false_iff_not, Classical.not_not]; exact h1 e
  · split
    · rename_i e
      have := h2 e
      rw [decide_eq_false_iff_not, not_or, Classical.not_not]
      by_cases h0 : i = 0
      · rw [if_pos h0] at this; simp at this
      · rw [if_neg h0] at this; exact ⟨h0, this⟩
    · rfl
theorem body_jn0 (b : List Int) (ho : okb 0 b) (he : b = [] ∨ b.getLast? = some 10) (hl : b.length < 4294967281) : wherryref11_Body b = some true := by
  have hloop := loop_all (R := Bool) (f := fun (s31 : Int) => cond ((decide (s31 < (b.length : Int))))
        (bindS (S := Bool) (A := ((Int) ⊕ ((Unit) ⊕ Bool)))
          ((ixO s31 b.length).bind fun v2 =>
          (getO b v2).bind fun v3 =>
          cond ((v3 == 13))
            ((some (IntKind.i64.wrap (s31 + 1))).bind fun v4 =>
            cond ((decide ((b.length : Int) ≤ v4)))
              (some (.inl true))
              ((some (IntKind.i64.wrap (s31 + 1))).bind fun v5 =>
              (ixO v5 b.length).bind fun v6 =>
              (getO b v6).bind fun v7 =>
              cond ((v7 != 10))
                (some (.inl true))
                ((ixO s31 b.length).bind fun v8 =>
                (getO b v8).bind fun v9 =>
                cond ((v9 == 10))
                  (cond ((s31 == 0))
                    (some (.inl true))
                    ((some (IntKind.i64.wrap (s31 - 1))).bind fun v10 =>
                    (ixO v10 b.length).bind fun v11 =>
                    (getO b v11).bind fun v12 =>
                    some (.inl (v12 != 13))))
                  (some (.inl false)))))
            ((ixO s31 b.length).bind fun v13 =>
            (getO b v13).bind fun v14 =>
            cond ((v14 == 10))
              (cond ((s31 == 0))
                (some (.inl true))
                ((some (IntKind.i64.wrap (s31 - 1))).bind fun v15 =>
                (ixO v15 b.length).bind fun v16 =>
                (getO b v16).bind fun v17 =>
                some (.inl (v17 != 13))))
              (some (.inl false))))
          (fun (s45 : Bool) =>
            cond (s45)
              (some (.inr (.inr (false))))
              ((some (IntKind.i64.wrap (s31 + 1))).bind fun v23 =>
              some (.inl v23))) some)
        (some (.inr (.inl ())))) (fun i => !bad b i) b.length false (fuel := BIG) (by unfold BIG; omega)
    (fun i hi hp => cnd_t (decide_eq_true (by omega)) (bndL (s := bad b i) (body_step b hi (by omega)) (cnd_f (by simpa using hp) (bnd (some_wrap (by omega) (by omega)) rfl))))
    (fun i hi hp => cnd_t (decide_eq_true (by omega)) (bndL (s := bad b i) (body_step b hi (by omega)) (cnd_t (by simpa using hp) rfl)))
    (cnd_f (decide_eq_false (by omega)) rfl)
  rw [if_pos (bad_yes ho)] at hloop
  rcases he with rfl | he
  · rfl
  have hpos : 0 < b.length := by
    cases b with
    | nil => simp at he
    | cons => simp
  have hlast : b[b.length - 1]'(by omega) = 10 := by
    rw [List.getLast?_eq_getElem?, get_of (by omega)] at he
    exact Option.some.inj he
  unfold wherryref11_Body
  refine bndL (s := ()) hloop (bndL (s := true) (cnd_f (by rw [beq_eq_false_iff_ne]; omega) (bnd (x := ((b.length - 1 : Nat) : Int)) (by rw [wrap_j (by omega) (by omega)]; congr 1; omega) (bnd (ixO_of (by omega)) (bnd (getO_of (by omega)) (by rw [hlast]; rfl))))) rfl)
theorem body_jn {ls : List (List Int)} (hc : ∀ l ∈ ls, cln l) (hl : tot ls < 4294967281) : wherryref11_Body (jn ls) = some true :=
  body_jn0 _ (okb_jn ls 0 hc) (last_jn ls) (by rw [jn_len]; exact hl)
end Go.Abs.Sh
