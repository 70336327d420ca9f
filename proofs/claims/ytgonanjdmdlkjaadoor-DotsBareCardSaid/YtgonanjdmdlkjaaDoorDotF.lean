import Derived.Test.YtgonanjdmdlkjaaDoorDotD
namespace Go.Abs.Sh
set_option linter.unusedVariables false
set_option linter.unusedSimpArgs false
def noEnd (x : Int) : Bool := !(x == 13 || x == 10)
theorem end_step (a : List Int) {i : Nat} (hi : i < a.length) :
    ((ixO (i : Int) a.length).bind fun v7 =>
                (getO a v7).bind fun v8 =>
                cond ((v8 == 13))
                  (some (.inl true))
                  ((ixO (i : Int) a.length).bind fun v9 =>
                  (getO a v9).bind fun v10 =>
                  some (.inl (v10 == 10))) : Option (Bool ⊕ ((Int) ⊕ ((Unit) ⊕ Bool)))) = some (.inl (!noEnd (a[i]'hi))) := by
  refine bnd (ixO_of hi) (bnd (getO_of hi) ?_)
  unfold noEnd
  by_cases h : a[i] = 13
  · exact cnd_t (by rw [h]; rfl) (by simp [h])
  · have h2 : (a[i] == 13) = false := beq_eq_false_iff_ne.2 h
    refine cnd_f h2 (bnd (ixO_of hi) (bnd (getO_of hi) ?_))
    rw [h2]; simp
theorem end_loop (a : List Int) (hl : a.length < 4611686018427387904) :
    loopF (S := (Int)) (O := (Unit) ⊕ Bool) (fun (s24 : Int) =>
            cond ((decide (s24 < (a.length : Int))))
              (bindS (S := Bool) (A := ((Int) ⊕ ((Unit) ⊕ Bool)))
                ((ixO s24 a.length).bind fun v7 =>
                (getO a v7).bind fun v8 =>
                cond ((v8 == 13))
                  (some (.inl true))
                  ((ixO s24 a.length).bind fun v9 =>
                  (getO a v9).bind fun v10 =>
                  some (.inl (v10 == 10))))
                (fun (s38 : Bool) =>
                  cond (s38)
                    (some (.inr (.inr (true))))
                    ((some (IntKind.i64.wrap (s24 + 1))).bind fun v16 =>
                    some (.inl v16))) some)
              (some (.inr (.inl ()))))
            BIG 0 = some (if ∀ i, i < a.length → (a[i]?.all noEnd) = true then .inl () else .inr true) := by
  refine loop_all (fun i => a[i]?.all noEnd) a.length true (by unfold BIG; omega) (fun i hi hp => ?_) (fun i hi hp => ?_) (cnd_f (decide_eq_false (by omega)) rfl)
  · rw [get_of hi] at hp
    simp only [Option.all_some] at hp
    exact cnd_t (decide_eq_true (by omega)) (bndL (end_step a hi) (cnd_f (by rw [hp]; rfl) (bnd (some_wrap (by omega) (by omega)) rfl)))
  · rw [get_of hi] at hp
    simp only [Option.all_some] at hp
    exact cnd_t (decide_eq_true (by omega)) (bndL (end_step a hi) (cnd_t (by rw [hp]; rfl) rfl))
theorem end_cln {a : List Int} (h : ∀ i, i < a.length → (a[i]?.all noEnd) = true) : cln a := by
  intro x hx
  obtain ⟨i, hi, rfl⟩ := List.mem_iff_getElem.1 hx
  have := h i hi
  rw [get_of hi] at this
  simp only [Option.all_some, noEnd, Bool.not_eq_true', Bool.or_eq_false_iff, beq_eq_false_iff_ne] at this
  exact this
theorem not_body {m : List Int} (hb : byt m) (hl : m.length < 4294967281) (h : ¬ (okb 0 m ∧ (m = [] ∨ m.getLast? = some 10))) : dots_Check m = some 5 := by
  rcases check_any hb hl with hc | ⟨ls, h1, _, rfl⟩
  · exact hc
  · exact absurd ⟨okb_jn ls 0 h1, last_jn ls⟩ h
theorem bare_ok {m : List Int} (h : dots_Check m = some 5) :
    ((dots_Stuff m).bind fun v124 =>
                    bindS (S := Bool) (A := Bool)
                      ((dots_Check m).bind fun v125 =>
                      cond ((v125 == 5))
                        (cond ((v124.2 == 5))
                          (cond (((v124.1.length : Int) == 0))
                            ((wherrylaw14_wakes ).bind fun v126 =>
                            some (.inl v126))
                            (some (.inl false)))
                          (some (.inl false)))
                        (some (.inl false)))
                      (fun (s127 : Bool) =>
                        some (s127)) some) = some true :=
  bnd (stuff_no h) (bndL (s := true) (bnd h (cnd_t rfl (cnd_t rfl (cnd_t rfl (bnd wakes14 rfl))))) rfl)
theorem bare0 {a b : List Int} (hb : cln b) (hne : b ≠ []) : ¬ (okb 0 (((a ++ [13]) ++ b) ++ [13, 10]) ∧ ((((a ++ [13]) ++ b) ++ [13, 10]) = [] ∨ (((a ++ [13]) ++ b) ++ [13, 10]).getLast? = some 10)) := by
  rintro ⟨h, _⟩
  rw [List.append_assoc, List.append_assoc] at h
  obtain ⟨q, _, h2⟩ := okb_app a _ 0 h
  cases b with
  | nil => exact hne rfl
  | cons y b =>
    have := h2.1 rfl
    simp at this
    exact (hb y (by simp)).2 this
theorem bare1 {a t : List Int} (ha : cln a) : ¬ (okb 0 (a ++ 10 :: t) ∧ (a ++ 10 :: t = [] ∨ (a ++ 10 :: t).getLast? = some 10)) := by
  rintro ⟨h, _⟩
  obtain ⟨q, h1, h2⟩ := okb_app a _ 0 h
  have hq := h2.2.1 rfl
  subst hq
  rcases h1 with h1 | h1
  · omega
  · exact (ha 13 h1).1 rfl
theorem bare2 {m : List Int} : ¬ (okb 0 (m ++ [120]) ∧ (m ++ [120] = [] ∨ (m ++ [120]).getLast? = some 10)) := by
  rintro ⟨_, h⟩
  rcases h with h | h
  · simp at h
  · simp at h
theorem dotsBare_true (a b : List Int) (how : Int) (hw : wfL (wfI .u8) a) (hw2 : wfL (wfI .u8) b) : wherrylaw14_DotsBare a b how = some true := by
  have ha := byt_of_wf hw
  have hb := byt_of_wf hw2
  unfold wherrylaw14_DotsBare
  by_cases h1 : 2000 < a.length
  · exact bndL (s := true) (cnd_t (decide_eq_true (by omega)) rfl) (cnd_t rfl rfl)
  by_cases h2 : 2000 < b.length
  · exact bndL (s := true) (cnd_f (decide_eq_false (by omega)) (by rw [decide_eq_true (by omega)])) (cnd_t rfl rfl)
  refine bndL (s := false) (cnd_f (decide_eq_false (by omega)) (by rw [decide_eq_false (by omega)])) (cnd_f rfl ?_)
  have hla := end_loop a (by omega)
  have hlb := end_loop b (by omega)
  by_cases hca : ∀ i, i < a.length → (a[i]?.all noEnd) = true
  case neg => rw [if_neg hca] at hla; exact bndR (a := true) hla rfl
  rw [if_pos hca] at hla
  refine bndL (s := ()) hla ?_
  by_cases hcb : ∀ i, i < b.length → (b[i]?.all noEnd) = true
  case neg => rw [if_neg hcb] at hlb; exact bndR (a := true) hlb rfl
  rw [if_pos hcb] at hlb
  refine bndL (s := ()) hlb ?_
  have ca := end_cln hca
  have cb := end_cln hcb
  refine bnd (twin14 _ (by omega)) ?_
  obtain ⟨q, hq⟩ : ∃ q, remO (IntKind.u64.wrap how) 4 = some q := ⟨_, by unfold remO; rw [if_neg (by decide)]⟩
  have A : ∀ l m : List Int, l.length + m.length ≤ 100000 → appO 1 l m = some (l ++ m) := fun l m h => app_of (by omega) (by omega)
  have b13 : byt [13] := by decide
  have b10 : byt [10] := by decide
  have bE : byt [13, 10] := by decide
  have bX : byt [10, 13] := by decide
  have b120 : byt [120] := by decide
  by_cases q0 : q = 0
  · by_cases hne : b.length = 0
    · refine bndR (a := true) (bnd rfl (bnd hq (bndR (a := .inr true) (cnd_t (by rw [q0]; rfl) (bnd (A _ _ (by simp; omega)) (bnd (A _ _ (by simp; omega)) (bnd (A _ _ (by simp; omega)) (cnd_t (by rw [hne]; rfl) (bnd wakes14 rfl)))))) rfl))) rfl
    · refine bndL (s := ((a ++ [13]) ++ b) ++ [13, 10]) (bnd rfl (bnd hq (bndL (s := ((a ++ [13]) ++ b) ++ [13, 10]) (cnd_t (by rw [q0]; rfl) (bnd (A _ _ (by simp; omega)) (bnd (A _ _ (by simp; omega)) (bnd (A _ _ (by simp; omega)) (cnd_f (by rw [beq_eq_false_iff_ne]; omega) rfl))))) rfl))) ?_
      exact bare_ok (not_body (byt_app (byt_app (byt_app ha b13) hb) bE) (by simp; omega) (bare0 cb (by intro e; rw [e] at hne; simp at hne)))
  · have n0 : (q == 0) = false := beq_eq_false_iff_ne.2 q0
    by_cases q1 : q = 1
    · refine bndL (s := ((a ++ [10]) ++ b) ++ [13, 10]) (bnd rfl (bnd hq (bndL (s := ((a ++ [10]) ++ b) ++ [13, 10]) (cnd_f n0 (cnd_t (by rw [q1]; rfl) (bnd (A _ _ (by simp; omega)) (bnd (A _ _ (by simp; omega)) (bnd (A _ _ (by simp; omega)) rfl))))) rfl))) ?_
      refine bare_ok (not_body (byt_app (byt_app (byt_app ha b10) hb) bE) (by simp; omega) ?_)
      have := bare1 (a := a) (t := b ++ [13, 10]) ca
      simpa [List.append_assoc] using this
    · have n1 : (q == 1) = false := beq_eq_false_iff_ne.2 q1
      by_cases q2 : q = 2
      · refine bndL (s := ((a ++ [13, 10]) ++ b) ++ [120]) (bnd rfl (bnd hq (bndL (s := ((a ++ [13, 10]) ++ b) ++ [120]) (cnd_f n0 (cnd_f n1 (cnd_t (by rw [q2]; rfl) (bnd (A _ _ (by simp; omega)) (bnd (A _ _ (by simp; omega)) (bnd (A _ _ (by simp; omega)) rfl)))))) rfl))) ?_
        exact bare_ok (not_body (byt_app (byt_app (byt_app ha bE) hb) b120) (by simp; omega) bare2)
      · have n2 : (q == 2) = false := beq_eq_false_iff_ne.2 q2
        refine bndL (s := ((a ++ [10, 13]) ++ b) ++ [13, 10]) (bnd rfl (bnd hq (bndL (s := ((a ++ [10, 13]) ++ b) ++ [13, 10]) (cnd_f n0 (cnd_f n1 (cnd_f n2 (bnd (A _ _ (by simp; omega)) (bnd (A _ _ (by simp; omega)) (bnd (A _ _ (by simp; omega)) rfl)))))) rfl))) ?_
        refine bare_ok (not_body (byt_app (byt_app (byt_app ha bX) hb) bE) (by simp; omega) ?_)
        have := bare1 (a := a) (t := 13 :: (b ++ [13, 10])) ca
        simpa [List.append_assoc] using this
end Go.Abs.Sh
