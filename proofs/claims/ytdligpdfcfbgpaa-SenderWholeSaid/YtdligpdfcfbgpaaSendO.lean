import Derived.Test.YtdligpdfcfbgpaaSendM
namespace Go.Abs.Sh
set_option linter.unusedVariables false
set_option linter.unusedSimpArgs false

theorem refFrame_eqS (f : T_Frame) (h : f.Data.length < 4294967296) : wherryref18_Frame f = some (good f) := by
  unfold wherryref18_Frame
  simp only [in_eq, Option.bind_some]
  have hk : ∀ (a b c : Int) (l : List Int), l.length < 4294967296 → wherrykeep_Frame (T_Frame.mk f.Kind a b c l) f = some (decide (a = f.Number) && (decide (b = f.Offset) && (decide (c = f.Seq) && decide (l = f.Data)))) := by
    intro a b c l hl
    rw [keepFrame_eq _ _ hl]
    cases f
    simp [Bool.decide_and]
  have hne : ∀ x : List Int, ([] = x) ↔ x.length = 0 := by intro x; cases x <;> simp
  have e4 : decide (1 ≤ (f.Data.length : Int)) = decide (1 ≤ f.Data.length) := by by_cases h : 1 ≤ f.Data.length <;> simp [h] <;> omega
  have e5 : decide ((f.Data.length : Int) ≤ 48) = decide (f.Data.length ≤ 48) := by by_cases h : f.Data.length ≤ 48 <;> simp [h] <;> omega
  have z1 : ∀ x : Int, decide (0 = x) = (x == 0) := by intro x; rw [Bool.eq_iff_iff]; simp; exact eq_comm
  have z2 : decide (([] : List Int) = f.Data) = (f.Data.length == 0) := by rw [Bool.eq_iff_iff]; cases f.Data <;> simp
  have n0 : ([] : List Int).length < 4294967296 := by simp
  unfold good offIn seqIn numIn
  have e6 : decide (1 ≤ f.Data.length) = !(f.Data.length == 0) := by cases h : f.Data.length <;> simp
  have k : f.Kind = 1 ∨ f.Kind = 2 ∨ f.Kind = 3 ∨ f.Kind = 4 ∨ f.Kind = 5 ∨ ((f.Kind == 1) = false ∧ (f.Kind == 2) = false ∧ (f.Kind == 3) = false ∧ (f.Kind == 4) = false ∧ (f.Kind == 5) = false) := by
    by_cases h1 : f.Kind = 1
    · exact .inl h1
    by_cases h2 : f.Kind = 2
    · exact .inr (.inl h2)
    by_cases h3 : f.Kind = 3
    · exact .inr (.inr (.inl h3))
    by_cases h4 : f.Kind = 4
    · exact .inr (.inr (.inr (.inl h4)))
    by_cases h5 : f.Kind = 5
    · exact .inr (.inr (.inr (.inr (.inl h5))))
    exact .inr (.inr (.inr (.inr (.inr (by simp [h1, h2, h3, h4, h5])))))
  have a0 : decide (0 ≤ f.Number) = decide (0 ≤ f.Number) := rfl
  rcases k with h1 | h1 | h1 | h1 | h1 | ⟨k1, k2, k3, k4, k5⟩
  · have hk1 := hk; rw [h1] at hk1
    simp only [h1, hk1 _ _ _ _ n0, hk1 _ _ _ _ h, e4, e5, e6, z1, z2, Option.bind_some, b_inl, cond_true, cond_false, beq_self_eq_true, eq_self_iff_true, decide_true, Bool.true_and, c_and, show ((1 : Int) == 1) = true from rfl, show ((1 : Int) == 2) = false from rfl, show ((1 : Int) == 3) = false from rfl, show ((1 : Int) == 4) = false from rfl, show ((1 : Int) == 5) = false from rfl]
    cases decide (1 ≤ f.Number) <;> cases decide (f.Number ≤ 65535) <;> cases (f.Seq == 0) <;> cases (f.Data.length == 0) <;> cases decide (0 ≤ f.Offset) <;> cases decide (f.Offset ≤ 5000) <;> rfl
  · have hk1 := hk; rw [h1] at hk1
    simp only [h1, hk1 _ _ _ _ n0, hk1 _ _ _ _ h, e4, e5, e6, z1, z2, Option.bind_some, b_inl, cond_true, cond_false, beq_self_eq_true, eq_self_iff_true, decide_true, Bool.true_and, c_and, show ((2 : Int) == 1) = false from rfl, show ((2 : Int) == 2) = true from rfl, show ((2 : Int) == 3) = false from rfl, show ((2 : Int) == 4) = false from rfl, show ((2 : Int) == 5) = false from rfl]
    cases decide (1 ≤ f.Number) <;> cases decide (f.Number ≤ 65535) <;> cases (f.Seq == 0) <;> cases (f.Data.length == 0) <;> cases decide (0 ≤ f.Offset) <;> cases decide (f.Offset ≤ 5000) <;> rfl
  · have hk1 := hk; rw [h1] at hk1
    simp only [h1, hk1 _ _ _ _ n0, hk1 _ _ _ _ h, e4, e5, e6, z1, z2, Option.bind_some, b_inl, cond_true, cond_false, beq_self_eq_true, eq_self_iff_true, decide_true, Bool.true_and, c_and, show ((3 : Int) == 1) = false from rfl, show ((3 : Int) == 2) = false from rfl, show ((3 : Int) == 3) = true from rfl, show ((3 : Int) == 4) = false from rfl, show ((3 : Int) == 5) = false from rfl]
    cases decide (1 ≤ f.Number) <;> cases decide (f.Number ≤ 65535) <;> cases decide (0 ≤ f.Offset) <;> cases decide (f.Offset ≤ 5000) <;> cases decide (0 ≤ f.Seq) <;> cases decide (f.Seq ≤ 7) <;> cases (f.Data.length == 0) <;> cases decide (f.Data.length ≤ 48) <;> rfl
  · have hk1 := hk; rw [h1] at hk1
    simp only [h1, hk1 _ _ _ _ n0, hk1 _ _ _ _ h, e4, e5, e6, z1, z2, Option.bind_some, b_inl, cond_true, cond_false, beq_self_eq_true, eq_self_iff_true, decide_true, Bool.true_and, c_and, show ((4 : Int) == 1) = false from rfl, show ((4 : Int) == 2) = false from rfl, show ((4 : Int) == 3) = false from rfl, show ((4 : Int) == 4) = true from rfl, show ((4 : Int) == 5) = false from rfl]
    cases decide (1 ≤ f.Number) <;> cases decide (f.Number ≤ 65535) <;> cases (f.Offset == 0) <;> cases decide (0 ≤ f.Seq) <;> cases decide (f.Seq ≤ 7) <;> cases (f.Data.length == 0) <;> rfl
  · have hk1 := hk; rw [h1] at hk1
    simp only [h1, hk1 _ _ _ _ n0, hk1 _ _ _ _ h, e4, e5, e6, z1, z2, Option.bind_some, b_inl, cond_true, cond_false, beq_self_eq_true, eq_self_iff_true, decide_true, Bool.true_and, c_and, show ((5 : Int) == 1) = false from rfl, show ((5 : Int) == 2) = false from rfl, show ((5 : Int) == 3) = false from rfl, show ((5 : Int) == 4) = false from rfl, show ((5 : Int) == 5) = true from rfl]
    cases decide (1 ≤ f.Number) <;> cases decide (f.Number ≤ 65535) <;> cases (f.Offset == 0) <;> cases (f.Seq == 0) <;> cases (f.Data.length == 0) <;> rfl
  · simp only [k1, k2, k3, k4, k5, hk _ _ _ _ n0, Bool.or_self, Bool.false_or, Bool.false_and, Bool.and_false, Bool.or_false, Option.bind_some, b_inl, cond_true, cond_false, beq_self_eq_true, eq_self_iff_true, decide_true, Bool.true_and, c_and]


theorem senderOver_true (s : T_Send) (f : T_Frame) : wherrylaw21_SenderOver s f = some true := by
  unfold wherrylaw21_SenderOver
  by_cases h1 : 5100 < s.Data.length
  · exact bndL (s := true) (cnd_t (by simp; omega) rfl) (cnd_t rfl rfl)
  by_cases h2 : 300 < f.Data.length
  · exact bndL (s := true) (cnd_f (by simp; omega) (cnd_t (by simp; omega) rfl)) (cnd_t rfl rfl)
  have href := refSend_eq s (by omega)
  cases hok : sendOk s with
  | false =>
    rw [hok] at href
    exact bndL (s := true) (cnd_f (by simp; omega) (cnd_f (by simp; omega) (bnd href rfl))) (cnd_t rfl rfl)
  | true =>
    rw [hok] at href
    have hr := rt_of hok
    refine bndL (s := false) (cnd_f (by simp; omega) (cnd_f (by simp; omega) (bnd href rfl))) (cnd_f rfl ?_)
    have kz : wherrykeep_Send zeroSend zeroSend = some true := by
      rw [keepSend_eq _ _ (by show ([] : List Int).length < _; simp)]; simp
    have hgd : good (T_Frame.mk 5 s.Number 0 0 []) = true := by
      have := hr.n1; have := hr.n2
      simp [good, numIn]; omega
    cases ho : s.Over with
    | true =>
      refine bnd (hear_over hr ho _) (cnd_t rfl ?_)
      rw [hgd]
      exact bndL (s := true) (cnd_t rfl (bnd kz (cnd_t rfl (bnd wakes21 rfl)))) rfl
    | false =>
      have hx := rt_over hr true
      refine bnd (hear_done hr ho) (cnd_f rfl (bndL (s := false) (cnd_f rfl rfl) (cnd_f rfl (bnd (hear_over hx rfl f) (bnd (tick_over hx rfl) ?_)))))
      have hf := refFrame_eqS f (by omega)
      have ks : wherrykeep_Send (T_Send.mk s.Number s.Data s.Ready s.Base s.Next s.Wait true) (T_Send.mk s.Number s.Data s.Ready s.Base s.Next s.Wait true) = some true := by
        rw [keepSend_eq _ _ (by show s.Data.length < _; omega)]; simp
      refine bndL (s := false) (bnd hf ?_) (cnd_f rfl ?_)
      · cases hg : good f with
        | true => rw [hg] at hf; exact cnd_t rfl (cnd_f rfl (bnd hf (cnd_f rfl rfl)))
        | false => rw [hg] at hf; exact cnd_f rfl (bnd hf (cnd_t rfl rfl))
      · exact bndL (s := true) (bnd kz (cnd_t rfl (cnd_t rfl (cnd_t rfl (bnd ks (cnd_t rfl (bnd wakes21 rfl))))))) rfl
end Go.Abs.Sh
