import Derived.Test.YtenfngliiibiiaaFrameM
import Derived.KernelRfl
namespace Go.Abs.Sh
set_option linter.unusedVariables false
set_option linter.unusedSimpArgs false

theorem twin_eq (l : List Int) (h : l.length < 4294967296) : wherrykeep_Twin l = some l := by
  simp only [wherrykeep_Twin, appO, List.length_nil, List.nil_append]
  rw [if_pos (by omega)]; rfl
theorem twinFrame_eq (f : T_Frame) (h : f.Data.length < 4294967296) : wherrykeep_TwinFrame f = some f := by
  simp only [wherrykeep_TwinFrame, twin_eq _ h, Option.bind_some]

theorem wakes20 : wherrylaw20_wakes = some true := by kernel_rfl

theorem refFrame_eq (f : T_Frame) (h : f.Data.length < 4294967296) : wherryref18_Frame f = some (good f) := by
  unfold wherryref18_Frame
  simp only [in_eq, Option.bind_some]
  have hk : ∀ (a b c : Int) (l : List Int), l.length < 4294967296 → wherrykeep_Frame (T_Frame.mk f.Kind a b c l) f = some (decide (a = f.Number) && (decide (b = f.Offset) && (decide (c = f.Seq) && decide (l = f.Data)))) := by
    intro a b c l hl
    rw [keepFrame_eq _ _ hl]
    cases f
    simp [Bool.decide_and]
  have hne : ∀ x : List Int, ([] = x) ↔ x.length = 0 := by intro x; cases x <;> simp
  have e4 : decide (1 ≤ (f.Data.length : Int)) = decide (1 ≤ f.Data.length) := by by_cases h : 1 ≤ f.Data.length <;> simp [h] <;> omega
  have e5 : decide ((f.Data.length : Int) ≤ 48) = decide (f.Data.length ≤ 48) := by by_cases h : f.Data.length ≤ 48 <;> simp [h] <;> omega
  have z1 : ∀ x : Int, decide (0 = x) = (x == 0) := by intro x; rw [Bool.eq_iff_iff]; simp; exact eq_comm
  have z2 : decide (([] : List Int) = f.Data) = (f.Data.length == 0) := by rw [Bool.eq_iff_iff]; cases f.Data <;> simp
  have n0 : ([] : List Int).length < 4294967296 := by simp
  unfold good offIn seqIn numIn
  have e6 : decide (1 ≤ f.Data.length) = !(f.Data.length == 0) := by cases h : f.Data.length <;> simp
  have k : f.Kind = 1 ∨ f.Kind = 2 ∨ f.Kind = 3 ∨ f.Kind = 4 ∨ f.Kind = 5 ∨ ((f.Kind == 1) = false ∧ (f.Kind == 2) = false ∧ (f.Kind == 3) = false ∧ (f.Kind == 4) = false ∧ (f.Kind == 5) = false) := by
    by_cases h1 : f.Kind = 1
    · exact .inl h1
    by_cases h2 : f.Kind = 2
    · exact .inr (.inl h2)
    by_cases h3 : f.Kind = 3
    · exact .inr (.inr (.inl h3))
    by_cases h4 : f.Kind = 4
    · exact .inr (.inr (.inr (.inl h4)))
    by_cases h5 : f.Kind = 5
    · exact .inr (.inr (.inr (.inr (.inl h5))))
    exact .inr (.inr (.inr (.inr (.inr (by simp [h1, h2, h3, h4, h5])))))
  have a0 : decide (0 ≤ f.Number) = decide (0 ≤ f.Number) := rfl
  rcases k with h1 | h1 | h1 | h1 | h1 | ⟨k1, k2, k3, k4, k5⟩
  · have hk1 := hk; rw [h1] at hk1
    simp only [h1, hk1 _ _ _ _ n0, hk1 _ _ _ _ h, e4, e5, e6, z1, z2, Option.bind_some, b_inl, cond_true, cond_false, beq_self_eq_true, eq_self_iff_true, decide_true, Bool.true_and, c_and, show ((1 : Int) == 1) = true from rfl, show ((1 : Int) == 2) = false from rfl, show ((1 : Int) == 3) = false from rfl, show ((1 : Int) == 4) = false from rfl, show ((1 : Int) == 5) = false from rfl]
    cases decide (1 ≤ f.Number) <;> cases decide (f.Number ≤ 65535) <;> cases (f.Seq == 0) <;> cases (f.Data.length == 0) <;> cases decide (0 ≤ f.Offset) <;> cases decide (f.Offset ≤ 5000) <;> rfl
  · have hk1 := hk; rw [h1] at hk1
    simp only [h1, hk1 _ _ _ _ n0, hk1 _ _ _ _ h, e4, e5, e6, z1, z2, Option.bind_some, b_inl, cond_true, cond_false, beq_self_eq_true, eq_self_iff_true, decide_true, Bool.true_and, c_and, show ((2 : Int) == 1) = false from rfl, show ((2 : Int) == 2) = true from rfl, show ((2 : Int) == 3) = false from rfl, show ((2 : Int) == 4) = false from rfl, show ((2 : Int) == 5) = false from rfl]
    cases decide (1 ≤ f.Number) <;> cases decide (f.Number ≤ 65535) <;> cases (f.Seq == 0) <;> cases (f.Data.length == 0) <;> cases decide (0 ≤ f.Offset) <;> cases decide (f.Offset ≤ 5000) <;> rfl
  · have hk1 := hk; rw [h1] at hk1
    simp only [h1, hk1 _ _ _ _ n0, hk1 _ _ _ _ h, e4, e5, e6, z1, z2, Option.bind_some, b_inl, cond_true, cond_false, beq_self_eq_true, eq_self_iff_true, decide_true, Bool.true_and, c_and, show ((3 : Int) == 1) = false from rfl, show ((3 : Int) == 2) = false from rfl, show ((3 : Int) == 3) = true from rfl, show ((3 : Int) == 4) = false from rfl, show ((3 : Int) == 5) = false from rfl]
    cases decide (1 ≤ f.Number) <;> cases decide (f.Number ≤ 65535) <;> cases decide (0 ≤ f.Offset) <;> cases decide (f.Offset ≤ 5000) <;> cases decide (0 ≤ f.Seq) <;> cases decide (f.Seq ≤ 7) <;> cases (f.Data.length == 0) <;> cases decide (f.Data.length ≤ 48) <;> rfl
  · have hk1 := hk; rw [h1] at hk1
    simp only [h1, hk1 _ _ _ _ n0, hk1 _ _ _ _ h, e4, e5, e6, z1, z2, Option.bind_some, b_inl, cond_true, cond_false, beq_self_eq_true, eq_self_iff_true, decide_true, Bool.true_and, c_and, show ((4 : Int) == 1) = false from rfl, show ((4 : Int) == 2) = false from rfl, show ((4 : Int) == 3) = false from rfl, show ((4 : Int) == 4) = true from rfl, show ((4 : Int) == 5) = false from rfl]
    cases decide (1 ≤ f.Number) <;> cases decide (f.Number ≤ 65535) <;> cases (f.Offset == 0) <;> cases decide (0 ≤ f.Seq) <;> cases decide (f.Seq ≤ 7) <;> cases (f.Data.length == 0) <;> rfl
  · have hk1 := hk; rw [h1] at hk1
    simp only [h1, hk1 _ _ _ _ n0, hk1 _ _ _ _ h, e4, e5, e6, z1, z2, Option.bind_some, b_inl, cond_true, cond_false, beq_self_eq_true, eq_self_iff_true, decide_true, Bool.true_and, c_and, show ((5 : Int) == 1) = false from rfl, show ((5 : Int) == 2) = false from rfl, show ((5 : Int) == 3) = false from rfl, show ((5 : Int) == 4) = false from rfl, show ((5 : Int) == 5) = true from rfl]
    cases decide (1 ≤ f.Number) <;> cases decide (f.Number ≤ 65535) <;> cases (f.Offset == 0) <;> cases (f.Seq == 0) <;> cases (f.Data.length == 0) <;> rfl
  · simp only [k1, k2, k3, k4, k5, hk _ _ _ _ n0, Bool.or_self, Bool.false_or, Bool.false_and, Bool.and_false, Bool.or_false, Option.bind_some, b_inl, cond_true, cond_false, beq_self_eq_true, eq_self_iff_true, decide_true, Bool.true_and, c_and]

theorem bytes_bad (f : T_Frame) (h : good f = false) : frame_Bytes f = some ([], 1) := by
  simp [frame_Bytes, check_eq, h]

theorem frameWrong_true (f : T_Frame) (how : Int) : wherrylaw20_FrameWrong f how = some true := by
  unfold wherrylaw20_FrameWrong
  by_cases hl : 300 < f.Data.length
  · have e : decide (300 < (f.Data.length : Int)) = true := by simp; omega
    simp only [e, cond_true, b_inl]
  have e : decide (300 < (f.Data.length : Int)) = false := by simp; omega
  have hl4 : f.Data.length < 4294967296 := by omega
  simp only [e, cond_false, refFrame_eq f hl4, Option.bind_some, b_inl]
  cases hg : good f
  · simp
  simp only [Bool.not_true, cond_false, twinFrame_eq f hl4, Option.bind_some]
  have hrem : ∃ m, remO (IntKind.u64.wrap how) 6 = some m := ⟨_, rfl⟩
  obtain ⟨m, hm⟩ := hrem
  simp only [hm, Option.bind_some]
  have fin : ∀ a b c d l, good (T_Frame.mk a b c d l) = false →
      ((frame_Bytes (T_Frame.mk a b c d l)).bind fun v98 =>
            bindS (S := Bool) (A := Bool)
              ((frame_Check f).bind fun v99 =>
              cond ((v99 == 0))
                ((frame_Check (T_Frame.mk a b c d l)).bind fun v100 =>
                cond ((v100 == 1))
                  (cond ((v98.2 == 1))
                    (cond (((v98.1.length : Int) == 0))
                      ((wherrylaw20_wakes ).bind fun v101 =>
                      some (.inl v101))
                      (some (.inl false)))
                    (some (.inl false)))
                  (some (.inl false)))
                (some (.inl false)))
              (fun (s102 : Bool) =>
                some (s102)) some) = some true := by
    intro a b c d l hb
    simp [bytes_bad _ hb, check_eq, hg, hb, wakes20, bindS]
  have hgg := hg
  unfold good numIn offIn seqIn at hgg
  by_cases h0 : m = 0
  · have q : (m == 0) = true := by simp [h0]
    simp only [q, cond_true, b_inl]
    exact fin _ _ _ _ _ (by simp [good])
  have q0 : (m == 0) = false := by simp [h0]
  by_cases h1 : m = 1
  · have q : (m == 1) = true := by simp [h1]
    simp only [q0, q, cond_true, cond_false, b_inl]
    exact fin _ _ _ _ _ (by simp [good, numIn])
  have q1 : (m == 1) = false := by simp [h1]
  by_cases h2 : m = 2
  · have q : (m == 2) = true := by simp [h2]
    simp only [q0, q1, q, cond_true, cond_false, b_inl]
    exact fin _ _ _ _ _ (by simp [good, numIn])
  have q2 : (m == 2) = false := by simp [h2]
  by_cases h3 : m = 3
  · have q : (m == 3) = true := by simp [h3]
    simp only [q0, q1, q2, q, cond_true, cond_false, b_inl, c_or]
    cases hk : (f.Kind == 3 || f.Kind == 4)
    · simp only [cond_false, b_inl]
      simp only [Bool.or_eq_false_iff] at hk
      exact fin _ _ _ _ _ (by simp [good, hk.1, hk.2])
    · simp only [cond_true, b_inl]
      refine fin _ _ _ _ _ ?_
      simp only [Bool.or_eq_true, beq_iff_eq] at hk
      rcases hk with hk | hk <;> simp [good, hk, seqIn]
  have q3 : (m == 3) = false := by simp [h3]
  by_cases h4 : m = 4
  · have q : (m == 4) = true := by simp [h4]
    simp only [q0, q1, q2, q3, q, cond_true, cond_false, b_inl]
    cases hk : (f.Kind == 3)
    · simp only [cond_false, b_inl]
      exact fin _ _ _ _ _ (by simp [good, hk])
    · simp only [cond_true, b_inl]
      simp only [beq_iff_eq] at hk
      exact fin _ _ _ _ _ (by simp [good, hk])
  have q4 : (m == 4) = false := by simp [h4]
  simp only [q0, q1, q2, q3, q4, cond_false, b_inl, c_or]
  cases hk : (f.Kind == 4 || f.Kind == 5)
  · simp only [cond_false, b_inl]
    simp only [Bool.or_eq_false_iff] at hk
    exact fin _ _ _ _ _ (by simp [good, hk.1, hk.2, offIn])
  · simp only [cond_true, b_inl]
    refine fin _ _ _ _ _ ?_
    simp only [Bool.or_eq_true, beq_iff_eq] at hk
    rcases hk with hk | hk <;> simp [good, hk]
end Go.Abs.Sh
