import Derived.Test.YtegjndibgnnpcaaAnsT
namespace Go.Abs.Sh
set_option linter.unusedVariables false
set_option linter.unusedSimpArgs false

def hvyS (p_r : T_Reply) : ((Int × Int)) → Option ((Int × Int) ⊕ ((Int) ⊕ Bool)) := (fun ((s9, s10) : Int × Int) =>
  cond ((decide (s10 < (p_r.Lines.length : Int))))
    ((ixO s10 p_r.Lines.length).bind fun v2 =>
    (getO p_r.Lines v2).bind fun v3 =>
    (some (IntKind.i64.wrap (s9 + (v3.size : Int)))).bind fun v4 =>
    (some (IntKind.i64.wrap (s10 + 1))).bind fun v5 =>
    some (.inl (v4, v5)))
    (some (.inr (.inl s9))))

theorem twin13 (l : List Int) (h : l.length < 4294967296) : wherrykeep_Twin l = some l := by
  unfold wherrykeep_Twin
  exact bnd (x := l) (by simp only [appO]; rw [if_pos (by simp; omega)]; simp) rfl

def accN (ls : List ByteArray) : Nat → Int
  | 0 => 0
  | i + 1 => IntKind.i64.wrap (accN ls i + ((ls.getD i ⟨#[]⟩).size : Int))
theorem heavy_some (r : T_Reply) (h : r.wf) : ∃ v, wherrylaw13_heavy r = some v ∧ (v = false → r.Lines.length ≤ 40) := by
  have hl : r.Lines.length ≤ 9223372036854775807 := h.2.1
  refine ⟨decide (6000 < accN r.Lines r.Lines.length) || decide (40 < (r.Lines.length : Int)), ?_, fun hv => ?_⟩
  · unfold wherrylaw13_heavy
    refine bndL (s := accN r.Lines r.Lines.length) (loop_from (f := hvyS r) (fun i => (accN r.Lines i, (i : Int))) r.Lines.length BIG rfl (by unfold BIG; omega) (fun i hi => ?_) (by unfold hvyS; exact cnd_f (decide_eq_false (by omega)) rfl)) ?_
    · have hg : r.Lines.getD i ⟨#[]⟩ = r.Lines[i] := by simp [List.getD_eq_getElem?_getD, List.getElem?_eq_getElem hi]
      unfold hvyS
      exact cnd_t (decide_eq_true (by omega)) (bnd (ixO_of hi) (bnd (getO_of hi) (bnd rfl (bnd (x := ((i + 1 : Nat) : Int)) (by rw [wrap_i64 (by omega) (by omega)]; simp) (by simp only [accN]; rw [hg])))))
    · cases decide (6000 < accN r.Lines r.Lines.length) <;> rfl
  · simp only [Bool.or_eq_false_iff, decide_eq_false_iff_not] at hv
    omega

theorem answerReads_true (b : List Int) (hw : wfL (wfI .u8) b) : wherrylaw13_AnswerReads b = some true := by
  have hb := byt_of_wf hw
  unfold wherrylaw13_AnswerReads
  by_cases h1 : 3000 < b.length
  · exact cnd_t (decide_eq_true (by omega)) rfl
  refine cnd_f (decide_eq_false (by omega)) (bnd (read13 hb (by omega)) ?_)
  cases hr : runP false b 21 0 [] 0 with
  | none =>
    have kz : wherrykeep_Reply (T_Reply.mk 0 []) (T_Reply.mk 0 []) = some true := by rw [keepReply_eq _ _ (by simp)]; simp
    exact cnd_t rfl (bndL (s := true) (cnd_t rfl (cnd_t rfl (bnd kz (cnd_t rfl (bnd wakes13 rfl))))) rfl)
  | some p =>
    obtain ⟨r, n⟩ := p
    obtain ⟨h2, h3, h4⟩ := read_sound13 hb hr
    have hby := bytes13 r
    rw [okRep_iff.2 h2] at hby
    have hn0 : 0 < n := by
      have h5 : (repB r).length = n := by rw [← h4, List.length_take]; omega
      have n1 := h2.n1
      have : (repB r).length ≠ 0 := by
        unfold repB
        rw [show r.Lines.length = (r.Lines.length - 1) + 1 by omega, accB_succ, List.length_append, lineB_len]
        omega
      omega
    have hsl : sliO b 0 (n : Int) = some (repB r) := by
      have := sli_nat b (a := 0) (b := n) (by omega) h3
      rw [List.drop_zero, Nat.sub_zero, h4] at this
      exact this
    have hrl : (repB r).length = n := by rw [← h4, List.length_take]; omega
    have hk : wherrykeep_Bytes (repB r) (repB r) = some true := by rw [keepBytes_eq _ _ (by omega)]; simp
    exact cnd_f rfl (bnd hby (bndL (s := true) (cnd_t rfl (cnd_t (decide_eq_true (by show (n : Int) ≤ _; omega)) (cnd_t (decide_eq_true (by show (0 : Int) < (n : Int); omega)) (bnd hsl (bnd hk (cnd_t rfl (bnd wakes13 rfl))))))) rfl))

theorem good_eq (c : Int) : answer_Good c = some (decide (200 ≤ c) && decide (c < 400)) := by
  unfold answer_Good
  by_cases h : 200 ≤ c
  · exact bndL (cnd_t (decide_eq_true h) rfl) (by rw [decide_eq_true h]; rfl)
  · exact bndL (cnd_f (decide_eq_false h) rfl) (by rw [decide_eq_false h]; rfl)

theorem answerExact_true (r : T_Reply) (b : List Int) (code : Int) (hr : r.wf) (hw : wfL (wfI .u8) b) : wherrylaw13_AnswerExact r b code = some true := by
  have hb := byt_of_wf hw
  obtain ⟨v, hv, hv40⟩ := heavy_some r hr
  unfold wherrylaw13_AnswerExact
  cases hv' : v with
  | true => subst hv'; exact bndL (s := true) (bnd hv rfl) rfl
  | false =>
  subst hv'
  by_cases h1 : 3000 < b.length
  · exact bndL (s := true) (bnd hv (cnd_f rfl (by rw [show decide (3000 < (b.length : Int)) = true from decide_eq_true (by omega)]))) rfl
  refine bndL (s := false) (bnd hv (cnd_f rfl (by rw [show decide (3000 < (b.length : Int)) = false from decide_eq_false (by omega)]))) (cnd_f rfl ?_)
  have tail : ∀ {A : Type}, (answer_Good code).bind (fun v26 =>
      cond ((decide (200 ≤ code)))
        ((some (v26 == ((decide (code ≤ 399))))).bind fun v27 => cond ((v26 == ((decide (code ≤ 399))))) ((wherrykeep_Bytes b b).bind fun v28 => cond (v28) ((wherrylaw13_wakes ).bind fun v29 => some (.inl v29)) (some (.inl false))) (some (.inl false)))
        ((some (v26 == false)).bind fun v30 => cond ((v26 == false)) ((wherrykeep_Bytes b b).bind fun v31 => cond (v31) ((wherrylaw13_wakes ).bind fun v32 => some (.inl v32)) (some (.inl false))) (some (.inl false)))) = (some (.inl true) : Option (Bool ⊕ A)) := by
    intro A
    have hk : wherrykeep_Bytes b b = some true := by rw [keepBytes_eq _ _ (by omega)]; simp
    refine bnd (good_eq code) ?_
    by_cases h2 : 200 ≤ code
    · have e : ((decide (200 ≤ code) && decide (code < 400)) == decide (code ≤ 399)) = true := by
        rw [decide_eq_true h2, Bool.true_and, beq_iff_eq, Bool.eq_iff_iff]; simp; omega
      exact cnd_t (decide_eq_true h2) (bnd rfl (cnd_t e (bnd hk (cnd_t rfl (bnd wakes13 rfl)))))
    · have e : ((decide (200 ≤ code) && decide (code < 400)) == false) = true := by
        rw [decide_eq_false h2]; rfl
      exact cnd_f (decide_eq_false h2) (bnd rfl (cnd_t e (bnd hk (cnd_t rfl (bnd wakes13 rfl)))))
  refine bnd (twin13 b (by omega)) (bnd (bytes13 r) (bnd (read13 hb (by omega)) (bnd (rread13 hb (by omega)) (bnd (refReply_eq r) (bndL (s := false) (bnd (check13 r) ?_) (cnd_f rfl ?_))))))
  · cases hok : okRep r with
    | false => exact bnd rfl (cnd_f rfl (cnd_t rfl (bnd (by rw [check13, hok]) (cnd_f rfl (cnd_f rfl (cnd_f rfl rfl))))))
    | true =>
      have h := okRep_iff.1 hok
      have hkb : wherrykeep_Bytes (repB r) (repB r) = some true := by
        have := accB_len r.Code r.Lines h.ln _ (Nat.le_refl _)
        have := h.n2
        rw [keepBytes_eq _ _ (by unfold repB; omega)]; simp
      exact bnd rfl (cnd_f rfl (cnd_f rfl (cnd_t rfl (cnd_f rfl (bnd (refBytes_eq h) (bnd hkb rfl))))))
  · cases hrun : runP false b 21 0 [] 0 with
    | none =>
      have kz : wherrykeep_Reply (T_Reply.mk 0 []) (T_Reply.mk 0 []) = some true := by rw [keepReply_eq _ _ (by simp)]; simp
      exact bndL (s := true) (bnd rfl (cnd_t rfl (cnd_f rfl (cnd_t rfl (cnd_t rfl (bnd kz (cnd_t rfl tail))))))) rfl
    | some p =>
      obtain ⟨q, n⟩ := p
      obtain ⟨h2, h3, h4⟩ := read_sound13 hb hrun
      have kz : wherrykeep_Reply (T_Reply.mk q.Code q.Lines) (T_Reply.mk q.Code q.Lines) = some true := by rw [keepReply_eq _ _ (by show q.Lines.length < _; have := h2.n2; omega)]; simp
      exact bndL (s := true) (bnd rfl (cnd_t rfl (cnd_t rfl (cnd_t (by simp) (bnd kz (cnd_t rfl tail)))))) rfl
end Go.Abs.Sh
