import Derived.Test.YtjnihhkkaioahaaCanonF
namespace Go.Abs.Sh
set_option linter.unusedVariables false
set_option linter.unusedSimpArgs false

theorem app1 (l m : List Int) (h : l.length + m.length < 1000000) : appO 1 l m = some (l ++ m) := by
  simp only [appO]; rw [if_pos (by omega)]
theorem twin1_eq (l : List Int) (h : l.length < 1000000) : wherrykeep_Twin l = some l := by
  unfold wherrykeep_Twin
  exact bnd (app1 [] l (by simpa using h)) rfl

/-- What is read of codes is the page's. -/
theorem reads_same (l b : List Int) (hl : l.length ≤ 1000) (hb : ∀ n ∈ b, 0 ≤ n ∧ n < 256) (hbl : b.length ≤ 1000) (at_ : Int) (hat : -9223372036854775808 ≤ at_ ∧ at_ < 9223372036854775808) : ∃ r, canon_Read l b at_ = some r ∧ wherryref01_Read l b at_ = some r := by
  have w8 : IntKind.i64.wrap (8 * (b.length : Int)) = ((8 * b.length : Nat) : Int) := by rw [wrap_i64 (by omega) (by omega)]; simp
  by_cases he : err l = 0
  case neg =>
    refine ⟨(0, 0, err l), ?_, ?_⟩
    · unfold canon_Read
      exact bnd (check_eq2 l hl) (cnd_t (by simp [he]) rfl)
    · unfold wherryref01_Read
      exact bnd (refCheck_eq l hl) (cnd_t (by simp [he]) rfl)
  have hv : valid l := by
    refine Classical.byContradiction fun h => ?_
    rw [err, if_neg h] at he; omega
  have hf : forms (nat l) = true := by
    cases h : forms (nat l)
    · rw [err, if_pos hv, h] at he; simp at he
    · rfl
  have hnl : (nat l).length ≤ 300 := by rw [nat_len]; exact hv.1
  have hcodes := refCodes_eq (nat l) hnl (nat_le hv) hf
  rw [nat_ints hv] at hcodes
  by_cases hr : 0 ≤ at_ ∧ at_ ≤ ((8 * b.length : Nat) : Int)
  case neg =>
    refine ⟨(0, 0, 1), ?_, ?_⟩
    · unfold canon_Read
      refine bnd (check_eq2 l hl) (cnd_f (by simp [he]) (bndL (s := true) ?_ (cnd_t rfl rfl)))
      by_cases h0 : at_ < 0
      · exact cnd_t (by simp [h0]) rfl
      · refine cnd_f (by simp; omega) (bnd (x := ((8 * b.length : Nat) : Int)) (by rw [w8]) ?_)
        rw [decide_eq_true (by omega)]
    · unfold wherryref01_Read
      refine bnd (refCheck_eq l hl) (cnd_f (by simp [he]) (bnd (x := ((8 * b.length : Nat) : Int)) (by rw [w8]) (bnd (in_eqc _ _ _) (cnd_t ?_ rfl))))
      by_cases h0 : 0 ≤ at_
      · have : ¬ at_ ≤ ((8 * b.length : Nat) : Int) := fun h => hr ⟨h0, h⟩
        rw [decide_eq_false this]; simp
      · rw [decide_eq_false h0]; rfl
  obtain ⟨P, hP⟩ : ∃ P : Nat, at_ = (P : Int) := ⟨at_.toNat, by omega⟩
  subst hP
  have hin : wherryref01_in (P : Int) 0 ((8 * b.length : Nat) : Int) = some true := by
    rw [in_eqc, decide_eq_true hr.1, decide_eq_true hr.2]; rfl
  have hb2 := read_both (nat l) hnl (nat_le hv) hf b hb hbl P (by omega)
  rw [nat_ints hv] at hb2
  rcases hb2 with ⟨j, s, r1, r2⟩ | ⟨r1, r2⟩
  · refine ⟨((j : Int), (s : Int), 0), r1, ?_⟩
    unfold wherryref01_Read
    exact bnd (refCheck_eq l hl) (cnd_f (by simp [he]) (bnd (x := ((8 * b.length : Nat) : Int)) (by rw [w8]) (bnd hin (cnd_f rfl (bnd hcodes (bnd r2 (cnd_f (by simp) rfl)))))))
  · refine ⟨(0, 0, 3), r1, ?_⟩
    unfold wherryref01_Read
    exact bnd (refCheck_eq l hl) (cnd_f (by simp [he]) (bnd (x := ((8 * b.length : Nat) : Int)) (by rw [w8]) (bnd hin (cnd_f rfl (bnd hcodes (bnd r2 (cnd_t rfl rfl)))))))

theorem over5 : ∀ (k fuel i : Nat) (l : List Int), l.length - i = k → i ≤ l.length → l.length ≤ 1000 → k < fuel →
    loopF (S := ((List Int) × Int)) (O := (Unit) ⊕ Bool) (fun ((s32, s33) : (List Int) × Int) =>
                  cond ((decide (s33 < (s32.length : Int))))
                    ((ixO s33 s32.length).bind fun v23 =>
                    (getO s32 v23).bind fun v24 =>
                    (some (IntKind.i64.wrap (v24 + 5))).bind fun v25 =>
                    (ixO s33 s32.length).bind fun v26 =>
                    (some (s32.set v26 v25)).bind fun v27 =>
                    (some (IntKind.i64.wrap (s33 + 1))).bind fun v28 =>
                    some (.inl (v27, v28)))
                    (some (.inr (.inl ())))) fuel (l, (i : Int)) = some (.inl ()) := by
  intro k
  induction k with
  | zero =>
    intro fuel i l hk hi hl hf
    obtain ⟨f, rfl⟩ : ∃ f, fuel = f + 1 := ⟨fuel - 1, by omega⟩
    exact loop_exit (cnd_f (by simp; omega) rfl)
  | succ k ih =>
    intro fuel i l hk hi hl hf
    obtain ⟨f, rfl⟩ : ∃ f, fuel = f + 1 := ⟨fuel - 1, by omega⟩
    have hlt : i < l.length := by omega
    have hw : IntKind.i64.wrap ((i : Int) + 1) = ((i + 1 : Nat) : Int) := by rw [wrap_i64 (by omega) (by omega)]; simp
    refine (loop_next (s' := (l.set i (IntKind.i64.wrap (l[i] + 5)), ((i + 1 : Nat) : Int))) ?_).trans (ih f (i + 1) _ (by rw [List.length_set]; omega) (by rw [List.length_set]; omega) (by rw [List.length_set]; omega) (by omega))
    exact cnd_t (by simp; omega) (bnd (ixO_of hlt) (bnd (getO_of hlt) (bnd rfl (bnd (ixO_of hlt) (bnd rfl (bnd (x := ((i + 1 : Nat) : Int)) (by rw [hw]) rfl))))))

theorem canonExact_true (l b : List Int) (at_ : Int) (hb : ∀ n ∈ b, 0 ≤ n ∧ n < 256) (hat : -9223372036854775808 ≤ at_ ∧ at_ < 9223372036854775808) : wherrylaw02_CanonExact l b at_ = some true := by
  unfold wherrylaw02_CanonExact
  by_cases l1 : 400 < l.length
  · exact bndL (s := true) (cnd_t (by simp; omega) rfl) (cnd_t rfl rfl)
  by_cases l2 : 600 < b.length
  · refine bndL (s := true) (cnd_f (by simp; omega) ?_) (cnd_t rfl rfl)
    rw [decide_eq_true (by omega)]
  refine bndL (s := false) (cnd_f (by simp; omega) ?_) (cnd_f rfl ?_)
  · rw [decide_eq_false (by omega)]
  obtain ⟨r, hr1, hr2⟩ := reads_same l b (by omega) hb (by omega) at_ hat
  refine bnd (twinInts_eq l (by omega)) (bnd (twin1_eq b (by omega)) (bnd (codes_eq2 l (by omega)) (bnd (refCodes2 l (by omega)) (bnd hr1 (bnd hr2 ?_)))))
  generalize hcd : (if err l = 0 then (ints (codes (nat l)), (0 : Int)) else ([], err l)) = C
  have hcl : C.1.length ≤ 400 := by
    rw [← hcd]
    split
    · simp [ints_len, codes_len, nat_len]; omega
    · simp
  refine bndL (s := false) (bnd (check_eq2 l (by omega)) (bnd (refCheck_eq l (by omega)) (cnd_f (by simp) (bnd (weigh_eq2 l (by omega)) (bnd (refWeigh_eq2 l (by omega)) (cnd_f (by simp) (cnd_f (by simp) (bnd (keepInts_eq _ _ (by omega)) (cnd_f (by simp) (cnd_f (by simp) (cnd_f (by simp) (by simp)))))))))))) (cnd_f rfl ?_)
  refine bndL (s := ()) (over5 C.1.length BIG 0 C.1 (by omega) (Nat.zero_le _) (by omega) (by unfold BIG; omega)) ?_
  exact bndL (s := true) (bnd (keepInts_eq _ _ (by omega)) (cnd_t (by simp) (bnd (keepBytes_eq _ _ (by omega)) (cnd_t (by simp) (bnd wakes02 rfl))))) rfl
end Go.Abs.Sh
