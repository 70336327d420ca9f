import Derived.Test.YtabnbhknefibaaaDoorHedB
namespace Go.Abs.Sh
set_option linter.unusedVariables false
set_option linter.unusedSimpArgs false
theorem twin15 (l : List Int) (h : l.length < 4294967296) : wherrykeep_Twin l = some l := by
  unfold wherrykeep_Twin
  exact bnd (x := l) (by simp only [appO]; rw [if_pos (by simp; omega)]; simp) rfl
theorem stp_nil (fs : List T_Field) : stp fs (bstr []) = none := by
  have h1 : conx (bstr []) = false := by kernel_rfl
  have h2 : (fsx (bstr [])).2.2 = false := by kernel_rfl
  unfold stp
  rw [h1, h2]
  simp
theorem scn_split : ∀ (ls : List (List Int)) (fs : List T_Field) (e : Nat), ∃ p q fs', ls = p ++ q ∧ (∀ t, scn (p ++ t) fs e = scn t fs' (e + tot p)) ∧ (q = [] ∨ ∃ l q', q = l :: q' ∧ stp fs' (bstr l) = none)
  | [], fs, e => ⟨[], [], fs, rfl, fun t => rfl, .inl rfl⟩
  | l :: ls, fs, e => by
    cases h : stp fs (bstr l) with
    | none => exact ⟨[], l :: ls, fs, rfl, fun t => rfl, .inr ⟨l, ls, rfl, h⟩⟩
    | some f =>
      obtain ⟨p, q, fs', h1, h2, h3⟩ := scn_split ls f (e + (l.length + 2))
      refine ⟨l :: p, q, fs', by rw [h1]; rfl, fun t => ?_, h3⟩
      rw [List.cons_append]
      simp only [scn, h, tot]
      rw [h2, show e + (l.length + 2) + tot p = e + (l.length + 2 + tot p) by omega]
theorem fields_refl (l : List T_Field) (hn : l.length < 4294967296) : wherrykeep_Fields l l = some true := by
  unfold wherrykeep_Fields
  refine cnd_f (by simp) (bndL (s := ()) (loop_from (fun i => (i : Int)) l.length BIG rfl (by unfold BIG; omega) (fun i hi => ?_) (cnd_f (decide_eq_false (by omega)) rfl)) rfl)
  exact cnd_t (decide_eq_true (by omega)) (bndL (s := false) (bnd (ixO_of hi) (bnd (getO_of hi) (bnd (ixO_of hi) (bnd (getO_of hi) (cnd_f (by simp) (bnd (ixO_of hi) (bnd (getO_of hi) (bnd (ixO_of hi) (bnd (getO_of hi) (by simp)))))))))) (cnd_f rfl (bnd (some_wrap (by omega) (by omega)) rfl)))
theorem ends_look (b : List Int) (n : Nat) (hn : n ≤ b.length) (hl : b.length < 4294967296) : ∃ r : Bool, (cond ((decide (2 ≤ (n : Int))))
                    ((some (IntKind.i64.wrap ((n : Int) - 2))).bind fun v19 =>
                    (sliO b v19 (n : Int)).bind fun v20 =>
                    (wherrykeep_Bytes v20 [13, 10]).bind fun v21 =>
                    cond (v21)
                      (cond (((n : Int) == 2))
                        (some (.inl true))
                        ((some (IntKind.i64.wrap ((n : Int) - 3))).bind fun v22 =>
                        (ixO v22 b.length).bind fun v23 =>
                        (getO b v23).bind fun v24 =>
                        some (.inl (v24 == 10))))
                      (some (.inl false)))
                    (some (.inl false)) : Option (Bool ⊕ Bool)) = some (.inl r) := by
  by_cases h2 : 2 ≤ n
  · have w : some (IntKind.i64.wrap ((n : Int) - 2)) = some ((n - 2 : Nat) : Int) := by rw [wrap_i (by omega) (by omega)]; congr 1; omega
    have hs := sli_nat b (a := n - 2) (b := n) (by omega) hn
    have hk := keepBytes_eq ((b.drop (n - 2)).take (n - (n - 2))) [13, 10] (by simp; omega)
    cases hd : decide ((b.drop (n - 2)).take (n - (n - 2)) = [13, 10])
    · exact ⟨false, cnd_t (decide_eq_true (by omega)) (bnd w (bnd hs (bnd hk (by rw [hd]; rfl))))⟩
    · by_cases h3 : n = 2
      · exact ⟨true, cnd_t (decide_eq_true (by omega)) (bnd w (bnd hs (bnd hk (by rw [hd]; exact cnd_t rfl (cnd_t (by rw [h3]; rfl) rfl)))))⟩
      · have w3 : some (IntKind.i64.wrap ((n : Int) - 3)) = some ((n - 3 : Nat) : Int) := by rw [wrap_i (by omega) (by omega)]; congr 1; omega
        exact ⟨_, cnd_t (decide_eq_true (by omega)) (bnd w (bnd hs (bnd hk (by
          rw [hd]
          exact cnd_t rfl (cnd_f (by rw [beq_eq_false_iff_ne]; omega) (bnd w3 (bnd (ixO_of (by omega)) (bnd (getO_of (by omega)) rfl))))))))⟩
  · exact ⟨false, cnd_f (decide_eq_false (by omega)) rfl⟩
theorem ends_empty (p : List (List Int)) (t : List Int) (hl : ((jn p ++ [13, 10]) ++ t).length < 4294967296) : (cond ((decide (2 ≤ ((tot p + 2 : Nat) : Int))))
                    ((some (IntKind.i64.wrap (((tot p + 2 : Nat) : Int) - 2))).bind fun v19 =>
                    (sliO ((jn p ++ [13, 10]) ++ t) v19 ((tot p + 2 : Nat) : Int)).bind fun v20 =>
                    (wherrykeep_Bytes v20 [13, 10]).bind fun v21 =>
                    cond (v21)
                      (cond ((((tot p + 2 : Nat) : Int) == 2))
                        (some (.inl true))
                        ((some (IntKind.i64.wrap (((tot p + 2 : Nat) : Int) - 3))).bind fun v22 =>
                        (ixO v22 ((jn p ++ [13, 10]) ++ t).length).bind fun v23 =>
                        (getO ((jn p ++ [13, 10]) ++ t) v23).bind fun v24 =>
                        some (.inl (v24 == 10))))
                      (some (.inl false)))
                    (some (.inl false)) : Option (Bool ⊕ Bool)) = some (.inl true) := by
  have hlen : ((jn p ++ [13, 10]) ++ t).length = tot p + 2 + t.length := by rw [List.length_append, List.length_append, jn_len]; rfl
  have w : some (IntKind.i64.wrap (((tot p + 2 : Nat) : Int) - 2)) = some (tot p : Int) := by rw [wrap_i (by omega) (by omega)]; congr 1; omega
  have hs : sliO ((jn p ++ [13, 10]) ++ t) (tot p : Int) ((tot p + 2 : Nat) : Int) = some [13, 10] := by
    rw [sli_nat _ (by omega) (by omega), List.append_assoc, ← jn_len, List.drop_left]
    simp
  refine cnd_t (decide_eq_true (by omega)) (bnd w (bnd hs (bnd (x := true) (by rw [keepBytes_eq _ _ (by simp)]; simp) (cnd_t rfl ?_))))
  rcases last_jn p with h | h
  · have : tot p = 0 := by rw [← jn_len, h]; rfl
    rw [this]; rfl
  · have hp : 0 < tot p := by
      rw [← jn_len]
      cases hj : jn p with
      | nil => rw [hj] at h; simp at h
      | cons => simp
    have w3 : some (IntKind.i64.wrap (((tot p + 2 : Nat) : Int) - 3)) = some ((tot p - 1 : Nat) : Int) := by rw [wrap_i (by omega) (by omega)]; congr 1; omega
    refine cnd_f (by rw [beq_eq_false_iff_ne]; omega) (bnd w3 (bnd (ixO_of (by omega)) (bnd (x := 10) ?_ rfl)))
    rw [List.getLast?_eq_getElem?, jn_len] at h
    show ((jn p ++ [13, 10]) ++ t)[tot p - 1]? = some 10
    rw [List.append_assoc, List.getElem?_append_left (by rw [jn_len]; omega)]
    exact h
theorem stp_len {fs fs' : List T_Field} {s : ByteArray} (e : stp fs s = some fs') : fs'.length ≤ fs.length + 1 := by
  unfold stp at e
  split at e
  · cases e; simp
  · split at e
    · cases e; simp
    · cases e
theorem scan_len : ∀ (ls : List (List Int)) (fs : List T_Field) (e : Nat), (scn ls fs e).1.length ≤ fs.length + ls.length
  | [], fs, e => by simp [scn]
  | l :: ls, fs, e => by
    simp only [scn]
    cases h : stp fs (bstr l) with
    | none => simp only [List.length_cons]; omega
    | some f =>
      have h1 := stp_len h
      have h2 := scan_len ls f (e + (l.length + 2))
      simp only [List.length_cons]; omega
theorem len_tot15 : ∀ ls : List (List Int), ls.length ≤ tot ls
  | [] => by simp
  | l :: ls => by have := len_tot15 ls; simp only [tot, List.length_cons]; omega
theorem headEnds_true (b more : List Int) (hw : wfL (wfI .u8) b) (hw2 : wfL (wfI .u8) more) : wherrylaw15_HeadEnds b more = some true := by
  have hb := byt_of_wf hw
  have hm := byt_of_wf hw2
  unfold wherrylaw15_HeadEnds
  by_cases h1 : 2000 < b.length
  · exact bndL (s := true) (cnd_t (decide_eq_true (by omega)) rfl) (cnd_t rfl rfl)
  by_cases h2 : 2000 < more.length
  · exact bndL (s := true) (cnd_f (decide_eq_false (by omega)) (cnd_t (decide_eq_true (by omega)) rfl)) (cnd_t rfl rfl)
  rcases body_any b hb (by omega) with hbo | ⟨hboa, ls, hcl, hyl, rfl⟩
  · exact bndL (s := true) (cnd_f (decide_eq_false (by omega)) (cnd_f (decide_eq_false (by omega)) (bnd hbo (cnd_t rfl rfl)))) (cnd_t rfl rfl)
  rcases body_any more hm (by omega) with hbo | ⟨hbob, lm, hcm, hym, rfl⟩
  · exact bndL (s := true) (cnd_f (decide_eq_false (by omega)) (cnd_f (decide_eq_false (by omega)) (bnd hboa (cnd_f rfl (bnd hbo rfl))))) (cnd_t rfl rfl)
  refine bndL (s := false) (cnd_f (decide_eq_false (by omega)) (cnd_f (decide_eq_false (by omega)) (bnd hboa (cnd_f rfl (bnd hbob rfl))))) (cnd_f rfl ?_)
  obtain ⟨p, q, fs, hpq, hrun, hq⟩ := scn_split ls [] 0
  have hll := jn_len ls
  have hlm := jn_len lm
  have hts : tot ls = tot p + tot q := by rw [hpq, tot_app]
  -- the part before the end, and what the second scan finds
  obtain ⟨P, q2, n, hP, hn, hnl, hsc, hsc2, hcase⟩ : ∃ (P q2 : List (List Int)) (n : Nat), ls = P ++ q2 ∧ n = tot P ∧ n ≤ tot ls ∧ scn ls [] 0 = (fs, n) ∧ scn (P ++ ([] :: lm)) [] 0 = (fs, tot p + 2) ∧ (n = tot p ∨ (n = tot p + 2 ∧ jn ls = (jn p ++ [13, 10]) ++ jn q2)) := by
    have hnil : ∀ t, scn ([] :: t) fs (0 + tot p) = (fs, tot p + 2) := fun t => by
      simp only [scn, stp_nil, Nat.zero_add, if_true]
    rcases hq with rfl | ⟨l, q', rfl, hs⟩
    · refine ⟨p, [], tot p, hpq, rfl, by omega, ?_, by rw [hrun]; exact hnil lm, .inl rfl⟩
      rw [hpq, hrun]; simp [scn]
    · by_cases hl : l = []
      · subst hl
        refine ⟨p ++ [[]], q', tot p + 2, by rw [hpq]; simp, by rw [tot_app]; rfl, by simp only [tot] at hts; omega, ?_, ?_, .inr ⟨rfl, ?_⟩⟩
        · rw [hpq, hrun]; exact hnil q'
        · rw [List.append_assoc, hrun]; exact hnil _
        · rw [hpq, jn_app]; simp [jn]
      · refine ⟨p, l :: q', tot p, hpq, rfl, by omega, ?_, by rw [hrun]; exact hnil lm, .inl rfl⟩
        rw [hpq, hrun]; simp only [scn, hs, if_neg hl, Nat.zero_add]
  have hfs : fs.length ≤ 100000 := by
    have := scan_len ls [] 0
    rw [hsc] at this
    have hl := len_tot15 ls
    simp only [List.length_nil] at this
    omega
  have e8 := scan_eq hcl hyl (by omega)
  rw [hsc] at e8
  have hjP : jn ls = jn P ++ jn q2 := by rw [hP, jn_app]
  have htP : tot P ≤ 2000 := by omega
  refine bnd e8 (bndL (s := false) (cnd_f rfl (cnd_f (decide_eq_false (by show ¬ ((n : Int) < 0); omega)) (by
    show some (Sum.inl (decide (((jn ls).length : Int) < (n : Int)))) = _
    rw [decide_eq_false (by omega)]))) (cnd_f rfl ?_))
  have hcut : sliO (jn ls) 0 (n : Int) = some (jn P) := by
    have := sli_nat (jn ls) (a := 0) (b := n) (by omega) (by omega)
    rw [show ((0 : Nat) : Int) = 0 from rfl] at this
    rw [this, hjP, hn, List.drop_zero, Nat.sub_zero, ← jn_len, List.take_left]
  have hcP : ∀ l ∈ P ++ ([] :: lm), cln l := fun l hl => by
    rcases List.mem_append.1 hl with hl | hl
    · exact hcl l (by rw [hP]; exact List.mem_append_left _ hl)
    · rcases List.mem_cons.1 hl with rfl | hl
      · exact fun x hx => by simp at hx
      · exact hcm l hl
  have hyP : ∀ l ∈ P ++ ([] :: lm), byt l := fun l hl => by
    rcases List.mem_append.1 hl with hl | hl
    · exact hyl l (by rw [hP]; exact List.mem_append_left _ hl)
    · rcases List.mem_cons.1 hl with rfl | hl
      · exact fun x hx => by simp at hx
      · exact hym l hl
  have e18 := scan_eq hcP hyP (by rw [tot_app]; simp only [tot, List.length_nil]; omega)
  rw [hsc2] at e18
  have hx : jn (P ++ ([] :: lm)) = (jn P ++ [13, 10]) ++ jn lm := by rw [jn_app]; simp [jn]
  rw [hx] at e18
  refine bnd hcut (bnd (twin15 _ (by rw [jn_len]; omega)) (bnd (app_of (by rw [jn_len]; simp; omega) (by rw [jn_len]; simp; omega)) (bnd (app_of (by simp only [List.length_append, jn_len, List.length_cons, List.length_nil]; omega) (by simp only [List.length_append, jn_len, List.length_cons, List.length_nil]; omega)) (bnd e18 ?_))))
  have hF := fields_refl fs (by omega)
  obtain ⟨r, hr⟩ := ends_look (jn ls) n (by omega) (by omega)
  cases r
  case true =>
    exact bndL (s := true) (cnd_f rfl hr) (cnd_t rfl (bndL (s := true) (cnd_t rfl (bnd hF (cnd_t rfl (bnd wakes15 rfl)))) rfl))
  case false =>
    have hA : n = tot p := by
      rcases hcase with h | ⟨h, hj⟩
      · exact h
      · exfalso
        have := ends_empty p (jn q2) (by rw [← hj]; omega)
        rw [← hj, ← h] at this
        rw [this] at hr
        cases hr
    refine bndL (s := false) (cnd_f rfl hr) (cnd_f rfl (bndL (s := true) (bnd (x := ((n + 2 : Nat) : Int)) (by
      show some (IntKind.i64.wrap ((n : Int) + 2)) = _
      rw [wrap_i (by omega) (by omega)]; simp) (cnd_t (by show (((tot p + 2 : Nat) : Int) == ((n + 2 : Nat) : Int)) = true; rw [hA]; simp) (bnd hF (cnd_t rfl (bnd wakes15 rfl))))) rfl))
end Go.Abs.Sh
