import Derived.Test.YthhebpiaknfnhaaTakS
namespace Go.Abs.Sh
set_option linter.unusedVariables false
set_option linter.unusedSimpArgs false
/-! What is kept apart, told as an equation. -/
theorem keepPaths_eq (a b : List T_Path) (hl : a.length < 4294967296) : wherrykeep_Paths a b = some (decide (a = b)) := by
  unfold wherrykeep_Paths
  by_cases hlen : a.length = b.length
  · refine cnd_f (by simp [hlen]) ?_
    have h := loop_all (R := Bool) (f := paS a b) (fun i => decide (a[i]? = b[i]?)) a.length false (fuel := BIG) (by simp only [BIG]; omega) (fun i hi hp => ?_) (fun i hi hp => ?_) (cnd_f (decide_eq_false (by omega)) rfl)
    · by_cases he : a = b
      · rw [decide_eq_true he]
        rw [if_pos (fun i _ => by rw [he]; simp)] at h
        exact bndL h rfl
      · rw [decide_eq_false he]
        rw [if_neg (fun hh => he (List.ext_getElem? fun i => by
          by_cases hi : i < a.length
          · exact of_decide_eq_true (hh i hi)
          · rw [List.getElem?_eq_none (by omega), List.getElem?_eq_none (by omega)]))] at h
        exact bndR h rfl
    · have hb : i < b.length := by omega
      have e := of_decide_eq_true hp
      rw [List.getElem?_eq_getElem hi, List.getElem?_eq_getElem hb] at e
      exact cnd_t (decide_eq_true (by omega)) (bnd (ixO_of hi) (bnd (by simp [getO, hi] : getO a i = some a[i]) (bnd (ixO_of hb) (bnd (by simp [getO, hb] : getO b i = some b[i]) (bnd (keepPath _ _) (cnd_f (by rw [decide_eq_true (Option.some.inj e)]; rfl) (bnd (congrArg some (wrap_succ (n := i) (by omega))) rfl)))))))
    · have hb : i < b.length := by omega
      have e := of_decide_eq_false hp
      rw [List.getElem?_eq_getElem hi, List.getElem?_eq_getElem hb] at e
      exact cnd_t (decide_eq_true (by omega)) (bnd (ixO_of hi) (bnd (by simp [getO, hi] : getO a i = some a[i]) (bnd (ixO_of hb) (bnd (by simp [getO, hb] : getO b i = some b[i]) (bnd (keepPath _ _) (cnd_t (by rw [decide_eq_false (fun h => e (congrArg some h))]; rfl) rfl))))))
  · rw [decide_eq_false (fun h => hlen (by rw [h]))]
    exact cnd_t (by simp only [bne_iff_ne, ne_eq]; omega) rfl
theorem keepInts_eq (a b : List Int) (hl : a.length < 4294967296) : wherrykeep_Ints a b = some (decide (a = b)) := by
  unfold wherrykeep_Ints
  by_cases hlen : a.length = b.length
  · refine cnd_f (by simp [hlen]) ?_
    have h := loop_all (R := Bool) (f := inS a b) (fun i => decide (a[i]? = b[i]?)) a.length false (fuel := BIG) (by simp only [BIG]; omega) (fun i hi hp => ?_) (fun i hi hp => ?_) (cnd_f (decide_eq_false (by omega)) rfl)
    · by_cases he : a = b
      · rw [decide_eq_true he]
        rw [if_pos (fun i _ => by rw [he]; simp)] at h
        exact bndL h rfl
      · rw [decide_eq_false he]
        rw [if_neg (fun hh => he (List.ext_getElem? fun i => by
          by_cases hi : i < a.length
          · exact of_decide_eq_true (hh i hi)
          · rw [List.getElem?_eq_none (by omega), List.getElem?_eq_none (by omega)]))] at h
        exact bndR h rfl
    · have hb : i < b.length := by omega
      have e := of_decide_eq_true hp
      rw [List.getElem?_eq_getElem hi, List.getElem?_eq_getElem hb] at e
      exact cnd_t (decide_eq_true (by omega)) (bnd (ixO_of hi) (bnd (by simp [getO, hi] : getO a i = some a[i]) (bnd (ixO_of hb) (bnd (by simp [getO, hb] : getO b i = some b[i]) (cnd_f (by rw [Option.some.inj e]; simp) (bnd (congrArg some (wrap_succ (n := i) (by omega))) rfl))))))
    · have hb : i < b.length := by omega
      have e := of_decide_eq_false hp
      rw [List.getElem?_eq_getElem hi, List.getElem?_eq_getElem hb] at e
      exact cnd_t (decide_eq_true (by omega)) (bnd (ixO_of hi) (bnd (by simp [getO, hi] : getO a i = some a[i]) (bnd (ixO_of hb) (bnd (by simp [getO, hb] : getO b i = some b[i]) (cnd_t (by simpa using fun h => e (congrArg some h)) rfl)))))
  · rw [decide_eq_false (fun h => hlen (by rw [h]))]
    exact cnd_t (by simp only [bne_iff_ne, ne_eq]; omega) rfl
theorem keepMail_eq (a b : T_Mail) (h1 : a.To.length < 4294967296) (h2 : a.Body.length < 4294967296) : wherrykeep_Mail a b = some (decide (a = b)) := by
  unfold wherrykeep_Mail
  obtain ⟨af, at_, ab, aq, ah, aa⟩ := a
  obtain ⟨bf, bt, bb, bq, bh, ba⟩ := b
  by_cases e1 : af = bf
  · by_cases e2 : at_ = bt
    · by_cases e3 : ab = bb
      · by_cases e4 : aq = bq
        · by_cases e5 : ah = bh
          · by_cases e6 : aa = ba
            · subst e1; subst e2; subst e3; subst e4; subst e5; subst e6
              rw [decide_eq_true rfl]
              exact bndL (s := true) (bnd (keepPath _ _) (cnd_t (decide_eq_true rfl) (bnd (keepPaths_eq _ _ h1) (cnd_t (decide_eq_true rfl) (bnd (keepBytes_eq _ _ h2) (cnd_t (decide_eq_true rfl) (bnd rfl (cnd_t (beq_self_eq_true _) (cnd_t (by rw [toList_beq]; exact decide_eq_true rfl) (inl_of (beq_self_eq_true _))))))))))) rfl
            · rw [decide_eq_false (fun h => e6 (by injection h))]
              exact bndL (s := false) (bnd (keepPath _ _) (cnd_t (decide_eq_true e1) (bnd (keepPaths_eq _ _ h1) (cnd_t (decide_eq_true e2) (bnd (keepBytes_eq _ _ h2) (cnd_t (decide_eq_true e3) (bnd rfl (cnd_t (beq_iff_eq.2 e4) (cnd_t (by rw [toList_beq]; exact decide_eq_true e5) (inl_of (beq_eq_false_iff_ne.2 e6)))))))))))  rfl
          · rw [decide_eq_false (fun h => e5 (by injection h))]
            exact bndL (s := false) (bnd (keepPath _ _) (cnd_t (decide_eq_true e1) (bnd (keepPaths_eq _ _ h1) (cnd_t (decide_eq_true e2) (bnd (keepBytes_eq _ _ h2) (cnd_t (decide_eq_true e3) (bnd rfl (cnd_t (beq_iff_eq.2 e4) (cnd_f (by rw [toList_beq]; exact decide_eq_false e5) rfl))))))))) rfl
        · rw [decide_eq_false (fun h => e4 (by injection h))]
          exact bndL (s := false) (bnd (keepPath _ _) (cnd_t (decide_eq_true e1) (bnd (keepPaths_eq _ _ h1) (cnd_t (decide_eq_true e2) (bnd (keepBytes_eq _ _ h2) (cnd_t (decide_eq_true e3) (bnd rfl (cnd_f (beq_eq_false_iff_ne.2 e4) rfl)))))))) rfl
      · rw [decide_eq_false (fun h => e3 (by injection h))]
        exact bndL (s := false) (bnd (keepPath _ _) (cnd_t (decide_eq_true e1) (bnd (keepPaths_eq _ _ h1) (cnd_t (decide_eq_true e2) (bnd (keepBytes_eq _ _ h2) (cnd_f (decide_eq_false e3) rfl)))))) rfl
    · rw [decide_eq_false (fun h => e2 (by injection h))]
      exact bndL (s := false) (bnd (keepPath _ _) (cnd_t (decide_eq_true e1) (bnd (keepPaths_eq _ _ h1) (cnd_f (decide_eq_false e2) rfl)))) rfl
  · rw [decide_eq_false (fun h => e1 (by injection h))]
    exact bndL (s := false) (bnd (keepPath _ _) (cnd_f (decide_eq_false e1) rfl)) rfl
theorem keepRec_eq (a b : T_Rec) (h1 : a.Mail.To.length < 4294967296) (h2 : a.Mail.Body.length < 4294967296) (h3 : a.Ids.length < 4294967296) (h4 : a.Data.length < 4294967296) : wherrykeep_Rec a b = some (decide (a = b)) := by
  unfold wherrykeep_Rec
  obtain ⟨a1, a2, a3, a4, a5, a6, a7, a8⟩ := a
  obtain ⟨b1, b2, b3, b4, b5, b6, b7, b8⟩ := b
  by_cases e1 : a1 = b1
  · by_cases e2 : a2 = b2
    · by_cases e3 : a3 = b3
      · by_cases e4 : a4 = b4
        · by_cases e5 : a5 = b5
          · by_cases e6 : a6 = b6
            · by_cases e7 : a7 = b7
              · refine bndL (s := decide ((⟨a1, a2, a3, a4, a5, a6, a7, a8⟩ : T_Rec) = ⟨b1, b2, b3, b4, b5, b6, b7, b8⟩)) (cnd_t (beq_iff_eq.2 e1) (bnd (keepMail_eq _ _ h1 h2) (cnd_t (decide_eq_true e2) (cnd_t (beq_iff_eq.2 e3) (bnd (keepInts_eq _ _ h3) (cnd_t (decide_eq_true e4) (cnd_t (beq_iff_eq.2 e5) (cnd_t (beq_iff_eq.2 e6) (cnd_t (beq_iff_eq.2 e7) (bnd (keepBytes_eq _ _ h4) (inl_of ?_))))))))))) rfl
                by_cases e8 : a8 = b8
                · rw [decide_eq_true e8, decide_eq_true (by rw [e1, e2, e3, e4, e5, e6, e7, e8])]
                · rw [decide_eq_false e8, decide_eq_false (fun h => e8 (by injection h))]
              · rw [decide_eq_false (fun h => e7 (by injection h))]
                exact bndL (s := false) (cnd_t (beq_iff_eq.2 e1) (bnd (keepMail_eq _ _ h1 h2) (cnd_t (decide_eq_true e2) (cnd_t (beq_iff_eq.2 e3) (bnd (keepInts_eq _ _ h3) (cnd_t (decide_eq_true e4) (cnd_t (beq_iff_eq.2 e5) (cnd_t (beq_iff_eq.2 e6) (cnd_f (beq_eq_false_iff_ne.2 e7) rfl))))))))) rfl
            · rw [decide_eq_false (fun h => e6 (by injection h))]
              exact bndL (s := false) (cnd_t (beq_iff_eq.2 e1) (bnd (keepMail_eq _ _ h1 h2) (cnd_t (decide_eq_true e2) (cnd_t (beq_iff_eq.2 e3) (bnd (keepInts_eq _ _ h3) (cnd_t (decide_eq_true e4) (cnd_t (beq_iff_eq.2 e5) (cnd_f (beq_eq_false_iff_ne.2 e6) rfl)))))))) rfl
          · rw [decide_eq_false (fun h => e5 (by injection h))]
            exact bndL (s := false) (cnd_t (beq_iff_eq.2 e1) (bnd (keepMail_eq _ _ h1 h2) (cnd_t (decide_eq_true e2) (cnd_t (beq_iff_eq.2 e3) (bnd (keepInts_eq _ _ h3) (cnd_t (decide_eq_true e4) (cnd_f (beq_eq_false_iff_ne.2 e5) rfl))))))) rfl
        · rw [decide_eq_false (fun h => e4 (by injection h))]
          exact bndL (s := false) (cnd_t (beq_iff_eq.2 e1) (bnd (keepMail_eq _ _ h1 h2) (cnd_t (decide_eq_true e2) (cnd_t (beq_iff_eq.2 e3) (bnd (keepInts_eq _ _ h3) (cnd_f (decide_eq_false e4) rfl)))))) rfl
      · rw [decide_eq_false (fun h => e3 (by injection h))]
        exact bndL (s := false) (cnd_t (beq_iff_eq.2 e1) (bnd (keepMail_eq _ _ h1 h2) (cnd_t (decide_eq_true e2) (cnd_f (beq_eq_false_iff_ne.2 e3) rfl)))) rfl
    · rw [decide_eq_false (fun h => e2 (by injection h))]
      exact bndL (s := false) (cnd_t (beq_iff_eq.2 e1) (bnd (keepMail_eq _ _ h1 h2) (cnd_f (decide_eq_false e2) rfl))) rfl
  · rw [decide_eq_false (fun h => e1 (by injection h))]
    exact bndL (s := false) (cnd_f (beq_eq_false_iff_ne.2 e1) rfl) rfl
end Go.Abs.Sh
