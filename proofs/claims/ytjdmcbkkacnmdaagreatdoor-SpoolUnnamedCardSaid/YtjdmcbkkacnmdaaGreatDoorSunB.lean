import Derived.Test.YtjdmcbkkacnmdaaGreatDoorSunA
namespace Go.Abs.Sh
set_option linter.unusedVariables false
set_option linter.unusedSimpArgs false
set_option maxRecDepth 100000
def rmS (m : T_Mail) : ((Int)) → Option ((Int) ⊕ ((Unit) ⊕ Bool)) := (fun (s29 : Int) =>
    cond ((decide (s29 < (m.To.length : Int))))
     (bindS (S := Bool) (A := ((Int) ⊕ ((Unit) ⊕ Bool)))
      ((ixO s29 m.To.length).bind fun v11 =>
      (getO m.To v11).bind fun v12 =>
      (wherryref11_Path v12).bind fun v13 =>
      cond ((!v13))
       (some (.inl true))
       ((ixO s29 m.To.length).bind fun v14 =>
       (getO m.To v14).bind fun v15 =>
       some (.inl v15.Null)))
      (fun (s43 : Bool) =>
       cond (s43)
        (some (.inr (.inr (false))))
        ((some (IntKind.i64.wrap (s29 + 1))).bind fun v21 =>
        some (.inl v21))) some)
     (some (.inr (.inl ()))))
def rhS (l : List Int) (n : Int) : ((Int)) → Option ((Int) ⊕ ((Unit) ⊕ Bool)) := (fun (s9 : Int) =>
 cond ((decide (s9 < (l.length : Int))))
  ((ixO s9 l.length).bind fun v2 =>
  (getO l v2).bind fun v3 =>
  cond ((v3 == n))
   (some (.inr (.inr (true))))
   ((some (IntKind.i64.wrap (s9 + 1))).bind fun v5 =>
   some (.inl v5)))
  (some (.inr (.inl ()))))
def tsS (s : T_Spool) : (((List T_Item) × Int)) → Option (((List T_Item) × Int) ⊕ (((List T_Item)) ⊕ T_Spool)) := (fun ((s13,s14) : (List T_Item) × Int) =>
 cond ((decide (s14 < (s.Items.length : Int))))
  ((ixO s14 s.Items.length).bind fun v5 =>
  (getO s.Items v5).bind fun v6 =>
  (wherrykeep_TwinMail ((T_Mail.mk (T_Path.mk v6.Mail.From.Null v6.Mail.From.Local v6.Mail.From.Domain) v6.Mail.To v6.Mail.Body v6.Mail.Quiet v6.Mail.Helo v6.Mail.At))).bind fun v7 =>
  (appO 144 s13 [(T_Item.mk v6.Id ((T_Mail.mk (T_Path.mk v7.From.Null v7.From.Local v7.From.Domain) v7.To v7.Body v7.Quiet v7.Helo v7.At)) v6.State v6.Pack)]).bind fun v8 =>
  (some (IntKind.i64.wrap (s14 + 1))).bind fun v9 =>
  some (.inl (v8,v9)))
  (some (.inr (.inl s13))))
def ra2 (s v1 : T_Spool) (p_r : T_Rec) : (((List T_Item) × Bool × Int)) → Option (((List T_Item) × Bool × Int) ⊕ (((List T_Item) × Bool) ⊕ (((List T_Item) × Int × (List Int) × (List Int) × Int × (List Int) × Bool × ByteArray × ByteArray × (List T_Path) × (List Int) × Bool × ByteArray × Int × Int × (List Int) × Int × Int × Int × (List Int) × Bool) ⊕ (((List T_Item) × Int × (List Int) × (List Int) × Int × (List Int) × Bool × ByteArray × ByteArray × (List T_Path) × (List Int) × Bool × ByteArray × Int × Int × (List Int) × Int × Int × Int × (List Int) × Bool) ⊕ (T_Spool × Int))))) := (fun ((s1094,s1095,s1096) : (List T_Item) × Bool × Int) =>
       bindS (S := Bool) (A := (((List T_Item) × Bool × Int) ⊕ (((List T_Item) × Bool) ⊕ (((List T_Item) × Int × (List Int) × (List Int) × Int × (List Int) × Bool × ByteArray × ByteArray × (List T_Path) × (List Int) × Bool × ByteArray × Int × Int × (List Int) × Int × Int × Int × (List Int) × Bool) ⊕ (((List T_Item) × Int × (List Int) × (List Int) × Int × (List Int) × Bool × ByteArray × ByteArray × (List T_Path) × (List Int) × Bool × ByteArray × Int × Int × (List Int) × Int × Int × Int × (List Int) × Bool) ⊕ (T_Spool × Int))))))
        (cond ((decide (s1096 < (p_r.Ids.length : Int))))
         (some (.inl s1095))
         (some (.inl false)))
        (fun (s1125 : Bool) =>
         cond (s1125)
          (bindS (S := (List T_Item) × Bool) (A := (((List T_Item) × Bool × Int) ⊕ (((List T_Item) × Bool) ⊕ (((List T_Item) × Int × (List Int) × (List Int) × Int × (List Int) × Bool × ByteArray × ByteArray × (List T_Path) × (List Int) × Bool × ByteArray × Int × Int × (List Int) × Int × Int × Int × (List Int) × Bool) ⊕ (((List T_Item) × Int × (List Int) × (List Int) × Int × (List Int) × Bool × ByteArray × ByteArray × (List T_Path) × (List Int) × Bool × ByteArray × Int × Int × (List Int) × Int × Int × Int × (List Int) × Bool) ⊕ (T_Spool × Int))))))
           (bindS (S := Bool) (A := (((List T_Item) × Bool) ⊕ (((List T_Item) × Bool × Int) ⊕ (((List T_Item) × Bool) ⊕ (((List T_Item) × Int × (List Int) × (List Int) × Int × (List Int) × Bool × ByteArray × ByteArray × (List T_Path) × (List Int) × Bool × ByteArray × Int × Int × (List Int) × Int × Int × Int × (List Int) × Bool) ⊕ (((List T_Item) × Int × (List Int) × (List Int) × Int × (List Int) × Bool × ByteArray × ByteArray × (List T_Path) × (List Int) × Bool × ByteArray × Int × Int × (List Int) × Int × Int × Int × (List Int) × Bool) ⊕ (T_Spool × Int)))))))
            ((ixO s1096 p_r.Ids.length).bind fun v30 =>
            (getO p_r.Ids v30).bind fun v31 =>
            (wherryref18_in v31 1 (s.Items.length : Int)).bind fun v32 =>
            cond (v32)
             ((ixO s1096 p_r.Ids.length).bind fun v33 =>
             (getO p_r.Ids v33).bind fun v34 =>
             (some (IntKind.i64.wrap (v34 - 1))).bind fun v35 =>
             (ixO v35 s.Items.length).bind fun v36 =>
             (getO s.Items v36).bind fun v37 =>
             cond ((v37.State == 1))
              (cond ((s1096 == 0))
               (some (.inl true))
               ((ixO s1096 p_r.Ids.length).bind fun v38 =>
               (getO p_r.Ids v38).bind fun v39 =>
               (some (IntKind.i64.wrap (s1096 - 1))).bind fun v40 =>
               (ixO v40 p_r.Ids.length).bind fun v41 =>
               (getO p_r.Ids v41).bind fun v42 =>
               some (.inl ((decide (v42 < v39))))))
              (some (.inl false)))
             (some (.inl false)))
            (fun (s1140 : Bool) =>
             cond (s1140)
              ((ixO s1096 p_r.Ids.length).bind fun v48 =>
              (getO p_r.Ids v48).bind fun v49 =>
              (some (IntKind.i64.wrap (v49 - 1))).bind fun v50 =>
              (ixO s1096 p_r.Ids.length).bind fun v51 =>
              (getO p_r.Ids v51).bind fun v52 =>
              (some (IntKind.i64.wrap (v52 - 1))).bind fun v53 =>
              (ixO v50 s1094.length).bind fun v54 =>
              (getO s1094 v54).bind fun v55 =>
              (some (s1094.set v54 ((T_Item.mk v55.Id ((T_Mail.mk (T_Path.mk v55.Mail.From.Null v55.Mail.From.Local v55.Mail.From.Domain) v55.Mail.To v55.Mail.Body v55.Mail.Quiet v55.Mail.Helo v55.Mail.At)) 2 v55.Pack)))).bind fun v56 =>
              (ixO v53 (s1094).length).bind fun v57 =>
              (getO v56 v57).bind fun v58 =>
              (some (v56.set v57 ((T_Item.mk v58.Id ((T_Mail.mk (T_Path.mk v58.Mail.From.Null v58.Mail.From.Local v58.Mail.From.Domain) v58.Mail.To v58.Mail.Body v58.Mail.Quiet v58.Mail.Helo v58.Mail.At)) v58.State p_r.Number)))).bind fun v59 =>
              some (.inl (v59,s1140)))
              (some (.inl (s1094,s1140)))) some)
           (fun ((s1135,s1136) : (List T_Item) × Bool) =>
            (some (IntKind.i64.wrap (s1096 + 1))).bind fun v70 =>
            some (.inl (s1135,s1136,v70))) some)
          (some (.inr (.inl (s1094,s1095))))) some)
def ra3 (s v1 : T_Spool) (p_r : T_Rec) : (((List T_Item) × Int)) → Option (((List T_Item) × Int) ⊕ (((List T_Item)) ⊕ (((List T_Item) × Int × (List Int) × (List Int) × Int × (List Int) × Bool × ByteArray × ByteArray × (List T_Path) × (List Int) × Bool × ByteArray × Int × Int × (List Int) × Int × Int × Int × (List Int) × Bool) ⊕ (((List T_Item) × Int × (List Int) × (List Int) × Int × (List Int) × Bool × ByteArray × ByteArray × (List T_Path) × (List Int) × Bool × ByteArray × Int × Int × (List Int) × Int × Int × Int × (List Int) × Bool) ⊕ (T_Spool × Int))))) := (fun ((s1182,s1183) : (List T_Item) × Int) =>
        cond ((decide (s1183 < (s1182.length : Int))))
         (bindS (S := (List T_Item)) (A := (((List T_Item) × Int) ⊕ (((List T_Item)) ⊕ (((List T_Item) × Int × (List Int) × (List Int) × Int × (List Int) × Bool × ByteArray × ByteArray × (List T_Path) × (List Int) × Bool × ByteArray × Int × Int × (List Int) × Int × Int × Int × (List Int) × Bool) ⊕ (((List T_Item) × Int × (List Int) × (List Int) × Int × (List Int) × Bool × ByteArray × ByteArray × (List T_Path) × (List Int) × Bool × ByteArray × Int × Int × (List Int) × Int × Int × Int × (List Int) × Bool) ⊕ (T_Spool × Int))))))
          (bindS (S := Bool) (A := (((List T_Item)) ⊕ (((List T_Item) × Int) ⊕ (((List T_Item)) ⊕ (((List T_Item) × Int × (List Int) × (List Int) × Int × (List Int) × Bool × ByteArray × ByteArray × (List T_Path) × (List Int) × Bool × ByteArray × Int × Int × (List Int) × Int × Int × Int × (List Int) × Bool) ⊕ (((List T_Item) × Int × (List Int) × (List Int) × Int × (List Int) × Bool × ByteArray × ByteArray × (List T_Path) × (List Int) × Bool × ByteArray × Int × Int × (List Int) × Int × Int × Int × (List Int) × Bool) ⊕ (T_Spool × Int)))))))
           ((ixO s1183 s1182.length).bind fun v153 =>
           (getO s1182 v153).bind fun v154 =>
           cond ((v154.Pack == p_r.Number))
            ((ixO s1183 s1182.length).bind fun v155 =>
            (getO s1182 v155).bind fun v156 =>
            some (.inl (v156.State == 2)))
            (some (.inl false)))
           (fun (s1216 : Bool) =>
            cond (s1216)
             ((ixO s1183 s1182.length).bind fun v162 =>
             (getO s1182 v162).bind fun v163 =>
             (some (s1182.set v162 ((T_Item.mk v163.Id ((T_Mail.mk (T_Path.mk v163.Mail.From.Null v163.Mail.From.Local v163.Mail.From.Domain) v163.Mail.To v163.Mail.Body v163.Mail.Quiet v163.Mail.Helo v163.Mail.At)) 3 v163.Pack)))).bind fun v164 =>
             some (.inl v164))
             (some (.inl s1182))) some)
          (fun (s1212 : (List T_Item)) =>
           (some (IntKind.i64.wrap (s1183 + 1))).bind fun v174 =>
           some (.inl (s1212,v174))) some)
         (some (.inr (.inl s1182))))
def ra6 (s v1 : T_Spool) (p_r : T_Rec) : (((List Int) × Bool × Int)) → Option (((List Int) × Bool × Int) ⊕ (((List Int) × Bool) ⊕ (((List T_Item) × Int × (List Int) × (List Int) × Int × (List Int) × Bool × ByteArray × ByteArray × (List T_Path) × (List Int) × Bool × ByteArray × Int × Int × (List Int) × Int × Int × Int × (List Int) × Bool) ⊕ (((List T_Item) × Int × (List Int) × (List Int) × Int × (List Int) × Bool × ByteArray × ByteArray × (List T_Path) × (List Int) × Bool × ByteArray × Int × Int × (List Int) × Int × Int × Int × (List Int) × Bool) ⊕ (T_Spool × Int))))) := (fun ((s1283,s1284,s1285) : (List Int) × Bool × Int) =>
           cond ((decide (s1285 < (s.Done.length : Int))))
            (bindS (S := (List Int) × Bool) (A := (((List Int) × Bool × Int) ⊕ (((List Int) × Bool) ⊕ (((List T_Item) × Int × (List Int) × (List Int) × Int × (List Int) × Bool × ByteArray × ByteArray × (List T_Path) × (List Int) × Bool × ByteArray × Int × Int × (List Int) × Int × Int × Int × (List Int) × Bool) ⊕ (((List T_Item) × Int × (List Int) × (List Int) × Int × (List Int) × Bool × ByteArray × ByteArray × (List T_Path) × (List Int) × Bool × ByteArray × Int × Int × (List Int) × Int × Int × Int × (List Int) × Bool) ⊕ (T_Spool × Int))))))
             (bindS (S := Bool) (A := (((List Int) × Bool) ⊕ (((List Int) × Bool × Int) ⊕ (((List Int) × Bool) ⊕ (((List T_Item) × Int × (List Int) × (List Int) × Int × (List Int) × Bool × ByteArray × ByteArray × (List T_Path) × (List Int) × Bool × ByteArray × Int × Int × (List Int) × Int × Int × Int × (List Int) × Bool) ⊕ (((List T_Item) × Int × (List Int) × (List Int) × Int × (List Int) × Bool × ByteArray × ByteArray × (List T_Path) × (List Int) × Bool × ByteArray × Int × Int × (List Int) × Int × Int × Int × (List Int) × Bool) ⊕ (T_Spool × Int)))))))
              ((ixO s1285 s.Done.length).bind fun v275 =>
              (getO s.Done v275).bind fun v276 =>
              cond ((decide (p_r.Number < v276)))
               (some (.inl (!s1284)))
               (some (.inl false)))
              (fun (s1321 : Bool) =>
               cond (s1321)
                ((appO 8 s1283 [p_r.Number]).bind fun v282 =>
                some (.inl (v282,true)))
                (some (.inl (s1283,s1284)))) some)
             (fun ((s1316,s1317) : (List Int) × Bool) =>
              (ixO s1285 s.Done.length).bind fun v293 =>
              (getO s.Done v293).bind fun v294 =>
              (appO 8 s1316 [v294]).bind fun v295 =>
              (some (IntKind.i64.wrap (s1285 + 1))).bind fun v296 =>
              some (.inl (v295,s1317,v296))) some)
            (some (.inr (.inl (s1283,s1284)))))
theorem in18_eq (n lo hi : Int) : wherryref18_in n lo hi = some (decide (lo ≤ n ∧ n ≤ hi)) := by
 unfold wherryref18_in
 by_cases h1 : lo ≤ n
 ·by_cases h2 : n ≤ hi
  ·rw [decide_eq_true (⟨h1,h2⟩ : lo ≤ n ∧ n ≤ hi)]
   exact bndL (cnd_t (decide_eq_true h1) (inl_of (decide_eq_true h2))) rfl
  ·rw [decide_eq_false (fun h => h2 h.2 : ¬ (lo ≤ n ∧ n ≤ hi))]
   exact bndL (cnd_t (decide_eq_true h1) (inl_of (decide_eq_false h2))) rfl
 ·rw [decide_eq_false (fun h => h1 h.1 : ¬ (lo ≤ n ∧ n ≤ hi))]
  exact bndL (cnd_f (decide_eq_false h1) rfl) rfl
theorem has18_eq (l : List Int) (n : Int) (hl : l.length < 4294967296) : wherryref18_has l n = some (decide (n ∈ l)) := by
 unfold wherryref18_has
 have h := loop_all (R := Bool) (f := rhS l n) (fun i => decide (l[i]? ≠ some n)) l.length true (fuel := BIG) (by simp only [BIG]; omega) (fun i hi hp => ?_) (fun i hi hp => ?_) (cnd_f (decide_eq_false (by omega)) rfl)
 ·by_cases hm : n ∈ l
  ·obtain ⟨i,hi,he⟩ := List.getElem_of_mem hm
   rw [if_neg (fun hh : ∀ i,i < l.length → decide (l[i]? ≠ some n) = true => (of_decide_eq_true (hh i hi) : l[i]? ≠ some n) (by rw [List.getElem?_eq_getElem hi,he]))] at h
   rw [decide_eq_true hm]
   exact bndR h rfl
  ·rw [if_pos (fun i hi => decide_eq_true (by
    rw [List.getElem?_eq_getElem hi]
    intro e
    exact hm (Option.some.inj e ▸ List.getElem_mem hi)))] at h
   rw [decide_eq_false hm]
   exact bndL h rfl
 ·have hx := of_decide_eq_true hp
  rw [List.getElem?_eq_getElem hi] at hx
  exact cnd_t (decide_eq_true (by omega)) (bnd (ixO_of hi) (bnd (by simp [getO,hi] : getO l i = some l[i]) (cnd_f (beq_eq_false_iff_ne.2 (fun e => hx (by rw [e]))) (bnd (congrArg some (wrap_succ (n := i) (by omega))) rfl))))
 ·have hx : l[i]? = some n := by simpa using hp
  rw [List.getElem?_eq_getElem hi] at hx
  exact cnd_t (decide_eq_true (by omega)) (bnd (ixO_of hi) (bnd (by simp [getO,hi] : getO l i = some l[i]) (cnd_t (beq_iff_eq.2 (Option.some.inj hx)) rfl)))
theorem body_tot {b : List Int} (hb : byt b) (hl : b.length < 4294967281) : wherryref11_Body b = some (bodyV b) := by
 unfold bodyV
 rcases body_any b hb hl with h | ⟨h,_⟩
 ·rw [h]; rfl
 ·rw [h]; rfl
theorem mW_len {m : T_Mail} (h : LM m) : m.Body.length ≤ 20000 := by
 have := h.2
 simp only [mW] at this
 omega
theorem rmail_eq {m : T_Mail} (h : LM m) (hb : byt m.Body) : wherryref18_mail m = some (mailV m) := by
 have hl := mW_len h
 have hto := h.1
 unfold wherryref18_mail mailV
 have hB := body_tot hb (by omega)
 cases c1 : patB m.From
 ·exact bndL (s := true) (bnd (rpath_eq _) (cnd_t (by rw [c1]; rfl) rfl)) (cnd_t rfl rfl)
 by_cases c2 : 1 ≤ m.To.length ∧ m.To.length ≤ 8
 case neg =>
  rw [decide_eq_false c2]
  exact bndL (s := true) (bnd (rpath_eq _) (cnd_f (by rw [c1]; rfl) (bnd (in18_eq _ _ _) (cnd_t (by rw [decide_eq_false (by omega)]; rfl) rfl)))) (cnd_t rfl rfl)
 rw [decide_eq_true c2]
 have d2 : (!decide ((1 : Int) ≤ (m.To.length : Int) ∧ (m.To.length : Int) ≤ 8)) = false := by rw [decide_eq_true (by omega)]; rfl
 cases c3 : bodyV m.Body
 ·exact bndL (s := true) (bnd (rpath_eq _) (cnd_f (by rw [c1]; rfl) (bnd (in18_eq _ _ _) (cnd_f d2 (bnd hB (cnd_t (by rw [c3]; rfl) rfl)))))) (cnd_t rfl rfl)
 by_cases c4 : 0 ≤ m.At ∧ m.At ≤ 1099511627776
 case neg =>
  rw [decide_eq_false c4]
  exact bndL (s := true) (bnd (rpath_eq _) (cnd_f (by rw [c1]; rfl) (bnd (in18_eq _ _ _) (cnd_f d2 (bnd hB (cnd_f (by rw [c3]; rfl) (bnd (in18_eq _ _ _) (inl_of (by rw [decide_eq_false c4]; rfl))))))))) (cnd_t rfl rfl)
 rw [decide_eq_true c4]
 refine bndL (s := false) (bnd (rpath_eq _) (cnd_f (by rw [c1]; rfl) (bnd (in18_eq _ _ _) (cnd_f d2 (bnd hB (cnd_f (by rw [c3]; rfl) (bnd (in18_eq _ _ _) (inl_of (by rw [decide_eq_true c4]; rfl))))))))) (cnd_f rfl ?_)
 have hlp := loop_all (R := Bool) (f := rmS m) (fun i => decide (∀ h : i < m.To.length,patB (m.To[i]'h) = true ∧ (m.To[i]'h).Null = false)) m.To.length false (fuel := BIG) (by simp only [BIG]; omega) (fun i hi hp => ?_) (fun i hi hp => ?_) (cnd_f (decide_eq_false (by omega)) rfl)
 ·by_cases hall : ∀ p ∈ m.To,patB p = true ∧ p.Null = false
  ·rw [decide_eq_true hall]
   rw [if_pos (fun i hi => decide_eq_true (fun h => hall _ (List.getElem_mem h)))] at hlp
   exact bndL hlp rfl
  ·rw [decide_eq_false hall]
   rw [if_neg (fun hh => hall (fun p hp => by
    obtain ⟨i,hi,rfl⟩ := List.getElem_of_mem hp
    exact of_decide_eq_true (hh i hi) hi))] at hlp
   exact bndR hlp rfl
 ·have hx := of_decide_eq_true hp hi
  have hg : getO m.To i = some m.To[i] := by simp [getO,hi]
  exact cnd_t (decide_eq_true (by omega)) (bndL (s := false) (bnd (ixO_of hi) (bnd hg (bnd (rpath_eq _) (cnd_f (by rw [hx.1]; rfl) (bnd (ixO_of hi) (bnd hg (inl_of hx.2))))))) (cnd_f rfl (bnd (congrArg some (wrap_succ (n := i) (by omega))) rfl)))
 ·have hx := of_decide_eq_false hp
  have hg : getO m.To i = some m.To[i] := by simp [getO,hi]
  refine cnd_t (decide_eq_true (by omega)) (bndL (s := true) (bnd (ixO_of hi) (bnd hg (bnd (rpath_eq _) ?_))) (cnd_t rfl rfl))
  cases hpt : patB m.To[i]
  ·exact cnd_t rfl rfl
  ·refine cnd_f rfl (bnd (ixO_of hi) (bnd hg (inl_of ?_)))
   cases hn : (m.To[i]).Null
   ·exact absurd (fun _ => ⟨hpt,hn⟩) hx
   ·rfl
theorem twinSp_eq {n : Nat} {s : T_Spool} (hs : Inv n s) : wherrykeep_TwinSpool s = some s := by
 have hl := hs.len; have hn := hs.hn; have hp := hs.part; have hse := hs.sent; have hd := hs.done
 unfold wherrykeep_TwinSpool
 refine bnd (x := s.Sent) (bnd (app_nil (by omega) (by omega)) rfl) (bnd (x := s.Part) (bnd (app_nil (by omega) (by omega)) rfl) (bnd (x := s.Done) (bnd (app_nil (by omega) (by omega)) rfl) ?_))
 refine bndL (s := s.Items) (loop_from (f := tsS s) (fun k => (s.Items.take k,(k : Int))) s.Items.length BIG rfl (by simp only [BIG]; omega) (fun k hk => ?_) ?_) rfl
 ·refine cnd_t (decide_eq_true (by omega)) (bnd (ixO_of hk) (bnd (by simp [getO,hk] : getO s.Items k = some s.Items[k]) (bnd (twin_mail (hs.lm _ (List.getElem_mem hk))) (bnd (app_of ?_ ?_) (bnd (congrArg some (wrap_succ (n := k) (by omega))) ?_)))))
  ·simp; omega
  ·simp; omega
  ·rw [take_succ _ k hk]
 ·exact cnd_f (decide_eq_false (by omega)) (by simp only [List.take_length])
theorem fin18 (c r : T_Rec) (hto : c.Mail.To.length ≤ 1000000) (hbo : c.Mail.Body.length ≤ 1000000) (hid : c.Ids.length ≤ 1000000) (hda : c.Data.length ≤ 1000000) (ok : Bool) (x : T_Spool) :
  bindS (S := Bool) (A := (T_Spool × Int)) (cond (!ok) (some (.inl true)) ((wherrykeep_Rec c r).bind fun v => some (.inl (!v)))) (fun s1334 => cond s1334 (some (noSp,5)) (some (x,0))) some = some (if ok = true ∧ c = r then (x,0) else (noSp,5)) := by
 cases ok
 ·rw [if_neg (by simp)]
  exact bndL (s := true) rfl rfl
 ·by_cases h : c = r
  ·rw [if_pos ⟨rfl,h⟩]
   exact bndL (s := false) (cnd_f rfl (bnd (keepRec_eq c r (by omega) (by omega) (by omega) (by omega)) (inl_of (by rw [decide_eq_true h]; rfl)))) rfl
  ·rw [if_neg (fun hh => h hh.2)]
   exact bndL (s := true) (cnd_f rfl (bnd (keepRec_eq c r (by omega) (by omega) (by omega) (by omega)) (inl_of (by rw [decide_eq_false h]; rfl)))) rfl
/-! The loops. -/
def g3 (n : Int) (x : T_Item) : T_Item := if x.Pack = n ∧ x.State = 2 then ⟨x.Id,x.Mail,3,x.Pack⟩ else x
theorem ra3_loop (s v : T_Spool) (r : T_Rec) (hl : v.Items.length < 1000000) : loopF (ra3 s v r) BIG (v.Items,0) = some (.inl (v.Items.map (g3 r.Number))) := by
 refine loop_from (fun k => (upd (g3 r.Number) k v.Items,(k : Int))) v.Items.length BIG rfl (by simp only [BIG]; omega) (fun k hk => ?_) ?_
 ·have hx : ixO (k : Int) (upd (g3 r.Number) k v.Items).length = some k := ixO_of (by rw [upd_len]; exact hk)
  have hg := upd_get (g3 r.Number) hk
  have hul := upd_len (g3 r.Number) k v.Items
  refine cnd_t (decide_eq_true (by rw [hul]; omega)) (bndL (s := upd (g3 r.Number) (k + 1) v.Items) ?_ (bnd (congrArg some (wrap_succ (n := k) (by omega))) rfl))
  by_cases h1 : v.Items[k].Pack = r.Number
  ·by_cases h2 : v.Items[k].State = 2
   ·refine bndL (s := true) (bnd hx (bnd hg (cnd_t (beq_iff_eq.2 h1) (bnd hx (bnd hg (inl_of (beq_iff_eq.2 h2))))))) (cnd_t rfl (bnd hx (bnd hg (bnd rfl ?_))))
    rw [upd_set (g3 r.Number) hk _ (by simp only [g3,if_pos (⟨h1,h2⟩ : _ ∧ _)])]
   ·refine bndL (s := false) (bnd hx (bnd hg (cnd_t (beq_iff_eq.2 h1) (bnd hx (bnd hg (inl_of (beq_eq_false_iff_ne.2 h2))))))) (cnd_f rfl ?_)
    rw [upd_same (g3 r.Number) hk (by simp only [g3]; rw [if_neg (fun h => h2 h.2)])]
  ·refine bndL (s := false) (bnd hx (bnd hg (cnd_f (beq_eq_false_iff_ne.2 h1) rfl))) (cnd_f rfl ?_)
   rw [upd_same (g3 r.Number) hk (by simp only [g3]; rw [if_neg (fun h => h1 h.1)])]
 ·refine cnd_f (decide_eq_false (by rw [upd_len]; omega)) ?_
  simp only [upd_all]
def gI (n : Int) : List Int → Bool → List Int × Bool
 | [],p => ([],p)
 | a :: l,p => if n < a ∧ p = false then (n :: a :: (gI n l true).1,(gI n l true).2) else (a :: (gI n l p).1,(gI n l p).2)
theorem gI_true (n : Int) : ∀ l,gI n l true = (l,true)
 | [] => rfl
 | a :: l => by simp [gI,gI_true n l]
theorem gI_len (n : Int) : ∀ l p,(gI n l p).1.length ≤ l.length + 1
 | [],p => by simp [gI]
 | a :: l,p => by
  simp only [gI]
  split
  ·rw [gI_true]; simp
  ·have := gI_len n l p; simp only [List.length_cons]; omega
theorem gI_ins (n : Int) : ∀ l,n ∉ l → (gI n l false).1 ++ (if (gI n l false).2 = true then [] else [n]) = insS l n
 | [],_ => by simp [gI,insS]
 | a :: l,h => by
  have hne : n ≠ a := fun e => h (by rw [e]; exact List.mem_cons_self)
  by_cases hlt : n < a
  ·simp only [gI]
   rw [if_pos ⟨hlt,trivial⟩,gI_true]
   simp only [insS,if_neg (by omega : ¬ a < n),if_true,List.append_nil]
  ·simp only [gI]
   rw [if_neg (fun hh => hlt hh.1)]
   simp only [insS,if_pos (by omega : a < n)]
   have := gI_ins n l (fun hm => h (List.mem_cons_of_mem _ hm))
   rw [← this]; rfl
theorem ra6_loop (s v : T_Spool) (r : T_Rec) (hl : s.Done.length < 1000000) : ∀ (d i fuel : Nat) (A : List Int) (p : Bool),i + d = s.Done.length → d < fuel → A.length ≤ i + 1 → loopF (ra6 s v r) fuel (A,p,(i : Int)) = some (.inl (A ++ (gI r.Number (s.Done.drop i) p).1,(gI r.Number (s.Done.drop i) p).2))
 | d,i,0,A,p,_,hf,_ => absurd hf (Nat.not_lt_zero d)
 | 0,i,fuel + 1,A,p,hd,_,_ => by
  obtain rfl : i = s.Done.length := by omega
  rw [List.drop_length]
  simp only [gI,List.append_nil]
  exact loop_exit (cnd_f (decide_eq_false (by omega)) rfl)
 | d + 1,i,fuel + 1,A,p,hd,hf,hA => by
  have hi : i < s.Done.length := by omega
  have hg : getO s.Done i = some s.Done[i] := by simp [getO,hi]
  have e1 : some (IntKind.i64.wrap ((i : Int) + 1)) = some ((i + 1 : Nat) : Int) := congrArg some (wrap_succ (n := i) (by omega))
  rw [List.drop_eq_getElem_cons hi]
  by_cases hc : r.Number < s.Done[i] ∧ p = false
  ·have hg2 : gI r.Number (s.Done[i] :: s.Done.drop (i + 1)) p = (r.Number :: s.Done[i] :: (gI r.Number (s.Done.drop (i + 1)) true).1,(gI r.Number (s.Done.drop (i + 1)) true).2) := by simp only [gI]; rw [if_pos hc]
   rw [hg2]
   have hcat : A ++ r.Number :: s.Done[i] :: (gI r.Number (s.Done.drop (i + 1)) true).1 = ((A ++ [r.Number]) ++ [s.Done[i]]) ++ (gI r.Number (s.Done.drop (i + 1)) true).1 := by simp
   rw [hcat]
   have hnx : ra6 s v r (A,p,(i : Int)) = some (.inl ((A ++ [r.Number]) ++ [s.Done[i]],true,((i + 1 : Nat) : Int))) :=
    cnd_t (decide_eq_true (by omega)) (bndL (s := (A ++ [r.Number],true)) (bndL (s := true) (bnd (ixO_of hi) (bnd hg (cnd_t (decide_eq_true hc.1) (inl_of (by rw [hc.2]; rfl))))) (cnd_t rfl (bnd (app_of (by simp; omega) (by simp; omega)) rfl))) (bnd (ixO_of hi) (bnd hg (bnd (app_of (by simp; omega) (by simp; omega)) (bnd e1 rfl)))))
   -- behind the number nothing is put
   have hrest : ∀ (d i fuel : Nat) (B : List Int),i + d = s.Done.length → d < fuel → B.length ≤ i + 2 → loopF (ra6 s v r) fuel (B,true,(i : Int)) = some (.inl (B ++ s.Done.drop i,true)) := by
    intro d
    induction d with
    | zero =>
     intro i fuel B hd hf hB
     obtain ⟨k,rfl⟩ : ∃ k,fuel = k + 1 := ⟨fuel - 1,by omega⟩
     obtain rfl : i = s.Done.length := by omega
     rw [List.drop_length,List.append_nil]
     exact loop_exit (cnd_f (decide_eq_false (by omega)) rfl)
    | succ d ih =>
     intro i fuel B hd hf hB
     obtain ⟨k,rfl⟩ : ∃ k,fuel = k + 1 := ⟨fuel - 1,by omega⟩
     have hi : i < s.Done.length := by omega
     have hg : getO s.Done i = some s.Done[i] := by simp [getO,hi]
     have hcat : B ++ s.Done.drop i = (B ++ [s.Done[i]]) ++ s.Done.drop (i + 1) := by rw [List.drop_eq_getElem_cons hi]; simp
     rw [hcat,← ih (i + 1) k (B ++ [s.Done[i]]) (by omega) (by omega) (by simp; omega)]
     refine loop_next (cnd_t (decide_eq_true (by omega)) (bndL (s := (B,true)) (bndL (s := false) (bnd (ixO_of hi) (bnd hg ?_)) (cnd_f rfl rfl)) (bnd (ixO_of hi) (bnd hg (bnd (app_of (by simp; omega) (by simp; omega)) (bnd (congrArg some (wrap_succ (n := i) (by omega))) rfl))))))
     by_cases h : r.Number < s.Done[i]
     ·exact cnd_t (decide_eq_true h) rfl
     ·exact cnd_f (decide_eq_false h) rfl
   rw [loop_next hnx,hrest d (i + 1) fuel _ (by omega) (by omega) (by simp; omega),gI_true]
  ·have hg2 : gI r.Number (s.Done[i] :: s.Done.drop (i + 1)) p = (s.Done[i] :: (gI r.Number (s.Done.drop (i + 1)) p).1,(gI r.Number (s.Done.drop (i + 1)) p).2) := by simp only [gI]; rw [if_neg hc]
   rw [hg2]
   have hcat : A ++ s.Done[i] :: (gI r.Number (s.Done.drop (i + 1)) p).1 = (A ++ [s.Done[i]]) ++ (gI r.Number (s.Done.drop (i + 1)) p).1 := by simp
   rw [hcat,← ra6_loop s v r hl d (i + 1) fuel (A ++ [s.Done[i]]) p (by omega) (by omega) (by simp; omega)]
   refine loop_next (cnd_t (decide_eq_true (by omega)) (bndL (s := (A,p)) (bndL (s := false) (bnd (ixO_of hi) (bnd hg ?_)) (cnd_f rfl rfl)) (bnd (ixO_of hi) (bnd hg (bnd (app_of (by simp; omega) (by simp; omega)) (bnd e1 rfl))))))
   by_cases h : r.Number < s.Done[i]
   ·refine cnd_t (decide_eq_true h) (inl_of ?_)
    cases p
    ·exact absurd ⟨h,rfl⟩ hc
    ·rfl
   ·exact cnd_f (decide_eq_false h) rfl
theorem f2_take {s : T_Spool} (hid : Ids s) {ids : List Int} {num : Int} {i k : Nat} (hi : i < ids.length) (hk : k < s.Items.length) (he : ids[i] = (k : Int) + 1) (y : T_Item) (hy : y = ⟨s.Items[k].Id,s.Items[k].Mail,2,num⟩) :
  (s.Items.map (f2 (ids.take i) num)).set k y = s.Items.map (f2 (ids.take (i + 1)) num) := by
 subst hy
 refine List.ext_getElem (by simp) fun j h1 h2 => ?_
 have hj : j < s.Items.length := by simpa using h2
 rw [List.getElem_set,List.getElem_map,List.getElem_map,show f2 (ids.take (i + 1)) num s.Items[j] = f2 (ids.take i ++ [ids[i]]) num s.Items[j] from by rw [take_succ ids i hi]]
 by_cases h : k = j
 ·subst h
  rw [if_pos rfl]
  simp only [f2]
  rw [if_pos (List.mem_append_right _ (by rw [hid k hk,he]; exact List.mem_singleton_self _))]
 ·rw [if_neg h]
  have hidj := hid j hj
  simp only [f2]
  by_cases hm : s.Items[j].Id ∈ ids.take i
  ·rw [if_pos hm,if_pos (List.mem_append_left _ hm)]
  ·rw [if_neg hm,if_neg (fun hh => (List.mem_append.1 hh).elim hm (fun hh => by
    have := List.mem_singleton.1 hh
    omega))]
theorem ra2_step {n : Nat} {s : T_Spool} (hs : Inv n s) (r : T_Rec) {i : Nat} (hi : i < r.Ids.length) (hr : r.Ids.length ≤ 1000) :
  ra2 s s r (s.Items.map (f2 (r.Ids.take i) r.Number),true,(i : Int)) = some (.inl (if idB s r.Ids i = true then (s.Items.map (f2 (r.Ids.take (i + 1)) r.Number),true,((i + 1 : Nat) : Int)) else (s.Items.map (f2 (r.Ids.take i) r.Number),false,((i + 1 : Nat) : Int)))) := by
 have hl := hs.len; have hn := hs.hn
 have hg : getO r.Ids i = some r.Ids[i] := by simp [getO,hi]
 have hix : ixO (i : Int) r.Ids.length = some i := ixO_of hi
 have hd : r.Ids.getD i 0 = r.Ids[i] := by simp [List.getD,hi]
 have e1 : some (IntKind.i64.wrap ((i : Int) + 1)) = some ((i + 1 : Nat) : Int) := congrArg some (wrap_succ (n := i) (by omega))
 refine bndL (s := true) (cnd_t (decide_eq_true (by omega)) rfl) (cnd_t rfl ?_)
 by_cases hin : 1 ≤ r.Ids[i] ∧ r.Ids[i] ≤ (s.Items.length : Int)
 case neg =>
  have hb : idB s r.Ids i = false := by
   unfold idB wt
   rw [hd,decide_eq_false hin]; simp
  rw [hb,if_neg (by simp)]
  exact bndL (s := (s.Items.map (f2 (r.Ids.take i) r.Number),false)) (bndL (s := false) (bnd hix (bnd hg (bnd (in18_eq _ _ _) (cnd_f (decide_eq_false hin) rfl)))) (cnd_f rfl rfl)) (bnd e1 rfl)
 obtain ⟨k,hk⟩ : ∃ k : Nat,r.Ids[i] = (k : Int) + 1 := ⟨(r.Ids[i] - 1).toNat,by omega⟩
 have hkl : k < s.Items.length := by omega
 have w1 : some (IntKind.i64.wrap (r.Ids[i] - 1)) = some (k : Int) := by rw [hk,Int.add_sub_cancel,wrap_nat _ (by omega)]
 have hgk : getO s.Items k = some s.Items[k] := by simp [getO,hkl]
 have hwt : wt s r.Ids[i] = (s.Items[k].State == 1) := by
  unfold wt
  rw [decide_eq_true hin,Bool.true_and,hk,Int.add_sub_cancel,Int.toNat_natCast,List.getElem?_eq_getElem hkl]
  simp
 by_cases hst : s.Items[k].State = 1
 case neg =>
  have hb : idB s r.Ids i = false := by
   unfold idB
   rw [hd,hwt,beq_eq_false_iff_ne.2 hst]; simp
  rw [hb,if_neg (by simp)]
  exact bndL (s := (s.Items.map (f2 (r.Ids.take i) r.Number),false)) (bndL (s := false) (bnd hix (bnd hg (bnd (in18_eq _ _ _) (cnd_t (decide_eq_true hin) (bnd hix (bnd hg (bnd w1 (bnd (ixO_of hkl) (bnd hgk (cnd_f (beq_eq_false_iff_ne.2 hst) rfl)))))))))) (cnd_f rfl rfl)) (bnd e1 rfl)
 have hidB : idB s r.Ids i = (i == 0 || decide (r.Ids.getD (i - 1) 0 < r.Ids[i])) := by
  unfold idB
  rw [hd,hwt,beq_iff_eq.2 hst,Bool.and_true]
 have hbool : ((ixO (i : Int) r.Ids.length).bind fun v30 =>
              (getO r.Ids v30).bind fun v31 =>
              (wherryref18_in v31 1 (s.Items.length : Int)).bind fun v32 =>
              cond (v32)
               ((ixO (i : Int) r.Ids.length).bind fun v33 =>
               (getO r.Ids v33).bind fun v34 =>
               (some (IntKind.i64.wrap (v34 - 1))).bind fun v35 =>
               (ixO v35 s.Items.length).bind fun v36 =>
               (getO s.Items v36).bind fun v37 =>
               cond ((v37.State == 1))
                (cond (((i : Int) == 0))
                 (some (.inl true))
                 ((ixO (i : Int) r.Ids.length).bind fun v38 =>
                 (getO r.Ids v38).bind fun v39 =>
                 (some (IntKind.i64.wrap ((i : Int) - 1))).bind fun v40 =>
                 (ixO v40 r.Ids.length).bind fun v41 =>
                 (getO r.Ids v41).bind fun v42 =>
                 some ((.inl ((decide (v42 < v39)))) : Bool ⊕ (((List T_Item) × Bool) ⊕ (((List T_Item) × Bool × Int) ⊕ (((List T_Item) × Bool) ⊕ (((List T_Item) × Int × (List Int) × (List Int) × Int × (List Int) × Bool × ByteArray × ByteArray × (List T_Path) × (List Int) × Bool × ByteArray × Int × Int × (List Int) × Int × Int × Int × (List Int) × Bool) ⊕ (((List T_Item) × Int × (List Int) × (List Int) × Int × (List Int) × Bool × ByteArray × ByteArray × (List T_Path) × (List Int) × Bool × ByteArray × Int × Int × (List Int) × Int × Int × Int × (List Int) × Bool) ⊕ (T_Spool × Int)))))))))
                (some (.inl false)))
               (some (.inl false))) = some (.inl (idB s r.Ids i)) := by
  rw [hidB]
  refine bnd hix (bnd hg (bnd (in18_eq _ _ _) (cnd_t (decide_eq_true hin) (bnd hix (bnd hg (bnd w1 (bnd (ixO_of hkl) (bnd hgk (cnd_t (beq_iff_eq.2 hst) ?_)))))))))
  cases i with
  | zero => exact cnd_t rfl rfl
  | succ j =>
   have hj : j < r.Ids.length := by omega
   have wj : some (IntKind.i64.wrap (((j + 1 : Nat) : Int) - 1)) = some (j : Int) := by rw [wrap_i64 (by omega) (by omega)]; congr 1; omega
   have hgj : getO r.Ids j = some r.Ids[j] := by simp [getO,hj]
   have hdj : r.Ids.getD (j + 1 - 1) 0 = r.Ids[j] := by simp [List.getD,hj]
   rw [hdj]
   exact cnd_f (by simp only [beq_eq_false_iff_ne,ne_eq]; omega) (bnd hix (bnd hg (bnd wj (bnd (ixO_of hj) (bnd hgj rfl)))))
 cases hB : idB s r.Ids i
 ·rw [if_neg (by simp)]
  rw [hB] at hbool
  exact bndL (s := (s.Items.map (f2 (r.Ids.take i) r.Number),false)) (bndL (s := false) hbool (cnd_f rfl rfl)) (bnd e1 rfl)
 ·rw [if_pos rfl]
  rw [hB] at hbool
  obtain ⟨L,hL⟩ : ∃ L,L = s.Items.map (f2 (r.Ids.take i) r.Number) := ⟨_,rfl⟩
  have hLl : L.length = s.Items.length := by rw [hL]; simp
  have hkL : k < L.length := by omega
  have hgL : getO L k = some L[k] := by simp [getO,hkL]
  have hLk : L[k].Id = s.Items[k].Id ∧ L[k].Mail = s.Items[k].Mail := by
   have : L[k] = f2 (r.Ids.take i) r.Number s.Items[k] := by simp only [hL,List.getElem_map]
   rw [this]; exact f2_id _ _ _
  have hset : (L.set k ⟨L[k].Id,L[k].Mail,2,L[k].Pack⟩).set k ⟨L[k].Id,L[k].Mail,2,r.Number⟩ = s.Items.map (f2 (r.Ids.take (i + 1)) r.Number) := by
   have hft := f2_take hs.ids (num := r.Number) hi hkl hk ⟨L[k].Id,L[k].Mail,2,r.Number⟩ (by rw [hLk.1,hLk.2])
   rw [← hL] at hft
   rw [List.set_set]
   exact hft
  have hgs : getO (L.set k ⟨L[k].Id,L[k].Mail,2,L[k].Pack⟩) k = some ⟨L[k].Id,L[k].Mail,2,L[k].Pack⟩ := by
   simp only [getO]
   rw [List.getElem?_set_self hkL]
  rw [← hset,← hL]
  exact bndL (s := ((L.set k ⟨L[k].Id,L[k].Mail,2,L[k].Pack⟩).set k ⟨L[k].Id,L[k].Mail,2,r.Number⟩,true)) (bndL (s := true) hbool (cnd_t rfl (bnd hix (bnd hg (bnd w1 (bnd hix (bnd hg (bnd w1 (bnd (ixO_of hkL) (bnd hgL (bnd rfl (bnd (ixO_of hkL) (bnd hgs (bnd rfl rfl)))))))))))))) (bnd e1 rfl)
theorem ra2_loop {n : Nat} {s : T_Spool} (hs : Inv n s) (r : T_Rec) (hr : r.Ids.length ≤ 1000) (ok : Bool) : ∃ (L : List T_Item) (ok' : Bool),loopF (ra2 s s r) BIG (s.Items,ok,0) = some (.inl (L,ok')) ∧ ok' = (ok && decide (∀ i,i < r.Ids.length → idB s r.Ids i = true)) ∧ (ok' = true → L = s.Items.map (f2 r.Ids r.Number)) := by
 have f0 : s.Items.map (f2 (r.Ids.take 0) r.Number) = s.Items := by
  have : ∀ x : T_Item,f2 [] r.Number x = x := fun x => by simp [f2]
  rw [List.take_zero]
  exact (List.map_congr_left (g := id) (fun x _ => this x)).trans (List.map_id _)
 cases ok
 ·refine ⟨s.Items,false,loop_from (f := ra2 s s r) (fun _ => (s.Items,false,((0 : Nat) : Int))) 0 BIG rfl (by simp only [BIG]; omega) (fun k hk => absurd hk (by omega)) ?_,rfl,fun h => by cases h⟩
  refine bndL (s := false) ?_ rfl
  by_cases h : 0 < r.Ids.length
  ·exact cnd_t (decide_eq_true (by omega)) rfl
  ·exact cnd_f (decide_eq_false (by omega)) rfl
 ·rcases first_fail (idB s r.Ids) r.Ids.length with h | ⟨k,hk,h1,h2⟩
  ·refine ⟨s.Items.map (f2 r.Ids r.Number),true,loop_from (f := ra2 s s r) (fun k => (s.Items.map (f2 (r.Ids.take k) r.Number),true,(k : Int))) r.Ids.length BIG (by simp only [f0]; rfl) (by simp only [BIG]; omega) (fun i hi => ?_) ?_,by rw [decide_eq_true h]; rfl,fun _ => rfl⟩
   ·have := ra2_step hs r hi hr
    rw [if_pos (h i hi)] at this
    exact this
   ·rw [List.take_length]
    exact bndL (s := false) (cnd_f (decide_eq_false (by omega)) rfl) rfl
  ·refine ⟨s.Items.map (f2 (r.Ids.take k) r.Number),false,loop_from (f := ra2 s s r) (fun j => if j ≤ k then (s.Items.map (f2 (r.Ids.take j) r.Number),true,(j : Int)) else (s.Items.map (f2 (r.Ids.take k) r.Number),false,((k + 1 : Nat) : Int))) (k + 1) BIG (by simp only [Nat.zero_le,if_true,f0]; rfl) (by simp only [BIG]; omega) (fun i hi => ?_) ?_,?_,fun h => by cases h⟩
   ·rw [if_pos (by omega)]
    have := ra2_step hs r (i := i) (by omega) hr
    by_cases hik : i = k
    ·subst hik
     rw [if_neg (by rw [h2]; simp)] at this
     rw [if_neg (by omega)]
     exact this
    ·rw [if_pos (h1 i (by omega))] at this
     rw [if_pos (by omega)]
     exact this
   ·rw [if_neg (by omega)]
    refine bndL (s := false) ?_ rfl
    by_cases h : k + 1 < r.Ids.length
    ·exact cnd_t (decide_eq_true (by omega)) rfl
    ·exact cnd_f (decide_eq_false (by omega)) rfl
   ·rw [decide_eq_false (fun hh => by have := hh k hk; rw [h2] at this; cases this)]; rfl
end Go.Abs.Sh
