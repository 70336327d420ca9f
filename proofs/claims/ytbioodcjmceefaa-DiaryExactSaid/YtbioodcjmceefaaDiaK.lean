import Derived.Test.YtbioodcjmceefaaDiaC
namespace Go.Abs.Sh
set_option linter.unusedVariables false
def eaS (l : List T_Rec) : (((List T_Rec) × Int)) → Option (((List T_Rec) × Int) ⊕ (((List T_Rec)) ⊕ (List T_Rec))) := (fun ((s10, s11) : (List T_Rec) × Int) =>
  cond ((decide (s11 < (l.length : Int))))
    ((ixO s11 l.length).bind fun v2 =>
    (getO l v2).bind fun v3 =>
    (clone_Rec ((T_Rec.mk v3.Kind ((T_Mail.mk (T_Path.mk v3.Mail.From.Null v3.Mail.From.Local v3.Mail.From.Domain) v3.Mail.To v3.Mail.Body v3.Mail.Quiet v3.Mail.Helo v3.Mail.At)) v3.Id v3.Ids v3.Origin v3.Number v3.Offset v3.Data))).bind fun v4 =>
    (appO 208 s10 [(T_Rec.mk v4.Kind ((T_Mail.mk (T_Path.mk v4.Mail.From.Null v4.Mail.From.Local v4.Mail.From.Domain) v4.Mail.To v4.Mail.Body v4.Mail.Quiet v4.Mail.Helo v4.Mail.At)) v4.Id v4.Ids v4.Origin v4.Number v4.Offset v4.Data)]).bind fun v5 =>
    (some (IntKind.i64.wrap (s11 + 1))).bind fun v6 =>
    some (.inl (v5, v6)))
    (some (.inr (.inl s10))))
def twS (l : List T_Rec) : (((List T_Rec) × Int)) → Option (((List T_Rec) × Int) ⊕ (((List T_Rec)) ⊕ (List T_Rec))) := (fun ((s10, s11) : (List T_Rec) × Int) =>
  cond ((decide (s11 < (l.length : Int))))
    ((ixO s11 l.length).bind fun v2 =>
    (getO l v2).bind fun v3 =>
    (wherrykeep_TwinRec ((T_Rec.mk v3.Kind ((T_Mail.mk (T_Path.mk v3.Mail.From.Null v3.Mail.From.Local v3.Mail.From.Domain) v3.Mail.To v3.Mail.Body v3.Mail.Quiet v3.Mail.Helo v3.Mail.At)) v3.Id v3.Ids v3.Origin v3.Number v3.Offset v3.Data))).bind fun v4 =>
    (appO 208 s10 [(T_Rec.mk v4.Kind ((T_Mail.mk (T_Path.mk v4.Mail.From.Null v4.Mail.From.Local v4.Mail.From.Domain) v4.Mail.To v4.Mail.Body v4.Mail.Quiet v4.Mail.Helo v4.Mail.At)) v4.Id v4.Ids v4.Origin v4.Number v4.Offset v4.Data)]).bind fun v5 =>
    (some (IntKind.i64.wrap (s11 + 1))).bind fun v6 =>
    some (.inl (v5, v6)))
    (some (.inr (.inl s10))))
def paS (a b : List T_Path) : ((Int)) → Option ((Int) ⊕ ((Unit) ⊕ Bool)) := (fun (s13 : Int) =>
    cond ((decide (s13 < (a.length : Int))))
      ((ixO s13 a.length).bind fun v3 =>
      (getO a v3).bind fun v4 =>
      (ixO s13 b.length).bind fun v5 =>
      (getO b v5).bind fun v6 =>
      (wherrykeep_Path v4 v6).bind fun v7 =>
      cond ((!v7))
        (some (.inr (.inr (false))))
        ((some (IntKind.i64.wrap (s13 + 1))).bind fun v9 =>
        some (.inl v9)))
      (some (.inr (.inl ()))))
def byS (a b : List Int) : ((Int)) → Option ((Int) ⊕ ((Unit) ⊕ Bool)) := (fun (s12 : Int) =>
    cond ((decide (s12 < (a.length : Int))))
      ((ixO s12 a.length).bind fun v3 =>
      (getO a v3).bind fun v4 =>
      (ixO s12 b.length).bind fun v5 =>
      (getO b v5).bind fun v6 =>
      cond ((v4 != v6))
        (some (.inr (.inr (false))))
        ((some (IntKind.i64.wrap (s12 + 1))).bind fun v8 =>
        some (.inl v8)))
      (some (.inr (.inl ()))))
def inS (a b : List Int) : ((Int)) → Option ((Int) ⊕ ((Unit) ⊕ Bool)) := (fun (s12 : Int) =>
    cond ((decide (s12 < (a.length : Int))))
      ((ixO s12 a.length).bind fun v3 =>
      (getO a v3).bind fun v4 =>
      (ixO s12 b.length).bind fun v5 =>
      (getO b v5).bind fun v6 =>
      cond ((v4 != v6))
        (some (.inr (.inr (false))))
        ((some (IntKind.i64.wrap (s12 + 1))).bind fun v8 =>
        some (.inl v8)))
      (some (.inr (.inl ()))))
def reS (a b : List T_Rec) : ((Int)) → Option ((Int) ⊕ ((Unit) ⊕ Bool)) := (fun (s13 : Int) =>
    cond ((decide (s13 < (a.length : Int))))
      ((ixO s13 a.length).bind fun v3 =>
      (getO a v3).bind fun v4 =>
      (ixO s13 b.length).bind fun v5 =>
      (getO b v5).bind fun v6 =>
      (wherrykeep_Rec ((T_Rec.mk v4.Kind ((T_Mail.mk (T_Path.mk v4.Mail.From.Null v4.Mail.From.Local v4.Mail.From.Domain) v4.Mail.To v4.Mail.Body v4.Mail.Quiet v4.Mail.Helo v4.Mail.At)) v4.Id v4.Ids v4.Origin v4.Number v4.Offset v4.Data)) ((T_Rec.mk v6.Kind ((T_Mail.mk (T_Path.mk v6.Mail.From.Null v6.Mail.From.Local v6.Mail.From.Domain) v6.Mail.To v6.Mail.Body v6.Mail.Quiet v6.Mail.Helo v6.Mail.At)) v6.Id v6.Ids v6.Origin v6.Number v6.Offset v6.Data))).bind fun v7 =>
      cond ((!v7))
        (some (.inr (.inr (false))))
        ((some (IntKind.i64.wrap (s13 + 1))).bind fun v9 =>
        some (.inl v9)))
      (some (.inr (.inl ()))))
theorem path_refl (p : T_Path) : wherrykeep_Path p p = some true := by
  simp [wherrykeep_Path, bindS]
theorem paths_refl (l : List T_Path) (hn : l.length < 4294967296) : wherrykeep_Paths l l = some true := by
  have hrun := loop_all (f := paS l l) (fun _ => true) l.length false (fuel := BIG) (by simp only [BIG]; omega) (fun i hi _ => by
    have hix : ixO (i : Int) l.length = some i := ixO_of hi
    have hg : getO l i = some l[i] := by simp [getO, hi]
    exact cnd_t (decide_eq_true (by omega)) (bnd hix (bnd hg (bnd hix (bnd hg (bnd (path_refl _) (cnd_f rfl (bnd (congrArg some (wrap_succ (by omega))) rfl))))))))
    (fun i hi h => by cases h) (cnd_f (decide_eq_false (by omega)) rfl)
  rw [if_pos (fun _ _ => rfl)] at hrun
  simp only [wherrykeep_Paths]
  exact cnd_f (by simp) (bndL hrun rfl)
theorem bytes_refl (l : List Int) (hn : l.length < 4294967296) : wherrykeep_Bytes l l = some true := by
  have hrun := loop_all (f := byS l l) (fun _ => true) l.length false (fuel := BIG) (by simp only [BIG]; omega) (fun i hi _ => by
    have hix : ixO (i : Int) l.length = some i := ixO_of hi
    have hg : getO l i = some l[i] := by simp [getO, hi]
    exact cnd_t (decide_eq_true (by omega)) (bnd hix (bnd hg (bnd hix (bnd hg (cnd_f (by simp) (bnd (congrArg some (wrap_succ (by omega))) rfl)))))))
    (fun i hi h => by cases h) (cnd_f (decide_eq_false (by omega)) rfl)
  rw [if_pos (fun _ _ => rfl)] at hrun
  simp only [wherrykeep_Bytes]
  exact cnd_f (by simp) (bndL hrun rfl)
theorem ints_refl (l : List Int) (hn : l.length < 4294967296) : wherrykeep_Ints l l = some true := by
  have hrun := loop_all (f := inS l l) (fun _ => true) l.length false (fuel := BIG) (by simp only [BIG]; omega) (fun i hi _ => by
    have hix : ixO (i : Int) l.length = some i := ixO_of hi
    have hg : getO l i = some l[i] := by simp [getO, hi]
    exact cnd_t (decide_eq_true (by omega)) (bnd hix (bnd hg (bnd hix (bnd hg (cnd_f (by simp) (bnd (congrArg some (wrap_succ (by omega))) rfl)))))))
    (fun i hi h => by cases h) (cnd_f (decide_eq_false (by omega)) rfl)
  rw [if_pos (fun _ _ => rfl)] at hrun
  simp only [wherrykeep_Ints]
  exact cnd_f (by simp) (bndL hrun rfl)
theorem mail_refl (m : T_Mail) (h : LM m) : wherrykeep_Mail m m = some true := by
  obtain ⟨h1, h2⟩ := h
  simp only [mW] at h2
  simp only [wherrykeep_Mail]
  refine bndL (s := true) ?_ rfl
  exact bnd (path_refl _) (cnd_t rfl (bnd (paths_refl _ (by omega)) (cnd_t rfl (bnd (bytes_refl _ (by omega)) (cnd_t rfl (bnd (x := true) (by simp) (cnd_t (by simp) (cnd_t (by simp) (by simp)))))))))
theorem rec_refl (r : T_Rec) (h : LR r) : wherrykeep_Rec r r = some true := by
  obtain ⟨h1, h2, h3⟩ := h
  simp only [wherrykeep_Rec]
  refine bndL (s := true) ?_ rfl
  exact cnd_t (by simp) (bnd (mail_refl _ h3) (cnd_t rfl (cnd_t (by simp) (bnd (ints_refl _ (by omega)) (cnd_t rfl (cnd_t (by simp) (cnd_t (by simp) (cnd_t (by simp) (bnd (bytes_refl _ (by omega)) rfl)))))))))
theorem recs_refl (l : List T_Rec) (hl : ∀ r ∈ l, LR r) (hn : l.length < 4294967296) : wherrykeep_Recs l l = some true := by
  have hrun := loop_all (f := reS l l) (fun _ => true) l.length false (fuel := BIG) (by simp only [BIG]; omega) (fun i hi _ => by
    have hix : ixO (i : Int) l.length = some i := ixO_of hi
    have hg : getO l i = some l[i] := by simp [getO, hi]
    exact cnd_t (decide_eq_true (by omega)) (bnd hix (bnd hg (bnd hix (bnd hg (bnd (rec_refl l[i] (hl _ (List.getElem_mem _))) (cnd_f rfl (bnd (congrArg some (wrap_succ (by omega))) rfl))))))))
    (fun i hi h => by cases h) (cnd_f (decide_eq_false (by omega)) rfl)
  rw [if_pos (fun _ _ => rfl)] at hrun
  simp only [wherrykeep_Recs]
  exact cnd_f (by simp) (bndL hrun rfl)
theorem take_succ {A : Type} (l : List A) (k : Nat) (hk : k < l.length) : l.take (k + 1) = l.take k ++ [l[k]] := by
  rw [List.take_add_one, List.getElem?_eq_getElem hk]; rfl
theorem each_eq (l : List T_Rec) (hl : ∀ r ∈ l, LR r) (hn : l.length < 1000000) : clone_Each_api_Rec_of_clone_Rec l = some l := by
  have hrun : loopF (eaS l) BIG ([], 0) = some (.inl l) := by
    refine loop_from (fun k => (l.take k, (k : Int))) l.length BIG rfl (by simp only [BIG]; omega) (fun k hk => ?_) ?_
    · have hix : ixO (k : Int) l.length = some k := ixO_of hk
      have hg : getO l k = some l[k] := by simp [getO, hk]
      have h2 : (l.take k).length ≤ 1000000 := by rw [List.length_take]; omega
      refine cnd_t (decide_eq_true (by omega)) (bnd hix (bnd hg (bnd (x := l[k]) (clone_rec (hl _ (List.getElem_mem _))) (bnd (app_of (by simp; omega) (by simp; omega)) (bnd (congrArg some (wrap_succ (by omega))) ?_)))))
      rw [take_succ l k hk]
    · refine cnd_f (decide_eq_false (by omega)) ?_
      simp only [List.take_length]
  simp only [clone_Each_api_Rec_of_clone_Rec]
  exact bndL hrun rfl
theorem twin_mail {m : T_Mail} (h : LM m) : wherrykeep_TwinMail m = some m := by
  obtain ⟨h1, h2⟩ := h
  simp only [mW] at h2
  simp only [wherrykeep_TwinMail, wherrykeep_TwinPaths, wherrykeep_Twin]
  rw [app_nil (by omega) (by omega), app_nil (by omega) (by omega)]; rfl
theorem twin_rec {r : T_Rec} (h : LR r) : wherrykeep_TwinRec r = some r := by
  obtain ⟨h1, h2, h3⟩ := h
  have hm := twin_mail h3
  simp only [wherrykeep_TwinRec, wherrykeep_TwinInts, wherrykeep_Twin]
  refine bnd hm ?_
  rw [app_nil (by omega) (by omega), app_nil (by omega) (by omega)]; rfl
theorem twins_eq (l : List T_Rec) (hl : ∀ r ∈ l, LR r) (hn : l.length < 1000000) : wherrykeep_TwinRecs l = some l := by
  have hrun : loopF (twS l) BIG ([], 0) = some (.inl l) := by
    refine loop_from (fun k => (l.take k, (k : Int))) l.length BIG rfl (by simp only [BIG]; omega) (fun k hk => ?_) ?_
    · have hix : ixO (k : Int) l.length = some k := ixO_of hk
      have hg : getO l k = some l[k] := by simp [getO, hk]
      have h2 : (l.take k).length ≤ 1000000 := by rw [List.length_take]; omega
      refine cnd_t (decide_eq_true (by omega)) (bnd hix (bnd hg (bnd (x := l[k]) (twin_rec (hl _ (List.getElem_mem _))) (bnd (app_of (by simp; omega) (by simp; omega)) (bnd (congrArg some (wrap_succ (by omega))) ?_)))))
      rw [take_succ l k hk]
    · refine cnd_f (decide_eq_false (by omega)) ?_
      simp only [List.take_length]
  simp only [wherrykeep_TwinRecs]
  exact bndL hrun rfl
end Go.Abs.Sh
