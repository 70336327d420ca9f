import Derived.Test.YtjdmcbkkacnmdaaGreatDoorSpoK
namespace Go.Abs.Sh
set_option linter.unusedVariables false
set_option linter.unusedSimpArgs false
def twS (l : List T_Rec) : (((List T_Rec) × Int)) → Option (((List T_Rec) × Int) ⊕ (((List T_Rec)) ⊕ (List T_Rec))) := (fun ((s10, s11) : (List T_Rec) × Int) =>
  cond ((decide (s11 < (l.length : Int))))
    ((ixO s11 l.length).bind fun v2 =>
    (getO l v2).bind fun v3 =>
    (wherrykeep_TwinRec ((T_Rec.mk v3.Kind ((T_Mail.mk (T_Path.mk v3.Mail.From.Null v3.Mail.From.Local v3.Mail.From.Domain) v3.Mail.To v3.Mail.Body v3.Mail.Quiet v3.Mail.Helo v3.Mail.At)) v3.Id v3.Ids v3.Origin v3.Number v3.Offset v3.Data))).bind fun v4 =>
    (appO 208 s10 [(T_Rec.mk v4.Kind ((T_Mail.mk (T_Path.mk v4.Mail.From.Null v4.Mail.From.Local v4.Mail.From.Domain) v4.Mail.To v4.Mail.Body v4.Mail.Quiet v4.Mail.Helo v4.Mail.At)) v4.Id v4.Ids v4.Origin v4.Number v4.Offset v4.Data)]).bind fun v5 =>
    (some (IntKind.i64.wrap (s11 + 1))).bind fun v6 =>
    some (.inl (v5, v6)))
    (some (.inr (.inl s10))))
theorem twin_mail {m : T_Mail} (h : LM m) : wherrykeep_TwinMail m = some m := by
  obtain ⟨h1, h2⟩ := h
  simp only [mW] at h2
  simp only [wherrykeep_TwinMail, wherrykeep_TwinPaths, wherrykeep_Twin]
  rw [app_nil (by omega) (by omega), app_nil (by omega) (by omega)]; rfl
theorem twin_rec {r : T_Rec} (h : LR r) : wherrykeep_TwinRec r = some r := by
  obtain ⟨h1, h2, h3⟩ := h
  have hm := twin_mail h3
  simp only [wherrykeep_TwinRec, wherrykeep_TwinInts, wherrykeep_Twin]
  refine bnd hm ?_
  rw [app_nil (by omega) (by omega), app_nil (by omega) (by omega)]; rfl
theorem twins_eq (l : List T_Rec) (hl : ∀ r ∈ l, LR r) (hn : l.length < 1000000) : wherrykeep_TwinRecs l = some l := by
  have hrun : loopF (twS l) BIG ([], 0) = some (.inl l) := by
    refine loop_from (fun k => (l.take k, (k : Int))) l.length BIG rfl (by simp only [BIG]; omega) (fun k hk => ?_) ?_
    · have hix : ixO (k : Int) l.length = some k := ixO_of hk
      have hg : getO l k = some l[k] := by simp [getO, hk]
      have h2 : (l.take k).length ≤ 1000000 := by rw [List.length_take]; omega
      refine cnd_t (decide_eq_true (by omega)) (bnd hix (bnd hg (bnd (x := l[k]) (twin_rec (hl _ (List.getElem_mem _))) (bnd (app_of (by simp; omega) (by simp; omega)) (bnd (congrArg some (wrap_succ (by omega))) ?_)))))
      rw [take_succ l k hk]
    · refine cnd_f (decide_eq_false (by omega)) ?_
      simp only [List.take_length]
  simp only [wherrykeep_TwinRecs]
  exact bndL hrun rfl
end Go.Abs.Sh
