import Derived.Test.YtjdmcbkkacnmdaaGreatDoorSpoF
import Derived.Test.YtjdmcbkkacnmdaaGreatDoorSpoA
namespace Go.Abs.Sh
set_option linter.unusedVariables false
set_option linter.unusedSimpArgs false
/-! Records one after the other. -/
def runS : T_Spool → List T_Rec → T_Spool
  | s, [] => s
  | s, r :: l => runS (eff s r) l
def allOk : T_Spool → List T_Rec → Prop
  | _, [] => True
  | s, r :: l => okS s r = true ∧ allOk (eff s r) l
theorem runS_app : ∀ (s : T_Spool) (a b : List T_Rec), runS s (a ++ b) = runS (runS s a) b
  | s, [], b => rfl
  | s, r :: a, b => runS_app (eff s r) a b
theorem allOk_app : ∀ (s : T_Spool) (a b : List T_Rec), allOk s (a ++ b) ↔ allOk s a ∧ allOk (runS s a) b
  | s, [], b => by simp [allOk, runS]
  | s, r :: a, b => by
    simp only [List.cons_append, allOk, runS, allOk_app (eff s r) a b, and_assoc]
theorem foldS_ok : ∀ {s : T_Spool} {l : List T_Rec}, allOk s l → foldS s l = (runS s l, l.length)
  | s, [], _ => rfl
  | s, r :: l, h => by
    simp only [foldS, if_pos h.1, foldS_ok h.2]
    rfl
theorem foldS_split : ∀ (s : T_Spool) (l : List T_Rec), allOk s (l.take (foldS s l).2) ∧ (foldS s l).1 = runS s (l.take (foldS s l).2) ∧ ∀ h : (foldS s l).2 < l.length, okS (foldS s l).1 l[(foldS s l).2] = false
  | s, [] => ⟨trivial, rfl, fun h => absurd h (by simp [foldS])⟩
  | s, r :: l => by
    obtain ⟨h1, h2, h3⟩ := foldS_split (eff s r) l
    by_cases ho : okS s r = true
    · have e : foldS s (r :: l) = ((foldS (eff s r) l).1, (foldS (eff s r) l).2 + 1) := by simp only [foldS, if_pos ho]
      rw [e]
      exact ⟨⟨ho, h1⟩, h2, fun h => h3 (by simpa using h)⟩
    · have e : foldS s (r :: l) = (s, 0) := by simp only [foldS, if_neg ho]
      rw [e]
      exact ⟨trivial, rfl, fun h => by simpa using ho⟩
theorem rok_of {r : T_Rec} (h : T_Rec.wz r) (hl : LR r) : Rok r := by
  refine ⟨hl, fun x hx => ?_⟩
  obtain ⟨_, ⟨_, _, ⟨_, h4⟩, _⟩, _⟩ := h
  have := h4 x hx
  simp only [wfI, Lit.wf, IntKind.min, IntKind.max, IntKind.signed, IntKind.bits] at this
  have h2 : 0 ≤ x ∧ x ≤ 255 := by simpa using this
  omega
theorem heavy_rok (l : List T_Rec) (hw : wzL 208 T_Rec.wz l) : ∃ b, wherrylaw18_Heavy l = some b ∧ (b = false → l.length ≤ 60 ∧ ∀ r ∈ l, Rok r) := by
  have hl := hw.1
  simp only [reachBytes] at hl
  obtain ⟨b, h, hb⟩ := heavy18 l (fun r hr => re_of (hw.2 r hr)) (by omega)
  exact ⟨b, h, fun e => ⟨(hb e).1, fun r hr => rok_of (hw.2 r hr) ((hb e).2 r hr)⟩⟩
def ksS (a b : T_Spool) : ((Int)) → Option ((Int) ⊕ ((Unit) ⊕ Bool)) := (fun (s28 : Int) =>
        cond ((decide (s28 < (a.Items.length : Int))))
          ((ixO s28 a.Items.length).bind fun v10 =>
          (getO a.Items v10).bind fun v11 =>
          (ixO s28 b.Items.length).bind fun v12 =>
          (getO b.Items v12).bind fun v13 =>
          bindS (S := Bool) (A := ((Int) ⊕ ((Unit) ⊕ Bool)))
            (cond ((v11.Id != v13.Id))
              (some (.inl true))
              ((wherrykeep_Mail ((T_Mail.mk (T_Path.mk v11.Mail.From.Null v11.Mail.From.Local v11.Mail.From.Domain) v11.Mail.To v11.Mail.Body v11.Mail.Quiet v11.Mail.Helo v11.Mail.At)) ((T_Mail.mk (T_Path.mk v13.Mail.From.Null v13.Mail.From.Local v13.Mail.From.Domain) v13.Mail.To v13.Mail.Body v13.Mail.Quiet v13.Mail.Helo v13.Mail.At))).bind fun v14 =>
              cond ((!v14))
                (some (.inl true))
                (cond ((v11.State != v13.State))
                  (some (.inl true))
                  (some (.inl (v11.Pack != v13.Pack))))))
            (fun (s42 : Bool) =>
              cond (s42)
                (some (.inr (.inr (false))))
                ((some (IntKind.i64.wrap (s28 + 1))).bind fun v20 =>
                some (.inl v20))) some)
          (some (.inr (.inl ()))))
theorem spool_refl {n : Nat} {s : T_Spool} (hs : Inv n s) : wherrykeep_Spool s s = some true := by
  have hl := hs.len; have hn := hs.hn; have hp := hs.part; have hse := hs.sent; have hd := hs.done
  unfold wherrykeep_Spool
  have hne : ∀ x : Int, (x != x) = false := fun x => by simp
  refine bndL (s := false) (cnd_f (hne _) (cnd_f (hne _) (bnd (ints_refl _ (by omega)) (cnd_f rfl (bnd (bytes_refl _ (by omega)) (cnd_f rfl (cnd_f (hne _) (bnd (ints_refl _ (by omega)) rfl)))))))) (cnd_f rfl ?_)
  refine bndL (s := ()) ?_ rfl
  have h := loop_all (R := Bool) (f := ksS s s) (fun _ => true) s.Items.length false (fuel := BIG) (by simp only [BIG]; omega) (fun i hi _ => ?_) (fun i hi h => by cases h) (cnd_f (decide_eq_false (by omega)) rfl)
  · rw [if_pos (fun _ _ => rfl)] at h; exact h
  · have hg : getO s.Items i = some s.Items[i] := by simp [getO, hi]
    exact cnd_t (decide_eq_true (by omega)) (bnd (ixO_of hi) (bnd hg (bnd (ixO_of hi) (bnd hg (bndL (s := false) (cnd_f (hne _) (bnd (mail_refl _ (hs.lm _ (List.getElem_mem hi))) (cnd_f rfl (cnd_f (hne _) (inl_of (hne _)))))) (cnd_f rfl (bnd (congrArg some (wrap_succ (n := i) (by omega))) rfl)))))))
end Go.Abs.Sh
