import Derived.Test.YtjdmcbkkacnmdaaDoorSpoF
import Derived.Test.YtjdmcbkkacnmdaaDoorSpoA
namespace Go.Abs.Sh
set_option linter.unusedVariables false
set_option linter.unusedSimpArgs false
/-! Records one after the other. -/
def runS : T_Spool → List T_Rec → T_Spool
  | s, [] => s
  | s, r :: l => runS (eff s r) l
def allOk : T_Spool → List T_Rec → Prop
  | _, [] => True
  | s, r :: l => okS s r = true ∧ allOk (eff s r) l
theorem runS_app : ∀ (s : T_Spool) (a b : List T_Rec), runS s (a ++ b) = runS (runS s a) b
  | s, [], b => rfl
  | s, r :: a, b => runS_app (eff s r) a b
theorem allOk_app : ∀ (s : T_Spool) (a b : List T_Rec), allOk s (a ++ b) ↔ allOk s a ∧ allOk (runS s a) b
  | s, [], b => by simp [allOk, runS]
  | s, r :: a, b => by
    simp only [List.cons_append, allOk, runS, allOk_app (eff s r) a b, and_assoc]
theorem allOk_take {s : T_Spool} {l : List T_Rec} (h : allOk s l) (k : Nat) : allOk s (l.take k) := by
  have : allOk s (l.take k ++ l.drop k) := by rw [List.take_append_drop]; exact h
  exact ((allOk_app s _ _).1 this).1
theorem run_succ (s : T_Spool) (l : List T_Rec) (k : Nat) (h : k < l.length) : runS s (l.take (k + 1)) = eff (runS s (l.take k)) l[k] := by
  rw [take_succ l k h, runS_app]; rfl
theorem allOk_get {s : T_Spool} {l : List T_Rec} (h : allOk s l) {k : Nat} (hk : k < l.length) : okS (runS s (l.take k)) l[k] = true := by
  have h1 := allOk_take h (k + 1)
  rw [take_succ l k hk, allOk_app] at h1
  exact h1.2.1
theorem foldS_ok : ∀ {s : T_Spool} {l : List T_Rec}, allOk s l → foldS s l = (runS s l, l.length)
  | s, [], _ => rfl
  | s, r :: l, h => by
    simp only [foldS, if_pos h.1, foldS_ok h.2]
    rfl
theorem foldS_split : ∀ (s : T_Spool) (l : List T_Rec), allOk s (l.take (foldS s l).2) ∧ (foldS s l).1 = runS s (l.take (foldS s l).2) ∧ ∀ h : (foldS s l).2 < l.length, okS (foldS s l).1 l[(foldS s l).2] = false
  | s, [] => ⟨trivial, rfl, fun h => absurd h (by simp [foldS])⟩
  | s, r :: l => by
    obtain ⟨h1, h2, h3⟩ := foldS_split (eff s r) l
    by_cases ho : okS s r = true
    · have e : foldS s (r :: l) = ((foldS (eff s r) l).1, (foldS (eff s r) l).2 + 1) := by simp only [foldS, if_pos ho]
      rw [e]
      exact ⟨⟨ho, h1⟩, h2, fun h => h3 (by simpa using h)⟩
    · have e : foldS s (r :: l) = (s, 0) := by simp only [foldS, if_neg ho]
      rw [e]
      exact ⟨trivial, rfl, fun h => by simpa using ho⟩
theorem inv_run : ∀ (l : List T_Rec) (s : T_Spool) (i : Nat), i + l.length < 1000000 → (∀ r ∈ l, Rok r) → Inv i s → allOk s l → Inv (i + l.length) (runS s l)
  | [], s, i, _, _, hs, _ => hs
  | r :: l, s, i, hl, hr, hs, ha => by
    simp only [List.length_cons] at hl
    have := inv_run l (eff s r) (i + 1) (by omega) (fun x hx => hr x (List.mem_cons_of_mem _ hx)) (inv_eff (by omega) hs (hr r List.mem_cons_self) ha.1) ha.2
    simpa [runS, Nat.add_assoc, Nat.add_comm 1] using this
theorem rok_of {r : T_Rec} (h : T_Rec.wz r) (hl : LR r) : Rok r := by
  refine ⟨hl, fun x hx => ?_⟩
  obtain ⟨_, ⟨_, _, ⟨_, h4⟩, _⟩, _⟩ := h
  have := h4 x hx
  simp only [wfI, Lit.wf, IntKind.min, IntKind.max, IntKind.signed, IntKind.bits] at this
  have h2 : 0 ≤ x ∧ x ≤ 255 := by simpa using this
  omega
theorem heavy_rok (l : List T_Rec) (hw : wzL 208 T_Rec.wz l) : ∃ b, wherrylaw18_Heavy l = some b ∧ (b = false → l.length ≤ 60 ∧ ∀ r ∈ l, Rok r) := by
  have hl := hw.1
  simp only [reachBytes] at hl
  obtain ⟨b, h, hb⟩ := heavy18 l (fun r hr => re_of (hw.2 r hr)) (by omega)
  exact ⟨b, h, fun e => ⟨(hb e).1, fun r hr => rok_of (hw.2 r hr) ((hb e).2 r hr)⟩⟩
def ksS (a b : T_Spool) : ((Int)) → Option ((Int) ⊕ ((Unit) ⊕ Bool)) := (fun (s28 : Int) =>
        cond ((decide (s28 < (a.Items.length : Int))))
          ((ixO s28 a.Items.length).bind fun v10 =>
          (getO a.Items v10).bind fun v11 =>
          (ixO s28 b.Items.length).bind fun v12 =>
          (getO b.Items v12).bind fun v13 =>
          bindS (S := Bool) (A := ((Int) ⊕ ((Unit) ⊕ Bool)))
            (cond ((v11.Id != v13.Id))
              (some (.inl true))
              ((wherrykeep_Mail ((T_Mail.mk (T_Path.mk v11.Mail.From.Null v11.Mail.From.Local v11.Mail.From.Domain) v11.Mail.To v11.Mail.Body v11.Mail.Quiet v11.Mail.Helo v11.Mail.At)) ((T_Mail.mk (T_Path.mk v13.Mail.From.Null v13.Mail.From.Local v13.Mail.From.Domain) v13.Mail.To v13.Mail.Body v13.Mail.Quiet v13.Mail.Helo v13.Mail.At))).bind fun v14 =>
              cond ((!v14))
                (some (.inl true))
                (cond ((v11.State != v13.State))
                  (some (.inl true))
                  (some (.inl (v11.Pack != v13.Pack))))))
            (fun (s42 : Bool) =>
              cond (s42)
                (some (.inr (.inr (false))))
                ((some (IntKind.i64.wrap (s28 + 1))).bind fun v20 =>
                some (.inl v20))) some)
          (some (.inr (.inl ()))))
theorem spool_refl {n : Nat} {s : T_Spool} (hs : Inv n s) : wherrykeep_Spool s s = some true := by
  have hl := hs.len; have hn := hs.hn; have hp := hs.part; have hse := hs.sent; have hd := hs.done
  unfold wherrykeep_Spool
  have hne : ∀ x : Int, (x != x) = false := fun x => by simp
  refine bndL (s := false) (cnd_f (hne _) (cnd_f (hne _) (bnd (ints_refl _ (by omega)) (cnd_f rfl (bnd (bytes_refl _ (by omega)) (cnd_f rfl (cnd_f (hne _) (bnd (ints_refl _ (by omega)) rfl)))))))) (cnd_f rfl ?_)
  refine bndL (s := ()) ?_ rfl
  have h := loop_all (R := Bool) (f := ksS s s) (fun _ => true) s.Items.length false (fuel := BIG) (by simp only [BIG]; omega) (fun i hi _ => ?_) (fun i hi h => by cases h) (cnd_f (decide_eq_false (by omega)) rfl)
  · rw [if_pos (fun _ _ => rfl)] at h; exact h
  · have hg : getO s.Items i = some s.Items[i] := by simp [getO, hi]
    exact cnd_t (decide_eq_true (by omega)) (bnd (ixO_of hi) (bnd hg (bnd (ixO_of hi) (bnd hg (bndL (s := false) (cnd_f (hne _) (bnd (mail_refl _ (hs.lm _ (List.getElem_mem hi))) (cnd_f rfl (cnd_f (hne _) (inl_of (hne _)))))) (cnd_f rfl (bnd (congrArg some (wrap_succ (n := i) (by omega))) rfl)))))))
def flS (l : List T_Rec) (v3 : T_Spool × Int) : (((List T_Item) × Int × (List Int) × (List Int) × Int × (List Int) × Int)) → Option (((List T_Item) × Int × (List Int) × (List Int) × Int × (List Int) × Int) ⊕ (((List T_Item) × Int × (List Int) × (List Int) × Int × (List Int)) ⊕ Bool)) := (fun ((s32, s33, s34, s35, s36, s37, s38) : (List T_Item) × Int × (List Int) × (List Int) × Int × (List Int) × Int) =>
            cond ((decide (s38 < v3.2)))
              ((ixO s38 l.length).bind fun v18 =>
              (getO l v18).bind fun v19 =>
              (spool_Add (T_Spool.mk s32 s33 s34 s35 s36 s37) ((T_Rec.mk v19.Kind ((T_Mail.mk (T_Path.mk v19.Mail.From.Null v19.Mail.From.Local v19.Mail.From.Domain) v19.Mail.To v19.Mail.Body v19.Mail.Quiet v19.Mail.Helo v19.Mail.At)) v19.Id v19.Ids v19.Origin v19.Number v19.Offset v19.Data))).bind fun v20 =>
              cond ((v20.2 != 0))
                (some (.inr (.inr (false))))
                ((some (IntKind.i64.wrap (s38 + 1))).bind fun v22 =>
                some (.inl (v20.1.Items, v20.1.Packs, v20.1.Sent, v20.1.Part, v20.1.Of, v20.1.Done, v22))))
              (some (.inr (.inl (s32, s33, s34, s35, s36, s37)))))
theorem spoolFolds_true (l : List T_Rec) (at_ : Int) (hw : wzL 208 T_Rec.wz l) : wherrylaw19_SpoolFolds l at_ = some true := by
  obtain ⟨b, hh, hb⟩ := heavy_rok l hw
  unfold wherrylaw19_SpoolFolds
  refine bnd hh ?_
  cases b
  case true => exact cnd_t rfl rfl
  obtain ⟨hl, hr⟩ := hb rfl
  refine cnd_f rfl (bnd (fold_eq l hr (by omega)) ?_)
  obtain ⟨n, hn⟩ : ∃ n, n = (foldS newSp l).2 := ⟨_, rfl⟩
  obtain ⟨ha, hf, hno⟩ := foldS_split newSp l
  have hle := foldS_le newSp l
  have hin := foldS_inv l newSp 0 (by omega) hr inv_new
  obtain ⟨q, hq, hqr⟩ := spo_rem at_ (n + 1) (by omega) (by omega)
  have eq1 : IntKind.i64.wrap (((foldS newSp l).2 : Int) + 1) = ((n + 1 : Nat) : Int) := by rw [← hn]; exact wrap_succ (by omega)
  refine bndL (s := false) (cnd_f (decide_eq_false (by show ¬ (((foldS newSp l).2 : Nat) : Int) < 0; omega)) (inl_of (decide_eq_false (by show ¬ (l.length : Int) < (((foldS newSp l).2 : Nat) : Int); omega)))) (cnd_f rfl ?_)
  refine bnd rfl (bnd (congrArg some eq1) (bnd rfl (bnd hqr (bnd (congrArg some (wrap_nat q (by omega))) ?_))))
  have hs0 := sli_nat l (a := 0) (b := q) (by omega) (by omega)
  rw [List.drop_zero, Nat.sub_zero] at hs0
  refine bnd hs0 ?_
  rw [← hn] at ha hf hno hle hin
  have hr' : ∀ k, ∀ r ∈ l.take k, Rok r := fun k r h => hr r (List.mem_of_mem_take h)
  have hak : ∀ k, k ≤ n → allOk newSp (l.take k) := fun k hk => by
    have := allOk_take ha k
    rwa [List.take_take, Nat.min_eq_left hk] at this
  have hF : spool_Fold (l.take q) = some (runS newSp (l.take q), (q : Int)) := by
    rw [fold_eq _ (hr' q) (by rw [List.length_take]; omega), foldS_ok (hak q (by omega)), List.length_take, Nat.min_eq_left (by omega)]
  refine bnd hF (cnd_f (by simp) ?_)
  have hinv : ∀ k, k ≤ n → Inv k (runS newSp (l.take k)) := fun k hk => by
    have := inv_run (l.take k) newSp 0 (by rw [List.length_take]; omega) (hr' k) inv_new (hak k hk)
    rwa [List.length_take, Nat.min_eq_left (by omega), Nat.zero_add] at this
  have hok : ∀ k, k < n → ∀ h : k < l.length, okS (runS newSp (l.take k)) l[k] = true := fun k hk h => by
    have h2 := allOk_get ha (k := k) (by rw [List.length_take]; omega)
    rw [List.take_take, Nat.min_eq_left (by omega), List.getElem_take] at h2
    exact h2
  refine bndL (s := ((runS newSp (l.take n)).Items, (runS newSp (l.take n)).Packs, (runS newSp (l.take n)).Sent, (runS newSp (l.take n)).Part, (runS newSp (l.take n)).Of, (runS newSp (l.take n)).Done)) ?_ ?_
  · refine loop_from (f := flS l ((foldS newSp l).1, ((foldS newSp l).2 : Int))) (fun k => ((runS newSp (l.take (q + k))).Items, (runS newSp (l.take (q + k))).Packs, (runS newSp (l.take (q + k))).Sent, (runS newSp (l.take (q + k))).Part, (runS newSp (l.take (q + k))).Of, (runS newSp (l.take (q + k))).Done, ((q + k : Nat) : Int))) (n - q) BIG rfl (by simp only [BIG]; omega) (fun k hk => ?_) ?_
    · have hi : q + k < l.length := by omega
      have hadd := add_eq (hinv (q + k) (by omega)) (hr _ (List.getElem_mem hi))
      rw [if_pos (hok (q + k) (by omega) hi), ← run_succ newSp l (q + k) hi] at hadd
      exact cnd_t (decide_eq_true (by show (((q + k : Nat)) : Int) < (((foldS newSp l).2 : Nat) : Int); omega)) (bnd (ixO_of hi) (bnd (by simp [getO, hi] : getO l (q + k) = some l[q + k]) (bnd hadd (cnd_f rfl (bnd (congrArg some (wrap_succ (n := q + k) (by omega))) rfl)))))
    · have e : q + (n - q) = n := by omega
      rw [e]
      exact cnd_f (decide_eq_false (by show ¬ ((n : Nat) : Int) < (((foldS newSp l).2 : Nat) : Int); omega)) rfl
  · have hfin : bindS (S := Bool) (A := Bool) ((wherrykeep_Spool (runS newSp (l.take n)) (foldS newSp l).1).bind fun v65 => cond v65 ((wherrylaw19_wakes).bind fun v66 => some (.inl v66)) (some (.inl false))) (fun s67 => some s67) some = some true := by
      rw [hf]
      exact bndL (bnd (spool_refl (hinv n (by omega))) (cnd_t rfl (bnd wakes19 rfl))) rfl
    by_cases hlt : n < l.length
    · have hadd := add_eq (hinv n (by omega)) (hr _ (List.getElem_mem hlt))
      have hx := hno hlt
      rw [hf] at hx
      rw [if_neg (by rw [hx]; simp)] at hadd
      exact bndL (s := ()) (cnd_t (decide_eq_true (by show (((foldS newSp l).2 : Nat) : Int) < (l.length : Int); omega)) (bnd (x := n) (by rw [← hn]; exact ixO_of hlt) (bnd (by simp [getO, hlt] : getO l n = some l[n]) (bnd hadd (cnd_f rfl rfl))))) hfin
    · exact bndL (s := ()) (cnd_f (decide_eq_false (by show ¬ (((foldS newSp l).2 : Nat) : Int) < (l.length : Int); omega)) rfl) hfin
end Go.Abs.Sh
