import Derived.Test.YtjdmcbkkacnmdaaDoorSpoG
namespace Go.Abs.Sh
set_option linter.unusedVariables false
set_option linter.unusedSimpArgs false
def Stt (x : T_Item) : Prop := (x.State = 1 → x.Pack = 0) ∧ (x.Pack ≠ 0 → x.State = 2 ∨ x.State = 3)
def way (a b : Int) : Prop := a = b ∨ (a = 1 ∧ (b = 2 ∨ b = 4)) ∨ (a = 2 ∧ b = 3)
theorem way_eq {a b : Int} (h : way a b) : wherrylaw19_way a b = some true := by
  unfold wherrylaw19_way
  rcases h with h | ⟨rfl, h | h⟩ | ⟨rfl, rfl⟩
  · exact bndL (cnd_t (beq_iff_eq.2 h) rfl) rfl
  · subst h; rfl
  · subst h; rfl
  · rfl
structure Goes (a b : T_Item) : Prop where
  id : a.Id = b.Id
  mail : a.Mail = b.Mail
  way : way a.State b.State
  pack : a.Pack ≠ 0 → a.Pack = b.Pack
theorem goes_refl (a : T_Item) : Goes a a := ⟨rfl, rfl, .inl rfl, fun _ => rfl⟩
structure Next (s t : T_Spool) : Prop where
  len : s.Items.length ≤ t.Items.length
  len1 : t.Items.length ≤ s.Items.length + 1
  packs : s.Packs ≤ t.Packs
  done : s.Done.length ≤ t.Done.length
  sent : s.Sent.length ≤ t.Sent.length
  goes : ∀ k (h : k < s.Items.length) (h' : k < t.Items.length), Goes s.Items[k] t.Items[k]
  new : ∀ h : s.Items.length < t.Items.length, t.Items[s.Items.length].State = 1 ∨ t.Items[s.Items.length].State = 3
  stt : ∀ x ∈ t.Items, Stt x
theorem ids_wt {s : T_Spool} {ids : List Int} (h : idsB s ids = true) : ∀ n ∈ ids, wt s n = true := by
  intro n hn
  obtain ⟨i, hi, rfl⟩ := List.getElem_of_mem hn
  simp only [idsB, Bool.and_eq_true, decide_eq_true_eq] at h
  have h2 := h.2 i hi
  simp only [idB, Bool.and_eq_true] at h2
  have e : ids.getD i 0 = ids[i] := by simp [List.getD, hi]
  rw [e] at h2
  exact h2.2
theorem wt_item {s : T_Spool} (hid : Ids s) {k : Nat} (hk : k < s.Items.length) (h : wt s s.Items[k].Id = true) : s.Items[k].State = 1 := by
  obtain ⟨j, hj, he, hs⟩ := wt_at h
  rw [hid k hk] at he
  obtain rfl : j = k := by omega
  exact hs
theorem next_map {s : T_Spool} (f : T_Item → T_Item) (hs : ∀ x ∈ s.Items, Stt x) (hg : ∀ k (h : k < s.Items.length), Goes s.Items[k] (f s.Items[k]) ∧ Stt (f s.Items[k])) {p : Int} {a b d : List Int} {o : Int} (hp : s.Packs ≤ p) (ha : s.Sent.length ≤ a.length) (hd : s.Done.length ≤ d.length) : Next s ⟨s.Items.map f, p, a, b, o, d⟩ := by
  refine ⟨by simp, by simp, hp, hd, ha, fun k h h' => ?_, fun h => absurd h (by simp), fun x hx => ?_⟩
  · show Goes s.Items[k] ((s.Items.map f)[k]'h')
    rw [List.getElem_map]; exact (hg k h).1
  · obtain ⟨y, hy, rfl⟩ := List.mem_map.1 hx
    obtain ⟨k, hk, rfl⟩ := List.getElem_of_mem hy
    exact (hg k hk).2
theorem next_same {s : T_Spool} (hs : ∀ x ∈ s.Items, Stt x) {p : Int} {a b d : List Int} {o : Int} (hp : s.Packs ≤ p) (ha : s.Sent.length ≤ a.length) (hd : s.Done.length ≤ d.length) : Next s ⟨s.Items, p, a, b, o, d⟩ :=
  ⟨Nat.le_refl _, by simp, hp, hd, ha, fun k h h' => goes_refl _, fun h => absurd h (by simp), hs⟩
theorem next_eff {n : Nat} {s : T_Spool} {r : T_Rec} (hi : Inv n s) (hs : ∀ x ∈ s.Items, Stt x) (ho : okS s r = true) : Next s (eff s r) := by
  have hpk := hi.packs
  rcases okS_ok ho with ⟨k, a, b, c⟩ | ⟨k, a, b⟩ | ⟨k, a, b, c⟩ | ⟨k, a⟩ | ⟨k, a, b⟩ | ⟨k, a⟩
  · rw [eff1 k]
    refine ⟨by simp, by simp, Int.le_refl _, Nat.le_refl _, Nat.le_refl _, fun k h h' => ?_, fun h => ?_, fun x hx => ?_⟩
    · show Goes s.Items[k] ((s.Items ++ [_])[k]'h')
      rw [List.getElem_append_left h]; exact goes_refl _
    · show ((s.Items ++ [_])[s.Items.length]'h).State = 1 ∨ ((s.Items ++ [_])[s.Items.length]'h).State = 3
      rw [List.getElem_append_right (by omega)]
      simp only [Nat.sub_self, List.getElem_cons_zero]
      split
      · exact .inr rfl
      · exact .inl rfl
    · rcases List.mem_append.1 hx with h | h
      · exact hs x h
      · rw [List.mem_singleton.1 h]
        exact ⟨fun _ => rfl, fun h => absurd rfl h⟩
  · rw [eff2 k]
    refine next_map _ hs (fun j hj => ?_) (by omega) (Nat.le_refl _) (Nat.le_refl _)
    by_cases hm : s.Items[j].Id ∈ r.Ids
    · have h1 := wt_item hi.ids hj (ids_wt b _ hm)
      have h0 := (hs _ (List.getElem_mem hj)).1 h1
      simp only [f2, if_pos hm]
      exact ⟨⟨rfl, rfl, .inr (.inl ⟨h1, .inl rfl⟩), fun h => absurd h0 h⟩, ⟨fun h => absurd h (by show (2 : Int) ≠ 1; omega), fun _ => .inl rfl⟩⟩
    · simp only [f2, if_neg hm]
      exact ⟨goes_refl _, hs _ (List.getElem_mem hj)⟩
  · rw [eff3 k]
    refine next_map _ hs (fun j hj => ?_) (Int.le_refl _) (by simp) (Nat.le_refl _)
    by_cases hm : s.Items[j].Pack = r.Number
    · have h1 := (hs _ (List.getElem_mem hj)).2 (by omega)
      simp only [f3, if_pos hm]
      exact ⟨⟨rfl, rfl, h1.elim (fun h => .inr (.inr ⟨h, rfl⟩)) (fun h => .inl h), fun h => rfl⟩, ⟨fun h => absurd h (by show (3 : Int) ≠ 1; omega), fun _ => .inr rfl⟩⟩
    · simp only [f3, if_neg hm]
      exact ⟨goes_refl _, hs _ (List.getElem_mem hj)⟩
  · rw [eff4 k]
    refine next_map _ hs (fun j hj => ?_) (Int.le_refl _) (Nat.le_refl _) (Nat.le_refl _)
    by_cases hm : s.Items[j].Id = r.Id
    · have h1 := wt_item hi.ids hj (by rw [hm]; exact a)
      have h0 := (hs _ (List.getElem_mem hj)).1 h1
      simp only [f4, if_pos hm]
      exact ⟨⟨rfl, rfl, .inr (.inl ⟨h1, .inr rfl⟩), fun h => rfl⟩, ⟨fun h => absurd h (by show (4 : Int) ≠ 1; omega), fun h => absurd h0 h⟩⟩
    · simp only [f4, if_neg hm]
      exact ⟨goes_refl _, hs _ (List.getElem_mem hj)⟩
  · rw [eff5 k]
    exact next_same hs (Int.le_refl _) (Nat.le_refl _) (Nat.le_refl _)
  · rw [eff6 k]
    exact next_same hs (Int.le_refl _) (Nat.le_refl _) (by rw [insS_len]; omega)
theorem inv_mono {n : Nat} {s : T_Spool} (h : Inv n s) (hn : n + 1 < 1000000) : Inv (n + 1) s :=
  ⟨hn, Nat.le_succ_of_le h.len, h.ids, h.lm, ⟨h.packs.1, by have := h.packs.2; omega⟩, Nat.le_succ_of_le h.sent, h.part, Nat.le_succ_of_le h.done, h.srt⟩
def sst (l : List T_Rec) : (((List T_Item) × Int × (List Int) × (List Int) × Int × (List Int) × Int)) → Option (((List T_Item) × Int × (List Int) × (List Int) × Int × (List Int) × Int) ⊕ (((List T_Item) × Int × (List Int) × (List Int) × Int × (List Int)) ⊕ Bool)) := (fun ((s278, s279, s280, s281, s282, s283, s284) : (List T_Item) × Int × (List Int) × (List Int) × Int × (List Int) × Int) =>
    cond ((decide (s284 < (l.length : Int))))
      (bindS (S := (List T_Item) × Int × (List Int) × (List Int) × Int × (List Int)) (A := (((List T_Item) × Int × (List Int) × (List Int) × Int × (List Int) × Int) ⊕ (((List T_Item) × Int × (List Int) × (List Int) × Int × (List Int)) ⊕ Bool)))
        ((ixO s284 l.length).bind fun v5 =>
        (getO l v5).bind fun v6 =>
        (spool_Add (T_Spool.mk s278 s279 s280 s281 s282 s283) ((T_Rec.mk v6.Kind ((T_Mail.mk (T_Path.mk v6.Mail.From.Null v6.Mail.From.Local v6.Mail.From.Domain) v6.Mail.To v6.Mail.Body v6.Mail.Quiet v6.Mail.Helo v6.Mail.At)) v6.Id v6.Ids v6.Origin v6.Number v6.Offset v6.Data))).bind fun v7 =>
        cond ((v7.2 != 0))
          (bindS (S := Bool) (A := (((List T_Item) × Int × (List Int) × (List Int) × Int × (List Int)) ⊕ (((List T_Item) × Int × (List Int) × (List Int) × Int × (List Int) × Int) ⊕ (((List T_Item) × Int × (List Int) × (List Int) × Int × (List Int)) ⊕ Bool))))
            (cond ((v7.2 != 5))
              (some (.inl true))
              (some (.inl (((v7.1.Items.length : Int) != 0)))))
            (fun (s492 : Bool) =>
              cond (s492)
                (some (.inr (.inr (.inr (false)))))
                (some (.inl (s278, s279, s280, s281, s282, s283)))) some)
          (bindS (S := Bool) (A := (((List T_Item) × Int × (List Int) × (List Int) × Int × (List Int)) ⊕ (((List T_Item) × Int × (List Int) × (List Int) × Int × (List Int) × Int) ⊕ (((List T_Item) × Int × (List Int) × (List Int) × Int × (List Int)) ⊕ Bool))))
            (cond ((decide ((v7.1.Items.length : Int) < (s278.length : Int))))
              (some (.inl true))
              ((some (IntKind.i64.wrap ((s278.length : Int) + 1))).bind fun v14 =>
              cond ((decide (v14 < (v7.1.Items.length : Int))))
                (some (.inl true))
                (cond ((decide (v7.1.Packs < s279)))
                  (some (.inl true))
                  (cond ((decide ((v7.1.Done.length : Int) < (s283.length : Int))))
                    (some (.inl true))
                    (some (.inl ((decide ((v7.1.Sent.length : Int) < (s280.length : Int))))))))))
            (fun (s497 : Bool) =>
              cond (s497)
                (some (.inr (.inr (.inr (false)))))
                (bindS (S := (Unit)) (A := (((List T_Item) × Int × (List Int) × (List Int) × Int × (List Int)) ⊕ (((List T_Item) × Int × (List Int) × (List Int) × Int × (List Int) × Int) ⊕ (((List T_Item) × Int × (List Int) × (List Int) × Int × (List Int)) ⊕ Bool))))
                  (loopF (S := (Int)) (O := (Unit) ⊕ (((List T_Item) × Int × (List Int) × (List Int) × Int × (List Int)) ⊕ (((List T_Item) × Int × (List Int) × (List Int) × Int × (List Int) × Int) ⊕ (((List T_Item) × Int × (List Int) × (List Int) × Int × (List Int)) ⊕ Bool)))) (fun (s515 : Int) =>
                    cond ((decide (s515 < (s278.length : Int))))
                      ((ixO s515 s278.length).bind fun v21 =>
                      (getO s278 v21).bind fun v22 =>
                      (ixO s515 v7.1.Items.length).bind fun v23 =>
                      (getO v7.1.Items v23).bind fun v24 =>
                      bindS (S := Bool) (A := ((Int) ⊕ ((Unit) ⊕ (((List T_Item) × Int × (List Int) × (List Int) × Int × (List Int)) ⊕ (((List T_Item) × Int × (List Int) × (List Int) × Int × (List Int) × Int) ⊕ (((List T_Item) × Int × (List Int) × (List Int) × Int × (List Int)) ⊕ Bool))))))
                        (cond ((v22.Id != v24.Id))
                          (some (.inl true))
                          ((some (IntKind.i64.wrap (s515 + 1))).bind fun v25 =>
                          cond ((v22.Id != v25))
                            (some (.inl true))
                            ((wherrykeep_Mail ((T_Mail.mk (T_Path.mk v22.Mail.From.Null v22.Mail.From.Local v22.Mail.From.Domain) v22.Mail.To v22.Mail.Body v22.Mail.Quiet v22.Mail.Helo v22.Mail.At)) ((T_Mail.mk (T_Path.mk v24.Mail.From.Null v24.Mail.From.Local v24.Mail.From.Domain) v24.Mail.To v24.Mail.Body v24.Mail.Quiet v24.Mail.Helo v24.Mail.At))).bind fun v26 =>
                            cond ((!v26))
                              (some (.inl true))
                              ((wherrylaw19_way v22.State v24.State).bind fun v27 =>
                              cond ((!v27))
                                (some (.inl true))
                                (cond ((v22.Pack != 0))
                                  (some (.inl (v22.Pack != v24.Pack)))
                                  (some (.inl false)))))))
                        (fun (s529 : Bool) =>
                          cond (s529)
                            (some (.inr (.inr (.inr (.inr (.inr (false)))))))
                            ((some (IntKind.i64.wrap (s515 + 1))).bind fun v33 =>
                            some (.inl v33))) some)
                      (some (.inr (.inl ()))))
                    BIG 0)
                  (fun (() : Unit) =>
                    bindS (S := Unit) (A := (((List T_Item) × Int × (List Int) × (List Int) × Int × (List Int)) ⊕ (((List T_Item) × Int × (List Int) × (List Int) × Int × (List Int) × Int) ⊕ (((List T_Item) × Int × (List Int) × (List Int) × Int × (List Int)) ⊕ Bool))))
                      (cond ((decide ((s278.length : Int) < (v7.1.Items.length : Int))))
                        ((ixO (s278.length : Int) v7.1.Items.length).bind fun v61 =>
                        (getO v7.1.Items v61).bind fun v62 =>
                        bindS (S := Bool) (A := (Unit ⊕ (((List T_Item) × Int × (List Int) × (List Int) × Int × (List Int)) ⊕ (((List T_Item) × Int × (List Int) × (List Int) × Int × (List Int) × Int) ⊕ (((List T_Item) × Int × (List Int) × (List Int) × Int × (List Int)) ⊕ Bool)))))
                          (cond ((v62.State != 1))
                            (some (.inl (v62.State != 3)))
                            (some (.inl false)))
                          (fun (s544 : Bool) =>
                            cond (s544)
                              (some (.inr (.inr (.inr (.inr (false))))))
                              (some (.inl ()))) some)
                        (some (.inl ())))
                      (fun (() : Unit) =>
                        some (.inl (v7.1.Items, v7.1.Packs, v7.1.Sent, v7.1.Part, v7.1.Of, v7.1.Done))) some) some)) some))
        (fun ((s482, s483, s484, s485, s486, s487) : (List T_Item) × Int × (List Int) × (List Int) × Int × (List Int)) =>
          (some (IntKind.i64.wrap (s284 + 1))).bind fun v144 =>
          some (.inl (s482, s483, s484, s485, s486, s487, v144))) some)
      (some (.inr (.inl (s278, s279, s280, s281, s282, s283)))))
def ssi (s278 : List T_Item) (v7 : T_Spool × Int) : ((Int)) → Option ((Int) ⊕ ((Unit) ⊕ (((List T_Item) × Int × (List Int) × (List Int) × Int × (List Int)) ⊕ (((List T_Item) × Int × (List Int) × (List Int) × Int × (List Int) × Int) ⊕ (((List T_Item) × Int × (List Int) × (List Int) × Int × (List Int)) ⊕ Bool))))) := (fun (s515 : Int) =>
                    cond ((decide (s515 < (s278.length : Int))))
                      ((ixO s515 s278.length).bind fun v21 =>
                      (getO s278 v21).bind fun v22 =>
                      (ixO s515 v7.1.Items.length).bind fun v23 =>
                      (getO v7.1.Items v23).bind fun v24 =>
                      bindS (S := Bool) (A := ((Int) ⊕ ((Unit) ⊕ (((List T_Item) × Int × (List Int) × (List Int) × Int × (List Int)) ⊕ (((List T_Item) × Int × (List Int) × (List Int) × Int × (List Int) × Int) ⊕ (((List T_Item) × Int × (List Int) × (List Int) × Int × (List Int)) ⊕ Bool))))))
                        (cond ((v22.Id != v24.Id))
                          (some (.inl true))
                          ((some (IntKind.i64.wrap (s515 + 1))).bind fun v25 =>
                          cond ((v22.Id != v25))
                            (some (.inl true))
                            ((wherrykeep_Mail ((T_Mail.mk (T_Path.mk v22.Mail.From.Null v22.Mail.From.Local v22.Mail.From.Domain) v22.Mail.To v22.Mail.Body v22.Mail.Quiet v22.Mail.Helo v22.Mail.At)) ((T_Mail.mk (T_Path.mk v24.Mail.From.Null v24.Mail.From.Local v24.Mail.From.Domain) v24.Mail.To v24.Mail.Body v24.Mail.Quiet v24.Mail.Helo v24.Mail.At))).bind fun v26 =>
                            cond ((!v26))
                              (some (.inl true))
                              ((wherrylaw19_way v22.State v24.State).bind fun v27 =>
                              cond ((!v27))
                                (some (.inl true))
                                (cond ((v22.Pack != 0))
                                  (some (.inl (v22.Pack != v24.Pack)))
                                  (some (.inl false)))))))
                        (fun (s529 : Bool) =>
                          cond (s529)
                            (some (.inr (.inr (.inr (.inr (.inr (false)))))))
                            ((some (IntKind.i64.wrap (s515 + 1))).bind fun v33 =>
                            some (.inl v33))) some)
                      (some (.inr (.inl ()))))
def ssd (s416 : List Int) : ((Int)) → Option ((Int) ⊕ ((Unit) ⊕ Bool)) := (fun (s560 : Int) =>
        cond ((decide (s560 < (s416.length : Int))))
          ((ixO s560 s416.length).bind fun v550 =>
          (getO s416 v550).bind fun v551 =>
          (some (IntKind.i64.wrap (s560 - 1))).bind fun v552 =>
          (ixO v552 s416.length).bind fun v553 =>
          (getO s416 v553).bind fun v554 =>
          cond ((decide (v551 ≤ v554)))
            (some (.inr (.inr (false))))
            ((some (IntKind.i64.wrap (s560 + 1))).bind fun v556 =>
            some (.inl v556)))
          (some (.inr (.inl ()))))
theorem way_item {a b : T_Item} {k : Nat} (hk : k < 1000000) (hm : LM a.Mail) (hi : a.Id = (k : Int) + 1) (h : Goes a b) {A : Type} {R : Option (Bool ⊕ A)} (hR : R = some (.inl false)) :
    (cond ((a.Id != b.Id)) (some (.inl true)) ((some (IntKind.i64.wrap ((k : Int) + 1))).bind fun v25 => cond ((a.Id != v25)) (some (.inl true)) ((wherrykeep_Mail a.Mail b.Mail).bind fun v26 => cond ((!v26)) (some (.inl true)) ((wherrylaw19_way a.State b.State).bind fun v27 => cond ((!v27)) (some (.inl true)) (cond ((a.Pack != 0)) (some (.inl (a.Pack != b.Pack))) (some (.inl false))))))) = R := by
  subst hR
  have hne : ∀ x : Int, (x != x) = false := fun x => by simp
  have hw : IntKind.i64.wrap ((k : Int) + 1) = a.Id := by rw [hi]; exact wrap_i64 (by omega) (by omega)
  refine cnd_f (by rw [← h.id]; exact hne _) (bnd (congrArg some hw) (cnd_f (hne _) (bnd (by rw [← h.mail]; exact mail_refl _ hm) (cnd_f rfl (bnd (way_eq h.way) (cnd_f rfl ?_))))))
  by_cases h0 : a.Pack = 0
  · exact cnd_f (by rw [h0]; rfl) rfl
  · exact cnd_t (by simpa using h0) (inl_of (by rw [← h.pack h0]; exact hne _))
theorem sst_round (l : List T_Rec) (hr : ∀ r ∈ l, Rok r) (hl : l.length ≤ 60) (i : Nat) (hi : i < l.length) (s : T_Spool) (hs : Inv i s) (ht : ∀ x ∈ s.Items, Stt x) :
    ∃ t : T_Spool, Inv (i + 1) t ∧ (∀ x ∈ t.Items, Stt x) ∧ sst l (s.Items, s.Packs, s.Sent, s.Part, s.Of, s.Done, (i : Int)) = some (.inl (t.Items, t.Packs, t.Sent, t.Part, t.Of, t.Done, ((i + 1 : Nat) : Int))) := by
  have hg : getO l i = some l[i] := by simp [getO, hi]
  have hri := hr _ (List.getElem_mem hi)
  have hadd := add_eq hs hri
  have hll := hs.len
  have e1 : some (IntKind.i64.wrap ((i : Int) + 1)) = some ((i + 1 : Nat) : Int) := congrArg some (wrap_succ (n := i) (by omega))
  by_cases ho : okS s l[i] = true
  · rw [if_pos ho] at hadd
    have hx := next_eff hs ht ho
    have hv := inv_eff (by omega) hs hri ho
    refine ⟨eff s l[i], hv, hx.stt, ?_⟩
    have h1 := hx.len; have h2 := hx.len1; have h3 := hx.packs; have h4 := hx.done; have h5 := hx.sent
    have hw : IntKind.i64.wrap ((s.Items.length : Int) + 1) = (s.Items.length : Int) + 1 := wrap_i64 (by omega) (by omega)
    refine cnd_t (decide_eq_true (by omega)) (bndL (s := ((eff s l[i]).Items, (eff s l[i]).Packs, (eff s l[i]).Sent, (eff s l[i]).Part, (eff s l[i]).Of, (eff s l[i]).Done)) (bnd (ixO_of hi) (bnd hg (bnd hadd (cnd_f rfl ?_)))) (bnd e1 rfl))
    refine bndL (s := false) (cnd_f (decide_eq_false (by dsimp only; omega)) (bnd (congrArg some hw) (cnd_f (decide_eq_false (by dsimp only; omega)) (cnd_f (decide_eq_false (by dsimp only; omega)) (cnd_f (decide_eq_false (by dsimp only; omega)) (inl_of (decide_eq_false (by dsimp only; omega)))))))) (cnd_f rfl ?_)
    refine bndL (s := ()) (loop_from (f := ssi s.Items (eff s l[i], 0)) (fun k => ((k : Nat) : Int)) s.Items.length BIG rfl (by simp only [BIG]; omega) (fun k hk => ?_) (cnd_f (decide_eq_false (by omega)) rfl)) ?_
    · have hk' : k < (eff s l[i]).Items.length := by omega
      have e2 : some (IntKind.i64.wrap ((k : Int) + 1)) = some ((k + 1 : Nat) : Int) := congrArg some (wrap_succ (n := k) (by omega))
      exact cnd_t (decide_eq_true (by omega)) (bnd (ixO_of hk) (bnd (by simp [getO, hk] : getO s.Items k = some s.Items[k]) (bnd (ixO_of hk') (bnd (by simp [getO, hk'] : getO (eff s l[i]).Items k = some (eff s l[i]).Items[k]) (bndL (s := false) (way_item (k := k) (by omega) (hs.lm _ (List.getElem_mem hk)) (hs.ids k hk) (hx.goes k hk hk') rfl) (cnd_f rfl (bnd e2 rfl)))))))
    · refine bndL (s := ()) ?_ rfl
      by_cases hn : s.Items.length < (eff s l[i]).Items.length
      · refine cnd_t (decide_eq_true (by dsimp only; omega)) (bnd (ixO_of hn) (bnd (by simp [getO, hn] : getO (eff s l[i]).Items s.Items.length = some (eff s l[i]).Items[s.Items.length]) (bndL (s := false) ?_ rfl)))
        rcases hx.new hn with h | h
        · exact cnd_f (by rw [h]; rfl) rfl
        · exact cnd_t (by rw [h]; rfl) (inl_of (by rw [h]; rfl))
      · exact cnd_f (decide_eq_false (by dsimp only; omega)) rfl
  · rw [if_neg ho] at hadd
    refine ⟨s, inv_mono hs (by omega), ht, ?_⟩
    exact cnd_t (decide_eq_true (by omega)) (bndL (s := (s.Items, s.Packs, s.Sent, s.Part, s.Of, s.Done)) (bnd (ixO_of hi) (bnd hg (bnd hadd (cnd_t rfl (bndL (s := false) rfl rfl))))) (bnd e1 rfl))
theorem sst_loop (l : List T_Rec) (hr : ∀ r ∈ l, Rok r) (hl : l.length ≤ 60) : ∀ (d i : Nat) (s : T_Spool) (fuel : Nat), i + d = l.length → d < fuel → Inv i s → (∀ x ∈ s.Items, Stt x) →
    ∃ t : T_Spool, Inv l.length t ∧ loopF (sst l) fuel (s.Items, s.Packs, s.Sent, s.Part, s.Of, s.Done, (i : Int)) = some (.inl (t.Items, t.Packs, t.Sent, t.Part, t.Of, t.Done))
  | d, i, s, 0, _, hf, _, _ => absurd hf (Nat.not_lt_zero d)
  | 0, i, s, fuel + 1, hd, _, hs, _ => by
    obtain rfl : i = l.length := by omega
    exact ⟨s, hs, loop_exit (cnd_f (decide_eq_false (by omega)) rfl)⟩
  | d + 1, i, s, fuel + 1, hd, hf, hs, ht => by
    obtain ⟨t, h1, h2, h3⟩ := sst_round l hr hl i (by omega) s hs ht
    obtain ⟨u, hu, hlo⟩ := sst_loop l hr hl d (i + 1) t fuel (by omega) (by omega) h1 h2
    exact ⟨u, hu, by rw [loop_next h3]; exact hlo⟩
theorem spoolStates_true (l : List T_Rec) (hw : wzL 208 T_Rec.wz l) : wherrylaw19_SpoolStates l = some true := by
  obtain ⟨b, hh, hb⟩ := heavy_rok l hw
  unfold wherrylaw19_SpoolStates
  refine bnd hh ?_
  cases b
  case true => exact cnd_t rfl rfl
  obtain ⟨hl, hr⟩ := hb rfl
  obtain ⟨t, ht, hlo⟩ := sst_loop l hr hl l.length 0 newSp BIG (by omega) (by simp only [BIG]; omega) inv_new (fun x hx => absurd hx (by simp [newSp]))
  refine cnd_f rfl (bnd rfl (bndL hlo ?_))
  refine bndL (s := ()) ?_ (bnd wakes19 rfl)
  have hd := ht.done
  by_cases h1 : 1 < t.Done.length
  · refine loop_from (f := ssd t.Done) (fun k => ((k + 1 : Nat) : Int)) (t.Done.length - 1) BIG rfl (by simp only [BIG]; omega) (fun k hk => ?_) (cnd_f (decide_eq_false (by omega)) rfl)
    have hk1 : k + 1 < t.Done.length := by omega
    have hk0 : k < t.Done.length := by omega
    have hw : IntKind.i64.wrap (((k + 1 : Nat) : Int) - 1) = (k : Int) := by rw [wrap_i64 (by omega) (by omega)]; omega
    have hlt := srt_lt ht.srt hk1 (i := k) (by omega)
    exact cnd_t (decide_eq_true (by omega)) (bnd (ixO_of hk1) (bnd (by simp [getO, hk1] : getO t.Done (k + 1) = some t.Done[k + 1]) (bnd (congrArg some hw) (bnd (ixO_of hk0) (bnd (by simp [getO, hk0] : getO t.Done k = some t.Done[k]) (cnd_f (decide_eq_false (by omega)) (bnd (congrArg some (wrap_succ (n := k + 1) (by omega))) rfl)))))))
  · exact loop_from (f := ssd t.Done) (fun k => ((1 : Nat) : Int)) 0 BIG rfl (by simp only [BIG]; omega) (fun k hk => absurd hk (by omega)) (cnd_f (decide_eq_false (by omega)) rfl)
end Go.Abs.Sh
