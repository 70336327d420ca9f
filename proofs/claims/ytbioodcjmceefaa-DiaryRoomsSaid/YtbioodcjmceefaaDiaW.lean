import Derived.Test.YtbioodcjmceefaaDiaR
namespace Go.Abs.Sh
set_option linter.unusedVariables false

def dtS (l : List T_Rec) (keep v13 : Int) : ((Int × (List T_Rec) × Int × Int × Int × Int × Bool × Int × Int × Int × Int)) → Option ((Int × (List T_Rec) × Int × Int × Int × Int × Bool × Int × Int × Int × Int) ⊕ ((Int × (List T_Rec) × Int × Int × Int × Int × Bool × Int × Int) ⊕ Bool)) := (fun ((s118, s119, s120, s121, s122, s123, s124, s125, s126, s127, s128) : Int × (List T_Rec) × Int × Int × Int × Int × Bool × Int × Int × Int × Int) =>
            cond ((decide (s128 < (l.length : Int))))
              ((ixO s128 l.length).bind fun v15 =>
              (getO l v15).bind fun v16 =>
              (diary_Diary_Put (T_diary_Diary.mk s118 s119 s120 s121 s122 s123 s124 s125 s126) ((T_Rec.mk v16.Kind ((T_Mail.mk (T_Path.mk v16.Mail.From.Null v16.Mail.From.Local v16.Mail.From.Domain) v16.Mail.To v16.Mail.Body v16.Mail.Quiet v16.Mail.Helo v16.Mail.At)) v16.Id v16.Ids v16.Origin v16.Number v16.Offset v16.Data))).bind fun v17 =>
              cond ((v17.1 != 0))
                ((wherrylaw18_wakes ).bind fun v19 =>
                some (.inr (.inr (v19))))
                ((diary_Diary_Crash v17.2 keep).bind fun v20 =>
                (diary_Diary_Crash v20 keep).bind fun v21 =>
                (diary_Diary_Start v21).bind fun v22 =>
                bindS (S := Int) (A := ((Int × (List T_Rec) × Int × Int × Int × Int × Bool × Int × Int × Int × Int) ⊕ ((Int × (List T_Rec) × Int × Int × Int × Int × Bool × Int × Int) ⊕ Bool)))
                  (cond ((decide (0 < keep)))
                    ((some (IntKind.i64.wrap (s127 + 1))).bind fun v24 =>
                    some (.inl v24))
                    (some (.inl s127)))
                  (fun (s186 : Int) =>
                    bindS (S := Int × (List T_Rec) × Int × Int × Int × Int × Bool × Int × Int × Int) (A := ((Int × (List T_Rec) × Int × Int × Int × Int × Bool × Int × Int × Int × Int) ⊕ ((Int × (List T_Rec) × Int × Int × Int × Int × Bool × Int × Int) ⊕ Bool)))
                      ((remO s128 4).bind fun v30 =>
                      cond ((v30 == v13))
                        ((diary_Diary_Sync v22).bind fun v32 =>
                        cond ((v32.1 != 0))
                          (some (.inr (.inr (.inr (false)))))
                          (some (.inl (v32.2.limit, v32.2.recs, v32.2.used, v32.2.safe, v32.2.kept, v32.2.life, v32.2.off, v32.2.trip, v32.2.tripKeep, 0))))
                        (some (.inl (v22.limit, v22.recs, v22.used, v22.safe, v22.kept, v22.life, v22.off, v22.trip, v22.tripKeep, s186))))
                      (fun ((s193, s194, s195, s196, s197, s198, s199, s200, s201, s202) : Int × (List T_Rec) × Int × Int × Int × Int × Bool × Int × Int × Int) =>
                        bindS (S := Int × (List T_Rec) × Int × Int × Int × Int × Bool × Int × Int × Bool) (A := ((Int × (List T_Rec) × Int × Int × Int × Int × Bool × Int × Int × Int × Int) ⊕ ((Int × (List T_Rec) × Int × Int × Int × Int × Bool × Int × Int) ⊕ Bool)))
                          ((diary_Diary_Life (T_diary_Diary.mk s193 s194 s195 s196 s197 s198 s199 s200 s201)).bind fun v49 =>
                          (some (IntKind.i64.wrap (s128 + 1))).bind fun v50 =>
                          cond ((v49.1 != v50))
                            (some (.inl (v49.2.limit, v49.2.recs, v49.2.used, v49.2.safe, v49.2.kept, v49.2.life, v49.2.off, v49.2.trip, v49.2.tripKeep, true)))
                            ((diary_Diary_Kept v49.2).bind fun v51 =>
                            cond ((v51.1 != s202))
                              (some (.inl (v51.2.limit, v51.2.recs, v51.2.used, v51.2.safe, v51.2.kept, v51.2.life, v51.2.off, v51.2.trip, v51.2.tripKeep, true)))
                              ((diary_Diary_Off v51.2).bind fun v52 =>
                              some (.inl (v52.2.limit, v52.2.recs, v52.2.used, v52.2.safe, v52.2.kept, v52.2.life, v52.2.off, v52.2.trip, v52.2.tripKeep, v52.1)))))
                          (fun ((s208, s209, s210, s211, s212, s213, s214, s215, s216, s217) : Int × (List T_Rec) × Int × Int × Int × Int × Bool × Int × Int × Bool) =>
                            cond (s217)
                              (some (.inr (.inr (false))))
                              ((some (IntKind.i64.wrap (s128 + 1))).bind fun v67 =>
                              some (.inl (s208, s209, s210, s211, s212, s213, s214, s215, s216, s202, v67)))) some) some) some))
              (some (.inr (.inl (s118, s119, s120, s121, s122, s123, s124, s125, s126)))))

def cnt (q : Nat) (v13 : Int) : Nat → Nat
  | 0 => 0
  | i + 1 => if (((i % 4 : Nat) : Int) == v13) = true then 0 else cnt q v13 i + q
theorem cnt_le (q : Nat) (v13 : Int) (hq : q ≤ 1) : ∀ i, cnt q v13 i ≤ i
  | 0 => Nat.le_refl _
  | i + 1 => by
    have := cnt_le q v13 hq i
    simp only [cnt]
    split <;> omega
theorem tw_take {A : Type} (l : List A) (i q : Nat) (hi : i < l.length) (hq : q ≤ 1) : (l.take (i * q) ++ [l[i]]).take ((l.take (i * q)).length + q) = l.take ((i + 1) * q) := by
  rcases Nat.lt_or_ge q 1 with h | h
  · obtain rfl : q = 0 := by omega
    simp
  · obtain rfl : q = 1 := by omega
    rw [Nat.mul_one, Nat.mul_one, take_succ l i hi, List.take_of_length_le (by simp only [List.length_append, List.length_take, List.length_singleton]; omega)]

theorem tw_step (l : List T_Rec) (keep v13 : Int) (i : Nat) (hi : i < l.length) (hl : ∀ r ∈ l, LR r) (hn : l.length ≤ 60) (q : Nat) (hq : q = kks keep 1) :
    dtS l keep v13 (131072, l.take (i * q), ((rooms (l.take (i * q)) : Nat) : Int), ((l.take (i * q)).length : Int), ((cnt q v13 i : Nat) : Int), (i : Int), false, 0, 0, ((cnt q v13 i : Nat) : Int), (i : Int)) = some (.inr (.inr true)) ∨
    dtS l keep v13 (131072, l.take (i * q), ((rooms (l.take (i * q)) : Nat) : Int), ((l.take (i * q)).length : Int), ((cnt q v13 i : Nat) : Int), (i : Int), false, 0, 0, ((cnt q v13 i : Nat) : Int), (i : Int)) =
      some (.inl (131072, l.take ((i + 1) * q), ((rooms (l.take ((i + 1) * q)) : Nat) : Int), ((l.take ((i + 1) * q)).length : Int), ((cnt q v13 (i + 1) : Nat) : Int), ((i + 1 : Nat) : Int), false, 0, 0, ((cnt q v13 (i + 1) : Nat) : Int), ((i + 1 : Nat) : Int))) := by
  have hq1 : q ≤ 1 := by rw [hq]; exact Nat.min_le_right _ _
  have hix : ixO (i : Int) l.length = some i := ixO_of hi
  have hg : getO l i = some l[i] := by simp [getO, hi]
  have hlr := hl l[i] (List.getElem_mem _)
  have hc := cnt_le q v13 hq1 i
  have hbl : (l.take (i * q)).length ≤ 60 := by rw [List.length_take]; omega
  have hLR : ∀ r ∈ l.take (i * q), LR r := fun r h => hl r (List.mem_of_mem_take h)
  have hrs := rooms_le _ hLR
  have hrs2 : (l.take (i * q)).length * 25000 ≤ 60 * 25000 := Nat.mul_le_mul_right _ hbl
  have hp := put_eq 131072 (l.take (i * q)) (rooms (l.take (i * q))) ((l.take (i * q)).length : Int) ((cnt q v13 i : Nat) : Int) (i : Int) 0 l[i] hlr (by omega) (by omega)
  by_cases hf : (131072 : Int) < ((rooms (l.take (i * q)) + room l[i] : Nat) : Int)
  · left
    rw [if_pos hf] at hp
    exact cnd_t (decide_eq_true (by omega)) (bnd hix (bnd hg (bnd hp (cnd_t rfl (bnd wakes18 rfl)))))
  · right
    rw [if_neg hf] at hp
    have hcr := crash_eq 131072 (l.take (i * q) ++ [l[i]]) ((rooms (l.take (i * q)) + room l[i] : Nat) : Int) (l.take (i * q)).length (cnt q v13 i) i 0 0 keep (fun r h => by
      rcases List.mem_append.1 h with h | h
      · exact hLR r h
      · rw [List.mem_singleton.1 h]; exact hlr) (by simp; omega) (by simp) (by omega) (by omega)
    rw [show (l.take (i * q) ++ [l[i]]).length - (l.take (i * q)).length = 1 by simp, ← hq, tw_take l i q hi hq1] at hcr
    have hlen : (l.take (i * q)).length + q = (l.take ((i + 1) * q)).length := by
      rw [List.length_take, List.length_take, Nat.add_mul]
      rcases Nat.lt_or_ge q 1 with h | h
      · obtain rfl : q = 0 := by omega
        simp
      · obtain rfl : q = 1 := by omega
        omega
    rw [hlen] at hcr
    refine cnd_t (decide_eq_true (by omega)) (bnd hix (bnd hg (bnd hp (cnd_f rfl (bnd hcr (bnd rfl (bnd rfl ?_)))))))
    refine bndL (s := ((cnt q v13 i + q : Nat) : Int)) ?_ ?_
    · by_cases hk : 0 < keep
      · have : q = 1 := by rw [hq]; unfold kks; omega
        rw [this] at hc ⊢
        exact cnd_t (decide_eq_true hk) (bnd (congrArg some (wrap_succ (by omega))) rfl)
      · have : q = 0 := by rw [hq]; unfold kks; omega
        rw [this]
        exact cnd_f (decide_eq_false hk) rfl
    · have hrem : remO (i : Int) 4 = some ((i % 4 : Nat) : Int) := rem_nat i 4 (by omega) 
      have hw : some (IntKind.i64.wrap ((i : Int) + 1)) = some ((i + 1 : Nat) : Int) := congrArg some (wrap_succ (by omega))
      by_cases he : (((i % 4 : Nat) : Int) == v13) = true
      · have hc2 : cnt q v13 (i + 1) = 0 := by simp only [cnt, if_pos he]
        rw [hc2]
        refine bndL (s := (131072, l.take ((i + 1) * q), ((rooms (l.take ((i + 1) * q)) : Nat) : Int), ((l.take ((i + 1) * q)).length : Int), 0, ((i + 1 : Nat) : Int), false, 0, 0, 0)) (bnd hrem (cnd_t he (bnd (sync_on _ _ _ _ _ _ _) (cnd_f rfl rfl)))) ?_
        exact bndL (bnd rfl (bnd hw (cnd_f (by simp) (bnd rfl (cnd_f (by simp) (bnd rfl rfl)))))) (cnd_f rfl (bnd hw rfl))
      · have hc2 : cnt q v13 (i + 1) = cnt q v13 i + q := by simp only [cnt, if_neg he]
        rw [hc2]
        refine bndL (s := (131072, l.take ((i + 1) * q), ((rooms (l.take ((i + 1) * q)) : Nat) : Int), ((l.take ((i + 1) * q)).length : Int), ((cnt q v13 i + q : Nat) : Int), ((i + 1 : Nat) : Int), false, 0, 0, ((cnt q v13 i + q : Nat) : Int))) (bnd hrem (cnd_f (by simpa using he) rfl)) ?_
        exact bndL (bnd rfl (bnd hw (cnd_f (by simp) (bnd rfl (cnd_f (by simp) (bnd rfl rfl)))))) (cnd_f rfl (bnd hw rfl))

theorem diaryTwice_true (l : List T_Rec) (keep n : Int) (hwl : wzL 208 T_Rec.wz l) : wherrylaw18_DiaryTwice l keep n = some true := by
  obtain ⟨b1, hb1, hl1⟩ := heavy18 l (fun r hq => re_of (hwl.2 r hq)) (len_of hwl)
  simp only [wherrylaw18_DiaryTwice]
  refine bnd hb1 ?_
  cases b1
  case true => exact cnd_t rfl rfl
  obtain ⟨hn1, hr1⟩ := hl1 rfl
  refine cnd_f rfl (bnd (new_eq 131072) ?_)
  rw [if_neg (by omega)]
  refine obs rfl ?_
  refine bndL (s := false) ?_ ?_
  · rfl
  refine cnd_f rfl (bnd rfl (bnd (x := (IntKind.u64.wrap n).tmod 4) rfl (bnd rfl ?_)))
  generalize IntKind.i64.wrap ((IntKind.u64.wrap n).tmod 4) = v13
  obtain ⟨q, hq⟩ : ∃ q, q = kks keep 1 := ⟨_, rfl⟩
  have hq1 : q ≤ 1 := by rw [hq]; exact Nat.min_le_right _ _
  let st : Nat → (Int × (List T_Rec) × Int × Int × Int × Int × Bool × Int × Int × Int × Int) := fun i => (131072, l.take (i * q), ((rooms (l.take (i * q)) : Nat) : Int), ((l.take (i * q)).length : Int), ((cnt q v13 i : Nat) : Int), (i : Int), false, 0, 0, ((cnt q v13 i : Nat) : Int), (i : Int))
  have hst0 : st 0 = (131072, [], 0, 0, 0, 0, false, 0, 0, 0, 0) := by simp [st, rooms, cnt]
  have hrun : loopF (dtS l keep v13) BIG (131072, [], 0, 0, 0, 0, false, 0, 0, 0, 0) = some (.inr true) ∨ loopF (dtS l keep v13) BIG (131072, [], 0, 0, 0, 0, false, 0, 0, 0, 0) = some (.inl (131072, l.take (l.length * q), ((rooms (l.take (l.length * q)) : Nat) : Int), ((l.take (l.length * q)).length : Int), ((cnt q v13 l.length : Nat) : Int), (l.length : Int), false, 0, 0)) := by
    classical
    rcases first_fail (fun i => decide (dtS l keep v13 (st i) = some (.inl (st (i + 1))))) l.length with h | ⟨k, hk, h1, h2⟩
    · right
      refine loop_from st l.length BIG hst0 (by simp only [BIG]; omega) (fun i hi => of_decide_eq_true (h i hi)) ?_
      exact cnd_f (decide_eq_false (by omega)) rfl
    · left
      refine loop_from st k BIG hst0 (by simp only [BIG]; omega) (fun i hi => of_decide_eq_true (h1 i hi)) ?_
      rcases tw_step l keep v13 k hk hr1 hn1 q hq with h | h
      · exact h
      · exact absurd h (of_decide_eq_false h2)
  rcases hrun with hp | hp
  · exact bndR hp rfl
  refine bndL hp ?_
  by_cases hk : 0 < keep
  · have e : q = 1 := by rw [hq]; unfold kks; omega
    have e2 : (l.take (l.length * q)).length = l.length := by rw [e, List.length_take]; omega
    rw [e2]
    refine bndL (s := (l.length : Int)) (cnd_t (decide_eq_true hk) rfl) ?_
    refine bndL (s := true) ?_ rfl
    refine bnd rfl ?_
    exact cnd_t (by show ((((l.take (l.length * q)).length : Nat) : Int) == (l.length : Int)) = true; rw [e2]; simp) (bnd rfl (cnd_t (by simp) (bnd wakes18 rfl)))
  · have e : q = 0 := by rw [hq]; unfold kks; omega
    have e2 : (l.take (l.length * q)).length = 0 := by rw [e, List.length_take]; omega
    rw [e2]
    refine bndL (s := 0) (cnd_f (decide_eq_false hk) rfl) ?_
    refine bndL (s := true) ?_ rfl
    refine bnd rfl ?_
    exact cnd_t (by show ((((l.take (l.length * q)).length : Nat) : Int) == 0) = true; rw [e2]; rfl) (bnd rfl (cnd_t rfl (bnd wakes18 rfl)))
end Go.Abs.Sh
