import Derived.Test.YtbioodcjmceefaaDiaP
namespace Go.Abs.Sh
set_option linter.unusedVariables false

theorem diaryTrips_true (l : List T_Rec) (n keep : Int) (hwl : wzL 208 T_Rec.wz l) : wherrylaw18_DiaryTrips l n keep = some true := by
  obtain ⟨b1, hb1, hl1⟩ := heavy18 l (fun r hq => re_of (hwl.2 r hq)) (len_of hwl)
  simp only [wherrylaw18_DiaryTrips]
  cases b1
  case true => exact bndL (s := true) (bnd hb1 (cnd_t rfl rfl)) (cnd_t rfl rfl)
  obtain ⟨hn1, hr1⟩ := hl1 rfl
  by_cases h0 : l.length = 0
  · have e : (((l.length : Int) == 0)) = true := by rw [h0]; rfl
    exact bndL (s := true) (bnd hb1 (cnd_f rfl (by rw [e]))) (cnd_t rfl rfl)
  have e0 : (((l.length : Int) == 0)) = false := by rw [beq_eq_false_iff_ne]; omega
  refine bndL (s := false) (bnd hb1 (cnd_f rfl (by rw [e0]))) (cnd_f rfl (bnd (new_eq 131072) ?_))
  rw [if_neg (by omega)]
  refine obs rfl ?_
  refine bndL (s := false) ?_ ?_
  · rfl
  have hw1 : some (IntKind.i64.wrap ((l.length : Int) + 1)) = some ((l.length + 1 : Nat) : Int) := congrArg some (wrap_succ (by omega))
  obtain ⟨d, hd, hrem⟩ := rem_any n (l.length + 1) (by omega)
  obtain ⟨N, hN⟩ : ∃ N, N = d + 1 := ⟨_, rfl⟩
  refine cnd_f rfl (bnd rfl (bnd hw1 (bnd (congrArg some (u64_nat (by omega))) (bnd hrem (bnd (congrArg some (wrap_nat d (by omega))) (bnd (x := (N : Int)) ?_ ?_))))))
  · rw [wrap_i64 (by omega) (by omega)]; congr 1; omega
  refine bnd (x := T_diary_Diary.mk 131072 [] 0 0 0 0 false (N : Int) keep) ?_ ?_
  · simp only [diary_Diary_Trip, Option.bind_some]
    rw [if_neg (by omega)]
  have hNl : N ≤ l.length + 1 := by omega
  let st : Nat → (Int × (List T_Rec) × Int × Int × Int × Int × Bool × Int × Int × Int) := fun k => tSt (dSt l N keep k) (k : Int)
  have hst0 : st 0 = (131072, [], 0, 0, 0, 0, false, (N : Int), keep, 0) := by
    simp only [st, dSt, if_pos (show 0 < N by omega), tSt]
    simp [rooms]
  have hrun : loopF (trS l (N : Int)) BIG (131072, [], 0, 0, 0, 0, false, (N : Int), keep, 0) = some (.inr true) ∨ loopF (trS l (N : Int)) BIG (131072, [], 0, 0, 0, 0, false, (N : Int), keep, 0) = some (.inl ((dSt l N keep l.length).limit, (dSt l N keep l.length).recs, (dSt l N keep l.length).used, (dSt l N keep l.length).safe, (dSt l N keep l.length).kept, (dSt l N keep l.length).life, (dSt l N keep l.length).off, (dSt l N keep l.length).trip, (dSt l N keep l.length).tripKeep)) := by
    classical
    rcases first_fail (fun i => decide (trS l (N : Int) (st i) = some (.inl (st (i + 1))))) l.length with h | ⟨k, hk, h1, h2⟩
    · right
      refine loop_from st l.length BIG hst0 (by simp only [BIG]; omega) (fun i hi => of_decide_eq_true (h i hi)) ?_
      exact cnd_f (decide_eq_false (by omega)) rfl
    · left
      refine loop_from st k BIG hst0 (by simp only [BIG]; omega) (fun i hi => of_decide_eq_true (h1 i hi)) ?_
      rcases trip_step l N keep k hk hr1 hn1 hNl with h | h
      · exact h
      · exact absurd h (of_decide_eq_false h2)
  rcases hrun with hp | hp
  · exact bndR hp rfl
  refine bndL hp ?_
  obtain ⟨R, hR⟩ : ∃ R, R = l.take N := ⟨_, rfl⟩
  obtain ⟨q, hq⟩ : ∃ q, q = kks keep R.length := ⟨_, rfl⟩
  have hRl : R.length = min N l.length := by rw [hR, List.length_take]
  have hqR : q ≤ R.length := by rw [hq]; exact Nat.min_le_right _ _
  have hRLR : ∀ r ∈ R, LR r := fun r h => hr1 r (List.mem_of_mem_take (hR ▸ h))
  have hcR : crashed R keep = T_diary_Diary.mk 131072 (R.take q) ((rooms (R.take q) : Nat) : Int) (q : Int) (q : Int) 1 true 0 keep := by rw [hq]; rfl
  refine bndL (s := (131072, R.take q, ((rooms (R.take q) : Nat) : Int), (q : Int), (q : Int), 1, true, 0, keep, false)) ?_ ?_
  · refine bnd hw1 ?_
    by_cases hlast : N = l.length + 1
    · have e1 : ((N : Int) == ((l.length + 1 : Nat) : Int)) = true := by rw [beq_iff_eq]; omega
      refine cnd_t e1 ?_
      have hRe : R = l := by rw [hR, List.take_of_length_le (by omega)]
      have hds : dSt l N keep l.length = T_diary_Diary.mk 131072 l ((rooms l : Nat) : Int) 0 0 0 false 1 keep := by
        simp only [dSt, if_pos (show l.length < N by omega), List.take_length]
        rw [show N - l.length = 1 by omega]; rfl
      rw [hds]
      have hsy : diary_Diary_Sync (T_diary_Diary.mk 131072 l ((rooms l : Nat) : Int) 0 0 0 false 1 keep) = some (7, crashed l keep) := by
        simp only [diary_Diary_Sync]
        exact cnd_f rfl (bnd (step_now l _ keep hr1 (by omega)) rfl)
      refine bnd hsy ?_
      rw [← hRe, hcR]; rfl
    · have e1 : ((N : Int) == ((l.length + 1 : Nat) : Int)) = false := by rw [beq_eq_false_iff_ne]; omega
      refine cnd_f e1 ?_
      have hds : dSt l N keep l.length = crashed R keep := by
        simp only [dSt, if_neg (show ¬ l.length < N by omega), hR]
      rw [hds, hcR]
  have ev : (if (if (l.length : Int) < (N : Int) then (l.length : Int) else (N : Int)) < (if 0 > keep then 0 else keep) then (if (l.length : Int) < (N : Int) then (l.length : Int) else (N : Int)) else (if 0 > keep then 0 else keep)) = (q : Int) := by
    rw [hq]; unfold kks
    rw [hRl]
    split <;> split <;> split <;> omega
  have etk : R.take q = l.take q := by rw [hR, List.take_take, Nat.min_eq_left (by omega)]
  have htl : ∀ r ∈ l.take q, LR r := fun r h => hr1 r (List.mem_of_mem_take h)
  have hll : (l.take q).length ≤ 60 := by rw [List.length_take]; omega
  refine cnd_f rfl (bnd (x := T_diary_Diary.mk 131072 (R.take q) ((rooms (R.take q) : Nat) : Int) (q : Int) (q : Int) 1 false 0 keep) rfl (bnd rfl (bnd rfl (bnd (congrArg some ev) ?_))))
  rw [etk]
  refine bnd (read_on _ rfl htl (show (l.take q).length < 1000000 by omega)) ?_
  refine bndL (s := true) ?_ rfl
  refine cnd_t rfl (bnd rfl (cnd_t rfl (bnd (x := l.take q) ?_ (bnd (recs_refl (l.take q) htl (by omega)) (cnd_t rfl (bnd rfl (cnd_t (by simp) (bnd (sync_on _ _ _ _ _ _ _) (cnd_t rfl (bnd rfl (cnd_t rfl (bnd wakes18 rfl))))))))))))
  have := sli_nat l (a := 0) (b := q) (by omega) (by omega)
  simpa using this
end Go.Abs.Sh
