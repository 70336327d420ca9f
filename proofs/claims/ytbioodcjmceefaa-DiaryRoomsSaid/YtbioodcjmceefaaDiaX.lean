import Derived.Test.YtbioodcjmceefaaDiaS
namespace Go.Abs.Sh
set_option linter.unusedVariables false

theorem len_of {l : List T_Rec} (h : wzL 208 T_Rec.wz l) : l.length < 140737488355328 := by
  have := h.1
  simp only [reachBytes] at this
  omega

theorem diarySafe_true (l more : List T_Rec) (keep : Int) (hwl : wzL 208 T_Rec.wz l) (hwm : wzL 208 T_Rec.wz more) : wherrylaw18_DiarySafe l more keep = some true := by
  obtain ⟨b1, hb1, hl1⟩ := heavy18 l (fun r hq => re_of (hwl.2 r hq)) (len_of hwl)
  obtain ⟨b2, hb2, hl2⟩ := heavy18 more (fun r hq => re_of (hwm.2 r hq)) (len_of hwm)
  simp only [wherrylaw18_DiarySafe]
  cases b1
  case true => exact bndL (s := true) (bnd hb1 (cnd_t rfl rfl)) (cnd_t rfl rfl)
  cases b2
  case true => exact bndL (s := true) (bnd hb1 (cnd_f rfl (bnd hb2 rfl))) (cnd_t rfl rfl)
  obtain ⟨hn1, hr1⟩ := hl1 rfl
  obtain ⟨hn2, hr2⟩ := hl2 rfl
  refine bndL (s := false) (bnd hb1 (cnd_f rfl (bnd hb2 rfl))) (cnd_f rfl (bnd (new_eq 131072) ?_))
  rw [if_neg (by omega)]
  refine obs rfl ?_
  refine bndL (s := false) ?_ ?_
  · rfl
  refine cnd_f rfl ?_
  rcases safe_puts [] l 0 0 0 0 hr1 (by simp) hn1 (by simp) with hp | hp
  case inr => exact bndR hp rfl
  simp only [List.nil_append] at hp
  refine bndL hp ?_
  refine bndL (bnd (sync_on 131072 l _ 0 0 0 0) (cnd_f rfl (bnd rfl rfl))) (cnd_f (by simp) ?_)
  rcases safe_puts l more (l.length : Int) 0 0 0 hr2 hr1 hn2 hn1 with hp2 | hp2
  case inr => exact bndR hp2 rfl
  refine bndL hp2 ?_
  have hlm : ∀ r ∈ l ++ more, LR r := fun r hq => by
    rcases List.mem_append.1 hq with h | h
    · exact hr1 r h
    · exact hr2 r h
  obtain ⟨q, hq⟩ : ∃ q, q = kks keep more.length := ⟨_, rfl⟩
  have hql : q ≤ more.length := by rw [hq]; exact Nat.min_le_right _ _
  have e2 : (if (more.length : Int) < (if 0 > keep then 0 else keep) then (more.length : Int) else (if 0 > keep then 0 else keep)) = (q : Int) := by
    rw [hq]; unfold kks
    split <;> split <;> omega
  have hcr := crash_eq 131072 (l ++ more) ((rooms (l ++ more) : Nat) : Int) l.length 0 0 0 0 keep hlm (by simp; omega) (by simp) (by omega) (by omega)
  rw [show (l ++ more).length - l.length = more.length by simp, ← hq, List.take_length_add_append] at hcr
  refine bnd rfl (bnd (congrArg some e2) (bnd hcr ?_))
  have hlt : ∀ r ∈ l ++ more.take q, LR r := fun r h => hlm r (by
    rcases List.mem_append.1 h with h | h
    · exact List.mem_append.2 (.inl h)
    · exact List.mem_append.2 (.inr (List.mem_of_mem_take h)))
  have hlen : (l ++ more.take q).length ≤ 120 := by rw [List.length_append, List.length_take]; omega
  refine bnd (read_off _ rfl) ?_
  refine bndL (cnd_f rfl (bnd (put_off _ _ rfl) (cnd_f rfl (bnd (sync_off _ rfl) (cnd_f rfl (bnd (renew_off _ _ rfl) rfl)))))) (cnd_f rfl ?_)
  refine bnd (x := T_diary_Diary.mk 131072 (l ++ more.take q) ((rooms (l ++ more.take q) : Nat) : Int) ((l.length + q : Nat) : Int) ((0 + q : Nat) : Int) ((0 + 1 : Nat) : Int) false 0 0) rfl ?_
  refine bnd (read_on _ rfl hlt (show (l ++ more.take q).length < 1000000 by omega)) ?_
  refine bndL (s := true) ?_ rfl
  refine cnd_t rfl (bnd (twins_eq l hr1 (by omega)) (bnd (x := more.take q) ?_ (bnd (app_of (by rw [List.length_take]; omega) (by rw [List.length_take]; omega)) (bnd (recs_refl (l ++ more.take q) hlt (by omega)) (cnd_t rfl (bnd rfl (cnd_t (by simp) (bnd rfl (bnd (wadd (by omega)) (cnd_t (by simp) (bnd wakes18 rfl)))))))))))
  have := sli_nat more (a := 0) (b := q) (by omega) hql
  simpa using this
end Go.Abs.Sh
