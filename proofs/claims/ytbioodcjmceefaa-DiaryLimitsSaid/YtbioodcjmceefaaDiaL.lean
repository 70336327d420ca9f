import Derived.Test.YtbioodcjmceefaaDiaC
namespace Go.Abs.Sh
set_option linter.unusedVariables false

theorem diaryLimits_true (limit : Int) (p_r : T_Rec) (h : T_Rec.wz p_r) : wherrylaw18_DiaryLimits limit p_r = some true := by
  obtain ⟨b, hb, hl⟩ := heavy18 [p_r] (fun r hq => by rw [List.mem_singleton.1 hq]; exact re_of h) (by simp)
  simp only [wherrylaw18_DiaryLimits]
  refine bnd hb ?_
  cases b
  case true => exact cnd_t rfl rfl
  have hr := (hl rfl).2 p_r (List.mem_singleton.2 rfl)
  refine cnd_f rfl (bnd (new_eq limit) ?_)
  have hrm := room_le hr
  by_cases hc : limit < 1 ∨ 131072 < limit
  · rw [if_pos hc]
    refine obn rfl ?_
    refine bndL (s := true) ?_ (cnd_t rfl (bndL (s := true) (cnd_t rfl (bnd wakes18 rfl)) rfl))
    by_cases h1 : limit < 1
    · exact cnd_t (decide_eq_true h1) rfl
    · exact cnd_f (decide_eq_false h1) (by rw [decide_eq_true (by omega : 131072 < limit)])
  · rw [if_neg hc]
    refine obs rfl ?_
    refine bndL (s := false) (cnd_f (decide_eq_false (by omega)) (by rw [decide_eq_false (by omega : ¬ 131072 < limit)])) (cnd_f rfl (bnd (new_eq limit) ?_))
    rw [if_neg hc]
    refine obs rfl ?_
    refine bndL (s := false) ?_ ?_
    · rfl
    refine cnd_f rfl ?_
    refine bnd (put_eq limit [] 0 0 0 0 0 p_r hr (by simp) (by omega)) ?_
    by_cases h2 : limit < ((0 + room p_r : Nat) : Int)
    · rw [if_pos h2]
      refine bndL (s := 8) (bnd (x := ((room p_r : Nat) : Int)) (room_eq hr) (cnd_t (decide_eq_true (by omega)) rfl)) ?_
      refine bnd (crash_eq limit [] 0 0 0 0 0 0 0 (by simp) (by simp) (by simp) (by omega) (by omega)) ?_
      refine bndL (s := true) ?_ rfl
      refine cnd_t rfl (bnd (show diary_Diary_Len _ = some (0, _) from rfl) (cnd_t rfl (bnd rfl (cnd_t rfl (bnd rfl (cnd_t rfl (bnd rfl (cnd_t rfl (bnd wakes18 rfl)))))))))
    · rw [if_neg h2]
      refine bndL (s := 0) (bnd (x := ((room p_r : Nat) : Int)) (room_eq hr) (cnd_f (decide_eq_false (by omega)) rfl)) ?_
      refine bnd (crash_eq limit [] 0 0 0 0 0 0 0 (by simp) (by simp) (by simp) (by omega) (by omega)) ?_
      refine bndL (s := true) ?_ rfl
      refine cnd_t rfl (bnd (show diary_Diary_Len _ = some (0, _) from rfl) (cnd_t rfl (bnd rfl (cnd_t rfl (bnd rfl (cnd_t rfl (bnd rfl (cnd_t rfl (bnd wakes18 rfl)))))))))
end Go.Abs.Sh
