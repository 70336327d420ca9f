import Derived.Test.YtbioodcjmceefaaDiaX
namespace Go.Abs.Sh
set_option linter.unusedVariables false

theorem room_eq' {r : T_Rec} (h : room r < 1152921504606846976) : diary_Room r = some ((room r : Nat) : Int) := by
  have h0 := h
  simp only [room] at h0
  simp only [diary_Room, Option.bind_some]
  have e1 : IntKind.i64.wrap ((r.Data.length : Int) + (r.Mail.Body.length : Int)) = ((r.Data.length + r.Mail.Body.length : Nat) : Int) := Option.some.inj (wadd (by omega))
  rw [e1]
  have e2 : IntKind.i64.wrap (((r.Data.length + r.Mail.Body.length : Nat) : Int) + (r.Mail.Helo.size : Int)) = ((r.Data.length + r.Mail.Body.length + r.Mail.Helo.size : Nat) : Int) := Option.some.inj (wadd (by omega))
  rw [e2]
  have e3 : IntKind.i64.wrap (1 + (r.Mail.To.length : Int)) = ((1 + r.Mail.To.length : Nat) : Int) := by rw [wrap_i64 (by omega) (by omega)]; simp
  rw [e3]
  have e4 : IntKind.i64.wrap (24 + ((r.Data.length + r.Mail.Body.length + r.Mail.Helo.size : Nat) : Int)) = ((24 + (r.Data.length + r.Mail.Body.length + r.Mail.Helo.size) : Nat) : Int) := by rw [wrap_i64 (by omega) (by omega)]; simp
  rw [e4]
  have e5 : IntKind.i64.wrap (80 * ((1 + r.Mail.To.length : Nat) : Int)) = ((80 * (1 + r.Mail.To.length) : Nat) : Int) := by rw [wrap_i64 (by omega) (by omega)]; simp
  rw [e5]
  rw [Option.some.inj (wadd (a := 24 + (r.Data.length + r.Mail.Body.length + r.Mail.Helo.size)) (b := 80 * (1 + r.Mail.To.length)) (by omega))]
  have e6 : IntKind.i64.wrap (8 * (r.Ids.length : Int)) = ((8 * r.Ids.length : Nat) : Int) := by rw [wrap_i64 (by omega) (by omega)]; simp
  rw [e6]
  rw [Option.some.inj (wadd (a := 24 + (r.Data.length + r.Mail.Body.length + r.Mail.Helo.size) + 80 * (1 + r.Mail.To.length)) (b := 8 * r.Ids.length) (by omega))]
  rfl
theorem size_one {r : T_Rec} (h : room r < 1152921504606846976) : diary_size [r] = some ((room r : Nat) : Int) := by
  have hrun : loopF (szS [r]) BIG (0, 0) = some (.inl ((rooms [r] : Nat) : Int)) := by
    refine loop_from (fun k => (((rooms ([r].take k) : Nat) : Int), (k : Int))) 1 BIG rfl (by simp only [BIG]; omega) (fun k hk => ?_) ?_
    · obtain rfl : k = 0 := by omega
      have hix : ixO ((0 : Nat) : Int) [r].length = some 0 := ixO_of (by simp)
      have hg : getO [r] 0 = some r := rfl
      simp only [szS]
      refine cnd_t (decide_eq_true (by have : [r].length = 1 := rfl; omega)) ?_
      refine bnd hix (bnd hg (bnd (x := ((room r : Nat) : Int)) (room_eq' h) (bnd (x := ((0 + room r : Nat) : Int)) (wadd (a := 0) (b := room r) (by omega)) (bnd (x := ((0 + 1 : Nat) : Int)) rfl ?_))))
      simp only [Nat.zero_add, List.take_succ_cons, List.take_zero, rooms, Nat.add_zero]
    · rfl
  simp only [diary_size]
  refine bndL hrun ?_
  simp [rooms]
theorem renew_big (rs : List T_Rec) (U s k f tk : Int) {r : T_Rec} (h : room r < 1152921504606846976) (hb : 131072 < room r) :
    diary_Diary_Renew (T_diary_Diary.mk 131072 rs U s k f false 0 tk) [r] = some (8, T_diary_Diary.mk 131072 rs U s k f false 0 tk) := by
  simp only [diary_Diary_Renew]
  exact cnd_f rfl (bnd (size_one h) (cnd_t (decide_eq_true (by omega)) rfl))

theorem diaryRenews_true (l k : List T_Rec) (keep : Int) (hwl : wzL 208 T_Rec.wz l) (hwm : wzL 208 T_Rec.wz k) : wherrylaw18_DiaryRenews l k keep = some true := by
  obtain ⟨b1, hb1, hl1⟩ := heavy18 l (fun r hq => re_of (hwl.2 r hq)) (len_of hwl)
  obtain ⟨b2, hb2, hl2⟩ := heavy18 k (fun r hq => re_of (hwm.2 r hq)) (len_of hwm)
  simp only [wherrylaw18_DiaryRenews]
  cases b1
  case true => exact bndL (s := true) (bnd hb1 (cnd_t rfl rfl)) (cnd_t rfl rfl)
  cases b2
  case true => exact bndL (s := true) (bnd hb1 (cnd_f rfl (bnd hb2 rfl))) (cnd_t rfl rfl)
  obtain ⟨hn1, hr1⟩ := hl1 rfl
  obtain ⟨hn2, hr2⟩ := hl2 rfl
  refine bndL (s := false) (bnd hb1 (cnd_f rfl (bnd hb2 rfl))) (cnd_f rfl (bnd (new_eq 131072) ?_))
  rw [if_neg (by omega)]
  refine obs rfl ?_
  refine bndL (s := false) ?_ ?_
  · rfl
  refine cnd_f rfl ?_
  rcases renew_puts l 0 0 0 0 hr1 hn1 with hp | hp
  case inr => exact bndR hp rfl
  refine bndL hp ?_
  obtain ⟨big, hbig, hlen⟩ : ∃ big : List Int, mkO 1 131072 (0 : Int) = some big ∧ big.length = 131072 := ⟨List.replicate 131072 0, by unfold mkO; rw [if_pos (by omega)]; rfl, List.length_replicate⟩
  refine bnd hbig ?_
  have hrm : ∀ a b c : ByteArray, c.size = 0 → room (T_Rec.mk 0 (T_Mail.mk (T_Path.mk false a b) [] [] false c 0) 0 [] 0 0 0 big) = 131176 := fun a b c hc => by
    show 24 + (big.length + 0 + c.size) + 80 * (1 + 0) + 8 * 0 = 131176
    omega
  refine bndL (bnd (renew_big l _ 0 0 0 0 (by rw [hrm _ _ _ rfl]; omega) (by rw [hrm _ _ _ rfl]; omega)) (cnd_f rfl (bnd rfl (cnd_f (by simp) (bnd rfl rfl))))) (cnd_f rfl ?_)
  refine bnd (renew_eq 131072 l _ 0 0 0 0 k hr2 (by omega)) ?_
  by_cases h : (131072 : Int) < ((rooms k : Nat) : Int)
  · rw [if_pos h]
    refine cnd_t rfl ?_
    refine bndL (s := true) ?_ rfl
    exact cnd_t rfl (bnd rfl (cnd_t (by simp) (bnd wakes18 rfl)))
  · rw [if_neg h]
    refine cnd_f rfl ?_
    have hcr := crash_eq 131072 k ((rooms k : Nat) : Int) k.length 0 0 0 0 keep hr2 (by omega) (Nat.le_refl _) (by omega) (by omega)
    rw [show kks keep (k.length - k.length) = 0 by simp [kks], Nat.add_zero, List.take_length] at hcr
    refine bnd hcr (bnd (x := T_diary_Diary.mk 131072 k ((rooms k : Nat) : Int) (k.length : Int) ((0 + 0 : Nat) : Int) ((0 + 1 : Nat) : Int) false 0 0) rfl ?_)
    refine bnd (read_on _ rfl hr2 (show k.length < 1000000 by omega)) ?_
    refine bndL (s := true) ?_ rfl
    exact cnd_t rfl (bnd (recs_refl k hr2 (by omega)) (cnd_t rfl (bnd rfl (cnd_t (by simp) (bnd rfl (cnd_t rfl (bnd wakes18 rfl)))))))
end Go.Abs.Sh
