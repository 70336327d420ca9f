import Derived.Test.YtbioodcjmceefaaDiaW
namespace Go.Abs.Sh
set_option linter.unusedVariables false

def roS (l : List T_Rec) : ((Int × (List T_Rec) × Int × Int × Int × Int × Bool × Int × Int × Int × Int)) → Option ((Int × (List T_Rec) × Int × Int × Int × Int × Bool × Int × Int × Int × Int) ⊕ ((Int × (List T_Rec) × Int × Int × Int × Int × Bool × Int × Int × Int) ⊕ Bool)) := (fun ((s67, s68, s69, s70, s71, s72, s73, s74, s75, s76, s77) : Int × (List T_Rec) × Int × Int × Int × Int × Bool × Int × Int × Int × Int) =>
                      bindS (S := Bool) (A := ((Int × (List T_Rec) × Int × Int × Int × Int × Bool × Int × Int × Int × Int) ⊕ ((Int × (List T_Rec) × Int × Int × Int × Int × Bool × Int × Int × Int) ⊕ Bool)))
                        (cond ((decide (s77 < (l.length : Int))))
                          (some (.inl (s76 == 0)))
                          (some (.inl false)))
                        (fun (s99 : Bool) =>
                          cond (s99)
                            ((ixO s77 l.length).bind fun v47 =>
                            (getO l v47).bind fun v48 =>
                            (diary_Diary_Put (T_diary_Diary.mk s67 s68 s69 s70 s71 s72 s73 s74 s75) ((T_Rec.mk v48.Kind ((T_Mail.mk (T_Path.mk v48.Mail.From.Null v48.Mail.From.Local v48.Mail.From.Domain) v48.Mail.To v48.Mail.Body v48.Mail.Quiet v48.Mail.Helo v48.Mail.At)) v48.Id v48.Ids v48.Origin v48.Number v48.Offset v48.Data))).bind fun v49 =>
                            (some (IntKind.i64.wrap (s77 + 1))).bind fun v50 =>
                            some (.inl (v49.2.limit, v49.2.recs, v49.2.used, v49.2.safe, v49.2.kept, v49.2.life, v49.2.off, v49.2.trip, v49.2.tripKeep, v49.1, v50)))
                            (some (.inr (.inl (s67, s68, s69, s70, s71, s72, s73, s74, s75, s76))))) some)

def rsS (l : List T_Rec) : ((Int × Int)) → Option ((Int × Int) ⊕ ((Int) ⊕ Bool)) := (fun ((s12, s13) : Int × Int) =>
    cond ((decide (s13 < (l.length : Int))))
      ((ixO s13 l.length).bind fun v4 =>
      (getO l v4).bind fun v5 =>
      (diary_Room ((T_Rec.mk v5.Kind ((T_Mail.mk (T_Path.mk v5.Mail.From.Null v5.Mail.From.Local v5.Mail.From.Domain) v5.Mail.To v5.Mail.Body v5.Mail.Quiet v5.Mail.Helo v5.Mail.At)) v5.Id v5.Ids v5.Origin v5.Number v5.Offset v5.Data))).bind fun v6 =>
      (some (IntKind.i64.wrap (s12 + v6))).bind fun v7 =>
      (some (IntKind.i64.wrap (s13 + 1))).bind fun v8 =>
      some (.inl (v7, v8)))
      (some (.inr (.inl s12))))

theorem size_run (l : List T_Rec) (hr : ∀ r ∈ l, LR r) (hn : l.length < 1000000) : loopF (rsS l) BIG (0, 0) = some (.inl ((rooms l : Nat) : Int)) := by
  refine loop_from (fun k => (((rooms (l.take k) : Nat) : Int), (k : Int))) l.length BIG rfl (by simp only [BIG]; omega) (fun k hk => ?_) ?_
  · have hix : ixO (k : Int) l.length = some k := ixO_of hk
    have hg : getO l k = some l[k] := by simp [getO, hk]
    have hl := hr l[k] (List.getElem_mem _)
    have hb := rooms_le (l.take k) (fun r hq => hr r (List.mem_of_mem_take hq))
    have h2 : (l.take k).length ≤ 1000000 := by rw [List.length_take]; omega
    have h3 : (l.take k).length * 25000 ≤ 1000000 * 25000 := Nat.mul_le_mul_right _ h2
    have h4 := room_le hl
    refine cnd_t (decide_eq_true (by omega)) (bnd hix (bnd hg (bnd (x := ((room l[k] : Nat) : Int)) (room_eq hl) (bnd (wadd (a := rooms (l.take k)) (b := room l[k]) (by omega)) (bnd (congrArg some (wrap_succ (by omega))) ?_)))))
    rw [rooms_take l k hk]
  · refine cnd_f (decide_eq_false (by omega)) ?_
    simp only [List.take_length]

theorem rem2 (x : Int) : ∃ d : Nat, d < 2 ∧ remO (IntKind.u64.wrap x) 2 = some (d : Int) := by
  have h : 0 ≤ IntKind.u64.wrap x := by
    simp only [IntKind.wrap, IntKind.bits, IntKind.signed]
    have e : (2 : Int) ^ 64 = 18446744073709551616 := by decide
    simp only [e, Bool.false_and, Bool.false_eq_true, if_false]
    omega
  refine ⟨((IntKind.u64.wrap x).tmod 2).toNat, ?_, ?_⟩
  · rw [Int.tmod_eq_emod_of_nonneg h]; omega
  · simp only [remO]
    rw [if_neg (by omega), Int.tmod_eq_emod_of_nonneg h]
    congr 1; omega

theorem room_pos (r : T_Rec) : 104 ≤ room r := by simp only [room]; omega
theorem rooms_lt (l : List T_Rec) (k : Nat) (hk : k < l.length) : rooms (l.take k) + 104 ≤ rooms l := by
  have h := rooms_app (l.take (k + 1)) (l.drop (k + 1))
  rw [List.take_append_drop, rooms_take l k hk] at h
  have := room_pos l[k]
  omega
theorem rooms_tk (l : List T_Rec) (k : Nat) : rooms (l.take k) ≤ rooms l := by
  have h := rooms_app (l.take k) (l.drop k)
  rw [List.take_append_drop] at h
  omega

theorem rooms_put (l : List T_Rec) (L k : Nat) (hk : k < l.length) (hl : ∀ r ∈ l, LR r) (hn : l.length ≤ 60) :
    roS l ((L : Int), l.take k, ((rooms (l.take k) : Nat) : Int), 0, 0, 0, false, 0, 0, 0, (k : Int)) = some (.inl (if L < rooms (l.take (k + 1)) then ((L : Int), l.take k, ((rooms (l.take k) : Nat) : Int), 0, 0, 0, false, 0, 0, 8, ((k + 1 : Nat) : Int)) else ((L : Int), l.take (k + 1), ((rooms (l.take (k + 1)) : Nat) : Int), 0, 0, 0, false, 0, 0, 0, ((k + 1 : Nat) : Int)))) := by
  have hix : ixO (k : Int) l.length = some k := ixO_of hk
  have hg : getO l k = some l[k] := by simp [getO, hk]
  have hlr := hl l[k] (List.getElem_mem _)
  have h2 : (l.take k).length ≤ 60 := by rw [List.length_take]; omega
  have h3 := rooms_le (l.take k) (fun r hq => hl r (List.mem_of_mem_take hq))
  have h4 : (l.take k).length * 25000 ≤ 60 * 25000 := Nat.mul_le_mul_right _ h2
  have hp := put_eq (L : Int) (l.take k) (rooms (l.take k)) 0 0 0 0 l[k] hlr (by omega) (by omega)
  rw [← rooms_take l k hk, ← take_succ l k hk] at hp
  refine bndL (s := true) (cnd_t (decide_eq_true (by omega)) rfl) (cnd_t rfl (bnd hix (bnd hg (bnd hp (bnd (congrArg some (wrap_succ (by omega))) ?_)))))
  by_cases h : L < rooms (l.take (k + 1))
  · rw [if_pos h, if_pos (by omega)]
  · rw [if_neg h, if_neg (by omega)]

theorem diaryRooms_true (l : List T_Rec) (less : Int) (hwl : wzL 208 T_Rec.wz l) : wherrylaw18_DiaryRooms l less = some true := by
  obtain ⟨b1, hb1, hl1⟩ := heavy18 l (fun r hq => re_of (hwl.2 r hq)) (len_of hwl)
  simp only [wherrylaw18_DiaryRooms]
  refine bnd hb1 ?_
  cases b1
  case true => exact cnd_t rfl rfl
  obtain ⟨hn1, hr1⟩ := hl1 rfl
  refine cnd_f rfl (bndL (size_run l hr1 (by omega)) ?_)
  obtain ⟨d, hd, hrem⟩ := rem2 less
  have hwd : some (IntKind.i64.wrap (d : Int)) = some (d : Int) := congrArg some (wrap_nat d (by omega))
  have hrl := rooms_le l hr1
  have hrl2 : l.length * 25000 ≤ 60 * 25000 := Nat.mul_le_mul_right _ hn1
  have hsub : some (IntKind.i64.wrap (((rooms l : Nat) : Int) - (d : Int))) = some (((rooms l : Nat) : Int) - (d : Int)) := congrArg some (wrap_i64 (by omega) (by omega))
  refine bnd rfl (bnd hrem (bnd hwd ?_))
  by_cases h1 : ((rooms l : Nat) : Int) - (d : Int) < 1
  · exact bndL (s := true) (bnd hsub (cnd_t (decide_eq_true h1) rfl)) (cnd_t rfl (bnd wakes18 rfl))
  by_cases h2 : (131072 : Int) < ((rooms l : Nat) : Int)
  · exact bndL (s := true) (bnd hsub (cnd_f (decide_eq_false h1) (by rw [decide_eq_true h2]))) (cnd_t rfl (bnd wakes18 rfl))
  refine bndL (s := false) (bnd hsub (cnd_f (decide_eq_false h1) (by rw [decide_eq_false h2]))) (cnd_f rfl (bnd hsub (bnd (new_eq _) ?_)))
  rw [if_neg (by omega)]
  refine obs rfl ?_
  refine bndL (s := false) ?_ ?_
  · rfl
  refine cnd_f rfl ?_
  obtain ⟨L, hL⟩ : ∃ L : Nat, L = rooms l - d := ⟨_, rfl⟩
  have eL : ((rooms l : Nat) : Int) - (d : Int) = (L : Int) := by omega
  rw [eL]
  have hpos : 0 < l.length := by
    rcases Nat.eq_zero_or_pos l.length with h | h
    · have : l = [] := List.eq_nil_of_length_eq_zero h
      subst this
      simp [rooms] at h1
      omega
    · exact h
  by_cases hd0 : d = 0
  · subst hd0
    have hrun : loopF (roS l) BIG ((L : Int), [], 0, 0, 0, 0, false, 0, 0, 0, 0) = some (.inl ((L : Int), l, ((rooms l : Nat) : Int), 0, 0, 0, false, 0, 0, 0)) := by
      refine loop_from (fun k => ((L : Int), l.take k, ((rooms (l.take k) : Nat) : Int), 0, 0, 0, false, 0, 0, 0, (k : Int))) l.length BIG rfl (by simp only [BIG]; omega) (fun k hk => ?_) ?_
      · have := rooms_tk l (k + 1)
        rw [rooms_put l L k hk hr1 hn1, if_neg (by omega)]
      · refine bndL (s := false) (cnd_f (decide_eq_false (by omega)) rfl) ?_
        simp only [List.take_length]; rfl
    refine bndL hrun (cnd_f rfl ?_)
    refine bndL (s := true) ?_ rfl
    have hne : LR (T_Rec.mk 0 (T_Mail.mk (T_Path.mk false (⟨#[]⟩ : ByteArray) (⟨#[]⟩ : ByteArray)) [] [] false (⟨#[]⟩ : ByteArray) 0) 0 [] 0 0 0 []) := ⟨by simp, by simp, by simp, by decide⟩
    have hp := put_eq (L : Int) l (rooms l) 0 0 0 0 _ hne (by omega) (by omega)
    rw [if_pos (by have := room_pos (T_Rec.mk 0 (T_Mail.mk (T_Path.mk false (⟨#[]⟩ : ByteArray) (⟨#[]⟩ : ByteArray)) [] [] false (⟨#[]⟩ : ByteArray) 0) 0 [] 0 0 0 []); omega)] at hp
    have hre := renew_eq (L : Int) l ((rooms l : Nat) : Int) 0 0 0 0 l hr1 (by omega)
    rw [if_neg (by omega)] at hre
    exact cnd_t rfl (bnd rfl (cnd_t (by simp) (bnd hp (cnd_t rfl (bnd hre (cnd_t rfl (bnd rfl (cnd_t (by simp) (bnd wakes18 rfl)))))))))
  · obtain rfl : d = 1 := by omega
    have hrun : loopF (roS l) BIG ((L : Int), [], 0, 0, 0, 0, false, 0, 0, 0, 0) = some (.inl ((L : Int), l.take (l.length - 1), ((rooms (l.take (l.length - 1)) : Nat) : Int), 0, 0, 0, false, 0, 0, 8)) := by
      refine loop_from (fun k => if k < l.length then ((L : Int), l.take k, ((rooms (l.take k) : Nat) : Int), 0, 0, 0, false, 0, 0, 0, (k : Int)) else ((L : Int), l.take (l.length - 1), ((rooms (l.take (l.length - 1)) : Nat) : Int), 0, 0, 0, false, 0, 0, 8, (k : Int))) l.length BIG (by rw [if_pos hpos]; rfl) (by simp only [BIG]; omega) (fun k hk => ?_) ?_
      · rw [if_pos hk, rooms_put l L k hk hr1 hn1]
        by_cases h : k + 1 < l.length
        · have := rooms_lt l (k + 1) h
          rw [if_neg (by omega), if_pos h]
        · have e : k + 1 = l.length := by omega
          have e2 : l.length - 1 = k := by omega
          rw [if_pos (by rw [e, List.take_length]; omega), if_neg h, e2]
      · rw [if_neg (by omega)]
        exact bndL (s := false) (cnd_f (decide_eq_false (by omega)) rfl) rfl
    refine bndL hrun (cnd_t rfl ?_)
    refine bndL (s := true) ?_ rfl
    have hre := renew_eq (L : Int) (l.take (l.length - 1)) ((rooms (l.take (l.length - 1)) : Nat) : Int) 0 0 0 0 l hr1 (by omega)
    rw [if_pos (by omega)] at hre
    have hw : some (IntKind.i64.wrap ((l.length : Int) - 1)) = some ((l.length : Int) - 1) := congrArg some (wrap_i64 (by omega) (by omega))
    exact cnd_t rfl (bnd rfl (bnd hw (cnd_t (by show ((((l.take (l.length - 1)).length : Nat) : Int) == (l.length : Int) - 1) = true; rw [List.length_take, beq_iff_eq]; omega) (bnd hre (cnd_t rfl (bnd wakes18 rfl))))))
end Go.Abs.Sh
