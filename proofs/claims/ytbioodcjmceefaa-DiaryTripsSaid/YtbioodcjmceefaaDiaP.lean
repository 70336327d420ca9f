import Derived.Test.YtbioodcjmceefaaDiaO
namespace Go.Abs.Sh
set_option linter.unusedVariables false

def trS (l : List T_Rec) (v20 : Int) : ((Int × (List T_Rec) × Int × Int × Int × Int × Bool × Int × Int × Int)) → Option ((Int × (List T_Rec) × Int × Int × Int × Int × Bool × Int × Int × Int) ⊕ ((Int × (List T_Rec) × Int × Int × Int × Int × Bool × Int × Int) ⊕ Bool)) := (fun ((s54, s55, s56, s57, s58, s59, s60, s61, s62, s63) : Int × (List T_Rec) × Int × Int × Int × Int × Bool × Int × Int × Int) =>
                cond ((decide (s63 < (l.length : Int))))
                  ((ixO s63 l.length).bind fun v23 =>
                  (getO l v23).bind fun v24 =>
                  (diary_Diary_Put (T_diary_Diary.mk s54 s55 s56 s57 s58 s59 s60 s61 s62) ((T_Rec.mk v24.Kind ((T_Mail.mk (T_Path.mk v24.Mail.From.Null v24.Mail.From.Local v24.Mail.From.Domain) v24.Mail.To v24.Mail.Body v24.Mail.Quiet v24.Mail.Helo v24.Mail.At)) v24.Id v24.Ids v24.Origin v24.Number v24.Offset v24.Data))).bind fun v25 =>
                  cond ((v25.1 == 8))
                    ((wherrylaw18_wakes ).bind fun v27 =>
                    some (.inr (.inr (v27))))
                    (bindS (S := Bool) (A := ((Int × (List T_Rec) × Int × Int × Int × Int × Bool × Int × Int × Int) ⊕ ((Int × (List T_Rec) × Int × Int × Int × Int × Bool × Int × Int) ⊕ Bool)))
                      ((some (IntKind.i64.wrap (v20 - 1))).bind fun v28 =>
                      cond ((decide (s63 < v28)))
                        (cond ((v25.1 != 0))
                          (some (.inl true))
                          ((some (IntKind.i64.wrap (v20 - 1))).bind fun v29 =>
                          cond ((decide (v29 ≤ s63)))
                            (some (.inl (v25.1 != 7)))
                            (some (.inl false))))
                        ((some (IntKind.i64.wrap (v20 - 1))).bind fun v30 =>
                        cond ((decide (v30 ≤ s63)))
                          (some (.inl (v25.1 != 7)))
                          (some (.inl false))))
                      (fun (s88 : Bool) =>
                        cond (s88)
                          (some (.inr (.inr (false))))
                          ((some (IntKind.i64.wrap (s63 + 1))).bind fun v36 =>
                          some (.inl (v25.2.limit, v25.2.recs, v25.2.used, v25.2.safe, v25.2.kept, v25.2.life, v25.2.off, v25.2.trip, v25.2.tripKeep, v36)))) some))
                  (some (.inr (.inl (s54, s55, s56, s57, s58, s59, s60, s61, s62)))))

theorem u64_nat {n : Nat} (h : n < 18446744073709551616) : IntKind.u64.wrap (n : Int) = (n : Int) := by
  simp only [IntKind.wrap, IntKind.bits, IntKind.signed]
  have e : (2 : Int) ^ 64 = 18446744073709551616 := by decide
  simp only [e, Bool.false_and, Bool.false_eq_true, if_false]
  omega
theorem rem_any (x : Int) (m : Nat) (hm : 0 < m) : ∃ d : Nat, d < m ∧ remO (IntKind.u64.wrap x) (m : Int) = some (d : Int) := by
  have h : 0 ≤ IntKind.u64.wrap x := by
    simp only [IntKind.wrap, IntKind.bits, IntKind.signed]
    have e : (2 : Int) ^ 64 = 18446744073709551616 := by decide
    simp only [e, Bool.false_and, Bool.false_eq_true, if_false]
    omega
  have h1 := Int.emod_nonneg (IntKind.u64.wrap x) (b := (m : Int)) (by omega)
  have h2 := Int.emod_lt_of_pos (IntKind.u64.wrap x) (b := (m : Int)) (by omega)
  refine ⟨((IntKind.u64.wrap x).tmod m).toNat, ?_, ?_⟩
  · rw [Int.tmod_eq_emod_of_nonneg h]; omega
  · simp only [remO]
    rw [if_neg (by omega), Int.tmod_eq_emod_of_nonneg h]
    congr 1; omega

/-- A record is put, a crash being armed for later. -/
theorem put_later (L : Int) (rs : List T_Rec) (U : Nat) (s k f tk : Int) (T : Nat) (r : T_Rec) (hr : LR r) (hn : rs.length < 1000000) (hU : U < 1000000000000) (hT : T < 1000000) (hT0 : 0 < T) :
    diary_Diary_Put (T_diary_Diary.mk L rs U s k f false ((T + 1 : Nat) : Int) tk) r = some (if L < ((U + room r : Nat) : Int) then (8, T_diary_Diary.mk L rs U s k f false ((T + 1 : Nat) : Int) tk) else (0, T_diary_Diary.mk L (rs ++ [r]) ((U + room r : Nat) : Int) s k f false (T : Int) tk)) := by
  have hrm := room_le hr
  have hw : some (IntKind.i64.wrap ((U : Int) + ((room r : Nat) : Int))) = some ((U + room r : Nat) : Int) := wadd (by omega)
  have ht : some (IntKind.i64.wrap (((T + 1 : Nat) : Int) - 1)) = some (T : Int) := by rw [wrap_i64 (by omega) (by omega)]; congr 1; omega
  simp only [diary_Diary_Put]
  by_cases h : L < ((U + room r : Nat) : Int)
  · rw [if_pos h]
    exact cnd_f rfl (bnd (room_eq hr) (bnd hw (cnd_t (decide_eq_true h) rfl)))
  · rw [if_neg h]
    refine cnd_f rfl (bnd (room_eq hr) (bnd hw (cnd_f (decide_eq_false h) (bnd (clone_rec hr) (bnd (app_of (by simp; omega) (by simp; omega)) (bnd (room_eq hr) (bnd hw (bnd (x := (0, T_diary_Diary.mk L (rs ++ [r]) ((U + room r : Nat) : Int) s k f false (T : Int) tk)) ?_ rfl))))))))
    simp only [diary_Diary_step]
    exact cnd_f (beq_false_of_ne (by show ((T + 1 : Nat) : Int) ≠ 0; omega)) (bnd ht (cnd_t (decide_eq_true (by omega)) rfl))

/-- The crash. -/
def crashed (rs : List T_Rec) (keep : Int) : T_diary_Diary := T_diary_Diary.mk 131072 (rs.take (kks keep rs.length)) ((rooms (rs.take (kks keep rs.length)) : Nat) : Int) ((kks keep rs.length : Nat) : Int) ((kks keep rs.length : Nat) : Int) 1 true 0 keep
theorem crash0 (rs : List T_Rec) (U tr keep : Int) (hr : ∀ r ∈ rs, LR r) (hn : rs.length < 1000000) : diary_Diary_Crash (T_diary_Diary.mk 131072 rs U 0 0 0 false tr keep) keep = some (crashed rs keep) := by
  have := crash_eq 131072 rs U 0 0 0 tr keep keep hr hn (Nat.zero_le _) (by omega) (by omega)
  simp only [Nat.zero_add, Nat.sub_zero] at this
  exact this
theorem step_now (rs : List T_Rec) (U keep : Int) (hr : ∀ r ∈ rs, LR r) (hn : rs.length < 1000000) : diary_Diary_step (T_diary_Diary.mk 131072 rs U 0 0 0 false 1 keep) = some (7, crashed rs keep) := by
  simp only [diary_Diary_step]
  exact cnd_f rfl (bnd rfl (cnd_f rfl (bnd (crash0 rs U _ keep hr hn) rfl)))
theorem put_now (rs : List T_Rec) (U : Nat) (keep : Int) (r : T_Rec) (hr : LR r) (hrs : ∀ r ∈ rs, LR r) (hn : rs.length < 900000) (hU : U < 1000000000000) :
    diary_Diary_Put (T_diary_Diary.mk 131072 rs U 0 0 0 false 1 keep) r = some (if (131072 : Int) < ((U + room r : Nat) : Int) then (8, T_diary_Diary.mk 131072 rs U 0 0 0 false 1 keep) else (7, crashed (rs ++ [r]) keep)) := by
  have hrm := room_le hr
  have hw : some (IntKind.i64.wrap ((U : Int) + ((room r : Nat) : Int))) = some ((U + room r : Nat) : Int) := wadd (by omega)
  simp only [diary_Diary_Put]
  by_cases h : (131072 : Int) < ((U + room r : Nat) : Int)
  · rw [if_pos h]
    exact cnd_f rfl (bnd (room_eq hr) (bnd hw (cnd_t (decide_eq_true h) rfl)))
  · rw [if_neg h]
    exact cnd_f rfl (bnd (room_eq hr) (bnd hw (cnd_f (decide_eq_false h) (bnd (clone_rec hr) (bnd (app_of (by simp; omega) (by simp; omega)) (bnd (room_eq hr) (bnd hw (bnd (step_now _ _ keep (fun x hx => by
      rcases List.mem_append.1 hx with h | h
      · exact hrs x h
      · rw [List.mem_singleton.1 h]; exact hr) (by simp; omega)) rfl))))))))

def tSt (d : T_diary_Diary) (i : Int) : Int × (List T_Rec) × Int × Int × Int × Int × Bool × Int × Int × Int := (d.limit, d.recs, d.used, d.safe, d.kept, d.life, d.off, d.trip, d.tripKeep, i)
/-- Before round k. -/
def dSt (l : List T_Rec) (N : Nat) (keep : Int) (k : Nat) : T_diary_Diary := if k < N then T_diary_Diary.mk 131072 (l.take k) ((rooms (l.take k) : Nat) : Int) 0 0 0 false ((N - k : Nat) : Int) keep else crashed (l.take N) keep

theorem trip_step (l : List T_Rec) (N : Nat) (keep : Int) (k : Nat) (hk : k < l.length) (hl : ∀ r ∈ l, LR r) (hn : l.length ≤ 60) (hN : N ≤ l.length + 1) :
    trS l (N : Int) (tSt (dSt l N keep k) (k : Int)) = some (.inr (.inr true)) ∨ trS l (N : Int) (tSt (dSt l N keep k) (k : Int)) = some (.inl (tSt (dSt l N keep (k + 1)) ((k + 1 : Nat) : Int))) := by
  have hix : ixO (k : Int) l.length = some k := ixO_of hk
  have hg : getO l k = some l[k] := by simp [getO, hk]
  have hlr := hl l[k] (List.getElem_mem _)
  have h2 : (l.take k).length ≤ 60 := by rw [List.length_take]; omega
  have hLR : ∀ r ∈ l.take k, LR r := fun r h => hl r (List.mem_of_mem_take h)
  have h3 := rooms_le (l.take k) hLR
  have h4 : (l.take k).length * 25000 ≤ 60 * 25000 := Nat.mul_le_mul_right _ h2
  have hw1 : some (IntKind.i64.wrap ((N : Int) - 1)) = some ((N : Int) - 1) := congrArg some (wrap_i64 (by omega) (by omega))
  have hws : some (IntKind.i64.wrap ((k : Int) + 1)) = some ((k + 1 : Nat) : Int) := congrArg some (wrap_succ (by omega))
  by_cases hkN : k < N
  · simp only [dSt, if_pos hkN, tSt]
    by_cases hlast : k + 1 < N
    · obtain ⟨T, hT⟩ : ∃ T, N - k = T + 1 := ⟨N - k - 1, by omega⟩
      have hp := put_later 131072 (l.take k) (rooms (l.take k)) 0 0 0 keep T l[k] hlr (by omega) (by omega) (by omega) (by omega)
      rw [← rooms_take l k hk, ← take_succ l k hk, ← hT] at hp
      by_cases hf : (131072 : Int) < ((rooms (l.take (k + 1)) : Nat) : Int)
      · left
        rw [if_pos hf] at hp
        exact cnd_t (decide_eq_true (by omega)) (bnd hix (bnd hg (bnd hp (cnd_t rfl (bnd wakes18 rfl)))))
      · right
        rw [if_neg hf] at hp
        rw [if_pos hlast]
        have e : N - (k + 1) = T := by omega
        rw [e]
        exact cnd_t (decide_eq_true (by omega)) (bnd hix (bnd hg (bnd hp (cnd_f rfl (bndL (s := false) (bnd hw1 (cnd_t (decide_eq_true (by omega)) (cnd_f rfl (bnd hw1 (cnd_f (decide_eq_false (by omega)) rfl))))) (cnd_f rfl (bnd hws rfl)))))))
    · have e : N = k + 1 := by omega
      have hp := put_now (l.take k) (rooms (l.take k)) keep l[k] hlr hLR (by omega) (by omega)
      rw [← rooms_take l k hk, ← take_succ l k hk] at hp
      rw [show N - k = 1 by omega]
      by_cases hf : (131072 : Int) < ((rooms (l.take (k + 1)) : Nat) : Int)
      · left
        rw [if_pos hf] at hp
        exact cnd_t (decide_eq_true (by omega)) (bnd hix (bnd hg (bnd hp (cnd_t rfl (bnd wakes18 rfl)))))
      · right
        rw [if_neg hf, ← e] at hp
        rw [if_neg hlast]
        exact cnd_t (decide_eq_true (by omega)) (bnd hix (bnd hg (bnd hp (cnd_f rfl (bndL (s := false) (bnd hw1 (cnd_f (decide_eq_false (by omega)) (bnd hw1 (cnd_t (decide_eq_true (by omega)) rfl)))) (cnd_f rfl (bnd hws rfl)))))))
  · right
    simp only [dSt, if_neg hkN, if_neg (show ¬ k + 1 < N by omega), tSt]
    exact cnd_t (decide_eq_true (by omega)) (bnd hix (bnd hg (bnd (put_off (crashed (l.take N) keep) _ rfl) (cnd_f rfl (bndL (s := false) (bnd hw1 (cnd_f (decide_eq_false (by omega)) (bnd hw1 (cnd_t (decide_eq_true (by omega)) rfl)))) (cnd_f rfl (bnd hws rfl)))))))
end Go.Abs.Sh
