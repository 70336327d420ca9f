import Derived.Test.YtbioodcjmceefaaDiaK
namespace Go.Abs.Sh
set_option linter.unusedVariables false

def saS (l : List T_Rec) : ((Int × (List T_Rec) × Int × Int × Int × Int × Bool × Int × Int × Int)) → Option ((Int × (List T_Rec) × Int × Int × Int × Int × Bool × Int × Int × Int) ⊕ ((Int × (List T_Rec) × Int × Int × Int × Int × Bool × Int × Int) ⊕ Bool)) := (fun ((s43, s44, s45, s46, s47, s48, s49, s50, s51, s52) : Int × (List T_Rec) × Int × Int × Int × Int × Bool × Int × Int × Int) =>
                cond ((decide (s52 < (l.length : Int))))
                  ((ixO s52 l.length).bind fun v17 =>
                  (getO l v17).bind fun v18 =>
                  (diary_Diary_Put (T_diary_Diary.mk s43 s44 s45 s46 s47 s48 s49 s50 s51) ((T_Rec.mk v18.Kind ((T_Mail.mk (T_Path.mk v18.Mail.From.Null v18.Mail.From.Local v18.Mail.From.Domain) v18.Mail.To v18.Mail.Body v18.Mail.Quiet v18.Mail.Helo v18.Mail.At)) v18.Id v18.Ids v18.Origin v18.Number v18.Offset v18.Data))).bind fun v19 =>
                  cond ((v19.1 != 0))
                    (bindS (S := Bool) (A := ((Int × (List T_Rec) × Int × Int × Int × Int × Bool × Int × Int × Int) ⊕ ((Int × (List T_Rec) × Int × Int × Int × Int × Bool × Int × Int) ⊕ Bool)))
                      (cond ((v19.1 == 8))
                        ((wherrylaw18_wakes ).bind fun v21 =>
                        some (.inl v21))
                        (some (.inl false)))
                      (fun (s76 : Bool) =>
                        some (.inr (.inr (s76)))) some)
                    ((some (IntKind.i64.wrap (s52 + 1))).bind fun v26 =>
                    some (.inl (v19.2.limit, v19.2.recs, v19.2.used, v19.2.safe, v19.2.kept, v19.2.life, v19.2.off, v19.2.trip, v19.2.tripKeep, v26))))
                  (some (.inr (.inl (s43, s44, s45, s46, s47, s48, s49, s50, s51)))))
def rwS (l : List T_Rec) : ((Int × (List T_Rec) × Int × Int × Int × Int × Bool × Int × Int × Int)) → Option ((Int × (List T_Rec) × Int × Int × Int × Int × Bool × Int × Int × Int) ⊕ ((Int × (List T_Rec) × Int × Int × Int × Int × Bool × Int × Int) ⊕ Bool)) := (fun ((s35, s36, s37, s38, s39, s40, s41, s42, s43, s44) : Int × (List T_Rec) × Int × Int × Int × Int × Bool × Int × Int × Int) =>
                cond ((decide (s44 < (l.length : Int))))
                  ((ixO s44 l.length).bind fun v17 =>
                  (getO l v17).bind fun v18 =>
                  (diary_Diary_Put (T_diary_Diary.mk s35 s36 s37 s38 s39 s40 s41 s42 s43) ((T_Rec.mk v18.Kind ((T_Mail.mk (T_Path.mk v18.Mail.From.Null v18.Mail.From.Local v18.Mail.From.Domain) v18.Mail.To v18.Mail.Body v18.Mail.Quiet v18.Mail.Helo v18.Mail.At)) v18.Id v18.Ids v18.Origin v18.Number v18.Offset v18.Data))).bind fun v19 =>
                  cond ((v19.1 != 0))
                    ((wherrylaw18_wakes ).bind fun v21 =>
                    some (.inr (.inr (v21))))
                    ((some (IntKind.i64.wrap (s44 + 1))).bind fun v22 =>
                    some (.inl (v19.2.limit, v19.2.recs, v19.2.used, v19.2.safe, v19.2.kept, v19.2.life, v19.2.off, v19.2.trip, v19.2.tripKeep, v22))))
                  (some (.inr (.inl (s35, s36, s37, s38, s39, s40, s41, s42, s43)))))

theorem rooms_take' (b l : List T_Rec) (k : Nat) (hk : k < l.length) : rooms (b ++ l.take (k + 1)) = rooms (b ++ l.take k) + room l[k] := by
  rw [rooms_app, rooms_app, rooms_take l k hk]; omega

theorem put_fit (b l : List T_Rec) (k : Nat) (s K F tk : Int) (hk : k < l.length) (hl : ∀ r ∈ l, LR r) (hb : ∀ r ∈ b, LR r) (hn : l.length ≤ 60) (hbn : b.length ≤ 60) :
    diary_Diary_Put (T_diary_Diary.mk 131072 (b ++ l.take k) ((rooms (b ++ l.take k) : Nat) : Int) s K F false 0 tk) l[k] = some (if 131072 < rooms (b ++ l.take (k + 1)) then (8, T_diary_Diary.mk 131072 (b ++ l.take k) ((rooms (b ++ l.take k) : Nat) : Int) s K F false 0 tk) else (0, T_diary_Diary.mk 131072 (b ++ l.take (k + 1)) ((rooms (b ++ l.take (k + 1)) : Nat) : Int) s K F false 0 tk)) := by
  have hlr := hl l[k] (List.getElem_mem _)
  have h2 : (b ++ l.take k).length ≤ 120 := by rw [List.length_append, List.length_take]; omega
  have h3 := rooms_le (b ++ l.take k) (fun r hq => by
    rcases List.mem_append.1 hq with h | h
    · exact hb r h
    · exact hl r (List.mem_of_mem_take h))
  have h4 : (b ++ l.take k).length * 25000 ≤ 120 * 25000 := Nat.mul_le_mul_right _ h2
  rw [put_eq 131072 _ _ s K F tk l[k] hlr (by omega) (by omega), ← rooms_take' b l k hk, take_succ l k hk, List.append_assoc]
  by_cases h : 131072 < rooms (b ++ (l.take k ++ [l[k]]))
  · rw [if_pos h, if_pos (by omega)]
  · rw [if_neg h, if_neg (by omega)]

theorem safe_puts (b l : List T_Rec) (s K F tk : Int) (hl : ∀ r ∈ l, LR r) (hb : ∀ r ∈ b, LR r) (hn : l.length ≤ 60) (hbn : b.length ≤ 60) :
    loopF (saS l) BIG (131072, b, ((rooms b : Nat) : Int), s, K, F, false, 0, tk, 0) = some (.inl (131072, b ++ l, ((rooms (b ++ l) : Nat) : Int), s, K, F, false, 0, tk)) ∨
    loopF (saS l) BIG (131072, b, ((rooms b : Nat) : Int), s, K, F, false, 0, tk, 0) = some (.inr true) := by
  have go : ∀ k, (hk : k < l.length) → ¬ 131072 < rooms (b ++ l.take (k + 1)) → saS l (131072, b ++ l.take k, ((rooms (b ++ l.take k) : Nat) : Int), s, K, F, false, 0, tk, (k : Int)) = some (.inl (131072, b ++ l.take (k + 1), ((rooms (b ++ l.take (k + 1)) : Nat) : Int), s, K, F, false, 0, tk, ((k + 1 : Nat) : Int))) := by
    intro k hk h
    have hix : ixO (k : Int) l.length = some k := ixO_of hk
    have hg : getO l k = some l[k] := by simp [getO, hk]
    have hp := put_fit b l k s K F tk hk hl hb hn hbn
    rw [if_neg h] at hp
    exact cnd_t (decide_eq_true (by omega)) (bnd hix (bnd hg (bnd hp (cnd_f rfl (bnd (congrArg some (wrap_succ (by omega))) rfl)))))
  rcases first_fail (fun k => decide (¬ 131072 < rooms (b ++ l.take (k + 1)))) l.length with h | ⟨k, hk, h1, h2⟩
  · left
    refine loop_from (fun k => (131072, b ++ l.take k, ((rooms (b ++ l.take k) : Nat) : Int), s, K, F, false, 0, tk, (k : Int))) l.length BIG (by simp) (by simp only [BIG]; omega) (fun k hk => go k hk (of_decide_eq_true (h k hk))) ?_
    refine cnd_f (decide_eq_false (by omega)) ?_
    simp only [List.take_length]
  · right
    have h2' : 131072 < rooms (b ++ l.take (k + 1)) := by
      have := of_decide_eq_false h2
      omega
    refine loop_from (fun k => (131072, b ++ l.take k, ((rooms (b ++ l.take k) : Nat) : Int), s, K, F, false, 0, tk, (k : Int))) k BIG (by simp) (by simp only [BIG]; omega) (fun j hj => go j (by omega) (of_decide_eq_true (h1 j hj))) ?_
    have hix : ixO (k : Int) l.length = some k := ixO_of hk
    have hg : getO l k = some l[k] := by simp [getO, hk]
    have hp := put_fit b l k s K F tk hk hl hb hn hbn
    rw [if_pos h2'] at hp
    exact cnd_t (decide_eq_true (by omega)) (bnd hix (bnd hg (bnd hp (cnd_t rfl (bndL (s := true) (cnd_t rfl (bnd wakes18 rfl)) rfl)))))

theorem renew_puts (l : List T_Rec) (s K F tk : Int) (hl : ∀ r ∈ l, LR r) (hn : l.length ≤ 60) :
    loopF (rwS l) BIG (131072, [], 0, s, K, F, false, 0, tk, 0) = some (.inl (131072, l, ((rooms l : Nat) : Int), s, K, F, false, 0, tk)) ∨
    loopF (rwS l) BIG (131072, [], 0, s, K, F, false, 0, tk, 0) = some (.inr true) := by
  have go : ∀ k, (hk : k < l.length) → ¬ 131072 < rooms (l.take (k + 1)) → rwS l (131072, l.take k, ((rooms (l.take k) : Nat) : Int), s, K, F, false, 0, tk, (k : Int)) = some (.inl (131072, l.take (k + 1), ((rooms (l.take (k + 1)) : Nat) : Int), s, K, F, false, 0, tk, ((k + 1 : Nat) : Int))) := by
    intro k hk h
    have hix : ixO (k : Int) l.length = some k := ixO_of hk
    have hg : getO l k = some l[k] := by simp [getO, hk]
    have hp := put_fit [] l k s K F tk hk hl (by simp) hn (by simp)
    simp only [List.nil_append] at hp
    rw [if_neg h] at hp
    exact cnd_t (decide_eq_true (by omega)) (bnd hix (bnd hg (bnd hp (cnd_f rfl (bnd (congrArg some (wrap_succ (by omega))) rfl)))))
  rcases first_fail (fun k => decide (¬ 131072 < rooms (l.take (k + 1)))) l.length with h | ⟨k, hk, h1, h2⟩
  · left
    refine loop_from (fun k => (131072, l.take k, ((rooms (l.take k) : Nat) : Int), s, K, F, false, 0, tk, (k : Int))) l.length BIG rfl (by simp only [BIG]; omega) (fun k hk => go k hk (of_decide_eq_true (h k hk))) ?_
    refine cnd_f (decide_eq_false (by omega)) ?_
    simp only [List.take_length]
  · right
    have h2' : 131072 < rooms (l.take (k + 1)) := by
      have := of_decide_eq_false h2
      omega
    refine loop_from (fun k => (131072, l.take k, ((rooms (l.take k) : Nat) : Int), s, K, F, false, 0, tk, (k : Int))) k BIG rfl (by simp only [BIG]; omega) (fun j hj => go j (by omega) (of_decide_eq_true (h1 j hj))) ?_
    have hix : ixO (k : Int) l.length = some k := ixO_of hk
    have hg : getO l k = some l[k] := by simp [getO, hk]
    have hp := put_fit [] l k s K F tk hk hl (by simp) hn (by simp)
    simp only [List.nil_append] at hp
    rw [if_pos h2'] at hp
    exact cnd_t (decide_eq_true (by omega)) (bnd hix (bnd hg (bnd hp (cnd_t rfl (bnd wakes18 rfl)))))
end Go.Abs.Sh
