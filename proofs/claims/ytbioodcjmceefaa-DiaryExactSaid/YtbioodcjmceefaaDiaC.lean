import Derived.Test.YtbioodcjmceefaaDiaM
namespace Go.Abs.Sh
set_option linter.unusedVariables false
def szS (l : List T_Rec) : ((Int × Int)) → Option ((Int × Int) ⊕ ((Int) ⊕ Int)) := (fun ((s10, s11) : Int × Int) =>
  cond ((decide (s11 < (l.length : Int))))
    ((ixO s11 l.length).bind fun v2 =>
    (getO l v2).bind fun v3 =>
    (diary_Room ((T_Rec.mk v3.Kind ((T_Mail.mk (T_Path.mk v3.Mail.From.Null v3.Mail.From.Local v3.Mail.From.Domain) v3.Mail.To v3.Mail.Body v3.Mail.Quiet v3.Mail.Helo v3.Mail.At)) v3.Id v3.Ids v3.Origin v3.Number v3.Offset v3.Data))).bind fun v4 =>
    (some (IntKind.i64.wrap (s10 + v4))).bind fun v5 =>
    (some (IntKind.i64.wrap (s11 + 1))).bind fun v6 =>
    some (.inl (v5, v6)))
    (some (.inr (.inl s10))))
theorem obs {E R : Type} {e : Option E} {f : E → Option R} {n r : Option R} {x : E} (h : e = some x) (h2 : f x = r) : obS e f n = r := by subst h; exact h2
theorem obn {E R : Type} {e : Option E} {f : E → Option R} {n r : Option R} (h : e = none) (h2 : n = r) : obS e f n = r := by subst h; exact h2
def rooms : List T_Rec → Nat
  | [] => 0
  | r :: l => room r + rooms l
theorem rooms_take (l : List T_Rec) (k : Nat) (hk : k < l.length) : rooms (l.take (k + 1)) = rooms (l.take k) + room l[k] := by
  induction l generalizing k with
  | nil => simp at hk
  | cons p l ih =>
    cases k with
    | zero => simp [rooms]
    | succ k =>
      simp only [List.take_succ_cons, rooms, List.getElem_cons_succ]
      rw [ih k (by simpa using hk)]; omega
theorem rooms_le : ∀ (l : List T_Rec), (∀ r ∈ l, LR r) → rooms l ≤ l.length * 25000
  | [], _ => by simp [rooms]
  | p :: l, h => by
    have h1 := room_le (h p (by simp))
    have h2 := rooms_le l (fun q hq => h q (by simp [hq]))
    simp only [rooms, List.length_cons, Nat.add_mul]; omega
theorem rooms_app (l m : List T_Rec) : rooms (l ++ m) = rooms l + rooms m := by
  induction l with
  | nil => simp [rooms]
  | cons p l ih => simp only [List.cons_append, rooms, ih]; omega
theorem size_eq (l : List T_Rec) (hr : ∀ r ∈ l, LR r) (hn : l.length < 1000000) : diary_size l = some ((rooms l : Nat) : Int) := by
  have hrun : loopF (szS l) BIG (0, 0) = some (.inl ((rooms l : Nat) : Int)) := by
    refine loop_from (fun k => (((rooms (l.take k) : Nat) : Int), (k : Int))) l.length BIG rfl (by simp only [BIG]; omega) (fun k hk => ?_) ?_
    · have hix : ixO (k : Int) l.length = some k := ixO_of hk
      have hg : getO l k = some l[k] := by simp [getO, hk]
      have hl := hr l[k] (List.getElem_mem _)
      have hb := rooms_le (l.take k) (fun r hq => hr r (List.mem_of_mem_take hq))
      have h2 : (l.take k).length ≤ 1000000 := by rw [List.length_take]; omega
      have h3 : (l.take k).length * 25000 ≤ 1000000 * 25000 := Nat.mul_le_mul_right _ h2
      have h4 := room_le hl
      refine cnd_t (decide_eq_true (by omega)) (bnd hix (bnd hg (bnd (x := ((room l[k] : Nat) : Int)) (room_eq hl) (bnd (wadd (a := rooms (l.take k)) (b := room l[k]) (by omega)) (bnd (congrArg some (wrap_succ (by omega))) ?_)))))
      rw [rooms_take l k hk]
    · refine cnd_f (decide_eq_false (by omega)) ?_
      simp only [List.take_length]
  simp only [diary_size]
  exact bndL hrun rfl
def kks (keep : Int) (n : Nat) : Nat := min keep.toNat n
theorem crash_eq (L : Int) (rs : List T_Rec) (U : Int) (s K F : Nat) (tr tk keep : Int) (hr : ∀ r ∈ rs, LR r) (hn : rs.length < 1000000) (hs : s ≤ rs.length) (hK : K < 1000000000) (hF : F < 1000000000) :
    diary_Diary_Crash (T_diary_Diary.mk L rs U (s : Int) (K : Int) (F : Int) false tr tk) keep = some (T_diary_Diary.mk L (rs.take (s + kks keep (rs.length - s))) ((rooms (rs.take (s + kks keep (rs.length - s))) : Nat) : Int) ((s + kks keep (rs.length - s) : Nat) : Int) ((K + kks keep (rs.length - s) : Nat) : Int) ((F + 1 : Nat) : Int) true 0 tk) := by
  obtain ⟨q, hq⟩ : ∃ q, q = kks keep (rs.length - s) := ⟨_, rfl⟩
  have hql : q ≤ rs.length - s := by rw [hq]; exact Nat.min_le_right _ _
  rw [← hq]
  have e1 : IntKind.i64.wrap ((rs.length : Int) - (s : Int)) = ((rs.length - s : Nat) : Int) := by rw [wrap_i64 (by omega) (by omega)]; omega
  have e2 : (if ((rs.length - s : Nat) : Int) < (if 0 > keep then 0 else keep) then ((rs.length - s : Nat) : Int) else (if 0 > keep then 0 else keep)) = (q : Int) := by
    rw [hq]; unfold kks
    split <;> split <;> omega
  have hl : (rs.take (s + q)).length = s + q := by rw [List.length_take]; omega
  simp only [diary_Diary_Crash, cond_false, Option.bind_some, e1, e2]
  refine bnd (f := fun v6 => _) (x := rs.take (s + q)) ?_ ?_
  · have : IntKind.i64.wrap ((s : Int) + (q : Int)) = ((s + q : Nat) : Int) := Option.some.inj (wadd (by omega))
    rw [this]
    have := sli_nat rs (a := 0) (b := s + q) (by omega) (by omega)
    simpa using this
  refine bnd (x := rs.take (s + q)) ?_ ?_
  · simp only [clone_List_api_Rec_ro]
    rw [app_nil (by omega) (by omega)]; rfl
  refine bnd (size_eq _ (fun r h => hr r (List.mem_of_mem_take h)) (by omega)) ?_
  have e3 : IntKind.i64.wrap ((K : Int) + (q : Int)) = ((K + q : Nat) : Int) := Option.some.inj (wadd (by omega))
  have e4 : IntKind.i64.wrap ((F : Int) + 1) = ((F + 1 : Nat) : Int) := wrap_succ (by omega)
  rw [e3, e4, hl]
theorem re_of {r : T_Rec} (h : T_Rec.wz r) : mRe r.Mail ∧ r.Data.length < 140737488355328 ∧ r.Ids.length < 140737488355328 := by
  obtain ⟨_, ⟨⟨_, h1, h2⟩, ⟨h3, h4⟩, ⟨h5, _⟩, _, h6, _⟩, _, ⟨h7, _⟩, _, _, _, ⟨h8, _⟩⟩ := h
  simp only [wzS, reachBytes] at h1 h2 h6
  simp only [reachBytes] at h3 h5 h7 h8
  refine ⟨⟨by omega, by omega, by omega, by omega, by omega, fun p hp => ?_⟩, by omega, by omega⟩
  have := h4 p hp
  simp only [T_Path.wz, wzS, reachBytes] at this
  omega
end Go.Abs.Sh
