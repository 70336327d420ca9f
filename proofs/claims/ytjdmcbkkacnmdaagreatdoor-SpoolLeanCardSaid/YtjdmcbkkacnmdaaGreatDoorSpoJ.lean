import Derived.Test.YtjdmcbkkacnmdaaGreatDoorSpoG
namespace Go.Abs.Sh
set_option linter.unusedVariables false
set_option linter.unusedSimpArgs false
def laS (v2 : List T_Rec) : ((Int × Int)) → Option ((Int × Int) ⊕ ((Int) ⊕ (List T_Rec))) := (fun ((s53, s54) : Int × Int) =>
  cond ((decide (s54 < (v2.length : Int))))
    (bindS (S := Int) (A := ((Int × Int) ⊕ ((Int) ⊕ (List T_Rec))))
      ((ixO s54 v2.length).bind fun v4 =>
      (getO v2 v4).bind fun v5 =>
      bindS (S := Bool) (A := (Int ⊕ ((Int × Int) ⊕ ((Int) ⊕ (List T_Rec)))))
        (cond ((v5.Kind == 5))
          (some (.inl (v5.Offset == 0)))
          (some (.inl false)))
        (fun (s87 : Bool) =>
          cond (s87)
            (some (.inl s54))
            (some (.inl s53))) some)
      (fun (s83 : Int) =>
        (some (IntKind.i64.wrap (s54 + 1))).bind fun v19 =>
        some (.inl (s83, v19))) some)
    (some (.inr (.inl s53))))
def leS (v2 : List T_Rec) (s70 : Int) (v1 : T_Spool × Int) : (((List T_Rec) × Int)) → Option (((List T_Rec) × Int) ⊕ (((List T_Rec)) ⊕ (List T_Rec))) := (fun ((s130, s131) : (List T_Rec) × Int) =>
      cond ((decide (s131 < (v2.length : Int))))
        (bindS (S := (List T_Rec)) (A := (((List T_Rec) × Int) ⊕ (((List T_Rec)) ⊕ (List T_Rec))))
          ((ixO s131 v2.length).bind fun v93 =>
          (getO v2 v93).bind fun v94 =>
          bindS (S := Bool) (A := (((List T_Rec)) ⊕ (((List T_Rec) × Int) ⊕ (((List T_Rec)) ⊕ (List T_Rec)))))
            (cond ((v94.Kind == 5))
              (cond ((decide (s131 < s70)))
                (some (.inl true))
                ((slices_Contains_int_int v1.1.Done v94.Number).bind fun v95 =>
                some (.inl v95)))
              (some (.inl false)))
            (fun (s164 : Bool) =>
              cond (s164)
                (some (.inl s130))
                ((clone_Rec ((T_Rec.mk v94.Kind ((T_Mail.mk (T_Path.mk v94.Mail.From.Null v94.Mail.From.Local v94.Mail.From.Domain) v94.Mail.To v94.Mail.Body v94.Mail.Quiet v94.Mail.Helo v94.Mail.At)) v94.Id v94.Ids v94.Origin v94.Number v94.Offset v94.Data))).bind fun v101 =>
                (appO 208 s130 [(T_Rec.mk v101.Kind ((T_Mail.mk (T_Path.mk v101.Mail.From.Null v101.Mail.From.Local v101.Mail.From.Domain) v101.Mail.To v101.Mail.Body v101.Mail.Quiet v101.Mail.Helo v101.Mail.At)) v101.Id v101.Ids v101.Origin v101.Number v101.Offset v101.Data)]).bind fun v102 =>
                some (.inl v102))) some)
          (fun (s160 : (List T_Rec)) =>
            (some (IntKind.i64.wrap (s131 + 1))).bind fun v112 =>
            some (.inl (s160, v112))) some)
        (some (.inr (.inl s130))))
def lastF : Nat → Nat → List T_Rec → Nat
  | _, c, [] => c
  | i, c, r :: l => lastF (i + 1) (if r.Kind = 5 ∧ r.Offset = 0 then i else c) l
def leanF (k : Nat) (D : List Int) : Nat → List T_Rec → List T_Rec
  | _, [] => []
  | i, r :: l => if r.Kind = 5 ∧ (i < k ∨ r.Number ∈ D) then leanF k D (i + 1) l else r :: leanF k D (i + 1) l
theorem last_loop (m : List T_Rec) (hl : m.length < 1000000) : ∀ (d i c fuel : Nat), i + d = m.length → d < fuel → loopF (laS m) fuel ((c : Int), (i : Int)) = some (.inl ((lastF i c (m.drop i) : Nat) : Int))
  | d, i, c, 0, _, hf => absurd hf (Nat.not_lt_zero d)
  | 0, i, c, fuel + 1, hd, _ => by
    obtain rfl : i = m.length := by omega
    rw [List.drop_length]
    exact loop_exit (cnd_f (decide_eq_false (by omega)) rfl)
  | d + 1, i, c, fuel + 1, hd, hf => by
    have hi : i < m.length := by omega
    have hg : getO m i = some m[i] := by simp [getO, hi]
    have e1 : some (IntKind.i64.wrap ((i : Int) + 1)) = some ((i + 1 : Nat) : Int) := congrArg some (wrap_succ (n := i) (by omega))
    rw [List.drop_eq_getElem_cons hi]
    simp only [lastF]
    rw [← last_loop m hl d (i + 1) _ fuel (by omega) (by omega)]
    refine loop_next (cnd_t (decide_eq_true (by omega)) (bndL (s := (((if m[i].Kind = 5 ∧ m[i].Offset = 0 then i else c : Nat)) : Int)) (bnd (ixO_of hi) (bnd hg ?_)) (bnd e1 rfl)))
    by_cases h5 : m[i].Kind = 5
    · by_cases h0 : m[i].Offset = 0
      · rw [if_pos ⟨h5, h0⟩]
        exact bndL (s := true) (cnd_t (beq_iff_eq.2 h5) (inl_of (beq_iff_eq.2 h0))) rfl
      · rw [if_neg (fun h => h0 h.2)]
        exact bndL (s := false) (cnd_t (beq_iff_eq.2 h5) (inl_of (beq_eq_false_iff_ne.2 h0))) rfl
    · rw [if_neg (fun h => h5 h.1)]
      exact bndL (s := false) (cnd_f (beq_eq_false_iff_ne.2 h5) rfl) rfl
theorem keep_loop (m : List T_Rec) (hr : ∀ r ∈ m, Rok r) (hl : m.length < 1000000) (k : Nat) (v : T_Spool × Int) (hv : v.1.Done.length < 1000000) : ∀ (d i fuel : Nat) (a : List T_Rec), i + d = m.length → d < fuel → a.length ≤ i → loopF (leS m (k : Int) v) fuel (a, (i : Int)) = some (.inl (a ++ leanF k v.1.Done i (m.drop i)))
  | d, i, 0, a, _, hf, _ => absurd hf (Nat.not_lt_zero d)
  | 0, i, fuel + 1, a, hd, _, _ => by
    obtain rfl : i = m.length := by omega
    rw [List.drop_length]
    simp only [leanF, List.append_nil]
    exact loop_exit (cnd_f (decide_eq_false (by omega)) rfl)
  | d + 1, i, fuel + 1, a, hd, hf, ha => by
    have hi : i < m.length := by omega
    have hg : getO m i = some m[i] := by simp [getO, hi]
    have e1 : some (IntKind.i64.wrap ((i : Int) + 1)) = some ((i + 1 : Nat) : Int) := congrArg some (wrap_succ (n := i) (by omega))
    have hri := hr _ (List.getElem_mem hi)
    rw [List.drop_eq_getElem_cons hi]
    simp only [leanF]
    by_cases hc : m[i].Kind = 5 ∧ (i < k ∨ m[i].Number ∈ v.1.Done)
    · rw [if_pos hc, ← keep_loop m hr hl k v hv d (i + 1) fuel a (by omega) (by omega) (by omega)]
      refine loop_next (cnd_t (decide_eq_true (by omega)) (bndL (s := a) (bnd (ixO_of hi) (bnd hg (bndL (s := true) (cnd_t (beq_iff_eq.2 hc.1) ?_) rfl))) (bnd e1 rfl)))
      by_cases hik : i < k
      · exact cnd_t (decide_eq_true (by omega)) rfl
      · exact cnd_f (decide_eq_false (by omega)) (bnd (contains_eq _ _ (by omega)) (inl_of (decide_eq_true (hc.2.resolve_left hik))))
    · rw [if_neg hc]
      have hcat : a ++ m[i] :: leanF k v.1.Done (i + 1) (m.drop (i + 1)) = (a ++ [m[i]]) ++ leanF k v.1.Done (i + 1) (m.drop (i + 1)) := by simp
      rw [hcat, ← keep_loop m hr hl k v hv d (i + 1) fuel (a ++ [m[i]]) (by omega) (by omega) (by simp; omega)]
      refine loop_next (cnd_t (decide_eq_true (by omega)) (bndL (s := a ++ [m[i]]) (bnd (ixO_of hi) (bnd hg (bndL (s := false) ?_ (cnd_f rfl (bnd (clone_rec hri.1) (bnd (app_of (by simp; omega) (by simp; omega)) rfl)))))) (bnd e1 rfl)))
      by_cases h5 : m[i].Kind = 5
      · refine cnd_t (beq_iff_eq.2 h5) (cnd_f (decide_eq_false (fun h => hc ⟨h5, .inl (by omega)⟩)) (bnd (contains_eq _ _ (by omega)) (inl_of (decide_eq_false (fun h => hc ⟨h5, .inr h⟩)))))
      · exact cnd_f (beq_eq_false_iff_ne.2 h5) rfl
def leanS (l : List T_Rec) : List T_Rec := leanF (lastF 0 0 (l.take (foldS newSp l).2)) (foldS newSp l).1.Done 0 (l.take (foldS newSp l).2)
theorem lean_eq (l : List T_Rec) (hr : ∀ r ∈ l, Rok r) (hl : l.length < 999999) : spool_Lean l = some (leanS l) := by
  have hle := foldS_le newSp l
  have hin := foldS_inv l newSp 0 (by omega) hr inv_new
  have hs0 := sli_nat l (a := 0) (b := (foldS newSp l).2) (by omega) (by omega)
  rw [List.drop_zero, Nat.sub_zero] at hs0
  unfold spool_Lean
  refine bnd (fold_eq l hr hl) (bnd hs0 ?_)
  have h1 := last_loop (l.take (foldS newSp l).2) (by rw [List.length_take]; omega) (l.take (foldS newSp l).2).length 0 0 BIG (by omega) (by simp only [BIG, List.length_take]; omega)
  have hd := hin.done
  have h2 := keep_loop (l.take (foldS newSp l).2) (fun r h => hr r (List.mem_of_mem_take h)) (by rw [List.length_take]; omega) (lastF 0 0 (l.take (foldS newSp l).2)) ((foldS newSp l).1, ((foldS newSp l).2 : Int)) (by dsimp only; omega) (l.take (foldS newSp l).2).length 0 BIG [] (by omega) (by simp only [BIG, List.length_take]; omega) (by simp)
  rw [List.drop_zero] at h1 h2
  exact bndL h1 (bndL h2 rfl)
def nc (l : List T_Rec) : List T_Rec := l.filter (fun r => r.Kind != 5)
theorem lean_sub (k : Nat) (D : List Int) : ∀ (i : Nat) (l : List T_Rec), ∀ r ∈ leanF k D i l, r ∈ l
  | _, [], r, h => h
  | i, x :: l, r, h => by
    simp only [leanF] at h
    split at h
    · exact List.mem_cons_of_mem _ (lean_sub k D (i + 1) l r h)
    · rcases List.mem_cons.1 h with rfl | h
      · exact List.mem_cons_self
      · exact List.mem_cons_of_mem _ (lean_sub k D (i + 1) l r h)
theorem lean_len (k : Nat) (D : List Int) : ∀ (i : Nat) (l : List T_Rec), (leanF k D i l).length ≤ l.length
  | _, [] => Nat.le_refl _
  | i, r :: l => by
    have := lean_len k D (i + 1) l
    simp only [leanF]
    split
    · simp only [List.length_cons]; omega
    · simp only [List.length_cons]; omega
end Go.Abs.Sh
