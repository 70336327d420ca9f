import Derived.Test.YtgonanjdmdlkjaaDoorDotF
import Derived.Test.YtgonanjdmdlkjaaDoorDotE
namespace Go.Abs.Sh
set_option linter.unusedVariables false
set_option linter.unusedSimpArgs false
def lnStep (l : List (List Int)) : ((List Int) × (List Int) × Int) → Option (((List Int) × (List Int) × Int) ⊕ (((List Int) × (List Int)) ⊕ Bool)) := (fun ((s130, s131, s132) : (List Int) × (List Int) × Int) =>
        cond ((decide (s132 < (l.length : Int))))
          ((ixO s132 l.length).bind fun v3 =>
          (getO l v3).bind fun v4 =>
          cond ((decide (60 < (v4.length : Int))))
            (some (.inr (.inr (true))))
            (bindS (S := (Unit)) (A := (((List Int) × (List Int) × Int) ⊕ (((List Int) × (List Int)) ⊕ Bool)))
              (loopF (S := (Int)) (O := (Unit) ⊕ (((List Int) × (List Int) × Int) ⊕ (((List Int) × (List Int)) ⊕ Bool))) (fun (s204 : Int) =>
                (ixO s132 l.length).bind fun v6 =>
                (getO l v6).bind fun v7 =>
                cond ((decide (s204 < (v7.length : Int))))
                  (bindS (S := Bool) (A := ((Int) ⊕ ((Unit) ⊕ (((List Int) × (List Int) × Int) ⊕ (((List Int) × (List Int)) ⊕ Bool)))))
                    ((ixO s132 l.length).bind fun v9 =>
                    (getO l v9).bind fun v10 =>
                    (ixO s204 v10.length).bind fun v11 =>
                    (getO v10 v11).bind fun v12 =>
                    cond ((v12 == 13))
                      (some (.inl true))
                      ((ixO s132 l.length).bind fun v13 =>
                      (getO l v13).bind fun v14 =>
                      (ixO s204 v14.length).bind fun v15 =>
                      (getO v14 v15).bind fun v16 =>
                      some (.inl (v16 == 10))))
                    (fun (s218 : Bool) =>
                      cond (s218)
                        (some (.inr (.inr (.inr (.inr (true))))))
                        ((some (IntKind.i64.wrap (s204 + 1))).bind fun v22 =>
                        some (.inl v22))) some)
                  (some (.inr (.inl ()))))
                BIG 0)
              (fun (() : Unit) =>
                (ixO s132 l.length).bind fun v49 =>
                (getO l v49).bind fun v50 =>
                (appO 1 s130 v50).bind fun v51 =>
                (appO 1 v51 [13, 10]).bind fun v52 =>
                bindS (S := (List Int)) (A := (((List Int) × (List Int) × Int) ⊕ (((List Int) × (List Int)) ⊕ Bool)))
                  (bindS (S := Bool) (A := (((List Int)) ⊕ (((List Int) × (List Int) × Int) ⊕ (((List Int) × (List Int)) ⊕ Bool))))
                    ((ixO s132 l.length).bind fun v53 =>
                    (getO l v53).bind fun v54 =>
                    cond ((decide (0 < (v54.length : Int))))
                      ((ixO s132 l.length).bind fun v55 =>
                      (getO l v55).bind fun v56 =>
                      (ixO 0 v56.length).bind fun v57 =>
                      (getO v56 v57).bind fun v58 =>
                      some (.inl (v58 == 46)))
                      (some (.inl false)))
                    (fun (s232 : Bool) =>
                      cond (s232)
                        ((appO 1 s131 [46]).bind fun v64 =>
                        some (.inl v64))
                        (some (.inl s131))) some)
                  (fun (s228 : (List Int)) =>
                    (ixO s132 l.length).bind fun v74 =>
                    (getO l v74).bind fun v75 =>
                    (appO 1 s228 v75).bind fun v76 =>
                    (appO 1 v76 [13, 10]).bind fun v77 =>
                    (some (IntKind.i64.wrap (s132 + 1))).bind fun v78 =>
                    some (.inl (v52, v77, v78))) some) some))
          (some (.inr (.inl (s130, s131)))))
def gd (x : List Int) : Prop := x.length ≤ 60 ∧ cln x
theorem tot_le : ∀ (ls : List (List Int)) (c : Nat), (∀ x ∈ ls, x.length ≤ c) → tot ls ≤ (c + 2) * ls.length
  | [], c, _ => by simp [tot]
  | x :: ls, c, h => by
    have h1 := h x (by simp)
    have h2 := tot_le ls c fun y hy => h y (by simp [hy])
    simp only [tot, List.length_cons, Nat.mul_add, Nat.mul_one]; omega
theorem take_le {ls : List (List Int)} {m c : Nat} (h : ∀ i, (hi : i < ls.length) → i < m → (ls[i]'hi).length ≤ c) (i : Nat) (hi : i ≤ m) : (jn (ls.take i)).length ≤ (c + 2) * i := by
  rw [jn_len]
  have := tot_le (ls.take i) c (fun x hx => by
    obtain ⟨j, hj, rfl⟩ := List.mem_iff_getElem.1 hx
    rw [List.length_take] at hj
    rw [List.getElem_take]
    exact h j (by omega) (by omega))
  rw [List.length_take] at this
  exact Nat.le_trans this (Nat.mul_le_mul_left _ (Nat.min_le_left _ _))
theorem head_step (l : List (List Int)) {i : Nat} (hi : i < l.length) :
    ((ixO (i : Int) l.length).bind fun v53 =>
                    (getO l v53).bind fun v54 =>
                    cond ((decide (0 < (v54.length : Int))))
                      ((ixO (i : Int) l.length).bind fun v55 =>
                      (getO l v55).bind fun v56 =>
                      (ixO 0 v56.length).bind fun v57 =>
                      (getO v56 v57).bind fun v58 =>
                      some (.inl (v58 == 46)))
                      (some (.inl false)) : Option (Bool ⊕ (((List Int)) ⊕ (((List Int) × (List Int) × Int) ⊕ (((List Int) × (List Int)) ⊕ Bool))))) = some (.inl (decide ((l[i]'hi).head? = some 46))) := by
  refine bnd (ixO_of hi) (bnd (getO_of hi) ?_)
  cases hx : l[i] with
  | nil => exact cnd_f rfl rfl
  | cons y t =>
    refine cnd_t (decide_eq_true (by simp only [List.length_cons]; omega)) (bnd (ixO_of hi) (bnd (getO_of hi) ?_))
    rw [hx]
    refine bnd (x := 0) (by simp [ixO]) (bnd (x := y) rfl ?_)
    congr 2
    rw [Bool.eq_iff_iff]; simp
theorem end_stepG (x : List Int) {j : Nat} (hj : j < x.length) (l : List (List Int)) {i : Nat} (hi : i < l.length) {R : Type} (hx : x = l[i]'hi := by rfl) :
    ((ixO (j : Int) x.length).bind fun v11 =>
                    (getO x v11).bind fun v12 =>
                    cond ((v12 == 13))
                      (some (.inl true))
                      ((ixO (i : Int) l.length).bind fun v13 =>
                      (getO l v13).bind fun v14 =>
                      (ixO (j : Int) v14.length).bind fun v15 =>
                      (getO v14 v15).bind fun v16 =>
                      some (.inl (v16 == 10))) : Option (Bool ⊕ R)) = some (.inl (!noEnd (x[j]'hj))) := by
  subst hx
  refine bnd (ixO_of hj) (bnd (getO_of hj) ?_)
  unfold noEnd
  by_cases h : l[i][j] = 13
  · exact cnd_t (by rw [h]; rfl) (by simp [h])
  · have h2 : (l[i][j] == 13) = false := beq_eq_false_iff_ne.2 h
    refine cnd_f h2 (bnd (ixO_of hi) (bnd (getO_of hi) (bnd (ixO_of hj) (bnd (getO_of hj) ?_))))
    rw [h2]; simp
theorem ln_go (l : List (List Int)) (hn : l.length ≤ 40) {i : Nat} (hi : i < l.length) (hg : gd l[i]) (h1 : (jn (l.take i)).length ≤ 10000) (h2 : (jn ((l.map stf).take i)).length ≤ 10000) :
    lnStep l (jn (l.take i), jn ((l.map stf).take i), (i : Int)) = some (.inl (jn (l.take (i + 1)), jn ((l.map stf).take (i + 1)), ((i + 1 : Nat) : Int))) := by
  have hs := stf_len l[i]
  have h60 := hg.1
  have hj2 : jn ((l.map stf).take (i + 1)) = (jn ((l.map stf).take i) ++ stf l[i]) ++ [13, 10] := by
    rw [jn_take (l.map stf) (by simpa using hi)]; simp
  unfold lnStep
  refine cnd_t (decide_eq_true (by omega)) (bnd (ixO_of hi) (bnd (getO_of hi) (cnd_f (decide_eq_false (by omega)) ?_)))
  refine bndL (s := ()) ((loop_all (fun j => l[i][j]?.all noEnd) l[i].length (.inr (.inr true)) (by unfold BIG; omega) (fun j hj hp => ?_) (fun j hj hp => ?_) ?_).trans (congrArg some (if_pos ?_))) ?_
  · rw [get_of hj] at hp
    simp only [Option.all_some] at hp
    refine bnd (ixO_of hi) (bnd (getO_of hi) (cnd_t (decide_eq_true (by omega)) (bndL (s := !noEnd (l[i][j])) (bnd (ixO_of hi) (bnd (getO_of hi) (end_stepG l[i] hj l hi))) (cnd_f (by rw [hp]; rfl) (bnd (some_wrap (by omega) (by omega)) rfl)))))
  · rw [get_of hj] at hp
    simp only [Option.all_some] at hp
    refine bnd (ixO_of hi) (bnd (getO_of hi) (cnd_t (decide_eq_true (by omega)) (bndL (s := !noEnd (l[i][j])) (bnd (ixO_of hi) (bnd (getO_of hi) (end_stepG l[i] hj l hi))) (cnd_t (by rw [hp]; rfl) rfl))))
  · exact bnd (ixO_of hi) (bnd (getO_of hi) (cnd_f (decide_eq_false (by omega)) rfl))
  · exact fun j hj => by
      rw [get_of hj]
      have := hg.2 _ (List.getElem_mem hj)
      simp [noEnd, this.1, this.2]
  · refine bnd (ixO_of hi) (bnd (getO_of hi) (bnd (app_of (by omega) (by omega)) (bnd (app_of (by simp; omega) (by simp; omega)) ?_)))
    rw [← jn_take l hi]
    by_cases hd : l[i].head? = some 46
    · have e : stf l[i] = 46 :: l[i] := by unfold stf; rw [if_pos hd]
      refine bndL (s := jn ((l.map stf).take i) ++ [46]) (bndL (head_step l hi) (cnd_t (decide_eq_true hd) (bnd (app_of (by simp; omega) (by simp; omega)) rfl))) ?_
      refine bnd (ixO_of hi) (bnd (getO_of hi) (bnd (app_of (by simp; omega) (by simp; omega)) (bnd (app_of (by simp; omega) (by simp; omega)) (bnd (some_wrap (by omega) (by omega)) ?_))))
      rw [hj2, e]; simp
    · have e : stf l[i] = l[i] := by unfold stf; rw [if_neg hd]
      refine bndL (s := jn ((l.map stf).take i)) (bndL (head_step l hi) (cnd_f (decide_eq_false hd) rfl)) ?_
      refine bnd (ixO_of hi) (bnd (getO_of hi) (bnd (app_of (by omega) (by omega)) (bnd (app_of (by simp; omega) (by simp; omega)) (bnd (some_wrap (by omega) (by omega)) ?_))))
      rw [hj2, e]; simp
theorem ln_stop (l : List (List Int)) (hn : l.length ≤ 40) {i : Nat} (hi : i < l.length) (hg : ¬ gd l[i]) (A B : List Int) : lnStep l (A, B, (i : Int)) = some (.inr (.inr true)) := by
  unfold lnStep
  refine cnd_t (decide_eq_true (by omega)) (bnd (ixO_of hi) (bnd (getO_of hi) ?_))
  by_cases h60 : 60 < l[i].length
  · exact cnd_t (decide_eq_true (by omega)) rfl
  refine cnd_f (decide_eq_false (by omega)) ?_
  refine bndR (a := .inr (.inr true)) ((loop_all (fun j => l[i][j]?.all noEnd) l[i].length (.inr (.inr true)) (by unfold BIG; omega) (fun j hj hp => ?_) (fun j hj hp => ?_) ?_).trans (congrArg some (if_neg ?_))) rfl
  · rw [get_of hj] at hp
    simp only [Option.all_some] at hp
    refine bnd (ixO_of hi) (bnd (getO_of hi) (cnd_t (decide_eq_true (by omega)) (bndL (s := !noEnd (l[i][j])) (bnd (ixO_of hi) (bnd (getO_of hi) (end_stepG l[i] hj l hi))) (cnd_f (by rw [hp]; rfl) (bnd (some_wrap (by omega) (by omega)) rfl)))))
  · rw [get_of hj] at hp
    simp only [Option.all_some] at hp
    refine bnd (ixO_of hi) (bnd (getO_of hi) (cnd_t (decide_eq_true (by omega)) (bndL (s := !noEnd (l[i][j])) (bnd (ixO_of hi) (bnd (getO_of hi) (end_stepG l[i] hj l hi))) (cnd_t (by rw [hp]; rfl) rfl))))
  · exact bnd (ixO_of hi) (bnd (getO_of hi) (cnd_f (decide_eq_false (by omega)) rfl))
  · exact fun h => hg ⟨by omega, end_cln h⟩
theorem dotsLines_true (l : List (List Int)) (hw : wfL (wfL (wfI .u8)) l) : wherrylaw14_DotsLines l = some true := by
  have hb : ∀ x ∈ l, byt x := fun x hx => byt_of_wf (hw.2 x hx)
  unfold wherrylaw14_DotsLines
  by_cases h1 : 40 < l.length
  · exact cnd_t (decide_eq_true (by omega)) rfl
  refine cnd_f (decide_eq_false (by omega)) ?_
  have go : ∀ m, m ≤ l.length → (∀ i, (hi : i < l.length) → i < m → gd (l[i]'hi)) → ∀ i, i < m → lnStep l (jn (l.take i), jn ((l.map stf).take i), (i : Int)) = some (.inl (jn (l.take (i + 1)), jn ((l.map stf).take (i + 1)), ((i + 1 : Nat) : Int))) := by
    intro m hm hg i hi
    have t1 := take_le (ls := l) (m := m) (c := 60) (fun j hj hjm => (hg j hj hjm).1) i (by omega)
    have t2 := take_le (ls := l.map stf) (m := m) (c := 61) (fun j hj hjm => by
      rw [List.getElem_map]
      have := stf_len (l[j]'(by simpa using hj))
      have := (hg j (by simpa using hj) hjm).1
      omega) i (by omega)
    exact ln_go l (by omega) (by omega) (hg i (by omega) hi) (by omega) (by omega)
  by_cases hall : ∀ i, (hi : i < l.length) → gd (l[i]'hi)
  · have hc : ∀ x ∈ l, cln x := fun x hx => by
      obtain ⟨j, hj, rfl⟩ := List.mem_iff_getElem.1 hx
      exact (hall j hj).2
    have htot : tot l ≤ 62 * l.length := tot_le l 60 fun x hx => by
      obtain ⟨j, hj, rfl⟩ := List.mem_iff_getElem.1 hx
      exact (hall j hj).1
    have hts := tot_stf l
    have hk := sd_len l
    refine bndL (s := (jn l, jn (l.map stf))) (loop_from (f := lnStep l) (fun i => (jn (l.take i), jn ((l.map stf).take i), (i : Int))) l.length BIG rfl (by unfold BIG; omega) (fun i hi => go l.length (Nat.le_refl _) (fun j hj _ => hall j hj) i hi) ?_) ?_
    · unfold lnStep
      refine cnd_f (decide_eq_false (by show ¬ ((l.length : Int) < _); omega)) ?_
      rw [List.take_length, List.take_of_length_le (by simp)]
    refine bnd (lines14 (lns_jn hc) (jn_byt hb) (by rw [jn_len]; omega)) (bnd (x := (jn (sd l), 0)) (stuff_ok hc hb (by omega)) ?_)
    refine bndL (s := false) (bnd (check_ok hc hb (by omega)) (cnd_f rfl (cnd_f rfl (cnd_f (by simp) (bnd (x := jn (sd l)) (by
      have e : jn (sd l) = jn (l.map stf) ++ [46, 13, 10] := by unfold sd; rw [jn_app]; simp [jn]
      rw [e]; exact app_of (by rw [jn_len]; simp; omega) (by rw [jn_len]; simp; omega)) (bnd (x := true) (by
        show wherrykeep_Bytes (jn (sd l)) _ = _
        rw [keepBytes_eq _ _ (by omega)]; simp) rfl)))))) (cnd_f rfl ?_)
    refine bndL (s := ()) (loop_from (fun i => (i : Int)) l.length BIG rfl (by unfold BIG; omega) (fun i hi => ?_) (cnd_f (decide_eq_false (by omega)) rfl)) (bnd wakes14 rfl)
    have h60 := (hall i hi).1
    exact cnd_t (decide_eq_true (by omega)) (bnd (ixO_of hi) (bnd (getO_of hi) (bnd (ixO_of hi) (bnd (getO_of hi) (bnd (x := true) (by rw [keepBytes_eq _ _ (by omega)]; simp) (cnd_f rfl (bnd (some_wrap (by omega) (by omega)) rfl)))))))
  · open Classical in
    rcases first_fail (fun i => decide (∃ hi : i < l.length, gd (l[i]'hi))) l.length with h | ⟨k, h2, h3, h4⟩
    · exact absurd (fun i hi => (of_decide_eq_true (h i hi)).2) hall
    · refine bndR (a := true) (loop_from (f := lnStep l) (fun i => (jn (l.take i), jn ((l.map stf).take i), (i : Int))) k BIG rfl (by unfold BIG; omega) (go k (by omega) fun j hj hjk => (of_decide_eq_true (h3 j hjk)).2) (ln_stop l (by omega) h2 (fun hg => (of_decide_eq_false h4) ⟨h2, hg⟩) _ _)) rfl
end Go.Abs.Sh
