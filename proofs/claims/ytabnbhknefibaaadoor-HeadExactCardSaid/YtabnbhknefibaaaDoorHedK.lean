import Derived.Test.YtabnbhknefibaaaDoorHedJ
import Derived.Test.YtabnbhknefibaaaDoorBodM
namespace Go.Abs.Sh
set_option linter.unusedVariables false
set_option linter.unusedSimpArgs false
theorem end_at (A l R : List Int) (hc : cln l) (hl : (A ++ (l ++ 13 :: 10 :: R)).length < 4611686018427387904) : wherryref11_end (A ++ (l ++ 13 :: 10 :: R)) (A.length : Int) = some ((A.length + l.length : Nat) : Int) := by
  obtain ⟨B, hB⟩ : ∃ B, A ++ (l ++ 13 :: 10 :: R) = B := ⟨_, rfl⟩
  have hlen : B.length = A.length + (l.length + (R.length + 2)) := by rw [← hB]; simp
  have hget : ∀ i (hi : i < l.length), getO B (A.length + i) = some l[i] := by
    intro i hi
    show B[A.length + i]? = _
    rw [← hB, List.getElem?_append_right (by omega), Nat.add_sub_cancel_left, List.getElem?_append_left hi, List.getElem?_eq_getElem hi]
  have hget0 : getO B (A.length + l.length) = some 13 := by
    show B[A.length + l.length]? = _
    rw [← hB, List.getElem?_append_right (by omega), Nat.add_sub_cancel_left, List.getElem?_append_right (by omega)]
    simp
  have hget1 : getO B (A.length + l.length + 1) = some 10 := by
    show B[A.length + l.length + 1]? = _
    rw [← hB, List.getElem?_append_right (by omega), show A.length + l.length + 1 - A.length = l.length + 1 by omega, List.getElem?_append_right (by omega)]
    simp
  rw [hB] at hl ⊢
  unfold wherryref11_end
  refine bndR (a := ((A.length + l.length : Nat) : Int)) (loop_from (fun i => ((A.length + i : Nat) : Int)) l.length BIG (by simp) (by unfold BIG; omega) (fun i hi => ?_) ?_) rfl
  · have w : some (IntKind.i64.wrap (((A.length + i : Nat) : Int) + 1)) = some ((A.length + (i + 1) : Nat) : Int) := by rw [wrap_i (by omega) (by omega)]; congr 1
    have hne := hc l[i] (List.getElem_mem hi)
    exact bnd w (cnd_t (decide_eq_true (by omega)) (bndL (s := false) (bnd (ixO_of (by omega)) (bnd (hget i hi) (cnd_f (beq_eq_false_iff_ne.2 hne.1) rfl))) (cnd_f rfl (bnd w rfl))))
  · have w : some (IntKind.i64.wrap (((A.length + l.length : Nat) : Int) + 1)) = some ((A.length + l.length + 1 : Nat) : Int) := by rw [wrap_i (by omega) (by omega)]; congr 1
    exact bnd w (cnd_t (decide_eq_true (by omega)) (bndL (s := true) (bnd (ixO_of (by omega)) (bnd hget0 (cnd_t rfl (bnd w (bnd (ixO_of (by omega)) (bnd hget1 rfl)))))) (cnd_t rfl rfl)))
theorem end_none (b : List Int) (hl : b.length < 4611686018427387904) : wherryref11_end b (b.length : Int) = some (-1) := by
  unfold wherryref11_end
  exact bndL (s := ()) (loop_from (fun i => (b.length : Int)) 0 BIG rfl (by unfold BIG; omega) (fun i hi => by omega) (bnd (some_wrap (by omega) (by omega)) (cnd_f (decide_eq_false (by omega)) rfl))) rfl
def colR (l : List Int) : Int := match firB l with | some e => (e : Int) | none => -1
theorem colon_eq (l : List Int) (hl : l.length < 4611686018427387904) : wherryref11_colon l = some (colR l) := by
  have hstep : ∀ i (hi : i < l.length), l[i] ≠ 58 → okc l[i] = true → ∀ R : Type, True := fun _ _ _ _ _ => trivial
  rcases first_fail (fun i => if h : i < l.length then (decide (l[i] ≠ 58) && okc l[i]) else false) l.length with hall | ⟨k, hk, hpre, hbad⟩
  · have hp : ∀ i (hi : i < l.length), l[i] ≠ 58 ∧ okc l[i] = true := fun i hi => by
      have := hall i hi
      rw [dif_pos hi, Bool.and_eq_true, decide_eq_true_eq] at this
      exact this
    have hno : idx1 58 l = none := idx1_none.2 fun hm => by
      obtain ⟨i, hi, e⟩ := List.getElem_of_mem hm
      exact (hp i hi).1 e
    have hr : colR l = -1 := by unfold colR firB; rw [hno]
    rw [hr]
    unfold wherryref11_colon
    refine bndL (s := ()) (loop_from (fun i => (i : Int)) l.length BIG rfl (by unfold BIG; omega) (fun i hi => ?_) (cnd_f (decide_eq_false (by omega)) rfl)) rfl
    obtain ⟨h58, hok⟩ := hp i hi
    simp only [okc, Bool.and_eq_true, decide_eq_true_eq] at hok
    exact cnd_t (decide_eq_true (by omega)) (bnd (ixO_of hi) (bnd (getO_of hi) (cnd_f (beq_eq_false_iff_ne.2 h58) (bndL (s := false) (bnd (ixO_of hi) (bnd (getO_of hi) (cnd_f (decide_eq_false (by omega)) (bnd (ixO_of hi) (bnd (getO_of hi) (by rw [decide_eq_false (by omega)])))))) (cnd_f rfl (bnd (some_wrap (by omega) (by omega)) rfl))))))
  · have hp : ∀ i (hi : i < k), l[i]'(by omega) ≠ 58 ∧ okc (l[i]'(by omega)) = true := fun i hi => by
      have := hpre i hi
      rw [dif_pos (show i < l.length by omega), Bool.and_eq_true, decide_eq_true_eq] at this
      exact this
    have hgo : ∀ i, i < k → (fun (s25 : Int) =>
      cond ((decide (s25 < (l.length : Int))))
        ((ixO s25 l.length).bind fun v2 =>
        (getO l v2).bind fun v3 =>
        cond ((v3 == 58))
          (cond ((s25 == 0))
            (some (.inr (.inr ((-1)))))
            (some (.inr (.inr (s25)))))
          (bindS (S := Bool) (A := ((Int) ⊕ ((Unit) ⊕ Int)))
            ((ixO s25 l.length).bind fun v6 =>
            (getO l v6).bind fun v7 =>
            cond ((decide (v7 < 33)))
              (some (.inl true))
              ((ixO s25 l.length).bind fun v8 =>
              (getO l v8).bind fun v9 =>
              some (.inl ((decide (126 < v9))))))
            (fun (s43 : Bool) =>
              cond (s43)
                (some (.inr (.inr ((-1)))))
                ((some (IntKind.i64.wrap (s25 + 1))).bind fun v15 =>
                some (.inl v15))) some))
        (some (.inr (.inl ())))) (i : Int) = some (.inl ((i + 1 : Nat) : Int)) := by
      intro i hi
      obtain ⟨h58, hok⟩ := hp i hi
      have hi2 : i < l.length := by omega
      simp only [okc, Bool.and_eq_true, decide_eq_true_eq] at hok
      exact cnd_t (decide_eq_true (by omega)) (bnd (ixO_of hi2) (bnd (getO_of hi2) (cnd_f (beq_eq_false_iff_ne.2 h58) (bndL (s := false) (bnd (ixO_of hi2) (bnd (getO_of hi2) (cnd_f (decide_eq_false (by omega)) (bnd (ixO_of hi2) (bnd (getO_of hi2) (by rw [decide_eq_false (by omega)])))))) (cnd_f rfl (bnd (some_wrap (by omega) (by omega)) rfl))))))
    have hnk : (58 : Int) ∉ l.take k := fun hm => by
      obtain ⟨i, hi, e⟩ := List.getElem_of_mem hm
      rw [List.length_take] at hi
      rw [List.getElem_take] at e
      exact (hp i (by omega)).1 e
    have hsplit : l = l.take k ++ l[k] :: l.drop (k + 1) := by
      rw [← List.drop_eq_getElem_cons hk, List.take_append_drop]
    rw [dif_pos hk] at hbad
    by_cases h58 : l[k] = 58
    · have hi : idx1 58 l = some k := by
        have := idx1_app (c := 58) (p := l.take k) (r := l.drop (k + 1)) hnk
        rw [h58] at hsplit
        rw [← hsplit] at this
        rw [this, List.length_take, Nat.min_eq_left (by omega)]
      have hallk : (l.take k).all okc = true := by
        rw [List.all_eq_true]
        intro x hx
        obtain ⟨i, hi, rfl⟩ := List.getElem_of_mem hx
        rw [List.length_take] at hi
        rw [List.getElem_take]
        exact (hp i (by omega)).2
      by_cases h0 : k = 0
      · subst h0
        have hr : colR l = -1 := by unfold colR firB; rw [hi]; simp
        rw [hr]
        unfold wherryref11_colon
        exact bndR (a := -1) (loop_from (fun i => (i : Int)) 0 BIG rfl (by unfold BIG; omega) hgo (cnd_t (decide_eq_true (by omega)) (bnd (ixO_of hk) (bnd (getO_of hk) (cnd_t (by rw [h58]; rfl) (cnd_t rfl rfl)))))) rfl
      · have hr : colR l = (k : Int) := by unfold colR firB; rw [hi]; simp only; rw [if_pos ⟨by omega, hallk⟩]
        rw [hr]
        unfold wherryref11_colon
        exact bndR (a := (k : Int)) (loop_from (fun i => (i : Int)) k BIG rfl (by unfold BIG; omega) hgo (cnd_t (decide_eq_true (by omega)) (bnd (ixO_of hk) (bnd (getO_of hk) (cnd_t (by rw [h58]; rfl) (cnd_f (beq_eq_false_iff_ne.2 (by omega)) rfl)))))) rfl
    · have hb : okc l[k] = false := by
        rw [decide_eq_true h58, Bool.true_and] at hbad
        exact hbad
      have hr : colR l = -1 := by
        unfold colR firB
        cases hi : idx1 58 l with
        | none => rfl
        | some e =>
          simp only
          rw [if_neg]
          rintro ⟨h1, h2⟩
          obtain ⟨g1, g2, g3⟩ := idx1_some hi
          have hke : k < e := by
            apply Classical.byContradiction
            intro hn
            rcases Nat.lt_or_ge e k with h | h
            · have he : l[e]? = (l.take e ++ 58 :: l.drop (e + 1))[e]? := congrArg (fun m => m[e]?) g2
              rw [List.getElem?_append_right (by rw [List.length_take]; omega), List.length_take, Nat.min_eq_left (by omega), Nat.sub_self, List.getElem?_cons_zero, List.getElem?_eq_getElem (by omega)] at he
              exact (hp e h).1 (Option.some.inj he)
            · have hek : e = k := by omega
              subst hek
              have he : l[e]? = (l.take e ++ 58 :: l.drop (e + 1))[e]? := congrArg (fun m => m[e]?) g2
              rw [List.getElem?_append_right (by rw [List.length_take]; omega), List.length_take, Nat.min_eq_left (by omega), Nat.sub_self, List.getElem?_cons_zero, List.getElem?_eq_getElem (by omega)] at he
              exact h58 (Option.some.inj he)
          have := List.all_eq_true.1 h2 l[k] (by
            have hm : (l.take e)[k]'(by rw [List.length_take]; omega) ∈ l.take e := List.getElem_mem _
            rwa [List.getElem_take] at hm)
          rw [hb] at this; cases this
      rw [hr]
      unfold wherryref11_colon
      refine bndR (a := -1) (loop_from (fun i => (i : Int)) k BIG rfl (by unfold BIG; omega) hgo ?_) rfl
      refine cnd_t (decide_eq_true (by omega)) (bnd (ixO_of hk) (bnd (getO_of hk) (cnd_f (beq_eq_false_iff_ne.2 h58) (bndL (s := true) (bnd (ixO_of hk) (bnd (getO_of hk) ?_)) (cnd_t rfl rfl)))))
      by_cases h33 : l[k] < 33
      · exact cnd_t (decide_eq_true h33) rfl
      · refine cnd_f (decide_eq_false h33) (bnd (ixO_of hk) (bnd (getO_of hk) ?_))
        simp only [okc, Bool.and_eq_false_iff, decide_eq_false_iff_not] at hb
        rw [decide_eq_true (by omega)]
def rscS (b : List Int) : ((List T_Field) × Int) → Option (((List T_Field) × Int) ⊕ (Unit ⊕ ((List T_Field) × Int))) := (fun ((s68, s69) : (List T_Field) × Int) =>
      bindS (S := (List T_Field) × Int) (A := (((List T_Field) × Int) ⊕ ((Unit) ⊕ ((List T_Field) × Int))))
        ((wherryref11_end b s69).bind fun v1 =>
        cond ((decide (v1 < 0)))
          (some (.inr (.inr (.inr ((s68, s69))))))
          ((sliO b s69 v1).bind fun v3 =>
          cond (((v3.length : Int) == 0))
            ((some (IntKind.i64.wrap (v1 + 2))).bind fun v5 =>
            some (.inr (.inr (.inr ((s68, v5))))))
            (bindS (S := Bool) (A := (((List T_Field) × Int) ⊕ (((List T_Field) × Int) ⊕ ((Unit) ⊕ ((List T_Field) × Int)))))
              (cond ((decide (0 < (s68.length : Int))))
                ((ixO 0 v3.length).bind fun v6 =>
                (getO v3 v6).bind fun v7 =>
                cond ((v7 == 32))
                  (some (.inl true))
                  ((ixO 0 v3.length).bind fun v8 =>
                  (getO v3 v8).bind fun v9 =>
                  some (.inl (v9 == 9))))
                (some (.inl false)))
              (fun (s112 : Bool) =>
                cond (s112)
                  ((some (IntKind.i64.wrap ((s68.length : Int) - 1))).bind fun v15 =>
                  (ixO v15 s68.length).bind fun v47 =>
                  (getO s68 v47).bind fun v48 =>
                  (some (bstr v3)).bind fun v49 =>
                  (catO v48.Body v49).bind fun v50 =>
                  (getO s68 v47).bind fun v51 =>
                  (some (s68.set v47 (T_Field.mk v51.Name v50))).bind fun v52 =>
                  (some (IntKind.i64.wrap (v1 + 2))).bind fun v53 =>
                  some (.inl (v52, v53)))
                  ((wherryref11_colon v3).bind fun v16 =>
                  cond ((decide (v16 < 0)))
                    (some (.inr (.inr (.inr ((s68, s69))))))
                    ((sliO v3 0 v16).bind fun v18 =>
                    (some (bstr v18)).bind fun v19 =>
                    (some (IntKind.i64.wrap (v16 + 1))).bind fun v20 =>
                    (sliO v3 v20 (v3.length : Int)).bind fun v21 =>
                    (some (bstr v21)).bind fun v22 =>
                    (appO 32 s68 [(T_Field.mk v19 v22)]).bind fun v23 =>
                    (some (IntKind.i64.wrap (v1 + 2))).bind fun v24 =>
                    some (.inl (v23, v24))))) some)))
        (fun ((s105, s106) : (List T_Field) × Int) =>
          some (.inl (s105, s106))) some)
theorem con_head {l : List Int} (hne : l ≠ []) {K : Option (Bool ⊕ (((List T_Field) × Int) ⊕ (((List T_Field) × Int) ⊕ ((Unit) ⊕ ((List T_Field) × Int)))))} : ((ixO 0 l.length).bind fun v6 =>
                (getO l v6).bind fun v7 =>
                cond ((v7 == 32))
                  (some (.inl true))
                  ((ixO 0 l.length).bind fun v8 =>
                  (getO l v8).bind fun v9 =>
                  some (.inl (v9 == 9))) : Option (Bool ⊕ (((List T_Field) × Int) ⊕ (((List T_Field) × Int) ⊕ ((Unit) ⊕ ((List T_Field) × Int)))))) = some (.inl (conB l)) := by
  cases l with
  | nil => exact absurd rfl hne
  | cons x l =>
    have hx : ixO 0 (x :: l).length = some 0 := ixO_of (i := 0) (by simp)
    have hg : getO (x :: l) 0 = some x := rfl
    refine bnd hx (bnd hg ?_)
    by_cases h32 : x = 32
    · subst h32; rfl
    · refine cnd_f (beq_eq_false_iff_ne.2 h32) (bnd hx (bnd hg ?_))
      have : conB (x :: l) = (x == 9) := by
        unfold conB
        rw [List.head?_cons, decide_eq_false (fun h => h32 (Option.some.inj h)), Bool.false_or, Bool.eq_iff_iff, decide_eq_true_eq, beq_iff_eq]
        exact ⟨fun h => Option.some.inj h, fun h => congrArg some h⟩
      rw [this]
theorem rsc_go {p q : List (List Int)} {l : List Int} {fs : List T_Field} (hc : cln l) (hy : byt l) (hl : tot (p ++ l :: q) < 100000) (hf : okF (tot p) fs) :
    rscS (jn (p ++ l :: q)) (fs, (tot p : Int)) = match stp fs (bstr l) with
      | some fs' => some (.inl (fs', ((tot p + (l.length + 2) : Nat) : Int)))
      | none => some (.inr (.inr (fs, (((if l = [] then tot p + 2 else tot p) : Nat) : Int)))) := by
  have hlen : tot (p ++ l :: q) = tot p + (l.length + 2 + tot q) := by rw [tot_app]; rfl
  have hj : jn (p ++ l :: q) = jn p ++ (l ++ 13 :: 10 :: jn q) := by rw [jn_app]; rfl
  have hjl := jn_len (p ++ l :: q)
  have he : wherryref11_end (jn (p ++ l :: q)) (tot p : Int) = some ((tot p + l.length : Nat) : Int) := by
    have := end_at (jn p) l (jn q) hc (by rw [← hj]; omega)
    rw [← hj, jn_len] at this
    exact this
  have hs : sliO (jn (p ++ l :: q)) (tot p : Int) ((tot p + l.length : Nat) : Int) = some l := by
    rw [sli_nat _ (by omega) (by omega), hj, ← jn_len p, List.drop_left, Nat.add_sub_cancel_left, List.take_left]
  have w : some (IntKind.i64.wrap (((tot p + l.length : Nat) : Int) + 2)) = some ((tot p + (l.length + 2) : Nat) : Int) := by rw [wrap_i (by omega) (by omega)]; congr 1
  have hcx : conx (bstr l) = conB l := by
    have := conx_char (bstr l) (by rw [bstr_size]; omega)
    rwa [sbytes_bstr hy] at this
  have hfx := fsx_char (bstr l) (by rw [bstr_size]; omega)
  rw [sbytes_bstr hy] at hfx
  unfold rscS
  by_cases hne : l = []
  · subst hne
    rw [stp_nil]
    exact bndR (a := .inr (.inr (fs, ((tot p + 2 : Nat) : Int)))) (bnd he (cnd_f (decide_eq_false (by omega)) (bnd hs (cnd_t rfl (bnd w rfl))))) rfl
  have hlp : 0 < l.length := List.length_pos_iff.2 hne
  have hcon : (cond ((decide (0 < (fs.length : Int))))
                ((ixO 0 l.length).bind fun v6 =>
                (getO l v6).bind fun v7 =>
                cond ((v7 == 32))
                  (some (.inl true))
                  ((ixO 0 l.length).bind fun v8 =>
                  (getO l v8).bind fun v9 =>
                  some (.inl (v9 == 9))))
                (some (.inl false)) : Option (Bool ⊕ (((List T_Field) × Int) ⊕ (((List T_Field) × Int) ⊕ ((Unit) ⊕ ((List T_Field) × Int)))))) = some (.inl (decide (conB l = true ∧ 0 < fs.length))) := by
    by_cases h0 : 0 < fs.length
    · refine cnd_t (decide_eq_true (by omega)) ((con_head hne (K := none)).trans ?_)
      cases hcb : conB l <;> simp [h0]
    · refine cnd_f (decide_eq_false (by omega)) ?_
      rw [decide_eq_false (fun h => h0 h.2)]
  unfold stp
  rw [hcx, hfx]
  by_cases hcc : conB l = true ∧ 0 < fs.length
  · rw [if_pos hcc]
    rw [decide_eq_true hcc] at hcon
    have hg : getO fs (fs.length - 1) = some (lastF fs) := lastF_get hcc.2
    have hbody : (lastF fs).Body.size ≤ tot p := hf.2 _ (List.mem_of_getElem? hg)
    have hfl := hf.1
    have w0 : some (IntKind.i64.wrap ((fs.length : Int) - 1)) = some ((fs.length - 1 : Nat) : Int) := by rw [wrap_i (by omega) (by omega)]; congr 1; omega
    exact bndL (s := (fs.set (fs.length - 1) (T_Field.mk (lastF fs).Name ((lastF fs).Body ++ bstr l)), ((tot p + (l.length + 2) : Nat) : Int))) (bnd he (cnd_f (decide_eq_false (by omega)) (bnd hs (cnd_f (beq_eq_false_iff_ne.2 (by omega)) (bndL hcon (cnd_t rfl (bnd w0 (bnd (ixO_of (by omega)) (bnd hg (bnd rfl (bnd (ct15 (by rw [bstr_size]; omega)) (bnd hg (bnd rfl (bnd w rfl)))))))))))))) rfl
  · rw [if_neg hcc]
    rw [decide_eq_false hcc] at hcon
    have hcol := colon_eq l (by omega)
    unfold colR at hcol
    cases hfi : firB l with
    | none =>
      rw [hfi] at hcol
      simp only [Bool.false_eq_true, if_false]
      rw [if_neg hne]
      exact bndR (a := .inr (.inr (fs, (tot p : Int)))) (bnd he (cnd_f (decide_eq_false (by omega)) (bnd hs (cnd_f (beq_eq_false_iff_ne.2 (by omega)) (bndL hcon (cnd_f rfl (bnd hcol (cnd_t rfl rfl)))))))) rfl
    | some e =>
      rw [hfi] at hcol
      have hel : e + 1 ≤ l.length := by
        unfold firB at hfi
        cases hi : idx1 58 l with
        | none => rw [hi] at hfi; cases hfi
        | some e2 =>
          rw [hi] at hfi
          simp only at hfi
          split at hfi
          · cases hfi; exact (idx1_some hi).1
          · cases hfi
      have hfl := hf.1
      have s1 : sliO l 0 (e : Int) = some (l.take e) := by
        have := sli_nat l (a := 0) (b := e) (by omega) (by omega)
        simpa using this
      have s2 : sliO l ((e : Int) + 1) (l.length : Int) = some (l.drop (e + 1)) := by
        have := sli_nat l (a := e + 1) (b := l.length) (by omega) (Nat.le_refl _)
        rw [List.take_of_length_le (by simp)] at this
        simpa using this
      simp only [if_true]
      exact bndL (s := (fs ++ [T_Field.mk (bstr (l.take e)) (bstr (l.drop (e + 1)))], ((tot p + (l.length + 2) : Nat) : Int))) (bnd he (cnd_f (decide_eq_false (by omega)) (bnd hs (cnd_f (beq_eq_false_iff_ne.2 (by omega)) (bndL hcon (cnd_f rfl (bnd hcol (cnd_f (decide_eq_false (by dsimp only; omega)) (bnd s1 (bnd rfl (bnd (some_wrap (by dsimp only; omega) (by dsimp only; omega)) (bnd s2 (bnd rfl (bnd (app_of (by simp; omega) (by simp; omega)) (bnd w rfl))))))))))))))) rfl
theorem rsc_loop : ∀ (q p : List (List Int)) (fs : List T_Field) (fuel : Nat), (∀ l ∈ q, cln l) → (∀ l ∈ q, byt l) → tot (p ++ q) < 100000 → q.length < fuel → okF (tot p) fs →
    loopF (rscS (jn (p ++ q))) fuel (fs, (tot p : Int)) = some (.inr ((scn q fs (tot p)).1, (((scn q fs (tot p)).2 : Nat) : Int)))
  | [], p, fs, fuel, _, _, hl, hf, _ => by
    obtain ⟨f, rfl⟩ : ∃ f, fuel = f + 1 := ⟨fuel - 1, by simp at hf; omega⟩
    refine loop_exit ?_
    rw [List.append_nil] at hl ⊢
    have he := end_none (jn p) (by rw [jn_len]; omega)
    rw [jn_len] at he
    unfold rscS
    exact bndR (a := .inr (.inr (fs, (tot p : Int)))) (bnd he (cnd_t rfl rfl)) rfl
  | l :: q, p, fs, fuel, hc, hy, hl, hf, ho => by
    obtain ⟨f, rfl⟩ : ∃ f, fuel = f + 1 := ⟨fuel - 1, by simp at hf; omega⟩
    have hg := rsc_go (hc l (by simp)) (hy l (by simp)) hl ho
    simp only [scn]
    have hll : l.length < 100000 := by rw [tot_app] at hl; simp only [tot] at hl; omega
    cases hs : stp fs (bstr l) with
    | none =>
      rw [hs] at hg
      rw [loop_exit hg]
    | some fs' =>
      rw [hs] at hg
      rw [loop_next hg]
      have ho2 := stp_ok (by rw [bstr_size]; omega) ho hs
      rw [bstr_size] at ho2
      have e1 : p ++ l :: q = (p ++ [l]) ++ q := by simp
      have e2 : tot (p ++ [l]) = tot p + (l.length + 2) := by rw [tot_app]; rfl
      have := rsc_loop q (p ++ [l]) fs' f (fun m hm => hc m (by simp [hm])) (fun m hm => hy m (by simp [hm])) (by rw [← e1]; exact hl) (by simp at hf; omega) (by rw [e2]; exact ho2)
      rw [← e1, e2] at this
      exact this
theorem rscan_eq {ls : List (List Int)} (hc : ∀ l ∈ ls, cln l) (hb : ∀ l ∈ ls, byt l) (ht : tot ls < 100000) : wherryref11_Scan (jn ls) = some ((scn ls [] 0).1, (((scn ls [] 0).2 : Nat) : Int)) := by
  have hll := len_tot15 ls
  have := rsc_loop ls [] [] BIG hc hb ht (by unfold BIG; omega) ⟨by simp, fun f hf => by simp at hf⟩
  unfold wherryref11_Scan
  exact bndR this rfl
theorem rhops_eq {ls : List (List Int)} (hc : ∀ l ∈ ls, cln l) (hb : ∀ l ∈ ls, byt l) (ht : tot ls < 100000) : wherryref11_Hops (jn ls) = some (((scn ls [] 0).1.countP hopB : Nat) : Int) := by
  have hn : namOK (scn ls [] 0).1 := scn_nam ls [] 0 (fun l hl => by have := tot_mem hl; omega) (fun f hf => by simp at hf)
  have hl : (scn ls [] 0).1.length < 1000000 := by
    have := scan_len ls [] 0
    have h2 := len_tot15 ls
    simp at this; omega
  generalize hfs : (scn ls [] 0).1 = fs at hn hl
  unfold wherryref11_Hops
  refine bnd (rscan_eq hc hb ht) (bndL (s := ((fs.countP hopB : Nat) : Int)) ?_ rfl)
  simp only [hfs]
  refine loop_from (fun i => ((((fs.take i).countP hopB : Nat) : Int), (i : Int))) fs.length BIG rfl (by unfold BIG; omega) (fun i hi => ?_) ?_
  · have hk : (fs.take i).countP hopB < 1000000 := by
      have := List.countP_le_length (p := hopB) (l := fs.take i)
      rw [List.length_take] at this; omega
    exact cnd_t (decide_eq_true (by omega)) (hop_go (fun s hs => rfold_eq s (by omega)) hi hn hl hk (bnd (some_wrap (by omega) (by omega)) (by rw [← hop_take hi]; rfl)))
  · exact cnd_f (decide_eq_false (by omega)) (by rw [List.take_length])
theorem rstamp_eq (helo site : ByteArray) (n : Nat) (h : n ≤ 1099511627776) (h1 : helo.size ≤ 1000000) (h2 : site.size ≤ 1000000) : wherryref11_Stamp helo site (n : Int) = some (lineF (stF helo site n) ++ [13, 10]) := by
  have hd := (dgs_of h).2
  have zA : (⟨#[82, 101, 99, 101, 105, 118, 101, 100, 58, 32, 102, 114, 111, 109, 32]⟩ : ByteArray).size = 15 := rfl
  have zB : (⟨#[32, 98, 121, 32]⟩ : ByteArray).size = 4 := rfl
  have zC : (⟨#[32, 119, 105, 116, 104, 32, 69, 83, 77, 84, 80, 59, 32]⟩ : ByteArray).size = 13 := rfl
  have zD : (⟨#[13, 10]⟩ : ByteArray).size = 2 := rfl
  have zE : (bstr (dgs n)).size ≤ 13 := by rw [bstr_size]; exact hd
  unfold wherryref11_Stamp
  refine bnd (ct15 (by omega)) (bnd (ct15 (by rw [ByteArray.size_append]; omega)) (bnd (ct15 (by rw [ByteArray.size_append, ByteArray.size_append]; omega)) (bnd (ct15 (by rw [ByteArray.size_append, ByteArray.size_append, ByteArray.size_append]; omega)) (bnd (rdig_eq 12 n (Nat.lt_of_le_of_lt h (by decide)) (by omega) (by omega)) (bnd (ct15 (by rw [ByteArray.size_append, ByteArray.size_append, ByteArray.size_append, ByteArray.size_append]; show _ + (bstr (dgs n)).size ≤ _; omega)) (bnd (ct15 (by rw [ByteArray.size_append, ByteArray.size_append, ByteArray.size_append, ByteArray.size_append, ByteArray.size_append]; show _ + _ + _ + _ + _ + (bstr (dgs n)).size + _ ≤ _; omega)) (bnd rfl ?_)))))))
  exact congrArg some (stamp_bytes h)
end Go.Abs.Sh
