import Derived.Test.YtgonanjdmdlkjaaDoorDotL
namespace Go.Abs.Sh
set_option linter.unusedVariables false
set_option linter.unusedSimpArgs false
theorem okb_to : ∀ (b : List Int) (p : Int), okb p b → ∀ i : Nat, (b[i]? = some 13 → b[i + 1]? = some 10) ∧ (b[i]? = some 10 → (if i = 0 then some p else b[i - 1]?) = some 13)
  | [], _, _, i => by simp
  | x :: l, p, h, i => by
    obtain ⟨h1, h2, h3⟩ := h
    cases i with
    | zero =>
      refine ⟨fun e => ?_, fun e => ?_⟩
      · have := h1 (by simpa using e)
        rw [List.head?_eq_getElem?] at this; simpa using this
      · rw [if_pos rfl, h2 (by simpa using e)]
    | succ i =>
      have ih := okb_to l x h3 i
      refine ⟨fun e => by simpa using ih.1 (by simpa using e), fun e => ?_⟩
      have := ih.2 (by simpa using e)
      rw [if_neg (by omega)]
      cases i with
      | zero => simpa using this
      | succ i => simpa using this
theorem bad_none {ls : List (List Int)} (h : ∀ l ∈ ls, cln l) (i : Nat) : bad (jn ls) i = false := by
  obtain ⟨h1, h2⟩ := okb_to (jn ls) 0 (okb_jn ls 0 h) i
  unfold bad
  by_cases e : (jn ls)[i]? = some 13
  · rw [if_pos e, h1 e]; rfl
  · rw [if_neg e]
    by_cases e2 : (jn ls)[i]? = some 10
    · rw [if_pos e2, decide_eq_false_iff_not]
      have := h2 e2
      by_cases h0 : i = 0
      · rw [if_pos h0] at this; cases this
      · rw [if_neg h0] at this
        simp [h0, this]
    · rw [if_neg e2]
set_option maxHeartbeats 1000000 in
theorem body_good (b : List Int) (hl : b.length < 4294967281) (hall : ∀ i, i < b.length → (!bad b i) = true) (hlast : b = [] ∨ b.getLast? = some 10) : wherryref11_Body b = some true := by
  have hloop := loop_all (R := Bool) (f := fun (s31 : Int) => cond ((decide (s31 < (b.length : Int))))
        (bindS (S := Bool) (A := ((Int) ⊕ ((Unit) ⊕ Bool)))
          ((ixO s31 b.length).bind fun v2 =>
          (getO b v2).bind fun v3 =>
          cond ((v3 == 13))
            ((some (IntKind.i64.wrap (s31 + 1))).bind fun v4 =>
            cond ((decide ((b.length : Int) ≤ v4)))
              (some (.inl true))
              ((some (IntKind.i64.wrap (s31 + 1))).bind fun v5 =>
              (ixO v5 b.length).bind fun v6 =>
              (getO b v6).bind fun v7 =>
              cond ((v7 != 10))
                (some (.inl true))
                ((ixO s31 b.length).bind fun v8 =>
                (getO b v8).bind fun v9 =>
                cond ((v9 == 10))
                  (cond ((s31 == 0))
                    (some (.inl true))
                    ((some (IntKind.i64.wrap (s31 - 1))).bind fun v10 =>
                    (ixO v10 b.length).bind fun v11 =>
                    (getO b v11).bind fun v12 =>
                    some (.inl (v12 != 13))))
                  (some (.inl false)))))
            ((ixO s31 b.length).bind fun v13 =>
            (getO b v13).bind fun v14 =>
            cond ((v14 == 10))
              (cond ((s31 == 0))
                (some (.inl true))
                ((some (IntKind.i64.wrap (s31 - 1))).bind fun v15 =>
                (ixO v15 b.length).bind fun v16 =>
                (getO b v16).bind fun v17 =>
                some (.inl (v17 != 13))))
              (some (.inl false))))
          (fun (s45 : Bool) =>
            cond (s45)
              (some (.inr (.inr (false))))
              ((some (IntKind.i64.wrap (s31 + 1))).bind fun v23 =>
              some (.inl v23))) some)
        (some (.inr (.inl ())))) (fun i => !bad b i) b.length false (fuel := BIG) (by unfold BIG; omega)
    (fun i hi hp => cnd_t (decide_eq_true (by omega)) (bndL (s := bad b i) (body_step b hi (by omega)) (cnd_f (by simpa using hp) (bnd (some_wrap (by omega) (by omega)) rfl))))
    (fun i hi hp => cnd_t (decide_eq_true (by omega)) (bndL (s := bad b i) (body_step b hi (by omega)) (cnd_t (by simpa using hp) rfl)))
    (cnd_f (decide_eq_false (by omega)) rfl)
  rw [if_pos hall] at hloop
  by_cases hn : b = []
  · subst hn; rfl
  · have hpos : 0 < b.length := by cases b with | nil => exact absurd rfl hn | cons y t => simp
    have h10 : b[b.length - 1]'(by omega) = 10 := by
      have h2 := hlast.resolve_left hn
      rw [List.getLast?_eq_getElem?, get_of (by omega)] at h2
      exact Option.some.inj h2
    unfold wherryref11_Body
    refine bndL (s := ()) hloop (bndL (s := (b[b.length - 1]'(by omega) == 10)) (cnd_f (by rw [beq_eq_false_iff_ne]; omega) (bnd (x := ((b.length - 1 : Nat) : Int)) (by rw [wrap_j (by omega) (by omega)]; congr 1; omega) (bnd (ixO_of (by omega)) (bnd (getO_of (by omega)) rfl)))) (by rw [h10]; rfl))
theorem body_jn {ls : List (List Int)} (h : ∀ l ∈ ls, cln l) (hl : tot ls < 1000000) : wherryref11_Body (jn ls) = some true :=
  body_good _ (by rw [jn_len]; omega) (fun i _ => by rw [bad_none h i]; rfl) (last_jn ls)
theorem chk_body (b : List Int) (hb : byt b) (hl : b.length < 1000000) : (∃ ls, (∀ l ∈ ls, cln l) ∧ (∀ l ∈ ls, byt l) ∧ b = jn ls ∧ dots_Check b = some 0 ∧ wherryref11_Body b = some true) ∨ (dots_Check b = some 5 ∧ wherryref11_Body b = some false) := by
  rcases body_any b hb (by omega) with h | ⟨h, ls, h1, h2, h3⟩
  · rcases check_any hb (by omega) with h4 | ⟨ls, h1, h2, h3⟩
    · exact .inr ⟨h4, h⟩
    · have := body_jn h1 (by rw [← jn_len, ← h3]; omega)
      rw [← h3, h] at this
      cases this
  · refine .inl ⟨ls, h1, h2, h3, ?_, h⟩
    rw [h3]
    exact check_ok h1 h2 (by rw [← jn_len, ← h3]; omega)
theorem last_first {b : List Int} {xs ys : List (List Int)} {r : List Int} (H : Lns b (xs ++ [46] :: ys) r) (hb : byt b) (hd : ∀ l ∈ xs, l ≠ [46]) (hl : b.length < 1000000) : dots_lastLine b = some ((tot xs : Int), true) := by
  have hj := lns_join H
  have ht : b.length = tot (xs ++ [46] :: ys) + r.length := by rw [hj, List.length_append, jn_len]
  rw [tot_app] at ht
  unfold dots_lastLine dots_lines
  refine bnd rfl ?_
  refine bndR (a := ((0 + tot xs : Nat) : Int)) (lines_range lastS H hb (by omega) _ _ ?_) (by simp)
  have h1 := fol_last xs ([46] :: ys) 0 (fun l hm => ⟨byt_line H hb l (by simp [hm]), hd l hm⟩) (by omega)
  refine Eq.trans h1 ?_
  unfold folL
  rw [last_dot]
theorem strip_eq (b : List Int) (hb : byt b) (hl : b.length < 900000) : ∃ d m g, dots_Strip b = some (d, m, g) ∧ wherryref11_Strip b = some (d, m, g) ∧ d.length < 2000000 := by
  obtain ⟨ls, r, H⟩ := lns_ex b.length b (Nat.le_refl _)
  have hj := lns_join H
  rcases dt_lines b H 0 (by simp) (.inl rfl) with ⟨h1, h2⟩ | ⟨xs, ys, h1, h2, h3, h4⟩
  · refine ⟨[], 0, 9, strip_none (last_none H hb h1 (by omega)), ?_, by simp⟩
    unfold wherryref11_Strip
    exact bnd (dot_no (by omega) fun i => h2 i (by omega)) (cnd_t rfl rfl)
  · subst h1
    rw [Nat.zero_add] at h3
    have hd := dot_at (b := b) (by omega) h3 fun i hi => h4 i (by omega) (by omega)
    have hp := last_first H hb h2 (by omega)
    have ht : b.length = tot (xs ++ [46] :: ys) + r.length := by rw [hj, List.length_append, jn_len]
    rw [tot_app] at ht
    have hle : tot xs ≤ b.length := by omega
    have htk : b.take (tot xs) = jn xs := by
      rw [hj, jn_app, List.append_assoc, ← jn_len xs, List.take_left]
    have e1 : sliO b 0 (tot xs : Int) = some (jn xs) := by
      have := sli_nat b (a := 0) (b := tot xs) (by omega) hle
      rw [List.drop_zero, Nat.sub_zero, htk] at this
      exact this
    have hbx : byt (jn xs) := by rw [← htk]; exact byt_take hb _
    have hwr : some (IntKind.i64.wrap ((tot xs : Int) + 3)) = some ((tot xs + 3 : Nat) : Int) := by rw [wrap_j (by omega) (by omega)]; simp
    rcases chk_body (jn xs) hbx (by rw [jn_len]; omega) with ⟨ms, m1, m2, m3, m4, m5⟩ | ⟨m4, m5⟩
    · have hlm : tot ms = tot xs := by rw [← jn_len ms, ← m3, jn_len]
      refine ⟨jn (ms.map trm), ((tot xs + 3 : Nat) : Int), 0, ?_, ?_, ?_⟩
      · unfold dots_Strip
        refine bnd hp (cnd_f rfl (bnd e1 (bnd m4 (cnd_f rfl (bnd e1 ?_)))))
        refine bnd (x := jn ms) (by rw [m3]; rfl) ?_
        refine bndL (s := jn (ms.map trm)) (lines_range stripS (lns_jn m1) (jn_byt m2) (by rw [jn_len]; omega) _ _ ?_) (bnd hwr rfl)
        have := fol_strip ms [] m2 (by simp; omega)
        simpa using this
      · unfold wherryref11_Strip
        refine bnd hd (cnd_f (decide_eq_false (by omega)) (bnd e1 (bnd m5 (cnd_f rfl ?_))))
        have hr := rs_go b (by omega) (tot xs) hle (tot xs) 0 [] BIG (by omega) (by simp) (by unfold BIG; omega)
        rw [show prv b 0 = 10 from rfl, List.drop_zero, htk, m3, dsq_jn ms m1, List.nil_append] at hr
        exact bndL (s := jn (ms.map trm)) hr (bnd hwr rfl)
      · have hq : ∀ q : List (List Int), tot (q.map trm) ≤ tot q := by
          intro q
          induction q with
          | nil => simp [tot]
          | cons l q ih => have := trm_len l; simp only [List.map_cons, tot]; omega
        have := hq ms
        rw [jn_len]; omega
    · refine ⟨[], 0, 5, ?_, ?_, by simp⟩
      · unfold dots_Strip
        exact bnd hp (cnd_f rfl (bnd e1 (bnd m4 (cnd_t rfl rfl))))
      · unfold wherryref11_Strip
        exact bnd hd (cnd_f (decide_eq_false (by omega)) (bnd e1 (bnd m5 (cnd_t rfl rfl))))
def ovS  : ((List Int) × Int) → Option (((List Int) × Int) ⊕ ((Unit) ⊕ Unit)) := (fun ((s11, s12) : (List Int) × Int) =>
      cond ((decide (s12 < (s11.length : Int))))
        ((ixO s12 s11.length).bind fun v2 =>
        (getO s11 v2).bind fun v3 =>
        (some (IntKind.u8.wrap (v3 + 91))).bind fun v4 =>
        (ixO s12 s11.length).bind fun v5 =>
        (some (s11.set v5 v4)).bind fun v6 =>
        (some (IntKind.i64.wrap (s12 + 1))).bind fun v7 =>
        some (.inl (v6, v7)))
        (some (.inr (.inl ()))))
theorem ov_go : ∀ (n i : Nat) (l : List Int) (fuel : Nat), i + n = l.length → l.length < 4000000000 → n < fuel → loopF ovS fuel (l, (i : Int)) = some (.inl ())
  | 0, i, l, fuel, hn, hl, hf => by
    obtain ⟨k, rfl⟩ : ∃ k, fuel = k + 1 := ⟨fuel - 1, by omega⟩
    exact loop_exit (o := Sum.inl ()) (by unfold ovS; exact cnd_f (decide_eq_false (by omega)) rfl)
  | n + 1, i, l, fuel, hn, hl, hf => by
    obtain ⟨k, rfl⟩ : ∃ k, fuel = k + 1 := ⟨fuel - 1, by omega⟩
    have hi : i < l.length := by omega
    have hs : ovS (l, (i : Int)) = some (.inl (l.set i (IntKind.u8.wrap (l[i] + 91)), ((i + 1 : Nat) : Int))) := by
      unfold ovS
      exact cnd_t (decide_eq_true (by omega)) (bnd (ixO_of hi) (bnd (getO_of hi) (bnd rfl (bnd (ixO_of hi) (bnd rfl (bnd (x := ((i + 1 : Nat) : Int)) (by rw [wrap_j (by omega) (by omega)]; simp) rfl))))))
    rw [loop_next hs]
    exact ov_go n (i + 1) _ k (by rw [List.length_set]; omega) (by rw [List.length_set]; omega) (by omega)
theorem over_ok (l : List Int) (hl : l.length < 4000000000) : wherrykeep_Over l = some () := by
  unfold wherrykeep_Over
  exact bndL (s := ()) (ov_go l.length 0 l BIG (by omega) hl (by unfold BIG; omega)) rfl
def mnS (v7 : List (List Int)) : ((List (Option (List Int))) × Int) → Option (((List (Option (List Int))) × Int) ⊕ ((Unit) ⊕ Bool)) := (fun ((s40, s41) : (List (Option (List Int))) × Int) =>
              cond ((decide (s41 < (s40.length : Int))))
                ((ixO s41 s40.length).bind fun v26 =>
                ((getO s40 v26).bind id).bind fun v27 =>
                (ixO s41 v7.length).bind fun v28 =>
                (getO v7 v28).bind fun v29 =>
                (wherrykeep_Bytes v27 v29).bind fun v30 =>
                cond ((!v30))
                  (some (.inr (.inr (false))))
                  ((ixO s41 s40.length).bind fun v32 =>
                  ((getO s40 v32).bind id).bind fun v33 =>
                  (wherrykeep_Over v33).bind fun v34 =>
                  (some (IntKind.i64.wrap (s41 + 1))).bind fun v35 =>
                  some (.inl (((s40.set v32 none), v35)))))
                (some (.inr (.inl ()))))
theorem mn_step (L : List (List Int)) (hL : ∀ l ∈ L, l.length < 4000000000) (hn : L.length < 4000000000) {i : Nat} (hi : i < L.length) :
    mnS L (List.replicate i none ++ (L.drop i).map some, (i : Int)) = some (.inl (List.replicate (i + 1) none ++ (L.drop (i + 1)).map some, ((i + 1 : Nat) : Int))) := by
  have hlen : (List.replicate i none ++ (L.drop i).map some : List (Option (List Int))).length = L.length := by simp; omega
  have hd : L.drop i = L[i] :: L.drop (i + 1) := List.drop_eq_getElem_cons hi
  have hget : (getO (List.replicate i none ++ (L.drop i).map some : List (Option (List Int))) i).bind id = some L[i] := by
    unfold getO
    rw [List.getElem?_append_right (by simp), hd]
    simp [List.getElem?_eq_getElem hi]
  have hli := hL L[i] (List.getElem_mem hi)
  unfold mnS
  dsimp only
  rw [hlen]
  refine cnd_t (decide_eq_true (by omega)) (bnd (ixO_of hi) (bnd hget (bnd (ixO_of hi) (bnd (getO_of hi) (bnd (keepBytes_eq _ _ (by omega)) (cnd_f (by simp) (bnd (ixO_of hi) (bnd hget (bnd (over_ok _ hli) (bnd (x := ((i + 1 : Nat) : Int)) (by rw [wrap_j (by omega) (by omega)]; simp) ?_))))))))))
  congr 3
  rw [hd, List.map_cons, List.set_append_right _ _ (by simp)]
  simp [List.replicate_succ']
theorem mn_all (L : List (List Int)) (hL : ∀ l ∈ L, l.length < 4000000000) (hn : L.length < 4000000000) : loopF (mnS L) BIG (L.map some, 0) = some (.inl ()) := by
  refine loop_from (fun i => (List.replicate i none ++ (L.drop i).map some, (i : Int))) L.length BIG (by simp) (by unfold BIG; omega) (fun i hi => mn_step L hL hn hi) ?_
  unfold mnS
  exact cnd_f (decide_eq_false (by simp)) rfl
set_option maxHeartbeats 1000000 in
theorem dotsExact_true (b : List Int) (hw : wfL (wfI .u8) b) : wherrylaw14_DotsExact b = some true := by
  have hb := byt_of_wf hw
  unfold wherrylaw14_DotsExact
  by_cases hn : (2000 : Int) < (b.length : Int)
  · exact cnd_t (decide_eq_true hn) rfl
  refine cnd_f (decide_eq_false hn) ?_
  have hl : b.length ≤ 2000 := by omega
  obtain ⟨d, m, g, hs1, hs2, hd⟩ := strip_eq b hb (by omega)
  obtain ⟨L, r, H⟩ := lns_ex b.length b (Nat.le_refl _)
  have hj := lns_join H
  have ht : b.length = tot L + r.length := by rw [hj, List.length_append, jn_len]
  have hL : ∀ l ∈ L, l.length < 4000000000 := fun l hm => by have := tot_mem hm; omega
  have hcnt : ∀ ls : List (List Int), 2 * ls.length ≤ tot ls := by
    intro ls
    induction ls with
    | nil => simp [tot]
    | cons l ls ih => simp only [tot, List.length_cons]; omega
  have hLn := hcnt L
  have hp := linesO14 H hb (by omega)
  have hq := refLines H (by omega)
  have hmn := mn_all L hL (by omega)
  have hlen : ((((L.map some).length : Nat) : Int) != (L.length : Int)) = false := by simp
  have fin : ∀ s : List Int, s.length < 4000000000 → (bindS (S := (Unit)) (A := Bool) (loopF (mnS L) BIG (L.map some, 0)) (fun (() : Unit) =>
              (wherrykeep_Over d).bind fun v52 =>
              (wherrykeep_Over s).bind fun v53 =>
              bindS (S := Bool) (A := Bool)
                ((wherrykeep_Bytes b b).bind fun v54 =>
                cond (v54)
                  ((wherrylaw14_wakes ).bind fun v55 =>
                  some (.inl v55))
                  (some (.inl false)))
                (fun (s56 : Bool) =>
                  some (s56)) some) some) = some true := fun s hs =>
    bndL (s := ()) hmn (bnd (over_ok d (by omega)) (bnd (over_ok s hs) (bndL (s := true) (bnd (keepBytes_eq b b (by omega)) (cnd_t (by simp) (bnd wakes14 rfl))) rfl)))
  rcases chk_body b hb (by omega) with ⟨ls, h1, h2, h3, h4, h5⟩ | ⟨h4, h5⟩
  · have hls : tot ls ≤ 2000 := by rw [← jn_len, ← h3]; exact hl
    have hst : dots_Stuff b = some (jn (ls.map stf ++ [[46]]), 0) := by rw [h3]; exact stuff_ok h1 h2 (by omega)
    have hrs : wherryref11_Stuff b = some (jn (ls.map stf ++ [[46]])) := by rw [h3]; exact refStuff h1 (by rw [jn_len]; omega)
    have hsl : (jn (ls.map stf ++ [[46]])).length < 4000000000 := by
      have := tot_stf ls
      rw [jn_len, tot_app]; simp only [tot, List.length_cons, List.length_nil]; omega
    refine bnd (twin14 b (by omega)) (bnd hst (bnd hs1 (bnd hs2 (bnd hp (bnd hq (bnd h5 ?_))))))
    refine bndL (s := false) (bnd h4 (bnd rfl (cnd_f rfl (cnd_f rfl (cnd_t rfl (cnd_f rfl (bnd hrs (bnd (keepBytes_eq (jn (ls.map stf ++ [[46]])) _ (by omega)) (cnd_f (by simp) (cnd_f (by simp) (cnd_f (by simp) (bnd (keepBytes_eq d _ (by omega)) (cnd_f (by simp) ?_))))))))))))) (cnd_f rfl (fin _ hsl))
    rw [hlen]
  · have hst := stuff_no h4
    refine bnd (twin14 b (by omega)) (bnd hst (bnd hs1 (bnd hs2 (bnd hp (bnd hq (bnd h5 ?_))))))
    refine bndL (s := false) (bnd h4 (bnd rfl (cnd_f rfl (cnd_t rfl (bnd h4 (cnd_f rfl (cnd_f rfl (cnd_f rfl (cnd_f rfl (cnd_f (by simp) (cnd_f (by simp) (bnd (keepBytes_eq d _ (by omega)) (cnd_f (by simp) ?_))))))))))))) (cnd_f rfl (fin [] (by simp)))
    rw [hlen]
end Go.Abs.Sh
