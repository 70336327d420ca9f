import Derived.Test.YtgonanjdmdlkjaaDoorDotD
namespace Go.Abs.Sh
set_option linter.unusedVariables false
set_option linter.unusedSimpArgs false
theorem jn_take (ls : List (List Int)) {i : Nat} (h : i < ls.length) : jn (ls.take (i + 1)) = (jn (ls.take i) ++ ls[i]) ++ [13, 10] := by
  rw [List.take_succ_eq_append_getElem h, jn_app]; simp [jn]
theorem jn_take_le (ls : List (List Int)) (i : Nat) : (jn (ls.take i)).length ≤ tot ls := by
  have := jn_app (ls.take i) (ls.drop i)
  rw [List.take_append_drop] at this
  have h2 := congrArg List.length this
  rw [List.length_append, jn_len] at h2; omega
theorem dotsOpen_true (b : List Int) (hw : wfL (wfI .u8) b) : wherrylaw14_DotsOpen b = some true := by
  have hb := byt_of_wf hw
  unfold wherrylaw14_DotsOpen
  by_cases h1 : 2000 < b.length
  · exact bndL (s := true) (cnd_t (decide_eq_true (by omega)) rfl) (cnd_t rfl rfl)
  rcases body_any b hb (by omega) with hbo | ⟨hbo, ls, hcl, hby, rfl⟩
  · exact bndL (s := true) (cnd_f (decide_eq_false (by omega)) (bnd hbo rfl)) (cnd_t rfl rfl)
  refine bndL (s := false) (cnd_f (decide_eq_false (by omega)) (bnd hbo rfl)) (cnd_f rfl ?_)
  rw [jn_len] at h1
  have ht := tot_stf ls
  have hn := len_tot ls
  have hk := sd_len ls
  refine bnd (x := (jn (sd ls), 0)) (stuff_ok hcl hby (by omega)) (bndL (s := false) (cnd_f rfl (by
    show some (Sum.inl (decide (((jn (sd ls)).length : Int) < 3))) = _
    rw [decide_eq_false (by omega)])) (cnd_f rfl ?_))
  refine bnd (x := ((tot (ls.map stf) + 2 : Nat) : Int)) (by
    show some (IntKind.i64.wrap (((jn (sd ls)).length : Int) - 1)) = _
    rw [wrap_i (by omega) (by omega), hk]; congr 1; omega) ?_
  have hcut : sliO (jn (sd ls)) 0 ((tot (ls.map stf) + 2 : Nat) : Int) = some (jn (ls.map stf) ++ [46, 13]) := by
    have := sli_nat (jn (sd ls)) (a := 0) (b := tot (ls.map stf) + 2) (by omega) (by omega)
    rw [show ((0 : Nat) : Int) = 0 from rfl] at this
    rw [this]
    have e : jn (sd ls) = (jn (ls.map stf) ++ [46, 13]) ++ [10] := by unfold sd; rw [jn_app]; simp [jn]
    have el : tot (ls.map stf) + 2 = (jn (ls.map stf) ++ [46, 13]).length := by rw [List.length_append, jn_len]; rfl
    rw [e, List.drop_zero, Nat.sub_zero, el, List.take_left]
  refine bnd hcut ?_
  have hL : Lns (jn (ls.map stf) ++ [46, 13]) (ls.map stf ++ []) [46, 13] := lns_app (st_cln hcl) (.nil rfl)
  rw [List.append_nil] at hL
  refine bnd (strip_none (last_none hL (byt_app (jn_byt (st_byt hby)) (by decide)) (st_dot ls) (by rw [List.length_append, jn_len]; simp; omega))) ?_
  refine bnd (lines14 (lns_jn hcl) (jn_byt hby) (by rw [jn_len]; omega)) ?_
  refine bndL (s := jn ls) (loop_from (fun i => (jn (ls.take i), (i : Int))) ls.length BIG rfl (by unfold BIG; omega) (fun i hi => ?_) ?_) ?_
  · have h2 := jn_take_le ls i
    have h3 := tot_mem (List.getElem_mem hi)
    refine cnd_t (decide_eq_true (by show (i : Int) < _; omega)) (bnd (ixO_of hi) (bnd (getO_of hi) (bnd (app_of (by omega) (by omega)) (bnd (app_of (by simp; omega) (by simp; omega)) (bnd (some_wrap (by omega) (by omega)) ?_)))))
    rw [jn_take ls hi]; rfl
  · refine cnd_f (decide_eq_false (by show ¬ ((ls.length : Int) < _); omega)) ?_
    rw [List.take_length]
  · exact bndL (s := true) (cnd_t rfl (bnd (x := true) (by rw [keepBytes_eq _ _ (by rw [jn_len]; omega)]; simp) (cnd_t rfl (bnd wakes14 rfl)))) rfl
theorem sd_app (a b : List (List Int)) : jn (sd (a ++ b)) = jn (a.map stf) ++ jn (sd b) := by
  unfold sd; rw [List.map_append, List.append_assoc, jn_app]
theorem dotsJoin_true (a b : List Int) (hw : wfL (wfI .u8) a) (hw2 : wfL (wfI .u8) b) : wherrylaw14_DotsJoin a b = some true := by
  have ha := byt_of_wf hw
  have hb := byt_of_wf hw2
  unfold wherrylaw14_DotsJoin
  by_cases h1 : 2000 < a.length
  · exact bndL (s := true) (cnd_t (decide_eq_true (by omega)) rfl) (cnd_t rfl rfl)
  by_cases h2 : 2000 < b.length
  · exact bndL (s := true) (cnd_f (decide_eq_false (by omega)) (cnd_t (decide_eq_true (by omega)) rfl)) (cnd_t rfl rfl)
  rcases body_any a ha (by omega) with hbo | ⟨hboa, la, hca, hya, rfl⟩
  · exact bndL (s := true) (cnd_f (decide_eq_false (by omega)) (cnd_f (decide_eq_false (by omega)) (bnd hbo (cnd_t rfl rfl)))) (cnd_t rfl rfl)
  rcases body_any b hb (by omega) with hbo | ⟨hbob, lb, hcb, hyb, rfl⟩
  · exact bndL (s := true) (cnd_f (decide_eq_false (by omega)) (cnd_f (decide_eq_false (by omega)) (bnd hboa (cnd_f rfl (bnd hbo rfl))))) (cnd_t rfl rfl)
  refine bndL (s := false) (cnd_f (decide_eq_false (by omega)) (cnd_f (decide_eq_false (by omega)) (bnd hboa (cnd_f rfl (bnd hbob rfl))))) (cnd_f rfl ?_)
  rw [jn_len] at h1 h2
  have hta := tot_stf la
  have htb := tot_stf lb
  have hka := sd_len la
  have hkb := sd_len lb
  have hc : ∀ l ∈ la ++ lb, cln l := fun l hl => (List.mem_append.1 hl).elim (hca l) (hcb l)
  have hy : ∀ l ∈ la ++ lb, byt l := fun l hl => (List.mem_append.1 hl).elim (hya l) (hyb l)
  have htot := tot_app la lb
  refine bnd (twin14 _ (by rw [jn_len]; omega)) (bnd (x := jn (la ++ lb)) (by rw [jn_app]; exact app_of (by rw [jn_len, jn_len]; omega) (by rw [jn_len, jn_len]; omega)) ?_)
  refine bnd (x := (jn (sd la), 0)) (stuff_ok hca hya (by omega)) (bnd (x := (jn (sd lb), 0)) (stuff_ok hcb hyb (by omega)) (bnd (x := (jn (sd (la ++ lb)), 0)) (stuff_ok hc hy (by omega)) ?_))
  refine bndL (s := false) (cnd_f rfl (cnd_f rfl (cnd_f rfl (by
    show some (Sum.inl (decide (((jn (sd la)).length : Int) < 3))) = _
    rw [decide_eq_false (by omega)])))) (cnd_f rfl ?_)
  have hcut : sliO (jn (sd la)) 0 (tot (la.map stf) : Int) = some (jn (la.map stf)) := by
    have := sli_nat (jn (sd la)) (a := 0) (b := tot (la.map stf)) (by omega) (by omega)
    rw [show ((0 : Nat) : Int) = 0 from rfl] at this
    rw [this]
    have e : jn (sd la) = jn (la.map stf) ++ [46, 13, 10] := by unfold sd; rw [jn_app]; simp [jn]
    rw [e, List.drop_zero, Nat.sub_zero, ← jn_len, List.take_left]
  refine bndL (s := true) (bnd (check_ok hc hy (by omega)) (cnd_t rfl (bnd (x := (tot (la.map stf) : Int)) (by
    show some (IntKind.i64.wrap (((jn (sd la)).length : Int) - 3)) = _
    rw [wrap_i (by omega) (by omega), hka]; congr 1; omega) (bnd hcut (bnd (twin14 _ (by rw [jn_len]; omega)) (bnd (x := jn (sd (la ++ lb))) (by
      rw [sd_app]
      exact app_of (by rw [jn_len]; show (_ + (jn (sd lb)).length) * 1 ≤ _; omega) (by rw [jn_len]; show _ + (jn (sd lb)).length ≤ _; omega)) (bnd (x := true) (by
        show wherrykeep_Bytes (jn (sd (la ++ lb))) _ = _
        rw [keepBytes_eq _ _ (by rw [sd_app, List.length_append, jn_len]; omega)]; simp) (cnd_t rfl (bnd wakes14 rfl))))))))) rfl
end Go.Abs.Sh
