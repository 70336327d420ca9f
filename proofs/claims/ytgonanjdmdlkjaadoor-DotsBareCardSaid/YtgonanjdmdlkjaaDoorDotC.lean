import Derived.Test.YtgonanjdmdlkjaaDoorDotB
namespace Go.Abs.Sh
set_option linter.unusedVariables false
set_option linter.unusedSimpArgs false
def sd (ls : List (List Int)) : List (List Int) := ls.map stf ++ [[46]]
theorem st_cln {ls : List (List Int)} (h : ∀ l ∈ ls, cln l) : ∀ l ∈ ls.map stf, cln l := by
  intro l hl
  obtain ⟨m, hm, rfl⟩ := List.mem_map.1 hl
  exact stf_cln (h m hm)
theorem st_byt {ls : List (List Int)} (h : ∀ l ∈ ls, byt l) : ∀ l ∈ ls.map stf, byt l := by
  intro l hl
  obtain ⟨m, hm, rfl⟩ := List.mem_map.1 hl
  exact stf_byt (h m hm)
theorem st_dot (ls : List (List Int)) : ∀ l ∈ ls.map stf, l ≠ [46] := by
  intro l hl
  obtain ⟨m, hm, rfl⟩ := List.mem_map.1 hl
  exact stf_dot m
theorem sd_cln {ls : List (List Int)} (h : ∀ l ∈ ls, cln l) : ∀ l ∈ sd ls, cln l := by
  intro l hl
  rcases List.mem_append.1 hl with hl | hl
  · exact st_cln h l hl
  · rw [List.mem_singleton] at hl; subst hl; intro x hx; rw [List.mem_singleton] at hx; subst hx; decide
theorem sd_byt {ls : List (List Int)} (h : ∀ l ∈ ls, byt l) : ∀ l ∈ sd ls, byt l := by
  intro l hl
  rcases List.mem_append.1 hl with hl | hl
  · exact st_byt h l hl
  · rw [List.mem_singleton] at hl; subst hl; decide
theorem sd_len (ls : List (List Int)) : (jn (sd ls)).length = tot (ls.map stf) + 3 := by
  rw [jn_len]; unfold sd; rw [tot_app]; rfl
theorem len_tot : ∀ ls : List (List Int), 2 * ls.length ≤ tot ls
  | [] => by simp [tot]
  | l :: ls => by have := len_tot ls; simp only [tot, List.length_cons]; omega
theorem dotsBack_true (b more : List Int) (hw : wfL (wfI .u8) b) (hw2 : wfL (wfI .u8) more) : wherrylaw14_DotsBack b more = some true := by
  have hb := byt_of_wf hw
  have hm := byt_of_wf hw2
  unfold wherrylaw14_DotsBack
  by_cases h1 : 2000 < b.length
  · exact bndL (s := true) (cnd_t (decide_eq_true (by omega)) rfl) (cnd_t rfl rfl)
  by_cases h2 : 2000 < more.length
  · exact bndL (s := true) (cnd_f (decide_eq_false (by omega)) (by rw [decide_eq_true (by omega)])) (cnd_t rfl rfl)
  refine bndL (s := false) (cnd_f (decide_eq_false (by omega)) (by rw [decide_eq_false (by omega)])) (cnd_f rfl ?_)
  rcases check_any hb (by omega) with hc | ⟨ls, hcl, hby, rfl⟩
  · exact bnd (stuff_no hc) (cnd_t rfl (bndL (s := true) (cnd_t rfl (bnd hc (cnd_t rfl (bnd wakes14 rfl)))) rfl))
  · rw [jn_len] at h1
    have ht := tot_stf ls
    have hn := len_tot (ls.map stf)
    rw [List.length_map] at hn
    have hk := sd_len ls
    refine bnd (x := (jn (sd ls), 0)) (stuff_ok hcl hby (by omega)) (cnd_f rfl ?_)
    refine bnd (twin14 _ (by show (jn (sd ls)).length < _; omega)) (bnd (app_of (by show ((jn (sd ls)).length + _) * 1 ≤ _; omega) (by show (jn (sd ls)).length + _ ≤ _; omega)) ?_)
    refine bnd (strip_ok (st_cln hcl) (st_byt hby) (st_dot ls) hm (by omega)) ?_
    refine bnd (lines14 (lns_jn (sd_cln hcl)) (jn_byt (sd_byt hby)) (by show (jn (sd ls)).length < _; omega)) ?_
    have hl : (sd ls).length = ls.length + 1 := by simp [sd]
    have hw : some (IntKind.i64.wrap (((sd ls).length : Int) - 1)) = some (ls.length : Int) := by
      rw [wrap_i (by omega) (by omega), hl]; simp
    refine bndL (s := ()) (loop_from (fun i => (i : Int)) ls.length BIG rfl (by unfold BIG; omega) (fun i hi => ?_) ?_) ?_
    · have hm : (ls.map stf)[i]'(by simpa using hi) ∈ ls.map stf := List.getElem_mem _
      refine bnd hw (cnd_t (decide_eq_true (by omega)) (bnd (ixO_of (by omega)) (bnd (x := (ls.map stf)[i]'(by simpa using hi)) ?_ (bnd rfl ?_))))
      · show (sd ls)[i]? = _
        unfold sd
        rw [List.getElem?_append_left (by simpa using hi), List.getElem?_eq_getElem]
      · rw [is46 (st_byt hby _ hm)]
        exact cnd_f (decide_eq_false (st_dot ls _ hm)) (bnd (some_wrap (by omega) (by omega)) rfl)
    · exact bnd hw (cnd_f (decide_eq_false (by omega)) rfl)
    · refine bndL (s := true) (cnd_t rfl (cnd_t ?_ ?_)) rfl
      · show (((tot (ls.map stf) + 3 : Nat) : Int) == ((jn (sd ls)).length : Int)) = true
        rw [hk]; simp
      · refine bnd (x := true) ?_ (cnd_t rfl (cnd_t (decide_eq_true (by show (0 : Int) < ((sd ls).length : Int); omega)) ?_))
        · show wherrykeep_Bytes (jn ((ls.map stf).map trm)) (jn ls) = some true
          rw [map_trm, keepBytes_eq _ _ (by rw [jn_len]; omega)]; simp
        · refine bnd hw (bnd (ixO_of (by omega)) (bnd (x := [46]) ?_ (bnd rfl ?_)))
          · show (sd ls)[ls.length]? = _
            unfold sd
            rw [List.getElem?_append_right (by simp)]; simp
          · rw [is46 (by decide)]
            exact cnd_t rfl (bnd wakes14 rfl)
theorem dotsTwo_true (a b : List Int) (hw : wfL (wfI .u8) a) (hw2 : wfL (wfI .u8) b) : wherrylaw14_DotsTwo a b = some true := by
  have ha := byt_of_wf hw
  have hb := byt_of_wf hw2
  unfold wherrylaw14_DotsTwo
  by_cases h1 : 2000 < a.length
  · exact bndL (s := true) (cnd_t (decide_eq_true (by omega)) rfl) (cnd_t rfl rfl)
  by_cases h2 : 2000 < b.length
  · exact bndL (s := true) (cnd_f (decide_eq_false (by omega)) (by rw [decide_eq_true (by omega)])) (cnd_t rfl rfl)
  refine bndL (s := false) (cnd_f (decide_eq_false (by omega)) (by rw [decide_eq_false (by omega)])) (cnd_f rfl ?_)
  have hsb : ∃ x, dots_Stuff b = some x := by
    rcases check_any hb (by omega) with hc | ⟨ls, hcl, hby, rfl⟩
    · exact ⟨_, stuff_no hc⟩
    · exact ⟨_, stuff_ok hcl hby (by rw [jn_len] at h2; omega)⟩
  rcases check_any ha (by omega) with hc | ⟨la, hca, hya, rfl⟩
  · obtain ⟨x, hx⟩ := hsb
    exact bnd (stuff_no hc) (bnd hx (bndL (s := true) (cnd_t rfl rfl) (cnd_t rfl (bnd wakes14 rfl))))
  rw [jn_len] at h1
  refine bnd (x := (jn (sd la), 0)) (stuff_ok hca hya (by omega)) ?_
  rcases check_any hb (by omega) with hc | ⟨lb, hcb, hyb, rfl⟩
  · exact bnd (stuff_no hc) (bndL (s := true) (cnd_f rfl rfl) (cnd_t rfl (bnd wakes14 rfl)))
  rw [jn_len] at h2
  refine bnd (x := (jn (sd lb), 0)) (stuff_ok hcb hyb (by omega)) (bndL (s := false) (cnd_f rfl rfl) (cnd_f rfl ?_))
  have hta := tot_stf la
  have htb := tot_stf lb
  have hka := sd_len la
  have hkb := sd_len lb
  refine bnd (twin14 _ (by show (jn (sd la)).length < _; omega)) (bnd (app_of (by show ((jn (sd la)).length + (jn (sd lb)).length) * 1 ≤ _; omega) (by show (jn (sd la)).length + (jn (sd lb)).length ≤ _; omega)) ?_)
  have hlen : (jn (sd la) ++ jn (sd lb)).length = tot (la.map stf) + 3 + (tot (lb.map stf) + 3) := by rw [List.length_append, hka, hkb]
  refine bnd (strip_ok (st_cln hca) (st_byt hya) (st_dot la) (jn_byt (sd_byt hyb)) (by show _ + (jn (sd lb)).length < _; omega)) ?_
  refine bndL (s := false) (cnd_f rfl (cnd_f (decide_eq_false (by show ¬ (((tot (la.map stf) + 3 : Nat) : Int) < 0); omega)) (by
    show some (Sum.inl (decide (((jn (sd la) ++ jn (sd lb)).length : Int) < ((tot (la.map stf) + 3 : Nat) : Int)))) = _
    rw [decide_eq_false (by omega)]))) (cnd_f rfl ?_)
  have e1 : sliO (jn (sd la) ++ jn (sd lb)) ((tot (la.map stf) + 3 : Nat) : Int) ((jn (sd la) ++ jn (sd lb)).length : Int) = some (jn (sd lb)) := by
    rw [sli_nat _ (by omega) (Nat.le_refl _), ← hka, List.drop_left, List.take_of_length_le (by simp)]
  refine bnd e1 ?_
  have e2 := strip_ok (more := []) (st_cln hcb) (st_byt hyb) (st_dot lb) (by intro x hx; simp at hx) (by simp; omega)
  rw [List.append_nil] at e2
  refine bnd e2 (bndL (s := true) (cnd_t rfl (bnd (x := ((jn (sd la) ++ jn (sd lb)).length : Int)) ?_ (cnd_t (by show (_ == _) = true; simp [sd]) (bnd (x := true) ?_ (cnd_t rfl (bnd (x := true) ?_ (cnd_t rfl (bnd wakes14 rfl)))))))) rfl)
  · show some (IntKind.i64.wrap (((tot (la.map stf) + 3 : Nat) : Int) + ((tot (lb.map stf) + 3 : Nat) : Int))) = _
    rw [wrap_i (by omega) (by omega), hlen]; simp
  · show wherrykeep_Bytes (jn ((la.map stf).map trm)) (jn la) = some true
    rw [map_trm, keepBytes_eq _ _ (by rw [jn_len]; omega)]; simp
  · show wherrykeep_Bytes (jn ((lb.map stf).map trm)) (jn lb) = some true
    rw [map_trm, keepBytes_eq _ _ (by rw [jn_len]; omega)]; simp
end Go.Abs.Sh
