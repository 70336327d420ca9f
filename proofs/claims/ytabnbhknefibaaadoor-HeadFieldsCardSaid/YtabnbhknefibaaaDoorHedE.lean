import Derived.Test.YtabnbhknefibaaaDoorHedD
namespace Go.Abs.Sh
set_option linter.unusedVariables false
set_option linter.unusedSimpArgs false
def fldS (names bodies : List ByteArray) (v1 : Int) : ((List Int) × (List T_Field) × Int) → Option (((List Int) × (List T_Field) × Int) ⊕ (((List Int) × (List T_Field)) ⊕ Bool)) := (fun ((s67, s68, s69) : (List Int) × (List T_Field) × Int) =>
            cond ((decide (s69 < v1)))
              (bindS (S := (List Int) × (List T_Field)) (A := (((List Int) × (List T_Field) × Int) ⊕ (((List Int) × (List T_Field)) ⊕ Bool)))
                (bindS (S := Bool) (A := (((List Int) × (List T_Field)) ⊕ (((List Int) × (List T_Field) × Int) ⊕ (((List Int) × (List T_Field)) ⊕ Bool))))
                  ((ixO s69 names.length).bind fun v9 =>
                  (getO names v9).bind fun v10 =>
                  cond ((decide (30 < (v10.size : Int))))
                    (some (.inl true))
                    ((ixO s69 bodies.length).bind fun v11 =>
                    (getO bodies v11).bind fun v12 =>
                    cond ((decide (60 < (v12.size : Int))))
                      (some (.inl true))
                      ((ixO s69 names.length).bind fun v13 =>
                      (getO names v13).bind fun v14 =>
                      (wherrylaw15_name v14).bind fun v15 =>
                      cond ((!v15))
                        (some (.inl true))
                        ((ixO s69 bodies.length).bind fun v16 =>
                        (getO bodies v16).bind fun v17 =>
                        (wherrylaw15_plain v17).bind fun v18 =>
                        some (.inl (!v18))))))
                  (fun (s105 : Bool) =>
                    cond (s105)
                      (some (.inl (s67, s68)))
                      ((ixO s69 names.length).bind fun v24 =>
                      (getO names v24).bind fun v25 =>
                      (ixO s69 bodies.length).bind fun v26 =>
                      (getO bodies v26).bind fun v27 =>
                      (appO 32 s68 [(T_Field.mk v25 v27)]).bind fun v28 =>
                      (ixO s69 names.length).bind fun v29 =>
                      (getO names v29).bind fun v30 =>
                      (catO v30 (⟨#[58]⟩ : ByteArray)).bind fun v31 =>
                      (ixO s69 bodies.length).bind fun v32 =>
                      (getO bodies v32).bind fun v33 =>
                      (catO v31 v33).bind fun v34 =>
                      (catO v34 (⟨#[13, 10]⟩ : ByteArray)).bind fun v35 =>
                      (appO 1 s67 (sbytes v35)).bind fun v36 =>
                      some (.inl (v36, v28)))) some)
                (fun ((s100, s101) : (List Int) × (List T_Field)) =>
                  (some (IntKind.i64.wrap (s69 + 1))).bind fun v47 =>
                  some (.inl (s100, s101, v47))) some)
              (some (.inr (.inl (s67, s68)))))
theorem sb_get {s : ByteArray} {P : Int → Prop} (h : ∀ i, (hi : i < (sbytes s).length) → P ((sbytes s)[i]'hi)) : ∀ x ∈ sbytes s, P x := by
  intro x hx
  obtain ⟨i, hi, rfl⟩ := List.mem_iff_getElem.1 hx
  exact h i hi
theorem plain_any (s : ByteArray) (hz : s.size < 1000000) : ∃ r, wherrylaw15_plain s = some r ∧ (r = true → cln (sbytes s)) := by
  have key := loop_all (R := Bool) (f := fun (s17 : Int) =>
      cond ((decide (s17 < (s.size : Int))))
        (bindS (S := Bool) (A := ((Int) ⊕ ((Unit) ⊕ Bool)))
          ((chrO s s17).bind fun v2 =>
          cond ((v2 == 13))
            (some (.inl true))
            ((chrO s s17).bind fun v3 =>
            some (.inl (v3 == 10))))
          (fun (s31 : Bool) =>
            cond (s31)
              (some (.inr (.inr (false))))
              ((some (IntKind.i64.wrap (s17 + 1))).bind fun v9 =>
              some (.inl v9))) some)
        (some (.inr (.inl ())))) (fun i => match (sbytes s)[i]? with | some c => !(c == 13 || c == 10) | none => false) s.size false (fuel := BIG) (by unfold BIG; omega)
    (fun i hi hp => by
      have hi2 : i < (sbytes s).length := by rw [sbytes_len]; exact hi
      rw [get_of hi2] at hp
      simp only [Bool.not_eq_true', Bool.or_eq_false_iff] at hp
      exact cnd_t (decide_eq_true (by omega)) (bndL (s := false) (bnd (chr_of hi) (cnd_f hp.1 (bnd (chr_of hi) (by rw [hp.2])))) (cnd_f rfl (bnd (some_wrap (by omega) (by omega)) rfl))))
    (fun i hi hp => by
      have hi2 : i < (sbytes s).length := by rw [sbytes_len]; exact hi
      rw [get_of hi2] at hp
      cases h13 : ((sbytes s)[i] == 13)
      · simp only [h13, Bool.false_or, Bool.not_eq_false'] at hp
        exact cnd_t (decide_eq_true (by omega)) (bndL (s := true) (bnd (chr_of hi) (cnd_f h13 (bnd (chr_of hi) (by rw [hp])))) (cnd_t rfl rfl))
      · exact cnd_t (decide_eq_true (by omega)) (bndL (s := true) (bnd (chr_of hi) (cnd_t h13 rfl)) (cnd_t rfl rfl)))
    (cnd_f (decide_eq_false (by omega)) rfl)
  unfold wherrylaw15_plain
  split at key
  · rename_i hall
    refine ⟨true, bndL (s := ()) key rfl, fun _ => sb_get (P := fun x => x ≠ 13 ∧ x ≠ 10) fun i hi => ?_⟩
    have := hall i (by rw [← sbytes_len]; exact hi)
    rw [get_of hi] at this
    simp only [Bool.not_eq_true', Bool.or_eq_false_iff, beq_eq_false_iff_ne] at this
    exact this
  · exact ⟨false, bndR (a := false) key rfl, fun h => by cases h⟩
theorem name_any (s : ByteArray) (hz : s.size < 1000000) : ∃ r, wherrylaw15_name s = some r ∧ (r = true → nameOK s) := by
  have key := loop_all (R := Bool) (f := fun (s18 : Int) =>
      cond ((decide (s18 < (s.size : Int))))
        (bindS (S := Bool) (A := ((Int) ⊕ ((Unit) ⊕ Bool)))
          ((chrO s s18).bind fun v2 =>
          cond ((decide (v2 < 33)))
            (some (.inl true))
            ((chrO s s18).bind fun v3 =>
            cond ((decide (126 < v3)))
              (some (.inl true))
              ((chrO s s18).bind fun v4 =>
              some (.inl (v4 == 58)))))
          (fun (s32 : Bool) =>
            cond (s32)
              (some (.inr (.inr (false))))
              ((some (IntKind.i64.wrap (s18 + 1))).bind fun v10 =>
              some (.inl v10))) some)
        (some (.inr (.inl ())))) (fun i => match (sbytes s)[i]? with | some c => !(decide (c < 33) || (decide (126 < c) || c == 58)) | none => false) s.size false (fuel := BIG) (by unfold BIG; omega)
    (fun i hi hp => by
      have hi2 : i < (sbytes s).length := by rw [sbytes_len]; exact hi
      rw [get_of hi2] at hp
      simp only [Bool.not_eq_true', Bool.or_eq_false_iff] at hp
      exact cnd_t (decide_eq_true (by omega)) (bndL (s := false) (bnd (chr_of hi) (cnd_f hp.1 (bnd (chr_of hi) (cnd_f hp.2.1 (bnd (chr_of hi) (by rw [hp.2.2])))))) (cnd_f rfl (bnd (some_wrap (by omega) (by omega)) rfl))))
    (fun i hi hp => by
      have hi2 : i < (sbytes s).length := by rw [sbytes_len]; exact hi
      rw [get_of hi2] at hp
      cases h33 : decide ((sbytes s)[i] < 33)
      · cases h126 : decide (126 < (sbytes s)[i])
        · simp only [h33, h126, Bool.false_or, Bool.not_eq_false'] at hp
          exact cnd_t (decide_eq_true (by omega)) (bndL (s := true) (bnd (chr_of hi) (cnd_f h33 (bnd (chr_of hi) (cnd_f h126 (bnd (chr_of hi) (by rw [hp])))))) (cnd_t rfl rfl))
        · exact cnd_t (decide_eq_true (by omega)) (bndL (s := true) (bnd (chr_of hi) (cnd_f h33 (bnd (chr_of hi) (cnd_t h126 rfl)))) (cnd_t rfl rfl))
      · exact cnd_t (decide_eq_true (by omega)) (bndL (s := true) (bnd (chr_of hi) (cnd_t h33 rfl)) (cnd_t rfl rfl)))
    (cnd_f (decide_eq_false (by omega)) rfl)
  unfold wherrylaw15_name
  split at key
  · rename_i hall
    refine ⟨_, bndL (s := ()) key rfl, fun h => ⟨?_, sb_get (P := fun x => 33 ≤ x ∧ x ≤ 126 ∧ x ≠ 58) fun i hi => ?_⟩⟩
    · have := of_decide_eq_true h; omega
    · have := hall i (by rw [← sbytes_len]; exact hi)
      rw [get_of hi] at this
      simp only [Bool.not_eq_true', Bool.or_eq_false_iff, beq_eq_false_iff_ne, decide_eq_false_iff_not] at this
      exact ⟨by omega, by omega, this.2.2⟩
  · exact ⟨false, bndR (a := false) key rfl, fun h => by cases h⟩
def InvF (i : Nat) (A : List Int) (fs : List T_Field) : Prop := ∃ L : List (List Int), A = jn L ∧ (∀ l ∈ L, cln l) ∧ (∀ l ∈ L, byt l) ∧ (∀ t, scn (L ++ t) [] 0 = scn t fs (tot L)) ∧ tot L ≤ 100 * i ∧ fs.length ≤ i
theorem inv_skip {i : Nat} {A : List Int} {fs : List T_Field} (h : InvF i A fs) : InvF (i + 1) A fs := by
  obtain ⟨L, h1, h2, h3, h4, h5, h6⟩ := h
  exact ⟨L, h1, h2, h3, h4, by omega, by omega⟩
theorem byt_line15 (f : T_Field) : byt (lineF f) := byt_app (byt_sbytes _) (fun x hx => by
    rcases List.mem_cons.1 hx with rfl | hx
    · omega
    · exact byt_sbytes _ x hx)
theorem inv_add {i : Nat} {A : List Int} {fs : List T_Field} {f : T_Field} (h : InvF i A fs) (hn : nameOK f.Name) (hb : cln (sbytes f.Body)) (h1 : f.Name.size ≤ 30) (h2 : f.Body.size ≤ 60) : InvF (i + 1) ((A ++ lineF f) ++ [13, 10]) (fs ++ [f]) := by
  obtain ⟨L, g1, g2, g3, g4, g5, g6⟩ := h
  have hlen : (lineF f).length = f.Name.size + (f.Body.size + 1) := by unfold lineF; rw [List.length_append, List.length_cons, sbytes_len, sbytes_len]
  have hcl : cln (lineF f) := fun x hx => by
    rcases List.mem_append.1 hx with hx | hx
    · have := hn.2 x hx; omega
    · rcases List.mem_cons.1 hx with rfl | hx
      · decide
      · exact hb x hx
  refine ⟨L ++ [lineF f], by rw [g1, jn_app]; simp [jn], ?_, ?_, fun t => ?_, by rw [tot_app]; simp only [tot, hlen]; omega, by simp; omega⟩
  · intro l hl
    rcases List.mem_append.1 hl with hl | hl
    · exact g2 l hl
    · rw [List.mem_singleton] at hl; subst hl; exact hcl
  · intro l hl
    rcases List.mem_append.1 hl with hl | hl
    · exact g3 l hl
    · rw [List.mem_singleton] at hl; subst hl; exact byt_line15 f
  · rw [List.append_assoc, g4]
    simp only [List.cons_append, List.nil_append, scn, stp_field fs f hn (by omega), tot_app, tot, Nat.add_zero]
theorem fld_step (names bodies : List ByteArray) {v1 i : Nat} (hi : i < v1) (hv : v1 ≤ 20) (h1 : v1 ≤ names.length) (h2 : v1 ≤ bodies.length) {A : List Int} {fs : List T_Field} (h : InvF i A fs) :
    ∃ A' fs', fldS names bodies (v1 : Int) (A, fs, (i : Int)) = some (.inl (A', fs', ((i + 1 : Nat) : Int))) ∧ InvF (i + 1) A' fs' := by
  have hA : A.length ≤ 100 * i ∧ fs.length ≤ i := by
    obtain ⟨L, g1, _, _, _, g5, g6⟩ := h
    exact ⟨by rw [g1, jn_len]; exact g5, g6⟩
  have xn := ixO_of (i := i) (n := names.length) (by omega)
  have xb := ixO_of (i := i) (n := bodies.length) (by omega)
  have gn := getO_of (l := names) (i := i) (by omega)
  have gb := getO_of (l := bodies) (i := i) (by omega)
  have wi : some (IntKind.i64.wrap ((i : Int) + 1)) = some ((i + 1 : Nat) : Int) := some_wrap (by omega) (by omega)
  unfold fldS
  have skip : ∀ X : Option (Bool ⊕ (((List Int) × (List T_Field)) ⊕ (((List Int) × (List T_Field) × Int) ⊕ (((List Int) × (List T_Field)) ⊕ Bool)))), True := fun _ => trivial
  by_cases n30 : 30 < (names[i]'(by omega)).size
  · exact ⟨A, fs, cnd_t (decide_eq_true (by omega)) (bndL (s := (A, fs)) (bndL (s := true) (bnd xn (bnd gn (cnd_t (decide_eq_true (by omega)) rfl))) (cnd_t rfl rfl)) (bnd wi rfl)), inv_skip h⟩
  by_cases b60 : 60 < (bodies[i]'(by omega)).size
  · exact ⟨A, fs, cnd_t (decide_eq_true (by omega)) (bndL (s := (A, fs)) (bndL (s := true) (bnd xn (bnd gn (cnd_f (decide_eq_false (by omega)) (bnd xb (bnd gb (cnd_t (decide_eq_true (by omega)) rfl)))))) (cnd_t rfl rfl)) (bnd wi rfl)), inv_skip h⟩
  obtain ⟨rn, hrn, hok⟩ := name_any (names[i]'(by omega)) (by omega)
  obtain ⟨rb, hrb, hpl⟩ := plain_any (bodies[i]'(by omega)) (by omega)
  cases rn
  · exact ⟨A, fs, cnd_t (decide_eq_true (by omega)) (bndL (s := (A, fs)) (bndL (s := true) (bnd xn (bnd gn (cnd_f (decide_eq_false (by omega)) (bnd xb (bnd gb (cnd_f (decide_eq_false (by omega)) (bnd xn (bnd gn (bnd hrn (cnd_t rfl rfl)))))))))) (cnd_t rfl rfl)) (bnd wi rfl)), inv_skip h⟩
  cases rb
  · exact ⟨A, fs, cnd_t (decide_eq_true (by omega)) (bndL (s := (A, fs)) (bndL (s := true) (bnd xn (bnd gn (cnd_f (decide_eq_false (by omega)) (bnd xb (bnd gb (cnd_f (decide_eq_false (by omega)) (bnd xn (bnd gn (bnd hrn (cnd_f rfl (bnd xb (bnd gb (bnd hrb rfl))))))))))))) (cnd_t rfl rfl)) (bnd wi rfl)), inv_skip h⟩
  have hsb : sbytes ((names[i]'(by omega) ++ (⟨#[58]⟩ : ByteArray) ++ bodies[i]'(by omega)) ++ (⟨#[13, 10]⟩ : ByteArray)) = lineF (T_Field.mk (names[i]'(by omega)) (bodies[i]'(by omega))) ++ [13, 10] := by
    simp [sbytes, lineF]
  have hsz : (lineF (T_Field.mk (names[i]'(by omega)) (bodies[i]'(by omega)))).length = (names[i]'(by omega)).size + ((bodies[i]'(by omega)).size + 1) := by unfold lineF; rw [List.length_append, List.length_cons, sbytes_len, sbytes_len]
  refine ⟨(A ++ lineF (T_Field.mk (names[i]'(by omega)) (bodies[i]'(by omega)))) ++ [13, 10], fs ++ [T_Field.mk (names[i]'(by omega)) (bodies[i]'(by omega))], ?_, inv_add (f := T_Field.mk (names[i]'(by omega)) (bodies[i]'(by omega))) h (hok rfl) (hpl rfl) (by show (names[i]'(by omega)).size ≤ 30; omega) (by show (bodies[i]'(by omega)).size ≤ 60; omega)⟩
  have ct : ∀ s t : ByteArray, s.size + t.size ≤ 10000 → catO s t = some (s ++ t) := fun s t h => by unfold catO; rw [if_pos (by omega)]
  have z1 : (⟨#[58]⟩ : ByteArray).size = 1 := rfl
  have z2 : (⟨#[13, 10]⟩ : ByteArray).size = 2 := rfl
  refine cnd_t (decide_eq_true (by omega)) (bndL (s := ((A ++ lineF (T_Field.mk (names[i]'(by omega)) (bodies[i]'(by omega)))) ++ [13, 10], fs ++ [T_Field.mk (names[i]'(by omega)) (bodies[i]'(by omega))])) (bndL (s := false) (bnd xn (bnd gn (cnd_f (decide_eq_false (by omega)) (bnd xb (bnd gb (cnd_f (decide_eq_false (by omega)) (bnd xn (bnd gn (bnd hrn (cnd_f rfl (bnd xb (bnd gb (bnd hrb rfl))))))))))))) (cnd_f rfl (bnd xn (bnd gn (bnd xb (bnd gb (bnd (app_of (by simp; omega) (by simp; omega)) (bnd xn (bnd gn (bnd (ct _ _ (by rw [z1]; omega)) (bnd xb (bnd gb (bnd (ct _ _ (by rw [ByteArray.size_append, z1]; omega)) (bnd (ct _ _ (by rw [ByteArray.size_append, ByteArray.size_append, z1, z2]; omega)) (bnd (x := (A ++ lineF (T_Field.mk (names[i]'(by omega)) (bodies[i]'(by omega)))) ++ [13, 10]) (by
    rw [hsb, List.append_assoc]
    exact app_of (by rw [List.length_append, hsz]; simp; omega) (by rw [List.length_append, hsz]; simp; omega)) rfl))))))))))))))) (bnd wi rfl))
theorem fld_loop (names bodies : List ByteArray) {v1 : Nat} (hv : v1 ≤ 20) (h1 : v1 ≤ names.length) (h2 : v1 ≤ bodies.length) : ∀ (k i fuel : Nat) (A : List Int) (fs : List T_Field), v1 - i = k → i ≤ v1 → k < fuel → InvF i A fs →
    ∃ A' fs', loopF (fldS names bodies (v1 : Int)) fuel (A, fs, (i : Int)) = some (.inl (A', fs')) ∧ InvF v1 A' fs' := by
  intro k
  induction k with
  | zero =>
    intro i fuel A fs hk hi hf h
    obtain ⟨f, rfl⟩ : ∃ f, fuel = f + 1 := ⟨fuel - 1, by omega⟩
    have : i = v1 := by omega
    subst this
    exact ⟨A, fs, loop_exit (by unfold fldS; exact cnd_f (decide_eq_false (by omega)) rfl), h⟩
  | succ k ih =>
    intro i fuel A fs hk hi hf h
    obtain ⟨f, rfl⟩ : ∃ f, fuel = f + 1 := ⟨fuel - 1, by omega⟩
    obtain ⟨A', fs', hs, h'⟩ := fld_step names bodies (by omega) hv h1 h2 h
    obtain ⟨A2, fs2, hl, h3⟩ := ih (i + 1) f A' fs' (by omega) (by omega) (by omega) h'
    exact ⟨A2, fs2, by rw [loop_next hs]; exact hl, h3⟩
theorem headFields_true (names bodies : List ByteArray) (rest : List Int) (hw : wfL (wfI .u8) rest) : wherrylaw15_HeadFields names bodies rest = some true := by
  have hm := byt_of_wf hw
  unfold wherrylaw15_HeadFields
  obtain ⟨v1, hv, hv1, hv2⟩ : ∃ v1 : Nat, (if (bodies.length : Int) < (names.length : Int) then (bodies.length : Int) else (names.length : Int)) = (v1 : Int) ∧ v1 ≤ names.length ∧ v1 ≤ bodies.length := by
    by_cases h : bodies.length < names.length
    · exact ⟨bodies.length, by rw [if_pos (by omega)], by omega, Nat.le_refl _⟩
    · exact ⟨names.length, by rw [if_neg (by omega)], Nat.le_refl _, by omega⟩
  refine bnd (x := (v1 : Int)) (by rw [hv]) ?_
  by_cases h1 : 20 < v1
  · exact bndL (s := true) (cnd_t (decide_eq_true (by omega)) rfl) (cnd_t rfl rfl)
  by_cases h2 : 2000 < rest.length
  · exact bndL (s := true) (cnd_f (decide_eq_false (by omega)) (cnd_t (decide_eq_true (by omega)) rfl)) (cnd_t rfl rfl)
  rcases body_any rest hm (by omega) with hbo | ⟨hbo, lr, hcr, hyr, rfl⟩
  · exact bndL (s := true) (cnd_f (decide_eq_false (by omega)) (cnd_f (decide_eq_false (by omega)) (bnd hbo rfl))) (cnd_t rfl rfl)
  refine bndL (s := false) (cnd_f (decide_eq_false (by omega)) (cnd_f (decide_eq_false (by omega)) (bnd hbo rfl))) (cnd_f rfl ?_)
  obtain ⟨A, fs, hl, L, rfl, hcl, hyl, hsc, ht, hfl⟩ := fld_loop names bodies (v1 := v1) (by omega) hv1 hv2 v1 0 BIG [] [] (by omega) (by omega) (by unfold BIG; omega) ⟨[], rfl, fun l hl => by simp at hl, fun l hl => by simp at hl, fun t => rfl, by simp [tot], by simp⟩
  refine bndL hl ?_
  have hlr := jn_len lr
  have hc : ∀ l ∈ L ++ ([] :: lr), cln l := fun l hl => by
    rcases List.mem_append.1 hl with hl | hl
    · exact hcl l hl
    · rcases List.mem_cons.1 hl with rfl | hl
      · exact fun x hx => by simp at hx
      · exact hcr l hl
  have hy : ∀ l ∈ L ++ ([] :: lr), byt l := fun l hl => by
    rcases List.mem_append.1 hl with hl | hl
    · exact hyl l hl
    · rcases List.mem_cons.1 hl with rfl | hl
      · exact fun x hx => by simp at hx
      · exact hyr l hl
  have hs := scan_eq hc hy (by rw [tot_app]; simp only [tot, List.length_nil]; omega)
  rw [hsc] at hs
  simp only [scn, stp_nil, if_true] at hs
  have hx : jn (L ++ ([] :: lr)) = (jn L ++ [13, 10]) ++ jn lr := by rw [jn_app]; simp [jn]
  rw [hx] at hs
  refine bnd (x := ((tot L + 2 : Nat) : Int)) (by rw [jn_len, wrap_i (by omega) (by omega)]; simp) (bnd (app_of (by rw [jn_len]; simp; omega) (by rw [jn_len]; simp; omega)) (bnd (app_of (by simp only [List.length_append, jn_len, List.length_cons, List.length_nil]; omega) (by simp only [List.length_append, jn_len, List.length_cons, List.length_nil]; omega)) (bnd hs ?_)))
  exact bndL (s := true) (cnd_t rfl (cnd_t (by simp) (bnd (fields_refl fs (by omega)) (cnd_t rfl (bnd wakes15 rfl))))) rfl
end Go.Abs.Sh
