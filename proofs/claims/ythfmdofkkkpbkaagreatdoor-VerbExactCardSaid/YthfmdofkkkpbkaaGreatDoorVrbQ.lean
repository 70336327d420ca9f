import Derived.Test.YthfmdofkkkpbkaaGreatDoorVrbP
namespace Go.Abs.Sh
set_option linter.unusedVariables false
set_option linter.unusedSimpArgs false
set_option maxRecDepth 100000
/-! A whole line. -/
theorem idxFunc (s : List T_Param) (c : T_Param) (hs : s.length < 4611686018427387904) : slices_ContainsFunc_api_Param_api_Param_of_verb_parameters_1 s c = some (s.any fun x => decide (x.Key = c.Key)) := by
  unfold slices_ContainsFunc_api_Param_api_Param_of_verb_parameters_1 slices_IndexFunc_api_Param_api_Param_of_verb_parameters_1
  have hcap : ∀ i, (h : i < s.length) → verb_parameters_1_cap s[i] c = some (decide (s[i].Key = c.Key)) := fun i h => by
    unfold verb_parameters_1_cap
    rw [toList_beq]
  rcases first_fail (fun i => !(decide ((s.getD i c).Key = c.Key)) || decide (s.length ≤ i)) s.length with h | ⟨k, hk, hb, hf⟩
  · have hall : ∀ i, (hi : i < s.length) → decide (s[i].Key = c.Key) = false := by
      intro i hi
      have := h i hi
      rw [decide_eq_false (p := s.length ≤ i) (by omega), Bool.or_false, List.getD_eq_getElem?_getD, List.getElem?_eq_getElem hi] at this
      simpa using this
    have hany : (s.any fun x => decide (x.Key = c.Key)) = false := by
      refine List.any_eq_false.2 fun x hx => ?_
      obtain ⟨i, hi, rfl⟩ := List.mem_iff_getElem.1 hx
      rw [hall i hi]; simp
    rw [hany]
    refine bnd (x := -1) (bndL (s := ()) (loop_from (fun i => (i : Int)) s.length _ rfl (by simp only [BIG]; omega) (fun i hi => ?_) ?_) rfl) rfl
    · exact cnd_t (decide_eq_true (by omega)) (bnd (ixO_of hi) (bnd (getO_of hi) (bnd (hcap i hi) (cnd_f (hall i hi) (bnd (some_wrap (by omega) (by omega)) rfl)))))
    · exact cnd_f (decide_eq_false (by omega)) rfl
  · have hkk : decide (s[k].Key = c.Key) = true := by
      rw [decide_eq_false (p := s.length ≤ k) (by omega), Bool.or_false, List.getD_eq_getElem?_getD, List.getElem?_eq_getElem hk] at hf
      simpa using hf
    have hany : (s.any fun x => decide (x.Key = c.Key)) = true := List.any_eq_true.2 ⟨s[k], List.getElem_mem hk, hkk⟩
    rw [hany]
    refine bnd (x := (k : Int)) (bndR (loop_from (fun i => (i : Int)) k _ rfl (by simp only [BIG]; omega) (fun i hi => ?_) ?_) rfl) ?_
    · have hi2 : i < s.length := by omega
      have := hb i hi
      rw [decide_eq_false (p := s.length ≤ i) (by omega), Bool.or_false, List.getD_eq_getElem?_getD, List.getElem?_eq_getElem hi2] at this
      have hii : decide (s[i].Key = c.Key) = false := by simpa using this
      exact cnd_t (decide_eq_true (by omega)) (bnd (ixO_of hi2) (bnd (getO_of hi2) (bnd (hcap i hi2) (cnd_f hii (bnd (some_wrap (by omega) (by omega)) rfl)))))
    · exact cnd_t (decide_eq_true (by omega)) (bnd (ixO_of hk) (bnd (getO_of hk) (bnd (hcap k hk) (cnd_t hkk rfl))))
    · rw [decide_eq_true (by omega)]
def parStep (kind : Int) : ByteArray → List T_Param → Option (List T_Param ⊕ List T_Param) := fun (x : ByteArray) (s46 : (List T_Param)) =>
          (strings_Cut x (⟨#[61]⟩ : ByteArray)).bind fun v5 =>
          (path_Fold v5.1).bind fun v6 =>
          (verb_parameter kind v6 v5.2.1).bind fun v7 =>
          bindS (S := Bool) (A := (((List T_Param)) ⊕ ((List T_Param))))
            (cond ((!v7.2))
              (some (.inl true))
              ((slices_ContainsFunc_api_Param_api_Param_of_verb_parameters_1 s46 v7.1).bind fun v8 =>
              some (.inl v8)))
            (fun (s53 : Bool) =>
              cond (s53)
                (some (.inr s46))
                ((appO 32 s46 [v7.1]).bind fun v14 =>
                some (.inl v14))) some
theorem fol_eq (kind : Int) : ∀ (ps : List (List Int)) (acc : List T_Param), (∀ p ∈ ps, byt p ∧ p.length < 100000) → acc.length + ps.length < 1000000 → ∃ r, folS (parStep kind) (ps.map bstr) acc = some r ∧ match foldP kind ps acc with | some out => r = .inl out | none => ∃ z, r = .inr z
  | [], acc, _, _ => ⟨.inl acc, rfl, rfl⟩
  | p :: ps, acc, hp, hl => by
    obtain ⟨hb, hpl⟩ := hp p List.mem_cons_self
    obtain ⟨q, hq, hx⟩ := param_eq kind p hb (by omega)
    have hc := cutW_eq (n := 61) (by decide) (bstr p) (by rw [bstr_size]; omega)
    rw [sbytes_bstr hb] at hc
    have hcl := cutW_len 61 p
    have hf := fold_eq (bstr (cutW 61 p).1) (by rw [bstr_size]; omega)
    have hstep : parStep kind (bstr p) acc = some (match paramL kind p with | none => .inr acc | some q => if (acc.any fun x => decide (x.Key = q.Key)) = true then .inr acc else .inl (acc ++ [q])) := by
      unfold parStep
      refine bnd hc (bnd hf (bnd hq ?_))
      cases hpp : paramL kind p with
      | none => exact bndL (s := true) (cnd_t (by rfl) rfl) (cnd_t rfl rfl)
      | some q' =>
        have hqq := hx q' hpp
        subst hqq
        have hidx := idxFunc acc q (by omega)
        cases ha : (acc.any fun x => decide (x.Key = q.Key)) with
        | true =>
          rw [ha] at hidx
          exact bndL (s := true) (cnd_f (by rfl) (bnd hidx rfl)) (cnd_t rfl (by simp only [ha, if_true]))
        | false =>
          rw [ha] at hidx
          refine bndL (s := false) (cnd_f (by rfl) (bnd hidx rfl)) (cnd_f rfl (bnd (app_of ?_ ?_) (by simp only [ha, Bool.false_eq_true, if_false]))) <;> simp <;> simp only [List.length_cons] at hl <;> omega
    rw [List.map_cons]
    unfold folS foldP
    rw [hstep]
    cases hpp : paramL kind p with
    | none => exact ⟨.inr acc, rfl, acc, rfl⟩
    | some q' =>
      simp only
      by_cases ha : (acc.any fun x => decide (x.Key = q'.Key)) = true
      · rw [if_pos ha, if_pos ha]
        exact ⟨.inr acc, rfl, acc, rfl⟩
      · rw [if_neg ha, if_neg ha]
        exact fol_eq kind ps (acc ++ [q']) (fun x hx => hp x (List.mem_cons_of_mem _ hx)) (by simp only [List.length_append, List.length_cons, List.length_nil] at hl ⊢; omega)
theorem spl_len (c : Int) (l : List Int) : (spl c l).length ≤ l.length + 1 := by
  rw [spl_sum c l]
  generalize spl c l = ps
  induction ps with
  | nil => simp
  | cons p ps ih => simp only [List.length_cons, List.map_cons, List.sum_cons]; omega
theorem spl_plen (c : Int) (l : List Int) : ∀ p ∈ spl c l, p.length ≤ l.length := by
  intro p hp
  have h := spl_sum c l
  have : p.length + 1 ≤ ((spl c l).map fun p => p.length + 1).sum := by
    generalize spl c l = ps at hp
    induction ps with
    | nil => cases hp
    | cons q ps ih =>
      simp only [List.map_cons, List.sum_cons]
      rcases List.mem_cons.1 hp with rfl | hp
      · omega
      · have := ih hp; omega
  omega
theorem pars_eq (kind : Int) (l : List Int) (hb : byt l) (hl : l.length < 10000) : ∃ ps, verb_parameters kind (bstr l) = some (ps, (parsL kind l).isSome) ∧ ∀ x, parsL kind l = some x → ps = x := by
  unfold verb_parameters
  have hE := isE (bstr l)
  rw [sbytes_bstr hb] at hE
  cases l with
  | nil => exact ⟨[], cnd_t hE rfl, fun x hx => by cases hx; rfl⟩
  | cons c r =>
    have hcp := cutPrefix_eq (bstr (c :: r)) (⟨#[32]⟩ : ByteArray)
    rw [sbytes_bstr hb, show sbytes (⟨#[32]⟩ : ByteArray) = [32] from rfl] at hcp
    have hbr : byt r := fun x hx => hb x (List.mem_cons_of_mem _ hx)
    simp only [List.length_cons] at hl
    unfold parsL
    simp only
    by_cases h32 : c = 32
    · rw [if_pos h32]
      rw [if_pos (by rw [pre1]; simp [h32])] at hcp
      have e1 : (c :: r).drop (⟨#[32]⟩ : ByteArray).size = r := rfl
      rw [e1] at hcp
      have hmem : ∀ p ∈ spl 32 r, byt p ∧ p.length < 100000 := fun p hp => ⟨fun x hx => hbr x (spl_mem 32 r p hp x hx), by have := spl_plen 32 r p hp; omega⟩
      obtain ⟨z, hz, hm⟩ := fol_eq kind (spl 32 r) [] hmem (by have := spl_len 32 r; simp only [List.length_nil]; omega)
      have hsr := split_range 32 (by decide) (parStep kind) (bstr r) [] (by rw [bstr_size]; omega) z (by unfold splB; rw [sbytes_bstr hbr]; exact hz)
      cases hf : foldP kind (spl 32 r) [] with
      | some out =>
        rw [hf] at hm
        simp only at hm
        subst hm
        exact ⟨out, cnd_f hE (bnd hcp (cnd_f rfl (bnd (x := (⟨#[32]⟩, bstr r, 0)) rfl (bndL hsr rfl)))), fun x hx => by cases hx; rfl⟩
      | none =>
        rw [hf] at hm
        simp only at hm
        obtain ⟨y, rfl⟩ := hm
        exact ⟨[], cnd_f hE (bnd hcp (cnd_f rfl (bnd (x := (⟨#[32]⟩, bstr r, 0)) rfl (bndR hsr rfl)))), fun x hx => by cases hx⟩
    · rw [if_neg h32]
      rw [if_neg (by rw [pre1]; simp [h32])] at hcp
      exact ⟨[], cnd_f hE (bnd hcp (cnd_t rfl rfl)), fun x hx => by cases hx⟩
theorem open_eq (kind : Int) : verb_opening kind = some (bstr (openW kind)) := by
  unfold verb_opening openW
  by_cases h : kind = 2
  · rw [if_pos h]; exact cnd_t (beq_iff_eq.2 h) rfl
  · rw [if_neg h]; exact cnd_f (beq_eq_false_iff_ne.2 h) rfl
theorem pathCmd_eq (kind : Int) (l : List Int) (hb : byt l) (hl : l.length < 10000) : ∃ c, verb_pathCommand kind (bstr l) = some (c, ((pfx (openW kind) l).bind (boxedL kind)).isSome) ∧ ∀ x, (pfx (openW kind) l).bind (boxedL kind) = some x → c = x := by
  unfold verb_pathCommand
  have hbo : byt (openW kind) := by
    unfold openW; split <;> decide
  have hlo : (openW kind).length ≤ 10 := by
    unfold openW; split <;> decide
  have hcf := cutFold_eq (bstr l) (bstr (openW kind)) (by rw [bstr_size]; omega) (by rw [bstr_size]; omega)
  rw [sbytes_bstr hb, sbytes_bstr hbo] at hcf
  cases hp : pfx (openW kind) l with
  | none =>
    rw [hp] at hcf
    exact ⟨_, bnd (open_eq kind) (bnd hcf (cnd_t rfl rfl)), fun x hx => by cases hx⟩
  | some r =>
    rw [hp] at hcf
    simp only at hcf
    obtain ⟨a, e, _, _⟩ := pfx_some hp
    have hbr : byt r := fun x hx => hb x (by rw [e]; exact List.mem_append_right _ hx)
    have hlr : r.length < 10000 := by rw [e, List.length_append] at hl; omega
    have hix := sIndex (n := 62) (by decide) (bstr r)
    rw [sbytes_bstr hbr] at hix
    rw [Option.bind_some]
    unfold boxedL
    cases hi : idx1 62 r with
    | none =>
      have hi' : idx1 ((62 : Nat) : Int) r = none := hi
      rw [hi'] at hix
      have hs0 : subO (bstr r) 0 0 = some (bstr []) := by
        have := sub_of (s := bstr r) (a := 0) (b := 0) (by omega) (by omega)
        exact this
      have hpe := parse_eq (bstr []) (by decide)
      have : parL (sbytes (bstr [])) = none := rfl
      rw [this] at hpe
      exact ⟨_, bnd (open_eq kind) (bnd hcf (cnd_f rfl (bnd hix (bnd (x := 0) rfl (bnd hs0 (bnd hpe (bndL (s := true) (cnd_t rfl rfl) (cnd_t rfl rfl)))))))), fun x hx => by cases hx⟩
    | some n =>
      have hi' : idx1 ((62 : Nat) : Int) r = some n := hi
      rw [hi'] at hix
      have hn := idx1_some hi
      have hs1 := sub_of (s := bstr r) (a := 0) (b := n + 1) (by omega) (by rw [bstr_size]; omega)
      have hs2 := sub_of (s := bstr r) (a := n + 1) (b := (bstr r).size) (by rw [bstr_size]; omega) (Nat.le_refl _)
      rw [sbytes_bstr hbr, List.drop_zero, Nat.sub_zero] at hs1
      rw [sbytes_bstr hbr, List.take_of_length_le (by rw [List.length_drop, bstr_size]; exact Nat.le_refl _)] at hs2
      have hbt := byt_take hbr (n + 1)
      have hpe := parse_eq (bstr (r.take (n + 1))) (by rw [bstr_size, List.length_take]; omega)
      rw [sbytes_bstr hbt] at hpe
      have hw : some (IntKind.i64.wrap ((n : Int) + 1)) = some (((n + 1 : Nat) : Int)) := by rw [wrap_succ (by omega)]
      simp only
      cases hpar : parL (r.take (n + 1)) with
      | none =>
        rw [hpar] at hpe
        exact ⟨_, bnd (open_eq kind) (bnd hcf (cnd_f rfl (bnd hix (bnd hw (bnd hs1 (bnd hpe (bndL (s := true) (cnd_t rfl rfl) (cnd_t rfl rfl)))))))), fun x hx => by cases hx⟩
      | some p =>
        rw [hpar] at hpe
        simp only at hpe ⊢
        have hguard : (cond (kind == 3) (some (.inl p.Null)) (some (.inl false)) : Option (Bool ⊕ (T_Cmd × Bool))) = some (.inl (decide (kind = 3 ∧ p.Null = true))) := by
          by_cases h3 : kind = 3
          · rw [beq_iff_eq.2 h3]; cases p.Null <;> simp [h3]
          · rw [beq_eq_false_iff_ne.2 h3]; simp [h3]
        by_cases hg : kind = 3 ∧ p.Null = true
        · rw [if_pos hg]
          rw [decide_eq_true hg] at hguard
          exact ⟨_, bnd (open_eq kind) (bnd hcf (cnd_f rfl (bnd hix (bnd hw (bnd hs1 (bnd hpe (bndL (s := true) (cnd_f rfl hguard) (cnd_t rfl rfl)))))))), fun x hx => by cases hx⟩
        · rw [if_neg hg]
          rw [decide_eq_false hg] at hguard
          obtain ⟨ps, hps, hx⟩ := pars_eq kind (r.drop (n + 1)) (byt_drop hbr _) (by rw [List.length_drop]; omega)
          refine ⟨⟨kind, e0, p, ps⟩, bnd (open_eq kind) (bnd hcf (cnd_f rfl (bnd hix (bnd hw (bnd hs1 (bnd hpe (bndL (s := false) (cnd_f rfl hguard) (cnd_f rfl (bnd hs2 (bnd hps ?_)))))))))), ?_⟩
          · cases parsL kind (r.drop (n + 1)) <;> rfl
          · intro x hxx
            cases hpp : parsL kind (r.drop (n + 1)) with
            | none => rw [hpp] at hxx; cases hxx
            | some qs =>
              rw [hpp] at hxx
              cases hxx
              rw [hx qs hpp]
end Go.Abs.Sh
