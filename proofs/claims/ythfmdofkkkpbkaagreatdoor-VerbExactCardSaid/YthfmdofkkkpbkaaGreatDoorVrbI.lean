import Derived.Test.YthfmdofkkkpbkaaGreatDoorVrbH
namespace Go.Abs.Sh
set_option linter.unusedVariables false
set_option linter.unusedSimpArgs false
set_option maxRecDepth 100000
/-! The page's line. -/
theorem rpathed_eq (kind : Int) (r : List Int) (hb : byt r) (hl : r.length < 100000) : wherryref11_pathed (bstr r) kind = some (match boxedL kind r with | none => (noC, 501) | some c => (c, 0)) := by
  unfold wherryref11_pathed boxedL
  have hs : (bstr r).size = r.length := bstr_size r
  have hscan := scan32 (R := T_Cmd × Int) r hb (by omega) 62
  cases hi : idx1 62 r with
  | none =>
    rw [hi] at hscan
    exact bndL hscan (cnd_t (beq_iff_eq.2 (by rw [hs])) rfl)
  | some n =>
    rw [hi] at hscan
    have hn := idx1_some hi
    have hs1 := sub_of (s := bstr r) (a := 0) (b := n + 1) (by omega) (by rw [bstr_size]; omega)
    have hs2 := sub_of (s := bstr r) (a := n + 1) (b := (bstr r).size) (by rw [bstr_size]; omega) (Nat.le_refl _)
    rw [sbytes_bstr hb, List.drop_zero, Nat.sub_zero] at hs1
    rw [sbytes_bstr hb, List.take_of_length_le (by rw [List.length_drop, bstr_size]; exact Nat.le_refl _)] at hs2
    have hbt := byt_take hb (n + 1)
    have hpe := rparse_eq (bstr (r.take (n + 1))) (by rw [bstr_size, List.length_take]; omega)
    rw [sbytes_bstr hbt] at hpe
    have hw : some (IntKind.i64.wrap ((n : Int) + 1)) = some (((n + 1 : Nat) : Int)) := by rw [wrap_succ (by omega)]
    have hps := rpars_eq kind (r.drop (n + 1)) (byt_drop hb _) (by rw [List.length_drop]; omega)
    simp only
    refine bndL hscan (cnd_f (beq_eq_false_iff_ne.2 (by rw [hs]; simp only; omega)) (bnd hw (bnd hs1 (bnd hpe (bnd hw (bnd hs2 (bnd hps ?_)))))))
    cases hpar : parL (r.take (n + 1)) with
    | none => exact bndL (s := true) (cnd_t rfl rfl) (cnd_t rfl rfl)
    | some p =>
      simp only
      have hguard : (cond (kind == 3) (some (.inl p.Null)) (some (.inl false)) : Option (Bool ⊕ (T_Cmd × Int))) = some (.inl (decide (kind = 3 ∧ p.Null = true))) := by
        by_cases h3 : kind = 3
        · rw [beq_iff_eq.2 h3]; cases p.Null <;> simp [h3]
        · rw [beq_eq_false_iff_ne.2 h3]; simp [h3]
      cases hpp : parsL kind (r.drop (n + 1)) with
      | none =>
        by_cases hg : kind = 3 ∧ p.Null = true
        · rw [if_pos hg]
          exact bndL (s := true) (cnd_f rfl (cnd_t rfl rfl)) (cnd_t rfl rfl)
        · rw [if_neg hg]
          exact bndL (s := true) (cnd_f rfl (cnd_t rfl rfl)) (cnd_t rfl rfl)
      | some ps =>
        by_cases hg : kind = 3 ∧ p.Null = true
        · rw [if_pos hg]
          rw [decide_eq_true hg] at hguard
          exact bndL (s := true) (cnd_f rfl (cnd_f rfl hguard)) (cnd_t rfl rfl)
        · rw [if_neg hg]
          rw [decide_eq_false hg] at hguard
          exact bndL (s := false) (cnd_f rfl (cnd_f rfl hguard)) (cnd_f rfl rfl)
theorem lbB_or (c : Int) : lbB c = (letB c || (digB c || c == 45)) := lb_or c
theorem rmech_eq (s : ByteArray) (hs : s.size < 1000000000) : wherryref11_mechanism s = some ((sbytes s).all lbB && !(sbytes s).isEmpty) := by
  unfold wherryref11_mechanism
  have hl : (sbytes s).length = s.size := sbytes_len s
  have hem : decide (0 < (s.size : Int)) = !(sbytes s).isEmpty := by
    cases h : sbytes s with
    | nil => rw [h] at hl; rw [← hl]; rfl
    | cons a b => rw [h] at hl; rw [decide_eq_true (by rw [← hl]; simp)]; rfl
  have hstep : ∀ i : Nat, i < s.size → ((chrO s (i : Int)).bind fun v2 =>
          (wherryref11_letter v2).bind fun v3 =>
          cond ((!v3))
            ((chrO s (i : Int)).bind fun v4 =>
            (wherryref11_digit v4).bind fun v5 =>
            cond ((!v5))
              ((chrO s (i : Int)).bind fun v6 =>
              some (.inl (v6 != 45)))
              (some (.inl false)))
            (some (.inl false)) : Option (Bool ⊕ ((Int) ⊕ ((Unit) ⊕ Bool)))) = some (.inl (!lbB ((sbytes s).getD i 0))) := by
    intro i hi
    have hc := chrD hi
    rw [lbB_or]
    refine bnd hc (bnd (rletter _) ?_)
    cases letB ((sbytes s).getD i 0) with
    | true => exact cnd_f rfl rfl
    | false =>
      refine cnd_t rfl (bnd hc (bnd (rdigit _) ?_))
      cases digB ((sbytes s).getD i 0) with
      | true => exact cnd_f rfl rfl
      | false => exact cnd_t rfl (bnd hc rfl)
  have hloop := loop_all (R := Bool) (f := fun (s20 : Int) =>
      cond ((decide (s20 < (s.size : Int))))
        (bindS (S := Bool) (A := ((Int) ⊕ ((Unit) ⊕ Bool)))
          ((chrO s s20).bind fun v2 =>
          (wherryref11_letter v2).bind fun v3 =>
          cond ((!v3))
            ((chrO s s20).bind fun v4 =>
            (wherryref11_digit v4).bind fun v5 =>
            cond ((!v5))
              ((chrO s s20).bind fun v6 =>
              some (.inl (v6 != 45)))
              (some (.inl false)))
            (some (.inl false)))
          (fun (s34 : Bool) =>
            cond (s34)
              (some (.inr (.inr (false))))
              ((some (IntKind.i64.wrap (s20 + 1))).bind fun v12 =>
              some (.inl v12))) some)
        (some (.inr (.inl ())))) (fun i => lbB ((sbytes s).getD i 0)) s.size false (fuel := BIG) (by simp only [BIG]; omega)
    (fun i hi hp => by
      replace hp : lbB ((sbytes s).getD i 0) = true := hp
      have := hstep i hi
      rw [hp] at this
      exact cnd_t (decide_eq_true (by omega)) (bndL this (cnd_f rfl (bnd (some_wrap (by omega) (by omega)) rfl))))
    (fun i hi hp => by
      replace hp : lbB ((sbytes s).getD i 0) = false := hp
      have := hstep i hi
      rw [hp] at this
      exact cnd_t (decide_eq_true (by omega)) (bndL this (cnd_t rfl rfl)))
    (cnd_f (decide_eq_false (by omega)) rfl)
  by_cases h : ∀ i, i < s.size → lbB ((sbytes s).getD i 0) = true
  · rw [if_pos h] at hloop
    rw [(all_iff_get _ _).2 (by rw [hl]; exact h), Bool.true_and]
    exact bndL hloop (by rw [hem])
  · rw [if_neg h] at hloop
    rw [all_iff_false (by rw [hl]; exact h)]
    exact bndR hloop rfl
theorem pfx_split {a b w r : List Int} (h : lowL a = lowL w) : pfx (w ++ b) (a ++ r) = pfx b r := by
  have hl : a.length = w.length := by rw [← low_len a, h, low_len]
  unfold pfx
  have e1 : (a ++ r).take (w ++ b).length = a ++ r.take b.length := by
    rw [List.length_append, ← hl, List.take_length_add_append]
  have e2 : (a ++ r).drop (w ++ b).length = r.drop b.length := by
    rw [List.length_append, ← hl, List.drop_length_add_append]
  rw [e1, e2, low_app, low_app, h]
  by_cases hc : b.length ≤ r.length ∧ lowL (r.take b.length) = lowL b
  · rw [if_pos hc, if_pos ⟨by rw [List.length_append, List.length_append]; omega, by rw [hc.2]⟩]
  · rw [if_neg hc, if_neg]
    rintro ⟨h1, h2⟩
    rw [List.length_append, List.length_append] at h1
    exact hc ⟨by omega, List.append_cancel_left h2⟩
structure Wd (s : ByteArray) (w r : List Int) (more : Bool) : Prop where
  yes : more = true → sbytes s = w ++ 32 :: r ∧ (32 : Int) ∉ w
  no : more = false → sbytes s = w ∧ (32 : Int) ∉ w ∧ r = []
theorem wd_cut (s : ByteArray) : Wd s (cutW 32 (sbytes s)).1 (cutW 32 (sbytes s)).2.1 (cutW 32 (sbytes s)).2.2 := by
  rcases cutW_cases 32 (sbytes s) with ⟨a, b, e, ha, h2⟩ | ⟨hn, h2⟩
  · rw [h2]; exact ⟨(fun _ => ⟨e, ha⟩), (fun h => by cases h)⟩
  · rw [h2]; exact ⟨(fun h => by cases h), (fun _ => ⟨rfl, hn, rfl⟩)⟩
theorem mech_word {l w r : List Int} {more : Bool} (hy : more = true → l = w ++ 32 :: r ∧ (32 : Int) ∉ w) (hn : more = false → l = w ∧ (32 : Int) ∉ w ∧ r = []) (hw : w.length = 4) :
    mechB l = (decide (lowL w = [97, 117, 116, 104]) && (!r.isEmpty && (decide (lowL r ≠ lowL wCram) && r.all lbB))) := by
  cases more with
  | true =>
    obtain ⟨e, _⟩ := hy rfl
    have e2 : l = (w ++ [32]) ++ r := by rw [e]; simp
    by_cases hk : lowL w = [97, 117, 116, 104]
    · rw [decide_eq_true hk, Bool.true_and]
      unfold mechB
      rw [e2, pfx_yes (by rw [low_app, hk]; rfl)]
    · rw [decide_eq_false hk, Bool.false_and, e2]
      refine mech_no (by simp [hw]) ?_
      rw [low_app]
      intro h
      have : lowL wAuth = [97, 117, 116, 104] ++ [32] := rfl
      rw [this] at h
      exact hk (List.append_inj' h rfl).1
  | false =>
    obtain ⟨e, _, hr⟩ := hn rfl
    rw [e, hr, mech_short (by omega)]
    simp
theorem cmd_word {l w r : List Int} {more : Bool} (hy : more = true → l = w ++ 32 :: r ∧ (32 : Int) ∉ w) (hn : more = false → l = w ∧ (32 : Int) ∉ w ∧ r = []) :
    kindL l = kindW (lowL w) ∧ cutW 32 l = (w, r, more) := by
  cases more with
  | true =>
    obtain ⟨e, h⟩ := hy rfl
    rw [e]
    exact ⟨kind_app h, cutW_app h⟩
  | false =>
    obtain ⟨e, h, hr⟩ := hn rfl
    rw [e, hr]
    exact ⟨kind_alone h, cutW_none h⟩
end Go.Abs.Sh
