import Derived.Test.YthfmdofkkkpbkaaGreatDoorVrbU
import Derived.Lib.Atoi
namespace Go.Abs.Sh
set_option linter.unusedVariables false
set_option linter.unusedSimpArgs false
set_option maxRecDepth 100000
/-! What the program says of a line is what is said over its bytes. -/
theorem print_eq (l : List Int) (hb : byt l) (hl : l.length ≤ 10000) : verb_printable (bstr l) = some (l.all prB) := by
  unfold verb_printable
  have hs : (bstr l).size = l.length := bstr_size l
  rw [hs]
  have hloop := loop_all (R := Bool) (f := fun (s17 : Int) =>
      cond ((decide (s17 < (l.length : Int))))
        (bindS (S := Bool) (A := ((Int) ⊕ ((Unit) ⊕ Bool)))
          ((chrO (bstr l) s17).bind fun v2 =>
          cond ((decide (v2 < 32)))
            (some (.inl true))
            ((chrO (bstr l) s17).bind fun v3 =>
            some (.inl ((decide (126 < v3))))))
          (fun (s31 : Bool) =>
            cond (s31)
              (some (.inr (.inr (false))))
              ((some (IntKind.i64.wrap (s17 + 1))).bind fun v9 =>
              some (.inl v9))) some)
        (some (.inr (.inl ())))) (fun i => prB (l.getD i 0)) l.length false (fuel := BIG) (by simp only [BIG]; omega)
    (fun i hi hp => by
      have hc : chrO (bstr l) (i : Int) = some (l.getD i 0) := by
        rw [chrD (by rw [hs]; exact hi), sbytes_bstr hb]
      simp only [prB, Bool.and_eq_true, decide_eq_true_eq] at hp
      refine cnd_t (decide_eq_true (by omega)) (bndL (s := false) (bnd hc (cnd_f (decide_eq_false (by omega)) (bnd hc (by rw [decide_eq_false (by omega)])))) (cnd_f rfl (bnd (some_wrap (by omega) (by omega)) rfl))))
    (fun i hi hp => by
      have hc : chrO (bstr l) (i : Int) = some (l.getD i 0) := by
        rw [chrD (by rw [hs]; exact hi), sbytes_bstr hb]
      simp only [prB, Bool.and_eq_false_iff, decide_eq_false_iff_not] at hp
      refine cnd_t (decide_eq_true (by omega)) (bndL (s := true) (bnd hc ?_) rfl)
      by_cases h : l.getD i 0 < 32
      · exact cnd_t (decide_eq_true h) rfl
      · exact cnd_f (decide_eq_false h) (bnd hc (by rw [decide_eq_true (by omega)])))
    (cnd_f (decide_eq_false (by omega)) rfl)
  by_cases h : ∀ i, i < l.length → prB (l.getD i 0) = true
  · rw [if_pos h] at hloop
    rw [(all_iff_get l prB).2 h]
    exact bndL hloop rfl
  · rw [if_neg h] at hloop
    have ha : l.all prB = false := by
      cases e : l.all prB with
      | false => rfl
      | true => exact absurd ((all_iff_get l prB).1 e) h
    rw [ha]
    exact bndR hloop rfl
theorem eqL (s t : ByteArray) : (s.toList == t.toList) = decide (sbytes s = sbytes t) := by
  rw [toList_beq]
  exact decide_eq_decide.2 str_eq_iff
theorem eqFold_eq (a b : ByteArray) (ha : a.size < 4611686018427387904) (hb : b.size < 4611686018427387904) : verb_equalFold a b = some (decide (lowL (sbytes a) = lowL (sbytes b))) := by
  unfold verb_equalFold
  refine bnd (fold_eq a ha) (bnd (fold_eq b hb) ?_)
  rw [eqL, sbytes_low, sbytes_low]
theorem cutFold_eq (s p : ByteArray) (hs : s.size < 4611686018427387904) (hp : p.size < 4611686018427387904) : verb_cutFold s p = some (match pfx (sbytes p) (sbytes s) with | none => (e0, false) | some r => (bstr r, true)) := by
  unfold verb_cutFold pfx
  rw [sbytes_len, sbytes_len]
  by_cases h : s.size < p.size
  · rw [if_neg (by omega)]
    exact bndL (s := true) (cnd_t (decide_eq_true (by omega)) rfl) (cnd_t rfl rfl)
  · have h1 := sub_of (s := s) (a := 0) (b := p.size) (by omega) (by omega)
    rw [List.drop_zero, Nat.sub_zero] at h1
    have hbt : byt ((sbytes s).take p.size) := byt_take (byt_sbytes s) _
    have h2 := eqFold_eq (bstr ((sbytes s).take p.size)) p (by rw [bstr_size, List.length_take, sbytes_len]; omega) hp
    rw [sbytes_bstr hbt] at h2
    by_cases hq : lowL ((sbytes s).take p.size) = lowL (sbytes p)
    · rw [if_pos ⟨by omega, hq⟩]
      have h3 := sub_of (s := s) (a := p.size) (b := s.size) (by omega) (by omega)
      rw [List.take_of_length_le (by rw [List.length_drop, sbytes_len]; exact Nat.le_refl _)] at h3
      exact bndL (s := false) (cnd_f (decide_eq_false (by omega)) (bnd h1 (bnd h2 (by rw [decide_eq_true hq]; rfl)))) (cnd_f rfl (bnd h3 rfl))
    · rw [if_neg (fun h => hq h.2)]
      exact bndL (s := true) (cnd_f (decide_eq_false (by omega)) (bnd h1 (bnd h2 (by rw [decide_eq_false hq]; rfl)))) (cnd_t rfl rfl)
theorem cutW_eq {n : Nat} (hn : n < 256) (s : ByteArray) (hs : s.size < 4611686018427387904) : strings_Cut s ⟨#[UInt8.ofNat n]⟩ = some (bstr (cutW (n : Int) (sbytes s)).1, bstr (cutW (n : Int) (sbytes s)).2.1, (cutW (n : Int) (sbytes s)).2.2) := by
  rw [cut_eq hn s hs]
  unfold cutW
  cases h : idx1 (n : Int) (sbytes s) with
  | none => simp only [bstr_sbytes]; rfl
  | some e => rfl
theorem cnd_ite {R : Type} {p : Prop} [Decidable p] {a b : R} {y : Option R} (h : y = some b) : cond (decide p) (some a) y = some (if p then a else b) := by
  by_cases hp : p
  · rw [decide_eq_true hp, if_pos hp]; rfl
  · rw [decide_eq_false hp, if_neg hp]; exact h
theorem cutW_len (c : Int) (l : List Int) : (cutW c l).1.length ≤ l.length ∧ (cutW c l).2.1.length ≤ l.length := by
  rcases cutW_cases c l with ⟨a, b, e, _, h2⟩ | ⟨_, h2⟩ <;> rw [h2]
  · rw [e]; simp; omega
  · simp
theorem byt_cut (c : Int) {l : List Int} (h : byt l) : byt (cutW c l).1 ∧ byt (cutW c l).2.1 := by
  unfold cutW
  cases idx1 c l with
  | none => exact ⟨h, byt_nil⟩
  | some e => exact ⟨byt_take h _, byt_drop h _⟩
theorem kindOf_eq (s : ByteArray) (hs : s.size < 4611686018427387904) : verb_kindOf s = some (kindL (sbytes s)) := by
  unfold verb_kindOf kindL kindW
  have hc := byt_cut 32 (byt_sbytes s)
  have hl := cutW_len 32 (sbytes s)
  rw [sbytes_len] at hl
  refine bnd (cutW_eq (n := 32) (by decide) s hs) (bnd (fold_eq _ (by rw [bstr_size]; exact Nat.lt_of_le_of_lt hl.1 hs)) ?_)
  have hw : sbytes (lowS (bstr (cutW 32 (sbytes s)).1)) = lowL (cutW 32 (sbytes s)).1 := by rw [sbytes_low, sbytes_bstr hc.1]
  generalize lowL (cutW 32 (sbytes s)).1 = w at hw
  generalize lowS (bstr (cutW 32 (sbytes s)).1) = v at hw
  have e : ∀ t : ByteArray, (v.toList == t.toList) = decide (w = sbytes t) := fun t => by rw [eqL, hw]
  simp only [e]
  have hb : (cond (decide (w = sbytes (⟨#[101, 104, 108, 111]⟩ : ByteArray))) (some (.inl (decide (w = sbytes (⟨#[101, 104, 108, 111]⟩ : ByteArray))))) (some (.inl (decide (w = sbytes (⟨#[104, 101, 108, 111]⟩ : ByteArray))))) : Option (Bool ⊕ Int)) = some (.inl (decide (w = [101, 104, 108, 111] ∨ w = [104, 101, 108, 111]))) := by
    have e1 : sbytes (⟨#[101, 104, 108, 111]⟩ : ByteArray) = [101, 104, 108, 111] := rfl
    have e2 : sbytes (⟨#[104, 101, 108, 111]⟩ : ByteArray) = [104, 101, 108, 111] := rfl
    rw [e1, e2]
    rw [Bool.decide_or]
    cases decide (w = [101, 104, 108, 111]) <;> rfl
  refine bndL hb ?_
  exact cnd_ite (cnd_ite (cnd_ite (cnd_ite (cnd_ite (cnd_ite (cnd_ite (cnd_ite (cnd_ite (cnd_ite (cnd_ite rfl))))))))))
theorem lb1_all : (List.range 256).all (fun k => (domB [((k : Nat) : Int)] || ((k : Nat) : Int) == 45) == lbB ((k : Nat) : Int)) = true := by kernel_rfl
theorem lb1 {c : Int} (hc : 0 ≤ c ∧ c < 256) : (domB [c] || c == 45) = lbB c := by
  have := of_byte (fun c => (domB [c] || c == 45) == lbB c) lb1_all hc
  simpa using this
theorem all_iff_false {l : List Int} {p : Int → Bool} (h : ¬ ∀ i, i < l.length → p (l.getD i 0) = true) : l.all p = false := by
  cases e : l.all p with
  | false => rfl
  | true => exact absurd ((all_iff_get l p).1 e) h
theorem mech_loop (s : ByteArray) (hs : s.size < 4611686018427387904) : (bindS (S := (Unit)) (A := Bool)
          (loopF (S := (Int)) (O := (Unit) ⊕ Bool) (fun (s26 : Int) =>
            cond ((decide (s26 < (s.size : Int))))
              (bindS (S := Bool) (A := ((Int) ⊕ ((Unit) ⊕ Bool)))
                ((chrO s s26).bind fun v9 =>
                cond ((v9 != 45))
                  ((some (IntKind.i64.wrap (s26 + 1))).bind fun v10 =>
                  (subO s s26 v10).bind fun v11 =>
                  (path_Domain v11).bind fun v12 =>
                  some (.inl (!v12)))
                  (some (.inl false)))
                (fun (s40 : Bool) =>
                  cond (s40)
                    (some (.inr (.inr (false))))
                    ((some (IntKind.i64.wrap (s26 + 1))).bind fun v18 =>
                    some (.inl v18))) some)
              (some (.inr (.inl ()))))
            BIG 0)
          (fun (() : Unit) =>
            some (true)) some) = some ((sbytes s).all lbB) := by
  have hstep : ∀ i : Nat, i < s.size → ((chrO s (i : Int)).bind fun v9 =>
                cond ((v9 != 45))
                  ((some (IntKind.i64.wrap ((i : Int) + 1))).bind fun v10 =>
                  (subO s (i : Int) v10).bind fun v11 =>
                  (path_Domain v11).bind fun v12 =>
                  some (.inl (!v12)))
                  (some (.inl false)) : Option (Bool ⊕ ((Int) ⊕ ((Unit) ⊕ Bool)))) = some (.inl (!lbB ((sbytes s).getD i 0))) := by
    intro i hi
    have hc := chrD hi
    have hby := getD_byte s hi
    refine bnd hc ?_
    rw [← lb1 hby]
    by_cases h45 : (sbytes s).getD i 0 = 45
    · refine cnd_f (by rw [h45]; rfl) ?_
      rw [h45]; rfl
    · have hsub := sub_of (s := s) (a := i) (b := i + 1) (by omega) (by omega)
      have e : ((sbytes s).drop i).take (i + 1 - i) = [(sbytes s).getD i 0] := by
        have hlt : i < (sbytes s).length := by rw [sbytes_len]; exact hi
        have e1 : i + 1 - i = 1 := by omega
        rw [e1, List.drop_eq_getElem_cons hlt, List.take_succ_cons, List.take_zero, List.getD_eq_getElem?_getD, List.getElem?_eq_getElem hlt]; rfl
      rw [e] at hsub
      have hb1 : byt [(sbytes s).getD i 0] := byt_cons hby byt_nil
      have hd := dom_eq (bstr [(sbytes s).getD i 0]) (by rw [bstr_size]; simp)
      rw [sbytes_bstr hb1] at hd
      refine cnd_t (by rw [bne, beq_eq_false_iff_ne.2 h45]; rfl) (bnd (some_wrap (by omega) (by omega)) (bnd hsub (bnd hd ?_)))
      have : ((sbytes s).getD i 0 == 45) = false := beq_eq_false_iff_ne.2 h45
      rw [this, Bool.or_false]
  have hloop := loop_all (R := Bool) (f := fun (s26 : Int) =>
            cond ((decide (s26 < (s.size : Int))))
              (bindS (S := Bool) (A := ((Int) ⊕ ((Unit) ⊕ Bool)))
                ((chrO s s26).bind fun v9 =>
                cond ((v9 != 45))
                  ((some (IntKind.i64.wrap (s26 + 1))).bind fun v10 =>
                  (subO s s26 v10).bind fun v11 =>
                  (path_Domain v11).bind fun v12 =>
                  some (.inl (!v12)))
                  (some (.inl false)))
                (fun (s40 : Bool) =>
                  cond (s40)
                    (some (.inr (.inr (false))))
                    ((some (IntKind.i64.wrap (s26 + 1))).bind fun v18 =>
                    some (.inl v18))) some)
              (some (.inr (.inl ())))) (fun i => lbB ((sbytes s).getD i 0)) s.size false (fuel := BIG) (by simp only [BIG]; omega)
    (fun i hi hp => by
      replace hp : lbB ((sbytes s).getD i 0) = true := hp
      have := hstep i hi
      rw [hp] at this
      exact cnd_t (decide_eq_true (by omega)) (bndL this (cnd_f rfl (bnd (some_wrap (by omega) (by omega)) rfl))))
    (fun i hi hp => by
      replace hp : lbB ((sbytes s).getD i 0) = false := hp
      have := hstep i hi
      rw [hp] at this
      exact cnd_t (decide_eq_true (by omega)) (bndL this (cnd_t rfl rfl)))
    (cnd_f (decide_eq_false (by omega)) rfl)
  rw [← sbytes_len] at hloop
  by_cases h : ∀ i, i < (sbytes s).length → lbB ((sbytes s).getD i 0) = true
  · rw [if_pos h] at hloop
    rw [(all_iff_get _ _).2 h]
    exact bndL (by rw [← sbytes_len]; exact hloop) rfl
  · rw [if_neg h] at hloop
    rw [all_iff_false h]
    exact bndR (by rw [← sbytes_len]; exact hloop) rfl
theorem mech_eq (s : ByteArray) (hs : s.size < 4611686018427387904) : verb_otherMechanism s = some (mechB (sbytes s)) := by
  unfold verb_otherMechanism mechB
  refine bnd (cutFold_eq s _ hs (by decide)) ?_
  have ew : sbytes (⟨#[65, 85, 84, 72, 32]⟩ : ByteArray) = wAuth := rfl
  rw [ew]
  cases hp : pfx wAuth (sbytes s) with
  | none => exact bndL (s := true) (cnd_t rfl rfl) (cnd_t rfl rfl)
  | some n =>
    simp only
    obtain ⟨a, e, _, _⟩ := pfx_some hp
    have hbn : byt n := fun x hx => byt_sbytes s x (by rw [e]; exact List.mem_append_right _ hx)
    have hln : n.length ≤ s.size := by rw [← sbytes_len, e, List.length_append]; omega
    have ec : sbytes (⟨#[67, 82, 65, 77, 45, 77, 68, 53]⟩ : ByteArray) = wCram := rfl
    have hsz : (bstr n).size < 4611686018427387904 := by rw [bstr_size]; omega
    have h1 := eqFold_eq (bstr n) (⟨#[67, 82, 65, 77, 45, 77, 68, 53]⟩ : ByteArray) hsz (by decide)
    have h2 := mech_loop (bstr n) hsz
    rw [sbytes_bstr hbn] at h1 h2
    rw [ec] at h1
    have h3 : ((bstr n).toList == (⟨#[]⟩ : ByteArray).toList) = n.isEmpty := by rw [isE, sbytes_bstr hbn]
    cases hn : n.isEmpty with
    | true =>
      rw [hn] at h3
      exact bndL (s := true) (cnd_f rfl (cnd_t h3 rfl)) (cnd_t rfl rfl)
    | false =>
      rw [hn] at h3
      by_cases hq : lowL n = lowL wCram
      · rw [decide_eq_true hq] at h1
        rw [decide_eq_false (by simp [hq])]
        exact bndL (s := true) (cnd_f rfl (cnd_f h3 (bnd h1 rfl))) (cnd_t rfl rfl)
      · rw [decide_eq_false hq] at h1
        rw [decide_eq_true hq]
        refine bndL (s := false) (cnd_f rfl (cnd_f h3 (bnd h1 rfl))) (cnd_f rfl ?_)
        exact h2
end Go.Abs.Sh
