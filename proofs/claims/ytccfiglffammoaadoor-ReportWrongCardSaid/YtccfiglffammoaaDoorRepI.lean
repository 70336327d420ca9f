import Derived.Test.YtccfiglffammoaaDoorRepH
namespace Go.Abs.Sh
set_option linter.unusedVariables false
set_option linter.unusedSimpArgs false
theorem sb_no {c : Int} {P : Int → Bool} (hP : P c = false) {l : List Int} (h : l.all P = true) : c ∉ l := by
  intro hm
  have := List.all_eq_true.1 h c hm
  rw [hP] at this
  cases this
theorem spl_all {P : List Int → Bool} {c : Int} (Q : Int → Bool) (hQ : Q c = true) (hPQ : ∀ l, P l = true → l.all Q = true) : ∀ l, (spl c l).all P = true → l.all Q = true
  | [], _ => rfl
  | x :: r, h => by
    have hne := spl_ne c r
    unfold spl at h
    by_cases hx : x = c
    · rw [if_pos hx] at h
      simp only [List.all_cons, Bool.and_eq_true] at h
      rw [List.all_cons, hx, hQ, spl_all Q hQ hPQ r h.2]; rfl
    · rw [if_neg hx] at h
      cases hs : spl c r with
      | nil => exact absurd hs hne
      | cons a ps =>
        rw [hs] at h
        simp only [List.all_cons, Bool.and_eq_true] at h
        have h1 := hPQ _ h.1
        simp only [List.all_cons, Bool.and_eq_true] at h1
        have key : ∀ (r : List Int) (a : List Int) (ps : List (List Int)), spl c r = a :: ps → a.all Q = true → ps.all P = true → r.all Q = true := by
          intro r
          induction r with
          | nil => intros; rfl
          | cons y r ih =>
            intro a ps e ha hps
            unfold spl at e
            by_cases hy : y = c
            · rw [if_pos hy] at e
              cases e
              cases hs2 : spl c r with
              | nil => exact absurd hs2 (spl_ne c r)
              | cons b qs =>
                rw [hs2] at hps
                simp only [List.all_cons, Bool.and_eq_true] at hps
                rw [List.all_cons, hy, hQ, ih b qs hs2 (hPQ _ hps.1) hps.2]; rfl
            · rw [if_neg hy] at e
              cases hs2 : spl c r with
              | nil => exact absurd hs2 (spl_ne c r)
              | cons b qs =>
                rw [hs2] at e
                cases e
                simp only [List.all_cons, Bool.and_eq_true] at ha
                rw [List.all_cons, ha.1, ih b ps hs2 ha.2 hps]; rfl
        rw [List.all_cons, h1.1, key r a ps hs h1.2 h.2]; rfl
def atD (c : Int) : Bool := atB c || c == 46
def lbD (c : Int) : Bool := lbB c || c == 46
theorem loc_all {l : List Int} (h : locB l = true) : l.all atD = true := by
  unfold locB at h
  rw [Bool.and_eq_true] at h
  refine spl_all atD (by decide) (fun p hp => ?_) l h.2
  unfold atmB at hp
  rw [Bool.and_eq_true] at hp
  rw [List.all_eq_true] at *
  intro x hx
  unfold atD
  rw [hp.2 x hx]; rfl
theorem dom_all {l : List Int} (h : domB l = true) : l.all lbD = true := by
  unfold domB at h
  rw [Bool.and_eq_true] at h
  refine spl_all lbD (by decide) (fun p hp => ?_) l h.2
  rw [labB_E, Bool.and_eq_true] at hp
  rw [List.all_eq_true] at *
  intro x hx
  unfold lbD
  rw [hp.2 x hx]; rfl
theorem loc_no {c : Int} (hc : atD c = false) {l : List Int} (h : locB l = true) : c ∉ l := sb_no hc (loc_all h)
theorem dom_no {c : Int} (hc : lbD c = false) {l : List Int} (h : domB l = true) : c ∉ l := sb_no hc (dom_all h)
theorem locB_len {l : List Int} (h : locB l = true) : l.length ≤ 64 := by
  unfold locB at h; rw [Bool.and_eq_true] at h; simpa using h.1
theorem domB_len {l : List Int} (h : domB l = true) : l.length ≤ 255 := by
  unfold domB at h; rw [Bool.and_eq_true] at h; simpa using h.1
theorem par_txt (p : T_Path) (h : patB p = true) : parL (txtL p) = some p := by
  obtain ⟨n, l, d⟩ := p
  cases n
  · have hh := h
    unfold patB at h
    simp only [cond_false, Bool.and_eq_true] at h
    have n64 : (64 : Int) ∉ sbytes l := loc_no (by decide) h.1
    unfold parL txtL
    simp only [cond_false]
    rw [if_neg (by intro e; have := congrArg List.length e; simp at this; omega)]
    have e : (60 :: (sbytes l ++ 64 :: (sbytes d ++ [62])) : List Int) = 60 :: ((sbytes l ++ 64 :: sbytes d) ++ [62]) := by simp
    rw [e, midL_mk]
    simp only [boxL, idx1_app n64]
    have e1 : (sbytes l ++ 64 :: sbytes d).take (sbytes l).length = sbytes l := by simp
    have e2 : (sbytes l ++ 64 :: sbytes d).drop ((sbytes l).length + 1) = sbytes d := by
      rw [← List.drop_drop]; simp
    rw [e1, e2, bstr_sbytes, bstr_sbytes, if_pos hh]
  · unfold patB at h
    simp only [cond_true, Bool.and_eq_true, List.isEmpty_iff] at h
    have e1 : l = e0 := sbytes_inj (by rw [h.1]; rfl)
    have e2 : d = e0 := sbytes_inj (by rw [h.2]; rfl)
    subst e1 e2
    rfl
theorem txt_par {l : List Int} {p : T_Path} (hb : byt l) (h : parL l = some p) : txtL p = l ∧ patB p = true := by
  unfold parL at h
  split at h
  · rename_i e
    cases h
    exact ⟨e.symm, rfl⟩
  · rcases mid_cases l with ⟨m, hm, hmid⟩ | hmid
    · rw [hmid] at h
      simp only [boxL] at h
      cases hi : idx1 64 m with
      | none => rw [hi] at h; cases h
      | some e =>
        rw [hi] at h
        dsimp only at h
        split at h
        · rename_i hp
          cases h
          obtain ⟨h1, h2, h3⟩ := idx1_some hi
          have hbm : byt m := by
            rw [hm] at hb
            intro x hx
            exact hb x (by simp [hx])
          refine ⟨?_, hp⟩
          unfold txtL
          simp only [cond_false]
          rw [sbytes_bstr (byt_take hbm _), sbytes_bstr (byt_drop hbm _), hm]
          conv => rhs; rw [h2]
          simp
        · cases h
    · rw [hmid] at h; cases h
end Go.Abs.Sh
