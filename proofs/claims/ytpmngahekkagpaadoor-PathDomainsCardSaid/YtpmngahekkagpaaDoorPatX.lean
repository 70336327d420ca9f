import Derived.Test.YtpmngahekkagpaaDoorPatF
import Derived.KernelRfl
namespace Go.Abs.Sh
set_option linter.unusedVariables false
set_option linter.unusedSimpArgs false

theorem wakes11 : wherrylaw11_wakes = some true := by kernel_rfl
theorem reach47 {s : ByteArray} (h : wzS s) : s.size ≤ 140737488351232 := by simpa only [wzS, reachBytes] using h
theorem keepSame (a : T_Path) : wherrykeep_Path (T_Path.mk a.Null a.Local a.Domain) (T_Path.mk a.Null a.Local a.Domain) = some true := by
  rw [keepPath, decide_eq_true rfl]
theorem beq_self_not (b : Bool) : (!(b == b)) = false := by cases b <;> rfl
theorem beq_selfb (b : Bool) : (b == b) = true := by cases b <;> rfl

theorem pathExact_true (p q : T_Path) (s : ByteArray) (hp : T_Path.wz p) (hq : T_Path.wz q) (hs : wzS s) : wherrylaw11_PathExact p q s = some true := by
  have l1 := reach47 hp.2.1; have l2 := reach47 hp.2.2; have l3 := reach47 hq.2.1; have l4 := reach47 hq.2.2; have l5 := reach47 hs
  unfold wherrylaw11_PathExact
  refine bnd (wrap_i (by omega) (by omega)) (bnd (wrap_i (by omega) (by omega)) (bnd (wrap_i (by omega) (by omega)) (bnd (wrap_i (by omega) (by omega)) ?_)))
  by_cases hbig : 2000 < (p.Local.size : Int) + (p.Domain.size : Int) + (q.Local.size : Int) + (q.Domain.size : Int) + (s.size : Int)
  · exact cnd_t (decide_eq_true hbig) rfl
  have sp : Small p := ⟨by omega, by omega⟩
  have sq : Small q := ⟨by omega, by omega⟩
  refine cnd_f (decide_eq_false hbig) (bnd (parse_eq s (by omega)) (bnd (rparse_eq s (by omega)) (bnd (text_eq p sp) (bnd (rpath_eq p) ?_))))
  have cp := check_eq p sp
  have tp := rtext_eq p sp
  have d1 := dom_eq s (by omega)
  have d2 := rdom_eq s
  have fin : (bindS (S := Bool) (A := Bool)
                  ((path_Same (T_Path.mk p.Null p.Local p.Domain) (T_Path.mk q.Null q.Local q.Domain)).bind fun v36 =>
                  (wherryref11_Same (T_Path.mk p.Null p.Local p.Domain) (T_Path.mk q.Null q.Local q.Domain)).bind fun v37 =>
                  (some (v36 == v37)).bind fun v38 =>
                  cond ((v36 == v37))
                    ((path_At (T_Path.mk p.Null p.Local p.Domain) s).bind fun v39 =>
                    (wherryref11_At (T_Path.mk p.Null p.Local p.Domain) s).bind fun v40 =>
                    (some (v39 == v40)).bind fun v41 =>
                    cond ((v39 == v40))
                      ((path_Fold s).bind fun v42 =>
                      (wherryref11_Fold s).bind fun v43 =>
                      cond ((v42.toList == v43.toList))
                        ((wherrylaw11_wakes ).bind fun v44 =>
                        some (.inl v44))
                        (some (.inl false)))
                      (some (.inl false)))
                    (some (.inl false)))
                  (fun (s45 : Bool) =>
                    some (s45)) some) = some true := by
    refine bndL (s := true) (bnd (same_eq p q sp sq) (bnd (rsame_eq p q (by omega) (by omega)) (bnd rfl (cnd_t (beq_selfb _) (bnd (at_eq p s sp (by omega)) (bnd (rat_eq p s (by omega) (by omega)) (bnd rfl (cnd_t (beq_selfb _) (bnd (fold_eq s (by omega)) (bnd (rfold_eq s (by omega)) (cnd_t (by rw [toList_beq]; exact decide_eq_true rfl) (bnd wakes11 rfl)))))))))))) rfl
  generalize parL (sbytes s) = o
  cases hpb : patB p
  · rw [hpb] at cp
    refine bndL (s := false) (bnd cp (bnd rfl (cnd_f rfl (cnd_t rfl (bnd cp (cnd_f rfl (bnd d1 (bnd d2 (bnd rfl (cnd_f (beq_self_not _) ?_)))))))))) (cnd_f rfl (bndL (s := false) (cnd_f rfl (cnd_t rfl (cnd_f rfl (by show some (Sum.inl (!(e0.toList == (⟨#[]⟩ : ByteArray).toList))) = _; rw [isE]; rfl)))) (cnd_f rfl fin)))
    cases o with
    | none => exact bnd rfl (cnd_f rfl (cnd_t rfl (cnd_f rfl (bnd (keepSame noP) rfl))))
    | some x => exact bnd rfl (cnd_f rfl (cnd_f rfl (bnd (keepSame x) rfl)))
  · rw [hpb] at cp
    refine bndL (s := false) (bnd cp (bnd rfl (cnd_f rfl (cnd_f rfl (bnd d1 (bnd d2 (bnd rfl (cnd_f (beq_self_not _) ?_)))))))) (cnd_f rfl (bndL (s := false) (cnd_t rfl (cnd_f rfl (bnd tp (cnd_f (by rw [toList_beq]; simp) (cnd_f rfl rfl))))) (cnd_f rfl fin)))
    cases o with
    | none => exact bnd rfl (cnd_f rfl (cnd_t rfl (cnd_f rfl (bnd (keepSame noP) rfl))))
    | some x => exact bnd rfl (cnd_f rfl (cnd_f rfl (bnd (keepSame x) rfl)))

/-- What is written is read. -/
theorem sb_no {c : Int} {P : Int → Bool} (hP : P c = false) {l : List Int} (h : l.all P = true) : c ∉ l := by
  intro hm
  have := List.all_eq_true.1 h c hm
  rw [hP] at this
  cases this
theorem spl_all {P : List Int → Bool} {c : Int} (Q : Int → Bool) (hQ : Q c = true) (hPQ : ∀ l, P l = true → l.all Q = true) : ∀ l, (spl c l).all P = true → l.all Q = true
  | [], _ => rfl
  | x :: r, h => by
    have hne := spl_ne c r
    unfold spl at h
    by_cases hx : x = c
    · rw [if_pos hx] at h
      simp only [List.all_cons, Bool.and_eq_true] at h
      rw [List.all_cons, hx, hQ, spl_all Q hQ hPQ r h.2]; rfl
    · rw [if_neg hx] at h
      cases hs : spl c r with
      | nil => exact absurd hs hne
      | cons a ps =>
        rw [hs] at h
        simp only [List.all_cons, Bool.and_eq_true] at h
        have h1 := hPQ _ h.1
        simp only [List.all_cons, Bool.and_eq_true] at h1
        have key : ∀ (r : List Int) (a : List Int) (ps : List (List Int)), spl c r = a :: ps → a.all Q = true → ps.all P = true → r.all Q = true := by
          intro r
          induction r with
          | nil => intros; rfl
          | cons y r ih =>
            intro a ps e ha hps
            unfold spl at e
            by_cases hy : y = c
            · rw [if_pos hy] at e
              cases e
              cases hs2 : spl c r with
              | nil => exact absurd hs2 (spl_ne c r)
              | cons b qs =>
                rw [hs2] at hps
                simp only [List.all_cons, Bool.and_eq_true] at hps
                rw [List.all_cons, hy, hQ, ih b qs hs2 (hPQ _ hps.1) hps.2]; rfl
            · rw [if_neg hy] at e
              cases hs2 : spl c r with
              | nil => exact absurd hs2 (spl_ne c r)
              | cons b qs =>
                rw [hs2] at e
                cases e
                simp only [List.all_cons, Bool.and_eq_true] at ha
                rw [List.all_cons, ha.1, ih b ps hs2 ha.2 hps]; rfl
        rw [List.all_cons, h1.1, key r a ps hs h1.2 h.2]; rfl
def atD (c : Int) : Bool := atB c || c == 46
def lbD (c : Int) : Bool := lbB c || c == 46
theorem loc_all {l : List Int} (h : locB l = true) : l.all atD = true := by
  unfold locB at h
  rw [Bool.and_eq_true] at h
  refine spl_all atD (by decide) (fun p hp => ?_) l h.2
  unfold atmB at hp
  rw [Bool.and_eq_true] at hp
  rw [List.all_eq_true] at *
  intro x hx
  unfold atD
  rw [hp.2 x hx]; rfl
theorem dom_all {l : List Int} (h : domB l = true) : l.all lbD = true := by
  unfold domB at h
  rw [Bool.and_eq_true] at h
  refine spl_all lbD (by decide) (fun p hp => ?_) l h.2
  rw [labB_E, Bool.and_eq_true] at hp
  rw [List.all_eq_true] at *
  intro x hx
  unfold lbD
  rw [hp.2 x hx]; rfl
theorem loc_no {c : Int} (hc : atD c = false) {l : List Int} (h : locB l = true) : c ∉ l := sb_no hc (loc_all h)
theorem dom_no {c : Int} (hc : lbD c = false) {l : List Int} (h : domB l = true) : c ∉ l := sb_no hc (dom_all h)
theorem locB_len {l : List Int} (h : locB l = true) : l.length ≤ 64 := by
  unfold locB at h; rw [Bool.and_eq_true] at h; simpa using h.1
theorem domB_len {l : List Int} (h : domB l = true) : l.length ≤ 255 := by
  unfold domB at h; rw [Bool.and_eq_true] at h; simpa using h.1
theorem locB_nil : locB [] = false := rfl
theorem domB_nil : domB [] = false := rfl

theorem par_txt (p : T_Path) (h : patB p = true) : parL (txtL p) = some p := by
  obtain ⟨n, l, d⟩ := p
  cases n
  · have hh := h
    unfold patB at h
    simp only [cond_false, Bool.and_eq_true] at h
    have n64 : (64 : Int) ∉ sbytes l := loc_no (by decide) h.1
    unfold parL txtL
    simp only [cond_false]
    rw [if_neg (by intro e; have := congrArg List.length e; simp at this; omega)]
    have e : (60 :: (sbytes l ++ 64 :: (sbytes d ++ [62])) : List Int) = 60 :: ((sbytes l ++ 64 :: sbytes d) ++ [62]) := by simp
    rw [e, midL_mk]
    simp only [boxL, idx1_app n64]
    have e1 : (sbytes l ++ 64 :: sbytes d).take (sbytes l).length = sbytes l := by simp
    have e2 : (sbytes l ++ 64 :: sbytes d).drop ((sbytes l).length + 1) = sbytes d := by
      rw [← List.drop_drop]; simp
    rw [e1, e2, bstr_sbytes, bstr_sbytes, if_pos hh]
  · unfold patB at h
    simp only [cond_true, Bool.and_eq_true, List.isEmpty_iff] at h
    have e1 : l = e0 := sbytes_inj (by rw [h.1]; rfl)
    have e2 : d = e0 := sbytes_inj (by rw [h.2]; rfl)
    subst e1 e2
    rfl
theorem txt_par {l : List Int} {p : T_Path} (hb : byt l) (h : parL l = some p) : txtL p = l ∧ patB p = true := by
  unfold parL at h
  split at h
  · rename_i e
    cases h
    exact ⟨e.symm, rfl⟩
  · rcases mid_cases l with ⟨m, hm, hmid⟩ | hmid
    · rw [hmid] at h
      simp only [boxL] at h
      cases hi : idx1 64 m with
      | none => rw [hi] at h; cases h
      | some e =>
        rw [hi] at h
        dsimp only at h
        split at h
        · rename_i hp
          cases h
          obtain ⟨h1, h2, h3⟩ := idx1_some hi
          have hbm : byt m := by
            rw [hm] at hb
            intro x hx
            exact hb x (by simp [hx])
          refine ⟨?_, hp⟩
          unfold txtL
          simp only [cond_false]
          rw [sbytes_bstr (byt_take hbm _), sbytes_bstr (byt_drop hbm _), hm]
          conv => rhs; rw [h2]
          simp
        · cases h
    · rw [hmid] at h; cases h
theorem small_par {s : ByteArray} {p : T_Path} (h : parL (sbytes s) = some p) (hs : s.size < 1152921504606846976) : Small p := by
  have h2 := (txt_par (byt_sbytes s) h).1
  have h3 := congrArg List.length h2
  rw [sbytes_len] at h3
  unfold txtL at h3
  cases hn : p.Null
  · rw [hn] at h3
    simp [sbytes_len] at h3
    exact ⟨by omega, by omega⟩
  · have h4 := (txt_par (byt_sbytes s) h).2
    unfold patB at h4
    rw [hn] at h4
    simp only [cond_true, Bool.and_eq_true, List.isEmpty_iff] at h4
    constructor
    · rw [size_sb, h4.1]; simp
    · rw [size_sb, h4.2]; simp
theorem txt_len (p : T_Path) : (txtL p).length ≤ p.Local.size + p.Domain.size + 3 := by
  unfold txtL
  cases p.Null
  · simp [sbytes_len]; omega
  · simp

theorem pathBack_true (p : T_Path) (s : ByteArray) (hp : T_Path.wz p) (hs : wzS s) : wherrylaw11_PathBack p s = some true := by
  have l1 := reach47 hp.2.1; have l2 := reach47 hp.2.2; have l5 := reach47 hs
  unfold wherrylaw11_PathBack
  refine bnd (wrap_i (by omega) (by omega)) (bnd (wrap_i (by omega) (by omega)) ?_)
  by_cases hbig : 2000 < (p.Local.size : Int) + (p.Domain.size : Int) + (s.size : Int)
  · exact cnd_t (decide_eq_true hbig) rfl
  have sp : Small p := ⟨by omega, by omega⟩
  refine cnd_f (decide_eq_false hbig) (bndL (s := ()) ?_ ?_)
  · refine bnd (text_eq p sp) ?_
    have cp := check_eq p sp
    cases hpb : patB p
    · exact cnd_f rfl rfl
    · rw [hpb] at cp
      have hl := txt_len p
      have hpr := parse_eq (bstr (txtL p)) (by rw [bstr_size]; omega)
      rw [sbytes_bstr (byt_txt p), par_txt p hpb] at hpr
      exact cnd_t rfl (bnd hpr (bndL (s := false) (cnd_f rfl (bnd (by rw [keepPath, decide_eq_true rfl]) (cnd_f rfl (bnd cp rfl)))) rfl))
  · refine bnd (parse_eq s (by omega)) ?_
    cases hpar : parL (sbytes s) with
    | none => exact cnd_t rfl (bnd wakes11 rfl)
    | some x =>
      have ⟨h1, h2⟩ := txt_par (byt_sbytes s) hpar
      have sx := small_par hpar (by omega)
      have ct := text_eq x sx
      have cc := check_eq x sx
      rw [h2] at ct cc
      exact cnd_f rfl (bnd ct (bndL (s := true) (cnd_t rfl (cnd_t (by rw [h1, bstr_sbytes, toList_beq]; exact decide_eq_true rfl) (bnd cc (cnd_t rfl (bnd wakes11 rfl))))) rfl))
end Go.Abs.Sh
