import Derived.Test.YtccfiglffammoaaDoorRepA
namespace Go.Abs.Sh
set_option linter.unusedVariables false
set_option linter.unusedSimpArgs false
set_option maxRecDepth 100000
theorem inl_of {A : Type} {a b : Bool} (h : a = b) : (some (.inl a) : Option (Bool ⊕ A)) = some (.inl b) := by rw [h]
def trimL (w l : List Int) : List Int := if w <+: l then l.drop w.length else l
theorem trim_app (w l : List Int) : trimL w (w ++ l) = l := by
  unfold trimL
  rw [if_pos (List.prefix_append w l), List.drop_left]
theorem trim_len (w l : List Int) : (trimL w l).length ≤ l.length := by
  unfold trimL
  split
  · rw [List.length_drop]; omega
  · exact Nat.le_refl _
theorem trim_byt {w l : List Int} (h : byt l) : byt (trimL w l) := by
  unfold trimL
  split
  · exact byt_drop h _
  · exact h
theorem trim_eq (l : List Int) (hb : byt l) (p : ByteArray) : strings_TrimPrefix (bstr l) p = some (bstr (trimL (sbytes p) l)) := by
  unfold strings_TrimPrefix internal_stringslite_TrimPrefix
  have h := hasPrefix_eq (bstr l) p
  rw [sbytes_bstr hb] at h
  unfold trimL
  by_cases hp : sbytes p <+: l
  · rw [if_pos hp]
    rw [decide_eq_true hp] at h
    have hle := hp.length_le
    rw [sbytes_len] at hle
    have hs := sub_of (s := bstr l) (a := p.size) (b := (bstr l).size) (by rw [bstr_size]; exact hle) (Nat.le_refl _)
    rw [sbytes_bstr hb, List.take_of_length_le (by rw [List.length_drop, bstr_size]; exact Nat.le_refl _)] at hs
    rw [sbytes_len]
    exact bnd (bnd h (cnd_t rfl (bnd hs rfl))) rfl
  · rw [if_neg hp]
    rw [decide_eq_false hp] at h
    exact bnd (bnd h (cnd_f rfl rfl)) rfl
def parD (l : List Int) : T_Path := (parL l).getD noP
theorem pars_eq (l : List Int) (hb : byt l) (hl : l.length ≤ 5000) : ∃ e, path_Parse (bstr l) = some (parD l, e) := by
  have h := parse_eq (bstr l) (by rw [bstr_size]; omega)
  rw [sbytes_bstr hb] at h
  unfold parD
  cases hp : parL l with
  | none => rw [hp] at h; exact ⟨5, h⟩
  | some p => rw [hp] at h; exact ⟨0, h⟩
theorem sm_of_txt {p : T_Path} {l : List Int} (h : txtL p = l) (hp : patB p = true) (hl : l.length ≤ 5000) : Sm p := by
  subst h
  unfold txtL at hl
  unfold patB at hp
  cases hn : p.Null
  · rw [hn] at hl
    simp only [cond_false, List.length_cons, List.length_append, sbytes_len] at hl
    exact ⟨by omega, by omega⟩
  · rw [hn] at hp
    simp only [cond_true, Bool.and_eq_true, List.isEmpty_iff] at hp
    have h1 := congrArg List.length hp.1
    have h2 := congrArg List.length hp.2
    rw [sbytes_len] at h1 h2
    simp only [List.length_nil] at h1 h2
    exact ⟨by omega, by omega⟩
theorem par_sm {l : List Int} (hb : byt l) (hl : l.length ≤ 5000) : Sm (parD l) := by
  unfold parD
  cases hp : parL l with
  | none => exact ⟨by simp [noP, e0, ByteArray.size], by simp [noP, e0, ByteArray.size]⟩
  | some p =>
    obtain ⟨h1, h2⟩ := txt_par hb hp
    exact sm_of_txt h1 h2 hl
def candL (ls : List (List Int)) : ByteArray × T_Path × T_Path := (bstr (trimL q13L (ls.getD 12 [])), parD (trimL q2L (ls.getD 1 [])), parD (trimL q15L (ls.getD 14 [])))
def repOf (c : ByteArray × T_Path × T_Path) : List Int := jn (repL (sbytes c.1) (txtL c.2.1) (txtL c.2.2))
theorem equal_eq {a b : List Int} (ha : byt a) (hb : byt b) : bytes_Equal a b = some (decide (a = b)) := by
  unfold bytes_Equal
  refine bnd rfl (bnd rfl ?_)
  rw [toList_beq]
  congr 1
  by_cases h : a = b
  · subst h; simp
  · rw [decide_eq_false h]
    exact decide_eq_false fun e => h (by rw [← sbytes_bstr ha, ← sbytes_bstr hb, e])
theorem read_core {b : List Int} {ls : List (List Int)} {r : List Int} (H : Lns b ls r) (hb : byt b) (hl : b.length ≤ 4900) :
    report_Read b = some (if 14 < ls.length ∧ rg (candL ls).1 (candL ls).2.1 (candL ls).2.2 = true ∧ repOf (candL ls) = b then ((candL ls).1, (candL ls).2.1, (candL ls).2.2, 0) else (e0, noP, noP, 5)) := by
  unfold report_Read
  refine bnd (lines14 H hb (by omega)) ?_
  by_cases h14 : ls.length ≤ 14
  · rw [if_neg (fun h => by omega)]
    exact cnd_t (decide_eq_true (by omega)) rfl
  have hlb := byt_line H hb
  have hjn := lns_join H
  have hbl : ∀ i (h : i < ls.length), ls[i].length ≤ 4900 := fun i h => by
    have h1 := tot_mem (List.getElem_mem h)
    have h2 := congrArg List.length hjn
    rw [List.length_append, jn_len] at h2
    omega
  have g : ∀ i (h : i < ls.length), getO ls i = some ls[i] := fun i h => by simp [getO, h]
  have gd : ∀ i (h : i < ls.length), ls.getD i [] = ls[i] := fun i h => by simp [List.getD, h]
  have hc : candL ls = (bstr (trimL q13L ls[12]), parD (trimL q2L ls[1]), parD (trimL q15L ls[14])) := by
    unfold candL
    rw [gd 12 (by omega), gd 1 (by omega), gd 14 (by omega)]
  rw [hc]
  have b12 := hlb _ (List.getElem_mem (show 12 < ls.length by omega))
  have b1 := hlb _ (List.getElem_mem (show 1 < ls.length by omega))
  have b14 := hlb _ (List.getElem_mem (show 14 < ls.length by omega))
  have l12 := hbl 12 (by omega)
  have l1 := hbl 1 (by omega)
  have l14 := hbl 14 (by omega)
  have t12 := trim_len q13L ls[12]
  have t1 := trim_len q2L ls[1]
  have t14 := trim_len q15L ls[14]
  obtain ⟨e1, hp1⟩ := pars_eq (trimL q2L ls[1]) (trim_byt b1) (by omega)
  obtain ⟨e2, hp2⟩ := pars_eq (trimL q15L ls[14]) (trim_byt b14) (by omega)
  have hbd := build_eq (bstr (trimL q13L ls[12])) (parD (trimL q2L ls[1])) (parD (trimL q15L ls[14])) (by rw [bstr_size]; omega) (par_sm (trim_byt b1) (by omega)) (par_sm (trim_byt b14) (by omega))
  have ix : ∀ n : Nat, n < ls.length → ixO (n : Int) ls.length = some n := fun n h => ixO_of h
  refine cnd_f (decide_eq_false (by omega)) (bnd (ix 12 (by omega)) (bnd (g 12 (by omega)) (bnd rfl (bnd (trim_eq _ b12 q13) (bnd (ix 1 (by omega)) (bnd (g 1 (by omega)) (bnd rfl (bnd (trim_eq _ b1 q2) (bnd hp1 (bnd (ix 14 (by omega)) (bnd (g 14 (by omega)) (bnd rfl (bnd (trim_eq _ b14 q15) (bnd hp2 (bnd hbd ?_)))))))))))))))
  by_cases hrg : rg (bstr (trimL q13L ls[12])) (parD (trimL q2L ls[1])) (parD (trimL q15L ls[14])) = true
  · rw [if_pos hrg]
    have hbt : byt (jn (repL (sbytes (bstr (trimL q13L ls[12]))) (txtL (parD (trimL q2L ls[1]))) (txtL (parD (trimL q15L ls[14]))))) := jn_byt (rep_byt (byt_sbytes _) (byt_txt _) (byt_txt _))
    by_cases he : repOf (bstr (trimL q13L ls[12]), parD (trimL q2L ls[1]), parD (trimL q15L ls[14])) = b
    · rw [if_pos ⟨by omega, hrg, he⟩]
      refine bndL (s := false) (cnd_f rfl (bnd (equal_eq hbt hb) (inl_of ?_))) (cnd_f rfl rfl)
      exact congrArg (fun x => !x) (decide_eq_true he)
    · rw [if_neg (fun h => he h.2.2)]
      refine bndL (s := true) (cnd_f rfl (bnd (equal_eq hbt hb) (inl_of ?_))) (cnd_t rfl rfl)
      exact congrArg (fun x => !x) (decide_eq_false he)
  · rw [if_neg hrg, if_neg (fun h => hrg h.2.1)]
    exact bndL (s := true) (cnd_t rfl rfl) (cnd_t rfl rfl)
theorem rg_of {site : ByteArray} {s p : T_Path} (h : rg site s p = true) : domB (sbytes site) = true ∧ patB s = true ∧ s.Null = false ∧ patB p = true ∧ p.Null = false := by
  simp only [rg, Bool.and_eq_true, Bool.not_eq_true'] at h
  exact ⟨h.1, h.2.1, h.2.2.1, h.2.2.2.1, h.2.2.2.2⟩
theorem cand_rep {site : ByteArray} {s p : T_Path} (h : rg site s p = true) : candL (repL (sbytes site) (txtL s) (txtL p)) = (site, s, p) := by
  obtain ⟨_, h2, _, h4, _⟩ := rg_of h
  have e12 : (repL (sbytes site) (txtL s) (txtL p)).getD 12 [] = q13L ++ sbytes site := rfl
  have e1 : (repL (sbytes site) (txtL s) (txtL p)).getD 1 [] = q2L ++ txtL s := rfl
  have e14 : (repL (sbytes site) (txtL s) (txtL p)).getD 14 [] = q15L ++ txtL p := rfl
  unfold candL
  rw [e12, e1, e14, trim_app, trim_app, trim_app, bstr_sbytes]
  unfold parD
  rw [par_txt s h2, par_txt p h4]
  rfl
theorem pat_txt {p : T_Path} (h : patB p = true) (hn : p.Null = false) : txtL p = 60 :: (sbytes p.Local ++ 64 :: (sbytes p.Domain ++ [62])) ∧ locB (sbytes p.Local) = true ∧ domB (sbytes p.Domain) = true := by
  unfold patB at h
  rw [hn] at h
  simp only [cond_false, Bool.and_eq_true] at h
  refine ⟨by unfold txtL; rw [hn]; rfl, h.1, h.2⟩
theorem cln_loc {l : List Int} (h : locB l = true) : cln l := fun x hx => by
  refine ⟨fun e => ?_, fun e => ?_⟩
  · subst e; exact loc_no (c := 13) (by decide) h hx
  · subst e; exact loc_no (c := 10) (by decide) h hx
theorem cln_dom' {l : List Int} (h : domB l = true) : cln l := fun x hx => by
  refine ⟨fun e => ?_, fun e => ?_⟩
  · subst e; exact dom_no (c := 13) (by decide) h hx
  · subst e; exact dom_no (c := 10) (by decide) h hx
theorem cln_txt {p : T_Path} (h : patB p = true) (hn : p.Null = false) : cln (txtL p) := by
  obtain ⟨e, h1, h2⟩ := pat_txt h hn
  rw [e]
  have : (60 : Int) :: (sbytes p.Local ++ 64 :: (sbytes p.Domain ++ [62])) = [60] ++ (sbytes p.Local ++ ([64] ++ (sbytes p.Domain ++ [62]))) := rfl
  rw [this]
  exact cln_app (cln1 (by decide) (by decide)) (cln_app (cln_loc h1) (cln_app (cln1 (by decide) (by decide)) (cln_app (cln_dom' h2) (cln1 (by decide) (by decide)))))
theorem rep_all {site : ByteArray} {s p : T_Path} (h : rg site s p = true) : (∀ l ∈ repL (sbytes site) (txtL s) (txtL p), cln l) ∧ (∀ l ∈ repL (sbytes site) (txtL s) (txtL p), byt l) := by
  obtain ⟨h1, h2, h3, h4, h5⟩ := rg_of h
  exact ⟨rep_cln (cln_dom' h1) (cln_txt h2 h3) (cln_txt h4 h5), rep_byt (byt_sbytes _) (byt_txt _) (byt_txt _)⟩
theorem read_yes {site : ByteArray} {s p : T_Path} (h : rg site s p = true) (hl : (repOf (site, s, p)).length ≤ 4900) : report_Read (repOf (site, s, p)) = some (site, s, p, 0) := by
  obtain ⟨hc, hb⟩ := rep_all h
  have hx := read_core (lns_jn hc) (jn_byt hb) hl
  rw [cand_rep h, if_pos ⟨by rw [rep_len]; omega, h, rfl⟩] at hx
  exact hx
theorem read_no {b : List Int} (hb : byt b) (hl : b.length ≤ 4900) (h : ∀ site s p, rg site s p = true → repOf (site, s, p) ≠ b) : report_Read b = some (e0, noP, noP, 5) := by
  obtain ⟨ls, r, H⟩ := lns_ex b.length b (Nat.le_refl _)
  rw [read_core H hb hl, if_neg (fun hc => h _ _ _ hc.2.1 hc.2.2)]
end Go.Abs.Sh
