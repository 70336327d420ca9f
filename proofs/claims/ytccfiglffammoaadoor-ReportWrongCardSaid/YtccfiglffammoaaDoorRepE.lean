import Derived.Test.YtccfiglffammoaaDoorRepB
namespace Go.Abs.Sh
set_option linter.unusedVariables false
set_option linter.unusedSimpArgs false
set_option maxRecDepth 100000
def rlS (b : List Int) : (((List (List Int)) × Int × Int)) → Option (((List (List Int)) × Int × Int) ⊕ (((List (List Int))) ⊕ (List (List Int)))) := (fun ((s14, s15, s16) : (List (List Int)) × Int × Int) =>
  cond ((decide (0 ≤ s16)))
    ((sliO b s15 s16).bind fun v3 =>
    (wherrykeep_Twin v3).bind fun v4 =>
    (appO 24 s14 [v4]).bind fun v7 =>
    (some (IntKind.i64.wrap (s16 + 2))).bind fun v8 =>
    (wherryref11_end b v8).bind fun v9 =>
    some (.inl (v7, v8, v9)))
    (some (.inr (.inl s14))))
def rrS (v2 v4 v7 v8 v10 : ByteArray) : ((ByteArray × Int)) → Option ((ByteArray × Int) ⊕ ((ByteArray) ⊕ (List Int))) := (fun ((s36, s37) : ByteArray × Int) =>
  cond ((decide (s37 < (((xsB v2 v4 v7 v8 v10).length : Int)))))
    ((ixO s37 (xsB v2 v4 v7 v8 v10).length).bind fun v12 =>
    (getO (xsB v2 v4 v7 v8 v10) v12).bind fun v13 =>
    (catO s36 v13).bind fun v14 =>
    (catO v14 (⟨#[13, 10]⟩ : ByteArray)).bind fun v15 =>
    (some (IntKind.i64.wrap (s37 + 1))).bind fun v16 =>
    some (.inl (v15, v16)))
    (some (.inr (.inl s36))))
def endO (c : List Int) (p : Nat) : Int := match idx2 c with | none => -1 | some e => ((p + e : Nat) : Int)
theorem rl_loop (b : List Int) (hl : b.length < 100000) : ∀ {c : List Int} {ls : List (List Int)} {r : List Int} (H : Lns c ls r) (p : Nat) (acc : List (List Int)) (fuel : Nat), b.drop p = c → p ≤ b.length → acc.length ≤ p → ls.length < fuel →
    loopF (rlS b) fuel (acc, (p : Int), endO c p) = some (.inl (acc ++ ls)) := by
  intro c ls r H
  induction H with
  | nil h =>
    intro p acc fuel hd hp ha hf
    obtain ⟨k, rfl⟩ : ∃ k, fuel = k + 1 := ⟨fuel - 1, by simp at hf; omega⟩
    rw [show endO _ p = -1 from by unfold endO; rw [h], List.append_nil]
    exact loop_exit rfl
  | @cons c e ls r h t ih =>
    intro p acc fuel hd hp ha hf
    obtain ⟨k, rfl⟩ : ∃ k, fuel = k + 1 := ⟨fuel - 1, by simp at hf; omega⟩
    have hs := idx2_some h
    have hcl : c.length = b.length - p := by rw [← hd, List.length_drop]
    have he : endO c p = ((p + e : Nat) : Int) := by unfold endO; rw [h]
    rw [he]
    have hsl := sli_nat b (a := p) (b := p + e) (by omega) (by omega)
    rw [hd, show p + e - p = e from by omega] at hsl
    have hdd : b.drop (p + e + 2) = c.drop (e + 2) := by rw [← hd, List.drop_drop]; congr 1
    have hw : IntKind.i64.wrap (((p + e : Nat) : Int) + 2) = ((p + e + 2 : Nat) : Int) := by rw [wrap_i64 (by omega) (by omega)]; simp
    have hend := end11 b (by omega) (p + e + 2) (by omega)
    rw [hdd] at hend
    have ih2 := ih (p + e + 2) (acc ++ [c.take e]) k hdd (by omega) (by simp; omega) (by simp at hf; omega)
    have hcat : acc ++ c.take e :: ls = (acc ++ [c.take e]) ++ ls := by simp
    rw [hcat, ← ih2]
    refine loop_next (bnd hsl (bnd (twin15 (c.take e) (by rw [List.length_take]; omega)) (bnd (app_of (k := 24) (l := acc) (m := [c.take e]) (by simp; omega) (by simp; omega)) (bnd (congrArg some hw) (bnd hend ?_)))))
    rfl
theorem lns_short {c : List Int} {ls : List (List Int)} {r : List Int} (H : Lns c ls r) : ls.length ≤ c.length := by
  have := congrArg List.length (lns_join H)
  rw [List.length_append, jn_len] at this
  have := len_tot15 ls
  omega
theorem rlines_eq {b : List Int} {ls : List (List Int)} {r : List Int} (H : Lns b ls r) (hl : b.length < 100000) : wherryref11_Lines b = some ls := by
  unfold wherryref11_Lines
  have h0 := end11 b (by omega) 0 (by omega)
  rw [List.drop_zero] at h0
  have hsh := lns_short H
  have h1 := rl_loop b hl H 0 [] BIG (by simp) (by omega) (by simp) (by simp only [BIG]; omega)
  refine bnd h0 (bndL (s := ls) ?_ rfl)
  exact h1
theorem rr_loop (v2 v4 v7 v8 v10 : ByteArray) (hl : tot ((xsB v2 v4 v7 v8 v10).map sbytes) < 1000000) : loopF (rrS v2 v4 v7 v8 v10) BIG (((⟨#[]⟩ : ByteArray), 0)) = some (.inl (bstr (jn ((xsB v2 v4 v7 v8 v10).map sbytes)))) := by
  obtain ⟨X, hX⟩ : ∃ X, X = xsB v2 v4 v7 v8 v10 := ⟨_, rfl⟩
  have hlen : X.length = 18 := by rw [hX]; rfl
  rw [← hX] at hl ⊢
  have hby : ∀ k, byt (jn ((X.take k).map sbytes)) := fun k => jn_byt (fun l h => by
    obtain ⟨s, _, rfl⟩ := List.mem_map.1 h
    exact byt_sbytes s)
  have htk : ∀ k, tot ((X.take k).map sbytes) ≤ tot (X.map sbytes) := fun k => by
    have : tot (X.map sbytes) = tot ((X.take k).map sbytes) + tot ((X.drop k).map sbytes) := by rw [← tot_app, ← List.map_append, List.take_append_drop]
    omega
  have h := loop_from (f := rrS v2 v4 v7 v8 v10) (fun k => (bstr (jn ((X.take k).map sbytes)), (k : Int))) X.length BIG (s := (bstr (jn []), 0)) (o := .inl (bstr (jn (X.map sbytes)))) rfl (by simp only [BIG]; omega) (fun k hk => ?_) ?_
  · exact h
  · have hgk : getO (xsB v2 v4 v7 v8 v10) k = some X[k] := by rw [← hX]; simp [getO, hk]
    have hixk : ixO (k : Int) (xsB v2 v4 v7 v8 v10).length = some k := by rw [← hX]; exact ixO_of hk
    have hdk : decide ((k : Int) < ((xsB v2 v4 v7 v8 v10).length : Int)) = true := by rw [← hX]; exact decide_eq_true (by omega)
    have hk1 := htk (k + 1)
    rw [List.take_succ_eq_append_getElem hk, List.map_append, tot_app] at hk1
    simp only [List.map_cons, List.map_nil, tot] at hk1
    have hkk : (sbytes X[k]).length ≤ 1000000 := by omega
    have hk0 := htk k
    have hjl : (jn ((X.take k).map sbytes)).length ≤ 1000000 := by rw [jn_len]; omega
    have c1 : catO (bstr (jn ((X.take k).map sbytes))) X[k] = some (bstr (jn ((X.take k).map sbytes) ++ sbytes X[k])) := catL (sbytes_bstr (hby k)) rfl (by omega)
    have c2 : catO (bstr (jn ((X.take k).map sbytes) ++ sbytes X[k])) (⟨#[13, 10]⟩ : ByteArray) = some (bstr ((jn ((X.take k).map sbytes) ++ sbytes X[k]) ++ [13, 10])) := catL (sbytes_bstr (byt_app (hby k) (byt_sbytes _))) rfl (by rw [List.length_append]; simp only [List.length_cons, List.length_nil]; omega)
    refine cnd_t hdk (bnd hixk (bnd hgk (bnd c1 (bnd c2 (bnd (congrArg some (wrap_succ (n := k) (by omega))) ?_)))))
    rw [List.take_succ_eq_append_getElem hk, List.map_append, jn_app]
    simp only [List.map_cons, List.map_nil, jn, List.append_assoc]
  · refine cnd_f (by rw [← hX]; exact decide_eq_false (by omega)) ?_
    rw [List.take_length]
theorem rbuild_eq (site : ByteArray) (s p : T_Path) (h0 : site.size ≤ 5000) (hs : Sm s) (hp : Sm p) : wherryref11_Report site s p = some (repOf (site, s, p)) := by
  have hS := byt_sbytes site
  have hP := byt_txt s
  have hQ := byt_txt p
  have lS : (sbytes site).length ≤ 5000 := by rw [sbytes_len]; exact h0
  have lP := txtR_len hs
  have lQ := txtR_len hp
  have b1 : sbytes (bstr (q1L ++ sbytes site)) = q1L ++ sbytes site := sbytes_bstr (byt_app (q_byt _ _ q1_sb) hS)
  have b9 : sbytes (bstr (q9L ++ txtL p)) = q9L ++ txtL p := sbytes_bstr (byt_app (q_byt _ _ q9_sb) hQ)
  unfold wherryref11_Report
  refine bnd (cat2 q1_sb rfl (by decide) (by omega)) (bnd (cat2 b1 sb62 (by rw [List.length_append, q1_len]; omega) (by decide)) (bnd (rtext_eq s hs.small) (bnd (cat2 q2_sb (sbytes_bstr hP) (by decide) (by omega)) (bnd (rtext_eq p hp.small) (bnd (cat2 q9_sb (sbytes_bstr hQ) (by decide) (by omega)) (bnd (cat2 b9 sb46 (by rw [List.length_append, q9_len]; omega) (by decide)) (bnd (cat2 q13_sb rfl (by decide) (by omega)) (bnd (rtext_eq p hp.small) (bnd (cat2 q15_sb (sbytes_bstr hQ) (by decide) (by omega)) ?_)))))))))
  rw [List.append_assoc, List.append_assoc]
  have hx := xs_sb (sbytes site) (txtL s) (txtL p) hS hP hQ
  have hr := rr_loop (bstr (q1L ++ (sbytes site ++ [62]))) (bstr (q2L ++ txtL s)) (bstr (q9L ++ (txtL p ++ [46]))) (bstr (q13L ++ sbytes site)) (bstr (q15L ++ txtL p)) (by rw [hx, rep_tot]; omega)
  rw [hx] at hr
  refine bndL hr (bnd rfl ?_)
  rw [sbytes_bstr (jn_byt (rep_byt hS hP hQ))]
  rfl
theorem right_eq (site : ByteArray) (s p : T_Path) : wherryref11_RightReport site s p = some (rg site s p) := by
  unfold wherryref11_RightReport rg
  cases h1 : domB (sbytes site)
  · exact bndL (s := false) (bnd (rdom_eq site) (cnd_f h1 rfl)) rfl
  cases h2 : patB s
  · exact bndL (s := false) (bnd (rdom_eq site) (cnd_t h1 (bnd (rpath_eq s) (cnd_f h2 rfl)))) rfl
  cases h3 : patB p
  · refine bndL (s := false) (bnd (rdom_eq site) (cnd_t h1 (bnd (rpath_eq s) (cnd_t h2 (bnd (rpath_eq p) (cnd_f h3 rfl)))))) ?_
    simp
  · refine bndL (s := !s.Null && !p.Null) (bnd (rdom_eq site) (cnd_t h1 (bnd (rpath_eq s) (cnd_t h2 (bnd (rpath_eq p) (cnd_t h3 ?_)))))) (by simp)
    cases s.Null <;> rfl
end Go.Abs.Sh
