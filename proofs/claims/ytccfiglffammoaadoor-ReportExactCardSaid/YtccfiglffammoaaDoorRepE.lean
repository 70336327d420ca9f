import Derived.Test.YtccfiglffammoaaDoorRepB
namespace Go.Abs.Sh
set_option linter.unusedVariables false
set_option linter.unusedSimpArgs false
set_option maxRecDepth 100000
def rlS (b : List Int) : (((List (List Int)) × Int × Int)) → Option (((List (List Int)) × Int × Int) ⊕ (((List (List Int))) ⊕ (List (List Int)))) := (fun ((s14, s15, s16) : (List (List Int)) × Int × Int) =>
  cond ((decide (0 ≤ s16)))
    ((sliO b s15 s16).bind fun v3 =>
    (wherrykeep_Twin v3).bind fun v4 =>
    (appO 24 s14 [v4]).bind fun v7 =>
    (some (IntKind.i64.wrap (s16 + 2))).bind fun v8 =>
    (wherryref11_end b v8).bind fun v9 =>
    some (.inl (v7, v8, v9)))
    (some (.inr (.inl s14))))
def rrS (v2 v4 v7 v8 v10 : ByteArray) : ((ByteArray × Int)) → Option ((ByteArray × Int) ⊕ ((ByteArray) ⊕ (List Int))) := (fun ((s36, s37) : ByteArray × Int) =>
  cond ((decide (s37 < (((xsB v2 v4 v7 v8 v10).length : Int)))))
    ((ixO s37 (xsB v2 v4 v7 v8 v10).length).bind fun v12 =>
    (getO (xsB v2 v4 v7 v8 v10) v12).bind fun v13 =>
    (catO s36 v13).bind fun v14 =>
    (catO v14 (⟨#[13, 10]⟩ : ByteArray)).bind fun v15 =>
    (some (IntKind.i64.wrap (s37 + 1))).bind fun v16 =>
    some (.inl (v15, v16)))
    (some (.inr (.inl s36))))
def endO (c : List Int) (p : Nat) : Int := match idx2 c with | none => -1 | some e => ((p + e : Nat) : Int)
theorem rl_loop (b : List Int) (hl : b.length < 100000) : ∀ {c : List Int} {ls : List (List Int)} {r : List Int} (H : Lns c ls r) (p : Nat) (acc : List (List Int)) (fuel : Nat), b.drop p = c → p ≤ b.length → acc.length ≤ p → ls.length < fuel →
    loopF (rlS b) fuel (acc, (p : Int), endO c p) = some (.inl (acc ++ ls)) := by
  intro c ls r H
  induction H with
  | nil h =>
    intro p acc fuel hd hp ha hf
    obtain ⟨k, rfl⟩ : ∃ k, fuel = k + 1 := ⟨fuel - 1, by simp at hf; omega⟩
    rw [show endO _ p = -1 from by unfold endO; rw [h], List.append_nil]
    exact loop_exit rfl
  | @cons c e ls r h t ih =>
    intro p acc fuel hd hp ha hf
    obtain ⟨k, rfl⟩ : ∃ k, fuel = k + 1 := ⟨fuel - 1, by simp at hf; omega⟩
    have hs := idx2_some h
    have hcl : c.length = b.length - p := by rw [← hd, List.length_drop]
    have he : endO c p = ((p + e : Nat) : Int) := by unfold endO; rw [h]
    rw [he]
    have hsl := sli_nat b (a := p) (b := p + e) (by omega) (by omega)
    rw [hd, show p + e - p = e from by omega] at hsl
    have hdd : b.drop (p + e + 2) = c.drop (e + 2) := by rw [← hd, List.drop_drop]; congr 1
    have hw : IntKind.i64.wrap (((p + e : Nat) : Int) + 2) = ((p + e + 2 : Nat) : Int) := by rw [wrap_i64 (by omega) (by omega)]; simp
    have hend := end11 b (by omega) (p + e + 2) (by omega)
    rw [hdd] at hend
    have ih2 := ih (p + e + 2) (acc ++ [c.take e]) k hdd (by omega) (by simp; omega) (by simp at hf; omega)
    have hcat : acc ++ c.take e :: ls = (acc ++ [c.take e]) ++ ls := by simp
    rw [hcat, ← ih2]
    refine loop_next (bnd hsl (bnd (twin15 (c.take e) (by rw [List.length_take]; omega)) (bnd (app_of (k := 24) (l := acc) (m := [c.take e]) (by simp; omega) (by simp; omega)) (bnd (congrArg some hw) (bnd hend ?_)))))
    rfl
theorem lns_short {c : List Int} {ls : List (List Int)} {r : List Int} (H : Lns c ls r) : ls.length ≤ c.length := by
  have := congrArg List.length (lns_join H)
  rw [List.length_append, jn_len] at this
  have := len_tot15 ls
  omega
theorem rlines_eq {b : List Int} {ls : List (List Int)} {r : List Int} (H : Lns b ls r) (hl : b.length < 100000) : wherryref11_Lines b = some ls := by
  unfold wherryref11_Lines
  have h0 := end11 b (by omega) 0 (by omega)
  rw [List.drop_zero] at h0
  have hsh := lns_short H
  have h1 := rl_loop b hl H 0 [] BIG (by simp) (by omega) (by simp) (by simp only [BIG]; omega)
  refine bnd h0 (bndL (s := ls) ?_ rfl)
  exact h1
theorem rr_loop (v2 v4 v7 v8 v10 : ByteArray) (hl : tot ((xsB v2 v4 v7 v8 v10).map sbytes) < 1000000) : loopF (rrS v2 v4 v7 v8 v10) BIG (((⟨#[]⟩ : ByteArray), 0)) = some (.inl (bstr (jn ((xsB v2 v4 v7 v8 v10).map sbytes)))) := by
  obtain ⟨X, hX⟩ : ∃ X, X = xsB v2 v4 v7 v8 v10 := ⟨_, rfl⟩
  have hlen : X.length = 18 := by rw [hX]; rfl
  rw [← hX] at hl ⊢
  have hby : ∀ k, byt (jn ((X.take k).map sbytes)) := fun k => jn_byt (fun l h => by
    obtain ⟨s, _, rfl⟩ := List.mem_map.1 h
    exact byt_sbytes s)
  have htk : ∀ k, tot ((X.take k).map sbytes) ≤ tot (X.map sbytes) := fun k => by
    have : tot (X.map sbytes) = tot ((X.take k).map sbytes) + tot ((X.drop k).map sbytes) := by rw [← tot_app, ← List.map_append, List.take_append_drop]
    omega
  have h := loop_from (f := rrS v2 v4 v7 v8 v10) (fun k => (bstr (jn ((X.take k).map sbytes)), (k : Int))) X.length BIG (s := (bstr (jn []), 0)) (o := .inl (bstr (jn (X.map sbytes)))) rfl (by simp only [BIG]; omega) (fun k hk => ?_) ?_
  · exact h
  · have hgk : getO (xsB v2 v4 v7 v8 v10) k = some X[k] := by rw [← hX]; simp [getO, hk]
    have hixk : ixO (k : Int) (xsB v2 v4 v7 v8 v10).length = some k := by rw [← hX]; exact ixO_of hk
    have hdk : decide ((k : Int) < ((xsB v2 v4 v7 v8 v10).length : Int)) = true := by rw [← hX]; exact decide_eq_true (by omega)
    have hk1 := htk (k + 1)
    rw [List.take_succ_eq_append_getElem hk, List.map_append, tot_app] at hk1
    simp only [List.map_cons, List.map_nil, tot] at hk1
    have hkk : (sbytes X[k]).length ≤ 1000000 := by omega
    have hk0 := htk k
    have hjl : (jn ((X.take k).map sbytes)).length ≤ 1000000 := by rw [jn_len]; omega
    have c1 : catO (bstr (jn ((X.take k).map sbytes))) X[k] = some (bstr (jn ((X.take k).map sbytes) ++ sbytes X[k])) := catL (sbytes_bstr (hby k)) rfl (by omega)
    have c2 : catO (bstr (jn ((X.take k).map sbytes) ++ sbytes X[k])) (⟨#[13, 10]⟩ : ByteArray) = some (bstr ((jn ((X.take k).map sbytes) ++ sbytes X[k]) ++ [13, 10])) := catL (sbytes_bstr (byt_app (hby k) (byt_sbytes _))) rfl (by rw [List.length_append]; simp only [List.length_cons, List.length_nil]; omega)
    refine cnd_t hdk (bnd hixk (bnd hgk (bnd c1 (bnd c2 (bnd (congrArg some (wrap_succ (n := k) (by omega))) ?_)))))
    rw [List.take_succ_eq_append_getElem hk, List.map_append, jn_app]
    simp only [List.map_cons, List.map_nil, jn, List.append_assoc]
  · refine cnd_f (by rw [← hX]; exact decide_eq_false (by omega)) ?_
    rw [List.take_length]
theorem rbuild_eq (site : ByteArray) (s p : T_Path) (h0 : site.size ≤ 5000) (hs : Sm s) (hp : Sm p) : wherryref11_Report site s p = some (repOf (site, s, p)) := by
  have hS := byt_sbytes site
  have hP := byt_txt s
  have hQ := byt_txt p
  have lS : (sbytes site).length ≤ 5000 := by rw [sbytes_len]; exact h0
  have lP := txtR_len hs
  have lQ := txtR_len hp
  have b1 : sbytes (bstr (q1L ++ sbytes site)) = q1L ++ sbytes site := sbytes_bstr (byt_app (q_byt _ _ q1_sb) hS)
  have b9 : sbytes (bstr (q9L ++ txtL p)) = q9L ++ txtL p := sbytes_bstr (byt_app (q_byt _ _ q9_sb) hQ)
  unfold wherryref11_Report
  refine bnd (cat2 q1_sb rfl (by decide) (by omega)) (bnd (cat2 b1 sb62 (by rw [List.length_append, q1_len]; omega) (by decide)) (bnd (rtext_eq s hs.small) (bnd (cat2 q2_sb (sbytes_bstr hP) (by decide) (by omega)) (bnd (rtext_eq p hp.small) (bnd (cat2 q9_sb (sbytes_bstr hQ) (by decide) (by omega)) (bnd (cat2 b9 sb46 (by rw [List.length_append, q9_len]; omega) (by decide)) (bnd (cat2 q13_sb rfl (by decide) (by omega)) (bnd (rtext_eq p hp.small) (bnd (cat2 q15_sb (sbytes_bstr hQ) (by decide) (by omega)) ?_)))))))))
  rw [List.append_assoc, List.append_assoc]
  have hx := xs_sb (sbytes site) (txtL s) (txtL p) hS hP hQ
  have hr := rr_loop (bstr (q1L ++ (sbytes site ++ [62]))) (bstr (q2L ++ txtL s)) (bstr (q9L ++ (txtL p ++ [46]))) (bstr (q13L ++ sbytes site)) (bstr (q15L ++ txtL p)) (by rw [hx, rep_tot]; omega)
  rw [hx] at hr
  refine bndL hr (bnd rfl ?_)
  rw [sbytes_bstr (jn_byt (rep_byt hS hP hQ))]
  rfl
theorem right_eq (site : ByteArray) (s p : T_Path) : wherryref11_RightReport site s p = some (rg site s p) := by
  unfold wherryref11_RightReport rg
  cases h1 : domB (sbytes site)
  · exact bndL (s := false) (bnd (rdom_eq site) (cnd_f h1 rfl)) rfl
  cases h2 : patB s
  · exact bndL (s := false) (bnd (rdom_eq site) (cnd_t h1 (bnd (rpath_eq s) (cnd_f h2 rfl)))) rfl
  cases h3 : patB p
  · refine bndL (s := false) (bnd (rdom_eq site) (cnd_t h1 (bnd (rpath_eq s) (cnd_t h2 (bnd (rpath_eq p) (cnd_f h3 rfl)))))) ?_
    simp
  · refine bndL (s := !s.Null && !p.Null) (bnd (rdom_eq site) (cnd_t h1 (bnd (rpath_eq s) (cnd_t h2 (bnd (rpath_eq p) (cnd_t h3 ?_)))))) (by simp)
    cases s.Null <;> rfl
theorem rpars_eq (l : List Int) (hb : byt l) (hl : l.length ≤ 5000) : ∃ e, wherryref11_Parse (bstr l) = some (parD l, e) ∧ (∀ p, parL l = some p → e = true) := by
  have h := rparse_eq (bstr l) (by rw [bstr_size]; omega)
  rw [sbytes_bstr hb] at h
  unfold parD
  cases hp : parL l with
  | none => rw [hp] at h; exact ⟨false, h, fun p e => by cases e⟩
  | some p => rw [hp] at h; exact ⟨true, h, fun p e => rfl⟩
theorem rbegins (l : List Int) (hb : byt l) (hl : l.length ≤ 5000) (w : ByteArray) (hw : lowL (sbytes w) = sbytes w) : ∃ t : List Int, byt t ∧ t.length ≤ 5000 ∧ ∃ e, wherryref11_begins (bstr l) w = some (bstr t, e) ∧ (∀ k m, l = k ++ m → lowL k = sbytes w → t = m ∧ e = true) := by
  have h := begins_eq (bstr l) w (by rw [bstr_size]; omega) hw
  rw [sbytes_bstr hb] at h
  cases hp : pfx (sbytes w) l with
  | none =>
    rw [hp] at h
    refine ⟨[], byt_nil, by simp, false, h, fun k m e1 e2 => ?_⟩
    subst e1
    have hk : k.length = (sbytes w).length := by rw [← e2]; simp [lowL]
    unfold pfx at hp
    rw [if_pos ⟨by rw [List.length_append]; omega, by rw [← hk, List.take_left, e2, hw]⟩] at hp
    cases hp
  | some t =>
    rw [hp] at h
    have ht : t = l.drop (sbytes w).length := by
      unfold pfx at hp
      split at hp
      · exact (Option.some.inj hp).symm
      · cases hp
    refine ⟨t, by rw [ht]; exact byt_drop hb _, by rw [ht, List.length_drop]; omega, true, h, fun k m e1 e2 => ?_⟩
    have hk : k.length = (sbytes w).length := by rw [← e2]; simp [lowL]
    subst e1
    exact ⟨by rw [ht, ← hk, List.drop_left], rfl⟩
theorem low13 : lowL q13L = sbytes (⟨#[114, 101, 112, 111, 114, 116, 105, 110, 103, 45, 109, 116, 97, 58, 32, 100, 110, 115, 59, 32]⟩ : ByteArray) := by kernel_rfl
theorem low2 : lowL q2L = sbytes (⟨#[116, 111, 58, 32]⟩ : ByteArray) := by kernel_rfl
theorem low15 : lowL q15L = sbytes (⟨#[102, 105, 110, 97, 108, 45, 114, 101, 99, 105, 112, 105, 101, 110, 116, 58, 32, 114, 102, 99, 56, 50, 50, 59, 32]⟩ : ByteArray) := by kernel_rfl
theorem keepB (a b : List Int) (hl : a.length < 4294967296) : wherrykeep_Bytes a b = some (decide (a = b)) := keepBytes_eq a b hl
theorem rread_core {b : List Int} {ls : List (List Int)} {r : List Int} (H : Lns b ls r) (hb : byt b) (hl : b.length ≤ 4900) :
    (wherryref11_ReadReport b = some (e0, noP, noP, false)) ∨ ∃ site s p, rg site s p = true ∧ repOf (site, s, p) = b ∧ wherryref11_ReadReport b = some (site, s, p, true) := by
  unfold wherryref11_ReadReport
  by_cases h18 : ls.length = 18
  case neg =>
    refine .inl (bnd (rlines_eq H (by omega)) (cnd_t ?_ rfl))
    simp only [bne_iff_ne, ne_eq]; omega
  have hlb := byt_line H hb
  have hjn := lns_join H
  have hbl : ∀ i (h : i < ls.length), ls[i].length ≤ 4900 := fun i h => by
    have h1 := tot_mem (List.getElem_mem h)
    have h2 := congrArg List.length hjn
    rw [List.length_append, jn_len] at h2
    omega
  have g : ∀ i (h : i < ls.length), getO ls i = some ls[i] := fun i h => by simp [getO, h]
  have ix : ∀ n : Nat, n < ls.length → ixO (n : Int) ls.length = some n := fun n h => ixO_of h
  obtain ⟨t12, bt12, lt12, e12, hb12, _⟩ := rbegins ls[12] (hlb _ (List.getElem_mem (by omega))) (by have := hbl 12 (by omega); omega) (⟨#[114, 101, 112, 111, 114, 116, 105, 110, 103, 45, 109, 116, 97, 58, 32, 100, 110, 115, 59, 32]⟩ : ByteArray) (by kernel_rfl)
  obtain ⟨t1, bt1, lt1, e1, hb1, _⟩ := rbegins ls[1] (hlb _ (List.getElem_mem (by omega))) (by have := hbl 1 (by omega); omega) (⟨#[116, 111, 58, 32]⟩ : ByteArray) (by kernel_rfl)
  obtain ⟨t14, bt14, lt14, e14, hb14, _⟩ := rbegins ls[14] (hlb _ (List.getElem_mem (by omega))) (by have := hbl 14 (by omega); omega) (⟨#[102, 105, 110, 97, 108, 45, 114, 101, 99, 105, 112, 105, 101, 110, 116, 58, 32, 114, 102, 99, 56, 50, 50, 59, 32]⟩ : ByteArray) (by kernel_rfl)
  obtain ⟨f1, hf1, _⟩ := rpars_eq t1 bt1 lt1
  obtain ⟨f14, hf14, _⟩ := rpars_eq t14 bt14 lt14
  have hrb := rbuild_eq (bstr t12) (parD t1) (parD t14) (by rw [bstr_size]; exact lt12) (par_sm bt1 lt1) (par_sm bt14 lt14)
  have hne : ((ls.length : Int) != 18) = false := by simp [h18]
  by_cases hall : e12 = true ∧ e1 = true ∧ e14 = true ∧ f1 = true ∧ f14 = true ∧ rg (bstr t12) (parD t1) (parD t14) = true ∧ repOf (bstr t12, parD t1, parD t14) = b
  · obtain ⟨a1, a2, a3, a4, a5, a6, a7⟩ := hall
    subst a1; subst a2; subst a3; subst a4; subst a5
    refine .inr ⟨bstr t12, parD t1, parD t14, a6, a7, ?_⟩
    refine bnd (rlines_eq H (by omega)) (cnd_f hne (bnd (ix 12 (by omega)) (bnd (g 12 (by omega)) (bnd rfl (bnd hb12 (bnd (ix 1 (by omega)) (bnd (g 1 (by omega)) (bnd rfl (bnd hb1 (bnd (ix 14 (by omega)) (bnd (g 14 (by omega)) (bnd rfl (bnd hb14 (bnd hf1 (bnd hf14 ?_)))))))))))))))
    refine bndL (s := false) (cnd_f rfl (cnd_f rfl (cnd_f rfl (cnd_f rfl (cnd_f rfl (bnd (right_eq _ _ _) (cnd_f (by dsimp only; rw [a6]; rfl) (bnd hrb (bnd (keepB _ _ (by rw [a7]; omega)) (inl_of ?_))))))))) ) (cnd_f rfl rfl)
    exact congrArg (fun x => !x) (decide_eq_true a7)
  · refine .inl ?_
    refine bnd (rlines_eq H (by omega)) (cnd_f hne (bnd (ix 12 (by omega)) (bnd (g 12 (by omega)) (bnd rfl (bnd hb12 (bnd (ix 1 (by omega)) (bnd (g 1 (by omega)) (bnd rfl (bnd hb1 (bnd (ix 14 (by omega)) (bnd (g 14 (by omega)) (bnd rfl (bnd hb14 (bnd hf1 (bnd hf14 ?_)))))))))))))))
    refine bndL (s := true) ?_ (cnd_t rfl rfl)
    cases e12
    · exact cnd_t rfl rfl
    refine cnd_f rfl ?_
    cases e1
    · exact cnd_t rfl rfl
    refine cnd_f rfl ?_
    cases e14
    · exact cnd_t rfl rfl
    refine cnd_f rfl ?_
    cases f1
    · exact cnd_t rfl rfl
    refine cnd_f rfl ?_
    cases f14
    · exact cnd_t rfl rfl
    refine cnd_f rfl (bnd (right_eq _ _ _) ?_)
    cases hg : rg (bstr t12) (parD t1) (parD t14)
    · exact cnd_t rfl rfl
    refine cnd_f rfl (bnd hrb (bnd (keepB _ _ ?_) (inl_of ?_)))
    · have h1 := txtR_len (par_sm bt1 lt1)
      have h2 := txtR_len (par_sm bt14 lt14)
      show (jn (repL (sbytes (bstr t12)) (txtL (parD t1)) (txtL (parD t14)))).length < _
      rw [jn_len, rep_tot, sbytes_len, bstr_size]
      omega
    · exact congrArg (fun x => !x) (decide_eq_false (fun h => hall ⟨rfl, rfl, rfl, rfl, rfl, hg, h⟩))
theorem rread_yes {site : ByteArray} {s p : T_Path} (h : rg site s p = true) (hl : (repOf (site, s, p)).length ≤ 4900) (h0 : site.size ≤ 5000) (hs : Sm s) (hp : Sm p) : wherryref11_ReadReport (repOf (site, s, p)) = some (site, s, p, true) := by
  obtain ⟨hc, hb⟩ := rep_all h
  obtain ⟨_, g2, _, g4, _⟩ := rg_of h
  have H : Lns (repOf (site, s, p)) (repL (sbytes site) (txtL s) (txtL p)) [] := lns_jn hc
  unfold wherryref11_ReadReport
  have hlt : ∀ l ∈ repL (sbytes site) (txtL s) (txtL p), l.length ≤ 5000 := fun l hm => by
    have := tot_mem hm
    have h2 : (repOf (site, s, p)).length = tot (repL (sbytes site) (txtL s) (txtL p)) := jn_len _
    omega
  obtain ⟨t12, bt12, lt12, e12, hb12, k12⟩ := rbegins (q13L ++ sbytes site) (hb _ (by simp [repL])) (hlt _ (by simp [repL])) (⟨#[114, 101, 112, 111, 114, 116, 105, 110, 103, 45, 109, 116, 97, 58, 32, 100, 110, 115, 59, 32]⟩ : ByteArray) (by kernel_rfl)
  obtain ⟨t1, bt1, lt1, e1, hb1, k1⟩ := rbegins (q2L ++ txtL s) (hb _ (by simp [repL])) (hlt _ (by simp [repL])) (⟨#[116, 111, 58, 32]⟩ : ByteArray) (by kernel_rfl)
  obtain ⟨t14, bt14, lt14, e14, hb14, k14⟩ := rbegins (q15L ++ txtL p) (hb _ (by simp [repL])) (hlt _ (by simp [repL])) (⟨#[102, 105, 110, 97, 108, 45, 114, 101, 99, 105, 112, 105, 101, 110, 116, 58, 32, 114, 102, 99, 56, 50, 50, 59, 32]⟩ : ByteArray) (by kernel_rfl)
  obtain ⟨z12, y12⟩ := k12 _ _ rfl low13
  obtain ⟨z1, y1⟩ := k1 _ _ rfl low2
  obtain ⟨z14, y14⟩ := k14 _ _ rfl low15
  subst z12; subst z1; subst z14; subst y12; subst y1; subst y14
  obtain ⟨f1, hf1, j1⟩ := rpars_eq (txtL s) bt1 lt1
  obtain ⟨f14, hf14, j14⟩ := rpars_eq (txtL p) bt14 lt14
  have p1 := par_txt s g2
  have p14 := par_txt p g4
  have y1 := j1 _ p1
  have y14 := j14 _ p14
  subst y1; subst y14
  have d1 : parD (txtL s) = s := by unfold parD; rw [p1]; rfl
  have d14 : parD (txtL p) = p := by unfold parD; rw [p14]; rfl
  rw [d1] at hf1; rw [d14] at hf14
  rw [bstr_sbytes] at hb12
  have ix : ∀ n : Nat, n < 18 → ixO (n : Int) (repL (sbytes site) (txtL s) (txtL p)).length = some n := fun n h => ixO_of h
  refine bnd (rlines_eq H (by omega)) (cnd_f rfl (bnd (ix 12 (by omega)) (bnd rfl (bnd rfl (bnd hb12 (bnd (ix 1 (by omega)) (bnd rfl (bnd rfl (bnd hb1 (bnd (ix 14 (by omega)) (bnd rfl (bnd rfl (bnd hb14 (bnd hf1 (bnd hf14 ?_)))))))))))))))
  refine bndL (s := false) (cnd_f rfl (cnd_f rfl (cnd_f rfl (cnd_f rfl (cnd_f rfl (bnd (right_eq _ _ _) (cnd_f (by dsimp only; rw [h]; rfl) (bnd (rbuild_eq site s p h0 hs hp) (bnd (keepB _ _ (by omega)) (inl_of ?_)))))))))) (cnd_f rfl rfl)
  exact congrArg (fun x => !x) (decide_eq_true rfl)
end Go.Abs.Sh
