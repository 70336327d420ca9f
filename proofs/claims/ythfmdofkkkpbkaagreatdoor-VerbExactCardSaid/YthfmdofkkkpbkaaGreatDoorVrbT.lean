import Derived.Test.YthfmdofkkkpbkaaGreatDoorVrbS
namespace Go.Abs.Sh
set_option linter.unusedVariables false
set_option linter.unusedSimpArgs false
set_option maxRecDepth 100000
/-! A command's line is read as the command. -/
theorem cutW_app {c : Int} {w L : List Int} (h : c ∉ w) : cutW c (w ++ c :: L) = (w, L, true) := by
  unfold cutW
  rw [idx1_app h]
  have e1 : (w ++ c :: L).take w.length = w := by simp
  have e2 : (w ++ c :: L).drop (w.length + 1) = L := by
    rw [← List.drop_drop]; simp
  simp only [e1, e2]
theorem cutW_none {c : Int} {w : List Int} (h : c ∉ w) : cutW c w = (w, [], false) := by
  unfold cutW
  rw [idx1_none.2 h]
theorem cutW_cases (c : Int) (l : List Int) : (∃ a b, l = a ++ c :: b ∧ c ∉ a ∧ cutW c l = (a, b, true)) ∨ (c ∉ l ∧ cutW c l = (l, [], false)) := by
  cases h : idx1 c l with
  | none => exact .inr ⟨idx1_none.1 h, by unfold cutW; rw [h]⟩
  | some e =>
    have h2 := idx1_some h
    exact .inl ⟨l.take e, l.drop (e + 1), h2.2.1, h2.2.2, by unfold cutW; rw [h]⟩
theorem low_len (l : List Int) : (lowL l).length = l.length := by simp [lowL]
theorem low_app (a b : List Int) : lowL (a ++ b) = lowL a ++ lowL b := by simp [lowL]
theorem kindW_len {w : List Int} (h : kindW w ≠ 0) : w.length = 4 := by
  unfold kindW at h
  by_cases h1 : w = [101, 104, 108, 111] ∨ w = [104, 101, 108, 111]
  · rcases h1 with rfl | rfl <;> rfl
  rw [if_neg h1] at h
  repeat (first
    | (split at h
       · rename_i e; rw [e]; rfl)
    | exact absurd rfl h)
theorem kind_app {w L : List Int} (h : (32 : Int) ∉ w) : kindL (w ++ 32 :: L) = kindW (lowL w) := by
  unfold kindL; rw [cutW_app h]
theorem kind_alone {w : List Int} (h : (32 : Int) ∉ w) : kindL w = kindW (lowL w) := by
  unfold kindL; rw [cutW_none h]
theorem pfx_no {w a L : List Int} (hl : a.length = w.length) (h : lowL a ≠ lowL w) : pfx w (a ++ L) = none := by
  unfold pfx
  rw [if_neg]
  rintro ⟨_, h2⟩
  rw [← hl, List.take_left] at h2
  exact h h2
theorem pfx_yes {w a L : List Int} (h : lowL a = lowL w) : pfx w (a ++ L) = some L := by
  have hl : a.length = w.length := by rw [← low_len a, h, low_len]
  unfold pfx
  rw [if_pos ⟨by rw [List.length_append]; omega, by rw [← hl, List.take_left]; exact h⟩, ← hl, List.drop_left]
theorem pfx_short {w l : List Int} (h : l.length < w.length) : pfx w l = none := by
  unfold pfx
  rw [if_neg]
  rintro ⟨h1, _⟩
  omega
theorem pfx_some {w l L : List Int} (h : pfx w l = some L) : ∃ a, l = a ++ L ∧ lowL a = lowL w ∧ a.length = w.length := by
  unfold pfx at h
  split at h
  · rename_i h2
    cases h
    exact ⟨l.take w.length, (List.take_append_drop _ _).symm, h2.2, by rw [List.length_take]; omega⟩
  · cases h
theorem mech_no {a L : List Int} (hl : a.length = 5) (h : lowL a ≠ lowL wAuth) : mechB (a ++ L) = false := by
  unfold mechB
  rw [pfx_no hl h]
theorem mech_short {l : List Int} (h : l.length < 5) : mechB l = false := by
  unfold mechB
  rw [pfx_short h]
theorem vparse_ok {l : List Int} {c : T_Cmd} (h1 : l.length ≤ 510) (h2 : l.all prB = true) (h3 : kindL l ≠ 0) (h4 : mechB l = false) (h5 : cmdL l = some c) : vparse l = (c, 0) := by
  unfold vparse
  rw [if_neg (by rintro (h | h | h) <;> first | omega | (rw [h2] at h; cases h) | exact h3 h), if_neg (by rw [h4]; simp), h5]
theorem vparse_ok' {l : List Int} {c : T_Cmd} (h : vparse l = (c, 0)) : l.length ≤ 510 ∧ l.all prB = true ∧ kindL l ≠ 0 ∧ mechB l = false ∧ cmdL l = some c := by
  unfold vparse at h
  split at h
  · cases h
  · rename_i h1
    split at h
    · cases h
    · rename_i h2
      split at h
      · cases h
      · rename_i c' h5
        cases h
        refine ⟨?_, ?_, ?_, ?_, h5⟩
        · refine Nat.le_of_not_lt fun h => h1 (.inl h)
        · cases h : l.all prB with
          | true => rfl
          | false => exact absurd (.inr (.inl h)) h1
        · exact fun h => h1 (.inr (.inr h))
        · cases h : mechB l with
          | false => rfl
          | true => exact absurd h h2
def fq (q : T_Param) : List Int := sbytes q.Key ++ 61 :: sbytes q.Val
def fmtP (qs : List T_Param) : List Int := (qs.map fun q => 32 :: fq q).flatten
def fmtL (c : T_Cmd) : List Int :=
  if c.Kind = 1 then [69, 72, 76, 79] ++ 32 :: sbytes c.Text
  else if c.Kind = 2 ∨ c.Kind = 3 then openW c.Kind ++ (cond (patB c.Path) (txtL c.Path) [] ++ fmtP c.Params)
  else if c.Kind = 4 then [68, 65, 84, 65]
  else if c.Kind = 5 then [82, 83, 69, 84]
  else if c.Kind = 6 then [86, 82, 70, 89] ++ 32 :: sbytes c.Text
  else if c.Kind = 7 then [78, 79, 79, 80]
  else if c.Kind = 8 then [81, 85, 73, 84]
  else if c.Kind = 9 then [69, 84, 82, 78] ++ 32 :: sbytes c.Text
  else if c.Kind = 10 then [65, 85, 84, 72] ++ 32 :: wCram
  else if c.Kind = 11 then (if sbytes c.Text = [] then [65, 84, 82, 78] else [65, 84, 82, 78] ++ 32 :: sbytes c.Text)
  else []
theorem spl_sum (c : Int) : ∀ l : List Int, l.length + 1 = ((spl c l).map fun p => p.length + 1).sum
  | [] => rfl
  | x :: r => by
    have ih := spl_sum c r
    have hne := spl_ne c r
    unfold spl
    by_cases hx : x = c
    · rw [if_pos hx, List.map_cons, List.sum_cons, ← ih]; simp; omega
    · rw [if_neg hx]
      cases hs : spl c r with
      | nil => exact absurd hs hne
      | cons a ps =>
        rw [hs, List.map_cons, List.sum_cons] at ih
        simp only [List.map_cons, List.sum_cons, List.length_cons]
        omega
theorem spl_mem (c : Int) : ∀ (l p : List Int), p ∈ spl c l → ∀ x ∈ p, x ∈ l
  | [], p, h, x, hx => by
    simp only [spl, List.mem_cons, List.not_mem_nil, or_false] at h
    subst h; cases hx
  | y :: r, p, h, x, hx => by
    have ih := spl_mem c r
    have hne := spl_ne c r
    unfold spl at h
    by_cases hy : y = c
    · rw [if_pos hy] at h
      rcases List.mem_cons.1 h with rfl | h
      · cases hx
      · exact List.mem_cons_of_mem _ (ih p h x hx)
    · rw [if_neg hy] at h
      cases hs : spl c r with
      | nil => exact absurd hs hne
      | cons a ps =>
        rw [hs] at h ih
        rcases List.mem_cons.1 h with rfl | h
        · rcases List.mem_cons.1 hx with rfl | hx
          · exact List.mem_cons_self
          · exact List.mem_cons_of_mem _ (ih a List.mem_cons_self x hx)
        · exact List.mem_cons_of_mem _ (ih p (List.mem_cons_of_mem _ h) x hx)
structure ParOK (k : Int) (p : List Int) (q : T_Param) : Prop where
  again : paramL k (fq q) = some q
  len : (fq q).length = p.length
  no : (32 : Int) ∉ fq q
  pr : (fq q).all prB = true
theorem dg_pr {l : List Int} (h : l.all dgB = true) : l.all prB = true ∧ byt l ∧ (32 : Int) ∉ l := by
  have h2 : ∀ x ∈ l, 48 ≤ x ∧ x ≤ 57 := fun x hx => by
    have := List.all_eq_true.1 h x hx
    simpa only [dgB, Bool.and_eq_true, decide_eq_true_eq] using this
  refine ⟨List.all_eq_true.2 fun x hx => ?_, fun x hx => ?_, fun hx => ?_⟩
  · have := h2 x hx
    simp only [prB, Bool.and_eq_true, decide_eq_true_eq]; omega
  · have := h2 x hx; omega
  · have := h2 _ hx; omega
theorem num_dg {l : List Int} (h : numB l = true) : l.all dgB = true := by
  simp only [numB, Bool.and_eq_true] at h
  exact h.2.2.2
theorem cut_len {c : Int} {l : List Int} (h : (cutW c l).2.1 ≠ []) : l.length = (cutW c l).1.length + (cutW c l).2.1.length + 1 := by
  rcases cutW_cases c l with ⟨a, b, e, _, h2⟩ | ⟨_, h2⟩
  · rw [h2]; subst e; simp; omega
  · rw [h2] at h; exact absurd rfl h
theorem param_ok {k : Int} {p : List Int} {q : T_Param} (h : paramL k p = some q) : ParOK k p q := by
  unfold paramL at h
  have hw : ∀ {w : List Int}, lowL (cutW 61 p).1 = w → (cutW 61 p).1.length = w.length := fun h => by rw [← h, low_len]
  have hv : ∀ {w : List Int}, lowL (cutW 61 p).2.1 = w → (cutW 61 p).2.1.length = w.length := fun h => by rw [← h, low_len]
  split at h
  · rename_i hk
    split at h
    · rename_i hn
      cases h
      have hd := dg_pr (num_dg hn)
      have hne : (cutW 61 p).2.1 ≠ [] := by
        intro e; rw [e] at hn; cases hn
      have hl := cut_len hne
      have hs : fq ⟨bstr [83, 73, 90, 69], bstr (cutW 61 p).2.1⟩ = [83, 73, 90, 69] ++ 61 :: (cutW 61 p).2.1 := by
        show sbytes (bstr [83, 73, 90, 69]) ++ 61 :: sbytes (bstr (cutW 61 p).2.1) = _
        rw [sbytes_bstr hd.2.1]; rfl
      have hc : cutW 61 ([83, 73, 90, 69] ++ 61 :: (cutW 61 p).2.1) = ([83, 73, 90, 69], (cutW 61 p).2.1, true) := cutW_app (by decide)
      refine ⟨?_, ?_, ?_, ?_⟩
      · rw [hs]
        unfold paramL
        rw [hc]
        exact (if_pos ⟨hk.1, rfl⟩).trans (if_pos hn)
      · rw [hs, hl, hw hk.2]; simp; omega
      · rw [hs]
        intro hm
        rcases List.mem_append.1 hm with hm | hm
        · revert hm; decide
        · rcases List.mem_cons.1 hm with hm | hm
          · cases hm
          · exact hd.2.2 hm
      · rw [hs, List.all_append, List.all_cons (a := 61), hd.1]; rfl
    · cases h
  · rename_i h1
    split at h
    · rename_i hk
      split at h
      · rename_i hn
        cases h
        have hne : (cutW 61 p).2.1 ≠ [] := by
          intro e; rw [e] at hn; cases hn
        have hl := cut_len hne
        obtain ⟨rfl, h3⟩ := hk
        exact ⟨by kernel_rfl, by rw [hl, hw h3, hv hn]; rfl, by decide, by decide⟩
      · split at h
        · rename_i hn
          cases h
          have hne : (cutW 61 p).2.1 ≠ [] := by
            intro e; rw [e] at hn; cases hn
          have hl := cut_len hne
          obtain ⟨rfl, h3⟩ := hk
          exact ⟨by kernel_rfl, by rw [hl, hw h3, hv hn]; rfl, by decide, by decide⟩
        · cases h
    · split at h
      · rename_i hk
        split at h
        · rename_i hn
          cases h
          have hne : (cutW 61 p).2.1 ≠ [] := by
            intro e; rw [e] at hn; cases hn
          have hl := cut_len hne
          obtain ⟨rfl, h3⟩ := hk
          exact ⟨by kernel_rfl, by rw [hl, hw h3, hv hn]; rfl, by decide, by decide⟩
        · split at h
          · rename_i hn
            cases h
            have hne : (cutW 61 p).2.1 ≠ [] := by
              intro e; rw [e] at hn; cases hn
            have hl := cut_len hne
            obtain ⟨rfl, h3⟩ := hk
            exact ⟨by kernel_rfl, by rw [hl, hw h3, hv hn]; rfl, by decide, by decide⟩
          · cases h
      · cases h
structure FolOK (k : Int) (ps : List (List Int)) (acc qs : List T_Param) : Prop where
  again : foldP k (qs.map fq) acc = some (acc ++ qs)
  len : ((qs.map fq).map fun p => p.length + 1).sum = (ps.map fun p => p.length + 1).sum
  cnt : qs.length = ps.length
  no : ∀ q ∈ qs, (32 : Int) ∉ fq q
  pr : ∀ q ∈ qs, (fq q).all prB = true
theorem fold_ok {k : Int} : ∀ {ps : List (List Int)} {acc out : List T_Param}, foldP k ps acc = some out → ∃ qs, out = acc ++ qs ∧ FolOK k ps acc qs
  | [], acc, out, h => by
    simp only [foldP, Option.some.injEq] at h
    exact ⟨[], by rw [h]; simp, ⟨by simp [foldP], rfl, rfl, (fun q hq => by cases hq), (fun q hq => by cases hq)⟩⟩
  | p :: ps, acc, out, h => by
    unfold foldP at h
    cases hp : paramL k p with
    | none => rw [hp] at h; cases h
    | some q =>
      rw [hp] at h
      simp only at h
      split at h
      · cases h
      · rename_i hd
        obtain ⟨qs, e, f⟩ := fold_ok h
        have g := param_ok hp
        refine ⟨q :: qs, by rw [e]; simp, ?_, ?_, ?_, ?_, ?_⟩
        · rw [List.map_cons]
          unfold foldP
          rw [g.again]
          simp only
          rw [if_neg hd, f.again]; simp
        · simp only [List.map_cons, List.sum_cons, f.len, g.len]
        · simp [f.cnt]
        · intro x hx
          rcases List.mem_cons.1 hx with rfl | hx
          · exact g.no
          · exact f.no x hx
        · intro x hx
          rcases List.mem_cons.1 hx with rfl | hx
          · exact g.pr
          · exact f.pr x hx
theorem fmtP_cons (q : T_Param) (qs : List T_Param) : fmtP (q :: qs) = 32 :: (fq q ++ fmtP qs) := by simp [fmtP]
theorem fmtP_spl : ∀ (qs : List T_Param) (q : T_Param), (∀ x ∈ q :: qs, (32 : Int) ∉ fq x) → spl 32 (fq q ++ fmtP qs) = fq q :: qs.map fq
  | [], q, h => by
    simp only [fmtP, List.map_nil, List.flatten_nil, List.append_nil]
    exact spl_one (h q List.mem_cons_self)
  | r :: qs, q, h => by
    rw [fmtP_cons, spl_app (h q List.mem_cons_self), fmtP_spl qs r (fun x hx => h x (List.mem_cons_of_mem _ hx)), List.map_cons]
theorem fmtP_len : ∀ qs : List T_Param, (fmtP qs).length = ((qs.map fq).map fun p => p.length + 1).sum
  | [] => rfl
  | q :: qs => by rw [fmtP_cons]; simp [fmtP_len qs]; omega
theorem fmtP_pr : ∀ qs : List T_Param, (∀ q ∈ qs, (fq q).all prB = true) → (fmtP qs).all prB = true
  | [], _ => rfl
  | q :: qs, h => by
    rw [fmtP_cons, List.all_cons, List.all_append, h q List.mem_cons_self, fmtP_pr qs fun x hx => h x (List.mem_cons_of_mem _ hx)]; rfl
theorem pars_ok {k : Int} {l : List Int} {ps : List T_Param} (h : parsL k l = some ps) : parsL k (fmtP ps) = some ps ∧ (fmtP ps).length = l.length ∧ (fmtP ps).all prB = true := by
  cases l with
  | nil =>
    simp only [parsL, Option.some.injEq] at h
    subst h
    exact ⟨rfl, rfl, rfl⟩
  | cons x r =>
    unfold parsL at h
    simp only at h
    split at h
    · obtain ⟨qs, e, f⟩ := fold_ok h
      rw [List.nil_append] at e
      subst e
      have hs := spl_sum 32 r
      have hl := fmtP_len ps
      have hc := f.cnt
      refine ⟨?_, by rw [hl, f.len, ← hs]; rfl, fmtP_pr _ f.pr⟩
      cases hq : ps with
      | nil =>
        rw [hq] at hc
        have := spl_ne 32 r
        cases hsp : spl 32 r with
        | nil => exact absurd hsp this
        | cons a b => rw [hsp] at hc; cases hc
      | cons q qs =>
        rw [fmtP_cons]
        unfold parsL
        simp only
        have := f.again
        rw [hq, List.map_cons, List.nil_append] at this
        rw [fmtP_spl qs q (by rw [← hq]; exact f.no)]
        exact (if_pos trivial).trans this
    · cases h
end Go.Abs.Sh
