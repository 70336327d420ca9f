import Derived.Test.YthfmdofkkkpbkaaGreatDoorVrbB
namespace Go.Abs.Sh
set_option linter.unusedVariables false
set_option linter.unusedSimpArgs false
set_option maxRecDepth 100000
/-! What a command's line is. -/
theorem strO_eq {l : List Int} (h : byt l) : strO l = some (bstr l) := by
  unfold strO
  rw [if_pos]
  exact List.all_eq_true.2 fun x hx => decide_eq_true (h x hx)
theorem byt_fq (q : T_Param) : byt (fq q) := byt_app (byt_sbytes _) (byt_cons (by omega) (byt_sbytes _))
theorem byt_fmtP : ∀ qs : List T_Param, byt (fmtP qs)
  | [] => byt_nil
  | q :: qs => by
    rw [fmtP_cons]
    exact byt_cons (by omega) (byt_app (byt_fq q) (byt_fmtP qs))
theorem fmtP_app (a b : List T_Param) : fmtP (a ++ b) = fmtP a ++ fmtP b := by simp [fmtP]
theorem byt_open (k : Int) : byt (openW k) := by unfold openW; split <;> decide
theorem fq_len {q : T_Param} (h : q.Key.size ≤ 3000 ∧ q.Val.size ≤ 3000) : (fq q).length ≤ 6001 := by
  unfold fq; rw [List.length_append, List.length_cons, sbytes_len, sbytes_len]; omega
theorem fmtP_le : ∀ qs : List T_Param, (∀ q ∈ qs, q.Key.size ≤ 3000 ∧ q.Val.size ≤ 3000) → (fmtP qs).length ≤ qs.length * 6002
  | [], _ => by simp [fmtP]
  | q :: qs, h => by
    rw [fmtP_cons, List.length_cons, List.length_append, List.length_cons]
    have := fq_len (h q List.mem_cons_self)
    have := fmtP_le qs fun x hx => h x (List.mem_cons_of_mem _ hx)
    omega
theorem cat3 {q : T_Param} (h : q.Key.size ≤ 3000 ∧ q.Val.size ≤ 3000) {R : Type} (f : ByteArray → Option R) (r : Option R) (hr : f (bstr (32 :: fq q)) = r) :
    ((catO (⟨#[32]⟩ : ByteArray) q.Key).bind fun v17 =>
                (catO v17 (⟨#[61]⟩ : ByteArray)).bind fun v18 =>
                (catO v18 q.Val).bind fun v19 => f v19) = r := by
  have bk := byt_sbytes q.Key; have bv := byt_sbytes q.Val
  have b32 : byt [32] := byt_cons (by omega) byt_nil
  have b61 : byt [61] := byt_cons (by omega) byt_nil
  have k1 := catL (s := ⟨#[32]⟩) (t := q.Key) (l := [32]) rfl rfl (by simp [sbytes_len]; omega)
  have k2 := catL (s := bstr ([32] ++ sbytes q.Key)) (t := ⟨#[61]⟩) (m := [61]) (sbytes_bstr (byt_app b32 bk)) rfl (by simp [sbytes_len]; omega)
  have k3 := catL (s := bstr ([32] ++ sbytes q.Key ++ [61])) (t := q.Val) (sbytes_bstr (byt_app (byt_app b32 bk) b61)) rfl (by simp [sbytes_len]; omega)
  refine bnd k1 (bnd k2 (bnd k3 ?_))
  rw [← hr]
  congr 2
  simp [fq]
theorem format_eq (c : T_Cmd) (h : LightC c) : verb_format c = some (bstr (fmtL c)) := by
  unfold verb_format
  have ht := h.t
  have hn := h.n
  have cc : ∀ {w : ByteArray} {W : List Int}, sbytes w = W → W.length = 5 → catO w c.Text = some (bstr (W ++ sbytes c.Text)) := fun hw hl => catL hw rfl (by rw [hl, sbytes_len]; omega)
  by_cases h1 : c.Kind = 1
  · refine cnd_t (beq_iff_eq.2 h1) (bnd (cc (W := [69, 72, 76, 79, 32]) rfl rfl) ?_)
    unfold fmtL; rw [if_pos h1]; rfl
  refine cnd_f (beq_eq_false_iff_ne.2 h1) ?_
  by_cases h23 : c.Kind = 2 ∨ c.Kind = 3
  · have g := bor (R := ByteArray) c.Kind 2 3
    rw [decide_eq_true h23] at g
    have hsm : Small c.Path := ⟨by have := h.l; omega, by have := h.d; omega⟩
    have htx : path_Text c.Path = some (bstr (cond (patB c.Path) (txtL c.Path) []), cond (patB c.Path) 0 5) := by
      rw [text_eq c.Path hsm]
      cases patB c.Path <;> rfl
    have hbx : byt (cond (patB c.Path) (txtL c.Path) []) := by
      cases patB c.Path
      · exact byt_nil
      · exact byt_txt _
    have hlx : (cond (patB c.Path) (txtL c.Path) []).length ≤ 6003 := by
      have hL := h.l; have hD := h.d
      cases patB c.Path
      · simp
      · have : (cond true (txtL c.Path) []).length = (txtL c.Path).length := rfl
        rw [this]
        have := txt_len c.Path
        omega
    have hlo : (openW c.Kind).length ≤ 10 := by unfold openW; split <;> decide
    have hbo := byt_open c.Kind
    have hcat := catL (sbytes_bstr hbo) (sbytes_bstr hbx) (by omega)
    have happ := app_of (k := 1) (l := ([] : List Int)) (m := openW c.Kind ++ cond (patB c.Path) (txtL c.Path) []) (by simp only [List.length_append, List.length_nil]; omega) (by simp only [List.length_append, List.length_nil]; omega)
    refine bndL g (cnd_t rfl (bnd htx (bnd (open_eq c.Kind) (bnd hcat (bnd (by rw [sbytes_bstr (byt_app hbo hbx)]; exact happ) ?_)))))
    have hb0 := byt_app hbo hbx
    have hl0 : (openW c.Kind ++ cond (patB c.Path) (txtL c.Path) []).length ≤ 6013 := by rw [List.length_append]; omega
    generalize hB : openW c.Kind ++ cond (patB c.Path) (txtL c.Path) [] = B at hb0 hl0 ⊢
    have hfm : fmtL c = B ++ fmtP c.Params := by
      unfold fmtL
      rw [if_neg h1, if_pos h23, ← List.append_assoc, hB]
    refine bndL (s := B ++ fmtP c.Params) (loop_from (fun i => (B ++ fmtP (c.Params.take i), (i : Int))) c.Params.length _ (by simp [fmtP]) (by simp only [BIG]; omega) (fun i hi => ?_) ?_) ?_
    · have hq := h.p _ (List.getElem_mem hi)
      have hle := fmtP_le (c.Params.take i) fun q hq => h.p q (List.mem_of_mem_take hq)
      have hlt : (c.Params.take i).length ≤ 600 := by rw [List.length_take]; omega
      have hfq := fq_len hq
      have hbq : byt (32 :: fq c.Params[i]) := byt_cons (by omega) (byt_fq _)
      refine cnd_t (decide_eq_true (by omega)) (bnd (ixO_of hi) (bnd (getO_of hi) (cat3 hq _ _ ?_)))
      refine bnd (app_of (m := 32 :: fq c.Params[i]) ?_ ?_ |> fun e => by rw [sbytes_bstr hbq]; exact e) (bnd (some_wrap (by omega) (by omega)) ?_)
      · simp only [List.length_append, List.length_cons]; omega
      · simp only [List.length_append, List.length_cons]; omega
      · rw [List.take_add_one, List.getElem?_eq_getElem hi, Option.toList_some, fmtP_app, fmtP_cons]
        simp [fmtP]
    · rw [List.take_length]
      exact cnd_f (decide_eq_false (by omega)) rfl
    · rw [hfm]
      exact bnd (strO_eq (byt_app hb0 (byt_fmtP _))) rfl
  have g := bor (R := ByteArray) c.Kind 2 3
  rw [decide_eq_false h23] at g
  refine bndL g (cnd_f rfl ?_)
  by_cases h4 : c.Kind = 4
  · refine cnd_t (beq_iff_eq.2 h4) ?_
    unfold fmtL; rw [if_neg h1, if_neg h23, if_pos h4]; rfl
  refine cnd_f (beq_eq_false_iff_ne.2 h4) ?_
  by_cases h5 : c.Kind = 5
  · refine cnd_t (beq_iff_eq.2 h5) ?_
    unfold fmtL; rw [if_neg h1, if_neg h23, if_neg h4, if_pos h5]; rfl
  refine cnd_f (beq_eq_false_iff_ne.2 h5) ?_
  by_cases h6 : c.Kind = 6
  · refine cnd_t (beq_iff_eq.2 h6) (bnd (cc (W := [86, 82, 70, 89, 32]) rfl rfl) ?_)
    unfold fmtL; rw [if_neg h1, if_neg h23, if_neg h4, if_neg h5, if_pos h6]; rfl
  refine cnd_f (beq_eq_false_iff_ne.2 h6) ?_
  by_cases h7 : c.Kind = 7
  · refine cnd_t (beq_iff_eq.2 h7) ?_
    unfold fmtL; rw [if_neg h1, if_neg h23, if_neg h4, if_neg h5, if_neg h6, if_pos h7]; rfl
  refine cnd_f (beq_eq_false_iff_ne.2 h7) ?_
  by_cases h8 : c.Kind = 8
  · refine cnd_t (beq_iff_eq.2 h8) ?_
    unfold fmtL; rw [if_neg h1, if_neg h23, if_neg h4, if_neg h5, if_neg h6, if_neg h7, if_pos h8]; rfl
  refine cnd_f (beq_eq_false_iff_ne.2 h8) ?_
  by_cases h9 : c.Kind = 9
  · refine cnd_t (beq_iff_eq.2 h9) (bnd (cc (W := [69, 84, 82, 78, 32]) rfl rfl) ?_)
    unfold fmtL; rw [if_neg h1, if_neg h23, if_neg h4, if_neg h5, if_neg h6, if_neg h7, if_neg h8, if_pos h9]; rfl
  refine cnd_f (beq_eq_false_iff_ne.2 h9) ?_
  by_cases h10 : c.Kind = 10
  · refine cnd_t (beq_iff_eq.2 h10) ?_
    unfold fmtL; rw [if_neg h1, if_neg h23, if_neg h4, if_neg h5, if_neg h6, if_neg h7, if_neg h8, if_neg h9, if_pos h10]; rfl
  refine cnd_f (beq_eq_false_iff_ne.2 h10) ?_
  by_cases h11 : c.Kind = 11
  · refine cnd_t (beq_iff_eq.2 h11) ?_
    unfold fmtL; rw [if_neg h1, if_neg h23, if_neg h4, if_neg h5, if_neg h6, if_neg h7, if_neg h8, if_neg h9, if_neg h10, if_pos h11]
    by_cases hz : sbytes c.Text = []
    · rw [if_pos hz]
      exact cnd_t (by rw [eqL]; exact decide_eq_true hz) rfl
    · rw [if_neg hz]
      exact cnd_f (by rw [eqL]; exact decide_eq_false hz) (bnd (cc (W := [65, 84, 82, 78, 32]) rfl rfl) rfl)
  · refine cnd_f (beq_eq_false_iff_ne.2 h11) ?_
    unfold fmtL; rw [if_neg h1, if_neg h23, if_neg h4, if_neg h5, if_neg h6, if_neg h7, if_neg h8, if_neg h9, if_neg h10, if_neg h11]; rfl
theorem byt_fmtL (c : T_Cmd) : byt (fmtL c) := by
  have hx : ∀ w : List Int, byt w → byt (w ++ 32 :: sbytes c.Text) := fun w hw => byt_app hw (byt_cons (by omega) (byt_sbytes _))
  unfold fmtL
  split
  · exact hx _ (by decide)
  split
  · refine byt_app (byt_open _) (byt_app ?_ (byt_fmtP _))
    cases patB c.Path
    · exact byt_nil
    · exact byt_txt _
  split; · decide
  split; · decide
  split; · exact hx _ (by decide)
  split; · decide
  split; · decide
  split; · exact hx _ (by decide)
  split; · decide
  split
  · split
    · decide
    · exact hx _ (by decide)
  · exact byt_nil
theorem text_L (c : T_Cmd) (h : LightC c) : verb_Text c = some (if vparse (fmtL c) = (c, 0) then (bstr (fmtL c), 0) else (e0, 5)) := by
  unfold verb_Text
  have hf := format_eq c h
  have hp := parse_L (fmtL c) (byt_fmtL c)
  have hs := same_eqC c (vparse (fmtL c)).1 (by have := h.n; omega)
  refine bnd hf (bnd hp ?_)
  by_cases hz : (vparse (fmtL c)).2 = 0
  · by_cases he : c = (vparse (fmtL c)).1
    · rw [decide_eq_true he] at hs
      rw [if_pos (Prod.ext he.symm hz)]
      exact bndL (s := false) (cnd_f (by rw [hz]; rfl) (bnd hs rfl)) (cnd_f rfl rfl)
    · rw [decide_eq_false he] at hs
      rw [if_neg (fun e => he (by rw [e]))]
      exact bndL (s := true) (cnd_f (by rw [hz]; rfl) (bnd hs rfl)) (cnd_t rfl rfl)
  · rw [if_neg (fun e => hz (by rw [e]))]
    exact bndL (s := true) (cnd_t (bne_iff_ne.2 hz) rfl) (cnd_t rfl rfl)
theorem fmtP_two : ∀ qs : List T_Param, qs.length * 2 ≤ (fmtP qs).length ∧ ∀ q ∈ qs, q.Key.size ≤ (fmtP qs).length ∧ q.Val.size ≤ (fmtP qs).length
  | [] => ⟨by simp, fun q hq => by cases hq⟩
  | q :: qs => by
    have ih := fmtP_two qs
    have e : (fmtP (q :: qs)).length = (fq q).length + (fmtP qs).length + 1 := by
      rw [fmtP_cons, List.length_cons, List.length_append]
    have e2 : (fq q).length = q.Key.size + q.Val.size + 1 := by
      unfold fq; rw [List.length_append, List.length_cons, sbytes_len, sbytes_len]; omega
    refine ⟨by rw [List.length_cons]; omega, fun x hx => ?_⟩
    rcases List.mem_cons.1 hx with rfl | hx
    · omega
    · have := ih.2 x hx; omega
theorem light_text {k : Int} {t : List Int} (h : t.length ≤ 3000) : LightC ⟨k, bstr t, noP, []⟩ :=
  ⟨by rw [bstr_size]; exact h, Nat.zero_le _, Nat.zero_le _, Nat.zero_le _, fun q hq => by cases hq⟩
theorem light_box {k : Int} {r : List Int} {c : T_Cmd} (hr : r.all prB = true) (hl : r.length ≤ 510) (h : boxedL k r = some c) : LightC c := by
  obtain ⟨p, ps, _, rfl, hp, _, hlen, _, _⟩ := boxed_ok hr h
  rw [List.length_append] at hlen
  have h2 := fmtP_two ps
  have hpl : p.Local.size ≤ 510 ∧ p.Domain.size ≤ 510 := by
    cases hn : p.Null with
    | true =>
      unfold patB at hp
      rw [hn] at hp
      simp only [cond_true, Bool.and_eq_true, List.isEmpty_iff] at hp
      rw [← sbytes_len, ← sbytes_len, hp.1, hp.2]; simp
    | false =>
      have : (txtL p).length = p.Local.size + p.Domain.size + 3 := by
        unfold txtL; rw [hn]; simp [sbytes_len]; omega
      omega
  exact ⟨Nat.zero_le _, by simp only; omega, by simp only; omega, by simp only; omega, fun q hq => by have := h2.2 q hq; omega⟩
theorem light_cmd {l : List Int} {c : T_Cmd} (hr : l.all prB = true) (hl : l.length ≤ 510) (h : cmdL l = some c) : LightC c := by
  have hcl := cutW_len 32 l
  have ht : ∀ k, LightC ⟨k, bstr (cutW 32 l).2.1, noP, []⟩ := fun k => light_text (by omega)
  have he : ∀ k, LightC ⟨k, e0, noP, []⟩ := fun k => light_text (t := []) (by simp)
  unfold cmdL at h
  simp only at h
  split at h
  · cases hp : pfx (openW (kindL l)) l with
    | none => rw [hp] at h; cases h
    | some r =>
      rw [hp, Option.bind_some] at h
      obtain ⟨a, e, _, _⟩ := pfx_some hp
      refine light_box ?_ ?_ h
      · rw [e, List.all_append, Bool.and_eq_true] at hr; exact hr.2
      · rw [e, List.length_append] at hl; omega
  split at h
  · split at h
    · cases h; exact ht _
    · cases h
  split at h
  · split at h
    · cases h
    · cases h; exact ht _
  split at h
  · split at h
    · cases h
    · cases h; exact ht _
  split at h
  · split at h
    · cases h; exact he _
    · cases h
  split at h
  · cases h; exact he _
  split at h
  · cases h
  · cases h; exact he _
theorem light_of {l : List Int} {c : T_Cmd} (h : vparse l = (c, 0)) : LightC c := by
  obtain ⟨hl, hp, _, _, hc⟩ := vparse_ok' h
  exact light_cmd hp hl hc
end Go.Abs.Sh
