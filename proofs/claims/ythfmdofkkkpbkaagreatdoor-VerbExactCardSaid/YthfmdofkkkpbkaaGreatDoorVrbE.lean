import Derived.Test.YthfmdofkkkpbkaaGreatDoorVrbJ
namespace Go.Abs.Sh
set_option linter.unusedVariables false
set_option linter.unusedSimpArgs false
set_option maxRecDepth 100000
/-! The page's line of a command. -/
def rfmtL (c : T_Cmd) : List Int :=
  if c.Kind = 2 ∨ c.Kind = 3 then openW c.Kind ++ (txtL c.Path ++ fmtP c.Params)
  else if 1 ≤ c.Kind ∧ c.Kind ≤ 11 then fmtL c else fmtP c.Params
theorem rline_loop (B : List Int) (hb : byt B) (hB : B.length ≤ 10000) (c : T_Cmd) (h : LightC c) :
    (bindS (S := (ByteArray)) (A := ByteArray)
        (loopF (S := (ByteArray × Int)) (O := (ByteArray) ⊕ ByteArray) (fun ((s82, s83) : ByteArray × Int) =>
          cond ((decide (s83 < (c.Params.length : Int))))
            ((catO s82 (⟨#[32]⟩ : ByteArray)).bind fun v70 =>
            (ixO s83 c.Params.length).bind fun v71 =>
            (getO c.Params v71).bind fun v72 =>
            (catO v70 v72.Key).bind fun v73 =>
            (catO v73 (⟨#[61]⟩ : ByteArray)).bind fun v74 =>
            (ixO s83 c.Params.length).bind fun v75 =>
            (getO c.Params v75).bind fun v76 =>
            (catO v74 v76.Val).bind fun v77 =>
            (some (IntKind.i64.wrap (s83 + 1))).bind fun v78 =>
            some (.inl (v77, v78)))
            (some (.inr (.inl s82))))
          BIG (bstr B, 0))
        (fun (s85 : ByteArray) =>
          some (s85)) some) = some (bstr (B ++ fmtP c.Params)) := by
  have hn := h.n
  refine bndL (s := bstr (B ++ fmtP c.Params)) (loop_from (fun i => (bstr (B ++ fmtP (c.Params.take i)), (i : Int))) c.Params.length _ (by simp [fmtP]) (by simp only [BIG]; omega) (fun i hi => ?_) ?_) rfl
  · have hq := h.p _ (List.getElem_mem hi)
    have hle := fmtP_le (c.Params.take i) fun q hq => h.p q (List.mem_of_mem_take hq)
    have hlt : (c.Params.take i).length ≤ 600 := by rw [List.length_take]; omega
    have b0 := byt_app hb (byt_fmtP (c.Params.take i))
    have b32 : byt [32] := byt_cons (by omega) byt_nil
    have b61 : byt [61] := byt_cons (by omega) byt_nil
    have bk := byt_sbytes c.Params[i].Key
    have bv := byt_sbytes c.Params[i].Val
    have l0 : (B ++ fmtP (c.Params.take i)).length ≤ 10000 + 600 * 6002 := by rw [List.length_append]; omega
    generalize hA : B ++ fmtP (c.Params.take i) = A at b0 l0
    have k1 := catL (s := bstr A) (t := ⟨#[32]⟩) (m := [32]) (sbytes_bstr b0) rfl (by simp; omega)
    have b1 := byt_app b0 b32
    have k2 := catL (s := bstr (A ++ [32])) (t := c.Params[i].Key) (sbytes_bstr b1) rfl (by simp [sbytes_len]; omega)
    have b2 := byt_app b1 bk
    have k3 := catL (s := bstr (A ++ [32] ++ sbytes c.Params[i].Key)) (t := ⟨#[61]⟩) (m := [61]) (sbytes_bstr b2) rfl (by simp [sbytes_len]; omega)
    have b3 := byt_app b2 b61
    have k4 := catL (s := bstr (A ++ [32] ++ sbytes c.Params[i].Key ++ [61])) (t := c.Params[i].Val) (sbytes_bstr b3) rfl (by simp [sbytes_len]; omega)
    refine cnd_t (decide_eq_true (by omega)) (bnd k1 (bnd (ixO_of hi) (bnd (getO_of hi) (bnd k2 (bnd k3 (bnd (ixO_of hi) (bnd (getO_of hi) (bnd k4 (bnd (some_wrap (by omega) (by omega)) ?_)))))))))
    have e : A ++ [32] ++ sbytes c.Params[i].Key ++ [61] ++ sbytes c.Params[i].Val = B ++ fmtP (c.Params.take (i + 1)) := by
      rw [List.take_add_one, List.getElem?_eq_getElem hi, Option.toList_some, fmtP_app, fmtP_cons, ← hA]
      simp [fmtP, fq]
    rw [e]
    rfl
  · rw [List.take_length]
    exact cnd_f (decide_eq_false (by omega)) rfl
theorem rline_eq (c : T_Cmd) (h : LightC c) : wherryref11_line c = some (bstr (rfmtL c)) ∧ (rfmtL c).length ≤ 4000000 ∧ byt (rfmtL c) := by
  have ht := h.t
  have hn := h.n
  have cc : ∀ {w : ByteArray} {W : List Int}, sbytes w = W → W.length = 5 → catO w c.Text = some (bstr (W ++ sbytes c.Text)) := fun hw hl => catL hw rfl (by rw [hl, sbytes_len]; omega)
  have rok : ∀ {X : Option (ByteArray ⊕ (ByteArray ⊕ ByteArray))} {v : ByteArray} {K : ByteArray → Option ByteArray}, X = some (.inr (.inr v)) → bindS (S := ByteArray) (A := ByteArray)
    (bindS (S := ByteArray) (A := (ByteArray ⊕ ByteArray)) X (fun (s53 : ByteArray) => some (.inl s53)) some) K some = some v := fun h1 => bndR (bndR h1 rfl) rfl
  have rlp : ∀ {X : Option (ByteArray ⊕ (ByteArray ⊕ ByteArray))} {v : ByteArray} {K : ByteArray → Option ByteArray} {r : Option ByteArray}, X = some (.inl v) → K v = r → bindS (S := ByteArray) (A := ByteArray)
    (bindS (S := ByteArray) (A := (ByteArray ⊕ ByteArray)) X (fun (s53 : ByteArray) => some (.inl s53)) some) K some = r := fun h1 h2 => bndL (bndL h1 rfl) h2
  have hlp := fmtP_le c.Params h.p
  have hsm : Small c.Path := ⟨by have := h.l; omega, by have := h.d; omega⟩
  have htx := rtext_eq c.Path hsm
  have hbt := byt_txt c.Path
  have hlt : (txtL c.Path).length ≤ 6003 := by have := txt_len c.Path; have := h.l; have := h.d; omega
  have lenT : (sbytes c.Text).length ≤ 3000 := by rw [sbytes_len]; exact ht
  unfold wherryref11_line
  by_cases h1 : c.Kind = 1
  · have e : rfmtL c = [69, 72, 76, 79] ++ 32 :: sbytes c.Text := by
      unfold rfmtL fmtL; rw [if_neg (by rw [h1]; decide), if_pos (by rw [h1]; decide), if_pos h1]
    rw [e]
    exact ⟨rok (cnd_t (beq_iff_eq.2 h1) (bnd (cc (W := [69, 72, 76, 79, 32]) rfl rfl) rfl)), by simp; omega, byt_app (by decide) (byt_cons (by omega) (byt_sbytes _))⟩
  have f1 : (c.Kind == 1) = false := beq_eq_false_iff_ne.2 h1
  by_cases h2 : c.Kind = 2
  · have e : rfmtL c = wMail ++ txtL c.Path ++ fmtP c.Params := by
      unfold rfmtL openW; rw [if_pos (.inl h2), if_pos h2, List.append_assoc]
    rw [e]
    have hc := catL (s := (⟨#[77, 65, 73, 76, 32, 70, 82, 79, 77, 58]⟩ : ByteArray)) (l := wMail) rfl (sbytes_bstr hbt) (by have : wMail.length = 10 := rfl; omega)
    have hbm : byt (wMail ++ txtL c.Path) := byt_app (by decide) hbt
    have lm : wMail.length = 10 := rfl
    exact ⟨rlp (cnd_f f1 (cnd_t (beq_iff_eq.2 h2) (bnd htx (bnd hc rfl)))) (rline_loop _ hbm (by rw [List.length_append]; omega) c h), by rw [List.length_append, List.length_append]; omega, byt_app hbm (byt_fmtP _)⟩
  have f2 : (c.Kind == 2) = false := beq_eq_false_iff_ne.2 h2
  by_cases h3 : c.Kind = 3
  · have e : rfmtL c = wRcpt ++ txtL c.Path ++ fmtP c.Params := by
      unfold rfmtL openW; rw [if_pos (.inr h3), if_neg h2, List.append_assoc]
    rw [e]
    have hc := catL (s := (⟨#[82, 67, 80, 84, 32, 84, 79, 58]⟩ : ByteArray)) (l := wRcpt) rfl (sbytes_bstr hbt) (by have : wRcpt.length = 8 := rfl; omega)
    have hbm : byt (wRcpt ++ txtL c.Path) := byt_app (by decide) hbt
    have lm : wRcpt.length = 8 := rfl
    exact ⟨rlp (cnd_f f1 (cnd_f f2 (cnd_t (beq_iff_eq.2 h3) (bnd htx (bnd hc rfl))))) (rline_loop _ hbm (by rw [List.length_append]; omega) c h), by rw [List.length_append, List.length_append]; omega, byt_app hbm (byt_fmtP _)⟩
  have f3 : (c.Kind == 3) = false := beq_eq_false_iff_ne.2 h3
  have e23 : ¬ (c.Kind = 2 ∨ c.Kind = 3) := by rintro (h | h); exact h2 h; exact h3 h
  by_cases hin : 1 ≤ c.Kind ∧ c.Kind ≤ 11
  · have e : rfmtL c = fmtL c := by unfold rfmtL; rw [if_neg e23, if_pos hin]
    rw [e]
    have hlen : (fmtL c).length ≤ 4000 := by
      unfold fmtL
      rw [if_neg h1, if_neg e23]
      split; · decide
      split; · decide
      split; · simp; omega
      split; · decide
      split; · decide
      split; · simp; omega
      split; · decide
      split
      · split
        · decide
        · simp; omega
      · simp
    refine ⟨?_, by omega, byt_fmtL c⟩
    by_cases h4 : c.Kind = 4
    · rw [show fmtL c = [68, 65, 84, 65] by unfold fmtL; rw [if_neg h1, if_neg e23, if_pos h4]]
      exact rok (cnd_f f1 (cnd_f f2 (cnd_f f3 (cnd_t (beq_iff_eq.2 h4) rfl))))
    have f4 : (c.Kind == 4) = false := beq_eq_false_iff_ne.2 h4
    by_cases h5 : c.Kind = 5
    · rw [show fmtL c = [82, 83, 69, 84] by unfold fmtL; rw [if_neg h1, if_neg e23, if_neg h4, if_pos h5]]
      exact rok (cnd_f f1 (cnd_f f2 (cnd_f f3 (cnd_f f4 (cnd_t (beq_iff_eq.2 h5) rfl)))))
    have f5 : (c.Kind == 5) = false := beq_eq_false_iff_ne.2 h5
    by_cases h6 : c.Kind = 6
    · rw [show fmtL c = [86, 82, 70, 89] ++ 32 :: sbytes c.Text by unfold fmtL; rw [if_neg h1, if_neg e23, if_neg h4, if_neg h5, if_pos h6]]
      exact rok (cnd_f f1 (cnd_f f2 (cnd_f f3 (cnd_f f4 (cnd_f f5 (cnd_t (beq_iff_eq.2 h6) (bnd (cc (W := [86, 82, 70, 89, 32]) rfl rfl) rfl)))))))
    have f6 : (c.Kind == 6) = false := beq_eq_false_iff_ne.2 h6
    by_cases h7 : c.Kind = 7
    · rw [show fmtL c = [78, 79, 79, 80] by unfold fmtL; rw [if_neg h1, if_neg e23, if_neg h4, if_neg h5, if_neg h6, if_pos h7]]
      exact rok (cnd_f f1 (cnd_f f2 (cnd_f f3 (cnd_f f4 (cnd_f f5 (cnd_f f6 (cnd_t (beq_iff_eq.2 h7) rfl)))))))
    have f7 : (c.Kind == 7) = false := beq_eq_false_iff_ne.2 h7
    by_cases h8 : c.Kind = 8
    · rw [show fmtL c = [81, 85, 73, 84] by unfold fmtL; rw [if_neg h1, if_neg e23, if_neg h4, if_neg h5, if_neg h6, if_neg h7, if_pos h8]]
      exact rok (cnd_f f1 (cnd_f f2 (cnd_f f3 (cnd_f f4 (cnd_f f5 (cnd_f f6 (cnd_f f7 (cnd_t (beq_iff_eq.2 h8) rfl))))))))
    have f8 : (c.Kind == 8) = false := beq_eq_false_iff_ne.2 h8
    by_cases h9 : c.Kind = 9
    · rw [show fmtL c = [69, 84, 82, 78] ++ 32 :: sbytes c.Text by unfold fmtL; rw [if_neg h1, if_neg e23, if_neg h4, if_neg h5, if_neg h6, if_neg h7, if_neg h8, if_pos h9]]
      exact rok (cnd_f f1 (cnd_f f2 (cnd_f f3 (cnd_f f4 (cnd_f f5 (cnd_f f6 (cnd_f f7 (cnd_f f8 (cnd_t (beq_iff_eq.2 h9) (bnd (cc (W := [69, 84, 82, 78, 32]) rfl rfl) rfl))))))))))
    have f9 : (c.Kind == 9) = false := beq_eq_false_iff_ne.2 h9
    by_cases h10 : c.Kind = 10
    · rw [show fmtL c = [65, 85, 84, 72] ++ 32 :: wCram by unfold fmtL; rw [if_neg h1, if_neg e23, if_neg h4, if_neg h5, if_neg h6, if_neg h7, if_neg h8, if_neg h9, if_pos h10]]
      exact rok (cnd_f f1 (cnd_f f2 (cnd_f f3 (cnd_f f4 (cnd_f f5 (cnd_f f6 (cnd_f f7 (cnd_f f8 (cnd_f f9 (cnd_t (beq_iff_eq.2 h10) rfl))))))))))
    have f10 : (c.Kind == 10) = false := beq_eq_false_iff_ne.2 h10
    have h11 : c.Kind = 11 := by omega
    have hz := eqL c.Text (⟨#[]⟩ : ByteArray)
    by_cases hzz : sbytes c.Text = []
    · rw [show fmtL c = [65, 84, 82, 78] by unfold fmtL; rw [if_neg h1, if_neg e23, if_neg h4, if_neg h5, if_neg h6, if_neg h7, if_neg h8, if_neg h9, if_neg h10, if_pos h11, if_pos hzz]]
      exact rok (cnd_f f1 (cnd_f f2 (cnd_f f3 (cnd_f f4 (cnd_f f5 (cnd_f f6 (cnd_f f7 (cnd_f f8 (cnd_f f9 (cnd_f f10 (cnd_t (beq_iff_eq.2 h11) (cnd_t (by rw [hz]; exact decide_eq_true hzz) rfl))))))))))))
    · rw [show fmtL c = [65, 84, 82, 78] ++ 32 :: sbytes c.Text by unfold fmtL; rw [if_neg h1, if_neg e23, if_neg h4, if_neg h5, if_neg h6, if_neg h7, if_neg h8, if_neg h9, if_neg h10, if_pos h11, if_neg hzz]]
      exact rok (cnd_f f1 (cnd_f f2 (cnd_f f3 (cnd_f f4 (cnd_f f5 (cnd_f f6 (cnd_f f7 (cnd_f f8 (cnd_f f9 (cnd_f f10 (cnd_t (beq_iff_eq.2 h11) (cnd_f (by rw [hz]; exact decide_eq_false hzz) (bnd (cc (W := [65, 84, 82, 78, 32]) rfl rfl) rfl)))))))))))))
  · have e : rfmtL c = [] ++ fmtP c.Params := by unfold rfmtL; rw [if_neg e23, if_neg hin]; rfl
    rw [e]
    refine ⟨rlp (v := bstr []) ?_ (rline_loop [] byt_nil (by simp) c h), by rw [List.nil_append]; omega, byt_app byt_nil (byt_fmtP _)⟩
    exact cnd_f f1 (cnd_f f2 (cnd_f f3 (cnd_f (beq_eq_false_iff_ne.2 (by omega)) (cnd_f (beq_eq_false_iff_ne.2 (by omega)) (cnd_f (beq_eq_false_iff_ne.2 (by omega)) (cnd_f (beq_eq_false_iff_ne.2 (by omega)) (cnd_f (beq_eq_false_iff_ne.2 (by omega)) (cnd_f (beq_eq_false_iff_ne.2 (by omega)) (cnd_f (beq_eq_false_iff_ne.2 (by omega)) (cnd_f (beq_eq_false_iff_ne.2 (by omega)) rfl))))))))))
theorem rfmt_iff (c : T_Cmd) : (vparse (rfmtL c) = (c, 0) ↔ vparse (fmtL c) = (c, 0)) ∧ (vparse (fmtL c) = (c, 0) → rfmtL c = fmtL c) := by
  have h2 : vparse (fmtL c) = (c, 0) → rfmtL c = fmtL c := by
    intro h
    by_cases h23 : c.Kind = 2 ∨ c.Kind = 3
    · have hp := (back h).2.2 h23
      unfold rfmtL
      rw [if_pos h23]
      have : fmtL c = openW c.Kind ++ (txtL c.Path ++ fmtP c.Params) := fmt23 h23 c.Text c.Path c.Params hp
      rw [this]
    · by_cases hin : 1 ≤ c.Kind ∧ c.Kind ≤ 11
      · unfold rfmtL; rw [if_neg h23, if_pos hin]
      · have : fmtL c = [] := by
          unfold fmtL
          rw [if_neg (by omega), if_neg h23, if_neg (by omega), if_neg (by omega), if_neg (by omega), if_neg (by omega), if_neg (by omega), if_neg (by omega), if_neg (by omega), if_neg (by omega)]
        rw [this] at h
        have h0 : vparse [] = (noC, 500) := by kernel_rfl
        rw [h0] at h
        cases h
  exact ⟨⟨fun h => (back h).1, fun h => by rw [h2 h]; exact h⟩, h2⟩
theorem rLine_eq (c : T_Cmd) (h : LightC c) : wherryref11_Line c = some (if vparse (fmtL c) = (c, 0) then (bstr (fmtL c), true) else (e0, false)) := by
  unfold wherryref11_Line
  obtain ⟨hl, hlen, hb⟩ := rline_eq c h
  obtain ⟨hiff, heq⟩ := rfmt_iff c
  have hv : wherryref11_Verb (bstr (rfmtL c)) = some (vparse (rfmtL c)) := by
    have := rverb_eqB (bstr (rfmtL c)) (by rw [bstr_size]; omega)
    rwa [sbytes_bstr hb] at this
  refine bnd hl (bnd hv ?_)
  have hk : ∀ x : T_Cmd, x.Params.length < 4611686018427387904 → wherrykeep_Cmd x c = some (decide (x = c)) := fun x hx => keepCmd x c hx
  by_cases h0 : (vparse (rfmtL c)).2 = 0
  · have hlight := (light_of (Prod.ext rfl h0 : vparse (rfmtL c) = ((vparse (rfmtL c)).1, 0))).n
    have hkk := hk (vparse (rfmtL c)).1 (Nat.lt_of_le_of_lt hlight (by decide))
    by_cases he : (vparse (rfmtL c)).1 = c
    · rw [decide_eq_true he] at hkk
      have hyes : vparse (rfmtL c) = (c, 0) := Prod.ext he h0
      have hy2 := hiff.1 hyes
      rw [if_pos hy2, ← heq hy2]
      exact bndL (s := false) (cnd_f (by rw [h0]; rfl) (bnd hkk rfl)) (cnd_f rfl rfl)
    · rw [decide_eq_false he] at hkk
      rw [if_neg (fun h => he (by rw [hiff.2 h]))]
      exact bndL (s := true) (cnd_f (by rw [h0]; rfl) (bnd hkk rfl)) (cnd_t rfl rfl)
  · rw [if_neg (fun h => h0 (by rw [hiff.2 h]))]
    exact bndL (s := true) (cnd_t (bne_iff_ne.2 h0) rfl) (cnd_t rfl rfl)
theorem verbExact_true (s : ByteArray) (c : T_Cmd) (key : ByteArray) (hs : wzS s) (hc : T_Cmd.wz c) (hkz : wzS key) : wherrylaw12_VerbExact s c key = some true := by
  unfold wherrylaw12_VerbExact
  by_cases h1 : 1000 < s.size
  · exact bndL (s := true) (cnd_t (decide_eq_true (by omega)) rfl) (cnd_t rfl rfl)
  obtain ⟨b, hb, hlt⟩ := heavy_eq c hc
  cases b with
  | true => exact bndL (s := true) (cnd_f (decide_eq_false (by omega)) (bnd hb rfl)) (cnd_t rfl rfl)
  | false =>
    have hL := hlt rfl
    refine bndL (s := false) (cnd_f (decide_eq_false (by omega)) (bnd hb rfl)) (cnd_f rfl ?_)
    have hn := hL.n
    have hps := parse_S s
    have hvs := rverb_eqB s (by omega)
    have htx := text_L c hL
    have hln := rLine_eq c hL
    have hp1 := vparam_eq c key (by omega)
    have hp2 := rparam_eq c key (by omega)
    have hlight : ((vparse (sbytes s)).1).Params.length < 4611686018427387904 := by
      by_cases hn : (vparse (sbytes s)).2 = 0
      · exact Nat.lt_of_le_of_lt (light_of (Prod.ext rfl hn : vparse (sbytes s) = (_, 0))).n (by decide)
      · rw [(vparse_code (sbytes s) hn).1]; decide
    have hk := keepCmd (vparse (sbytes s)).1 (vparse (sbytes s)).1 hlight
    rw [decide_eq_true rfl] at hk
    have wk : wherrylaw12_wakes = some true := by kernel_rfl
    refine bnd hps (bnd hvs (bnd htx (bnd hln (bnd hp1 (bnd hp2 ?_)))))
    refine bndL (s := true) (cnd_t (by simp) (bnd hk (cnd_t rfl ?_))) rfl
    by_cases hv : vparse (fmtL c) = (c, 0)
    · rw [if_pos hv, if_pos hv]
      exact bnd rfl (cnd_t rfl (cnd_t rfl (cnd_t (by simp) (cnd_t (by simp) (bnd rfl (cnd_t (by simp) (bnd wk rfl)))))))
    · rw [if_neg hv, if_neg hv]
      exact bnd rfl (cnd_t rfl (cnd_f rfl (cnd_t rfl (cnd_t (by simp) (cnd_t (by simp) (bnd rfl (cnd_t (by simp) (bnd wk rfl))))))))
end Go.Abs.Sh
