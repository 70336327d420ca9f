import Derived.Test.YthfmdofkkkpbkaaGreatDoorPatE
namespace Go.Abs.Sh
set_option linter.unusedVariables false
set_option linter.unusedSimpArgs false
theorem loop_find {R : Type} {f : Int → Option (Int ⊕ (Unit ⊕ R))} (c : Int) (l : List Int) (g : Nat → R) {fuel : Nat} (hf : l.length < fuel)
    (hgo : ∀ i, i < l.length → l.getD i 0 ≠ c → f (i : Int) = some (.inl ((i + 1 : Nat) : Int))) (hno : ∀ i, i < l.length → l.getD i 0 = c → f (i : Int) = some (.inr (.inr (g i)))) (hend : f (l.length : Int) = some (.inr (.inl ()))) :
    loopF f fuel 0 = some (match idx1 c l with | none => .inl () | some e => .inr (g e)) := by
  cases hi : idx1 c l with
  | none =>
    have h := idx1_none.1 hi
    refine loop_from (fun i => (i : Int)) l.length fuel rfl hf (fun i hi => hgo i hi ?_) hend
    intro e
    apply h
    rw [← e, List.getD_eq_getElem?_getD, List.getElem?_eq_getElem hi]
    exact List.getElem_mem hi
  | some e =>
    obtain ⟨h1, h2, h3⟩ := idx1_some hi
    refine loop_from (fun i => (i : Int)) e fuel rfl (by omega) (fun i hi => hgo i (by omega) ?_) (hno e (by omega) ?_)
    · intro he
      apply h3
      rw [← he, List.getD_eq_getElem?_getD, List.getElem?_eq_getElem (show i < l.length by omega)]
      exact List.mem_take_iff_getElem.2 ⟨i, by omega, rfl⟩
    · rw [h2, List.getD_eq_getElem?_getD, List.getElem?_append_right (by simp; omega)]
      have : (l.take e).length = e := by simp; omega
      rw [this, Nat.sub_self]; rfl
theorem rparse_eq (s : ByteArray) (hs : s.size < 1152921504606846976) : wherryref11_Parse s = some (match parL (sbytes s) with | some p => (p, true) | none => (noP, false)) := by
  unfold wherryref11_Parse parL
  by_cases h2 : sbytes s = [60, 62]
  · rw [if_pos h2]
    exact cnd_t (by rw [ns2]; exact decide_eq_true h2) rfl
  · rw [if_neg h2]
    refine cnd_f (by rw [ns2]; exact decide_eq_false h2) ?_
    rcases mid_cases (sbytes s) with ⟨m, hm, hmid⟩ | hmid
    · rw [hmid]
      have hml : m.length + 2 = s.size := by rw [size_sb, hm]; simp
      have hbm : byt m := by
        have := byt_sbytes s
        rw [hm] at this
        intro x hx
        exact this x (by simp [hx])
      have c0 := chrD (s := s) (i := 0) (by omega)
      have c1 := chrD (s := s) (i := s.size - 1) (by omega)
      have x0 : (sbytes s).getD 0 0 = 60 := by rw [hm]; rfl
      have x1 : (sbytes s).getD (s.size - 1) 0 = 62 := by
        rw [hm, ← hml]
        show (60 :: (m ++ [62])).getD (m.length + 1) 0 = 62
        rw [List.getD_cons_succ, List.getD_eq_getElem?_getD, List.getElem?_append_right (Nat.le_refl _)]; simp
      rw [x0] at c0
      rw [x1] at c1
      have w : some (IntKind.i64.wrap ((s.size : Int) - 1)) = some ((s.size - 1 : Nat) : Int) := by rw [wrap_i (by omega) (by omega)]; congr 1; omega
      have e1 : subO s 1 ((s.size - 1 : Nat) : Int) = some (bstr m) := by
        have := sub_of (s := s) (a := 1) (b := s.size - 1) (by omega) (by omega)
        rw [show s.size - 1 - 1 = m.length by omega, hm] at this
        simpa using this
      refine bndL (s := false) (cnd_f (decide_eq_false (by omega)) (bnd c0 (cnd_f rfl (bnd w (bnd c1 rfl))))) (cnd_f rfl (bnd w (bnd e1 ?_)))
      have hsz : (bstr m).size = m.length := bstr_size m
      have hmm : sbytes (bstr m) = m := sbytes_bstr hbm
      have hlp := fun (f : Int → Option (Int ⊕ (Unit ⊕ (T_Path × Bool)))) => loop_find (R := T_Path × Bool) (f := f) 64 m (fun e => cond (patB ⟨false, bstr (m.take e), bstr (m.drop (e + 1))⟩) (⟨false, bstr (m.take e), bstr (m.drop (e + 1))⟩, true) (noP, false)) (fuel := BIG) (by unfold BIG; omega)
      have hget : ∀ i, i < m.length → chrO (bstr m) (i : Int) = some (m.getD i 0) := by
        intro i hi
        have := chrD (s := bstr m) (i := i) (by omega)
        rwa [hmm] at this
      refine (congrArg (fun x => bindS x _ _) (hlp _ ?_ ?_ ?_)).trans ?_
      · intro i hi hne
        exact cnd_t (decide_eq_true (by omega)) (bnd (hget i hi) (cnd_f (by simpa using hne) (bnd (by rw [wrap_succ (by omega)]) rfl)))
      · intro i hi he
        have s1 : subO (bstr m) 0 (i : Int) = some (bstr (m.take i)) := by
          have := sub_of (s := bstr m) (a := 0) (b := i) (by omega) (by omega)
          rw [hmm] at this
          simpa using this
        have s2 : subO (bstr m) ((i + 1 : Nat) : Int) ((bstr m).size : Int) = some (bstr (m.drop (i + 1))) := by
          have := sub_of (s := bstr m) (a := i + 1) (b := (bstr m).size) (by omega) (Nat.le_refl _)
          rw [hmm, List.take_of_length_le (by simp; omega)] at this
          exact this
        have w3 : some (IntKind.i64.wrap ((i : Int) + 1)) = some ((i + 1 : Nat) : Int) := by rw [wrap_succ (by omega)]
        refine cnd_t (decide_eq_true (by omega)) (bnd (hget i hi) (cnd_t (by rw [he]; rfl) (bnd s1 (bnd w3 (bnd s2 (bnd (rpath_eq _) ?_))))))
        unfold wherryref11_keep
        cases patB ⟨false, bstr (m.take i), bstr (m.drop (i + 1))⟩ <;> rfl
      · exact cnd_f (decide_eq_false (by omega)) rfl
      · simp only [boxL]
        cases idx1 64 m with
        | none => rfl
        | some e =>
          dsimp only
          cases patB ⟨false, bstr (m.take e), bstr (m.drop (e + 1))⟩ <;> rfl
    · rw [hmid]
      refine bndL (s := true) ?_ (cnd_t rfl rfl)
      by_cases hlt : s.size < 2
      · exact cnd_t (decide_eq_true (by omega)) rfl
      · have c0 := chrD (s := s) (i := 0) (by omega)
        have c1 := chrD (s := s) (i := s.size - 1) (by omega)
        have w : some (IntKind.i64.wrap ((s.size : Int) - 1)) = some ((s.size - 1 : Nat) : Int) := by rw [wrap_i (by omega) (by omega)]; congr 1; omega
        have hne : sbytes s ≠ [] := by intro e; have := sbytes_len s; rw [e] at this; simp at this; omega
        refine cnd_f (decide_eq_false (by omega)) (bnd c0 ?_)
        by_cases h0 : (sbytes s).getD 0 0 = 60
        · refine cnd_f (by rw [h0]; rfl) (bnd w (bnd c1 ?_))
          have hl : (sbytes s).getD (s.size - 1) 0 ≠ 62 := by
            intro h62
            unfold midL at hmid
            rw [if_pos ⟨by rw [head_getD hne, h0], by rw [sbytes_len]; omega, by rw [last_getD hne, sbytes_len, h62]⟩] at hmid
            cases hmid
          have : ((sbytes s).getD (s.size - 1) 0 != 62) = true := by simpa using hl
          rw [this]
        · exact cnd_t (by simpa using h0) rfl
theorem rtext_eq (p : T_Path) (h : Small p) : wherryref11_Text p = some (bstr (txtL p)) := by
  unfold wherryref11_Text txtL
  cases hn : p.Null
  · exact cnd_f rfl (cats p h _ _ rfl)
  · exact cnd_t rfl rfl
theorem rfold_eq (s : ByteArray) (hs : s.size < 140737488355328) : wherryref11_Fold s = some (lowS s) := by
  unfold wherryref11_Fold
  have hlen : (sbytes s).length = s.size := sbytes_len s
  refine bndL (s := lowL (sbytes s)) ?_ rfl
  refine loop_from (fun i => (((sbytes s).take i).map lowB, (i : Int))) s.size BIG (by simp) (by unfold BIG; omega) (fun i hi => ?_) ?_
  · have hi' : i < (sbytes s).length := by omega
    have hb := byt_sbytes s _ (List.getElem_mem hi')
    have hc := chr_of hi
    have w : some (IntKind.i64.wrap ((i : Int) + 1)) = some ((i + 1 : Nat) : Int) := by rw [wrap_succ (by omega)]
    have ap : appO 1 (((sbytes s).take i).map lowB) [lowB (sbytes s)[i]] = some (((sbytes s).take (i + 1)).map lowB) := by
      rw [app_of (by simp; omega) (by simp; omega), List.take_add_one, List.getElem?_eq_getElem hi']
      simp only [Option.toList_some, List.map_append, List.map_cons, List.map_nil]
    refine cnd_t (decide_eq_true (by omega)) (bnd hc (bndL (s := lowB (sbytes s)[i]) ?_ (bnd ap (bnd w rfl))))
    by_cases h1 : 65 ≤ (sbytes s)[i] ∧ (sbytes s)[i] ≤ 90
    · have e : lowB (sbytes s)[i] = (sbytes s)[i] + 32 := by unfold lowB; rw [if_pos h1]
      exact bndL (s := true) (cnd_t (decide_eq_true h1.1) (by rw [decide_eq_true h1.2])) (cnd_t rfl (bnd (by rw [u8_wrap (by omega) (by omega)]) (by rw [e])))
    · have e : lowB (sbytes s)[i] = (sbytes s)[i] := by unfold lowB; rw [if_neg h1]
      refine bndL (s := false) ?_ (cnd_f rfl (by rw [e]))
      by_cases h2 : 65 ≤ (sbytes s)[i]
      · exact cnd_t (decide_eq_true h2) (by rw [decide_eq_false fun h3 => h1 ⟨h2, h3⟩])
      · exact cnd_f (decide_eq_false h2) rfl
  · refine cnd_f (decide_eq_false (by omega)) ?_
    rw [List.take_of_length_le (by omega)]; rfl
end Go.Abs.Sh
