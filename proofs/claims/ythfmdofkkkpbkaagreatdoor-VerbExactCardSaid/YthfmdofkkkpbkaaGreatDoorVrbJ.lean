import Derived.Test.YthfmdofkkkpbkaaGreatDoorVrbI
namespace Go.Abs.Sh
set_option linter.unusedVariables false
set_option linter.unusedSimpArgs false
set_option maxRecDepth 100000
theorem words12 (K : List Int) : (([(⟨#[101, 104, 108, 111]⟩ : ByteArray), (⟨#[104, 101, 108, 111]⟩ : ByteArray), (⟨#[109, 97, 105, 108]⟩ : ByteArray), (⟨#[114, 99, 112, 116]⟩ : ByteArray), (⟨#[100, 97, 116, 97]⟩ : ByteArray), (⟨#[114, 115, 101, 116]⟩ : ByteArray), (⟨#[113, 117, 105, 116]⟩ : ByteArray), (⟨#[110, 111, 111, 112]⟩ : ByteArray), (⟨#[118, 114, 102, 121]⟩ : ByteArray), (⟨#[101, 116, 114, 110]⟩ : ByteArray), (⟨#[97, 117, 116, 104]⟩ : ByteArray), (⟨#[97, 116, 114, 110]⟩ : ByteArray)]).any fun x => decide (sbytes x = K)) = decide (kindW K ≠ 0) := by
  by_cases h : kindW K = 0
  · rw [decide_eq_false (by simpa using h)]
    refine List.any_eq_false.2 fun x hx => ?_
    intro hd
    have hd := of_decide_eq_true hd
    subst hd
    simp only [List.mem_cons, List.not_mem_nil, or_false] at hx
    rcases hx with rfl | rfl | rfl | rfl | rfl | rfl | rfl | rfl | rfl | rfl | rfl | rfl <;> exact absurd h (by decide)
  · rw [decide_eq_true h]
    rcases kind_cases _ K rfl h with ⟨_, rfl | rfl⟩ | ⟨_, rfl⟩ | ⟨_, rfl⟩ | ⟨_, rfl⟩ | ⟨_, rfl⟩ | ⟨_, rfl⟩ | ⟨_, rfl⟩ | ⟨_, rfl⟩ | ⟨_, rfl⟩ | ⟨_, rfl⟩ | ⟨_, rfl⟩ <;> kernel_rfl
theorem pfx_lower {w w' : List Int} (h : lowL w = lowL w') (l : List Int) : pfx w l = pfx w' l := by
  have hl : w.length = w'.length := by rw [← low_len w, h, low_len]
  unfold pfx
  rw [h, hl]
theorem rverb_eqB (s : ByteArray) (hs : s.size < 10000000) : wherryref11_Verb s = some (vparse (sbytes s)) := by
  have hl : (sbytes s).length = s.size := sbytes_len s
  unfold wherryref11_Verb
  by_cases hlen : 510 < s.size
  · rw [vlong (by omega)]
    exact cnd_t (decide_eq_true (by omega)) rfl
  refine cnd_f (decide_eq_false (by omega)) ?_
  have hloop := loop_all (R := T_Cmd × Int) (f := fun (s18 : Int) =>
        cond ((decide (s18 < (s.size : Int))))
          (bindS (S := Bool) (A := ((Int) ⊕ ((Unit) ⊕ (T_Cmd × Int))))
            ((chrO s s18).bind fun v3 =>
            cond ((decide (v3 < 32)))
              (some (.inl true))
              ((chrO s s18).bind fun v4 =>
              some (.inl ((decide (126 < v4))))))
            (fun (s32 : Bool) =>
              cond (s32)
                (some (.inr (.inr (((T_Cmd.mk 0 (⟨#[]⟩ : ByteArray) ((T_Path.mk false (⟨#[]⟩ : ByteArray) (⟨#[]⟩ : ByteArray))) []), 500)))))
                ((some (IntKind.i64.wrap (s18 + 1))).bind fun v10 =>
                some (.inl v10))) some)
          (some (.inr (.inl ())))) (fun i => prB ((sbytes s).getD i 0)) s.size (noC, 500) (fuel := BIG) (by simp only [BIG]; omega)
    (fun i hi hp => by
      have hc := chrD hi
      simp only [prB, Bool.and_eq_true, decide_eq_true_eq] at hp
      refine cnd_t (decide_eq_true (by omega)) (bndL (s := false) (bnd hc (cnd_f (decide_eq_false (by omega)) (bnd hc (by rw [decide_eq_false (by omega)])))) (cnd_f rfl (bnd (some_wrap (by omega) (by omega)) rfl))))
    (fun i hi hp => by
      have hc := chrD hi
      simp only [prB, Bool.and_eq_false_iff, decide_eq_false_iff_not] at hp
      refine cnd_t (decide_eq_true (by omega)) (bndL (s := true) (bnd hc ?_) rfl)
      by_cases h : (sbytes s).getD i 0 < 32
      · exact cnd_t (decide_eq_true h) rfl
      · exact cnd_f (decide_eq_false h) (bnd hc (by rw [decide_eq_true (by omega)])))
    (cnd_f (decide_eq_false (by omega)) rfl)
  by_cases hpr : ∀ i, i < s.size → prB ((sbytes s).getD i 0) = true
  · have hall : (sbytes s).all prB = true := (all_iff_get _ _).2 (by rw [hl]; exact hpr)
    rw [if_pos hpr] at hloop
    refine bndL hloop ?_
    have hwd := wd_cut s
    have hcl := cutW_len 32 (sbytes s)
    have hbc := byt_cut 32 (byt_sbytes s)
    have hfirst := first_eq s (by omega)
    generalize (cutW 32 (sbytes s)).1 = w at *
    generalize (cutW 32 (sbytes s)).2.1 = r at *
    generalize (cutW 32 (sbytes s)).2.2 = more at *
    have hv37 : sbytes (lowS (bstr w)) = lowL w := by rw [sbytes_low, sbytes_bstr hbc.1]
    have hG : ∀ t : ByteArray, ((lowS (bstr w)).toList == t.toList) = decide (lowL w = sbytes t) := fun t => by rw [eqL, hv37]
    have hsz : (lowS (bstr w)).size = w.length := by rw [low_size, bstr_size]
    have ham := among_eq (lowS (bstr w)) ([(⟨#[101, 104, 108, 111]⟩ : ByteArray), (⟨#[104, 101, 108, 111]⟩ : ByteArray), (⟨#[109, 97, 105, 108]⟩ : ByteArray), (⟨#[114, 99, 112, 116]⟩ : ByteArray), (⟨#[100, 97, 116, 97]⟩ : ByteArray), (⟨#[114, 115, 101, 116]⟩ : ByteArray), (⟨#[113, 117, 105, 116]⟩ : ByteArray), (⟨#[110, 111, 111, 112]⟩ : ByteArray), (⟨#[118, 114, 102, 121]⟩ : ByteArray), (⟨#[101, 116, 114, 110]⟩ : ByteArray), (⟨#[97, 117, 116, 104]⟩ : ByteArray), (⟨#[97, 116, 114, 110]⟩ : ByteArray)]) (by decide)
    rw [hv37, words12] at ham
    have hcw := cmd_word hwd.yes hwd.no
    refine bnd hfirst (bnd ham ?_)
    by_cases hk0 : kindW (lowL w) = 0
    · have hv : vparse (sbytes s) = (noC, 500) := by
        unfold vparse; rw [if_pos (.inr (.inr (by rw [hcw.1, hk0])))]
      rw [hv, decide_eq_false (by simpa using hk0)]
      exact cnd_t rfl rfl
    rw [decide_eq_true hk0]
    refine cnd_f rfl ?_
    have hw4 : w.length = 4 := by have := kindW_len hk0; rwa [low_len] at this
    have hmech := mech_word hwd.yes hwd.no hw4
    have hv : vparse (sbytes s) = (if mechB (sbytes s) = true then (noC, 504) else match cmdL (sbytes s) with | none => (noC, 501) | some c => (c, 0) : T_Cmd × Int) := by
      unfold vparse
      refine if_neg ?_
      rintro (h | h | h)
      · omega
      · rw [hall] at h; cases h
      · exact hk0 (by rw [← hcw.1, h])
    have hbare : (((lowS (bstr w)).size : Int) == (s.size : Int)) = !more := by
      cases more with
      | true =>
        have := congrArg List.length (hwd.yes rfl).1
        rw [List.length_append, List.length_cons] at this
        exact beq_eq_false_iff_ne.2 (by omega)
      | false =>
        have := congrArg List.length (hwd.no rfl).1
        exact beq_iff_eq.2 (by omega)
    have hrest : (cond ((!(((lowS (bstr w)).size : Int) == (s.size : Int))))
              ((some (IntKind.i64.wrap (((lowS (bstr w)).size : Int) + 1))).bind fun v41 =>
              (subO s v41 (s.size : Int)).bind fun v42 =>
              some (.inl v42))
              (some (.inl (⟨#[]⟩ : ByteArray))) : Option (ByteArray ⊕ (T_Cmd × Int))) = some (.inl (bstr r)) := by
      rw [hbare]
      cases more with
      | true =>
        have he := (hwd.yes rfl).1
        have hle := congrArg List.length he
        rw [List.length_append, List.length_cons] at hle
        have hsub := sub_of (s := s) (a := w.length + 1) (b := s.size) (by omega) (Nat.le_refl _)
        rw [List.take_of_length_le (by rw [List.length_drop]; omega)] at hsub
        have hd : (sbytes s).drop (w.length + 1) = r := by
          rw [he, ← List.drop_drop, List.drop_left]; rfl
        rw [hd] at hsub
        exact cnd_t rfl (bnd (by rw [hsz, wrap_succ (by omega)]) (bnd hsub rfl))
      | false => rw [(hwd.no rfl).2.2]; exact cnd_f rfl rfl
    refine bndL hrest ?_
    have hdom := rdom_eq (bstr r)
    rw [sbytes_bstr hbc.2] at hdom
    have hrem : ((bstr r).toList == (⟨#[]⟩ : ByteArray).toList) = decide (r = []) := by rw [eqL, sbytes_bstr hbc.2]; rfl
    have hrl : r.length ≤ 510 := by omega
    have r501 : ∀ {X : Option (Unit ⊕ (Unit ⊕ (T_Cmd × Int)))}, X = some (.inl ()) → vparse (sbytes s) = (noC, 501) → bindS (S := Unit) (A := (T_Cmd × Int))
                (bindS (S := Unit) (A := (Unit ⊕ (T_Cmd × Int))) X (fun (() : Unit) => some (.inl ())) some) (fun (() : Unit) =>
                  some (((T_Cmd.mk 0 (⟨#[]⟩ : ByteArray) ((T_Path.mk false (⟨#[]⟩ : ByteArray) (⟨#[]⟩ : ByteArray))) []), (501 : Int)))) some = some (vparse (sbytes s)) := fun h1 h2 => by
      rw [h2]; exact bndL (bndL h1 rfl) rfl
    have rok : ∀ {X : Option (Unit ⊕ (Unit ⊕ (T_Cmd × Int)))} {c : T_Cmd × Int}, X = some (.inr (.inr c)) → vparse (sbytes s) = c → bindS (S := Unit) (A := (T_Cmd × Int))
                (bindS (S := Unit) (A := (Unit ⊕ (T_Cmd × Int))) X (fun (() : Unit) => some (.inl ())) some) (fun (() : Unit) =>
                  some (((T_Cmd.mk 0 (⟨#[]⟩ : ByteArray) ((T_Path.mk false (⟨#[]⟩ : ByteArray) (⟨#[]⟩ : ByteArray))) []), (501 : Int)))) some = some (vparse (sbytes s)) := fun h1 h2 => by
      rw [h2]; exact bndR (bndR h1 rfl) rfl
    have hnoAuth : lowL w ≠ [97, 117, 116, 104] → mechB (sbytes s) = false := fun h => by rw [hmech, decide_eq_false h]; rfl
    obtain ⟨hkind, hcut⟩ := hcw
    have hX : ∀ {k : Int}, kindW (lowL w) = k → kindL (sbytes s) = k := fun h => by rw [hkind, h]
    rcases kind_cases _ _ rfl hk0 with ⟨hk, hK⟩ | ⟨hk, hK⟩ | ⟨hk, hK⟩ | ⟨hk, hK⟩ | ⟨hk, hK⟩ | ⟨hk, hK⟩ | ⟨hk, hK⟩ | ⟨hk, hK⟩ | ⟨hk, hK⟩ | ⟨hk, hK⟩ | ⟨hk, hK⟩
    · -- ehlo
      have hm : mechB (sbytes s) = false := hnoAuth (by rcases hK with hK | hK <;> rw [hK] <;> decide)
      have hc : cmdL (sbytes s) = if domB r then some ⟨1, bstr r, noP, []⟩ else none := by
        unfold cmdL; rw [hX hk, hcut]; rfl
      rw [hm, hc] at hv
      have hfirst2 : ∀ {R : Type}, (cond (((lowS (bstr w)).toList == (⟨#[101, 104, 108, 111]⟩ : ByteArray).toList)) (some (.inl ((lowS (bstr w)).toList == (⟨#[101, 104, 108, 111]⟩ : ByteArray).toList))) (some (.inl ((lowS (bstr w)).toList == (⟨#[104, 101, 108, 111]⟩ : ByteArray).toList))) : Option (Bool ⊕ R)) = some (.inl true) := by
        intro R
        rcases hK with hK | hK
        · exact cnd_t (by rw [hG, hK]; rfl) (by rw [hG, hK]; rfl)
        · exact cnd_f (by rw [hG, hK]; rfl) (by rw [hG, hK]; rfl)
      cases more with
      | true =>
        cases hd : domB r with
        | true =>
          rw [hd] at hdom hv
          exact rok (bndL hfirst2 (cnd_t rfl (bndL (s := true) (cnd_t (by rw [hbare]; rfl) (bnd hdom rfl)) (cnd_t rfl rfl)))) hv
        | false =>
          rw [hd] at hdom hv
          exact r501 (bndL hfirst2 (cnd_t rfl (bndL (s := false) (cnd_t (by rw [hbare]; rfl) (bnd hdom rfl)) (cnd_f rfl rfl)))) hv
      | false =>
        have hr := (hwd.no rfl).2.2
        rw [hr] at hv
        exact r501 (bndL hfirst2 (cnd_t rfl (bndL (s := false) (cnd_f (by rw [hbare]; rfl) rfl) (cnd_f rfl rfl)))) hv
    all_goals
      have hnot : ∀ {R : Type}, (cond (((lowS (bstr w)).toList == (⟨#[101, 104, 108, 111]⟩ : ByteArray).toList)) (some (.inl ((lowS (bstr w)).toList == (⟨#[101, 104, 108, 111]⟩ : ByteArray).toList))) (some (.inl ((lowS (bstr w)).toList == (⟨#[104, 101, 108, 111]⟩ : ByteArray).toList))) : Option (Bool ⊕ R)) = some (.inl false) := by
        intro R
        exact cnd_f (by rw [hG, hK]; rfl) (by rw [hG, hK]; rfl)
      have no : ∀ {t : ByteArray}, decide (lowL w = sbytes t) = false → ((lowS (bstr w)).toList == t.toList) = false := fun h => by rw [hG, h]
      have ye : ∀ {t : ByteArray}, decide (lowL w = sbytes t) = true → ((lowS (bstr w)).toList == t.toList) = true := fun h => by rw [hG, h]
    · -- mail
      have hm : mechB (sbytes s) = false := hnoAuth (by rw [hK]; decide)
      have hc : cmdL (sbytes s) = (pfx wMail (sbytes s)).bind (boxedL 2) := by
        unfold cmdL; rw [hX hk]; rfl
      have hbg := begins_eq (bstr r) (⟨#[102, 114, 111, 109, 58]⟩ : ByteArray) (by rw [bstr_size]; omega) rfl
      rw [sbytes_bstr hbc.2] at hbg
      rw [hm, hc] at hv
      cases more with
      | true =>
        have he := (hwd.yes rfl).1
        have hp : pfx wMail (sbytes s) = pfx [102, 114, 111, 109, 58] r := by
          have e2 : sbytes s = (w ++ [32]) ++ r := by rw [he]; simp
          have e3 : wMail = [77, 65, 73, 76, 32] ++ [70, 82, 79, 77, 58] := rfl
          rw [e2, e3, pfx_split (by rw [low_app, hK]; rfl)]
          exact pfx_lower rfl r
        rw [hp] at hv
        cases hq : pfx [102, 114, 111, 109, 58] r with
        | none =>
          have hq' : pfx (sbytes (⟨#[102, 114, 111, 109, 58]⟩ : ByteArray)) r = none := hq
          rw [hq'] at hbg
          rw [hq] at hv
          exact r501 (bndL hnot (cnd_f rfl (cnd_t (ye (by rw [hK]; rfl)) (bnd hbg (bndL (s := false) (cnd_t (by rw [hbare]; rfl) rfl) (cnd_f rfl rfl)))))) hv
        | some x =>
          have hq' : pfx (sbytes (⟨#[102, 114, 111, 109, 58]⟩ : ByteArray)) r = some x := hq
          rw [hq'] at hbg
          rw [hq, Option.bind_some] at hv
          obtain ⟨a, ea, _, _⟩ := pfx_some hq
          have hbx : byt x := fun y hy => hbc.2 y (by rw [ea]; exact List.mem_append_right _ hy)
          have hlx : x.length ≤ 510 := by rw [ea, List.length_append] at hrl; omega
          have hpa := rpathed_eq 2 x hbx (by omega)
          exact rok (bndL hnot (cnd_f rfl (cnd_t (ye (by rw [hK]; rfl)) (bnd hbg (bndL (s := true) (cnd_t (by rw [hbare]; rfl) rfl) (cnd_t rfl (bnd hpa rfl))))))) hv
      | false =>
        have he := (hwd.no rfl).1
        have hp : pfx wMail (sbytes s) = none := pfx_short (by rw [he, hw4]; decide)
        rw [hp] at hv
        exact r501 (bndL hnot (cnd_f rfl (cnd_t (ye (by rw [hK]; rfl)) (bnd hbg (bndL (s := false) (cnd_f (by rw [hbare]; rfl) rfl) (cnd_f rfl rfl)))))) hv
    · -- rcpt
      have hm : mechB (sbytes s) = false := hnoAuth (by rw [hK]; decide)
      have hc : cmdL (sbytes s) = (pfx wRcpt (sbytes s)).bind (boxedL 3) := by
        unfold cmdL; rw [hX hk]; rfl
      have hbg := begins_eq (bstr r) (⟨#[116, 111, 58]⟩ : ByteArray) (by rw [bstr_size]; omega) rfl
      rw [sbytes_bstr hbc.2] at hbg
      rw [hm, hc] at hv
      cases more with
      | true =>
        have he := (hwd.yes rfl).1
        have hp : pfx wRcpt (sbytes s) = pfx [116, 111, 58] r := by
          have e2 : sbytes s = (w ++ [32]) ++ r := by rw [he]; simp
          have e3 : wRcpt = [82, 67, 80, 84, 32] ++ [84, 79, 58] := rfl
          rw [e2, e3, pfx_split (by rw [low_app, hK]; rfl)]
          exact pfx_lower rfl r
        rw [hp] at hv
        cases hq : pfx [116, 111, 58] r with
        | none =>
          have hq' : pfx (sbytes (⟨#[116, 111, 58]⟩ : ByteArray)) r = none := hq
          rw [hq'] at hbg
          rw [hq] at hv
          exact r501 (bndL hnot (cnd_f rfl (cnd_f (no (by rw [hK]; rfl)) (cnd_t (ye (by rw [hK]; rfl)) (bnd hbg (bndL (s := false) (cnd_t (by rw [hbare]; rfl) rfl) (cnd_f rfl rfl))))))) hv
        | some x =>
          have hq' : pfx (sbytes (⟨#[116, 111, 58]⟩ : ByteArray)) r = some x := hq
          rw [hq'] at hbg
          rw [hq, Option.bind_some] at hv
          obtain ⟨a, ea, _, _⟩ := pfx_some hq
          have hbx : byt x := fun y hy => hbc.2 y (by rw [ea]; exact List.mem_append_right _ hy)
          have hlx : x.length ≤ 510 := by rw [ea, List.length_append] at hrl; omega
          have hpa := rpathed_eq 3 x hbx (by omega)
          exact rok (bndL hnot (cnd_f rfl (cnd_f (no (by rw [hK]; rfl)) (cnd_t (ye (by rw [hK]; rfl)) (bnd hbg (bndL (s := true) (cnd_t (by rw [hbare]; rfl) rfl) (cnd_t rfl (bnd hpa rfl)))))))) hv
      | false =>
        have he := (hwd.no rfl).1
        have hp : pfx wRcpt (sbytes s) = none := pfx_short (by rw [he, hw4]; decide)
        rw [hp] at hv
        exact r501 (bndL hnot (cnd_f rfl (cnd_f (no (by rw [hK]; rfl)) (cnd_t (ye (by rw [hK]; rfl)) (bnd hbg (bndL (s := false) (cnd_f (by rw [hbare]; rfl) rfl) (cnd_f rfl rfl))))))) hv
    · -- data
      have hm : mechB (sbytes s) = false := hnoAuth (by rw [hK]; decide)
      have hc : cmdL (sbytes s) = if more = true then none else some ⟨4, e0, noP, []⟩ := by
        unfold cmdL; rw [hX hk, hcut]; rfl
      rw [hm, hc] at hv
      cases more with
      | true => exact r501 (bndL hnot (cnd_f rfl (cnd_f (no (by rw [hK]; rfl)) (cnd_f (no (by rw [hK]; rfl)) (bndL (s := true) (cnd_t (ye (by rw [hK]; rfl)) (by rw [ye (by rw [hK]; rfl)])) (cnd_t rfl (cnd_f (by rw [hbare]; rfl) rfl))))))) hv
      | false => exact rok (bndL hnot (cnd_f rfl (cnd_f (no (by rw [hK]; rfl)) (cnd_f (no (by rw [hK]; rfl)) (bndL (s := true) (cnd_t (ye (by rw [hK]; rfl)) (by rw [ye (by rw [hK]; rfl)])) (cnd_t rfl (cnd_t (by rw [hbare]; rfl) (bndL (s := 4) (cnd_f (no (by rw [hK]; rfl)) (cnd_f (no (by rw [hK]; rfl)) rfl)) rfl)))))))) hv
    · -- rset
      have hm : mechB (sbytes s) = false := hnoAuth (by rw [hK]; decide)
      have hc : cmdL (sbytes s) = if more = true then none else some ⟨5, e0, noP, []⟩ := by
        unfold cmdL; rw [hX hk, hcut]; rfl
      rw [hm, hc] at hv
      cases more with
      | true => exact r501 (bndL hnot (cnd_f rfl (cnd_f (no (by rw [hK]; rfl)) (cnd_f (no (by rw [hK]; rfl)) (bndL (s := true) (cnd_f (no (by rw [hK]; rfl)) (cnd_t (ye (by rw [hK]; rfl)) (by rw [ye (by rw [hK]; rfl)]))) (cnd_t rfl (cnd_f (by rw [hbare]; rfl) rfl))))))) hv
      | false => exact rok (bndL hnot (cnd_f rfl (cnd_f (no (by rw [hK]; rfl)) (cnd_f (no (by rw [hK]; rfl)) (bndL (s := true) (cnd_f (no (by rw [hK]; rfl)) (cnd_t (ye (by rw [hK]; rfl)) (by rw [ye (by rw [hK]; rfl)]))) (cnd_t rfl (cnd_t (by rw [hbare]; rfl) (bndL (s := 5) (cnd_t (ye (by rw [hK]; rfl)) rfl) rfl)))))))) hv
    · -- quit
      have hm : mechB (sbytes s) = false := hnoAuth (by rw [hK]; decide)
      have hc : cmdL (sbytes s) = if more = true then none else some ⟨8, e0, noP, []⟩ := by
        unfold cmdL; rw [hX hk, hcut]; rfl
      rw [hm, hc] at hv
      cases more with
      | true => exact r501 (bndL hnot (cnd_f rfl (cnd_f (no (by rw [hK]; rfl)) (cnd_f (no (by rw [hK]; rfl)) (bndL (s := true) (cnd_f (no (by rw [hK]; rfl)) (cnd_f (no (by rw [hK]; rfl)) (by rw [ye (by rw [hK]; rfl)]))) (cnd_t rfl (cnd_f (by rw [hbare]; rfl) rfl))))))) hv
      | false => exact rok (bndL hnot (cnd_f rfl (cnd_f (no (by rw [hK]; rfl)) (cnd_f (no (by rw [hK]; rfl)) (bndL (s := true) (cnd_f (no (by rw [hK]; rfl)) (cnd_f (no (by rw [hK]; rfl)) (by rw [ye (by rw [hK]; rfl)]))) (cnd_t rfl (cnd_t (by rw [hbare]; rfl) (bndL (s := 8) (cnd_f (no (by rw [hK]; rfl)) (cnd_t (ye (by rw [hK]; rfl)) rfl)) rfl)))))))) hv
    all_goals
      have hnot3 : ∀ {R : Type}, (cond (((lowS (bstr w)).toList == (⟨#[100, 97, 116, 97]⟩ : ByteArray).toList))
                                (some (.inl (((lowS (bstr w)).toList == (⟨#[100, 97, 116, 97]⟩ : ByteArray).toList))))
                                (cond (((lowS (bstr w)).toList == (⟨#[114, 115, 101, 116]⟩ : ByteArray).toList))
                                  (some (.inl (((lowS (bstr w)).toList == (⟨#[114, 115, 101, 116]⟩ : ByteArray).toList))))
                                  (some (.inl (((lowS (bstr w)).toList == (⟨#[113, 117, 105, 116]⟩ : ByteArray).toList))))) : Option (Bool ⊕ R)) = some (.inl false) := by
        intro R
        exact cnd_f (no (by rw [hK]; rfl)) (cnd_f (no (by rw [hK]; rfl)) (by rw [no (by rw [hK]; rfl)]))
    · -- noop
      have hm : mechB (sbytes s) = false := hnoAuth (by rw [hK]; decide)
      have hc : cmdL (sbytes s) = some ⟨7, e0, noP, []⟩ := by
        unfold cmdL; rw [hX hk]; rfl
      rw [hm, hc] at hv
      exact rok (bndL hnot (cnd_f rfl (cnd_f (no (by rw [hK]; rfl)) (cnd_f (no (by rw [hK]; rfl)) (bndL hnot3 (cnd_f rfl (cnd_t (ye (by rw [hK]; rfl)) rfl))))))) hv
    · -- vrfy
      have hm : mechB (sbytes s) = false := hnoAuth (by rw [hK]; decide)
      have hc : cmdL (sbytes s) = if r = [] then none else some ⟨6, bstr r, noP, []⟩ := by
        unfold cmdL; rw [hX hk, hcut]; rfl
      rw [hm, hc] at hv
      by_cases hr : r = []
      · rw [if_pos hr] at hv
        rw [decide_eq_true hr] at hrem
        refine r501 (bndL hnot (cnd_f rfl (cnd_f (no (by rw [hK]; rfl)) (cnd_f (no (by rw [hK]; rfl)) (bndL hnot3 (cnd_f rfl (cnd_f (no (by rw [hK]; rfl)) (cnd_t (ye (by rw [hK]; rfl)) (bndL (s := false) ?_ (cnd_f rfl rfl)))))))))) hv
        cases more with
        | true => exact cnd_t (by rw [hbare]; rfl) (by rw [hrem]; rfl)
        | false => exact cnd_f (by rw [hbare]; rfl) rfl
      · rw [if_neg hr] at hv
        rw [decide_eq_false hr] at hrem
        cases more with
        | true => exact rok (bndL hnot (cnd_f rfl (cnd_f (no (by rw [hK]; rfl)) (cnd_f (no (by rw [hK]; rfl)) (bndL hnot3 (cnd_f rfl (cnd_f (no (by rw [hK]; rfl)) (cnd_t (ye (by rw [hK]; rfl)) (bndL (s := true) (cnd_t (by rw [hbare]; rfl) (by rw [hrem]; rfl)) (cnd_t rfl rfl)))))))))) hv
        | false => exact absurd (hwd.no rfl).2.2 hr
    · -- etrn
      have hm : mechB (sbytes s) = false := hnoAuth (by rw [hK]; decide)
      have hc : cmdL (sbytes s) = if domB r then some ⟨9, bstr r, noP, []⟩ else none := by
        unfold cmdL; rw [hX hk, hcut]; rfl
      rw [hm, hc] at hv
      cases more with
      | true =>
        cases hd : domB r with
        | true =>
          rw [hd] at hdom hv
          exact rok (bndL hnot (cnd_f rfl (cnd_f (no (by rw [hK]; rfl)) (cnd_f (no (by rw [hK]; rfl)) (bndL hnot3 (cnd_f rfl (cnd_f (no (by rw [hK]; rfl)) (cnd_f (no (by rw [hK]; rfl)) (cnd_t (ye (by rw [hK]; rfl)) (bndL (s := true) (cnd_t (by rw [hbare]; rfl) (bnd hdom rfl)) (cnd_t rfl rfl))))))))))) hv
        | false =>
          rw [hd] at hdom hv
          exact r501 (bndL hnot (cnd_f rfl (cnd_f (no (by rw [hK]; rfl)) (cnd_f (no (by rw [hK]; rfl)) (bndL hnot3 (cnd_f rfl (cnd_f (no (by rw [hK]; rfl)) (cnd_f (no (by rw [hK]; rfl)) (cnd_t (ye (by rw [hK]; rfl)) (bndL (s := false) (cnd_t (by rw [hbare]; rfl) (bnd hdom rfl)) (cnd_f rfl rfl))))))))))) hv
      | false =>
        have hr := (hwd.no rfl).2.2
        rw [hr] at hv
        exact r501 (bndL hnot (cnd_f rfl (cnd_f (no (by rw [hK]; rfl)) (cnd_f (no (by rw [hK]; rfl)) (bndL hnot3 (cnd_f rfl (cnd_f (no (by rw [hK]; rfl)) (cnd_f (no (by rw [hK]; rfl)) (cnd_t (ye (by rw [hK]; rfl)) (bndL (s := false) (cnd_f (by rw [hbare]; rfl) rfl) (cnd_f rfl rfl))))))))))) hv
    · -- auth
      have hc : cmdL (sbytes s) = if lowL r = lowL wCram then some ⟨10, e0, noP, []⟩ else none := by
        unfold cmdL; rw [hX hk, hcut]; rfl
      have hf := rfold_eq (bstr r) (by rw [bstr_size]; omega)
      have hfe : ((lowS (bstr r)).toList == (⟨#[99, 114, 97, 109, 45, 109, 100, 53]⟩ : ByteArray).toList) = decide (lowL r = lowL wCram) := by
        rw [eqL, sbytes_low, sbytes_bstr hbc.2]; rfl
      have hmc := rmech_eq (bstr r) (by rw [bstr_size]; omega)
      rw [sbytes_bstr hbc.2] at hmc
      rw [hmech, hc, decide_eq_true hK, Bool.true_and] at hv
      by_cases hcr : lowL r = lowL wCram
      · rw [decide_eq_true hcr] at hfe
        rw [if_pos hcr, decide_eq_false (by simp [hcr])] at hv
        rw [Bool.false_and, Bool.and_false] at hv
        exact rok (bndL hnot (cnd_f rfl (cnd_f (no (by rw [hK]; rfl)) (cnd_f (no (by rw [hK]; rfl)) (bndL hnot3 (cnd_f rfl (cnd_f (no (by rw [hK]; rfl)) (cnd_f (no (by rw [hK]; rfl)) (cnd_f (no (by rw [hK]; rfl)) (cnd_t (ye (by rw [hK]; rfl)) (bnd hf (cnd_t hfe rfl)))))))))))) hv
      · rw [decide_eq_false hcr] at hfe
        rw [if_neg hcr, decide_eq_true hcr, Bool.true_and] at hv
        cases hmm : (r.all lbB && !r.isEmpty) with
        | true =>
          rw [hmm] at hmc
          rw [Bool.and_comm, hmm] at hv
          exact rok (bndL hnot (cnd_f rfl (cnd_f (no (by rw [hK]; rfl)) (cnd_f (no (by rw [hK]; rfl)) (bndL hnot3 (cnd_f rfl (cnd_f (no (by rw [hK]; rfl)) (cnd_f (no (by rw [hK]; rfl)) (cnd_f (no (by rw [hK]; rfl)) (cnd_t (ye (by rw [hK]; rfl)) (bnd hf (cnd_f hfe (bnd hmc (cnd_t rfl rfl)))))))))))))) hv
        | false =>
          rw [hmm] at hmc
          rw [Bool.and_comm, hmm] at hv
          exact r501 (bndL hnot (cnd_f rfl (cnd_f (no (by rw [hK]; rfl)) (cnd_f (no (by rw [hK]; rfl)) (bndL hnot3 (cnd_f rfl (cnd_f (no (by rw [hK]; rfl)) (cnd_f (no (by rw [hK]; rfl)) (cnd_f (no (by rw [hK]; rfl)) (cnd_t (ye (by rw [hK]; rfl)) (bnd hf (cnd_f hfe (bnd hmc (cnd_f rfl rfl)))))))))))))) hv
    · -- atrn
      have hm : mechB (sbytes s) = false := hnoAuth (by rw [hK]; decide)
      have hc : cmdL (sbytes s) = if more = true ∧ domB r = false then none else some ⟨11, bstr r, noP, []⟩ := by
        unfold cmdL; rw [hX hk, hcut]; rfl
      rw [hm, hc] at hv
      cases more with
      | true =>
        cases hd : domB r with
        | true =>
          rw [hd] at hdom hv
          exact rok (bndL hnot (cnd_f rfl (cnd_f (no (by rw [hK]; rfl)) (cnd_f (no (by rw [hK]; rfl)) (bndL hnot3 (cnd_f rfl (cnd_f (no (by rw [hK]; rfl)) (cnd_f (no (by rw [hK]; rfl)) (cnd_f (no (by rw [hK]; rfl)) (cnd_f (no (by rw [hK]; rfl)) (cnd_t (ye (by rw [hK]; rfl)) (cnd_f (by rw [hbare]; rfl) (bnd hdom (cnd_t rfl rfl)))))))))))))) hv
        | false =>
          rw [hd] at hdom hv
          exact r501 (bndL hnot (cnd_f rfl (cnd_f (no (by rw [hK]; rfl)) (cnd_f (no (by rw [hK]; rfl)) (bndL hnot3 (cnd_f rfl (cnd_f (no (by rw [hK]; rfl)) (cnd_f (no (by rw [hK]; rfl)) (cnd_f (no (by rw [hK]; rfl)) (cnd_f (no (by rw [hK]; rfl)) (cnd_t (ye (by rw [hK]; rfl)) (cnd_f (by rw [hbare]; rfl) (bnd hdom (cnd_f rfl rfl)))))))))))))) hv
      | false =>
        have hr := (hwd.no rfl).2.2
        rw [hr] at hv
        exact rok (bndL hnot (cnd_f rfl (cnd_f (no (by rw [hK]; rfl)) (cnd_f (no (by rw [hK]; rfl)) (bndL hnot3 (cnd_f rfl (cnd_f (no (by rw [hK]; rfl)) (cnd_f (no (by rw [hK]; rfl)) (cnd_f (no (by rw [hK]; rfl)) (cnd_f (no (by rw [hK]; rfl)) (cnd_t (ye (by rw [hK]; rfl)) (cnd_t (by rw [hbare]; rfl) rfl)))))))))))) hv
  · have hall : (sbytes s).all prB = false := all_iff_false (by rw [hl]; exact hpr)
    rw [if_neg hpr] at hloop
    have hv : vparse (sbytes s) = (noC, 500) := by
      unfold vparse; rw [if_pos (.inr (.inl hall))]
    rw [hv]
    exact bndR hloop rfl
end Go.Abs.Sh
