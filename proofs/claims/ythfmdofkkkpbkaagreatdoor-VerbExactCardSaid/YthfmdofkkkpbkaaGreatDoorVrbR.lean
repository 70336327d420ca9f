import Derived.Test.YthfmdofkkkpbkaaGreatDoorVrbQ
namespace Go.Abs.Sh
set_option linter.unusedVariables false
set_option linter.unusedSimpArgs false
set_option maxRecDepth 100000
theorem bor {R : Type} (k a b : Int) : (cond (k == a) (some (.inl (k == a))) (some (.inl (k == b))) : Option (Bool ⊕ R)) = some (.inl (decide (k = a ∨ k = b))) := by
  rw [Bool.decide_or]
  by_cases h : k = a
  · rw [beq_iff_eq.2 h, decide_eq_true h]; rfl
  · rw [beq_eq_false_iff_ne.2 h, decide_eq_false h]
    by_cases h2 : k = b
    · rw [beq_iff_eq.2 h2, decide_eq_true h2]; rfl
    · rw [beq_eq_false_iff_ne.2 h2, decide_eq_false h2]; rfl
theorem command_eq (l : List Int) (hb : byt l) (hl : l.length < 10000) : ∃ c, verb_command (bstr l) = some (c, (cmdL l).isSome) ∧ ∀ x, cmdL l = some x → c = x := by
  unfold verb_command
  have hc := cutW_eq (n := 32) (by decide) (bstr l) (by rw [bstr_size]; omega)
  have hk := kindOf_eq (bstr l) (by rw [bstr_size]; omega)
  rw [sbytes_bstr hb] at hc hk
  replace hc : strings_Cut (bstr l) (⟨#[32]⟩ : ByteArray) = some (bstr (cutW 32 l).1, bstr (cutW 32 l).2.1, (cutW 32 l).2.2) := hc
  have hbc := byt_cut 32 hb
  have hcl := cutW_len 32 l
  have hd := dom_eq (bstr (cutW 32 l).2.1) (by rw [bstr_size]; omega)
  rw [sbytes_bstr hbc.2] at hd
  have hcram := eqFold_eq (bstr (cutW 32 l).2.1) (⟨#[67, 82, 65, 77, 45, 77, 68, 53]⟩ : ByteArray) (by rw [bstr_size]; omega) (by decide)
  rw [sbytes_bstr hbc.2, show sbytes (⟨#[67, 82, 65, 77, 45, 77, 68, 53]⟩ : ByteArray) = wCram from rfl] at hcram
  have hemp : ((bstr (cutW 32 l).2.1).toList == (⟨#[]⟩ : ByteArray).toList) = decide ((cutW 32 l).2.1 = []) := by
    rw [eqL, sbytes_bstr hbc.2]; rfl
  obtain ⟨pc, hpc, hpx⟩ := pathCmd_eq (kindL l) l hb hl
  unfold cmdL
  simp only
  generalize kindL l = k at hk hpc hpx
  by_cases h1 : k = 2 ∨ k = 3
  · have g1 := bor (R := T_Cmd × Bool) k 2 3
    rw [decide_eq_true h1] at g1
    rw [if_pos h1]
    exact ⟨pc, bnd hc (bnd hk (bndL g1 (cnd_t rfl (bnd hpc rfl)))), hpx⟩
  have g1 := bor (R := T_Cmd × Bool) k 2 3
  rw [decide_eq_false h1] at g1
  rw [if_neg h1]
  by_cases h2 : k = 1 ∨ k = 9
  · have g2 := bor (R := T_Cmd × Bool) k 1 9
    rw [decide_eq_true h2] at g2
    rw [if_pos h2]
    refine ⟨⟨k, bstr (cutW 32 l).2.1, noP, []⟩, bnd hc (bnd hk (bndL g1 (cnd_f rfl (bndL g2 (cnd_t rfl (bnd hd ?_)))))), fun x hx => ?_⟩
    · cases domB (cutW 32 l).2.1 <;> rfl
    · split at hx
      · cases hx; rfl
      · cases hx
  have g2 := bor (R := T_Cmd × Bool) k 1 9
  rw [decide_eq_false h2] at g2
  rw [if_neg h2]
  by_cases h3 : k = 6
  · rw [if_pos h3]
    refine ⟨⟨k, bstr (cutW 32 l).2.1, noP, []⟩, bnd hc (bnd hk (bndL g1 (cnd_f rfl (bndL g2 (cnd_f rfl (cnd_t (beq_iff_eq.2 h3) ?_)))))), fun x hx => ?_⟩
    · simp only [hemp]
      by_cases he : (cutW 32 l).2.1 = []
      · rw [decide_eq_true he, if_pos he]; rfl
      · rw [decide_eq_false he, if_neg he]; rfl
    · split at hx
      · cases hx
      · cases hx; rfl
  rw [if_neg h3]
  have f3 : (k == 6) = false := beq_eq_false_iff_ne.2 h3
  by_cases h4 : k = 11
  · rw [if_pos h4]
    refine ⟨⟨k, bstr (cutW 32 l).2.1, noP, []⟩, bnd hc (bnd hk (bndL g1 (cnd_f rfl (bndL g2 (cnd_f rfl (cnd_f f3 (cnd_t (beq_iff_eq.2 h4) ?_))))))), fun x hx => ?_⟩
    · cases hm : (cutW 32 l).2.2 with
      | false => exact bndL (s := true) (cnd_t rfl rfl) rfl
      | true =>
        refine bndL (s := domB (cutW 32 l).2.1) (cnd_f rfl (bnd hd rfl)) ?_
        cases domB (cutW 32 l).2.1 <;> rfl
    · split at hx
      · cases hx
      · cases hx; rfl
  rw [if_neg h4]
  have f4 : (k == 11) = false := beq_eq_false_iff_ne.2 h4
  by_cases h5 : k = 10
  · rw [if_pos h5]
    refine ⟨⟨k, e0, noP, []⟩, bnd hc (bnd hk (bndL g1 (cnd_f rfl (bndL g2 (cnd_f rfl (cnd_f f3 (cnd_f f4 (cnd_t (beq_iff_eq.2 h5) (bnd hcram ?_))))))))), fun x hx => ?_⟩
    · by_cases he : lowL (cutW 32 l).2.1 = lowL wCram
      · rw [decide_eq_true he, if_pos he]; rfl
      · rw [decide_eq_false he, if_neg he]; rfl
    · split at hx
      · cases hx; rfl
      · cases hx
  rw [if_neg h5]
  have f5 : (k == 10) = false := beq_eq_false_iff_ne.2 h5
  by_cases h6 : k = 7
  · rw [if_pos h6]
    exact ⟨⟨k, e0, noP, []⟩, bnd hc (bnd hk (bndL g1 (cnd_f rfl (bndL g2 (cnd_f rfl (cnd_f f3 (cnd_f f4 (cnd_f f5 (cnd_t (beq_iff_eq.2 h6) rfl))))))))), fun x hx => by cases hx; rfl⟩
  rw [if_neg h6]
  have f6 : (k == 7) = false := beq_eq_false_iff_ne.2 h6
  refine ⟨⟨k, e0, noP, []⟩, bnd hc (bnd hk (bndL g1 (cnd_f rfl (bndL g2 (cnd_f rfl (cnd_f f3 (cnd_f f4 (cnd_f f5 (cnd_f f6 ?_))))))))), fun x hx => ?_⟩
  · cases hm : (cutW 32 l).2.2 with
    | true => rfl
    | false => rfl
  · split at hx
    · cases hx
    · cases hx; rfl
theorem vlong {l : List Int} (h : 510 < l.length) : vparse l = (noC, 500) := by
  unfold vparse; rw [if_pos (.inl h)]
theorem parse_L (l : List Int) (hb : byt l) : verb_Parse (bstr l) = some (vparse l) := by
  by_cases hlen : 510 < l.length
  · rw [vlong hlen]
    unfold verb_Parse
    exact bndL (s := true) (cnd_t (decide_eq_true (by rw [bstr_size]; omega)) rfl) (cnd_t rfl rfl)
  unfold verb_Parse vparse
  have g0 : decide (510 < ((bstr l).size : Int)) = false := decide_eq_false (by rw [bstr_size]; omega)
  have hp := print_eq l hb (by omega)
  cases hpr : l.all prB with
  | false =>
    rw [if_pos (.inr (.inl rfl))]
    rw [hpr] at hp
    exact bndL (s := true) (cnd_f g0 (bnd hp (cnd_t rfl rfl))) (cnd_t rfl rfl)
  | true =>
    rw [hpr] at hp
    have hk := kindOf_eq (bstr l) (by rw [bstr_size]; omega)
    have hm := mech_eq (bstr l) (by rw [bstr_size]; omega)
    rw [sbytes_bstr hb] at hk hm
    by_cases hk0 : kindL l = 0
    · rw [if_pos (.inr (.inr hk0))]
      exact bndL (s := true) (cnd_f g0 (bnd hp (cnd_f rfl (bnd hk (by rw [beq_iff_eq.2 hk0]))))) (cnd_t rfl rfl)
    · rw [if_neg (by rintro (h | h | h) <;> first | omega | cases h | exact hk0 h)]
      refine bndL (s := false) (cnd_f g0 (bnd hp (cnd_f rfl (bnd hk (by rw [beq_eq_false_iff_ne.2 hk0]))))) (cnd_f rfl (bnd hm ?_))
      cases mechB l with
      | true => exact cnd_t rfl rfl
      | false =>
        obtain ⟨c, hc, hx⟩ := command_eq l hb (by omega)
        refine cnd_f rfl (bnd hc ?_)
        cases hcm : cmdL l with
        | none => exact cnd_t rfl rfl
        | some x =>
          rw [hx x hcm]
          exact cnd_f rfl rfl
theorem parse_S (s : ByteArray) : verb_Parse s = some (vparse (sbytes s)) := by
  have := parse_L (sbytes s) (byt_sbytes s)
  rwa [bstr_sbytes] at this
theorem vparse_code (l : List Int) : ((vparse l).2 ≠ 0 → (vparse l).1 = noC ∧ ((vparse l).2 = 500 ∨ (vparse l).2 = 501 ∨ (vparse l).2 = 504)) := by
  unfold vparse
  split
  · exact fun _ => ⟨rfl, .inl rfl⟩
  · split
    · exact fun _ => ⟨rfl, .inr (.inr rfl)⟩
    · split
      · exact fun _ => ⟨rfl, .inr (.inl rfl)⟩
      · exact fun h => absurd rfl h
end Go.Abs.Sh
