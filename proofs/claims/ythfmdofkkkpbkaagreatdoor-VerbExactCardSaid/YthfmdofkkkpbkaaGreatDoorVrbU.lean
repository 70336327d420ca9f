import Derived.Test.YthfmdofkkkpbkaaGreatDoorVrbT
namespace Go.Abs.Sh
set_option linter.unusedVariables false
set_option linter.unusedSimpArgs false
set_option maxRecDepth 100000
theorem vmk {w L : List Int} {k : Int} {c : T_Cmd} (hl : w.length = 4) (hw : w.all prB = true) (h32 : (32 : Int) ∉ w) (hk : kindW (lowL w) = k) (hk0 : k ≠ 0) (hm : lowL (w ++ [32]) ≠ lowL wAuth)
    (hL : L.length ≤ 505) (hp : L.all prB = true) (hc : cmdL (w ++ 32 :: L) = some c) : vparse (w ++ 32 :: L) = (c, 0) := by
  refine vparse_ok ?_ ?_ ?_ ?_ hc
  · simp; omega
  · rw [List.all_append, hw, List.all_cons, hp]; rfl
  · rw [kind_app h32, hk]; exact hk0
  · have e : w ++ 32 :: L = (w ++ [32]) ++ L := by simp
    rw [e]
    exact mech_no (by simp [hl]) hm
theorem byt_pr {l : List Int} (h : l.all prB = true) : byt l := fun x hx => by
  have := List.all_eq_true.1 h x hx
  simp only [prB, Bool.and_eq_true, decide_eq_true_eq] at this
  omega
theorem sb_pr {l : List Int} (h : l.all prB = true) : sbytes (bstr l) = l := sbytes_bstr (byt_pr h)
theorem kind_cases (k : Int) (w : List Int) (h : kindW w = k) (h0 : k ≠ 0) :
    (k = 1 ∧ (w = [101, 104, 108, 111] ∨ w = [104, 101, 108, 111])) ∨ (k = 2 ∧ w = [109, 97, 105, 108]) ∨ (k = 3 ∧ w = [114, 99, 112, 116]) ∨ (k = 4 ∧ w = [100, 97, 116, 97]) ∨ (k = 5 ∧ w = [114, 115, 101, 116]) ∨ (k = 8 ∧ w = [113, 117, 105, 116]) ∨ (k = 7 ∧ w = [110, 111, 111, 112]) ∨ (k = 6 ∧ w = [118, 114, 102, 121]) ∨ (k = 9 ∧ w = [101, 116, 114, 110]) ∨ (k = 10 ∧ w = [97, 117, 116, 104]) ∨ (k = 11 ∧ w = [97, 116, 114, 110]) := by
  unfold kindW at h
  split at h; · rename_i e; exact .inl ⟨h.symm, e⟩
  refine .inr ?_
  split at h; · rename_i e; exact .inl ⟨h.symm, e⟩
  refine .inr ?_
  split at h; · rename_i e; exact .inl ⟨h.symm, e⟩
  refine .inr ?_
  split at h; · rename_i e; exact .inl ⟨h.symm, e⟩
  refine .inr ?_
  split at h; · rename_i e; exact .inl ⟨h.symm, e⟩
  refine .inr ?_
  split at h; · rename_i e; exact .inl ⟨h.symm, e⟩
  refine .inr ?_
  split at h; · rename_i e; exact .inl ⟨h.symm, e⟩
  refine .inr ?_
  split at h; · rename_i e; exact .inl ⟨h.symm, e⟩
  refine .inr ?_
  split at h; · rename_i e; exact .inl ⟨h.symm, e⟩
  refine .inr ?_
  split at h; · rename_i e; exact .inl ⟨h.symm, e⟩
  refine .inr ?_
  split at h; · rename_i e; exact ⟨h.symm, e⟩
  exact absurd h.symm h0
theorem fmt1 (t : ByteArray) (p : T_Path) (ps : List T_Param) : fmtL ⟨1, t, p, ps⟩ = [69, 72, 76, 79] ++ 32 :: sbytes t := rfl
theorem fmt23 {k : Int} (hk : k = 2 ∨ k = 3) (t : ByteArray) (p : T_Path) (ps : List T_Param) (hp : patB p = true) : fmtL ⟨k, t, p, ps⟩ = openW k ++ (txtL p ++ fmtP ps) := by
  have e : fmtL ⟨k, t, p, ps⟩ = openW k ++ (cond (patB p) (txtL p) [] ++ fmtP ps) := by
    rcases hk with rfl | rfl <;> rfl
  rw [e, hp]; rfl
theorem fmt6 (t : ByteArray) (p : T_Path) (ps : List T_Param) : fmtL ⟨6, t, p, ps⟩ = [86, 82, 70, 89] ++ 32 :: sbytes t := rfl
theorem fmt9 (t : ByteArray) (p : T_Path) (ps : List T_Param) : fmtL ⟨9, t, p, ps⟩ = [69, 84, 82, 78] ++ 32 :: sbytes t := rfl
theorem fmt11 (t : ByteArray) (p : T_Path) (ps : List T_Param) : fmtL ⟨11, t, p, ps⟩ = if sbytes t = [] then [65, 84, 82, 78] else [65, 84, 82, 78] ++ 32 :: sbytes t := rfl
theorem boxed_ok {k : Int} {r : List Int} {c : T_Cmd} (hr : r.all prB = true) (h : boxedL k r = some c) :
    ∃ p ps q, c = ⟨k, e0, p, ps⟩ ∧ patB p = true ∧ boxedL k (txtL p ++ fmtP ps) = some c ∧ (txtL p ++ fmtP ps).length = r.length ∧ (txtL p ++ fmtP ps).all prB = true ∧ q = e0 := by
  unfold boxedL at h
  cases hi : idx1 62 r with
  | none => rw [hi] at h; cases h
  | some e =>
    rw [hi] at h
    simp only at h
    have hs := idx1_some hi
    cases hp : parL (r.take (e + 1)) with
    | none => rw [hp] at h; cases h
    | some p =>
      rw [hp] at h
      simp only at h
      split at h
      · cases h
      · rename_i hn
        cases hps : parsL k (r.drop (e + 1)) with
        | none => rw [hps] at h; cases h
        | some ps =>
          rw [hps] at h
          cases h
          have hrt : (r.take (e + 1)).all prB = true := List.all_eq_true.2 fun x hx => List.all_eq_true.1 hr x (List.mem_of_mem_take hx)
          have ht := txt_par (byt_pr hrt) hp
          have hps2 := pars_ok hps
          have htk : r.take (e + 1) = r.take e ++ [62] := by
            have h2 := hs.2.1
            have hlt : e < r.length := by omega
            rw [List.take_add_one, List.getElem?_eq_getElem hlt]
            have : r[e] = 62 := by
              have h3 : r.drop e = 62 :: r.drop (e + 1) := by
                have h4 : (r.take e ++ 62 :: r.drop (e + 1)).drop e = 62 :: r.drop (e + 1) := List.drop_left' (by rw [List.length_take]; omega)
                rw [← h2] at h4; exact h4
              rw [List.drop_eq_getElem_cons hlt] at h3
              exact (List.cons.inj h3).1
            rw [this]; rfl
          refine ⟨p, ps, e0, rfl, ht.2, ?_, ?_, ?_, rfl⟩
          · rw [ht.1]
            unfold boxedL
            have e1 : r.take (e + 1) ++ fmtP ps = r.take e ++ 62 :: fmtP ps := by rw [htk]; simp
            have hl : (r.take e).length = e := by rw [List.length_take]; omega
            have hl1 : (r.take (e + 1)).length = e + 1 := by rw [List.length_take]; omega
            rw [e1, idx1_app hs.2.2, hl, ← e1]
            simp only
            rw [List.take_left' hl1, List.drop_left' hl1, hp]
            simp only
            rw [if_neg hn, hps2.1]
          · rw [ht.1, List.length_append, hps2.2.1, List.length_take, List.length_drop]; omega
          · rw [ht.1, List.all_append, hrt, hps2.2.2]; rfl
theorem cmd_path {k : Int} (hk : k = 2 ∨ k = 3) {L : List Int} {c : T_Cmd} (h : boxedL k L = some c) : kindL (openW k ++ L) = k ∧ cmdL (openW k ++ L) = some c ∧ mechB (openW k ++ L) = false := by
  have h1 : kindL (openW k ++ L) = k := by
    rcases hk with rfl | rfl
    · exact kind_app (w := [77, 65, 73, 76]) (L := [70, 82, 79, 77, 58] ++ L) (by decide)
    · exact kind_app (w := [82, 67, 80, 84]) (L := [84, 79, 58] ++ L) (by decide)
  refine ⟨h1, ?_, ?_⟩
  · unfold cmdL
    rw [h1]
    simp only
    rw [if_pos hk, pfx_yes rfl]
    exact h
  · rcases hk with rfl | rfl
    · exact mech_no (a := [77, 65, 73, 76, 32]) (L := [70, 82, 79, 77, 58] ++ L) rfl (by decide)
    · exact mech_no (a := [82, 67, 80, 84, 32]) (L := [84, 79, 58] ++ L) rfl (by decide)
theorem back {l : List Int} {c : T_Cmd} (h : vparse l = (c, 0)) : vparse (fmtL c) = (c, 0) ∧ (fmtL c).length ≤ 510 ∧ (c.Kind = 2 ∨ c.Kind = 3 → patB c.Path = true) := by
  obtain ⟨hl, hp, hk0, hm, hc⟩ := vparse_ok' h
  have hb := byt_pr hp
  have hkc := kind_cases _ _ rfl hk0
  have fin : ∀ {L : List Int}, L = fmtL c → vparse L = (c, 0) → L.length ≤ 510 → (c.Kind = 2 ∨ c.Kind = 3 → patB c.Path = true) → vparse (fmtL c) = (c, 0) ∧ (fmtL c).length ≤ 510 ∧ (c.Kind = 2 ∨ c.Kind = 3 → patB c.Path = true) := by
    intro L e h1 h2 h3
    subst e; exact ⟨h1, h2, h3⟩
  have hw4 := kindW_len (w := lowL (cutW 32 l).1) hk0
  rw [low_len] at hw4
  have hrest : (cutW 32 l).2.1.all prB = true ∧ (cutW 32 l).2.1.length + (if (cutW 32 l).2.2 = true then 5 else 4) = l.length := by
    rcases cutW_cases 32 l with ⟨a, b, e, _, h2⟩ | ⟨_, h2⟩
    · rw [h2] at hw4 ⊢
      simp only at hw4 ⊢
      rw [e, List.all_append, List.all_cons] at hp
      simp only [Bool.and_eq_true] at hp
      refine ⟨hp.2.2, ?_⟩
      simp only [if_true, e, List.length_append, List.length_cons]; omega
    · rw [h2] at hw4 ⊢
      simp only at hw4 ⊢
      refine ⟨rfl, ?_⟩
      simp only [Bool.false_eq_true, if_false, List.length_nil]; omega
  obtain ⟨hrp, hrl⟩ := hrest
  change kindL l ≠ 0 at hk0
  have hkl : kindW (lowL (cutW 32 l).1) = kindL l := rfl
  rw [hkl] at hkc
  unfold cmdL at hc
  simp only at hc
  have hL5 : (cutW 32 l).2.1 ≠ [] → (cutW 32 l).2.2 = true := by
    intro hne
    rcases cutW_cases 32 l with ⟨a, b, e, _, h2⟩ | ⟨_, h2⟩
    · rw [h2]
    · rw [h2] at hne; exact absurd rfl hne
  have hL505 : (cutW 32 l).2.1.length ≤ 505 := by
    by_cases hne : (cutW 32 l).2.1 = []
    · rw [hne]; simp
    · have := hL5 hne
      rw [if_pos this] at hrl; omega
  have hsb := sb_pr hrp
  have dec : ∀ {P : Prop} [Decidable P], P → True := fun _ => trivial
  rcases hkc with ⟨hk, _⟩ | ⟨hk, _⟩ | ⟨hk, _⟩ | ⟨hk, _⟩ | ⟨hk, _⟩ | ⟨hk, _⟩ | ⟨hk, _⟩ | ⟨hk, _⟩ | ⟨hk, _⟩ | ⟨hk, _⟩ | ⟨hk, _⟩
  · rw [hk] at hc
    rw [if_neg (by decide), if_pos (by decide)] at hc
    split at hc
    · rename_i hd
      cases hc
      refine fin (L := [69, 72, 76, 79] ++ 32 :: (cutW 32 l).2.1) ?_ ?_ (by simp; omega) (fun h => by rcases h with h | h <;> cases h)
      · rw [fmt1, hsb]
      · refine vmk (k := 1) rfl (by decide) (by decide) (by decide) (by decide) (by decide) hL505 hrp ?_
        unfold cmdL
        rw [kind_app (by decide), cutW_app (by decide)]
        simp only
        exact (if_neg (by decide)).trans ((if_pos (by decide)).trans (if_pos hd))
    · cases hc
  · rw [hk] at hc
    rw [if_pos (by decide)] at hc
    cases hx : pfx (openW 2) l with
    | none => rw [hx] at hc; cases hc
    | some r =>
      rw [hx, Option.bind_some] at hc
      obtain ⟨a, e, hla, hll⟩ := pfx_some hx
      have hra : r.all prB = true := by
        rw [e, List.all_append, Bool.and_eq_true] at hp; exact hp.2
      obtain ⟨p, ps, _, rfl, h1, h2, h3, h4, _⟩ := boxed_ok hra hc
      obtain ⟨g1, g2, g3⟩ := cmd_path (k := 2) (.inl rfl) h2
      have hlen : (openW 2 ++ (txtL p ++ fmtP ps)).length ≤ 510 := by
        rw [List.length_append, h3, ← hll, ← List.length_append, ← e]; exact hl
      refine fin (L := openW 2 ++ (txtL p ++ fmtP ps)) ?_ (vparse_ok hlen ?_ (by rw [g1]; decide) g3 g2) hlen (fun _ => h1)
      · exact (fmt23 (by decide) _ _ _ h1).symm
      · rw [List.all_append, h4]; decide
  · rw [hk] at hc
    rw [if_pos (by decide)] at hc
    cases hx : pfx (openW 3) l with
    | none => rw [hx] at hc; cases hc
    | some r =>
      rw [hx, Option.bind_some] at hc
      obtain ⟨a, e, hla, hll⟩ := pfx_some hx
      have hra : r.all prB = true := by
        rw [e, List.all_append, Bool.and_eq_true] at hp; exact hp.2
      obtain ⟨p, ps, _, rfl, h1, h2, h3, h4, _⟩ := boxed_ok hra hc
      obtain ⟨g1, g2, g3⟩ := cmd_path (k := 3) (.inr rfl) h2
      have hlen : (openW 3 ++ (txtL p ++ fmtP ps)).length ≤ 510 := by
        rw [List.length_append, h3, ← hll, ← List.length_append, ← e]; exact hl
      refine fin (L := openW 3 ++ (txtL p ++ fmtP ps)) ?_ (vparse_ok hlen ?_ (by rw [g1]; decide) g3 g2) hlen (fun _ => h1)
      · exact (fmt23 (by decide) _ _ _ h1).symm
      · rw [List.all_append, h4]; decide
  · rw [hk] at hc
    rw [if_neg (by decide), if_neg (by decide), if_neg (by decide), if_neg (by decide), if_neg (by decide), if_neg (by decide)] at hc
    split at hc
    · cases hc
    · cases hc
      exact fin (L := [68, 65, 84, 65]) rfl (by kernel_rfl) (by decide) (fun h => by rcases h with h | h <;> cases h)
  · rw [hk] at hc
    rw [if_neg (by decide), if_neg (by decide), if_neg (by decide), if_neg (by decide), if_neg (by decide), if_neg (by decide)] at hc
    split at hc
    · cases hc
    · cases hc
      exact fin (L := [82, 83, 69, 84]) rfl (by kernel_rfl) (by decide) (fun h => by rcases h with h | h <;> cases h)
  · rw [hk] at hc
    rw [if_neg (by decide), if_neg (by decide), if_neg (by decide), if_neg (by decide), if_neg (by decide), if_neg (by decide)] at hc
    split at hc
    · cases hc
    · cases hc
      exact fin (L := [81, 85, 73, 84]) rfl (by kernel_rfl) (by decide) (fun h => by rcases h with h | h <;> cases h)
  · rw [hk] at hc
    rw [if_neg (by decide), if_neg (by decide), if_neg (by decide), if_neg (by decide), if_neg (by decide), if_pos (by decide)] at hc
    cases hc
    exact fin (L := [78, 79, 79, 80]) rfl (by kernel_rfl) (by decide) (fun h => by rcases h with h | h <;> cases h)
  · rw [hk] at hc
    rw [if_neg (by decide), if_neg (by decide), if_pos (by decide)] at hc
    split at hc
    · cases hc
    · rename_i hne
      cases hc
      refine fin (L := [86, 82, 70, 89] ++ 32 :: (cutW 32 l).2.1) ?_ ?_ (by simp; omega) (fun h => by rcases h with h | h <;> cases h)
      · rw [fmt6, hsb]
      · refine vmk (k := 6) rfl (by decide) (by decide) (by decide) (by decide) (by decide) hL505 hrp ?_
        unfold cmdL
        rw [kind_app (by decide), cutW_app (by decide)]
        simp only
        exact (if_neg (by decide)).trans ((if_neg (by decide)).trans ((if_pos (by decide)).trans (if_neg hne)))
  · rw [hk] at hc
    rw [if_neg (by decide), if_pos (by decide)] at hc
    split at hc
    · rename_i hd
      cases hc
      refine fin (L := [69, 84, 82, 78] ++ 32 :: (cutW 32 l).2.1) ?_ ?_ (by simp; omega) (fun h => by rcases h with h | h <;> cases h)
      · rw [fmt9, hsb]
      · refine vmk (k := 9) rfl (by decide) (by decide) (by decide) (by decide) (by decide) hL505 hrp ?_
        unfold cmdL
        rw [kind_app (by decide), cutW_app (by decide)]
        simp only
        exact (if_neg (by decide)).trans ((if_pos (by decide)).trans (if_pos hd))
    · cases hc
  · rw [hk] at hc
    rw [if_neg (by decide), if_neg (by decide), if_neg (by decide), if_neg (by decide), if_pos (by decide)] at hc
    split at hc
    · cases hc
      exact fin (L := [65, 85, 84, 72] ++ 32 :: wCram) rfl (by kernel_rfl) (by decide) (fun h => by rcases h with h | h <;> cases h)
    · cases hc
  · rw [hk] at hc
    rw [if_neg (by decide), if_neg (by decide), if_neg (by decide), if_pos (by decide)] at hc
    split at hc
    · cases hc
    · rename_i hne
      cases hc
      by_cases hz : (cutW 32 l).2.1 = []
      · exact fin (L := [65, 84, 82, 78]) (by rw [fmt11, hsb, hz]; rfl) (by rw [hz]; kernel_rfl) (by decide) (fun h => by rcases h with h | h <;> cases h)
      · have hd : domB (cutW 32 l).2.1 = true := by
          cases hd : domB (cutW 32 l).2.1 with
          | true => rfl
          | false => exact absurd ⟨hL5 hz, hd⟩ hne
        refine fin (L := [65, 84, 82, 78] ++ 32 :: (cutW 32 l).2.1) ?_ ?_ (by simp; omega) (fun h => by rcases h with h | h <;> cases h)
        · rw [fmt11, hsb, if_neg hz]
        · refine vmk (k := 11) rfl (by decide) (by decide) (by decide) (by decide) (by decide) hL505 hrp ?_
          unfold cmdL
          rw [kind_app (by decide), cutW_app (by decide)]
          simp only
          exact (if_neg (by decide)).trans ((if_neg (by decide)).trans ((if_neg (by decide)).trans ((if_pos (by decide)).trans (if_neg (by rw [hd]; simp)))))
end Go.Abs.Sh
