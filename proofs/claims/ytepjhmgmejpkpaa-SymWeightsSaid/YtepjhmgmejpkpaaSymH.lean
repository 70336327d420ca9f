import Derived.Test.YtepjhmgmejpkpaaSymG
namespace Go.Abs.Sh
set_option linter.unusedVariables false
set_option linter.unusedSimpArgs false

theorem keepInts_eq (a b : List Int) (hl : a.length < 4294967296) : wherrykeep_Ints a b = some (decide (a = b)) := by
  unfold wherrykeep_Ints
  by_cases hn : a.length = b.length
  case neg =>
    have : a ≠ b := fun h => hn (by rw [h])
    have h2 : ((a.length : Int) != (b.length : Int)) = true := by simp; omega
    simp [h2, this]
  have h2 : ((a.length : Int) != (b.length : Int)) = false := by simp; omega
  simp only [h2, cond_false]
  have key : ∀ (k fuel i : Nat), a.length - i = k → i ≤ a.length → k < fuel → a.take i = b.take i →
      loopF (S := Int) (O := Unit ⊕ Bool) (fun (s12 : Int) =>
        cond ((decide (s12 < (a.length : Int))))
          ((ixO s12 a.length).bind fun v3 =>
          (getO a v3).bind fun v4 =>
          (ixO s12 b.length).bind fun v5 =>
          (getO b v5).bind fun v6 =>
          cond ((v4 != v6))
            (some (.inr (.inr (false))))
            ((some (IntKind.i64.wrap (s12 + 1))).bind fun v8 =>
            some (.inl v8)))
          (some (.inr (.inl ())))) fuel (i : Int) = some (if a = b then .inl () else .inr false) := by
    intro k
    induction k with
    | zero =>
      intro fuel i hk hi hf ht
      obtain ⟨f, rfl⟩ : ∃ f, fuel = f + 1 := ⟨fuel - 1, by omega⟩
      have hia : i = a.length := by omega
      subst hia
      have hab : a = b := by rw [List.take_of_length_le (Nat.le_refl _), List.take_of_length_le (by omega)] at ht; exact ht
      simp [loopF, hab]
    | succ k ih =>
      intro fuel i hk hi hf ht
      obtain ⟨f, rfl⟩ : ∃ f, fuel = f + 1 := ⟨fuel - 1, by omega⟩
      have hlt : i < a.length := by omega
      have hltb : i < b.length := by omega
      have hd : decide ((i : Int) < (a.length : Int)) = true := by simp; omega
      unfold loopF
      simp only [hd, cond_true, ixO_of hlt, ixO_of hltb, getO_of hlt, getO_of hltb, Option.bind_some]
      by_cases he : a[i] = b[i]
      · have hb : (a[i] != b[i]) = false := by simp [he]
        have hw : IntKind.i64.wrap ((i : Int) + 1) = ((i + 1 : Nat) : Int) := by
          rw [wrap_i64 (by omega) (by omega)]; simp
        simp only [hb, cond_false, hw]
        exact ih f (i + 1) (by omega) hlt (by omega) (by rw [List.take_add_one, List.take_add_one, ht]; simp [hlt, hltb, he])
      · have hb : (a[i] != b[i]) = true := by simp [he]
        have hab : a ≠ b := fun h => he (by subst h; rfl)
        simp [hb, hab]
  have := key (a.length - 0) BIG 0 rfl (Nat.zero_le _) (by unfold BIG; omega) (by simp)
  simp only [Int.cast_ofNat_Int] at this
  by_cases hab : a = b
  · simp only [hab, if_true] at this
    subst hab
    simp only [bindS]
    rw [this]; simp
  · simp only [hab, if_false] at this
    simp only [bindS]
    rw [this]; simp [hab]


theorem wakes05 : wherrylaw05_wakes = some true := by kernel_rfl
theorem rfixed_eq : wherryref01_Fixed = some (fixL, List.replicate 32 5) := by kernel_rfl
theorem fixL_len : fixL.length = 288 := by kernel_rfl
theorem app24 (l : List T_Tok) (h : l.length < 1000000) : wherrykeep_TwinToks l = some l := by
  unfold wherrykeep_TwinToks
  refine bnd (x := l) ?_ rfl
  simp only [appO]; rw [if_pos (by simp; omega)]; simp

theorem toks_self (l : List T_Tok) (hl : l.length ≤ 1300) : wherrykeep_Toks l l = some true := by
  unfold wherrykeep_Toks
  refine cnd_f (by simp) ?_
  have key : ∀ (k fuel i : Nat), l.length - i = k → i ≤ l.length → k < fuel → loopF (toksS l l) fuel (i : Int) = some (.inl ()) := by
    intro k
    induction k with
    | zero =>
      intro fuel i hk hi hf
      obtain ⟨f, rfl⟩ : ∃ f, fuel = f + 1 := ⟨fuel - 1, by omega⟩
      have : i = l.length := by omega
      subst this
      refine loop_exit ?_
      unfold toksS; exact cnd_f (by simp) rfl
    | succ k ih =>
      intro fuel i hk hi hf
      obtain ⟨f, rfl⟩ : ∃ f, fuel = f + 1 := ⟨fuel - 1, by omega⟩
      have hlt : i < l.length := by omega
      have hw : IntKind.i64.wrap ((i : Int) + 1) = ((i + 1 : Nat) : Int) := by rw [wrap_i64 (by omega) (by omega)]; simp
      have g := getO_of hlt
      have x := ixO_of hlt
      refine (loop_next ?_).trans (ih f (i + 1) (by omega) (by omega) (by omega))
      unfold toksS
      exact cnd_t (by simp; omega) (bndL (s := false) (bnd x (bnd g (bnd x (bnd g (cnd_f (by simp) (bnd x (bnd g (bnd x (bnd g (cnd_f (by simp) (bnd x (bnd g (bnd x (bnd g (by simp))))))))))))))) (cnd_f rfl (bnd (x := ((i + 1 : Nat) : Int)) (by rw [hw]) rfl)))
  exact bndL (key l.length BIG 0 (by omega) (Nat.zero_le _) (by unfold BIG; omega)) rfl

theorem symExact_true (n : Int) (l : List T_Tok) (hb : ∀ t ∈ l, 0 ≤ t.Byte ∧ t.Byte < 256) : wherrylaw05_SymExact n l = some true := by
  unfold wherrylaw05_SymExact
  by_cases l1 : 600 < l.length
  · exact cnd_t (by simp; omega) rfl
  refine cnd_f (by simp; omega) ?_
  obtain ⟨a, a1, a2, _⟩ := len_same n
  obtain ⟨d, d1, d2, _⟩ := dist_same n
  obtain ⟨u, u1, u2⟩ := lenOf_same n
  obtain ⟨v, v1, v2⟩ := distOf_same n
  obtain ⟨w, w1, w2, w3, w4⟩ := weights_same l (by omega) hb
  refine bnd a1 (bnd a2 (bndL (s := false) (cnd_f (by simp) (cnd_f (by simp) (cnd_f (by simp) (by simp)))) (cnd_f rfl ?_)))
  refine bnd d1 (bnd d2 (bndL (s := false) (cnd_f (by simp) (cnd_f (by simp) (cnd_f (by simp) (by simp)))) (cnd_f rfl ?_)))
  refine bnd u1 (bnd u2 (bndL (s := false) (cnd_f (by simp) (cnd_f (by simp) (by simp))) (cnd_f rfl ?_)))
  refine bnd v1 (bnd v2 (bndL (s := false) (cnd_f (by simp) (cnd_f (by simp) (by simp))) (cnd_f rfl ?_)))
  refine bnd fixed_eq (bnd rfixed_eq (bnd (app24 l (by omega)) (bnd w1 (bnd w2 (bndL (s := true) ?_ rfl)))))
  refine bnd (keepInts_eq _ _ (by rw [fixL_len]; omega)) (cnd_t (by simp) (bnd (keepInts_eq _ _ (by rw [List.length_replicate]; omega)) (cnd_t (by simp) (cnd_t (by simp) (bnd (keepInts_eq _ _ (by omega)) (cnd_t (by simp) (bnd (keepInts_eq _ _ (by omega)) (cnd_t (by simp) (bnd (toks_self l (by omega)) (cnd_t rfl (bnd wakes05 rfl)))))))))))
end Go.Abs.Sh
