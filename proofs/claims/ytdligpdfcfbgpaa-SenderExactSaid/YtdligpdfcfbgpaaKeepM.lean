import Derived.Test.YtdligpdfcfbgpaaNumM
namespace Go.Abs.Sh
set_option linter.unusedVariables false
theorem keepBytes_eq (a b : List Int) (hl : a.length < 4294967296) : wherrykeep_Bytes a b = some (decide (a = b)) := by
  unfold wherrykeep_Bytes
  by_cases hn : a.length = b.length
  case neg =>
    have : a ≠ b := fun h => hn (by rw [h])
    have h2 : ((a.length : Int) != (b.length : Int)) = true := by simp; omega
    simp [h2, this]
  have h2 : ((a.length : Int) != (b.length : Int)) = false := by simp; omega
  simp only [h2, cond_false]
  have key : ∀ (k fuel i : Nat), a.length - i = k → i ≤ a.length → k < fuel → a.take i = b.take i →
      loopF (S := Int) (O := Unit ⊕ Bool) (fun (s12 : Int) =>
        cond ((decide (s12 < (a.length : Int))))
          ((ixO s12 a.length).bind fun v3 =>
          (getO a v3).bind fun v4 =>
          (ixO s12 b.length).bind fun v5 =>
          (getO b v5).bind fun v6 =>
          cond ((v4 != v6))
            (some (.inr (.inr (false))))
            ((some (IntKind.i64.wrap (s12 + 1))).bind fun v8 =>
            some (.inl v8)))
          (some (.inr (.inl ())))) fuel (i : Int) = some (if a = b then .inl () else .inr false) := by
    intro k
    induction k with
    | zero =>
      intro fuel i hk hi hf ht
      obtain ⟨f, rfl⟩ : ∃ f, fuel = f + 1 := ⟨fuel - 1, by omega⟩
      have hia : i = a.length := by omega
      subst hia
      have hab : a = b := by rw [List.take_of_length_le (Nat.le_refl _), List.take_of_length_le (by omega)] at ht; exact ht
      simp [loopF, hab]
    | succ k ih =>
      intro fuel i hk hi hf ht
      obtain ⟨f, rfl⟩ : ∃ f, fuel = f + 1 := ⟨fuel - 1, by omega⟩
      have hlt : i < a.length := by omega
      have hltb : i < b.length := by omega
      have hd : decide ((i : Int) < (a.length : Int)) = true := by simp; omega
      unfold loopF
      simp only [hd, cond_true, ixO_of hlt, ixO_of hltb, getO_of hlt, getO_of hltb, Option.bind_some]
      by_cases he : a[i] = b[i]
      · have hb : (a[i] != b[i]) = false := by simp [he]
        have hw : IntKind.i64.wrap ((i : Int) + 1) = ((i + 1 : Nat) : Int) := by
          rw [wrap_i64 (by omega) (by omega)]; simp
        simp only [hb, cond_false, hw]
        exact ih f (i + 1) (by omega) hlt (by omega) (by rw [List.take_add_one, List.take_add_one, ht]; simp [hlt, hltb, he])
      · have hb : (a[i] != b[i]) = true := by simp [he]
        have hab : a ≠ b := fun h => he (by subst h; rfl)
        simp [hb, hab]
  have := key (a.length - 0) BIG 0 rfl (Nat.zero_le _) (by unfold BIG; omega) (by simp)
  simp only [Int.cast_ofNat_Int] at this
  by_cases hab : a = b
  · simp only [hab, if_true] at this
    subst hab
    simp only [bindS]
    rw [this]; simp
  · simp only [hab, if_false] at this
    simp only [bindS]
    rw [this]; simp [hab]
end Go.Abs.Sh
