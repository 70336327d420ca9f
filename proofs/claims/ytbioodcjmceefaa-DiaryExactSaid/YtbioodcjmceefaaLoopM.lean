import Derived.Test.YtbioodcjmceefaaLawM
namespace Go.Abs.Sh
set_option linter.unusedVariables false
theorem loop_run {S O : Type} {f : S → Option (S ⊕ O)} (st : Nat → S) {o : O} : ∀ (n fuel : Nat), n < fuel → (∀ i, i < n → f (st i) = some (.inl (st (i + 1)))) → f (st n) = some (.inr o) → loopF f fuel (st 0) = some o := by
  intro n
  induction n generalizing st with
  | zero =>
    intro fuel hf _ he
    obtain ⟨k, rfl⟩ : ∃ k, fuel = k + 1 := ⟨fuel - 1, by omega⟩
    exact loop_exit he
  | succ n ih =>
    intro fuel hf hs he
    obtain ⟨k, rfl⟩ : ∃ k, fuel = k + 1 := ⟨fuel - 1, by omega⟩
    rw [loop_next (hs 0 (by omega))]
    exact ih (fun i => st (i + 1)) k (by omega) (fun i hi => hs (i + 1) (by omega)) he
theorem loop_from {S O : Type} {f : S → Option (S ⊕ O)} {s : S} (st : Nat → S) {o : O} (n fuel : Nat) (h0 : st 0 = s) (hn : n < fuel) (hs : ∀ i, i < n → f (st i) = some (.inl (st (i + 1)))) (he : f (st n) = some (.inr o)) : loopF f fuel s = some o := by
  subst h0; exact loop_run st n fuel hn hs he
theorem first_fail (p : Nat → Bool) : ∀ n, (∀ i, i < n → p i = true) ∨ ∃ k, k < n ∧ (∀ i, i < k → p i = true) ∧ p k = false
  | 0 => .inl fun i h => absurd h (Nat.not_lt_zero i)
  | n + 1 => by
    rcases first_fail p n with h | ⟨k, h1, h2, h3⟩
    · cases hp : p n
      · exact .inr ⟨n, by omega, h, hp⟩
      · refine .inl fun i hi => ?_
        by_cases h' : i = n
        · subst h'; exact hp
        · exact h i (by omega)
    · exact .inr ⟨k, by omega, h2, h3⟩
theorem loop_all {R : Type} {f : Int → Option (Int ⊕ (Unit ⊕ R))} (p : Nat → Bool) (n : Nat) (r : R) {fuel : Nat} (hf : n < fuel) (hgo : ∀ i, i < n → p i = true → f (i : Int) = some (.inl ((i + 1 : Nat) : Int))) (hno : ∀ i, i < n → p i = false → f (i : Int) = some (.inr (.inr r))) (hend : f (n : Int) = some (.inr (.inl ()))) :
    loopF f fuel 0 = some (if ∀ i, i < n → p i = true then .inl () else .inr r) := by
  rcases first_fail p n with h | ⟨k, h1, h2, h3⟩
  · rw [if_pos h]
    exact loop_from (fun i => (i : Int)) n fuel rfl hf (fun i hi => hgo i hi (h i hi)) hend
  · rw [if_neg fun h => by rw [h k h1] at h3; cases h3]
    exact loop_from (fun i => (i : Int)) k fuel rfl (by omega) (fun i hi => hgo i (by omega) (h2 i hi)) (hno k h1 h3)
theorem wrap_succ {n : Nat} (h : n < 4611686018427387904) : IntKind.i64.wrap ((n : Int) + 1) = ((n + 1 : Nat) : Int) := by rw [wrap_i64 (by omega) (by omega)]; simp
theorem rem_nat (a b : Nat) (hb : 0 < b) : remO (a : Int) (b : Int) = some ((a % b : Nat) : Int) := by
  simp only [remO]
  rw [if_neg (by omega), Int.tmod_eq_emod_of_nonneg (by omega)]
  rfl
theorem sli_nat {A : Type} (l : List A) {a b : Nat} (h1 : a ≤ b) (h2 : b ≤ l.length) : sliO l (a : Int) (b : Int) = some ((l.drop a).take (b - a)) := by
  unfold sliO
  rw [if_pos (by omega)]
  simp only [Int.toNat_natCast]
theorem app_of {A : Type} {k : Nat} {l m : List A} (h : (l.length + m.length) * k ≤ 140737488355328) (h1 : l.length + m.length ≤ 140737488355328) : appO k l m = some (l ++ m) := by
  unfold appO; rw [if_pos ⟨h, h1⟩]
end Go.Abs.Sh
