import Derived.Test.YtccfiglffammoaaDoorRepC
namespace Go.Abs.Sh
set_option linter.unusedVariables false
set_option linter.unusedSimpArgs false
def rendS (b : List Int) : ((Int)) → Option ((Int) ⊕ ((Unit) ⊕ Int)) := (fun (s21 : Int) =>
  (some (IntKind.i64.wrap (s21 + 1))).bind fun v1 =>
  cond ((decide (v1 < (b.length : Int))))
    (bindS (S := Bool) (A := ((Int) ⊕ ((Unit) ⊕ Int)))
      ((ixO s21 b.length).bind fun v3 =>
      (getO b v3).bind fun v4 =>
      cond ((v4 == 13))
        ((some (IntKind.i64.wrap (s21 + 1))).bind fun v5 =>
        (ixO v5 b.length).bind fun v6 =>
        (getO b v6).bind fun v7 =>
        some (.inl (v7 == 10)))
        (some (.inl false)))
      (fun (s35 : Bool) =>
        cond (s35)
          (some (.inr (.inr (s21))))
          ((some (IntKind.i64.wrap (s21 + 1))).bind fun v13 =>
          some (.inl v13))) some)
    (some (.inr (.inl ()))))
theorem end11 (b : List Int) (hl : b.length < 1000000) (at_ : Nat) (hat : at_ ≤ b.length) : wherryref11_end b (at_ : Int) = some (match idx2 (b.drop at_) with | none => -1 | some e => ((at_ + e : Nat) : Int)) := by
  have key : ∀ (k at_ fuel : Nat), b.length - at_ = k → at_ ≤ b.length → k < fuel → loopF (rendS b) fuel (at_ : Int) = some (match idx2 (b.drop at_) with | none => .inl () | some e => .inr ((at_ + e : Nat) : Int)) := by
    intro k
    induction k with
    | zero =>
      intro at_ fuel hk ha hf
      obtain ⟨f, rfl⟩ : ∃ f, fuel = f + 1 := ⟨fuel - 1, by omega⟩
      rw [List.drop_eq_nil_of_le (by omega)]
      refine loop_exit ?_
      unfold rendS
      exact bnd (by rw [wrap_succ (by omega)]) (cnd_f (decide_eq_false (by omega)) rfl)
    | succ k ih =>
      intro at_ fuel hk ha hf
      obtain ⟨f, rfl⟩ : ∃ f, fuel = f + 1 := ⟨fuel - 1, by omega⟩
      have hlt : at_ < b.length := by omega
      have ih' := ih (at_ + 1) f (by omega) (by omega) (by omega)
      have hd : b.drop at_ = b[at_] :: b.drop (at_ + 1) := List.drop_eq_getElem_cons hlt
      rw [hd]
      unfold idx2
      by_cases hend : at_ + 1 < b.length
      · have hd2 : b.drop (at_ + 1) = b[at_ + 1] :: b.drop (at_ + 2) := List.drop_eq_getElem_cons hend
        have hh : (b.drop (at_ + 1)).head? = some b[at_ + 1] := by rw [hd2]; rfl
        have hg0 := getO_of hlt
        have hg1 := getO_of hend
        have sel : (bindS (S := Bool) (A := ((Int) ⊕ ((Unit) ⊕ Int)))
            ((ixO (at_ : Int) b.length).bind fun v3 => (getO b v3).bind fun v4 => cond ((v4 == 13)) ((some (IntKind.i64.wrap ((at_ : Int) + 1))).bind fun v5 => (ixO v5 b.length).bind fun v6 => (getO b v6).bind fun v7 => some (.inl (v7 == 10))) (some (.inl false)))
            (fun (s35 : Bool) => cond (s35) (some (.inr (.inr ((at_ : Int))))) ((some (IntKind.i64.wrap ((at_ : Int) + 1))).bind fun v13 => some (.inl v13))) some) =
            some (if b[at_] = 13 ∧ b[at_ + 1] = 10 then .inr (.inr (at_ : Int)) else .inl ((at_ + 1 : Nat) : Int)) := by
          by_cases h13 : b[at_] = 13
          · by_cases h10 : b[at_ + 1] = 10
            · rw [if_pos ⟨h13, h10⟩]
              exact bndL (s := true) (bnd (ixO_of hlt) (bnd hg0 (cnd_t (by simp [h13]) (bnd (by rw [wrap_succ (by omega)]) (bnd (ixO_of hend) (bnd hg1 (by rw [h10]; rfl))))))) rfl
            · rw [if_neg fun h => h10 h.2]
              exact bndL (s := false) (bnd (ixO_of hlt) (bnd hg0 (cnd_t (by simp [h13]) (bnd (by rw [wrap_succ (by omega)]) (bnd (ixO_of hend) (bnd hg1 (by rw [show (b[at_ + 1] == 10) = false by simpa using h10]))))))) (cnd_f rfl (bnd (by rw [wrap_succ (by omega)]) rfl))
          · rw [if_neg fun h => h13 h.1]
            exact bndL (s := false) (bnd (ixO_of hlt) (bnd hg0 (cnd_f (by simpa using h13) rfl))) (cnd_f rfl (bnd (by rw [wrap_succ (by omega)]) rfl))
        rw [hh]
        simp only [Option.some.injEq]
        by_cases hc : b[at_] = 13 ∧ b[at_ + 1] = 10
        · rw [if_pos hc] at sel
          rw [if_pos hc]
          refine loop_exit ?_
          unfold rendS
          exact bnd (by rw [wrap_succ (by omega)]) (cnd_t (decide_eq_true (by omega)) sel)
        · rw [if_neg hc] at sel
          rw [if_neg hc]
          refine (loop_next (s' := ((at_ + 1 : Nat) : Int)) ?_).trans (ih'.trans ?_)
          · unfold rendS
            exact bnd (by rw [wrap_succ (by omega)]) (cnd_t (decide_eq_true (by omega)) sel)
          · cases idx2 (b.drop (at_ + 1)) with
            | none => rfl
            | some e => simp only [Option.map_some]; congr 2; omega
      · have hd2 : b.drop (at_ + 1) = [] := List.drop_eq_nil_of_le (by omega)
        rw [hd2]
        simp only [List.head?_nil, reduceCtorEq, and_false, if_false, idx2, Option.map_none]
        refine loop_exit ?_
        unfold rendS
        exact bnd (by rw [wrap_succ (by omega)]) (cnd_f (decide_eq_false (by omega)) rfl)
  unfold wherryref11_end
  have lp := key (b.length - at_) at_ BIG rfl hat (by unfold BIG; omega)
  cases h : idx2 (b.drop at_) with
  | none => rw [h] at lp; exact bndL lp rfl
  | some e => rw [h] at lp; exact bndR lp rfl
end Go.Abs.Sh
