import Derived.Test.YtohhijlgepnbeaaTreO
namespace Go.Abs.Sh
set_option linter.unusedVariables false
set_option linter.unusedSimpArgs false
theorem loop_inv {S O : Type} {f : S → Option (S ⊕ O)} (P : Nat → S → Prop) {o : O} : ∀ (n fuel i : Nat) (s : S), i ≤ n → n - i < fuel → P i s → (∀ i s, i < n → P i s → ∃ s', f s = some (.inl s') ∧ P (i + 1) s') → (∀ s, P n s → f s = some (.inr o)) → loopF f fuel s = some o := by
  intro n fuel
  induction fuel with
  | zero => intro i s _ h; omega
  | succ fuel ih =>
    intro i s hi hf hP hs he
    by_cases h : i = n
    · subst h; exact loop_exit (he s hP)
    · obtain ⟨s', h1, h2⟩ := hs i s (by omega) hP
      rw [loop_next h1]
      exact ih (i + 1) s' (by omega) (by omega) h2 hs he
instance : Inhabited T_wherryref01_node := ⟨⟨0, []⟩⟩
theorem least_eq {l : List T_wherryref01_node} {but : Int} {r : Nat} (hl : l.length ≤ 1000) (hr : r < l.length) (hb : (r : Int) ≠ but)
    (h1 : ∀ j, j < l.length → (j : Int) ≠ but → (l[r]!).w ≤ (l[j]!).w) (h2 : ∀ j, j < r → (j : Int) ≠ but → (l[r]!).w < (l[j]!).w) : wherryref01_least l but = some (r : Int) := by
  have hg : ∀ j, j < l.length → getO l j = some l[j]! := fun j hj => by rw [getO_of hj, getElem!_pos l j hj]
  unfold wherryref01_least
  refine bndL (s := (r : Int)) ?_ rfl
  refine loop_inv (fun i s => s.2 = (i : Int) ∧ (r < i → s.1 = (r : Int)) ∧ (i ≤ r → (s.1 < 0 ∨ ∃ p : Nat, s.1 = (p : Int) ∧ p < i ∧ (p : Int) ≠ but))) l.length BIG 0 (-1, 0) (Nat.zero_le _) (by unfold BIG; omega) ⟨rfl, fun h => by omega, fun _ => .inl (by simp)⟩ ?_ ?_
  · rintro i ⟨b, j⟩ hi ⟨hj, hgt, hle⟩
    simp only at hj hgt hle
    subst hj
    have fin : ∀ c : Bool, (r < i → c = false) → (i ≤ r → c = true → (i : Int) ≠ but) → (i = r → c = true) →
        ∃ s' : Int × Int, bindS (S := Int) (A := ((Int × Int) ⊕ ((Int) ⊕ Int))) (cond c (some (.inl (i : Int))) (some (.inl b))) (fun (s68 : Int) => (some (IntKind.i64.wrap ((i : Int) + 1))).bind fun v20 => some (.inl (s68, v20))) some = some (.inl s') ∧ s'.2 = ((i + 1 : Nat) : Int) ∧ (r < i + 1 → s'.1 = (r : Int)) ∧ (i + 1 ≤ r → (s'.1 < 0 ∨ ∃ p : Nat, s'.1 = (p : Int) ∧ p < i + 1 ∧ (p : Int) ≠ but)) := by
      intro c k1 k2 k3
      refine ⟨(if c then (i : Int) else b, ((i + 1 : Nat) : Int)), ?_, rfl, ?_, ?_⟩
      · refine bndL (s := if c then (i : Int) else b) (by cases c <;> rfl) (bnd (x := ((i + 1 : Nat) : Int)) (by rw [wrap_succ (by omega)]) rfl)
      · intro h
        cases c with
        | true =>
          by_cases e : i = r
          · subst e; rfl
          · have := k1 (by omega); cases this
        | false =>
          by_cases e : i = r
          · have := k3 e; cases this
          · exact hgt (by omega)
      · intro h
        cases c with
        | true => exact .inr ⟨i, rfl, by omega, k2 (by omega) rfl⟩
        | false =>
          rcases hle (by omega) with h | ⟨p, h, hp, hpb⟩
          · exact .inl h
          · exact .inr ⟨p, h, by omega, hpb⟩
    by_cases hib : (i : Int) = but
    · obtain ⟨s', e1, e2⟩ := fin false (fun _ => rfl) (fun _ h => by cases h) (fun e => by subst e; exact absurd hib hb)
      refine ⟨s', cnd_t (by simp; omega) ?_, e2⟩
      rw [← e1]
      have : bindS (S := Bool) (A := (Int ⊕ ((Int × Int) ⊕ ((Int) ⊕ Int)))) (cond ((i : Int) != but) (cond (decide (b < 0)) (some (.inl true)) ((ixO (i : Int) l.length).bind fun v2 => (getO l v2).bind fun v3 => (ixO b l.length).bind fun v4 => (getO l v4).bind fun v5 => some (.inl (decide (v3.w < v5.w))))) (some (.inl false))) (fun (s72 : Bool) => cond s72 (some (.inl (i : Int))) (some (.inl b))) some = cond false (some (.inl (i : Int))) (some (.inl b)) := bndL (s := false) (cnd_f (by simp [hib]) rfl) rfl
      rw [this]
    · by_cases hb0 : b < 0
      · obtain ⟨s', e1, e2⟩ := fin true (fun h => by have := hgt h; omega) (fun _ _ => hib) (fun _ => rfl)
        refine ⟨s', cnd_t (by simp; omega) ?_, e2⟩
        rw [← e1]
        have : bindS (S := Bool) (A := (Int ⊕ ((Int × Int) ⊕ ((Int) ⊕ Int)))) (cond ((i : Int) != but) (cond (decide (b < 0)) (some (.inl true)) ((ixO (i : Int) l.length).bind fun v2 => (getO l v2).bind fun v3 => (ixO b l.length).bind fun v4 => (getO l v4).bind fun v5 => some (.inl (decide (v3.w < v5.w))))) (some (.inl false))) (fun (s72 : Bool) => cond s72 (some (.inl (i : Int))) (some (.inl b))) some = cond true (some (.inl (i : Int))) (some (.inl b)) := bndL (s := true) (cnd_t (by simp [hib]) (cnd_t (decide_eq_true hb0) rfl)) rfl
        rw [this]
      · obtain ⟨p, hp, hpi, hpb⟩ : ∃ p : Nat, b = (p : Int) ∧ p < i ∧ (p : Int) ≠ but := by
          by_cases h : r < i
          · exact ⟨r, hgt h, h, hb⟩
          · rcases hle (by omega) with h | ⟨p, h, h'⟩
            · exact absurd h hb0
            · exact ⟨p, h, h'⟩
        subst hp
        have hw : r < i → ¬ (l[i]!).w < (l[p]!).w := fun h => by
          have h3 : (p : Int) = (r : Int) := hgt h
          have h4 : p = r := by omega
          rw [h4]
          have := h1 i hi hib
          omega
        have hwr : i = r → (l[i]!).w < (l[p]!).w := fun h => by
          subst h
          exact h2 p hpi hpb
        obtain ⟨s', e1, e2⟩ := fin (decide ((l[i]!).w < (l[p]!).w)) (fun h => decide_eq_false (hw h)) (fun _ _ => hib) (fun h => decide_eq_true (hwr h))
        refine ⟨s', cnd_t (by simp; omega) ?_, e2⟩
        rw [← e1]
        have : bindS (S := Bool) (A := (Int ⊕ ((Int × Int) ⊕ ((Int) ⊕ Int)))) (cond ((i : Int) != but) (cond (decide ((p : Int) < 0)) (some (.inl true)) ((ixO (i : Int) l.length).bind fun v2 => (getO l v2).bind fun v3 => (ixO (p : Int) l.length).bind fun v4 => (getO l v4).bind fun v5 => some (.inl (decide (v3.w < v5.w))))) (some (.inl false))) (fun (s72 : Bool) => cond s72 (some (.inl (i : Int))) (some (.inl (p : Int)))) some = cond (decide ((l[i]!).w < (l[p]!).w)) (some (.inl (i : Int))) (some (.inl (p : Int))) := bndL (s := decide ((l[i]!).w < (l[p]!).w)) (cnd_t (by simp [hib]) (cnd_f (decide_eq_false hb0) (bnd (ixO_of hi) (bnd (hg i hi) (bnd (ixO_of (by omega)) (bnd (hg p (by omega)) rfl)))))) rfl
        rw [this]
  · rintro ⟨b, j⟩ ⟨hj, hgt, _⟩
    simp only at hj hgt
    subst hj
    refine cnd_f (by simp) ?_
    rw [hgt hr]
end Go.Abs.Sh
