import Derived.Test.YtgonanjdmdlkjaaDoorDotJ
import Derived.Test.YtgonanjdmdlkjaaDoorDotK
namespace Go.Abs.Sh
set_option linter.unusedVariables false
set_option linter.unusedSimpArgs false
theorem rs_step (b : List Int) (hl : b.length < 1000000) (v : Nat) (hv : v ≤ b.length) {i : Nat} (hi : i < b.length) (hiv : i < v) (acc : List Int) (ha : acc.length < 4000000) :
    rsS b (v : Int) (acc, (i : Int)) = some (.inl (acc ++ (if b[i] = 46 ∧ prv b i = 10 then [] else [b[i]]), ((i + 1 : Nat) : Int))) := by
  unfold rsS
  refine cnd_t (decide_eq_true (by omega)) ?_
  have h1 : ((ixO (i : Int) b.length).bind fun v7 =>
                (getO b v7).bind fun v8 =>
                cond ((v8 != 46))
                  (some (.inl true))
                  (cond ((decide (0 < (i : Int))))
                    ((some (IntKind.i64.wrap ((i : Int) - 1))).bind fun v9 =>
                    (ixO v9 b.length).bind fun v10 =>
                    (getO b v10).bind fun v11 =>
                    some (.inl (v11 != 10)))
                    (some (.inl false))) : Option (Bool ⊕ ((List Int) ⊕ (((List Int) × Int) ⊕ (((List Int)) ⊕ ((List Int) × Int × Int)))))) = some (.inl (!decide (b[i] = 46 ∧ prv b i = 10))) := by
    refine bnd (ixO_of hi) (bnd (getO_of hi) ?_)
    by_cases h46 : b[i] = 46
    · refine cnd_f (by rw [h46]; rfl) ?_
      by_cases h0 : i = 0
      · subst h0
        refine cnd_f rfl ?_
        simp [h46, prv]
      · refine cnd_t (decide_eq_true (by omega)) (bnd (x := ((i - 1 : Nat) : Int)) (by rw [wrap_j (by omega) (by omega)]; congr 1; omega) (bnd (ixO_of (by omega)) (bnd (getO_of (by omega)) ?_)))
        rw [prv_go (x := 0) hi h0 (by omega)]
        congr 2
        rw [Bool.eq_iff_iff, bne_iff_ne, Bool.not_eq_true', decide_eq_false_iff_not]
        simp [h46]
    · refine cnd_t (by simpa using h46) ?_
      congr 2
      rw [eq_comm, Bool.not_eq_true', decide_eq_false_iff_not]
      simp [h46]
  have e0 : some (IntKind.i64.wrap ((i : Int) + 1)) = some ((i + 1 : Nat) : Int) := by rw [wrap_j (by omega) (by omega)]; simp
  by_cases hc : b[i] = 46 ∧ prv b i = 10
  · rw [if_pos hc]
    exact bndL (s := acc) (bndL h1 (cnd_f (by rw [decide_eq_true hc]; rfl) rfl)) (bnd e0 (by rw [List.append_nil]))
  · rw [if_neg hc]
    exact bndL (s := acc ++ [b[i]]) (bndL h1 (cnd_t (by rw [decide_eq_false hc]; rfl) (bnd (ixO_of hi) (bnd (getO_of hi) (bnd (app_of (by simp; omega) (by simp; omega)) rfl))))) (bnd e0 rfl)
theorem rs_go (b : List Int) (hl : b.length < 1000000) (v : Nat) (hv : v ≤ b.length) : ∀ (n i : Nat) (acc : List Int) (fuel : Nat), i + n = v → acc.length ≤ i → n < fuel → loopF (rsS b (v : Int)) fuel (acc, (i : Int)) = some (.inl (acc ++ dsq (prv b i) ((b.take v).drop i)))
  | 0, i, acc, fuel, hn, ha, hf => by
    obtain ⟨k, rfl⟩ : ∃ k, fuel = k + 1 := ⟨fuel - 1, by omega⟩
    rw [loop_exit (o := .inl acc) (by unfold rsS; exact cnd_f (decide_eq_false (by omega)) rfl)]
    rw [List.drop_eq_nil_of_le (by simp; omega)]; simp [dsq]
  | n + 1, i, acc, fuel, hn, ha, hf => by
    obtain ⟨k, rfl⟩ : ∃ k, fuel = k + 1 := ⟨fuel - 1, by omega⟩
    have hi : i < b.length := by omega
    have hi2 : i < (b.take v).length := by simp; omega
    rw [loop_next (rs_step b hl v hv hi (by omega) acc (by omega))]
    rw [rs_go b hl v hv n (i + 1) _ k (by omega) (by rw [List.length_append]; split <;> simp <;> omega) (by omega)]
    rw [drop_at hi2, dsq, List.append_assoc, prv_succ hi, List.getElem_take]
def dt (b : List Int) (i : Nat) : Prop := b[i]? = some 46 ∧ crlf b (i + 1) ∧ (i = 0 ∨ 2 ≤ i ∧ crlf b (i - 2))
instance (b : List Int) (i : Nat) : Decidable (dt b i) := by unfold dt; infer_instance
theorem dot_step (b : List Int) (hl : b.length < 1000000) {i : Nat} (hi : i + 2 < b.length) : dotS b (i : Int) = if dt b i then some (.inr (.inr (i : Int))) else some (.inl ((i + 1 : Nat) : Int)) := by
  have e1 : some (IntKind.i64.wrap ((i : Int) + 1)) = some ((i + 1 : Nat) : Int) := by rw [wrap_j (by omega) (by omega)]; simp
  have e2 : some (IntKind.i64.wrap ((i : Int) + 2)) = some ((i + 2 : Nat) : Int) := by rw [wrap_j (by omega) (by omega)]; simp
  unfold dotS
  refine bnd e2 (cnd_t (decide_eq_true (by omega)) (bndL (s := decide (dt b i)) (bnd (ixO_of (by omega)) (bnd (getO_of (by omega)) ?_)) ?_))
  · by_cases h46 : b[i] = 46
    · refine cnd_t (by rw [h46]; rfl) (bnd e1 (bnd (ixO_of (by omega)) (bnd (getO_of (by omega)) ?_)))
      by_cases h13 : b[i + 1] = 13
      · refine cnd_t (by rw [h13]; rfl) (bnd e2 (bnd (ixO_of hi) (bnd (getO_of hi) ?_)))
        by_cases h10 : b[i + 2] = 10
        · refine cnd_t (by rw [h10]; rfl) ?_
          by_cases h0 : i = 0
          · subst h0
            refine cnd_t rfl ?_
            congr 2
            rw [eq_comm, decide_eq_true_eq, dt, crlf, getI (by omega), getI (by omega), getI (by omega)]
            simp [h46, h13, h10]
          · refine cnd_f (by rw [beq_eq_false_iff_ne]; omega) ?_
            by_cases h1 : 1 < i
            · have g1 : some (IntKind.i64.wrap ((i : Int) - 1)) = some ((i - 1 : Nat) : Int) := by rw [wrap_j (by omega) (by omega)]; congr 1; omega
              have g2 : some (IntKind.i64.wrap ((i : Int) - 2)) = some ((i - 2 : Nat) : Int) := by rw [wrap_j (by omega) (by omega)]; congr 1; omega
              have hk : dt b i ↔ b[i - 2]'(by omega) = 13 ∧ b[i - 1]'(by omega) = 10 := by
                rw [dt, crlf, crlf, getI (by omega), getI (by omega), getI (by omega), getI (by omega), getI (by omega)]
                have e : i - 2 + 1 = i - 1 := by omega
                simp only [h46, h13, Option.some.injEq, true_and, show i + 1 + 1 = i + 2 by omega, h10, e]
                omega
              refine cnd_t (decide_eq_true (by omega)) (bnd g2 (bnd (ixO_of (by omega)) (bnd (getO_of (by omega)) ?_)))
              by_cases q13 : b[i - 2]'(by omega) = 13
              · refine cnd_t (by rw [q13]; rfl) (bnd g1 (bnd (ixO_of (by omega)) (bnd (getO_of (by omega)) ?_)))
                congr 2
                rw [Bool.eq_iff_iff, beq_iff_eq, decide_eq_true_eq, hk]
                simp [q13]
              · refine cnd_f (by simpa using q13) ?_
                congr 2
                rw [eq_comm, decide_eq_false_iff_not, hk]
                simp [q13]
            · refine cnd_f (decide_eq_false (by omega)) ?_
              congr 2
              rw [eq_comm, decide_eq_false_iff_not, dt]
              omega
        · refine cnd_f (by simpa using h10) ?_
          congr 2
          rw [eq_comm, decide_eq_false_iff_not, dt, crlf, getI (by omega), getI (by omega), getI (by omega)]
          simp [show i + 1 + 1 = i + 2 by omega, h10]
      · refine cnd_f (by simpa using h13) ?_
        congr 2
        rw [eq_comm, decide_eq_false_iff_not, dt, crlf, getI (by omega), getI (by omega)]
        simp [h13]
    · refine cnd_f (by simpa using h46) ?_
      congr 2
      rw [eq_comm, decide_eq_false_iff_not, dt, getI (by omega)]
      simp [h46]
  · by_cases h : dt b i
    · rw [if_pos h]; exact cnd_t (decide_eq_true h) rfl
    · rw [if_neg h]; exact cnd_f (decide_eq_false h) (bnd e1 rfl)
theorem dot_stop (b : List Int) (hl : b.length < 1000000) {i : Nat} (hi : b.length ≤ i + 2) (hi2 : i < 1000001) : dotS b (i : Int) = some (.inr (.inl ())) := by
  unfold dotS
  refine bnd (x := ((i + 2 : Nat) : Int)) (by rw [wrap_j (by omega) (by omega)]; simp) (cnd_f (decide_eq_false (by omega)) rfl)
theorem dot_no {b : List Int} (hl : b.length < 1000000) (h : ∀ i, ¬ dt b i) : wherryref11_dot b = some (-1) := by
  have hl2 : loopF (dotS b) BIG 0 = some (.inl ()) := by
    refine loop_from (fun i => (i : Int)) (b.length - 2) BIG rfl (by unfold BIG; omega) (fun i hi => ?_) ?_
    · rw [dot_step b hl (by omega), if_neg (h i)]
    · exact dot_stop b hl (by omega) (by omega)
  unfold wherryref11_dot
  exact bndL (s := ()) hl2 rfl
theorem dot_at {b : List Int} (hl : b.length < 1000000) {k : Nat} (hk : dt b k) (h : ∀ i, i < k → ¬ dt b i) : wherryref11_dot b = some (k : Int) := by
  have hlt := crlf_lt hk.2.1
  have hl2 : loopF (dotS b) BIG 0 = some (.inr (k : Int)) := by
    refine loop_from (fun i => (i : Int)) k BIG rfl (by unfold BIG; omega) (fun i hi => ?_) ?_
    · rw [dot_step b hl (by omega), if_neg (h i hi)]
    · rw [dot_step b hl (by omega), if_pos hk]
  unfold wherryref11_dot
  exact bndR (a := (k : Int)) hl2 rfl
theorem dt_lines (b : List Int) : ∀ {t : List Int} {ls : List (List Int)} {r : List Int}, Lns t ls r → ∀ (a : Nat), t = b.drop a → (a = 0 ∨ 2 ≤ a ∧ crlf b (a - 2)) →
    ((∀ l ∈ ls, l ≠ [46]) ∧ (∀ i, a ≤ i → ¬ dt b i)) ∨ ∃ xs ys, ls = xs ++ [46] :: ys ∧ (∀ l ∈ xs, l ≠ [46]) ∧ dt b (a + tot xs) ∧ ∀ i, a ≤ i → i < a + tot xs → ¬ dt b i := by
  intro t ls r H
  induction H with
  | nil h =>
    intro a ht ha
    subst ht
    refine .inl ⟨by simp, fun i hi hd => ?_⟩
    refine idx2_no h (i + 1 - a) ((crlf_drop b a _).2 ?_)
    rw [show a + (i + 1 - a) = i + 1 by omega]; exact hd.2.1
  | cons h t ih =>
    rename_i b0 e ls r
    intro a ht ha
    subst ht
    obtain ⟨hy, hn⟩ := idx2_yes h
    have hy' := (crlf_drop b a e).1 hy
    have h2 := (idx2_some h).1
    have hq1 : (b.drop a).drop (e + 2) = b.drop (a + (e + 2)) := by rw [List.drop_drop]
    by_cases hl : (b.drop a).take e = [46]
    · right
      have he : e = 1 := by
        have := congrArg List.length hl
        simp only [List.length_take, List.length_cons, List.length_nil] at this
        omega
      subst he
      refine ⟨[], ls, by rw [hl]; rfl, by simp, ?_, fun i h1 h2 => by simp [tot] at h2; omega⟩
      have h46 : b[a]? = some 46 := by
        have : ((b.drop a).take 1)[0]? = some 46 := by rw [hl]; rfl
        rw [List.getElem?_take] at this
        simpa using this
      simp only [tot, Nat.add_zero]
      exact ⟨h46, hy', ha⟩
    · have hno : ∀ i, a ≤ i → i < a + (e + 2) → ¬ dt b i := by
        intro i h1 h3 hd
        by_cases hia : i = a
        · subst hia
          have hc : crlf (b.drop i) 1 := (crlf_drop b i 1).2 hd.2.1
          have he : e ≤ 1 := by
            rcases Nat.lt_or_ge 1 e with h5 | h5
            · exact absurd hc (hn 1 h5)
            · exact h5
          rcases Nat.lt_or_ge e 1 with h5 | h5
          · have he0 : e = 0 := by omega
            subst he0
            have := hy'.1
            rw [Nat.add_zero, hd.1] at this
            cases this
          · have he1 : e = 1 := by omega
            subst he1
            refine hl ?_
            have hlt : i < b.length := (List.getElem?_eq_some_iff.1 hd.1).1
            have h46 : b[i] = 46 := by
              have := hd.1
              rw [getI hlt] at this
              exact Option.some.inj this
            rw [List.drop_eq_getElem_cons hlt, h46]
            rfl
        · rcases hd.2.2 with h0 | ⟨h4, hc⟩
          · omega
          · by_cases h5 : a ≤ i - 2
            · refine hn (i - 2 - a) (by omega) ((crlf_drop b a _).2 ?_)
              rw [show a + (i - 2 - a) = i - 2 by omega]; exact hc
            · have h6 : i = a + 1 := by omega
              rcases ha with h0 | ⟨h7, hp⟩
              · omega
              · have h8 := hc.1
                have h9 := hp.2
                rw [show a - 2 + 1 = i - 2 by omega, h8] at h9
                cases h9
      rcases ih (a + (e + 2)) hq1 (.inr ⟨by omega, by rw [show a + (e + 2) - 2 = a + e by omega]; exact hy'⟩) with ⟨h1, h3⟩ | ⟨xs, ys, h1, h3, h4, h5⟩
      · left
        refine ⟨fun l hm => ?_, fun i hi => ?_⟩
        · rcases List.mem_cons.1 hm with rfl | hm
          · exact hl
          · exact h1 l hm
        · rcases Nat.lt_or_ge i (a + (e + 2)) with h6 | h6
          · exact hno i hi h6
          · exact h3 i h6
      · right
        have hlen : ((b.drop a).take e).length = e := by rw [List.length_take]; omega
        refine ⟨(b.drop a).take e :: xs, ys, by rw [h1]; rfl, fun l hm => ?_, ?_, fun i hi h6 => ?_⟩
        · rcases List.mem_cons.1 hm with rfl | hm
          · exact hl
          · exact h3 l hm
        · simp only [tot, hlen]
          rw [show a + (e + 2 + tot xs) = a + (e + 2) + tot xs by omega]; exact h4
        · simp only [tot, hlen] at h6
          rcases Nat.lt_or_ge i (a + (e + 2)) with h7 | h7
          · exact hno i hi h7
          · exact h5 i h7 (by omega)
end Go.Abs.Sh
