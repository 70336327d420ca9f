import Derived.Test.YtgonanjdmdlkjaaDoorDotI
namespace Go.Abs.Sh
set_option linter.unusedVariables false
set_option linter.unusedSimpArgs false
def endS (b : List Int) : (Int) → Option ((Int) ⊕ ((Unit) ⊕ Int)) := (fun (s21 : Int) =>
      (some (IntKind.i64.wrap (s21 + 1))).bind fun v1 =>
      cond ((decide (v1 < (b.length : Int))))
        (bindS (S := Bool) (A := ((Int) ⊕ ((Unit) ⊕ Int)))
          ((ixO s21 b.length).bind fun v3 =>
          (getO b v3).bind fun v4 =>
          cond ((v4 == 13))
            ((some (IntKind.i64.wrap (s21 + 1))).bind fun v5 =>
            (ixO v5 b.length).bind fun v6 =>
            (getO b v6).bind fun v7 =>
            some (.inl (v7 == 10)))
            (some (.inl false)))
          (fun (s35 : Bool) =>
            cond (s35)
              (some (.inr (.inr (s21))))
              ((some (IntKind.i64.wrap (s21 + 1))).bind fun v13 =>
              some (.inl v13))) some)
        (some (.inr (.inl ()))))
def rlS (b : List Int) : ((List (List Int)) × Int × Int) → Option (((List (List Int)) × Int × Int) ⊕ (((List (List Int))) ⊕ (List (List Int)))) := (fun ((s14, s15, s16) : (List (List Int)) × Int × Int) =>
      cond ((decide (0 ≤ s16)))
        ((sliO b s15 s16).bind fun v3 =>
        (wherrykeep_Twin v3).bind fun v4 =>
        (appO 24 s14 [v4]).bind fun v7 =>
        (some (IntKind.i64.wrap (s16 + 2))).bind fun v8 =>
        (wherryref11_end b v8).bind fun v9 =>
        some (.inl (v7, v8, v9)))
        (some (.inr (.inl s14))))
def dotS (b : List Int) : (Int) → Option ((Int) ⊕ ((Unit) ⊕ Int)) := (fun (s30 : Int) =>
      (some (IntKind.i64.wrap (s30 + 2))).bind fun v1 =>
      cond ((decide (v1 < (b.length : Int))))
        (bindS (S := Bool) (A := ((Int) ⊕ ((Unit) ⊕ Int)))
          ((ixO s30 b.length).bind fun v3 =>
          (getO b v3).bind fun v4 =>
          cond ((v4 == 46))
            ((some (IntKind.i64.wrap (s30 + 1))).bind fun v5 =>
            (ixO v5 b.length).bind fun v6 =>
            (getO b v6).bind fun v7 =>
            cond ((v7 == 13))
              ((some (IntKind.i64.wrap (s30 + 2))).bind fun v8 =>
              (ixO v8 b.length).bind fun v9 =>
              (getO b v9).bind fun v10 =>
              cond ((v10 == 10))
                (cond ((s30 == 0))
                  (some (.inl true))
                  (cond ((decide (1 < s30)))
                    ((some (IntKind.i64.wrap (s30 - 2))).bind fun v11 =>
                    (ixO v11 b.length).bind fun v12 =>
                    (getO b v12).bind fun v13 =>
                    cond ((v13 == 13))
                      ((some (IntKind.i64.wrap (s30 - 1))).bind fun v14 =>
                      (ixO v14 b.length).bind fun v15 =>
                      (getO b v15).bind fun v16 =>
                      some (.inl (v16 == 10)))
                      (some (.inl false)))
                    (some (.inl false))))
                (some (.inl false)))
              (some (.inl false)))
            (some (.inl false)))
          (fun (s44 : Bool) =>
            cond (s44)
              (some (.inr (.inr (s30))))
              ((some (IntKind.i64.wrap (s30 + 1))).bind fun v22 =>
              some (.inl v22))) some)
        (some (.inr (.inl ()))))
def crlf (b : List Int) (i : Nat) : Prop := b[i]? = some 13 ∧ b[i + 1]? = some 10
instance (b : List Int) (i : Nat) : Decidable (crlf b i) := by unfold crlf; infer_instance
theorem idx2_no : ∀ {l : List Int}, idx2 l = none → ∀ j, ¬ crlf l j
  | [], _, j, h => by simp [crlf] at h
  | x :: l, h, j, hc => by
    unfold idx2 at h
    split at h
    · cases h
    · rename_i hx
      have hn : idx2 l = none := by cases hi : idx2 l with | none => rfl | some k => simp [hi] at h
      cases j with
      | zero =>
        simp only [crlf, List.getElem?_cons_zero, Option.some.injEq, List.getElem?_cons_succ, Nat.zero_add] at hc
        exact hx ⟨hc.1, by rw [List.head?_eq_getElem?]; exact hc.2⟩
      | succ j => exact idx2_no hn j (by simpa [crlf] using hc)
theorem idx2_yes : ∀ {l : List Int} {e : Nat}, idx2 l = some e → crlf l e ∧ ∀ j, j < e → ¬ crlf l j
  | [], e, h => by simp [idx2] at h
  | x :: l, e, h => by
    unfold idx2 at h
    split at h
    · rename_i hx
      cases h
      refine ⟨⟨by simp [hx.1], ?_⟩, fun j hj => by omega⟩
      rw [List.head?_eq_getElem?] at hx; simpa using hx.2
    · rename_i hx
      cases hi : idx2 l with
      | none => simp [hi] at h
      | some k =>
        simp [hi] at h
        subst h
        obtain ⟨h1, h2⟩ := idx2_yes hi
        refine ⟨by simpa [crlf] using h1, fun j hj hc => ?_⟩
        cases j with
        | zero =>
          simp only [crlf, List.getElem?_cons_zero, Option.some.injEq, List.getElem?_cons_succ, Nat.zero_add] at hc
          exact hx ⟨hc.1, by rw [List.head?_eq_getElem?]; exact hc.2⟩
        | succ j => exact h2 j (by omega) (by simpa [crlf] using hc)
theorem crlf_drop (b : List Int) (a j : Nat) : crlf (b.drop a) j ↔ crlf b (a + j) := by simp [crlf, Nat.add_assoc]
theorem crlf_lt {b : List Int} {i : Nat} (h : crlf b i) : i + 1 < b.length := (List.getElem?_eq_some_iff.1 h.2).1
theorem getI {b : List Int} {i : Nat} (h : i < b.length) : b[i]? = some b[i] := List.getElem?_eq_getElem h
theorem end_step (b : List Int) (hl : b.length < 4000000000) {i : Nat} (hi : i + 1 < b.length) : endS b (i : Int) = if crlf b i then some (.inr (.inr (i : Int))) else some (.inl ((i + 1 : Nat) : Int)) := by
  have e0 : some (IntKind.i64.wrap ((i : Int) + 1)) = some ((i + 1 : Nat) : Int) := by rw [wrap_j (by omega) (by omega)]; simp
  unfold endS
  refine bnd e0 (cnd_t (decide_eq_true (by omega)) (bndL (s := decide (crlf b i)) (bnd (ixO_of (by omega)) (bnd (getO_of (by omega)) ?_)) ?_))
  · by_cases h13 : b[i] = 13
    · refine cnd_t (by rw [h13]; rfl) (bnd e0 (bnd (ixO_of hi) (bnd (getO_of hi) ?_)))
      congr 2
      rw [Bool.eq_iff_iff, beq_iff_eq, decide_eq_true_eq, crlf, getI (by omega), getI hi, h13]
      simp
    · refine cnd_f (by simpa using h13) ?_
      congr 2
      rw [eq_comm, decide_eq_false_iff_not, crlf, getI (by omega)]
      simp [h13]
  · by_cases h : crlf b i
    · rw [if_pos h]; exact cnd_t (decide_eq_true h) rfl
    · rw [if_neg h]; exact cnd_f (decide_eq_false h) (bnd e0 rfl)
theorem end_stop (b : List Int) (hl : b.length < 4000000000) {i : Nat} (hi : b.length ≤ i + 1) (hi2 : i < 4000000001) : endS b (i : Int) = some (.inr (.inl ())) := by
  unfold endS
  refine bnd (x := ((i + 1 : Nat) : Int)) (by rw [wrap_j (by omega) (by omega)]; simp) (cnd_f (decide_eq_false (by omega)) rfl)
theorem end_eq (b : List Int) (hl : b.length < 4000000000) {a : Nat} (ha : a ≤ b.length) : wherryref11_end b (a : Int) = some (match idx2 (b.drop a) with | none => -1 | some e => ((a + e : Nat) : Int)) := by
  cases h : idx2 (b.drop a) with
  | none =>
    have hno := idx2_no h
    have hl2 : loopF (endS b) BIG (a : Int) = some (.inl ()) := by
      refine loop_from (fun i => ((a + i : Nat) : Int)) (b.length - 1 - a) BIG (by simp) (by unfold BIG; omega) (fun i hi => ?_) ?_
      · rw [end_step b hl (by omega), if_neg fun hc => hno i ((crlf_drop b a i).2 hc)]; rfl
      · exact end_stop b hl (by omega) (by omega)
    unfold wherryref11_end
    exact bndL (s := ()) hl2 rfl
  | some e =>
    obtain ⟨h1, h2⟩ := idx2_yes h
    have h1' := (crlf_drop b a e).1 h1
    have hlt := crlf_lt h1'
    have hl2 : loopF (endS b) BIG (a : Int) = some (.inr ((a + e : Nat) : Int)) := by
      refine loop_from (fun i => ((a + i : Nat) : Int)) e BIG (by simp) (by unfold BIG; omega) (fun i hi => ?_) ?_
      · rw [end_step b hl (by omega), if_neg fun hc => h2 i hi ((crlf_drop b a i).2 hc)]; rfl
      · rw [end_step b hl hlt, if_pos h1']
    unfold wherryref11_end
    exact bndR (a := ((a + e : Nat) : Int)) hl2 rfl
set_option maxHeartbeats 2000000 in
theorem rl_go (b : List Int) (hl : b.length < 4000000000) : ∀ {t : List Int} {ls : List (List Int)} {r : List Int}, Lns t ls r → ∀ (a : Nat) (acc : List (List Int)) (x : Int) (fuel : Nat), t = b.drop a → a ≤ b.length → wherryref11_end b (a : Int) = some x → acc.length + (b.length - a) < 4000000001 → ls.length < fuel →
    loopF (rlS b) fuel (acc, (a : Int), x) = some (.inl (acc ++ ls)) := by
  intro t ls r H
  induction H with
  | nil h =>
    intro a acc x fuel ht ha hx hb hf
    subst ht
    rw [end_eq b hl ha, h] at hx
    cases hx
    obtain ⟨k, rfl⟩ : ∃ k, fuel = k + 1 := ⟨fuel - 1, by omega⟩
    rw [loop_exit (o := .inl acc) (by unfold rlS; exact cnd_f rfl rfl)]
    simp
  | cons h t ih =>
    rename_i b0 e ls r
    intro a acc x fuel ht ha hx hb hf
    subst ht
    rw [end_eq b hl ha, h] at hx
    obtain rfl : ((a + e : Nat) : Int) = x := Option.some.inj hx
    have h2 := (idx2_some h).1
    rw [List.length_drop] at h2
    obtain ⟨k, rfl⟩ : ∃ k, fuel = k + 1 := ⟨fuel - 1, by omega⟩
    have q2 : a + e + 2 ≤ b.length := by omega
    have q3 : (acc ++ [(b.drop a).take e]).length + (b.length - (a + e + 2)) < 4000000001 := by
      have e1 : (acc ++ [(b.drop a).take e]).length = acc.length + 1 := by simp
      rw [e1]
      omega
    have q4 : ls.length < k := by rw [List.length_cons] at hf; omega
    obtain ⟨x2, he⟩ : ∃ x2, wherryref11_end b ((a + e + 2 : Nat) : Int) = some x2 := ⟨_, end_eq b hl (by omega)⟩
    have hs : rlS b (acc, (a : Int), ((a + e : Nat) : Int)) = some (.inl (acc ++ [(b.drop a).take e], ((a + e + 2 : Nat) : Int), x2)) := by
      unfold rlS
      refine cnd_t (decide_eq_true (by show (0 : Int) ≤ ((a + e : Nat) : Int); omega)) ?_
      refine bnd (x := (b.drop a).take e) ((sli_nat b (by omega) (by omega)).trans (by rw [show a + e - a = e by omega])) ?_
      refine bnd (twin14 _ (by simp; omega)) (bnd (app_of (by simp; omega) (by simp; omega)) ?_)
      refine bnd (x := ((a + e + 2 : Nat) : Int)) (by show some (IntKind.i64.wrap (((a + e : Nat) : Int) + 2)) = _; rw [wrap_j (by omega) (by omega)]; simp) ?_
      exact bnd he rfl
    rw [loop_next hs]
    have q1 : b.drop (a + e + 2) = (b.drop a).drop (e + 2) := by rw [List.drop_drop, Nat.add_assoc]
    have h3 := ih (a + e + 2) (acc ++ [(b.drop a).take e]) x2 k q1.symm q2 he q3 q4
    rw [h3, List.append_assoc]
    rfl
theorem refLines {b : List Int} {ls : List (List Int)} {r : List Int} (H : Lns b ls r) (hl : b.length < 4000000000) : wherryref11_Lines b = some ls := by
  obtain ⟨x0, he⟩ : ∃ x0, wherryref11_end b ((0 : Nat) : Int) = some x0 := ⟨_, end_eq b hl (by omega)⟩
  have hj := lns_join H
  have hlen : b.length = tot ls + r.length := by rw [hj, List.length_append, jn_len]
  have hcnt : ∀ ls : List (List Int), 2 * ls.length ≤ tot ls := by
    intro ls
    induction ls with
    | nil => simp [tot]
    | cons l ls ih => simp only [tot, List.length_cons]; omega
  have := hcnt ls
  unfold wherryref11_Lines
  exact bnd he (bndL (s := ls) ((rl_go b hl H 0 [] x0 BIG rfl (by omega) he (by simp only [List.length_nil]; omega) (by unfold BIG; omega)).trans (by rw [List.nil_append])) rfl)
end Go.Abs.Sh
