import Derived.Test.YtabnbhknefibaaaDoorDotA
import Derived.Test.YtabnbhknefibaaaDoorKeepM
namespace Go.Abs.Sh
set_option linter.unusedVariables false
set_option linter.unusedSimpArgs false
/-! DotB's and DotD's lemmas that stages without Stuff want too: Lines, the reference's Body. -/
theorem tot_app : ∀ a b : List (List Int), tot (a ++ b) = tot a + tot b
  | [], b => by simp [tot]
  | x :: a, b => by simp only [List.cons_append, tot, tot_app a b]; omega
theorem tot_mem {ls : List (List Int)} {l : List Int} (h : l ∈ ls) : l.length + 2 ≤ tot ls := by
  induction ls with
  | nil => simp at h
  | cons m ls ih =>
    simp only [tot]
    rcases List.mem_cons.1 h with rfl | h
    · omega
    · have := ih h; omega
def linesS : List Int → List (List Int) → Option (List (List Int) ⊕ Unit) := fun (x : (List Int)) (s7 : (List (List Int))) =>
      (appO 1 ([] : List Int) x).bind fun v2 =>
      (appO 24 s7 [v2]).bind fun v3 =>
      some (.inl v3)
theorem fol_lines : ∀ (ls s : List (List Int)), s.length * 24 + tot ls * 24 < 140737488355328 → folL linesS ls s = some (.inl (s ++ ls))
  | [], s, _ => by simp [folL]
  | l :: ls, s, hs => by
    simp only [tot] at hs
    have e : linesS l s = some (.inl (s ++ [l])) := by
      unfold linesS
      refine bnd (x := l) (by rw [app_of (by simp; omega) (by simp; omega)]; rfl) (bnd (app_of (by simp; omega) (by simp; omega)) rfl)
    simp only [folL]
    rw [e]
    refine (fol_lines ls _ (by simp only [List.length_append, List.length_cons, List.length_nil]; omega)).trans ?_
    simp
theorem lines14 {b : List Int} {ls : List (List Int)} {r : List Int} (H : Lns b ls r) (hb : byt b) (hl : b.length < 4000000000) : dots_Lines b = some ls := by
  have hj := lns_join H
  have ht : b.length = tot ls + r.length := by rw [hj, List.length_append, jn_len]
  unfold dots_Lines dots_lines
  refine bnd rfl ?_
  refine bndL (s := ls) (lines_range linesS H hb (by omega) _ _ ?_) rfl
  have := fol_lines ls [] (by simp; omega)
  simpa using this
def okb : Int → List Int → Prop
  | _, [] => True
  | p, x :: l => (x = 13 → l.head? = some 10) ∧ (x = 10 → p = 13) ∧ okb x l
theorem okb_line : ∀ (b : List Int) (p : Int), okb p b → p ≠ 13 → b.getLast? = some 10 → ∃ l r, b = l ++ 13 :: 10 :: r ∧ cln l ∧ okb 10 r ∧ (r = [] ∨ r.getLast? = some 10)
  | [], p, _, _, h => by simp at h
  | x :: t, p, h, hp, hl => by
    obtain ⟨h1, h2, h3⟩ := h
    by_cases hx : x = 13
    · subst hx
      cases t with
      | nil => simp at hl
      | cons y r =>
        have hy := h1 rfl
        simp at hy
        subst hy
        refine ⟨[], r, rfl, fun z hz => by simp at hz, h3.2.2, ?_⟩
        cases r with
        | nil => exact .inl rfl
        | cons z r => right; rw [List.getLast?_cons_cons, List.getLast?_cons_cons] at hl; exact hl
    · have hx2 : x ≠ 10 := fun e => hp (h2 e)
      cases t with
      | nil => simp at hl; exact absurd hl hx2
      | cons y t =>
        rw [List.getLast?_cons_cons] at hl
        obtain ⟨l, r, e, hc, ho, hr⟩ := okb_line (y :: t) x h3 hx hl
        refine ⟨x :: l, r, by rw [e]; rfl, fun z hz => ?_, ho, hr⟩
        rcases List.mem_cons.1 hz with rfl | hz
        · exact ⟨hx, hx2⟩
        · exact hc z hz
theorem okb_lines : ∀ (n : Nat) (b : List Int) (p : Int), b.length ≤ n → okb p b → p ≠ 13 → (b = [] ∨ b.getLast? = some 10) → ∃ ls, (∀ l ∈ ls, cln l) ∧ b = jn ls
  | 0, b, p, hn, _, _, _ => ⟨[], fun l hl => by simp at hl, by cases b with | nil => rfl | cons => simp at hn⟩
  | n + 1, b, p, hn, ho, hp, hl => by
    rcases hl with rfl | hl
    · exact ⟨[], fun l hl => by simp at hl, rfl⟩
    · obtain ⟨l, r, e, hc, ho2, hr⟩ := okb_line b p ho hp hl
      obtain ⟨ls, h1, h2⟩ := okb_lines n r 10 (by rw [e] at hn; simp at hn; omega) ho2 (by decide) hr
      refine ⟨l :: ls, fun m hm => ?_, by rw [e, h2]; rfl⟩
      rcases List.mem_cons.1 hm with rfl | hm
      · exact hc
      · exact h1 m hm
theorem okb_one : ∀ (l r : List Int) (p : Int), cln l → okb 10 r → okb p (l ++ 13 :: 10 :: r)
  | [], r, p, _, h => ⟨fun _ => rfl, fun e => by omega, fun e => by omega, fun _ => rfl, h⟩
  | x :: l, r, p, hc, h => ⟨fun e => absurd e (hc x (by simp)).1, fun e => absurd e (hc x (by simp)).2, okb_one l r x (fun y hy => hc y (by simp [hy])) h⟩
theorem okb_jn : ∀ (ls : List (List Int)) (p : Int), (∀ l ∈ ls, cln l) → okb p (jn ls)
  | [], _, _ => trivial
  | l :: ls, p, h => okb_one l (jn ls) p (h l (by simp)) (okb_jn ls 10 fun m hm => h m (by simp [hm]))
theorem last_jn : ∀ (ls : List (List Int)), jn ls = [] ∨ (jn ls).getLast? = some 10
  | [] => .inl rfl
  | l :: ls => by
    right
    rcases last_jn ls with h | h
    · simp [jn, h]
    · have : (13 :: 10 :: jn ls).getLast? = some 10 := by
        cases hj : jn ls with
        | nil => rfl
        | cons y r => rw [List.getLast?_cons_cons, List.getLast?_cons_cons, ← hj]; exact h
      simp only [jn]
      rw [List.getLast?_append, this]; rfl
def bad (b : List Int) (i : Nat) : Bool := if b[i]? = some 13 then decide (b[i + 1]? ≠ some 10) else if b[i]? = some 10 then decide (i = 0 ∨ b[i - 1]? ≠ some 13) else false
theorem okb_of : ∀ (b : List Int) (p : Int), (∀ i, i < b.length → (b[i]? = some 13 → b[i + 1]? = some 10) ∧ (b[i]? = some 10 → (if i = 0 then some p else b[i - 1]?) = some 13)) → okb p b
  | [], _, _ => trivial
  | x :: l, p, h => by
    refine ⟨fun e => ?_, fun e => ?_, okb_of l x fun i hi => ?_⟩
    · have := (h 0 (by simp)).1 (by simp [e])
      cases l with
      | nil => simp at this
      | cons y l => simpa using this
    · have := (h 0 (by simp)).2 (by simp [e])
      simpa using this
    · have := h (i + 1) (by simp; omega)
      refine ⟨fun e => by simpa using this.1 (by simpa using e), fun e => ?_⟩
      have h2 := this.2 (by simpa using e)
      rw [if_neg (by omega)] at h2
      cases i with
      | zero => simpa using h2
      | succ i => simpa using h2
theorem bad_no {b : List Int} (h : ∀ i, i < b.length → (!bad b i) = true) : okb 0 b := by
  refine okb_of b 0 fun i hi => ?_
  have h1 := h i hi
  simp only [bad, Bool.not_eq_true'] at h1
  refine ⟨fun e => ?_, fun e => ?_⟩
  · rw [if_pos e, decide_eq_false_iff_not, Classical.not_not] at h1; exact h1
  · rw [e] at h1
    rw [if_neg (by simp), if_pos rfl, decide_eq_false_iff_not, not_or, Classical.not_not] at h1
    rw [if_neg h1.1]; exact h1.2
theorem get_of {b : List Int} {i : Nat} (h : i < b.length) : b[i]? = some b[i] := List.getElem?_eq_getElem h
theorem body_step (b : List Int) {i : Nat} (hi : i < b.length) (hl : b.length < 4611686018427387904) :
    ((ixO (i : Int) b.length).bind fun v2 =>
          (getO b v2).bind fun v3 =>
          cond ((v3 == 13))
            ((some (IntKind.i64.wrap ((i : Int) + 1))).bind fun v4 =>
            cond ((decide ((b.length : Int) ≤ v4)))
              (some (.inl true))
              ((some (IntKind.i64.wrap ((i : Int) + 1))).bind fun v5 =>
              (ixO v5 b.length).bind fun v6 =>
              (getO b v6).bind fun v7 =>
              cond ((v7 != 10))
                (some (.inl true))
                ((ixO (i : Int) b.length).bind fun v8 =>
                (getO b v8).bind fun v9 =>
                cond ((v9 == 10))
                  (cond (((i : Int) == 0))
                    (some (.inl true))
                    ((some (IntKind.i64.wrap ((i : Int) - 1))).bind fun v10 =>
                    (ixO v10 b.length).bind fun v11 =>
                    (getO b v11).bind fun v12 =>
                    some (.inl (v12 != 13))))
                  (some (.inl false)))))
            ((ixO (i : Int) b.length).bind fun v13 =>
            (getO b v13).bind fun v14 =>
            cond ((v14 == 10))
              (cond (((i : Int) == 0))
                (some (.inl true))
                ((some (IntKind.i64.wrap ((i : Int) - 1))).bind fun v15 =>
                (ixO v15 b.length).bind fun v16 =>
                (getO b v16).bind fun v17 =>
                some (.inl (v17 != 13))))
              (some (.inl false))) : Option (Bool ⊕ ((Int) ⊕ ((Unit) ⊕ Bool)))) = some (.inl (bad b i)) := by
  have e0 : some (IntKind.i64.wrap ((i : Int) + 1)) = some ((i + 1 : Nat) : Int) := by rw [wrap_j (by omega) (by omega)]; simp
  refine bnd (ixO_of hi) (bnd (getO_of hi) ?_)
  by_cases h13 : b[i] = 13
  · refine cnd_t (by rw [h13]; rfl) (bnd e0 ?_)
    unfold bad
    rw [get_of hi, if_pos (by rw [h13])]
    by_cases hn : i + 1 < b.length
    · refine cnd_f (decide_eq_false (by omega)) (bnd e0 (bnd (ixO_of hn) (bnd (getO_of hn) ?_)))
      rw [get_of hn]
      by_cases h10 : b[i + 1] = 10
      · refine cnd_f (by rw [h10]; rfl) (bnd (ixO_of hi) (bnd (getO_of hi) (cnd_f (by rw [h13]; rfl) ?_)))
        simp [h10]
      · refine cnd_t (by simpa using h10) ?_
        simp [h10]
    · refine cnd_t (decide_eq_true (by omega)) ?_
      rw [List.getElem?_eq_none (by omega)]; rfl
  · refine cnd_f (by simpa using h13) (bnd (ixO_of hi) (bnd (getO_of hi) ?_))
    unfold bad
    rw [get_of hi, if_neg (by simpa using h13)]
    by_cases h10 : b[i] = 10
    · refine cnd_t (by rw [h10]; rfl) ?_
      rw [if_pos (by rw [h10])]
      cases i with
      | zero => rfl
      | succ i =>
        refine cnd_f (by rw [beq_eq_false_iff_ne]; omega) (bnd (x := ((i : Nat) : Int)) (by rw [wrap_j (by omega) (by omega)]; simp) (bnd (ixO_of (by omega)) (bnd (getO_of (by omega)) ?_)))
        rw [show i + 1 - 1 = i by omega, get_of (by omega)]
        congr 2
        rw [Bool.eq_iff_iff, bne_iff_ne, decide_eq_true_eq]
        simp
    · refine cnd_f (by simpa using h10) ?_
      rw [if_neg (by simpa using h10)]
theorem body_any (b : List Int) (hb : byt b) (hl : b.length < 4294967281) : wherryref11_Body b = some false ∨ (wherryref11_Body b = some true ∧ ∃ ls, (∀ l ∈ ls, cln l) ∧ (∀ l ∈ ls, byt l) ∧ b = jn ls) := by
  have hloop := loop_all (R := Bool) (f := fun (s31 : Int) => cond ((decide (s31 < (b.length : Int))))
        (bindS (S := Bool) (A := ((Int) ⊕ ((Unit) ⊕ Bool)))
          ((ixO s31 b.length).bind fun v2 =>
          (getO b v2).bind fun v3 =>
          cond ((v3 == 13))
            ((some (IntKind.i64.wrap (s31 + 1))).bind fun v4 =>
            cond ((decide ((b.length : Int) ≤ v4)))
              (some (.inl true))
              ((some (IntKind.i64.wrap (s31 + 1))).bind fun v5 =>
              (ixO v5 b.length).bind fun v6 =>
              (getO b v6).bind fun v7 =>
              cond ((v7 != 10))
                (some (.inl true))
                ((ixO s31 b.length).bind fun v8 =>
                (getO b v8).bind fun v9 =>
                cond ((v9 == 10))
                  (cond ((s31 == 0))
                    (some (.inl true))
                    ((some (IntKind.i64.wrap (s31 - 1))).bind fun v10 =>
                    (ixO v10 b.length).bind fun v11 =>
                    (getO b v11).bind fun v12 =>
                    some (.inl (v12 != 13))))
                  (some (.inl false)))))
            ((ixO s31 b.length).bind fun v13 =>
            (getO b v13).bind fun v14 =>
            cond ((v14 == 10))
              (cond ((s31 == 0))
                (some (.inl true))
                ((some (IntKind.i64.wrap (s31 - 1))).bind fun v15 =>
                (ixO v15 b.length).bind fun v16 =>
                (getO b v16).bind fun v17 =>
                some (.inl (v17 != 13))))
              (some (.inl false))))
          (fun (s45 : Bool) =>
            cond (s45)
              (some (.inr (.inr (false))))
              ((some (IntKind.i64.wrap (s31 + 1))).bind fun v23 =>
              some (.inl v23))) some)
        (some (.inr (.inl ())))) (fun i => !bad b i) b.length false (fuel := BIG) (by unfold BIG; omega)
    (fun i hi hp => cnd_t (decide_eq_true (by omega)) (bndL (s := bad b i) (body_step b hi (by omega)) (cnd_f (by simpa using hp) (bnd (some_wrap (by omega) (by omega)) rfl))))
    (fun i hi hp => cnd_t (decide_eq_true (by omega)) (bndL (s := bad b i) (body_step b hi (by omega)) (cnd_t (by simpa using hp) rfl)))
    (cnd_f (decide_eq_false (by omega)) rfl)
  by_cases hall : ∀ i, i < b.length → (!bad b i) = true
  · rw [if_pos hall] at hloop
    have ho := bad_no hall
    cases hbn : b with
    | nil => right; subst hbn; exact ⟨rfl, [], fun l hl => by simp at hl, fun l hl => by simp at hl, rfl⟩
    | cons y t =>
      rw [← hbn]
      have hpos : 0 < b.length := by rw [hbn]; simp
      have hlast : b.getLast? = some (b[b.length - 1]'(by omega)) := by rw [List.getLast?_eq_getElem?, get_of (by omega)]
      have key : wherryref11_Body b = some (b[b.length - 1]'(by omega) == 10) := by
        unfold wherryref11_Body
        refine bndL (s := ()) hloop (bndL (s := (b[b.length - 1]'(by omega) == 10)) (cnd_f (by rw [beq_eq_false_iff_ne]; omega) (bnd (x := ((b.length - 1 : Nat) : Int)) (by rw [wrap_j (by omega) (by omega)]; congr 1; omega) (bnd (ixO_of (by omega)) (bnd (getO_of (by omega)) rfl)))) rfl)
      by_cases h10 : b[b.length - 1]'(by omega) = 10
      · right
        rw [key, h10]
        obtain ⟨ls, h1, h2⟩ := okb_lines b.length b 0 (Nat.le_refl _) ho (by decide) (.inr (by rw [hlast, h10]))
        exact ⟨rfl, ls, h1, byt_jn (by rw [← h2]; exact hb), h2⟩
      · left
        rw [key, beq_eq_false_iff_ne.2 h10]
  · rw [if_neg hall] at hloop
    left
    unfold wherryref11_Body
    exact bndR (a := false) hloop rfl
end Go.Abs.Sh
