import Derived.Test.YthhebpiaknfnhaaTakP
import Derived.Test.YthhebpiaknfnhaaHeavM
namespace Go.Abs.Sh
set_option linter.unusedVariables false
set_option linter.unusedSimpArgs false
def folL {X S O : Type} (step : X → S → Option (S ⊕ O)) : List X → S → Option (S ⊕ O)
  | [], s => some (.inl s)
  | x :: l, s => match step x s with
    | none => none
    | some (.inl s') => folL step l s'
    | some (.inr o) => some (.inr o)
theorem wrap_j {n : Int} (h0 : -9223372036854775808 ≤ n) (h1 : n < 9223372036854775808) : some (IntKind.i64.wrap n) = some n := by rw [wrap_i64 h0 h1]
def jn : List (List Int) → List Int
  | [] => []
  | l :: ls => l ++ 13 :: 10 :: jn ls
def cln (l : List Int) : Prop := ∀ x ∈ l, x ≠ 13 ∧ x ≠ 10
theorem crlf_clean : ∀ {l : List Int}, cln l → crlfIx l = -1
  | [], _ => rfl
  | x :: l, h => by
    have hx := h x (by simp)
    unfold crlfIx
    rw [if_neg (by rintro (e | e); exact hx.1 e; exact hx.2 e), if_pos (crlf_clean fun y hy => h y (by simp [hy]))]
theorem crlf_dirty : ∀ {l : List Int}, ¬ cln l → 0 ≤ crlfIx l
  | [], h => absurd (fun x hx => by simp at hx) h
  | x :: l, h => by
    unfold crlfIx
    by_cases hx : x = 13 ∨ x = 10
    · rw [if_pos hx]; omega
    · rw [if_neg hx]
      have := crlf_dirty (l := l) (fun hc => h fun y hy => by
        rcases List.mem_cons.1 hy with rfl | hy
        · exact ⟨fun e => hx (.inl e), fun e => hx (.inr e)⟩
        · exact hc y hy)
      rw [if_neg (by omega)]; omega
def tot : List (List Int) → Nat
  | [] => 0
  | l :: ls => l.length + 2 + tot ls
theorem jn_len : ∀ ls, (jn ls).length = tot ls
  | [] => rfl
  | l :: ls => by simp [jn, tot, jn_len ls]; omega
theorem byt_jn {ls : List (List Int)} (h : byt (jn ls)) : ∀ l ∈ ls, byt l := by
  induction ls with
  | nil => intro l hl; simp at hl
  | cons m ls ih =>
    intro l hl
    simp only [jn] at h
    rcases List.mem_cons.1 hl with rfl | hl
    · exact fun x hx => h x (by simp [hx])
    · exact ih (fun x hx => h x (by simp [hx])) l hl
theorem jn_byt {ls : List (List Int)} (h : ∀ l ∈ ls, byt l) : byt (jn ls) := by
  induction ls with
  | nil => intro l hl; simp [jn] at hl
  | cons m ls ih =>
    intro x hx
    simp only [jn, List.mem_append, List.mem_cons] at hx
    rcases hx with hx | rfl | rfl | hx
    · exact h m (by simp) x hx
    · omega
    · omega
    · exact ih (fun l hl => h l (by simp [hl])) x hx
/-! DotB's and DotD's lemmas that stages without Stuff want too: Lines, the reference's Body. -/
def okb : Int → List Int → Prop
  | _, [] => True
  | p, x :: l => (x = 13 → l.head? = some 10) ∧ (x = 10 → p = 13) ∧ okb x l
theorem okb_line : ∀ (b : List Int) (p : Int), okb p b → p ≠ 13 → b.getLast? = some 10 → ∃ l r, b = l ++ 13 :: 10 :: r ∧ cln l ∧ okb 10 r ∧ (r = [] ∨ r.getLast? = some 10)
  | [], p, _, _, h => by simp at h
  | x :: t, p, h, hp, hl => by
    obtain ⟨h1, h2, h3⟩ := h
    by_cases hx : x = 13
    · subst hx
      cases t with
      | nil => simp at hl
      | cons y r =>
        have hy := h1 rfl
        simp at hy
        subst hy
        refine ⟨[], r, rfl, fun z hz => by simp at hz, h3.2.2, ?_⟩
        cases r with
        | nil => exact .inl rfl
        | cons z r => right; rw [List.getLast?_cons_cons, List.getLast?_cons_cons] at hl; exact hl
    · have hx2 : x ≠ 10 := fun e => hp (h2 e)
      cases t with
      | nil => simp at hl; exact absurd hl hx2
      | cons y t =>
        rw [List.getLast?_cons_cons] at hl
        obtain ⟨l, r, e, hc, ho, hr⟩ := okb_line (y :: t) x h3 hx hl
        refine ⟨x :: l, r, by rw [e]; rfl, fun z hz => ?_, ho, hr⟩
        rcases List.mem_cons.1 hz with rfl | hz
        · exact ⟨hx, hx2⟩
        · exact hc z hz
theorem okb_lines : ∀ (n : Nat) (b : List Int) (p : Int), b.length ≤ n → okb p b → p ≠ 13 → (b = [] ∨ b.getLast? = some 10) → ∃ ls, (∀ l ∈ ls, cln l) ∧ b = jn ls
  | 0, b, p, hn, _, _, _ => ⟨[], fun l hl => by simp at hl, by cases b with | nil => rfl | cons => simp at hn⟩
  | n + 1, b, p, hn, ho, hp, hl => by
    rcases hl with rfl | hl
    · exact ⟨[], fun l hl => by simp at hl, rfl⟩
    · obtain ⟨l, r, e, hc, ho2, hr⟩ := okb_line b p ho hp hl
      obtain ⟨ls, h1, h2⟩ := okb_lines n r 10 (by rw [e] at hn; simp at hn; omega) ho2 (by decide) hr
      refine ⟨l :: ls, fun m hm => ?_, by rw [e, h2]; rfl⟩
      rcases List.mem_cons.1 hm with rfl | hm
      · exact hc
      · exact h1 m hm
def bad (b : List Int) (i : Nat) : Bool := if b[i]? = some 13 then decide (b[i + 1]? ≠ some 10) else if b[i]? = some 10 then decide (i = 0 ∨ b[i - 1]? ≠ some 13) else false
theorem okb_of : ∀ (b : List Int) (p : Int), (∀ i, i < b.length → (b[i]? = some 13 → b[i + 1]? = some 10) ∧ (b[i]? = some 10 → (if i = 0 then some p else b[i - 1]?) = some 13)) → okb p b
  | [], _, _ => trivial
  | x :: l, p, h => by
    refine ⟨fun e => ?_, fun e => ?_, okb_of l x fun i hi => ?_⟩
    · have := (h 0 (by simp)).1 (by simp [e])
      cases l with
      | nil => simp at this
      | cons y l => simpa using this
    · have := (h 0 (by simp)).2 (by simp [e])
      simpa using this
    · have := h (i + 1) (by simp; omega)
      refine ⟨fun e => by simpa using this.1 (by simpa using e), fun e => ?_⟩
      have h2 := this.2 (by simpa using e)
      rw [if_neg (by omega)] at h2
      cases i with
      | zero => simpa using h2
      | succ i => simpa using h2
theorem bad_no {b : List Int} (h : ∀ i, i < b.length → (!bad b i) = true) : okb 0 b := by
  refine okb_of b 0 fun i hi => ?_
  have h1 := h i hi
  simp only [bad, Bool.not_eq_true'] at h1
  refine ⟨fun e => ?_, fun e => ?_⟩
  · rw [if_pos e, decide_eq_false_iff_not, Classical.not_not] at h1; exact h1
  · rw [e] at h1
    rw [if_neg (by simp), if_pos rfl, decide_eq_false_iff_not, not_or, Classical.not_not] at h1
    rw [if_neg h1.1]; exact h1.2
theorem get_of {b : List Int} {i : Nat} (h : i < b.length) : b[i]? = some b[i] := List.getElem?_eq_getElem h
theorem body_step (b : List Int) {i : Nat} (hi : i < b.length) (hl : b.length < 4611686018427387904) :
    ((ixO (i : Int) b.length).bind fun v2 =>
          (getO b v2).bind fun v3 =>
          cond ((v3 == 13))
            ((some (IntKind.i64.wrap ((i : Int) + 1))).bind fun v4 =>
            cond ((decide ((b.length : Int) ≤ v4)))
              (some (.inl true))
              ((some (IntKind.i64.wrap ((i : Int) + 1))).bind fun v5 =>
              (ixO v5 b.length).bind fun v6 =>
              (getO b v6).bind fun v7 =>
              cond ((v7 != 10))
                (some (.inl true))
                ((ixO (i : Int) b.length).bind fun v8 =>
                (getO b v8).bind fun v9 =>
                cond ((v9 == 10))
                  (cond (((i : Int) == 0))
                    (some (.inl true))
                    ((some (IntKind.i64.wrap ((i : Int) - 1))).bind fun v10 =>
                    (ixO v10 b.length).bind fun v11 =>
                    (getO b v11).bind fun v12 =>
                    some (.inl (v12 != 13))))
                  (some (.inl false)))))
            ((ixO (i : Int) b.length).bind fun v13 =>
            (getO b v13).bind fun v14 =>
            cond ((v14 == 10))
              (cond (((i : Int) == 0))
                (some (.inl true))
                ((some (IntKind.i64.wrap ((i : Int) - 1))).bind fun v15 =>
                (ixO v15 b.length).bind fun v16 =>
                (getO b v16).bind fun v17 =>
                some (.inl (v17 != 13))))
              (some (.inl false))) : Option (Bool ⊕ ((Int) ⊕ ((Unit) ⊕ Bool)))) = some (.inl (bad b i)) := by
  have e0 : some (IntKind.i64.wrap ((i : Int) + 1)) = some ((i + 1 : Nat) : Int) := by rw [wrap_j (by omega) (by omega)]; simp
  refine bnd (ixO_of hi) (bnd (getO_of hi) ?_)
  by_cases h13 : b[i] = 13
  · refine cnd_t (by rw [h13]; rfl) (bnd e0 ?_)
    unfold bad
    rw [get_of hi, if_pos (by rw [h13])]
    by_cases hn : i + 1 < b.length
    · refine cnd_f (decide_eq_false (by omega)) (bnd e0 (bnd (ixO_of hn) (bnd (getO_of hn) ?_)))
      rw [get_of hn]
      by_cases h10 : b[i + 1] = 10
      · refine cnd_f (by rw [h10]; rfl) (bnd (ixO_of hi) (bnd (getO_of hi) (cnd_f (by rw [h13]; rfl) ?_)))
        simp [h10]
      · refine cnd_t (by simpa using h10) ?_
        simp [h10]
    · refine cnd_t (decide_eq_true (by omega)) ?_
      rw [List.getElem?_eq_none (by omega)]; rfl
  · refine cnd_f (by simpa using h13) (bnd (ixO_of hi) (bnd (getO_of hi) ?_))
    unfold bad
    rw [get_of hi, if_neg (by simpa using h13)]
    by_cases h10 : b[i] = 10
    · refine cnd_t (by rw [h10]; rfl) ?_
      rw [if_pos (by rw [h10])]
      cases i with
      | zero => rfl
      | succ i =>
        refine cnd_f (by rw [beq_eq_false_iff_ne]; omega) (bnd (x := ((i : Nat) : Int)) (by rw [wrap_j (by omega) (by omega)]; simp) (bnd (ixO_of (by omega)) (bnd (getO_of (by omega)) ?_)))
        rw [show i + 1 - 1 = i by omega, get_of (by omega)]
        congr 2
        rw [Bool.eq_iff_iff, bne_iff_ne, decide_eq_true_eq]
        simp
    · refine cnd_f (by simpa using h10) ?_
      rw [if_neg (by simpa using h10)]
theorem body_any (b : List Int) (hb : byt b) (hl : b.length < 4294967281) : wherryref11_Body b = some false ∨ (wherryref11_Body b = some true ∧ ∃ ls, (∀ l ∈ ls, cln l) ∧ (∀ l ∈ ls, byt l) ∧ b = jn ls) := by
  have hloop := loop_all (R := Bool) (f := fun (s31 : Int) => cond ((decide (s31 < (b.length : Int))))
        (bindS (S := Bool) (A := ((Int) ⊕ ((Unit) ⊕ Bool)))
          ((ixO s31 b.length).bind fun v2 =>
          (getO b v2).bind fun v3 =>
          cond ((v3 == 13))
            ((some (IntKind.i64.wrap (s31 + 1))).bind fun v4 =>
            cond ((decide ((b.length : Int) ≤ v4)))
              (some (.inl true))
              ((some (IntKind.i64.wrap (s31 + 1))).bind fun v5 =>
              (ixO v5 b.length).bind fun v6 =>
              (getO b v6).bind fun v7 =>
              cond ((v7 != 10))
                (some (.inl true))
                ((ixO s31 b.length).bind fun v8 =>
                (getO b v8).bind fun v9 =>
                cond ((v9 == 10))
                  (cond ((s31 == 0))
                    (some (.inl true))
                    ((some (IntKind.i64.wrap (s31 - 1))).bind fun v10 =>
                    (ixO v10 b.length).bind fun v11 =>
                    (getO b v11).bind fun v12 =>
                    some (.inl (v12 != 13))))
                  (some (.inl false)))))
            ((ixO s31 b.length).bind fun v13 =>
            (getO b v13).bind fun v14 =>
            cond ((v14 == 10))
              (cond ((s31 == 0))
                (some (.inl true))
                ((some (IntKind.i64.wrap (s31 - 1))).bind fun v15 =>
                (ixO v15 b.length).bind fun v16 =>
                (getO b v16).bind fun v17 =>
                some (.inl (v17 != 13))))
              (some (.inl false))))
          (fun (s45 : Bool) =>
            cond (s45)
              (some (.inr (.inr (false))))
              ((some (IntKind.i64.wrap (s31 + 1))).bind fun v23 =>
              some (.inl v23))) some)
        (some (.inr (.inl ())))) (fun i => !bad b i) b.length false (fuel := BIG) (by unfold BIG; omega)
    (fun i hi hp => cnd_t (decide_eq_true (by omega)) (bndL (s := bad b i) (body_step b hi (by omega)) (cnd_f (by simpa using hp) (bnd (some_wrap (by omega) (by omega)) rfl))))
    (fun i hi hp => cnd_t (decide_eq_true (by omega)) (bndL (s := bad b i) (body_step b hi (by omega)) (cnd_t (by simpa using hp) rfl)))
    (cnd_f (decide_eq_false (by omega)) rfl)
  by_cases hall : ∀ i, i < b.length → (!bad b i) = true
  · rw [if_pos hall] at hloop
    have ho := bad_no hall
    cases hbn : b with
    | nil => right; subst hbn; exact ⟨rfl, [], fun l hl => by simp at hl, fun l hl => by simp at hl, rfl⟩
    | cons y t =>
      rw [← hbn]
      have hpos : 0 < b.length := by rw [hbn]; simp
      have hlast : b.getLast? = some (b[b.length - 1]'(by omega)) := by rw [List.getLast?_eq_getElem?, get_of (by omega)]
      have key : wherryref11_Body b = some (b[b.length - 1]'(by omega) == 10) := by
        unfold wherryref11_Body
        refine bndL (s := ()) hloop (bndL (s := (b[b.length - 1]'(by omega) == 10)) (cnd_f (by rw [beq_eq_false_iff_ne]; omega) (bnd (x := ((b.length - 1 : Nat) : Int)) (by rw [wrap_j (by omega) (by omega)]; congr 1; omega) (bnd (ixO_of (by omega)) (bnd (getO_of (by omega)) rfl)))) rfl)
      by_cases h10 : b[b.length - 1]'(by omega) = 10
      · right
        rw [key, h10]
        obtain ⟨ls, h1, h2⟩ := okb_lines b.length b 0 (Nat.le_refl _) ho (by decide) (.inr (by rw [hlast, h10]))
        exact ⟨rfl, ls, h1, byt_jn (by rw [← h2]; exact hb), h2⟩
      · left
        rw [key, beq_eq_false_iff_ne.2 h10]
  · rw [if_neg hall] at hloop
    left
    unfold wherryref11_Body
    exact bndR (a := false) hloop rfl
end Go.Abs.Sh
