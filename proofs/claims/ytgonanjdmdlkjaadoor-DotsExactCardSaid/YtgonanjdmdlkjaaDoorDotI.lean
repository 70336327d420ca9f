import Derived.Test.YtgonanjdmdlkjaaDoorDotA
import Derived.Test.YtgonanjdmdlkjaaDoorKeepM
namespace Go.Abs.Sh
set_option linter.unusedVariables false
set_option linter.unusedSimpArgs false
theorem wakes14 : wherrylaw14_wakes = some true := by kernel_rfl
theorem twin14 (l : List Int) (h : l.length < 4294967296) : wherrykeep_Twin l = some l := by
  unfold wherrykeep_Twin
  exact bnd (x := l) (by simp only [appO]; rw [if_pos (by simp; omega)]; simp) rfl
theorem hasDot {x : List Int} (hb : byt x) (hl : x.length < 4294967281) : bytes_HasPrefix x [46] = some (decide (x.head? = some 46)) := by
  unfold bytes_HasPrefix
  cases x with
  | nil => rfl
  | cons y x =>
    refine bndL (s := decide (y = 46)) (cnd_t (decide_eq_true (by simp only [List.length_cons, List.length_nil]; omega)) ?_) (by simp)
    have e1 : sliO (y :: x) 0 (([46] : List Int).length : Int) = some [y] := by
      have := sli_nat (y :: x) (a := 0) (b := 1) (by omega) (by simp)
      simpa using this
    refine bnd e1 (bnd (x := decide (y = 46)) ?_ rfl)
    unfold bytes_Equal
    refine bnd rfl (bnd rfl ?_)
    rw [toList_beq]
    congr 1
    refine decide_eq_decide.2 ⟨fun h => ?_, fun h => by rw [h]⟩
    have := congrArg sbytes h
    rw [sbytes_bstr (by intro z hz; rw [List.mem_singleton] at hz; rw [hz]; exact hb y (by simp)), sbytes_bstr (by decide)] at this
    simpa using this
def stf (l : List Int) : List Int := if l.head? = some 46 then 46 :: l else l
def trm (l : List Int) : List Int := if l.head? = some 46 then l.tail else l
theorem stf_len (l : List Int) : (stf l).length ≤ l.length + 1 := by unfold stf; split <;> simp
theorem tot_stf : ∀ ls : List (List Int), tot (ls.map stf) ≤ 2 * tot ls
  | [] => by simp [tot]
  | l :: ls => by
    have h1 := stf_len l
    have h2 := tot_stf ls
    simp only [List.map_cons, tot]; omega
theorem tot_app : ∀ a b : List (List Int), tot (a ++ b) = tot a + tot b
  | [], b => by simp [tot]
  | x :: a, b => by simp only [List.cons_append, tot, tot_app a b]; omega
theorem tot_mem {ls : List (List Int)} {l : List Int} (h : l ∈ ls) : l.length + 2 ≤ tot ls := by
  induction ls with
  | nil => simp at h
  | cons m ls ih =>
    simp only [tot]
    rcases List.mem_cons.1 h with rfl | h
    · omega
    · have := ih h; omega
def stuffS : List Int → List Int → Option (List Int ⊕ Unit) := fun (x : (List Int)) (s21 : (List Int)) =>
        bindS (S := (List Int)) (A := (((List Int)) ⊕ (Unit)))
          ((bytes_HasPrefix x [46]).bind fun v4 =>
          cond (v4)
            ((appO 1 s21 (sbytes (⟨#[46]⟩ : ByteArray))).bind fun v6 =>
            some (.inl v6))
            (some (.inl s21)))
          (fun (s29 : (List Int)) =>
            (appO 1 s29 x).bind fun v12 =>
            (appO 1 v12 (sbytes (⟨#[13, 10]⟩ : ByteArray))).bind fun v13 =>
            some (.inl v13)) some
theorem sb46 : sbytes (⟨#[46]⟩ : ByteArray) = [46] := rfl
theorem sbE : sbytes (⟨#[13, 10]⟩ : ByteArray) = [13, 10] := rfl
theorem sbD : sbytes (⟨#[46, 13, 10]⟩ : ByteArray) = [46, 13, 10] := rfl
theorem stuff_step {x s : List Int} (hb : byt x) (hl : s.length + x.length < 4294960000) : stuffS x s = some (.inl (s ++ (stf x ++ [13, 10]))) := by
  unfold stuffS
  rw [sb46, sbE]
  by_cases h : x.head? = some 46
  · have e : stf x = 46 :: x := by unfold stf; rw [if_pos h]
    rw [e]
    refine bndL (s := s ++ [46]) (bnd (hasDot hb (by omega)) (cnd_t (decide_eq_true h) (bnd (app_of (by simp; omega) (by simp; omega)) rfl))) ?_
    refine bnd (app_of (by simp; omega) (by simp; omega)) (bnd (app_of (by simp; omega) (by simp; omega)) ?_)
    simp
  · have e : stf x = x := by unfold stf; rw [if_neg h]
    rw [e]
    refine bndL (s := s) (bnd (hasDot hb (by omega)) (cnd_f (decide_eq_false h) rfl)) ?_
    refine bnd (app_of (by omega) (by omega)) (bnd (app_of (by simp; omega) (by simp; omega)) ?_)
    simp
theorem fol_stuff : ∀ (ls : List (List Int)) (s : List Int), (∀ l ∈ ls, byt l) → s.length + 2 * tot ls < 4294960000 → folL stuffS ls s = some (.inl (s ++ jn (ls.map stf)))
  | [], s, _, _ => by simp [folL, jn]
  | l :: ls, s, hb, hs => by
    simp only [tot] at hs
    have h1 := stf_len l
    simp only [folL]
    rw [stuff_step (hb l (by simp)) (by omega)]
    refine (fol_stuff ls _ (fun m hm => hb m (by simp [hm])) (by simp only [List.length_append, List.length_cons, List.length_nil]; omega)).trans ?_
    simp [jn]
theorem stuff_ok {ls : List (List Int)} (h : ∀ l ∈ ls, cln l) (hb : ∀ l ∈ ls, byt l) (hl : tot ls < 1000000000) : dots_Stuff (jn ls) = some (jn (ls.map stf ++ [[46]]), 0) := by
  unfold dots_Stuff dots_lines
  refine bnd (check_ok h hb (by omega)) (cnd_f rfl (bnd rfl ?_))
  refine bndL (s := jn (ls.map stf)) (lines_range stuffS (lns_jn h) (jn_byt hb) (by rw [jn_len]; omega) _ _ ?_) ?_
  · have := fol_stuff ls [] hb (by simp; omega)
    simpa using this
  · have h2 := tot_stf ls
    rw [sbD]
    refine bnd (app_of (by rw [jn_len]; simp; omega) (by rw [jn_len]; simp; omega)) ?_
    rw [jn_app]; rfl
theorem stuff_no {b : List Int} (h : dots_Check b = some 5) : dots_Stuff b = some ([], 5) := by
  unfold dots_Stuff
  exact bnd h (cnd_t rfl rfl)
def lastS : List Int → Int → Option (Int ⊕ Int) := fun (x : (List Int)) (s8 : Int) =>
      (some (bstr x)).bind fun v2 =>
      cond ((v2.toList == (⟨#[46]⟩ : ByteArray).toList))
        (some (.inr s8))
        ((some (IntKind.i64.wrap ((x.length : Int) + 2))).bind fun v4 =>
        (some (IntKind.i64.wrap (s8 + v4))).bind fun v5 =>
        some (.inl v5))
theorem is46 {x : List Int} (hb : byt x) : ((bstr x).toList == (⟨#[46]⟩ : ByteArray).toList) = decide (x = [46]) := by
  rw [toList_beq]
  refine decide_eq_decide.2 ⟨fun h => ?_, fun h => by rw [h]; rfl⟩
  have := congrArg sbytes h
  rw [sbytes_bstr hb, sb46] at this
  exact this
theorem last_go {x : List Int} {s : Nat} (hb : byt x) (h : x ≠ [46]) (hl : s + x.length < 4611686018427387904) : lastS x (s : Int) = some (.inl ((s + (x.length + 2) : Nat) : Int)) := by
  unfold lastS
  refine bnd rfl ?_
  rw [is46 hb]
  refine cnd_f (decide_eq_false h) (bnd (wrap_j (by omega) (by omega)) (bnd (wrap_j (by omega) (by omega)) ?_))
  simp
theorem last_dot (s : Int) : lastS [46] s = some (.inr s) := by
  unfold lastS
  refine bnd rfl ?_
  rw [is46 (by decide)]
  exact cnd_t rfl rfl
theorem fol_last : ∀ (ls ms : List (List Int)) (s : Nat), (∀ l ∈ ls, byt l ∧ l ≠ [46]) → s + tot ls < 4611686018427387904 → folL lastS (ls ++ ms) (s : Int) = folL lastS ms ((s + tot ls : Nat) : Int)
  | [], ms, s, _, _ => by simp [tot]
  | l :: ls, ms, s, hb, hs => by
    simp only [tot] at hs
    rw [List.cons_append]
    conv => lhs; unfold folL
    rw [last_go (hb l (by simp)).1 (hb l (by simp)).2 (by omega)]
    refine (fol_last ls ms _ (fun m hm => hb m (by simp [hm])) (by omega)).trans ?_
    simp only [tot]
    rw [show s + (l.length + 2) + tot ls = s + (l.length + 2 + tot ls) by omega]
theorem last_none {b : List Int} {ls : List (List Int)} {r : List Int} (H : Lns b ls r) (hb : byt b) (hd : ∀ l ∈ ls, l ≠ [46]) (hl : b.length < 4000000000) : dots_lastLine b = some (0, false) := by
  have hj := lns_join H
  have ht : b.length = tot ls + r.length := by rw [hj, List.length_append, jn_len]
  unfold dots_lastLine dots_lines
  refine bnd rfl ?_
  refine bndL (s := ((0 + tot ls : Nat) : Int)) (lines_range lastS H hb (by omega) _ _ ?_) rfl
  have := fol_last ls [] 0 (fun l hl => ⟨byt_line H hb l hl, hd l hl⟩) (by omega)
  simpa [folL] using this
def stripS : List Int → List Int → Option (List Int ⊕ Unit) := fun (x : (List Int)) (s12 : (List Int)) =>
          (bytes_TrimPrefix_sh x [46]).bind fun v8 =>
          (appO 1 s12 v8).bind fun v9 =>
          (appO 1 v9 (sbytes (⟨#[13, 10]⟩ : ByteArray))).bind fun v10 =>
          some (.inl v10)
theorem trim14 {x : List Int} (hb : byt x) (hl : x.length < 4294967281) : bytes_TrimPrefix_sh x [46] = some (trm x) := by
  unfold bytes_TrimPrefix_sh
  refine bnd (hasDot hb hl) ?_
  unfold trm
  by_cases h : x.head? = some 46
  · rw [if_pos h]
    refine cnd_t (decide_eq_true h) ?_
    cases x with
    | nil => simp at h
    | cons y x =>
      have e1 : sliO (y :: x) (([46] : List Int).length : Int) ((y :: x).length : Int) = some x := by
        have := sli_nat (y :: x) (a := 1) (b := (y :: x).length) (by simp) (by simp)
        simpa using this
      exact bnd e1 rfl
  · rw [if_neg h]
    exact cnd_f (decide_eq_false h) rfl
theorem trm_len (l : List Int) : (trm l).length ≤ l.length := by unfold trm; split <;> simp
theorem fol_strip : ∀ (ls : List (List Int)) (s : List Int), (∀ l ∈ ls, byt l) → s.length + tot ls < 4294960000 → folL stripS ls s = some (.inl (s ++ jn (ls.map trm)))
  | [], s, _, _ => by simp [folL, jn]
  | l :: ls, s, hb, hs => by
    simp only [tot] at hs
    have h1 := trm_len l
    have e : stripS l s = some (.inl (s ++ (trm l ++ [13, 10]))) := by
      unfold stripS
      rw [sbE]
      refine bnd (trim14 (hb l (by simp)) (by omega)) (bnd (app_of (by omega) (by omega)) (bnd (app_of (by simp; omega) (by simp; omega)) ?_))
      simp
    simp only [folL]
    rw [e]
    refine (fol_strip ls _ (fun m hm => hb m (by simp [hm])) (by simp only [List.length_append, List.length_cons, List.length_nil]; omega)).trans ?_
    simp [jn]
theorem strip_none {b : List Int} (h : dots_lastLine b = some (0, false)) : dots_Strip b = some ([], 0, 9) := by
  unfold dots_Strip
  exact bnd h (cnd_t rfl rfl)
def linesO : List Int → List (Option (List Int)) → Option (List (Option (List Int)) ⊕ Unit) := fun (x : (List Int)) (s5 : (List (Option (List Int)))) =>
      (appO 1 ([] : List Int) x).bind fun v2 =>
      (appO 24 s5 [some v2]).bind fun v3 =>
      some (.inl v3)
theorem fol_linesO : ∀ (ls : List (List Int)) (s : List (Option (List Int))), s.length * 24 + tot ls * 24 < 140737488355328 → folL linesO ls s = some (.inl (s ++ ls.map some))
  | [], s, _ => by simp [folL]
  | l :: ls, s, hs => by
    simp only [tot] at hs
    have e : linesO l s = some (.inl (s ++ [some l])) := by
      unfold linesO
      refine bnd (x := l) (by rw [app_of (by simp; omega) (by simp; omega)]; rfl) (bnd (app_of (by simp; omega) (by simp; omega)) rfl)
    simp only [folL]
    rw [e]
    refine (fol_linesO ls _ (by simp only [List.length_append, List.length_cons, List.length_nil]; omega)).trans ?_
    simp
theorem linesO14 {b : List Int} {ls : List (List Int)} {r : List Int} (H : Lns b ls r) (hb : byt b) (hl : b.length < 4000000000) : dots_Lines b = some (ls.map some) := by
  have hj := lns_join H
  have ht : b.length = tot ls + r.length := by rw [hj, List.length_append, jn_len]
  unfold dots_Lines dots_lines
  refine bnd rfl ?_
  refine bndL (s := ls.map some) (lines_range linesO H hb (by omega) _ _ ?_) rfl
  have := fol_linesO ls [] (by simp; omega)
  simpa using this
def okb : Int → List Int → Prop
  | _, [] => True
  | p, x :: l => (x = 13 → l.head? = some 10) ∧ (x = 10 → p = 13) ∧ okb x l
theorem okb_line : ∀ (b : List Int) (p : Int), okb p b → p ≠ 13 → b.getLast? = some 10 → ∃ l r, b = l ++ 13 :: 10 :: r ∧ cln l ∧ okb 10 r ∧ (r = [] ∨ r.getLast? = some 10)
  | [], p, _, _, h => by simp at h
  | x :: t, p, h, hp, hl => by
    obtain ⟨h1, h2, h3⟩ := h
    by_cases hx : x = 13
    · subst hx
      cases t with
      | nil => simp at hl
      | cons y r =>
        have hy := h1 rfl
        simp at hy
        subst hy
        refine ⟨[], r, rfl, fun z hz => by simp at hz, h3.2.2, ?_⟩
        cases r with
        | nil => exact .inl rfl
        | cons z r => right; rw [List.getLast?_cons_cons, List.getLast?_cons_cons] at hl; exact hl
    · have hx2 : x ≠ 10 := fun e => hp (h2 e)
      cases t with
      | nil => simp at hl; exact absurd hl hx2
      | cons y t =>
        rw [List.getLast?_cons_cons] at hl
        obtain ⟨l, r, e, hc, ho, hr⟩ := okb_line (y :: t) x h3 hx hl
        refine ⟨x :: l, r, by rw [e]; rfl, fun z hz => ?_, ho, hr⟩
        rcases List.mem_cons.1 hz with rfl | hz
        · exact ⟨hx, hx2⟩
        · exact hc z hz
theorem okb_lines : ∀ (n : Nat) (b : List Int) (p : Int), b.length ≤ n → okb p b → p ≠ 13 → (b = [] ∨ b.getLast? = some 10) → ∃ ls, (∀ l ∈ ls, cln l) ∧ b = jn ls
  | 0, b, p, hn, _, _, _ => ⟨[], fun l hl => by simp at hl, by cases b with | nil => rfl | cons => simp at hn⟩
  | n + 1, b, p, hn, ho, hp, hl => by
    rcases hl with rfl | hl
    · exact ⟨[], fun l hl => by simp at hl, rfl⟩
    · obtain ⟨l, r, e, hc, ho2, hr⟩ := okb_line b p ho hp hl
      obtain ⟨ls, h1, h2⟩ := okb_lines n r 10 (by rw [e] at hn; simp at hn; omega) ho2 (by decide) hr
      refine ⟨l :: ls, fun m hm => ?_, by rw [e, h2]; rfl⟩
      rcases List.mem_cons.1 hm with rfl | hm
      · exact hc
      · exact h1 m hm
theorem okb_one : ∀ (l r : List Int) (p : Int), cln l → okb 10 r → okb p (l ++ 13 :: 10 :: r)
  | [], r, p, _, h => ⟨fun _ => rfl, fun e => by omega, fun e => by omega, fun _ => rfl, h⟩
  | x :: l, r, p, hc, h => ⟨fun e => absurd e (hc x (by simp)).1, fun e => absurd e (hc x (by simp)).2, okb_one l r x (fun y hy => hc y (by simp [hy])) h⟩
theorem okb_jn : ∀ (ls : List (List Int)) (p : Int), (∀ l ∈ ls, cln l) → okb p (jn ls)
  | [], _, _ => trivial
  | l :: ls, p, h => okb_one l (jn ls) p (h l (by simp)) (okb_jn ls 10 fun m hm => h m (by simp [hm]))
theorem last_jn : ∀ (ls : List (List Int)), jn ls = [] ∨ (jn ls).getLast? = some 10
  | [] => .inl rfl
  | l :: ls => by
    right
    rcases last_jn ls with h | h
    · simp [jn, h]
    · have : (13 :: 10 :: jn ls).getLast? = some 10 := by
        cases hj : jn ls with
        | nil => rfl
        | cons y r => rw [List.getLast?_cons_cons, List.getLast?_cons_cons, ← hj]; exact h
      simp only [jn]
      rw [List.getLast?_append, this]; rfl
def bad (b : List Int) (i : Nat) : Bool := if b[i]? = some 13 then decide (b[i + 1]? ≠ some 10) else if b[i]? = some 10 then decide (i = 0 ∨ b[i - 1]? ≠ some 13) else false
theorem okb_of : ∀ (b : List Int) (p : Int), (∀ i, i < b.length → (b[i]? = some 13 → b[i + 1]? = some 10) ∧ (b[i]? = some 10 → (if i = 0 then some p else b[i - 1]?) = some 13)) → okb p b
  | [], _, _ => trivial
  | x :: l, p, h => by
    refine ⟨fun e => ?_, fun e => ?_, okb_of l x fun i hi => ?_⟩
    · have := (h 0 (by simp)).1 (by simp [e])
      cases l with
      | nil => simp at this
      | cons y l => simpa using this
    · have := (h 0 (by simp)).2 (by simp [e])
      simpa using this
    · have := h (i + 1) (by simp; omega)
      refine ⟨fun e => by simpa using this.1 (by simpa using e), fun e => ?_⟩
      have h2 := this.2 (by simpa using e)
      rw [if_neg (by omega)] at h2
      cases i with
      | zero => simpa using h2
      | succ i => simpa using h2
theorem bad_no {b : List Int} (h : ∀ i, i < b.length → (!bad b i) = true) : okb 0 b := by
  refine okb_of b 0 fun i hi => ?_
  have h1 := h i hi
  simp only [bad, Bool.not_eq_true'] at h1
  refine ⟨fun e => ?_, fun e => ?_⟩
  · rw [if_pos e, decide_eq_false_iff_not, Classical.not_not] at h1; exact h1
  · rw [e] at h1
    rw [if_neg (by simp), if_pos rfl, decide_eq_false_iff_not, not_or, Classical.not_not] at h1
    rw [if_neg h1.1]; exact h1.2
theorem get_of {b : List Int} {i : Nat} (h : i < b.length) : b[i]? = some b[i] := List.getElem?_eq_getElem h
theorem body_step (b : List Int) {i : Nat} (hi : i < b.length) (hl : b.length < 4611686018427387904) :
    ((ixO (i : Int) b.length).bind fun v2 =>
          (getO b v2).bind fun v3 =>
          cond ((v3 == 13))
            ((some (IntKind.i64.wrap ((i : Int) + 1))).bind fun v4 =>
            cond ((decide ((b.length : Int) ≤ v4)))
              (some (.inl true))
              ((some (IntKind.i64.wrap ((i : Int) + 1))).bind fun v5 =>
              (ixO v5 b.length).bind fun v6 =>
              (getO b v6).bind fun v7 =>
              cond ((v7 != 10))
                (some (.inl true))
                ((ixO (i : Int) b.length).bind fun v8 =>
                (getO b v8).bind fun v9 =>
                cond ((v9 == 10))
                  (cond (((i : Int) == 0))
                    (some (.inl true))
                    ((some (IntKind.i64.wrap ((i : Int) - 1))).bind fun v10 =>
                    (ixO v10 b.length).bind fun v11 =>
                    (getO b v11).bind fun v12 =>
                    some (.inl (v12 != 13))))
                  (some (.inl false)))))
            ((ixO (i : Int) b.length).bind fun v13 =>
            (getO b v13).bind fun v14 =>
            cond ((v14 == 10))
              (cond (((i : Int) == 0))
                (some (.inl true))
                ((some (IntKind.i64.wrap ((i : Int) - 1))).bind fun v15 =>
                (ixO v15 b.length).bind fun v16 =>
                (getO b v16).bind fun v17 =>
                some (.inl (v17 != 13))))
              (some (.inl false))) : Option (Bool ⊕ ((Int) ⊕ ((Unit) ⊕ Bool)))) = some (.inl (bad b i)) := by
  have e0 : some (IntKind.i64.wrap ((i : Int) + 1)) = some ((i + 1 : Nat) : Int) := by rw [wrap_j (by omega) (by omega)]; simp
  refine bnd (ixO_of hi) (bnd (getO_of hi) ?_)
  by_cases h13 : b[i] = 13
  · refine cnd_t (by rw [h13]; rfl) (bnd e0 ?_)
    unfold bad
    rw [get_of hi, if_pos (by rw [h13])]
    by_cases hn : i + 1 < b.length
    · refine cnd_f (decide_eq_false (by omega)) (bnd e0 (bnd (ixO_of hn) (bnd (getO_of hn) ?_)))
      rw [get_of hn]
      by_cases h10 : b[i + 1] = 10
      · refine cnd_f (by rw [h10]; rfl) (bnd (ixO_of hi) (bnd (getO_of hi) (cnd_f (by rw [h13]; rfl) ?_)))
        simp [h10]
      · refine cnd_t (by simpa using h10) ?_
        simp [h10]
    · refine cnd_t (decide_eq_true (by omega)) ?_
      rw [List.getElem?_eq_none (by omega)]; rfl
  · refine cnd_f (by simpa using h13) (bnd (ixO_of hi) (bnd (getO_of hi) ?_))
    unfold bad
    rw [get_of hi, if_neg (by simpa using h13)]
    by_cases h10 : b[i] = 10
    · refine cnd_t (by rw [h10]; rfl) ?_
      rw [if_pos (by rw [h10])]
      cases i with
      | zero => rfl
      | succ i =>
        refine cnd_f (by rw [beq_eq_false_iff_ne]; omega) (bnd (x := ((i : Nat) : Int)) (by rw [wrap_j (by omega) (by omega)]; simp) (bnd (ixO_of (by omega)) (bnd (getO_of (by omega)) ?_)))
        rw [show i + 1 - 1 = i by omega, get_of (by omega)]
        congr 2
        rw [Bool.eq_iff_iff, bne_iff_ne, decide_eq_true_eq]
        simp
    · refine cnd_f (by simpa using h10) ?_
      rw [if_neg (by simpa using h10)]
theorem body_any (b : List Int) (hb : byt b) (hl : b.length < 4294967281) : wherryref11_Body b = some false ∨ (wherryref11_Body b = some true ∧ ∃ ls, (∀ l ∈ ls, cln l) ∧ (∀ l ∈ ls, byt l) ∧ b = jn ls) := by
  have hloop := loop_all (R := Bool) (f := fun (s31 : Int) => cond ((decide (s31 < (b.length : Int))))
        (bindS (S := Bool) (A := ((Int) ⊕ ((Unit) ⊕ Bool)))
          ((ixO s31 b.length).bind fun v2 =>
          (getO b v2).bind fun v3 =>
          cond ((v3 == 13))
            ((some (IntKind.i64.wrap (s31 + 1))).bind fun v4 =>
            cond ((decide ((b.length : Int) ≤ v4)))
              (some (.inl true))
              ((some (IntKind.i64.wrap (s31 + 1))).bind fun v5 =>
              (ixO v5 b.length).bind fun v6 =>
              (getO b v6).bind fun v7 =>
              cond ((v7 != 10))
                (some (.inl true))
                ((ixO s31 b.length).bind fun v8 =>
                (getO b v8).bind fun v9 =>
                cond ((v9 == 10))
                  (cond ((s31 == 0))
                    (some (.inl true))
                    ((some (IntKind.i64.wrap (s31 - 1))).bind fun v10 =>
                    (ixO v10 b.length).bind fun v11 =>
                    (getO b v11).bind fun v12 =>
                    some (.inl (v12 != 13))))
                  (some (.inl false)))))
            ((ixO s31 b.length).bind fun v13 =>
            (getO b v13).bind fun v14 =>
            cond ((v14 == 10))
              (cond ((s31 == 0))
                (some (.inl true))
                ((some (IntKind.i64.wrap (s31 - 1))).bind fun v15 =>
                (ixO v15 b.length).bind fun v16 =>
                (getO b v16).bind fun v17 =>
                some (.inl (v17 != 13))))
              (some (.inl false))))
          (fun (s45 : Bool) =>
            cond (s45)
              (some (.inr (.inr (false))))
              ((some (IntKind.i64.wrap (s31 + 1))).bind fun v23 =>
              some (.inl v23))) some)
        (some (.inr (.inl ())))) (fun i => !bad b i) b.length false (fuel := BIG) (by unfold BIG; omega)
    (fun i hi hp => cnd_t (decide_eq_true (by omega)) (bndL (s := bad b i) (body_step b hi (by omega)) (cnd_f (by simpa using hp) (bnd (some_wrap (by omega) (by omega)) rfl))))
    (fun i hi hp => cnd_t (decide_eq_true (by omega)) (bndL (s := bad b i) (body_step b hi (by omega)) (cnd_t (by simpa using hp) rfl)))
    (cnd_f (decide_eq_false (by omega)) rfl)
  by_cases hall : ∀ i, i < b.length → (!bad b i) = true
  · rw [if_pos hall] at hloop
    have ho := bad_no hall
    cases hbn : b with
    | nil => right; subst hbn; exact ⟨rfl, [], fun l hl => by simp at hl, fun l hl => by simp at hl, rfl⟩
    | cons y t =>
      rw [← hbn]
      have hpos : 0 < b.length := by rw [hbn]; simp
      have hlast : b.getLast? = some (b[b.length - 1]'(by omega)) := by rw [List.getLast?_eq_getElem?, get_of (by omega)]
      have key : wherryref11_Body b = some (b[b.length - 1]'(by omega) == 10) := by
        unfold wherryref11_Body
        refine bndL (s := ()) hloop (bndL (s := (b[b.length - 1]'(by omega) == 10)) (cnd_f (by rw [beq_eq_false_iff_ne]; omega) (bnd (x := ((b.length - 1 : Nat) : Int)) (by rw [wrap_j (by omega) (by omega)]; congr 1; omega) (bnd (ixO_of (by omega)) (bnd (getO_of (by omega)) rfl)))) rfl)
      by_cases h10 : b[b.length - 1]'(by omega) = 10
      · right
        rw [key, h10]
        obtain ⟨ls, h1, h2⟩ := okb_lines b.length b 0 (Nat.le_refl _) ho (by decide) (.inr (by rw [hlast, h10]))
        exact ⟨rfl, ls, h1, byt_jn (by rw [← h2]; exact hb), h2⟩
      · left
        rw [key, beq_eq_false_iff_ne.2 h10]
  · rw [if_neg hall] at hloop
    left
    unfold wherryref11_Body
    exact bndR (a := false) hloop rfl
end Go.Abs.Sh
