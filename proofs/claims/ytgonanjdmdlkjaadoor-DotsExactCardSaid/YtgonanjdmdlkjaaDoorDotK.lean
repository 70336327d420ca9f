import Derived.Test.YtgonanjdmdlkjaaDoorDotI
namespace Go.Abs.Sh
set_option linter.unusedVariables false
set_option linter.unusedSimpArgs false
def stS (b : List Int) : ((List Int) × Int) → Option (((List Int) × Int) ⊕ (((List Int)) ⊕ (List Int))) := (fun ((s43, s44) : (List Int) × Int) =>
      cond ((decide (s44 < (b.length : Int))))
        (bindS (S := (List Int)) (A := (((List Int) × Int) ⊕ (((List Int)) ⊕ (List Int))))
          (bindS (S := Bool) (A := (((List Int)) ⊕ (((List Int) × Int) ⊕ (((List Int)) ⊕ (List Int)))))
            ((ixO s44 b.length).bind fun v2 =>
            (getO b v2).bind fun v3 =>
            cond ((v3 == 46))
              (cond ((s44 == 0))
                (some (.inl true))
                ((some (IntKind.i64.wrap (s44 - 1))).bind fun v4 =>
                (ixO v4 b.length).bind fun v5 =>
                (getO b v5).bind fun v6 =>
                some (.inl (v6 == 10))))
              (some (.inl false)))
            (fun (s77 : Bool) =>
              cond (s77)
                ((appO 1 s43 [46]).bind fun v12 =>
                some (.inl v12))
                (some (.inl s43))) some)
          (fun (s73 : (List Int)) =>
            (ixO s44 b.length).bind fun v22 =>
            (getO b v22).bind fun v23 =>
            (appO 1 s73 [v23]).bind fun v24 =>
            (some (IntKind.i64.wrap (s44 + 1))).bind fun v25 =>
            some (.inl (v24, v25))) some)
        (some (.inr (.inl s43))))
def rsS (b : List Int) (v1 : Int) : ((List Int) × Int) → Option (((List Int) × Int) ⊕ (((List Int)) ⊕ ((List Int) × Int × Int))) := (fun ((s47, s48) : (List Int) × Int) =>
          cond ((decide (s48 < v1)))
            (bindS (S := (List Int)) (A := (((List Int) × Int) ⊕ (((List Int)) ⊕ ((List Int) × Int × Int))))
              (bindS (S := Bool) (A := (((List Int)) ⊕ (((List Int) × Int) ⊕ (((List Int)) ⊕ ((List Int) × Int × Int)))))
                ((ixO s48 b.length).bind fun v7 =>
                (getO b v7).bind fun v8 =>
                cond ((v8 != 46))
                  (some (.inl true))
                  (cond ((decide (0 < s48)))
                    ((some (IntKind.i64.wrap (s48 - 1))).bind fun v9 =>
                    (ixO v9 b.length).bind fun v10 =>
                    (getO b v10).bind fun v11 =>
                    some (.inl (v11 != 10)))
                    (some (.inl false))))
                (fun (s81 : Bool) =>
                  cond (s81)
                    ((ixO s48 b.length).bind fun v17 =>
                    (getO b v17).bind fun v18 =>
                    (appO 1 s47 [v18]).bind fun v19 =>
                    some (.inl v19))
                    (some (.inl s47))) some)
              (fun (s77 : (List Int)) =>
                (some (IntKind.i64.wrap (s48 + 1))).bind fun v29 =>
                some (.inl (s77, v29))) some)
            (some (.inr (.inl s47))))
def stq : Int → List Int → List Int
  | _, [] => []
  | p, x :: l => (if x = 46 ∧ p = 10 then [46, x] else [x]) ++ stq x l
def dsq : Int → List Int → List Int
  | _, [] => []
  | p, x :: l => (if x = 46 ∧ p = 10 then [] else [x]) ++ dsq x l
theorem stq_in : ∀ (l rest : List Int) (p : Int), cln l → p ≠ 10 → stq p (l ++ 13 :: 10 :: rest) = l ++ 13 :: 10 :: stq 10 rest
  | [], rest, p, _, hp => by simp [stq]
  | x :: l, rest, p, h, hp => by
    have hx := h x (by simp)
    simp only [List.cons_append, stq]
    rw [if_neg (fun hc => hp hc.2), stq_in l rest x (fun y hy => h y (by simp [hy])) hx.2]
    rfl
theorem dsq_in : ∀ (l rest : List Int) (p : Int), cln l → p ≠ 10 → dsq p (l ++ 13 :: 10 :: rest) = l ++ 13 :: 10 :: dsq 10 rest
  | [], rest, p, _, hp => by simp [dsq]
  | x :: l, rest, p, h, hp => by
    have hx := h x (by simp)
    simp only [List.cons_append, dsq]
    rw [if_neg (fun hc => hp hc.2), dsq_in l rest x (fun y hy => h y (by simp [hy])) hx.2]
    rfl
theorem stq_jn : ∀ (ls : List (List Int)), (∀ l ∈ ls, cln l) → stq 10 (jn ls) = jn (ls.map stf)
  | [], _ => rfl
  | l :: ls, h => by
    have ih := stq_jn ls fun m hm => h m (by simp [hm])
    have hl := h l (by simp)
    simp only [jn, List.map_cons]
    rw [← ih]
    cases l with
    | nil => simp [stq, stf]
    | cons x l =>
      have hx := hl x (by simp)
      simp only [List.cons_append, stq]
      rw [stq_in l (jn ls) x (fun y hy => hl y (by simp [hy])) hx.2]
      unfold stf
      by_cases e : x = 46
      · subst e; simp
      · rw [if_neg (fun hc => e hc.1), if_neg (by simpa using e)]; rfl
theorem dsq_jn : ∀ (ls : List (List Int)), (∀ l ∈ ls, cln l) → dsq 10 (jn ls) = jn (ls.map trm)
  | [], _ => rfl
  | l :: ls, h => by
    have ih := dsq_jn ls fun m hm => h m (by simp [hm])
    have hl := h l (by simp)
    simp only [jn, List.map_cons]
    rw [← ih]
    cases l with
    | nil => simp [dsq, trm]
    | cons x l =>
      have hx := hl x (by simp)
      simp only [List.cons_append, dsq]
      rw [dsq_in l (jn ls) x (fun y hy => hl y (by simp [hy])) hx.2]
      unfold trm
      by_cases e : x = 46
      · subst e; simp
      · rw [if_neg (fun hc => e hc.1), if_neg (by simpa using e)]; rfl
theorem stq_len : ∀ (l : List Int) (p : Int), (stq p l).length ≤ 2 * l.length
  | [], _ => by simp [stq]
  | x :: l, p => by
    have := stq_len l x
    simp only [stq, List.length_append, List.length_cons]
    split <;> simp <;> omega
def prv (b : List Int) (i : Nat) : Int := if i = 0 then 10 else b.getD (i - 1) 0
theorem prv_succ {b : List Int} {i : Nat} (h : i < b.length) : prv b (i + 1) = b[i] := by
  unfold prv; rw [if_neg (by omega)]; simp [List.getD_eq_getElem?_getD, h]
theorem prv_go {b : List Int} {i : Nat} {x : Int} (h : i < b.length) (hi : i ≠ 0) : (wh : i - 1 < b.length) → b[i - 1] = prv b i := by
  intro wh
  unfold prv; rw [if_neg hi]; simp [List.getD_eq_getElem?_getD, wh]
theorem drop_at {b : List Int} {i : Nat} (h : i < b.length) : b.drop i = b[i] :: b.drop (i + 1) := List.drop_eq_getElem_cons h
theorem st_step (b : List Int) (hl : b.length < 1000000) {i : Nat} (hi : i < b.length) (acc : List Int) (ha : acc.length < 4000000) :
    stS b (acc, (i : Int)) = some (.inl (acc ++ (if b[i] = 46 ∧ prv b i = 10 then [46, b[i]] else [b[i]]), ((i + 1 : Nat) : Int))) := by
  unfold stS
  refine cnd_t (decide_eq_true (by omega)) ?_
  have h1 : ((ixO (i : Int) b.length).bind fun v2 =>
            (getO b v2).bind fun v3 =>
            cond ((v3 == 46))
              (cond (((i : Int) == 0))
                (some (.inl true))
                ((some (IntKind.i64.wrap ((i : Int) - 1))).bind fun v4 =>
                (ixO v4 b.length).bind fun v5 =>
                (getO b v5).bind fun v6 =>
                some (.inl (v6 == 10))))
              (some (.inl false)) : Option (Bool ⊕ ((List Int) ⊕ (((List Int) × Int) ⊕ (((List Int)) ⊕ (List Int)))))) = some (.inl (decide (b[i] = 46 ∧ prv b i = 10))) := by
    refine bnd (ixO_of hi) (bnd (getO_of hi) ?_)
    by_cases h46 : b[i] = 46
    · refine cnd_t (by rw [h46]; rfl) ?_
      by_cases h0 : i = 0
      · subst h0
        refine cnd_t rfl ?_
        simp [h46, prv]
      · refine cnd_f (by rw [beq_eq_false_iff_ne]; omega) (bnd (x := ((i - 1 : Nat) : Int)) (by rw [wrap_j (by omega) (by omega)]; congr 1; omega) (bnd (ixO_of (by omega)) (bnd (getO_of (by omega)) ?_)))
        rw [prv_go (x := 0) hi h0 (by omega)]
        congr 2
        rw [Bool.eq_iff_iff, beq_iff_eq, decide_eq_true_eq]
        simp [h46]
    · refine cnd_f (by simpa using h46) ?_
      congr 2
      rw [eq_comm, decide_eq_false_iff_not]
      simp [h46]
  have e0 : some (IntKind.i64.wrap ((i : Int) + 1)) = some ((i + 1 : Nat) : Int) := by rw [wrap_j (by omega) (by omega)]; simp
  by_cases hc : b[i] = 46 ∧ prv b i = 10
  · rw [if_pos hc]
    refine bndL (s := acc ++ [46]) (bndL h1 (cnd_t (decide_eq_true hc) (bnd (app_of (by simp; omega) (by simp; omega)) rfl))) (bnd (ixO_of hi) (bnd (getO_of hi) (bnd (app_of (by simp; omega) (by simp; omega)) (bnd e0 ?_))))
    rw [List.append_assoc]; rfl
  · rw [if_neg hc]
    exact bndL (s := acc) (bndL h1 (cnd_f (decide_eq_false hc) rfl)) (bnd (ixO_of hi) (bnd (getO_of hi) (bnd (app_of (by simp; omega) (by simp; omega)) (bnd e0 rfl))))
theorem st_go (b : List Int) (hl : b.length < 1000000) : ∀ (n i : Nat) (acc : List Int) (fuel : Nat), i + n = b.length → acc.length ≤ 2 * i → n < fuel → loopF (stS b) fuel (acc, (i : Int)) = some (.inl (acc ++ stq (prv b i) (b.drop i)))
  | 0, i, acc, fuel, hn, ha, hf => by
    obtain ⟨k, rfl⟩ : ∃ k, fuel = k + 1 := ⟨fuel - 1, by omega⟩
    rw [loop_exit (o := .inl acc) (by unfold stS; exact cnd_f (decide_eq_false (by omega)) rfl)]
    rw [List.drop_eq_nil_of_le (by omega)]; simp [stq]
  | n + 1, i, acc, fuel, hn, ha, hf => by
    obtain ⟨k, rfl⟩ : ∃ k, fuel = k + 1 := ⟨fuel - 1, by omega⟩
    have hi : i < b.length := by omega
    rw [loop_next (st_step b hl hi acc (by omega))]
    rw [st_go b hl n (i + 1) _ k (by omega) (by rw [List.length_append]; split <;> simp <;> omega) (by omega)]
    rw [drop_at hi, stq, List.append_assoc, prv_succ hi]
theorem refStuff {ls : List (List Int)} (h : ∀ l ∈ ls, cln l) (hl : (jn ls).length < 1000000) : wherryref11_Stuff (jn ls) = some (jn (ls.map stf ++ [[46]])) := by
  have h1 := st_go (jn ls) hl (jn ls).length 0 [] BIG (by omega) (by simp) (by unfold BIG; omega)
  have e : prv (jn ls) 0 = 10 := rfl
  rw [e, List.drop_zero, List.nil_append, stq_jn ls h] at h1
  have h2 := stq_len (jn ls) 10
  rw [stq_jn ls h] at h2
  unfold wherryref11_Stuff
  refine bndL (s := jn (ls.map stf)) h1 (bnd (app_of (by simp; omega) (by simp; omega)) ?_)
  rw [jn_app]; simp [jn]
end Go.Abs.Sh
