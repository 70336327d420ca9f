import Derived.Test.YtepjhmgmejpkpaaSymH
namespace Go.Abs.Sh
set_option linter.unusedVariables false
set_option linter.unusedSimpArgs false

def bestS (b : List Int) (at_ : Int) : ((Int × Int × Int)) → Option ((Int × Int × Int) ⊕ ((Int × Int) ⊕ (Int × Int))) := (fun ((s161, s162, s163) : Int × Int × Int) =>
        bindS (S := Bool) (A := ((Int × Int × Int) ⊕ ((Int × Int) ⊕ (Int × Int))))
          (cond ((decide (s163 ≤ at_)))
            (some (.inl ((decide (s163 ≤ 2048)))))
            (some (.inl false)))
          (fun (s242 : Bool) =>
            cond (s242)
              (bindS (S := Int × Int) (A := ((Int × Int × Int) ⊕ ((Int × Int) ⊕ (Int × Int))))
                (bindS (S := (Int)) (A := ((Int × Int) ⊕ ((Int × Int × Int) ⊕ ((Int × Int) ⊕ (Int × Int)))))
                  (loopF (S := (Int)) (O := (Int) ⊕ ((Int × Int) ⊕ ((Int × Int × Int) ⊕ ((Int × Int) ⊕ (Int × Int))))) (fun (s293 : Int) =>
                    bindS (S := Bool) (A := ((Int) ⊕ ((Int) ⊕ ((Int × Int) ⊕ ((Int × Int × Int) ⊕ ((Int × Int) ⊕ (Int × Int)))))))
                      (cond ((decide (s293 < 258)))
                        ((some (IntKind.i64.wrap (at_ + s293))).bind fun v13 =>
                        cond ((decide (v13 < (b.length : Int))))
                          ((some (IntKind.i64.wrap (at_ + s293))).bind fun v14 =>
                          (ixO v14 b.length).bind fun v15 =>
                          (getO b v15).bind fun v16 =>
                          (some (IntKind.i64.wrap (at_ + s293))).bind fun v17 =>
                          (some (IntKind.i64.wrap (v17 - s163))).bind fun v18 =>
                          (ixO v18 b.length).bind fun v19 =>
                          (getO b v19).bind fun v20 =>
                          some (.inl (v16 == v20)))
                          (some (.inl false)))
                        (some (.inl false)))
                      (fun (s306 : Bool) =>
                        cond (s306)
                          ((some (IntKind.i64.wrap (s293 + 1))).bind fun v26 =>
                          some (.inl v26))
                          (some (.inr (.inl s293)))) some)
                    BIG 0)
                  (fun (s299 : Int) =>
                    cond ((decide (s161 < s299)))
                      (some (.inl (s299, s163)))
                      (some (.inl (s161, s162)))) some)
                (fun ((s277, s278) : Int × Int) =>
                  (some (IntKind.i64.wrap (s163 + 1))).bind fun v87 =>
                  some (.inl (s277, s278, v87))) some)
              (some (.inr (.inl (s161, s162))))) some)
def bestI (b : List Int) (at_ s163 : Int) : ((Int)) → Option ((Int) ⊕ ((Int) ⊕ ((Int × Int) ⊕ ((Int × Int × Int) ⊕ ((Int × Int) ⊕ (Int × Int)))))) := (fun (s293 : Int) =>
                    bindS (S := Bool) (A := ((Int) ⊕ ((Int) ⊕ ((Int × Int) ⊕ ((Int × Int × Int) ⊕ ((Int × Int) ⊕ (Int × Int)))))))
                      (cond ((decide (s293 < 258)))
                        ((some (IntKind.i64.wrap (at_ + s293))).bind fun v13 =>
                        cond ((decide (v13 < (b.length : Int))))
                          ((some (IntKind.i64.wrap (at_ + s293))).bind fun v14 =>
                          (ixO v14 b.length).bind fun v15 =>
                          (getO b v15).bind fun v16 =>
                          (some (IntKind.i64.wrap (at_ + s293))).bind fun v17 =>
                          (some (IntKind.i64.wrap (v17 - s163))).bind fun v18 =>
                          (ixO v18 b.length).bind fun v19 =>
                          (getO b v19).bind fun v20 =>
                          some (.inl (v16 == v20)))
                          (some (.inl false)))
                        (some (.inl false)))
                      (fun (s306 : Bool) =>
                        cond (s306)
                          ((some (IntKind.i64.wrap (s293 + 1))).bind fun v26 =>
                          some (.inl v26))
                          (some (.inr (.inl s293)))) some)
def tokS (b : List Int) : (((List T_Tok) × Int)) → Option (((List T_Tok) × Int) ⊕ (((List T_Tok)) ⊕ (List T_Tok))) := (fun ((s26, s27) : (List T_Tok) × Int) =>
  cond ((decide (s27 < (b.length : Int))))
    (bindS (S := (List T_Tok) × Int) (A := (((List T_Tok) × Int) ⊕ (((List T_Tok)) ⊕ (List T_Tok))))
      ((wherryref01_Best b s27).bind fun v2 =>
      cond ((v2.1 == 0))
        ((ixO s27 b.length).bind fun v4 =>
        (getO b v4).bind fun v5 =>
        (appO 24 s26 [(T_Tok.mk v5 0 0)]).bind fun v6 =>
        (some (IntKind.i64.wrap (s27 + 1))).bind fun v7 =>
        some (.inl (v6, v7)))
        ((appO 24 s26 [(T_Tok.mk 0 v2.1 v2.2)]).bind fun v8 =>
        (some (IntKind.i64.wrap (s27 + v2.1))).bind fun v9 =>
        some (.inl (v8, v9))))
      (fun ((s45, s46) : (List T_Tok) × Int) =>
        some (.inl (s45, s46))) some)
    (some (.inr (.inl s26))))
def sumS (l : List Int) : ((Int × Int)) → Option ((Int × Int) ⊕ ((Int) ⊕ Bool)) := (fun ((s17, s18) : Int × Int) =>
          cond ((decide (s18 < (l.length : Int))))
            ((ixO s18 l.length).bind fun v10 =>
            (getO l v10).bind fun v11 =>
            (some (IntKind.i64.wrap (s17 + v11))).bind fun v12 =>
            (some (IntKind.i64.wrap (s18 + 1))).bind fun v13 =>
            some (.inl (v12, v13)))
            (some (.inr (.inl s17))))
def pcS (l : List T_Tok) : ((Int × Int)) → Option ((Int × Int) ⊕ ((Int) ⊕ Bool)) := (fun ((s67, s68) : Int × Int) =>
                  cond ((decide (s68 < (l.length : Int))))
                    (bindS (S := Int) (A := ((Int × Int) ⊕ ((Int) ⊕ Bool)))
                      ((ixO s68 l.length).bind fun v48 =>
                      (getO l v48).bind fun v49 =>
                      cond ((decide (0 < v49.Len)))
                        ((some (IntKind.i64.wrap (s67 + 1))).bind fun v51 =>
                        some (.inl v51))
                        (some (.inl s67)))
                      (fun (s85 : Int) =>
                        (some (IntKind.i64.wrap (s68 + 1))).bind fun v57 =>
                        some (.inl (s85, v57))) some)
                    (some (.inr (.inl s67))))

/-- How far a place and one before it are alike: at most 258, within the text. -/
theorem bestI_eq (b : List Int) (hl : b.length ≤ 1200) (p d : Nat) (hp : p < b.length) (hd : d ≤ p) : ∀ (k fuel i : Nat), 258 - i = k → i ≤ 258 → p + i ≤ b.length → k < fuel →
    ∃ n : Nat, loopF (bestI b (p : Int) (d : Int)) fuel (i : Int) = some (.inl (n : Int)) ∧ n ≤ 258 ∧ p + n ≤ b.length := by
  intro k
  induction k with
  | zero =>
    intro fuel i hk hi hpi hf
    obtain ⟨f, rfl⟩ : ∃ f, fuel = f + 1 := ⟨fuel - 1, by omega⟩
    refine ⟨i, loop_exit ?_, hi, hpi⟩
    unfold bestI
    exact bndL (s := false) (cnd_f (by simp; omega) rfl) (cnd_f rfl rfl)
  | succ k ih =>
    intro fuel i hk hi hpi hf
    obtain ⟨f, rfl⟩ : ∃ f, fuel = f + 1 := ⟨fuel - 1, by omega⟩
    have w1 : IntKind.i64.wrap ((p : Int) + (i : Int)) = ((p + i : Nat) : Int) := by rw [wrap_i64 (by omega) (by omega)]; simp
    by_cases hin : p + i < b.length
    case neg =>
      refine ⟨i, loop_exit ?_, hi, hpi⟩
      unfold bestI
      refine bndL (s := false) (cnd_t (by simp; omega) (bnd (x := ((p + i : Nat) : Int)) (by rw [w1]) (cnd_f (by simp; omega) rfl))) (cnd_f rfl rfl)
    have w2 : IntKind.i64.wrap (((p + i : Nat) : Int) - (d : Int)) = ((p + i - d : Nat) : Int) := by rw [wrap_i64 (by omega) (by omega)]; omega
    have w3 : IntKind.i64.wrap ((i : Int) + 1) = ((i + 1 : Nat) : Int) := by rw [wrap_i64 (by omega) (by omega)]; simp
    have h2 : p + i - d < b.length := by omega
    by_cases he : (b[p + i] == b[p + i - d]) = true
    · obtain ⟨n, hn, hn2⟩ := ih f (i + 1) (by omega) (by omega) (by omega) (by omega)
      refine ⟨n, (loop_next ?_).trans hn, hn2⟩
      unfold bestI
      exact bndL (s := true) (cnd_t (by simp; omega) (bnd (x := ((p + i : Nat) : Int)) (by rw [w1]) (cnd_t (by simp; omega) (bnd (x := ((p + i : Nat) : Int)) (by rw [w1]) (bnd (ixO_of hin) (bnd (getO_of hin) (bnd (x := ((p + i : Nat) : Int)) (by rw [w1]) (bnd (x := ((p + i - d : Nat) : Int)) (by rw [w2]) (bnd (ixO_of h2) (bnd (getO_of h2) (by rw [he])))))))))))
        (cnd_t rfl (bnd (x := ((i + 1 : Nat) : Int)) (by rw [w3]) rfl))
    · refine ⟨i, loop_exit ?_, hi, hpi⟩
      unfold bestI
      have he' : (b[p + i] == b[p + i - d]) = false := by simpa using he
      exact bndL (s := false) (cnd_t (by simp; omega) (bnd (x := ((p + i : Nat) : Int)) (by rw [w1]) (cnd_t (by simp; omega) (bnd (x := ((p + i : Nat) : Int)) (by rw [w1]) (bnd (ixO_of hin) (bnd (getO_of hin) (bnd (x := ((p + i : Nat) : Int)) (by rw [w1]) (bnd (x := ((p + i - d : Nat) : Int)) (by rw [w2]) (bnd (ixO_of h2) (bnd (getO_of h2) (by rw [he'])))))))))))
        (cnd_f rfl rfl)

theorem bestS_eq (b : List Int) (hl : b.length ≤ 1200) (p : Nat) (hp : p < b.length) : ∀ (k fuel i n d : Nat), 2049 - i = k → i ≤ 2049 → 1 ≤ i → k < fuel → n ≤ 258 → p + n ≤ b.length → (0 < n → 1 ≤ d ∧ d ≤ p ∧ d ≤ 2048) →
    ∃ n' d' : Nat, loopF (bestS b (p : Int)) fuel ((n : Int), (d : Int), (i : Int)) = some (.inl ((n' : Int), (d' : Int))) ∧ n' ≤ 258 ∧ p + n' ≤ b.length ∧ (0 < n' → 1 ≤ d' ∧ d' ≤ p ∧ d' ≤ 2048) := by
  intro k
  induction k with
  | zero =>
    intro fuel i n d hk hi h1 hf hn hpn hd
    obtain ⟨f, rfl⟩ : ∃ f, fuel = f + 1 := ⟨fuel - 1, by omega⟩
    refine ⟨n, d, loop_exit ?_, hn, hpn, hd⟩
    unfold bestS
    refine bndL (s := false) ?_ (cnd_f rfl rfl)
    by_cases hip : i ≤ p
    · exact cnd_t (by simp; omega) (by rw [decide_eq_false (by omega)])
    · exact cnd_f (by simp; omega) rfl
  | succ k ih =>
    intro fuel i n d hk hi h1 hf hn hpn hd
    obtain ⟨f, rfl⟩ : ∃ f, fuel = f + 1 := ⟨fuel - 1, by omega⟩
    by_cases hip : i ≤ p
    case neg =>
      refine ⟨n, d, loop_exit ?_, hn, hpn, hd⟩
      unfold bestS
      exact bndL (s := false) (cnd_f (by simp; omega) rfl) (cnd_f rfl rfl)
    obtain ⟨q, hq, hq1, hq2⟩ := bestI_eq b hl p i hp hip 258 BIG 0 rfl (by omega) (by omega) (by unfold BIG; omega)
    have w3 : IntKind.i64.wrap ((i : Int) + 1) = ((i + 1 : Nat) : Int) := by rw [wrap_i64 (by omega) (by omega)]; simp
    by_cases hlt : n < q
    · obtain ⟨n', d', hr, hr2⟩ := ih f (i + 1) q i (by omega) (by omega) (by omega) (by omega) hq1 hq2 (fun _ => ⟨h1, hip, by omega⟩)
      refine ⟨n', d', (loop_next ?_).trans hr, hr2⟩
      unfold bestS
      exact bndL (s := true) (cnd_t (by simp; omega) (by rw [decide_eq_true (by omega)])) (cnd_t rfl (bndL (s := ((q : Int), (i : Int))) (bndL hq (cnd_t (by simp; omega) rfl)) (bnd (x := ((i + 1 : Nat) : Int)) (by rw [w3]) rfl)))
    · obtain ⟨n', d', hr, hr2⟩ := ih f (i + 1) n d (by omega) (by omega) (by omega) (by omega) hn hpn hd
      refine ⟨n', d', (loop_next ?_).trans hr, hr2⟩
      unfold bestS
      exact bndL (s := true) (cnd_t (by simp; omega) (by rw [decide_eq_true (by omega)])) (cnd_t rfl (bndL (s := ((n : Int), (d : Int))) (bndL hq (cnd_f (by simp; omega) rfl)) (bnd (x := ((i + 1 : Nat) : Int)) (by rw [w3]) rfl)))

theorem best_eq (b : List Int) (hl : b.length ≤ 1200) (p : Nat) (hp : p < b.length) : ∃ n d : Nat, wherryref01_Best b (p : Int) = some ((n : Int), (d : Int)) ∧ n ≤ 258 ∧ p + n ≤ b.length ∧ (0 < n → 3 ≤ n ∧ 1 ≤ d ∧ d ≤ p ∧ d ≤ 2048) := by
  obtain ⟨n, d, hr, h1, h2, h3⟩ := bestS_eq b hl p hp 2048 BIG 1 0 0 rfl (by omega) (by omega) (by unfold BIG; omega) (by omega) (by omega) (by omega)
  have w : IntKind.i64.wrap ((b.length : Int) - 1) = ((b.length - 1 : Nat) : Int) := by rw [wrap_i64 (by omega) (by omega)]; omega
  have hin : wherryref01_in (p : Int) 0 ((b.length - 1 : Nat) : Int) = some true := by
    rw [in_eqs, decide_eq_true (by omega), decide_eq_true (by omega)]; rfl
  by_cases h : n < 3
  · refine ⟨0, 0, ?_, by omega, by omega, by omega⟩
    unfold wherryref01_Best
    exact bndL (s := false) (cnd_f (by simp; omega) (bnd (x := ((b.length - 1 : Nat) : Int)) (by rw [w]) (bnd hin rfl))) (cnd_f rfl (bndL hr (cnd_t (by simp; omega) rfl)))
  · refine ⟨n, d, ?_, h1, h2, fun h0 => ⟨by omega, h3 h0⟩⟩
    unfold wherryref01_Best
    exact bndL (s := false) (cnd_f (by simp; omega) (bnd (x := ((b.length - 1 : Nat) : Int)) (by rw [w]) (bnd hin rfl))) (cnd_f rfl (bndL hr (cnd_f (by simp; omega) rfl)))

theorem trun_snoc : ∀ (l : List T_Tok) (t : T_Tok) (a : Nat), trun (l ++ [t]) a = (trun l a).bind fun x => tstep x t
  | [], t, a => by simp only [List.nil_append, trun, Option.bind_some]; cases tstep a t <;> rfl
  | x :: l, t, a => by
    simp only [List.cons_append, trun]
    cases tstep a x with
    | none => rfl
    | some y => exact trun_snoc l t y

theorem tokens_eq (b : List Int) (hl : b.length ≤ 1200) (hb : ∀ n ∈ b, 0 ≤ n ∧ n < 256) : ∀ (k fuel p : Nat) (out : List T_Tok), b.length - p = k → p ≤ b.length → k < fuel → trun out 0 = some p → out.length ≤ p → (∀ t ∈ out, 0 ≤ t.Byte ∧ t.Byte < 256) →
    ∃ l, loopF (tokS b) fuel (out, (p : Int)) = some (.inl l) ∧ trun l 0 = some b.length ∧ l.length ≤ 1200 ∧ (∀ t ∈ l, 0 ≤ t.Byte ∧ t.Byte < 256) := by
  intro k
  induction k using Nat.strongRecOn with
  | _ k ih =>
    intro fuel p out hk hp hf ht hol hob
    obtain ⟨f, rfl⟩ : ∃ f, fuel = f + 1 := ⟨fuel - 1, by omega⟩
    by_cases hpl : p < b.length
    case neg =>
      have : p = b.length := by omega
      subst this
      refine ⟨out, loop_exit ?_, ht, by omega, hob⟩
      unfold tokS
      exact cnd_f (by simp) rfl
    obtain ⟨n, d, hbest, h1, h2, h3⟩ := best_eq b hl p hpl
    have happ : ∀ t : T_Tok, appO 24 out [t] = some (out ++ [t]) := fun t => by simp only [appO]; rw [if_pos (by simp; omega)]
    by_cases h0 : n = 0
    · have hx := hb _ (List.getElem_mem hpl)
      have w : IntKind.i64.wrap ((p : Int) + 1) = ((p + 1 : Nat) : Int) := by rw [wrap_i64 (by omega) (by omega)]; simp
      have ht2 : trun (out ++ [T_Tok.mk b[p] 0 0]) 0 = some (p + 1) := by
        rw [trun_snoc, ht]
        simp [tstep]
      obtain ⟨l, hr, hr2⟩ := ih (b.length - (p + 1)) (by omega) f (p + 1) (out ++ [T_Tok.mk b[p] 0 0]) rfl (by omega) (by omega) ht2 (by simp; omega) (fun t hm => by
        rcases List.mem_append.1 hm with hm | hm
        · exact hob t hm
        · simp at hm; subst hm; exact hx)
      refine ⟨l, (loop_next ?_).trans hr, hr2⟩
      unfold tokS
      exact cnd_t (by simp; omega) (bndL (s := (out ++ [T_Tok.mk b[p] 0 0], ((p + 1 : Nat) : Int))) (bnd hbest (cnd_t (by simp [h0]) (bnd (ixO_of hpl) (bnd (getO_of hpl) (bnd (happ _) (bnd (x := ((p + 1 : Nat) : Int)) (by rw [w]) rfl)))))) rfl)
    · obtain ⟨g1, g2, g3, g4⟩ := h3 (by omega)
      have w : IntKind.i64.wrap ((p : Int) + (n : Int)) = ((p + n : Nat) : Int) := by rw [wrap_i64 (by omega) (by omega)]; simp
      have ht2 : trun (out ++ [T_Tok.mk 0 (n : Int) (d : Int)]) 0 = some (p + n) := by
        rw [trun_snoc, ht, Option.bind_some, tstep, if_neg, if_pos]
        · simp
        · refine ⟨⟨rfl, ?_, ?_, ?_, ?_⟩, ?_⟩ <;> simp only [] <;> omega
        · rintro ⟨h, _⟩; simp only [] at h; omega
      obtain ⟨l, hr, hr2⟩ := ih (b.length - (p + n)) (by omega) f (p + n) (out ++ [T_Tok.mk 0 (n : Int) (d : Int)]) rfl (by omega) (by omega) ht2 (by simp; omega) (fun t hm => by
        rcases List.mem_append.1 hm with hm | hm
        · exact hob t hm
        · simp at hm; subst hm; exact ⟨by simp, by simp⟩)
      refine ⟨l, (loop_next ?_).trans hr, hr2⟩
      unfold tokS
      exact cnd_t (by simp; omega) (bndL (s := (out ++ [T_Tok.mk 0 (n : Int) (d : Int)], ((p + n : Nat) : Int))) (bnd hbest (cnd_f (by simp; omega) (bnd (happ _) (bnd (x := ((p + n : Nat) : Int)) (by rw [w]) rfl)))) rfl)

theorem lenChk_ge (n : Int) (h : 3 ≤ n ∧ n ≤ 258) : ∀ r, sym_Len n = some r → 257 ≤ r.1 := by
  intro r hr
  have hk := lenChk_all (n - 3).toNat (by omega)
  have e : (((n - 3).toNat : Nat) : Int) + 3 = n := by omega
  unfold lenChk at hk
  rw [e, hr] at hk
  cases h2 : wherryref01_Len n with
  | none => rw [h2] at hk; cases hk
  | some b =>
    rw [h2] at hk
    simp only [Bool.and_eq_true, decide_eq_true_eq] at hk
    exact hk.1.2

def total (l : List Int) : Int := l.foldr (· + ·) 0
theorem total_set : ∀ (l : List Int) (i : Nat) (v : Int) (h : i < l.length), total (l.set i v) = total l - l[i] + v
  | x :: l, 0, v, _ => by simp [total]; omega
  | x :: l, i + 1, v, h => by
    have := total_set l i v (by simpa using h)
    simp only [List.set_cons_succ, List.getElem_cons_succ]
    simp only [total, List.foldr_cons] at *
    omega
theorem total_rep (n : Nat) : total (List.replicate n 0) = 0 := by
  induction n with
  | zero => rfl
  | succ n ih => rw [List.replicate_succ]; simp only [total, List.foldr_cons] at *; omega
def pieces (l : List T_Tok) : Nat := l.countP fun t => decide (0 < t.Len)

theorem wt_sum (l : List T_Tok) (hl : l.length ≤ 1300) (hb : ∀ t ∈ l, 0 ≤ t.Byte ∧ t.Byte < 256) (hg : ∀ t ∈ l, goodTok t) : ∀ (k fuel i : Nat) (a d : List Int), l.length - i = k → i ≤ l.length → k < fuel → a.length = 286 → d.length = 30 →
    (∀ x ∈ a, 0 ≤ x ∧ x ≤ i + 1) → (∀ x ∈ d, 0 ≤ x ∧ x ≤ i) →
    ∃ r : List Int × List Int, loopF (wtS l) fuel (a, d, (i : Int)) = some (.inl r) ∧ r.1.length = 286 ∧ r.2.length = 30 ∧ total r.1 = total a + (l.length - i : Nat) ∧ total r.2 = total d + pieces (l.drop i) ∧ r.1[256]? = a[256]? ∧ (∀ x ∈ r.1, 0 ≤ x ∧ x ≤ 1301) ∧ (∀ x ∈ r.2, 0 ≤ x ∧ x ≤ 1301) := by
  intro k
  induction k with
  | zero =>
    intro fuel i a d hk hi hf ha hdl hab hdb
    obtain ⟨f, rfl⟩ : ∃ f, fuel = f + 1 := ⟨fuel - 1, by omega⟩
    have : i = l.length := by omega
    subst this
    refine ⟨(a, d), loop_exit ?_, ha, hdl, by simp, by simp [pieces], rfl, fun x hx => ?_, fun x hx => ?_⟩
    · unfold wtS; exact cnd_f (by simp) rfl
    · have := hab x hx; omega
    · have := hdb x hx; omega
  | succ k ih =>
    intro fuel i a d hk hi hf ha hdl hab hdb
    obtain ⟨f, rfl⟩ : ∃ f, fuel = f + 1 := ⟨fuel - 1, by omega⟩
    have hlt : i < l.length := by omega
    have hw : IntKind.i64.wrap ((i : Int) + 1) = ((i + 1 : Nat) : Int) := by rw [wrap_i64 (by omega) (by omega)]; simp
    have hd : decide ((i : Int) < (l.length : Int)) = true := by simp; omega
    have hgt := getO_of hlt
    have hb' := hb _ (List.getElem_mem hlt)
    have hg' := hg _ (List.getElem_mem hlt)
    have hdr : l.drop i = l[i] :: l.drop (i + 1) := List.drop_eq_getElem_cons hlt
    generalize l[i] = t at hgt hb' hg' hdr
    have upd : ∀ (c : List Int) (B : Int), 0 ≤ B → B ≤ 1300 → (∀ x ∈ c, 0 ≤ x ∧ x ≤ B) → ∀ j (h : j < c.length), IntKind.i64.wrap (c[j] + 1) = c[j] + 1 ∧ (∀ x ∈ c.set j (c[j] + 1), 0 ≤ x ∧ x ≤ B + 1) := by
      intro c B hB0 hB hc j h
      have := hc _ (List.getElem_mem h)
      refine ⟨wrap_i64 (by omega) (by omega), fun x hx => ?_⟩
      rcases List.mem_or_eq_of_mem_set hx with hx | hx
      · have := hc x hx; omega
      · omega
    by_cases h0 : t.Len = 0
    · obtain ⟨x, hx⟩ : ∃ x : Nat, t.Byte = (x : Int) := ⟨t.Byte.toNat, by omega⟩
      have hxa : x < a.length := by omega
      obtain ⟨wa, ba⟩ := upd a (i + 1) (by omega) (by omega) hab x hxa
      obtain ⟨r, r1, r2, r3, r4, r5, r6, r7⟩ := ih f (i + 1) (a.set x (a[x] + 1)) d (by omega) (by omega) (by omega) (by simp [ha]) hdl (fun y hy => by have := ba y hy; omega) (fun y hy => by have := hdb y hy; omega)
      have hp : pieces (l.drop i) = pieces (l.drop (i + 1)) := by rw [hdr, pieces, pieces, List.countP_cons]; simp [h0]
      refine ⟨r, (loop_next ?_).trans r1, r2, r3, ?_, by rw [hp]; exact r5, ?_, r7⟩
      · unfold wtS
        exact cnd_t hd (bndL (s := (a.set x (a[x] + 1), d)) (bnd (ixO_of hlt) (bnd hgt (cnd_t (by simp [h0]) (bnd (by rw [hx]; exact ixO_of hxa) (bnd (getO_of hxa) (bnd (x := a[x] + 1) (by rw [wa]) (bnd (by rw [hx]; exact ixO_of hxa) (bnd rfl rfl)))))))) (bnd (x := ((i + 1 : Nat) : Int)) (by rw [hw]) rfl))
      · rw [r4, total_set _ _ _ hxa]; omega
      · rw [r6, List.getElem?_set_ne (by omega)]
    · have hv : 3 ≤ t.Len ∧ t.Len ≤ 258 ∧ 1 ≤ t.Dist ∧ t.Dist ≤ 2048 := hg'.resolve_left h0
      obtain ⟨p, p1, p2, p3⟩ := len_same t.Len
      obtain ⟨q, q1, q2, q3⟩ := dist_same t.Dist
      obtain ⟨x, hx1, hx2⟩ := p3 ⟨hv.1, hv.2.1⟩
      obtain ⟨y, hy1, hy2⟩ := q3 ⟨hv.2.2.1, by omega⟩
      clear p3 q3
      have hge := lenChk_ge t.Len ⟨hv.1, hv.2.1⟩ p p1
      have hxa : x < a.length := by omega
      have hyd : y < d.length := by omega
      have ixx : ixO p.1 a.length = some x := by rw [hx2]; exact ixO_of hxa
      have ixy : ixO q.1 d.length = some y := by rw [hy2]; exact ixO_of hyd
      obtain ⟨wa, ba⟩ := upd a (i + 1) (by omega) (by omega) hab x hxa
      obtain ⟨wd, bd⟩ := upd d i (by omega) (by omega) hdb y hyd
      obtain ⟨r, r1, r2, r3, r4, r5, r6, r7⟩ := ih f (i + 1) (a.set x (a[x] + 1)) (d.set y (d[y] + 1)) (by omega) (by omega) (by omega) (by simp [ha]) (by simp [hdl]) (fun z hz => by have := ba z hz; omega) (fun z hz => by have := bd z hz; omega)
      have hp : pieces (l.drop i) = pieces (l.drop (i + 1)) + 1 := by
        rw [hdr, pieces, pieces, List.countP_cons]
        have : decide (0 < t.Len) = true := by simp; omega
        rw [this]; rfl
      refine ⟨r, (loop_next ?_).trans r1, r2, r3, ?_, ?_, ?_, r7⟩
      · unfold wtS
        exact cnd_t hd (bndL (s := (a.set x (a[x] + 1), d.set y (d[y] + 1))) (bnd (ixO_of hlt) (bnd hgt (cnd_f (by simp [h0]) (bnd p1 (bnd q1 (bnd ixx (bnd (getO_of hxa) (bnd (x := a[x] + 1) (by rw [wa]) (bnd ixx (bnd rfl (bnd ixy (bnd (getO_of hyd) (bnd (x := d[y] + 1) (by rw [wd]) (bnd ixy (bnd rfl rfl))))))))))))))) (bnd (x := ((i + 1 : Nat) : Int)) (by rw [hw]) rfl))
      · rw [r4, total_set _ _ _ hxa]; omega
      · rw [r5, hp, total_set _ _ _ hyd]; omega
      · rw [r6, List.getElem?_set_ne (by omega)]

theorem sum_eq (l : List Int) (hl : l.length ≤ 300) (hb : ∀ x ∈ l, 0 ≤ x ∧ x ≤ 1301) : ∀ (k fuel i : Nat) (s : Int), l.length - i = k → i ≤ l.length → k < fuel → 0 ≤ s → s ≤ 1301 * i →
    loopF (sumS l) fuel (s, (i : Int)) = some (.inl (s + total (l.drop i))) := by
  intro k
  induction k with
  | zero =>
    intro fuel i s hk hi hf h0 hs
    obtain ⟨f, rfl⟩ : ∃ f, fuel = f + 1 := ⟨fuel - 1, by omega⟩
    have : i = l.length := by omega
    subst this
    refine loop_exit ?_
    unfold sumS
    exact cnd_f (by simp) (by simp [total])
  | succ k ih =>
    intro fuel i s hk hi hf h0 hs
    obtain ⟨f, rfl⟩ : ∃ f, fuel = f + 1 := ⟨fuel - 1, by omega⟩
    have hlt : i < l.length := by omega
    have hw : IntKind.i64.wrap ((i : Int) + 1) = ((i + 1 : Nat) : Int) := by rw [wrap_i64 (by omega) (by omega)]; simp
    have hx := hb _ (List.getElem_mem hlt)
    have w2 : IntKind.i64.wrap (s + l[i]) = s + l[i] := wrap_i64 (by omega) (by omega)
    have hdr : l.drop i = l[i] :: l.drop (i + 1) := List.drop_eq_getElem_cons hlt
    have ht : s + total (l.drop i) = s + l[i] + total (l.drop (i + 1)) := by rw [hdr]; simp only [total, List.foldr_cons]; omega
    rw [ht]
    refine (loop_next ?_).trans (ih f (i + 1) (s + l[i]) (by omega) (by omega) (by omega) (by omega) (by omega))
    unfold sumS
    exact cnd_t (by simp; omega) (bnd (ixO_of hlt) (bnd (getO_of hlt) (bnd (x := s + l[i]) (by rw [w2]) (bnd (x := ((i + 1 : Nat) : Int)) (by rw [hw]) rfl))))
theorem pc_eq (l : List T_Tok) (hl : l.length ≤ 1300) : ∀ (k fuel i s : Nat), l.length - i = k → i ≤ l.length → k < fuel → s ≤ i →
    loopF (pcS l) fuel ((s : Int), (i : Int)) = some (.inl ((s + pieces (l.drop i) : Nat) : Int)) := by
  intro k
  induction k with
  | zero =>
    intro fuel i s hk hi hf hs
    obtain ⟨f, rfl⟩ : ∃ f, fuel = f + 1 := ⟨fuel - 1, by omega⟩
    have : i = l.length := by omega
    subst this
    refine loop_exit ?_
    unfold pcS
    exact cnd_f (by simp) (by simp [pieces])
  | succ k ih =>
    intro fuel i s hk hi hf hs
    obtain ⟨f, rfl⟩ : ∃ f, fuel = f + 1 := ⟨fuel - 1, by omega⟩
    have hlt : i < l.length := by omega
    have hw : IntKind.i64.wrap ((i : Int) + 1) = ((i + 1 : Nat) : Int) := by rw [wrap_i64 (by omega) (by omega)]; simp
    have w2 : IntKind.i64.wrap ((s : Int) + 1) = ((s + 1 : Nat) : Int) := by rw [wrap_i64 (by omega) (by omega)]; simp
    have hdr : l.drop i = l[i] :: l.drop (i + 1) := List.drop_eq_getElem_cons hlt
    by_cases h0 : 0 < l[i].Len
    · have ht : s + pieces (l.drop i) = s + 1 + pieces (l.drop (i + 1)) := by rw [hdr, pieces, pieces, List.countP_cons, decide_eq_true h0]; simp; omega
      rw [ht]
      refine (loop_next ?_).trans (ih f (i + 1) (s + 1) (by omega) (by omega) (by omega) (by omega))
      unfold pcS
      exact cnd_t (by simp; omega) (bndL (s := ((s + 1 : Nat) : Int)) (bnd (ixO_of hlt) (bnd (getO_of hlt) (cnd_t (by simp [h0]) (bnd (x := ((s + 1 : Nat) : Int)) (by rw [w2]) rfl)))) (bnd (x := ((i + 1 : Nat) : Int)) (by rw [hw]) rfl))
    · have ht : s + pieces (l.drop i) = s + pieces (l.drop (i + 1)) := by rw [hdr, pieces, pieces, List.countP_cons, decide_eq_false h0]; simp
      rw [ht]
      refine (loop_next ?_).trans (ih f (i + 1) s (by omega) (by omega) (by omega) (by omega))
      unfold pcS
      exact cnd_t (by simp; omega) (bndL (s := (s : Int)) (bnd (ixO_of hlt) (bnd (getO_of hlt) (cnd_f (by simp; omega) rfl))) (bnd (x := ((i + 1 : Nat) : Int)) (by rw [hw]) rfl))

theorem symWeights_true (b : List Int) (hb : ∀ n ∈ b, 0 ≤ n ∧ n < 256) : wherrylaw05_SymWeights b = some true := by
  unfold wherrylaw05_SymWeights
  by_cases l1 : 1200 < b.length
  · exact cnd_t (by simp; omega) rfl
  refine cnd_f (by simp; omega) ?_
  obtain ⟨l, hl, ht, hll, hlb⟩ := tokens_eq b (by omega) hb b.length BIG 0 [] (by omega) (Nat.zero_le _) (by unfold BIG; omega) rfl (by simp) (by simp)
  have hT : wherryref01_Tokens b = some (l, 0) := by
    unfold wherryref01_Tokens
    refine cnd_f (by simp; omega) (bnd (x := l) ?_ rfl)
    unfold wherryref01_tokens
    exact bndL hl rfl
  have he : terr l = 0 := by
    unfold terr; rw [ht]; simp; omega
  have hg := trun_good l 0 _ ht
  have m1 : mkO 8 286 (0 : Int) = some (List.replicate 286 0) := by kernel_rfl
  have m2 : mkO 8 30 (0 : Int) = some (List.replicate 30 0) := by kernel_rfl
  have hx : ixO 256 (List.replicate 286 (0 : Int)).length = some 256 := by rw [List.length_replicate]; rfl
  have hlen1 : ((List.replicate 286 (0 : Int)).set 256 1).length = 286 := by rw [List.length_set, List.length_replicate]
  obtain ⟨r, r1, r2, r3, r4, r5, r6, r7, r8⟩ := wt_sum l (by omega) hlb hg l.length BIG 0 ((List.replicate 286 (0 : Int)).set 256 1) (List.replicate 30 0) (by omega) (Nat.zero_le _) (by unfold BIG; omega) hlen1 (by rw [List.length_replicate])
    (fun x hx => by
      rcases List.mem_or_eq_of_mem_set hx with hx | hx
      · have := List.eq_of_mem_replicate hx; omega
      · omega) (fun x hx => by have := List.eq_of_mem_replicate hx; omega)
  have hW : sym_Weights l = some (r.1, r.2, 0) := by
    unfold sym_Weights
    exact bnd (check_tok l (by omega)) (cnd_f (by simp [he]) (bnd m1 (bnd m2 (bnd hx (bnd rfl (bndL r1 rfl))))))
  have t1 : total ((List.replicate 286 (0 : Int)).set 256 1) = 1 := by
    rw [total_set _ _ _ (by rw [List.length_replicate]; omega), total_rep, List.getElem_replicate]; rfl
  rw [t1, Nat.sub_zero] at r4
  rw [total_rep, List.drop_zero] at r5
  have h256 : getO r.1 256 = some 1 := by
    show r.1[256]? = some 1
    rw [r6, List.getElem?_set_self (by rw [List.length_replicate]; omega)]
  have s1 := sum_eq r.1 (by omega) r7 r.1.length BIG 0 0 (by omega) (Nat.zero_le _) (by unfold BIG; omega) (by omega) (by omega)
  have s2 := sum_eq r.2 (by omega) r8 r.2.length BIG 0 0 (by omega) (Nat.zero_le _) (by unfold BIG; omega) (by omega) (by omega)
  have s3 := pc_eq l (by omega) l.length BIG 0 0 (by omega) (Nat.zero_le _) (by unfold BIG; omega) (by omega)
  rw [List.drop_zero, Int.zero_add] at s1 s2
  rw [List.drop_zero, Nat.zero_add] at s3
  have w : IntKind.i64.wrap ((l.length : Int) + 1) = (l.length : Int) + 1 := wrap_i64 (by omega) (by omega)
  have e1 : (((r.1, r.2, (0 : Int)).1.length : Int) != 286) = false := by
    show ((r.1.length : Int) != 286) = false
    rw [r2]; rfl
  have e2 : (((r.1, r.2, (0 : Int)).2.1.length : Int) != 30) = false := by
    show ((r.2.length : Int) != 30) = false
    rw [r3]; rfl
  refine bnd hT (bnd hW (bndL (s := false) (cnd_f rfl (cnd_f e1 (by rw [e2]))) (cnd_f rfl (bndL s1 (bndL s2 (bndL s3 (bndL (s := true) ?_ rfl)))))))
  refine bnd (x := (l.length : Int) + 1) (by rw [w]) (cnd_t ?_ (cnd_t ?_ (bnd (show ixO 256 r.1.length = some 256 by rw [r2]; rfl) (bnd h256 (cnd_t rfl (bnd wakes05 rfl))))))
  · rw [r4]; simp; omega
  · rw [r5]; simp
end Go.Abs.Sh
