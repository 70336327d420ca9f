import Derived.Test.YtepkcpjfogjfhaaMatD
namespace Go.Abs.Sh
set_option linter.unusedVariables false
set_option linter.unusedSimpArgs false
set_option maxRecDepth 10000
def rbS (b : List Int) (at_ : Int) : ((Int × Int × Int)) → Option ((Int × Int × Int) ⊕ ((Int × Int) ⊕ (Int × Int))) := (fun ((s161, s162, s163) : Int × Int × Int) =>
        bindS (S := Bool) (A := ((Int × Int × Int) ⊕ ((Int × Int) ⊕ (Int × Int))))
          (cond ((decide (s163 ≤ at_)))
            (some (.inl ((decide (s163 ≤ 2048)))))
            (some (.inl false)))
          (fun (s242 : Bool) =>
            cond (s242)
              (bindS (S := Int × Int) (A := ((Int × Int × Int) ⊕ ((Int × Int) ⊕ (Int × Int))))
                (bindS (S := (Int)) (A := ((Int × Int) ⊕ ((Int × Int × Int) ⊕ ((Int × Int) ⊕ (Int × Int)))))
                  (loopF (S := (Int)) (O := (Int) ⊕ ((Int × Int) ⊕ ((Int × Int × Int) ⊕ ((Int × Int) ⊕ (Int × Int))))) (fun (s293 : Int) =>
                    bindS (S := Bool) (A := ((Int) ⊕ ((Int) ⊕ ((Int × Int) ⊕ ((Int × Int × Int) ⊕ ((Int × Int) ⊕ (Int × Int)))))))
                      (cond ((decide (s293 < 258)))
                        ((some (IntKind.i64.wrap (at_ + s293))).bind fun v13 =>
                        cond ((decide (v13 < (b.length : Int))))
                          ((some (IntKind.i64.wrap (at_ + s293))).bind fun v14 =>
                          (ixO v14 b.length).bind fun v15 =>
                          (getO b v15).bind fun v16 =>
                          (some (IntKind.i64.wrap (at_ + s293))).bind fun v17 =>
                          (some (IntKind.i64.wrap (v17 - s163))).bind fun v18 =>
                          (ixO v18 b.length).bind fun v19 =>
                          (getO b v19).bind fun v20 =>
                          some (.inl (v16 == v20)))
                          (some (.inl false)))
                        (some (.inl false)))
                      (fun (s306 : Bool) =>
                        cond (s306)
                          ((some (IntKind.i64.wrap (s293 + 1))).bind fun v26 =>
                          some (.inl v26))
                          (some (.inr (.inl s293)))) some)
                    BIG 0)
                  (fun (s299 : Int) =>
                    cond ((decide (s161 < s299)))
                      (some (.inl (s299, s163)))
                      (some (.inl (s161, s162)))) some)
                (fun ((s277, s278) : Int × Int) =>
                  (some (IntKind.i64.wrap (s163 + 1))).bind fun v87 =>
                  some (.inl (s277, s278, v87))) some)
              (some (.inr (.inl (s161, s162))))) some)
def rcS (b : List Int) (at_ s163 : Int) : ((Int)) → Option ((Int) ⊕ ((Int) ⊕ ((Int × Int) ⊕ ((Int × Int × Int) ⊕ ((Int × Int) ⊕ (Int × Int)))))) := (fun (s293 : Int) =>
                    bindS (S := Bool) (A := ((Int) ⊕ ((Int) ⊕ ((Int × Int) ⊕ ((Int × Int × Int) ⊕ ((Int × Int) ⊕ (Int × Int)))))))
                      (cond ((decide (s293 < 258)))
                        ((some (IntKind.i64.wrap (at_ + s293))).bind fun v13 =>
                        cond ((decide (v13 < (b.length : Int))))
                          ((some (IntKind.i64.wrap (at_ + s293))).bind fun v14 =>
                          (ixO v14 b.length).bind fun v15 =>
                          (getO b v15).bind fun v16 =>
                          (some (IntKind.i64.wrap (at_ + s293))).bind fun v17 =>
                          (some (IntKind.i64.wrap (v17 - s163))).bind fun v18 =>
                          (ixO v18 b.length).bind fun v19 =>
                          (getO b v19).bind fun v20 =>
                          some (.inl (v16 == v20)))
                          (some (.inl false)))
                        (some (.inl false)))
                      (fun (s306 : Bool) =>
                        cond (s306)
                          ((some (IntKind.i64.wrap (s293 + 1))).bind fun v26 =>
                          some (.inl v26))
                          (some (.inr (.inl s293)))) some)
def rtS (b : List Int) : (((List T_Tok) × Int)) → Option (((List T_Tok) × Int) ⊕ (((List T_Tok)) ⊕ (List T_Tok))) := (fun ((s26, s27) : (List T_Tok) × Int) =>
  cond ((decide (s27 < (b.length : Int))))
    (bindS (S := (List T_Tok) × Int) (A := (((List T_Tok) × Int) ⊕ (((List T_Tok)) ⊕ (List T_Tok))))
      ((wherryref01_Best b s27).bind fun v2 =>
      cond ((v2.1 == 0))
        ((ixO s27 b.length).bind fun v4 =>
        (getO b v4).bind fun v5 =>
        (appO 24 s26 [(T_Tok.mk v5 0 0)]).bind fun v6 =>
        (some (IntKind.i64.wrap (s27 + 1))).bind fun v7 =>
        some (.inl (v6, v7)))
        ((appO 24 s26 [(T_Tok.mk 0 v2.1 v2.2)]).bind fun v8 =>
        (some (IntKind.i64.wrap (s27 + v2.1))).bind fun v9 =>
        some (.inl (v8, v9))))
      (fun ((s45, s46) : (List T_Tok) × Int) =>
        some (.inl (s45, s46))) some)
    (some (.inr (.inl s26))))
theorem rin_eq (n lo hi : Int) : wherryref01_in n lo hi = some (decide (lo ≤ n) && decide (n ≤ hi)) := by
  unfold wherryref01_in
  by_cases h : lo ≤ n
  · rw [decide_eq_true h]; exact bndL (s := decide (n ≤ hi)) (cnd_t rfl rfl) rfl
  · rw [decide_eq_false h]; exact bndL (s := false) (cnd_f rfl rfl) rfl
theorem rc_loop {b : List Int} {at_ o : Nat} (hl : b.length ≤ 5000) (ha : at_ < b.length) (ho : 1 ≤ o) (ho2 : o ≤ at_) :
    loopF (rcS b (at_ : Int) (o : Int)) BIG 0 = some (.inl ((cmL b (at_ - o) at_ : Nat) : Int)) := by
  have hle := cm_le b (p := at_ - o) (at_ := at_)
  have hgo : ∀ i : Nat, i < 258 → at_ + i < b.length → ∃ u v : Int, b[at_ - o + i]? = some u ∧ b[at_ + i]? = some v ∧ (((cond ((decide ((i : Int) < 258)))
                            ((some (IntKind.i64.wrap ((at_ : Int) + (i : Int)))).bind fun v13 =>
                            cond ((decide (v13 < (b.length : Int))))
                              ((some (IntKind.i64.wrap ((at_ : Int) + (i : Int)))).bind fun v14 =>
                              (ixO v14 b.length).bind fun v15 =>
                              (getO b v15).bind fun v16 =>
                              (some (IntKind.i64.wrap ((at_ : Int) + (i : Int)))).bind fun v17 =>
                              (some (IntKind.i64.wrap (v17 - (o : Int)))).bind fun v18 =>
                              (ixO v18 b.length).bind fun v19 =>
                              (getO b v19).bind fun v20 =>
                              some (.inl (v16 == v20)))
                              (some (.inl false)))
                            (some (.inl false))) : Option (Bool ⊕ (Int ⊕ (Int ⊕ ((Int × Int) ⊕ ((Int × Int × Int) ⊕ ((Int × Int) ⊕ (Int × Int)))))))) = some (.inl (v == u))) := by
    intro i hi hn
    obtain ⟨u, hu, hu2⟩ := getO_q (l := b) (i := at_ - o + i) (by omega)
    obtain ⟨v, hv, hv2⟩ := getO_q (l := b) (i := at_ + i) hn
    have hw : IntKind.i64.wrap ((at_ : Int) + (i : Int)) = ((at_ + i : Nat) : Int) := by rw [wrap_i64 (by omega) (by omega)]; simp
    have hw2 : IntKind.i64.wrap (((at_ + i : Nat) : Int) - (o : Int)) = ((at_ - o + i : Nat) : Int) := by rw [wrap_i64 (by omega) (by omega)]; omega
    exact ⟨u, v, hu2, hv2, cnd_t (decide_eq_true (by omega)) (bnd (congrArg some hw) (cnd_t (decide_eq_true (by omega)) (bnd (congrArg some hw) (bnd (ixO_of hn) (bnd hv (bnd (congrArg some hw) (bnd (congrArg some hw2) (bnd (ixO_of (by omega)) (bnd hu rfl)))))))))⟩
  refine loop_from (fun i => ((i : Nat) : Int)) (cmL b (at_ - o) at_) BIG rfl (by simp only [BIG]; omega) (fun i hi => ?_) ?_
  · obtain ⟨u, v, hu, hv, he⟩ := hgo i (by omega) (by omega)
    have := cm_get (b := b) (p := at_ - o) (at_ := at_) hi
    rw [hu, hv] at this
    obtain rfl := Option.some.inj this
    rw [beq_self_eq_true] at he
    exact bndL he (cnd_t rfl (bnd (congrArg some (wrap_succ (n := i) (by omega))) rfl))
  · by_cases h258 : cmL b (at_ - o) at_ < 258
    · by_cases hn : at_ + cmL b (at_ - o) at_ < b.length
      · obtain ⟨u, v, hu, hv, he⟩ := hgo _ h258 hn
        have := cm_stop (b := b) (p := at_ - o) (at_ := at_) (by omega) h258 hn
        rw [hu, hv] at this
        have hne : (v == u) = false := beq_eq_false_iff_ne.2 fun h => this (by rw [h])
        rw [hne] at he
        exact bndL he (cnd_f rfl rfl)
      · have hw : IntKind.i64.wrap ((at_ : Int) + ((cmL b (at_ - o) at_ : Nat) : Int)) = ((at_ + cmL b (at_ - o) at_ : Nat) : Int) := by rw [wrap_i64 (by omega) (by omega)]; simp
        exact bndL (s := false) (cnd_t (decide_eq_true (by omega)) (bnd (congrArg some hw) (cnd_f (decide_eq_false (by omega)) rfl))) (cnd_f rfl rfl)
    · exact bndL (s := false) (cnd_f (decide_eq_false (by omega)) rfl) (cnd_f rfl rfl)
theorem rb_loop {b : List Int} {at_ : Nat} (hl : b.length ≤ 5000) (ha : at_ < b.length) : loopF (rbS b (at_ : Int)) BIG (0, 0, 1) = some (.inl (((bestN b at_ (min at_ 2048)).1 : Int), ((bestN b at_ (min at_ 2048)).2 : Int))) := by
  refine loop_from (fun i => (((bestN b at_ i).1 : Int), ((bestN b at_ i).2 : Int), ((i + 1 : Nat) : Int))) (min at_ 2048) BIG rfl (by simp only [BIG]; omega) (fun i hi => ?_) ?_
  · have hr := rc_loop hl ha (o := i + 1) (by omega) (by omega)
    have hfirst : (cond ((decide (((i + 1 : Nat) : Int) ≤ (at_ : Int)))) (some (.inl ((decide (((i + 1 : Nat) : Int) ≤ 2048))))) (some (.inl false)) : Option (Bool ⊕ ((Int × Int × Int) ⊕ ((Int × Int) ⊕ (Int × Int))))) = some (.inl true) :=
      cnd_t (decide_eq_true (by omega)) (by rw [decide_eq_true (by omega)])
    refine bndL hfirst (cnd_t rfl (bndL (s := (((bestN b at_ (i + 1)).1 : Int), ((bestN b at_ (i + 1)).2 : Int))) (bndL hr ?_) (bnd (congrArg some (wrap_succ (n := i + 1) (by omega))) rfl)))
    show cond (decide (((bestN b at_ i).1 : Int) < ((cmL b (at_ - (i + 1)) at_ : Nat) : Int))) _ _ = some (Sum.inl (((upd1 (bestN b at_ i) (i + 1) (cmL b (at_ - (i + 1)) at_)).1 : Int), ((upd1 (bestN b at_ i) (i + 1) (cmL b (at_ - (i + 1)) at_)).2 : Int)))
    unfold upd1
    by_cases h : (bestN b at_ i).1 < cmL b (at_ - (i + 1)) at_
    · rw [if_pos h]
      exact cnd_t (decide_eq_true (by omega)) rfl
    · rw [if_neg h]
      exact cnd_f (decide_eq_false (by omega)) rfl
  · refine bndL (s := false) ?_ (cnd_f rfl rfl)
    by_cases h : min at_ 2048 + 1 ≤ at_
    · exact cnd_t (decide_eq_true (by omega)) (by rw [decide_eq_false (by omega)])
    · exact cnd_f (decide_eq_false (by omega)) rfl
theorem ref_best {b : List Int} (hl : b.length < 4294967296) (at_ : Int) : wherryref01_Best b at_ = some (BestI b at_) := by
  unfold wherryref01_Best BestI
  by_cases h3 : 4096 < b.length
  · rw [if_pos (.inr (.inr h3))]
    exact bndL (s := true) (cnd_t (decide_eq_true (by omega)) rfl) (cnd_t rfl rfl)
  have hw : IntKind.i64.wrap ((b.length : Int) - 1) = (b.length : Int) - 1 := wrap_i64 (by omega) (by omega)
  by_cases h1 : at_ < 0 ∨ (b.length : Int) ≤ at_
  · rw [if_pos (by omega)]
    refine bndL (s := true) (cnd_f (decide_eq_false (by omega)) (bnd (congrArg some hw) (bnd (rin_eq _ _ _) ?_))) (cnd_t rfl rfl)
    have : (decide (0 ≤ at_) && decide (at_ ≤ (b.length : Int) - 1)) = false := by
      rw [Bool.and_eq_false_iff, decide_eq_false_iff_not, decide_eq_false_iff_not]; omega
    rw [this]; rfl
  rw [if_neg (by omega)]
  obtain ⟨n, rfl⟩ : ∃ n : Nat, at_ = (n : Int) := ⟨at_.toNat, by omega⟩
  rw [Int.toNat_natCast]
  have hin : (decide (0 ≤ (n : Int)) && decide ((n : Int) ≤ (b.length : Int) - 1)) = true := by
    rw [Bool.and_eq_true, decide_eq_true_eq, decide_eq_true_eq]; omega
  refine bndL (s := false) (cnd_f (decide_eq_false (by omega)) (bnd (congrArg some hw) (bnd (rin_eq _ _ _) (by rw [hin]; rfl)))) (cnd_f rfl (bndL (rb_loop (by omega) (by omega)) ?_))
  unfold bestS clp
  by_cases h : (bestN b n (min n 2048)).1 < 3
  · rw [if_pos h]
    exact cnd_t (decide_eq_true (by show ((bestN b n (min n 2048)).1 : Int) < 3; omega)) rfl
  · rw [if_neg h]
    exact cnd_f (decide_eq_false (by show ¬ ((bestN b n (min n 2048)).1 : Int) < 3; omega)) rfl
theorem rt_loop {b : List Int} (hl : b.length ≤ 4096) : ∀ (k at_ fuel : Nat) (l : List T_Tok), at_ ≤ b.length → b.length - at_ ≤ k → k < fuel → l.length ≤ at_ →
    loopF (rtS b) fuel (l, (at_ : Int)) = some (.inl (l ++ toks b k at_))
  | 0, at_, fuel, l, ha, hk, hf, hll => by
    obtain ⟨fu, rfl⟩ : ∃ fu, fuel = fu + 1 := ⟨fuel - 1, by omega⟩
    rw [toks, List.append_nil]
    exact loop_exit (cnd_f (decide_eq_false (by omega)) rfl)
  | k + 1, at_, fuel, l, ha, hk, hf, hll => by
    obtain ⟨fu, rfl⟩ : ∃ fu, fuel = fu + 1 := ⟨fuel - 1, by omega⟩
    by_cases he : at_ < b.length
    case neg =>
      rw [toks_end (by omega), List.append_nil]
      exact loop_exit (cnd_f (decide_eq_false (by omega)) rfl)
    have hbe := ref_best (b := b) (by omega) (at_ : Int)
    unfold BestI at hbe
    rw [if_neg (by omega), Int.toNat_natCast] at hbe
    have hg : getO b at_ = some (b.getD at_ 0) := by
      rw [List.getD_eq_getElem?_getD, List.getElem?_eq_getElem he, Option.getD_some]; exact getO_of he
    unfold toks
    rw [if_pos he]
    have hap : ∀ t : T_Tok, appO 24 l [t] = some (l ++ [t]) := fun t => app_of (by simp only [List.length_cons, List.length_nil]; omega) (by simp only [List.length_cons, List.length_nil]; omega)
    rcases bestS_cases b at_ with h0 | ⟨c1, c2, c3, c4, c5, c6⟩
    · rw [h0] at hbe ⊢
      rw [if_pos rfl]
      have hn := rt_loop hl k (at_ + 1) fu (l ++ [⟨b.getD at_ 0, 0, 0⟩]) (by omega) (by omega) (by omega) (by simp; omega)
      rw [List.append_assoc] at hn
      exact (loop_next (cnd_t (decide_eq_true (by omega)) (bndL (s := (l ++ [⟨b.getD at_ 0, 0, 0⟩], ((at_ + 1 : Nat) : Int))) (bnd hbe (cnd_t rfl (bnd (ixO_of he) (bnd hg (bnd (hap _) (bnd (congrArg some (wrap_succ (n := at_) (by omega))) rfl)))))) rfl))).trans hn
    · rw [if_neg (by omega)]
      have hw : IntKind.i64.wrap ((at_ : Int) + ((bestS b at_).1 : Int)) = ((at_ + (bestS b at_).1 : Nat) : Int) := by rw [wrap_i64 (by omega) (by omega)]; simp
      have hn := rt_loop hl k (at_ + (bestS b at_).1) fu (l ++ [⟨0, ((bestS b at_).1 : Int), ((bestS b at_).2 : Int)⟩]) (by omega) (by omega) (by omega) (by simp; omega)
      rw [List.append_assoc] at hn
      exact (loop_next (cnd_t (decide_eq_true (by omega)) (bndL (s := (l ++ [⟨0, ((bestS b at_).1 : Int), ((bestS b at_).2 : Int)⟩], ((at_ + (bestS b at_).1 : Nat) : Int))) (bnd hbe (cnd_f (beq_eq_false_iff_ne.2 (by show (((bestS b at_).1 : Nat) : Int) ≠ 0; omega)) (bnd (hap _) (bnd (congrArg some hw) rfl)))) rfl))).trans hn
theorem ref_tokens {b : List Int} (hl : b.length ≤ 4096) : wherryref01_Tokens b = some (toksS b, 0) := by
  unfold wherryref01_Tokens
  refine cnd_f (decide_eq_false (by omega)) (bnd (x := toksS b) ?_ rfl)
  unfold wherryref01_tokens
  exact bndL (rt_loop hl b.length 0 BIG [] (Nat.zero_le _) (by omega) (by simp only [BIG]; omega) (Nat.zero_le _)) rfl
end Go.Abs.Sh
