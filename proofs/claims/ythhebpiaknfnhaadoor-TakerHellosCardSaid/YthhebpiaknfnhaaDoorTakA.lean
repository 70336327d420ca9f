import Derived.Test.YthhebpiaknfnhaaDoorTakC
namespace Go.Abs.Sh
set_option linter.unusedVariables false
set_option linter.unusedSimpArgs false
theorem wakes22 : wherrylaw22_wakes = some true := by kernel_rfl
def thS (v10 : T_Spool × Int) (v6 : Int) : ((Int)) → Option ((Int) ⊕ ((Unit) ⊕ Bool)) := (fun (s55 : Int) =>
    cond ((decide (s55 < (v10.1.Done.length : Int))))
      ((ixO s55 v10.1.Done.length).bind fun v12 =>
      (getO v10.1.Done v12).bind fun v13 =>
      cond ((v13 == v6))
        ((wherrylaw22_wakes ).bind fun v15 =>
        some (.inr (.inr (v15))))
        ((some (IntKind.i64.wrap (s55 + 1))).bind fun v16 =>
        some (.inl v16)))
      (some (.inr (.inl ()))))
theorem hello_check {num tot : Int} (h1 : 1 ≤ num) (h2 : num ≤ 65535) (h3 : 0 ≤ tot) (h4 : tot ≤ 5000) : frame_Check (T_Frame.mk 1 num tot 0 []) = some 0 := by
  unfold frame_Check
  refine bndL (s := true) (cnd_t (decide_eq_true h3) (inl_of (decide_eq_true h4))) (bndL (s := true) rfl (bndL (s := true) (bndL (s := true) (bndL (s := true) rfl (cnd_t rfl rfl)) rfl) ?_))
  exact bndL (s := false) (cnd_f rfl (cnd_f (decide_eq_false (by dsimp only; omega)) (inl_of (decide_eq_false (by dsimp only; omega))))) (cnd_f rfl rfl)
theorem take_refl (a : T_Take) : wherrykeep_Take a a = some true := by
  unfold wherrykeep_Take
  exact bndL (s := true) (bnd rfl (cnd_t (by cases a.Open <;> rfl) (cnd_t (beq_self_eq_true _) (inl_of (beq_self_eq_true _))))) rfl
def farI (s : T_Spool) (num : Int) : Int := if s.Of = num then (s.Part.length : Int) else 0
theorem far_eq (s : T_Spool) (num : Int) : taker_Far s num = some (farI s num) := by
  unfold taker_Far farI
  by_cases h : s.Of = num
  · rw [if_pos h]; exact cnd_f (by rw [h]; simp) rfl
  · rw [if_neg h]; exact cnd_t (by simpa using h) rfl
theorem hear_hello (s : T_Spool) (t : T_Take) {num tot : Int} (h1 : 1 ≤ num) (h2 : num ≤ 65535) (h3 : 0 ≤ tot) (h4 : tot ≤ 5000) (hn : num ∉ s.Done) (hl : s.Done.length < 1000000) :
    taker_Hear_sh s t (T_Frame.mk 1 num tot 0 []) = some (if tot = 0 ∨ tot < farI s num then (T_Take.mk false 0 0, [], [], 11) else (T_Take.mk true num tot, [], [T_Frame.mk 2 num (farI s num) 0 []], 0)) := by
  unfold taker_Hear_sh
  refine bnd (hello_check h1 h2 h3 h4) (cnd_f rfl ?_)
  have hh : taker_hear_sh s t (T_Frame.mk 1 num tot 0 []) = some (if tot = 0 ∨ tot < farI s num then (T_taker_result.mk (T_Take.mk false 0 0) [] [], 11) else (T_taker_result.mk (T_Take.mk true num tot) [] [T_Frame.mk 2 num (farI s num) 0 []], 0)) := by
    unfold taker_hear_sh
    refine bndL (s := false) rfl (cnd_f rfl (bnd (contains_eq _ _ (by omega)) (cnd_f (decide_eq_false hn) (cnd_t rfl (bnd (far_eq s num) ?_)))))
    by_cases h0 : tot = 0
    · rw [if_pos (.inl h0)]
      exact bnd (x := (T_taker_result.mk (T_Take.mk false 0 0) [] [], 11)) (bndL (s := true) (cnd_t (beq_iff_eq.2 h0) rfl) (cnd_t rfl rfl)) rfl
    · by_cases hlt : tot < farI s num
      · rw [if_pos (.inr hlt)]
        exact bnd (x := (T_taker_result.mk (T_Take.mk false 0 0) [] [], 11)) (bndL (s := true) (cnd_f (beq_eq_false_iff_ne.2 h0) (inl_of (decide_eq_true hlt))) (cnd_t rfl rfl)) rfl
      · rw [if_neg (fun h => h.elim h0 hlt)]
        exact bnd (x := (T_taker_result.mk (T_Take.mk true num tot) [] [T_Frame.mk 2 num (farI s num) 0 []], 0)) (bndL (s := false) (cnd_f (beq_eq_false_iff_ne.2 h0) (inl_of (decide_eq_false hlt))) (cnd_f rfl (bnd rfl rfl))) rfl
  refine bnd hh ?_
  by_cases hc : tot = 0 ∨ tot < farI s num
  · rw [if_pos hc, if_pos hc]; exact cnd_t rfl rfl
  · rw [if_neg hc, if_neg hc]; exact cnd_f rfl rfl
theorem num_of (x : Int) : ∃ num : Int, 1 ≤ num ∧ num ≤ 65535 ∧ ∀ {R : Type} (f : Int → Option R), ((some (IntKind.u64.wrap x)).bind fun v3 => (remO v3 65535).bind fun v4 => (some (IntKind.i64.wrap v4)).bind fun v5 => (some (IntKind.i64.wrap (1 + v5))).bind f) = f num := by
  obtain ⟨q, hq, hqr⟩ := spo_rem x 65535 (by omega) (by omega)
  have e65 : IntKind.u64.wrap ((65535 : Nat) : Int) = 65535 := u64_wrap (by omega) (by omega)
  rw [e65] at hqr
  refine ⟨1 + (q : Int), by omega, by omega, fun f => ?_⟩
  exact bnd rfl (bnd hqr (bnd (congrArg some (wrap_nat q (by omega))) (bnd (congrArg some (wrap_i64 (by omega) (by omega))) rfl)))
theorem tot_of (x : Int) : ∃ tot : Int, 0 ≤ tot ∧ tot ≤ 5000 ∧ ∀ {R : Type} (f : Int → Option R), ((some (IntKind.u64.wrap x)).bind fun v7 => (remO v7 5001).bind fun v8 => (some (IntKind.i64.wrap v8)).bind f) = f tot := by
  obtain ⟨q, hq, hqr⟩ := spo_rem x 5001 (by omega) (by omega)
  have e65 : IntKind.u64.wrap ((5001 : Nat) : Int) = 5001 := u64_wrap (by omega) (by omega)
  rw [e65] at hqr
  refine ⟨(q : Int), by omega, by omega, fun f => ?_⟩
  exact bnd rfl (bnd hqr (bnd (congrArg some (wrap_nat q (by omega))) rfl))
theorem takerHellos_true (l : List T_Rec) (t : T_Take) (number total : Int) (hw : wzL 208 T_Rec.wz l) : wherrylaw22_TakerHellos l t number total = some true := by
  obtain ⟨b, hh, hb⟩ := heavy_rok l hw
  unfold wherrylaw22_TakerHellos
  refine bnd hh ?_
  cases b
  case true => exact cnd_t rfl rfl
  obtain ⟨hl, hr⟩ := hb rfl
  obtain ⟨num, h1, h2, hnum⟩ := num_of number
  obtain ⟨tot, h3, h4, htot⟩ := tot_of total
  refine cnd_f rfl ((hnum _).trans ((htot _).trans (bnd (fold_eq l hr (by omega)) ?_)))
  have hin := foldS_inv l newSp 0 (by omega) hr inv_new
  have hle := foldS_le newSp l
  have hd := hin.done
  obtain ⟨s, hs⟩ : ∃ s, s = (foldS newSp l).1 := ⟨_, rfl⟩
  rw [← hs] at hd hin ⊢
  by_cases hm : num ∈ s.Done
  · have hex : ∃ k, k < s.Done.length ∧ (∀ i (h : i < s.Done.length), i < k → s.Done[i] ≠ num) ∧ ∃ h : k < s.Done.length, s.Done[k] = num := by
      rcases first_fail (fun i => decide (s.Done[i]? ≠ some num)) s.Done.length with h | ⟨k, hk, ha, hb⟩
      · obtain ⟨i, hi, he⟩ := List.getElem_of_mem hm
        have := of_decide_eq_true (h i hi)
        exact absurd (by rw [List.getElem?_eq_getElem hi, he]) this
      · refine ⟨k, hk, fun i hi hik => ?_, hk, ?_⟩
        · have := of_decide_eq_true (ha i hik)
          rw [List.getElem?_eq_getElem hi] at this
          exact fun e => this (by rw [e])
        · have : s.Done[k]? = some num := by simpa using hb
          rw [List.getElem?_eq_getElem hk] at this
          exact Option.some.inj this
    obtain ⟨k, hk, hno, _, hyes⟩ := hex
    refine bndR (a := true) (loop_from (f := thS (s, 0) num) (fun i => ((i : Nat) : Int)) k BIG rfl (by simp only [BIG]; omega) (fun i hi => ?_) ?_) rfl
    · have hi' : i < s.Done.length := by omega
      exact cnd_t (decide_eq_true (by dsimp only; omega)) (bnd (ixO_of hi') (bnd (by simp [getO, hi'] : getO s.Done i = some s.Done[i]) (cnd_f (beq_eq_false_iff_ne.2 (hno i hi' hi)) (bnd (congrArg some (wrap_succ (n := i) (by omega))) rfl))))
    · exact cnd_t (decide_eq_true (by dsimp only; omega)) (bnd (ixO_of hk) (bnd (by simp [getO, hk] : getO s.Done k = some s.Done[k]) (cnd_t (beq_iff_eq.2 hyes) (bnd wakes22 rfl))))
  · refine bndL (s := ()) (loop_from (f := thS (s, 0) num) (fun i => ((i : Nat) : Int)) s.Done.length BIG rfl (by simp only [BIG]; omega) (fun i hi => ?_) (cnd_f (decide_eq_false (by dsimp only; omega)) rfl)) ?_
    · exact cnd_t (decide_eq_true (by dsimp only; omega)) (bnd (ixO_of hi) (bnd (by simp [getO, hi] : getO s.Done i = some s.Done[i]) (cnd_f (beq_eq_false_iff_ne.2 (fun e => hm (e ▸ List.getElem_mem hi))) (bnd (congrArg some (wrap_succ (n := i) (by omega))) rfl))))
    · refine bnd (far_eq s num) (bnd (hear_hello s t h1 h2 h3 h4 hm (by omega)) ?_)
      by_cases h0 : tot = 0
      · rw [if_pos (.inl h0)]
        refine bndL (s := true) (cnd_t (beq_iff_eq.2 h0) rfl) (cnd_t rfl (bndL (s := true) (cnd_t rfl (bnd rfl (cnd_t rfl (bnd (take_refl _) (cnd_t rfl (bnd wakes22 rfl)))))) rfl))
      · by_cases hlt : tot < farI s num
        · rw [if_pos (.inr hlt)]
          refine bndL (s := true) (cnd_f (beq_eq_false_iff_ne.2 h0) (inl_of (decide_eq_true hlt))) (cnd_t rfl (bndL (s := true) (cnd_t rfl (bnd rfl (cnd_t rfl (bnd (take_refl _) (cnd_t rfl (bnd wakes22 rfl)))))) rfl))
        · rw [if_neg (fun h => h.elim h0 hlt)]
          refine bndL (s := false) (cnd_f (beq_eq_false_iff_ne.2 h0) (inl_of (decide_eq_false hlt))) (cnd_f rfl (bndL (s := true) (cnd_t rfl (cnd_t rfl (cnd_t rfl (bnd rfl (bnd rfl (cnd_t rfl (bnd rfl (bnd rfl (cnd_t (beq_self_eq_true _) (bnd rfl (bnd rfl (cnd_t (beq_self_eq_true _) (bnd (take_refl _) (cnd_t rfl (bnd wakes22 rfl))))))))))))))) rfl))
end Go.Abs.Sh
