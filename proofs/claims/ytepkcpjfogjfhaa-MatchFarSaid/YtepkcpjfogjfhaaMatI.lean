import Derived.Test.YtepkcpjfogjfhaaMatH
namespace Go.Abs.Sh
set_option linter.unusedVariables false
set_option linter.unusedSimpArgs false
set_option maxRecDepth 10000
theorem wrap_u64s {n : Int} (h0 : 0 ≤ n) (h1 : n < 18446744073709551616) : IntKind.u64.wrap n = n := by
  simp only [IntKind.wrap, IntKind.bits, IntKind.signed]
  have e : (2 : Int) ^ 64 = 18446744073709551616 := by decide
  simp only [e, Bool.false_and, Bool.false_eq_true, if_false]
  omega
theorem wrap_u64s_nn (n : Int) : 0 ≤ IntKind.u64.wrap n := by
  simp only [IntKind.wrap, IntKind.bits, IntKind.signed]
  have e : (2 : Int) ^ 64 = 18446744073709551616 := by decide
  simp only [e, Bool.false_and, Bool.false_eq_true, if_false]
  omega
def ktS (a b : List T_Tok) : ((Int)) → Option ((Int) ⊕ ((Unit) ⊕ Bool)) := (fun (s28 : Int) =>
    cond ((decide (s28 < (a.length : Int))))
      (bindS (S := Bool) (A := ((Int) ⊕ ((Unit) ⊕ Bool)))
        ((ixO s28 a.length).bind fun v3 =>
        (getO a v3).bind fun v4 =>
        (ixO s28 b.length).bind fun v5 =>
        (getO b v5).bind fun v6 =>
        cond ((v4.Byte != v6.Byte))
          (some (.inl true))
          ((ixO s28 a.length).bind fun v7 =>
          (getO a v7).bind fun v8 =>
          (ixO s28 b.length).bind fun v9 =>
          (getO b v9).bind fun v10 =>
          cond ((v8.Len != v10.Len))
            (some (.inl true))
            ((ixO s28 a.length).bind fun v11 =>
            (getO a v11).bind fun v12 =>
            (ixO s28 b.length).bind fun v13 =>
            (getO b v13).bind fun v14 =>
            some (.inl (v12.Dist != v14.Dist)))))
        (fun (s42 : Bool) =>
          cond (s42)
            (some (.inr (.inr (false))))
            ((some (IntKind.i64.wrap (s28 + 1))).bind fun v20 =>
            some (.inl v20))) some)
      (some (.inr (.inl ()))))
theorem mod_arg (x : Int) (n : Nat) (h : 0 < n) (hn : n < 1000000000) : ∃ (A r : Nat), IntKind.u64.wrap x = (A : Int) ∧ remO (A : Int) (n : Int) = some (r : Int) ∧ r < n ∧ IntKind.i64.wrap (r : Int) = (r : Int) := by
  obtain ⟨A, hA⟩ : ∃ A : Nat, IntKind.u64.wrap x = (A : Int) := ⟨(IntKind.u64.wrap x).toNat, by have := wrap_u64s_nn x; omega⟩
  have hlt := Nat.mod_lt A h
  exact ⟨A, A % n, hA, rem_nat A n h, hlt, wrap_nat _ (by omega)⟩
theorem keepT (a : List T_Tok) (h : a.length < 4294967296) : wherrykeep_Toks a a = some true := by
  unfold wherrykeep_Toks
  refine cnd_f (bne_self_eq_false _) (bndL (s := ()) (loop_from (f := ktS a a) (fun i => ((i : Nat) : Int)) a.length BIG rfl (by simp only [BIG]; omega) (fun i hi => ?_) (cnd_f (decide_eq_false (by omega)) rfl)) rfl)
  have hg := getO_of hi
  refine cnd_t (decide_eq_true (by omega)) (bndL (s := false) (bnd (ixO_of hi) (bnd hg (bnd (ixO_of hi) (bnd hg (cnd_f (bne_self_eq_false _) (bnd (ixO_of hi) (bnd hg (bnd (ixO_of hi) (bnd hg (cnd_f (bne_self_eq_false _) (bnd (ixO_of hi) (bnd hg (bnd (ixO_of hi) (bnd hg (inl_ofB (bne_self_eq_false _)))))))))))))))) (cnd_f rfl (bnd (congrArg some (wrap_succ (n := i) (by omega))) rfl)))
theorem cm_zero {b : List Int} {p at_ : Nat} (h : b[p]? ≠ b[at_]?) : cmL b p at_ = 0 := by
  apply Classical.byContradiction
  intro hc
  exact h (by simpa using cm_get (b := b) (p := p) (at_ := at_) (k := 0) (by omega))
theorem best_none {b : List Int} {at_ : Nat} (h : ∀ o, 1 ≤ o → o ≤ min at_ 2048 → cmL b (at_ - o) at_ < 3) : bestS b at_ = (0, 0) := by
  have := best_skip (b := b) (at_ := at_) (min at_ 2048) 0 fun o h1 h2 => h o h1 (by omega)
  rw [Nat.zero_add] at this
  unfold bestS
  rw [this]
  rfl
/-! Unlike bytes. -/
theorem lit_toks {b : List Int} (h : ∀ at_, at_ < b.length → bestS b at_ = (0, 0)) : ∀ k at_, b.length - at_ ≤ k → toks b k at_ = (b.drop at_).map fun c => ⟨c, 0, 0⟩
  | 0, at_, hk => by rw [List.drop_of_length_le (by omega)]; rfl
  | k + 1, at_, hk => by
    unfold toks
    split
    · rename_i he
      rw [h at_ he, if_pos rfl, List.drop_eq_getElem_cons he, List.map_cons, lit_toks h k (at_ + 1) (by omega), List.getD_eq_getElem?_getD, List.getElem?_eq_getElem he, Option.getD_some]
    · rw [List.drop_of_length_le (by omega)]; rfl
def apS (v3 v6 : Int) : (((List Int) × Int)) → Option (((List Int) × Int) ⊕ (((List Int)) ⊕ Bool)) := (fun ((s15, s16) : (List Int) × Int) =>
  cond ((decide (s16 < v6)))
    ((some (IntKind.i64.wrap (v3 + s16))).bind fun v8 =>
    (some (IntKind.u8.wrap v8)).bind fun v9 =>
    (appO 1 s15 [v9]).bind fun v10 =>
    (some (IntKind.i64.wrap (s16 + 1))).bind fun v11 =>
    some (.inl (v10, v11)))
    (some (.inr (.inl s15))))
def aqS (v26 : (List T_Tok) × Int) (s18 : List Int) (v6 : Int) : ((Int)) → Option ((Int) ⊕ ((Unit) ⊕ Bool)) := (fun (s52 : Int) =>
            cond ((decide (s52 < v6)))
              (bindS (S := Bool) (A := ((Int) ⊕ ((Unit) ⊕ Bool)))
                ((ixO s52 v26.1.length).bind fun v33 =>
                (getO v26.1 v33).bind fun v34 =>
                cond ((v34.Len != 0))
                  (some (.inl true))
                  ((ixO s52 v26.1.length).bind fun v35 =>
                  (getO v26.1 v35).bind fun v36 =>
                  (ixO s52 s18.length).bind fun v37 =>
                  (getO s18 v37).bind fun v38 =>
                  some (.inl (v36.Byte != v38))))
                (fun (s66 : Bool) =>
                  cond (s66)
                    (some (.inr (.inr (false))))
                    ((some (IntKind.i64.wrap (s52 + 1))).bind fun v44 =>
                    some (.inl v44))) some)
              (some (.inr (.inl ()))))
def apB (f : Nat) (n : Nat) : List Int := (List.range n).map fun j => (((f + j) % 256 : Nat) : Int)
theorem wrap_u8n (n : Nat) : IntKind.u8.wrap (n : Int) = ((n % 256 : Nat) : Int) := by
  simp only [IntKind.wrap, IntKind.bits, IntKind.signed]
  have e : (2 : Int) ^ 8 = 256 := by decide
  simp [e]
theorem matchApart_true (from_ n : Int) : wherrylaw04_MatchApart from_ n = some true := by
  unfold wherrylaw04_MatchApart
  obtain ⟨A, f, hA, hf, hf2, hf3⟩ := mod_arg from_ 256 (by omega) (by omega)
  obtain ⟨B, m, hB, hm, hm2, hm3⟩ := mod_arg n 257 (by omega) (by omega)
  have hlen : ∀ i, (apB f i).length = i := fun i => by simp [apB]
  have hget : ∀ i j, j < i → (apB f i)[j]? = some (((f + j) % 256 : Nat) : Int) := fun i j h => by simp [apB, h]
  have hlp : loopF (apS (f : Int) (m : Int)) BIG ([], 0) = some (.inl (apB f m)) := by
    refine loop_from (fun i => (apB f i, ((i : Nat) : Int))) m BIG rfl (by simp only [BIG]; omega) (fun i hi => ?_) (cnd_f (decide_eq_false (by omega)) rfl)
    have hw : IntKind.i64.wrap ((f : Int) + (i : Int)) = ((f + i : Nat) : Int) := by rw [wrap_i64 (by omega) (by omega)]; simp
    refine cnd_t (decide_eq_true (by omega)) (bnd (congrArg some hw) (bnd (congrArg some (wrap_u8n (f + i))) (bnd (app_of (by simp only [hlen, List.length_cons, List.length_nil]; omega) (by simp only [hlen, List.length_cons, List.length_nil]; omega)) (bnd (congrArg some (wrap_succ (n := i) (by omega))) ?_))))
    have : apB f (i + 1) = apB f i ++ [(((f + i) % 256 : Nat) : Int)] := by simp [apB, List.range_succ]
    rw [this]
  have hby : ∀ x ∈ apB f m, 0 ≤ x ∧ x < 256 := by
    intro x hx
    simp only [apB, List.mem_map, List.mem_range] at hx
    obtain ⟨j, _, rfl⟩ := hx
    have := Nat.mod_lt (f + j) (show 0 < 256 by omega)
    omega
  have hbest : ∀ at_, at_ < (apB f m).length → bestS (apB f m) at_ = (0, 0) := by
    intro at_ ha
    rw [hlen] at ha
    refine best_none fun o h1 h2 => ?_
    have h0 : cmL (apB f m) (at_ - o) at_ = 0 := cm_zero (by
      rw [hget m _ (by omega), hget m _ ha]
      intro e
      have := Option.some.inj e
      omega)
    omega
  have ht : toksS (apB f m) = (apB f m).map fun c => ⟨c, 0, 0⟩ := by
    have := lit_toks hbest (apB f m).length 0 (by omega)
    rwa [List.drop_zero] at this
  have htk := tokens_eq hby (by rw [hlen]; omega)
  rw [ht] at htk
  have hl2 : ((apB f m).map fun c => (⟨c, 0, 0⟩ : T_Tok)).length = m := by rw [List.length_map, hlen]
  have hlq : loopF (aqS ((apB f m).map fun c => (⟨c, 0, 0⟩ : T_Tok), 0) (apB f m) (m : Int)) BIG 0 = some (.inl ()) := by
    refine loop_from (fun i => ((i : Nat) : Int)) m BIG rfl (by simp only [BIG]; omega) (fun i hi => ?_) (cnd_f (decide_eq_false (by omega)) rfl)
    have hi2 : i < ((apB f m).map fun c => (⟨c, 0, 0⟩ : T_Tok)).length := by rw [hl2]; exact hi
    have hi3 : i < (apB f m).length := by rw [hlen]; exact hi
    have hg3 := getO_of hi3
    have hg2 : getO ((apB f m).map fun c => (⟨c, 0, 0⟩ : T_Tok)) i = some ⟨(apB f m)[i], 0, 0⟩ := by
      have := getO_of hi2
      rwa [List.getElem_map] at this
    exact cnd_t (decide_eq_true (by omega)) (bndL (s := false) (bnd (ixO_of hi2) (bnd hg2 (cnd_f rfl (bnd (ixO_of hi2) (bnd hg2 (bnd (ixO_of hi3) (bnd hg3 (inl_ofB (bne_self_eq_false _))))))))) (cnd_f rfl (bnd (congrArg some (wrap_succ (n := i) (by omega))) rfl)))
  refine bnd (congrArg some hA) (bnd hf (bnd (congrArg some hf3) (bnd (congrArg some hB) (bnd hm (bnd (congrArg some hm3) (bndL hlp (bnd htk (bndL (s := false) (cnd_f rfl (inl_ofB ?_)) (cnd_f rfl (bndL hlq (bnd wakes04 rfl)))))))))))
  show ((((apB f m).map fun c => (⟨c, 0, 0⟩ : T_Tok)).length : Int) != (m : Int)) = false
  rw [hl2]
  exact bne_self_eq_false _
def frS (v3 : Int) : (((List Int))) → Option (((List Int)) ⊕ (((List Int)) ⊕ Bool)) := (fun (s9 : (List Int)) =>
  (some (IntKind.i64.wrap (2047 + v3))).bind fun v4 =>
  cond ((decide ((s9.length : Int) < v4)))
    ((appO 1 s9 [0]).bind fun v6 =>
    some (.inl v6))
    (some (.inr (.inl s9))))
def farB (k : Nat) : List Int := [1, 2, 3] ++ List.replicate k 0
theorem matchFar_true (more : Int) : wherrylaw04_MatchFar more = some true := by
  unfold wherrylaw04_MatchFar
  obtain ⟨A, m, hA, hm, hm2, hm3⟩ := mod_arg more 4 (by omega) (by omega)
  have hlen : ∀ i, (farB i).length = i + 3 := fun i => by simp [farB]
  have hw : IntKind.i64.wrap (2047 + (m : Int)) = ((2047 + m : Nat) : Int) := by rw [wrap_i64 (by omega) (by omega)]; omega
  have hlp : loopF (frS (m : Int)) BIG [1, 2, 3] = some (.inl (farB (2044 + m))) := by
    refine loop_from (fun i => farB i) (2044 + m) BIG rfl (by simp only [BIG]; omega) (fun i hi => ?_) ?_
    · refine bnd (congrArg some hw) (cnd_t (decide_eq_true (by rw [hlen]; omega)) (bnd (app_of (by simp only [hlen, List.length_cons, List.length_nil]; omega) (by simp only [hlen, List.length_cons, List.length_nil]; omega)) ?_))
      have : farB (i + 1) = farB i ++ [0] := by simp [farB, List.replicate_succ']
      rw [this]
    · exact bnd (congrArg some hw) (cnd_f (decide_eq_false (by rw [hlen]; omega)) rfl)
  obtain ⟨N, hN⟩ : ∃ N, N = 2047 + m := ⟨_, rfl⟩
  have hfl : (farB (2044 + m)).length = N := by rw [hlen]; omega
  obtain ⟨b, hb⟩ : ∃ b, b = farB (2044 + m) ++ [1, 2, 3] := ⟨_, rfl⟩
  have hbl : b.length = N + 3 := by rw [hb, List.length_append, hfl]; rfl
  have hap : appO 1 (farB (2044 + m)) [1, 2, 3] = some b := by rw [hb]; exact app_of (by simp only [hfl, List.length_cons, List.length_nil]; omega) (by simp only [hfl, List.length_cons, List.length_nil]; omega)
  have h0 : b[0]? = some 1 ∧ b[1]? = some 2 ∧ b[2]? = some 3 := by rw [hb]; exact ⟨rfl, rfl, rfl⟩
  have hNj : ∀ j, j < 3 → b[N + j]? = ([1, 2, 3] : List Int)[j]? := by
    intro j hj
    rw [hb, List.getElem?_append_right (by rw [hfl]; omega), hfl, Nat.add_sub_cancel_left]
  have hmid : ∀ p, 1 ≤ p → p < N → b[p]? ≠ some 1 := by
    intro p h1 h2
    rw [hb, List.getElem?_append_left (by rw [hfl]; exact h2)]
    match p, h1 with
    | 1, _ => exact fun h => by cases h
    | 2, _ => exact fun h => by cases h
    | p + 3, _ =>
      unfold farB
      rw [List.getElem?_append_right (by simp)]
      simp only [List.length_cons, List.length_nil]
      rw [List.getElem?_replicate]
      split
      · exact fun h => by cases h
      · exact fun h => by cases h
  have hbN : b[N]? = some 1 := hNj 0 (by omega)
  have hby : ∀ x ∈ b, 0 ≤ x ∧ x < 256 := by
    intro x hx
    rw [hb] at hx
    simp only [farB, List.mem_append, List.mem_cons, List.not_mem_nil, or_false, List.mem_replicate] at hx
    omega
  have hz : ∀ o, 1 ≤ o → o < N → cmL b (N - o) N = 0 := fun o h1 h2 => cm_zero (by rw [hbN]; exact hmid (N - o) (by omega) (by omega))
  have htop := best_top hby (by omega) (N : Int)
  unfold BestI at htop
  rw [if_neg (by omega), Int.toNat_natCast] at htop
  have hsN : ((farB (2044 + m)).length : Int) = (N : Int) := by rw [hfl]
  by_cases h20 : N ≤ 2048
  · have h3 : cmL b (N - N) N = 3 := by
      have hle := (cm_le b (p := N - N) (at_ := N)).2
      have := cm_ge (b := b) (p := N - N) (at_ := N) (k := 3) (by omega) (by omega) (by omega) fun j hj => by
        rw [hNj j hj, Nat.sub_self, Nat.zero_add]
        match j, hj with
        | 0, _ => exact h0.1
        | 1, _ => exact h0.2.1
        | 2, _ => exact h0.2.2
      omega
    have hbs : bestS b N = (3, N) := by
      unfold bestS
      rw [Nat.min_eq_left h20]
      have e : N = (N - 1) + 1 := by omega
      have hstep : bestN b N N = upd1 (bestN b N (N - 1)) N (cmL b (N - N) N) := by
        conv => lhs; rw [e]
        show upd1 (bestN b (N - 1 + 1) (N - 1)) (N - 1 + 1) (cmL b (N - 1 + 1 - (N - 1 + 1)) (N - 1 + 1)) = _
        rw [← e]
      have hsk := best_skip (b := b) (at_ := N) (N - 1) 0 fun o h1 h2 => by rw [hz o h1 (by omega)]; omega
      rw [Nat.zero_add] at hsk
      rw [hstep, h3, clp_high (by omega), hsk]
      rfl
    rw [hbs] at htop
    refine bnd (congrArg some hA) (bnd hm (bnd (congrArg some hm3) (bndL hlp (bnd hap ?_))))
    rw [hsN]
    exact bnd htop (cnd_f (decide_eq_false (by omega)) (bndL (s := true) (cnd_t rfl (cnd_t (beq_iff_eq.2 rfl) (bnd wakes04 rfl))) rfl))
  · have hbs : bestS b N = (0, 0) := best_none fun o h1 h2 => by rw [hz o h1 (by omega)]; omega
    rw [hbs] at htop
    refine bnd (congrArg some hA) (bnd hm (bnd (congrArg some hm3) (bndL hlp (bnd hap ?_))))
    rw [hsN]
    exact bnd htop (cnd_t (decide_eq_true (by omega)) (bndL (s := true) (cnd_t rfl (cnd_t rfl (bnd wakes04 rfl))) rfl))
end Go.Abs.Sh
