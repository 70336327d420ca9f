import Derived.Test.YtadkeipbkbkneaaDoorCramI
namespace Go.Abs.Sh
set_option linter.unusedVariables false
set_option linter.unusedSimpArgs false
set_option maxRecDepth 100000

theorem gstep_lt {c x n j : Nat} {y : Nat × Nat} (hc : c < 256) (h : gstep c x n j = some y) : y.1 < x * 64 + 64 ∧ y.2 ≤ n + 1 := by
  unfold gstep at h
  split at h
  · next v hv =>
    obtain ⟨_, hl, _⟩ := rv_some hc hv
    split at h
    · cases h; simp only; omega
    · cases h
  · split at h
    · cases h; simp only; omega
    · cases h
theorem grun_loop {A : Type} (E : A) (f : Int × Int × Int → Option ((Int × Int × Int) ⊕ ((Int × Int) ⊕ A))) (p : List Nat) (hpb : ∀ x ∈ p, x < 256) (hp : p.length = 4)
    (hf : ∀ j x n : Nat, j < 4 → x < 64 ^ j → n ≤ j → f ((x : Int), (n : Int), (j : Int)) = some (match gstep (p.getD j 0) x n j with | some y => .inl ((y.1 : Int), (y.2 : Int), ((j + 1 : Nat) : Int)) | none => .inr (.inr E)))
    (he : ∀ x n : Nat, f ((x : Int), (n : Int), 4) = some (.inr (.inl ((x : Int), (n : Int))))) :
    ∀ (r : List Nat) (j x n fuel : Nat), p.drop j = r → j + r.length = 4 → x < 64 ^ j → n ≤ j → r.length < fuel →
      loopF f fuel ((x : Int), (n : Int), (j : Int)) = some (match grun r x n j with | some y => .inl ((y.1 : Int), (y.2 : Int)) | none => .inr E)
  | [], j, x, n, fuel, h1, h2, h3, h4, h5 => by
    obtain ⟨k, rfl⟩ : ∃ k, fuel = k + 1 := ⟨fuel - 1, by simp at h5; omega⟩
    obtain rfl : j = 4 := by simpa using h2
    exact loop_exit (he x n)
  | c :: r, j, x, n, fuel, h1, h2, h3, h4, h5 => by
    obtain ⟨k, rfl⟩ : ∃ k, fuel = k + 1 := ⟨fuel - 1, by simp at h5; omega⟩
    have hj : j < 4 := by simp at h2; omega
    have hc : p.getD j 0 = c := by
      have := congrArg (fun l => l[0]?) h1
      simp only [List.getElem?_drop, Nat.add_zero, List.getElem?_cons_zero] at this
      rw [List.getD_eq_getElem?_getD, this]; rfl
    have hcb : c < 256 := hpb c (List.mem_of_mem_drop (by rw [h1]; simp))
    have hstep := hf j x n hj h3 h4
    rw [hc] at hstep
    simp only [grun]
    cases hg : gstep c x n j with
    | none =>
      rw [hg] at hstep
      rw [loop_exit hstep]
      rfl
    | some y =>
      rw [hg] at hstep
      rw [loop_next hstep]
      obtain ⟨b1, b2⟩ := gstep_lt hcb hg
      have hd : p.drop (j + 1) = r := by
        have := congrArg (List.drop 1) h1
        rw [List.drop_drop] at this; simpa using this
      have := grun_loop E f p hpb hp hf he r (j + 1) y.1 y.2 k hd (by simp at h2; omega) (by rw [Nat.pow_succ]; omega) (by omega) (by simp at h5; omega)
      rw [this]
      rfl
def chunk (C : List Nat) (i : Nat) : List Nat := (C.drop (4 * i)).take 4
def okC (C : List Nat) (i : Nat) : Bool := (grun (chunk C i) 0 0 0).isSome
theorem rdec_eq (C : List Nat) (hC : ∀ x ∈ C, x < 256) (hl : C.length ≤ 90000) :
    wherryref08_Decode (tx C) = some (if tx (encN (decT C)) = tx C then ((decT C).map cI, true) else ([], false)) := by
  have hDl : ∀ i, (decR (C.take (4 * i))).length ≤ C.length := fun i => by
    have := decR_len _ (C.take (4 * i)) (Nat.le_refl _)
    rw [List.length_take] at this; omega
  have hdb : ∀ x ∈ decT C, x < 256 := decR_lt _ _ (Nat.le_refl _)
  have hdtl : (decT C).length ≤ C.length := hDl _
  have hinj : tx (encN (decT C)) = tx C → encN (decT C) = C := fun h => tx_inj (encN_lt _ _ (Nat.le_refl _)) hC h
  have hel := encN_len _ (decT C) (Nat.le_refl _)
  unfold wherryref08_Decode
  rw [tx_size]
  refine bnd (rem_nat C.length 4 (by decide)) ?_
  by_cases h4 : C.length % 4 = 0
  case neg =>
    refine cnd_t (by rw [bne_iff_ne]; omega) ?_
    rw [if_neg fun h => by have h2 := congrArg List.length (hinj h); omega]
  refine cnd_f (by rw [bne_eq_false_iff_eq]; omega) ?_
  obtain ⟨m, hm⟩ : ∃ m, C.length = 4 * m := ⟨C.length / 4, by omega⟩
  have hdT : decT C = decR C := by
    unfold decT; rw [List.take_of_length_le (by omega)]
  have hchl : ∀ i, i < m → (chunk C i).length = 4 := fun i hi => by unfold chunk; rw [List.length_take, List.length_drop]; omega
  have hchb : ∀ i, ∀ x ∈ chunk C i, x < 256 := fun i x hx => hC x (List.mem_of_mem_drop (List.mem_of_mem_take hx))
  have hgood : tx (encN (decT C)) = tx C → ∀ i, i < m → okC C i = true := fun h i hi => by
    have h1 := hinj h
    unfold okC chunk
    have h2 : 3 * i < (decT C).length := by rw [h1] at hel; omega
    have := enc_chunk (decT C) i h2
    rw [h1] at this
    rw [this]
    exact grun_grp _ (by rw [List.length_take, List.length_drop]; omega) (by rw [List.length_take]; omega)
  have hnext : ∀ i, i < m → ∀ x n, grun (chunk C i) 0 0 0 = some (x, n) → decR (C.take (4 * (i + 1))) = decR (C.take (4 * i)) ++ (b3 x).take (n - 1) := fun i hi x n hg => by
    have e : C.take (4 * (i + 1)) = C.take (4 * i) ++ chunk C i := by
      unfold chunk; rw [show 4 * (i + 1) = 4 * i + 4 by omega, List.take_add]
    rw [e, decR_app i _ _ (by rw [List.length_take]; omega), decR_one _ (hchl i hi), (grun_ok _ (hchb i) (hchl i hi) x n hg).2.2]
  rcases first_fail (okC C) m with hall | ⟨k, hk, hpre, hbad⟩
  · refine bndL (s := (decR C).map cI) (loop_from (fun i => ((decR (C.take (4 * i))).map cI, ((4 * i : Nat) : Int))) m _ (by simp [decR]) (by simp only [BIG]; omega) (fun i hi => ?_) ?_) ?_
    · have hok := hall i hi
      obtain ⟨⟨x, n⟩, hg⟩ := Option.isSome_iff_exists.1 hok
      obtain ⟨hn4, hx24, _⟩ := grun_ok _ (hchb i) (hchl i hi) x n hg
      refine cnd_t (decide_eq_true (by omega)) ?_
      refine bndL (s := ((x : Int), (n : Int))) ((grun_loop (.inr (.inr ([], false))) _ (chunk C i) (hchb i) (hchl i hi) ?_ (fun x n => cnd_f (by decide) rfl) (chunk C i) 0 0 0 BIG rfl (by rw [hchl i hi]) (by decide) (Nat.le_refl _) (by rw [hchl i hi]; decide)).trans (by rw [hg])) ?_
      · skip
        intro j x n hj hx hn
        have hx4 : x < 16777216 := Nat.lt_of_lt_of_le hx (by calc 64 ^ j ≤ 64 ^ 4 := Nat.pow_le_pow_right (by decide) (by omega)
                                                                _ ≤ 16777216 := by decide)
        have hcj : (chunk C i).getD j 0 = C.getD (4 * i + j) 0 := by
          unfold chunk
          simp only [List.getD_eq_getElem?_getD, List.getElem?_take, List.getElem?_drop]
          rw [if_pos hj]
        have hcb : C.getD (4 * i + j) 0 < 256 := by
          rw [List.getD_eq_getElem?_getD, List.getElem?_eq_getElem (show 4 * i + j < C.length by omega)]; exact hC _ (List.getElem_mem _)
        have e1 : ((4 * i : Nat) : Int) + (j : Int) = ((4 * i + j : Nat) : Int) := by omega
        refine cnd_t (decide_eq_true (by omega)) ?_
        refine bnd (some_wrap (by omega) (by omega)) ?_
        rw [e1]
        have hchr := tx_chr hC (i := 4 * i + j) (by omega)
        refine bnd hchr (bnd (rv_eq _ hcb) ?_)
        rw [hcj]
        generalize C.getD (4 * i + j) 0 = c at hcb hchr
        unfold gstep
        cases hr : rv c with
        | some v =>
          obtain ⟨_, hv64, hc61⟩ := rv_some hcb hr
          by_cases hnj : n = j
          · simp only [if_pos hnj]
            refine bndL (s := ((n + 1 : Nat) : Int)) (bndL (s := true) (cnd_t (decide_eq_true (by omega)) (by rw [hnj]; simp)) (cnd_t rfl (bnd (some_wrap (by omega) (by omega)) (by simp)))) ?_
            refine bnd (shl_i64 x 6 (by decide) (by omega)) (bnd rfl ?_)
            rw [if_neg (by omega), or64 _ _ (by omega) (by omega)]
            have := or_hi x v 6 (by omega)
            rw [show x * 2 ^ 6 = 2 ^ 6 * x by omega, this]
            refine bnd rfl (bnd (some_wrap (by omega) (by omega)) ?_)
            rw [show 2 ^ 6 * x + v = x * 64 + v by omega]
            rfl
          · simp only [if_neg hnj]
            refine bndR (bndL (s := false) (cnd_t (decide_eq_true (by omega)) (by rw [beq_eq_false_iff_ne.2 (by omega : (n : Int) ≠ (j : Int))])) (cnd_f rfl (bnd (some_wrap (by omega) (by omega)) (by exact bnd hchr (cnd_t (by simp only [cI, bne_iff_ne, ne_eq]; omega) rfl))))) rfl
        | none =>
          by_cases hc61 : c = 61
          · simp only [if_pos hc61]
            refine bndL (s := ((n : Nat) : Int)) (bndL (s := false) (cnd_f (by decide) rfl) (cnd_f rfl (bnd (some_wrap (by omega) (by omega)) (by exact bnd hchr (cnd_f (by simp only [cI, bne_eq_false_iff_eq]; omega) rfl))))) ?_
            refine bnd (shl_i64 x 6 (by decide) (by omega)) (bnd rfl ?_)
            rw [if_pos (by decide), show (0 : Int) = ((0 : Nat) : Int) from rfl, or64 _ _ (by omega) (by omega), Nat.or_zero]
            refine bnd rfl (bnd (some_wrap (by omega) (by omega)) ?_)
            rw [show x * 2 ^ 6 = x * 64 by omega]
            rfl
          · simp only [if_neg hc61]
            refine bndR (bndL (s := false) (cnd_f (by decide) rfl) (cnd_f rfl (bnd (some_wrap (by omega) (by omega)) (by exact bnd hchr (cnd_t (by simp only [cI, bne_iff_ne, ne_eq]; omega) rfl))))) rfl
      have hacc := hDl i
      have hbl : ∀ t, ((b3 x).take t).length ≤ 3 := fun t => by rw [List.length_take]; simp only [b3, List.length_cons, List.length_nil]; omega
      refine bndL (s := (decR (C.take (4 * i))).map cI ++ ((b3 x).take (n - 1)).map cI) (loop_from (fun t => ((decR (C.take (4 * i))).map cI ++ ((b3 x).take t).map cI, (t : Int))) (n - 1) _ (by simp) (by simp only [BIG]; omega) (fun t ht => ?_) ?_) ?_
      · have h1 := hbl t
        refine bnd (some_wrap (by omega) (by omega)) (cnd_t (decide_eq_true (by omega)) ?_)
        refine bnd (some_wrap (by omega) (by omega)) (bnd (some_wrap (by omega) (by omega)) ?_)
        have e2 : (16 : Int) - 8 * (t : Int) = ((16 - 8 * t : Nat) : Int) := by omega
        rw [e2, u64_nat _ (by omega)]
        refine bnd rfl (bnd (shr_n .i64 _ _ (by simp only [IntKind.bits]; omega)) (bnd rfl ?_))
        rw [u8_mod]
        refine bnd (app1 _ _ (by simp only [List.length_append, List.length_map, List.length_cons, List.length_nil]; omega)) (bnd (some_wrap (by omega) (by omega)) ?_)
        have hget : (b3 x)[t]? = some (x / 2 ^ (16 - 8 * t) % 256) := by
          have h3 : t = 0 ∨ t = 1 ∨ t = 2 := by omega
          rcases h3 with rfl | rfl | rfl <;> simp [b3]
        rw [List.take_add_one, hget, List.map_append, List.append_assoc]
        rfl
      · exact bnd (some_wrap (by omega) (by omega)) (cnd_f (decide_eq_false (by omega)) rfl)
      · refine bnd (some_wrap (by omega) (by omega)) ?_
        rw [hnext i hi x n hg, List.map_append]
        rfl
    · refine cnd_f (decide_eq_false (by omega)) ?_
      rw [List.take_of_length_le (by omega)]
    · rw [← hdT]
      refine bnd (renc_eq (decT C) hdb (by omega)) ?_
      rw [toList_beq]
      by_cases h : tx (encN (decT C)) = tx C
      · rw [if_pos h]
        exact cnd_f (by simp [h]) rfl
      · rw [if_neg h]
        exact cnd_t (by simp [h]) rfl
  · rw [if_neg fun h => by have := hgood h k hk; rw [hbad] at this; cases this]
    refine bndR (a := ([], false)) (loop_from (fun i => ((decR (C.take (4 * i))).map cI, ((4 * i : Nat) : Int))) k _ (by simp [decR]) (by simp only [BIG]; omega) (fun i hik => ?_) ?_) rfl
    · have hi : i < m := by omega
      have hok := hpre i hik
      obtain ⟨⟨x, n⟩, hg⟩ := Option.isSome_iff_exists.1 hok
      obtain ⟨hn4, hx24, _⟩ := grun_ok _ (hchb i) (hchl i hi) x n hg
      refine cnd_t (decide_eq_true (by omega)) ?_
      refine bndL (s := ((x : Int), (n : Int))) ((grun_loop (.inr (.inr ([], false))) _ (chunk C i) (hchb i) (hchl i hi) ?_ (fun x n => cnd_f (by decide) rfl) (chunk C i) 0 0 0 BIG rfl (by rw [hchl i hi]) (by decide) (Nat.le_refl _) (by rw [hchl i hi]; decide)).trans (by rw [hg])) ?_
      · skip
        intro j x n hj hx hn
        have hx4 : x < 16777216 := Nat.lt_of_lt_of_le hx (by calc 64 ^ j ≤ 64 ^ 4 := Nat.pow_le_pow_right (by decide) (by omega)
                                                                _ ≤ 16777216 := by decide)
        have hcj : (chunk C i).getD j 0 = C.getD (4 * i + j) 0 := by
          unfold chunk
          simp only [List.getD_eq_getElem?_getD, List.getElem?_take, List.getElem?_drop]
          rw [if_pos hj]
        have hcb : C.getD (4 * i + j) 0 < 256 := by
          rw [List.getD_eq_getElem?_getD, List.getElem?_eq_getElem (show 4 * i + j < C.length by omega)]; exact hC _ (List.getElem_mem _)
        have e1 : ((4 * i : Nat) : Int) + (j : Int) = ((4 * i + j : Nat) : Int) := by omega
        refine cnd_t (decide_eq_true (by omega)) ?_
        refine bnd (some_wrap (by omega) (by omega)) ?_
        rw [e1]
        have hchr := tx_chr hC (i := 4 * i + j) (by omega)
        refine bnd hchr (bnd (rv_eq _ hcb) ?_)
        rw [hcj]
        generalize C.getD (4 * i + j) 0 = c at hcb hchr
        unfold gstep
        cases hr : rv c with
        | some v =>
          obtain ⟨_, hv64, hc61⟩ := rv_some hcb hr
          by_cases hnj : n = j
          · simp only [if_pos hnj]
            refine bndL (s := ((n + 1 : Nat) : Int)) (bndL (s := true) (cnd_t (decide_eq_true (by omega)) (by rw [hnj]; simp)) (cnd_t rfl (bnd (some_wrap (by omega) (by omega)) (by simp)))) ?_
            refine bnd (shl_i64 x 6 (by decide) (by omega)) (bnd rfl ?_)
            rw [if_neg (by omega), or64 _ _ (by omega) (by omega)]
            have := or_hi x v 6 (by omega)
            rw [show x * 2 ^ 6 = 2 ^ 6 * x by omega, this]
            refine bnd rfl (bnd (some_wrap (by omega) (by omega)) ?_)
            rw [show 2 ^ 6 * x + v = x * 64 + v by omega]
            rfl
          · simp only [if_neg hnj]
            refine bndR (bndL (s := false) (cnd_t (decide_eq_true (by omega)) (by rw [beq_eq_false_iff_ne.2 (by omega : (n : Int) ≠ (j : Int))])) (cnd_f rfl (bnd (some_wrap (by omega) (by omega)) (by exact bnd hchr (cnd_t (by simp only [cI, bne_iff_ne, ne_eq]; omega) rfl))))) rfl
        | none =>
          by_cases hc61 : c = 61
          · simp only [if_pos hc61]
            refine bndL (s := ((n : Nat) : Int)) (bndL (s := false) (cnd_f (by decide) rfl) (cnd_f rfl (bnd (some_wrap (by omega) (by omega)) (by exact bnd hchr (cnd_f (by simp only [cI, bne_eq_false_iff_eq]; omega) rfl))))) ?_
            refine bnd (shl_i64 x 6 (by decide) (by omega)) (bnd rfl ?_)
            rw [if_pos (by decide), show (0 : Int) = ((0 : Nat) : Int) from rfl, or64 _ _ (by omega) (by omega), Nat.or_zero]
            refine bnd rfl (bnd (some_wrap (by omega) (by omega)) ?_)
            rw [show x * 2 ^ 6 = x * 64 by omega]
            rfl
          · simp only [if_neg hc61]
            refine bndR (bndL (s := false) (cnd_f (by decide) rfl) (cnd_f rfl (bnd (some_wrap (by omega) (by omega)) (by exact bnd hchr (cnd_t (by simp only [cI, bne_iff_ne, ne_eq]; omega) rfl))))) rfl
      have hacc := hDl i
      have hbl : ∀ t, ((b3 x).take t).length ≤ 3 := fun t => by rw [List.length_take]; simp only [b3, List.length_cons, List.length_nil]; omega
      refine bndL (s := (decR (C.take (4 * i))).map cI ++ ((b3 x).take (n - 1)).map cI) (loop_from (fun t => ((decR (C.take (4 * i))).map cI ++ ((b3 x).take t).map cI, (t : Int))) (n - 1) _ (by simp) (by simp only [BIG]; omega) (fun t ht => ?_) ?_) ?_
      · have h1 := hbl t
        refine bnd (some_wrap (by omega) (by omega)) (cnd_t (decide_eq_true (by omega)) ?_)
        refine bnd (some_wrap (by omega) (by omega)) (bnd (some_wrap (by omega) (by omega)) ?_)
        have e2 : (16 : Int) - 8 * (t : Int) = ((16 - 8 * t : Nat) : Int) := by omega
        rw [e2, u64_nat _ (by omega)]
        refine bnd rfl (bnd (shr_n .i64 _ _ (by simp only [IntKind.bits]; omega)) (bnd rfl ?_))
        rw [u8_mod]
        refine bnd (app1 _ _ (by simp only [List.length_append, List.length_map, List.length_cons, List.length_nil]; omega)) (bnd (some_wrap (by omega) (by omega)) ?_)
        have hget : (b3 x)[t]? = some (x / 2 ^ (16 - 8 * t) % 256) := by
          have h3 : t = 0 ∨ t = 1 ∨ t = 2 := by omega
          rcases h3 with rfl | rfl | rfl <;> simp [b3]
        rw [List.take_add_one, hget, List.map_append, List.append_assoc]
        rfl
      · exact bnd (some_wrap (by omega) (by omega)) (cnd_f (decide_eq_false (by omega)) rfl)
      · refine bnd (some_wrap (by omega) (by omega)) ?_
        rw [hnext i hi x n hg, List.map_append]
        rfl
    · have hno : grun (chunk C k) 0 0 0 = none := by
        unfold okC at hbad
        cases hg : grun (chunk C k) 0 0 0 with
        | none => rfl
        | some y => rw [hg] at hbad; cases hbad
      refine cnd_t (decide_eq_true (by omega)) ?_
      refine bndR (a := .inr (.inr ([], false))) ((grun_loop (.inr (.inr ([], false))) _ (chunk C k) (hchb k) (hchl k hk) ?_ (fun x n => cnd_f (by decide) rfl) (chunk C k) 0 0 0 BIG rfl (by rw [hchl k hk]) (by decide) (Nat.le_refl _) (by rw [hchl k hk]; decide)).trans (by rw [hno])) rfl
      intro j x n hj hx hn
      have hx4 : x < 16777216 := Nat.lt_of_lt_of_le hx (by calc 64 ^ j ≤ 64 ^ 4 := Nat.pow_le_pow_right (by decide) (by omega)
                                                              _ ≤ 16777216 := by decide)
      have hcj : (chunk C k).getD j 0 = C.getD (4 * k + j) 0 := by
        unfold chunk
        simp only [List.getD_eq_getElem?_getD, List.getElem?_take, List.getElem?_drop]
        rw [if_pos hj]
      have hcb : C.getD (4 * k + j) 0 < 256 := by
        rw [List.getD_eq_getElem?_getD, List.getElem?_eq_getElem (show 4 * k + j < C.length by omega)]; exact hC _ (List.getElem_mem _)
      have e1 : ((4 * k : Nat) : Int) + (j : Int) = ((4 * k + j : Nat) : Int) := by omega
      refine cnd_t (decide_eq_true (by omega)) ?_
      refine bnd (some_wrap (by omega) (by omega)) ?_
      rw [e1]
      have hchr := tx_chr hC (i := 4 * k + j) (by omega)
      refine bnd hchr (bnd (rv_eq _ hcb) ?_)
      rw [hcj]
      generalize C.getD (4 * k + j) 0 = c at hcb hchr
      unfold gstep
      cases hr : rv c with
      | some v =>
        obtain ⟨_, hv64, hc61⟩ := rv_some hcb hr
        by_cases hnj : n = j
        · simp only [if_pos hnj]
          refine bndL (s := ((n + 1 : Nat) : Int)) (bndL (s := true) (cnd_t (decide_eq_true (by omega)) (by rw [hnj]; simp)) (cnd_t rfl (bnd (some_wrap (by omega) (by omega)) (by simp)))) ?_
          refine bnd (shl_i64 x 6 (by decide) (by omega)) (bnd rfl ?_)
          rw [if_neg (by omega), or64 _ _ (by omega) (by omega)]
          have := or_hi x v 6 (by omega)
          rw [show x * 2 ^ 6 = 2 ^ 6 * x by omega, this]
          refine bnd rfl (bnd (some_wrap (by omega) (by omega)) ?_)
          rw [show 2 ^ 6 * x + v = x * 64 + v by omega]
          rfl
        · simp only [if_neg hnj]
          refine bndR (bndL (s := false) (cnd_t (decide_eq_true (by omega)) (by rw [beq_eq_false_iff_ne.2 (by omega : (n : Int) ≠ (j : Int))])) (cnd_f rfl (bnd (some_wrap (by omega) (by omega)) (by exact bnd hchr (cnd_t (by simp only [cI, bne_iff_ne, ne_eq]; omega) rfl))))) rfl
      | none =>
        by_cases hc61 : c = 61
        · simp only [if_pos hc61]
          refine bndL (s := ((n : Nat) : Int)) (bndL (s := false) (cnd_f (by decide) rfl) (cnd_f rfl (bnd (some_wrap (by omega) (by omega)) (by exact bnd hchr (cnd_f (by simp only [cI, bne_eq_false_iff_eq]; omega) rfl))))) ?_
          refine bnd (shl_i64 x 6 (by decide) (by omega)) (bnd rfl ?_)
          rw [if_pos (by decide), show (0 : Int) = ((0 : Nat) : Int) from rfl, or64 _ _ (by omega) (by omega), Nat.or_zero]
          refine bnd rfl (bnd (some_wrap (by omega) (by omega)) ?_)
          rw [show x * 2 ^ 6 = x * 64 by omega]
          rfl
        · simp only [if_neg hc61]
          refine bndR (bndL (s := false) (cnd_f (by decide) rfl) (cnd_f rfl (bnd (some_wrap (by omega) (by omega)) (by exact bnd hchr (cnd_t (by simp only [cI, bne_iff_ne, ne_eq]; omega) rfl))))) rfl
end Go.Abs.Sh
