import Derived.Test.YtepkcpjfogjfhaaMatI
namespace Go.Abs.Sh
set_option linter.unusedVariables false
set_option linter.unusedSimpArgs false
set_option maxRecDepth 10000
def saS (b : List Int) (at_ d : Int) : ((Int)) → Option ((Int) ⊕ ((Int) ⊕ Int)) := (fun (s21 : Int) =>
  bindS (S := Bool) (A := ((Int) ⊕ ((Int) ⊕ Int)))
    (cond ((decide (s21 < 258)))
      ((some (IntKind.i64.wrap (at_ + s21))).bind fun v1 =>
      cond ((decide (v1 < (b.length : Int))))
        ((some (IntKind.i64.wrap (at_ + s21))).bind fun v2 =>
        (ixO v2 b.length).bind fun v3 =>
        (getO b v3).bind fun v4 =>
        (some (IntKind.i64.wrap (at_ + s21))).bind fun v5 =>
        (some (IntKind.i64.wrap (v5 - d))).bind fun v6 =>
        (ixO v6 b.length).bind fun v7 =>
        (getO b v7).bind fun v8 =>
        some (.inl (v4 == v8)))
        (some (.inl false)))
      (some (.inl false)))
    (fun (s34 : Bool) =>
      cond (s34)
        ((some (IntKind.i64.wrap (s21 + 1))).bind fun v14 =>
        some (.inl v14))
        (some (.inr (.inl s21)))) some)
theorem same_eq {b : List Int} {at_ o : Nat} (hl : b.length ≤ 5000) (ha : at_ < b.length) (ho : 1 ≤ o) (ho2 : o ≤ at_) :
    wherrylaw04_same b (at_ : Int) (o : Int) = some ((cmL b (at_ - o) at_ : Nat) : Int) := by
  have hle := cm_le b (p := at_ - o) (at_ := at_)
  have hgo : ∀ i : Nat, i < 258 → at_ + i < b.length → ∃ u v : Int, b[at_ - o + i]? = some u ∧ b[at_ + i]? = some v ∧ (((cond ((decide ((i : Int) < 258)))
          ((some (IntKind.i64.wrap ((at_ : Int) + (i : Int)))).bind fun v1 =>
          cond ((decide (v1 < (b.length : Int))))
            ((some (IntKind.i64.wrap ((at_ : Int) + (i : Int)))).bind fun v2 =>
            (ixO v2 b.length).bind fun v3 =>
            (getO b v3).bind fun v4 =>
            (some (IntKind.i64.wrap ((at_ : Int) + (i : Int)))).bind fun v5 =>
            (some (IntKind.i64.wrap (v5 - (o : Int)))).bind fun v6 =>
            (ixO v6 b.length).bind fun v7 =>
            (getO b v7).bind fun v8 =>
            some (.inl (v4 == v8)))
            (some (.inl false)))
          (some (.inl false))) : Option (Bool ⊕ (Int ⊕ (Int ⊕ Int)))) = some (.inl (v == u))) := by
    intro i hi hn
    obtain ⟨u, hu, hu2⟩ := getO_q (l := b) (i := at_ - o + i) (by omega)
    obtain ⟨v, hv, hv2⟩ := getO_q (l := b) (i := at_ + i) hn
    have hw : IntKind.i64.wrap ((at_ : Int) + (i : Int)) = ((at_ + i : Nat) : Int) := by rw [wrap_i64 (by omega) (by omega)]; simp
    have hw2 : IntKind.i64.wrap (((at_ + i : Nat) : Int) - (o : Int)) = ((at_ - o + i : Nat) : Int) := by rw [wrap_i64 (by omega) (by omega)]; omega
    exact ⟨u, v, hu2, hv2, cnd_t (decide_eq_true (by omega)) (bnd (congrArg some hw) (cnd_t (decide_eq_true (by omega)) (bnd (congrArg some hw) (bnd (ixO_of hn) (bnd hv (bnd (congrArg some hw) (bnd (congrArg some hw2) (bnd (ixO_of (by omega)) (bnd hu rfl)))))))))⟩
  unfold wherrylaw04_same
  refine bndL (s := ((cmL b (at_ - o) at_ : Nat) : Int)) (loop_from (f := saS b (at_ : Int) (o : Int)) (fun i => ((i : Nat) : Int)) (cmL b (at_ - o) at_) BIG rfl (by simp only [BIG]; omega) (fun i hi => ?_) ?_) rfl
  · obtain ⟨u, v, hu, hv, he⟩ := hgo i (by omega) (by omega)
    have := cm_get (b := b) (p := at_ - o) (at_ := at_) hi
    rw [hu, hv] at this
    obtain rfl := Option.some.inj this
    rw [beq_self_eq_true] at he
    exact bndL he (cnd_t rfl (bnd (congrArg some (wrap_succ (n := i) (by omega))) rfl))
  · by_cases h258 : cmL b (at_ - o) at_ < 258
    · by_cases hn : at_ + cmL b (at_ - o) at_ < b.length
      · obtain ⟨u, v, hu, hv, he⟩ := hgo _ h258 hn
        have := cm_stop (b := b) (p := at_ - o) (at_ := at_) (by omega) h258 hn
        rw [hu, hv] at this
        have hne : (v == u) = false := beq_eq_false_iff_ne.2 fun h => this (by rw [h])
        rw [hne] at he
        exact bndL he (cnd_f rfl rfl)
      · have hw : IntKind.i64.wrap ((at_ : Int) + ((cmL b (at_ - o) at_ : Nat) : Int)) = ((at_ + cmL b (at_ - o) at_ : Nat) : Int) := by rw [wrap_i64 (by omega) (by omega)]; simp
        exact bndL (s := false) (cnd_t (decide_eq_true (by omega)) (bnd (congrArg some hw) (cnd_f (decide_eq_false (by omega)) rfl))) (cnd_f rfl rfl)
    · exact bndL (s := false) (cnd_f (decide_eq_false (by omega)) rfl) (cnd_f rfl rfl)
theorem best_beats {b : List Int} {at_ o : Nat} (h1 : 1 ≤ o) (h2 : o ≤ min at_ 2048) (h3 : 3 ≤ cmL b (at_ - o) at_) : cmL b (at_ - o) at_ < (bestS b at_).1 ∨ (cmL b (at_ - o) at_ = (bestS b at_).1 ∧ (bestS b at_).2 ≤ o) := by
  have hge := bestN_ge b at_ (min at_ 2048) o h1 h2
  have his := bestN_is b at_ (min at_ 2048)
  unfold bestS clp
  rw [if_neg (by omega)]
  by_cases he : cmL b (at_ - o) at_ < (bestN b at_ (min at_ 2048)).1
  · exact .inl he
  · refine .inr ⟨by omega, ?_⟩
    rcases his with h | ⟨_, _, h⟩
    · rw [h]; exact Nat.zero_le _
    · apply Classical.byContradiction
      intro hc
      have := h o h1 (by omega)
      omega
theorem matchBest_true (b : List Int) (at_ other : Int) (hb : wfL (wfI .u8) b) : wherrylaw04_MatchBest b at_ other = some true := by
  unfold wherrylaw04_MatchBest
  by_cases h1 : 1200 < b.length
  · exact bndL (s := true) (cnd_t (decide_eq_true (by omega)) rfl) (cnd_t rfl rfl)
  by_cases h0 : b.length = 0
  · exact bndL (s := true) (cnd_f (decide_eq_false (by omega)) (inl_ofB (beq_iff_eq.2 (by omega)))) (cnd_t rfl rfl)
  refine bndL (s := false) (cnd_f (decide_eq_false (by omega)) (inl_ofB (beq_eq_false_iff_ne.2 (by omega)))) (cnd_f rfl ?_)
  have hy := bys hb
  obtain ⟨A, n, hA, hr, hn, hw⟩ := mod_arg at_ b.length (by omega) (by omega)
  have hwl : IntKind.u64.wrap (b.length : Int) = (b.length : Int) := wrap_u64s (by omega) (by omega)
  have htop := best_top hy (by omega) (n : Int)
  unfold BestI at htop
  rw [if_neg (by omega), Int.toNat_natCast] at htop
  refine bnd (congrArg some hA) (bnd (congrArg some hwl) (bnd hr (bnd (congrArg some hw) (bnd htop (bndL (s := ()) ?_ ?_)))))
  · rcases bestS_cases b n with h | ⟨c1, c2, c3, c4, c5, c6⟩
    · rw [h]
      exact cnd_t rfl (cnd_f rfl rfl)
    · have hs := same_eq (b := b) (at_ := n) (o := (bestS b n).2) (by omega) hn c4 (by omega)
      rw [c6] at hs
      have hwa : IntKind.i64.wrap ((n : Int) + ((bestS b n).1 : Int)) = ((n + (bestS b n).1 : Nat) : Int) := by rw [wrap_i64 (by omega) (by omega)]; simp
      have g0 : ((((bestS b n).1 : Nat) : Int) == 0) = false := beq_eq_false_iff_ne.2 (by omega)
      have g1 : decide ((((bestS b n).1 : Nat) : Int) < 3) = false := decide_eq_false (by omega)
      have g2 : decide (258 < (((bestS b n).1 : Nat) : Int)) = false := decide_eq_false (by omega)
      have g3 : decide ((((bestS b n).2 : Nat) : Int) < 1) = false := decide_eq_false (by omega)
      have g4 : decide ((n : Int) < (((bestS b n).2 : Nat) : Int)) = false := decide_eq_false (by omega)
      have g5 : decide (2048 < (((bestS b n).2 : Nat) : Int)) = false := decide_eq_false (by omega)
      have g6 : decide ((b.length : Int) < ((n + (bestS b n).1 : Nat) : Int)) = false := decide_eq_false (by omega)
      have g7 : decide ((((bestS b n).1 : Nat) : Int) < (((bestS b n).1 : Nat) : Int)) = false := decide_eq_false (by omega)
      exact cnd_f g0 (bndL (s := false) (cnd_f g1 (cnd_f g2 (cnd_f g3 (cnd_f g4 (cnd_f g5 (bnd (congrArg some hwa) (cnd_f g6 (bnd hs (inl_ofB g7))))))))) (cnd_f rfl rfl))
  · by_cases hn0 : n = 0
    · subst hn0
      have hb0 : bestS b 0 = (0, 0) := rfl
      rw [hb0]
      exact cnd_t rfl (bndL (s := true) (cnd_t rfl (bnd wakes04 rfl)) rfl)
    · obtain ⟨C, o, hC, hro, hon, hwo⟩ := mod_arg other n (by omega) (by omega)
      have hwn : IntKind.u64.wrap (n : Int) = (n : Int) := wrap_u64s (by omega) (by omega)
      have hw1 : IntKind.i64.wrap (1 + (o : Int)) = ((o + 1 : Nat) : Int) := by rw [wrap_i64 (by omega) (by omega)]; omega
      have hs := same_eq (b := b) (at_ := n) (o := o + 1) (by omega) hn (by omega) (by omega)
      refine cnd_f (beq_eq_false_iff_ne.2 (by omega)) (bnd (congrArg some hC) (bnd (congrArg some hwn) (bnd hro (bnd (congrArg some hwo) (bnd (congrArg some hw1) (bnd hs (bndL (s := true) ?_ rfl)))))))
      by_cases h3 : cmL b (n - (o + 1)) n < 3
      · exact cnd_t (decide_eq_true (by omega)) (bnd wakes04 rfl)
      refine cnd_f (decide_eq_false (by omega)) ?_
      rcases best_beats (b := b) (at_ := n) (o := o + 1) (by omega) (by omega) (by omega) with h | ⟨h, h2⟩
      · exact cnd_t (decide_eq_true (by show ((cmL b (n - (o + 1)) n : Nat) : Int) < (((bestS b n).1 : Nat) : Int); omega)) (bnd wakes04 rfl)
      · exact cnd_f (decide_eq_false (by show ¬ ((cmL b (n - (o + 1)) n : Nat) : Int) < (((bestS b n).1 : Nat) : Int); omega)) (cnd_t (beq_iff_eq.2 (by show ((cmL b (n - (o + 1)) n : Nat) : Int) = (((bestS b n).1 : Nat) : Int); omega)) (cnd_t (decide_eq_true (by show (((bestS b n).2 : Nat) : Int) ≤ ((o + 1 : Nat) : Int); omega)) (bnd wakes04 rfl)))
def onS (c v3 : Int) : (((List Int) × Int)) → Option (((List Int) × Int) ⊕ (((List Int)) ⊕ Bool)) := (fun ((s10, s11) : (List Int) × Int) =>
  cond ((decide (s11 < v3)))
    ((appO 1 s10 [c]).bind fun v5 =>
    (some (IntKind.i64.wrap (s11 + 1))).bind fun v6 =>
    some (.inl (v5, v6)))
    (some (.inr (.inl s10))))
def opS : (((List T_Tok) × Int)) → Option (((List T_Tok) × Int) ⊕ (((List T_Tok) × Int) ⊕ Bool)) := (fun ((s37, s38) : (List T_Tok) × Int) =>
          cond ((decide (3 ≤ s38)))
            ((some (if 258 < s38 then 258 else s38)).bind fun v31 =>
            (appO 24 s37 [(T_Tok.mk 0 v31 1)]).bind fun v32 =>
            (some (IntKind.i64.wrap (s38 - v31))).bind fun v33 =>
            some (.inl (v32, v33)))
            (some (.inr (.inl (s37, s38)))))
def oqS (c : Int) : (((List T_Tok) × Int)) → Option (((List T_Tok) × Int) ⊕ (((List T_Tok)) ⊕ Bool)) := (fun ((s55, s56) : (List T_Tok) × Int) =>
              cond ((decide (0 < s56)))
                ((appO 24 s55 [(T_Tok.mk c 0 0)]).bind fun v50 =>
                (some (IntKind.i64.wrap (s56 - 1))).bind fun v51 =>
                some (.inl (v50, v51)))
                (some (.inr (.inl s55))))
/-! One byte over and over. -/
theorem rep_get (n : Nat) (c : Int) (i : Nat) (h : i < n) : (List.replicate n c)[i]? = some c := by rw [List.getElem?_replicate, if_pos h]
theorem rep_cm (c : Int) {n p at_ : Nat} (hp : p ≤ at_) (ha : at_ ≤ n) : cmL (List.replicate n c) p at_ = min 258 (n - at_) := by
  have hle := cm_le (List.replicate n c) (p := p) (at_ := at_)
  rw [List.length_replicate] at hle
  have := cm_ge (b := List.replicate n c) (p := p) (at_ := at_) (k := min 258 (n - at_)) (by omega) hp (by rw [List.length_replicate]; omega) fun j hj => by
    rw [rep_get n c _ (by omega), rep_get n c _ (by omega)]
  omega
theorem rep_bestN (c : Int) {n at_ : Nat} (ha : at_ < n) : ∀ k, 1 ≤ k → k ≤ at_ → bestN (List.replicate n c) at_ k = (min 258 (n - at_), 1)
  | 0, h, _ => by omega
  | 1, _, h2 => by
    show upd1 (0, 0) 1 (cmL (List.replicate n c) (at_ - 1) at_) = _
    rw [rep_cm c (by omega) (by omega)]
    unfold upd1
    rw [if_pos (by show 0 < min 258 (n - at_); omega)]
  | k + 2, _, h2 => by
    show upd1 (bestN (List.replicate n c) at_ (k + 1)) (k + 2) (cmL (List.replicate n c) (at_ - (k + 2)) at_) = _
    rw [rep_bestN c ha (k + 1) (by omega) (by omega), rep_cm c (by omega) (by omega)]
    unfold upd1
    rw [if_neg (by show ¬ min 258 (n - at_) < min 258 (n - at_); omega)]
def pcs : Nat → Nat → List T_Tok
  | 0, _ => []
  | k + 1, r => if 3 ≤ r then ⟨0, ((min 258 r : Nat) : Int), 1⟩ :: pcs k (r - min 258 r) else []
def rst : Nat → Nat → Nat
  | 0, r => r
  | k + 1, r => if 3 ≤ r then rst k (r - min 258 r) else r
theorem pcs_low {r : Nat} (h : r < 3) : ∀ k, pcs k r = [] ∧ rst k r = r
  | 0 => ⟨rfl, rfl⟩
  | k + 1 => by unfold pcs rst; rw [if_neg (by omega), if_neg (by omega)]; exact ⟨rfl, rfl⟩
theorem pcs_len : ∀ (k r : Nat), (pcs k r).length + rst k r ≤ r
  | 0, r => by simp [pcs, rst]
  | k + 1, r => by
    unfold pcs rst
    split
    · have := pcs_len k (r - min 258 r)
      simp only [List.length_cons]; omega
    · simp
theorem rep_toks (c : Int) {n : Nat} : ∀ (k at_ : Nat), 1 ≤ at_ → at_ ≤ n → n - at_ ≤ k → toks (List.replicate n c) k at_ = pcs k (n - at_) ++ List.replicate (rst k (n - at_)) ⟨c, 0, 0⟩
  | 0, at_, h1, h2, hk => by
    have : n - at_ = 0 := by omega
    rw [this]; rfl
  | k + 1, at_, h1, h2, hk => by
    unfold toks
    rw [List.length_replicate]
    by_cases he : at_ < n
    · rw [if_pos he]
      have hb : bestS (List.replicate n c) at_ = if n - at_ < 3 then (0, 0) else (min 258 (n - at_), 1) := by
        unfold bestS
        rw [rep_bestN c he _ (by omega) (by omega)]
        unfold clp
        by_cases h : n - at_ < 3
        · rw [if_pos (by show min 258 (n - at_) < 3; omega), if_pos h]
        · rw [if_neg (by show ¬ min 258 (n - at_) < 3; omega), if_neg h]
      by_cases h3 : n - at_ < 3
      · rw [hb, if_pos h3, if_pos rfl, rep_toks c k (at_ + 1) (by omega) (by omega) (by omega)]
        obtain ⟨e1, e2⟩ := pcs_low h3 (k + 1)
        obtain ⟨e3, e4⟩ := pcs_low (r := n - (at_ + 1)) (by omega) k
        rw [e1, e2, e3, e4]
        have : n - at_ = (n - (at_ + 1)) + 1 := by omega
        rw [this, List.replicate_succ, List.getD_eq_getElem?_getD, rep_get n c at_ he]
        rfl
      · rw [hb, if_neg h3, if_neg (by show ¬ min 258 (n - at_) = 0; omega)]
        show _ :: toks (List.replicate n c) k (at_ + min 258 (n - at_)) = _
        rw [rep_toks c k (at_ + min 258 (n - at_)) (by omega) (by omega) (by omega)]
        conv => rhs; unfold pcs rst
        rw [if_pos (by omega), if_pos (by omega), show n - (at_ + min 258 (n - at_)) = n - at_ - min 258 (n - at_) by omega]
        rfl
    · rw [if_neg he]
      have : n - at_ = 0 := by omega
      rw [this]
      rfl
theorem op_loop : ∀ (k r fuel : Nat) (w : List T_Tok), r ≤ k → k < fuel → w.length + r ≤ 10000 → loopF opS fuel (w, (r : Int)) = some (.inl (w ++ pcs k r, ((rst k r : Nat) : Int)))
  | 0, r, fuel, w, hr, hf, hw => by
    obtain ⟨fu, rfl⟩ : ∃ fu, fuel = fu + 1 := ⟨fuel - 1, by omega⟩
    rw [pcs, rst, List.append_nil]
    exact loop_exit (cnd_f (decide_eq_false (by omega)) rfl)
  | k + 1, r, fuel, w, hr, hf, hw => by
    obtain ⟨fu, rfl⟩ : ∃ fu, fuel = fu + 1 := ⟨fuel - 1, by omega⟩
    unfold pcs rst
    by_cases h3 : 3 ≤ r
    · rw [if_pos h3, if_pos h3]
      have hmn : (if (258 : Int) < (r : Int) then 258 else (r : Int)) = ((min 258 r : Nat) : Int) := by
        by_cases h : 258 < r
        · rw [if_pos (by omega)]; omega
        · rw [if_neg (by omega)]; omega
      have hs : IntKind.i64.wrap ((r : Int) - ((min 258 r : Nat) : Int)) = ((r - min 258 r : Nat) : Int) := by rw [wrap_i64 (by omega) (by omega)]; omega
      have := op_loop k (r - min 258 r) fu (w ++ [⟨0, ((min 258 r : Nat) : Int), 1⟩]) (by omega) (by omega) (by simp; omega)
      rw [List.append_assoc] at this
      exact (loop_next (cnd_t (decide_eq_true (by omega)) (bnd (congrArg some hmn) (bnd (app_of (by simp only [List.length_cons, List.length_nil]; omega) (by simp only [List.length_cons, List.length_nil]; omega)) (bnd (congrArg some hs) rfl))))).trans this
    · rw [if_neg h3, if_neg h3, List.append_nil]
      exact loop_exit (cnd_f (decide_eq_false (by omega)) rfl)
theorem oq_loop (c : Int) : ∀ (r fuel : Nat) (w : List T_Tok), r < fuel → w.length + r ≤ 10000 → loopF (oqS c) fuel (w, (r : Int)) = some (.inl (w ++ List.replicate r ⟨c, 0, 0⟩))
  | 0, fuel, w, hf, hw => by
    obtain ⟨fu, rfl⟩ : ∃ fu, fuel = fu + 1 := ⟨fuel - 1, by omega⟩
    have hst : oqS c (w, ((0 : Nat) : Int)) = some (.inr (.inl w)) := rfl
    rw [List.replicate_zero, List.append_nil]
    exact loop_exit hst
  | r + 1, fuel, w, hf, hw => by
    obtain ⟨fu, rfl⟩ : ∃ fu, fuel = fu + 1 := ⟨fuel - 1, by omega⟩
    have hs : IntKind.i64.wrap (((r + 1 : Nat) : Int) - 1) = (r : Int) := by rw [wrap_i64 (by omega) (by omega)]; omega
    have := oq_loop c r fu (w ++ [⟨c, 0, 0⟩]) (by omega) (by simp; omega)
    rw [List.append_assoc] at this
    have hst : oqS c (w, ((r + 1 : Nat) : Int)) = some (.inl (w ++ [⟨c, 0, 0⟩], (r : Int))) := cnd_t (decide_eq_true (by omega)) (bnd (app_of (by simp only [List.length_cons, List.length_nil]; omega) (by simp only [List.length_cons, List.length_nil]; omega)) (bnd (congrArg some hs) rfl))
    rw [List.replicate_succ]
    exact (loop_next hst).trans this
theorem matchOne_true (c n : Int) (hc : wfI .u8 c) : wherrylaw04_MatchOne c n = some true := by
  unfold wherrylaw04_MatchOne
  obtain ⟨A, m, hA, hm, hm2, hm3⟩ := mod_arg n 1200 (by omega) (by omega)
  have hcb : 0 ≤ c ∧ c < 256 := bys (l := [c]) ⟨by show 1 ≤ maxLen; unfold maxLen; omega, fun x hx => by rw [List.mem_singleton.1 hx]; exact hc⟩ c (by simp)
  have hlp : loopF (onS c (m : Int)) BIG ([], 0) = some (.inl (List.replicate m c)) := by
    refine loop_from (fun i => (List.replicate i c, ((i : Nat) : Int))) m BIG rfl (by simp only [BIG]; omega) (fun i hi => ?_) (cnd_f (decide_eq_false (by omega)) rfl)
    refine cnd_t (decide_eq_true (by omega)) (bnd (app_of (by simp only [List.length_replicate, List.length_cons, List.length_nil]; omega) (by simp only [List.length_replicate, List.length_cons, List.length_nil]; omega)) (bnd (congrArg some (wrap_succ (n := i) (by omega))) ?_))
    rw [← List.replicate_succ']
  have hby : ∀ x ∈ List.replicate m c, 0 ≤ x ∧ x < 256 := fun x hx => by rw [(List.mem_replicate.1 hx).2]; exact hcb
  have htk := tokens_eq hby (by rw [List.length_replicate]; omega)
  obtain ⟨w0, l0, hfirst, htoks, hwl⟩ : ∃ (w0 : List T_Tok) (l0 : Nat), ((cond ((decide (0 < (m : Int))))
          ((appO 24 ([] : List T_Tok) [(T_Tok.mk c 0 0)]).bind fun v22 =>
          (some (IntKind.i64.wrap ((m : Int) - 1))).bind fun v23 =>
          some (.inl (v22, v23)))
          (some (.inl ([], (m : Int)))) : Option ((List T_Tok × Int) ⊕ Bool)) = some (.inl (w0, (l0 : Int)))) ∧ toksS (List.replicate m c) = w0 ++ (pcs m l0 ++ List.replicate (rst m l0) ⟨c, 0, 0⟩) ∧ (w0.length + l0 = m) := by
    cases m with
    | zero => exact ⟨[], 0, rfl, rfl, rfl⟩
    | succ m =>
      have hs : IntKind.i64.wrap (((m + 1 : Nat) : Int) - 1) = (m : Int) := by rw [wrap_i64 (by omega) (by omega)]; omega
      refine ⟨[⟨c, 0, 0⟩], m, cnd_t (decide_eq_true (by omega)) (bnd (app_of (by simp) (by simp)) (bnd (congrArg some hs) rfl)), ?_, by simp; omega⟩
      unfold toksS
      rw [List.length_replicate]
      unfold toks
      rw [if_pos (by rw [List.length_replicate]; omega)]
      have hb0 : bestS (List.replicate (m + 1) c) 0 = (0, 0) := rfl
      rw [hb0, if_pos rfl, rep_toks c m 1 (by omega) (by omega) (by omega), Nat.add_sub_cancel]
      have hx : pcs (m + 1) m = pcs m m ∧ rst (m + 1) m = rst m m := by
        have key : ∀ (k r : Nat), r ≤ k → pcs (k + 1) r = pcs k r ∧ rst (k + 1) r = rst k r := by
          intro k
          induction k with
          | zero => intro r hr; obtain rfl : r = 0 := by omega
                    exact ⟨rfl, rfl⟩
          | succ k ih =>
            intro r hr
            have h1 := ih (r - min 258 r) 
            constructor
            · show (if 3 ≤ r then _ :: pcs (k + 1) (r - min 258 r) else []) = (if 3 ≤ r then _ :: pcs k (r - min 258 r) else [])
              by_cases h3 : 3 ≤ r
              · rw [if_pos h3, if_pos h3, (h1 (by omega)).1]
              · rw [if_neg h3, if_neg h3]
            · show (if 3 ≤ r then rst (k + 1) (r - min 258 r) else r) = (if 3 ≤ r then rst k (r - min 258 r) else r)
              by_cases h3 : 3 ≤ r
              · rw [if_pos h3, if_pos h3, (h1 (by omega)).2]
              · rw [if_neg h3, if_neg h3]
        exact key m m (Nat.le_refl _)
      rw [hx.1, hx.2, List.getD_eq_getElem?_getD, rep_get (m + 1) c 0 (by omega)]
      rfl
  have hpl := pcs_len m l0
  have ho := op_loop m l0 BIG w0 (by omega) (by simp only [BIG]; omega) (by omega)
  have hq := oq_loop c (rst m l0) BIG (w0 ++ pcs m l0) (by simp only [BIG]; omega) (by rw [List.length_append]; omega)
  rw [List.append_assoc, ← htoks] at hq
  have hkt := keepT (toksS (List.replicate m c)) (by have := toksS_len (List.replicate m c); rw [List.length_replicate] at this; omega)
  exact bnd (congrArg some hA) (bnd hm (bnd (congrArg some hm3) (bndL hlp (bndL hfirst (bndL ho (bndL hq (bnd htk (bndL (s := true) (cnd_t rfl (bnd hkt (cnd_t rfl (bnd wakes04 rfl)))) rfl))))))))
end Go.Abs.Sh
