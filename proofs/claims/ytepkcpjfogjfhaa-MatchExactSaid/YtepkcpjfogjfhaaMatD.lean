import Derived.Test.YtepkcpjfogjfhaaMatC
namespace Go.Abs.Sh
set_option linter.unusedVariables false
set_option linter.unusedSimpArgs false
set_option maxRecDepth 10000
def tkS (b : List Int) : (((List T_Tok) × (List Int) × (List ((List Int) × Int)) × (List Int) × Int × Int)) → Option (((List T_Tok) × (List Int) × (List ((List Int) × Int)) × (List Int) × Int × Int) ⊕ (((List T_Tok)) ⊕ ((List T_Tok) × Int))) := (fun ((s88, s89, s90, s91, s92, s93) : (List T_Tok) × (List Int) × (List ((List Int) × Int)) × (List Int) × Int × Int) =>
      cond ((decide (s93 < (b.length : Int))))
        ((match_index_best (T_match_index.mk s89 s90 s91 s92) s93).bind fun v6 =>
        bindS (S := Int × Int) (A := (((List T_Tok) × (List Int) × (List ((List Int) × Int)) × (List Int) × Int × Int) ⊕ (((List T_Tok)) ⊕ ((List T_Tok) × Int))))
          (cond ((v6.1 == 0))
            ((ixO s93 b.length).bind fun v8 =>
            (getO b v8).bind fun v9 =>
            some (.inl (v9, 1)))
            (some (.inl (0, v6.1))))
          (fun ((s138, s139) : Int × Int) =>
            (appO 24 s88 [(T_Tok.mk s138 v6.1 v6.2.1)]).bind fun v16 =>
            bindS (S := ((List Int) × (List ((List Int) × Int)) × (List Int) × Int × Int)) (A := (((List T_Tok) × (List Int) × (List ((List Int) × Int)) × (List Int) × Int × Int) ⊕ (((List T_Tok)) ⊕ ((List T_Tok) × Int))))
              (loopF (S := ((List Int) × (List ((List Int) × Int)) × (List Int) × Int × Int × Int)) (O := ((List Int) × (List ((List Int) × Int)) × (List Int) × Int × Int) ⊕ (((List T_Tok) × (List Int) × (List ((List Int) × Int)) × (List Int) × Int × Int) ⊕ (((List T_Tok)) ⊕ ((List T_Tok) × Int)))) (fun ((s152, s153, s154, s155, s156, s157) : (List Int) × (List ((List Int) × Int)) × (List Int) × Int × Int × Int) =>
                cond ((decide (0 < s157)))
                  ((match_index_add (T_match_index.mk s152 s153 s154 s155) s156).bind fun v18 =>
                  (some (IntKind.i64.wrap (s156 + 1))).bind fun v19 =>
                  (some (IntKind.i64.wrap (s157 - 1))).bind fun v20 =>
                  some (.inl (v18.b, v18.last, v18.back, v18.from_, v19, v20)))
                  (some (.inr (.inl (s152, s153, s154, s155, s156)))))
                BIG (v6.2.2.b, v6.2.2.last, v6.2.2.back, v6.2.2.from_, s93, s139))
              (fun ((s159, s160, s161, s162, s163) : (List Int) × (List ((List Int) × Int)) × (List Int) × Int × Int) =>
                some (.inl (v16, s159, s160, s161, s162, s163))) some) some)
        (some (.inr (.inl s88))))
def taS : (((List Int) × (List ((List Int) × Int)) × (List Int) × Int × Int × Int)) → Option (((List Int) × (List ((List Int) × Int)) × (List Int) × Int × Int × Int) ⊕ (((List Int) × (List ((List Int) × Int)) × (List Int) × Int × Int) ⊕ (((List T_Tok) × (List Int) × (List ((List Int) × Int)) × (List Int) × Int × Int) ⊕ (((List T_Tok)) ⊕ ((List T_Tok) × Int))))) := (fun ((s152, s153, s154, s155, s156, s157) : (List Int) × (List ((List Int) × Int)) × (List Int) × Int × Int × Int) =>
                cond ((decide (0 < s157)))
                  ((match_index_add (T_match_index.mk s152 s153 s154 s155) s156).bind fun v18 =>
                  (some (IntKind.i64.wrap (s156 + 1))).bind fun v19 =>
                  (some (IntKind.i64.wrap (s157 - 1))).bind fun v20 =>
                  some (.inl (v18.b, v18.last, v18.back, v18.from_, v19, v20)))
                  (some (.inr (.inl (s152, s153, s154, s155, s156)))))
def baS (at_ : Int) : (((List Int) × (List ((List Int) × Int)) × (List Int) × Int × Int)) → Option (((List Int) × (List ((List Int) × Int)) × (List Int) × Int × Int) ⊕ (((List Int) × (List ((List Int) × Int)) × (List Int) × Int) ⊕ (Int × Int))) := (fun ((s20, s21, s22, s23, s24) : (List Int) × (List ((List Int) × Int)) × (List Int) × Int × Int) =>
          cond ((decide (s24 < at_)))
            ((match_index_add (T_match_index.mk s20 s21 s22 s23) s24).bind fun v12 =>
            (some (IntKind.i64.wrap (s24 + 1))).bind fun v13 =>
            some (.inl (v12.b, v12.last, v12.back, v12.from_, v13)))
            (some (.inr (.inl (s20, s21, s22, s23)))))
theorem bestS_cases (b : List Int) (at_ : Nat) : bestS b at_ = (0, 0) ∨ (3 ≤ (bestS b at_).1 ∧ (bestS b at_).1 ≤ 258 ∧ at_ + (bestS b at_).1 ≤ b.length ∧ 1 ≤ (bestS b at_).2 ∧ (bestS b at_).2 ≤ min at_ 2048 ∧ cmL b (at_ - (bestS b at_).2) at_ = (bestS b at_).1) := by
  have h1 := bestN_le b at_ (min at_ 2048)
  have h2 := bestN_is b at_ (min at_ 2048)
  unfold bestS clp
  by_cases h : (bestN b at_ (min at_ 2048)).1 < 3
  · rw [if_pos h]; exact .inl rfl
  · rw [if_neg h]
    rcases h2 with h2 | ⟨h3, h4, h5⟩
    · rw [h2] at h; exact absurd (by decide) h
    · exact .inr ⟨by omega, h1.1, by omega, h3, h1.2.2, h4.symm⟩
def toks (b : List Int) : Nat → Nat → List T_Tok
  | 0, _ => []
  | k + 1, at_ => if at_ < b.length then (if (bestS b at_).1 = 0 then ⟨b.getD at_ 0, 0, 0⟩ :: toks b k (at_ + 1) else ⟨0, ((bestS b at_).1 : Int), ((bestS b at_).2 : Int)⟩ :: toks b k (at_ + (bestS b at_).1)) else []
def toksS (b : List Int) : List T_Tok := toks b b.length 0
theorem toks_end {b : List Int} {at_ : Nat} (h : b.length ≤ at_) : ∀ k, toks b k at_ = []
  | 0 => rfl
  | k + 1 => by unfold toks; rw [if_neg (by omega)]
theorem toks_len (b : List Int) : ∀ k at_, (toks b k at_).length ≤ b.length - at_
  | 0, _ => Nat.zero_le _
  | k + 1, at_ => by
    unfold toks
    split
    · split
      · have := toks_len b k (at_ + 1)
        simp only [List.length_cons]; omega
      · have := toks_len b k (at_ + (bestS b at_).1)
        simp only [List.length_cons]; omega
    · simp
theorem ta_loop {b : List Int} (hb : ∀ n ∈ b, 0 ≤ n ∧ n < 256) (hl : b.length ≤ 5000) : ∀ (n cur fuel : Nat) (x : T_match_index), Ixd b 0 cur x → cur + n ≤ b.length → n < fuel →
    ∃ y, Ixd b 0 (cur + n) y ∧ loopF taS fuel (x.b, x.last, x.back, x.from_, (cur : Int), (n : Int)) = some (.inl (y.b, y.last, y.back, y.from_, ((cur + n : Nat) : Int)))
  | 0, cur, fuel, x, h, hc, hf => by
    obtain ⟨fu, rfl⟩ : ∃ fu, fuel = fu + 1 := ⟨fuel - 1, by omega⟩
    exact ⟨x, h, loop_exit (show taS (x.b, x.last, x.back, x.from_, (cur : Int), ((0 : Nat) : Int)) = some (.inr (.inl (x.b, x.last, x.back, x.from_, (cur : Int)))) from rfl)⟩
  | n + 1, cur, fuel, x, h, hc, hf => by
    obtain ⟨fu, rfl⟩ : ∃ fu, fuel = fu + 1 := ⟨fuel - 1, by omega⟩
    obtain ⟨y, hy, hi⟩ := add_eq h hb hl (by omega) (Nat.zero_le _)
    obtain ⟨z, hz, hlp⟩ := ta_loop hb hl n (cur + 1) fu y hi (by omega) (by omega)
    refine ⟨z, by rw [show cur + (n + 1) = cur + 1 + n by omega]; exact hz, ?_⟩
    have hw : IntKind.i64.wrap (((n + 1 : Nat) : Int) - 1) = (n : Int) := by rw [wrap_i64 (by omega) (by omega)]; omega
    have hstep : taS (x.b, x.last, x.back, x.from_, (cur : Int), ((n + 1 : Nat) : Int)) = some (.inl (y.b, y.last, y.back, y.from_, ((cur + 1 : Nat) : Int), (n : Int))) :=
      cnd_t (decide_eq_true (by omega)) (bnd hy (bnd (congrArg some (wrap_succ (n := cur) (by omega))) (bnd (congrArg some hw) rfl)))
    rw [show ((cur + (n + 1) : Nat) : Int) = ((cur + 1 + n : Nat) : Int) by omega]
    exact (loop_next hstep).trans hlp
theorem tk_loop {b : List Int} (hb : ∀ n ∈ b, 0 ≤ n ∧ n < 256) (hl : b.length ≤ 5000) : ∀ (k at_ fuel : Nat) (l : List T_Tok) (x : T_match_index), Ixd b 0 at_ x → at_ ≤ b.length → b.length - at_ ≤ k → k < fuel → l.length ≤ at_ →
    loopF (tkS b) fuel (l, x.b, x.last, x.back, x.from_, (at_ : Int)) = some (.inl (l ++ toks b k at_))
  | 0, at_, fuel, l, x, h, ha, hk, hf, hll => by
    obtain ⟨fu, rfl⟩ : ∃ fu, fuel = fu + 1 := ⟨fuel - 1, by omega⟩
    rw [toks, List.append_nil]
    exact loop_exit (cnd_f (decide_eq_false (by omega)) rfl)
  | k + 1, at_, fuel, l, x, h, ha, hk, hf, hll => by
    obtain ⟨fu, rfl⟩ : ∃ fu, fuel = fu + 1 := ⟨fuel - 1, by omega⟩
    by_cases he : at_ < b.length
    case neg =>
      rw [toks_end (by omega), List.append_nil]
      exact loop_exit (cnd_f (decide_eq_false (by omega)) rfl)
    have hbe := best_eq h hb hl he (by omega)
    have hg : getO b at_ = some (b.getD at_ 0) := by
      rw [List.getD_eq_getElem?_getD, List.getElem?_eq_getElem he, Option.getD_some]; exact getO_of he
    unfold toks
    rw [if_pos he]
    have hap : ∀ t : T_Tok, appO 24 l [t] = some (l ++ [t]) := fun t => app_of (by simp only [List.length_cons, List.length_nil]; omega) (by simp only [List.length_cons, List.length_nil]; omega)
    rcases bestS_cases b at_ with h0 | ⟨c1, c2, c3, c4, c5, c6⟩
    · rw [h0] at hbe ⊢
      rw [if_pos rfl]
      obtain ⟨y, hy, hlp⟩ := ta_loop hb hl 1 at_ BIG x h (by omega) (by simp only [BIG]; omega)
      have hn := tk_loop hb hl k (at_ + 1) fu (l ++ [⟨b.getD at_ 0, 0, 0⟩]) y hy (by omega) (by omega) (by omega) (by simp; omega)
      rw [List.append_assoc] at hn
      exact (loop_next (cnd_t (decide_eq_true (by omega)) (bnd hbe (bndL (s := (b.getD at_ 0, 1)) (cnd_t rfl (bnd (ixO_of he) (bnd hg rfl))) (bnd (hap _) (bndL hlp rfl)))))).trans hn
    · rw [if_neg (by omega)]
      obtain ⟨y, hy, hlp⟩ := ta_loop hb hl (bestS b at_).1 at_ BIG x h (by omega) (by simp only [BIG]; omega)
      have hn := tk_loop hb hl k (at_ + (bestS b at_).1) fu (l ++ [⟨0, ((bestS b at_).1 : Int), ((bestS b at_).2 : Int)⟩]) y hy (by omega) (by omega) (by omega) (by simp; omega)
      rw [List.append_assoc] at hn
      exact (loop_next (cnd_t (decide_eq_true (by omega)) (bnd hbe (bndL (s := (0, ((bestS b at_).1 : Int))) (cnd_f (beq_eq_false_iff_ne.2 (by show (((bestS b at_).1 : Nat) : Int) ≠ 0; omega)) rfl) (bnd (hap _) (bndL hlp rfl)))))).trans hn
theorem tokens_eq {b : List Int} (hb : ∀ n ∈ b, 0 ≤ n ∧ n < 256) (hl : b.length ≤ 4096) : match_Tokens b = some (toksS b, 0) := by
  unfold match_Tokens
  have hlp := tk_loop hb (by omega) b.length 0 BIG [] (T_match_index.mk b [] [] 0) (ix_new b 0) (Nat.zero_le _) (by omega) (by simp only [BIG]; omega) (Nat.zero_le _)
  refine cnd_f (decide_eq_false (by omega)) (bnd (x := some (T_match_index.mk b [] [] 0)) rfl ?_)
  show bindS _ _ _ = _
  exact bndL hlp rfl
def BestI (b : List Int) (at_ : Int) : Int × Int := if at_ < 0 ∨ (b.length : Int) ≤ at_ ∨ 4096 < b.length then (0, 0) else (((bestS b at_.toNat).1 : Int), ((bestS b at_.toNat).2 : Int))
theorem ba_loop {b : List Int} (hb : ∀ n ∈ b, 0 ≤ n ∧ n < 256) (hl : b.length ≤ 5000) {f at_ : Nat} (ha : at_ ≤ b.length) : ∀ (k cur fuel : Nat) (x : T_match_index), Ixd b f cur x → f ≤ cur → cur + k = at_ → k < fuel →
    ∃ y, Ixd b f at_ y ∧ loopF (baS (at_ : Int)) fuel (x.b, x.last, x.back, x.from_, (cur : Int)) = some (.inl (y.b, y.last, y.back, y.from_))
  | 0, cur, fuel, x, h, hfc, hk, hf => by
    obtain ⟨fu, rfl⟩ : ∃ fu, fuel = fu + 1 := ⟨fuel - 1, by omega⟩
    obtain rfl : cur = at_ := by omega
    exact ⟨x, h, loop_exit (cnd_f (decide_eq_false (by omega)) rfl)⟩
  | k + 1, cur, fuel, x, h, hfc, hk, hf => by
    obtain ⟨fu, rfl⟩ : ∃ fu, fuel = fu + 1 := ⟨fuel - 1, by omega⟩
    obtain ⟨y, hy, hi⟩ := add_eq h hb hl (by omega) hfc
    obtain ⟨z, hz, hlp⟩ := ba_loop hb hl ha k (cur + 1) fu y hi (by omega) (by omega) (by omega)
    have hstep : baS (at_ : Int) (x.b, x.last, x.back, x.from_, (cur : Int)) = some (.inl (y.b, y.last, y.back, y.from_, ((cur + 1 : Nat) : Int))) :=
      cnd_t (decide_eq_true (by omega)) (bnd hy (bnd (congrArg some (wrap_succ (n := cur) (by omega))) rfl))
    exact ⟨z, hz, (loop_next hstep).trans hlp⟩
theorem best_top {b : List Int} (hb : ∀ n ∈ b, 0 ≤ n ∧ n < 256) (hl : b.length < 4294967296) (at_ : Int) : match_Best b at_ = some (BestI b at_) := by
  unfold match_Best BestI
  by_cases h1 : at_ < 0
  · rw [if_pos (.inl h1)]
    exact bndL (s := true) (cnd_t (decide_eq_true h1) rfl) (cnd_t rfl rfl)
  by_cases h2 : (b.length : Int) ≤ at_
  · rw [if_pos (.inr (.inl h2))]
    exact bndL (s := true) (cnd_f (decide_eq_false h1) (cnd_t (decide_eq_true h2) rfl)) (cnd_t rfl rfl)
  by_cases h3 : 4096 < b.length
  · rw [if_pos (.inr (.inr h3))]
    exact bndL (s := true) (cnd_f (decide_eq_false h1) (cnd_f (decide_eq_false h2) (by rw [decide_eq_true (by omega)]))) (cnd_t rfl rfl)
  rw [if_neg (by omega)]
  obtain ⟨n, rfl⟩ : ∃ n : Nat, at_ = (n : Int) := ⟨at_.toNat, by omega⟩
  rw [Int.toNat_natCast]
  have hw : IntKind.i64.wrap ((n : Int) - 2048) = (n : Int) - 2048 := wrap_i64 (by omega) (by omega)
  have hm : (if (n : Int) - 2048 > 0 then (n : Int) - 2048 else 0) = ((n - 2048 : Nat) : Int) := by
    by_cases h : (n : Int) - 2048 > 0
    · rw [if_pos h]; omega
    · rw [if_neg h]; omega
  obtain ⟨y, hy, hlp⟩ := ba_loop hb (by omega) (f := n - 2048) (at_ := n) (by omega) (n - (n - 2048)) (n - 2048) BIG (T_match_index.mk b [] [] ((n - 2048 : Nat) : Int)) (ix_new b _) (Nat.le_refl _) (by omega) (by simp only [BIG]; omega)
  have hbe := best_eq hy hb (by omega) (by omega) (by omega)
  refine bndL (s := false) (cnd_f (decide_eq_false h1) (cnd_f (decide_eq_false h2) (by rw [decide_eq_false (by omega)]))) (cnd_f rfl (bnd (congrArg some hw) (bnd (congrArg some hm) (bnd (x := some (T_match_index.mk b [] [] ((n - 2048 : Nat) : Int))) rfl ?_))))
  show bindS _ _ _ = _
  exact bndL hlp (bnd hbe rfl)
end Go.Abs.Sh
