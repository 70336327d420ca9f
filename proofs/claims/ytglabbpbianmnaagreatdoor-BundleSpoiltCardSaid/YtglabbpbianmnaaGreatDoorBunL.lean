import Derived.Test.YtglabbpbianmnaaGreatDoorBunH
namespace Go.Abs.Sh
set_option linter.unusedVariables false
set_option linter.unusedSimpArgs false
set_option maxRecDepth 100000
def fpS (v42 v45 v49 v51 : Int) : (((List Int) × Int)) → Option (((List Int) × Int) ⊕ (((List Int)) ⊕ Bool)) := (fun ((s97, s98) : (List Int) × Int) =>
            bindS (S := Bool) (A := (((List Int) × Int) ⊕ (((List Int)) ⊕ Bool)))
              (cond ((decide (s98 < 32)))
                ((some (IntKind.i64.wrap (v49 + s98))).bind fun v53 =>
                some (.inl ((decide (v53 < v45)))))
                (some (.inl false)))
              (fun (s117 : Bool) =>
                cond (s117)
                  (bindS (S := (List Int)) (A := (((List Int) × Int) ⊕ (((List Int)) ⊕ Bool)))
                    ((some (IntKind.u64.wrap s98)).bind fun v59 =>
                    (shrO .i64 v51 v59).bind fun v60 =>
                    (some (bits .and .i64 v60 1)).bind fun v61 =>
                    cond ((v61 == 1))
                      ((some (IntKind.i64.wrap (v49 + s98))).bind fun v63 =>
                      (quoO .i64 v63 8).bind fun v64 =>
                      (some (IntKind.i64.wrap (v42 + v64))).bind fun v65 =>
                      (some (IntKind.i64.wrap (v49 + s98))).bind fun v66 =>
                      (quoO .i64 v66 8).bind fun v67 =>
                      (some (IntKind.i64.wrap (v42 + v67))).bind fun v68 =>
                      (ixO v68 s97.length).bind fun v69 =>
                      (getO s97 v69).bind fun v70 =>
                      (some (IntKind.i64.wrap (v49 + s98))).bind fun v71 =>
                      (remO v71 8).bind fun v72 =>
                      (some (IntKind.u64.wrap v72)).bind fun v73 =>
                      (shlO .u8 1 v73).bind fun v74 =>
                      (some (bits .xor .u8 v70 v74)).bind fun v75 =>
                      (ixO v65 s97.length).bind fun v76 =>
                      (some (s97.set v76 v75)).bind fun v77 =>
                      some (.inl v77))
                      (some (.inl s97)))
                    (fun (s123 : (List Int)) =>
                      (some (IntKind.i64.wrap (s98 + 1))).bind fun v83 =>
                      some (.inl (s123, v83))) some)
                  (some (.inr (.inl s97)))) some)
def hdS (x : List Int) : ((Int)) → Option ((Int) ⊕ ((Int) ⊕ Bool)) := (fun (s24 : Int) =>
      bindS (S := Bool) (A := ((Int) ⊕ ((Int) ⊕ Bool)))
        ((some (IntKind.i64.wrap (s24 + 1))).bind fun v6 =>
        cond ((decide (v6 < (x.length : Int))))
          ((ixO s24 x.length).bind fun v7 =>
          (getO x v7).bind fun v8 =>
          cond ((v8 != 13))
            (some (.inl true))
            ((some (IntKind.i64.wrap (s24 + 1))).bind fun v9 =>
            (ixO v9 x.length).bind fun v10 =>
            (getO x v10).bind fun v11 =>
            some (.inl (v11 != 10))))
          (some (.inl false)))
        (fun (s37 : Bool) =>
          cond (s37)
            ((some (IntKind.i64.wrap (s24 + 1))).bind fun v17 =>
            some (.inl v17))
            (some (.inr (.inl s24)))) some)
theorem app_get (p s : List Int) (j : Nat) (hj : j < s.length) : getO (p ++ s) (p.length + j) = some s[j] := by
  unfold getO
  rw [List.getElem?_append_right (by omega), Nat.add_sub_cancel_left, List.getElem?_eq_getElem hj]
theorem app_set (p s : List Int) (j : Nat) (x : Int) : (p ++ s).set (p.length + j) x = p ++ s.set j x := by
  rw [List.set_append_right _ _ (by omega), Nat.add_sub_cancel_left]
theorem twist17 (pre : List Int) (n F M : Nat) (hp : pre.length ≤ 5000) (hn : n ≤ 5000) (hF : F < 8 * n) (hM : M < 4294967296) :
    ∀ (k fuel i : Nat) (s : List Int), 32 - i = k → i ≤ 32 → k < fuel → s.length = n → (∀ x ∈ s, 0 ≤ x ∧ x < 256) →
      ∃ s', loopF (fpS (pre.length : Int) ((8 * n : Nat) : Int) (F : Int) (M : Int)) fuel (pre ++ s, (i : Int)) = some (.inl (pre ++ s')) ∧ s'.length = n ∧ (∀ x ∈ s', 0 ≤ x ∧ x < 256) ∧
        ∀ q, q < 8 * n → bitS s' q = (bitS s q ^^ (decide (F + i ≤ q) && decide (q < F + 32) && M.testBit (q - F))) := by
  intro k
  induction k with
  | zero =>
    intro fuel i s hk hi hf hs hsb
    obtain ⟨f, rfl⟩ : ∃ f, fuel = f + 1 := ⟨fuel - 1, by omega⟩
    have hiK : i = 32 := by omega
    refine ⟨s, loop_exit (bndL (s := false) (cnd_f (decide_eq_false (by omega)) rfl) (cnd_f rfl rfl)), hs, hsb, fun q hq => ?_⟩
    by_cases h : F + i ≤ q
    · have : ¬ q < F + 32 := by omega
      simp [this]
    · simp [h]
  | succ k ih =>
    intro fuel i s hk hi hf hs hsb
    obtain ⟨f, rfl⟩ : ∃ f, fuel = f + 1 := ⟨fuel - 1, by omega⟩
    have hiK : i < 32 := by omega
    have w1 : IntKind.i64.wrap ((F : Int) + (i : Int)) = ((F + i : Nat) : Int) := by rw [wrap_i64 (by omega) (by omega)]; simp
    have w3 : IntKind.i64.wrap ((i : Int) + 1) = ((i + 1 : Nat) : Int) := by rw [wrap_i64 (by omega) (by omega)]; simp
    have wu : IntKind.u64.wrap (i : Int) = (i : Int) := wrap_u64s (by omega) (by omega)
    have hd1 : decide ((i : Int) < 32) = true := decide_eq_true (by omega)
    by_cases hp : F + i < 8 * n
    case neg =>
      refine ⟨s, loop_exit (bndL (s := false) (cnd_t hd1 (bnd (x := ((F + i : Nat) : Int)) (by rw [w1]) ?_)) (cnd_f rfl rfl)), hs, hsb, fun q hq => ?_⟩
      · have : decide ((((F + i : Nat) : Int)) < ((8 * n : Nat) : Int)) = false := decide_eq_false (by omega)
        rw [this]
      · have : ¬ F + i ≤ q := by omega
        simp [this]
    have hsh : shrO .i64 (M : Int) (i : Int) = some ((M / 2 ^ i : Nat) : Int) := shr_nat .i64 M i (by simp only [IntKind.bits]; omega)
    have hMi : M / 2 ^ i < 9223372036854775808 := Nat.lt_of_le_of_lt (Nat.div_le_self _ _) (by omega)
    have hhead : ∀ {X : Bool → Option (((List Int) × Int) ⊕ (((List Int)) ⊕ Bool))} {r}, X true = r → bindS (S := Bool) (A := (((List Int) × Int) ⊕ (((List Int)) ⊕ Bool)))
              (cond ((decide ((i : Int) < 32)))
                ((some (IntKind.i64.wrap ((F : Int) + (i : Int)))).bind fun v53 =>
                some (.inl ((decide (v53 < ((8 * n : Nat) : Int))))))
                (some (.inl false))) X some = r := by
      intro X r h
      refine bndL (s := true) (cnd_t hd1 (bnd (x := ((F + i : Nat) : Int)) (by rw [w1]) ?_)) h
      have : decide ((((F + i : Nat) : Int)) < ((8 * n : Nat) : Int)) = true := decide_eq_true (by omega)
      rw [this]
    cases hb2 : M.testBit i with
    | true =>
      have hj : (F + i) / 8 < s.length := by omega
      have hx := hsb s[(F + i) / 8] (List.getElem_mem hj)
      obtain ⟨x, hxe⟩ : ∃ x : Nat, s[(F + i) / 8] = (x : Int) := ⟨s[(F + i) / 8].toNat, by omega⟩
      have hx256 : x < 256 := by omega
      have hr : (F + i) % 8 < 8 := Nat.mod_lt _ (by omega)
      have hpw := shl1_u8s ((F + i) % 8) hr
      have hp256 : 2 ^ ((F + i) % 8) < 256 := (Nat.pow_lt_pow_right (by omega) hr : 2 ^ ((F + i) % 8) < 2 ^ 8)
      have hxr : x ^^^ 2 ^ ((F + i) % 8) < 2 ^ 8 := Nat.xor_lt_two_pow (n := 8) hx256 hp256
      have q8 := quo_nat (F + i) 8 (by omega) (by omega)
      have r8 := rem_nat (F + i) 8 (by omega)
      rw [show ((8 : Nat) : Int) = 8 from rfl] at q8 r8
      have wr : IntKind.u64.wrap (((F + i) % 8 : Nat) : Int) = (((F + i) % 8 : Nat) : Int) := wrap_u64s (by omega) (by omega)
      have wh : IntKind.i64.wrap ((pre.length : Int) + (((F + i) / 8 : Nat) : Int)) = ((pre.length + (F + i) / 8 : Nat) : Int) := by rw [wrap_i64 (by omega) (by omega)]; simp
      have hxl : pre.length + (F + i) / 8 < (pre ++ s).length := by rw [List.length_append]; omega
      obtain ⟨s', h1, h2, h3, h4⟩ := ih f (i + 1) (s.set ((F + i) / 8) ((x ^^^ 2 ^ ((F + i) % 8) : Nat) : Int)) (by omega) (by omega) (by omega) (by simp [hs]) (bytesS_set hsb _ _ (by omega))
      refine ⟨s', (loop_next ?_).trans h1, h2, h3, fun q hq => ?_⟩
      · refine hhead (cnd_t rfl (bndL (s := pre ++ s.set ((F + i) / 8) ((x ^^^ 2 ^ ((F + i) % 8) : Nat) : Int)) (bnd (x := (i : Int)) (by rw [wu]) (bnd hsh (bnd (x := ((M / 2 ^ i % 2 : Nat) : Int)) (by rw [and1_i64 _ hMi]) ?_))) (bnd (x := ((i + 1 : Nat) : Int)) (by rw [w3]) rfl)))
        rw [bit_eq, hb2]
        exact cnd_t rfl (bnd (x := ((F + i : Nat) : Int)) (by rw [w1]) (bnd q8 (bnd (x := ((pre.length + (F + i) / 8 : Nat) : Int)) (by rw [wh]) (bnd (x := ((F + i : Nat) : Int)) (by rw [w1]) (bnd q8 (bnd (x := ((pre.length + (F + i) / 8 : Nat) : Int)) (by rw [wh]) (bnd (ixO_of hxl) (bnd (x := (x : Int)) (by rw [app_get _ _ _ hj, hxe]) (bnd (x := ((F + i : Nat) : Int)) (by rw [w1]) (bnd r8
          (bnd (x := (((F + i) % 8 : Nat) : Int)) (by rw [wr]) (bnd hpw (bnd (x := ((x ^^^ 2 ^ ((F + i) % 8) : Nat) : Int)) (by rw [xor_u8 x _ hx256 hp256]) (bnd (ixO_of hxl) (bnd (congrArg some (app_set _ _ _ _)) rfl)))))))))))))))
      · rw [h4 q hq, bitS_set s _ q _ hj]
        by_cases he : q = F + i
        · subst he
          have hb1 : bitS s (F + i) = x.testBit ((F + i) % 8) := by
            simp [bitS, List.getD_eq_getElem?_getD, hj, hxe]
          have hq16 : F + i < F + 32 := by omega
          have hsub : F + i - F = i := by omega
          have hni : ¬ i + 1 ≤ i := by omega
          rw [if_pos rfl, Int.toNat_natCast, Nat.testBit_xor, Nat.testBit_two_pow, hb1, hsub, hb2]
          simp [hiK, hni]
        · have e1 : decide (F + (i + 1) ≤ q) = decide (F + i ≤ q) := by by_cases h : F + i ≤ q <;> simp [h] <;> omega
          rw [e1]
          by_cases h8 : q / 8 = (F + i) / 8
          · have hb1 : bitS s q = x.testBit (q % 8) := by
              simp [bitS, List.getD_eq_getElem?_getD, h8, hj, hxe]
            have hm : ¬ (F + i) % 8 = q % 8 := by omega
            rw [if_pos h8, Int.toNat_natCast, Nat.testBit_xor, Nat.testBit_two_pow, hb1]
            simp [hm]
          · rw [if_neg h8]
    | false =>
      obtain ⟨s', h1, h2, h3, h4⟩ := ih f (i + 1) s (by omega) (by omega) (by omega) hs hsb
      refine ⟨s', (loop_next ?_).trans h1, h2, h3, fun q hq => ?_⟩
      · refine hhead (cnd_t rfl (bndL (s := pre ++ s) (bnd (x := (i : Int)) (by rw [wu]) (bnd hsh (bnd (x := ((M / 2 ^ i % 2 : Nat) : Int)) (by rw [and1_i64 _ hMi]) ?_))) (bnd (x := ((i + 1 : Nat) : Int)) (by rw [w3]) rfl)))
        rw [bit_eq, hb2]
        exact cnd_f rfl rfl
      · rw [h4 q hq]
        by_cases he : q = F + i
        · subst he
          have hq16 : F + i < F + 32 := by omega
          have hsub : F + i - F = i := by omega
          rw [hsub, hb2]
          simp
        · have e1 : decide (F + (i + 1) ≤ q) = decide (F + i ≤ q) := by by_cases h : F + i ≤ q <;> simp [h] <;> omega
          rw [e1]
theorem hd_loop {p r : List Int} (hp : ∀ x ∈ p, x ≠ 13) (hl : p.length ≤ 5000) : loopF (hdS (p ++ 13 :: 10 :: r)) BIG 0 = some (.inl (p.length : Int)) := by
  have hlen : (p ++ 13 :: 10 :: r).length = p.length + (r.length + 2) := by simp
  refine loop_from (fun i => ((i : Nat) : Int)) p.length BIG rfl (by simp only [BIG]; omega) (fun i hi => ?_) ?_
  · have hg : getO (p ++ 13 :: 10 :: r) i = some p[i] := by
      unfold getO
      rw [List.getElem?_append_left hi, List.getElem?_eq_getElem hi]
    refine bndL (s := true) (bnd (congrArg some (wrap_succ (n := i) (by omega))) (cnd_t (decide_eq_true (by rw [hlen]; omega)) (bnd (ixO_of (by omega)) (bnd hg (cnd_t (bne_iff_ne.2 (hp _ (List.getElem_mem hi))) rfl))))) (cnd_t rfl (bnd (congrArg some (wrap_succ (n := i) (by omega))) rfl))
  · have hg : getO (p ++ 13 :: 10 :: r) p.length = some 13 := by
      unfold getO
      rw [List.getElem?_append_right (Nat.le_refl _)]; simp
    have hg2 : getO (p ++ 13 :: 10 :: r) (p.length + 1) = some 10 := by
      unfold getO
      rw [List.getElem?_append_right (by omega)]; simp
    have hw : IntKind.i64.wrap ((p.length : Int) + 1) = ((p.length + 1 : Nat) : Int) := wrap_succ (by omega)
    exact bndL (s := false) (bnd (congrArg some hw) (cnd_t (decide_eq_true (by rw [hlen]; omega)) (bnd (ixO_of (by omega)) (bnd hg (cnd_f rfl (bnd (congrArg some hw) (bnd (ixO_of (by omega)) (bnd hg2 rfl)))))))) (cnd_f rfl rfl)
end Go.Abs.Sh
