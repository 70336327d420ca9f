import Derived.Test.YtenfngliiibiiaaSpoilM
namespace Go.Abs.Sh
set_option linter.unusedVariables false
set_option linter.unusedSimpArgs false

theorem wrap_u64n {n : Int} (h0 : 0 ≤ n) (h1 : n < 18446744073709551616) : IntKind.u64.wrap n = n := by
  simp only [IntKind.wrap, IntKind.bits, IntKind.signed]
  have e : (2 : Int) ^ 64 = 18446744073709551616 := by decide
  simp only [e, Bool.false_and, Bool.false_eq_true, if_false]
  omega
theorem spoil_nil (at_ p : Int) : frame_Spoil [] at_ p = some [] := by
  unfold frame_Spoil
  exact bnd (x := []) rfl rfl

theorem frameSpoils_true (b : List Int) (at_ p : Int) (hb : isBytes b) : wherrylaw20_FrameSpoils b at_ p = some true := by
  unfold wherrylaw20_FrameSpoils
  by_cases l1 : 300 < b.length
  · exact cnd_t (by simp; omega) rfl
  refine cnd_f (by simp; omega) ?_
  by_cases hne : b = []
  · subst hne
    refine bnd (spoil_nil at_ p) (cnd_f rfl (cnd_t rfl (bnd wakes20 rfl)))
  obtain ⟨s, hs, hsl, hsb, hbits⟩ := spoil_eq b at_ p hb (by omega) hne
  have hpos : 0 < b.length := List.length_pos_iff.2 hne
  have hF : spF b at_ < 8 * b.length := by
    have h1 := Int.emod_nonneg at_ (show ((8 * b.length : Nat) : Int) ≠ 0 by omega)
    have h2 := Int.emod_lt_of_pos at_ (show 0 < ((8 * b.length : Nat) : Int) by omega)
    unfold spF; omega
  have hFe : ((spF b at_ : Nat) : Int) = at_ % ((8 * b.length : Nat) : Int) := by
    have h1 := Int.emod_nonneg at_ (show ((8 * b.length : Nat) : Int) ≠ 0 by omega)
    unfold spF; omega
  have hM0 := spM_0 p
  have hMk := fun k hk => spM_k p k hk
  generalize spM p = M at *
  generalize spF b at_ = F at *
  have w1 : IntKind.i64.wrap (8 * (b.length : Int)) = ((8 * b.length : Nat) : Int) := by rw [wrap_i64 (by omega) (by omega)]; simp
  have htm := tmod_gt at_ (8 * b.length) (by omega)
  have hup := tmod_up at_ (8 * b.length) (by omega)
  have hrem : remO at_ ((8 * b.length : Nat) : Int) = some (at_.tmod ((8 * b.length : Nat) : Int)) := by
    simp only [remO]; rw [if_neg (by omega)]
  have p1 := tmod_gt p 65536 (by omega)
  have p2 := tmod_up p 65536 (by omega)
  rw [show ((65536 : Nat) : Int) = 65536 from rfl] at p1 p2
  have hp : ∃ P : Nat, p % 65536 = (P : Int) ∧ P < 65536 := ⟨(p % 65536).toNat, by omega, by omega⟩
  obtain ⟨P, hP, hP1⟩ := hp
  have hpr : (p.tmod 65536 + 65536).tmod 65536 = (P : Int) := by
    rw [← hP, Int.tmod_eq_emod_of_nonneg (by omega)]
    split at p2 <;> omega
  rw [hP, Int.toNat_natCast] at hMk
  have key : ∀ (k fuel i : Nat), 8 * b.length - i = k → i ≤ 8 * b.length → k < fuel →
      loopF (S := (Int)) (O := (Unit) ⊕ Bool) (fun (s60 : Int) =>
                cond ((decide (s60 < ((8 * b.length : Nat) : Int))))
                  ((quoO .i64 s60 8).bind fun v16 =>
                  (ixO v16 b.length).bind fun v17 =>
                  (getO b v17).bind fun v18 =>
                  (quoO .i64 s60 8).bind fun v19 =>
                  (ixO v19 s.length).bind fun v20 =>
                  (getO s v20).bind fun v21 =>
                  (some (bits .xor .u8 v18 v21)).bind fun v22 =>
                  (remO s60 8).bind fun v23 =>
                  (some (IntKind.u64.wrap v23)).bind fun v24 =>
                  (shrO .u8 v22 v24).bind fun v25 =>
                  (some (bits .and .u8 v25 1)).bind fun v26 =>
                  bindS (S := Bool) (A := ((Int) ⊕ ((Unit) ⊕ Bool)))
                    (cond ((v26 == 1))
                      (cond ((decide (s60 < (F : Int))))
                        (some (.inl true))
                        ((some (IntKind.i64.wrap ((F : Int) + 16))).bind fun v27 =>
                        cond ((decide (v27 ≤ s60)))
                          (some (.inl true))
                          (cond ((s60 == (F : Int)))
                            (some (.inl ((!(v26 == 1)))))
                            (some (.inl false)))))
                      (cond ((s60 == (F : Int)))
                        (some (.inl ((!(v26 == 1)))))
                        (some (.inl false))))
                    (fun (s79 : Bool) =>
                      cond (s79)
                        (some (.inr (.inr (false))))
                        (bindS (S := Bool) (A := ((Int) ⊕ ((Unit) ⊕ Bool)))
                          (cond ((decide ((F : Int) < s60)))
                            ((some (IntKind.i64.wrap ((F : Int) + 16))).bind fun v33 =>
                            cond ((decide (s60 < v33)))
                              ((remO p 65536).bind fun v34 =>
                              (some (IntKind.i64.wrap (v34 + 65536))).bind fun v35 =>
                              (remO v35 65536).bind fun v36 =>
                              (some (IntKind.i64.wrap (s60 - (F : Int)))).bind fun v37 =>
                              (some (IntKind.u64.wrap v37)).bind fun v38 =>
                              (shrO .i64 v36 v38).bind fun v39 =>
                              (some (bits .and .i64 v39 1)).bind fun v40 =>
                              (some (!((v26 == 1) == (v40 == 1)))).bind fun v41 =>
                              some (.inl ((!((v26 == 1) == (v40 == 1))))))
                              (some (.inl false)))
                            (some (.inl false)))
                          (fun (s84 : Bool) =>
                            cond (s84)
                              (some (.inr (.inr (false))))
                              ((some (IntKind.i64.wrap (s60 + 1))).bind fun v47 =>
                              some (.inl v47))) some)) some)
                  (some (.inr (.inl ())))) fuel (i : Int) = some (.inl ()) := by
    intro k
    induction k with
    | zero =>
      intro fuel i hk hi hf
      obtain ⟨f, rfl⟩ : ∃ f, fuel = f + 1 := ⟨fuel - 1, by omega⟩
      refine loop_exit (cnd_f ?_ rfl)
      simp; omega
    | succ k ih =>
      intro fuel i hk hi hf
      obtain ⟨f, rfl⟩ : ∃ f, fuel = f + 1 := ⟨fuel - 1, by omega⟩
      have hlt : i < 8 * b.length := by omega
      have hd : decide ((i : Int) < ((8 * b.length : Nat) : Int)) = true := by simp; omega
      refine (loop_next ?_).trans (ih f (i + 1) (by omega) (by omega) (by omega))
      have q8 := quo_nat i 8 (by omega) (by omega)
      have r8 := rem_nat i 8 (by omega)
      rw [show ((8 : Nat) : Int) = 8 from rfl] at q8 r8
      have hjb : i / 8 < b.length := by omega
      have hjs : i / 8 < s.length := by omega
      have kx := hb b[i / 8] (List.getElem_mem hjb)
      have ky := hsb s[i / 8] (List.getElem_mem hjs)
      obtain ⟨x, hx⟩ : ∃ x : Nat, b[i / 8] = (x : Int) := ⟨b[i / 8].toNat, by omega⟩
      obtain ⟨y, hy⟩ : ∃ y : Nat, s[i / 8] = (y : Int) := ⟨s[i / 8].toNat, by omega⟩
      have hT := hbits i hlt
      have hbx : bitAt b i = x.testBit (i % 8) := by simp [bitAt, List.getD_eq_getElem?_getD, hjb, hx]
      have hby : bitAt s i = y.testBit (i % 8) := by simp [bitAt, List.getD_eq_getElem?_getD, hjs, hy]
      have hxy : x ^^^ y < 256 := Nat.xor_lt_two_pow (n := 8) (by omega) (by omega)
      have hr : i % 8 < 8 := Nat.mod_lt _ (by omega)
      have hsh := shr_nat .u8 (x ^^^ y) (i % 8) (by simp only [IntKind.bits]; omega)
      have hdv : (x ^^^ y) / 2 ^ (i % 8) < 256 := Nat.lt_of_le_of_lt (Nat.div_le_self _ _) hxy
      have w16 : IntKind.i64.wrap ((F : Int) + 16) = ((F + 16 : Nat) : Int) := by rw [wrap_i64 (by omega) (by omega)]; simp
      have w3 : IntKind.i64.wrap ((i : Int) + 1) = ((i + 1 : Nat) : Int) := by rw [wrap_i64 (by omega) (by omega)]; simp
      have wu : IntKind.u64.wrap ((i % 8 : Nat) : Int) = ((i % 8 : Nat) : Int) := wrap_u64n (by omega) (by omega)
      have hbit : (x ^^^ y).testBit (i % 8) = (decide (F ≤ i) && decide (i < F + 16) && M.testBit (i - F)) := by
        rw [Nat.testBit_xor, ← hbx, ← hby, hT]
        cases bitAt b i <;> simp
      have e16 : decide (((F + 16 : Nat) : Int) ≤ (i : Int)) = decide (F + 16 ≤ i) := by by_cases h : F + 16 ≤ i <;> simp [h] <;> omega
      have e17 : decide ((i : Int) < ((F + 16 : Nat) : Int)) = decide (i < F + 16) := by by_cases h : i < F + 16 <;> simp [h] <;> omega
      have e0 : decide ((i : Int) < (F : Int)) = decide (i < F) := by by_cases h : i < F <;> simp [h]
      have e1 : decide ((F : Int) < (i : Int)) = decide (F < i) := by by_cases h : F < i <;> simp [h]
      have e2 : ((i : Int) == (F : Int)) = decide (i = F) := by
        by_cases h : i = F
        · simp [h]
        · simp only [h, decide_false]; rw [beq_eq_false_iff_ne]; omega
      refine cnd_t hd (bnd q8 (bnd (ixO_of hjb) (bnd (x := (x : Int)) (by rw [getO_of hjb, hx]) (bnd q8 (bnd (ixO_of hjs) (bnd (x := (y : Int)) (by rw [getO_of hjs, hy]) (bnd (x := ((x ^^^ y : Nat) : Int)) (by rw [xor_u8 x y (by omega) (by omega)]) (bnd r8 (bnd (x := ((i % 8 : Nat) : Int)) (by rw [wu]) (bnd hsh (bnd (x := (((x ^^^ y) / 2 ^ (i % 8) % 2 : Nat) : Int)) (by rw [and1_u8 _ hdv]) ?_)))))))))))
      rw [bit_eq, hbit]
      refine bndL (s := false) ?_ (cnd_f rfl (bndL (s := false) ?_ (cnd_f rfl (bnd (x := ((i + 1 : Nat) : Int)) (by rw [w3]) rfl))))
      · by_cases c1 : F ≤ i ∧ i < F + 16 ∧ M.testBit (i - F) = true
        · obtain ⟨n1, n2, n3⟩ := c1
          refine cnd_t (by simp [n1, n2, n3]) (cnd_f (by rw [e0]; simp; omega) (bnd (x := ((F + 16 : Nat) : Int)) (by rw [w16]) (cnd_f (by rw [e16]; simp; omega) ?_)))
          rw [e2]
          by_cases c3 : i = F
          · exact cnd_t (by simp [c3]) (by simp [n1, n2, n3])
          · exact cnd_f (by simp [c3]) rfl
        · refine cnd_f ?_ ?_
          · cases h : (decide (F ≤ i) && decide (i < F + 16) && M.testBit (i - F))
            · rfl
            · simp only [Bool.and_eq_true, decide_eq_true_eq] at h
              exact absurd ⟨h.1.1, h.1.2, h.2⟩ c1
          · rw [e2]
            refine cnd_f ?_ rfl
            by_cases c3 : i = F
            · subst c3
              exact absurd ⟨Nat.le_refl _, by omega, by rw [Nat.sub_self]; exact hM0⟩ c1
            · simp [c3]
      · by_cases c1 : F < i
        case neg => exact cnd_f (by rw [e1]; simp; omega) rfl
        refine cnd_t (by rw [e1]; simp [c1]) (bnd (x := ((F + 16 : Nat) : Int)) (by rw [w16]) ?_)
        by_cases c2 : i < F + 16
        case neg => exact cnd_f (by rw [e17]; simp; omega) rfl
        have rp : remO p 65536 = some (p.tmod 65536) := by simp [remO]
        have w5 : IntKind.i64.wrap (p.tmod 65536 + 65536) = p.tmod 65536 + 65536 := wrap_i64 (by omega) (by omega)
        have rp2 : remO (p.tmod 65536 + 65536) 65536 = some (P : Int) := by simp only [remO]; rw [if_neg (by omega), hpr]
        have w6 : IntKind.i64.wrap ((i : Int) - (F : Int)) = ((i - F : Nat) : Int) := by rw [wrap_i64 (by omega) (by omega)]; omega
        have w7 : IntKind.u64.wrap ((i - F : Nat) : Int) = ((i - F : Nat) : Int) := wrap_u64n (by omega) (by omega)
        have hsp := shr_nat .i64 P (i - F) (by simp only [IntKind.bits]; omega)
        have hPd : P / 2 ^ (i - F) < 9223372036854775808 := Nat.lt_of_le_of_lt (Nat.div_le_self _ _) (by omega)
        have hMi := hMk (i - F) (by omega)
        have n1 : F ≤ i := by omega
        refine cnd_t (by rw [e17]; simp [c2]) (bnd rp (bnd (x := p.tmod 65536 + 65536) (by rw [w5]) (bnd rp2 (bnd (x := ((i - F : Nat) : Int)) (by rw [w6]) (bnd (x := ((i - F : Nat) : Int)) (by rw [w7]) (bnd hsp (bnd (x := ((P / 2 ^ (i - F) % 2 : Nat) : Int)) (by rw [and1_i64 _ hPd]) ?_)))))))
        rw [bit_eq, ← hMi]
        refine bnd rfl ?_
        simp [n1, c2]
  have hl0 : ((b.length : Int) == 0) = false := by rw [beq_eq_false_iff_ne]; omega
  refine bnd hs (cnd_f ?_ (cnd_f hl0 (bnd (x := ((8 * b.length : Nat) : Int)) (by rw [w1]) (bnd hrem ?_))))
  · rw [hsl]; simp
  refine bndL (s := (F : Int)) ?_ ?_
  · generalize at_.tmod ((8 * b.length : Nat) : Int) = t at *
    rw [← hFe] at hup
    by_cases ht : t < 0
    · rw [if_pos ht] at hup
      refine cnd_t (by simp [ht]) ?_
      rw [hup, wrap_i64 (by omega) (by omega)]; rfl
    · rw [if_neg ht] at hup
      refine cnd_f (by simp; omega) ?_
      rw [← hup]
  refine bndL (s := ()) ?_ (bnd wakes20 rfl)
  exact key (8 * b.length) BIG 0 rfl (by omega) (by unfold BIG; omega)
end Go.Abs.Sh
