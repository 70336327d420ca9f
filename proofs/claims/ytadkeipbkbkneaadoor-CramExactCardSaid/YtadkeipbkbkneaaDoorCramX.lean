import Derived.Test.YtadkeipbkbkneaaDoorCramJ
namespace Go.Abs.Sh
set_option linter.unusedVariables false
set_option linter.unusedSimpArgs false
set_option maxRecDepth 100000

theorem cramExact_true (b : List Int) (s user secret challenge line : ByteArray) (hb : wzL 1 (wfI .u8) b) (h2 : wzS user) (h3 : wzS secret) (h4 : wzS challenge) (h5 : wzS line) : wherrylaw10_CramExact b s user secret challenge line = some true := by
  unfold wherrylaw10_CramExact
  have z1 : user.size ≤ 1000000000000000000 := by simp only [wzS, reachBytes] at h2; omega
  have z2 : secret.size ≤ 1000000000000000000 := by simp only [wzS, reachBytes] at h3; omega
  have z3 : challenge.size ≤ 1000000000000000000 := by simp only [wzS, reachBytes] at h4; omega
  have z4 : line.size ≤ 1000000000000000000 := by simp only [wzS, reachBytes] at h5; omega
  by_cases c1 : 300 < b.length
  · exact bndL (s := true) (cnd_t (decide_eq_true (by omega)) rfl) rfl
  by_cases c2 : 400 < s.size
  · exact bndL (s := true) (cnd_f (decide_eq_false (by omega)) (cnd_t (decide_eq_true (by omega)) rfl)) rfl
  have hsum : ∀ r : Bool, decide ((800 : Int) < (user.size : Int) + (secret.size : Int) + (challenge.size : Int) + (line.size : Int)) = r →
      (cond ((decide (300 < (b.length : Int))))
      (some (.inl true))
      (cond ((decide (400 < (s.size : Int))))
        (some (.inl true))
        ((some (IntKind.i64.wrap ((user.size : Int) + (secret.size : Int)))).bind fun v1 =>
        (some (IntKind.i64.wrap (v1 + (challenge.size : Int)))).bind fun v2 =>
        (some (IntKind.i64.wrap (v2 + (line.size : Int)))).bind fun v3 =>
        some (.inl ((decide (800 < v3)))))) : Option (Bool ⊕ Bool)) = some (.inl r) := fun r hr => by
    refine cnd_f (decide_eq_false (by omega)) (cnd_f (decide_eq_false (by omega)) (bnd (some_wrap (by omega) (by omega)) (bnd (some_wrap (by omega) (by omega)) (bnd (some_wrap (by omega) (by omega)) ?_))))
    rw [hr]
  by_cases c3 : 800 < user.size + secret.size + challenge.size + line.size
  · exact bndL (s := true) (hsum true (decide_eq_true (by omega))) rfl
  refine bndL (s := false) (hsum false (decide_eq_false (by omega))) (cnd_f rfl ?_)
  have hbb : byt b := byt_of_wf ⟨by have := hb.1; simp only [reachBytes, maxLen] at *; omega, hb.2⟩
  obtain ⟨B, rfl, hB⟩ := byt_nat hbb
  obtain ⟨C, rfl, hC, hCl⟩ := tx_of s
  obtain ⟨U, rfl, hU, hUl⟩ := tx_of user
  have hlen : (B.map cI).length = B.length := List.length_map _
  rw [hlen] at c1
  have hUl' : U.length = (tx U).size := hUl
  have hCl' : C.length = (tx C).size := hCl
  have htw : wherrykeep_Twin (B.map cI) = some (B.map cI) := twin_of _ (by rw [hlen]; omega)
  refine bnd htw (bnd (dec_eq C hC (by omega)) (bnd (rdec_eq C hC (by omega)) (bnd (ranswer_eq U hU (by omega) _ _ (by omega) (by omega)) ?_)))
  refine bndL (s := true) ?_ rfl
  refine bnd (enc_step B hB (by omega)) (bnd (renc_eq B hB (by omega)) (cnd_t (by simp) (bnd (hex_eq B hB (by omega)) (bnd (rhex_eq B hB (by omega)) (cnd_t (by simp) (bnd rfl ?_))))))
  have hans := answer_eq U hU (by omega) secret challenge (by omega) (by omega)
  have hver := verify_eq U hU (by omega) secret challenge line (by omega) (by omega)
  have hkb := keepBytes_eq (B.map cI) (B.map cI) (by rw [hlen]; omega)
  have hdl : (decT C).length ≤ C.length := by
    have := decR_len _ (C.take (4 * (C.length / 4))) (Nat.le_refl _)
    rw [List.length_take] at this; unfold decT; omega
  have fin : ((cram_Answer (tx U) secret challenge).bind fun v19 =>
      cond ((v19.toList == (tx (encN (ansN U (sbytes secret) (sbytes challenge)))).toList))
        ((cram_Verify (tx U) secret challenge line).bind fun v20 =>
        (some (v20 == (line.toList == (tx (encN (ansN U (sbytes secret) (sbytes challenge)))).toList))).bind fun v21 =>
        cond ((v20 == (line.toList == (tx (encN (ansN U (sbytes secret) (sbytes challenge)))).toList)))
          ((wherrykeep_Bytes (B.map cI) (B.map cI)).bind fun v22 =>
          cond (v22)
            ((wherrylaw10_wakes ).bind fun v23 =>
            some (.inl v23))
            (some (.inl false)))
          (some (.inl false)))
        (some (.inl false)) : Option (Bool ⊕ Bool)) = some (.inl true) := by
    refine bnd hans (cnd_t (by simp) (bnd hver (bnd rfl (cnd_t (by rw [toList_beq]; simp) (bnd hkb (cnd_t (by simp) (bnd cram_wakes rfl)))))))
  by_cases h : tx (encN (decT C)) = tx C
  · simp only [if_pos h]
    exact cnd_t (by decide) (cnd_t rfl (bnd (keepBytes_eq _ _ (by rw [List.length_map]; omega)) (cnd_t (by simp) fin)))
  · simp only [if_neg h]
    exact cnd_t (by decide) (cnd_f rfl (cnd_t (by decide) (bnd (keepBytes_eq _ _ (by decide)) (cnd_t (by simp) fin))))
end Go.Abs.Sh
