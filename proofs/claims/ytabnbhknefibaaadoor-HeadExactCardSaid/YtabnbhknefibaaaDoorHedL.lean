import Derived.Test.YtabnbhknefibaaaDoorHedK
namespace Go.Abs.Sh
set_option linter.unusedVariables false
set_option linter.unusedSimpArgs false
theorem keepSelf15 (a : List Int) (h : a.length < 4294967296) : wherrykeep_Bytes a a = some true := by rw [keepBytes_eq a a h]; simp
theorem want15 (helo site : ByteArray) (at_ : Int) (h1 : helo.size ≤ 800) (h2 : site.size ≤ 800) : ∃ (L : List Int) (w : Int), head_Stamp helo site at_ = some (L, w) ∧ L.length ≤ 3000 ∧
    (bindS (S := Bool) (A := (Int ⊕ Bool))
            ((wherryref11_Domain helo).bind fun v12 =>
            cond ((!v12))
              (some (.inl true))
              ((wherryref11_Domain site).bind fun v13 =>
              some (.inl (!v13))))
            (fun (s28 : Bool) =>
              cond (s28)
                (some (.inl 5))
                (bindS (S := Bool) (A := (Int ⊕ Bool))
                  (cond ((decide (at_ < 0)))
                    (some (.inl true))
                    (some (.inl ((decide (1099511627776 < at_))))))
                  (fun (s33 : Bool) =>
                    cond (s33)
                      (some (.inl 1))
                      (some (.inl 0))) some)) some) = some (.inl w) ∧ (w = 0 → wherryref11_Stamp helo site at_ = some L) ∧ (w ≠ 0 → L = []) := by
  have hs := stamp_eq helo site at_ (by omega) (by omega)
  have r1 := rdom_eq helo
  have r2 := rdom_eq site
  cases b1 : domB (sbytes helo)
  · rw [b1] at r1
    rw [if_neg (by rw [b1]; simp)] at hs
    exact ⟨[], 5, hs, by simp, bndL (s := true) (bnd r1 (cnd_t rfl rfl)) (cnd_t rfl rfl), fun h => absurd h (by decide), fun _ => rfl⟩
  cases b2 : domB (sbytes site)
  · rw [b1] at r1
    rw [b2] at r2
    rw [if_neg (by rw [b2]; simp)] at hs
    exact ⟨[], 5, hs, by simp, bndL (s := true) (bnd r1 (cnd_f rfl (bnd r2 rfl))) (cnd_t rfl rfl), fun h => absurd h (by decide), fun _ => rfl⟩
  rw [b1] at r1
  rw [b2] at r2
  rw [if_pos ⟨b1, b2⟩] at hs
  by_cases h0 : at_ < 0
  · rw [if_neg (by omega)] at hs
    exact ⟨[], 1, hs, by simp, bndL (s := false) (bnd r1 (cnd_f rfl (bnd r2 rfl))) (cnd_f rfl (bndL (s := true) (cnd_t (decide_eq_true h0) rfl) (cnd_t rfl rfl))), fun h => absurd h (by decide), fun _ => rfl⟩
  by_cases hM : 1099511627776 < at_
  · rw [if_neg (by omega)] at hs
    exact ⟨[], 1, hs, by simp, bndL (s := false) (bnd r1 (cnd_f rfl (bnd r2 rfl))) (cnd_f rfl (bndL (s := true) (cnd_f (decide_eq_false h0) (by rw [decide_eq_true hM])) (cnd_t rfl rfl))), fun h => absurd h (by decide), fun _ => rfl⟩
  rw [if_pos (by omega)] at hs
  obtain ⟨n, rfl⟩ : ∃ n : Nat, at_ = (n : Int) := ⟨at_.toNat, by omega⟩
  rw [Int.toNat_natCast] at hs
  have hll := len_line (helo := helo) (site := site) (n := n) (by omega)
  exact ⟨_, 0, hs, by simp only [List.length_append, List.length_cons, List.length_nil]; omega, bndL (s := false) (bnd r1 (cnd_f rfl (bnd r2 rfl))) (cnd_f rfl (bndL (s := false) (cnd_f (decide_eq_false h0) (by rw [decide_eq_false hM])) (cnd_f rfl rfl))), fun _ => rstamp_eq helo site n (by omega) (by omega) (by omega), fun h => absurd rfl h⟩
theorem headExact_true (b : List Int) (helo site : ByteArray) (at_ : Int) (hw : wzL 1 (wfI .u8) b) (h1 : wzS helo) (h2 : wzS site) : wherrylaw15_HeadExact b helo site at_ = some true := by
  have hb := byt_of_wz hw
  have z1 : helo.size ≤ 140737488351232 := by simpa only [wzS, reachBytes] using h1
  have z2 : site.size ≤ 140737488351232 := by simpa only [wzS, reachBytes] using h2
  have w : some (IntKind.i64.wrap ((helo.size : Int) + (site.size : Int))) = some ((helo.size : Int) + (site.size : Int)) := wrap_i (by omega) (by omega)
  unfold wherrylaw15_HeadExact
  by_cases hl : 2000 < b.length
  · exact bndL (s := true) (cnd_t (decide_eq_true (by omega)) rfl) (cnd_t rfl rfl)
  by_cases hz : 800 < helo.size + site.size
  · exact bndL (s := true) (cnd_f (decide_eq_false (by omega)) (bnd w (by rw [decide_eq_true (by omega)]))) (cnd_t rfl rfl)
  refine bndL (s := false) (cnd_f (decide_eq_false (by omega)) (bnd w (by rw [decide_eq_false (by omega)]))) (cnd_f rfl ?_)
  have htw := twin15 b (by omega)
  obtain ⟨L, e, hst, hLl, hwant, hw0, hw1⟩ := want15 helo site at_ (by omega) (by omega)
  have hkb := keepSelf15 b (by omega)
  have hfirst : ∀ {v10 : List Int × Int}, v10 = (L, e) → (cond ((v10.2 != e))
                (some (.inl true))
                (cond ((e == 0))
                  ((wherryref11_Stamp helo site at_).bind fun v38 =>
                  (wherrykeep_Bytes v10.1 v38).bind fun v39 =>
                  cond ((!v39))
                    (some (.inl true))
                    (cond ((e != 0))
                      (cond ((decide (0 < (v10.1.length : Int))))
                        (some (.inl true))
                        ((wherrykeep_Bytes b b).bind fun v40 =>
                        some (.inl (!v40))))
                      ((wherrykeep_Bytes b b).bind fun v41 =>
                      some (.inl (!v41)))))
                  (cond ((e != 0))
                    (cond ((decide (0 < (v10.1.length : Int))))
                      (some (.inl true))
                      ((wherrykeep_Bytes b b).bind fun v42 =>
                      some (.inl (!v42))))
                    ((wherrykeep_Bytes b b).bind fun v43 =>
                    some (.inl (!v43))))) : Option (Bool ⊕ Bool)) = some (.inl false) := by
    rintro _ rfl
    refine cnd_f (by simp) ?_
    by_cases he : e = 0
    · subst he
      exact cnd_t rfl (bnd (hw0 rfl) (bnd (keepSelf15 L (by omega)) (cnd_f rfl (cnd_f rfl (bnd hkb rfl)))))
    · refine cnd_f (beq_eq_false_iff_ne.2 he) (cnd_t (bne_iff_ne.2 he) (cnd_f ?_ (bnd hkb rfl)))
      rw [hw1 he]; rfl
  rcases check_any hb (by omega) with hck | ⟨ls, hc, hy, rfl⟩
  · have hbody : wherryref11_Body b = some false := by
      rcases body_any b hb (by omega) with h | ⟨_, ls, hc, hy, rfl⟩
      · exact h
      · have := check_ok hc hy (by rw [jn_len] at hl; omega)
        rw [hck] at this
        cases this
    have hs : head_Scan b = some ([], 0, 5) := by unfold head_Scan; exact bnd hck (cnd_t rfl rfl)
    have hh : head_Hops b = some (0, 5) := by unfold head_Hops; exact bnd hs (cnd_t rfl rfl)
    have hp : head_Put b helo site at_ = some ([], 5) := by unfold head_Put; exact bnd hck (cnd_t rfl rfl)
    refine bnd htw (bnd hs (bnd hh (bnd hst (bnd hp (bndL (s := e) hwant (bndL (s := false) (hfirst rfl) (cnd_f rfl (bnd hbody (cnd_t rfl (bndL (s := true) (cnd_t rfl (cnd_t rfl (cnd_t rfl (bnd (x := 0) (by kernel_rfl) (bnd (x := 0) (by kernel_rfl) (bnd (x := 0) (by kernel_rfl) (cnd_t rfl (bnd wakes15 rfl)))))))) rfl))))))))))
  · have hjl := jn_len ls
    have hbody := body_jn hc (by omega)
    have hck := check_ok hc hy (by omega)
    have hs := scan_eq hc hy (by omega)
    have hh := hops_eq hc hy (by omega)
    have hrs := rscan_eq hc hy (by omega)
    have hrh := rhops_eq hc hy (by omega)
    have hrl : (scn ls [] 0).1.length < 4294967296 := by
      have h2 := scan_len ls [] 0
      have h3 := len_tot15 ls
      simp at h2; omega
    have hkf := fields_refl (scn ls [] 0).1 hrl
    by_cases he : e = 0
    · subst he
      have hp : head_Put (jn ls) helo site at_ = some (L ++ jn ls, 0) := by
        unfold head_Put
        exact bnd hck (cnd_f rfl (bnd hst (cnd_f rfl (bnd (app_of (by dsimp only; omega) (by dsimp only; omega)) rfl))))
      refine bnd htw (bnd hs (bnd hh (bnd hst (bnd hp (bndL (s := 0) hwant (bndL (s := false) (hfirst rfl) (cnd_f rfl (bnd hbody (cnd_f rfl (bnd hrs (bndL (s := false) (cnd_f rfl (cnd_f rfl (bnd hkf (cnd_f rfl (cnd_f (by simp) (bnd hrh ?_)))))) (cnd_f rfl (cnd_f rfl (bndL (s := true) (cnd_t rfl (bnd (twin15 L (by omega)) (bnd (app_of (by omega) (by omega)) (bnd (keepSelf15 _ (by rw [List.length_append]; omega)) (cnd_t rfl (bnd wakes15 rfl)))))) rfl))))))))))))))
      simp
    · have hL := hw1 he
      subst hL
      have hp : head_Put (jn ls) helo site at_ = some ([], e) := by
        unfold head_Put
        exact bnd hck (cnd_f rfl (bnd hst (cnd_t (bne_iff_ne.2 he) rfl)))
      refine bnd htw (bnd hs (bnd hh (bnd hst (bnd hp (bndL (s := e) hwant (bndL (s := false) (hfirst rfl) (cnd_f rfl (bnd hbody (cnd_f rfl (bnd hrs (bndL (s := false) (cnd_f rfl (cnd_f rfl (bnd hkf (cnd_f rfl (cnd_f (by simp) (bnd hrh ?_)))))) (cnd_f rfl (cnd_t (bne_iff_ne.2 he) (bndL (s := true) (cnd_t (by simp) (cnd_t rfl (bnd wakes15 rfl))) rfl))))))))))))))
      simp
end Go.Abs.Sh
