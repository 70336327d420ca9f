import Derived.Test.YtiopoaenpajlmaaBitsS
namespace Go.Abs.Sh
set_option linter.unusedVariables false
set_option linter.unusedSimpArgs false

theorem put_both (s : T_Bits) (v n : Int) (hB : isB s.B) (hl : s.B.length ≤ 6000) (hv : -9223372036854775808 ≤ v ∧ v < 9223372036854775808) : ∃ x : T_Bits × Int, bits_Put s v n = some x ∧ wherryref01_Put s v n = some x ∧ x.1.B.length ≤ 6000 := by
  obtain ⟨r, c1, c2, c3⟩ := right_eq s hB hl
  obtain ⟨f, f1, f2, f3⟩ := fits_both v n hv.1 hv.2
  cases r with
  | false =>
    refine ⟨((T_Bits.mk [] 0), 1), ?_, ?_, by simp⟩
    · unfold bits_Put; exact bnd c1 (cnd_t rfl rfl)
    · unfold wherryref01_Put; exact bndL (s := true) (bnd c2 (cnd_t rfl rfl)) (cnd_t rfl rfl)
  | true =>
  cases f with
  | false =>
    refine ⟨((T_Bits.mk [] 0), 1), ?_, ?_, by simp⟩
    · unfold bits_Put; exact bnd c1 (cnd_f rfl (bnd f1 (cnd_t rfl rfl)))
    · unfold wherryref01_Put; exact bndL (s := true) (bnd c2 (cnd_f rfl (bnd f2 rfl))) (cnd_t rfl rfl)
  | true =>
  obtain ⟨N, hN, hN4, hG⟩ := c3 rfl
  obtain ⟨V, M, rfl, rfl, hM, hV⟩ := f3 rfl
  obtain ⟨B, N'⟩ := s
  dsimp only at hN hG hB hl
  subst hN
  have w : IntKind.i64.wrap ((N : Int) + (M : Int)) = ((N + M : Nat) : Int) := by rw [wrap_i64 (by omega) (by omega)]; simp
  by_cases hbig : 40000 < N + M
  · refine ⟨((T_Bits.mk [] 0), 2), ?_, ?_, by simp⟩
    · unfold bits_Put; exact bnd c1 (cnd_f rfl (bnd f1 (cnd_f rfl (bnd (x := ((N + M : Nat) : Int)) (by rw [w]) (cnd_t (by simp; omega) rfl)))))
    · unfold wherryref01_Put; exact bndL (s := false) (bnd c2 (cnd_f rfl (bnd f2 rfl))) (cnd_f rfl (bnd (x := ((N + M : Nat) : Int)) (by rw [w]) (cnd_t (by simp; omega) rfl)))
  · obtain ⟨B', p1, p2, p3⟩ := put_same hG V M hM hV (by omega)
    refine ⟨_, p1, ?_, by have := p3.len; show B'.length ≤ _; omega⟩
    unfold wherryref01_Put
    exact bndL (s := false) (bnd c2 (cnd_f rfl (bnd f2 rfl))) (cnd_f rfl (bnd (x := ((N + M : Nat) : Int)) (by rw [w]) (cnd_f (by simp; omega) (bnd (twin_eqb B (by omega)) (bnd p2 rfl)))))

theorem fill_both (s : T_Bits) (hB : isB s.B) (hl : s.B.length ≤ 6000) : ∃ x : T_Bits × Int, bits_Fill s = some x ∧ wherryref01_Fill s = some x ∧ x.1.B.length ≤ 6000 := by
  obtain ⟨r, c1, c2, c3⟩ := right_eq s hB hl
  cases r with
  | false =>
    refine ⟨((T_Bits.mk [] 0), 1), ?_, ?_, by simp⟩
    · unfold bits_Fill; exact bnd c1 (cnd_t rfl rfl)
    · unfold wherryref01_Fill; exact bnd c2 (cnd_t rfl rfl)
  | true =>
    refine ⟨((T_Bits.mk s.B (IntKind.i64.wrap (8 * (s.B.length : Int)))), 0), ?_, ?_, hl⟩
    · unfold bits_Fill
      exact bnd c1 (cnd_f rfl (bnd (x := s.B) (by simp only [appO]; rw [if_pos (by simp; omega)]; simp) rfl))
    · unfold wherryref01_Fill
      exact bnd c2 (cnd_f rfl (bnd (twin_eqb s.B (by omega)) rfl))

theorem bitsExact_true (s : T_Bits) (v n : Int) (b : List Int) (at_ : Int) (hs : isB s.B) (hb : isB b) (hv : -9223372036854775808 ≤ v ∧ v < 9223372036854775808) (hn : -9223372036854775808 ≤ n ∧ n < 9223372036854775808) (ha : -9223372036854775808 ≤ at_ ∧ at_ < 9223372036854775808) : wherrylaw01_BitsExact s v n b at_ = some true := by
  unfold wherrylaw01_BitsExact
  by_cases h1 : 6000 < s.B.length
  · exact bndL (s := true) (cnd_t (by simp; omega) rfl) (cnd_t rfl rfl)
  by_cases h2 : 600 < b.length
  · refine bndL (s := true) (cnd_f (by simp; omega) ?_) (cnd_t rfl rfl)
    have : decide (600 < (b.length : Int)) = true := by simp; omega
    rw [this]
  refine bndL (s := false) (cnd_f (by simp; omega) ?_) (cnd_f rfl ?_)
  · have : decide (600 < (b.length : Int)) = false := by simp; omega
    rw [this]
  have ht : wherrylaw01_twin s = some s := by
    unfold wherrylaw01_twin
    exact bnd (twin_eqb s.B (by omega)) rfl
  obtain ⟨r, c1, c2, _⟩ := right_eq s hs (by omega)
  obtain ⟨x, x1, x2, x3⟩ := put_both s v n hs (by omega) hv
  obtain ⟨p, p1, p2, p3⟩ := fill_both s hs (by omega)
  obtain ⟨g, g1, g2⟩ := get_same b hb (by omega) at_ n hn ha
  obtain ⟨t, t1, t2⟩ := turn_same v n hv
  have kx := keepBits_eq x.1 x.1 (by omega)
  have kp := keepBits_eq p.1 p.1 (by omega)
  have ks := keepBits_eq s s (by omega)
  have kb := keepBytes_eq b b (by omega)
  rw [decide_eq_true rfl] at kx kp ks kb
  refine bnd ht (bnd (twin_eqb b (by omega)) (bndL (s := if r then 0 else 1) (bnd c2 ?_) (bnd x1 (bnd x2 (bnd p1 (bnd p2 ?_))))))
  · cases r <;> rfl
  refine bndL (s := false) (bnd c1 (cnd_f (by simp) (cnd_f (by simp) (bnd kx (cnd_f rfl (cnd_f (by simp) (bnd kp rfl))))))) (cnd_f rfl (bnd g1 (bnd g2 (bnd t1 (bnd t2 ?_)))))
  refine bndL (s := false) (cnd_f (by simp) (cnd_f (by simp) (cnd_f (by simp) (cnd_f (by simp) ?_)))) (cnd_f rfl (bnd (over_eqb _ (by omega)) (bnd (over_eqb _ (by omega)) ?_)))
  · have : (t.1 != t.1) = false := by simp
    rw [this]
  exact bndL (s := true) (bnd ks (cnd_t rfl (bnd kb (cnd_t rfl (bnd bits_wakes rfl))))) rfl
end Go.Abs.Sh
