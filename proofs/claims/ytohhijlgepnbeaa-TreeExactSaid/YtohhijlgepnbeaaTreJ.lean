import Derived.Test.YtohhijlgepnbeaaTreI
namespace Go.Abs.Sh
set_option linter.unusedVariables false
set_option linter.unusedSimpArgs false
/-! all as many times as great -/
/-! how deep -/
def fib : Nat → Nat
  | 0 => 0
  | 1 => 1
  | n + 2 => fib n + fib (n + 1)
def anc (P : List Int) : Nat → Nat → Nat
  | 0, k => k
  | h + 1, k => (P.getD (anc P h k) 0).toNat
section
variable {W0 : List Int} (h2 : 2 ≤ W0.length) (v : Inv W0 (W0.length - 1) (mst W0 (W0.length - 1)))
include h2 v
theorem core_eq (k : Nat) (hk : k < 2 * W0.length - 2) : (coreD W0).getD k 0 = (coreD W0).getD ((mst W0 (W0.length - 1)).P.getD k 0).toNat 0 + 1 := by
  have := dst_eq (inv_okP h2 v) k (by omega)
  rw [show 2 * W0.length - 1 - 1 = 2 * W0.length - 2 by omega] at this
  exact this
theorem core_root : (coreD W0).getD (2 * W0.length - 2) 0 = 0 := by
  have _ := v.wl
  have := dst_root (mst W0 (W0.length - 1)).P (L := 2 * W0.length - 1) (by omega)
  rw [show 2 * W0.length - 1 - 1 = 2 * W0.length - 2 by omega] at this
  exact this
theorem taken {k : Nat} (hk : k < 2 * W0.length - 2) : ∃ j, j < 2 * W0.length - 2 ∧ (mst W0 (W0.length - 1)).C.getD j 0 = k ∧ ((mst W0 (W0.length - 1)).P.getD k 0).toNat = W0.length + j / 2 := by
  have hm : k ∈ (mst W0 (W0.length - 1)).C := (v.mem k).2 (by have := v.cnt; have := v.mg2; have := v.lf; omega)
  obtain ⟨j, hj, e⟩ := List.getElem_of_mem hm
  have e : (mst W0 (W0.length - 1)).C.getD j 0 = k := by rw [← e]; simp [hj]
  rw [v.cl] at hj
  refine ⟨j, by omega, e, ?_⟩
  have := v.par j hj
  rw [e] at this
  rw [this, Int.toNat_natCast]
theorem anc_depth {k : Nat} (hk : k < W0.length) : ∀ h : Nat, (h : Int) ≤ (coreD W0).getD k 0 → anc (mst W0 (W0.length - 1)).P h k ≤ 2 * W0.length - 2 ∧ (coreD W0).getD (anc (mst W0 (W0.length - 1)).P h k) 0 = (coreD W0).getD k 0 - (h : Int)
  | 0, _ => ⟨by simp only [anc]; omega, by simp [anc]⟩
  | h + 1, hh => by
    obtain ⟨i1, i2⟩ := anc_depth hk h (by omega)
    have hlt : anc (mst W0 (W0.length - 1)).P h k < 2 * W0.length - 2 := by
      rcases Nat.lt_or_eq_of_le i1 with h3 | h3
      · exact h3
      · rw [h3, core_root h2 v] at i2; omega
    have h4 := inv_okP h2 v (anc (mst W0 (W0.length - 1)).P h k) (by omega)
    have h5 := core_eq h2 v _ hlt
    rw [anc]
    refine ⟨by omega, by omega⟩
theorem anc_fib {k : Nat} (hk : k < W0.length) : ∀ h : Nat, ((h : Int) ≤ (coreD W0).getD k 0 → ((fib (h + 2) : Nat) : Int) ≤ (mst W0 (W0.length - 1)).W.getD (anc (mst W0 (W0.length - 1)).P h k) 0) ∧ (((h + 1 : Nat) : Int) ≤ (coreD W0).getD k 0 → ((fib (h + 3) : Nat) : Int) ≤ (mst W0 (W0.length - 1)).W.getD (anc (mst W0 (W0.length - 1)).P (h + 1) k) 0)
  | 0 => by
    refine ⟨fun _ => ?_, fun h1 => ?_⟩
    · have := v.pos k (by omega)
      simpa [anc, fib] using this
    · obtain ⟨a1, a2⟩ := anc_depth h2 v hk 0 (by omega)
      have hlt : k < 2 * W0.length - 2 := by omega
      obtain ⟨j, hj, e, ep⟩ := taken h2 v hlt
      rw [anc, anc, ep]
      have hn := v.new (j / 2) (by omega)
      have hC := fun j (hj : j < 2 * (W0.length - 1)) => v.pos ((mst W0 (W0.length - 1)).C.getD j 0) (by have := v.clt j hj; omega)
      have p1 := hC (2 * (j / 2)) (by omega)
      have p2 := hC (2 * (j / 2) + 1) (by omega)
      have : ((fib (0 + 3) : Nat) : Int) = 2 := rfl
      omega
  | h + 1 => by
    obtain ⟨ih1, ih2⟩ := anc_fib hk h
    refine ⟨ih2, fun h1 => ?_⟩
    have f1 := ih1 (by omega)
    have f2 := ih2 (by omega)
    obtain ⟨a1, a2⟩ := anc_depth h2 v hk h (by omega)
    obtain ⟨b1, b2⟩ := anc_depth h2 v hk (h + 1) (by omega)
    have hlt1 : anc (mst W0 (W0.length - 1)).P h k < 2 * W0.length - 2 := by
      rcases Nat.lt_or_eq_of_le a1 with h3 | h3
      · exact h3
      · rw [h3, core_root h2 v] at a2; omega
    have hlt2 : anc (mst W0 (W0.length - 1)).P (h + 1) k < 2 * W0.length - 2 := by
      rcases Nat.lt_or_eq_of_le b1 with h3 | h3
      · exact h3
      · rw [h3, core_root h2 v] at b2; omega
    -- t, its parent u, and where they were taken
    obtain ⟨jt, hjt, et, ept⟩ := taken h2 v hlt1
    obtain ⟨ju, hju, eu, epu⟩ := taken h2 v hlt2
    have hu : anc (mst W0 (W0.length - 1)).P (h + 1) k = W0.length + jt / 2 := by rw [anc, ept]
    rw [anc, epu]
    have hn := v.new (ju / 2) (by omega)
    have hcu := v.clt ju (by omega)
    rw [eu, hu] at hcu
    have hfib : fib (h + 1 + 3) = fib (h + 2) + fib (h + 3) := rfl
    rw [hfib]
    have s1 := v.asc jt (2 * (ju / 2)) (by omega) (by omega)
    have s2 := v.asc jt (2 * (ju / 2) + 1) (by omega) (by omega)
    rw [et] at s1 s2
    by_cases hpar : ju = 2 * (ju / 2)
    · rw [← hpar, eu] at hn
      rw [← hpar] at s2
      omega
    · have : ju = 2 * (ju / 2) + 1 := by omega
      rw [← this, eu] at hn
      omega
theorem depth_fib {k d : Nat} (hk : k < W0.length) (hd : (d : Int) ≤ (coreD W0).getD k 0) : ((fib (d + 2) : Nat) : Int) ≤ W0.sum := by
  have h1 := (anc_fib h2 v hk d).1 hd
  have h3 := (anc_depth h2 v hk d hd).1
  exact Int.le_trans h1 (v.le _ (by omega))
end
end Go.Abs.Sh
