import Derived.Test.YtohhijlgepnbeaaTreJ
namespace Go.Abs.Sh
set_option linter.unusedVariables false
set_option linter.unusedSimpArgs false
theorem sum_perm {l m : List Int} (h : l.Perm m) : l.sum = m.sum := by
  induction h with
  | nil => rfl
  | cons x _ ih => rw [List.sum_cons, List.sum_cons, ih]
  | swap x y l => simp only [List.sum_cons]; omega
  | trans _ _ ih1 ih2 => exact ih1.trans ih2
theorem sum_posN {w : List Int} (hw : ∀ i, i < w.length → 0 ≤ w.getD i 0) : ∀ n, n ≤ w.length → ((posN w n).map fun x => w.getD x.toNat 0).sum = (w.take n).sum
  | 0, _ => rfl
  | n + 1, h => by
    have ih := sum_posN hw n (by omega)
    rw [take_succ_app (by omega), List.sum_append, posN]
    have := hw n (by omega)
    by_cases hp : 0 < w.getD n 0
    · rw [if_pos hp, List.map_append, List.sum_append, ih]
      simp
    · rw [if_neg hp, ih]
      simp only [List.sum_cons, List.sum_nil]
      omega
theorem wts_sum_eq {w : List Int} (hw : okW w) : (wts w).sum = w.sum := by
  have h1 := sum_posN (fun i hi => (hw.2 i hi).1) w.length (Nat.le_refl _)
  rw [List.take_length] at h1
  rw [← h1]
  exact sum_perm ((srt_perm w).map _)
theorem light_fits {w : List Int} (hw : okW w) (hs : w.sum < 2584) : fits w 15 := by
  intro i hi
  by_cases hp : 0 < w.getD i 0
  · by_cases h2 : 2 ≤ (pos w).length
    · obtain ⟨k, hk, e⟩ := srt_find hi hp
      have hd := dep_srt h2 hk
      rw [e, Int.toNat_natCast] at hd
      rw [hd]
      have hwl := wts_len w
      rcases (show 15 < (coreD (wts w)).getD k 0 ∨ (coreD (wts w)).getD k 0 ≤ 15 by omega) with h | h
      · have := depth_fib (W0 := wts w) (by omega) (inv_wts h2) (k := k) (d := 16) (by omega) (by omega)
        rw [wts_sum_eq hw] at this
        have e : ((fib (16 + 2) : Nat) : Int) = 2584 := by decide
        omega
      · exact h
    · have hc : (pos w).length = 1 := by
        have : 0 < (pos w).length := List.length_pos_of_mem (posN_mem w w.length i hi hp)
        omega
      rw [dep_one hc hi hp]; omega
  · rw [dep_zero hp]; omega
end Go.Abs.Sh
