import Derived.Test.YtohhijlgepnbeaaLoopM
namespace Go.Abs.Sh
set_option linter.unusedVariables false
set_option linter.unusedSimpArgs false
theorem wakes03 : wherrylaw03_wakes = some true := by kernel_rfl
def okW (w : List Int) : Prop := w.length ≤ 300 ∧ ∀ i, i < w.length → 0 ≤ w.getD i 0 ∧ w.getD i 0 ≤ 1048576
theorem getD_at {l : List Int} {i : Nat} (h : i < l.length) : l[i] = l.getD i 0 := by simp [h]
theorem getO_D {l : List Int} {i : Nat} (h : i < l.length) : getO l i = some (l.getD i 0) := by simp [getO, h]
theorem validW_eq (w : List Int) : (okW w → tree_validWeights w = some true) ∧ (¬ okW w → tree_validWeights w = some false) := by
  have main : w.length ≤ 300 → ∀ b : Bool, (b = true ↔ ∀ i, i < w.length → 0 ≤ w.getD i 0 ∧ w.getD i 0 ≤ 1048576) → tree_validWeights w = some b := by
    intro hl b hb
    unfold tree_validWeights
    refine cnd_f (decide_eq_false (by omega)) ?_
    have hgo : ∀ i, i < w.length → decide (0 ≤ w.getD i 0 ∧ w.getD i 0 ≤ 1048576) = true → _ := fun i hi hp => hp
    cases b with
    | true =>
      have h := hb.1 rfl
      refine bndL (s := ()) ?_ rfl
      refine (loop_all (fun i => decide (0 ≤ w.getD i 0 ∧ w.getD i 0 ≤ 1048576)) w.length false (by unfold BIG; omega) ?_ ?_ ?_).trans (by rw [if_pos (fun i hi => decide_eq_true (h i hi))])
      · intro i hi hp
        have hp := of_decide_eq_true hp
        exact cnd_t (by simp; omega) (bnd (ixO_of hi) (bnd (getO_D hi) (bndL (s := false) (cnd_f (decide_eq_false (by omega)) (by rw [decide_eq_false (by omega)])) (cnd_f rfl (bnd (x := ((i + 1 : Nat) : Int)) (by rw [wrap_succ (by omega)]) rfl)))))
      · intro i hi hp
        exact absurd (h i hi) (of_decide_eq_false hp)
      · exact cnd_f (by simp) rfl
    | false =>
      refine bndR (a := false) ?_ rfl
      refine (loop_all (fun i => decide (0 ≤ w.getD i 0 ∧ w.getD i 0 ≤ 1048576)) w.length false (by unfold BIG; omega) ?_ ?_ ?_).trans (by rw [if_neg (fun h => by have := hb.2 (fun i hi => of_decide_eq_true (h i hi)); cases this)])
      · intro i hi hp
        have hp := of_decide_eq_true hp
        exact cnd_t (by simp; omega) (bnd (ixO_of hi) (bnd (getO_D hi) (bndL (s := false) (cnd_f (decide_eq_false (by omega)) (by rw [decide_eq_false (by omega)])) (cnd_f rfl (bnd (x := ((i + 1 : Nat) : Int)) (by rw [wrap_succ (by omega)]) rfl)))))
      · intro i hi hp
        have hp := of_decide_eq_false hp
        refine cnd_t (by simp; omega) (bnd (ixO_of hi) (bnd (getO_D hi) (bndL (s := true) ?_ (cnd_t rfl rfl))))
        by_cases h0 : w.getD i 0 < 0
        · exact cnd_t (decide_eq_true h0) rfl
        · exact cnd_f (decide_eq_false h0) (by rw [decide_eq_true (by omega)])
      · exact cnd_f (by simp) rfl
  by_cases hl : w.length ≤ 300
  · exact ⟨fun h => main hl true ⟨fun _ => h.2, fun _ => rfl⟩, fun h => main hl false ⟨fun e => (by cases e), fun e => absurd ⟨hl, e⟩ h⟩⟩
  · refine ⟨fun h => absurd h.1 hl, fun _ => ?_⟩
    unfold tree_validWeights
    exact cnd_t (decide_eq_true (by omega)) rfl
def posN (w : List Int) : Nat → List Int
  | 0 => []
  | n + 1 => if 0 < w.getD n 0 then posN w n ++ [(n : Int)] else posN w n
def pos (w : List Int) : List Int := posN w w.length
theorem posN_len (w : List Int) : ∀ n, (posN w n).length ≤ n
  | 0 => Nat.le_refl _
  | n + 1 => by
    have := posN_len w n
    rw [posN]
    split
    · simp; omega
    · omega
theorem posN_lt (w : List Int) : ∀ n x, x ∈ posN w n → 0 ≤ x ∧ x < (n : Int) ∧ 0 < w.getD x.toNat 0
  | 0, x, h => by cases h
  | n + 1, x, h => by
    rw [posN] at h
    split at h
    · rename_i hp
      rcases List.mem_append.1 h with h | h
      · have := posN_lt w n x h; omega
      · obtain rfl := List.mem_singleton.1 h
        refine ⟨by omega, by omega, by simpa using hp⟩
    · have := posN_lt w n x h; omega
theorem posN_mem (w : List Int) : ∀ n i, i < n → 0 < w.getD i 0 → (i : Int) ∈ posN w n
  | 0, i, h, _ => by omega
  | n + 1, i, h, hp => by
    rw [posN]
    by_cases e : i = n
    · subst e; rw [if_pos hp]; simp
    · have := posN_mem w n i (by omega) hp
      split
      · exact List.mem_append_left _ this
      · exact this
theorem posN_asc (w : List Int) : ∀ n, (posN w n).Pairwise (· < ·)
  | 0 => List.Pairwise.nil
  | n + 1 => by
    rw [posN]
    split
    · refine List.pairwise_append.2 ⟨posN_asc w n, by simp, fun a ha b hb => ?_⟩
      obtain rfl := List.mem_singleton.1 hb
      exact (posN_lt w n a ha).2.1
    · exact posN_asc w n
theorem positive_eq (w : List Int) (hl : w.length ≤ 300) : tree_positive w = some (pos w) := by
  unfold tree_positive
  refine bndL (s := pos w) ?_ rfl
  refine loop_from (fun i => (posN w i, (i : Int))) w.length BIG rfl (by unfold BIG; omega) (fun i hi => ?_) (cnd_f (by simp) rfl)
  refine cnd_t (by simp; omega) ?_
  by_cases hp : 0 < w.getD i 0
  · have := posN_len w i
    exact bndL (s := posN w (i + 1)) (bnd (ixO_of hi) (bnd (getO_D hi) (cnd_t (decide_eq_true hp) (bnd (app_of (by simp; omega) (by simp; omega)) (by rw [posN, if_pos hp]))))) (bnd (x := ((i + 1 : Nat) : Int)) (by rw [wrap_succ (by omega)]) rfl)
  · exact bndL (s := posN w (i + 1)) (bnd (ixO_of hi) (bnd (getO_D hi) (cnd_f (decide_eq_false hp) (by rw [posN, if_neg hp])))) (bnd (x := ((i + 1 : Nat) : Int)) (by rw [wrap_succ (by omega)]) rfl)
def okL (w : List Int) (limit : Int) : Prop := (if (pos w).length ≤ 19 then 5 else 9) ≤ limit ∧ limit ≤ 15
theorem validL_eq (w : List Int) (limit : Int) (hl : w.length ≤ 300) : (okL w limit → tree_validLimit w limit = some true) ∧ (¬ okL w limit → tree_validLimit w limit = some false) := by
  have hb : ∀ b : Bool, (b = true ↔ okL w limit) → tree_validLimit w limit = some b := by
    intro b hb
    unfold tree_validLimit
    refine bndL (s := if (pos w).length ≤ 19 then 5 else 9) (bnd (positive_eq w hl) ?_) ?_
    · by_cases h : (pos w).length ≤ 19
      · exact cnd_t (decide_eq_true (by omega)) (by rw [if_pos h])
      · exact cnd_f (decide_eq_false (by omega)) (by rw [if_neg h])
    · refine bndL (s := b) ?_ rfl
      unfold okL at hb
      by_cases h1 : (if (pos w).length ≤ 19 then 5 else 9) ≤ limit
      · refine cnd_t (decide_eq_true h1) ?_
        congr 2
        cases b with
        | true => exact decide_eq_true (hb.1 rfl).2
        | false => exact decide_eq_false fun h => by have := hb.2 ⟨h1, h⟩; cases this
      · refine cnd_f (decide_eq_false h1) ?_
        cases b with
        | true => exact absurd (hb.1 rfl).1 h1
        | false => rfl
  exact ⟨fun h => hb true ⟨fun _ => h, fun _ => rfl⟩, fun h => hb false ⟨fun e => (by cases e), fun e => absurd e h⟩⟩
def costN (w l : List Int) : Nat → Int
  | 0 => 0
  | n + 1 => costN w l n + w.getD n 0 * l.getD n 0
def okC (l : List Int) : Prop := ∀ i, i < l.length → 0 ≤ l.getD i 0 ∧ l.getD i 0 ≤ 15
theorem costN_bound {w l : List Int} (hw : okW w) (hl : okC l) (he : w.length = l.length) : ∀ n, n ≤ w.length → 0 ≤ costN w l n ∧ costN w l n ≤ 15728640 * (n : Int)
  | 0, _ => by simp [costN]
  | n + 1, h => by
    have h1 := costN_bound hw hl he n (by omega)
    have h2 := hw.2 n (by omega)
    have h3 := hl n (by omega)
    have h4 : 0 ≤ w.getD n 0 * l.getD n 0 := Int.mul_nonneg h2.1 h3.1
    have h5 : w.getD n 0 * l.getD n 0 ≤ 1048576 * 15 := Int.mul_le_mul h2.2 h3.2 h3.1 (by omega)
    rw [costN]
    omega
end Go.Abs.Sh
