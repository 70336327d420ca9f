import Derived.Test.YtkgfjkfccpjcgaaDoorLoopM
import Derived.Test.YtkgfjkfccpjcgaaDoorCanonM
import Derived.KernelRfl
namespace Go.Abs.Sh
set_option linter.unusedVariables false
set_option linter.unusedSimpArgs false
set_option maxRecDepth 10000
def okW (w : List Int) : Prop := w.length ≤ 300 ∧ ∀ i,i < w.length → 0 ≤ w.getD i 0 ∧ w.getD i 0 ≤ 1048576
theorem getO_D {l : List Int} {i : Nat} (h : i < l.length) : getO l i = some (l.getD i 0) := by simp [getO,h]
theorem validW_eq (w : List Int) : (okW w → tree_validWeights w = some true) ∧ (¬ okW w → tree_validWeights w = some false) := by
 have main : w.length ≤ 300 → ∀ b : Bool,(b = true ↔ ∀ i,i < w.length → 0 ≤ w.getD i 0 ∧ w.getD i 0 ≤ 1048576) → tree_validWeights w = some b := by
  intro hl b hb
  unfold tree_validWeights
  refine cnd_f (decide_eq_false (by omega)) ?_
  have hgo : ∀ i,i < w.length → decide (0 ≤ w.getD i 0 ∧ w.getD i 0 ≤ 1048576) = true → _ := fun i hi hp => hp
  cases b with
  | true =>
   have h := hb.1 rfl
   refine bndL (s := ()) ?_ rfl
   refine (loop_all (fun i => decide (0 ≤ w.getD i 0 ∧ w.getD i 0 ≤ 1048576)) w.length false (by unfold BIG; omega) ?_ ?_ ?_).trans (by rw [if_pos (fun i hi => decide_eq_true (h i hi))])
   ·intro i hi hp
    have hp := of_decide_eq_true hp
    exact cnd_t (by simp; omega) (bnd (ixO_of hi) (bnd (getO_D hi) (bndL (s := false) (cnd_f (decide_eq_false (by omega)) (by rw [decide_eq_false (by omega)])) (cnd_f rfl (bnd (x := ((i + 1 : Nat) : Int)) (by rw [wrap_succ (by omega)]) rfl)))))
   ·intro i hi hp
    exact absurd (h i hi) (of_decide_eq_false hp)
   ·exact cnd_f (by simp) rfl
  | false =>
   refine bndR (a := false) ?_ rfl
   refine (loop_all (fun i => decide (0 ≤ w.getD i 0 ∧ w.getD i 0 ≤ 1048576)) w.length false (by unfold BIG; omega) ?_ ?_ ?_).trans (by rw [if_neg (fun h => by have := hb.2 (fun i hi => of_decide_eq_true (h i hi)); cases this)])
   ·intro i hi hp
    have hp := of_decide_eq_true hp
    exact cnd_t (by simp; omega) (bnd (ixO_of hi) (bnd (getO_D hi) (bndL (s := false) (cnd_f (decide_eq_false (by omega)) (by rw [decide_eq_false (by omega)])) (cnd_f rfl (bnd (x := ((i + 1 : Nat) : Int)) (by rw [wrap_succ (by omega)]) rfl)))))
   ·intro i hi hp
    have hp := of_decide_eq_false hp
    refine cnd_t (by simp; omega) (bnd (ixO_of hi) (bnd (getO_D hi) (bndL (s := true) ?_ (cnd_t rfl rfl))))
    by_cases h0 : w.getD i 0 < 0
    ·exact cnd_t (decide_eq_true h0) rfl
    ·exact cnd_f (decide_eq_false h0) (by rw [decide_eq_true (by omega)])
   ·exact cnd_f (by simp) rfl
 by_cases hl : w.length ≤ 300
 ·exact ⟨fun h => main hl true ⟨fun _ => h.2,fun _ => rfl⟩,fun h => main hl false ⟨fun e => (by cases e),fun e => absurd ⟨hl,e⟩ h⟩⟩
 ·refine ⟨fun h => absurd h.1 hl,fun _ => ?_⟩
  unfold tree_validWeights
  exact cnd_t (decide_eq_true (by omega)) rfl
def costN (w l : List Int) : Nat → Int
 | 0 => 0
 | n + 1 => costN w l n + w.getD n 0 * l.getD n 0
def okC (l : List Int) : Prop := ∀ i,i < l.length → 0 ≤ l.getD i 0 ∧ l.getD i 0 ≤ 15
theorem costN_bound {w l : List Int} (hw : okW w) (hl : okC l) (he : w.length = l.length) : ∀ n,n ≤ w.length → 0 ≤ costN w l n ∧ costN w l n ≤ 15728640 * (n : Int)
 | 0,_ => by simp [costN]
 | n + 1,h => by
  have h1 := costN_bound hw hl he n (by omega)
  have h2 := hw.2 n (by omega)
  have h3 := hl n (by omega)
  have h4 : 0 ≤ w.getD n 0 * l.getD n 0 := Int.mul_nonneg h2.1 h3.1
  have h5 : w.getD n 0 * l.getD n 0 ≤ 1048576 * 15 := Int.mul_le_mul h2.2 h3.2 h3.1 (by omega)
  rw [costN]
  omega
theorem len_eq {a b : List Int} (h : a.length = b.length) : ((a.length : Int) != (b.length : Int)) = false := by simp [h]
theorem cost_step {w l : List Int} (h : w.length = l.length) (hw : okW w) {i : Nat} (hi : i < l.length) (hb : 0 ≤ costN w l i ∧ costN w l i ≤ 15728640 * (i : Int)) (hp : 0 ≤ l.getD i 0 ∧ l.getD i 0 ≤ 15) : IntKind.i64.wrap (w.getD i 0 * l.getD i 0) = w.getD i 0 * l.getD i 0 ∧ IntKind.i64.wrap (costN w l i + w.getD i 0 * l.getD i 0) = costN w l (i + 1) := by
 have h2 := hw.2 i (by omega)
 have h4 : 0 ≤ w.getD i 0 * l.getD i 0 := Int.mul_nonneg h2.1 hp.1
 have h5 : w.getD i 0 * l.getD i 0 ≤ 1048576 * 15 := Int.mul_le_mul h2.2 hp.2 hp.1 (by omega)
 have h6 := hw.1
 exact ⟨wrap_i64 (by omega) (by omega),wrap_i64 (by omega) (by omega)⟩
theorem cost_ok {w l : List Int} (h : w.length = l.length) (hw : okW w) (hl : okC l) : tree_Cost w l = some (costN w l w.length,0) := by
 unfold tree_Cost
 refine cnd_f (len_eq h) (bnd ((validW_eq w).1 hw) (cnd_f rfl (bndL (s := costN w l w.length) ?_ rfl)))
 have hw1 := hw.1
 refine loop_from (fun i => (costN w l i,(i : Int))) l.length BIG rfl (by unfold BIG; omega) (fun i hi => ?_) (cnd_f (by simp) (by rw [h]))
 have hs := cost_step h hw hi (costN_bound hw hl h i (by omega)) (hl i hi)
 exact cnd_t (by simp; omega) (bnd (ixO_of hi) (bnd (getO_D hi) (bndL (s := false) (cnd_f (decide_eq_false (by have := hl i hi; omega)) (by rw [decide_eq_false (by have := hl i hi; omega)])) (cnd_f rfl (bnd (ixO_of (by omega)) (bnd (getO_D (by omega)) (bnd (by rw [hs.1]) (bnd (by rw [hs.2]) (bnd (x := ((i + 1 : Nat) : Int)) (by rw [wrap_succ (by omega)]) rfl)))))))))
end Go.Abs.Sh
