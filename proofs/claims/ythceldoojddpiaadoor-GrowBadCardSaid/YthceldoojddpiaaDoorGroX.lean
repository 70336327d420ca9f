import Derived.Test.YthceldoojddpiaaDoorLoopM
namespace Go.Abs.Sh
set_option linter.unusedVariables false
set_option maxRecDepth 100000

theorem u64_seven (z : Int) : ∃ q : Nat, q < 7 ∧ remO (IntKind.u64.wrap z) 7 = some (q : Int) := by
  have h : IntKind.u64.wrap z = ((z % 18446744073709551616).toNat : Int) := by
    simp only [IntKind.wrap, IntKind.bits, IntKind.signed]
    have e : (2 : Int) ^ 64 = 18446744073709551616 := by decide
    simp only [e, Bool.false_and, Bool.false_eq_true, if_false]
    omega
  rw [h]
  exact ⟨_, Nat.mod_lt _ (by decide), rem_nat _ 7 (by decide)⟩
def badAt (q : Nat) (c : Int) : List Int :=
  match q with
  | 0 => [7, c]
  | 1 => [1, 1, 0, 254, 254, c]
  | 2 => [9, 1, 0, 254, 255, c]
  | 3 => [0, 1, 0, 254, 255, c]
  | 4 => [245, 0, 0, 0, 0, 0]
  | 5 => [5, 0, 0, 0, 0, 0]
  | _ => [1, 0, 0, 255, 255, c]
theorem badG0 (c : Int) : grow_Grow [7, c] 4096 = some ([], 3) := by kernel_rfl
theorem badB0 (c : Int) : grow_Blocks [7, c] = some (0, 3) := by kernel_rfl
theorem badG1 (c : Int) : grow_Grow [1, 1, 0, 254, 254, c] 4096 = some ([], 3) := by kernel_rfl
theorem badB1 (c : Int) : grow_Blocks [1, 1, 0, 254, 254, c] = some (0, 3) := by kernel_rfl
theorem badG2 (c : Int) : grow_Grow [9, 1, 0, 254, 255, c] 4096 = some ([], 3) := by kernel_rfl
theorem badB2 (c : Int) : grow_Blocks [9, 1, 0, 254, 255, c] = some (0, 3) := by kernel_rfl
theorem badG3 (c : Int) : grow_Grow [0, 1, 0, 254, 255, c] 4096 = some ([], 3) := by kernel_rfl
theorem badB3 (c : Int) : grow_Blocks [0, 1, 0, 254, 255, c] = some (0, 3) := by kernel_rfl
theorem badG4 (c : Int) : grow_Grow [245, 0, 0, 0, 0, 0] 4096 = some ([], 3) := by kernel_rfl
theorem badB4 (c : Int) : grow_Blocks [245, 0, 0, 0, 0, 0] = some (0, 3) := by kernel_rfl
theorem badG5 (c : Int) : grow_Grow [5, 0, 0, 0, 0, 0] 4096 = some ([], 3) := by kernel_rfl
theorem badB5 (c : Int) : grow_Blocks [5, 0, 0, 0, 0, 0] = some (0, 3) := by kernel_rfl
theorem badG6 (c : Int) : grow_Grow [1, 0, 0, 255, 255, c] 4096 = some ([], 3) := by kernel_rfl
theorem badB6 (c : Int) : grow_Blocks [1, 0, 0, 255, 255, c] = some (0, 3) := by kernel_rfl
theorem bad_at (q : Nat) (h : q < 7) (c : Int) : grow_Grow (badAt q c) 4096 = some ([], 3) ∧ grow_Blocks (badAt q c) = some (0, 3) := by
  have : q = 0 ∨ q = 1 ∨ q = 2 ∨ q = 3 ∨ q = 4 ∨ q = 5 ∨ q = 6 := by omega
  rcases this with rfl | rfl | rfl | rfl | rfl | rfl | rfl
  · exact ⟨badG0 c, badB0 c⟩
  · exact ⟨badG1 c, badB1 c⟩
  · exact ⟨badG2 c, badB2 c⟩
  · exact ⟨badG3 c, badB3 c⟩
  · exact ⟨badG4 c, badB4 c⟩
  · exact ⟨badG5 c, badB5 c⟩
  · exact ⟨badG6 c, badB6 c⟩
theorem grow_wakes : wherrylaw07_wakes = some true := by kernel_rfl
theorem growBad_true (how c : Int) : wherrylaw07_GrowBad how c = some true := by
  obtain ⟨q, hq, hr⟩ := u64_seven how
  have h1 := bad_at q hq c
  unfold wherrylaw07_GrowBad
  refine bndL (s := badAt q c) (bnd rfl (bnd hr (bndL (s := badAt q c) ?_ rfl))) ?_
  · have : q = 0 ∨ q = 1 ∨ q = 2 ∨ q = 3 ∨ q = 4 ∨ q = 5 ∨ q = 6 := by omega
    rcases this with rfl | rfl | rfl | rfl | rfl | rfl | rfl <;> rfl
  · refine bnd h1.1 (bnd h1.2 ?_)
    exact bndL (s := true) (cnd_t rfl (cnd_t rfl (cnd_t rfl (cnd_t rfl (bnd grow_wakes rfl))))) rfl
end Go.Abs.Sh
