import Derived.Test.YthfmdofkkkpbkaaGreatDoorVrbR
namespace Go.Abs.Sh
set_option linter.unusedVariables false
set_option linter.unusedSimpArgs false
set_option maxRecDepth 100000
theorem wz47 {s : ByteArray} (h : wzS s) : s.size ≤ 140737488351232 := by simpa only [wzS, reachBytes] using h
def hstep (n : Int) (q : T_Param) : Int := IntKind.i64.wrap (IntKind.i64.wrap (n + (q.Key.size : Int)) + (q.Val.size : Int))
structure LightC (c : T_Cmd) : Prop where
  t : c.Text.size ≤ 3000
  l : c.Path.Local.size ≤ 3000
  d : c.Path.Domain.size ≤ 3000
  n : c.Params.length ≤ 600
  p : ∀ q ∈ c.Params, q.Key.size ≤ 3000 ∧ q.Val.size ≤ 3000
theorem keepPathC (a b : T_Path) : wherrykeep_Path a b = some (decide (a = b)) := by
  unfold wherrykeep_Path
  have hd : decide (a = b) = ((a.Null == b.Null) && ((a.Local.toList == b.Local.toList) && (a.Domain.toList == b.Domain.toList))) := by
    rw [toList_beq, toList_beq]
    obtain ⟨na, la, da⟩ := a
    obtain ⟨nb, lb, db⟩ := b
    simp only [T_Path.mk.injEq]
    cases na <;> cases nb <;> simp
  rw [hd]
  refine bndL (s := ((a.Null == b.Null) && ((a.Local.toList == b.Local.toList) && (a.Domain.toList == b.Domain.toList)))) (bnd rfl ?_) rfl
  cases h1 : (a.Null == b.Null) with
  | false => exact cnd_f rfl rfl
  | true =>
    refine cnd_t rfl ?_
    cases h2 : (a.Local.toList == b.Local.toList) with
    | false => exact cnd_f rfl rfl
    | true => exact cnd_t rfl rfl
end Go.Abs.Sh
