import Derived.Test.YthfmdofkkkpbkaaDoorPatH
import Derived.Test.YthfmdofkkkpbkaaDoorPatG
namespace Go.Abs.Sh
set_option linter.unusedVariables false
set_option linter.unusedSimpArgs false
def fl32 (c : Int) : Int := bits .xor .u8 c 32
def flB (f : Bool) (c : Int) : Int := if f = true ∧ letB c = true then fl32 c else c
def flF (fs : List Bool) (i : Nat) (c : Int) : Int := flB (fs.getD i false) c
theorem set_midI (F : Nat → Int → Int) (l : List Int) (i : Nat) (h : i < l.length) : ((l.take i).mapIdx F ++ l.drop i).set i (F i l[i]) = (l.take (i + 1)).mapIdx F ++ l.drop (i + 1) := by
  have hl : ((l.take i).mapIdx F).length = i := by simp; omega
  rw [List.set_append_right _ _ (by omega)]
  rw [hl, Nat.sub_self, List.drop_eq_getElem_cons h, List.set_cons_zero, List.take_add_one, List.getElem?_eq_getElem h]
  simp only [Option.toList_some, List.mapIdx_append, List.mapIdx_cons, List.mapIdx_nil, List.append_assoc, List.cons_append, List.nil_append, Nat.zero_add]
  rw [show (l.take i).length = i by simp; omega]
theorem get_midI (F : Nat → Int → Int) (l : List Int) (i : Nat) (h : i < l.length) : getO ((l.take i).mapIdx F ++ l.drop i) i = some l[i] := by
  have hl : ((l.take i).mapIdx F).length = i := by simp; omega
  unfold getO
  rw [List.getElem?_append_right (by omega)]
  rw [hl, Nat.sub_self, List.drop_eq_getElem_cons h]
  rfl
theorem let_cond {R : Type} (c : Int) (g1 g2 g3 : Option (Bool ⊕ R)) (h1 : g1 = some (.inl (decide (c ≤ 90)))) :
    cond (decide (97 ≤ c)) (cond (decide (c ≤ 122)) (some (.inl true)) (cond (decide (65 ≤ c)) g1 (some (.inl false)))) (cond (decide (65 ≤ c)) g1 (some (.inl false))) = some (.inl (letB c)) := by
  subst h1
  unfold letB
  cases decide (97 ≤ c) <;> cases decide (c ≤ 122) <;> cases decide (65 ≤ c) <;> rfl
end Go.Abs.Sh
