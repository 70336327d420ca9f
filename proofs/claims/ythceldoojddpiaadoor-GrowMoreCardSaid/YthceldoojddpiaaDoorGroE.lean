import Derived.Test.YthceldoojddpiaaDoorGroC
namespace Go.Abs.Sh
set_option linter.unusedVariables false
set_option linter.unusedSimpArgs false
theorem wrap_nat (n : Nat) (h : n < 9223372036854775808) : IntKind.i64.wrap (n : Int) = (n : Int) := wrap_i64 (by omega) (by omega)
theorem wrap_succ {n : Nat} (h : n < 4611686018427387904) : IntKind.i64.wrap ((n : Int) + 1) = ((n + 1 : Nat) : Int) := by rw [wrap_i64 (by omega) (by omega)]; simp
theorem sli_nat {A : Type} (l : List A) {a b : Nat} (h1 : a ≤ b) (h2 : b ≤ l.length) : sliO l (a : Int) (b : Int) = some ((l.drop a).take (b - a)) := by
  unfold sliO
  rw [if_pos (by omega)]
  simp only [Int.toNat_natCast]
theorem app_of {A : Type} {k : Nat} {l m : List A} (h : (l.length + m.length) * k ≤ 140737488355328) (h1 : l.length + m.length ≤ 140737488355328) : appO k l m = some (l ++ m) := by
  unfold appO; rw [if_pos ⟨h, h1⟩]
end Go.Abs.Sh
