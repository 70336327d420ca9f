import Derived.Test.YtkgfjkfccpjcgaaDoorLawM
namespace Go.Abs.Sh
set_option linter.unusedVariables false
set_option linter.unusedSimpArgs false
def ints (m : List Nat) : List Int := m.map fun n : Nat => (n : Int)
def ws (m : List Nat) : Nat → Nat
 | 0 => 0
 | k + 1 => ws m k + m.count (k + 1) * 2 ^ (15 - (k + 1))
def fst (m : List Nat) : Nat → Nat
 | 0 => 0
 | 1 => 0
 | n + 2 => 2 * (fst m (n + 1) + m.count (n + 1))
end Go.Abs.Sh
