import Derived.Test.YtofbofdggabfiaaDoorStrM
namespace Go.Abs.Sh
set_option linter.unusedVariables false
set_option linter.unusedSimpArgs false
def idx2 : List Int → Option Nat
  | [] => none
  | x :: l => if x = 13 ∧ l.head? = some 10 then some 0 else (idx2 l).map (· + 1)
end Go.Abs.Sh
