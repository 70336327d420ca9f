import Derived.Test.YtohhijlgepnbeaaTreJ
namespace Go.Abs.Sh
set_option linter.unusedVariables false
set_option linter.unusedSimpArgs false
theorem lengths_zero {w : List Int} {limit : Int} (hw : okW w) (hL : okL w limit) (hf : fits w limit) : tree_Lengths w limit = some (dep w, 0) :=
  lengths_at hw hL (J := 0) (Nat.zero_le _) (fun j h => by omega) hf
end Go.Abs.Sh
