import Derived.Test.YtkgfjkfccpjcgaaDoorOkc6
set_option linter.unusedVariables false
set_option linter.unusedSimpArgs false
set_option maxHeartbeats 1000000
namespace Go.Proofs.YtkgfjkfccpjcgaaDoor
open Go.Abs Go.Abs.Sh Tryd
open List (map flatten)
open Value (int)
end Go.Proofs.YtkgfjkfccpjcgaaDoor
