import Derived.Test.YtabnbhknefibaaaDoorHedF
namespace Go.Abs.Sh
set_option linter.unusedVariables false
set_option linter.unusedSimpArgs false
instance dec_cln (l : List Int) : Decidable (cln l) := inferInstanceAs (Decidable (∀ x ∈ l, x ≠ 13 ∧ x ≠ 10))
instance dec_byt (l : List Int) : Decidable (byt l) := inferInstanceAs (Decidable (∀ x ∈ l, 0 ≤ x ∧ x < 256))
end Go.Abs.Sh
