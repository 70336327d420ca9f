import Derived.Test.YtabnbhknefibaaaDoorHedC
namespace Go.Abs.Sh
set_option linter.unusedVariables false
set_option linter.unusedSimpArgs false
def lineF (f : T_Field) : List Int := sbytes f.Name ++ 58 :: sbytes f.Body
end Go.Abs.Sh
