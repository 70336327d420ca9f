import Derived.Test.YtepkcpjfogjfhaaMatE
namespace Go.Abs.Sh
set_option linter.unusedVariables false
set_option linter.unusedSimpArgs false
set_option maxRecDepth 10000
/-! Rows of tokens: what is right, and what they stand for. -/
end Go.Abs.Sh
