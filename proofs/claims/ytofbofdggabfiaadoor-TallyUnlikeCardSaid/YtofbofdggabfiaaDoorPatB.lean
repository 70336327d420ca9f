import Derived.Test.YtofbofdggabfiaaDoorPatA
namespace Go.Abs.Sh
set_option linter.unusedVariables false
set_option linter.unusedSimpArgs false
structure Small (p : T_Path) : Prop where
  l : p.Local.size < 1152921504606846976
  d : p.Domain.size < 1152921504606846976
end Go.Abs.Sh
