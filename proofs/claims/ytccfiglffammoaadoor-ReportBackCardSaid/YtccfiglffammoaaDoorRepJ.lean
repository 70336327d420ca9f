import Derived.Test.YtccfiglffammoaaDoorRepI
namespace Go.Abs.Sh
set_option linter.unusedVariables false
set_option linter.unusedSimpArgs false
theorem cln_app {a b : List Int} (ha : cln a) (hb : cln b) : cln (a ++ b) := fun x hx => by
  rcases List.mem_append.1 hx with h | h
  · exact ha x h
  · exact hb x h
end Go.Abs.Sh
