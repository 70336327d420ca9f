import Derived.Test.YtjnnkhmhjcjhdaaGreatDoorLineM
import Derived.KernelRfl
namespace Go.Abs.Sh
set_option linter.unusedVariables false
set_option linter.unusedSimpArgs false
set_option maxRecDepth 10000
inductive Wt:List Int→List (List Int)→List Int→Prop
 | nil {b:List Int} (h:Ar b=none):Wt b [] b
 | cons {b:List Int} {e:Nat} {ls:List (List Int)} {r:List Int} (h:Ar b=some e) (t:Wt (b.drop (e+2)) ls r):Wt b (b.take e::ls) r
def Wz (l:List Int):Prop:=∀ x∈l,x≠13∧x≠10
end Go.Abs.Sh
