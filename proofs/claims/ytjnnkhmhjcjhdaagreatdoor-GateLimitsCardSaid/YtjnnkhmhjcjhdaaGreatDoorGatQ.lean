import Derived.Test.YtjnnkhmhjcjhdaaGreatDoorLineM
import Derived.KernelRfl
namespace Go.Abs.Sh
set_option linter.unusedVariables false
set_option linter.unusedSimpArgs false
set_option maxRecDepth 10000
inductive OB:List Int→List (List Int)→List Int→Prop
 | nil {b:List Int} (h:tR b=none):OB b [] b
 | cons {b:List Int} {e:Nat} {ls:List (List Int)} {r:List Int} (h:tR b=some e) (t:OB (b.drop (e+2)) ls r):OB b (b.take e::ls) r
def Ob (l:List Int):Prop:=∀ x∈l,x≠13∧x≠10
def MY:List (List Int)→Nat
 | []=>0
 | l::ls=>l.length+2+MY ls
end Go.Abs.Sh
