import Derived.Test.YtjnnkhmhjcjhdaaGreatDoorAN
import Derived.Maps.Own
import Derived.Maps.Views
import Derived.WideKeyArr
import Derived.Laws.Cover3
namespace Go.Abs
open Go.WideMaps (ArrKey)
def Kd (q:List Int):Value := .agg (q.map (Value.int .u8)).toArray
section
variable {P:Program}
structure Lt (P:Program) (T k e:TypeId) (n:Nat):Prop where
 ut:P.underlying T=some (.map k e)
 ue:P.underlying e=some (.int .i64)
 ze:(P.info? e).bind (·.zero)=some (.int .i64 0)
 kd:Maps.Keyed P k
 ky:∀ q:List Int,q.length=n→(∀ x∈q,0≤x∧x<256)→∃ l,keyOf P k (Kd q)=some l
variable {ty:TypeId} {pos:String} {aft:Array Edge} {gd:Option (Nat×Bool)}
end
end Go.Abs
