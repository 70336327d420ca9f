import Derived.Test.YtkgfjkfccpjcgaaDoorBF
namespace Go.Abs
set_option linter.unusedVariables false
theorem mp.refl:∀ es:List aJ,mp es es
 | [] => .nil
 | e::es => .same e (mp.refl es)
theorem mp.app:∀ (es:List aJ) {fs fs':List aJ},mp fs fs'→mp (es++fs) (es++fs')
 | [],_,_,h=>h
 | e::es,_,_,h => .same e (mp.app es h)
section
variable {P:Program} {Q:Exit→Act→World→Prop} {g0:Gh} {rnd:Option Nat}
variable {ty:TypeId} {pos:String} {aft:Array Edge} {gd:Option (Nat×Bool)}
inductive Gn (N:List aJ):List AV→List AV→Prop
 | nil:Gn N [] []
 | p {c av:AV} {cs avs:List AV}:pW N c=av→Gn N cs avs→Gn N (c::cs) (av::avs)
 | o {t i z:Nat} {T E:TypeId} {bs xs cs avs:List AV} {ics:List IC}:look N t = .box T bs→bs[i]? = some (.hid (Hv E z xs))→Cu true (xs.map HX) ics→Gn N cs avs→Gn N (.same (.cell t i)::cs) (.fr .shr true z ics::avs)
 | q {z:Nat} {E:TypeId} {xs cs avs:List AV} {ics:List IC}:Cu true (xs.map HX) ics→Gn N cs avs→Gn N (.hid (Hv E z xs)::cs) (.fr .shr true z ics::avs)
 | v {t i z gs:Nat} {T E:TypeId} {bs xs cs avs:List AV} {vs:List Value} {ics:List IC}:look N t = .box T bs→bs[i]? = some (.fl (.own E) z vs)→(gs,.inv (JG xs vs))∈N→Cu true (xs.map HX) ics→Gn N cs avs→Gn N (.same (.cell t i)::cs) (.fr .shr true z ics::avs)
end
end Go.Abs
