import Derived.Test.YtckpeedhchjjnaaGreatDoorBF
namespace Go.Abs
set_option linter.unusedVariables false
theorem lW.refl:∀ es:List aJ,lW es es
 | [] => .nil
 | e::es => .same e (lW.refl es)
theorem lW.app:∀ (es:List aJ) {fs fs':List aJ},lW fs fs'→lW (es++fs) (es++fs')
 | [],_,_,h=>h
 | e::es,_,_,h => .same e (lW.app es h)
section
variable {P:Program} {Q:Exit→Act→World→Prop} {g0:Gh} {rnd:Option Nat}
variable {ty:TypeId} {pos:String} {aft:Array Edge} {gd:Option (Nat×Bool)}
inductive Gq (N:List aJ):List AV→List AV→Prop
 | nil:Gq N [] []
 | p {c av:AV} {cs avs:List AV}:uw N c=av→Gq N cs avs→Gq N (c::cs) (av::avs)
 | o {t i z:Nat} {T E:TypeId} {bs xs cs avs:List AV} {ics:List IC}:look N t = .box T bs→bs[i]? = some (.hid (Hv E z xs))→EE true (xs.map Io) ics→Gq N cs avs→Gq N (.same (.cell t i)::cs) (.fr .shr true z ics::avs)
 | q {z:Nat} {E:TypeId} {xs cs avs:List AV} {ics:List IC}:EE true (xs.map Io) ics→Gq N cs avs→Gq N (.hid (Hv E z xs)::cs) (.fr .shr true z ics::avs)
 | v {t i z gs:Nat} {T E:TypeId} {bs xs cs avs:List AV} {vs:List Value} {ics:List IC}:look N t = .box T bs→bs[i]? = some (.fl (.own E) z vs)→(gs,.inv (IZ xs vs))∈N→EE true (xs.map Io) ics→Gq N cs avs→Gq N (.same (.cell t i)::cs) (.fr .shr true z ics::avs)
end
end Go.Abs
