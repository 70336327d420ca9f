import Derived.Test.YtckpeedhchjjnaaGreatDoorBD
namespace Go.Abs
set_option linter.unusedVariables false
def Io:AV→AV
 | .v x => .v x
 | .fl _ z xs => .fl .shr z xs
 | .fr _ _ z xs => .fr .shr true z xs
 | _ => .any
section
variable {A:Type}
end
section
variable {P:Program} {ty:TypeId} {pos:String} {aft:Array Edge} {gd:Option (Nat×Bool)}
end
end Go.Abs
