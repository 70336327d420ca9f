import Derived.Test.YtckpeedhchjjnaaGreatDoorBE
namespace Go.Abs
set_option linter.unusedVariables false
section
variable {P:Program} {ty:TypeId} {pos:String} {aft:Array Edge} {gd:Option (Nat×Bool)}
end
end Go.Abs
