/-
 Calls behind a pointer that are lent own rows: whole,or an element of them; answers that hold rows of own rows.
-/
import Derived.Test.YtglabbpbianmnaaGreatDoorBE
namespace Go.Abs
set_option linter.unusedVariables false
def Lend (N:List Ent) (ys:List Operand) (avs:List AV):Prop :=
 ∀ (g:Gh) (V:Loc→Value) (oN:List Nat) (a:Act) (w:World),(∀ t,V (.slot t)=a.tmps.getD t undef)→Es g V w N oN→Rs (gh0 w g.Imm (fun b=>g.Im b∨b∈oN)) V0 w avs (ys.map a.eval) []
theorem lend_nil {N:List Ent}:Lend N [] []:=fun g V oN a w hv hN=>by simp [Rs]
section
variable {P:Program} {ty:TypeId} {pos:String} {aft:Array Edge} {gd:Option (Nat×Bool)}
end
end Go.Abs
