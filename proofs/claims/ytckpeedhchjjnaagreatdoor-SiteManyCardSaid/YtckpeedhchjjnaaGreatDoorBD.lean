import Derived.Test.YtckpeedhchjjnaaGreatDoorAN
namespace Go.Abs
set_option linter.unusedVariables false
def IZ (cs:List AV) (vs:List Value):kO :=
 ⟨fun I M o w=>Rs (cz w I M) V0 w cs vs o,fun I M I' M' o w w' hI hM hw h =>
  cq (g:=cz w I M) (g':=cz w' I' M') (W:=[]) hI hM (fun _ _=>rfl) cs vs o (dN cs) (fun b hb=>hw b hb) h⟩
def Hv (T:TypeId) (z:Nat) (cs:List AV):EK where
 P I M x o w:=∃ (vs:List Value) (o1 o2:List Nat),o=o1++o2∧R (cz w I M) V0 w (.fl (.own T) z vs) x o1∧Rs (cz w I M) V0 w cs vs o2
 stab I M I' M' x o w w' hI hM hw h:=by
  obtain ⟨vs,o1,o2,rfl,h1,h2⟩:=h
  exact ⟨vs,o1,o2,rfl,
   fy (g:=cz w I M) (g':=cz w' I' M') (W:=[]) hI hM (fun _ _=>rfl) _ x o1 rfl (fun b hb=>hw b (hb.imp (fun h=>by simp [h]) id)) h1,
   cq (g:=cz w I M) (g':=cz w' I' M') (W:=[]) hI hM (fun _ _=>rfl) cs vs o2 (dN cs) (fun b hb=>hw b (hb.imp (fun h=>by simp [h]) id)) h2⟩
 one:=true
 cell _ I M x o w h:=by
  obtain ⟨vs,o1,o2,rfl,h1,h2⟩:=h
  simp only [R] at h1
  obtain ⟨a,n,c,⟨rfl,_⟩,_⟩:=h1
  rfl
section
variable {g:Gh} {a:Act} {w:World}
end
section
variable {P:Program} {Q:Exit→Act→World→Prop} {g0:Gh} {rnd:Option Nat}
end
section
variable {P:Program} {ty:TypeId} {pos:String} {aft:Array Edge} {gd:Option (Nat×Bool)}
end
section
variable {A:Type} {E:TypeId} {f:A→Value}
end
end Go.Abs
