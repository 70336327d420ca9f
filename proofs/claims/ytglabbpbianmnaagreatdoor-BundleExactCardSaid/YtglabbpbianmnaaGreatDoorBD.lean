import Derived.Test.YtglabbpbianmnaaGreatDoorAN
namespace Go.Abs
set_option linter.unusedVariables false
def Ji (cs:List AV) (vs:List Value):kL :=
 ⟨fun I M o w=>Rs (fU w I M) V0 w cs vs o,fun I M I' M' o w w' hI hM hw h =>
  eh (g:=fU w I M) (g':=fU w' I' M') (W:=[]) hI hM (fun _ _=>rfl) cs vs o (gm cs) (fun b hb=>hw b hb) h⟩
def Hf (T:TypeId) (z:Nat) (cs:List AV):Ij where
 P I M x o w:=∃ (vs:List Value) (o1 o2:List Nat),o=o1++o2∧R (fU w I M) V0 w (.fl (.own T) z vs) x o1∧Rs (fU w I M) V0 w cs vs o2
 stab I M I' M' x o w w' hI hM hw h:=by
  obtain ⟨vs,o1,o2,rfl,h1,h2⟩:=h
  exact ⟨vs,o1,o2,rfl,
   je (g:=fU w I M) (g':=fU w' I' M') (W:=[]) hI hM (fun _ _=>rfl) _ x o1 rfl (fun b hb=>hw b (hb.imp (fun h=>by simp [h]) id)) h1,
   eh (g:=fU w I M) (g':=fU w' I' M') (W:=[]) hI hM (fun _ _=>rfl) cs vs o2 (gm cs) (fun b hb=>hw b (hb.imp (fun h=>by simp [h]) id)) h2⟩
 one:=true
 cell _ I M x o w h:=by
  obtain ⟨vs,o1,o2,rfl,h1,h2⟩:=h
  simp only [R] at h1
  obtain ⟨a,n,c,⟨rfl,_⟩,_⟩:=h1
  rfl
section
variable {g:Gh} {a:Act} {w:World}
end
section
variable {P:Program} {Q:Exit→Act→World→Prop} {g0:Gh} {rnd:Option Nat}
end
section
variable {P:Program} {ty:TypeId} {pos:String} {aft:Array Edge} {gd:Option (Nat×Bool)}
end
section
variable {A:Type} {E:TypeId} {f:A→Value}
end
end Go.Abs
