import Derived.Test.YtckpeedhchjjnaaGreatDoorC1
namespace Go.Abs
section
variable {P:Program} {Q:Exit→Act→World→Prop} {g0:Gh} {rnd:Option Nat} {es es':List aJ} {e:Exit}
theorem pp (ts:List Nat) (k:PT Q g0 e es') (hk:Kp ts es es':=by exact kp):PT Q g0 e es:=fun g a w hg hs=>k g a w hg (hs.sub hk.perm)
theorem hpp {c:Code} (ts:List Nat) (k:HT rnd P Q g0 c es') (hk:Kp ts es es':=by exact kp):HT rnd P Q g0 c es:=fun g a w hg hs=>k g a w hg (hs.sub hk.perm)
end
theorem bi {p:Prop} (x:p:=by kernel_rfl):p:=x
theorem bB {p:Prop} (x:p:=by decide):p:=x
theorem dP {p:Prop} (x:p:=by simp [Instr.fill,Value.cells]; rfl):p:=x
theorem fC {p:Prop} (x:p:=by simp [List.range,List.range.loop] <;> rfl):p:=x
theorem fH {p:Prop} (x:p:=by simp [Value.oneCell']):p:=x
theorem xM {p:Prop} (x:p:=by simp):p:=x
theorem kg {p:Prop} (x:p:=by intro _ V w o a hv hes; simp only [List.map_toArray,List.map_cons,List.map_nil]; try rfl):p:=x
theorem jA {p:Prop} (x:p:=by repeat (first | exact .nil | (refine .cons ?_ ?_; first | exact .v _ | exact .fl _ _ rfl | exact .fr _ _ | exact .ro _ _ rfl | exact .shr _ _ rfl rfl | exact .fro _ _ | exact .nil _))):p:=x
theorem pg {a b:List AV} (x:nr a b:=by repeat (first | exact iV | (refine aH ?_ ?_; first | exact aV _ | exact fj _ _ | exact ew _ _ _ | exact qb _ | exact uA _ _ | exact sq _ _ | exact ww _ _ _))):nr a b:=x
abbrev vg (P:Program) (T:TypeId) (l:List Nat):Prop:=∀ fs,P.underlying T=some (.struct fs)→fs.toList.map (fun f=>(P.info? f.type).map (·.size))=l.map some
theorem vq {P:Program} {T:TypeId} {gs:Array Field} {l:List Nat} (hu:P.underlying T=some (.struct gs)) (hk:gs.toList.map (fun f=>(P.info? f.type).map (·.size))=l.map some):vg P T l:=by intro fs h; rw [hu] at h; cases h; exact hk
abbrev ct (a:List Value) (i:Nat):aJ:=(i,.v (a.getD i undef))
end Go.Abs
