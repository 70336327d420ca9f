import Derived.Test.YtjnnkhmhjcjhdaaGreatDoorGatF
namespace Go.Abs.Sh
set_option linter.unusedVariables false
set_option linter.unusedSimpArgs false
set_option maxRecDepth 100000
theorem EG:gf=some true:=by kernel_rfl
abbrev Io:bp:=bp.mk 0 (⟨#[]⟩:ByteArray) GZ [] false [] (⟨#[]⟩:ByteArray) false
abbrev gE:bp:=bp.mk 1 (⟨#[104]⟩:ByteArray) GZ [] false [] (⟨#[]⟩:ByteArray) false
abbrev Fy:aF:=aF.mk true (⟨#[]⟩:ByteArray) (⟨#[]⟩:ByteArray)
abbrev Iv:aF:=aF.mk false (⟨#[114]⟩:ByteArray) (⟨#[98]⟩:ByteArray)
abbrev gM:bp:=bp.mk 2 (⟨#[104]⟩:ByteArray) Fy [] false [] (⟨#[]⟩:ByteArray) false
abbrev IH:bp:=bp.mk 3 (⟨#[104]⟩:ByteArray) Fy [Iv] false [] (⟨#[]⟩:ByteArray) false
abbrev Iz:bp:=bp.mk 4 (⟨#[104]⟩:ByteArray) Fy [Iv] false [] (⟨#[]⟩:ByteArray) false
theorem lE:cm (SG 0 1 Io []) (iY [69,72,76,79,32,104])=some (SG 0 1 gE [jS 250]):=by kernel_rfl
theorem lM:cm (SG 0 1 gE [jS 250]) (iY [77,65,73,76,32,70,82,79,77,58,60,62])=some (SG 0 1 gM [jS 250,jS 250]):=by kernel_rfl
theorem lR:cm (SG 0 1 gM [jS 250,jS 250]) (iY [82,67,80,84,32,84,79,58,60,114,64,98,62])=some (SG 0 1 IH [jS 250,jS 250,jS 250]):=by kernel_rfl
theorem lD:cm (SG 0 1 IH [jS 250,jS 250,jS 250]) (iY [68,65,84,65])=some (SG 0 1 Iz [jS 250,jS 250,jS 250,jS 354]):=by kernel_rfl
theorem lN:cm (SG 0 1 gE [jS 250,jS 250,jS 250,jS 354,jS 554]) (iY [78,79,79,80])=some (SG 0 1 gE [jS 250,jS 250,jS 250,jS 354,jS 554,jS 250]):=by kernel_rfl
theorem II:(0:Int)≠4:=by decide
theorem Iu:(1:Int)≠4:=by decide
theorem IV:(2:Int)≠4:=by decide
theorem IK:(3:Int)≠4:=by decide
theorem Ii (l:List Int) (h:l.all (fun x=>x != 13&&x != 10)=true):sG l:=fun x hx=>by
 have:=List.all_eq_true.1 h x hx
 simpa using this
theorem Gm (l:List Int) (h:l.all (fun x=>decide (0≤x)&&decide (x<256))=true):kC l:=fun x hx=>by
 have:=List.all_eq_true.1 h x hx
 simpa using this
theorem lf {i t:Int} {g g':bp} {o o':List bi} (L:List Int) (h4:g.Phase≠4) (hg:g.Buf=[]) (hL:(L.all (fun x=>x != 13&&x != 10)&&L.all (fun x=>decide (0≤x)&&decide (x<256))&&decide (L.length≤510))=true)
  (h:cm (SG i t g o) (iY L)=some (SG i t g' o')) (hg':g'.Buf=[]):FR i t (g,o) (L++[13,10]) (g',o'):=by
 simp only [Bool.and_eq_true,decide_eq_true_eq] at hL
 exact Ey h4 hg (Gm L hL.1.2) (Ii L hL.1.1) hL.2 h hg'
theorem wR {L:List (List Int)} (H1:uh (jn L) L []) (H2:uh (jn (L++[[46]])) (L++[[46]]) []) (hd:∀ l∈L,l≠[46]) (hb:∀ l∈L,kC l) (ht:jk L<80000) (hc:¬ ∀ l∈L,sG l) (hE:su (jn (L++[[46]]))=true) :
  iM Ge 0 1 Io ([69,72,76,79,32,104,13,10,77,65,73,76,32,70,82,79,77,58,60,62,13,10,82,67,80,84,32,84,79,58,60,114,64,98,62,13,10,68,65,84,65,13,10]++(jn (L++[[46]])++[78,79,79,80,13,10]))=some (gE,[jS 250,jS 250,jS 250,jS 354,jS 554,jS 250],0):=by
 have f1:=lf (i:=0) (t:=1) [69,72,76,79,32,104] II rfl rfl lE rfl
 have f2:=lf (i:=0) (t:=1) [77,65,73,76,32,70,82,79,77,58,60,62] Iu rfl rfl lM rfl
 have f3:=lf (i:=0) (t:=1) [82,67,80,84,32,84,79,58,60,114,64,98,62] IV rfl rfl lR rfl
 have f4:=lf (i:=0) (t:=1) [68,65,84,65] IK rfl rfl lD rfl
 have f5:=Fx H1 H2 hd hb ht (i:=0) (t:=1) (g:=Iz) (o:=[jS 250,jS 250,jS 250,jS 354]) rfl hc hE (Nat.lt_of_lt_of_le (Nat.lt_succ_self _) (Nat.le_of_ble_eq_true rfl))
 have f6:=lf (i:=0) (t:=1) [78,79,79,80] Iu rfl rfl lN rfl
 have hl:=CV H1 H2 hd hb ht
 have hlen:([69,72,76,79,32,104,13,10,77,65,73,76,32,70,82,79,77,58,60,62,13,10,82,67,80,84,32,84,79,58,60,114,64,98,62,13,10,68,65,84,65,13,10]++(jn (L++[[46]])++[78,79,79,80,13,10])).length<1000000:=by
  rw [List.length_append,List.length_append,hl]; simp only [List.length_cons,List.length_nil]; omega
 exact DX (r:=(gE,[jS 250,jS 250,jS 250,jS 354,jS 554,jS 250])) (f1.app (f2.app (f3.app (f4.app (f5.app f6))))) II rfl (by decide) (by decide) (.inl rfl) (by decide) (by kernel_rfl) hlen (by decide) (by decide)
end Go.Abs.Sh
