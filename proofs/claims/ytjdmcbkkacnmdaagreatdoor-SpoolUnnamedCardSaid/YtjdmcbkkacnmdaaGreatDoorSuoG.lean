import Derived.Test.YtjdmcbkkacnmdaaGreatDoorSuoF
import Derived.Test.YtjdmcbkkacnmdaaGreatDoorSpoA
namespace Go.Abs.Sh
set_option linter.unusedVariables false
set_option linter.unusedSimpArgs false
set_option maxRecDepth 10000
/-! Records one after the other. -/
theorem rok_of {r : T_Rec} (h : T_Rec.wz r) (hl : LR r) : Rok r := by
 refine ⟨hl,fun x hx => ?_⟩
 obtain ⟨_,⟨_,_,⟨_,h4⟩,_⟩,_⟩ := h
 have := h4 x hx
 simp only [wfI,Lit.wf,IntKind.min,IntKind.max,IntKind.signed,IntKind.bits] at this
 have h2 : 0 ≤ x ∧ x ≤ 255 := by simpa using this
 omega
theorem heavy_rok (l : List T_Rec) (hw : wzL 208 T_Rec.wz l) : ∃ b,wherrylaw18_Heavy l = some b ∧ (b = false → l.length ≤ 60 ∧ ∀ r ∈ l,Rok r) := by
 have hl := hw.1
 simp only [reachBytes] at hl
 obtain ⟨b,h,hb⟩ := heavy18 l (fun r hr => re_of (hw.2 r hr)) (by omega)
 exact ⟨b,h,fun e => ⟨(hb e).1,fun r hr => rok_of (hw.2 r hr) ((hb e).2 r hr)⟩⟩
end Go.Abs.Sh
