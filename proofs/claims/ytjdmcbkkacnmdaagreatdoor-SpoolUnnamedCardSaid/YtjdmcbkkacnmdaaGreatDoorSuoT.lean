import Derived.Test.YtjdmcbkkacnmdaaGreatDoorSuoK
namespace Go.Abs.Sh
set_option linter.unusedVariables false
set_option linter.unusedSimpArgs false
set_option maxRecDepth 10000
theorem twin_mail {m : T_Mail} (h : LM m) : wherrykeep_TwinMail m = some m := by
 obtain ⟨h1,h2⟩ := h
 simp only [mW] at h2
 simp only [wherrykeep_TwinMail,wherrykeep_TwinPaths,wherrykeep_Twin]
 rw [app_nil (by omega) (by omega),app_nil (by omega) (by omega)]; rfl
theorem twin_rec {r : T_Rec} (h : LR r) : wherrykeep_TwinRec r = some r := by
 obtain ⟨h1,h2,h3⟩ := h
 have hm := twin_mail h3
 simp only [wherrykeep_TwinRec,wherrykeep_TwinInts,wherrykeep_Twin]
 refine bnd hm ?_
 rw [app_nil (by omega) (by omega),app_nil (by omega) (by omega)]; rfl
end Go.Abs.Sh
