import Derived.Test.YtabnbhknefibaaaDoorHedB
namespace Go.Abs.Sh
set_option linter.unusedVariables false
set_option linter.unusedSimpArgs false
theorem fields_refl (l : List T_Field) (hn : l.length < 4294967296) : wherrykeep_Fields l l = some true := by
  unfold wherrykeep_Fields
  refine cnd_f (by simp) (bndL (s := ()) (loop_from (fun i => (i : Int)) l.length BIG rfl (by unfold BIG; omega) (fun i hi => ?_) (cnd_f (decide_eq_false (by omega)) rfl)) rfl)
  exact cnd_t (decide_eq_true (by omega)) (bndL (s := false) (bnd (ixO_of hi) (bnd (getO_of hi) (bnd (ixO_of hi) (bnd (getO_of hi) (cnd_f (by simp) (bnd (ixO_of hi) (bnd (getO_of hi) (bnd (ixO_of hi) (bnd (getO_of hi) (by simp)))))))))) (cnd_f rfl (bnd (some_wrap (by omega) (by omega)) rfl)))
end Go.Abs.Sh
