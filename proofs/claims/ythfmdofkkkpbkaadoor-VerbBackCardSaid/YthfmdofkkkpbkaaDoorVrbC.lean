import Derived.Test.YthfmdofkkkpbkaaDoorVrbA
namespace Go.Abs.Sh
set_option linter.unusedVariables false
set_option linter.unusedSimpArgs false
set_option maxRecDepth 100000
theorem verbBack_true (s : ByteArray) (c : T_Cmd) (hs : wzS s) (hc : T_Cmd.wz c) : wherrylaw12_VerbBack s c = some true := by
  unfold wherrylaw12_VerbBack
  by_cases h1 : 1000 < s.size
  · exact bndL (s := true) (cnd_t (decide_eq_true (by omega)) rfl) (cnd_t rfl rfl)
  obtain ⟨b, hb, hlt⟩ := heavy_eq c hc
  cases b with
  | true => exact bndL (s := true) (cnd_f (decide_eq_false (by omega)) (bnd hb rfl)) (cnd_t rfl rfl)
  | false =>
    have hL := hlt rfl
    refine bndL (s := false) (cnd_f (decide_eq_false (by omega)) (bnd hb rfl)) (cnd_f rfl ?_)
    have htx := text_L c hL
    refine bndL (s := ()) ?_ ?_
    · by_cases hv : vparse (fmtL c) = (c, 0)
      · rw [if_pos hv] at htx
        have hp := parse_L (fmtL c) (byt_fmtL c)
        rw [hv] at hp
        have hk := keepCmd c c (by have := hL.n; omega)
        rw [decide_eq_true rfl] at hk
        have hlen := (vparse_ok' hv).1
        refine bnd htx (cnd_t rfl (bnd hp (bndL (s := false) (cnd_f rfl (bnd hk (cnd_f rfl ?_))) (cnd_f rfl rfl))))
        rw [decide_eq_false (by simp only [bstr_size]; omega)]
      · rw [if_neg hv] at htx
        exact bnd htx (cnd_f rfl rfl)
    · refine bnd (parse_S s) ?_
      by_cases hn : (vparse (sbytes s)).2 = 0
      · obtain ⟨x, hx⟩ : ∃ x, vparse (sbytes s) = (x, 0) := ⟨_, Prod.ext rfl hn⟩
        rw [hx]
        have hp := parse_L (fmtL x) (byt_fmtL x)
        rw [(back hx).1] at hp
        have hk := keepCmd x x (by have := (light_of hx).n; omega)
        rw [decide_eq_true rfl] at hk
        exact cnd_f rfl (bnd (text_back hx) (cnd_f rfl (bnd hp (bndL (s := true) (cnd_t rfl (bnd hk (cnd_t rfl (bnd verb_wakes rfl)))) rfl))))
      · obtain ⟨h0, hcode⟩ := vparse_code (sbytes s) hn
        have hk := keepCmd noC noC (by decide)
        rw [decide_eq_true rfl] at hk
        obtain ⟨n, hx⟩ : ∃ n, vparse (sbytes s) = (noC, n) := ⟨_, Prod.ext h0 rfl⟩
        rw [hx] at hcode ⊢
        simp only at hcode
        refine cnd_t ?_ (bndL (s := true) ?_ rfl)
        · rcases hcode with rfl | rfl | rfl <;> rfl
        · rcases hcode with rfl | rfl | rfl
          · exact cnd_t rfl (bnd hk (cnd_t rfl (bnd verb_wakes rfl)))
          · exact cnd_f rfl (cnd_t rfl (bnd hk (cnd_t rfl (bnd verb_wakes rfl))))
          · exact cnd_f rfl (cnd_f rfl (cnd_t rfl (bnd hk (cnd_t rfl (bnd verb_wakes rfl)))))
end Go.Abs.Sh
