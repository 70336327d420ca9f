import Derived.Test.YtglabbpbianmnaaGreatDoorBunQ
namespace Go.Abs.Sh
set_option linter.unusedVariables false
set_option linter.unusedSimpArgs false
set_option maxRecDepth 100000
theorem ro_sh (t : List Int) : bundle_Read_sh t = bundle_Read_ro t := rfl
theorem bundleBack_true (b : T_Bundle) (t : List Int) (hb : T_Bundle.wz b) (ht : wzL 1 (wfI .u8) t) : wherrylaw17_BundleBack b t = some true := by
  have hmr : ∀ m ∈ b.Mails, mRe m ∧ byt m.Body := fun m hm => wz_mail (hb.2.2.2 m hm)
  obtain ⟨hv, hh, hlm⟩ := heavy17 b.Mails fun m hm => (hmr m hm).1
  unfold wherrylaw17_BundleBack
  cases hv
  case true => exact bndL (s := true) (bnd hh (cnd_t rfl rfl)) (cnd_t rfl rfl)
  by_cases h5 : 5000 < t.length
  · exact bndL (s := true) (bnd hh (cnd_f rfl (inl_of (decide_eq_true (by omega))))) (cnd_t rfl rfl)
  obtain ⟨hl20, hlm⟩ := hlm rfl
  have hmf : ∀ m ∈ b.Mails, LM m ∧ byt m.Body := fun m hm => ⟨hlm m hm, (hmr m hm).2⟩
  have htb : byt t := byt_of_wf ⟨by unfold maxLen; omega, ht.2⟩
  refine bndL (s := false) (bnd hh (cnd_f rfl (inl_of (decide_eq_false (by omega))))) (cnd_f rfl (bndL (s := ()) ?_ ?_))
  · rcases bytes_of hmf hl20 with ⟨e, he, h52⟩ | ⟨hck, ho, hn1, hn2, hl1, hl4, hvm, hw, hby⟩
    · exact bnd (x := ([], e)) he (cnd_f (beq_eq_false_iff_ne.2 (by show e ≠ 0; omega)) rfl)
    · have hrd := read_whole hmf hck ho hn1 hn2 hl4 hvm hw hby
      have hkp := keepB_refl b (by omega) fun m hm => lm_len (hlm m hm)
      refine bnd (x := (wholeL b, 0)) hby (cnd_t rfl (bnd hrd (bndL (s := false) (cnd_f rfl (bnd hkp (cnd_f rfl (cnd_f (decide_eq_false ?_) (bnd hck rfl))))) (cnd_f rfl rfl))))
      show ¬ 4096 < ((wholeL b).length : Int)
      omega
  · obtain ⟨y, e, hr, h | ⟨rfl, hby⟩⟩ := read_any htb (by omega)
    · obtain ⟨h1, rfl⟩ := h
      refine bnd ((ro_sh t).trans hr) (cnd_t (bne_iff_ne.2 (by show e ≠ 0; omega)) ?_)
      rcases h1 with rfl | rfl
      · exact bndL (s := true) (cnd_t rfl (bnd keepZ17 (cnd_t rfl (bnd wakes17 rfl)))) rfl
      · exact bndL (s := true) (cnd_f rfl (cnd_t rfl (bnd keepZ17 (cnd_t rfl (bnd wakes17 rfl))))) rfl
    · have hk := keepBytes_eq t t (by omega)
      rw [decide_eq_true rfl] at hk
      exact bnd ((ro_sh t).trans hr) (cnd_f rfl (bnd hby (bndL (s := true) (cnd_t rfl (bnd hk (cnd_t rfl (bnd wakes17 rfl)))) rfl)))
end Go.Abs.Sh
