import Derived.Test.YtglabbpbianmnaaGreatDoorBunS
namespace Go.Abs.Sh
set_option linter.unusedVariables false
set_option linter.unusedSimpArgs false
set_option maxRecDepth 100000
theorem bundlePacks_true (l : List T_Mail) (origin number : Int) (hl : wzL 120 T_Mail.wz l) : wherrylaw17_BundlePacks l origin number = some true := by
  have hmr : ∀ m ∈ l, mRe m ∧ byt m.Body := fun m hm => wz_mail (hl.2 m hm)
  obtain ⟨hv, hh, hlm⟩ := heavy17 l fun m hm => (hmr m hm).1
  unfold wherrylaw17_BundlePacks
  cases hv
  case true => exact bnd hh (cnd_t rfl rfl)
  obtain ⟨hl20, hlm⟩ := hlm rfl
  have hmf : ∀ m ∈ l, LM m ∧ byt m.Body := fun m hm => ⟨hlm m hm, (hmr m hm).2⟩
  refine bnd hh (cnd_f rfl ?_)
  rcases pack_eq (o := origin) (nb := number) hmf (by omega) with hp | ⟨n, h1, h2, h3, hp, ⟨x, hx⟩, hmore⟩
  · exact bnd hp (cnd_t rfl (bndL (s := true) (cnd_t rfl (cnd_t rfl (bnd wakes17 rfl))) rfl))
  refine bnd hp (cnd_f rfl (bndL (s := false) (cnd_f (decide_eq_false (by show ¬ (n : Int) < 1; omega)) (cnd_f (decide_eq_false (by show ¬ (l.length : Int) < (n : Int); omega)) (inl_of (decide_eq_false (by show ¬ 4 < (n : Int); omega))))) (cnd_f rfl ?_)))
  have hcf : ∀ k, ∀ m ∈ (l.take k).map clnM, LM m ∧ byt m.Body := fun k m hmm => by
    obtain ⟨q, hq, rfl⟩ := List.mem_map.1 hmm
    have := hmf q (List.mem_of_mem_take hq)
    exact ⟨lm_cln this.1, this.2⟩
  rcases bytes_of (b := T_Bundle.mk origin number ((l.take n).map clnM)) (hcf n) (by show ((l.take n).map clnM).length ≤ 20; simp; omega) with ⟨e, he, h52⟩ | ⟨hck, ho, hn1, hn2, hl1, hl4, hvm, hw, hby⟩
  · rw [he] at hx
    have := (Prod.mk.inj (Option.some.inj hx)).2
    omega
  have hrd := read_whole (hcf n) hck ho hn1 hn2 hl4 hvm hw hby
  have hkp := keepB_refl (T_Bundle.mk origin number ((l.take n).map clnM)) (by show ((l.take n).map clnM).length < 1000; simp; omega) fun m hm => lm_len (hcf n m hm).1
  refine bndL (pl_loop h2 h3 hlm) (bnd hby (bnd hrd (bndL (s := false) (cnd_f rfl (cnd_f rfl (bnd hkp rfl))) (cnd_f rfl ?_))))
  by_cases q1 : n = l.length
  · exact bndL (s := true) (cnd_t (beq_iff_eq.2 (by rw [← q1])) rfl) (cnd_t rfl (bnd wakes17 rfl))
  by_cases q2 : n = 4
  · exact bndL (s := true) (cnd_f (beq_eq_false_iff_ne.2 (by show (n : Int) ≠ (l.length : Int); omega)) (inl_of (by rw [q2]; rfl))) (cnd_t rfl (bnd wakes17 rfl))
  obtain ⟨y, e, hye, hne⟩ := hmore (by omega) (by omega)
  have hi : n < l.length := by omega
  have htl : ((l.take n).map clnM).length = n := by simp; omega
  have hap : appO 120 ((l.take n).map clnM) [clnM l[n]] = some ((l.take (n + 1)).map clnM) := by
    rw [List.take_succ_eq_append_getElem hi, List.map_append]
    exact app_of (by simp only [htl, List.length_cons, List.length_nil]; omega) (by simp only [htl, List.length_cons, List.length_nil]; omega)
  refine bndL (s := false) (cnd_f (beq_eq_false_iff_ne.2 (by show (n : Int) ≠ (l.length : Int); omega)) (inl_of (beq_eq_false_iff_ne.2 (by show (n : Int) ≠ 4; omega)))) (cnd_f rfl (bnd (ixO_of hi) (bnd (getO_of hi) (bnd (plain_eq (hlm _ (List.getElem_mem hi))) (bnd hap (bnd (x := (y, e)) hye (bndL (s := true) (cnd_t (bne_iff_ne.2 hne) (bnd wakes17 rfl)) rfl)))))))
end Go.Abs.Sh
