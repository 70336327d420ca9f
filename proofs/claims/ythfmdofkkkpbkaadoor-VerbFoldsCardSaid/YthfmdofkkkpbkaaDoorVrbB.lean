import Derived.Test.YthfmdofkkkpbkaaDoorVrbR
namespace Go.Abs.Sh
set_option linter.unusedVariables false
set_option linter.unusedSimpArgs false
set_option maxRecDepth 100000
theorem verb_wakes : wherrylaw12_wakes = some true := by kernel_rfl
def hstep (n : Int) (q : T_Param) : Int := IntKind.i64.wrap (IntKind.i64.wrap (n + (q.Key.size : Int)) + (q.Val.size : Int))
structure LightC (c : T_Cmd) : Prop where
  t : c.Text.size ≤ 3000
  l : c.Path.Local.size ≤ 3000
  d : c.Path.Domain.size ≤ 3000
  n : c.Params.length ≤ 600
  p : ∀ q ∈ c.Params, q.Key.size ≤ 3000 ∧ q.Val.size ≤ 3000
theorem cmd_ext {a b : T_Cmd} : a = b ↔ a.Kind = b.Kind ∧ a.Text = b.Text ∧ (a.Path.Null = b.Path.Null ∧ a.Path.Local = b.Path.Local ∧ a.Path.Domain = b.Path.Domain) ∧ a.Params = b.Params := by
  refine ⟨fun h => by subst h; exact ⟨rfl, rfl, ⟨rfl, rfl, rfl⟩, rfl⟩, fun h => ?_⟩
  obtain ⟨ka, ta, ⟨na, la, da⟩, pa⟩ := a
  obtain ⟨kb, tb, ⟨nb, lb, db⟩, pb⟩ := b
  simp only at h
  obtain ⟨rfl, rfl, ⟨rfl, rfl, rfl⟩, rfl⟩ := h
  rfl
theorem keepPathC (a b : T_Path) : wherrykeep_Path a b = some (decide (a = b)) := by
  unfold wherrykeep_Path
  have hd : decide (a = b) = ((a.Null == b.Null) && ((a.Local.toList == b.Local.toList) && (a.Domain.toList == b.Domain.toList))) := by
    rw [toList_beq, toList_beq]
    obtain ⟨na, la, da⟩ := a
    obtain ⟨nb, lb, db⟩ := b
    simp only [T_Path.mk.injEq]
    cases na <;> cases nb <;> simp
  rw [hd]
  refine bndL (s := ((a.Null == b.Null) && ((a.Local.toList == b.Local.toList) && (a.Domain.toList == b.Domain.toList)))) (bnd rfl ?_) rfl
  cases h1 : (a.Null == b.Null) with
  | false => exact cnd_f rfl rfl
  | true =>
    refine cnd_t rfl ?_
    cases h2 : (a.Local.toList == b.Local.toList) with
    | false => exact cnd_f rfl rfl
    | true => exact cnd_t rfl rfl
theorem keepCmd (a b : T_Cmd) (ha : a.Params.length < 4611686018427387904) : wherrykeep_Cmd a b = some (decide (a = b)) := by
  unfold wherrykeep_Cmd
  have hkp : wherrykeep_Path (T_Path.mk a.Path.Null a.Path.Local a.Path.Domain) (T_Path.mk b.Path.Null b.Path.Local b.Path.Domain) = some (decide (a.Path = b.Path)) := keepPathC a.Path b.Path
  by_cases h1 : a.Kind = b.Kind ∧ a.Text = b.Text ∧ a.Path = b.Path ∧ a.Params.length = b.Params.length
  · obtain ⟨hk, ht, hpp, hl⟩ := h1
    rw [decide_eq_true hpp] at hkp
    have hfirst : ∀ {X Y : Option (Bool ⊕ Bool)}, cond (a.Kind != b.Kind) X (cond (!(a.Text.toList == b.Text.toList)) Y ((wherrykeep_Path (T_Path.mk a.Path.Null a.Path.Local a.Path.Domain) (T_Path.mk b.Path.Null b.Path.Local b.Path.Domain)).bind fun v1 =>
        cond ((!v1))
          (some (.inl true))
          (some (.inl (((a.Params.length : Int) != (b.Params.length : Int))))))) = some (.inl false) := by
      intro X Y
      exact cnd_f (by simp [hk]) (cnd_f (by simp [ht]) (bnd hkp (cnd_f rfl (by simp [hl]))))
    refine bndL hfirst (cnd_f rfl ?_)
    rcases first_fail (fun i => decide (a.Params[i]? = b.Params[i]?)) a.Params.length with h | ⟨k, hk', hb, hf⟩
    · have e : a.Params = b.Params := List.ext_getElem? fun i => by
        by_cases hi : i < a.Params.length
        · simpa using h i hi
        · rw [List.getElem?_eq_none (by omega), List.getElem?_eq_none (by omega)]
      have hab : a = b := cmd_ext.2 ⟨hk, ht, ⟨by rw [hpp], by rw [hpp], by rw [hpp]⟩, e⟩
      rw [decide_eq_true hab]
      refine bndL (s := ()) (loop_from (fun i => (i : Int)) a.Params.length _ rfl (by simp only [BIG]; omega) (fun i hi => ?_) ?_) rfl
      · have hi2 : i < b.Params.length := by omega
        have h1 : a.Params[i] = b.Params[i] := by simp only [e]
        exact cnd_t (decide_eq_true (by omega)) (bndL (s := false) (bnd (ixO_of hi) (bnd (getO_of hi) (bnd (ixO_of hi2) (bnd (getO_of hi2) (cnd_f (by rw [h1]; simp) (bnd (ixO_of hi) (bnd (getO_of hi) (bnd (ixO_of hi2) (bnd (getO_of hi2) (by rw [h1]; simp)))))))))) (cnd_f rfl (bnd (some_wrap (by omega) (by omega)) rfl)))
      · exact cnd_f (decide_eq_false (by omega)) rfl
    · have hk2 : k < b.Params.length := by omega
      have hne : a.Params[k] ≠ b.Params[k] := by
        intro h
        rw [List.getElem?_eq_getElem hk', List.getElem?_eq_getElem hk2, h] at hf
        simp at hf
      have e : a ≠ b := fun h => hne (by simp only [h])
      rw [decide_eq_false e]
      refine bndR (loop_from (fun i => (i : Int)) k _ rfl (by simp only [BIG]; omega) (fun i hi => ?_) ?_) rfl
      · have hi1 : i < a.Params.length := by omega
        have hi2 : i < b.Params.length := by omega
        have h1 : a.Params[i] = b.Params[i] := by
          have := hb i hi
          rw [List.getElem?_eq_getElem hi1, List.getElem?_eq_getElem hi2] at this
          simpa using this
        exact cnd_t (decide_eq_true (by omega)) (bndL (s := false) (bnd (ixO_of hi1) (bnd (getO_of hi1) (bnd (ixO_of hi2) (bnd (getO_of hi2) (cnd_f (by rw [h1]; simp) (bnd (ixO_of hi1) (bnd (getO_of hi1) (bnd (ixO_of hi2) (bnd (getO_of hi2) (by rw [h1]; simp)))))))))) (cnd_f rfl (bnd (some_wrap (by omega) (by omega)) rfl)))
      · refine cnd_t (decide_eq_true (by omega)) (bndL (s := true) (bnd (ixO_of hk') (bnd (getO_of hk') (bnd (ixO_of hk2) (bnd (getO_of hk2) ?_)))) (cnd_t rfl rfl))
        by_cases h5 : a.Params[k].Key = b.Params[k].Key
        · refine cnd_f (by simp [h5]) (bnd (ixO_of hk') (bnd (getO_of hk') (bnd (ixO_of hk2) (bnd (getO_of hk2) ?_))))
          have h6 : a.Params[k].Val ≠ b.Params[k].Val := fun h6 => hne (by
            generalize a.Params[k] = x at *
            generalize b.Params[k] = y at *
            cases x; cases y; simp_all)
          rw [toList_beq, decide_eq_false h6]; rfl
        · exact cnd_t (by rw [toList_beq, decide_eq_false h5]; rfl) rfl
  · have e : a ≠ b := fun h => h1 (by subst h; exact ⟨rfl, rfl, rfl, rfl⟩)
    rw [decide_eq_false e]
    refine bndL (s := true) ?_ (cnd_t rfl rfl)
    by_cases hk : a.Kind = b.Kind
    · refine cnd_f (by simp [hk]) ?_
      by_cases ht : a.Text = b.Text
      · refine cnd_f (by simp [ht]) (bnd hkp ?_)
        by_cases hp : a.Path = b.Path
        · refine cnd_f (by rw [decide_eq_true hp]; rfl) ?_
          rw [bne_iff_ne.2 (fun hl : (a.Params.length : Int) = (b.Params.length : Int) => h1 ⟨hk, ht, hp, by omega⟩)]
        · exact cnd_t (by rw [decide_eq_false hp]; rfl) rfl
      · exact cnd_t (by rw [toList_beq, decide_eq_false ht]; rfl) rfl
    · exact cnd_t (bne_iff_ne.2 hk) rfl
end Go.Abs.Sh
