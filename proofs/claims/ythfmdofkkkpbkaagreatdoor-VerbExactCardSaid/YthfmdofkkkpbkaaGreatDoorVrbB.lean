import Derived.Test.YthfmdofkkkpbkaaGreatDoorVrbR
namespace Go.Abs.Sh
set_option linter.unusedVariables false
set_option linter.unusedSimpArgs false
set_option maxRecDepth 100000
theorem wz47 {s : ByteArray} (h : wzS s) : s.size ≤ 140737488351232 := by simpa only [wzS, reachBytes] using h
def hstep (n : Int) (q : T_Param) : Int := IntKind.i64.wrap (IntKind.i64.wrap (n + (q.Key.size : Int)) + (q.Val.size : Int))
def psum (l : List T_Param) : Nat := (l.map fun q => q.Key.size + q.Val.size).sum
theorem hfold : ∀ (l : List T_Param) (n : Nat), (∀ q ∈ l, T_Param.wz q) → l.length ≤ 20 → n + l.length * 281474976702464 < 9223372036854775808 → l.foldl hstep (n : Int) = ((n + psum l : Nat) : Int)
  | [], n, _, _, _ => by simp [psum]
  | q :: l, n, h, hl, hn => by
    have hq := h q List.mem_cons_self
    have h1 := wz47 hq.1
    have h2 := wz47 hq.2
    simp only [List.length_cons] at hl hn
    have e : hstep (n : Int) q = ((n + (q.Key.size + q.Val.size) : Nat) : Int) := by
      unfold hstep
      rw [wrap_i64 (n := (n : Int) + (q.Key.size : Int)) (by omega) (by omega), wrap_i64 (by omega) (by omega)]; omega
    rw [List.foldl_cons, e, hfold l _ (fun x hx => h x (List.mem_cons_of_mem _ hx)) (by omega) (by omega)]
    simp only [psum, List.map_cons, List.sum_cons]; omega
theorem psum_mem {l : List T_Param} {q : T_Param} (h : q ∈ l) : q.Key.size + q.Val.size ≤ psum l := by
  induction l with
  | nil => cases h
  | cons x l ih =>
    simp only [psum, List.map_cons, List.sum_cons]
    rcases List.mem_cons.1 h with rfl | h
    · omega
    · have := ih h; simp only [psum] at this; omega
structure LightC (c : T_Cmd) : Prop where
  t : c.Text.size ≤ 3000
  l : c.Path.Local.size ≤ 3000
  d : c.Path.Domain.size ≤ 3000
  n : c.Params.length ≤ 600
  p : ∀ q ∈ c.Params, q.Key.size ≤ 3000 ∧ q.Val.size ≤ 3000
theorem heavy_eq (c : T_Cmd) (hz : T_Cmd.wz c) : ∃ b, wherrylaw12_heavy c = some b ∧ (b = false → LightC c) := by
  unfold wherrylaw12_heavy
  have ht := wz47 hz.2.1
  have hl := wz47 hz.2.2.1.2.1
  have hd := wz47 hz.2.2.1.2.2
  have hlen : c.Params.length ≤ 4398046510976 := by
    have := hz.2.2.2.1
    simp only [reachBytes] at this
    omega
  have w1 : some (IntKind.i64.wrap ((c.Text.size : Int) + (c.Path.Local.size : Int))) = some (((c.Text.size + c.Path.Local.size : Nat)) : Int) := by
    rw [wrap_i64 (by omega) (by omega)]; simp
  have w2 : some (IntKind.i64.wrap (((c.Text.size + c.Path.Local.size : Nat) : Int) + (c.Path.Domain.size : Int))) = some (((c.Text.size + c.Path.Local.size + c.Path.Domain.size : Nat)) : Int) := by
    rw [wrap_i64 (by omega) (by omega)]; simp
  have hloop := loop_from (S := Int × Int) (O := Int ⊕ Bool) (f := fun ((s14, s15) : Int × Int) =>
      cond ((decide (s15 < (c.Params.length : Int))))
        ((ixO s15 c.Params.length).bind fun v4 =>
        (getO c.Params v4).bind fun v5 =>
        (some (IntKind.i64.wrap (s14 + (v5.Key.size : Int)))).bind fun v6 =>
        (ixO s15 c.Params.length).bind fun v7 =>
        (getO c.Params v7).bind fun v8 =>
        (some (IntKind.i64.wrap (v6 + (v8.Val.size : Int)))).bind fun v9 =>
        (some (IntKind.i64.wrap (s15 + 1))).bind fun v10 =>
        some (.inl (v9, v10)))
        (some (.inr (.inl s14)))) (s := (((c.Text.size + c.Path.Local.size + c.Path.Domain.size : Nat) : Int), 0)) (o := .inl (c.Params.foldl hstep ((c.Text.size + c.Path.Local.size + c.Path.Domain.size : Nat) : Int)))
      (fun i => ((c.Params.take i).foldl hstep ((c.Text.size + c.Path.Local.size + c.Path.Domain.size : Nat) : Int), (i : Int))) c.Params.length BIG (by simp) (by simp only [BIG]; omega)
      (fun i hi => by
        refine cnd_t (decide_eq_true (by omega)) (bnd (ixO_of hi) (bnd (getO_of hi) (bnd rfl (bnd (ixO_of hi) (bnd (getO_of hi) (bnd rfl (bnd (some_wrap (by omega) (by omega)) ?_)))))))
        rw [List.take_add_one, List.getElem?_eq_getElem hi, Option.toList_some, List.foldl_append]
        rfl)
      (by
        rw [List.take_length]
        exact cnd_f (decide_eq_false (by omega)) rfl)
  by_cases h20 : c.Params.length ≤ 20
  · have hf := hfold c.Params (c.Text.size + c.Path.Local.size + c.Path.Domain.size) hz.2.2.2.2 h20 (by omega)
    rw [hf] at hloop
    by_cases hbig : 3000 < c.Text.size + c.Path.Local.size + c.Path.Domain.size + psum c.Params
    · exact ⟨true, bnd w1 (bnd w2 (bndL hloop (bndL (s := true) (cnd_t (decide_eq_true (by omega)) rfl) rfl))), fun h => by cases h⟩
    · refine ⟨false, bnd w1 (bnd w2 (bndL hloop (bndL (s := false) (cnd_f (decide_eq_false (by omega)) (by rw [decide_eq_false (by omega)])) rfl))), fun _ => ⟨by omega, by omega, by omega, by omega, fun q hq => ?_⟩⟩
      have := psum_mem hq
      omega
  · refine ⟨true, bnd w1 (bnd w2 (bndL hloop (bndL (s := true) ?_ rfl))), fun h => by cases h⟩
    generalize (c.Params.foldl hstep ((c.Text.size + c.Path.Local.size + c.Path.Domain.size : Nat) : Int)) = z
    by_cases hz : 3000 < z
    · exact cnd_t (decide_eq_true hz) rfl
    · exact cnd_f (decide_eq_false hz) (by rw [decide_eq_true (by omega)])
theorem parEq (a b : T_Param) : ((a.Key.toList == b.Key.toList) && ((a.Val.toList == b.Val.toList) && true)) = decide (a = b) := by
  rw [toList_beq, toList_beq, Bool.and_true, ← Bool.decide_and]
  refine decide_eq_decide.2 ⟨fun h => ?_, fun h => by subst h; exact ⟨rfl, rfl⟩⟩
  cases a; cases b
  simp only at h
  rw [h.1, h.2]
theorem eqPar (a b : List T_Param) (ha : a.length < 4611686018427387904) : slices_Equal_api_Param_api_Param a b = some (decide (a = b)) := by
  unfold slices_Equal_api_Param_api_Param
  by_cases hl : a.length = b.length
  · refine cnd_f (by simp [hl]) ?_
    rcases first_fail (fun i => decide (a[i]? = b[i]?)) a.length with h | ⟨k, hk, hb, hf⟩
    · have e : a = b := List.ext_getElem? fun i => by
        by_cases hi : i < a.length
        · simpa using h i hi
        · rw [List.getElem?_eq_none (by omega), List.getElem?_eq_none (by omega)]
      rw [decide_eq_true e]
      refine bndL (s := ()) (loop_from (fun i => (i : Int)) a.length _ rfl (by simp only [BIG]; omega) (fun i hi => ?_) ?_) rfl
      · have hi2 : i < b.length := by omega
        have h1 : a[i] = b[i] := by simp only [e]
        refine cnd_t (decide_eq_true (by omega)) (bnd (ixO_of hi) (bnd (getO_of hi) (bnd (ixO_of hi2) (bnd (getO_of hi2) (cnd_f ?_ (bnd (some_wrap (by omega) (by omega)) rfl))))))
        rw [parEq, decide_eq_true h1]; rfl
      · exact cnd_f (decide_eq_false (by omega)) rfl
    · have hk2 : k < b.length := by omega
      have hne : a[k] ≠ b[k] := by
        intro h
        rw [List.getElem?_eq_getElem hk, List.getElem?_eq_getElem hk2, h] at hf
        simp at hf
      have e : a ≠ b := fun h => hne (by simp only [h])
      rw [decide_eq_false e]
      refine bndR (loop_from (fun i => (i : Int)) k _ rfl (by simp only [BIG]; omega) (fun i hi => ?_) ?_) rfl
      · have hi1 : i < a.length := by omega
        have hi2 : i < b.length := by omega
        have h1 : a[i] = b[i] := by
          have := hb i hi
          rw [List.getElem?_eq_getElem hi1, List.getElem?_eq_getElem hi2] at this
          simpa using this
        refine cnd_t (decide_eq_true (by omega)) (bnd (ixO_of hi1) (bnd (getO_of hi1) (bnd (ixO_of hi2) (bnd (getO_of hi2) (cnd_f ?_ (bnd (some_wrap (by omega) (by omega)) rfl))))))
        rw [parEq, decide_eq_true h1]; rfl
      · refine cnd_t (decide_eq_true (by omega)) (bnd (ixO_of hk) (bnd (getO_of hk) (bnd (ixO_of hk2) (bnd (getO_of hk2) (cnd_t ?_ rfl)))))
        rw [parEq, decide_eq_false hne]; rfl
  · rw [decide_eq_false (fun h => hl (by rw [h]))]
    exact cnd_t (bne_iff_ne.2 (by omega)) rfl
theorem cmd_ext {a b : T_Cmd} : a = b ↔ a.Kind = b.Kind ∧ a.Text = b.Text ∧ (a.Path.Null = b.Path.Null ∧ a.Path.Local = b.Path.Local ∧ a.Path.Domain = b.Path.Domain) ∧ a.Params = b.Params := by
  refine ⟨fun h => by subst h; exact ⟨rfl, rfl, ⟨rfl, rfl, rfl⟩, rfl⟩, fun h => ?_⟩
  obtain ⟨ka, ta, ⟨na, la, da⟩, pa⟩ := a
  obtain ⟨kb, tb, ⟨nb, lb, db⟩, pb⟩ := b
  simp only at h
  obtain ⟨rfl, rfl, ⟨rfl, rfl, rfl⟩, rfl⟩ := h
  rfl
theorem same_eqC (a b : T_Cmd) (ha : a.Params.length < 4611686018427387904) : verb_same a b = some (decide (a = b)) := by
  unfold verb_same
  have hp := eqPar a.Params b.Params ha
  by_cases h : a = b
  · rw [decide_eq_true h]
    subst h
    rw [decide_eq_true rfl] at hp
    exact bndL (s := true) (cnd_t (by simp) (cnd_t (by simp) (cnd_t (by simp) (bnd hp rfl)))) rfl
  · rw [decide_eq_false h]
    refine bndL (s := false) ?_ rfl
    by_cases h1 : a.Kind = b.Kind
    · refine cnd_t (beq_iff_eq.2 h1) ?_
      by_cases h2 : a.Text = b.Text
      · refine cnd_t (by rw [toList_beq, decide_eq_true h2]) ?_
        by_cases h3 : a.Path.Null = b.Path.Null ∧ a.Path.Local = b.Path.Local ∧ a.Path.Domain = b.Path.Domain
        · refine cnd_t (by rw [toList_beq, toList_beq, h3.1, h3.2.1, h3.2.2]; simp) (bnd hp ?_)
          rw [decide_eq_false (fun h4 => h (cmd_ext.2 ⟨h1, h2, h3, h4⟩))]
        · refine cnd_f ?_ rfl
          rw [toList_beq, toList_beq, Bool.and_true]
          rw [Bool.eq_false_iff]
          intro hh
          simp only [Bool.and_eq_true, beq_iff_eq, decide_eq_true_eq] at hh
          exact h3 hh
      · exact cnd_f (by rw [toList_beq, decide_eq_false h2]) rfl
    · exact cnd_f (beq_eq_false_iff_ne.2 h1) rfl
theorem keepPathC (a b : T_Path) : wherrykeep_Path a b = some (decide (a = b)) := by
  unfold wherrykeep_Path
  have hd : decide (a = b) = ((a.Null == b.Null) && ((a.Local.toList == b.Local.toList) && (a.Domain.toList == b.Domain.toList))) := by
    rw [toList_beq, toList_beq]
    obtain ⟨na, la, da⟩ := a
    obtain ⟨nb, lb, db⟩ := b
    simp only [T_Path.mk.injEq]
    cases na <;> cases nb <;> simp
  rw [hd]
  refine bndL (s := ((a.Null == b.Null) && ((a.Local.toList == b.Local.toList) && (a.Domain.toList == b.Domain.toList)))) (bnd rfl ?_) rfl
  cases h1 : (a.Null == b.Null) with
  | false => exact cnd_f rfl rfl
  | true =>
    refine cnd_t rfl ?_
    cases h2 : (a.Local.toList == b.Local.toList) with
    | false => exact cnd_f rfl rfl
    | true => exact cnd_t rfl rfl
theorem keepCmd (a b : T_Cmd) (ha : a.Params.length < 4611686018427387904) : wherrykeep_Cmd a b = some (decide (a = b)) := by
  unfold wherrykeep_Cmd
  have hkp : wherrykeep_Path (T_Path.mk a.Path.Null a.Path.Local a.Path.Domain) (T_Path.mk b.Path.Null b.Path.Local b.Path.Domain) = some (decide (a.Path = b.Path)) := keepPathC a.Path b.Path
  by_cases h1 : a.Kind = b.Kind ∧ a.Text = b.Text ∧ a.Path = b.Path ∧ a.Params.length = b.Params.length
  · obtain ⟨hk, ht, hpp, hl⟩ := h1
    rw [decide_eq_true hpp] at hkp
    have hfirst : ∀ {X Y : Option (Bool ⊕ Bool)}, cond (a.Kind != b.Kind) X (cond (!(a.Text.toList == b.Text.toList)) Y ((wherrykeep_Path (T_Path.mk a.Path.Null a.Path.Local a.Path.Domain) (T_Path.mk b.Path.Null b.Path.Local b.Path.Domain)).bind fun v1 =>
        cond ((!v1))
          (some (.inl true))
          (some (.inl (((a.Params.length : Int) != (b.Params.length : Int))))))) = some (.inl false) := by
      intro X Y
      exact cnd_f (by simp [hk]) (cnd_f (by simp [ht]) (bnd hkp (cnd_f rfl (by simp [hl]))))
    refine bndL hfirst (cnd_f rfl ?_)
    rcases first_fail (fun i => decide (a.Params[i]? = b.Params[i]?)) a.Params.length with h | ⟨k, hk', hb, hf⟩
    · have e : a.Params = b.Params := List.ext_getElem? fun i => by
        by_cases hi : i < a.Params.length
        · simpa using h i hi
        · rw [List.getElem?_eq_none (by omega), List.getElem?_eq_none (by omega)]
      have hab : a = b := cmd_ext.2 ⟨hk, ht, ⟨by rw [hpp], by rw [hpp], by rw [hpp]⟩, e⟩
      rw [decide_eq_true hab]
      refine bndL (s := ()) (loop_from (fun i => (i : Int)) a.Params.length _ rfl (by simp only [BIG]; omega) (fun i hi => ?_) ?_) rfl
      · have hi2 : i < b.Params.length := by omega
        have h1 : a.Params[i] = b.Params[i] := by simp only [e]
        exact cnd_t (decide_eq_true (by omega)) (bndL (s := false) (bnd (ixO_of hi) (bnd (getO_of hi) (bnd (ixO_of hi2) (bnd (getO_of hi2) (cnd_f (by rw [h1]; simp) (bnd (ixO_of hi) (bnd (getO_of hi) (bnd (ixO_of hi2) (bnd (getO_of hi2) (by rw [h1]; simp)))))))))) (cnd_f rfl (bnd (some_wrap (by omega) (by omega)) rfl)))
      · exact cnd_f (decide_eq_false (by omega)) rfl
    · have hk2 : k < b.Params.length := by omega
      have hne : a.Params[k] ≠ b.Params[k] := by
        intro h
        rw [List.getElem?_eq_getElem hk', List.getElem?_eq_getElem hk2, h] at hf
        simp at hf
      have e : a ≠ b := fun h => hne (by simp only [h])
      rw [decide_eq_false e]
      refine bndR (loop_from (fun i => (i : Int)) k _ rfl (by simp only [BIG]; omega) (fun i hi => ?_) ?_) rfl
      · have hi1 : i < a.Params.length := by omega
        have hi2 : i < b.Params.length := by omega
        have h1 : a.Params[i] = b.Params[i] := by
          have := hb i hi
          rw [List.getElem?_eq_getElem hi1, List.getElem?_eq_getElem hi2] at this
          simpa using this
        exact cnd_t (decide_eq_true (by omega)) (bndL (s := false) (bnd (ixO_of hi1) (bnd (getO_of hi1) (bnd (ixO_of hi2) (bnd (getO_of hi2) (cnd_f (by rw [h1]; simp) (bnd (ixO_of hi1) (bnd (getO_of hi1) (bnd (ixO_of hi2) (bnd (getO_of hi2) (by rw [h1]; simp)))))))))) (cnd_f rfl (bnd (some_wrap (by omega) (by omega)) rfl)))
      · refine cnd_t (decide_eq_true (by omega)) (bndL (s := true) (bnd (ixO_of hk') (bnd (getO_of hk') (bnd (ixO_of hk2) (bnd (getO_of hk2) ?_)))) (cnd_t rfl rfl))
        by_cases h5 : a.Params[k].Key = b.Params[k].Key
        · refine cnd_f (by simp [h5]) (bnd (ixO_of hk') (bnd (getO_of hk') (bnd (ixO_of hk2) (bnd (getO_of hk2) ?_))))
          have h6 : a.Params[k].Val ≠ b.Params[k].Val := fun h6 => hne (by
            generalize a.Params[k] = x at *
            generalize b.Params[k] = y at *
            cases x; cases y; simp_all)
          rw [toList_beq, decide_eq_false h6]; rfl
        · exact cnd_t (by rw [toList_beq, decide_eq_false h5]; rfl) rfl
  · have e : a ≠ b := fun h => h1 (by subst h; exact ⟨rfl, rfl, rfl, rfl⟩)
    rw [decide_eq_false e]
    refine bndL (s := true) ?_ (cnd_t rfl rfl)
    by_cases hk : a.Kind = b.Kind
    · refine cnd_f (by simp [hk]) ?_
      by_cases ht : a.Text = b.Text
      · refine cnd_f (by simp [ht]) (bnd hkp ?_)
        by_cases hp : a.Path = b.Path
        · refine cnd_f (by rw [decide_eq_true hp]; rfl) ?_
          rw [bne_iff_ne.2 (fun hl : (a.Params.length : Int) = (b.Params.length : Int) => h1 ⟨hk, ht, hp, by omega⟩)]
        · exact cnd_t (by rw [decide_eq_false hp]; rfl) rfl
      · exact cnd_t (by rw [toList_beq, decide_eq_false ht]; rfl) rfl
    · exact cnd_t (bne_iff_ne.2 hk) rfl
end Go.Abs.Sh
