import Derived.Test.YtglabbpbianmnaaGreatDoorBunQ
namespace Go.Abs.Sh
set_option linter.unusedVariables false
set_option linter.unusedSimpArgs false
set_option maxRecDepth 100000
def clS (v2 : List T_Mail) : (((List T_Mail) × Int)) → Option (((List T_Mail) × Int) ⊕ (((List T_Mail)) ⊕ (Int × Int))) := (fun ((s11, s12) : (List T_Mail) × Int) =>
  cond ((decide (s12 < (v2.length : Int))))
    ((ixO s12 v2.length).bind fun v4 =>
    (getO v2 v4).bind fun v5 =>
    (appO 120 s11 ([(T_Mail.mk (T_Path.mk v5.From.Null v5.From.Local v5.From.Domain) v5.To v5.Body false (⟨#[]⟩ : ByteArray) 0)])).bind fun v6 =>
    (some (IntKind.i64.wrap (s12 + 1))).bind fun v7 =>
    some (.inl (v6, v7)))
    (some (.inr (.inl s11))))
def pkS (origin number : Int) : (((List T_Mail) × Int)) → Option (((List T_Mail) × Int) ⊕ ((Unit) ⊕ (Int × Int))) := (fun ((s31, s32) : (List T_Mail) × Int) =>
      cond ((decide (0 < s32)))
        ((sliO s31 0 s32).bind fun v23 =>
        (bundle_Bytes (T_Bundle.mk origin number v23)).bind fun v24 =>
        cond ((v24.2 == 0))
          (some (.inr (.inr ((s32, 0)))))
          ((some (IntKind.i64.wrap (s32 - 1))).bind fun v26 =>
          some (.inl (s31, v26))))
        (some (.inr (.inl ()))))
def plS (l : List T_Mail) (n : Int) : (((List T_Mail) × Int)) → Option (((List T_Mail) × Int) ⊕ (((List T_Mail)) ⊕ Bool)) := (fun ((s24, s25) : (List T_Mail) × Int) =>
            cond ((decide (s25 < n)))
              ((ixO s25 l.length).bind fun v16 =>
              (getO l v16).bind fun v17 =>
              (wherryref11_Plain ((T_Mail.mk (T_Path.mk v17.From.Null v17.From.Local v17.From.Domain) v17.To v17.Body v17.Quiet v17.Helo v17.At))).bind fun v18 =>
              (appO 120 s24 [(T_Mail.mk (T_Path.mk v18.From.Null v18.From.Local v18.From.Domain) v18.To v18.Body v18.Quiet v18.Helo v18.At)]).bind fun v19 =>
              (some (IntKind.i64.wrap (s25 + 1))).bind fun v20 =>
              some (.inl (v19, v20)))
              (some (.inr (.inl s24))))
def clnM (m : T_Mail) : T_Mail := T_Mail.mk (T_Path.mk m.From.Null m.From.Local m.From.Domain) m.To m.Body false (⟨#[]⟩ : ByteArray) 0
theorem lm_cln {m : T_Mail} (h : LM m) : LM (clnM m) := by
  obtain ⟨h1, h2⟩ := h
  simp only [mW] at h2
  refine ⟨h1, ?_⟩
  show m.Body.length + (⟨#[]⟩ : ByteArray).size + m.From.Local.size + m.From.Domain.size + psum m.To ≤ 20000
  have : (⟨#[]⟩ : ByteArray).size = 0 := rfl
  omega
theorem plain_eq {m : T_Mail} (h : LM m) : wherryref11_Plain m = some (clnM m) := by
  obtain ⟨h1, h2⟩ := h
  simp only [mW] at h2
  unfold wherryref11_Plain
  refine bnd (x := m.To) ?_ (bnd (twin14 _ (by omega)) rfl)
  unfold wherrykeep_TwinPaths
  exact bnd (app_of (by simp only [List.length_nil]; omega) (by simp only [List.length_nil]; omega)) rfl
theorem cl_loop {v : List T_Mail} (hl : v.length ≤ 4) : loopF (clS v) BIG ([], 0) = some (.inl (v.map clnM)) := by
  refine loop_from (fun i => ((v.take i).map clnM, ((i : Nat) : Int))) v.length BIG (by simp) (by simp only [BIG]; omega) (fun i hi => ?_) ?_
  · have htl : ((v.take i).map clnM).length = i := by simp; omega
    refine cnd_t (decide_eq_true (by omega)) (bnd (ixO_of hi) (bnd (getO_of hi) (bnd (app_of (by simp only [htl, List.length_cons, List.length_nil]; omega) (by simp only [htl, List.length_cons, List.length_nil]; omega)) (bnd (congrArg some (wrap_succ (n := i) (by omega))) ?_))))
    rw [List.take_succ_eq_append_getElem hi, List.map_append]
    rfl
  · rw [List.take_length]
    exact cnd_f (decide_eq_false (by omega)) rfl
theorem pl_loop {l : List T_Mail} {n : Nat} (hn : n ≤ l.length) (hn4 : n ≤ 4) (hm : ∀ m ∈ l, LM m) : loopF (plS l (n : Int)) BIG ([], 0) = some (.inl ((l.take n).map clnM)) := by
  refine loop_from (fun i => ((l.take i).map clnM, ((i : Nat) : Int))) n BIG (by simp) (by simp only [BIG]; omega) (fun i hi => ?_) ?_
  · have hi2 : i < l.length := by omega
    have htl : ((l.take i).map clnM).length = i := by simp; omega
    refine cnd_t (decide_eq_true (by omega)) (bnd (ixO_of hi2) (bnd (getO_of hi2) (bnd (plain_eq (hm _ (List.getElem_mem hi2))) (bnd (app_of (by simp only [htl, List.length_cons, List.length_nil]; omega) (by simp only [htl, List.length_cons, List.length_nil]; omega)) (bnd (congrArg some (wrap_succ (n := i) (by omega))) ?_)))))
    rw [List.take_succ_eq_append_getElem hi2, List.map_append]
    rfl
  · exact cnd_f (decide_eq_false (by omega)) rfl
theorem pk_loop {s : List T_Mail} {o nb : Int} (hm : ∀ m ∈ s, LM m ∧ byt m.Body) (hl : s.length ≤ 4) : ∀ (k fuel : Nat), k ≤ s.length → k < fuel →
    (loopF (pkS o nb) fuel (s, (k : Int)) = some (.inl ())) ∨
    (∃ n : Nat, 1 ≤ n ∧ n ≤ k ∧ loopF (pkS o nb) fuel (s, (k : Int)) = some (.inr ((n : Int), 0)) ∧ (∃ x, bundle_Bytes (T_Bundle.mk o nb (s.take n)) = some (x, 0)) ∧ ∀ j, n < j → j ≤ k → ∃ x e, bundle_Bytes (T_Bundle.mk o nb (s.take j)) = some (x, e) ∧ e ≠ 0)
  | 0, fuel, hk, hf => by
    obtain ⟨f, rfl⟩ : ∃ f, fuel = f + 1 := ⟨fuel - 1, by omega⟩
    have hstep : pkS o nb (s, ((0 : Nat) : Int)) = some (.inr (.inl ())) := rfl
    exact .inl (loop_exit hstep)
  | k + 1, fuel, hk, hf => by
    obtain ⟨f, rfl⟩ : ∃ f, fuel = f + 1 := ⟨fuel - 1, by omega⟩
    have hsl : sliO s 0 ((k + 1 : Nat) : Int) = some (s.take (k + 1)) := by
      have := sli_nat s (a := 0) (b := k + 1) (by omega) hk
      rw [show ((0 : Nat) : Int) = 0 from rfl] at this
      rw [this, List.drop_zero, Nat.sub_zero]
    have hw : IntKind.i64.wrap (((k + 1 : Nat) : Int) - 1) = (k : Int) := by rw [wrap_i64 (by omega) (by omega)]; omega
    have hd : decide (0 < ((k + 1 : Nat) : Int)) = true := decide_eq_true (by omega)
    rcases bytes_of (b := T_Bundle.mk o nb (s.take (k + 1))) (fun m hmm => hm m (List.mem_of_mem_take hmm)) (by show (s.take (k + 1)).length ≤ 20; simp; omega) with ⟨e, he, h52⟩ | ⟨_, _, _, _, _, _, _, _, hby⟩
    · have hstep : pkS o nb (s, ((k + 1 : Nat) : Int)) = some (.inl (s, (k : Int))) := cnd_t hd (bnd hsl (bnd (x := ([], e)) he (cnd_f (beq_eq_false_iff_ne.2 (by show e ≠ 0; omega)) (bnd (congrArg some hw) rfl))))
      rcases pk_loop hm hl k f (by omega) (by omega) with h1 | ⟨n, h1, h2, h3, h4, h5⟩
      · exact .inl ((loop_next hstep).trans h1)
      · refine .inr ⟨n, h1, by omega, (loop_next hstep).trans h3, h4, fun j hj hj2 => ?_⟩
        by_cases hjk : j = k + 1
        · subst hjk
          exact ⟨_, _, he, by omega⟩
        · exact h5 j hj (by omega)
    · exact .inr ⟨k + 1, by omega, Nat.le_refl _, loop_exit (cnd_t hd (bnd hsl (bnd hby (cnd_t rfl rfl)))), ⟨_, hby⟩, fun j hj hj2 => by omega⟩
theorem take_map4 {l : List T_Mail} {n k : Nat} (h : n ≤ k) : ((l.take k).map clnM).take n = (l.take n).map clnM := by
  rw [← List.map_take, List.take_take, Nat.min_eq_left h]
theorem pack_eq {l : List T_Mail} {o nb : Int} (hm : ∀ m ∈ l, LM m ∧ byt m.Body) (hl : l.length < 1000000) :
    (bundle_Pack l o nb = some (0, 9)) ∨
    (∃ n : Nat, 1 ≤ n ∧ n ≤ l.length ∧ n ≤ 4 ∧ bundle_Pack l o nb = some ((n : Int), 0) ∧ (∃ x, bundle_Bytes (T_Bundle.mk o nb ((l.take n).map clnM)) = some (x, 0)) ∧ (n < l.length → n < 4 → ∃ x e, bundle_Bytes (T_Bundle.mk o nb ((l.take (n + 1)).map clnM)) = some (x, e) ∧ e ≠ 0)) := by
  obtain ⟨K, hK, hKl, hK4, hKm⟩ : ∃ K : Nat, (if (4 : Int) < (l.length : Int) then 4 else (l.length : Int)) = (K : Int) ∧ K ≤ l.length ∧ K ≤ 4 ∧ (K = l.length ∨ K = 4) := by
    by_cases h : 4 < l.length
    · exact ⟨4, by rw [if_pos (by omega)]; rfl, by omega, by omega, .inr rfl⟩
    · exact ⟨l.length, by rw [if_neg (by omega)], by omega, by omega, .inl rfl⟩
  have hsl : sliO l 0 (K : Int) = some (l.take K) := by
    have := sli_nat l (a := 0) (b := K) (by omega) hKl
    rw [show ((0 : Nat) : Int) = 0 from rfl] at this
    rw [this, List.drop_zero, Nat.sub_zero]
  have hcl := cl_loop (v := l.take K) (by simp; omega)
  have hsm : ((l.take K).map clnM).length = K := by simp; omega
  have hpk := pk_loop (s := (l.take K).map clnM) (o := o) (nb := nb) (fun m hmm => by
    obtain ⟨q, hq, rfl⟩ := List.mem_map.1 hmm
    have := hm q (List.mem_of_mem_take hq)
    exact ⟨lm_cln this.1, this.2⟩) (by omega) K BIG (by omega) (by simp only [BIG]; omega)
  unfold bundle_Pack
  have hst : (((l.take K).map clnM).length : Int) = (K : Int) := by rw [hsm]
  rcases hpk with h1 | ⟨n, h1, h2, h3, h4, h5⟩
  · refine .inl (bnd (congrArg some hK) (bnd hsl (bndL hcl (bndL (s := ()) ?_ rfl))))
    rw [hst]; exact h1
  · refine .inr ⟨n, h1, by omega, by omega, bnd (congrArg some hK) (bnd hsl (bndL hcl (bndR (a := ((n : Int), 0)) ?_ rfl))), ?_, fun hn1 hn2 => ?_⟩
    · rw [hst]; exact h3
    · rwa [take_map4 h2] at h4
    · have := h5 (n + 1) (by omega) (by omega)
      rwa [take_map4 (by omega)] at this
end Go.Abs.Sh
