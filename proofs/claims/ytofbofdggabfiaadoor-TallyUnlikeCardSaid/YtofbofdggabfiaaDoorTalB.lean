import Derived.Test.YtofbofdggabfiaaDoorTalA
import Derived.KernelRfl
namespace Go.Abs.Sh
set_option linter.unusedVariables false
set_option linter.unusedSimpArgs false
set_option maxRecDepth 10000
def hvS (l : List T_Event) : ((Int × Int)) → Option ((Int × Int) ⊕ ((Int) ⊕ Bool)) := (fun ((s22, s23) : Int × Int) =>
    cond ((decide (s23 < (l.length : Int))))
      ((ixO s23 l.length).bind fun v3 =>
      (getO l v3).bind fun v4 =>
      (some (IntKind.i64.wrap (s22 + (v4.Body.length : Int)))).bind fun v5 =>
      (ixO s23 l.length).bind fun v6 =>
      (getO l v6).bind fun v7 =>
      (some (IntKind.i64.wrap (v5 + (v7.From.Local.size : Int)))).bind fun v8 =>
      (ixO s23 l.length).bind fun v9 =>
      (getO l v9).bind fun v10 =>
      (some (IntKind.i64.wrap (v8 + (v10.From.Domain.size : Int)))).bind fun v11 =>
      (ixO s23 l.length).bind fun v12 =>
      (getO l v12).bind fun v13 =>
      (some (IntKind.i64.wrap (v11 + (v13.To.Local.size : Int)))).bind fun v14 =>
      (ixO s23 l.length).bind fun v15 =>
      (getO l v15).bind fun v16 =>
      (some (IntKind.i64.wrap (v14 + (v16.To.Domain.size : Int)))).bind fun v17 =>
      (some (IntKind.i64.wrap (s23 + 1))).bind fun v18 =>
      some (.inl (v17, v18)))
      (some (.inr (.inl s22))))
def tcS (l : List T_Event) : (((List T_tally_event) × Int)) → Option (((List T_tally_event) × Int) ⊕ (((List T_tally_event)) ⊕ Int)) := (fun ((s10, s11) : (List T_tally_event) × Int) =>
  cond ((decide (s11 < (l.length : Int))))
    ((ixO s11 l.length).bind fun v2 =>
    (getO l v2).bind fun v3 =>
    (some (bstr v3.Body)).bind fun v4 =>
    (saddO [.i .i64, .i .i64, .b, .s, .s, .b, .s, .s, .s] T_tally_event.enc s10 ((T_tally_event.mk v3.Kind v3.Site (T_Path.mk v3.From.Null v3.From.Local v3.From.Domain) (T_Path.mk v3.To.Null v3.To.Local v3.To.Domain) v4))).bind fun v5 =>
    (some (IntKind.i64.wrap (s11 + 1))).bind fun v6 =>
    some (.inl (v5, v6)))
    (some (.inr (.inl s10))))
theorem wakes26 : wherrylaw26_wakes = some true := by kernel_rfl
theorem wadd26 {a b : Nat} (h : a + b < 9223372036854775808) : some (IntKind.i64.wrap ((a : Int) + (b : Int))) = some ((a + b : Nat) : Int) := by
  rw [wrap_i64 (by omega) (by omega)]; simp
theorem take_one {A : Type} {l : List A} {i : Nat} (h : i < l.length) : l.take (i + 1) = l.take i ++ [l[i]] := by
  rw [List.take_add_one, List.getElem?_eq_getElem h]; rfl
structure EvZ (e : T_Event) : Prop where
  k : -9223372036854775808 ≤ e.Kind ∧ e.Kind ≤ 9223372036854775807
  s : -9223372036854775808 ≤ e.Site ∧ e.Site ≤ 9223372036854775807
  f1 : e.From.Local.size ≤ 140737488351232
  f2 : e.From.Domain.size ≤ 140737488351232
  t1 : e.To.Local.size ≤ 140737488351232
  t2 : e.To.Domain.size ≤ 140737488351232
  b : byt e.Body
  n : e.Body.length ≤ 140737488351232
theorem evz {e : T_Event} (h : T_Event.wz e) : EvZ e := by
  obtain ⟨h1, h2, h3, h4, h5⟩ := h
  have p3 := pz_of h3
  have p4 := pz_of h4
  refine ⟨?_, ?_, p3.1, p3.2, p4.1, p4.2, bz_of h5, by have := h5.1; simp only [reachBytes] at this; omega⟩
  · have := h1; simp only [wfI, Lit.wf] at this; have a1 : IntKind.i64.min = -9223372036854775808 := by decide
    have a2 : IntKind.i64.max = 9223372036854775807 := by decide
    rw [a1, a2] at this; simpa using this
  · have := h2; simp only [wfI, Lit.wf] at this; have a1 : IntKind.i64.min = -9223372036854775808 := by decide
    have a2 : IntKind.i64.max = 9223372036854775807 := by decide
    rw [a1, a2] at this; simpa using this
def evW (e : T_Event) : Nat := e.Body.length + e.From.Local.size + e.From.Domain.size + e.To.Local.size + e.To.Domain.size
def evS (l : List T_Event) : Nat := (l.map evW).sum
theorem evS_app (a b : List T_Event) : evS (a ++ b) = evS a + evS b := by simp [evS]
theorem evS_le {l : List T_Event} (h : ∀ e ∈ l, EvZ e) : evS l ≤ 703687441756160 * l.length := by
  induction l with
  | nil => exact Nat.le_refl _
  | cons e l ih =>
    have := ih fun x hx => h x (List.mem_cons_of_mem _ hx)
    have he := h e List.mem_cons_self
    have : evW e ≤ 703687441756160 := by have := he.n; have := he.f1; have := he.f2; have := he.t1; have := he.t2; unfold evW; omega
    simp only [evS, List.map_cons, List.sum_cons, List.length_cons] at *
    omega
theorem heavy26 {l : List T_Event} (hz : ∀ e ∈ l, EvZ e) : wherrylaw26_Heavy l = some (decide (100 < l.length) || decide (30000 < evS l)) := by
  unfold wherrylaw26_Heavy
  by_cases h1 : 100 < l.length
  · rw [decide_eq_true h1]
    exact cnd_t (decide_eq_true (by omega)) rfl
  rw [decide_eq_false h1, Bool.false_or]
  have hle := evS_le hz
  refine cnd_f (decide_eq_false (by omega)) (bndL (s := ((evS l : Nat) : Int)) (loop_from (f := hvS l) (fun i => ((evS (l.take i) : Nat), ((i : Nat) : Int))) l.length BIG rfl (by simp only [BIG]; omega) (fun i hi => ?_) ?_) (congrArg some (decide_eq_decide.2 (by omega))))
  · have hg := getO_of hi
    have hx := ixO_of hi
    have ht := take_one hi
    have he := hz _ (List.getElem_mem hi)
    have hb : evS (l.take i) ≤ evS l := by
      have := evS_app (l.take i) (l.drop i)
      rw [List.take_append_drop] at this
      omega
    have hs : evS (l.take (i + 1)) = evS (l.take i) + evW l[i] := by rw [ht, evS_app]; simp [evS]
    rw [hs]
    generalize l[i] = e at hg he
    have := he.n; have := he.f1; have := he.f2; have := he.t1; have := he.t2
    have hE : evS (l.take i) + evW e = evS (l.take i) + e.Body.length + e.From.Local.size + e.From.Domain.size + e.To.Local.size + e.To.Domain.size := by unfold evW; omega
    rw [hE]
    exact cnd_t (decide_eq_true (by omega)) (bnd hx (bnd hg (bnd (wadd26 (by omega)) (bnd hx (bnd hg (bnd (wadd26 (by omega)) (bnd hx (bnd hg (bnd (wadd26 (by omega)) (bnd hx (bnd hg (bnd (wadd26 (by omega)) (bnd hx (bnd hg (bnd (wadd26 (by omega)) (bnd (congrArg some (wrap_succ (n := i) (by omega))) rfl))))))))))))))))
  · rw [List.take_length]
    exact cnd_f (decide_eq_false (by omega)) rfl
theorem twinE (l : List Int) (h : l.length ≤ 140737488355328) : wherrykeep_Twin l = some l := by
  unfold wherrykeep_Twin
  exact bnd (app_of (by simp only [List.length_nil]; omega) (by rw [List.length_nil]; omega)) rfl
/-! How many of each. -/
/-! The unlike ones. -/
def kF (e : T_Event) : T_tally_event := T_tally_event.mk e.Kind e.Site (T_Path.mk e.From.Null e.From.Local e.From.Domain) (T_Path.mk e.To.Null e.To.Local e.To.Domain) (bstr e.Body)
def sF (s : List T_tally_event) (e : T_Event) : List T_tally_event := if kF e ∈ s then s else kF e :: s
def cnS (s : List T_tally_event) (l : List T_Event) : List T_tally_event := l.foldl sF s
theorem sF_len (s : List T_tally_event) (e : T_Event) : s.length ≤ (sF s e).length ∧ (sF s e).length ≤ s.length + 1 := by
  unfold sF; split <;> simp
theorem cnS_len : ∀ (l : List T_Event) (s : List T_tally_event), s.length ≤ (cnS s l).length ∧ (cnS s l).length ≤ s.length + l.length
  | [], s => ⟨Nat.le_refl _, Nat.le_refl _⟩
  | e :: l, s => by
    have h1 := cnS_len l (sF s e)
    have h2 := sF_len s e
    show s.length ≤ (cnS (sF s e) l).length ∧ _
    have : cnS s (e :: l) = cnS (sF s e) l := rfl
    rw [this, List.length_cons]
    omega
theorem cnS_app (s : List T_tally_event) (a b : List T_Event) : cnS s (a ++ b) = cnS (cnS s a) b := by simp [cnS]
theorem key_ok {e : T_Event} (h : EvZ e) : cksOK [.i .i64, .i .i64, .b, .s, .s, .b, .s, .s, .s] (kF e).enc = true := by
  have hs : ∀ n : Nat, n ≤ 140737488351232 → Nat.ble n 140737488355328 = true := fun n hn => Nat.ble_eq_true_of_le (by omega)
  simp only [kF, T_tally_event.enc, cksOK, ckOK, Bool.and_true, Bool.and_eq_true, decide_true, Bool.true_and]
  refine ⟨i64_wf h.k.1 h.k.2, i64_wf h.s.1 h.s.2, hs _ h.f1, hs _ h.f2, hs _ h.t1, hs _ h.t2, hs _ ?_⟩
  rw [bstr_size]; exact h.n
theorem count_eq {l : List T_Event} (hl : l.length ≤ 100000) (hz : ∀ e ∈ l, EvZ e) : tally_Count l = some (((cnS [] l).length : Nat) : Int) := by
  unfold tally_Count
  refine bndL (s := cnS [] l) (loop_from (f := tcS l) (fun i => (cnS [] (l.take i), ((i : Nat) : Int))) l.length BIG rfl (by simp only [BIG]; omega) (fun i hi => ?_) ?_) rfl
  · have hg := getO_of hi
    have ht := take_one hi
    have he := hz _ (List.getElem_mem hi)
    have hn := (cnS_len (l.take i) []).2
    rw [ht, cnS_app]
    generalize l[i] = e at hg he
    have hsa : saddO [.i .i64, .i .i64, .b, .s, .s, .b, .s, .s, .s] T_tally_event.enc (cnS [] (l.take i)) (kF e) = some (cnS (cnS [] (l.take i)) [e]) := by
      unfold saddO
      rw [if_pos (by
        rw [key_ok he, Bool.true_and]
        rw [List.length_take, List.length_nil] at hn
        rw [Nat.blt_eq]; omega)]
      rfl
    exact cnd_t (decide_eq_true (by omega)) (bnd (ixO_of hi) (bnd hg (bnd rfl (bnd hsa (bnd (congrArg some (wrap_succ (n := i) (by omega))) rfl)))))
  · rw [List.take_length]
    exact cnd_f (decide_eq_false (by omega)) rfl
end Go.Abs.Sh
