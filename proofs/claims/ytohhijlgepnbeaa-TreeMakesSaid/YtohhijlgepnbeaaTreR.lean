import Derived.Test.YtohhijlgepnbeaaTreQ
namespace Go.Abs.Sh
set_option linter.unusedVariables false
set_option linter.unusedSimpArgs false
theorem C_len (W0 : List Int) : ∀ i, (mst W0 i).C.length = 2 * i
  | 0 => rfl
  | i + 1 => by
    have := C_len W0 i
    rw [mst]
    unfold mstep
    simp only [List.length_append, List.length_cons, List.length_nil]
    omega
theorem C_stab (W0 : List Int) (i j : Nat) (hj : j < 2 * i) : ∀ d, (mst W0 (i + d)).C.getD j 0 = (mst W0 i).C.getD j 0
  | 0 => rfl
  | d + 1 => by
    rw [← C_stab W0 i j hj d, ← Nat.add_assoc, mst]
    unfold mstep
    exact getN_app_l (by rw [C_len]; omega)
theorem loop_inc {l v : List Int} {A : Type} (hl : l.length ≤ 1000) (hv : v.length ≤ 1000) (hin : ∀ x, x ∈ v → 0 ≤ x ∧ x < (l.length : Int)) (hd : ∀ a b, a < v.length → b < v.length → (v.getD a 0).toNat = (v.getD b 0).toNat → a = b) (hb : ∀ x, x ∈ v → -1000000 ≤ l.getD x.toNat 0 ∧ l.getD x.toNat 0 ≤ 1000000) :
    loopF (S := ((List Int) × Int)) (O := (List Int) ⊕ A) (fun ((s362, s363) : (List Int) × Int) =>
      cond ((decide (s363 < (v.length : Int))))
        ((ixO s363 v.length).bind fun v74 =>
        (getO v v74).bind fun v75 =>
        (ixO v75 s362.length).bind fun v76 =>
        (getO s362 v76).bind fun v77 =>
        (some (IntKind.i64.wrap (v77 + 1))).bind fun v78 =>
        (ixO v75 s362.length).bind fun v79 =>
        (some (s362.set v79 v78)).bind fun v80 =>
        (some (IntKind.i64.wrap (s363 + 1))).bind fun v81 =>
        some (.inl (v80, v81)))
        (some (.inr (.inl s362)))) BIG (l, 0) = some (.inl (incr l v v.length)) := by
  refine loop_from (fun j => (incr l v j, (j : Int))) v.length BIG rfl (by unfold BIG; omega) (fun j hj => ?_) (cnd_f (by simp) rfl)
  have hx : v.getD j 0 ∈ v := by rw [← getD_at hj]; exact List.getElem_mem _
  have h1 := hin _ hx
  have h2 := hb _ hx
  have hlen := incr_len l v j
  have ho : (incr l v j).getD (v.getD j 0).toNat 0 = l.getD (v.getD j 0).toNat 0 := incr_out j fun k hk e => by have := hd k j (by omega) hj e; omega
  have e : ixO (v.getD j 0) (incr l v j).length = some (v.getD j 0).toNat := by unfold ixO; rw [if_pos (by rw [hlen]; exact h1)]
  exact cnd_t (by simp; omega) (bnd (ixO_of hj) (bnd (getO_D hj) (bnd e (bnd (getO_D (by rw [hlen]; omega)) (bnd (x := (incr l v j).getD (v.getD j 0).toNat 0 + 1) (by rw [ho, wrap_i64 (by omega) (by omega)]) (bnd e (bnd rfl (bnd (x := ((j + 1 : Nat) : Int)) (by rw [wrap_succ (by omega)]) rfl))))))))
theorem loop_del {r : List Nat} {f : Nat → T_wherryref01_node} {a b ra rb : Nat} {A : Type} (hl : r.length ≤ 1000) (hnd : r.Nodup) (hra : ra < r.length) (hea : r.getD ra 0 = a) (hrb : rb < r.length) (heb : r.getD rb 0 = b) :
    loopF (S := ((List T_wherryref01_node) × Int)) (O := (List T_wherryref01_node) ⊕ A) (fun ((s405, s406) : (List T_wherryref01_node) × Int) =>
      cond ((decide (s406 < ((r.map f).length : Int))))
        (bindS (S := List T_wherryref01_node) (A := (((List T_wherryref01_node) × Int) ⊕ ((List T_wherryref01_node) ⊕ A)))
          (bindS (S := Bool) (A := ((List T_wherryref01_node) ⊕ (((List T_wherryref01_node) × Int) ⊕ ((List T_wherryref01_node) ⊕ A))))
            (cond ((s406 != (ra : Int)))
              (some (.inl (s406 != (rb : Int))))
              (some (.inl false)))
            (fun (s439 : Bool) =>
              cond (s439)
                ((ixO s406 (r.map f).length).bind fun v102 =>
                (getO (r.map f) v102).bind fun v103 =>
                (appO 32 s405 [v103]).bind fun v104 =>
                some (.inl v104))
                (some (.inl s405))) some)
          (fun (s435 : (List T_wherryref01_node)) =>
            (some (IntKind.i64.wrap (s406 + 1))).bind fun v114 =>
            some (.inl (s435, v114))) some)
        (some (.inr (.inl s405)))) BIG ([], 0) = some (.inl (((r.filter (· != a)).filter (· != b)).map f)) := by
  have inj : ∀ x y, x < r.length → y < r.length → r.getD x 0 = r.getD y 0 → x = y := by
    intro x y ha hb e
    rw [← nget ha, ← nget hb] at e
    have hpw := List.pairwise_iff_getElem.1 hnd
    rcases Nat.lt_trichotomy x y with h3 | h3 | h3
    · exact absurd e (hpw x y ha hb h3)
    · exact h3
    · exact absurd e.symm (hpw y x hb ha h3)
  refine loop_from (fun j => ((((r.take j).filter (· != a)).filter (· != b)).map f, (j : Int))) r.length BIG rfl (by unfold BIG; omega) (fun j hj => ?_) (cnd_f (by simp) (by rw [List.take_length]))
  have htk : r.take (j + 1) = r.take j ++ [r.getD j 0] := by rw [List.take_add_one, List.getElem?_eq_getElem hj, nget hj]; rfl
  have hfl : ((((r.take j).filter (· != a)).filter (· != b)).map f).length ≤ 1000 := by
    rw [List.length_map]
    have h1 := List.length_filter_le (· != b) ((r.take j).filter (· != a))
    have h2 := List.length_filter_le (· != a) (r.take j)
    rw [List.length_take] at h2
    omega
  refine cnd_t (by simp; omega) ?_
  by_cases h1 : j = ra
  · subst h1
    refine bndL (s := (((r.take j).filter (· != a)).filter (· != b)).map f) (bndL (s := false) (cnd_f (by simp) rfl) (cnd_f rfl rfl)) (bnd (x := ((j + 1 : Nat) : Int)) (by rw [wrap_succ (by omega)]) ?_)
    rw [htk, hea, List.filter_append]
    simp
  by_cases h2 : j = rb
  · subst h2
    refine bndL (s := (((r.take j).filter (· != a)).filter (· != b)).map f) (bndL (s := false) (cnd_t (by simp; omega) (by simp)) (cnd_f rfl rfl)) (bnd (x := ((j + 1 : Nat) : Int)) (by rw [wrap_succ (by omega)]) ?_)
    rw [htk, heb, List.filter_append, List.filter_append]
    have : ([b].filter (· != a)).filter (· != b) = [] := by
      by_cases e : b = a <;> simp [e]
    rw [this, List.append_nil]
  · have n1 : r.getD j 0 ≠ a := fun e => h1 (inj j ra hj hra (by omega))
    have n2 : r.getD j 0 ≠ b := fun e => h2 (inj j rb hj hrb (by omega))
    have hgo : getO (r.map f) j = some (f (r.getD j 0)) := by
      rw [getO_of (by simpa using hj), List.getElem_map, nget hj]
    refine bndL (s := (((r.take j).filter (· != a)).filter (· != b)).map f ++ [f (r.getD j 0)]) (bndL (s := true) (cnd_t (by simp; omega) (by simp; omega)) (cnd_t rfl (bnd (ixO_of (by simpa using hj)) (bnd hgo (bnd (app_of (by simp only [List.length_cons, List.length_nil]; omega) (by simp only [List.length_cons, List.length_nil]; omega)) rfl))))) (bnd (x := ((j + 1 : Nat) : Int)) (by rw [wrap_succ (by omega)]) ?_)
    rw [htk, List.filter_append, List.filter_append]
    have : ([r.getD j 0].filter (· != a)).filter (· != b) = [r.getD j 0] := by
      rw [List.filter_cons_of_pos (by simpa using n1), List.filter_nil, List.filter_cons_of_pos (by simpa using n2), List.filter_nil]
    rw [this, List.map_append]
    rfl
end Go.Abs.Sh
