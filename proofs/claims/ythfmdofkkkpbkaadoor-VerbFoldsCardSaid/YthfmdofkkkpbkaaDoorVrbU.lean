import Derived.Test.YthfmdofkkkpbkaaDoorVrbT
namespace Go.Abs.Sh
set_option linter.unusedVariables false
set_option linter.unusedSimpArgs false
set_option maxRecDepth 100000
theorem byt_pr {l : List Int} (h : l.all prB = true) : byt l := fun x hx => by
  have := List.all_eq_true.1 h x hx
  simp only [prB, Bool.and_eq_true, decide_eq_true_eq] at this
  omega
theorem boxed_ok {k : Int} {r : List Int} {c : T_Cmd} (hr : r.all prB = true) (h : boxedL k r = some c) :
    ∃ p ps q, c = ⟨k, e0, p, ps⟩ ∧ patB p = true ∧ boxedL k (txtL p ++ fmtP ps) = some c ∧ (txtL p ++ fmtP ps).length = r.length ∧ (txtL p ++ fmtP ps).all prB = true ∧ q = e0 := by
  unfold boxedL at h
  cases hi : idx1 62 r with
  | none => rw [hi] at h; cases h
  | some e =>
    rw [hi] at h
    simp only at h
    have hs := idx1_some hi
    cases hp : parL (r.take (e + 1)) with
    | none => rw [hp] at h; cases h
    | some p =>
      rw [hp] at h
      simp only at h
      split at h
      · cases h
      · rename_i hn
        cases hps : parsL k (r.drop (e + 1)) with
        | none => rw [hps] at h; cases h
        | some ps =>
          rw [hps] at h
          cases h
          have hrt : (r.take (e + 1)).all prB = true := List.all_eq_true.2 fun x hx => List.all_eq_true.1 hr x (List.mem_of_mem_take hx)
          have ht := txt_par (byt_pr hrt) hp
          have hps2 := pars_ok hps
          have htk : r.take (e + 1) = r.take e ++ [62] := by
            have h2 := hs.2.1
            have hlt : e < r.length := by omega
            rw [List.take_add_one, List.getElem?_eq_getElem hlt]
            have : r[e] = 62 := by
              have h3 : r.drop e = 62 :: r.drop (e + 1) := by
                have h4 : (r.take e ++ 62 :: r.drop (e + 1)).drop e = 62 :: r.drop (e + 1) := List.drop_left' (by rw [List.length_take]; omega)
                rw [← h2] at h4; exact h4
              rw [List.drop_eq_getElem_cons hlt] at h3
              exact (List.cons.inj h3).1
            rw [this]; rfl
          refine ⟨p, ps, e0, rfl, ht.2, ?_, ?_, ?_, rfl⟩
          · rw [ht.1]
            unfold boxedL
            have e1 : r.take (e + 1) ++ fmtP ps = r.take e ++ 62 :: fmtP ps := by rw [htk]; simp
            have hl : (r.take e).length = e := by rw [List.length_take]; omega
            have hl1 : (r.take (e + 1)).length = e + 1 := by rw [List.length_take]; omega
            rw [e1, idx1_app hs.2.2, hl, ← e1]
            simp only
            rw [List.take_left' hl1, List.drop_left' hl1, hp]
            simp only
            rw [if_neg hn, hps2.1]
          · rw [ht.1, List.length_append, hps2.2.1, List.length_take, List.length_drop]; omega
          · rw [ht.1, List.all_append, hrt, hps2.2.2]; rfl
end Go.Abs.Sh
