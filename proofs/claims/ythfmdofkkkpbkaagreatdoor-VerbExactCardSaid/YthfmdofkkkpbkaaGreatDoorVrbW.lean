import Derived.Test.YthfmdofkkkpbkaaGreatDoorVrbA
import Derived.Test.YthfmdofkkkpbkaaGreatDoorPatK
namespace Go.Abs.Sh
set_option linter.unusedVariables false
set_option linter.unusedSimpArgs false
set_option maxRecDepth 100000
/-! Numbers in digits; a param by its key; params twice. -/
def parS (l : List T_Param) (key : ByteArray) : ByteArray × Bool := match l.find? (fun q => decide (q.Key = key)) with
  | none => (e0, false)
  | some q => (q.Val, true)
theorem par_loop {f : Int → Option (Int ⊕ (Unit ⊕ (ByteArray × Bool)))} (l : List T_Param) (key : ByteArray) (hl : l.length < 4611686018427387904)
    (hgo : ∀ i (h : i < l.length), l[i].Key ≠ key → f (i : Int) = some (.inl ((i + 1 : Nat) : Int)))
    (hno : ∀ i (h : i < l.length), l[i].Key = key → f (i : Int) = some (.inr (.inr (l[i].Val, true))))
    (hend : f (l.length : Int) = some (.inr (.inl ()))) :
    bindS (S := (Unit)) (A := (ByteArray × Bool)) (loopF f BIG 0) (fun (() : Unit) => some (((⟨#[]⟩ : ByteArray), false))) some = some (parS l key) := by
  unfold parS
  rcases first_fail (fun i => decide (∀ h : i < l.length, l[i].Key ≠ key)) l.length with h | ⟨k, hk, hb, hf⟩
  · have hall : ∀ i (h : i < l.length), l[i].Key ≠ key := fun i hi => of_decide_eq_true (h i hi) hi
    have hfind : l.find? (fun q => decide (q.Key = key)) = none := by
      rw [List.find?_eq_none]
      intro x hx
      obtain ⟨i, hi, rfl⟩ := List.mem_iff_getElem.1 hx
      simpa using hall i hi
    rw [hfind]
    exact bndL (s := ()) (loop_from (fun i => (i : Int)) l.length _ rfl (by simp only [BIG]; omega) (fun i hi => hgo i hi (hall i hi)) hend) rfl
  · have hkk : l[k].Key = key := by
      have := of_decide_eq_false hf
      by_cases h : l[k].Key = key
      · exact h
      · exact absurd (fun _ => h) this
    have hbb : ∀ i (h : i < k), l[i].Key ≠ key := fun i hi => of_decide_eq_true (hb i hi) (by omega)
    have hfind : l.find? (fun q => decide (q.Key = key)) = some l[k] := by
      rw [List.find?_eq_some_iff_getElem]
      exact ⟨decide_eq_true hkk, k, hk, rfl, fun j hj => by simpa using hbb j hj⟩
    rw [hfind]
    exact bndR (loop_from (fun i => (i : Int)) k _ rfl (by simp only [BIG]; omega) (fun i hi => hgo i (by omega) (hbb i hi)) (hno k hk hkk)) rfl
theorem vparam_eq (c : T_Cmd) (key : ByteArray) (hl : c.Params.length < 4611686018427387904) : verb_Param c key = some (parS c.Params key) := by
  unfold verb_Param
  refine par_loop c.Params key hl (fun i hi hne => ?_) (fun i hi he => ?_) ?_
  · exact cnd_t (decide_eq_true (by omega)) (bnd (ixO_of hi) (bnd (getO_of hi) (cnd_f (by rw [toList_beq, decide_eq_false hne]) (bnd (some_wrap (by omega) (by omega)) rfl))))
  · exact cnd_t (decide_eq_true (by omega)) (bnd (ixO_of hi) (bnd (getO_of hi) (cnd_t (by rw [toList_beq, decide_eq_true he]) rfl)))
  · exact cnd_f (decide_eq_false (by omega)) rfl
theorem rparam_eq (c : T_Cmd) (key : ByteArray) (hl : c.Params.length < 4611686018427387904) : wherryref11_Param c key = some (parS c.Params key) := by
  unfold wherryref11_Param
  refine par_loop c.Params key hl (fun i hi hne => ?_) (fun i hi he => ?_) ?_
  · exact cnd_t (decide_eq_true (by omega)) (bnd (ixO_of hi) (bnd (getO_of hi) (cnd_f (by rw [toList_beq, decide_eq_false hne]) (bnd (some_wrap (by omega) (by omega)) rfl))))
  · exact cnd_t (decide_eq_true (by omega)) (bnd (ixO_of hi) (bnd (getO_of hi) (cnd_t (by rw [toList_beq, decide_eq_true he]) (bnd (ixO_of hi) (bnd (getO_of hi) rfl)))))
  · exact cnd_f (decide_eq_false (by omega)) rfl
theorem pars_cons (k : Int) (r : List Int) : parsL k (32 :: r) = foldP k (spl 32 r) [] := by
  unfold parsL; exact if_pos rfl
theorem fold_none {k : Int} {p : List Int} {ps : List (List Int)} {acc : List T_Param} (h : paramL k p = none) : foldP k (p :: ps) acc = none := by
  unfold foldP; rw [h]
theorem fold_dup {k : Int} {p : List Int} {ps : List (List Int)} {acc : List T_Param} {q : T_Param} (h : paramL k p = some q) (h2 : (acc.any fun x => decide (x.Key = q.Key)) = true) : foldP k (p :: ps) acc = none := by
  unfold foldP; rw [h]; exact if_pos h2
theorem fold_go {k : Int} {p : List Int} {ps : List (List Int)} {acc : List T_Param} {q : T_Param} (h : paramL k p = some q) (h2 : (acc.any fun x => decide (x.Key = q.Key)) = false) : foldP k (p :: ps) acc = foldP k ps (acc ++ [q]) := by
  rw [foldP, h]; exact if_neg (by rw [h2]; simp)
end Go.Abs.Sh
