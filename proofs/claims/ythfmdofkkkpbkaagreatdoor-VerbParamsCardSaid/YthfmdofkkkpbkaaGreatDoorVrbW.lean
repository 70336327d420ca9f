import Derived.Test.YthfmdofkkkpbkaaGreatDoorVrbA
import Derived.Test.YthfmdofkkkpbkaaGreatDoorPatK
namespace Go.Abs.Sh
set_option linter.unusedVariables false
set_option linter.unusedSimpArgs false
set_option maxRecDepth 100000
/-! Numbers in digits; a param by its key; params twice. -/
def parS (l : List T_Param) (key : ByteArray) : ByteArray × Bool := match l.find? (fun q => decide (q.Key = key)) with
  | none => (e0, false)
  | some q => (q.Val, true)
theorem par_loop {f : Int → Option (Int ⊕ (Unit ⊕ (ByteArray × Bool)))} (l : List T_Param) (key : ByteArray) (hl : l.length < 4611686018427387904)
    (hgo : ∀ i (h : i < l.length), l[i].Key ≠ key → f (i : Int) = some (.inl ((i + 1 : Nat) : Int)))
    (hno : ∀ i (h : i < l.length), l[i].Key = key → f (i : Int) = some (.inr (.inr (l[i].Val, true))))
    (hend : f (l.length : Int) = some (.inr (.inl ()))) :
    bindS (S := (Unit)) (A := (ByteArray × Bool)) (loopF f BIG 0) (fun (() : Unit) => some (((⟨#[]⟩ : ByteArray), false))) some = some (parS l key) := by
  unfold parS
  rcases first_fail (fun i => decide (∀ h : i < l.length, l[i].Key ≠ key)) l.length with h | ⟨k, hk, hb, hf⟩
  · have hall : ∀ i (h : i < l.length), l[i].Key ≠ key := fun i hi => of_decide_eq_true (h i hi) hi
    have hfind : l.find? (fun q => decide (q.Key = key)) = none := by
      rw [List.find?_eq_none]
      intro x hx
      obtain ⟨i, hi, rfl⟩ := List.mem_iff_getElem.1 hx
      simpa using hall i hi
    rw [hfind]
    exact bndL (s := ()) (loop_from (fun i => (i : Int)) l.length _ rfl (by simp only [BIG]; omega) (fun i hi => hgo i hi (hall i hi)) hend) rfl
  · have hkk : l[k].Key = key := by
      have := of_decide_eq_false hf
      by_cases h : l[k].Key = key
      · exact h
      · exact absurd (fun _ => h) this
    have hbb : ∀ i (h : i < k), l[i].Key ≠ key := fun i hi => of_decide_eq_true (hb i hi) (by omega)
    have hfind : l.find? (fun q => decide (q.Key = key)) = some l[k] := by
      rw [List.find?_eq_some_iff_getElem]
      exact ⟨decide_eq_true hkk, k, hk, rfl, fun j hj => by simpa using hbb j hj⟩
    rw [hfind]
    exact bndR (loop_from (fun i => (i : Int)) k _ rfl (by simp only [BIG]; omega) (fun i hi => hgo i (by omega) (hbb i hi)) (hno k hk hkk)) rfl
theorem vparam_eq (c : T_Cmd) (key : ByteArray) (hl : c.Params.length < 4611686018427387904) : verb_Param c key = some (parS c.Params key) := by
  unfold verb_Param
  refine par_loop c.Params key hl (fun i hi hne => ?_) (fun i hi he => ?_) ?_
  · exact cnd_t (decide_eq_true (by omega)) (bnd (ixO_of hi) (bnd (getO_of hi) (cnd_f (by rw [toList_beq, decide_eq_false hne]) (bnd (some_wrap (by omega) (by omega)) rfl))))
  · exact cnd_t (decide_eq_true (by omega)) (bnd (ixO_of hi) (bnd (getO_of hi) (cnd_t (by rw [toList_beq, decide_eq_true he]) rfl)))
  · exact cnd_f (decide_eq_false (by omega)) rfl
theorem kind_open {k : Int} (hk : k = 2 ∨ k = 3) (L : List Int) : kindL (openW k ++ L) = k ∧ mechB (openW k ++ L) = false ∧ cmdL (openW k ++ L) = boxedL k L := by
  have h1 : kindL (openW k ++ L) = k := by
    rcases hk with rfl | rfl
    · exact kind_app (w := [77, 65, 73, 76]) (L := [70, 82, 79, 77, 58] ++ L) (by decide)
    · exact kind_app (w := [82, 67, 80, 84]) (L := [84, 79, 58] ++ L) (by decide)
  refine ⟨h1, ?_, ?_⟩
  · rcases hk with rfl | rfl
    · exact mech_no (a := [77, 65, 73, 76, 32]) (L := [70, 82, 79, 77, 58] ++ L) rfl (by decide)
    · exact mech_no (a := [82, 67, 80, 84, 32]) (L := [84, 79, 58] ++ L) rfl (by decide)
  · unfold cmdL
    rw [h1]
    simp only
    rw [if_pos hk, pfx_yes rfl]
    rfl
theorem vmail {k : Int} (hk : k = 2 ∨ k = 3) {R : List Int} (hl : R.length ≤ 500) (hp : R.all prB = true) : vparse (openW k ++ R) = match boxedL k R with | none => (noC, 501) | some c => (c, 0) := by
  obtain ⟨h1, h2, h3⟩ := kind_open hk R
  have ho : (openW k).length ≤ 10 ∧ (openW k).all prB = true := by rcases hk with rfl | rfl <;> decide
  unfold vparse
  rw [h1, h2, h3, if_neg, if_neg (by simp)]
  · rfl
  rintro (h | h | h)
  · rw [List.length_append] at h; omega
  · rw [List.all_append, ho.2, hp] at h; cases h
  · rcases hk with rfl | rfl <;> cases h
theorem txt_split {p : T_Path} (hp : patB p = true) (hn : p.Null = false) : ∃ i, txtL p = 60 :: (i ++ [62]) ∧ (62 : Int) ∉ (60 :: i) ∧ (txtL p).all prB = true := by
  unfold patB at hp
  rw [hn] at hp
  simp only [cond_false, Bool.and_eq_true] at hp
  refine ⟨sbytes p.Local ++ 64 :: sbytes p.Domain, by unfold txtL; rw [hn]; simp, ?_, ?_⟩
  · intro h
    rcases List.mem_cons.1 h with h | h
    · cases h
    · rcases List.mem_append.1 h with h | h
      · exact loc_no (by decide) hp.1 h
      · rcases List.mem_cons.1 h with h | h
        · cases h
        · exact dom_no (by decide) hp.2 h
  · have ha : (sbytes p.Local).all prB = true := List.all_eq_true.2 fun x hx => by
      have h1 := List.all_eq_true.1 (loc_all hp.1) x hx
      have h2 := of_byte (fun c => !atD c || prB c) (by kernel_rfl) (byt_sbytes _ x hx)
      simpa [h1] using h2
    have hb : (sbytes p.Domain).all prB = true := List.all_eq_true.2 fun x hx => by
      have h1 := List.all_eq_true.1 (dom_all hp.2) x hx
      have h2 := of_byte (fun c => !lbD c || prB c) (by kernel_rfl) (byt_sbytes _ x hx)
      simpa [h1] using h2
    unfold txtL
    rw [hn]
    simp only [cond_false, List.all_cons, List.all_append, ha, hb, List.all_nil]
    rfl
theorem boxT {k : Int} {p : T_Path} (hp : patB p = true) (hn : p.Null = false) (X : List Int) : boxedL k (txtL p ++ X) = match parsL k X with | none => none | some ps => some ⟨k, e0, p, ps⟩ := by
  obtain ⟨i, e, hno, _⟩ := txt_split hp hn
  have e1 : txtL p ++ X = (60 :: i) ++ 62 :: X := by rw [e]; simp
  have e2 : (txtL p).length = (60 :: i).length + 1 := by rw [e]; simp
  unfold boxedL
  rw [e1, idx1_app hno, ← e1]
  simp only
  rw [← e2, List.take_left, List.drop_left, par_txt p hp]
  simp only
  rw [if_neg (by rw [hn]; simp)]
  rfl
theorem boxS {k : Int} {p : T_Path} (hp : patB p = true) (hn : p.Null = false) : boxedL k (32 :: txtL p) = none := by
  obtain ⟨i, e, hno, _⟩ := txt_split hp hn
  have e1 : 32 :: txtL p = (32 :: 60 :: i) ++ 62 :: [] := by rw [e]; simp
  have hno2 : (62 : Int) ∉ (32 :: 60 :: i) := by
    intro h
    rcases List.mem_cons.1 h with h | h
    · cases h
    · exact hno h
  unfold boxedL
  rw [e1, idx1_app hno2]
  simp only
  have : ((32 :: 60 :: i) ++ 62 :: ([] : List Int)).take ((32 :: 60 :: i).length + 1) = 32 :: 60 :: (i ++ [62]) := by
    rw [List.take_of_length_le (by simp)]; simp
  rw [this]
  have hp0 : parL (32 :: 60 :: (i ++ [62])) = none := by
    unfold parL midL
    rw [if_neg (by intro h; cases h), if_neg (by rintro ⟨h, _⟩; cases h)]
  rw [hp0]
theorem spl_two {a b : List Int} (ha : (32 : Int) ∉ a) (hb : (32 : Int) ∉ b) : spl 32 (a ++ 32 :: b) = [a, b] := by
  rw [spl_app ha, spl_one hb]
def wSize : List Int := [83, 73, 90, 69, 61]
theorem par_size {k : Int} (D : List Int) : paramL k (wSize ++ D) = if k = 2 ∧ numB D = true then some ⟨bstr [83, 73, 90, 69], bstr D⟩ else none := by
  have hc : cutW 61 (wSize ++ D) = ([83, 73, 90, 69], D, true) := cutW_app (w := [83, 73, 90, 69]) (by decide)
  unfold paramL
  rw [hc]
  simp only
  by_cases h2 : k = 2
  · rw [if_pos ⟨h2, rfl⟩]
    by_cases hn : numB D = true
    · rw [if_pos hn, if_pos ⟨h2, hn⟩]
    · rw [if_neg hn, if_neg (fun h => hn h.2)]
  · rw [if_neg (fun h => h2 h.1), if_neg (fun h => h2 h.1), if_neg (fun h => absurd h.2 (by decide)), if_neg (fun h => h2 h.1)]
theorem size_yes {D : List Int} (h : numB D = true) : paramL 2 (wSize ++ D) = some ⟨bstr [83, 73, 90, 69], bstr D⟩ := by
  rw [par_size, if_pos ⟨rfl, h⟩]
theorem size_bad {D : List Int} (h : numB D = false) : paramL 2 (wSize ++ D) = none := by
  rw [par_size, if_neg (fun h2 => by rw [h] at h2; cases h2.2)]
theorem size_no (D : List Int) : paramL 3 (wSize ++ D) = none := by
  rw [par_size, if_neg (fun h2 => absurd h2.1 (by decide))]
theorem pars_cons (k : Int) (r : List Int) : parsL k (32 :: r) = foldP k (spl 32 r) [] := by
  unfold parsL; exact if_pos rfl
theorem fold_none {k : Int} {p : List Int} {ps : List (List Int)} {acc : List T_Param} (h : paramL k p = none) : foldP k (p :: ps) acc = none := by
  unfold foldP; rw [h]
theorem fold_dup {k : Int} {p : List Int} {ps : List (List Int)} {acc : List T_Param} {q : T_Param} (h : paramL k p = some q) (h2 : (acc.any fun x => decide (x.Key = q.Key)) = true) : foldP k (p :: ps) acc = none := by
  unfold foldP; rw [h]; exact if_pos h2
theorem fold_go {k : Int} {p : List Int} {ps : List (List Int)} {acc : List T_Param} {q : T_Param} (h : paramL k p = some q) (h2 : (acc.any fun x => decide (x.Key = q.Key)) = false) : foldP k (p :: ps) acc = foldP k ps (acc ++ [q]) := by
  rw [foldP, h]; exact if_neg (by rw [h2]; simp)
theorem dg_no {D : List Int} (h : D.all dgB = true) : (32 : Int) ∉ wSize ++ D := by
  intro hm
  rcases List.mem_append.1 hm with hm | hm
  · revert hm; decide
  · exact (dg_pr h).2.2 hm
end Go.Abs.Sh
