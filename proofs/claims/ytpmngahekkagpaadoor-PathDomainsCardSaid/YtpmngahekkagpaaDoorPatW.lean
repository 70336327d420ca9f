import Derived.Test.YtpmngahekkagpaaDoorPatX
namespace Go.Abs.Sh
set_option linter.unusedVariables false
set_option linter.unusedSimpArgs false

theorem spl_join (c : Int) : ∀ (l r : List Int), spl c (l ++ c :: r) = spl c l ++ spl c r
  | [], r => by simp [spl]
  | x :: l, r => by
    rw [List.cons_append]
    conv => lhs; unfold spl
    conv => rhs; arg 1; unfold spl
    rw [spl_join c l r]
    by_cases h : x = c
    · rw [if_pos h, if_pos h, List.cons_append]
    · rw [if_neg h, if_neg h]
      cases hs : spl c l with
      | nil => exact absurd hs (spl_ne c l)
      | cons p ps => rfl
theorem spl_snoc {c x : Int} (hx : x ≠ c) : ∀ l, ∃ qs q, spl c l = qs ++ [q] ∧ spl c (l ++ [x]) = qs ++ [q ++ [x]]
  | [] => ⟨[], [], rfl, by simp [spl, hx]⟩
  | y :: l => by
    obtain ⟨qs, q, h1, h2⟩ := spl_snoc hx l
    rw [List.cons_append]
    unfold spl
    rw [h1, h2]
    by_cases h : y = c
    · rw [if_pos h, if_pos h]
      exact ⟨[] :: qs, q, rfl, rfl⟩
    · rw [if_neg h, if_neg h]
      cases qs with
      | nil => exact ⟨[], y :: q, rfl, rfl⟩
      | cons p ps => exact ⟨(y :: p) :: ps, q, rfl, rfl⟩
theorem dom_join (a b : List Int) (ha : domB a = true) (hb : domB b = true) : domB (a ++ 46 :: b) = decide (a.length + b.length < 255) := by
  have h1 := ha
  have h2 := hb
  unfold domB at ha hb ⊢
  rw [Bool.and_eq_true] at ha hb
  rw [spl_join, List.all_append, ha.2, hb.2]
  simp only [Bool.and_true, List.length_append, List.length_cons, Bool.and_self]
  by_cases h : a.length + b.length < 255
  · rw [decide_eq_true h, decide_eq_true (by omega)]
  · rw [decide_eq_false h, decide_eq_false (by omega)]
theorem dom_dots (a b : List Int) : domB (a ++ 46 :: 46 :: b) = false := by
  unfold domB
  rw [spl_join, List.all_append]
  simp [spl, labB]
theorem dom_dot_end (a : List Int) : domB (a ++ [46]) = false := by
  unfold domB
  rw [spl_join, List.all_append]
  simp [spl, labB]
theorem dom_dot_front (a : List Int) : domB (46 :: a) = false := by
  unfold domB
  simp [spl, labB]
theorem dom_hyph_front (a : List Int) : domB (45 :: a) = false := by
  unfold domB
  have : (spl 46 (45 :: a)).all labB = false := by
    unfold spl
    rw [if_neg (by decide)]
    cases hs : spl 46 a with
    | nil => rfl
    | cons p ps => simp [labB]
  rw [this, Bool.and_false]
theorem dom_hyph_end (a : List Int) : domB (a ++ [45]) = false := by
  unfold domB
  obtain ⟨qs, q, h1, h2⟩ := spl_snoc (c := 46) (x := 45) (by decide) a
  rw [h2, List.all_append]
  simp [labB]

theorem u8_of {c : Int} (h : wfI .u8 c) : 0 ≤ c ∧ c < 256 := by
  simp only [wfI, Lit.wf, IntKind.min, IntKind.max, IntKind.signed, IntKind.bits] at h
  have h2 : 0 ≤ c ∧ c ≤ 255 := by simpa using h
  omega
def sgB (c : Int) : Bool := decide (97 ≤ c) && decide (c ≤ 122) || (decide (65 ≤ c) && decide (c ≤ 90) || (decide (48 ≤ c) && decide (c ≤ 57) || (c == 45 || c == 46)))
theorem sg_all : (List.range 256).all (fun k => sgB ((k : Nat) : Int) == lbD ((k : Nat) : Int)) = true := by kernel_rfl
theorem domC {s : ByteArray} {l : List Int} (hs : sbytes s = l) (hl : l.length ≤ 5000) : path_Domain s = some (domB l) := by
  subst hs
  rw [sbytes_len] at hl
  exact dom_eq s (by omega)

theorem pathDomains_true (a b : ByteArray) (c : Int) (ha : wzS a) (hb : wzS b) (hc : wfI .u8 c) : wherrylaw11_PathDomains a b c = some true := by
  have l1 := reach47 ha; have l2 := reach47 hb
  have hc := u8_of hc
  unfold wherrylaw11_PathDomains
  have hw : some (IntKind.i64.wrap ((a.size : Int) + (b.size : Int))) = some ((a.size : Int) + (b.size : Int)) := wrap_i (by omega) (by omega)
  refine bnd hw ?_
  by_cases hbig : 1000 < (a.size : Int) + (b.size : Int)
  · exact cnd_t (decide_eq_true hbig) rfl
  refine cnd_f (decide_eq_false hbig) ?_
  have da := dom_eq a (by omega)
  have db := dom_eq b (by omega)
  have d0 : path_Domain (⟨#[]⟩ : ByteArray) = some false := dom_eq e0 (by decide)
  cases ea : domB (sbytes a)
  · rw [ea] at da
    exact bndL (s := true) (bnd da rfl) (cnd_t rfl (bndL (s := true) (bnd d0 (cnd_t rfl (bnd wakes11 rfl))) rfl))
  rw [ea] at da
  cases eb : domB (sbytes b)
  · rw [eb] at db
    exact bndL (s := true) (bnd da (cnd_f rfl (bnd db rfl))) (cnd_t rfl (bndL (s := true) (bnd d0 (cnd_t rfl (bnd wakes11 rfl))) rfl))
  rw [eb] at db
  have b46 : byt [46] := byt_cons (by omega) byt_nil
  have b45 : byt [45] := byt_cons (by omega) byt_nil
  have bc : byt [c] := byt_cons hc byt_nil
  have b4646 : byt [46, 46] := byt_cons (by omega) b46
  have ba := byt_sbytes a
  have bb := byt_sbytes b
  have la := sbytes_len a
  have lb := sbytes_len b
  refine bndL (s := false) (bnd da (cnd_f rfl (bnd db rfl))) (cnd_f rfl (bndL (s := sgB c) ?_ ?_))
  · unfold sgB
    cases decide (97 ≤ c) <;> cases decide (c ≤ 122) <;> cases decide (65 ≤ c) <;> cases decide (c ≤ 90) <;> cases decide (48 ≤ c) <;> cases decide (c ≤ 57) <;> cases (c == 45) <;> rfl
  have c1 := catL (s := a) (t := ⟨#[46]⟩) rfl (show sbytes ⟨#[46]⟩ = [46] from rfl) (by simp; omega)
  have c2 := catL (s := bstr (sbytes a ++ [46])) (t := b) (sbytes_bstr (byt_app ba b46)) rfl (by simp; omega)
  have c3 := catL (s := a) (t := ⟨#[46, 46]⟩) rfl (show sbytes ⟨#[46, 46]⟩ = [46, 46] from rfl) (by simp; omega)
  have c4 := catL (s := bstr (sbytes a ++ [46, 46])) (t := b) (sbytes_bstr (byt_app ba b4646)) rfl (by simp; omega)
  have c5 := catL (s := ⟨#[45]⟩) (t := a) (show sbytes ⟨#[45]⟩ = [45] from rfl) rfl (by simp; omega)
  have c6 := catL (s := a) (t := ⟨#[45]⟩) rfl (show sbytes ⟨#[45]⟩ = [45] from rfl) (by simp; omega)
  have c7 := catL (s := ⟨#[46]⟩) (t := a) (show sbytes ⟨#[46]⟩ = [46] from rfl) rfl (by simp; omega)
  have k1 := domC (s := bstr (sbytes a ++ [46] ++ sbytes b)) (sbytes_bstr (byt_app (byt_app ba b46) bb)) (by simp; omega)
  have k2 := domC (s := bstr (sbytes a ++ [46, 46] ++ sbytes b)) (sbytes_bstr (byt_app (byt_app ba b4646) bb)) (by simp; omega)
  have k3 := domC (s := bstr ([45] ++ sbytes a)) (sbytes_bstr (byt_app b45 ba)) (by simp; omega)
  have k4 := domC (s := bstr (sbytes a ++ [45])) (sbytes_bstr (byt_app ba b45)) (by simp; omega)
  have k5 := domC (s := bstr (sbytes a ++ [46])) (sbytes_bstr (byt_app ba b46)) (by simp; omega)
  have k6 := domC (s := bstr ([46] ++ sbytes a)) (sbytes_bstr (byt_app b46 ba)) (by simp; omega)
  rw [show sbytes a ++ [46] ++ sbytes b = sbytes a ++ 46 :: sbytes b by simp, dom_join _ _ ea eb, la, lb] at k1
  rw [show sbytes a ++ [46, 46] ++ sbytes b = sbytes a ++ 46 :: 46 :: sbytes b by simp, dom_dots] at k2
  rw [show domB ([45] ++ sbytes a) = false from dom_hyph_front _] at k3
  rw [dom_hyph_end] at k4
  rw [dom_dot_end] at k5
  rw [show domB ([46] ++ sbytes a) = false from dom_dot_front _] at k6
  rw [show sbytes a ++ [46] ++ sbytes b = sbytes a ++ 46 :: sbytes b by simp] at c2
  rw [show sbytes a ++ [46, 46] ++ sbytes b = sbytes a ++ 46 :: 46 :: sbytes b by simp] at c4
  refine bndL (s := true) (bnd c1 (bnd c2 (bnd k1 (bnd hw (bnd rfl (cnd_t ?_ (bnd c3 (bnd c4 (bnd k2 (cnd_t rfl (bnd c5 (bnd k3 (cnd_t rfl (bnd c6 (bnd k4 (cnd_t rfl (bnd c1 (bnd k5 (cnd_t rfl (bnd c7 (bnd k6 (cnd_t rfl ?_)))))))))))))))))))))) rfl
  · rw [beq_iff_eq]
    by_cases h : a.size + b.size < 255
    · rw [decide_eq_true h, decide_eq_true (by omega)]
    · rw [decide_eq_false h, decide_eq_false (by omega)]
  · cases hsg : sgB c
    · refine cnd_f rfl ?_
      have hlb : lbD c = false := by
        have := of_byte (fun c => sgB c == lbD c) sg_all hc
        rw [beq_iff_eq, hsg] at this
        exact this.symm
      have d1 := catL (s := a) (t := bstr [c]) rfl (sbytes_bstr bc) (by simp; omega)
      have d2 := catL (s := bstr (sbytes a ++ [c])) (t := b) (sbytes_bstr (byt_app ba bc)) rfl (by simp; omega)
      have k7 := domC (s := bstr (sbytes a ++ [c] ++ sbytes b)) (sbytes_bstr (byt_app (byt_app ba bc) bb)) (by simp; omega)
      have : domB (sbytes a ++ [c] ++ sbytes b) = false := by
        cases h : domB (sbytes a ++ [c] ++ sbytes b)
        · rfl
        · exact absurd (by simp) (dom_no hlb h)
      rw [this] at k7
      exact bnd rfl (bnd d1 (bnd d2 (bnd k7 (cnd_t rfl (bnd wakes11 rfl)))))
    · exact cnd_t rfl (bnd wakes11 rfl)
end Go.Abs.Sh
