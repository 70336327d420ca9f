import Derived.Test.YtccfiglffammoaaDoorRepJ
namespace Go.Abs.Sh
set_option linter.unusedVariables false
set_option linter.unusedSimpArgs false
set_option maxRecDepth 100000
def q1 : ByteArray := (⟨#[70, 114, 111, 109, 58, 32, 60, 112, 111, 115, 116, 109, 97, 115, 116, 101, 114, 64]⟩ : ByteArray)
def q1L : List Int := [70, 114, 111, 109, 58, 32, 60, 112, 111, 115, 116, 109, 97, 115, 116, 101, 114, 64]
theorem q1_sb : sbytes q1 = q1L := rfl
theorem q1_len : q1L.length = 18 := rfl
theorem q1_cln : cln q1L := of_decide_eq_true (p := ∀ x ∈ q1L, x ≠ 13 ∧ x ≠ 10) (by kernel_rfl)
def q2 : ByteArray := (⟨#[84, 111, 58, 32]⟩ : ByteArray)
def q2L : List Int := [84, 111, 58, 32]
theorem q2_sb : sbytes q2 = q2L := rfl
theorem q2_len : q2L.length = 4 := rfl
theorem q2_cln : cln q2L := of_decide_eq_true (p := ∀ x ∈ q2L, x ≠ 13 ∧ x ≠ 10) (by kernel_rfl)
def q3 : ByteArray := (⟨#[83, 117, 98, 106, 101, 99, 116, 58, 32, 85, 110, 100, 101, 108, 105, 118, 101, 114, 101, 100, 32, 109, 97, 105, 108]⟩ : ByteArray)
def q3L : List Int := [83, 117, 98, 106, 101, 99, 116, 58, 32, 85, 110, 100, 101, 108, 105, 118, 101, 114, 101, 100, 32, 109, 97, 105, 108]
theorem q3_sb : sbytes q3 = q3L := rfl
theorem q3_len : q3L.length = 25 := rfl
theorem q3_cln : cln q3L := of_decide_eq_true (p := ∀ x ∈ q3L, x ≠ 13 ∧ x ≠ 10) (by kernel_rfl)
def q4 : ByteArray := (⟨#[67, 111, 110, 116, 101, 110, 116, 45, 84, 121, 112, 101, 58, 32, 109, 117, 108, 116, 105, 112, 97, 114, 116, 47, 114, 101, 112, 111, 114, 116, 59, 32, 114, 101, 112, 111, 114, 116, 45, 116, 121, 112, 101, 61, 100, 101, 108, 105, 118, 101, 114, 121, 45, 115, 116, 97, 116, 117, 115, 59, 32, 98, 111, 117, 110, 100, 97, 114, 121, 61, 119]⟩ : ByteArray)
def q4L : List Int := [67, 111, 110, 116, 101, 110, 116, 45, 84, 121, 112, 101, 58, 32, 109, 117, 108, 116, 105, 112, 97, 114, 116, 47, 114, 101, 112, 111, 114, 116, 59, 32, 114, 101, 112, 111, 114, 116, 45, 116, 121, 112, 101, 61, 100, 101, 108, 105, 118, 101, 114, 121, 45, 115, 116, 97, 116, 117, 115, 59, 32, 98, 111, 117, 110, 100, 97, 114, 121, 61, 119]
theorem q4_sb : sbytes q4 = q4L := rfl
theorem q4_len : q4L.length = 71 := rfl
theorem q4_cln : cln q4L := of_decide_eq_true (p := ∀ x ∈ q4L, x ≠ 13 ∧ x ≠ 10) (by kernel_rfl)
def q6 : ByteArray := (⟨#[45, 45, 119]⟩ : ByteArray)
def q6L : List Int := [45, 45, 119]
theorem q6_sb : sbytes q6 = q6L := rfl
theorem q6_len : q6L.length = 3 := rfl
theorem q6_cln : cln q6L := of_decide_eq_true (p := ∀ x ∈ q6L, x ≠ 13 ∧ x ≠ 10) (by kernel_rfl)
def q7 : ByteArray := (⟨#[67, 111, 110, 116, 101, 110, 116, 45, 84, 121, 112, 101, 58, 32, 116, 101, 120, 116, 47, 112, 108, 97, 105, 110]⟩ : ByteArray)
def q7L : List Int := [67, 111, 110, 116, 101, 110, 116, 45, 84, 121, 112, 101, 58, 32, 116, 101, 120, 116, 47, 112, 108, 97, 105, 110]
theorem q7_sb : sbytes q7 = q7L := rfl
theorem q7_len : q7L.length = 24 := rfl
theorem q7_cln : cln q7L := of_decide_eq_true (p := ∀ x ∈ q7L, x ≠ 13 ∧ x ≠ 10) (by kernel_rfl)
def q9 : ByteArray := (⟨#[78, 111, 32, 119, 97, 121, 32, 119, 97, 115, 32, 102, 111, 117, 110, 100, 32, 116, 111, 32]⟩ : ByteArray)
def q9L : List Int := [78, 111, 32, 119, 97, 121, 32, 119, 97, 115, 32, 102, 111, 117, 110, 100, 32, 116, 111, 32]
theorem q9_sb : sbytes q9 = q9L := rfl
theorem q9_len : q9L.length = 20 := rfl
theorem q9_cln : cln q9L := of_decide_eq_true (p := ∀ x ∈ q9L, x ≠ 13 ∧ x ≠ 10) (by kernel_rfl)
def q11 : ByteArray := (⟨#[67, 111, 110, 116, 101, 110, 116, 45, 84, 121, 112, 101, 58, 32, 109, 101, 115, 115, 97, 103, 101, 47, 100, 101, 108, 105, 118, 101, 114, 121, 45, 115, 116, 97, 116, 117, 115]⟩ : ByteArray)
def q11L : List Int := [67, 111, 110, 116, 101, 110, 116, 45, 84, 121, 112, 101, 58, 32, 109, 101, 115, 115, 97, 103, 101, 47, 100, 101, 108, 105, 118, 101, 114, 121, 45, 115, 116, 97, 116, 117, 115]
theorem q11_sb : sbytes q11 = q11L := rfl
theorem q11_len : q11L.length = 37 := rfl
theorem q11_cln : cln q11L := of_decide_eq_true (p := ∀ x ∈ q11L, x ≠ 13 ∧ x ≠ 10) (by kernel_rfl)
def q13 : ByteArray := (⟨#[82, 101, 112, 111, 114, 116, 105, 110, 103, 45, 77, 84, 65, 58, 32, 100, 110, 115, 59, 32]⟩ : ByteArray)
def q13L : List Int := [82, 101, 112, 111, 114, 116, 105, 110, 103, 45, 77, 84, 65, 58, 32, 100, 110, 115, 59, 32]
theorem q13_sb : sbytes q13 = q13L := rfl
theorem q13_len : q13L.length = 20 := rfl
theorem q13_cln : cln q13L := of_decide_eq_true (p := ∀ x ∈ q13L, x ≠ 13 ∧ x ≠ 10) (by kernel_rfl)
def q15 : ByteArray := (⟨#[70, 105, 110, 97, 108, 45, 82, 101, 99, 105, 112, 105, 101, 110, 116, 58, 32, 114, 102, 99, 56, 50, 50, 59, 32]⟩ : ByteArray)
def q15L : List Int := [70, 105, 110, 97, 108, 45, 82, 101, 99, 105, 112, 105, 101, 110, 116, 58, 32, 114, 102, 99, 56, 50, 50, 59, 32]
theorem q15_sb : sbytes q15 = q15L := rfl
theorem q15_len : q15L.length = 25 := rfl
theorem q15_cln : cln q15L := of_decide_eq_true (p := ∀ x ∈ q15L, x ≠ 13 ∧ x ≠ 10) (by kernel_rfl)
def q16 : ByteArray := (⟨#[65, 99, 116, 105, 111, 110, 58, 32, 102, 97, 105, 108, 101, 100]⟩ : ByteArray)
def q16L : List Int := [65, 99, 116, 105, 111, 110, 58, 32, 102, 97, 105, 108, 101, 100]
theorem q16_sb : sbytes q16 = q16L := rfl
theorem q16_len : q16L.length = 14 := rfl
theorem q16_cln : cln q16L := of_decide_eq_true (p := ∀ x ∈ q16L, x ≠ 13 ∧ x ≠ 10) (by kernel_rfl)
def q17 : ByteArray := (⟨#[83, 116, 97, 116, 117, 115, 58, 32, 52, 46, 52, 46, 55]⟩ : ByteArray)
def q17L : List Int := [83, 116, 97, 116, 117, 115, 58, 32, 52, 46, 52, 46, 55]
theorem q17_sb : sbytes q17 = q17L := rfl
theorem q17_len : q17L.length = 13 := rfl
theorem q17_cln : cln q17L := of_decide_eq_true (p := ∀ x ∈ q17L, x ≠ 13 ∧ x ≠ 10) (by kernel_rfl)
def q18 : ByteArray := (⟨#[45, 45, 119, 45, 45]⟩ : ByteArray)
def q18L : List Int := [45, 45, 119, 45, 45]
theorem q18_sb : sbytes q18 = q18L := rfl
theorem q18_len : q18L.length = 5 := rfl
theorem q18_cln : cln q18L := of_decide_eq_true (p := ∀ x ∈ q18L, x ≠ 13 ∧ x ≠ 10) (by kernel_rfl)
def repL (S P Q : List Int) : List (List Int) := (q1L ++ (S ++ [62])) :: (q2L ++ P) :: q3L :: q4L :: [] :: q6L :: q7L :: [] :: (q9L ++ (Q ++ [46])) :: q6L :: q11L :: [] :: (q13L ++ S) :: [] :: (q15L ++ Q) :: q16L :: q17L :: q18L :: []
def xsB (a b c d e : ByteArray) : List ByteArray := [a, b, q3, q4, (⟨#[]⟩ : ByteArray), q6, q7, (⟨#[]⟩ : ByteArray), c, q6, q11, (⟨#[]⟩ : ByteArray), d, (⟨#[]⟩ : ByteArray), e, q16, q17, q18]
theorem rep_len (S P Q : List Int) : (repL S P Q).length = 18 := rfl
theorem rep_tot (S P Q : List Int) : tot (repL S P Q) = 2 * S.length + P.length + 2 * Q.length + 320 := by
  simp only [repL, tot, List.length_append, List.length_cons, List.length_nil, q1_len, q2_len, q3_len, q4_len, q6_len, q7_len, q9_len, q11_len, q13_len, q15_len, q16_len, q17_len, q18_len]
  omega
theorem cln_nil : cln [] := fun x hx => by cases hx
theorem cln1 {c : Int} (h1 : c ≠ 13) (h2 : c ≠ 10) : cln [c] := fun x hx => by rw [List.mem_singleton.1 hx]; exact ⟨h1, h2⟩
theorem rep_cln {S P Q : List Int} (hS : cln S) (hP : cln P) (hQ : cln Q) : ∀ l ∈ repL S P Q, cln l := by
  intro l hl
  simp only [repL, List.mem_cons, List.not_mem_nil, or_false] at hl
  rcases hl with rfl | rfl | rfl | rfl | rfl | rfl | rfl | rfl | rfl | rfl | rfl | rfl | rfl | rfl | rfl | rfl | rfl | rfl
  · exact cln_app q1_cln (cln_app hS (cln1 (by decide) (by decide)))
  · exact cln_app q2_cln hP
  · exact q3_cln
  · exact q4_cln
  · exact cln_nil
  · exact q6_cln
  · exact q7_cln
  · exact cln_nil
  · exact cln_app q9_cln (cln_app hQ (cln1 (by decide) (by decide)))
  · exact q6_cln
  · exact q11_cln
  · exact cln_nil
  · exact cln_app q13_cln hS
  · exact cln_nil
  · exact cln_app q15_cln hQ
  · exact q16_cln
  · exact q17_cln
  · exact q18_cln
theorem q_byt (s : ByteArray) (l : List Int) (h : sbytes s = l) : byt l := h ▸ byt_sbytes s
theorem byt1 {c : Int} (h : 0 ≤ c ∧ c < 256) : byt [c] := fun x hx => by rw [List.mem_singleton.1 hx]; exact h
theorem rep_byt {S P Q : List Int} (hS : byt S) (hP : byt P) (hQ : byt Q) : ∀ l ∈ repL S P Q, byt l := by
  intro l hl
  simp only [repL, List.mem_cons, List.not_mem_nil, or_false] at hl
  rcases hl with rfl | rfl | rfl | rfl | rfl | rfl | rfl | rfl | rfl | rfl | rfl | rfl | rfl | rfl | rfl | rfl | rfl | rfl
  · exact byt_app (q_byt _ _ q1_sb) (byt_app hS (byt1 (by decide)))
  · exact byt_app (q_byt _ _ q2_sb) hP
  · exact q_byt _ _ q3_sb
  · exact q_byt _ _ q4_sb
  · exact byt_nil
  · exact q_byt _ _ q6_sb
  · exact q_byt _ _ q7_sb
  · exact byt_nil
  · exact byt_app (q_byt _ _ q9_sb) (byt_app hQ (byt1 (by decide)))
  · exact q_byt _ _ q6_sb
  · exact q_byt _ _ q11_sb
  · exact byt_nil
  · exact byt_app (q_byt _ _ q13_sb) hS
  · exact byt_nil
  · exact byt_app (q_byt _ _ q15_sb) hQ
  · exact q_byt _ _ q16_sb
  · exact q_byt _ _ q17_sb
  · exact q_byt _ _ q18_sb
theorem xs_sb (S P Q : List Int) (hS : byt S) (hP : byt P) (hQ : byt Q) : (xsB (bstr (q1L ++ (S ++ [62]))) (bstr (q2L ++ P)) (bstr (q9L ++ (Q ++ [46]))) (bstr (q13L ++ S)) (bstr (q15L ++ Q))).map sbytes = repL S P Q := by
  have h := rep_byt hS hP hQ
  simp only [xsB, List.map_cons, List.map_nil]
  rw [sbytes_bstr (h _ (by simp [repL])), sbytes_bstr (h (q2L ++ P) (by simp [repL])), sbytes_bstr (h (q9L ++ (Q ++ [46])) (by simp [repL])), sbytes_bstr (h (q13L ++ S) (by simp [repL])), sbytes_bstr (h (q15L ++ Q) (by simp [repL]))]
  rfl
theorem sb_mk (l : List UInt8) : sbytes ⟨l.toArray⟩ = l.map (fun b => (b.toNat : Int)) := by simp [sbytes]
theorem jn_tail : ∀ (r : List ByteArray), (Lib.joinTail [13, 10] (r.map (·.data.toList))).map (fun b => (b.toNat : Int)) ++ [13, 10] = 13 :: 10 :: jn (r.map sbytes)
  | [] => rfl
  | x :: r => by
    have ih := jn_tail r
    simp only [Lib.joinTail, List.map_cons, List.flatten_cons, List.map_append, List.append_assoc, jn] at ih ⊢
    rw [ih]
    rfl
theorem join_jn : ∀ (xs : List ByteArray), xs ≠ [] → sbytes ⟨(Lib.join (xs.map (·.data.toList)) [13, 10]).toArray⟩ ++ [13, 10] = jn (xs.map sbytes)
  | [], h => absurd rfl h
  | x :: r, _ => by
    rw [sb_mk, List.map_cons, Lib.join_cons, List.map_append, List.append_assoc, jn_tail]
    rfl
theorem join_len (xs : List ByteArray) (h : xs ≠ []) : (Lib.join (xs.map (·.data.toList)) [13, 10]).length + 2 = tot (xs.map sbytes) := by
  have := congrArg List.length (join_jn xs h)
  rw [List.length_append, sb_mk, List.length_map, jn_len] at this
  exact this
def rg (site : ByteArray) (s p : T_Path) : Bool := domB (sbytes site) && (patB s && (!s.Null && (patB p && !p.Null)))
structure Sm (p : T_Path) : Prop where
  l : p.Local.size ≤ 5000
  d : p.Domain.size ≤ 5000
theorem Sm.small {p : T_Path} (h : Sm p) : Small p := ⟨by have := h.l; omega, by have := h.d; omega⟩
theorem txtR_len {p : T_Path} (h : Sm p) : (txtL p).length ≤ 10003 := by
  have h1 := h.l; have h2 := h.d
  unfold txtL
  cases p.Null
  · simp only [cond_false, List.length_cons, List.length_append, sbytes_len, List.length_nil]; omega
  · simp
def rtO (p : T_Path) : ByteArray := if patB p = true then bstr (txtL p) else e0
theorem rtxt_eq (p : T_Path) (h : Sm p) : report_text p = some (rtO p, patB p && !p.Null) := by
  unfold report_text rtO
  refine bnd (text_eq p h.small) ?_
  cases hp : patB p
  · exact bndL (s := false) (cnd_f rfl rfl) rfl
  · exact bndL (s := !p.Null) (cnd_t rfl rfl) (by simp)
theorem cat2 {k s : ByteArray} {kl l : List Int} (hk : sbytes k = kl) (hs : sbytes s = l) (h1 : kl.length ≤ 100000) (h2 : l.length ≤ 100000) : catO k s = some (bstr (kl ++ l)) := catL hk hs (by omega)
theorem sb46 : sbytes (⟨#[46]⟩ : ByteArray) = [46] := rfl
theorem build_eq (site : ByteArray) (s p : T_Path) (h0 : site.size ≤ 5000) (hs : Sm s) (hp : Sm p) : report_Build site s p = some (if rg site s p = true then (jn (repL (sbytes site) (txtL s) (txtL p)), 0) else ([], 5)) := by
  unfold report_Build
  refine bnd (rtxt_eq s hs) (bnd (rtxt_eq p hp) ?_)
  cases h1 : domB (sbytes site)
  · rw [if_neg (by simp [rg, h1])]
    exact bndL (s := true) (bnd (dom_eq site (by omega)) (cnd_t (by rw [h1]; rfl) rfl)) rfl
  cases h2 : (patB s && !s.Null)
  · have e : rg site s p = false := by unfold rg; rw [← Bool.and_assoc (patB s), h2]; simp
    rw [if_neg (by rw [e]; simp)]
    exact bndL (s := true) (bnd (dom_eq site (by omega)) (cnd_f (by rw [h1]; rfl) (cnd_t rfl rfl))) rfl
  cases h3 : (patB p && !p.Null)
  · have e : rg site s p = false := by unfold rg; rw [h3]; simp
    rw [if_neg (by rw [e]; simp)]
    exact bndL (s := true) (bnd (dom_eq site (by omega)) (cnd_f (by rw [h1]; rfl) (cnd_f rfl rfl))) rfl
  have e2 : patB s = true := by cases hh : patB s <;> simp_all
  have e3 : patB p = true := by cases hh : patB p <;> simp_all
  have e : rg site s p = true := by unfold rg; rw [← Bool.and_assoc (patB s), h1, h2, h3]; rfl
  have r2 : rtO s = bstr (txtL s) := by unfold rtO; rw [if_pos e2]
  have r3 : rtO p = bstr (txtL p) := by unfold rtO; rw [if_pos e3]
  rw [if_pos e, r2, r3]
  refine bndL (s := false) (bnd (dom_eq site (by omega)) (cnd_f (by rw [h1]; rfl) (cnd_f rfl rfl))) (cnd_f rfl ?_)
  have hS := byt_sbytes site
  have hP := byt_txt s
  have hQ := byt_txt p
  have lS : (sbytes site).length ≤ 5000 := by rw [sbytes_len]; exact h0
  have lP := txtR_len hs
  have lQ := txtR_len hp
  have b1 : sbytes (bstr (q1L ++ sbytes site)) = q1L ++ sbytes site := sbytes_bstr (byt_app (q_byt _ _ q1_sb) hS)
  have b9 : sbytes (bstr (q9L ++ txtL p)) = q9L ++ txtL p := sbytes_bstr (byt_app (q_byt _ _ q9_sb) hQ)
  refine bnd (cat2 q1_sb rfl (by decide) (by omega)) (bnd (cat2 b1 sb62 (by rw [List.length_append, q1_len]; omega) (by decide)) (bnd (cat2 q2_sb (sbytes_bstr hP) (by decide) (by omega)) (bnd (cat2 q9_sb (sbytes_bstr hQ) (by decide) (by omega)) (bnd (cat2 b9 sb46 (by rw [List.length_append, q9_len]; omega) (by decide)) (bnd (cat2 q13_sb rfl (by decide) (by omega)) (bnd (cat2 q15_sb (sbytes_bstr hQ) (by decide) (by omega)) ?_))))))
  rw [List.append_assoc, List.append_assoc]
  have hx := xs_sb (sbytes site) (txtL s) (txtL p) hS hP hQ
  have hne : xsB (bstr (q1L ++ (sbytes site ++ [62]))) (bstr (q2L ++ txtL s)) (bstr (q9L ++ (txtL p ++ [46]))) (bstr (q13L ++ sbytes site)) (bstr (q15L ++ txtL p)) ≠ [] := by simp [xsB]
  have hj := join_jn _ hne
  have hl := join_len _ hne
  rw [hx] at hj hl
  rw [rep_tot] at hl
  have hjo : strings_Join (xsB (bstr (q1L ++ (sbytes site ++ [62]))) (bstr (q2L ++ txtL s)) (bstr (q9L ++ (txtL p ++ [46]))) (bstr (q13L ++ sbytes site)) (bstr (q15L ++ txtL p))) (⟨#[13, 10]⟩ : ByteArray) = some ⟨(Lib.join ((xsB (bstr (q1L ++ (sbytes site ++ [62]))) (bstr (q2L ++ txtL s)) (bstr (q9L ++ (txtL p ++ [46]))) (bstr (q13L ++ sbytes site)) (bstr (q15L ++ txtL p))).map (·.data.toList)) [13, 10]).toArray⟩ := by
    unfold strings_Join
    rw [if_pos ⟨by simp [xsB], by show (Lib.join _ [13, 10]).length ≤ _; omega⟩]
  refine bnd hjo (bnd (cat2 rfl (rfl : sbytes (⟨#[13, 10]⟩ : ByteArray) = [13, 10]) (by rw [sb_mk, List.length_map]; omega) (by decide)) ?_)
  refine bnd rfl ?_
  show some (sbytes (bstr (_ ++ [13, 10])), (0 : Int)) = _
  rw [hj, sbytes_bstr (jn_byt (rep_byt hS hP hQ))]
end Go.Abs.Sh
