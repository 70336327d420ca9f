import Derived.Test.YtabnbhknefibaaaDoorHedG
import Derived.Test.YtabnbhknefibaaaDoorDigM
namespace Go.Abs.Sh
set_option linter.unusedVariables false
set_option linter.unusedSimpArgs false
def recN : ByteArray := ⟨#[82, 101, 99, 101, 105, 118, 101, 100]⟩
def dgs (n : Nat) : List Int := dgA 12 n []
def stB (helo site : ByteArray) (n : Nat) : List Int := [32, 102, 114, 111, 109, 32] ++ (sbytes helo ++ ([32, 98, 121, 32] ++ (sbytes site ++ ([32, 119, 105, 116, 104, 32, 69, 83, 77, 84, 80, 59, 32] ++ dgs n))))
def stF (helo site : ByteArray) (n : Nat) : T_Field := ⟨recN, bstr (stB helo site n)⟩
theorem dgs_of {n : Nat} (h : n ≤ 1099511627776) : (∀ x ∈ dgs n, dig1 x) ∧ (dgs n).length ≤ 13 := by
  obtain ⟨t, e, h1, _, h3⟩ := dgA_ok 12 n [] (Nat.lt_of_le_of_lt h (by decide))
  have : dgs n = t := by unfold dgs; rw [e, List.append_nil]
  rw [this]; exact ⟨h1, h3⟩
theorem byt_dgs {n : Nat} (h : n ≤ 1099511627776) : byt (dgs n) := fun x hx => by
  have := (dgs_of h).1 x hx
  unfold dig1 at this
  omega
theorem byt_stB (helo site : ByteArray) {n : Nat} (h : n ≤ 1099511627776) : byt (stB helo site n) :=
  byt_app (of_decide_eq_true (by kernel_rfl)) (byt_app (byt_sbytes _) (byt_app (of_decide_eq_true (by kernel_rfl)) (byt_app (byt_sbytes _) (byt_app (of_decide_eq_true (by kernel_rfl)) (byt_dgs h)))))
theorem len_stB (helo site : ByteArray) {n : Nat} (h : n ≤ 1099511627776) : (stB helo site n).length ≤ helo.size + site.size + 36 := by
  have := (dgs_of h).2
  simp only [stB, List.length_append, sbytes_len, List.length_cons, List.length_nil]
  omega
theorem sb_stF (helo site : ByteArray) {n : Nat} (h : n ≤ 1099511627776) : sbytes (stF helo site n).Body = stB helo site n := sbytes_bstr (byt_stB helo site h)
theorem line_stF (helo site : ByteArray) {n : Nat} (h : n ≤ 1099511627776) : lineF (stF helo site n) = [82, 101, 99, 101, 105, 118, 101, 100] ++ 58 :: stB helo site n := by
  unfold lineF
  rw [sb_stF helo site h]
  rfl
theorem stamp_bytes {helo site : ByteArray} {n : Nat} (h : n ≤ 1099511627776) : sbytes (((((((⟨#[82, 101, 99, 101, 105, 118, 101, 100, 58, 32, 102, 114, 111, 109, 32]⟩ : ByteArray) ++ helo) ++ (⟨#[32, 98, 121, 32]⟩ : ByteArray)) ++ site) ++ (⟨#[32, 119, 105, 116, 104, 32, 69, 83, 77, 84, 80, 59, 32]⟩ : ByteArray)) ++ bstr (dgs n)) ++ (⟨#[13, 10]⟩ : ByteArray)) = lineF (stF helo site n) ++ [13, 10] := by
  have ha : ∀ s t : ByteArray, sbytes (s ++ t) = sbytes s ++ sbytes t := fun s t => by simp [sbytes]
  rw [line_stF helo site h]
  have cA : sbytes (⟨#[82, 101, 99, 101, 105, 118, 101, 100, 58, 32, 102, 114, 111, 109, 32]⟩ : ByteArray) = [82, 101, 99, 101, 105, 118, 101, 100, 58, 32, 102, 114, 111, 109, 32] := by kernel_rfl
  have cB : sbytes (⟨#[32, 98, 121, 32]⟩ : ByteArray) = [32, 98, 121, 32] := by kernel_rfl
  have cC : sbytes (⟨#[32, 119, 105, 116, 104, 32, 69, 83, 77, 84, 80, 59, 32]⟩ : ByteArray) = [32, 119, 105, 116, 104, 32, 69, 83, 77, 84, 80, 59, 32] := by kernel_rfl
  have cD : sbytes (⟨#[13, 10]⟩ : ByteArray) = [13, 10] := by kernel_rfl
  simp only [ha, sbytes_bstr (byt_dgs h), stB, List.append_assoc, cA, cB, cC, cD, List.cons_append, List.nil_append]
theorem ct15 {s t : ByteArray} (h : s.size + t.size ≤ 9000000) : catO s t = some (s ++ t) := by unfold catO; rw [if_pos (by omega)]
theorem stamp_eq (helo site : ByteArray) (at_ : Int) (h1 : helo.size ≤ 1000000) (h2 : site.size ≤ 1000000) : head_Stamp helo site at_ = some (if domB (sbytes helo) = true ∧ domB (sbytes site) = true then (if 0 ≤ at_ ∧ at_ ≤ 1099511627776 then (lineF (stF helo site at_.toNat) ++ [13, 10], 0) else ([], 1)) else ([], 5)) := by
  have d1 := dom_eq helo (by omega)
  have d2 := dom_eq site (by omega)
  unfold head_Stamp
  cases b1 : domB (sbytes helo)
  · rw [b1] at d1
    rw [if_neg (by simp)]
    exact bndL (s := true) (bnd d1 (cnd_t rfl rfl)) (cnd_t rfl rfl)
  cases b2 : domB (sbytes site)
  · rw [b1] at d1
    rw [b2] at d2
    rw [if_neg (by simp)]
    exact bndL (s := true) (bnd d1 (cnd_f rfl (bnd d2 rfl))) (cnd_t rfl rfl)
  rw [b1] at d1
  rw [b2] at d2
  rw [if_pos ⟨rfl, rfl⟩]
  refine bndL (s := false) (bnd d1 (cnd_f rfl (bnd d2 rfl))) (cnd_f rfl ?_)
  by_cases h0 : at_ < 0
  · rw [if_neg (by omega)]
    exact bndL (s := true) (cnd_t (decide_eq_true h0) rfl) (cnd_t rfl rfl)
  by_cases hM : 1099511627776 < at_
  · rw [if_neg (by omega)]
    exact bndL (s := true) (cnd_f (decide_eq_false h0) (by rw [decide_eq_true hM])) (cnd_t rfl rfl)
  rw [if_pos (by omega)]
  obtain ⟨n, rfl⟩ : ∃ n : Nat, at_ = (n : Int) := ⟨at_.toNat, by omega⟩
  have hn : n ≤ 1099511627776 := by omega
  rw [Int.toNat_natCast]
  have hd := (dgs_of hn).2
  refine bndL (s := false) (cnd_f (decide_eq_false h0) (by rw [decide_eq_false hM])) (cnd_f rfl ?_)
  have zA : (⟨#[82, 101, 99, 101, 105, 118, 101, 100, 58, 32, 102, 114, 111, 109, 32]⟩ : ByteArray).size = 15 := rfl
  have zB : (⟨#[32, 98, 121, 32]⟩ : ByteArray).size = 4 := rfl
  have zC : (⟨#[32, 119, 105, 116, 104, 32, 69, 83, 77, 84, 80, 59, 32]⟩ : ByteArray).size = 13 := rfl
  have zD : (⟨#[13, 10]⟩ : ByteArray).size = 2 := rfl
  have zE : (bstr (dgs n)).size ≤ 13 := by rw [bstr_size]; exact hd
  refine bnd (ct15 (by omega)) (bnd (ct15 (by rw [ByteArray.size_append]; omega)) (bnd (ct15 (by rw [ByteArray.size_append, ByteArray.size_append]; omega)) (bnd (ct15 (by rw [ByteArray.size_append, ByteArray.size_append, ByteArray.size_append]; omega)) (bnd (itoa_eq 12 n (Nat.lt_of_le_of_lt hn (by decide)) (by omega)) (bnd (ct15 (by rw [ByteArray.size_append, ByteArray.size_append, ByteArray.size_append, ByteArray.size_append]; show _ + (bstr (dgs n)).size ≤ _; omega)) (bnd (ct15 (by rw [ByteArray.size_append, ByteArray.size_append, ByteArray.size_append, ByteArray.size_append, ByteArray.size_append]; show _ + _ + _ + _ + _ + (bstr (dgs n)).size + _ ≤ _; omega)) (bnd rfl ?_)))))))
  exact congrArg (fun l => some (l, (0 : Int))) (stamp_bytes hn)
theorem cln_app {a b : List Int} (ha : cln a) (hb : cln b) : cln (a ++ b) := fun x hx => by
  rcases List.mem_append.1 hx with h | h
  · exact ha x h
  · exact hb x h
theorem cln_dom {l : List Int} (h : domB l = true) : cln l := fun x hx => by
  refine ⟨fun e => ?_, fun e => ?_⟩
  · subst e; exact dom_no (c := 13) (by decide) h hx
  · subst e; exact dom_no (c := 10) (by decide) h hx
theorem cln_stF {helo site : ByteArray} {n : Nat} (h : n ≤ 1099511627776) (h1 : domB (sbytes helo) = true) (h2 : domB (sbytes site) = true) : cln (lineF (stF helo site n)) := by
  rw [line_stF helo site h]
  refine cln_app (of_decide_eq_true (by kernel_rfl)) ?_
  show cln ([58] ++ stB helo site n)
  refine cln_app (of_decide_eq_true (by kernel_rfl)) (cln_app (of_decide_eq_true (by kernel_rfl)) (cln_app (cln_dom h1) (cln_app (of_decide_eq_true (by kernel_rfl)) (cln_app (cln_dom h2) (cln_app (of_decide_eq_true (by kernel_rfl)) fun x hx => ?_)))))
  have := (dgs_of h).1 x hx
  unfold dig1 at this
  omega
theorem recN_ok : nameOK recN := ⟨by decide, of_decide_eq_true (by kernel_rfl)⟩
theorem len_line {helo site : ByteArray} {n : Nat} (h : n ≤ 1099511627776) : (lineF (stF helo site n)).length ≤ helo.size + site.size + 45 := by
  have := len_stB helo site h
  rw [line_stF helo site h]
  simp only [List.length_append, List.length_cons, List.length_nil]
  omega
theorem put_eq15 (b : List Int) (helo site : ByteArray) (at_ : Int) (hb : byt b) (hl : b.length ≤ 2000) (h1 : helo.size ≤ 800) (h2 : site.size ≤ 800) :
    (∃ e : Int, e ≠ 0 ∧ head_Put b helo site at_ = some ([], e)) ∨ (∃ (ls : List (List Int)) (n : Nat), (∀ l ∈ ls, cln l) ∧ (∀ l ∈ ls, byt l) ∧ b = jn ls ∧ n ≤ 1099511627776 ∧ domB (sbytes helo) = true ∧ domB (sbytes site) = true ∧ head_Put b helo site at_ = some (jn (lineF (stF helo site n) :: ls), 0)) := by
  rcases check_any hb (by omega) with hc | ⟨ls, hc, hy, rfl⟩
  · exact .inl ⟨5, by decide, by unfold head_Put; exact bnd hc (cnd_t rfl rfl)⟩
  have hok := check_ok hc hy (by rw [jn_len] at hl; omega)
  have hs := stamp_eq helo site at_ (by omega) (by omega)
  by_cases hd : domB (sbytes helo) = true ∧ domB (sbytes site) = true
  · by_cases ha : 0 ≤ at_ ∧ at_ ≤ 1099511627776
    · rw [if_pos hd, if_pos ha] at hs
      have hn : at_.toNat ≤ 1099511627776 := by omega
      refine .inr ⟨ls, at_.toNat, hc, hy, rfl, hn, hd.1, hd.2, ?_⟩
      have hll := len_line (helo := helo) (site := site) hn
      unfold head_Put
      refine bnd hok (cnd_f rfl (bnd hs (cnd_f rfl (bnd (app_of (by simp only [List.length_append, List.length_cons, List.length_nil]; omega) (by simp only [List.length_append, List.length_cons, List.length_nil]; omega)) ?_))))
      simp [jn]
    · rw [if_pos hd, if_neg ha] at hs
      exact .inl ⟨1, by decide, by unfold head_Put; exact bnd hok (cnd_f rfl (bnd hs (cnd_t rfl rfl)))⟩
  · rw [if_neg hd] at hs
    exact .inl ⟨5, by decide, by unfold head_Put; exact bnd hok (cnd_f rfl (bnd hs (cnd_t rfl rfl)))⟩
theorem stp_cons (F : T_Field) {fs : List T_Field} {s : ByteArray} (h : fs ≠ [] ∨ conx s = false) : stp (F :: fs) s = (stp fs s).map (F :: ·) := by
  unfold stp
  by_cases hc : conx s = true
  · have hf : fs ≠ [] := by
      rcases h with h | h
      · exact h
      · rw [h] at hc; cases hc
    have hpos : 0 < fs.length := List.length_pos_iff.2 hf
    rw [if_pos ⟨hc, by simp⟩, if_pos ⟨hc, hpos⟩, Option.map_some]
    have e1 : (F :: fs).length - 1 = (fs.length - 1) + 1 := by simp; omega
    have e2 : lastF (F :: fs) = lastF fs := by
      unfold lastF
      rw [e1, List.getD_cons_succ]
    rw [e1, e2, List.set_cons_succ]
  · rw [if_neg (show ¬(conx s = true ∧ 0 < (F :: fs).length) from fun h => hc h.1), if_neg (show ¬(conx s = true ∧ 0 < fs.length) from fun h => hc h.1)]
    split
    · rfl
    · rfl
theorem stp_ne {fs fs' : List T_Field} {s : ByteArray} (e : stp fs s = some fs') : fs' ≠ [] := by
  unfold stp at e
  split at e
  · rename_i h
    cases e
    intro h2
    have := congrArg List.length h2
    rw [List.length_set] at this
    simp at this
    exact absurd h.2 (by rw [this]; simp)
  · split at e
    · cases e; simp
    · cases e
theorem scn_cons (F : T_Field) (c : Nat) : ∀ (ls : List (List Int)) (fs : List T_Field) (e : Nat), (fs ≠ [] ∨ ∀ l, ls.head? = some l → conx (bstr l) = false) → scn ls (F :: fs) (e + c) = (F :: (scn ls fs e).1, (scn ls fs e).2 + c)
  | [], fs, e, _ => rfl
  | l :: ls, fs, e, h => by
    have hs := stp_cons F (fs := fs) (s := bstr l) (h.imp id fun h => h l rfl)
    simp only [scn, hs]
    cases hf : stp fs (bstr l) with
    | none =>
      simp only [Option.map_none]
      congr 1
      split <;> omega
    | some f =>
      simp only [Option.map_some]
      have := scn_cons F c ls f (e + (l.length + 2)) (.inl (stp_ne hf))
      rw [show e + c + (l.length + 2) = e + (l.length + 2) + c by omega]
      exact this
theorem stp_head {fs fs' : List T_Field} {s : ByteArray} (hne : fs ≠ []) (e : stp fs s = some fs') : fs'.head?.map (·.Name) = fs.head?.map (·.Name) := by
  cases fs with
  | nil => exact absurd rfl hne
  | cons f r =>
    unfold stp at e
    split at e
    · cases e
      cases r with
      | nil => rfl
      | cons g r =>
        rw [show (f :: g :: r).length - 1 = r.length + 1 by simp, List.set_cons_succ]
        rfl
    · split at e
      · cases e; rfl
      · cases e
theorem scn_head : ∀ (ls : List (List Int)) (fs : List T_Field) (e : Nat), fs ≠ [] → (scn ls fs e).1.head?.map (·.Name) = fs.head?.map (·.Name)
  | [], fs, e, _ => rfl
  | l :: ls, fs, e, h => by
    simp only [scn]
    cases hf : stp fs (bstr l) with
    | none => rfl
    | some f => exact (scn_head ls f _ (stp_ne hf)).trans (stp_head h hf)
theorem head_len {fs : List T_Field} {n : ByteArray} (h : fs.head?.map (·.Name) = some n) : ∃ f r, fs = f :: r ∧ f.Name = n := by
  cases fs with
  | nil => cases h
  | cons f r => exact ⟨f, r, rfl, by simpa using h⟩
theorem blank_eq {ls : List (List Int)} (hy : ∀ l ∈ ls, byt l) (hl : tot ls < 100000) : ∃ r : Bool, (cond ((decide (0 < ((jn ls).length : Int))))
                    ((ixO 0 (jn ls).length).bind fun v25 =>
                    (getO (jn ls) v25).bind fun v26 =>
                    cond ((v26 == 32))
                      (some (.inl true))
                      ((ixO 0 (jn ls).length).bind fun v27 =>
                      (getO (jn ls) v27).bind fun v28 =>
                      some (.inl (v28 == 9))))
                    (some (.inl false)) : Option (Bool ⊕ Bool)) = some (.inl r) ∧ (r = false → ∀ l, ls.head? = some l → conx (bstr l) = false) := by
  cases ls with
  | nil => exact ⟨false, rfl, fun _ l h => by cases h⟩
  | cons l ls =>
    have hlen : 0 < (jn (l :: ls)).length := by rw [jn_len]; simp only [tot]; omega
    have hx : ixO 0 (jn (l :: ls)).length = some 0 := ixO_of (i := 0) hlen
    have hg := getO_of (l := jn (l :: ls)) (i := 0) hlen
    have hlt : l.length < 100000 := by simp only [tot] at hl; omega
    have hchr : conx (bstr l) = conB l := by
      have := conx_char (bstr l) (by rw [bstr_size]; omega)
      rwa [sbytes_bstr (hy l (by simp))] at this
    have h0 : (jn (l :: ls))[0]'hlen = (l ++ [13]).headD 0 := by
      cases l <;> rfl
    rw [h0] at hg
    refine ⟨conB l, ?_, fun hr x hx => ?_⟩
    · refine cnd_t (decide_eq_true (by omega)) (bnd hx (bnd hg ?_))
      cases l with
      | nil => exact cnd_f rfl (bnd hx (bnd hg rfl))
      | cons x l =>
        show cond (x == 32) _ _ = _
        by_cases h32 : x = 32
        · subst h32; rfl
        · refine cnd_f (beq_eq_false_iff_ne.2 h32) (bnd hx (bnd hg ?_))
          show some (Sum.inl (x == 9)) = some (Sum.inl (conB (x :: l)))
          have : conB (x :: l) = (x == 9) := by
            unfold conB
            rw [List.head?_cons, decide_eq_false (fun h => h32 (Option.some.inj h)), Bool.false_or, Bool.eq_iff_iff, decide_eq_true_eq, beq_iff_eq]
            exact ⟨fun h => Option.some.inj h, fun h => congrArg some h⟩
          rw [this]
    · simp only [List.head?_cons, Option.some.injEq] at hx
      subst hx
      rw [hchr]; exact hr
theorem byt_of_wz {l : List Int} (h : wzL 1 (wfI .u8) l) : byt l := byt_of_wf ⟨by have := h.1; simp only [reachBytes] at this; simp only [maxLen]; omega, h.2⟩
theorem headStamped_true (b : List Int) (helo site : ByteArray) (at_ : Int) (hw : wzL 1 (wfI .u8) b) (h1 : wzS helo) (h2 : wzS site) : wherrylaw15_HeadStamped b helo site at_ = some true := by
  have hb := byt_of_wz hw
  have z1 : helo.size ≤ 140737488351232 := by simpa only [wzS, reachBytes] using h1
  have z2 : site.size ≤ 140737488351232 := by simpa only [wzS, reachBytes] using h2
  have w : some (IntKind.i64.wrap ((helo.size : Int) + (site.size : Int))) = some ((helo.size : Int) + (site.size : Int)) := wrap_i (by omega) (by omega)
  unfold wherrylaw15_HeadStamped
  by_cases hl : 2000 < b.length
  · exact bndL (s := true) (cnd_t (decide_eq_true (by omega)) rfl) (cnd_t rfl rfl)
  by_cases hz : 800 < helo.size + site.size
  · exact bndL (s := true) (cnd_f (decide_eq_false (by omega)) (bnd w (by rw [decide_eq_true (by omega)]))) (cnd_t rfl rfl)
  refine bndL (s := false) (cnd_f (decide_eq_false (by omega)) (bnd w (by rw [decide_eq_false (by omega)]))) (cnd_f rfl ?_)
  rcases put_eq15 b helo site at_ hb (by omega) (by omega) (by omega) with ⟨e, he, hp⟩ | ⟨ls, n, hc, hy, rfl, hn, d1, d2, hp⟩
  · exact bnd hp (cnd_t (bne_iff_ne.2 he) (bndL (s := true) (cnd_t rfl (bnd wakes15 rfl)) rfl))
  have hll := len_line (helo := helo) (site := site) hn
  have hjl := jn_len ls
  have hc2 : ∀ l ∈ lineF (stF helo site n) :: ls, cln l := fun l hl => by
    rcases List.mem_cons.1 hl with rfl | hl
    · exact cln_stF hn d1 d2
    · exact hc l hl
  have hy2 : ∀ l ∈ lineF (stF helo site n) :: ls, byt l := fun l hl => by
    rcases List.mem_cons.1 hl with rfl | hl
    · exact byt_line15 _
    · exact hy l hl
  have ht2 : tot (lineF (stF helo site n) :: ls) < 100000 := by simp only [tot]; omega
  have hs1 := scan_eq hc hy (by omega)
  have hs2 := scan_eq hc2 hy2 ht2
  have hh1 := hops_eq hc hy (by omega)
  have hh2 := hops_eq hc2 hy2 ht2
  have hz1 : (stF helo site n).Name.size = 8 := rfl
  have hz2 : (stF helo site n).Body.size ≤ helo.size + site.size + 36 := by
    show (bstr _).size ≤ _
    rw [bstr_size]; exact len_stB helo site hn
  have hst := stp_field [] (stF helo site n) recN_ok (by omega)
  have hsc : scn (lineF (stF helo site n) :: ls) [] 0 = scn ls [stF helo site n] (0 + ((lineF (stF helo site n)).length + 2)) := by simp only [scn, hst, List.nil_append]
  obtain ⟨f, r, hfr, hfn⟩ := head_len (n := recN) (scn_head ls [stF helo site n] (0 + ((lineF (stF helo site n)).length + 2)) (by simp))
  obtain ⟨bl, hbl, hbc⟩ := blank_eq hy (by omega)
  rw [hsc] at hs2 hh2
  refine bnd hp (cnd_f rfl (bnd hs1 (bnd hs2 (bnd hh1 (bnd hh2 (bndL (s := false) (cnd_f rfl (cnd_f rfl (cnd_f rfl (cnd_f rfl (cnd_f ?_ ?_))))) (cnd_f rfl (bndL hbl ?_))))))))
  · rw [hfr]; simp; omega
  · refine bnd (x := 0) (ixO_of (i := 0) (by rw [hfr]; simp)) (bnd (x := f) (by rw [hfr]; rfl) ?_)
    have hq : (recN.toList == (⟨#[82, 101, 99, 101, 105, 118, 101, 100]⟩ : ByteArray).toList) = true := by rw [toList_beq]; exact decide_eq_true rfl
    rw [hfn, hq]; rfl
  cases bl
  case true => exact cnd_t rfl (bnd wakes15 rfl)
  refine cnd_f rfl (bndL (s := true) ?_ rfl)
  have hcons := scn_cons (stF helo site n) ((lineF (stF helo site n)).length + 2) ls [] 0 (.inr (hbc rfl))
  have hpl : (jn (lineF (stF helo site n) :: ls)).length = (lineF (stF helo site n)).length + 2 + tot ls := by rw [jn_len]; rfl
  have hcnt : (scn ls [] 0).1.countP hopB < 1000000 := by
    have := List.countP_le_length (p := hopB) (l := (scn ls [] 0).1)
    have h2 := scan_len ls [] 0
    have h3 := len_tot15 ls
    simp at h2; omega
  have hsl : (scn ls [] 0).2 ≤ 1000000 := by
    have key : ∀ (ls : List (List Int)) (fs : List T_Field) (e : Nat), (scn ls fs e).2 ≤ e + tot ls + 2 := by
      intro ls
      induction ls with
      | nil => intro fs e; simp only [scn, tot]; omega
      | cons l ls ih =>
        intro fs e
        simp only [scn, tot]
        cases stp fs (bstr l) with
        | none => dsimp only; split <;> omega
        | some f => have := ih f (e + (l.length + 2)); dsimp only; omega
    have := key ls [] 0
    omega
  have hrl : (scn ls [] 0).1.length < 4294967296 := by
    have h2 := scan_len ls [] 0
    have h3 := len_tot15 ls
    simp at h2; omega
  rw [hcons]
  have hrec : hopB (stF helo site n) = true := by unfold hopB stF recN; kernel_rfl
  have hsli : sliO (stF helo site n :: (scn ls [] 0).1) 1 (((stF helo site n :: (scn ls [] 0).1).length : Nat) : Int) = some (scn ls [] 0).1 := by
    have := sli_nat (stF helo site n :: (scn ls [] 0).1) (a := 1) (b := (stF helo site n :: (scn ls [] 0).1).length) (by simp) (Nat.le_refl _)
    simpa using this
  refine bnd (some_wrap (by omega) (by omega)) (cnd_t ?_ (bnd (some_wrap (by dsimp only; omega) (by dsimp only; omega)) (bnd (some_wrap (by dsimp only; omega) (by dsimp only; omega)) (cnd_t ?_ (bnd hsli (bnd (fields_refl _ hrl) (cnd_t rfl (bnd wakes15 rfl))))))))
  · rw [List.countP_cons, hrec]; simp
  · dsimp only
    rw [beq_iff_eq]; omega
end Go.Abs.Sh
