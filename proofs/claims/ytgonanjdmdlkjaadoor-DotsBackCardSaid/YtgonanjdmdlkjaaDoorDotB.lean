import Derived.Test.YtgonanjdmdlkjaaDoorDotA
import Derived.Test.YtgonanjdmdlkjaaDoorKeepM
namespace Go.Abs.Sh
set_option linter.unusedVariables false
set_option linter.unusedSimpArgs false
theorem wakes14 : wherrylaw14_wakes = some true := by kernel_rfl
theorem twin14 (l : List Int) (h : l.length < 4294967296) : wherrykeep_Twin l = some l := by
  unfold wherrykeep_Twin
  exact bnd (x := l) (by simp only [appO]; rw [if_pos (by simp; omega)]; simp) rfl
theorem hasDot {x : List Int} (hb : byt x) (hl : x.length < 4294967281) : bytes_HasPrefix x [46] = some (decide (x.head? = some 46)) := by
  unfold bytes_HasPrefix
  cases x with
  | nil => rfl
  | cons y x =>
    refine bndL (s := decide (y = 46)) (cnd_t (decide_eq_true (by simp only [List.length_cons, List.length_nil]; omega)) ?_) (by simp)
    have e1 : sliO (y :: x) 0 (([46] : List Int).length : Int) = some [y] := by
      have := sli_nat (y :: x) (a := 0) (b := 1) (by omega) (by simp)
      simpa using this
    refine bnd e1 (bnd (x := decide (y = 46)) ?_ rfl)
    unfold bytes_Equal
    refine bnd rfl (bnd rfl ?_)
    rw [toList_beq]
    congr 1
    refine decide_eq_decide.2 ⟨fun h => ?_, fun h => by rw [h]⟩
    have := congrArg sbytes h
    rw [sbytes_bstr (by intro z hz; rw [List.mem_singleton] at hz; rw [hz]; exact hb y (by simp)), sbytes_bstr (by decide)] at this
    simpa using this
def stf (l : List Int) : List Int := if l.head? = some 46 then 46 :: l else l
def trm (l : List Int) : List Int := if l.head? = some 46 then l.tail else l
theorem trm_stf (l : List Int) : trm (stf l) = l := by
  unfold stf trm
  by_cases h : l.head? = some 46
  · rw [if_pos h, if_pos (by simp)]; rfl
  · rw [if_neg h, if_neg h]
theorem stf_dot (l : List Int) : stf l ≠ [46] := by
  unfold stf
  split
  · rename_i h; intro e; cases l with
    | nil => simp at h
    | cons => simp at e
  · rename_i h; intro e; rw [e] at h; simp at h
theorem stf_cln {l : List Int} (h : cln l) : cln (stf l) := by
  unfold stf; split
  · intro x hx
    rcases List.mem_cons.1 hx with rfl | hx
    · decide
    · exact h x hx
  · exact h
theorem stf_byt {l : List Int} (h : byt l) : byt (stf l) := by
  unfold stf; split
  · intro x hx
    rcases List.mem_cons.1 hx with rfl | hx
    · decide
    · exact h x hx
  · exact h
theorem stf_len (l : List Int) : (stf l).length ≤ l.length + 1 := by unfold stf; split <;> simp
theorem tot_stf : ∀ ls : List (List Int), tot (ls.map stf) ≤ 2 * tot ls
  | [] => by simp [tot]
  | l :: ls => by
    have h1 := stf_len l
    have h2 := tot_stf ls
    simp only [List.map_cons, tot]; omega
theorem tot_app : ∀ a b : List (List Int), tot (a ++ b) = tot a + tot b
  | [], b => by simp [tot]
  | x :: a, b => by simp only [List.cons_append, tot, tot_app a b]; omega
theorem tot_mem {ls : List (List Int)} {l : List Int} (h : l ∈ ls) : l.length + 2 ≤ tot ls := by
  induction ls with
  | nil => simp at h
  | cons m ls ih =>
    simp only [tot]
    rcases List.mem_cons.1 h with rfl | h
    · omega
    · have := ih h; omega
theorem map_trm (ls : List (List Int)) : (ls.map stf).map trm = ls := by
  rw [List.map_map]
  conv => rhs; rw [← List.map_id ls]
  exact List.map_congr_left fun l _ => trm_stf l
def stuffS : List Int → List Int → Option (List Int ⊕ Unit) := fun (x : (List Int)) (s21 : (List Int)) =>
        bindS (S := (List Int)) (A := (((List Int)) ⊕ (Unit)))
          ((bytes_HasPrefix x [46]).bind fun v4 =>
          cond (v4)
            ((appO 1 s21 (sbytes (⟨#[46]⟩ : ByteArray))).bind fun v6 =>
            some (.inl v6))
            (some (.inl s21)))
          (fun (s29 : (List Int)) =>
            (appO 1 s29 x).bind fun v12 =>
            (appO 1 v12 (sbytes (⟨#[13, 10]⟩ : ByteArray))).bind fun v13 =>
            some (.inl v13)) some
theorem sb46 : sbytes (⟨#[46]⟩ : ByteArray) = [46] := rfl
theorem sbE : sbytes (⟨#[13, 10]⟩ : ByteArray) = [13, 10] := rfl
theorem sbD : sbytes (⟨#[46, 13, 10]⟩ : ByteArray) = [46, 13, 10] := rfl
theorem stuff_step {x s : List Int} (hb : byt x) (hl : s.length + x.length < 4294960000) : stuffS x s = some (.inl (s ++ (stf x ++ [13, 10]))) := by
  unfold stuffS
  rw [sb46, sbE]
  by_cases h : x.head? = some 46
  · have e : stf x = 46 :: x := by unfold stf; rw [if_pos h]
    rw [e]
    refine bndL (s := s ++ [46]) (bnd (hasDot hb (by omega)) (cnd_t (decide_eq_true h) (bnd (app_of (by simp; omega) (by simp; omega)) rfl))) ?_
    refine bnd (app_of (by simp; omega) (by simp; omega)) (bnd (app_of (by simp; omega) (by simp; omega)) ?_)
    simp
  · have e : stf x = x := by unfold stf; rw [if_neg h]
    rw [e]
    refine bndL (s := s) (bnd (hasDot hb (by omega)) (cnd_f (decide_eq_false h) rfl)) ?_
    refine bnd (app_of (by omega) (by omega)) (bnd (app_of (by simp; omega) (by simp; omega)) ?_)
    simp
theorem fol_stuff : ∀ (ls : List (List Int)) (s : List Int), (∀ l ∈ ls, byt l) → s.length + 2 * tot ls < 4294960000 → folS stuffS ls s = some (.inl (s ++ jn (ls.map stf)))
  | [], s, _, _ => by simp [folS, jn]
  | l :: ls, s, hb, hs => by
    simp only [tot] at hs
    have h1 := stf_len l
    simp only [folS]
    rw [stuff_step (hb l (by simp)) (by omega)]
    refine (fol_stuff ls _ (fun m hm => hb m (by simp [hm])) (by simp only [List.length_append, List.length_cons, List.length_nil]; omega)).trans ?_
    simp [jn]
theorem stuff_ok {ls : List (List Int)} (h : ∀ l ∈ ls, cln l) (hb : ∀ l ∈ ls, byt l) (hl : tot ls < 1000000000) : dots_Stuff (jn ls) = some (jn (ls.map stf ++ [[46]]), 0) := by
  unfold dots_Stuff dots_lines
  refine bnd (check_ok h hb (by omega)) (cnd_f rfl (bnd rfl ?_))
  refine bndL (s := jn (ls.map stf)) (lines_range stuffS (lns_jn h) (jn_byt hb) (by rw [jn_len]; omega) _ _ ?_) ?_
  · have := fol_stuff ls [] hb (by simp; omega)
    simpa using this
  · have h2 := tot_stf ls
    rw [sbD]
    refine bnd (app_of (by rw [jn_len]; simp; omega) (by rw [jn_len]; simp; omega)) ?_
    rw [jn_app]; rfl
theorem stuff_no {b : List Int} (h : dots_Check b = some 5) : dots_Stuff b = some ([], 5) := by
  unfold dots_Stuff
  exact bnd h (cnd_t rfl rfl)
def lastS : List Int → Int → Option (Int ⊕ Int) := fun (x : (List Int)) (s8 : Int) =>
      (some (bstr x)).bind fun v2 =>
      cond ((v2.toList == (⟨#[46]⟩ : ByteArray).toList))
        (some (.inr s8))
        ((some (IntKind.i64.wrap ((x.length : Int) + 2))).bind fun v4 =>
        (some (IntKind.i64.wrap (s8 + v4))).bind fun v5 =>
        some (.inl v5))
theorem is46 {x : List Int} (hb : byt x) : ((bstr x).toList == (⟨#[46]⟩ : ByteArray).toList) = decide (x = [46]) := by
  rw [toList_beq]
  refine decide_eq_decide.2 ⟨fun h => ?_, fun h => by rw [h]; rfl⟩
  have := congrArg sbytes h
  rw [sbytes_bstr hb, sb46] at this
  exact this
theorem last_go {x : List Int} {s : Nat} (hb : byt x) (h : x ≠ [46]) (hl : s + x.length < 4611686018427387904) : lastS x (s : Int) = some (.inl ((s + (x.length + 2) : Nat) : Int)) := by
  unfold lastS
  refine bnd rfl ?_
  rw [is46 hb]
  refine cnd_f (decide_eq_false h) (bnd (wrap_i (by omega) (by omega)) (bnd (wrap_i (by omega) (by omega)) ?_))
  simp
theorem last_dot (s : Int) : lastS [46] s = some (.inr s) := by
  unfold lastS
  refine bnd rfl ?_
  rw [is46 (by decide)]
  exact cnd_t rfl rfl
theorem fol_last : ∀ (ls ms : List (List Int)) (s : Nat), (∀ l ∈ ls, byt l ∧ l ≠ [46]) → s + tot ls < 4611686018427387904 → folS lastS (ls ++ ms) (s : Int) = folS lastS ms ((s + tot ls : Nat) : Int)
  | [], ms, s, _, _ => by simp [tot]
  | l :: ls, ms, s, hb, hs => by
    simp only [tot] at hs
    rw [List.cons_append]
    conv => lhs; unfold folS
    rw [last_go (hb l (by simp)).1 (hb l (by simp)).2 (by omega)]
    refine (fol_last ls ms _ (fun m hm => hb m (by simp [hm])) (by omega)).trans ?_
    simp only [tot]
    rw [show s + (l.length + 2) + tot ls = s + (l.length + 2 + tot ls) by omega]
theorem last_some {ls : List (List Int)} {more : List Int} (h : ∀ l ∈ ls, cln l) (hb : ∀ l ∈ ls, byt l) (hd : ∀ l ∈ ls, l ≠ [46]) (hm : byt more) (hl : tot ls + more.length < 4000000000) :
    dots_lastLine (jn (ls ++ [[46]]) ++ more) = some ((tot ls : Int), true) := by
  obtain ⟨ms, r, H⟩ := lns_ex more.length more (Nat.le_refl _)
  have H2 : Lns (jn (ls ++ [[46]]) ++ more) ((ls ++ [[46]]) ++ ms) r := lns_app (fun l hl => by
    rcases List.mem_append.1 hl with hl | hl
    · exact h l hl
    · simp at hl; subst hl; intro x hx; simp at hx; subst hx; decide) H
  unfold dots_lastLine dots_lines
  refine bnd rfl ?_
  refine bndR (a := (tot ls : Int)) (lines_range lastS H2 (byt_app (jn_byt fun l hl => by
    rcases List.mem_append.1 hl with hl | hl
    · exact hb l hl
    · simp at hl; subst hl; decide) hm) (by rw [List.length_append, jn_len, tot_app]; simp [tot]; omega) _ _ ?_) rfl
  rw [List.append_assoc]
  refine (fol_last ls _ 0 (fun l hl => ⟨hb l hl, hd l hl⟩) (by omega)).trans ?_
  simp only [List.cons_append, folS, last_dot]
  simp
theorem last_none {b : List Int} {ls : List (List Int)} {r : List Int} (H : Lns b ls r) (hb : byt b) (hd : ∀ l ∈ ls, l ≠ [46]) (hl : b.length < 4000000000) : dots_lastLine b = some (0, false) := by
  have hj := lns_join H
  have ht : b.length = tot ls + r.length := by rw [hj, List.length_append, jn_len]
  unfold dots_lastLine dots_lines
  refine bnd rfl ?_
  refine bndL (s := ((0 + tot ls : Nat) : Int)) (lines_range lastS H hb (by omega) _ _ ?_) rfl
  have := fol_last ls [] 0 (fun l hl => ⟨byt_line H hb l hl, hd l hl⟩) (by omega)
  simpa [folS] using this
def stripS : List Int → List Int → Option (List Int ⊕ Unit) := fun (x : (List Int)) (s12 : (List Int)) =>
          (bytes_TrimPrefix_sh x [46]).bind fun v8 =>
          (appO 1 s12 v8).bind fun v9 =>
          (appO 1 v9 (sbytes (⟨#[13, 10]⟩ : ByteArray))).bind fun v10 =>
          some (.inl v10)
theorem trim14 {x : List Int} (hb : byt x) (hl : x.length < 4294967281) : bytes_TrimPrefix_sh x [46] = some (trm x) := by
  unfold bytes_TrimPrefix_sh
  refine bnd (hasDot hb hl) ?_
  unfold trm
  by_cases h : x.head? = some 46
  · rw [if_pos h]
    refine cnd_t (decide_eq_true h) ?_
    cases x with
    | nil => simp at h
    | cons y x =>
      have e1 : sliO (y :: x) (([46] : List Int).length : Int) ((y :: x).length : Int) = some x := by
        have := sli_nat (y :: x) (a := 1) (b := (y :: x).length) (by simp) (by simp)
        simpa using this
      exact bnd e1 rfl
  · rw [if_neg h]
    exact cnd_f (decide_eq_false h) rfl
theorem trm_len (l : List Int) : (trm l).length ≤ l.length := by unfold trm; split <;> simp
theorem fol_strip : ∀ (ls : List (List Int)) (s : List Int), (∀ l ∈ ls, byt l) → s.length + tot ls < 4294960000 → folS stripS ls s = some (.inl (s ++ jn (ls.map trm)))
  | [], s, _, _ => by simp [folS, jn]
  | l :: ls, s, hb, hs => by
    simp only [tot] at hs
    have h1 := trm_len l
    have e : stripS l s = some (.inl (s ++ (trm l ++ [13, 10]))) := by
      unfold stripS
      rw [sbE]
      refine bnd (trim14 (hb l (by simp)) (by omega)) (bnd (app_of (by omega) (by omega)) (bnd (app_of (by simp; omega) (by simp; omega)) ?_))
      simp
    simp only [folS]
    rw [e]
    refine (fol_strip ls _ (fun m hm => hb m (by simp [hm])) (by simp only [List.length_append, List.length_cons, List.length_nil]; omega)).trans ?_
    simp [jn]
theorem strip_ok {ls : List (List Int)} {more : List Int} (h : ∀ l ∈ ls, cln l) (hb : ∀ l ∈ ls, byt l) (hd : ∀ l ∈ ls, l ≠ [46]) (hm : byt more) (hl : tot ls + more.length < 4000000000) :
    dots_Strip (jn (ls ++ [[46]]) ++ more) = some (jn (ls.map trm), ((tot ls + 3 : Nat) : Int), 0) := by
  have e1 : sliO (jn (ls ++ [[46]]) ++ more) 0 (tot ls : Int) = some (jn ls) := by
    have := sli_nat (jn (ls ++ [[46]]) ++ more) (a := 0) (b := tot ls) (by omega) (by rw [List.length_append, jn_len, tot_app]; omega)
    rw [jn_app, List.append_assoc] at this ⊢
    rw [← jn_len] at this ⊢
    simpa using this
  unfold dots_Strip
  refine bnd (last_some h hb hd hm hl) (cnd_f rfl (bnd e1 (bnd (check_ok h hb (by omega)) (cnd_f rfl (bnd e1 ?_)))))
  unfold dots_lines
  refine bnd rfl ?_
  refine bndL (s := jn (ls.map trm)) (lines_range stripS (lns_jn h) (jn_byt hb) (by rw [jn_len]; omega) _ _ ?_) ?_
  · have := fol_strip ls [] hb (by simp; omega)
    simpa using this
  · refine bnd (wrap_i (by omega) (by omega)) ?_
    simp
theorem strip_none {b : List Int} (h : dots_lastLine b = some (0, false)) : dots_Strip b = some ([], 0, 9) := by
  unfold dots_Strip
  exact bnd h (cnd_t rfl rfl)
def linesS : List Int → List (List Int) → Option (List (List Int) ⊕ Unit) := fun (x : (List Int)) (s7 : (List (List Int))) =>
      (appO 1 ([] : List Int) x).bind fun v2 =>
      (appO 24 s7 [v2]).bind fun v3 =>
      some (.inl v3)
theorem fol_lines : ∀ (ls s : List (List Int)), s.length * 24 + tot ls * 24 < 140737488355328 → folS linesS ls s = some (.inl (s ++ ls))
  | [], s, _ => by simp [folS]
  | l :: ls, s, hs => by
    simp only [tot] at hs
    have e : linesS l s = some (.inl (s ++ [l])) := by
      unfold linesS
      refine bnd (x := l) (by rw [app_of (by simp; omega) (by simp; omega)]; rfl) (bnd (app_of (by simp; omega) (by simp; omega)) rfl)
    simp only [folS]
    rw [e]
    refine (fol_lines ls _ (by simp only [List.length_append, List.length_cons, List.length_nil]; omega)).trans ?_
    simp
theorem lines14 {b : List Int} {ls : List (List Int)} {r : List Int} (H : Lns b ls r) (hb : byt b) (hl : b.length < 4000000000) : dots_Lines b = some ls := by
  have hj := lns_join H
  have ht : b.length = tot ls + r.length := by rw [hj, List.length_append, jn_len]
  unfold dots_Lines dots_lines
  refine bnd rfl ?_
  refine bndL (s := ls) (lines_range linesS H hb (by omega) _ _ ?_) rfl
  have := fol_lines ls [] (by simp; omega)
  simpa using this
end Go.Abs.Sh
