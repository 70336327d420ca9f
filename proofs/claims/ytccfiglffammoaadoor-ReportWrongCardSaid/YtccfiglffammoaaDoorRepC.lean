import Derived.Test.YtccfiglffammoaaDoorPatC
import Derived.Test.YtccfiglffammoaaDoorPatG
import Derived.Test.YtccfiglffammoaaDoorDotA
import Derived.Test.YtccfiglffammoaaDoorKeepM
namespace Go.Abs.Sh
set_option linter.unusedVariables false
set_option linter.unusedSimpArgs false
def txtL (p : T_Path) : List Int := cond p.Null [60, 62] (60 :: (sbytes p.Local ++ 64 :: (sbytes p.Domain ++ [62])))
theorem byt_cons {c : Int} {l : List Int} (h : 0 ≤ c ∧ c < 256) (hl : byt l) : byt (c :: l) := by
  intro x hx
  simp only [List.mem_cons] at hx
  rcases hx with rfl | hx
  · exact h
  · exact hl x hx
theorem byt_nil : byt [] := fun x hx => by cases hx
theorem byt_txt (p : T_Path) : byt (txtL p) := by
  unfold txtL
  cases p.Null
  · exact byt_cons (by omega) (byt_app (byt_sbytes _) (byt_cons (by omega) (byt_app (byt_sbytes _) (byt_cons (by omega) byt_nil))))
  · exact byt_cons (by omega) (byt_cons (by omega) byt_nil)
theorem catL {s t : ByteArray} {l m : List Int} (hl : sbytes s = l) (hm : sbytes t = m) (h : l.length + m.length ≤ 9223372036854775807) : catO s t = some (bstr (l ++ m)) := by
  subst hl hm
  rw [sbytes_len, sbytes_len] at h
  exact cat_of h
theorem cats (p : T_Path) (h : Small p) {R : Type} (f : ByteArray → Option R) (r : Option R) (hr : f (bstr (60 :: (sbytes p.Local ++ 64 :: (sbytes p.Domain ++ [62])))) = r) :
    ((catO (⟨#[60]⟩ : ByteArray) p.Local).bind fun v4 =>
      (catO v4 (⟨#[64]⟩ : ByteArray)).bind fun v5 =>
      (catO v5 p.Domain).bind fun v6 =>
      (catO v6 (⟨#[62]⟩ : ByteArray)).bind fun v7 => f v7) = r := by
  have hl := h.l; have hd := h.d
  have bl := byt_sbytes p.Local; have bd := byt_sbytes p.Domain
  have b60 : byt [60] := byt_cons (by omega) byt_nil
  have b64 : byt [64] := byt_cons (by omega) byt_nil
  have k1 := catL (s := ⟨#[60]⟩) (t := p.Local) sb60 rfl (by simp [sbytes_len]; omega)
  have k2 := catL (s := bstr ([60] ++ sbytes p.Local)) (t := ⟨#[64]⟩) (m := [64]) (sbytes_bstr (byt_app b60 bl)) rfl (by simp [sbytes_len]; omega)
  have k3 := catL (s := bstr ([60] ++ sbytes p.Local ++ [64])) (t := p.Domain) (sbytes_bstr (byt_app (byt_app b60 bl) b64)) rfl (by simp [sbytes_len]; omega)
  have k4 := catL (s := bstr ([60] ++ sbytes p.Local ++ [64] ++ sbytes p.Domain)) (t := ⟨#[62]⟩) (m := [62]) (sbytes_bstr (byt_app (byt_app (byt_app b60 bl) b64) bd)) rfl (by simp [sbytes_len]; omega)
  refine bnd k1 (bnd k2 (bnd k3 (bnd k4 ?_)))
  rw [← hr]
  congr 2
  simp
theorem text_eq (p : T_Path) (h : Small p) : path_Text p = some (cond (patB p) (bstr (txtL p), 0) (e0, 5)) := by
  unfold path_Text
  refine bnd (check_eq p h) ?_
  cases hp : patB p
  · exact cnd_t rfl rfl
  · refine cnd_f rfl ?_
    unfold txtL
    cases hn : p.Null
    · exact cnd_f rfl (cats p h _ _ rfl)
    · exact cnd_t rfl rfl
theorem keepPath (a b : T_Path) : wherrykeep_Path a b = some (decide (a = b)) := by
  unfold wherrykeep_Path
  refine bndL (s := decide (a = b)) (bnd rfl ?_) rfl
  rw [toList_beq, toList_beq]
  obtain ⟨an, al, ad⟩ := a
  obtain ⟨bn, bl, bd⟩ := b
  cases h : an == bn
  · have : an ≠ bn := by simpa using h
    refine cnd_f rfl ?_
    simp [this]
  · have : an = bn := by simpa using h
    refine cnd_t rfl ?_
    subst this
    by_cases h2 : al = bl
    · rw [decide_eq_true h2]
      subst h2
      refine cnd_t rfl ?_
      simp
    · rw [decide_eq_false h2]
      refine cnd_f rfl ?_
      simp [h2]
theorem rsign_all : (List.range 256).all (fun k => decide (wherryref11_sign ((k : Nat) : Int) = some (atB ((k : Nat) : Int)))) = true := by kernel_rfl
theorem rsign {c : Int} (hc : 0 ≤ c ∧ c < 256) : wherryref11_sign c = some (atB c) := by
  simpa using of_byte (fun c => decide (wherryref11_sign c = some (atB c))) rsign_all hc
def qLoc (p x : Int) : Bool := if x = 46 then decide (p ≠ 46) else atB x
def locG (p : Int) (l : List Int) : Bool := chkR qLoc p l && decide ((p :: l).getLast? ≠ some 46)
theorem locG_spl : ∀ (l : List Int) (p : Int), locG p l = match spl 46 l with
    | [] => true
    | a :: ps => (if p = 46 then atmB a else a.all atB) && ps.all atmB
  | [], p => by
    unfold locG
    simp only [chkR, spl, Bool.true_and, List.getLast?_singleton, List.all_nil, Bool.and_true]
    by_cases h : p = 46
    · simp [h, atmB]
    · simp [h]
  | x :: r, p => by
    have ih := locG_spl r x
    have hne := spl_ne 46 r
    unfold spl
    have e : locG p (x :: r) = (qLoc p x && locG x r) := by
      unfold locG
      simp only [chkR, List.getLast?_cons_cons, Bool.and_assoc]
    rw [e, ih]
    cases hs : spl 46 r with
    | nil => exact absurd hs hne
    | cons a ps =>
      by_cases hx : x = 46
      · subst hx
        simp only [qLoc, if_true, List.all_cons]
        by_cases hp : p = 46
        · subst hp; simp [atmB]
        · simp [hp]
      · simp only [qLoc, if_neg hx, List.all_cons]
        by_cases hp : p = 46
        · subst hp; simp [atmB, Bool.and_assoc]
        · simp [hp, Bool.and_assoc]
theorem loc_chk (l : List Int) (hne : l ≠ []) (h46 : l.head? ≠ some 46) (hl : l.getLast? ≠ some 46) : (spl 46 l).all atmB = chkR qLoc 0 l := by
  have h := locG_spl l 46
  have e1 : locG 46 l = chkR qLoc 0 l := by
    cases l with
    | nil => exact absurd rfl hne
    | cons x r =>
      have hx : x ≠ 46 := by simpa using h46
      unfold locG
      simp only [chkR, List.getLast?_cons_cons, qLoc, if_neg hx]
      rw [decide_eq_true hl, Bool.and_true]
  rw [← e1, h]
  cases hs : spl 46 l with
  | nil => exact absurd hs (spl_ne 46 l)
  | cons a ps => simp
theorem loc_first {l : List Int} (h : l.head? = some 46) : (spl 46 l).all atmB = false := by
  cases l with
  | nil => simp at h
  | cons x r => simp at h; subst h; simp [spl, atmB]
theorem loc_last {l : List Int} (h : l.getLast? = some 46) : (spl 46 l).all atmB = false := by
  have h2 := locG_spl l 46
  have e : (spl 46 l).all atmB = locG 46 l := by
    rw [h2]
    cases hs : spl 46 l with
    | nil => exact absurd hs (spl_ne 46 l)
    | cons a ps => simp
  rw [e]
  unfold locG
  cases l with
  | nil => simp at h
  | cons x r => rw [List.getLast?_cons_cons, h]; simp
theorem rloc_eq (s : ByteArray) : wherryref11_Local s = some (locB (sbytes s)) := by
  unfold wherryref11_Local locB
  rw [sbytes_len]
  by_cases h : 1 ≤ s.size ∧ s.size ≤ 64
  · have hn : (decide ((1 : Int) ≤ (s.size : Int)) && decide ((s.size : Int) ≤ 64)) = true := by rw [decide_eq_true (by omega), decide_eq_true (by omega)]; rfl
    have hin := in_eq (s.size : Int) 1 64
    rw [hn] at hin
    have hne : sbytes s ≠ [] := by intro e; have := sbytes_len s; rw [e] at this; simp at this; omega
    have hh := head_getD hne
    have hg := last_getD hne
    rw [sbytes_len] at hg
    have c0 := chrD (s := s) (i := 0) (by omega)
    have c1 := chrD (s := s) (i := s.size - 1) (by omega)
    have e1 : ((s.size - 1 : Nat) : Int) = (s.size : Int) - 1 := by omega
    rw [e1] at c1
    rw [decide_eq_true h.2, Bool.true_and]
    by_cases h0 : (sbytes s).getD 0 0 = 46
    · rw [h0] at hh c0
      rw [loc_first hh]
      exact bndL (s := true) (bnd hin (cnd_f rfl (bnd c0 (cnd_t rfl rfl)))) rfl
    · by_cases hl : (sbytes s).getD (s.size - 1) 0 = 46
      · rw [hl] at hg c1
        rw [loc_last hg]
        exact bndL (s := true) (bnd hin (cnd_f rfl (bnd c0 (cnd_f (by simpa using h0) (bnd (wrap_i (by omega) (by omega)) (bnd c1 rfl)))))) rfl
      · rw [loc_chk _ hne (by rw [hh]; simpa using h0) (by rw [hg]; simpa using hl)]
        refine bndL (s := false) (bnd hin (cnd_f rfl (bnd c0 (cnd_f (by simpa using h0) (bnd (wrap_i (by omega) (by omega)) (bnd c1 (by rw [show ((sbytes s).getD (s.size - 1) 0 == 46) = false by simpa using hl])))))) ) (cnd_f rfl ?_)
        let q : Nat → Bool := fun i => qLoc ((0 :: sbytes s).getD i 0) ((sbytes s).getD i 0)
        have hl2 := fun (g : Int → Option (Int ⊕ (Unit ⊕ Bool))) => loop_all (R := Bool) (f := g) q s.size false (fuel := BIG) (by unfold BIG; omega)
        have hiff := chkR_iff qLoc (sbytes s) 0
        rw [sbytes_len] at hiff
        have prev : ∀ i, i < s.size → (sbytes s).getD i 0 = 46 → chrO s ((i : Int) - 1) = some ((0 :: sbytes s).getD i 0) := by
          intro i hi h46
          cases i with
          | zero => exact absurd h46 h0
          | succ i =>
            have := chrD (s := s) (i := i) (by omega)
            have e : ((i + 1 : Nat) : Int) - 1 = (i : Int) := by omega
            rw [e, this]; rfl
        rw [show chkR qLoc 0 (sbytes s) = decide (∀ i, i < s.size → q i = true) by rw [Bool.eq_iff_iff, decide_eq_true_eq]; exact hiff.symm]
        refine (congrArg (fun m => bindS m _ _) (hl2 _ ?_ ?_ ?_)).trans ?_
        · intro i hi hq
          have w : some (IntKind.i64.wrap ((i : Int) - 1)) = some ((i : Int) - 1) := wrap_i (by omega) (by omega)
          have w2 : some (IntKind.i64.wrap ((i : Int) + 1)) = some ((i + 1 : Nat) : Int) := by rw [wrap_succ (by omega)]
          refine cnd_t (decide_eq_true (by omega)) (bndL (s := false) (bnd (chrD hi) ?_) (cnd_f rfl (bnd w2 rfl)))
          by_cases h46 : (sbytes s).getD i 0 = 46
          · refine cnd_t (by rw [h46]; rfl) (bnd w (bnd (prev i hi h46) ?_))
            have hp : (0 :: sbytes s).getD i 0 ≠ 46 := by
              simp only [q, qLoc, if_pos h46, decide_eq_true_eq] at hq
              exact hq
            exact cnd_f (by simpa using hp) (bnd (chrD hi) (cnd_f (by rw [h46]; rfl) rfl))
          · refine cnd_f (by simpa using h46) (bnd (chrD hi) (cnd_t (by simpa using h46) (bnd (chrD hi) (bnd (rsign (getD_byte s hi)) ?_))))
            simp only [q, qLoc, if_neg h46] at hq
            rw [hq]; rfl
        · intro i hi hq
          have w : some (IntKind.i64.wrap ((i : Int) - 1)) = some ((i : Int) - 1) := wrap_i (by omega) (by omega)
          refine cnd_t (decide_eq_true (by omega)) (bndL (s := true) (bnd (chrD hi) ?_) (cnd_t rfl rfl))
          by_cases h46 : (sbytes s).getD i 0 = 46
          · refine cnd_t (by rw [h46]; rfl) (bnd w (bnd (prev i hi h46) ?_))
            have hp : (0 :: sbytes s).getD i 0 = 46 := by
              simp only [q, qLoc, if_pos h46, decide_eq_false_iff_not, ne_eq] at hq
              exact Decidable.not_not.1 hq
            exact cnd_t (by rw [hp]; rfl) rfl
          · refine cnd_f (by simpa using h46) (bnd (chrD hi) (cnd_t (by simpa using h46) (bnd (chrD hi) (bnd (rsign (getD_byte s hi)) ?_))))
            simp only [q, qLoc, if_neg h46] at hq
            rw [hq]; rfl
        · exact cnd_f (decide_eq_false (by omega)) rfl
        · by_cases hall : ∀ i, i < s.size → q i = true
          · rw [if_pos hall, decide_eq_true hall]; rfl
          · rw [if_neg hall, decide_eq_false hall]; rfl
  · have hn : (decide ((1 : Int) ≤ (s.size : Int)) && decide ((s.size : Int) ≤ 64)) = false := by
      by_cases h1 : 1 ≤ s.size
      · rw [decide_eq_true (by omega), decide_eq_false (by omega)]; rfl
      · rw [decide_eq_false (by omega)]; rfl
    have hin := in_eq (s.size : Int) 1 64
    rw [hn] at hin
    refine bndL (s := true) (bnd hin rfl) (cnd_t rfl ?_)
    by_cases h1 : 1 ≤ s.size
    · rw [decide_eq_false (by omega)]; rfl
    · have : sbytes s = [] := List.eq_nil_of_length_eq_zero (by rw [sbytes_len]; omega)
      rw [this]
      simp [spl, atmB]
theorem rpath_eq (p : T_Path) : wherryref11_Path p = some (patB p) := by
  unfold wherryref11_Path patB
  rw [isE, isE]
  cases hn : p.Null
  · refine cnd_f rfl (bndL (s := locB (sbytes p.Local) && domB (sbytes p.Domain)) (bnd (rloc_eq p.Local) ?_) rfl)
    cases locB (sbytes p.Local)
    · rfl
    · exact cnd_t rfl (bnd (rdom_eq p.Domain) rfl)
  · refine cnd_t rfl (bndL (s := (sbytes p.Local).isEmpty && (sbytes p.Domain).isEmpty) ?_ rfl)
    cases (sbytes p.Local).isEmpty <;> rfl
theorem rtext_eq (p : T_Path) (h : Small p) : wherryref11_Text p = some (bstr (txtL p)) := by
  unfold wherryref11_Text txtL
  cases hn : p.Null
  · exact cnd_f rfl (cats p h _ _ rfl)
  · exact cnd_t rfl rfl
/-! DotB's and DotD's lemmas that stages without Stuff want too: Lines, the reference's Body. -/
theorem tot_app : ∀ a b : List (List Int), tot (a ++ b) = tot a + tot b
  | [], b => by simp [tot]
  | x :: a, b => by simp only [List.cons_append, tot, tot_app a b]; omega
theorem tot_mem {ls : List (List Int)} {l : List Int} (h : l ∈ ls) : l.length + 2 ≤ tot ls := by
  induction ls with
  | nil => simp at h
  | cons m ls ih =>
    simp only [tot]
    rcases List.mem_cons.1 h with rfl | h
    · omega
    · have := ih h; omega
def linesS : List Int → List (List Int) → Option (List (List Int) ⊕ Unit) := fun (x : (List Int)) (s7 : (List (List Int))) =>
      (appO 1 ([] : List Int) x).bind fun v2 =>
      (appO 24 s7 [v2]).bind fun v3 =>
      some (.inl v3)
theorem fol_lines : ∀ (ls s : List (List Int)), s.length * 24 + tot ls * 24 < 140737488355328 → folL linesS ls s = some (.inl (s ++ ls))
  | [], s, _ => by simp [folL]
  | l :: ls, s, hs => by
    simp only [tot] at hs
    have e : linesS l s = some (.inl (s ++ [l])) := by
      unfold linesS
      refine bnd (x := l) (by rw [app_of (by simp; omega) (by simp; omega)]; rfl) (bnd (app_of (by simp; omega) (by simp; omega)) rfl)
    simp only [folL]
    rw [e]
    refine (fol_lines ls _ (by simp only [List.length_append, List.length_cons, List.length_nil]; omega)).trans ?_
    simp
theorem lines14 {b : List Int} {ls : List (List Int)} {r : List Int} (H : Lns b ls r) (hb : byt b) (hl : b.length < 4000000000) : dots_Lines b = some ls := by
  have hj := lns_join H
  have ht : b.length = tot ls + r.length := by rw [hj, List.length_append, jn_len]
  unfold dots_Lines dots_lines
  refine bnd rfl ?_
  refine bndL (s := ls) (lines_range linesS H hb (by omega) _ _ ?_) rfl
  have := fol_lines ls [] (by simp; omega)
  simpa using this
end Go.Abs.Sh
