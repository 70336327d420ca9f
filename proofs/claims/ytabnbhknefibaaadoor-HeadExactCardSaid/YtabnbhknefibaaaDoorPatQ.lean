import Derived.Test.YtabnbhknefibaaaDoorPatA
import Derived.KernelRfl
namespace Go.Abs.Sh
set_option linter.unusedVariables false
set_option linter.unusedSimpArgs false
def alB (c : Int) : Bool := decide (48 ≤ c) && decide (c ≤ 57) || (decide (65 ≤ c) && decide (c ≤ 90) || decide (97 ≤ c) && decide (c ≤ 122))
def lbB (c : Int) : Bool := alB c || c == 45
def labB (l : List Int) : Bool := !l.isEmpty && (decide (l.length ≤ 63) && (l.head? != some 45 && (l.getLast? != some 45 && l.all lbB)))
def domB (l : List Int) : Bool := decide (l.length ≤ 255) && (spl 46 l).all labB
theorem of_byte (p : Int → Bool) (h : (List.range 256).all (fun k => p (k : Int)) = true) {c : Int} (hc : 0 ≤ c ∧ c < 256) : p c = true := by
  have := List.all_eq_true.1 h c.toNat (List.mem_range.2 (by omega))
  rwa [Int.toNat_of_nonneg hc.1] at this
theorem label1_all : (List.range 256).all (fun k => decide (path_label_1 ((k : Nat) : Int) = some (lbB ((k : Nat) : Int)))) = true := by kernel_rfl
theorem label1 {c : Int} (hc : 0 ≤ c ∧ c < 256) : path_label_1 c = some (lbB c) := by
  simpa using of_byte (fun c => decide (path_label_1 c = some (lbB c))) label1_all hc
theorem all_iff_get (l : List Int) (p : Int → Bool) : l.all p = true ↔ ∀ i, i < l.length → p (l.getD i 0) = true := by
  rw [List.all_eq_true]
  constructor
  · intro h i hi
    rw [List.getD_eq_getElem?_getD, List.getElem?_eq_getElem hi]
    exact h _ (List.getElem_mem hi)
  · intro h x hx
    obtain ⟨i, hi, rfl⟩ := List.getElem_of_mem hx
    have := h i hi
    rw [List.getD_eq_getElem?_getD, List.getElem?_eq_getElem hi] at this
    exact this
theorem chrD {s : ByteArray} {i : Nat} (h : i < s.size) : chrO s (i : Int) = some ((sbytes s).getD i 0) := by
  rw [chr_of h, List.getD_eq_getElem?_getD, List.getElem?_eq_getElem (by rw [sbytes_len]; exact h)]; rfl
theorem getD_byte (s : ByteArray) {i : Nat} (h : i < s.size) : 0 ≤ (sbytes s).getD i 0 ∧ (sbytes s).getD i 0 < 256 := by
  rw [List.getD_eq_getElem?_getD, List.getElem?_eq_getElem (by rw [sbytes_len]; exact h)]
  exact byt_sbytes s _ (List.getElem_mem _)
theorem all_loop {g : Int → Option Bool} {p : Int → Bool} (s : ByteArray) (hs : s.size < 4611686018427387904) (hg : ∀ c, 0 ≤ c ∧ c < 256 → g c = some (p c)) :
    bindS (S := (Unit)) (A := Bool)
    (loopF (S := (Int)) (O := (Unit) ⊕ Bool) (fun (s9 : Int) =>
      cond ((decide (s9 < (s.size : Int))))
        ((chrO s s9).bind fun v2 =>
        (g v2).bind fun v3 =>
        cond ((!v3))
          (some (.inr (.inr (false))))
          ((some (IntKind.i64.wrap (s9 + 1))).bind fun v5 =>
          some (.inl v5)))
        (some (.inr (.inl ()))))
      BIG 0)
    (fun (() : Unit) =>
      some (true)) some = some ((sbytes s).all p) := by
  have hl := loop_all (R := Bool) (f := fun (s9 : Int) =>
      cond ((decide (s9 < (s.size : Int))))
        ((chrO s s9).bind fun v2 =>
        (g v2).bind fun v3 =>
        cond ((!v3))
          (some (.inr (.inr (false))))
          ((some (IntKind.i64.wrap (s9 + 1))).bind fun v5 =>
          some (.inl v5)))
        (some (.inr (.inl ())))) (fun i => p ((sbytes s).getD i 0)) s.size false (fuel := BIG) (by unfold BIG; omega)
    (fun i hi hp => cnd_t (decide_eq_true (by omega)) (bnd (chrD hi) (bnd (hg _ (getD_byte s hi)) (cnd_f (by simp only [hp]; rfl) (bnd (by rw [wrap_succ (by omega)]) rfl)))))
    (fun i hi hp => cnd_t (decide_eq_true (by omega)) (bnd (chrD hi) (bnd (hg _ (getD_byte s hi)) (cnd_t (by simp only [hp]; rfl) rfl))))
    (cnd_f (decide_eq_false (by omega)) rfl)
  rw [hl]
  have hiff := all_iff_get (sbytes s) p
  rw [sbytes_len] at hiff
  by_cases hall : ∀ i, i < s.size → p ((sbytes s).getD i 0) = true
  · rw [if_pos hall, hiff.2 hall]; rfl
  · rw [if_neg hall]
    cases hq : (sbytes s).all p
    · rfl
    · exact absurd (hiff.1 hq) hall
theorem isE (s : ByteArray) : (s.toList == (⟨#[]⟩ : ByteArray).toList) = (sbytes s).isEmpty := by
  rw [toList_beq, Bool.eq_iff_iff, decide_eq_true_eq, str_eq_iff]
  simp [sbytes]
theorem last_getD {l : List Int} (h : l ≠ []) : l.getLast? = some (l.getD (l.length - 1) 0) := by
  have : 0 < l.length := List.length_pos_iff.2 h
  rw [List.getLast?_eq_getElem?, List.getD_eq_getElem?_getD, List.getElem?_eq_getElem (by omega)]
  rfl
theorem head_getD {l : List Int} (h : l ≠ []) : l.head? = some (l.getD 0 0) := by
  cases l with
  | nil => exact absurd rfl h
  | cons x l => rfl
theorem label_eq (s : ByteArray) (hs : s.size < 4611686018427387904) : path_label s = some (labB (sbytes s)) := by
  unfold path_label labB
  rw [isE]
  cases he : (sbytes s).isEmpty
  · have hne : sbytes s ≠ [] := by intro e; rw [e] at he; cases he
    have hpos : 0 < s.size := by rw [← sbytes_len]; exact List.length_pos_iff.2 hne
    rw [last_getD hne, head_getD hne, sbytes_len]
    by_cases h1 : s.size ≤ 63
    · have d1 : decide ((s.size : Int) ≤ 63) = true := decide_eq_true (by omega)
      have c0 := chrD (s := s) (i := 0) hpos
      have c1 := chrD (s := s) (i := s.size - 1) (by omega)
      have e1 : ((s.size - 1 : Nat) : Int) = (s.size : Int) - 1 := by omega
      rw [e1] at c1
      by_cases h2 : (sbytes s).getD 0 0 = 45
      · refine bndL (s := false) (cnd_t rfl (cnd_t d1 (bnd c0 (cnd_f (by rw [h2]; rfl) rfl)))) ?_
        rw [h2]; simp
      · by_cases h3 : (sbytes s).getD (s.size - 1) 0 = 45
        · refine bndL (s := false) (cnd_t rfl (cnd_t d1 (bnd c0 (cnd_t (by simpa using h2) (bnd (wrap_i (by omega) (by omega)) (bnd c1 (cnd_f (by rw [h3]; rfl) rfl))))))) ?_
          rw [h3]; simp
        · refine bndL (s := (sbytes s).all lbB) (cnd_t rfl (cnd_t d1 (bnd c0 (cnd_t (by simpa using h2) (bnd (wrap_i (by omega) (by omega)) (bnd c1 (cnd_t (by simpa using h3) (bnd (all_loop s hs fun c hc => label1 hc) rfl)))))))) ?_
          have x2 : (some ((sbytes s).getD 0 0) != some 45) = true := by simpa using h2
          have x3 : (some ((sbytes s).getD (s.size - 1) 0) != some 45) = true := by simpa using h3
          rw [x2, x3, decide_eq_true h1]; rfl
    · refine bndL (s := false) (cnd_t rfl (cnd_f (decide_eq_false (by omega)) rfl)) ?_
      rw [decide_eq_false h1]; rfl
  · exact bndL (s := false) (cnd_f rfl rfl) rfl
theorem dotted_eq {f : ByteArray → Option Bool} {P : List Int → Bool} (s : ByteArray) (hs : s.size < 4611686018427387904) (hf : ∀ x, x.size ≤ s.size → f x = some (P (sbytes x))) :
    (strings_SplitSeq s (⟨#[46]⟩ : ByteArray)).bind (fun v1 =>
    bindS (S := (Unit)) (A := (Unit))
    (rangeS (S := (Unit)) (O := (Unit)) (fun Y st => Sh.strings_splitSeq_1 Y v1.1 v1.2.1 v1.2.2 st) (fun (x : ByteArray) (() : Unit) =>
      (f x).bind fun v2 =>
      cond ((!v2))
        (some (.inr ()))
        (some (.inl ())))
      ())
    (fun (() : Unit) =>
      some (true))
    (fun (() : Unit) =>
      some (false))) = some ((spl 46 (sbytes s)).all P) := by
  refine bnd (x := (⟨#[46]⟩, s, 0)) rfl ?_
  have hle : ∀ (c : Int) (l : List Int), ∀ p ∈ spl c l, p.length ≤ l.length := by
    intro c l
    induction l with
    | nil => intro p hp; simp [spl] at hp; simp [hp]
    | cons x l ih =>
      intro p hp
      unfold spl at hp
      split at hp
      · simp only [List.mem_cons] at hp
        rcases hp with rfl | hp
        · simp
        · have := ih p hp; simp; omega
      · split at hp
        · simp at hp; subst hp; simp
        · rename_i q qs e
          simp only [List.mem_cons] at hp
          rcases hp with rfl | hp
          · have := ih q (by rw [e]; simp); simp; omega
          · have := ih p (by rw [e]; simp [hp]); simp; omega
  have hby : ∀ (c : Int) (l : List Int), byt l → ∀ p ∈ spl c l, byt p := by
    intro c l
    induction l with
    | nil => intro _ p hp; simp [spl] at hp; subst hp; intro x hx; cases hx
    | cons x l ih =>
      intro hb p hp
      have hb' : byt l := fun y hy => hb y (by simp [hy])
      unfold spl at hp
      split at hp
      · simp only [List.mem_cons] at hp
        rcases hp with rfl | hp
        · intro x hx; cases hx
        · exact ih hb' p hp
      · split at hp
        · simp at hp; subst hp; intro y hy; simp at hy; subst hy; exact hb _ (by simp)
        · rename_i q qs e
          simp only [List.mem_cons] at hp
          rcases hp with rfl | hp
          · intro y hy
            simp only [List.mem_cons] at hy
            rcases hy with rfl | hy
            · exact hb _ (by simp)
            · exact ih hb' q (by rw [e]; simp) y hy
          · exact ih hb' p (by rw [e]; simp [hp])
  have hfol : ∀ l : List (List Int), (∀ p ∈ l, byt p ∧ p.length ≤ s.size) → folS (fun (x : ByteArray) (() : Unit) =>
      (f x).bind fun v2 =>
      cond ((!v2))
        (some (.inr ()))
        (some (.inl ()))) (l.map bstr) () = some (if l.all P then .inl () else .inr ()) := by
    intro l
    induction l with
    | nil => intro _; rfl
    | cons p l ih =>
      intro h
      have hp := h p (by simp)
      have e1 := hf (bstr p) (by rw [bstr_size]; exact hp.2)
      rw [sbytes_bstr hp.1] at e1
      rw [List.map_cons]
      unfold folS
      simp only [e1, Option.bind_some]
      cases hP : P p
      · simp [hP]
      · simp only [Bool.not_true, cond_false, List.all_cons, hP, Bool.true_and]
        exact ih fun q hq => h q (by simp [hq])
  have := split_range 46 (by omega) (fun (x : ByteArray) (() : Unit) =>
      (f x).bind fun v2 =>
      cond ((!v2))
        (some (.inr ()))
        (some (.inl ()))) s () hs _ (hfol (spl 46 (sbytes s)) fun p hp => ⟨hby _ _ (byt_sbytes s) p hp, by have := hle _ _ p hp; rwa [sbytes_len] at this⟩)
  change bindS (rangeS (fun Y st => strings_splitSeq_1 Y ⟨#[UInt8.ofNat 46]⟩ s 0 st) _ ()) _ _ = _
  rw [this]
  cases hq : (spl 46 (sbytes s)).all P
  · rfl
  · rfl
theorem dom_eq (s : ByteArray) (hs : s.size < 4611686018427387904) : path_Domain s = some (domB (sbytes s)) := by
  unfold path_Domain domB
  rw [sbytes_len]
  by_cases h : s.size ≤ 255
  · refine bndL (s := (spl 46 (sbytes s)).all labB) (cnd_t (decide_eq_true (by omega)) (bnd (x := (spl 46 (sbytes s)).all labB) ?_ rfl)) (by rw [decide_eq_true h]; rfl)
    exact dotted_eq s hs fun x hx => label_eq x (by omega)
  · exact bndL (s := false) (cnd_f (decide_eq_false (by omega)) rfl) (by rw [decide_eq_false h]; rfl)
theorem hasPrefix_eq (s p : ByteArray) : internal_stringslite_HasPrefix s p = some (decide (sbytes p <+: sbytes s)) := by
  unfold internal_stringslite_HasPrefix
  by_cases h : p.size ≤ s.size
  · have e := sub_of (s := s) (a := 0) (b := p.size) (by omega) h
    refine bndL (s := decide (sbytes p <+: sbytes s)) (cnd_t (decide_eq_true (by omega)) (bnd e ?_)) rfl
    congr 2
    rw [toList_beq]
    congr 1
    rw [str_eq_iff, sbytes_bstr (byt_take (byt_drop (byt_sbytes s) 0) _), List.prefix_iff_eq_take, sbytes_len]
    simp only [List.drop_zero, Nat.sub_zero, eq_iff_iff]
    exact eq_comm
  · refine bndL (s := false) (cnd_f (decide_eq_false (by omega)) rfl) ?_
    rw [decide_eq_false]
    intro hp
    have := hp.length_le
    rw [sbytes_len, sbytes_len] at this
    omega
theorem cut_eq {n : Nat} (hn : n < 256) (s : ByteArray) (hs : s.size < 4611686018427387904) : strings_Cut s ⟨#[UInt8.ofNat n]⟩ = some (match idx1 (n : Int) (sbytes s) with
    | some e => (bstr ((sbytes s).take e), bstr ((sbytes s).drop (e + 1)), true)
    | none => (s, (⟨#[]⟩ : ByteArray), false)) := by
  unfold strings_Cut internal_stringslite_Cut
  cases hi : idx1 (n : Int) (sbytes s) with
  | none =>
    refine bnd (x := (s, (⟨#[]⟩ : ByteArray), false)) (bnd (sIndex hn s) ?_) rfl
    rw [hi]
    exact cnd_f rfl rfl
  | some e =>
    obtain ⟨h1, _, _⟩ := idx1_some hi
    rw [sbytes_len] at h1
    have e1 : subO s 0 (e : Int) = some (bstr ((sbytes s).take e)) := by
      have := sub_of (s := s) (a := 0) (b := e) (by omega) (by omega)
      simpa using this
    have e2 : subO s ((e : Int) + 1) (s.size : Int) = some (bstr ((sbytes s).drop (e + 1))) := by
      have := sub_of (s := s) (a := e + 1) (b := s.size) (by omega) (by omega)
      rw [List.take_of_length_le (by simp [sbytes_len])] at this
      simpa using this
    have w2 : some (IntKind.i64.wrap ((e : Int) + ((⟨#[UInt8.ofNat n]⟩ : ByteArray).size : Int))) = some ((e : Int) + 1) := by
      show some (IntKind.i64.wrap ((e : Int) + 1)) = _
      rw [wrap_i (by omega) (by omega)]
    refine bnd (x := (bstr ((sbytes s).take e), bstr ((sbytes s).drop (e + 1)), true)) (bnd (sIndex hn s) ?_) rfl
    rw [hi]
    exact cnd_t (decide_eq_true (by show (0 : Int) ≤ (e : Int); omega)) (bnd e1 (bnd w2 (bnd e2 rfl)))
def e0 : ByteArray := ⟨#[]⟩
theorem pre1 (c : Int) (l : List Int) : [c] <+: l ↔ l.head? = some c := by
  cases l with
  | nil => simp
  | cons x l => simp [List.cons_prefix_cons, eq_comm]
theorem in_eq (n lo hi : Int) : wherryref11_in n lo hi = some (decide (lo ≤ n) && decide (n ≤ hi)) := by
  unfold wherryref11_in
  cases decide (lo ≤ n) <;> rfl
def letB (c : Int) : Bool := decide (97 ≤ c) && decide (c ≤ 122) || decide (65 ≤ c) && decide (c ≤ 90)
def digB (c : Int) : Bool := decide (48 ≤ c) && decide (c ≤ 57)
theorem rletter (c : Int) : wherryref11_letter c = some (letB c) := by
  unfold wherryref11_letter letB
  cases decide (97 ≤ c) <;> cases decide (c ≤ 122) <;> cases decide (65 ≤ c) <;> cases decide (c ≤ 90) <;> rfl
theorem rdigit (c : Int) : wherryref11_digit c = some (digB c) := by
  unfold wherryref11_digit digB
  cases decide (48 ≤ c) <;> rfl
theorem lb_or (c : Int) : lbB c = (letB c || (digB c || c == 45)) := by
  unfold lbB alB letB digB
  cases decide (97 ≤ c) <;> cases decide (c ≤ 122) <;> cases decide (65 ≤ c) <;> cases decide (c ≤ 90) <;> cases decide (48 ≤ c) <;> cases decide (c ≤ 57) <;> simp
def labE (l : List Int) : Bool := decide (1 ≤ l.length) && (decide (l.length ≤ 63) && (l.getD 0 0 != 45 && l.getD (l.length - 1) 0 != 45))
theorem labB_E (l : List Int) : labB l = (labE l && l.all lbB) := by
  unfold labB labE
  cases l with
  | nil => rfl
  | cons x r =>
    rw [last_getD (by simp), head_getD (by simp)]
    have : decide (1 ≤ (x :: r).length) = true := by simp
    rw [this]
    simp only [List.isEmpty_cons, Bool.not_false, Bool.true_and]
    have e1 : (some ((x :: r).getD 0 0) != some 45) = ((x :: r).getD 0 0 != 45) := by rw [Bool.eq_iff_iff]; simp
    have e2 : (some ((x :: r).getD ((x :: r).length - 1) 0) != some 45) = ((x :: r).getD ((x :: r).length - 1) 0 != 45) := by rw [Bool.eq_iff_iff]; simp
    rw [e1, e2]
    simp only [Bool.and_assoc]
def domG : List Int → List Int → Bool
  | cur, [] => labE cur
  | cur, x :: r => if x = 46 then labE cur && domG [] r else lbB x && domG (cur ++ [x]) r
theorem domG_spl : ∀ (l cur : List Int), cur.all lbB = true → domG cur l = match spl 46 l with
    | [] => true
    | a :: ps => labB (cur ++ a) && ps.all labB
  | [], cur, h => by simp [domG, spl, labB_E, h]
  | x :: r, cur, h => by
    have hne := spl_ne 46 r
    unfold domG spl
    by_cases hx : x = 46
    · rw [if_pos hx, if_pos hx, domG_spl r [] rfl]
      cases hs : spl 46 r with
      | nil => exact absurd hs hne
      | cons a ps => simp [labB_E, h]
    · rw [if_neg hx, if_neg hx]
      cases hs : spl 46 r with
      | nil => exact absurd hs hne
      | cons a ps =>
        cases hl : lbB x
        · simp [labB_E, hl]
        · have := domG_spl r (cur ++ [x]) (by simp [h, hl])
          rw [this, hs]
          simp
theorem dom_G (l : List Int) : (spl 46 l).all labB = domG [] l := by
  rw [domG_spl l [] rfl]
  cases hs : spl 46 l with
  | nil => exact absurd hs (spl_ne 46 l)
  | cons a ps => simp
def rdomS (s : ByteArray) : Int × Int → Option ((Int × Int) ⊕ (Unit ⊕ Bool)) := (fun ((s88, s89) : Int × Int) =>
        cond ((decide (s89 ≤ (s.size : Int))))
          (bindS (S := Int) (A := ((Int × Int) ⊕ ((Unit) ⊕ Bool)))
            (bindS (S := Bool) (A := (Int ⊕ ((Int × Int) ⊕ ((Unit) ⊕ Bool))))
              (cond ((decide (s89 < (s.size : Int))))
                ((chrO s s89).bind fun v4 =>
                some (.inl (v4 != 46)))
                (some (.inl false)))
              (fun (s151 : Bool) =>
                cond (s151)
                  (bindS (S := Bool) (A := (Int ⊕ ((Int × Int) ⊕ ((Unit) ⊕ Bool))))
                    ((chrO s s89).bind fun v10 =>
                    (wherryref11_letter v10).bind fun v11 =>
                    cond ((!v11))
                      ((chrO s s89).bind fun v12 =>
                      (wherryref11_digit v12).bind fun v13 =>
                      cond ((!v13))
                        ((chrO s s89).bind fun v14 =>
                        some (.inl (v14 != 45)))
                        (some (.inl false)))
                      (some (.inl false)))
                    (fun (s156 : Bool) =>
                      cond (s156)
                        (some (.inr (.inr (.inr (false)))))
                        (some (.inl s88))) some)
                  (bindS (S := Bool) (A := (Int ⊕ ((Int × Int) ⊕ ((Unit) ⊕ Bool))))
                    ((some (IntKind.i64.wrap (s89 - s88))).bind fun v20 =>
                    (wherryref11_in v20 1 63).bind fun v21 =>
                    cond ((!v21))
                      (some (.inl true))
                      ((chrO s s88).bind fun v22 =>
                      cond ((v22 == 45))
                        (some (.inl true))
                        ((some (IntKind.i64.wrap (s89 - 1))).bind fun v23 =>
                        (chrO s v23).bind fun v24 =>
                        some (.inl (v24 == 45)))))
                    (fun (s161 : Bool) =>
                      cond (s161)
                        (some (.inr (.inr (.inr (false)))))
                        ((some (IntKind.i64.wrap (s89 + 1))).bind fun v30 =>
                        some (.inl v30))) some)) some)
            (fun (s147 : Int) =>
              (some (IntKind.i64.wrap (s89 + 1))).bind fun v50 =>
              some (.inl (s147, v50))) some)
          (some (.inr (.inl ()))))
theorem rlab {R : Type} (s : ByteArray) (f i : Nat) (cur : List Int) (hi : i ≤ s.size) (hs : s.size < 4611686018427387904) (hl : f + cur.length = i) (hc : ∀ j, j < cur.length → (sbytes s).getD (f + j) 0 = cur.getD j 0) (A : Option (R ⊕ ((Int × Int) ⊕ (Unit ⊕ Bool)))) (B : Option (R ⊕ ((Int × Int) ⊕ (Unit ⊕ Bool)))) :
    (bindS (S := Bool) (A := (R ⊕ ((Int × Int) ⊕ ((Unit) ⊕ Bool))))
                    ((some (IntKind.i64.wrap ((i : Int) - (f : Int)))).bind fun v20 =>
                    (wherryref11_in v20 1 63).bind fun v21 =>
                    cond ((!v21))
                      (some (.inl true))
                      ((chrO s (f : Int)).bind fun v22 =>
                      cond ((v22 == 45))
                        (some (.inl true))
                        ((some (IntKind.i64.wrap ((i : Int) - 1))).bind fun v23 =>
                        (chrO s v23).bind fun v24 =>
                        some (.inl (v24 == 45)))))
                    (fun (s161 : Bool) =>
                      cond (s161) A B) some) = cond (labE cur) B A := by
  have w : some (IntKind.i64.wrap ((i : Int) - (f : Int))) = some (cur.length : Int) := by rw [wrap_i (by omega) (by omega)]; congr 1; omega
  have hin := in_eq (cur.length : Int) 1 63
  unfold labE
  by_cases h1 : 1 ≤ cur.length
  · by_cases h2 : cur.length ≤ 63
    · rw [decide_eq_true (by omega), decide_eq_true (by omega)] at hin
      rw [decide_eq_true h1, decide_eq_true h2]
      have c0 := chrD (s := s) (i := f) (by omega)
      have e0 := hc 0 (by omega)
      rw [Nat.add_zero] at e0
      rw [e0] at c0
      have c1 := chrD (s := s) (i := i - 1) (by omega)
      have e1 := hc (cur.length - 1) (by omega)
      rw [show f + (cur.length - 1) = i - 1 by omega] at e1
      rw [e1, show ((i - 1 : Nat) : Int) = (i : Int) - 1 by omega] at c1
      by_cases h3 : cur.getD 0 0 = 45
      · refine bndL (s := true) (bnd w (bnd hin (cnd_f rfl (bnd c0 (cnd_t (by rw [h3]; rfl) rfl))))) ?_
        rw [h3]; rfl
      · have x3 : (cur.getD 0 0 == 45) = false := by simpa using h3
        have y3 : (cur.getD 0 0 != 45) = true := by simpa using h3
        refine bndL (s := (cur.getD (cur.length - 1) 0 == 45)) (bnd w (bnd hin (cnd_f rfl (bnd c0 (cnd_f x3 (bnd (wrap_i (by omega) (by omega)) (bnd c1 rfl))))))) ?_
        rw [y3]
        unfold bne
        cases (cur.getD (cur.length - 1) 0 == 45) <;> rfl
    · rw [decide_eq_true (by omega), decide_eq_false (by omega)] at hin
      rw [decide_eq_true h1, decide_eq_false h2]
      exact bndL (s := true) (bnd w (bnd hin rfl)) rfl
  · rw [decide_eq_false (by omega)] at hin
    rw [decide_eq_false h1]
    exact bndL (s := true) (bnd w (bnd hin rfl)) rfl
theorem rdom_loop (s : ByteArray) (hs : s.size < 4611686018427387904) : ∀ (rest cur : List Int) (f i fuel : Nat), f + cur.length = i → (sbytes s).drop i = rest → i ≤ s.size → (∀ j, j < cur.length → (sbytes s).getD (f + j) 0 = cur.getD j 0) → rest.length + 1 < fuel →
    loopF (rdomS s) fuel ((f : Int), (i : Int)) = some (if domG cur rest = true then .inl () else .inr false)
  | [], cur, f, i, fuel, hl, hd, hi, hc, hf => by
    have hi2 : i = s.size := by
      have := congrArg List.length hd
      rw [List.length_drop, sbytes_len] at this
      simp at this; omega
    obtain ⟨k, rfl⟩ : ∃ k, fuel = k + 1 + 1 := ⟨fuel - 2, by simp at hf; omega⟩
    have hr := rlab (R := Int) s f i cur hi hs hl hc (some (.inr (.inr (.inr false)))) ((some (IntKind.i64.wrap ((i : Int) + 1))).bind fun v30 => some (.inl v30))
    have w : some (IntKind.i64.wrap ((i : Int) + 1)) = some ((i + 1 : Nat) : Int) := by rw [wrap_succ (by omega)]
    have hd0 : domG cur [] = labE cur := rfl
    rw [hd0]
    cases hlab : labE cur
    · rw [hlab, cond_false] at hr
      rw [loop_exit (o := .inr false)]
      · rfl
      · unfold rdomS
        exact cnd_t (decide_eq_true (by omega)) (bndR (a := .inr (.inr false)) (bndL (s := false) (cnd_f (decide_eq_false (by omega)) rfl) (cnd_f rfl hr)) rfl)
    · rw [hlab, cond_true] at hr
      rw [loop_next (s' := (((i + 1 : Nat) : Int), ((i + 1 : Nat) : Int))), loop_exit (o := .inl ())]
      · rfl
      · unfold rdomS
        exact cnd_f (decide_eq_false (by omega)) rfl
      · unfold rdomS
        exact cnd_t (decide_eq_true (by omega)) (bndL (s := ((i + 1 : Nat) : Int)) (bndL (s := false) (cnd_f (decide_eq_false (by omega)) rfl) (cnd_f rfl (hr.trans (bnd w rfl)))) (bnd w rfl))
  | x :: rest, cur, f, i, fuel, hl, hd, hi, hc, hf => by
    have hlt : i < s.size := by
      have := congrArg List.length hd
      rw [List.length_drop, sbytes_len] at this
      simp at this; omega
    have hx : (sbytes s).getD i 0 = x := by
      have := congrArg List.head? hd
      rw [List.head?_drop] at this
      rw [List.getD_eq_getElem?_getD, this]; rfl
    have hd2 : (sbytes s).drop (i + 1) = rest := by
      rw [← List.drop_drop, hd]; rfl
    obtain ⟨k, rfl⟩ : ∃ k, fuel = k + 1 := ⟨fuel - 1, by omega⟩
    have hchr := chrD hlt
    rw [hx] at hchr
    have w : some (IntKind.i64.wrap ((i : Int) + 1)) = some ((i + 1 : Nat) : Int) := by rw [wrap_succ (by omega)]
    have lt : decide ((i : Int) ≤ (s.size : Int)) = true := decide_eq_true (by omega)
    have lt2 : decide ((i : Int) < (s.size : Int)) = true := decide_eq_true (by omega)
    unfold domG
    by_cases h46 : x = 46
    · rw [if_pos h46]
      have hr := rlab (R := Int) s f i cur hi hs hl hc (some (.inr (.inr (.inr false)))) ((some (IntKind.i64.wrap ((i : Int) + 1))).bind fun v30 => some (.inl v30))
      cases hlab : labE cur
      · rw [hlab, cond_false] at hr
        rw [loop_exit (o := .inr false)]
        · rfl
        · unfold rdomS
          exact cnd_t lt (bndR (a := .inr (.inr false)) (bndL (s := false) (cnd_t lt2 (bnd hchr (by rw [h46]; rfl))) (cnd_f rfl hr)) rfl)
      · rw [hlab, cond_true] at hr
        rw [loop_next (s' := (((i + 1 : Nat) : Int), ((i + 1 : Nat) : Int)))]
        · rw [Bool.true_and]
          exact rdom_loop s hs rest [] (i + 1) (i + 1) k (by simp) hd2 (by omega) (by simp) (by simp at hf; omega)
        · unfold rdomS
          exact cnd_t lt (bndL (s := ((i + 1 : Nat) : Int)) (bndL (s := false) (cnd_t lt2 (bnd hchr (by rw [h46]; rfl))) (cnd_f rfl (hr.trans (bnd w rfl)))) (bnd w rfl))
    · rw [if_neg h46]
      have hx46 : (x != 46) = true := by simpa using h46
      have hlb := lb_or x
      have hin : ((chrO s (i : Int)).bind fun v10 =>
                    (wherryref11_letter v10).bind fun v11 =>
                    cond ((!v11))
                      ((chrO s (i : Int)).bind fun v12 =>
                      (wherryref11_digit v12).bind fun v13 =>
                      cond ((!v13))
                        ((chrO s (i : Int)).bind fun v14 =>
                        some (Sum.inl (β := (Int ⊕ ((Int × Int) ⊕ ((Unit) ⊕ Bool)))) (v14 != 45)))
                        (some (.inl false)))
                      (some (.inl false))) = some (.inl (!lbB x)) := by
        rw [hlb]
        refine bnd hchr (bnd (rletter x) ?_)
        cases letB x
        · refine cnd_t rfl (bnd hchr (bnd (rdigit x) ?_))
          cases digB x
          · exact cnd_t rfl (bnd hchr rfl)
          · rfl
        · rfl
      cases hl1 : lbB x
      · rw [hl1] at hin
        rw [loop_exit (o := .inr false)]
        · rfl
        · unfold rdomS
          exact cnd_t lt (bndR (a := .inr (.inr false)) (bndL (s := true) (cnd_t lt2 (bnd hchr (by rw [hx46]))) (cnd_t rfl (bndL (s := true) hin rfl))) rfl)
      · rw [hl1] at hin
        rw [loop_next (s' := ((f : Int), ((i + 1 : Nat) : Int)))]
        · rw [Bool.true_and]
          refine rdom_loop s hs rest (cur ++ [x]) f (i + 1) k (by simp; omega) hd2 (by omega) (fun j hj => ?_) (by simp at hf; omega)
          simp at hj
          by_cases hj2 : j < cur.length
          · rw [hc j hj2, List.getD_eq_getElem?_getD, List.getD_eq_getElem?_getD, List.getElem?_append_left hj2]
          · have hj3 : j = cur.length := by omega
            subst hj3
            rw [hl, hx]
            simp
        · unfold rdomS
          exact cnd_t lt (bndL (s := (f : Int)) (bndL (s := true) (cnd_t lt2 (bnd hchr (by rw [hx46]))) (cnd_t rfl (bndL (s := false) hin rfl))) (bnd w rfl))
theorem rdom_eq (s : ByteArray) : wherryref11_Domain s = some (domB (sbytes s)) := by
  unfold wherryref11_Domain domB
  rw [sbytes_len]
  have hin := in_eq (s.size : Int) 1 255
  by_cases h : 1 ≤ s.size ∧ s.size ≤ 255
  · rw [decide_eq_true (by omega), decide_eq_true (by omega)] at hin
    refine bnd hin (cnd_f rfl ?_)
    rw [decide_eq_true h.2, Bool.true_and, dom_G]
    have := rdom_loop s (by omega) (sbytes s) [] 0 0 BIG rfl rfl (by omega) (by simp) (by rw [sbytes_len]; unfold BIG; omega)
    change bindS (loopF (rdomS s) BIG ((0 : Nat), (0 : Nat))) _ _ = _
    rw [this]
    cases domG [] (sbytes s) <;> rfl
  · have hn : (decide ((1 : Int) ≤ (s.size : Int)) && decide ((s.size : Int) ≤ 255)) = false := by
      by_cases h1 : 1 ≤ s.size
      · rw [decide_eq_true (by omega), decide_eq_false (by omega)]; rfl
      · rw [decide_eq_false (by omega)]; rfl
    rw [hn] at hin
    refine bnd hin (cnd_t rfl ?_)
    by_cases h1 : 1 ≤ s.size
    · rw [decide_eq_false (by omega)]; rfl
    · have : sbytes s = [] := List.eq_nil_of_length_eq_zero (by rw [sbytes_len]; omega)
      rw [this]
      simp [spl, labB]
def lowB (c : Int) : Int := if 65 ≤ c ∧ c ≤ 90 then c + 32 else c
def lowL (l : List Int) : List Int := l.map lowB
def lowS (s : ByteArray) : ByteArray := bstr (lowL (sbytes s))
theorem set_mid {A : Type} (f : A → A) (l : List A) (i : Nat) (h : i < l.length) : ((l.take i).map f ++ l.drop i).set i (f l[i]) = (l.take (i + 1)).map f ++ l.drop (i + 1) := by
  rw [List.set_append_right _ _ (by simp; omega)]
  have hl : ((l.take i).map f).length = i := by simp; omega
  rw [hl, Nat.sub_self, List.drop_eq_getElem_cons h, List.set_cons_zero, List.take_add_one, List.getElem?_eq_getElem h]
  simp only [Option.toList_some, List.map_append, List.map_cons, List.map_nil, List.append_assoc, List.cons_append, List.nil_append]
theorem get_mid {A : Type} (f : A → A) (l : List A) (i : Nat) (h : i < l.length) : getO ((l.take i).map f ++ l.drop i) i = some l[i] := by
  unfold getO
  rw [List.getElem?_append_right (by simp; omega)]
  have hl : ((l.take i).map f).length = i := by simp; omega
  rw [hl, Nat.sub_self, List.drop_eq_getElem_cons h]
  rfl
theorem fold_eq (s : ByteArray) (hs : s.size < 4611686018427387904) : path_Fold s = some (lowS s) := by
  unfold path_Fold
  refine bnd rfl ?_
  have hlen : (sbytes s).length = s.size := sbytes_len s
  refine bndL (s := lowL (sbytes s)) ?_ rfl
  refine loop_from (fun i => (((sbytes s).take i).map lowB ++ (sbytes s).drop i, (i : Int))) s.size BIG (by simp) (by unfold BIG; omega) (fun i hi => ?_) ?_
  · have hi' : i < (sbytes s).length := by omega
    have hb := byt_sbytes s _ (List.getElem_mem hi')
    have hll : (((sbytes s).take i).map lowB ++ (sbytes s).drop i).length = (sbytes s).length := by simp; omega
    have gt := get_mid lowB (sbytes s) i hi'
    have st := set_mid lowB (sbytes s) i hi'
    have ix : ixO (i : Int) (((sbytes s).take i).map lowB ++ (sbytes s).drop i).length = some i := ixO_of (by omega)
    have w : some (IntKind.i64.wrap ((i : Int) + 1)) = some ((i + 1 : Nat) : Int) := by rw [wrap_succ (by omega)]
    refine cnd_t (decide_eq_true (by omega)) ?_
    by_cases h1 : 65 ≤ (sbytes s)[i] ∧ (sbytes s)[i] ≤ 90
    · have e : lowB (sbytes s)[i] = (sbytes s)[i] + 32 := by unfold lowB; rw [if_pos h1]
      rw [e] at st
      refine bndL (s := ((sbytes s).take (i + 1)).map lowB ++ (sbytes s).drop (i + 1)) (bnd ix (bnd gt (bndL (s := true) (cnd_t (decide_eq_true h1.1) (by rw [decide_eq_true h1.2])) (cnd_t rfl (bnd (by rw [u8_wrap (by omega) (by omega)]) (bnd ix (bnd (by rw [st]) rfl))))))) (bnd w rfl)
    · have e : lowB (sbytes s)[i] = (sbytes s)[i] := by unfold lowB; rw [if_neg h1]
      have st2 : ((sbytes s).take i).map lowB ++ (sbytes s).drop i = ((sbytes s).take (i + 1)).map lowB ++ (sbytes s).drop (i + 1) := by
        rw [List.take_add_one, List.getElem?_eq_getElem hi', List.drop_eq_getElem_cons hi']
        simp only [Option.toList_some, List.map_append, List.map_cons, List.map_nil, List.append_assoc, List.cons_append, List.nil_append, e]
      refine bndL (s := ((sbytes s).take (i + 1)).map lowB ++ (sbytes s).drop (i + 1)) (bnd ix (bnd gt (bndL (s := false) ?_ (cnd_f rfl (by rw [st2]))))) (bnd w rfl)
      by_cases h2 : 65 ≤ (sbytes s)[i]
      · exact cnd_t (decide_eq_true h2) (by rw [decide_eq_false fun h3 => h1 ⟨h2, h3⟩])
      · exact cnd_f (decide_eq_false h2) rfl
  · refine cnd_f (decide_eq_false (by omega)) ?_
    rw [← hlen]
    simp [lowL]
theorem byt_cons {c : Int} {l : List Int} (h : 0 ≤ c ∧ c < 256) (hl : byt l) : byt (c :: l) := by
  intro x hx
  simp only [List.mem_cons] at hx
  rcases hx with rfl | hx
  · exact h
  · exact hl x hx
theorem byt_nil : byt [] := fun x hx => by cases hx
theorem catL {s t : ByteArray} {l m : List Int} (hl : sbytes s = l) (hm : sbytes t = m) (h : l.length + m.length ≤ 9223372036854775807) : catO s t = some (bstr (l ++ m)) := by
  subst hl hm
  rw [sbytes_len, sbytes_len] at h
  exact cat_of h
theorem rfold_eq (s : ByteArray) (hs : s.size < 140737488355328) : wherryref11_Fold s = some (lowS s) := by
  unfold wherryref11_Fold
  have hlen : (sbytes s).length = s.size := sbytes_len s
  refine bndL (s := lowL (sbytes s)) ?_ rfl
  refine loop_from (fun i => (((sbytes s).take i).map lowB, (i : Int))) s.size BIG (by simp) (by unfold BIG; omega) (fun i hi => ?_) ?_
  · have hi' : i < (sbytes s).length := by omega
    have hb := byt_sbytes s _ (List.getElem_mem hi')
    have hc := chr_of hi
    have w : some (IntKind.i64.wrap ((i : Int) + 1)) = some ((i + 1 : Nat) : Int) := by rw [wrap_succ (by omega)]
    have ap : appO 1 (((sbytes s).take i).map lowB) [lowB (sbytes s)[i]] = some (((sbytes s).take (i + 1)).map lowB) := by
      rw [app_of (by simp; omega) (by simp; omega), List.take_add_one, List.getElem?_eq_getElem hi']
      simp only [Option.toList_some, List.map_append, List.map_cons, List.map_nil]
    refine cnd_t (decide_eq_true (by omega)) (bnd hc (bndL (s := lowB (sbytes s)[i]) ?_ (bnd ap (bnd w rfl))))
    by_cases h1 : 65 ≤ (sbytes s)[i] ∧ (sbytes s)[i] ≤ 90
    · have e : lowB (sbytes s)[i] = (sbytes s)[i] + 32 := by unfold lowB; rw [if_pos h1]
      exact bndL (s := true) (cnd_t (decide_eq_true h1.1) (by rw [decide_eq_true h1.2])) (cnd_t rfl (bnd (by rw [u8_wrap (by omega) (by omega)]) (by rw [e])))
    · have e : lowB (sbytes s)[i] = (sbytes s)[i] := by unfold lowB; rw [if_neg h1]
      refine bndL (s := false) ?_ (cnd_f rfl (by rw [e]))
      by_cases h2 : 65 ≤ (sbytes s)[i]
      · exact cnd_t (decide_eq_true h2) (by rw [decide_eq_false fun h3 => h1 ⟨h2, h3⟩])
      · exact cnd_f (decide_eq_false h2) rfl
  · refine cnd_f (decide_eq_false (by omega)) ?_
    rw [List.take_of_length_le (by omega)]; rfl
end Go.Abs.Sh
