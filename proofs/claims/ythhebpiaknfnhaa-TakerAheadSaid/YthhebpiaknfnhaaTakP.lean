import Derived.Test.YthhebpiaknfnhaaStrM
import Derived.Test.YthhebpiaknfnhaaKeepM
namespace Go.Abs.Sh
set_option linter.unusedVariables false
set_option linter.unusedSimpArgs false
def idx1 (c : Int) : List Int → Option Nat
  | [] => none
  | x :: l => if x = c then some 0 else (idx1 c l).map (· + 1)
theorem idx1_none {c : Int} : ∀ {l : List Int}, idx1 c l = none ↔ c ∉ l
  | [] => by simp [idx1]
  | x :: l => by
    have ih := idx1_none (c := c) (l := l)
    unfold idx1
    by_cases h : x = c
    · simp [h]
    · rw [if_neg h]
      simp only [Option.map_eq_none_iff, ih, List.mem_cons, not_or]
      exact ⟨fun h2 => ⟨fun e => h e.symm, h2⟩, fun h2 => h2.2⟩
theorem idx1_some {c : Int} : ∀ {l : List Int} {e : Nat}, idx1 c l = some e → e + 1 ≤ l.length ∧ l = l.take e ++ c :: l.drop (e + 1) ∧ c ∉ l.take e
  | [], e, h => by simp [idx1] at h
  | x :: l, e, h => by
    unfold idx1 at h
    split at h
    · rename_i hx
      cases h; subst hx; simp
    · rename_i hx
      cases hi : idx1 c l with
      | none => simp [hi] at h
      | some k =>
        simp [hi] at h
        subst h
        obtain ⟨h1, h2, h3⟩ := idx1_some hi
        refine ⟨by simp; omega, ?_, ?_⟩
        · simp only [List.take_succ_cons, List.cons_append, List.drop_succ_cons]
          rw [← h2]
        · simp only [List.take_succ_cons, List.mem_cons, not_or]
          exact ⟨fun e => hx e.symm, h3⟩
theorem indexByte_eq {n : Nat} (hn : n < 256) : ∀ (l : List UInt8), Lib.indexByte l (UInt8.ofNat n) = match idx1 (n : Int) (l.map fun b => (b.toNat : Int)) with | none => -1 | some e => (e : Int)
  | [] => rfl
  | b :: l => by
    have ih := indexByte_eq hn l
    unfold Lib.indexByte
    rw [List.map_cons]
    unfold idx1
    have hb : (b == UInt8.ofNat n) = decide ((b.toNat : Int) = (n : Int)) := by
      rw [Bool.eq_iff_iff, decide_eq_true_eq, beq_iff_eq]
      constructor
      · rintro rfl; simp; omega
      · intro h
        apply UInt8.toNat_inj.1
        simp; omega
    rw [hb]
    by_cases h : (b.toNat : Int) = (n : Int)
    · rw [if_pos (decide_eq_true h), if_pos h]; rfl
    · rw [if_neg (by simpa using h), if_neg h, ih]
      cases idx1 (n : Int) (l.map fun b => (b.toNat : Int)) with
      | none => rfl
      | some k =>
        have : ((k : Int) == -1) = false := beq_eq_false_iff_ne.2 (by omega)
        simp only [this, Bool.false_eq_true, if_false, Option.map_some]
        rfl
theorem sIndex {n : Nat} (hn : n < 256) (s : ByteArray) : strings_Index s ⟨#[UInt8.ofNat n]⟩ = some (match idx1 (n : Int) (sbytes s) with | none => -1 | some e => (e : Int)) := by
  unfold strings_Index
  have := indexByte_eq hn s.data.toList
  simp only [this]
  rfl
def spl (c : Int) : List Int → List (List Int)
  | [] => [[]]
  | x :: l => if x = c then [] :: spl c l else match spl c l with
    | [] => [[x]]
    | p :: ps => (x :: p) :: ps
theorem spl_ne (c : Int) : ∀ l, spl c l ≠ []
  | [] => by simp [spl]
  | x :: l => by
    unfold spl
    split
    · simp
    · split <;> simp
theorem spl_one {c : Int} : ∀ {l : List Int}, c ∉ l → spl c l = [l]
  | [], _ => rfl
  | x :: l, h => by
    simp only [List.mem_cons, not_or] at h
    unfold spl
    rw [if_neg (fun e => h.1 e.symm), spl_one h.2]
theorem spl_app {c : Int} : ∀ {p r : List Int}, c ∉ p → spl c (p ++ c :: r) = p :: spl c r
  | [], r, _ => by simp [spl]
  | x :: p, r, h => by
    simp only [List.mem_cons, not_or] at h
    rw [List.cons_append]
    conv => lhs; unfold spl
    rw [if_neg (fun e => h.1 e.symm), spl_app h.2]
def folS {X S O : Type} (step : X → S → Option (S ⊕ O)) : List X → S → Option (S ⊕ O)
  | [], s => some (.inl s)
  | x :: l, s => match step x s with
    | none => none
    | some (.inl s') => folS step l s'
    | some (.inr o) => some (.inr o)
def splB (c : Int) (s : ByteArray) : List ByteArray := (spl c (sbytes s)).map bstr
theorem wrap_i {n : Int} (h0 : -9223372036854775808 ≤ n) (h1 : n < 9223372036854775808) : some (IntKind.i64.wrap n) = some n := by rw [wrap_i64 h0 h1]
def alB (c : Int) : Bool := decide (48 ≤ c) && decide (c ≤ 57) || (decide (65 ≤ c) && decide (c ≤ 90) || decide (97 ≤ c) && decide (c ≤ 122))
def lbB (c : Int) : Bool := alB c || c == 45
def atB (c : Int) : Bool := alB c || [33, 35, 36, 37, 38, 39, 42, 43, 45, 47, 61, 63, 94, 95, 96, 123, 124, 125, 126].contains c
def labB (l : List Int) : Bool := !l.isEmpty && (decide (l.length ≤ 63) && (l.head? != some 45 && (l.getLast? != some 45 && l.all lbB)))
def atmB (l : List Int) : Bool := !l.isEmpty && l.all atB
def domB (l : List Int) : Bool := decide (l.length ≤ 255) && (spl 46 l).all labB
def locB (l : List Int) : Bool := decide (l.length ≤ 64) && (spl 46 l).all atmB
theorem of_byte (p : Int → Bool) (h : (List.range 256).all (fun k => p (k : Int)) = true) {c : Int} (hc : 0 ≤ c ∧ c < 256) : p c = true := by
  have := List.all_eq_true.1 h c.toNat (List.mem_range.2 (by omega))
  rwa [Int.toNat_of_nonneg hc.1] at this
theorem all_iff_get (l : List Int) (p : Int → Bool) : l.all p = true ↔ ∀ i, i < l.length → p (l.getD i 0) = true := by
  rw [List.all_eq_true]
  constructor
  · intro h i hi
    rw [List.getD_eq_getElem?_getD, List.getElem?_eq_getElem hi]
    exact h _ (List.getElem_mem hi)
  · intro h x hx
    obtain ⟨i, hi, rfl⟩ := List.getElem_of_mem hx
    have := h i hi
    rw [List.getD_eq_getElem?_getD, List.getElem?_eq_getElem hi] at this
    exact this
theorem chrD {s : ByteArray} {i : Nat} (h : i < s.size) : chrO s (i : Int) = some ((sbytes s).getD i 0) := by
  rw [chr_of h, List.getD_eq_getElem?_getD, List.getElem?_eq_getElem (by rw [sbytes_len]; exact h)]; rfl
theorem getD_byte (s : ByteArray) {i : Nat} (h : i < s.size) : 0 ≤ (sbytes s).getD i 0 ∧ (sbytes s).getD i 0 < 256 := by
  rw [List.getD_eq_getElem?_getD, List.getElem?_eq_getElem (by rw [sbytes_len]; exact h)]
  exact byt_sbytes s _ (List.getElem_mem _)
theorem all_loop {g : Int → Option Bool} {p : Int → Bool} (s : ByteArray) (hs : s.size < 4611686018427387904) (hg : ∀ c, 0 ≤ c ∧ c < 256 → g c = some (p c)) :
    bindS (S := (Unit)) (A := Bool)
    (loopF (S := (Int)) (O := (Unit) ⊕ Bool) (fun (s9 : Int) =>
      cond ((decide (s9 < (s.size : Int))))
        ((chrO s s9).bind fun v2 =>
        (g v2).bind fun v3 =>
        cond ((!v3))
          (some (.inr (.inr (false))))
          ((some (IntKind.i64.wrap (s9 + 1))).bind fun v5 =>
          some (.inl v5)))
        (some (.inr (.inl ()))))
      BIG 0)
    (fun (() : Unit) =>
      some (true)) some = some ((sbytes s).all p) := by
  have hl := loop_all (R := Bool) (f := fun (s9 : Int) =>
      cond ((decide (s9 < (s.size : Int))))
        ((chrO s s9).bind fun v2 =>
        (g v2).bind fun v3 =>
        cond ((!v3))
          (some (.inr (.inr (false))))
          ((some (IntKind.i64.wrap (s9 + 1))).bind fun v5 =>
          some (.inl v5)))
        (some (.inr (.inl ())))) (fun i => p ((sbytes s).getD i 0)) s.size false (fuel := BIG) (by unfold BIG; omega)
    (fun i hi hp => cnd_t (decide_eq_true (by omega)) (bnd (chrD hi) (bnd (hg _ (getD_byte s hi)) (cnd_f (by simp only [hp]; rfl) (bnd (by rw [wrap_succ (by omega)]) rfl)))))
    (fun i hi hp => cnd_t (decide_eq_true (by omega)) (bnd (chrD hi) (bnd (hg _ (getD_byte s hi)) (cnd_t (by simp only [hp]; rfl) rfl))))
    (cnd_f (decide_eq_false (by omega)) rfl)
  rw [hl]
  have hiff := all_iff_get (sbytes s) p
  rw [sbytes_len] at hiff
  by_cases hall : ∀ i, i < s.size → p ((sbytes s).getD i 0) = true
  · rw [if_pos hall, hiff.2 hall]; rfl
  · rw [if_neg hall]
    cases hq : (sbytes s).all p
    · rfl
    · exact absurd (hiff.1 hq) hall
theorem isE (s : ByteArray) : (s.toList == (⟨#[]⟩ : ByteArray).toList) = (sbytes s).isEmpty := by
  rw [toList_beq, Bool.eq_iff_iff, decide_eq_true_eq, str_eq_iff]
  simp [sbytes]
theorem last_getD {l : List Int} (h : l ≠ []) : l.getLast? = some (l.getD (l.length - 1) 0) := by
  have : 0 < l.length := List.length_pos_iff.2 h
  rw [List.getLast?_eq_getElem?, List.getD_eq_getElem?_getD, List.getElem?_eq_getElem (by omega)]
  rfl
theorem head_getD {l : List Int} (h : l ≠ []) : l.head? = some (l.getD 0 0) := by
  cases l with
  | nil => exact absurd rfl h
  | cons x l => rfl
def patB (p : T_Path) : Bool := cond p.Null ((sbytes p.Local).isEmpty && (sbytes p.Domain).isEmpty) (locB (sbytes p.Local) && domB (sbytes p.Domain))
structure Small (p : T_Path) : Prop where
  l : p.Local.size < 1152921504606846976
  d : p.Domain.size < 1152921504606846976
def e0 : ByteArray := ⟨#[]⟩
theorem in_eq (n lo hi : Int) : wherryref11_in n lo hi = some (decide (lo ≤ n) && decide (n ≤ hi)) := by
  unfold wherryref11_in
  cases decide (lo ≤ n) <;> rfl
def letB (c : Int) : Bool := decide (97 ≤ c) && decide (c ≤ 122) || decide (65 ≤ c) && decide (c ≤ 90)
def digB (c : Int) : Bool := decide (48 ≤ c) && decide (c ≤ 57)
theorem rletter (c : Int) : wherryref11_letter c = some (letB c) := by
  unfold wherryref11_letter letB
  cases decide (97 ≤ c) <;> cases decide (c ≤ 122) <;> cases decide (65 ≤ c) <;> cases decide (c ≤ 90) <;> rfl
theorem rdigit (c : Int) : wherryref11_digit c = some (digB c) := by
  unfold wherryref11_digit digB
  cases decide (48 ≤ c) <;> rfl
theorem lb_or (c : Int) : lbB c = (letB c || (digB c || c == 45)) := by
  unfold lbB alB letB digB
  cases decide (97 ≤ c) <;> cases decide (c ≤ 122) <;> cases decide (65 ≤ c) <;> cases decide (c ≤ 90) <;> cases decide (48 ≤ c) <;> cases decide (c ≤ 57) <;> simp
def chkR (q : Int → Int → Bool) : Int → List Int → Bool
  | _, [] => true
  | p, x :: r => q p x && chkR q x r
theorem chkR_iff (q : Int → Int → Bool) : ∀ (l : List Int) (p : Int), (∀ i, i < l.length → q ((p :: l).getD i 0) (l.getD i 0) = true) ↔ chkR q p l = true
  | [], p => by simp [chkR]
  | x :: r, p => by
    unfold chkR
    rw [Bool.and_eq_true, ← chkR_iff q r x]
    constructor
    · intro h
      exact ⟨by simpa using h 0 (by simp), fun i hi => by simpa using h (i + 1) (by simpa using hi)⟩
    · rintro ⟨h0, h1⟩ i hi
      cases i with
      | zero => simpa using h0
      | succ i => simpa using h1 i (by simpa using hi)
def labE (l : List Int) : Bool := decide (1 ≤ l.length) && (decide (l.length ≤ 63) && (l.getD 0 0 != 45 && l.getD (l.length - 1) 0 != 45))
theorem labB_E (l : List Int) : labB l = (labE l && l.all lbB) := by
  unfold labB labE
  cases l with
  | nil => rfl
  | cons x r =>
    rw [last_getD (by simp), head_getD (by simp)]
    have : decide (1 ≤ (x :: r).length) = true := by simp
    rw [this]
    simp only [List.isEmpty_cons, Bool.not_false, Bool.true_and]
    have e1 : (some ((x :: r).getD 0 0) != some 45) = ((x :: r).getD 0 0 != 45) := by rw [Bool.eq_iff_iff]; simp
    have e2 : (some ((x :: r).getD ((x :: r).length - 1) 0) != some 45) = ((x :: r).getD ((x :: r).length - 1) 0 != 45) := by rw [Bool.eq_iff_iff]; simp
    rw [e1, e2]
    simp only [Bool.and_assoc]
def domG : List Int → List Int → Bool
  | cur, [] => labE cur
  | cur, x :: r => if x = 46 then labE cur && domG [] r else lbB x && domG (cur ++ [x]) r
theorem domG_spl : ∀ (l cur : List Int), cur.all lbB = true → domG cur l = match spl 46 l with
    | [] => true
    | a :: ps => labB (cur ++ a) && ps.all labB
  | [], cur, h => by simp [domG, spl, labB_E, h]
  | x :: r, cur, h => by
    have hne := spl_ne 46 r
    unfold domG spl
    by_cases hx : x = 46
    · rw [if_pos hx, if_pos hx, domG_spl r [] rfl]
      cases hs : spl 46 r with
      | nil => exact absurd hs hne
      | cons a ps => simp [labB_E, h]
    · rw [if_neg hx, if_neg hx]
      cases hs : spl 46 r with
      | nil => exact absurd hs hne
      | cons a ps =>
        cases hl : lbB x
        · simp [labB_E, hl]
        · have := domG_spl r (cur ++ [x]) (by simp [h, hl])
          rw [this, hs]
          simp
theorem dom_G (l : List Int) : (spl 46 l).all labB = domG [] l := by
  rw [domG_spl l [] rfl]
  cases hs : spl 46 l with
  | nil => exact absurd hs (spl_ne 46 l)
  | cons a ps => simp
def rdomS (s : ByteArray) : Int × Int → Option ((Int × Int) ⊕ (Unit ⊕ Bool)) := (fun ((s88, s89) : Int × Int) =>
        cond ((decide (s89 ≤ (s.size : Int))))
          (bindS (S := Int) (A := ((Int × Int) ⊕ ((Unit) ⊕ Bool)))
            (bindS (S := Bool) (A := (Int ⊕ ((Int × Int) ⊕ ((Unit) ⊕ Bool))))
              (cond ((decide (s89 < (s.size : Int))))
                ((chrO s s89).bind fun v4 =>
                some (.inl (v4 != 46)))
                (some (.inl false)))
              (fun (s151 : Bool) =>
                cond (s151)
                  (bindS (S := Bool) (A := (Int ⊕ ((Int × Int) ⊕ ((Unit) ⊕ Bool))))
                    ((chrO s s89).bind fun v10 =>
                    (wherryref11_letter v10).bind fun v11 =>
                    cond ((!v11))
                      ((chrO s s89).bind fun v12 =>
                      (wherryref11_digit v12).bind fun v13 =>
                      cond ((!v13))
                        ((chrO s s89).bind fun v14 =>
                        some (.inl (v14 != 45)))
                        (some (.inl false)))
                      (some (.inl false)))
                    (fun (s156 : Bool) =>
                      cond (s156)
                        (some (.inr (.inr (.inr (false)))))
                        (some (.inl s88))) some)
                  (bindS (S := Bool) (A := (Int ⊕ ((Int × Int) ⊕ ((Unit) ⊕ Bool))))
                    ((some (IntKind.i64.wrap (s89 - s88))).bind fun v20 =>
                    (wherryref11_in v20 1 63).bind fun v21 =>
                    cond ((!v21))
                      (some (.inl true))
                      ((chrO s s88).bind fun v22 =>
                      cond ((v22 == 45))
                        (some (.inl true))
                        ((some (IntKind.i64.wrap (s89 - 1))).bind fun v23 =>
                        (chrO s v23).bind fun v24 =>
                        some (.inl (v24 == 45)))))
                    (fun (s161 : Bool) =>
                      cond (s161)
                        (some (.inr (.inr (.inr (false)))))
                        ((some (IntKind.i64.wrap (s89 + 1))).bind fun v30 =>
                        some (.inl v30))) some)) some)
            (fun (s147 : Int) =>
              (some (IntKind.i64.wrap (s89 + 1))).bind fun v50 =>
              some (.inl (s147, v50))) some)
          (some (.inr (.inl ()))))
theorem rlab {R : Type} (s : ByteArray) (f i : Nat) (cur : List Int) (hi : i ≤ s.size) (hs : s.size < 4611686018427387904) (hl : f + cur.length = i) (hc : ∀ j, j < cur.length → (sbytes s).getD (f + j) 0 = cur.getD j 0) (A : Option (R ⊕ ((Int × Int) ⊕ (Unit ⊕ Bool)))) (B : Option (R ⊕ ((Int × Int) ⊕ (Unit ⊕ Bool)))) :
    (bindS (S := Bool) (A := (R ⊕ ((Int × Int) ⊕ ((Unit) ⊕ Bool))))
                    ((some (IntKind.i64.wrap ((i : Int) - (f : Int)))).bind fun v20 =>
                    (wherryref11_in v20 1 63).bind fun v21 =>
                    cond ((!v21))
                      (some (.inl true))
                      ((chrO s (f : Int)).bind fun v22 =>
                      cond ((v22 == 45))
                        (some (.inl true))
                        ((some (IntKind.i64.wrap ((i : Int) - 1))).bind fun v23 =>
                        (chrO s v23).bind fun v24 =>
                        some (.inl (v24 == 45)))))
                    (fun (s161 : Bool) =>
                      cond (s161) A B) some) = cond (labE cur) B A := by
  have w : some (IntKind.i64.wrap ((i : Int) - (f : Int))) = some (cur.length : Int) := by rw [wrap_i (by omega) (by omega)]; congr 1; omega
  have hin := in_eq (cur.length : Int) 1 63
  unfold labE
  by_cases h1 : 1 ≤ cur.length
  · by_cases h2 : cur.length ≤ 63
    · rw [decide_eq_true (by omega), decide_eq_true (by omega)] at hin
      rw [decide_eq_true h1, decide_eq_true h2]
      have c0 := chrD (s := s) (i := f) (by omega)
      have e0 := hc 0 (by omega)
      rw [Nat.add_zero] at e0
      rw [e0] at c0
      have c1 := chrD (s := s) (i := i - 1) (by omega)
      have e1 := hc (cur.length - 1) (by omega)
      rw [show f + (cur.length - 1) = i - 1 by omega] at e1
      rw [e1, show ((i - 1 : Nat) : Int) = (i : Int) - 1 by omega] at c1
      by_cases h3 : cur.getD 0 0 = 45
      · refine bndL (s := true) (bnd w (bnd hin (cnd_f rfl (bnd c0 (cnd_t (by rw [h3]; rfl) rfl))))) ?_
        rw [h3]; rfl
      · have x3 : (cur.getD 0 0 == 45) = false := by simpa using h3
        have y3 : (cur.getD 0 0 != 45) = true := by simpa using h3
        refine bndL (s := (cur.getD (cur.length - 1) 0 == 45)) (bnd w (bnd hin (cnd_f rfl (bnd c0 (cnd_f x3 (bnd (wrap_i (by omega) (by omega)) (bnd c1 rfl))))))) ?_
        rw [y3]
        unfold bne
        cases (cur.getD (cur.length - 1) 0 == 45) <;> rfl
    · rw [decide_eq_true (by omega), decide_eq_false (by omega)] at hin
      rw [decide_eq_true h1, decide_eq_false h2]
      exact bndL (s := true) (bnd w (bnd hin rfl)) rfl
  · rw [decide_eq_false (by omega)] at hin
    rw [decide_eq_false h1]
    exact bndL (s := true) (bnd w (bnd hin rfl)) rfl
theorem rdom_loop (s : ByteArray) (hs : s.size < 4611686018427387904) : ∀ (rest cur : List Int) (f i fuel : Nat), f + cur.length = i → (sbytes s).drop i = rest → i ≤ s.size → (∀ j, j < cur.length → (sbytes s).getD (f + j) 0 = cur.getD j 0) → rest.length + 1 < fuel →
    loopF (rdomS s) fuel ((f : Int), (i : Int)) = some (if domG cur rest = true then .inl () else .inr false)
  | [], cur, f, i, fuel, hl, hd, hi, hc, hf => by
    have hi2 : i = s.size := by
      have := congrArg List.length hd
      rw [List.length_drop, sbytes_len] at this
      simp at this; omega
    obtain ⟨k, rfl⟩ : ∃ k, fuel = k + 1 + 1 := ⟨fuel - 2, by simp at hf; omega⟩
    have hr := rlab (R := Int) s f i cur hi hs hl hc (some (.inr (.inr (.inr false)))) ((some (IntKind.i64.wrap ((i : Int) + 1))).bind fun v30 => some (.inl v30))
    have w : some (IntKind.i64.wrap ((i : Int) + 1)) = some ((i + 1 : Nat) : Int) := by rw [wrap_succ (by omega)]
    have hd0 : domG cur [] = labE cur := rfl
    rw [hd0]
    cases hlab : labE cur
    · rw [hlab, cond_false] at hr
      rw [loop_exit (o := .inr false)]
      · rfl
      · unfold rdomS
        exact cnd_t (decide_eq_true (by omega)) (bndR (a := .inr (.inr false)) (bndL (s := false) (cnd_f (decide_eq_false (by omega)) rfl) (cnd_f rfl hr)) rfl)
    · rw [hlab, cond_true] at hr
      rw [loop_next (s' := (((i + 1 : Nat) : Int), ((i + 1 : Nat) : Int))), loop_exit (o := .inl ())]
      · rfl
      · unfold rdomS
        exact cnd_f (decide_eq_false (by omega)) rfl
      · unfold rdomS
        exact cnd_t (decide_eq_true (by omega)) (bndL (s := ((i + 1 : Nat) : Int)) (bndL (s := false) (cnd_f (decide_eq_false (by omega)) rfl) (cnd_f rfl (hr.trans (bnd w rfl)))) (bnd w rfl))
  | x :: rest, cur, f, i, fuel, hl, hd, hi, hc, hf => by
    have hlt : i < s.size := by
      have := congrArg List.length hd
      rw [List.length_drop, sbytes_len] at this
      simp at this; omega
    have hx : (sbytes s).getD i 0 = x := by
      have := congrArg List.head? hd
      rw [List.head?_drop] at this
      rw [List.getD_eq_getElem?_getD, this]; rfl
    have hd2 : (sbytes s).drop (i + 1) = rest := by
      rw [← List.drop_drop, hd]; rfl
    obtain ⟨k, rfl⟩ : ∃ k, fuel = k + 1 := ⟨fuel - 1, by omega⟩
    have hchr := chrD hlt
    rw [hx] at hchr
    have w : some (IntKind.i64.wrap ((i : Int) + 1)) = some ((i + 1 : Nat) : Int) := by rw [wrap_succ (by omega)]
    have lt : decide ((i : Int) ≤ (s.size : Int)) = true := decide_eq_true (by omega)
    have lt2 : decide ((i : Int) < (s.size : Int)) = true := decide_eq_true (by omega)
    unfold domG
    by_cases h46 : x = 46
    · rw [if_pos h46]
      have hr := rlab (R := Int) s f i cur hi hs hl hc (some (.inr (.inr (.inr false)))) ((some (IntKind.i64.wrap ((i : Int) + 1))).bind fun v30 => some (.inl v30))
      cases hlab : labE cur
      · rw [hlab, cond_false] at hr
        rw [loop_exit (o := .inr false)]
        · rfl
        · unfold rdomS
          exact cnd_t lt (bndR (a := .inr (.inr false)) (bndL (s := false) (cnd_t lt2 (bnd hchr (by rw [h46]; rfl))) (cnd_f rfl hr)) rfl)
      · rw [hlab, cond_true] at hr
        rw [loop_next (s' := (((i + 1 : Nat) : Int), ((i + 1 : Nat) : Int)))]
        · rw [Bool.true_and]
          exact rdom_loop s hs rest [] (i + 1) (i + 1) k (by simp) hd2 (by omega) (by simp) (by simp at hf; omega)
        · unfold rdomS
          exact cnd_t lt (bndL (s := ((i + 1 : Nat) : Int)) (bndL (s := false) (cnd_t lt2 (bnd hchr (by rw [h46]; rfl))) (cnd_f rfl (hr.trans (bnd w rfl)))) (bnd w rfl))
    · rw [if_neg h46]
      have hx46 : (x != 46) = true := by simpa using h46
      have hlb := lb_or x
      have hin : ((chrO s (i : Int)).bind fun v10 =>
                    (wherryref11_letter v10).bind fun v11 =>
                    cond ((!v11))
                      ((chrO s (i : Int)).bind fun v12 =>
                      (wherryref11_digit v12).bind fun v13 =>
                      cond ((!v13))
                        ((chrO s (i : Int)).bind fun v14 =>
                        some (Sum.inl (β := (Int ⊕ ((Int × Int) ⊕ ((Unit) ⊕ Bool)))) (v14 != 45)))
                        (some (.inl false)))
                      (some (.inl false))) = some (.inl (!lbB x)) := by
        rw [hlb]
        refine bnd hchr (bnd (rletter x) ?_)
        cases letB x
        · refine cnd_t rfl (bnd hchr (bnd (rdigit x) ?_))
          cases digB x
          · exact cnd_t rfl (bnd hchr rfl)
          · rfl
        · rfl
      cases hl1 : lbB x
      · rw [hl1] at hin
        rw [loop_exit (o := .inr false)]
        · rfl
        · unfold rdomS
          exact cnd_t lt (bndR (a := .inr (.inr false)) (bndL (s := true) (cnd_t lt2 (bnd hchr (by rw [hx46]))) (cnd_t rfl (bndL (s := true) hin rfl))) rfl)
      · rw [hl1] at hin
        rw [loop_next (s' := ((f : Int), ((i + 1 : Nat) : Int)))]
        · rw [Bool.true_and]
          refine rdom_loop s hs rest (cur ++ [x]) f (i + 1) k (by simp; omega) hd2 (by omega) (fun j hj => ?_) (by simp at hf; omega)
          simp at hj
          by_cases hj2 : j < cur.length
          · rw [hc j hj2, List.getD_eq_getElem?_getD, List.getD_eq_getElem?_getD, List.getElem?_append_left hj2]
          · have hj3 : j = cur.length := by omega
            subst hj3
            rw [hl, hx]
            simp
        · unfold rdomS
          exact cnd_t lt (bndL (s := (f : Int)) (bndL (s := true) (cnd_t lt2 (bnd hchr (by rw [hx46]))) (cnd_t rfl (bndL (s := false) hin rfl))) (bnd w rfl))
theorem rdom_eq (s : ByteArray) : wherryref11_Domain s = some (domB (sbytes s)) := by
  unfold wherryref11_Domain domB
  rw [sbytes_len]
  have hin := in_eq (s.size : Int) 1 255
  by_cases h : 1 ≤ s.size ∧ s.size ≤ 255
  · rw [decide_eq_true (by omega), decide_eq_true (by omega)] at hin
    refine bnd hin (cnd_f rfl ?_)
    rw [decide_eq_true h.2, Bool.true_and, dom_G]
    have := rdom_loop s (by omega) (sbytes s) [] 0 0 BIG rfl rfl (by omega) (by simp) (by rw [sbytes_len]; unfold BIG; omega)
    change bindS (loopF (rdomS s) BIG ((0 : Nat), (0 : Nat))) _ _ = _
    rw [this]
    cases domG [] (sbytes s) <;> rfl
  · have hn : (decide ((1 : Int) ≤ (s.size : Int)) && decide ((s.size : Int) ≤ 255)) = false := by
      by_cases h1 : 1 ≤ s.size
      · rw [decide_eq_true (by omega), decide_eq_false (by omega)]; rfl
      · rw [decide_eq_false (by omega)]; rfl
    rw [hn] at hin
    refine bnd hin (cnd_t rfl ?_)
    by_cases h1 : 1 ≤ s.size
    · rw [decide_eq_false (by omega)]; rfl
    · have : sbytes s = [] := List.eq_nil_of_length_eq_zero (by rw [sbytes_len]; omega)
      rw [this]
      simp [spl, labB]
theorem keepPath (a b : T_Path) : wherrykeep_Path a b = some (decide (a = b)) := by
  unfold wherrykeep_Path
  refine bndL (s := decide (a = b)) (bnd rfl ?_) rfl
  rw [toList_beq, toList_beq]
  obtain ⟨an, al, ad⟩ := a
  obtain ⟨bn, bl, bd⟩ := b
  cases h : an == bn
  · have : an ≠ bn := by simpa using h
    refine cnd_f rfl ?_
    simp [this]
  · have : an = bn := by simpa using h
    refine cnd_t rfl ?_
    subst this
    by_cases h2 : al = bl
    · rw [decide_eq_true h2]
      subst h2
      refine cnd_t rfl ?_
      simp
    · rw [decide_eq_false h2]
      refine cnd_f rfl ?_
      simp [h2]
theorem rsign_all : (List.range 256).all (fun k => decide (wherryref11_sign ((k : Nat) : Int) = some (atB ((k : Nat) : Int)))) = true := by kernel_rfl
theorem rsign {c : Int} (hc : 0 ≤ c ∧ c < 256) : wherryref11_sign c = some (atB c) := by
  simpa using of_byte (fun c => decide (wherryref11_sign c = some (atB c))) rsign_all hc
def qLoc (p x : Int) : Bool := if x = 46 then decide (p ≠ 46) else atB x
def locG (p : Int) (l : List Int) : Bool := chkR qLoc p l && decide ((p :: l).getLast? ≠ some 46)
theorem locG_spl : ∀ (l : List Int) (p : Int), locG p l = match spl 46 l with
    | [] => true
    | a :: ps => (if p = 46 then atmB a else a.all atB) && ps.all atmB
  | [], p => by
    unfold locG
    simp only [chkR, spl, Bool.true_and, List.getLast?_singleton, List.all_nil, Bool.and_true]
    by_cases h : p = 46
    · simp [h, atmB]
    · simp [h]
  | x :: r, p => by
    have ih := locG_spl r x
    have hne := spl_ne 46 r
    unfold spl
    have e : locG p (x :: r) = (qLoc p x && locG x r) := by
      unfold locG
      simp only [chkR, List.getLast?_cons_cons, Bool.and_assoc]
    rw [e, ih]
    cases hs : spl 46 r with
    | nil => exact absurd hs hne
    | cons a ps =>
      by_cases hx : x = 46
      · subst hx
        simp only [qLoc, if_true, List.all_cons]
        by_cases hp : p = 46
        · subst hp; simp [atmB]
        · simp [hp]
      · simp only [qLoc, if_neg hx, List.all_cons]
        by_cases hp : p = 46
        · subst hp; simp [atmB, Bool.and_assoc]
        · simp [hp, Bool.and_assoc]
theorem loc_chk (l : List Int) (hne : l ≠ []) (h46 : l.head? ≠ some 46) (hl : l.getLast? ≠ some 46) : (spl 46 l).all atmB = chkR qLoc 0 l := by
  have h := locG_spl l 46
  have e1 : locG 46 l = chkR qLoc 0 l := by
    cases l with
    | nil => exact absurd rfl hne
    | cons x r =>
      have hx : x ≠ 46 := by simpa using h46
      unfold locG
      simp only [chkR, List.getLast?_cons_cons, qLoc, if_neg hx]
      rw [decide_eq_true hl, Bool.and_true]
  rw [← e1, h]
  cases hs : spl 46 l with
  | nil => exact absurd hs (spl_ne 46 l)
  | cons a ps => simp
theorem loc_first {l : List Int} (h : l.head? = some 46) : (spl 46 l).all atmB = false := by
  cases l with
  | nil => simp at h
  | cons x r => simp at h; subst h; simp [spl, atmB]
theorem loc_last {l : List Int} (h : l.getLast? = some 46) : (spl 46 l).all atmB = false := by
  have h2 := locG_spl l 46
  have e : (spl 46 l).all atmB = locG 46 l := by
    rw [h2]
    cases hs : spl 46 l with
    | nil => exact absurd hs (spl_ne 46 l)
    | cons a ps => simp
  rw [e]
  unfold locG
  cases l with
  | nil => simp at h
  | cons x r => rw [List.getLast?_cons_cons, h]; simp
theorem rloc_eq (s : ByteArray) : wherryref11_Local s = some (locB (sbytes s)) := by
  unfold wherryref11_Local locB
  rw [sbytes_len]
  by_cases h : 1 ≤ s.size ∧ s.size ≤ 64
  · have hn : (decide ((1 : Int) ≤ (s.size : Int)) && decide ((s.size : Int) ≤ 64)) = true := by rw [decide_eq_true (by omega), decide_eq_true (by omega)]; rfl
    have hin := in_eq (s.size : Int) 1 64
    rw [hn] at hin
    have hne : sbytes s ≠ [] := by intro e; have := sbytes_len s; rw [e] at this; simp at this; omega
    have hh := head_getD hne
    have hg := last_getD hne
    rw [sbytes_len] at hg
    have c0 := chrD (s := s) (i := 0) (by omega)
    have c1 := chrD (s := s) (i := s.size - 1) (by omega)
    have e1 : ((s.size - 1 : Nat) : Int) = (s.size : Int) - 1 := by omega
    rw [e1] at c1
    rw [decide_eq_true h.2, Bool.true_and]
    by_cases h0 : (sbytes s).getD 0 0 = 46
    · rw [h0] at hh c0
      rw [loc_first hh]
      exact bndL (s := true) (bnd hin (cnd_f rfl (bnd c0 (cnd_t rfl rfl)))) rfl
    · by_cases hl : (sbytes s).getD (s.size - 1) 0 = 46
      · rw [hl] at hg c1
        rw [loc_last hg]
        exact bndL (s := true) (bnd hin (cnd_f rfl (bnd c0 (cnd_f (by simpa using h0) (bnd (wrap_i (by omega) (by omega)) (bnd c1 rfl)))))) rfl
      · rw [loc_chk _ hne (by rw [hh]; simpa using h0) (by rw [hg]; simpa using hl)]
        refine bndL (s := false) (bnd hin (cnd_f rfl (bnd c0 (cnd_f (by simpa using h0) (bnd (wrap_i (by omega) (by omega)) (bnd c1 (by rw [show ((sbytes s).getD (s.size - 1) 0 == 46) = false by simpa using hl])))))) ) (cnd_f rfl ?_)
        let q : Nat → Bool := fun i => qLoc ((0 :: sbytes s).getD i 0) ((sbytes s).getD i 0)
        have hl2 := fun (g : Int → Option (Int ⊕ (Unit ⊕ Bool))) => loop_all (R := Bool) (f := g) q s.size false (fuel := BIG) (by unfold BIG; omega)
        have hiff := chkR_iff qLoc (sbytes s) 0
        rw [sbytes_len] at hiff
        have prev : ∀ i, i < s.size → (sbytes s).getD i 0 = 46 → chrO s ((i : Int) - 1) = some ((0 :: sbytes s).getD i 0) := by
          intro i hi h46
          cases i with
          | zero => exact absurd h46 h0
          | succ i =>
            have := chrD (s := s) (i := i) (by omega)
            have e : ((i + 1 : Nat) : Int) - 1 = (i : Int) := by omega
            rw [e, this]; rfl
        rw [show chkR qLoc 0 (sbytes s) = decide (∀ i, i < s.size → q i = true) by rw [Bool.eq_iff_iff, decide_eq_true_eq]; exact hiff.symm]
        refine (congrArg (fun m => bindS m _ _) (hl2 _ ?_ ?_ ?_)).trans ?_
        · intro i hi hq
          have w : some (IntKind.i64.wrap ((i : Int) - 1)) = some ((i : Int) - 1) := wrap_i (by omega) (by omega)
          have w2 : some (IntKind.i64.wrap ((i : Int) + 1)) = some ((i + 1 : Nat) : Int) := by rw [wrap_succ (by omega)]
          refine cnd_t (decide_eq_true (by omega)) (bndL (s := false) (bnd (chrD hi) ?_) (cnd_f rfl (bnd w2 rfl)))
          by_cases h46 : (sbytes s).getD i 0 = 46
          · refine cnd_t (by rw [h46]; rfl) (bnd w (bnd (prev i hi h46) ?_))
            have hp : (0 :: sbytes s).getD i 0 ≠ 46 := by
              simp only [q, qLoc, if_pos h46, decide_eq_true_eq] at hq
              exact hq
            exact cnd_f (by simpa using hp) (bnd (chrD hi) (cnd_f (by rw [h46]; rfl) rfl))
          · refine cnd_f (by simpa using h46) (bnd (chrD hi) (cnd_t (by simpa using h46) (bnd (chrD hi) (bnd (rsign (getD_byte s hi)) ?_))))
            simp only [q, qLoc, if_neg h46] at hq
            rw [hq]; rfl
        · intro i hi hq
          have w : some (IntKind.i64.wrap ((i : Int) - 1)) = some ((i : Int) - 1) := wrap_i (by omega) (by omega)
          refine cnd_t (decide_eq_true (by omega)) (bndL (s := true) (bnd (chrD hi) ?_) (cnd_t rfl rfl))
          by_cases h46 : (sbytes s).getD i 0 = 46
          · refine cnd_t (by rw [h46]; rfl) (bnd w (bnd (prev i hi h46) ?_))
            have hp : (0 :: sbytes s).getD i 0 = 46 := by
              simp only [q, qLoc, if_pos h46, decide_eq_false_iff_not, ne_eq] at hq
              exact Decidable.not_not.1 hq
            exact cnd_t (by rw [hp]; rfl) rfl
          · refine cnd_f (by simpa using h46) (bnd (chrD hi) (cnd_t (by simpa using h46) (bnd (chrD hi) (bnd (rsign (getD_byte s hi)) ?_))))
            simp only [q, qLoc, if_neg h46] at hq
            rw [hq]; rfl
        · exact cnd_f (decide_eq_false (by omega)) rfl
        · by_cases hall : ∀ i, i < s.size → q i = true
          · rw [if_pos hall, decide_eq_true hall]; rfl
          · rw [if_neg hall, decide_eq_false hall]; rfl
  · have hn : (decide ((1 : Int) ≤ (s.size : Int)) && decide ((s.size : Int) ≤ 64)) = false := by
      by_cases h1 : 1 ≤ s.size
      · rw [decide_eq_true (by omega), decide_eq_false (by omega)]; rfl
      · rw [decide_eq_false (by omega)]; rfl
    have hin := in_eq (s.size : Int) 1 64
    rw [hn] at hin
    refine bndL (s := true) (bnd hin rfl) (cnd_t rfl ?_)
    by_cases h1 : 1 ≤ s.size
    · rw [decide_eq_false (by omega)]; rfl
    · have : sbytes s = [] := List.eq_nil_of_length_eq_zero (by rw [sbytes_len]; omega)
      rw [this]
      simp [spl, atmB]
theorem rpath_eq (p : T_Path) : wherryref11_Path p = some (patB p) := by
  unfold wherryref11_Path patB
  rw [isE, isE]
  cases hn : p.Null
  · refine cnd_f rfl (bndL (s := locB (sbytes p.Local) && domB (sbytes p.Domain)) (bnd (rloc_eq p.Local) ?_) rfl)
    cases locB (sbytes p.Local)
    · rfl
    · exact cnd_t rfl (bnd (rdom_eq p.Domain) rfl)
  · refine cnd_t rfl (bndL (s := (sbytes p.Local).isEmpty && (sbytes p.Domain).isEmpty) ?_ rfl)
    cases (sbytes p.Local).isEmpty <;> rfl
end Go.Abs.Sh
