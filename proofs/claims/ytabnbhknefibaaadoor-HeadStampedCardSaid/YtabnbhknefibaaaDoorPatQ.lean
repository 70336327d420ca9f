import Derived.Test.YtabnbhknefibaaaDoorPatA
import Derived.KernelRfl
namespace Go.Abs.Sh
set_option linter.unusedVariables false
set_option linter.unusedSimpArgs false
def alB (c : Int) : Bool := decide (48 ≤ c) && decide (c ≤ 57) || (decide (65 ≤ c) && decide (c ≤ 90) || decide (97 ≤ c) && decide (c ≤ 122))
def lbB (c : Int) : Bool := alB c || c == 45
def labB (l : List Int) : Bool := !l.isEmpty && (decide (l.length ≤ 63) && (l.head? != some 45 && (l.getLast? != some 45 && l.all lbB)))
def domB (l : List Int) : Bool := decide (l.length ≤ 255) && (spl 46 l).all labB
theorem of_byte (p : Int → Bool) (h : (List.range 256).all (fun k => p (k : Int)) = true) {c : Int} (hc : 0 ≤ c ∧ c < 256) : p c = true := by
  have := List.all_eq_true.1 h c.toNat (List.mem_range.2 (by omega))
  rwa [Int.toNat_of_nonneg hc.1] at this
theorem label1_all : (List.range 256).all (fun k => decide (path_label_1 ((k : Nat) : Int) = some (lbB ((k : Nat) : Int)))) = true := by kernel_rfl
theorem label1 {c : Int} (hc : 0 ≤ c ∧ c < 256) : path_label_1 c = some (lbB c) := by
  simpa using of_byte (fun c => decide (path_label_1 c = some (lbB c))) label1_all hc
theorem all_iff_get (l : List Int) (p : Int → Bool) : l.all p = true ↔ ∀ i, i < l.length → p (l.getD i 0) = true := by
  rw [List.all_eq_true]
  constructor
  · intro h i hi
    rw [List.getD_eq_getElem?_getD, List.getElem?_eq_getElem hi]
    exact h _ (List.getElem_mem hi)
  · intro h x hx
    obtain ⟨i, hi, rfl⟩ := List.getElem_of_mem hx
    have := h i hi
    rw [List.getD_eq_getElem?_getD, List.getElem?_eq_getElem hi] at this
    exact this
theorem chrD {s : ByteArray} {i : Nat} (h : i < s.size) : chrO s (i : Int) = some ((sbytes s).getD i 0) := by
  rw [chr_of h, List.getD_eq_getElem?_getD, List.getElem?_eq_getElem (by rw [sbytes_len]; exact h)]; rfl
theorem getD_byte (s : ByteArray) {i : Nat} (h : i < s.size) : 0 ≤ (sbytes s).getD i 0 ∧ (sbytes s).getD i 0 < 256 := by
  rw [List.getD_eq_getElem?_getD, List.getElem?_eq_getElem (by rw [sbytes_len]; exact h)]
  exact byt_sbytes s _ (List.getElem_mem _)
theorem all_loop {g : Int → Option Bool} {p : Int → Bool} (s : ByteArray) (hs : s.size < 4611686018427387904) (hg : ∀ c, 0 ≤ c ∧ c < 256 → g c = some (p c)) :
    bindS (S := (Unit)) (A := Bool)
    (loopF (S := (Int)) (O := (Unit) ⊕ Bool) (fun (s9 : Int) =>
      cond ((decide (s9 < (s.size : Int))))
        ((chrO s s9).bind fun v2 =>
        (g v2).bind fun v3 =>
        cond ((!v3))
          (some (.inr (.inr (false))))
          ((some (IntKind.i64.wrap (s9 + 1))).bind fun v5 =>
          some (.inl v5)))
        (some (.inr (.inl ()))))
      BIG 0)
    (fun (() : Unit) =>
      some (true)) some = some ((sbytes s).all p) := by
  have hl := loop_all (R := Bool) (f := fun (s9 : Int) =>
      cond ((decide (s9 < (s.size : Int))))
        ((chrO s s9).bind fun v2 =>
        (g v2).bind fun v3 =>
        cond ((!v3))
          (some (.inr (.inr (false))))
          ((some (IntKind.i64.wrap (s9 + 1))).bind fun v5 =>
          some (.inl v5)))
        (some (.inr (.inl ())))) (fun i => p ((sbytes s).getD i 0)) s.size false (fuel := BIG) (by unfold BIG; omega)
    (fun i hi hp => cnd_t (decide_eq_true (by omega)) (bnd (chrD hi) (bnd (hg _ (getD_byte s hi)) (cnd_f (by simp only [hp]; rfl) (bnd (by rw [wrap_succ (by omega)]) rfl)))))
    (fun i hi hp => cnd_t (decide_eq_true (by omega)) (bnd (chrD hi) (bnd (hg _ (getD_byte s hi)) (cnd_t (by simp only [hp]; rfl) rfl))))
    (cnd_f (decide_eq_false (by omega)) rfl)
  rw [hl]
  have hiff := all_iff_get (sbytes s) p
  rw [sbytes_len] at hiff
  by_cases hall : ∀ i, i < s.size → p ((sbytes s).getD i 0) = true
  · rw [if_pos hall, hiff.2 hall]; rfl
  · rw [if_neg hall]
    cases hq : (sbytes s).all p
    · rfl
    · exact absurd (hiff.1 hq) hall
theorem isE (s : ByteArray) : (s.toList == (⟨#[]⟩ : ByteArray).toList) = (sbytes s).isEmpty := by
  rw [toList_beq, Bool.eq_iff_iff, decide_eq_true_eq, str_eq_iff]
  simp [sbytes]
theorem last_getD {l : List Int} (h : l ≠ []) : l.getLast? = some (l.getD (l.length - 1) 0) := by
  have : 0 < l.length := List.length_pos_iff.2 h
  rw [List.getLast?_eq_getElem?, List.getD_eq_getElem?_getD, List.getElem?_eq_getElem (by omega)]
  rfl
theorem head_getD {l : List Int} (h : l ≠ []) : l.head? = some (l.getD 0 0) := by
  cases l with
  | nil => exact absurd rfl h
  | cons x l => rfl
theorem label_eq (s : ByteArray) (hs : s.size < 4611686018427387904) : path_label s = some (labB (sbytes s)) := by
  unfold path_label labB
  rw [isE]
  cases he : (sbytes s).isEmpty
  · have hne : sbytes s ≠ [] := by intro e; rw [e] at he; cases he
    have hpos : 0 < s.size := by rw [← sbytes_len]; exact List.length_pos_iff.2 hne
    rw [last_getD hne, head_getD hne, sbytes_len]
    by_cases h1 : s.size ≤ 63
    · have d1 : decide ((s.size : Int) ≤ 63) = true := decide_eq_true (by omega)
      have c0 := chrD (s := s) (i := 0) hpos
      have c1 := chrD (s := s) (i := s.size - 1) (by omega)
      have e1 : ((s.size - 1 : Nat) : Int) = (s.size : Int) - 1 := by omega
      rw [e1] at c1
      by_cases h2 : (sbytes s).getD 0 0 = 45
      · refine bndL (s := false) (cnd_t rfl (cnd_t d1 (bnd c0 (cnd_f (by rw [h2]; rfl) rfl)))) ?_
        rw [h2]; simp
      · by_cases h3 : (sbytes s).getD (s.size - 1) 0 = 45
        · refine bndL (s := false) (cnd_t rfl (cnd_t d1 (bnd c0 (cnd_t (by simpa using h2) (bnd (wrap_i (by omega) (by omega)) (bnd c1 (cnd_f (by rw [h3]; rfl) rfl))))))) ?_
          rw [h3]; simp
        · refine bndL (s := (sbytes s).all lbB) (cnd_t rfl (cnd_t d1 (bnd c0 (cnd_t (by simpa using h2) (bnd (wrap_i (by omega) (by omega)) (bnd c1 (cnd_t (by simpa using h3) (bnd (all_loop s hs fun c hc => label1 hc) rfl)))))))) ?_
          have x2 : (some ((sbytes s).getD 0 0) != some 45) = true := by simpa using h2
          have x3 : (some ((sbytes s).getD (s.size - 1) 0) != some 45) = true := by simpa using h3
          rw [x2, x3, decide_eq_true h1]; rfl
    · refine bndL (s := false) (cnd_t rfl (cnd_f (decide_eq_false (by omega)) rfl)) ?_
      rw [decide_eq_false h1]; rfl
  · exact bndL (s := false) (cnd_f rfl rfl) rfl
theorem dotted_eq {f : ByteArray → Option Bool} {P : List Int → Bool} (s : ByteArray) (hs : s.size < 4611686018427387904) (hf : ∀ x, x.size ≤ s.size → f x = some (P (sbytes x))) :
    (strings_SplitSeq s (⟨#[46]⟩ : ByteArray)).bind (fun v1 =>
    bindS (S := (Unit)) (A := (Unit))
    (rangeS (S := (Unit)) (O := (Unit)) (fun Y st => Sh.strings_splitSeq_1 Y v1.1 v1.2.1 v1.2.2 st) (fun (x : ByteArray) (() : Unit) =>
      (f x).bind fun v2 =>
      cond ((!v2))
        (some (.inr ()))
        (some (.inl ())))
      ())
    (fun (() : Unit) =>
      some (true))
    (fun (() : Unit) =>
      some (false))) = some ((spl 46 (sbytes s)).all P) := by
  refine bnd (x := (⟨#[46]⟩, s, 0)) rfl ?_
  have hle : ∀ (c : Int) (l : List Int), ∀ p ∈ spl c l, p.length ≤ l.length := by
    intro c l
    induction l with
    | nil => intro p hp; simp [spl] at hp; simp [hp]
    | cons x l ih =>
      intro p hp
      unfold spl at hp
      split at hp
      · simp only [List.mem_cons] at hp
        rcases hp with rfl | hp
        · simp
        · have := ih p hp; simp; omega
      · split at hp
        · simp at hp; subst hp; simp
        · rename_i q qs e
          simp only [List.mem_cons] at hp
          rcases hp with rfl | hp
          · have := ih q (by rw [e]; simp); simp; omega
          · have := ih p (by rw [e]; simp [hp]); simp; omega
  have hby : ∀ (c : Int) (l : List Int), byt l → ∀ p ∈ spl c l, byt p := by
    intro c l
    induction l with
    | nil => intro _ p hp; simp [spl] at hp; subst hp; intro x hx; cases hx
    | cons x l ih =>
      intro hb p hp
      have hb' : byt l := fun y hy => hb y (by simp [hy])
      unfold spl at hp
      split at hp
      · simp only [List.mem_cons] at hp
        rcases hp with rfl | hp
        · intro x hx; cases hx
        · exact ih hb' p hp
      · split at hp
        · simp at hp; subst hp; intro y hy; simp at hy; subst hy; exact hb _ (by simp)
        · rename_i q qs e
          simp only [List.mem_cons] at hp
          rcases hp with rfl | hp
          · intro y hy
            simp only [List.mem_cons] at hy
            rcases hy with rfl | hy
            · exact hb _ (by simp)
            · exact ih hb' q (by rw [e]; simp) y hy
          · exact ih hb' p (by rw [e]; simp [hp])
  have hfol : ∀ l : List (List Int), (∀ p ∈ l, byt p ∧ p.length ≤ s.size) → folS (fun (x : ByteArray) (() : Unit) =>
      (f x).bind fun v2 =>
      cond ((!v2))
        (some (.inr ()))
        (some (.inl ()))) (l.map bstr) () = some (if l.all P then .inl () else .inr ()) := by
    intro l
    induction l with
    | nil => intro _; rfl
    | cons p l ih =>
      intro h
      have hp := h p (by simp)
      have e1 := hf (bstr p) (by rw [bstr_size]; exact hp.2)
      rw [sbytes_bstr hp.1] at e1
      rw [List.map_cons]
      unfold folS
      simp only [e1, Option.bind_some]
      cases hP : P p
      · simp [hP]
      · simp only [Bool.not_true, cond_false, List.all_cons, hP, Bool.true_and]
        exact ih fun q hq => h q (by simp [hq])
  have := split_range 46 (by omega) (fun (x : ByteArray) (() : Unit) =>
      (f x).bind fun v2 =>
      cond ((!v2))
        (some (.inr ()))
        (some (.inl ()))) s () hs _ (hfol (spl 46 (sbytes s)) fun p hp => ⟨hby _ _ (byt_sbytes s) p hp, by have := hle _ _ p hp; rwa [sbytes_len] at this⟩)
  change bindS (rangeS (fun Y st => strings_splitSeq_1 Y ⟨#[UInt8.ofNat 46]⟩ s 0 st) _ ()) _ _ = _
  rw [this]
  cases hq : (spl 46 (sbytes s)).all P
  · rfl
  · rfl
theorem dom_eq (s : ByteArray) (hs : s.size < 4611686018427387904) : path_Domain s = some (domB (sbytes s)) := by
  unfold path_Domain domB
  rw [sbytes_len]
  by_cases h : s.size ≤ 255
  · refine bndL (s := (spl 46 (sbytes s)).all labB) (cnd_t (decide_eq_true (by omega)) (bnd (x := (spl 46 (sbytes s)).all labB) ?_ rfl)) (by rw [decide_eq_true h]; rfl)
    exact dotted_eq s hs fun x hx => label_eq x (by omega)
  · exact bndL (s := false) (cnd_f (decide_eq_false (by omega)) rfl) (by rw [decide_eq_false h]; rfl)
theorem hasPrefix_eq (s p : ByteArray) : internal_stringslite_HasPrefix s p = some (decide (sbytes p <+: sbytes s)) := by
  unfold internal_stringslite_HasPrefix
  by_cases h : p.size ≤ s.size
  · have e := sub_of (s := s) (a := 0) (b := p.size) (by omega) h
    refine bndL (s := decide (sbytes p <+: sbytes s)) (cnd_t (decide_eq_true (by omega)) (bnd e ?_)) rfl
    congr 2
    rw [toList_beq]
    congr 1
    rw [str_eq_iff, sbytes_bstr (byt_take (byt_drop (byt_sbytes s) 0) _), List.prefix_iff_eq_take, sbytes_len]
    simp only [List.drop_zero, Nat.sub_zero, eq_iff_iff]
    exact eq_comm
  · refine bndL (s := false) (cnd_f (decide_eq_false (by omega)) rfl) ?_
    rw [decide_eq_false]
    intro hp
    have := hp.length_le
    rw [sbytes_len, sbytes_len] at this
    omega
theorem cut_eq {n : Nat} (hn : n < 256) (s : ByteArray) (hs : s.size < 4611686018427387904) : strings_Cut s ⟨#[UInt8.ofNat n]⟩ = some (match idx1 (n : Int) (sbytes s) with
    | some e => (bstr ((sbytes s).take e), bstr ((sbytes s).drop (e + 1)), true)
    | none => (s, (⟨#[]⟩ : ByteArray), false)) := by
  unfold strings_Cut internal_stringslite_Cut
  cases hi : idx1 (n : Int) (sbytes s) with
  | none =>
    refine bnd (x := (s, (⟨#[]⟩ : ByteArray), false)) (bnd (sIndex hn s) ?_) rfl
    rw [hi]
    exact cnd_f rfl rfl
  | some e =>
    obtain ⟨h1, _, _⟩ := idx1_some hi
    rw [sbytes_len] at h1
    have e1 : subO s 0 (e : Int) = some (bstr ((sbytes s).take e)) := by
      have := sub_of (s := s) (a := 0) (b := e) (by omega) (by omega)
      simpa using this
    have e2 : subO s ((e : Int) + 1) (s.size : Int) = some (bstr ((sbytes s).drop (e + 1))) := by
      have := sub_of (s := s) (a := e + 1) (b := s.size) (by omega) (by omega)
      rw [List.take_of_length_le (by simp [sbytes_len])] at this
      simpa using this
    have w2 : some (IntKind.i64.wrap ((e : Int) + ((⟨#[UInt8.ofNat n]⟩ : ByteArray).size : Int))) = some ((e : Int) + 1) := by
      show some (IntKind.i64.wrap ((e : Int) + 1)) = _
      rw [wrap_i (by omega) (by omega)]
    refine bnd (x := (bstr ((sbytes s).take e), bstr ((sbytes s).drop (e + 1)), true)) (bnd (sIndex hn s) ?_) rfl
    rw [hi]
    exact cnd_t (decide_eq_true (by show (0 : Int) ≤ (e : Int); omega)) (bnd e1 (bnd w2 (bnd e2 rfl)))
def e0 : ByteArray := ⟨#[]⟩
theorem pre1 (c : Int) (l : List Int) : [c] <+: l ↔ l.head? = some c := by
  cases l with
  | nil => simp
  | cons x l => simp [List.cons_prefix_cons, eq_comm]
def labE (l : List Int) : Bool := decide (1 ≤ l.length) && (decide (l.length ≤ 63) && (l.getD 0 0 != 45 && l.getD (l.length - 1) 0 != 45))
theorem labB_E (l : List Int) : labB l = (labE l && l.all lbB) := by
  unfold labB labE
  cases l with
  | nil => rfl
  | cons x r =>
    rw [last_getD (by simp), head_getD (by simp)]
    have : decide (1 ≤ (x :: r).length) = true := by simp
    rw [this]
    simp only [List.isEmpty_cons, Bool.not_false, Bool.true_and]
    have e1 : (some ((x :: r).getD 0 0) != some 45) = ((x :: r).getD 0 0 != 45) := by rw [Bool.eq_iff_iff]; simp
    have e2 : (some ((x :: r).getD ((x :: r).length - 1) 0) != some 45) = ((x :: r).getD ((x :: r).length - 1) 0 != 45) := by rw [Bool.eq_iff_iff]; simp
    rw [e1, e2]
    simp only [Bool.and_assoc]
def lowB (c : Int) : Int := if 65 ≤ c ∧ c ≤ 90 then c + 32 else c
def lowL (l : List Int) : List Int := l.map lowB
def lowS (s : ByteArray) : ByteArray := bstr (lowL (sbytes s))
theorem set_mid {A : Type} (f : A → A) (l : List A) (i : Nat) (h : i < l.length) : ((l.take i).map f ++ l.drop i).set i (f l[i]) = (l.take (i + 1)).map f ++ l.drop (i + 1) := by
  rw [List.set_append_right _ _ (by simp; omega)]
  have hl : ((l.take i).map f).length = i := by simp; omega
  rw [hl, Nat.sub_self, List.drop_eq_getElem_cons h, List.set_cons_zero, List.take_add_one, List.getElem?_eq_getElem h]
  simp only [Option.toList_some, List.map_append, List.map_cons, List.map_nil, List.append_assoc, List.cons_append, List.nil_append]
theorem get_mid {A : Type} (f : A → A) (l : List A) (i : Nat) (h : i < l.length) : getO ((l.take i).map f ++ l.drop i) i = some l[i] := by
  unfold getO
  rw [List.getElem?_append_right (by simp; omega)]
  have hl : ((l.take i).map f).length = i := by simp; omega
  rw [hl, Nat.sub_self, List.drop_eq_getElem_cons h]
  rfl
theorem fold_eq (s : ByteArray) (hs : s.size < 4611686018427387904) : path_Fold s = some (lowS s) := by
  unfold path_Fold
  refine bnd rfl ?_
  have hlen : (sbytes s).length = s.size := sbytes_len s
  refine bndL (s := lowL (sbytes s)) ?_ rfl
  refine loop_from (fun i => (((sbytes s).take i).map lowB ++ (sbytes s).drop i, (i : Int))) s.size BIG (by simp) (by unfold BIG; omega) (fun i hi => ?_) ?_
  · have hi' : i < (sbytes s).length := by omega
    have hb := byt_sbytes s _ (List.getElem_mem hi')
    have hll : (((sbytes s).take i).map lowB ++ (sbytes s).drop i).length = (sbytes s).length := by simp; omega
    have gt := get_mid lowB (sbytes s) i hi'
    have st := set_mid lowB (sbytes s) i hi'
    have ix : ixO (i : Int) (((sbytes s).take i).map lowB ++ (sbytes s).drop i).length = some i := ixO_of (by omega)
    have w : some (IntKind.i64.wrap ((i : Int) + 1)) = some ((i + 1 : Nat) : Int) := by rw [wrap_succ (by omega)]
    refine cnd_t (decide_eq_true (by omega)) ?_
    by_cases h1 : 65 ≤ (sbytes s)[i] ∧ (sbytes s)[i] ≤ 90
    · have e : lowB (sbytes s)[i] = (sbytes s)[i] + 32 := by unfold lowB; rw [if_pos h1]
      rw [e] at st
      refine bndL (s := ((sbytes s).take (i + 1)).map lowB ++ (sbytes s).drop (i + 1)) (bnd ix (bnd gt (bndL (s := true) (cnd_t (decide_eq_true h1.1) (by rw [decide_eq_true h1.2])) (cnd_t rfl (bnd (by rw [u8_wrap (by omega) (by omega)]) (bnd ix (bnd (by rw [st]) rfl))))))) (bnd w rfl)
    · have e : lowB (sbytes s)[i] = (sbytes s)[i] := by unfold lowB; rw [if_neg h1]
      have st2 : ((sbytes s).take i).map lowB ++ (sbytes s).drop i = ((sbytes s).take (i + 1)).map lowB ++ (sbytes s).drop (i + 1) := by
        rw [List.take_add_one, List.getElem?_eq_getElem hi', List.drop_eq_getElem_cons hi']
        simp only [Option.toList_some, List.map_append, List.map_cons, List.map_nil, List.append_assoc, List.cons_append, List.nil_append, e]
      refine bndL (s := ((sbytes s).take (i + 1)).map lowB ++ (sbytes s).drop (i + 1)) (bnd ix (bnd gt (bndL (s := false) ?_ (cnd_f rfl (by rw [st2]))))) (bnd w rfl)
      by_cases h2 : 65 ≤ (sbytes s)[i]
      · exact cnd_t (decide_eq_true h2) (by rw [decide_eq_false fun h3 => h1 ⟨h2, h3⟩])
      · exact cnd_f (decide_eq_false h2) rfl
  · refine cnd_f (decide_eq_false (by omega)) ?_
    rw [← hlen]
    simp [lowL]
theorem sb_no {c : Int} {P : Int → Bool} (hP : P c = false) {l : List Int} (h : l.all P = true) : c ∉ l := by
  intro hm
  have := List.all_eq_true.1 h c hm
  rw [hP] at this
  cases this
theorem spl_all {P : List Int → Bool} {c : Int} (Q : Int → Bool) (hQ : Q c = true) (hPQ : ∀ l, P l = true → l.all Q = true) : ∀ l, (spl c l).all P = true → l.all Q = true
  | [], _ => rfl
  | x :: r, h => by
    have hne := spl_ne c r
    unfold spl at h
    by_cases hx : x = c
    · rw [if_pos hx] at h
      simp only [List.all_cons, Bool.and_eq_true] at h
      rw [List.all_cons, hx, hQ, spl_all Q hQ hPQ r h.2]; rfl
    · rw [if_neg hx] at h
      cases hs : spl c r with
      | nil => exact absurd hs hne
      | cons a ps =>
        rw [hs] at h
        simp only [List.all_cons, Bool.and_eq_true] at h
        have h1 := hPQ _ h.1
        simp only [List.all_cons, Bool.and_eq_true] at h1
        have key : ∀ (r : List Int) (a : List Int) (ps : List (List Int)), spl c r = a :: ps → a.all Q = true → ps.all P = true → r.all Q = true := by
          intro r
          induction r with
          | nil => intros; rfl
          | cons y r ih =>
            intro a ps e ha hps
            unfold spl at e
            by_cases hy : y = c
            · rw [if_pos hy] at e
              cases e
              cases hs2 : spl c r with
              | nil => exact absurd hs2 (spl_ne c r)
              | cons b qs =>
                rw [hs2] at hps
                simp only [List.all_cons, Bool.and_eq_true] at hps
                rw [List.all_cons, hy, hQ, ih b qs hs2 (hPQ _ hps.1) hps.2]; rfl
            · rw [if_neg hy] at e
              cases hs2 : spl c r with
              | nil => exact absurd hs2 (spl_ne c r)
              | cons b qs =>
                rw [hs2] at e
                cases e
                simp only [List.all_cons, Bool.and_eq_true] at ha
                rw [List.all_cons, ha.1, ih b ps hs2 ha.2 hps]; rfl
        rw [List.all_cons, h1.1, key r a ps hs h1.2 h.2]; rfl
def lbD (c : Int) : Bool := lbB c || c == 46
theorem dom_all {l : List Int} (h : domB l = true) : l.all lbD = true := by
  unfold domB at h
  rw [Bool.and_eq_true] at h
  refine spl_all lbD (by decide) (fun p hp => ?_) l h.2
  rw [labB_E, Bool.and_eq_true] at hp
  rw [List.all_eq_true] at *
  intro x hx
  unfold lbD
  rw [hp.2 x hx]; rfl
theorem dom_no {c : Int} (hc : lbD c = false) {l : List Int} (h : domB l = true) : c ∉ l := sb_no hc (dom_all h)
end Go.Abs.Sh
