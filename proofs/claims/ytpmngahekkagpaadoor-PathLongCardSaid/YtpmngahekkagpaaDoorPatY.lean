import Derived.Test.YtpmngahekkagpaaDoorPatX
namespace Go.Abs.Sh
set_option linter.unusedVariables false
set_option linter.unusedSimpArgs false

/-- A byte with a letter the other way. -/
def fl32 (c : Int) : Int := bits .xor .u8 c 32
def flB (f : Bool) (c : Int) : Int := if f = true ∧ letB c = true then fl32 c else c
def relB (x y : Int) : Bool := (0 ≤ x ∧ x < 256 : Bool) && (lowB x == lowB y && (lbB x == lbB y && (atB x == atB y && ((x == 46) == (y == 46) && (x == 45) == (y == 45)))))
theorem fl32_all : (List.range 256).all (fun k => !letB ((k : Nat) : Int) || relB (fl32 ((k : Nat) : Int)) ((k : Nat) : Int)) = true := by kernel_rfl
theorem relB_self {c : Int} (hc : 0 ≤ c ∧ c < 256) : relB c c = true := by
  unfold relB
  simp [hc.1, hc.2]
theorem flB_rel (f : Bool) {c : Int} (hc : 0 ≤ c ∧ c < 256) : relB (flB f c) c = true := by
  unfold flB
  split
  · rename_i h
    have := of_byte (fun c => !letB c || relB (fl32 c) c) fl32_all hc
    simpa [h.2] using this
  · exact relB_self hc
def relL : List Int → List Int → Prop
  | [], [] => True
  | x :: a, y :: b => relB x y = true ∧ relL a b
  | _, _ => False
def relLL : List (List Int) → List (List Int) → Prop
  | [], [] => True
  | x :: a, y :: b => relL x y ∧ relLL a b
  | _, _ => False
theorem relL_len : ∀ {a b : List Int}, relL a b → a.length = b.length
  | [], [], _ => rfl
  | x :: a, y :: b, h => by simp [relL_len h.2]
  | [], _ :: _, h => h.elim
  | _ :: _, [], h => h.elim
theorem relB_parts {x y : Int} (h : relB x y = true) : (0 ≤ x ∧ x < 256) ∧ lowB x = lowB y ∧ lbB x = lbB y ∧ atB x = atB y ∧ (x = 46 ↔ y = 46) ∧ (x = 45 ↔ y = 45) := by
  unfold relB at h
  simp only [Bool.and_eq_true, decide_eq_true_eq, beq_iff_eq] at h
  obtain ⟨h1, h2, h3, h4, h5, h6⟩ := h
  refine ⟨h1, h2, h3, h4, ?_, ?_⟩
  · rw [Bool.eq_iff_iff] at h5; simpa using h5
  · rw [Bool.eq_iff_iff] at h6; simpa using h6
theorem relL_spl : ∀ {a b : List Int}, relL a b → relLL (spl 46 a) (spl 46 b)
  | [], [], _ => ⟨trivial, trivial⟩
  | x :: a, y :: b, h => by
    have ih := relL_spl h.2
    have hx := (relB_parts h.1).2.2.2.2.1
    unfold spl
    by_cases h46 : x = 46
    · rw [if_pos h46, if_pos (hx.1 h46)]
      exact ⟨trivial, ih⟩
    · rw [if_neg h46, if_neg fun e => h46 (hx.2 e)]
      cases hs : spl 46 a with
      | nil => exact absurd hs (spl_ne 46 a)
      | cons p ps =>
        cases ht : spl 46 b with
        | nil => exact absurd ht (spl_ne 46 b)
        | cons q qs =>
          rw [hs, ht] at ih
          exact ⟨⟨h.1, ih.1⟩, ih.2⟩
  | [], _ :: _, h => h.elim
  | _ :: _, [], h => h.elim
theorem relL_all (P : Int → Bool) (hP : ∀ x y, relB x y = true → P x = P y) : ∀ {a b : List Int}, relL a b → a.all P = b.all P
  | [], [], _ => rfl
  | x :: a, y :: b, h => by rw [List.all_cons, List.all_cons, hP x y h.1, relL_all P hP h.2]
  | [], _ :: _, h => h.elim
  | _ :: _, [], h => h.elim
theorem relL_get : ∀ {a b : List Int}, relL a b → ∀ i, i < a.length → relB (a.getD i 0) (b.getD i 0) = true
  | [], [], _, i, hi => by simp at hi
  | x :: a, y :: b, h, 0, _ => h.1
  | x :: a, y :: b, h, i + 1, hi => by simpa using relL_get h.2 i (by simpa using hi)
  | [], _ :: _, h, _, _ => h.elim
  | _ :: _, [], h, _, _ => h.elim
theorem relL_lab {a b : List Int} (h : relL a b) : labB a = labB b := by
  rw [labB_E, labB_E, relL_all lbB (fun x y h => (relB_parts h).2.2.1) h]
  congr 1
  unfold labE
  rw [← relL_len h]
  by_cases h1 : 1 ≤ a.length
  · have r0 := (relB_parts (relL_get h 0 (by omega))).2.2.2.2.2
    have r1 := (relB_parts (relL_get h (a.length - 1) (by omega))).2.2.2.2.2
    have e0 : (a.getD 0 0 != 45) = (b.getD 0 0 != 45) := by rw [Bool.eq_iff_iff, bne_iff_ne, bne_iff_ne]; exact not_congr r0
    have e1 : (a.getD (a.length - 1) 0 != 45) = (b.getD (a.length - 1) 0 != 45) := by rw [Bool.eq_iff_iff, bne_iff_ne, bne_iff_ne]; exact not_congr r1
    rw [e0, e1]
  · rw [decide_eq_false h1]; rfl
theorem relL_atm {a b : List Int} (h : relL a b) : atmB a = atmB b := by
  unfold atmB
  rw [relL_all atB (fun x y h => (relB_parts h).2.2.2.1) h]
  congr 2
  have := relL_len h
  cases a <;> cases b <;> simp_all
theorem relLL_all (P : List Int → Bool) (hP : ∀ x y, relL x y → P x = P y) : ∀ {a b : List (List Int)}, relLL a b → a.all P = b.all P
  | [], [], _ => rfl
  | x :: a, y :: b, h => by rw [List.all_cons, List.all_cons, hP x y h.1, relLL_all P hP h.2]
  | [], _ :: _, h => h.elim
  | _ :: _, [], h => h.elim
theorem relL_dom {a b : List Int} (h : relL a b) : domB a = domB b := by
  unfold domB
  rw [relL_len h, relLL_all labB (fun x y h => relL_lab h) (relL_spl h)]
theorem relL_loc {a b : List Int} (h : relL a b) : locB a = locB b := by
  unfold locB
  rw [relL_len h, relLL_all atmB (fun x y h => relL_atm h) (relL_spl h)]
theorem relL_low : ∀ {a b : List Int}, relL a b → lowL a = lowL b
  | [], [], _ => rfl
  | x :: a, y :: b, h => by
    have := relL_low h.2
    unfold lowL at *
    rw [List.map_cons, List.map_cons, (relB_parts h.1).2.1, this]
  | [], _ :: _, h => h.elim
  | _ :: _, [], h => h.elim
theorem relL_byt : ∀ {a b : List Int}, relL a b → byt a
  | [], [], _ => byt_nil
  | x :: a, y :: b, h => byt_cons (relB_parts h.1).1 (relL_byt h.2)
  | [], _ :: _, h => h.elim
  | _ :: _, [], h => h.elim

def flF (fs : List Bool) (i : Nat) (c : Int) : Int := flB (fs.getD i false) c
theorem rel_map : ∀ (l : List Int) (F : Nat → Int → Int), (∀ i x, x ∈ l → relB (F i x) x = true) → relL (l.mapIdx F) l
  | [], F, _ => trivial
  | x :: l, F, h => by
    rw [List.mapIdx_cons]
    exact ⟨h 0 x (by simp), rel_map l _ fun i y hy => h (i + 1) y (by simp [hy])⟩
theorem set_midI (F : Nat → Int → Int) (l : List Int) (i : Nat) (h : i < l.length) : ((l.take i).mapIdx F ++ l.drop i).set i (F i l[i]) = (l.take (i + 1)).mapIdx F ++ l.drop (i + 1) := by
  have hl : ((l.take i).mapIdx F).length = i := by simp; omega
  rw [List.set_append_right _ _ (by omega)]
  rw [hl, Nat.sub_self, List.drop_eq_getElem_cons h, List.set_cons_zero, List.take_add_one, List.getElem?_eq_getElem h]
  simp only [Option.toList_some, List.mapIdx_append, List.mapIdx_cons, List.mapIdx_nil, List.append_assoc, List.cons_append, List.nil_append, Nat.zero_add]
  rw [show (l.take i).length = i by simp; omega]
theorem get_midI (F : Nat → Int → Int) (l : List Int) (i : Nat) (h : i < l.length) : getO ((l.take i).mapIdx F ++ l.drop i) i = some l[i] := by
  have hl : ((l.take i).mapIdx F).length = i := by simp; omega
  unfold getO
  rw [List.getElem?_append_right (by omega)]
  rw [hl, Nat.sub_self, List.drop_eq_getElem_cons h]
  rfl
def flS (s : ByteArray) (fs : List Bool) : ByteArray := bstr ((sbytes s).mapIdx (flF fs))
theorem flS_rel (s : ByteArray) (fs : List Bool) : relL (sbytes (flS s fs)) (sbytes s) := by
  have h : relL ((sbytes s).mapIdx (flF fs)) (sbytes s) := rel_map _ _ fun i x hx => flB_rel _ (byt_sbytes s x hx)
  unfold flS
  rw [sbytes_bstr (relL_byt h)]
  exact h
theorem let_cond {R : Type} (c : Int) (g1 g2 g3 : Option (Bool ⊕ R)) (h1 : g1 = some (.inl (decide (c ≤ 90)))) :
    cond (decide (97 ≤ c)) (cond (decide (c ≤ 122)) (some (.inl true)) (cond (decide (65 ≤ c)) g1 (some (.inl false)))) (cond (decide (65 ≤ c)) g1 (some (.inl false))) = some (.inl (letB c)) := by
  subst h1
  unfold letB
  cases decide (97 ≤ c) <;> cases decide (c ≤ 122) <;> cases decide (65 ≤ c) <;> rfl

theorem flip_eq (s : ByteArray) (fs : List Bool) (hs : s.size < 140737488355328) (hf : fs.length < 4611686018427387904) : wherrylaw11_flip s fs = some (flS s fs) := by
  unfold wherrylaw11_flip
  refine bnd rfl ?_
  have hlen : (sbytes s).length = s.size := sbytes_len s
  refine bndL (s := (sbytes s).mapIdx (flF fs)) ?_ rfl
  refine loop_from (fun i => (((sbytes s).take i).mapIdx (flF fs) ++ (sbytes s).drop i, (i : Int))) s.size BIG (by simp) (by unfold BIG; omega) (fun i hi => ?_) ?_
  · have hi' : i < (sbytes s).length := by omega
    have hb := byt_sbytes s _ (List.getElem_mem hi')
    have hll : (((sbytes s).take i).mapIdx (flF fs) ++ (sbytes s).drop i).length = (sbytes s).length := by simp; omega
    have gt := get_midI (flF fs) (sbytes s) i hi'
    have st := set_midI (flF fs) (sbytes s) i hi'
    have ix : ixO (i : Int) (((sbytes s).take i).mapIdx (flF fs) ++ (sbytes s).drop i).length = some i := ixO_of (by omega)
    have w : some (IntKind.i64.wrap ((i : Int) + 1)) = some ((i + 1 : Nat) : Int) := by rw [wrap_succ (by omega)]
    have same : flF fs i (sbytes s)[i] = (sbytes s)[i] → ((sbytes s).take i).mapIdx (flF fs) ++ (sbytes s).drop i = ((sbytes s).take (i + 1)).mapIdx (flF fs) ++ (sbytes s).drop (i + 1) := by
      intro e
      rw [← st, e]
      rw [List.set_append_right _ _ (by simp; omega), show i - (((sbytes s).take i).mapIdx (flF fs)).length = 0 by simp; omega, List.drop_eq_getElem_cons hi', List.set_cons_zero]
    refine cnd_t (decide_eq_true (by simp only [hll]; omega)) ?_
    have fin : ∀ b : Bool, b = (fs.getD i false && letB (sbytes s)[i]) → (bindS (S := Bool) (A := (((List Int)) ⊕ (((List Int) × Int) ⊕ (((List Int)) ⊕ ByteArray)))) (some (.inl b)) (fun (s88 : Bool) =>
              cond (s88)
                ((ixO (i : Int) (((sbytes s).take i).mapIdx (flF fs) ++ (sbytes s).drop i).length).bind fun v22 =>
                (getO (((sbytes s).take i).mapIdx (flF fs) ++ (sbytes s).drop i) v22).bind fun v23 =>
                (some (bits .xor .u8 v23 32)).bind fun v24 =>
                (ixO (i : Int) (((sbytes s).take i).mapIdx (flF fs) ++ (sbytes s).drop i).length).bind fun v25 =>
                (some ((((sbytes s).take i).mapIdx (flF fs) ++ (sbytes s).drop i).set v25 v24)).bind fun v26 =>
                some (.inl v26))
                (some (.inl (((sbytes s).take i).mapIdx (flF fs) ++ (sbytes s).drop i)))) some : Option ((List Int) ⊕ (((List Int) × Int) ⊕ (((List Int)) ⊕ ByteArray)))) = some (.inl (((sbytes s).take (i + 1)).mapIdx (flF fs) ++ (sbytes s).drop (i + 1))) := by
      intro b hb
      cases b
      · have e : flF fs i (sbytes s)[i] = (sbytes s)[i] := by
          unfold flF flB
          rw [if_neg]
          rintro ⟨h1, h2⟩
          rw [h1, h2] at hb; cases hb
        rw [← same e]; rfl
      · have e : flF fs i (sbytes s)[i] = fl32 (sbytes s)[i] := by
          unfold flF flB
          rw [if_pos]
          exact ⟨by cases h : fs.getD i false <;> simp_all, by cases h : letB (sbytes s)[i] <;> simp_all⟩
        rw [e] at st
        exact bndL (s := true) rfl (cnd_t rfl (bnd ix (bnd gt (bnd rfl (bnd ix (bnd (by rw [show bits BinOp.xor IntKind.u8 (sbytes s)[i] 32 = fl32 (sbytes s)[i] from rfl, st]) rfl))))))
    refine bndL (s := ((sbytes s).take (i + 1)).mapIdx (flF fs) ++ (sbytes s).drop (i + 1)) ?_ (bnd w rfl)
    refine Eq.trans ?_ (fin _ rfl)
    congr 1
    by_cases hfi : i < fs.length
    · have gf : getO fs i = some (fs.getD i false) := by rw [getO_of hfi, List.getD_eq_getElem?_getD, List.getElem?_eq_getElem hfi]; rfl
      refine cnd_t (decide_eq_true (by omega)) (bnd (ixO_of hfi) (bnd gf ?_))
      cases fs.getD i false
      · rfl
      · refine cnd_t rfl (bnd ix (bnd gt ?_))
        rw [Bool.true_and, ← let_cond (R := (((List Int)) ⊕ (((List Int) × Int) ⊕ (((List Int)) ⊕ ByteArray)))) (sbytes s)[i] (some (.inl (decide ((sbytes s)[i] ≤ 90)))) none none rfl]
        have inner : ((ixO (i : Int) (((sbytes s).take i).mapIdx (flF fs) ++ (sbytes s).drop i).length).bind fun v13 =>
                  (getO (((sbytes s).take i).mapIdx (flF fs) ++ (sbytes s).drop i) v13).bind fun v14 =>
                  cond ((decide (65 ≤ v14)))
                    ((ixO (i : Int) (((sbytes s).take i).mapIdx (flF fs) ++ (sbytes s).drop i).length).bind fun v15 =>
                    (getO (((sbytes s).take i).mapIdx (flF fs) ++ (sbytes s).drop i) v15).bind fun v16 =>
                    some (Sum.inl (β := (((List Int)) ⊕ (((List Int) × Int) ⊕ (((List Int)) ⊕ ByteArray)))) ((decide (v16 ≤ 90)))))
                    (some (.inl false))) = cond (decide (65 ≤ (sbytes s)[i])) (some (.inl (decide ((sbytes s)[i] ≤ 90)))) (some (.inl false)) := by
          refine bnd ix (bnd gt ?_)
          cases decide (65 ≤ (sbytes s)[i])
          · rfl
          · exact cnd_t rfl (bnd ix (bnd gt rfl))
        cases decide (97 ≤ (sbytes s)[i])
        · exact inner
        · refine cnd_t rfl (bnd ix (bnd gt ?_))
          cases decide ((sbytes s)[i] ≤ 122)
          · exact inner
          · rfl
    · refine cnd_f (decide_eq_false (by omega)) ?_
      rw [List.getD_eq_getElem?_getD, List.getElem?_eq_none (by omega)]; rfl
  · refine cnd_f (decide_eq_false (by simp; omega)) ?_
    rw [List.take_of_length_le (by omega), List.drop_eq_nil_of_le (by omega), List.append_nil]

theorem lowB_low (c : Int) : lowB (lowB c) = lowB c := by unfold lowB; split <;> (try split) <;> omega
theorem lowS_low (s : ByteArray) : lowS (lowS s) = lowS s := by
  apply sbytes_inj
  rw [sbytes_low, sbytes_low]
  unfold lowL
  rw [List.map_map]
  exact List.map_congr_left fun x _ => lowB_low x
theorem relS_low {s t : ByteArray} (h : relL (sbytes s) (sbytes t)) : lowS s = lowS t := by
  unfold lowS; rw [relL_low h]
theorem relS_size {s t : ByteArray} (h : relL (sbytes s) (sbytes t)) : s.size = t.size := by rw [size_sb, size_sb, relL_len h]

theorem pathFolds_true (p : T_Path) (fs : List Bool) (hp : T_Path.wz p) (hf : wzL 1 (fun _ => True) fs) : wherrylaw11_PathFolds p fs = some true := by
  have l1 := reach47 hp.2.1; have l2 := reach47 hp.2.2
  have lf : fs.length ≤ 140737488351232 := by have := hf.1; simp only [reachBytes] at this; omega
  unfold wherrylaw11_PathFolds
  by_cases hbig : 1000 < (p.Local.size : Int) + (p.Domain.size : Int)
  · exact bndL (s := true) (bnd (wrap_i (by omega) (by omega)) (cnd_t (decide_eq_true hbig) rfl)) rfl
  have hw : some (IntKind.i64.wrap ((p.Local.size : Int) + (p.Domain.size : Int))) = some ((p.Local.size : Int) + (p.Domain.size : Int)) := wrap_i (by omega) (by omega)
  cases hpb : patB p
  · exact bndL (s := true) (bnd hw (cnd_f (decide_eq_false hbig) (bnd (rpath_eq p) (by rw [hpb]; rfl)))) rfl
  have hrp := rpath_eq p
  rw [hpb] at hrp
  cases hn : p.Null
  case true => exact bndL (s := true) (bnd hw (cnd_f (decide_eq_false hbig) (bnd hrp (cnd_f rfl rfl)))) rfl
  refine bndL (s := false) (bnd hw (cnd_f (decide_eq_false hbig) (bnd hrp (cnd_f rfl rfl)))) (cnd_f rfl ?_)
  have rd := flS_rel p.Domain fs
  have rl := flS_rel p.Local fs
  have sd := relS_size rd
  have sl := relS_size rl
  have wd := relS_low rd
  obtain ⟨d, hd⟩ : ∃ d, d = flS p.Domain fs := ⟨_, rfl⟩
  obtain ⟨l, hl⟩ : ∃ l, l = flS p.Local fs := ⟨_, rfl⟩
  have fd := flip_eq p.Domain fs (by omega) (by omega)
  have fl := flip_eq p.Local fs (by omega) (by omega)
  rw [← hd] at rd sd wd fd
  rw [← hl] at rl sl fl
  have hpb2 := hpb
  unfold patB at hpb2
  rw [hn] at hpb2
  simp only [cond_false, Bool.and_eq_true] at hpb2
  have pq : patB ⟨false, p.Local, d⟩ = true := by
    unfold patB; simp only [cond_false]; rw [relL_dom rd, hpb2.1, hpb2.2]; rfl
  have pr : patB ⟨false, l, p.Domain⟩ = true := by
    unfold patB; simp only [cond_false]; rw [relL_loc rl, hpb2.1, hpb2.2]; rfl
  have sp : Small p := ⟨by omega, by omega⟩
  have sq : Small ⟨false, p.Local, d⟩ := ⟨by show p.Local.size < _; omega, by show d.size < _; omega⟩
  have sr : Small ⟨false, l, p.Domain⟩ := ⟨by show l.size < _; omega, by show p.Domain.size < _; omega⟩
  have s1 : samB p ⟨false, p.Local, d⟩ = true := by
    unfold samB; rw [hpb, pq, hn, wd]; simp
  have s2 : samB ⟨false, p.Local, d⟩ p = true := by
    unfold samB; rw [hpb, pq, hn, wd]; simp
  have s3 : samB p ⟨false, l, p.Domain⟩ = decide (p.Local = l) := by
    unfold samB; rw [hpb, pr, hn]; simp
  have a1 : atpB p d = true := by unfold atpB; rw [hpb, hn, wd]; simp
  have e1 := same_eq p _ sp sq
  have e2 := same_eq _ p sq sp
  have e3 := same_eq p _ sp sr
  have e4 := at_eq p d sp (by omega)
  rw [s1] at e1
  rw [s2] at e2
  rw [s3] at e3
  rw [a1] at e4
  have f1 := fold_eq d (by omega)
  have f2 := fold_eq (lowS d) (by rw [low_size]; omega)
  have f3 := fold_eq p.Domain (by omega)
  have dd := dom_eq d (by omega)
  rw [relL_dom rd, hpb2.2] at dd
  have he : (decide (p.Local = l) == (l.toList == p.Local.toList)) = true := by
    rw [toList_beq, beq_iff_eq]
    by_cases h : p.Local = l
    · rw [decide_eq_true h, decide_eq_true h.symm]
    · rw [decide_eq_false h, decide_eq_false fun e => h e.symm]
  refine bnd fd (bnd fl (bnd f1 (bndL (s := true) (bnd e1 (cnd_t rfl (bnd e2 (cnd_t rfl (bnd e3 (bnd rfl (cnd_t he (bnd e4 (cnd_t rfl (bnd f2 (cnd_t ?_ (bnd f3 (cnd_t ?_ (bnd dd (cnd_t rfl (bnd wakes11 rfl)))))))))))))))) rfl)))
  · rw [lowS_low, toList_beq]; exact decide_eq_true rfl
  · rw [wd, toList_beq]; exact decide_eq_true rfl

theorem spl_join (c : Int) : ∀ (l r : List Int), spl c (l ++ c :: r) = spl c l ++ spl c r
  | [], r => by simp [spl]
  | x :: l, r => by
    rw [List.cons_append]
    conv => lhs; unfold spl
    conv => rhs; arg 1; unfold spl
    rw [spl_join c l r]
    by_cases h : x = c
    · rw [if_pos h, if_pos h, List.cons_append]
    · rw [if_neg h, if_neg h]
      cases hs : spl c l with
      | nil => exact absurd hs (spl_ne c l)
      | cons p ps => rfl
theorem spl_snoc {c x : Int} (hx : x ≠ c) : ∀ l, ∃ qs q, spl c l = qs ++ [q] ∧ spl c (l ++ [x]) = qs ++ [q ++ [x]]
  | [] => ⟨[], [], rfl, by simp [spl, hx]⟩
  | y :: l => by
    obtain ⟨qs, q, h1, h2⟩ := spl_snoc hx l
    rw [List.cons_append]
    unfold spl
    rw [h1, h2]
    by_cases h : y = c
    · rw [if_pos h, if_pos h]
      exact ⟨[] :: qs, q, rfl, rfl⟩
    · rw [if_neg h, if_neg h]
      cases qs with
      | nil => exact ⟨[], y :: q, rfl, rfl⟩
      | cons p ps => exact ⟨(y :: p) :: ps, q, rfl, rfl⟩
theorem dom_join (a b : List Int) (ha : domB a = true) (hb : domB b = true) : domB (a ++ 46 :: b) = decide (a.length + b.length < 255) := by
  have h1 := ha
  have h2 := hb
  unfold domB at ha hb ⊢
  rw [Bool.and_eq_true] at ha hb
  rw [spl_join, List.all_append, ha.2, hb.2]
  simp only [Bool.and_true, List.length_append, List.length_cons, Bool.and_self]
  by_cases h : a.length + b.length < 255
  · rw [decide_eq_true h, decide_eq_true (by omega)]
  · rw [decide_eq_false h, decide_eq_false (by omega)]
theorem dom_dots (a b : List Int) : domB (a ++ 46 :: 46 :: b) = false := by
  unfold domB
  rw [spl_join, List.all_append]
  simp [spl, labB]
theorem dom_dot_end (a : List Int) : domB (a ++ [46]) = false := by
  unfold domB
  rw [spl_join, List.all_append]
  simp [spl, labB]
theorem dom_dot_front (a : List Int) : domB (46 :: a) = false := by
  unfold domB
  simp [spl, labB]
theorem dom_hyph_front (a : List Int) : domB (45 :: a) = false := by
  unfold domB
  have : (spl 46 (45 :: a)).all labB = false := by
    unfold spl
    rw [if_neg (by decide)]
    cases hs : spl 46 a with
    | nil => rfl
    | cons p ps => simp [labB]
  rw [this, Bool.and_false]
theorem dom_hyph_end (a : List Int) : domB (a ++ [45]) = false := by
  unfold domB
  obtain ⟨qs, q, h1, h2⟩ := spl_snoc (c := 46) (x := 45) (by decide) a
  rw [h2, List.all_append]
  simp [labB]

theorem u8_of {c : Int} (h : wfI .u8 c) : 0 ≤ c ∧ c < 256 := by
  simp only [wfI, Lit.wf, IntKind.min, IntKind.max, IntKind.signed, IntKind.bits] at h
  have h2 : 0 ≤ c ∧ c ≤ 255 := by simpa using h
  omega
def sgB (c : Int) : Bool := decide (97 ≤ c) && decide (c ≤ 122) || (decide (65 ≤ c) && decide (c ≤ 90) || (decide (48 ≤ c) && decide (c ≤ 57) || (c == 45 || c == 46)))
theorem sg_all : (List.range 256).all (fun k => sgB ((k : Nat) : Int) == lbD ((k : Nat) : Int)) = true := by kernel_rfl
theorem domC {s : ByteArray} {l : List Int} (hs : sbytes s = l) (hl : l.length ≤ 5000) : path_Domain s = some (domB l) := by
  subst hs
  rw [sbytes_len] at hl
  exact dom_eq s (by omega)

theorem pathDomains_true (a b : ByteArray) (c : Int) (ha : wzS a) (hb : wzS b) (hc : wfI .u8 c) : wherrylaw11_PathDomains a b c = some true := by
  have l1 := reach47 ha; have l2 := reach47 hb
  have hc := u8_of hc
  unfold wherrylaw11_PathDomains
  have hw : some (IntKind.i64.wrap ((a.size : Int) + (b.size : Int))) = some ((a.size : Int) + (b.size : Int)) := wrap_i (by omega) (by omega)
  refine bnd hw ?_
  by_cases hbig : 1000 < (a.size : Int) + (b.size : Int)
  · exact cnd_t (decide_eq_true hbig) rfl
  refine cnd_f (decide_eq_false hbig) ?_
  have da := dom_eq a (by omega)
  have db := dom_eq b (by omega)
  have d0 : path_Domain (⟨#[]⟩ : ByteArray) = some false := dom_eq e0 (by decide)
  cases ea : domB (sbytes a)
  · rw [ea] at da
    exact bndL (s := true) (bnd da rfl) (cnd_t rfl (bndL (s := true) (bnd d0 (cnd_t rfl (bnd wakes11 rfl))) rfl))
  rw [ea] at da
  cases eb : domB (sbytes b)
  · rw [eb] at db
    exact bndL (s := true) (bnd da (cnd_f rfl (bnd db rfl))) (cnd_t rfl (bndL (s := true) (bnd d0 (cnd_t rfl (bnd wakes11 rfl))) rfl))
  rw [eb] at db
  have b46 : byt [46] := byt_cons (by omega) byt_nil
  have b45 : byt [45] := byt_cons (by omega) byt_nil
  have bc : byt [c] := byt_cons hc byt_nil
  have b4646 : byt [46, 46] := byt_cons (by omega) b46
  have ba := byt_sbytes a
  have bb := byt_sbytes b
  have la := sbytes_len a
  have lb := sbytes_len b
  refine bndL (s := false) (bnd da (cnd_f rfl (bnd db rfl))) (cnd_f rfl (bndL (s := sgB c) ?_ ?_))
  · unfold sgB
    cases decide (97 ≤ c) <;> cases decide (c ≤ 122) <;> cases decide (65 ≤ c) <;> cases decide (c ≤ 90) <;> cases decide (48 ≤ c) <;> cases decide (c ≤ 57) <;> cases (c == 45) <;> rfl
  have c1 := catL (s := a) (t := ⟨#[46]⟩) rfl (show sbytes ⟨#[46]⟩ = [46] from rfl) (by simp; omega)
  have c2 := catL (s := bstr (sbytes a ++ [46])) (t := b) (sbytes_bstr (byt_app ba b46)) rfl (by simp; omega)
  have c3 := catL (s := a) (t := ⟨#[46, 46]⟩) rfl (show sbytes ⟨#[46, 46]⟩ = [46, 46] from rfl) (by simp; omega)
  have c4 := catL (s := bstr (sbytes a ++ [46, 46])) (t := b) (sbytes_bstr (byt_app ba b4646)) rfl (by simp; omega)
  have c5 := catL (s := ⟨#[45]⟩) (t := a) (show sbytes ⟨#[45]⟩ = [45] from rfl) rfl (by simp; omega)
  have c6 := catL (s := a) (t := ⟨#[45]⟩) rfl (show sbytes ⟨#[45]⟩ = [45] from rfl) (by simp; omega)
  have c7 := catL (s := ⟨#[46]⟩) (t := a) (show sbytes ⟨#[46]⟩ = [46] from rfl) rfl (by simp; omega)
  have k1 := domC (s := bstr (sbytes a ++ [46] ++ sbytes b)) (sbytes_bstr (byt_app (byt_app ba b46) bb)) (by simp; omega)
  have k2 := domC (s := bstr (sbytes a ++ [46, 46] ++ sbytes b)) (sbytes_bstr (byt_app (byt_app ba b4646) bb)) (by simp; omega)
  have k3 := domC (s := bstr ([45] ++ sbytes a)) (sbytes_bstr (byt_app b45 ba)) (by simp; omega)
  have k4 := domC (s := bstr (sbytes a ++ [45])) (sbytes_bstr (byt_app ba b45)) (by simp; omega)
  have k5 := domC (s := bstr (sbytes a ++ [46])) (sbytes_bstr (byt_app ba b46)) (by simp; omega)
  have k6 := domC (s := bstr ([46] ++ sbytes a)) (sbytes_bstr (byt_app b46 ba)) (by simp; omega)
  rw [show sbytes a ++ [46] ++ sbytes b = sbytes a ++ 46 :: sbytes b by simp, dom_join _ _ ea eb, la, lb] at k1
  rw [show sbytes a ++ [46, 46] ++ sbytes b = sbytes a ++ 46 :: 46 :: sbytes b by simp, dom_dots] at k2
  rw [show domB ([45] ++ sbytes a) = false from dom_hyph_front _] at k3
  rw [dom_hyph_end] at k4
  rw [dom_dot_end] at k5
  rw [show domB ([46] ++ sbytes a) = false from dom_dot_front _] at k6
  rw [show sbytes a ++ [46] ++ sbytes b = sbytes a ++ 46 :: sbytes b by simp] at c2
  rw [show sbytes a ++ [46, 46] ++ sbytes b = sbytes a ++ 46 :: 46 :: sbytes b by simp] at c4
  refine bndL (s := true) (bnd c1 (bnd c2 (bnd k1 (bnd hw (bnd rfl (cnd_t ?_ (bnd c3 (bnd c4 (bnd k2 (cnd_t rfl (bnd c5 (bnd k3 (cnd_t rfl (bnd c6 (bnd k4 (cnd_t rfl (bnd c1 (bnd k5 (cnd_t rfl (bnd c7 (bnd k6 (cnd_t rfl ?_)))))))))))))))))))))) rfl
  · rw [beq_iff_eq]
    by_cases h : a.size + b.size < 255
    · rw [decide_eq_true h, decide_eq_true (by omega)]
    · rw [decide_eq_false h, decide_eq_false (by omega)]
  · cases hsg : sgB c
    · refine cnd_f rfl ?_
      have hlb : lbD c = false := by
        have := of_byte (fun c => sgB c == lbD c) sg_all hc
        rw [beq_iff_eq, hsg] at this
        exact this.symm
      have d1 := catL (s := a) (t := bstr [c]) rfl (sbytes_bstr bc) (by simp; omega)
      have d2 := catL (s := bstr (sbytes a ++ [c])) (t := b) (sbytes_bstr (byt_app ba bc)) rfl (by simp; omega)
      have k7 := domC (s := bstr (sbytes a ++ [c] ++ sbytes b)) (sbytes_bstr (byt_app (byt_app ba bc) bb)) (by simp; omega)
      have : domB (sbytes a ++ [c] ++ sbytes b) = false := by
        cases h : domB (sbytes a ++ [c] ++ sbytes b)
        · rfl
        · exact absurd (by simp) (dom_no hlb h)
      rw [this] at k7
      exact bnd rfl (bnd d1 (bnd d2 (bnd k7 (cnd_t rfl (bnd wakes11 rfl)))))
    · exact cnd_t rfl (bnd wakes11 rfl)
end Go.Abs.Sh
