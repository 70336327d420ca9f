import Derived.Test.YthfmdofkkkpbkaaGreatDoorVrbG
namespace Go.Abs.Sh
set_option linter.unusedVariables false
set_option linter.unusedSimpArgs false
set_option maxRecDepth 100000
/-! The page's params. -/
theorem low_61 {x : Int} : lowB x = 61 ↔ x = 61 := by
  unfold lowB; split <;> omega
theorem low_mem {c : Int} (hc : ∀ x, lowB x = c ↔ x = c) {l : List Int} : c ∈ lowL l ↔ c ∈ l := by
  unfold lowL
  rw [List.mem_map]
  exact ⟨fun ⟨x, hx, e⟩ => by rw [← (hc x).1 e]; exact hx, fun h => ⟨c, h, (hc c).2 rfl⟩⟩
theorem pfx_key {w : List Int} (hw : lowL w = w) (h61 : (61 : Int) ∉ w) (p : List Int) : pfx (w ++ [61]) p = if (cutW 61 p).2.2 = true ∧ lowL (cutW 61 p).1 = w then some (cutW 61 p).2.1 else none := by
  have hww : lowL (w ++ [61]) = w ++ [61] := by rw [low_app, hw]; rfl
  rcases cutW_cases 61 p with ⟨a, b, e, ha, h2⟩ | ⟨hn, h2⟩
  · rw [h2]
    simp only [true_and]
    by_cases hk : lowL a = w
    · rw [if_pos hk, e]
      have : a ++ 61 :: b = (a ++ [61]) ++ b := by simp
      rw [this, pfx_yes (by rw [low_app, hww, hk]; rfl)]
    · rw [if_neg hk]
      cases hp : pfx (w ++ [61]) p with
      | none => rfl
      | some v =>
        exfalso
        obtain ⟨x, ex, hx, hl⟩ := pfx_some hp
        rw [hww] at hx
        have hxl : x.length = w.length + 1 := by rw [hl]; simp
        obtain ⟨y, z, rfl⟩ : ∃ y z, x = y ++ [z] := by
          have : x ≠ [] := by intro h; rw [h] at hxl; simp at hxl
          exact ⟨x.dropLast, x.getLast this, (List.dropLast_concat_getLast this).symm⟩
        rw [low_app] at hx
        have hin := List.append_inj' hx rfl
        have hz : z = 61 := low_61.1 (by have := hin.2; simpa [lowL] using this)
        have hy : (61 : Int) ∉ y := by
          intro h
          apply h61
          rw [← hin.1]
          exact (low_mem (fun x => low_61)).2 h
        have e3 : p = y ++ 61 :: v := by rw [ex, hz]; simp
        rw [e3] at h2
        rw [cutW_app hy] at h2
        cases h2
        exact hk hin.1
  · rw [h2]
    rw [if_neg (by simp)]
    cases hp : pfx (w ++ [61]) p with
    | none => rfl
    | some v =>
      exfalso
      obtain ⟨x, ex, hx, hl⟩ := pfx_some hp
      rw [hww] at hx
      have : (61 : Int) ∈ lowL x := by rw [hx]; simp
      have := (low_mem (fun x => low_61)).1 this
      exact hn (by rw [ex]; exact List.mem_append_left _ this)
theorem begins_key (p : List Int) (hp : byt p) (hl : p.length < 10000000) (t : ByteArray) (w : List Int) (ht : sbytes t = w ++ [61]) (hw : lowL w = w) (h61 : (61 : Int) ∉ w) :
    wherryref11_begins (bstr p) t = some (if (cutW 61 p).2.2 = true ∧ lowL (cutW 61 p).1 = w then (bstr (cutW 61 p).2.1, true) else (e0, false)) := by
  have h := begins_eq (bstr p) t (by rw [bstr_size]; omega) (by rw [ht, low_app, hw]; rfl)
  rw [ht, sbytes_bstr hp, pfx_key hw h61] at h
  rw [h]
  by_cases hc : (cutW 61 p).2.2 = true ∧ lowL (cutW 61 p).1 = w
  · rw [if_pos hc, if_pos hc]
  · rw [if_neg hc, if_neg hc]
theorem cut_nil {c : Int} {p : List Int} (h : (cutW c p).2.2 = false) : (cutW c p).2.1 = [] := by
  rcases cutW_cases c p with ⟨a, b, e, _, h2⟩ | ⟨_, h2⟩
  · rw [h2] at h; cases h
  · rw [h2]
theorem guard3 {R : Type} {P : Prop} [Decidable P] (a : ByteArray) (kind k : Int) (b : Bool) {X : Option (Bool ⊕ R)} (hX : P → X = some (.inl b)) :
    cond ((if P then (a, true) else (e0, false)).2) (cond (kind == k) X (some (.inl false))) (some (.inl false)) = some (.inl (decide P && (decide (kind = k) && b))) := by
  by_cases hP : P
  · rw [if_pos hP, decide_eq_true hP]
    refine cnd_t rfl ?_
    by_cases hk : kind = k
    · rw [decide_eq_true hk]
      exact cnd_t (beq_iff_eq.2 hk) (hX hP)
    · rw [decide_eq_false hk]
      exact cnd_f (beq_eq_false_iff_ne.2 hk) rfl
  · rw [if_neg hP, decide_eq_false hP]
    exact cnd_f rfl rfl
theorem rpar_eq (kind : Int) (p : List Int) (hp : byt p) (hl : p.length < 10000000) : ∃ q, wherryref11_param (bstr p) kind = some (q, (paramL kind p).isSome) ∧ ∀ x, paramL kind p = some x → q = x := by
  unfold wherryref11_param
  have hb := byt_cut 61 hp
  have hcl := cutW_len 61 p
  have b1 := begins_key p hp hl (⟨#[115, 105, 122, 101, 61]⟩ : ByteArray) [115, 105, 122, 101] rfl rfl (by decide)
  have b2 := begins_key p hp hl (⟨#[114, 101, 116, 61]⟩ : ByteArray) [114, 101, 116] rfl rfl (by decide)
  have b3 := begins_key p hp hl (⟨#[110, 111, 116, 105, 102, 121, 61]⟩ : ByteArray) [110, 111, 116, 105, 102, 121] rfl rfl (by decide)
  have hnil := cut_nil (c := 61) (p := p)
  have hsz : (bstr (cutW 61 p).2.1).size < 140737488355328 := by rw [bstr_size]; omega
  obtain ⟨n, hn, hnn⟩ := rnum_eq (bstr (cutW 61 p).2.1) hsz
  rw [sbytes_bstr hb.2] at hnn
  have hf := rfold_eq (bstr (cutW 61 p).2.1) hsz
  have hfe : ∀ t : ByteArray, ((lowS (bstr (cutW 61 p).2.1)).toList == t.toList) = decide (lowL (cutW 61 p).2.1 = sbytes t) := fun t => by rw [eqL, sbytes_low, sbytes_bstr hb.2]
  have g1 := guard3 (R := T_Param × Bool) (P := (cutW 61 p).2.2 = true ∧ lowL (cutW 61 p).1 = [115, 105, 122, 101]) (bstr (cutW 61 p).2.1) kind 2 (numB (cutW 61 p).2.1) (X := (wherryref11_number (if (cutW 61 p).2.2 = true ∧ lowL (cutW 61 p).1 = [115, 105, 122, 101] then (bstr (cutW 61 p).2.1, true) else (e0, false)).1 9).bind fun v2 =>
        some (.inl ((decide (0 ≤ v2))))) (fun hP => by rw [if_pos hP]; exact bnd hn (by rw [hnn]))
  have gF : ∀ (w : List Int) (k : Int) (t : ByteArray), (cond ((if (cutW 61 p).2.2 = true ∧ lowL (cutW 61 p).1 = w then (bstr (cutW 61 p).2.1, true) else (e0, false)).2) (cond (kind == k) ((wherryref11_Fold (if (cutW 61 p).2.2 = true ∧ lowL (cutW 61 p).1 = w then (bstr (cutW 61 p).2.1, true) else (e0, false)).1).bind fun v9 =>
              some (.inl ((v9.toList == t.toList)))) (some (.inl false))) (some (.inl false)) : Option (Bool ⊕ (T_Param × Bool))) = some (.inl (decide ((cutW 61 p).2.2 = true ∧ lowL (cutW 61 p).1 = w) && (decide (kind = k) && decide (lowL (cutW 61 p).2.1 = sbytes t)))) := fun w k t =>
    guard3 (bstr (cutW 61 p).2.1) kind k (decide (lowL (cutW 61 p).2.1 = sbytes t)) (fun hP => by rw [if_pos hP]; exact bnd hf (by rw [hfe]))
  have g2 := gF [114, 101, 116] 2 (⟨#[102, 117, 108, 108]⟩ : ByteArray)
  have g3 := gF [114, 101, 116] 2 (⟨#[104, 100, 114, 115]⟩ : ByteArray)
  have g4 := gF [110, 111, 116, 105, 102, 121] 3 (⟨#[110, 101, 118, 101, 114]⟩ : ByteArray)
  have g5 := gF [110, 111, 116, 105, 102, 121] 3 (⟨#[102, 97, 105, 108, 117, 114, 101]⟩ : ByteArray)
  rw [show sbytes (⟨#[102, 117, 108, 108]⟩ : ByteArray) = [102, 117, 108, 108] from rfl] at g2
  rw [show sbytes (⟨#[104, 100, 114, 115]⟩ : ByteArray) = [104, 100, 114, 115] from rfl] at g3
  rw [show sbytes (⟨#[110, 101, 118, 101, 114]⟩ : ByteArray) = [110, 101, 118, 101, 114] from rfl] at g4
  rw [show sbytes (⟨#[102, 97, 105, 108, 117, 114, 101]⟩ : ByteArray) = [102, 97, 105, 108, 117, 114, 101] from rfl] at g5
  unfold paramL
  generalize (cutW 61 p).2.2 = M at *
  generalize lowL (cutW 61 p).1 = K at *
  generalize (cutW 61 p).2.1 = V at *
  have fin : ∀ (c1 c2 c3 c4 c5 : Bool),
      (decide (M = true ∧ K = [115, 105, 122, 101]) && (decide (kind = 2) && numB V)) = c1 →
      (decide (M = true ∧ K = [114, 101, 116]) && (decide (kind = 2) && decide (lowL V = [102, 117, 108, 108]))) = c2 →
      (decide (M = true ∧ K = [114, 101, 116]) && (decide (kind = 2) && decide (lowL V = [104, 100, 114, 115]))) = c3 →
      (decide (M = true ∧ K = [110, 111, 116, 105, 102, 121]) && (decide (kind = 3) && decide (lowL V = [110, 101, 118, 101, 114]))) = c4 →
      (decide (M = true ∧ K = [110, 111, 116, 105, 102, 121]) && (decide (kind = 3) && decide (lowL V = [102, 97, 105, 108, 117, 114, 101]))) = c5 →
      (if kind = 2 ∧ K = [115, 105, 122, 101] then (if numB V then some (⟨bstr [83, 73, 90, 69], bstr V⟩ : T_Param) else none)
  else if kind = 2 ∧ K = [114, 101, 116] then
    (if lowL V = [102, 117, 108, 108] then some ⟨bstr [82, 69, 84], bstr [70, 85, 76, 76]⟩
     else if lowL V = [104, 100, 114, 115] then some ⟨bstr [82, 69, 84], bstr [72, 68, 82, 83]⟩ else none)
  else if kind = 3 ∧ K = [110, 111, 116, 105, 102, 121] then
    (if lowL V = [110, 101, 118, 101, 114] then some ⟨bstr [78, 79, 84, 73, 70, 89], bstr [78, 69, 86, 69, 82]⟩
     else if lowL V = [102, 97, 105, 108, 117, 114, 101] then some ⟨bstr [78, 79, 84, 73, 70, 89], bstr [70, 65, 73, 76, 85, 82, 69]⟩ else none)
  else none) = (if c1 = true then some ⟨bstr [83, 73, 90, 69], bstr V⟩ else if c2 = true then some ⟨bstr [82, 69, 84], bstr [70, 85, 76, 76]⟩ else if c3 = true then some ⟨bstr [82, 69, 84], bstr [72, 68, 82, 83]⟩ else if c4 = true then some ⟨bstr [78, 79, 84, 73, 70, 89], bstr [78, 69, 86, 69, 82]⟩ else if c5 = true then some ⟨bstr [78, 79, 84, 73, 70, 89], bstr [70, 65, 73, 76, 85, 82, 69]⟩ else none) := by
    intro c1 c2 c3 c4 c5 h1 h2 h3 h4 h5
    subst h1 h2 h3 h4 h5
    cases M with
    | false =>
      have hV := hnil rfl
      rw [hV]
      have n0 : numB [] = false := rfl
      have l0 : lowL [] = [] := rfl
      simp [n0, l0]
    | true =>
      by_cases k2 : kind = 2
      · subst k2
        by_cases e1 : K = [115, 105, 122, 101]
        · subst e1; cases numB V <;> simp
        · by_cases e2 : K = [114, 101, 116]
          · subst e2; simp
          · simp [e1, e2]
      · by_cases k3 : kind = 3
        · subst k3
          by_cases e3 : K = [110, 111, 116, 105, 102, 121]
          · subst e3; simp
          · simp [e3]
        · simp [k2, k3]
  rw [fin _ _ _ _ _ rfl rfl rfl rfl rfl]
  have hfst : (decide (M = true ∧ K = [115, 105, 122, 101]) && (decide (kind = 2) && numB V)) = true → (if M = true ∧ K = [115, 105, 122, 101] then (bstr V, true) else (e0, false)).1 = bstr V := by
    intro h
    rw [Bool.and_eq_true, decide_eq_true_eq] at h
    rw [if_pos h.1]
  generalize (decide (M = true ∧ K = [115, 105, 122, 101]) && (decide (kind = 2) && numB V)) = c1 at *
  generalize (decide (M = true ∧ K = [114, 101, 116]) && (decide (kind = 2) && decide (lowL V = [102, 117, 108, 108]))) = c2 at *
  generalize (decide (M = true ∧ K = [114, 101, 116]) && (decide (kind = 2) && decide (lowL V = [104, 100, 114, 115]))) = c3 at *
  generalize (decide (M = true ∧ K = [110, 111, 116, 105, 102, 121]) && (decide (kind = 3) && decide (lowL V = [110, 101, 118, 101, 114]))) = c4 at *
  generalize (decide (M = true ∧ K = [110, 111, 116, 105, 102, 121]) && (decide (kind = 3) && decide (lowL V = [102, 97, 105, 108, 117, 114, 101]))) = c5 at *
  cases c1 with
  | true => exact ⟨_, bnd b1 (bndL g1 (cnd_t rfl (by rw [hfst rfl]; rfl))), fun x hx => by cases hx; rfl⟩
  | false =>
    cases c2 with
    | true => exact ⟨_, bnd b1 (bndL g1 (cnd_f rfl (bnd b2 (bndL g2 (cnd_t rfl rfl))))), fun x hx => by cases hx; rfl⟩
    | false =>
      cases c3 with
      | true => exact ⟨_, bnd b1 (bndL g1 (cnd_f rfl (bnd b2 (bndL g2 (cnd_f rfl (bnd b2 (bndL g3 (cnd_t rfl rfl)))))))), fun x hx => by cases hx; rfl⟩
      | false =>
        cases c4 with
        | true => exact ⟨_, bnd b1 (bndL g1 (cnd_f rfl (bnd b2 (bndL g2 (cnd_f rfl (bnd b2 (bndL g3 (cnd_f rfl (bnd b3 (bndL g4 (cnd_t rfl rfl))))))))))), fun x hx => by cases hx; rfl⟩
        | false =>
          cases c5 with
          | true => exact ⟨_, bnd b1 (bndL g1 (cnd_f rfl (bnd b2 (bndL g2 (cnd_f rfl (bnd b2 (bndL g3 (cnd_f rfl (bnd b3 (bndL g4 (cnd_f rfl (bnd b3 (bndL g5 (cnd_t rfl rfl)))))))))))))), fun x hx => by cases hx; rfl⟩
          | false => exact ⟨_, bnd b1 (bndL g1 (cnd_f rfl (bnd b2 (bndL g2 (cnd_f rfl (bnd b2 (bndL g3 (cnd_f rfl (bnd b3 (bndL g4 (cnd_f rfl (bnd b3 (bndL g5 (cnd_f rfl rfl)))))))))))))), fun x hx => by cases hx⟩
def parF (kind : Int) : ByteArray × List T_Param → Option ((ByteArray × List T_Param) ⊕ (List T_Param ⊕ (List T_Param × Bool))) := (fun ((s103, s104) : ByteArray × (List T_Param)) =>
      cond ((decide (0 < (s103.size : Int))))
        ((chrO s103 0).bind fun v2 =>
        cond ((v2 != 32))
          (some (.inr (.inr (([], false)))))
          ((subO s103 1 (s103.size : Int)).bind fun v4 =>
          bindS (S := (Int)) (A := ((ByteArray × (List T_Param)) ⊕ (((List T_Param)) ⊕ ((List T_Param) × Bool))))
            (loopF (S := (Int)) (O := (Int) ⊕ ((ByteArray × (List T_Param)) ⊕ (((List T_Param)) ⊕ ((List T_Param) × Bool)))) (fun (s173 : Int) =>
              bindS (S := Bool) (A := ((Int) ⊕ ((Int) ⊕ ((ByteArray × (List T_Param)) ⊕ (((List T_Param)) ⊕ ((List T_Param) × Bool))))))
                (cond ((decide (s173 < (v4.size : Int))))
                  ((chrO v4 s173).bind fun v5 =>
                  some (.inl (v5 != 32)))
                  (some (.inl false)))
                (fun (s186 : Bool) =>
                  cond (s186)
                    ((some (IntKind.i64.wrap (s173 + 1))).bind fun v11 =>
                    some (.inl v11))
                    (some (.inr (.inl s173)))) some)
              BIG 0)
            (fun (s179 : Int) =>
              (subO v4 0 s179).bind fun v36 =>
              (wherryref11_param v36 kind).bind fun v37 =>
              cond ((!v37.2))
                (some (.inr (.inr (([], false)))))
                (bindS (S := (Unit)) (A := ((ByteArray × (List T_Param)) ⊕ (((List T_Param)) ⊕ ((List T_Param) × Bool))))
                  (loopF (S := (Int)) (O := (Unit) ⊕ ((ByteArray × (List T_Param)) ⊕ (((List T_Param)) ⊕ ((List T_Param) × Bool)))) (fun (s197 : Int) =>
                    cond ((decide (s197 < (s104.length : Int))))
                      ((ixO s197 s104.length).bind fun v85 =>
                      (getO s104 v85).bind fun v86 =>
                      cond ((v86.Key.toList == v37.1.Key.toList))
                        (some (.inr (.inr (.inr (.inr (([], false)))))))
                        ((some (IntKind.i64.wrap (s197 + 1))).bind fun v88 =>
                        some (.inl v88)))
                      (some (.inr (.inl ()))))
                    BIG 0)
                  (fun (() : Unit) =>
                    (appO 32 s104 [v37.1]).bind fun v48 =>
                    (subO v4 s179 (v4.size : Int)).bind fun v49 =>
                    some (.inl (v49, v48))) some)) some))
        (some (.inr (.inl s104))))
theorem dup_loop {R : Type} (l : List T_Param) (q : T_Param) (hl : l.length < 10000000) (b : R) :
    loopF (S := (Int)) (O := (Unit) ⊕ R) (fun (s197 : Int) =>
                    cond ((decide (s197 < (l.length : Int))))
                      ((ixO s197 l.length).bind fun v85 =>
                      (getO l v85).bind fun v86 =>
                      cond ((v86.Key.toList == q.Key.toList))
                        (some (.inr (.inr b)))
                        ((some (IntKind.i64.wrap (s197 + 1))).bind fun v88 =>
                        some (.inl v88)))
                      (some (.inr (.inl ()))))
                    BIG 0 = some (if (l.any fun x => decide (x.Key = q.Key)) = true then .inr b else .inl ()) := by
  rcases first_fail (fun i => decide (∀ h : i < l.length, ¬ l[i].Key = q.Key)) l.length with h | ⟨k, hk, hb, hf⟩
  · have hall : ∀ i (h : i < l.length), ¬ l[i].Key = q.Key := fun i hi => of_decide_eq_true (h i hi) hi
    have hany : (l.any fun x => decide (x.Key = q.Key)) = false := by
      refine List.any_eq_false.2 fun x hx => ?_
      obtain ⟨i, hi, rfl⟩ := List.mem_iff_getElem.1 hx
      simpa using hall i hi
    rw [if_neg (by rw [hany]; simp)]
    exact loop_from (fun i => (i : Int)) l.length _ rfl (by simp only [BIG]; omega) (fun i hi => cnd_t (decide_eq_true (by omega)) (bnd (ixO_of hi) (bnd (getO_of hi) (cnd_f (by rw [toList_beq, decide_eq_false (hall i hi)]) (bnd (some_wrap (by omega) (by omega)) rfl))))) (cnd_f (decide_eq_false (by omega)) rfl)
  · have hkk : l[k].Key = q.Key := by
      have := of_decide_eq_false hf
      by_cases h : l[k].Key = q.Key
      · exact h
      · exact absurd (fun _ => h) this
    have hbb : ∀ i (h : i < k), ¬ l[i].Key = q.Key := fun i hi => of_decide_eq_true (hb i hi) (by omega)
    have hany : (l.any fun x => decide (x.Key = q.Key)) = true := List.any_eq_true.2 ⟨l[k], List.getElem_mem hk, decide_eq_true hkk⟩
    rw [if_pos hany]
    exact loop_from (fun i => (i : Int)) k _ rfl (by simp only [BIG]; omega) (fun i hi => cnd_t (decide_eq_true (by omega)) (bnd (ixO_of (by omega)) (bnd (getO_of (by omega)) (cnd_f (by rw [toList_beq, decide_eq_false (hbb i hi)]) (bnd (some_wrap (by omega) (by omega)) rfl))))) (cnd_t (decide_eq_true (by omega)) (bnd (ixO_of hk) (bnd (getO_of hk) (cnd_t (by rw [toList_beq, decide_eq_true hkk]) rfl))))
theorem scan32 {R : Type} (t : List Int) (hb : byt t) (hl : t.length < 10000000) (c : Int) :
    loopF (S := (Int)) (O := (Int) ⊕ R) (fun (s173 : Int) =>
              bindS (S := Bool) (A := ((Int) ⊕ ((Int) ⊕ R)))
                (cond ((decide (s173 < ((bstr t).size : Int))))
                  ((chrO (bstr t) s173).bind fun v5 =>
                  some (.inl (v5 != c)))
                  (some (.inl false)))
                (fun (s186 : Bool) =>
                  cond (s186)
                    ((some (IntKind.i64.wrap (s173 + 1))).bind fun v11 =>
                    some (.inl v11))
                    (some (.inr (.inl s173)))) some)
              BIG 0 = some (.inl (((match idx1 c t with | none => t.length | some e => e) : Nat) : Int)) := by
  have hs : (bstr t).size = t.length := bstr_size t
  have hc : ∀ i, i < t.length → chrO (bstr t) (i : Int) = some (t.getD i 0) := fun i hi => by
    rw [chrD (by rw [hs]; exact hi), sbytes_bstr hb]
  refine loop_scan c t (by simp only [BIG]; omega) (fun i hi hne => ?_) (fun i hi he => ?_) ?_
  · exact bndL (s := true) (cnd_t (decide_eq_true (by omega)) (bnd (hc i hi) (by rw [bne_iff_ne.2 hne]))) (cnd_t rfl (bnd (some_wrap (by omega) (by omega)) rfl))
  · exact bndL (s := false) (cnd_t (decide_eq_true (by omega)) (bnd (hc i hi) (by rw [he]; simp))) (cnd_f rfl rfl)
  · exact bndL (s := false) (cnd_f (decide_eq_false (by omega)) rfl) (cnd_f rfl rfl)
theorem parF_loop (kind : Int) : ∀ (m : Nat) (t : List Int) (acc : List T_Param) (fuel : Nat), t.length ≤ m → m + 1 < fuel → byt t → m < 100000 → acc.length + m < 200000 →
    loopF (parF kind) fuel (bstr (32 :: t), acc) = some (match foldP kind (spl 32 t) acc with | some out => .inl out | none => .inr ([], false))
  | m, t, acc, fuel, hm, hf, hb, hlt, hacc => by
    cases fuel with
    | zero => omega
    | succ fuel =>
    have hb32 : byt (32 :: t) := byt_cons (by omega) hb
    have hsz : (bstr (32 :: t)).size = t.length + 1 := by rw [bstr_size]; simp
    have hc0 : chrO (bstr (32 :: t)) 0 = some 32 := by
      have := chrD (s := bstr (32 :: t)) (i := 0) (by rw [hsz]; omega)
      rw [sbytes_bstr hb32] at this; exact this
    have hs1 : subO (bstr (32 :: t)) 1 ((bstr (32 :: t)).size : Int) = some (bstr t) := by
      have := sub_of (s := bstr (32 :: t)) (a := 1) (b := (bstr (32 :: t)).size) (by rw [hsz]; omega) (Nat.le_refl _)
      rw [sbytes_bstr hb32, List.take_of_length_le (by rw [List.length_drop, hsz]; simp)] at this
      exact this
    have hscan := scan32 (R := ((ByteArray × (List T_Param)) ⊕ (((List T_Param)) ⊕ ((List T_Param) × Bool)))) t hb (by omega) 32
    -- the first part and what is left
    obtain ⟨n, part, rest, hn, hpart, hrest, hspl⟩ : ∃ (n : Nat) (part : List Int) (rest : List (List Int)), (match idx1 32 t with | none => t.length | some e => e) = n ∧ part = t.take n ∧ (rest = [] ∧ n = t.length ∨ ∃ u, t.drop n = 32 :: u ∧ rest = spl 32 u) ∧ spl 32 t = part :: rest := by
      cases hi : idx1 32 t with
      | none =>
        exact ⟨t.length, t, [], rfl, by rw [List.take_length], .inl ⟨rfl, rfl⟩, spl_one (idx1_none.1 hi)⟩
      | some e =>
        have h2 := idx1_some hi
        have hd : t.drop e = 32 :: t.drop (e + 1) := by
          have h4 : (t.take e ++ 32 :: t.drop (e + 1)).drop e = 32 :: t.drop (e + 1) := List.drop_left' (by rw [List.length_take]; omega)
          rw [← h2.2.1] at h4; exact h4
        exact ⟨e, t.take e, spl 32 (t.drop (e + 1)), rfl, rfl, .inr ⟨_, hd, rfl⟩, by conv => lhs; rw [h2.2.1, spl_app h2.2.2]⟩
    rw [hn] at hscan
    have hnt : n ≤ t.length := by
      rcases hrest with ⟨_, h⟩ | ⟨u, h, _⟩
      · omega
      · have := congrArg List.length h
        rw [List.length_drop, List.length_cons] at this; omega
    have hs2 : subO (bstr t) 0 (n : Int) = some (bstr part) := by
      have := sub_of (s := bstr t) (a := 0) (b := n) (by omega) (by rw [bstr_size]; omega)
      rw [sbytes_bstr hb, List.drop_zero, Nat.sub_zero, ← hpart] at this
      exact this
    have hs3 : subO (bstr t) (n : Int) ((bstr t).size : Int) = some (bstr (t.drop n)) := by
      have := sub_of (s := bstr t) (a := n) (b := (bstr t).size) (by rw [bstr_size]; omega) (Nat.le_refl _)
      rw [sbytes_bstr hb, List.take_of_length_le (by rw [List.length_drop, bstr_size]; exact Nat.le_refl _)] at this
      exact this
    have hbp : byt part := by rw [hpart]; exact byt_take hb n
    have hlp : part.length ≤ t.length := by rw [hpart, List.length_take]; omega
    obtain ⟨q, hq, hx⟩ := rpar_eq kind part hbp (by omega)
    rw [hspl]
    cases hpp : paramL kind part with
    | none =>
      rw [hpp] at hq
      rw [fold_none hpp]
      exact loop_exit (cnd_t (decide_eq_true (by rw [hsz]; omega)) (bnd hc0 (cnd_f rfl (bnd hs1 (bndL hscan (bnd hs2 (bnd hq (cnd_t rfl rfl))))))))
    | some q' =>
      rw [hpp] at hq
      have := hx q' hpp
      subst this
      have hdup := dup_loop (R := (ByteArray × (List T_Param)) ⊕ (((List T_Param)) ⊕ ((List T_Param) × Bool))) acc q (by omega) (.inr (.inr ([], false)))
      cases ha : (acc.any fun x => decide (x.Key = q.Key)) with
      | true =>
        rw [if_pos ha] at hdup
        rw [fold_dup hpp ha]
        exact loop_exit (cnd_t (decide_eq_true (by rw [hsz]; omega)) (bnd hc0 (cnd_f rfl (bnd hs1 (bndL hscan (bnd hs2 (bnd hq (cnd_f rfl (bndR hdup rfl)))))))))
      | false =>
        rw [if_neg (by rw [ha]; simp)] at hdup
        rw [fold_go hpp ha]
        have happ : appO 32 acc [q] = some (acc ++ [q]) := app_of (by simp; omega) (by simp; omega)
        have hstep : parF kind (bstr (32 :: t), acc) = some (.inl (bstr (t.drop n), acc ++ [q])) :=
          cnd_t (decide_eq_true (by rw [hsz]; omega)) (bnd hc0 (cnd_f rfl (bnd hs1 (bndL hscan (bnd hs2 (bnd hq (cnd_f rfl (bndL hdup (bnd happ (bnd hs3 rfl))))))))))
        rw [loop_next hstep]
        rcases hrest with ⟨rfl, hne⟩ | ⟨u, hu, rfl⟩
        · rw [hne, List.drop_length]
          cases fuel with
          | zero => omega
          | succ fuel => exact loop_exit (show parF kind (bstr [], acc ++ [q]) = some (.inr (.inl (acc ++ [q]))) from rfl)
        · rw [hu]
          have hul : u.length + 1 + n = t.length := by
            have := congrArg List.length hu
            rw [List.length_drop, List.length_cons] at this; omega
          have hbu : byt u := fun x hx => hb x (List.mem_of_mem_drop (i := n) (by rw [hu]; exact List.mem_cons_of_mem _ hx))
          cases m with
          | zero => omega
          | succ m => exact parF_loop kind m u (acc ++ [q]) fuel (by omega) (by omega) hbu (by omega) (by simp; omega)
theorem rpars_eq (kind : Int) (l : List Int) (hb : byt l) (hl : l.length < 100000) : wherryref11_params (bstr l) kind = some (match parsL kind l with | some ps => (ps, true) | none => ([], false)) := by
  have hu : ∀ r, (bindS (S := ((List T_Param))) (A := ((List T_Param) × Bool)) (loopF (parF kind) BIG (bstr l, [])) (fun (s153 : (List T_Param)) => some ((s153, true))) some) = r → wherryref11_params (bstr l) kind = r := fun r h => h
  refine hu _ ?_
  cases l with
  | nil =>
    have : loopF (parF kind) BIG (bstr [], []) = some (.inl []) := loop_exit (n := BIG - 1) (show parF kind (bstr [], []) = some (.inr (.inl [])) from rfl)
    exact bndL this rfl
  | cons c t =>
    have hsz : (bstr (c :: t)).size = t.length + 1 := by rw [bstr_size]; simp
    have hbt : byt t := fun x hx => hb x (List.mem_cons_of_mem _ hx)
    simp only [List.length_cons] at hl
    by_cases h32 : c = 32
    · subst h32
      rw [pars_cons]
      have := parF_loop kind t.length t [] BIG (Nat.le_refl _) (by simp only [BIG]; omega) hbt (by omega) (by simp; omega)
      cases hf : foldP kind (spl 32 t) [] with
      | some out => rw [hf] at this; exact bndL this rfl
      | none => rw [hf] at this; exact bndR this rfl
    · have hc0 : chrO (bstr (c :: t)) 0 = some c := by
        have := chrD (s := bstr (c :: t)) (i := 0) (by rw [hsz]; omega)
        rw [sbytes_bstr hb] at this; exact this
      have h1 : parF kind (bstr (c :: t), []) = some (.inr (.inr ([], false))) := cnd_t (decide_eq_true (by rw [hsz]; omega)) (bnd hc0 (cnd_t (bne_iff_ne.2 h32) rfl))
      have : loopF (parF kind) BIG (bstr (c :: t), []) = some (.inr ([], false)) := loop_exit (n := BIG - 1) h1
      have hq : parsL kind (c :: t) = none := by unfold parsL; exact if_neg h32
      rw [hq]
      exact bndR this rfl
end Go.Abs.Sh
