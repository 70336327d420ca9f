import Derived.Test.YthfmdofkkkpbkaaGreatDoorVrbV
namespace Go.Abs.Sh
set_option linter.unusedVariables false
set_option linter.unusedSimpArgs false
set_option maxRecDepth 100000
/-! Numbers, params. -/
theorem dig_val {b : UInt8} (h : 48 ≤ b.toNat ∧ b.toNat ≤ 57) : Lib.digitVal b = some (b.toNat - 48) := by
  unfold Lib.digitVal; rw [if_pos h]
theorem dec_some : ∀ (l : List UInt8) (acc : Nat), (∀ b ∈ l, 48 ≤ b.toNat ∧ b.toNat ≤ 57) → ∃ n, Lib.decFrom acc l = some n
  | [], acc, _ => ⟨acc, rfl⟩
  | b :: r, acc, h => by
    obtain ⟨n, hn⟩ := dec_some r (acc * 10 + (b.toNat - 48)) fun x hx => h x (List.mem_cons_of_mem _ hx)
    refine ⟨n, ?_⟩
    unfold Lib.decFrom
    rw [dig_val (h b List.mem_cons_self)]
    exact hn
theorem atoi_some (s : ByteArray) (h0 : sbytes s ≠ []) (h : (sbytes s).all dgB = true) (hs : s.size ≤ 18) : ∃ r, strconv_Atoi s = some r := by
  unfold strconv_Atoi
  rw [if_pos hs]
  have hb : ∀ b ∈ s.data.toList, 48 ≤ b.toNat ∧ b.toNat ≤ 57 := by
    intro b hb
    have : ((b.toNat : Nat) : Int) ∈ sbytes s := by
      unfold sbytes
      exact List.mem_map.2 ⟨b, hb, rfl⟩
    have := List.all_eq_true.1 h _ this
    simp only [dgB, Bool.and_eq_true, decide_eq_true_eq] at this
    omega
  cases hl : s.data.toList with
  | nil => exact absurd (by unfold sbytes; rw [hl]; rfl) h0
  | cons b r =>
    rw [hl] at hb
    obtain ⟨n, hn⟩ := dec_some (b :: r) 0 hb
    have hbb := hb b List.mem_cons_self
    have h45 : (b == 45) = false := beq_eq_false_iff_ne.2 fun e => by rw [e] at hbb; exact absurd hbb.1 (by decide)
    have h43 : (b == 43) = false := beq_eq_false_iff_ne.2 fun e => by rw [e] at hbb; exact absurd hbb.1 (by decide)
    have he : Lib.atoi (b :: r) = some (n : Int) := by
      unfold Lib.atoi
      simp only [h45, h43, Bool.false_eq_true, if_false, Lib.decNat, List.isEmpty_cons, hn]
      rfl
    rw [he]
    exact ⟨_, rfl⟩
theorem numLoop (s : ByteArray) (hs : s.size < 4611686018427387904) : (loopF (S := (Int)) (O := (Unit) ⊕ (Int × Bool)) (fun (s24 : Int) =>
            cond ((decide (s24 < (s.size : Int))))
              (bindS (S := Bool) (A := ((Int) ⊕ ((Unit) ⊕ (Int × Bool))))
                ((chrO s s24).bind fun v9 =>
                cond ((decide (v9 < 48)))
                  (some (.inl true))
                  ((chrO s s24).bind fun v10 =>
                  some (.inl ((decide (57 < v10))))))
                (fun (s38 : Bool) =>
                  cond (s38)
                    (some (.inr (.inr ((0, false)))))
                    ((some (IntKind.i64.wrap (s24 + 1))).bind fun v16 =>
                    some (.inl v16))) some)
              (some (.inr (.inl ()))))
            BIG 0) = some (if (sbytes s).all dgB = true then .inl () else .inr (0, false)) := by
  have hstep : ∀ i : Nat, i < s.size → ((chrO s (i : Int)).bind fun v9 =>
                cond ((decide (v9 < 48)))
                  (some (.inl true))
                  ((chrO s (i : Int)).bind fun v10 =>
                  some (.inl ((decide (57 < v10))))) : Option (Bool ⊕ ((Int) ⊕ ((Unit) ⊕ (Int × Bool))))) = some (.inl (!dgB ((sbytes s).getD i 0))) := by
    intro i hi
    have hc := chrD hi
    refine bnd hc ?_
    unfold dgB
    by_cases h1 : (sbytes s).getD i 0 < 48
    · rw [decide_eq_true h1, decide_eq_false (p := 48 ≤ (sbytes s).getD i 0) (by omega)]; rfl
    · rw [decide_eq_false h1, decide_eq_true (p := 48 ≤ (sbytes s).getD i 0) (by omega)]
      refine bnd hc ?_
      by_cases h2 : (sbytes s).getD i 0 ≤ 57
      · rw [decide_eq_true h2, decide_eq_false (by omega)]; rfl
      · rw [decide_eq_false h2, decide_eq_true (by omega)]; rfl
  have hloop := loop_all (R := Int × Bool) (f := fun (s24 : Int) =>
            cond ((decide (s24 < (s.size : Int))))
              (bindS (S := Bool) (A := ((Int) ⊕ ((Unit) ⊕ (Int × Bool))))
                ((chrO s s24).bind fun v9 =>
                cond ((decide (v9 < 48)))
                  (some (.inl true))
                  ((chrO s s24).bind fun v10 =>
                  some (.inl ((decide (57 < v10))))))
                (fun (s38 : Bool) =>
                  cond (s38)
                    (some (.inr (.inr ((0, false)))))
                    ((some (IntKind.i64.wrap (s24 + 1))).bind fun v16 =>
                    some (.inl v16))) some)
              (some (.inr (.inl ())))) (fun i => dgB ((sbytes s).getD i 0)) s.size (0, false) (fuel := BIG) (by simp only [BIG]; omega)
    (fun i hi hp => by
      replace hp : dgB ((sbytes s).getD i 0) = true := hp
      have := hstep i hi
      rw [hp] at this
      exact cnd_t (decide_eq_true (by omega)) (bndL this (cnd_f rfl (bnd (some_wrap (by omega) (by omega)) rfl))))
    (fun i hi hp => by
      replace hp : dgB ((sbytes s).getD i 0) = false := hp
      have := hstep i hi
      rw [hp] at this
      exact cnd_t (decide_eq_true (by omega)) (bndL this (cnd_t rfl rfl)))
    (cnd_f (decide_eq_false (by omega)) rfl)
  rw [hloop]
  congr 1
  by_cases h : ∀ i, i < s.size → dgB ((sbytes s).getD i 0) = true
  · rw [if_pos h, if_pos ((all_iff_get _ _).2 (by rw [sbytes_len]; exact h))]
  · rw [if_neg h, if_neg (by rw [all_iff_false (by rw [sbytes_len]; exact h)]; simp)]
theorem num_eq (s : ByteArray) : ∃ n, number_Parse s 9 = some (n, numB (sbytes s)) := by
  unfold number_Parse numB
  have hE := isE s
  cases he : (sbytes s).isEmpty with
  | true => exact ⟨0, bndL (s := true) (cnd_t (by rw [hE, he]) rfl) (cnd_t rfl rfl)⟩
  | false =>
    rw [he] at hE
    by_cases hl : (sbytes s).length ≤ 9
    · rw [decide_eq_true hl]
      rw [sbytes_len] at hl
      have hne : sbytes s ≠ [] := by intro h; rw [h] at he; cases he
      have h0 : 0 < s.size := by
        rw [← sbytes_len]; exact List.length_pos_iff.2 hne
      have hc := chrD h0
      have hh := head_getD hne
      have hz : ((s.toList == (⟨#[48]⟩ : ByteArray).toList)) = decide (sbytes s = [48]) := by rw [eqL]; rfl
      have hcond : ∀ (Z : Option (Bool ⊕ (Int × Bool))), Z = ((chrO s 0).bind fun v2 =>
        cond ((v2 == 48))
          (some (.inl ((!(s.toList == (⟨#[48]⟩ : ByteArray).toList)))))
          (some (.inl false))) → Z = some (.inl ((sbytes s).head? == some 48 && decide (sbytes s ≠ [48]))) := by
        intro Z hZ
        rw [hZ]
        refine bnd hc ?_
        rw [hh, hz]
        by_cases h48 : (sbytes s).getD 0 0 = 48
        · rw [h48]
          by_cases h1 : sbytes s = [48]
          · simp [h1]
          · simp [h1]
        · have e1 : ((sbytes s).getD 0 0 == 48) = false := beq_eq_false_iff_ne.2 h48
          rw [e1]
          have e2 : (some ((sbytes s).getD 0 0) == some (48 : Int)) = false := beq_eq_false_iff_ne.2 fun h => h48 (Option.some.inj h)
          rw [e2]; rfl
      have hfirst := hcond _ rfl
      cases hq : ((sbytes s).head? == some 48 && decide (sbytes s ≠ [48])) with
      | true =>
        rw [hq] at hfirst
        exact ⟨0, bndL (s := true) (cnd_f hE (bnd (x := 9) rfl (cnd_f (decide_eq_false (by omega)) hfirst))) (cnd_t rfl rfl)⟩
      | false =>
        rw [hq] at hfirst
        cases hd : (sbytes s).all dgB with
        | true =>
          obtain ⟨r, hr⟩ := atoi_some s hne hd (by omega)
          have hlp := numLoop s (by omega)
          rw [hd, if_pos rfl] at hlp
          exact ⟨r.1, bndL (s := false) (cnd_f hE (bnd (x := 9) rfl (cnd_f (decide_eq_false (by omega)) hfirst))) (cnd_f rfl (bndL hlp (bnd hr rfl)))⟩
        | false =>
          have hlp := numLoop s (by omega)
          rw [hd, if_neg (by simp)] at hlp
          exact ⟨0, bndL (s := false) (cnd_f hE (bnd (x := 9) rfl (cnd_f (decide_eq_false (by omega)) hfirst))) (cnd_f rfl (bndR hlp rfl))⟩
    · rw [decide_eq_false hl]
      rw [sbytes_len] at hl
      exact ⟨0, bndL (s := true) (cnd_f hE (bnd (x := 9) rfl (cnd_t (decide_eq_true (by omega)) rfl))) (cnd_t rfl rfl)⟩
theorem oneOf_eq (s a b : ByteArray) (hs : s.size < 4611686018427387904) (ha : a.size < 1000) (hb : b.size < 1000) : verb_oneOf s [a, b] = some (if lowL (sbytes s) = lowL (sbytes a) then (a, true) else if lowL (sbytes s) = lowL (sbytes b) then (b, true) else (e0, false)) := by
  unfold verb_oneOf
  have h1 := eqFold_eq s a hs (by omega)
  have h2 := eqFold_eq s b hs (by omega)
  have w1 : some (IntKind.i64.wrap ((0 : Int) + 1)) = some 1 := rfl
  have w2 : some (IntKind.i64.wrap ((1 : Int) + 1)) = some 2 := rfl
  by_cases p1 : lowL (sbytes s) = lowL (sbytes a)
  · rw [if_pos p1]
    rw [decide_eq_true p1] at h1
    exact bndR (loop_exit (cnd_t rfl (bnd rfl (bnd rfl (bnd h1 (cnd_t rfl rfl)))))) rfl
  · rw [if_neg p1]
    rw [decide_eq_false p1] at h1
    by_cases p2 : lowL (sbytes s) = lowL (sbytes b)
    · rw [if_pos p2]
      rw [decide_eq_true p2] at h2
      exact bndR ((loop_next (cnd_t rfl (bnd rfl (bnd rfl (bnd h1 (cnd_f rfl (bnd w1 rfl))))))).trans (loop_exit (cnd_t rfl (bnd rfl (bnd rfl (bnd h2 (cnd_t rfl rfl))))))) rfl
    · rw [if_neg p2]
      rw [decide_eq_false p2] at h2
      exact bndL ((loop_next (cnd_t rfl (bnd rfl (bnd rfl (bnd h1 (cnd_f rfl (bnd w1 rfl))))))).trans ((loop_next (cnd_t rfl (bnd rfl (bnd rfl (bnd h2 (cnd_f rfl (bnd w2 rfl))))))).trans (loop_exit (cnd_f rfl rfl)))) rfl
theorem param_eq (kind : Int) (p : List Int) (hp : byt p) (hl : p.length < 4611686018427387904) : ∃ q, verb_parameter kind (lowS (bstr (cutW 61 p).1)) (bstr (cutW 61 p).2.1) = some (q, (paramL kind p).isSome) ∧ ∀ x, paramL kind p = some x → q = x := by
  unfold verb_parameter paramL
  have hb := byt_cut 61 hp
  have hcl := cutW_len 61 p
  have hk : ∀ (t : ByteArray), (((lowS (bstr (cutW 61 p).1)).toList == t.toList)) = decide (lowL (cutW 61 p).1 = sbytes t) := fun t => by
    rw [eqL, sbytes_low, sbytes_bstr hb.1]
  have hv : sbytes (bstr (cutW 61 p).2.1) = (cutW 61 p).2.1 := sbytes_bstr hb.2
  have hsz : (bstr (cutW 61 p).2.1).size < 4611686018427387904 := by rw [bstr_size]; omega
  have guard : ∀ (k : Int) (t : ByteArray) (w : List Int), sbytes t = w → (cond ((kind == k)) (some (.inl ((lowS (bstr (cutW 61 p).1)).toList == t.toList))) (some (.inl false)) : Option (Bool ⊕ (T_Param × Bool))) = some (.inl (decide (kind = k ∧ lowL (cutW 61 p).1 = w))) := by
    intro k t w hw
    by_cases h : kind = k
    · rw [beq_iff_eq.2 h, hk, hw]
      simp [h]
    · rw [beq_eq_false_iff_ne.2 h]
      simp [h]
  by_cases g1 : kind = 2 ∧ lowL (cutW 61 p).1 = [115, 105, 122, 101]
  · have h1 := guard 2 (⟨#[115, 105, 122, 101]⟩ : ByteArray) _ rfl
    rw [show (decide (kind = 2 ∧ lowL (cutW 61 p).1 = sbytes (⟨#[115, 105, 122, 101]⟩ : ByteArray))) = true from decide_eq_true g1] at h1
    rw [if_pos g1]
    obtain ⟨n, hn⟩ := num_eq (bstr (cutW 61 p).2.1)
    rw [hv] at hn
    refine ⟨T_Param.mk (⟨#[83, 73, 90, 69]⟩ : ByteArray) (bstr (cutW 61 p).2.1), bndL h1 (cnd_t rfl (bnd hn ?_)), ?_⟩
    · cases numB (cutW 61 p).2.1 <;> rfl
    · intro x hx
      split at hx
      · cases hx; rfl
      · cases hx
  have h1 := guard 2 (⟨#[115, 105, 122, 101]⟩ : ByteArray) _ rfl
  rw [show (decide (kind = 2 ∧ lowL (cutW 61 p).1 = sbytes (⟨#[115, 105, 122, 101]⟩ : ByteArray))) = false from decide_eq_false g1] at h1
  rw [if_neg g1]
  by_cases g2 : kind = 2 ∧ lowL (cutW 61 p).1 = [114, 101, 116]
  · have h2 := guard 2 (⟨#[114, 101, 116]⟩ : ByteArray) _ rfl
    rw [show (decide (kind = 2 ∧ lowL (cutW 61 p).1 = sbytes (⟨#[114, 101, 116]⟩ : ByteArray))) = true from decide_eq_true g2] at h2
    rw [if_pos g2]
    have ho := oneOf_eq (bstr (cutW 61 p).2.1) (⟨#[70, 85, 76, 76]⟩ : ByteArray) (⟨#[72, 68, 82, 83]⟩ : ByteArray) hsz (by decide) (by decide)
    rw [hv, show lowL (sbytes (⟨#[70, 85, 76, 76]⟩ : ByteArray)) = [102, 117, 108, 108] from rfl, show lowL (sbytes (⟨#[72, 68, 82, 83]⟩ : ByteArray)) = [104, 100, 114, 115] from rfl] at ho
    by_cases q1 : lowL (cutW 61 p).2.1 = [102, 117, 108, 108]
    · rw [if_pos q1] at ho
      rw [if_pos q1]
      exact ⟨_, bndL h1 (cnd_f rfl (bndL h2 (cnd_t rfl (bnd ho rfl)))), fun x hx => by cases hx; rfl⟩
    · rw [if_neg q1] at ho
      rw [if_neg q1]
      by_cases q2 : lowL (cutW 61 p).2.1 = [104, 100, 114, 115]
      · rw [if_pos q2] at ho
        rw [if_pos q2]
        exact ⟨_, bndL h1 (cnd_f rfl (bndL h2 (cnd_t rfl (bnd ho rfl)))), fun x hx => by cases hx; rfl⟩
      · rw [if_neg q2] at ho
        rw [if_neg q2]
        exact ⟨_, bndL h1 (cnd_f rfl (bndL h2 (cnd_t rfl (bnd ho rfl)))), fun x hx => by cases hx⟩
  have h2 := guard 2 (⟨#[114, 101, 116]⟩ : ByteArray) _ rfl
  rw [show (decide (kind = 2 ∧ lowL (cutW 61 p).1 = sbytes (⟨#[114, 101, 116]⟩ : ByteArray))) = false from decide_eq_false g2] at h2
  rw [if_neg g2]
  by_cases g3 : kind = 3 ∧ lowL (cutW 61 p).1 = [110, 111, 116, 105, 102, 121]
  · have h3 := guard 3 (⟨#[110, 111, 116, 105, 102, 121]⟩ : ByteArray) _ rfl
    rw [show (decide (kind = 3 ∧ lowL (cutW 61 p).1 = sbytes (⟨#[110, 111, 116, 105, 102, 121]⟩ : ByteArray))) = true from decide_eq_true g3] at h3
    rw [if_pos g3]
    have ho := oneOf_eq (bstr (cutW 61 p).2.1) (⟨#[78, 69, 86, 69, 82]⟩ : ByteArray) (⟨#[70, 65, 73, 76, 85, 82, 69]⟩ : ByteArray) hsz (by decide) (by decide)
    rw [hv, show lowL (sbytes (⟨#[78, 69, 86, 69, 82]⟩ : ByteArray)) = [110, 101, 118, 101, 114] from rfl, show lowL (sbytes (⟨#[70, 65, 73, 76, 85, 82, 69]⟩ : ByteArray)) = [102, 97, 105, 108, 117, 114, 101] from rfl] at ho
    by_cases q1 : lowL (cutW 61 p).2.1 = [110, 101, 118, 101, 114]
    · rw [if_pos q1] at ho
      rw [if_pos q1]
      exact ⟨_, bndL h1 (cnd_f rfl (bndL h2 (cnd_f rfl (bndL h3 (cnd_t rfl (bnd ho rfl)))))), fun x hx => by cases hx; rfl⟩
    · rw [if_neg q1] at ho
      rw [if_neg q1]
      by_cases q2 : lowL (cutW 61 p).2.1 = [102, 97, 105, 108, 117, 114, 101]
      · rw [if_pos q2] at ho
        rw [if_pos q2]
        exact ⟨_, bndL h1 (cnd_f rfl (bndL h2 (cnd_f rfl (bndL h3 (cnd_t rfl (bnd ho rfl)))))), fun x hx => by cases hx; rfl⟩
      · rw [if_neg q2] at ho
        rw [if_neg q2]
        exact ⟨_, bndL h1 (cnd_f rfl (bndL h2 (cnd_f rfl (bndL h3 (cnd_t rfl (bnd ho rfl)))))), fun x hx => by cases hx⟩
  have h3 := guard 3 (⟨#[110, 111, 116, 105, 102, 121]⟩ : ByteArray) _ rfl
  rw [show (decide (kind = 3 ∧ lowL (cutW 61 p).1 = sbytes (⟨#[110, 111, 116, 105, 102, 121]⟩ : ByteArray))) = false from decide_eq_false g3] at h3
  rw [if_neg g3]
  exact ⟨_, bndL h1 (cnd_f rfl (bndL h2 (cnd_f rfl (bndL h3 (cnd_f rfl rfl))))), fun x hx => by cases hx⟩
end Go.Abs.Sh
