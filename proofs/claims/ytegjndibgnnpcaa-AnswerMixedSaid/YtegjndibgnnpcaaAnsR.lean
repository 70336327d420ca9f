import Derived.Test.YtegjndibgnnpcaaAnsB
import Derived.Test.YtegjndibgnnpcaaLineM
namespace Go.Abs.Sh
set_option linter.unusedVariables false
set_option linter.unusedSimpArgs false

def numS (v1 : List Int) : ((Int × Int)) → Option ((Int × Int) ⊕ ((Int) ⊕ (Int × Bool))) := (fun ((s23, s24) : Int × Int) =>
  cond ((decide (s24 < (v1.length : Int))))
    ((ixO s24 v1.length).bind fun v3 =>
    (getO v1 v3).bind fun v4 =>
    bindS (S := Bool) (A := ((Int × Int) ⊕ ((Int) ⊕ (Int × Bool))))
      (cond ((decide (v4 < 48)))
        (some (.inl true))
        (some (.inl ((decide (57 < v4))))))
      (fun (s39 : Bool) =>
        cond (s39)
          (some (.inr (.inr ((0, false)))))
          ((some (IntKind.i64.wrap (10 * s23))).bind fun v10 =>
          (some (IntKind.u8.wrap (v4 - 48))).bind fun v11 =>
          (some (IntKind.i64.wrap v11)).bind fun v12 =>
          (some (IntKind.i64.wrap (v10 + v12))).bind fun v13 =>
          (some (IntKind.i64.wrap (s24 + 1))).bind fun v14 =>
          some (.inl (v13, v14)))) some)
    (some (.inr (.inl s23))))
def rnumS (s : ByteArray) : ((Int × Int)) → Option ((Int × Int) ⊕ ((Int) ⊕ Int)) := (fun ((s22, s23) : Int × Int) =>
        cond ((decide (s23 < (s.size : Int))))
          ((chrO s s23).bind fun v9 =>
          (wherryref11_digit v9).bind fun v10 =>
          cond ((!v10))
            (some (.inr (.inr ((-1)))))
            ((some (IntKind.i64.wrap (10 * s22))).bind fun v12 =>
            (chrO s s23).bind fun v13 =>
            (some (IntKind.u8.wrap (v13 - 48))).bind fun v14 =>
            (some (IntKind.i64.wrap v14)).bind fun v15 =>
            (some (IntKind.i64.wrap (v12 + v15))).bind fun v16 =>
            (some (IntKind.i64.wrap (s23 + 1))).bind fun v17 =>
            some (.inl (v16, v17))))
          (some (.inr (.inl s22))))
def rendS (b : List Int) : ((Int)) → Option ((Int) ⊕ ((Unit) ⊕ Int)) := (fun (s21 : Int) =>
  (some (IntKind.i64.wrap (s21 + 1))).bind fun v1 =>
  cond ((decide (v1 < (b.length : Int))))
    (bindS (S := Bool) (A := ((Int) ⊕ ((Unit) ⊕ Int)))
      ((ixO s21 b.length).bind fun v3 =>
      (getO b v3).bind fun v4 =>
      cond ((v4 == 13))
        ((some (IntKind.i64.wrap (s21 + 1))).bind fun v5 =>
        (ixO v5 b.length).bind fun v6 =>
        (getO b v6).bind fun v7 =>
        some (.inl (v7 == 10)))
        (some (.inl false)))
      (fun (s35 : Bool) =>
        cond (s35)
          (some (.inr (.inr (s21))))
          ((some (IntKind.i64.wrap (s21 + 1))).bind fun v13 =>
          some (.inl v13))) some)
    (some (.inr (.inl ()))))
def rdS (b : List Int) : ((Int × (List ByteArray) × Int)) → Option ((Int × (List ByteArray) × Int) ⊕ ((Int × (List ByteArray)) ⊕ (T_Reply × Int × Int))) := (fun ((s43, s44, s45) : Int × (List ByteArray) × Int) =>
  cond ((decide ((s44.length : Int) < 20)))
    ((sliO b s45 (b.length : Int)).bind fun v2 =>
    (bytes_Index v2 [13, 10]).bind fun v3 =>
    cond ((decide (v3 < 4)))
      (some (.inr (.inl (s43, s44))))
      ((some (IntKind.i64.wrap (s45 + v3))).bind fun v5 =>
      (sliO b s45 v5).bind fun v6 =>
      (some (IntKind.i64.wrap (v3 + 2))).bind fun v7 =>
      (some (IntKind.i64.wrap (s45 + v7))).bind fun v8 =>
      (answer_number v6).bind fun v9 =>
      bindS (S := Bool) (A := ((Int × (List ByteArray) × Int) ⊕ ((Int × (List ByteArray)) ⊕ (T_Reply × Int × Int))))
        (cond ((!v9.2))
          (some (.inl true))
          (cond ((decide (0 < (s44.length : Int))))
            (some (.inl (v9.1 != s43)))
            (some (.inl false))))
        (fun (s69 : Bool) =>
          cond (s69)
            (some (.inr (.inl (s43, s44))))
            ((sliO v6 4 (v6.length : Int)).bind fun v15 =>
            (some (bstr v15)).bind fun v16 =>
            (appO 16 s44 [v16]).bind fun v17 =>
            (ixO 3 v6.length).bind fun v18 =>
            (getO v6 v18).bind fun v19 =>
            bindS (S := Bool) (A := ((Int × (List ByteArray) × Int) ⊕ ((Int × (List ByteArray)) ⊕ (T_Reply × Int × Int))))
              (cond ((v19 == 32))
                ((answer_Check (T_Reply.mk v9.1 v17)).bind fun v20 =>
                some (.inl (v20 == 0)))
                (some (.inl false)))
              (fun (s74 : Bool) =>
                cond (s74)
                  (some (.inr (.inr (((T_Reply.mk v9.1 v17), v8, 0)))))
                  (cond ((v19 != 45))
                    (some (.inr (.inl (v9.1, v17))))
                    (some (.inl (v9.1, v17, v8))))) some)) some))
    (some (.inr (.inl (s43, s44)))))
def rrdS (b : List Int) : ((Int × (List ByteArray) × Int)) → Option ((Int × (List ByteArray) × Int) ⊕ ((Unit) ⊕ (T_Reply × Int × Bool))) := (fun ((s43, s44, s45) : Int × (List ByteArray) × Int) =>
  (wherryref11_end b s45).bind fun v1 =>
  bindS (S := Bool) (A := ((Int × (List ByteArray) × Int) ⊕ ((Unit) ⊕ (T_Reply × Int × Bool))))
    (cond ((decide (v1 < 0)))
      (some (.inl true))
      ((some (IntKind.i64.wrap (v1 - s45))).bind fun v2 =>
      cond ((decide (v2 < 4)))
        (some (.inl true))
        (some (.inl ((decide (20 ≤ (s44.length : Int))))))))
    (fun (s64 : Bool) =>
      cond (s64)
        (some (.inr (.inr (((T_Reply.mk 0 []), 0, false)))))
        ((sliO b s45 v1).bind fun v8 =>
        (some (bstr v8)).bind fun v9 =>
        (subO v9 0 3).bind fun v10 =>
        (wherryref11_number v10 3).bind fun v11 =>
        bindS (S := Bool) (A := ((Int × (List ByteArray) × Int) ⊕ ((Unit) ⊕ (T_Reply × Int × Bool))))
          (cond ((decide (v11 < 0)))
            (some (.inl true))
            (cond ((decide (0 < (s44.length : Int))))
              (cond ((v11 != s43))
                (some (.inl true))
                ((chrO v9 3).bind fun v12 =>
                cond ((v12 != 45))
                  ((chrO v9 3).bind fun v13 =>
                  some (.inl (v13 != 32)))
                  (some (.inl false))))
              ((chrO v9 3).bind fun v14 =>
              cond ((v14 != 45))
                ((chrO v9 3).bind fun v15 =>
                some (.inl (v15 != 32)))
                (some (.inl false)))))
          (fun (s69 : Bool) =>
            cond (s69)
              (some (.inr (.inr (((T_Reply.mk 0 []), 0, false)))))
              ((subO v9 4 (v9.size : Int)).bind fun v21 =>
              (appO 16 s44 [v21]).bind fun v22 =>
              (some (IntKind.i64.wrap (v1 + 2))).bind fun v23 =>
              (chrO v9 3).bind fun v24 =>
              cond ((v24 == 32))
                ((wherryref11_Reply (T_Reply.mk v11 v22)).bind fun v26 =>
                cond ((!v26))
                  (some (.inr (.inr (((T_Reply.mk 0 []), 0, false)))))
                  (some (.inr (.inr (((T_Reply.mk v11 v22), v23, true))))))
                (some (.inl (v11, v22, v23))))) some)) some)

def dig (x : Int) : Bool := decide (48 ≤ x) && decide (x ≤ 57)
def num3 : List Int → Option Int
  | x :: y :: z :: _ => cond (dig x && dig y && dig z) (some (100 * (x - 48) + 10 * (y - 48) + (z - 48))) none
  | _ => none

theorem num3_cons (x y z : Int) (t : List Int) : num3 (x :: y :: z :: t) = cond (dig x && dig y && dig z) (some (100 * (x - 48) + 10 * (y - 48) + (z - 48))) none := rfl
theorem num_step (v : List Int) (hv : v.length ≤ 100) (i : Nat) (a : Int) (h : i < v.length) (hb : byt v) (ha0 : 0 ≤ a) (ha : a ≤ 100000) : numS v (a, (i : Int)) = some (cond (dig v[i]) (.inl (10 * a + (v[i] - 48), ((i + 1 : Nat) : Int))) (.inr (.inr (0, false)))) := by
  obtain ⟨x, hx⟩ : ∃ x, x = v[i] := ⟨_, rfl⟩
  have hg := getO_of h
  rw [← hx] at hg ⊢
  have hxb := hb x (by rw [hx]; exact List.getElem_mem h)
  unfold numS
  refine cnd_t (decide_eq_true (by omega)) (bnd (ixO_of h) (bnd hg ?_))
  unfold dig
  by_cases h1 : x < 48
  · rw [show decide (48 ≤ x) = false from decide_eq_false (by omega)]
    exact bndL (s := true) (cnd_t (decide_eq_true h1) rfl) rfl
  rw [show decide (48 ≤ x) = true from decide_eq_true (by omega)]
  by_cases h2 : 57 < x
  · rw [show decide (x ≤ 57) = false from decide_eq_false (by omega)]
    exact bndL (s := true) (cnd_f (decide_eq_false h1) (by rw [show decide (57 < x) = true from decide_eq_true h2])) rfl
  rw [show decide (x ≤ 57) = true from decide_eq_true (by omega)]
  refine bndL (s := false) (cnd_f (decide_eq_false h1) (by rw [show decide (57 < x) = false from decide_eq_false h2])) (cnd_f rfl ?_)
  exact bnd (x := 10 * a) (by rw [wrap_i64 (by omega) (by omega)]) (bnd (x := x - 48) (by rw [u8_wrap (by omega) (by omega)]) (bnd (x := x - 48) (by rw [wrap_i64 (by omega) (by omega)]) (bnd (x := 10 * a + (x - 48)) (by rw [wrap_i64 (by omega) (by omega)]) (bnd (by rw [wrap_succ (by omega)]) rfl))))
theorem dig_bd {x : Int} (h : dig x = true) : 48 ≤ x ∧ x ≤ 57 := by
  simp only [dig, Bool.and_eq_true, decide_eq_true_eq] at h; exact h

theorem number13 (line : List Int) (hl : 4 ≤ line.length) (hb : byt line) (hlen : line.length < 100000000) : answer_number line = some (match num3 line with | some k => (k, true) | none => (0, false)) := by
  obtain ⟨x, y, z, t, rfl⟩ : ∃ x y z t, line = x :: y :: z :: t := by
    match line, hl with
    | x :: y :: z :: t, _ => exact ⟨x, y, z, t, rfl⟩
  unfold answer_number
  refine bnd (x := [x, y, z]) (by rw [show ((0 : Int)) = ((0 : Nat) : Int) from rfl, show ((3 : Int)) = ((3 : Nat) : Int) from rfl, sli_nat _ (by omega) (by simp)]; rfl) ?_
  have hb3 : byt [x, y, z] := by intro u hu; simp at hu; rcases hu with rfl | rfl | rfl <;> exact hb _ (by simp)
  have s0 := num_step [x, y, z] (by simp) 0 0 (by simp) hb3 (by omega) (by omega)
  simp only [List.getElem_cons_zero] at s0
  rw [num3_cons]
  cases h0 : dig x
  · rw [h0] at s0; exact bndR (loop_exit (n := BIG - 1) s0) (by simp)
  have d0 := dig_bd h0
  have s1 := num_step [x, y, z] (by simp) 1 (10 * 0 + (x - 48)) (by simp) hb3 (by omega) (by omega)
  simp only [List.getElem_cons_succ, List.getElem_cons_zero] at s1
  rw [h0] at s0
  cases h1 : dig y
  · rw [h1] at s1; exact bndR ((loop_next (n := BIG - 1) s0).trans (loop_exit (n := BIG - 2) s1)) (by simp)
  have d1 := dig_bd h1
  have s2 := num_step [x, y, z] (by simp) 2 (10 * (10 * 0 + (x - 48)) + (y - 48)) (by simp) hb3 (by omega) (by omega)
  simp only [List.getElem_cons_succ, List.getElem_cons_zero] at s2
  rw [h1] at s1
  cases h2 : dig z
  · rw [h2] at s2; exact bndR ((loop_next (n := BIG - 1) s0).trans ((loop_next (n := BIG - 2) s1).trans (loop_exit (n := BIG - 3) s2))) (by simp)
  have d2 := dig_bd h2
  rw [h2] at s2
  have s3 : numS [x, y, z] (10 * (10 * (10 * 0 + (x - 48)) + (y - 48)) + (z - 48), ((3 : Nat) : Int)) = some (.inr (.inl (10 * (10 * (10 * 0 + (x - 48)) + (y - 48)) + (z - 48)))) := by
    unfold numS; exact cnd_f rfl rfl
  refine bndL ((loop_next (n := BIG - 1) s0).trans ((loop_next (n := BIG - 2) s1).trans ((loop_next (n := BIG - 3) s2).trans (loop_exit (n := BIG - 4) s3)))) ?_
  simp only [Bool.and_self, cond_true, Option.some.injEq, Prod.mk.injEq, and_true]
  omega

theorem digit11 (x : Int) : wherryref11_digit x = some (dig x) := by
  unfold wherryref11_digit dig
  by_cases h : 48 ≤ x
  · exact bndL (cnd_t (decide_eq_true h) rfl) (by rw [show decide (48 ≤ x) = true from decide_eq_true h]; rfl)
  · exact bndL (cnd_f (decide_eq_false h) rfl) (by rw [show decide (48 ≤ x) = false from decide_eq_false h]; rfl)
theorem rnum_step (s : ByteArray) (i : Nat) (a : Int) (h : i < s.size) (hs : s.size ≤ 100) (ha0 : 0 ≤ a) (ha : a ≤ 100000) : ∃ x, x = (sbytes s)[i]'(by rw [sbytes_len]; exact h) ∧ rnumS s (a, (i : Int)) = some (cond (dig x) (.inl (10 * a + (x - 48), ((i + 1 : Nat) : Int))) (.inr (.inr (-1)))) := by
  have hc := chr_of h
  obtain ⟨x, hx⟩ : ∃ x, x = (sbytes s)[i]'(by rw [sbytes_len]; exact h) := ⟨_, rfl⟩
  refine ⟨x, hx, ?_⟩
  rw [← hx] at hc
  have hxb := byt_sbytes s x (by rw [hx]; exact List.getElem_mem _)
  unfold rnumS
  refine cnd_t (decide_eq_true (by omega)) (bnd hc (bnd (digit11 x) ?_))
  cases hd : dig x
  · rfl
  have d0 := dig_bd hd
  exact cnd_f rfl (bnd (x := 10 * a) (by rw [wrap_i64 (by omega) (by omega)]) (bnd hc (bnd (x := x - 48) (by rw [u8_wrap (by omega) (by omega)]) (bnd (x := x - 48) (by rw [wrap_i64 (by omega) (by omega)]) (bnd (x := 10 * a + (x - 48)) (by rw [wrap_i64 (by omega) (by omega)]) (bnd (by rw [wrap_succ (by omega)]) rfl))))))
theorem rnumber13 (x y z : Int) (hb : byt [x, y, z]) : wherryref11_number (bstr [x, y, z]) 3 = some (match num3 [x, y, z] with | some k => if x = 48 then -1 else k | none => -1) := by
  have hs : (bstr [x, y, z]).size = 3 := by rw [bstr_size]; rfl
  have e := sbytes_bstr hb
  unfold wherryref11_number
  have hc0 := chr_of (s := bstr [x, y, z]) (i := 0) (by omega)
  have g0 : (sbytes (bstr [x, y, z]))[0]'(by rw [sbytes_len]; omega) = x := by simp [e]
  rw [g0] at hc0
  by_cases hx48 : x = 48
  · refine bndL (s := true) (bnd (in11 _ _ _) ?_) (cnd_t rfl ?_)
    · rw [hs]
      exact cnd_f rfl (cnd_t rfl (bnd hc0 (by rw [hx48]; rfl)))
    · cases num3 [x, y, z] <;> simp [hx48]
  have hne : (x == 48) = false := by simpa using hx48
  refine bndL (s := false) (bnd (in11 _ _ _) ?_) (cnd_f rfl ?_)
  · rw [hs]
    exact cnd_f rfl (cnd_t rfl (bnd hc0 (by rw [hne])))
  obtain ⟨x', hx', s0⟩ := rnum_step (bstr [x, y, z]) 0 0 (by omega) (by omega) (by omega) (by omega)
  have e0 : x' = x := by rw [hx']; exact g0
  subst e0
  rw [num3_cons]
  cases h0 : dig x'
  · rw [h0] at s0; exact bndR (loop_exit (n := BIG - 1) s0) (by simp)
  have d0 := dig_bd h0
  obtain ⟨y', hy', s1⟩ := rnum_step (bstr [x', y, z]) 1 (10 * 0 + (x' - 48)) (by omega) (by omega) (by omega) (by omega)
  have e1 : y' = y := by rw [hy']; simp [e]
  subst e1
  rw [h0] at s0
  cases h1 : dig y'
  · rw [h1] at s1; exact bndR ((loop_next (n := BIG - 1) s0).trans (loop_exit (n := BIG - 2) s1)) (by simp)
  have d1 := dig_bd h1
  obtain ⟨z', hz', s2⟩ := rnum_step (bstr [x', y', z]) 2 (10 * (10 * 0 + (x' - 48)) + (y' - 48)) (by omega) (by omega) (by omega) (by omega)
  have e2 : z' = z := by rw [hz']; simp [e]
  subst e2
  rw [h1] at s1
  cases h2 : dig z'
  · rw [h2] at s2; exact bndR ((loop_next (n := BIG - 1) s0).trans ((loop_next (n := BIG - 2) s1).trans (loop_exit (n := BIG - 3) s2))) (by simp)
  have d2 := dig_bd h2
  rw [h2] at s2
  have s3 : rnumS (bstr [x', y', z']) (10 * (10 * (10 * 0 + (x' - 48)) + (y' - 48)) + (z' - 48), ((3 : Nat) : Int)) = some (.inr (.inl (10 * (10 * (10 * 0 + (x' - 48)) + (y' - 48)) + (z' - 48)))) := by
    unfold rnumS; exact cnd_f (decide_eq_false (by rw [hs]; omega)) rfl
  refine bndL ((loop_next (n := BIG - 1) s0).trans ((loop_next (n := BIG - 2) s1).trans ((loop_next (n := BIG - 3) s2).trans (loop_exit (n := BIG - 4) s3)))) ?_
  simp only [Bool.and_self, cond_true, Option.some.injEq]
  rw [if_neg hx48]
  clear hx' hy' hz'
  omega

/-- The reference's search for a line's end. -/
theorem end11 (b : List Int) (hl : b.length < 1000000) (at_ : Nat) (hat : at_ ≤ b.length) : wherryref11_end b (at_ : Int) = some (match idx2 (b.drop at_) with | none => -1 | some e => ((at_ + e : Nat) : Int)) := by
  have key : ∀ (k at_ fuel : Nat), b.length - at_ = k → at_ ≤ b.length → k < fuel → loopF (rendS b) fuel (at_ : Int) = some (match idx2 (b.drop at_) with | none => .inl () | some e => .inr ((at_ + e : Nat) : Int)) := by
    intro k
    induction k with
    | zero =>
      intro at_ fuel hk ha hf
      obtain ⟨f, rfl⟩ : ∃ f, fuel = f + 1 := ⟨fuel - 1, by omega⟩
      rw [List.drop_eq_nil_of_le (by omega)]
      refine loop_exit ?_
      unfold rendS
      exact bnd (by rw [wrap_succ (by omega)]) (cnd_f (decide_eq_false (by omega)) rfl)
    | succ k ih =>
      intro at_ fuel hk ha hf
      obtain ⟨f, rfl⟩ : ∃ f, fuel = f + 1 := ⟨fuel - 1, by omega⟩
      have hlt : at_ < b.length := by omega
      have ih' := ih (at_ + 1) f (by omega) (by omega) (by omega)
      have hd : b.drop at_ = b[at_] :: b.drop (at_ + 1) := List.drop_eq_getElem_cons hlt
      rw [hd]
      unfold idx2
      by_cases hend : at_ + 1 < b.length
      · have hd2 : b.drop (at_ + 1) = b[at_ + 1] :: b.drop (at_ + 2) := List.drop_eq_getElem_cons hend
        have hh : (b.drop (at_ + 1)).head? = some b[at_ + 1] := by rw [hd2]; rfl
        have hg0 := getO_of hlt
        have hg1 := getO_of hend
        have sel : (bindS (S := Bool) (A := ((Int) ⊕ ((Unit) ⊕ Int)))
            ((ixO (at_ : Int) b.length).bind fun v3 => (getO b v3).bind fun v4 => cond ((v4 == 13)) ((some (IntKind.i64.wrap ((at_ : Int) + 1))).bind fun v5 => (ixO v5 b.length).bind fun v6 => (getO b v6).bind fun v7 => some (.inl (v7 == 10))) (some (.inl false)))
            (fun (s35 : Bool) => cond (s35) (some (.inr (.inr ((at_ : Int))))) ((some (IntKind.i64.wrap ((at_ : Int) + 1))).bind fun v13 => some (.inl v13))) some) =
            some (if b[at_] = 13 ∧ b[at_ + 1] = 10 then .inr (.inr (at_ : Int)) else .inl ((at_ + 1 : Nat) : Int)) := by
          by_cases h13 : b[at_] = 13
          · by_cases h10 : b[at_ + 1] = 10
            · rw [if_pos ⟨h13, h10⟩]
              exact bndL (s := true) (bnd (ixO_of hlt) (bnd hg0 (cnd_t (by simp [h13]) (bnd (by rw [wrap_succ (by omega)]) (bnd (ixO_of hend) (bnd hg1 (by rw [h10]; rfl))))))) rfl
            · rw [if_neg fun h => h10 h.2]
              exact bndL (s := false) (bnd (ixO_of hlt) (bnd hg0 (cnd_t (by simp [h13]) (bnd (by rw [wrap_succ (by omega)]) (bnd (ixO_of hend) (bnd hg1 (by rw [show (b[at_ + 1] == 10) = false by simpa using h10]))))))) (cnd_f rfl (bnd (by rw [wrap_succ (by omega)]) rfl))
          · rw [if_neg fun h => h13 h.1]
            exact bndL (s := false) (bnd (ixO_of hlt) (bnd hg0 (cnd_f (by simpa using h13) rfl))) (cnd_f rfl (bnd (by rw [wrap_succ (by omega)]) rfl))
        rw [hh]
        simp only [Option.some.injEq]
        by_cases hc : b[at_] = 13 ∧ b[at_ + 1] = 10
        · rw [if_pos hc] at sel
          rw [if_pos hc]
          refine loop_exit ?_
          unfold rendS
          exact bnd (by rw [wrap_succ (by omega)]) (cnd_t (decide_eq_true (by omega)) sel)
        · rw [if_neg hc] at sel
          rw [if_neg hc]
          refine (loop_next (s' := ((at_ + 1 : Nat) : Int)) ?_).trans (ih'.trans ?_)
          · unfold rendS
            exact bnd (by rw [wrap_succ (by omega)]) (cnd_t (decide_eq_true (by omega)) sel)
          · cases idx2 (b.drop (at_ + 1)) with
            | none => rfl
            | some e => simp only [Option.map_some]; congr 2; omega
      · have hd2 : b.drop (at_ + 1) = [] := List.drop_eq_nil_of_le (by omega)
        rw [hd2]
        simp only [List.head?_nil, reduceCtorEq, and_false, if_false, idx2, Option.map_none]
        refine loop_exit ?_
        unfold rendS
        exact bnd (by rw [wrap_succ (by omega)]) (cnd_f (decide_eq_false (by omega)) rfl)
  unfold wherryref11_end
  have lp := key (b.length - at_) at_ BIG rfl hat (by unfold BIG; omega)
  cases h : idx2 (b.drop at_) with
  | none => rw [h] at lp; exact bndL lp rfl
  | some e => rw [h] at lp; exact bndR lp rfl
end Go.Abs.Sh
