import Derived.Test.YtegjndibgnnpcaaAnsR
namespace Go.Abs.Sh
set_option linter.unusedVariables false
set_option linter.unusedSimpArgs false

inductive Stp where
  | fail
  | done (r : T_Reply) (n : Nat)
  | next (c : Int) (ls : List ByteArray) (at_ : Nat)

/-- One line. -/
def stepP (z : Bool) (b : List Int) (c : Int) (ls : List ByteArray) (at_ : Nat) : Stp :=
  if 20 ≤ ls.length then .fail else
  match idx2 (b.drop at_) with
  | none => .fail
  | some e =>
    if e < 4 then .fail else
    match num3 ((b.drop at_).take e) with
    | none => .fail
    | some k =>
      if z = true ∧ b.getD at_ 0 = 48 then .fail else
      if 0 < ls.length ∧ k ≠ c then .fail else
      if b.getD (at_ + 3) 0 = 32 then (if okRep ⟨k, ls ++ [bstr (((b.drop at_).take e).drop 4)]⟩ = true then .done ⟨k, ls ++ [bstr (((b.drop at_).take e).drop 4)]⟩ (at_ + e + 2) else .fail)
      else if b.getD (at_ + 3) 0 = 45 then .next k (ls ++ [bstr (((b.drop at_).take e).drop 4)]) (at_ + e + 2) else .fail

theorem take_getD {b line : List Int} {at_ e : Nat} (hline : line = (b.drop at_).take e) (i : Nat) (h : i < e) (h2 : at_ + i < b.length) : ∃ hi : i < line.length, line[i] = b.getD (at_ + i) 0 := by
  subst hline
  have hl : i < ((b.drop at_).take e).length := by rw [List.length_take, List.length_drop]; omega
  refine ⟨hl, ?_⟩
  simp [List.getElem_take, List.getElem_drop, List.getD_eq_getElem?_getD, List.getElem?_eq_getElem h2]

theorem rd_step (b : List Int) (hb : byt b) (hl : b.length ≤ 100000) (c : Int) (ls : List ByteArray) (at_ : Nat) (hat : at_ ≤ b.length) (h20 : ls.length ≤ 20) :
    match stepP false b c ls at_ with
    | .fail => ∃ x, rdS b (c, ls, (at_ : Int)) = some (.inr (.inl x))
    | .done r n => rdS b (c, ls, (at_ : Int)) = some (.inr (.inr (r, (n : Int), 0)))
    | .next c' ls' at' => rdS b (c, ls, (at_ : Int)) = some (.inl (c', ls', (at' : Int))) := by
  unfold stepP
  by_cases h1 : 20 ≤ ls.length
  · rw [if_pos h1]
    exact ⟨(c, ls), by unfold rdS; exact cnd_f (decide_eq_false (by omega)) rfl⟩
  rw [if_neg h1]
  have hsl := sli_nat b (a := at_) (b := b.length) hat (Nat.le_refl _)
  rw [List.take_of_length_le (by rw [List.length_drop]; omega)] at hsl
  have hix := bytesIndex2 (byt_drop hb at_) (by rw [List.length_drop]; omega)
  cases he : idx2 (b.drop at_) with
  | none =>
    rw [he] at hix
    exact ⟨(c, ls), by unfold rdS; exact cnd_t (decide_eq_true (by omega)) (bnd hsl (bnd hix (cnd_t rfl rfl)))⟩
  | some e =>
    rw [he] at hix
    dsimp only at hix ⊢
    obtain ⟨hel, _⟩ := idx2_some he
    rw [List.length_drop] at hel
    by_cases h4 : e < 4
    · rw [if_pos h4]
      exact ⟨(c, ls), by unfold rdS; exact cnd_t (decide_eq_true (by omega)) (bnd hsl (bnd hix (cnd_t (decide_eq_true (by omega)) rfl)))⟩
    rw [if_neg h4]
    obtain ⟨line, hline⟩ : ∃ line, line = (b.drop at_).take e := ⟨_, rfl⟩
    have hll : line.length = e := by rw [hline, List.length_take, List.length_drop]; omega
    have hlb : byt line := by rw [hline]; exact byt_take (byt_drop hb _) _
    have w1 : IntKind.i64.wrap ((at_ : Int) + (e : Int)) = ((at_ + e : Nat) : Int) := by rw [wrap_i64 (by omega) (by omega)]; simp
    have w2 : IntKind.i64.wrap ((e : Int) + 2) = ((e + 2 : Nat) : Int) := by rw [wrap_i64 (by omega) (by omega)]; simp
    have w3 : IntKind.i64.wrap ((at_ : Int) + ((e + 2 : Nat) : Int)) = ((at_ + e + 2 : Nat) : Int) := by rw [wrap_i64 (by omega) (by omega)]; simp; omega
    have hs1 := sli_nat b (a := at_) (b := at_ + e) (by omega) (by omega)
    rw [show at_ + e - at_ = e by omega, ← hline] at hs1
    have hnum := number13 line (by omega) hlb (by omega)
    rw [← hline]
    have pre : ∀ {R : Option ((Int × (List ByteArray) × Int) ⊕ ((Int × (List ByteArray)) ⊕ (T_Reply × Int × Int)))} (v9 : Int × Bool), answer_number line = some v9 →
        bindS (S := Bool) (A := ((Int × (List ByteArray) × Int) ⊕ ((Int × (List ByteArray)) ⊕ (T_Reply × Int × Int))))
            (cond ((!v9.2)) (some (.inl true)) (cond ((decide (0 < (ls.length : Int)))) (some (.inl (v9.1 != c))) (some (.inl false))))
            (fun (s69 : Bool) =>
              cond (s69)
                (some (.inr (.inl (c, ls))))
                ((sliO line 4 (line.length : Int)).bind fun v15 =>
                (some (bstr v15)).bind fun v16 =>
                (appO 16 ls [v16]).bind fun v17 =>
                (ixO 3 line.length).bind fun v18 =>
                (getO line v18).bind fun v19 =>
                bindS (S := Bool) (A := ((Int × (List ByteArray) × Int) ⊕ ((Int × (List ByteArray)) ⊕ (T_Reply × Int × Int))))
                  (cond ((v19 == 32)) ((answer_Check (T_Reply.mk v9.1 v17)).bind fun v20 => some (.inl (v20 == 0))) (some (.inl false)))
                  (fun (s74 : Bool) =>
                    cond (s74)
                      (some (.inr (.inr (((T_Reply.mk v9.1 v17), ((at_ + e + 2 : Nat) : Int), 0)))))
                      (cond ((v19 != 45))
                        (some (.inr (.inl (v9.1, v17))))
                        (some (.inl (v9.1, v17, ((at_ + e + 2 : Nat) : Int)))))) some)) some = R → rdS b (c, ls, (at_ : Int)) = R := by
      intro R v9 h9 hR
      unfold rdS
      exact cnd_t (decide_eq_true (by omega)) (bnd hsl (bnd hix (cnd_f (decide_eq_false (by omega)) (bnd (by rw [w1]) (bnd hs1 (bnd (by rw [w2]) (bnd (by rw [w3]) (bnd h9 hR))))))))
    cases hn : num3 line with
    | none =>
      rw [hn] at hnum
      exact ⟨(c, ls), pre _ hnum rfl⟩
    | some k =>
      rw [hn] at hnum
      dsimp only at hnum ⊢
      rw [if_neg (by simp)]
      by_cases hk : 0 < ls.length ∧ k ≠ c
      · rw [if_pos hk]
        exact ⟨(c, ls), pre _ hnum (bndL (s := true) (cnd_f rfl (cnd_t (decide_eq_true (by omega)) (by rw [show (k != c) = true by simpa using hk.2]))) rfl)⟩
      rw [if_neg hk]
      have hsel : (cond ((!(k, true).2)) (some (.inl true)) (cond ((decide (0 < (ls.length : Int)))) (some (.inl ((k, true).1 != c))) (some (.inl false))) : Option (Bool ⊕ ((Int × (List ByteArray) × Int) ⊕ ((Int × (List ByteArray)) ⊕ (T_Reply × Int × Int))))) = some (.inl false) := by
        refine cnd_f rfl ?_
        by_cases h0 : 0 < ls.length
        · have hkc : k = c := Classical.byContradiction fun h => hk ⟨h0, h⟩
          exact cnd_t (decide_eq_true (by omega)) (by rw [hkc]; simp)
        · exact cnd_f (decide_eq_false (by omega)) rfl
      have hs4 := sli_nat line (a := 4) (b := line.length) (by omega) (Nat.le_refl _)
      rw [List.take_of_length_le (by rw [List.length_drop]; omega)] at hs4
      have happ : appO 16 ls [bstr (line.drop 4)] = some (ls ++ [bstr (line.drop 4)]) := app_of (by simp; omega) (by simp; omega)
      obtain ⟨h3, hm⟩ := take_getD hline 3 (by omega) (by omega)
      have hg3 : getO line 3 = some (b.getD (at_ + 3) 0) := by
        rw [← hm]
        exact getO_of h3
      obtain ⟨m, hmm⟩ : ∃ m, m = b.getD (at_ + 3) 0 := ⟨_, rfl⟩
      rw [← hmm] at hg3 ⊢
      have hck := check13 ⟨k, ls ++ [bstr (line.drop 4)]⟩
      have go : ∀ {R : Option ((Int × (List ByteArray) × Int) ⊕ ((Int × (List ByteArray)) ⊕ (T_Reply × Int × Int)))}, bindS (S := Bool) (A := ((Int × (List ByteArray) × Int) ⊕ ((Int × (List ByteArray)) ⊕ (T_Reply × Int × Int))))
                  (cond ((m == 32)) ((answer_Check (T_Reply.mk k (ls ++ [bstr (line.drop 4)]))).bind fun v20 => some (.inl (v20 == 0))) (some (.inl false)))
                  (fun (s74 : Bool) =>
                    cond (s74)
                      (some (.inr (.inr (((T_Reply.mk k (ls ++ [bstr (line.drop 4)])), ((at_ + e + 2 : Nat) : Int), 0)))))
                      (cond ((m != 45))
                        (some (.inr (.inl (k, (ls ++ [bstr (line.drop 4)])))))
                        (some (.inl (k, (ls ++ [bstr (line.drop 4)]), ((at_ + e + 2 : Nat) : Int)))))) some = R → rdS b (c, ls, (at_ : Int)) = R := by
        intro R hR
        exact pre _ hnum (bndL (s := false) hsel (cnd_f rfl (bnd hs4 (bnd rfl (bnd happ (bnd (ixO_of (i := 3) (by omega)) (bnd hg3 hR)))))))
      by_cases h32 : m = 32
      · rw [if_pos h32]
        cases hok : okRep ⟨k, ls ++ [bstr (line.drop 4)]⟩ with
        | false =>
          rw [hok] at hck
          rw [if_neg (by simp)]
          exact ⟨_, go (bndL (s := false) (cnd_t (by simpa using h32) (bnd hck rfl)) (cnd_f rfl (cnd_t (by rw [h32]; rfl) rfl)))⟩
        | true =>
          rw [hok] at hck
          rw [if_pos rfl]
          exact go (bndL (s := true) (cnd_t (by simpa using h32) (bnd hck rfl)) rfl)
      · rw [if_neg h32]
        by_cases h45 : m = 45
        · rw [if_pos h45]
          exact go (bndL (s := false) (cnd_f (by simpa using h32) rfl) (cnd_f rfl (cnd_f (by rw [h45]; rfl) rfl)))
        · rw [if_neg h45]
          exact ⟨_, go (bndL (s := false) (cnd_f (by simpa using h32) rfl) (cnd_f rfl (cnd_t (by simpa using h45) rfl)))⟩

theorem rrd_step (b : List Int) (hb : byt b) (hl : b.length ≤ 100000) (c : Int) (ls : List ByteArray) (at_ : Nat) (hat : at_ ≤ b.length) (h20 : ls.length ≤ 20) :
    rrdS b (c, ls, (at_ : Int)) = some (match stepP true b c ls at_ with
    | .fail => .inr (.inr (T_Reply.mk 0 [], 0, false))
    | .done r n => .inr (.inr (r, (n : Int), true))
    | .next c' ls' at' => .inl (c', ls', (at' : Int))) := by
  unfold stepP
  have hend := end11 b (by omega) at_ hat
  cases he : idx2 (b.drop at_) with
  | none =>
    rw [he] at hend
    have : rrdS b (c, ls, (at_ : Int)) = some (.inr (.inr (T_Reply.mk 0 [], 0, false))) := by
      unfold rrdS; exact bnd hend (bndL (s := true) (cnd_t rfl rfl) rfl)
    by_cases h1 : 20 ≤ ls.length
    · rw [if_pos h1]; exact this
    · rw [if_neg h1]; exact this
  | some e =>
    rw [he] at hend
    dsimp only at hend ⊢
    obtain ⟨hel, _⟩ := idx2_some he
    rw [List.length_drop] at hel
    have w0 : IntKind.i64.wrap (((at_ + e : Nat) : Int) - (at_ : Int)) = (e : Int) := by rw [wrap_i64 (by omega) (by omega)]; omega
    by_cases h1 : 20 ≤ ls.length
    · rw [if_pos h1]
      unfold rrdS
      refine bnd hend (bndL (s := true) (cnd_f (decide_eq_false (Int.not_lt.2 (Int.natCast_nonneg _))) (bnd (by rw [w0]) ?_)) rfl)
      by_cases h4 : e < 4
      · exact cnd_t (decide_eq_true (by omega)) rfl
      · exact cnd_f (decide_eq_false (by omega)) (by rw [show decide (20 ≤ (ls.length : Int)) = true from decide_eq_true (by omega)])
    rw [if_neg h1]
    by_cases h4 : e < 4
    · rw [if_pos h4]
      unfold rrdS
      exact bnd hend (bndL (s := true) (cnd_f (decide_eq_false (Int.not_lt.2 (Int.natCast_nonneg _))) (bnd (by rw [w0]) (cnd_t (decide_eq_true (by omega)) rfl))) rfl)
    rw [if_neg h4]
    obtain ⟨line, hline⟩ : ∃ line, line = (b.drop at_).take e := ⟨_, rfl⟩
    have hll : line.length = e := by rw [hline, List.length_take, List.length_drop]; omega
    have hlb : byt line := by rw [hline]; exact byt_take (byt_drop hb _) _
    have hs1 := sli_nat b (a := at_) (b := at_ + e) (by omega) (by omega)
    rw [show at_ + e - at_ = e by omega, ← hline] at hs1
    have hsz : (bstr line).size = e := by rw [bstr_size, hll]
    have esb := sbytes_bstr hlb
    obtain ⟨x, y, z, t, hxyz⟩ : ∃ x y z t, line = x :: y :: z :: t := by
      match line, hll with
      | x :: y :: z :: t, _ => exact ⟨x, y, z, t, rfl⟩
      | [_, _], h => simp at h; omega
      | [_], h => simp at h; omega
      | [], h => simp at h; omega
    have hsub3 : subO (bstr line) 0 3 = some (bstr [x, y, z]) := by
      have := sub_of (s := bstr line) (a := 0) (b := 3) (by omega) (by omega)
      rw [esb, hxyz] at this
      rw [hxyz]; simpa using this
    have hb3 : byt [x, y, z] := by intro u hu; simp at hu; rcases hu with rfl | rfl | rfl <;> exact hlb _ (by rw [hxyz]; simp)
    obtain ⟨v11, hnum, h11a, h11b⟩ : ∃ v11, wherryref11_number (bstr [x, y, z]) 3 = some v11 ∧ (∀ k, num3 [x, y, z] = some k → v11 = if x = 48 then -1 else k) ∧ (num3 [x, y, z] = none → v11 = -1) := ⟨_, rnumber13 x y z hb3, fun k h => by rw [h], fun h => by rw [h]⟩
    have hx0 : b.getD at_ 0 = x := by
      obtain ⟨h0, hm0⟩ := take_getD hline 0 (by omega) (by omega)
      rw [Nat.add_zero] at hm0
      rw [← hm0]
      simp [hxyz]
    have en3 : num3 line = num3 [x, y, z] := by rw [hxyz]; rfl
    have hchr : chrO (bstr line) 3 = some (b.getD (at_ + 3) 0) := by
      obtain ⟨h3, hm3⟩ := take_getD hline 3 (by omega) (by omega)
      have := chr_of (s := bstr line) (i := 3) (by omega)
      rw [← hm3]
      have e3 : (sbytes (bstr line))[3]'(by rw [sbytes_len]; omega) = line[3] := by simp only [esb]
      rw [← e3]; exact this
    rw [← hline, en3, hx0]
    obtain ⟨m, hmm⟩ : ∃ m, m = b.getD (at_ + 3) 0 := ⟨_, rfl⟩
    rw [← hmm] at hchr ⊢
    have hsub4 : subO (bstr line) 4 ((bstr line).size : Int) = some (bstr (line.drop 4)) := by
      have := sub_of (s := bstr line) (a := 4) (b := (bstr line).size) (by omega) (Nat.le_refl _)
      rw [esb, List.take_of_length_le (by rw [List.length_drop]; omega)] at this
      exact this
    have happ : appO 16 ls [bstr (line.drop 4)] = some (ls ++ [bstr (line.drop 4)]) := app_of (by simp; omega) (by simp; omega)
    have w2 : IntKind.i64.wrap (((at_ + e : Nat) : Int) + 2) = ((at_ + e + 2 : Nat) : Int) := by rw [wrap_i64 (by omega) (by omega)]; simp
    have pre : ∀ {R : Option ((Int × (List ByteArray) × Int) ⊕ ((Unit) ⊕ (T_Reply × Int × Bool)))} (bad : Bool),
        (cond ((decide (v11 < 0))) (some (.inl true)) (cond ((decide (0 < (ls.length : Int)))) (cond ((v11 != c)) (some (.inl true)) ((chrO (bstr line) 3).bind fun v12 => cond ((v12 != 45)) ((chrO (bstr line) 3).bind fun v13 => some (.inl (v13 != 32))) (some (.inl false)))) ((chrO (bstr line) 3).bind fun v14 => cond ((v14 != 45)) ((chrO (bstr line) 3).bind fun v15 => some (.inl (v15 != 32))) (some (.inl false)))) : Option (Bool ⊕ ((Int × (List ByteArray) × Int) ⊕ ((Unit) ⊕ (T_Reply × Int × Bool))))) = some (.inl bad) →
        cond bad (some (.inr (.inr (((T_Reply.mk 0 []), 0, false)))))
                  (cond ((m == 32))
                    ((wherryref11_Reply (T_Reply.mk v11 (ls ++ [bstr (line.drop 4)]))).bind fun v26 =>
                    cond ((!v26))
                      (some (.inr (.inr (((T_Reply.mk 0 []), 0, false)))))
                      (some (.inr (.inr (((T_Reply.mk v11 (ls ++ [bstr (line.drop 4)])), ((at_ + e + 2 : Nat) : Int), true))))))
                    (some (.inl (v11, (ls ++ [bstr (line.drop 4)]), ((at_ + e + 2 : Nat) : Int))))) = R → rrdS b (c, ls, (at_ : Int)) = R := by
      intro R bad hbad hR
      unfold rrdS
      refine bnd hend (bndL (s := false) (cnd_f (decide_eq_false (Int.not_lt.2 (Int.natCast_nonneg _))) (bnd (by rw [w0]) (cnd_f (decide_eq_false (by omega)) (by rw [show decide (20 ≤ (ls.length : Int)) = false from decide_eq_false (by omega)])))) (cnd_f rfl (bnd hs1 (bnd rfl (bnd hsub3 (bnd hnum (bndL (s := bad) hbad ?_)))))))
      cases bad
      · exact cnd_f rfl (bnd hsub4 (bnd happ (bnd (by rw [w2]) (bnd hchr hR))))
      · exact hR
    cases hn : num3 [x, y, z] with
    | none =>
      have h11 := h11b hn
      exact pre true (by rw [h11]; rfl) rfl
    | some k =>
      have h11 := h11a k hn
      dsimp only
      by_cases h48 : x = 48
      · rw [if_pos h48] at h11
        rw [if_pos ⟨rfl, h48⟩]
        exact pre true (by rw [h11]; rfl) rfl
      rw [if_neg h48] at h11
      rw [if_neg (fun h => h48 h.2)]
      have hk0 : ¬ v11 < 0 := by
        rw [h11]
        simp only [num3] at hn
        cases hd : dig x && dig y && dig z
        · rw [hd] at hn; cases hn
        · rw [hd] at hn
          simp only [cond_true, Option.some.injEq] at hn
          simp only [Bool.and_eq_true] at hd
          have d1 := dig_bd hd.1.1; have d2 := dig_bd hd.1.2; have d3 := dig_bd hd.2
          omega
      rw [← h11]
      have hmk : ((chrO (bstr line) 3).bind fun v14 => cond ((v14 != 45)) ((chrO (bstr line) 3).bind fun v15 => some (.inl (v15 != 32))) (some (.inl false)) : Option (Bool ⊕ ((Int × (List ByteArray) × Int) ⊕ ((Unit) ⊕ (T_Reply × Int × Bool))))) = some (.inl (decide (m ≠ 45 ∧ m ≠ 32))) := by
        refine bnd hchr ?_
        by_cases h45 : m = 45
        · exact cnd_f (by rw [h45]; rfl) (by rw [decide_eq_false (fun h => h.1 h45)])
        · refine cnd_t (by simpa using h45) (bnd hchr ?_)
          by_cases h32 : m = 32
          · rw [decide_eq_false (fun h => h.2 h32), h32]; rfl
          · rw [decide_eq_true ⟨h45, h32⟩, show (m != 32) = true by simpa using h32]
      by_cases hk : 0 < ls.length ∧ v11 ≠ c
      · rw [if_pos hk]
        exact pre true (cnd_f (decide_eq_false hk0) (cnd_t (decide_eq_true (by omega)) (cnd_t (by simpa using hk.2) rfl))) rfl
      rw [if_neg hk]
      have hsel : (cond ((decide (v11 < 0))) (some (.inl true)) (cond ((decide (0 < (ls.length : Int)))) (cond ((v11 != c)) (some (.inl true)) ((chrO (bstr line) 3).bind fun v12 => cond ((v12 != 45)) ((chrO (bstr line) 3).bind fun v13 => some (.inl (v13 != 32))) (some (.inl false)))) ((chrO (bstr line) 3).bind fun v14 => cond ((v14 != 45)) ((chrO (bstr line) 3).bind fun v15 => some (.inl (v15 != 32))) (some (.inl false)))) : Option (Bool ⊕ ((Int × (List ByteArray) × Int) ⊕ ((Unit) ⊕ (T_Reply × Int × Bool))))) = some (.inl (decide (m ≠ 45 ∧ m ≠ 32))) := by
        refine cnd_f (decide_eq_false hk0) ?_
        by_cases h0 : 0 < ls.length
        · have hkc : v11 = c := Classical.byContradiction fun h => hk ⟨h0, h⟩
          exact cnd_t (decide_eq_true (by omega)) (cnd_f (by rw [hkc]; simp) hmk)
        · exact cnd_f (decide_eq_false (by omega)) hmk
      have hck := refReply_eq ⟨v11, ls ++ [bstr (line.drop 4)]⟩
      by_cases h32 : m = 32
      · rw [if_pos h32]
        rw [show decide (m ≠ 45 ∧ m ≠ 32) = false from decide_eq_false (fun h => h.2 h32)] at hsel
        cases hok : okRep ⟨v11, ls ++ [bstr (line.drop 4)]⟩ with
        | false =>
          rw [hok] at hck
          rw [if_neg (by simp)]
          exact pre false hsel (cnd_f rfl (cnd_t (by simpa using h32) (bnd hck rfl)))
        | true =>
          rw [hok] at hck
          rw [if_pos rfl]
          exact pre false hsel (cnd_f rfl (cnd_t (by simpa using h32) (bnd hck rfl)))
      · rw [if_neg h32]
        by_cases h45 : m = 45
        · rw [if_pos h45]
          rw [show decide (m ≠ 45 ∧ m ≠ 32) = false from decide_eq_false (fun h => h.1 h45)] at hsel
          exact pre false hsel (cnd_f rfl (cnd_f (by simpa using h32) rfl))
        · rw [if_neg h45]
          rw [show decide (m ≠ 45 ∧ m ≠ 32) = true from decide_eq_true ⟨h45, h32⟩] at hsel
          exact pre true hsel rfl
end Go.Abs.Sh
