import Derived.Test.YthceldoojddpiaaDoorLawM
import Derived.Test.YthceldoojddpiaaDoorBitM
import Derived.Test.YthceldoojddpiaaDoorKeepM
import Derived.KernelRfl
namespace Go.Abs.Sh
set_option linter.unusedVariables false
set_option linter.unusedSimpArgs false
set_option maxRecDepth 10000
def ints (m : List Nat) : List Int := m.map fun n : Nat => (n : Int)
theorem ints_len (m : List Nat) : (ints m).length = m.length := by simp [ints]
theorem ints_get {m : List Nat} {i : Nat} (h : i < m.length) : getO (ints m) i = some ((m[i] : Nat) : Int) := by simp [getO, ints, h]
theorem ints_set (m : List Nat) (i v : Nat) (h : i < m.length) : setO (ints m) i (v : Int) = some (ints (m.set i v)) := by
  simp only [setO, ints, List.length_map]
  rw [if_pos h, List.map_set]
def tal (m : List Nat) : List Nat := (List.range 16).map fun n => if n = 0 then 0 else m.count n
theorem tal_len (m : List Nat) : (tal m).length = 16 := by simp [tal]
theorem tal_at (m : List Nat) {n : Nat} (h : n < (tal m).length) : (tal m)[n] = if n = 0 then 0 else m.count n := by simp [tal]
theorem tal_get (m : List Nat) {n : Nat} (h : n < 16) (h0 : 0 < n) : getO (ints (tal m)) n = some ((m.count n : Nat) : Int) := by
  have hl : n < (tal m).length := by rw [tal_len]; exact h
  rw [ints_get hl, tal_at]; rw [if_neg (by omega)]
theorem tal_snoc (m : List Nat) (x : Nat) (hx : x ≤ 15) (h0 : 0 < x) : tal (m ++ [x]) = (tal m).set x (m.count x + 1) := by
  apply List.ext_getElem
  · simp [tal]
  · intro i h1 h2
    have hi : i < 16 := by rw [tal_len] at h1; exact h1
    rw [List.getElem_set, tal_at]
    by_cases hix : x = i
    · subst hix; rw [if_neg (by omega), if_pos rfl, List.count_append]; simp
    · rw [if_neg hix, tal_at, List.count_append]
      have : List.count i [x] = 0 := by simp [List.count_cons, hix]
      rw [this]; rfl
theorem tal_snoc0 (m : List Nat) : tal (m ++ [0]) = tal m := by
  apply List.ext_getElem
  · simp [tal]
  · intro i h1 h2
    rw [tal_at, tal_at, List.count_append]
    by_cases h : i = 0
    · simp [h]
    · have : List.count i [0] = 0 := by simp [List.count_cons]; omega
      rw [this]; rfl
theorem valid_eq (l : List Int) : canon_valid l = some (decide (l.length ≤ 300 ∧ ∀ n ∈ l, 0 ≤ n ∧ n ≤ 15)) := by
  unfold canon_valid
  by_cases l1 : 300 < l.length
  · refine cnd_t (by simp; omega) ?_
    rw [decide_eq_false (by omega)]
  refine cnd_f (by simp; omega) ?_
  have key : ∀ (k fuel i : Nat), l.length - i = k → i ≤ l.length → k < fuel →
      loopF (S := (Int)) (O := (Unit) ⊕ Bool) (fun (s18 : Int) =>
        cond ((decide (s18 < (l.length : Int))))
          ((ixO s18 l.length).bind fun v3 =>
          (getO l v3).bind fun v4 =>
          bindS (S := Bool) (A := ((Int) ⊕ ((Unit) ⊕ Bool)))
            (cond ((decide (v4 < 0)))
              (some (.inl true))
              (some (.inl ((decide (15 < v4))))))
            (fun (s32 : Bool) =>
              cond (s32)
                (some (.inr (.inr (false))))
                ((some (IntKind.i64.wrap (s18 + 1))).bind fun v10 =>
                some (.inl v10))) some)
          (some (.inr (.inl ())))) fuel (i : Int) = some (if ∀ n ∈ l.drop i, 0 ≤ n ∧ n ≤ 15 then .inl () else .inr false) := by
    intro k
    induction k with
    | zero =>
      intro fuel i hk hi hf
      obtain ⟨f, rfl⟩ : ∃ f, fuel = f + 1 := ⟨fuel - 1, by omega⟩
      have : i = l.length := by omega
      subst this
      refine loop_exit (cnd_f (by simp) ?_)
      rw [if_pos (by simp)]
    | succ k ih =>
      intro fuel i hk hi hf
      obtain ⟨f, rfl⟩ : ∃ f, fuel = f + 1 := ⟨fuel - 1, by omega⟩
      have hlt : i < l.length := by omega
      have hw : IntKind.i64.wrap ((i : Int) + 1) = ((i + 1 : Nat) : Int) := by rw [wrap_i64 (by omega) (by omega)]; simp
      have hdr : l.drop i = l[i] :: l.drop (i + 1) := List.drop_eq_getElem_cons hlt
      by_cases hv : 0 ≤ l[i] ∧ l[i] ≤ 15
      · refine (loop_next (cnd_t (by simp; omega) (bnd (ixO_of hlt) (bnd (getO_of hlt) (bndL (s := false) (cnd_f (by simp; omega) (by rw [decide_eq_false (by omega)])) (cnd_f rfl (bnd (x := ((i + 1 : Nat) : Int)) (by rw [hw]) rfl))))))).trans ?_
        rw [ih f (i + 1) (by omega) (by omega) (by omega), hdr]
        simp only [List.mem_cons, forall_eq_or_imp, hv, true_and, and_self]
      · refine loop_exit (cnd_t (by simp; omega) (bnd (ixO_of hlt) (bnd (getO_of hlt) (bndL (s := true) ?_ (cnd_t rfl ?_)))))
        · by_cases h0 : l[i] < 0
          · exact cnd_t (by simp [h0]) rfl
          · exact cnd_f (by simp; omega) (by rw [decide_eq_true (by omega)])
        · rw [hdr, if_neg (fun h => hv (h l[i] (List.mem_cons_self)))]
  have := key l.length BIG 0 (by omega) (Nat.zero_le _) (by unfold BIG; omega)
  rw [List.drop_zero] at this
  by_cases hv : ∀ n ∈ l, 0 ≤ n ∧ n ≤ 15
  · rw [if_pos hv] at this
    refine bndL (s := ()) this ?_
    rw [decide_eq_true ⟨by omega, hv⟩]
  · rw [if_neg hv] at this
    refine bndR (a := false) this ?_
    rw [decide_eq_false (fun h => hv h.2)]
theorem count_eq (m : List Nat) (hm : ∀ x ∈ m, x ≤ 15) (hl : m.length ≤ 1000) : canon_count (ints m) = some (ints (tal m)) := by
  unfold canon_count
  have key : ∀ (k fuel i : Nat), m.length - i = k → i ≤ m.length → k < fuel →
    loopF (S := ((List Int) × Int)) (O := ((List Int)) ⊕ (List Int)) (fun ((s25, s26) : (List Int) × Int) =>
      cond ((decide (s26 < ((ints m).length : Int))))
        (bindS (S := (List Int)) (A := (((List Int) × Int) ⊕ (((List Int)) ⊕ (List Int))))
          ((ixO s26 (ints m).length).bind fun v2 =>
          (getO (ints m) v2).bind fun v3 =>
          cond ((decide (0 < v3)))
            ((ixO v3 16).bind fun v5 =>
            (getO s25 v5).bind fun v6 =>
            (some (IntKind.i64.wrap (v6 + 1))).bind fun v7 =>
            (ixO v3 16).bind fun v8 =>
            (setO s25 v8 v7).bind fun v9 =>
            some (.inl v9))
            (some (.inl s25)))
          (fun (s43 : (List Int)) =>
            (some (IntKind.i64.wrap (s26 + 1))).bind fun v15 =>
            some (.inl (s43, v15))) some)
        (some (.inr (.inl s25)))) fuel (ints (tal (m.take i)), (i : Int)) = some (.inl (ints (tal m))) := by
    intro k
    induction k with
    | zero =>
      intro fuel i hk hi hf
      obtain ⟨f, rfl⟩ : ∃ f, fuel = f + 1 := ⟨fuel - 1, by omega⟩
      have : i = m.length := by omega
      subst this
      refine loop_exit (cnd_f (by simp [ints_len]) ?_)
      rw [List.take_length]
    | succ k ih =>
      intro fuel i hk hi hf
      obtain ⟨f, rfl⟩ : ∃ f, fuel = f + 1 := ⟨fuel - 1, by omega⟩
      have hlt : i < m.length := by omega
      have hlt' : i < (ints m).length := by rw [ints_len]; exact hlt
      have hw : IntKind.i64.wrap ((i : Int) + 1) = ((i + 1 : Nat) : Int) := by rw [wrap_i64 (by omega) (by omega)]; simp
      have hx := hm m[i] (List.getElem_mem hlt)
      have htk : m.take (i + 1) = m.take i ++ [m[i]] := by rw [List.take_add_one]; simp [hlt]
      have ih' := ih f (i + 1) (by omega) (by omega) (by omega)
      refine (loop_next (s' := (ints (tal (m.take (i + 1))), ((i + 1 : Nat) : Int))) (cnd_t (by simp; omega) (bndL (s := ints (tal (m.take (i + 1)))) (bnd (ixO_of hlt') (bnd (ints_get hlt) ?_)) (bnd (x := ((i + 1 : Nat) : Int)) (by rw [hw]) rfl)))).trans ih'
      by_cases h0 : 0 < m[i]
      · have hc : (m.take i).count m[i] ≤ m.length := Nat.le_trans (List.count_le_length) (by simp; omega)
        have hw2 : IntKind.i64.wrap ((((m.take i).count m[i] : Nat) : Int) + 1) = (((m.take i).count m[i] + 1 : Nat) : Int) := by rw [wrap_i64 (by omega) (by omega)]; simp
        have h16 : m[i] < 16 := by omega
        refine cnd_t (by simp; omega) (bnd (ixO_of h16) (bnd (tal_get _ h16 h0) (bnd (x := (((m.take i).count m[i] + 1 : Nat) : Int)) (by rw [hw2]) (bnd (ixO_of h16) (bnd (ints_set _ _ _ (by rw [tal_len]; exact h16)) ?_)))))
        rw [htk, tal_snoc _ _ hx h0]
      · refine cnd_f (by simp; omega) ?_
        have : m[i] = 0 := by omega
        rw [htk, this, tal_snoc0]
  have h0 : ints (tal (m.take 0)) = List.replicate 16 (0 : Int) := by rw [List.take_zero]; decide
  have := key m.length BIG 0 (by omega) (Nat.zero_le _) (by unfold BIG; omega)
  rw [h0] at this
  have l16 : lnO 16 (ints (tal m)) = some (ints (tal m)) := by simp [lnO, ints_len, tal_len]
  have l0 : lnO 16 (List.replicate 16 (0 : Int)) = some (List.replicate 16 (0 : Int)) := by decide
  exact bndL this (bnd l16 (bnd l0 (bnd l16 (bnd l16 rfl))))
def ws (m : List Nat) : Nat → Nat
  | 0 => 0
  | k + 1 => ws m k + m.count (k + 1) * 2 ^ (15 - (k + 1))
theorem ws_mono (m : List Nat) {a b : Nat} (h : a ≤ b) : ws m a ≤ ws m b := by
  induction b with
  | zero => have : a = 0 := by omega
            subst this; exact Nat.le_refl _
  | succ b ih =>
    rcases Nat.lt_or_ge a (b + 1) with h1 | h1
    · exact Nat.le_trans (ih (by omega)) (Nat.le_add_right _ _)
    · have : a = b + 1 := by omega
      subst this; exact Nat.le_refl _
theorem ws_le (m : List Nat) (k : Nat) : ws m k ≤ k * (m.length * 32768) := by
  induction k with
  | zero => simp [ws]
  | succ k ih =>
    have h1 : m.count (k + 1) ≤ m.length := List.count_le_length
    have h2 : 2 ^ (15 - (k + 1)) ≤ 2 ^ 15 := Nat.pow_le_pow_right (by omega) (by omega)
    have h3 := Nat.mul_le_mul h1 h2
    have e : (2 : Nat) ^ 15 = 32768 := by decide
    rw [e] at h3
    rw [ws, Nat.add_mul]
    omega
theorem shl_nat (a k : Nat) (hk : k ≤ 64) (h : a * 2 ^ k < 9223372036854775808) : shlO .i64 (a : Int) (k : Int) = some ((a * 2 ^ k : Nat) : Int) := by
  simp only [shlO, IntKind.bits]
  rw [if_pos (by omega), Int.toNat_natCast, Nat.min_eq_left hk]
  have e : (a : Int) * 2 ^ k = ((a * 2 ^ k : Nat) : Int) := by push_cast; rfl
  rw [e]
  generalize a * 2 ^ k = y at *
  rw [wrap_i64 (by omega) (by omega)]
theorem weight_eq (m : List Nat) (hl : m.length ≤ 1000) : canon_tally_weight (ints (tal m)) = some ((ws m 15 : Nat) : Int) := by
  unfold canon_tally_weight
  have l16 : lnO 16 (ints (tal m)) = some (ints (tal m)) := by simp [lnO, ints_len, tal_len]
  have key : ∀ (k fuel i w : Nat), 16 - i = k → i ≤ 16 → k < fuel → w = ws m (i - 1) →
    loopF (S := (Int × Int)) (O := (Int) ⊕ Int) (fun ((s12, s13) : Int × Int) =>
      cond ((decide (s13 < 16)))
        ((ixO s13 16).bind fun v3 =>
        (getO (ints (tal m)) v3).bind fun v4 =>
        (some (IntKind.i64.wrap (15 - s13))).bind fun v5 =>
        (shlO .i64 v4 v5).bind fun v6 =>
        (some (IntKind.i64.wrap (s12 + v6))).bind fun v7 =>
        (some (IntKind.i64.wrap (s13 + 1))).bind fun v8 =>
        some (.inl (v7, v8)))
        (some (.inr (.inl s12)))) fuel ((w : Int), (i : Int)) = some (.inl ((ws m 15 : Nat) : Int)) := by
    intro k
    induction k with
    | zero =>
      intro fuel i w hk hi hf hw
      obtain ⟨f, rfl⟩ : ∃ f, fuel = f + 1 := ⟨fuel - 1, by omega⟩
      have : i = 16 := by omega
      subst this
      subst hw
      exact loop_exit (cnd_f (by simp) rfl)
    | succ k ih =>
      intro fuel i w hk hi hf hw
      obtain ⟨f, rfl⟩ : ∃ f, fuel = f + 1 := ⟨fuel - 1, by omega⟩
      have h16 : i < 16 := by omega
      have hti : i < (tal m).length := by rw [tal_len]; exact h16
      have w1 : IntKind.i64.wrap (15 - (i : Int)) = ((15 - i : Nat) : Int) := by rw [wrap_i64 (by omega) (by omega)]; omega
      have w2 : IntKind.i64.wrap ((i : Int) + 1) = ((i + 1 : Nat) : Int) := by rw [wrap_i64 (by omega) (by omega)]; simp
      have hc : (tal m)[i] ≤ m.length := by
        rw [tal_at]; split
        · omega
        · exact List.count_le_length
      have h2 : 2 ^ (15 - i) ≤ 2 ^ 15 := Nat.pow_le_pow_right (by omega) (by omega)
      have h3 := Nat.mul_le_mul hc h2
      have e : (2 : Nat) ^ 15 = 32768 := by decide
      rw [e] at h3
      have h4 : m.length * 32768 ≤ 1000 * 32768 := Nat.mul_le_mul_right _ hl
      have hwl := ws_le m (i - 1)
      have hwl2 : (i - 1) * (m.length * 32768) ≤ 16 * (1000 * 32768) := Nat.mul_le_mul (by omega) h4
      have hs : w + (tal m)[i] * 2 ^ (15 - i) = ws m (i + 1 - 1) := by
        rw [hw, tal_at]
        cases i with
        | zero => simp [ws]
        | succ i => rw [if_neg (by omega)]; simp [ws]
      have hsh := shl_nat (tal m)[i] (15 - i) (by omega) (by omega)
      have w3 : IntKind.i64.wrap ((w : Int) + (((tal m)[i] * 2 ^ (15 - i) : Nat) : Int)) = ((ws m (i + 1 - 1) : Nat) : Int) := by
        rw [← hs]
        generalize (tal m)[i] * 2 ^ (15 - i) = y at *
        rw [wrap_i64 (by omega) (by omega)]; simp
      refine (loop_next (cnd_t (by simp; omega) (bnd (ixO_of h16) (bnd (ints_get hti) (bnd (x := ((15 - i : Nat) : Int)) (by rw [w1]) (bnd hsh (bnd (x := ((ws m (i + 1 - 1) : Nat) : Int)) (by rw [w3]) (bnd (x := ((i + 1 : Nat) : Int)) (by rw [w2]) rfl)))))))).trans ?_
      exact ih f (i + 1) _ (by omega) (by omega) (by omega) rfl
  exact bnd l16 (bndL (key 16 BIG 0 0 rfl (by omega) (by unfold BIG; omega) rfl) rfl)
def forms (m : List Nat) : Bool := decide (ints (tal m) = List.replicate 16 0) || decide (ints (tal m) = 0 :: 1 :: List.replicate 14 0) || decide (ws m 15 = 32768)
theorem forms_eq (m : List Nat) (hl : m.length ≤ 1000) : canon_forms (ints (tal m)) = some (forms m) := by
  unfold canon_forms
  have l16 : lnO 16 (ints (tal m)) = some (ints (tal m)) := by simp [lnO, ints_len, tal_len]
  have l0 : lnO 16 (List.replicate 16 (0 : Int)) = some (List.replicate 16 (0 : Int)) := by decide
  refine bnd l0 (bnd rfl ?_)
  have e1 : ([(0 : Int), (0 : Int), (0 : Int), (0 : Int), (0 : Int), (0 : Int), (0 : Int), (0 : Int), (0 : Int), (0 : Int), (0 : Int), (0 : Int), (0 : Int), (0 : Int), (0 : Int), (0 : Int)] : List Int) = List.replicate 16 0 := rfl
  have e2 : ([(0 : Int), 1, (0 : Int), (0 : Int), (0 : Int), (0 : Int), (0 : Int), (0 : Int), (0 : Int), (0 : Int), (0 : Int), (0 : Int), (0 : Int), (0 : Int), (0 : Int), (0 : Int)] : List Int) = 0 :: 1 :: List.replicate 14 0 := rfl
  refine bndL (s := forms m) (bnd l16 (bnd l16 (bnd rfl ?_))) rfl
  rw [e1]
  by_cases h1 : ints (tal m) = List.replicate 16 0
  · exact cnd_t (by rw [h1]; rfl) (by rw [forms, decide_eq_true h1]; rfl)
  refine cnd_f (by rw [beq_eq_false_iff_ne]; exact h1) (bnd l16 (bnd rfl (bnd l16 (bnd rfl ?_))))
  rw [e2]
  by_cases h2 : ints (tal m) = 0 :: 1 :: List.replicate 14 0
  · exact cnd_t (by rw [h2]; rfl) (by rw [forms, decide_eq_true h2]; simp)
  refine cnd_f (by rw [beq_eq_false_iff_ne]; exact h2) (bnd l16 (bnd (weight_eq m hl) ?_))
  rw [forms, decide_eq_false h1, decide_eq_false h2]
  by_cases h3 : ws m 15 = 32768
  · simp [h3]
  · have : ((ws m 15 : Nat) : Int) ≠ 32768 := by omega
    simp [h3, this]
theorem forms_ws {m : List Nat} (h : forms m = true) : ws m 15 ≤ 32768 := by
  simp only [forms, Bool.or_eq_true, decide_eq_true_eq] at h
  have count_of : ∀ (t : List Int), ints (tal m) = t → ∀ n, 0 < n → n < 16 → t[n]? = some ((m.count n : Nat) : Int) := by
    intro t ht n h0 h16
    have := tal_get m h16 h0
    rw [ht] at this
    exact this
  rcases h with (h | h) | h
  · have hz : ∀ k, k ≤ 15 → ws m k = 0 := by
      intro k
      induction k with
      | zero => intro _; rfl
      | succ k ih =>
        intro hk
        have := count_of _ h (k + 1) (by omega) (by omega)
        rw [List.getElem?_replicate, if_pos (by omega)] at this
        have hc : m.count (k + 1) = 0 := by simp at this; omega
        rw [ws, ih (by omega), hc]; simp
    rw [hz 15 (by omega)]; omega
  · have hz : ∀ k, k ≤ 14 → ws m (k + 1) = 16384 := by
      intro k
      induction k with
      | zero =>
        intro _
        have := count_of _ h 1 (by omega) (by omega)
        have hc : m.count 1 = 1 := by simp at this; omega
        simp [ws, hc]
      | succ k ih =>
        intro hk
        have := count_of _ h (k + 1 + 1) (by omega) (by omega)
        simp only [List.getElem?_cons_succ, List.getElem?_replicate] at this
        rw [if_pos (by omega)] at this
        have hc : m.count (k + 1 + 1) = 0 := by simp at this; omega
        rw [ws, ih (by omega), hc]; simp
    rw [hz 14 (by omega)]; omega
  · omega
theorem check_ints (m : List Nat) (hl : m.length ≤ 1000) : canon_Check (ints m) = some (if m.length ≤ 300 ∧ (∀ x ∈ m, x ≤ 15) then (if forms m then 0 else 4) else 1) := by
  unfold canon_Check
  refine bnd (valid_eq _) ?_
  have hiff : ((ints m).length ≤ 300 ∧ ∀ n ∈ ints m, 0 ≤ n ∧ n ≤ 15) ↔ (m.length ≤ 300 ∧ ∀ x ∈ m, x ≤ 15) := by
    rw [ints_len]
    constructor
    · rintro ⟨h1, h2⟩
      exact ⟨h1, fun x hx => by have := (h2 (x : Int) (List.mem_map.2 ⟨x, hx, rfl⟩)).2; omega⟩
    · rintro ⟨h1, h2⟩
      refine ⟨h1, fun n hn => ?_⟩
      obtain ⟨x, hx, rfl⟩ := List.mem_map.1 hn
      have := h2 x hx; omega
  by_cases hv : m.length ≤ 300 ∧ (∀ x ∈ m, x ≤ 15)
  · rw [decide_eq_true (hiff.2 hv), if_pos hv]
    refine cnd_f rfl (bnd (count_eq m hv.2 hl) (bnd (forms_eq m hl) ?_))
    cases forms m <;> rfl
  · rw [decide_eq_false (fun h => hv (hiff.1 h)), if_neg hv]
    rfl
def fst (m : List Nat) : Nat → Nat
  | 0 => 0
  | 1 => 0
  | n + 2 => 2 * (fst m (n + 1) + m.count (n + 1))
theorem fst_ws (m : List Nat) : ∀ n, n ≤ 14 → fst m (n + 1) * 2 ^ (14 - n) = ws m n
  | 0, _ => by simp [fst, ws]
  | n + 1, h => by
    have ih := fst_ws m n (by omega)
    have e : 14 - n = (14 - (n + 1)) + 1 := by omega
    rw [show fst m (n + 1 + 1) = 2 * (fst m (n + 1) + m.count (n + 1)) from rfl, ws, ← ih, show 15 - (n + 1) = (14 - (n + 1)) + 1 by omega, e, Nat.pow_succ]
    generalize 2 ^ (14 - (n + 1)) = p
    rw [Nat.mul_add, Nat.add_mul]
    congr 1 <;> ac_rfl
theorem pow_split {n : Nat} (h : n ≤ 15) : 2 ^ n * 2 ^ (15 - n) = 32768 := by
  rw [← Nat.pow_add, show n + (15 - n) = 15 by omega]
theorem fst_step (m : List Nat) {n : Nat} (h0 : 1 ≤ n) (h : n ≤ 15) : fst m n * 2 ^ (15 - n) = ws m (n - 1) := by
  have := fst_ws m (n - 1) (by omega)
  rwa [show n - 1 + 1 = n by omega, show 14 - (n - 1) = 15 - n by omega] at this
theorem ws_step (m : List Nat) {n : Nat} (h0 : 1 ≤ n) (h : n ≤ 15) : (fst m n + m.count n) * 2 ^ (15 - n) = ws m n := by
  rw [Nat.add_mul, fst_step m h0 h]
  obtain ⟨k, rfl⟩ : ∃ k, n = k + 1 := ⟨n - 1, by omega⟩
  rfl
theorem fst_le {m : List Nat} (hw : ws m 15 ≤ 32768) {n : Nat} (h0 : 1 ≤ n) (h : n ≤ 15) : fst m n + m.count n ≤ 2 ^ n := by
  have h1 := ws_step m h0 h
  have h2 := ws_mono m h
  have hp : 0 < 2 ^ (15 - n) := Nat.pow_pos (by omega)
  refine Nat.le_of_mul_le_mul_right ?_ hp
  rw [h1, pow_split h]
  omega
theorem pow_le15 {n : Nat} (h : n ≤ 15) : 2 ^ n ≤ 32768 := Nat.pow_le_pow_right (show 0 < 2 by omega) h
def fl (m : List Nat) (i : Nat) : List Nat := (List.range 16).map fun n => if n < i then fst m n else 0
theorem fl_len (m : List Nat) (i : Nat) : (fl m i).length = 16 := by simp [fl]
theorem fl_set (m : List Nat) (i : Nat) (h : i < 16) : (fl m i).set i (fst m i) = fl m (i + 1) := by
  apply List.ext_getElem
  · simp [fl]
  · intro j h1 h2
    rw [List.getElem_set]
    simp only [fl, List.getElem_map, List.getElem_range]
    by_cases hij : i = j
    · subst hij; simp
    · rw [if_neg hij]
      by_cases hj : j < i
      · rw [if_pos hj, if_pos (by omega)]
      · rw [if_neg hj, if_neg (by omega)]
theorem firsts_eq (m : List Nat) (hl : m.length ≤ 1000) (hw : ws m 15 ≤ 32768) : canon_firsts (ints (tal m)) = some (ints (fl m 16)) := by
  unfold canon_firsts
  have key : ∀ (k fuel i : Nat), 16 - i = k → i ≤ 16 → 2 ≤ i → k < fuel →
    loopF (S := ((List Int) × Int)) (O := ((List Int)) ⊕ (List Int)) (fun ((s16, s17) : (List Int) × Int) =>
      cond ((decide (s17 ≤ 15)))
        ((some (IntKind.i64.wrap (s17 - 1))).bind fun v2 =>
        (ixO v2 16).bind fun v3 =>
        (getO s16 v3).bind fun v4 =>
        (some (IntKind.i64.wrap (s17 - 1))).bind fun v5 =>
        (ixO v5 16).bind fun v6 =>
        (getO (ints (tal m)) v6).bind fun v7 =>
        (some (IntKind.i64.wrap (v4 + v7))).bind fun v8 =>
        (some (IntKind.i64.wrap (2 * v8))).bind fun v9 =>
        (ixO s17 16).bind fun v10 =>
        (setO s16 v10 v9).bind fun v11 =>
        (some (IntKind.i64.wrap (s17 + 1))).bind fun v12 =>
        some (.inl (v11, v12)))
        (some (.inr (.inl s16)))) fuel (ints (fl m i), (i : Int)) = some (.inl (ints (fl m 16))) := by
    intro k
    induction k with
    | zero =>
      intro fuel i hk hi h2 hf
      obtain ⟨f, rfl⟩ : ∃ f, fuel = f + 1 := ⟨fuel - 1, by omega⟩
      have : i = 16 := by omega
      subst this
      exact loop_exit (cnd_f (by simp) rfl)
    | succ k ih =>
      intro fuel i hk hi h2 hf
      obtain ⟨f, rfl⟩ : ∃ f, fuel = f + 1 := ⟨fuel - 1, by omega⟩
      have h16 : i < 16 := by omega
      have w1 : IntKind.i64.wrap ((i : Int) - 1) = ((i - 1 : Nat) : Int) := by rw [wrap_i64 (by omega) (by omega)]; omega
      have w2 : IntKind.i64.wrap ((i : Int) + 1) = ((i + 1 : Nat) : Int) := by rw [wrap_i64 (by omega) (by omega)]; simp
      have hx : i - 1 < 16 := by omega
      have hfl : i - 1 < (fl m i).length := by rw [fl_len]; exact hx
      have hg : (fl m i)[i - 1] = fst m (i - 1) := by simp [fl]; omega
      have hb := fst_le hw (n := i - 1) (by omega) (by omega)
      have hb2 := pow_le15 (n := i - 1) (by omega)
      have w3 : IntKind.i64.wrap (((fst m (i - 1) : Nat) : Int) + ((m.count (i - 1) : Nat) : Int)) = ((fst m (i - 1) + m.count (i - 1) : Nat) : Int) := by rw [wrap_i64 (by omega) (by omega)]; simp
      have hstep : fst m i = 2 * (fst m (i - 1) + m.count (i - 1)) := by
        obtain ⟨j, rfl⟩ : ∃ j, i = j + 2 := ⟨i - 2, by omega⟩
        rfl
      have w4 : IntKind.i64.wrap (2 * ((fst m (i - 1) + m.count (i - 1) : Nat) : Int)) = ((fst m i : Nat) : Int) := by rw [hstep, wrap_i64 (by omega) (by omega)]; simp
      have hset := ints_set (fl m i) i (fst m i) (by rw [fl_len]; exact h16)
      rw [fl_set m i h16] at hset
      refine (loop_next (cnd_t (by simp; omega) (bnd (x := ((i - 1 : Nat) : Int)) (by rw [w1]) (bnd (ixO_of hx) (bnd (x := ((fst m (i - 1) : Nat) : Int)) (by rw [ints_get hfl, hg]) (bnd (x := ((i - 1 : Nat) : Int)) (by rw [w1]) (bnd (ixO_of hx) (bnd (tal_get m hx (by omega))
        (bnd (x := ((fst m (i - 1) + m.count (i - 1) : Nat) : Int)) (by rw [w3]) (bnd (x := ((fst m i : Nat) : Int)) (by rw [w4]) (bnd (ixO_of h16) (bnd hset (bnd (x := ((i + 1 : Nat) : Int)) (by rw [w2]) rfl))))))))))))).trans ?_
      exact ih f (i + 1) (by omega) (by omega) (by omega) (by omega)
  have h0 : ints (fl m 2) = List.replicate 16 (0 : Int) := by
    have : fl m 2 = List.replicate 16 0 := by
      apply List.ext_getElem
      · simp [fl]
      · intro j h1 h2
        simp only [fl, List.getElem_map, List.getElem_range, List.getElem_replicate]
        split
        · rename_i h
          have : j = 0 ∨ j = 1 := by omega
          rcases this with rfl | rfl <;> rfl
        · rfl
    rw [this]; decide
  have hk := key 14 BIG 2 rfl (by omega) (by omega) (by unfold BIG; omega)
  rw [h0] at hk
  have l16 : lnO 16 (ints (fl m 16)) = some (ints (fl m 16)) := by simp [lnO, ints_len, fl_len]
  have l0 : lnO 16 (List.replicate 16 (0 : Int)) = some (List.replicate 16 (0 : Int)) := by decide
  exact bndL hk (bnd l16 (bnd l0 (bnd l16 (bnd l16 rfl))))
def code (m : List Nat) (j : Nat) : Nat := if m.getD j 0 = 0 then 0 else fst m (m.getD j 0) + (m.take j).count (m.getD j 0)
theorem getD_of {m : List Nat} {i : Nat} (h : i < m.length) : m.getD i 0 = m[i] := by simp [List.getD_eq_getElem?_getD, h]
theorem code_of {m : List Nat} {i : Nat} (h : i < m.length) (h0 : m[i] ≠ 0) : code m i = fst m m[i] + (m.take i).count m[i] := by
  rw [code, getD_of h, if_neg h0]
theorem count_take_lt {m : List Nat} {i : Nat} (h : i < m.length) : (m.take i).count m[i] + 1 ≤ m.count m[i] := by
  have h1 : m.count m[i] = (m.take i).count m[i] + (m.drop i).count m[i] := by
    rw [← List.count_append, List.take_append_drop]
  have h2 : m.drop i = m[i] :: m.drop (i + 1) := List.drop_eq_getElem_cons h
  rw [h1, h2, List.count_cons]
  simp
theorem code_lt {m : List Nat} (hw : ws m 15 ≤ 32768) (hm : ∀ x ∈ m, x ≤ 15) {i : Nat} (h : i < m.length) (h0 : m[i] ≠ 0) : code m i + 1 ≤ 2 ^ m[i] := by
  have h1 := fst_le hw (n := m[i]) (by omega) (hm _ (List.getElem_mem h))
  have h2 := count_take_lt h
  rw [code_of h h0]; omega
theorem code_same {m : List Nat} {i k : Nat} (hi : i < m.length) (hk : k < m.length) (h0 : m[i] ≠ 0) (he : m[i] = m[k]) (hlt : i < k) : code m i < code m k := by
  rw [code_of hi h0, code_of hk (by omega), ← he]
  have h1 : m.take k = m.take i ++ (m.drop i).take (k - i) := by
    rw [← List.take_add, Nat.add_sub_cancel' (by omega)]
  have h2 : m.drop i = m[i] :: m.drop (i + 1) := List.drop_eq_getElem_cons hi
  have h3 : (m.drop i).take (k - i) = m[i] :: (m.drop (i + 1)).take (k - i - 1) := by
    rw [h2, show k - i = (k - i - 1) + 1 by omega]; rfl
  rw [h1, h3, List.count_append, List.count_cons]
  simp
theorem or_bit (c x : Nat) (hc : c < 1000000) (hx : x < 2) : bits .or .i64 ((2 * c : Nat) : Int) (x : Int) = ((2 * c + x : Nat) : Int) := by
  have h := Nat.shiftLeft_add_eq_or_of_lt (a := c) (b := x) (i := 1) (by omega)
  rw [Nat.shiftLeft_eq, Nat.pow_one, Nat.mul_comm] at h
  show IntKind.i64.wrap ((BitVec.ofInt 64 ((2 * c : Nat) : Int) ||| BitVec.ofInt 64 (x : Int)).toNat : Int) = _
  rw [BitVec.toNat_or, ofInt64 _ (by omega), ofInt64 _ (by omega), ← h, wrap_i64 (by omega) (by omega)]
theorem take_snoc {m : List Nat} {i : Nat} (h : i < m.length) : m.take (i + 1) = m.take i ++ [m[i]] := by rw [List.take_add_one]; simp [h]
theorem nth_eq (m : List Nat) (n q : Nat) (hl : m.length ≤ 1000) (hq : q < m.count n) : ∃ j, ∃ h : j < m.length, m[j] = n ∧ (m.take j).count n = q ∧ canon_nth (ints m) (n : Int) (q : Int) = some (j : Int) := by
  have hcl : m.count n ≤ m.length := List.count_le_length
  have key : ∀ (k fuel i : Nat), m.length - i = k → i ≤ m.length → k < fuel → (m.take i).count n ≤ q →
    ∃ j, ∃ h : j < m.length, m[j] = n ∧ (m.take j).count n = q ∧ loopF (S := (Int × Int)) (O := (Unit) ⊕ Int) (fun ((s25, s26) : Int × Int) =>
      cond ((decide (s26 < ((ints m).length : Int))))
        (bindS (S := Int) (A := ((Int × Int) ⊕ ((Unit) ⊕ Int)))
          ((ixO s26 (ints m).length).bind fun v2 =>
          (getO (ints m) v2).bind fun v3 =>
          cond ((v3 != (n : Int)))
            (some (.inl s25))
            (cond ((s25 == 0))
              (some (.inr (.inr (.inr (s26)))))
              ((some (IntKind.i64.wrap (s25 - 1))).bind fun v6 =>
              some (.inl v6))))
          (fun (s45 : Int) =>
            (some (IntKind.i64.wrap (s26 + 1))).bind fun v13 =>
            some (.inl (s45, v13))) some)
        (some (.inr (.inl ())))) fuel (((q - (m.take i).count n : Nat) : Int), (i : Int)) = some (.inr (j : Int)) := by
    intro k
    induction k with
    | zero =>
      intro fuel i hk hi hf hc
      have : i = m.length := by omega
      subst this
      rw [List.take_length] at hc
      omega
    | succ k ih =>
      intro fuel i hk hi hf hc
      obtain ⟨f, rfl⟩ : ∃ f, fuel = f + 1 := ⟨fuel - 1, by omega⟩
      have hlt : i < m.length := by omega
      have hlt' : i < (ints m).length := by rw [ints_len]; exact hlt
      have hw : IntKind.i64.wrap ((i : Int) + 1) = ((i + 1 : Nat) : Int) := by rw [wrap_i64 (by omega) (by omega)]; simp
      by_cases h1 : m[i] = n
      · by_cases h2 : (m.take i).count n = q
        · refine ⟨i, hlt, h1, h2, loop_exit (cnd_t (by simp; omega) (bndR (a := .inr (.inr (i : Int))) (bnd (ixO_of hlt') (bnd (ints_get hlt) (cnd_f (by simp [h1]) (cnd_t (by rw [h2]; simp) rfl)))) rfl))⟩
        · have hcnt : (m.take (i + 1)).count n = (m.take i).count n + 1 := by rw [take_snoc hlt, List.count_append, h1]; simp
          obtain ⟨j, hj, e1, e2, hr⟩ := ih f (i + 1) (by omega) (by omega) (by omega) (by omega)
          have w3 : IntKind.i64.wrap (((q - (m.take i).count n : Nat) : Int) - 1) = ((q - (m.take (i + 1)).count n : Nat) : Int) := by rw [hcnt, wrap_i64 (by omega) (by omega)]; omega
          refine ⟨j, hj, e1, e2, (loop_next (cnd_t (by simp; omega) (bndL (s := ((q - (m.take (i + 1)).count n : Nat) : Int)) (bnd (ixO_of hlt') (bnd (ints_get hlt) (cnd_f (by simp [h1]) (cnd_f ?_ (bnd (x := ((q - (m.take (i + 1)).count n : Nat) : Int)) (by rw [w3]) rfl))))) (bnd (x := ((i + 1 : Nat) : Int)) (by rw [hw]) rfl)))).trans hr⟩
          rw [beq_eq_false_iff_ne]; omega
      · have hcnt : (m.take (i + 1)).count n = (m.take i).count n := by
          rw [take_snoc hlt, List.count_append]
          have : List.count n [m[i]] = 0 := by simp [List.count_cons, h1]
          rw [this]; rfl
        obtain ⟨j, hj, e1, e2, hr⟩ := ih f (i + 1) (by omega) (by omega) (by omega) (by omega)
        rw [hcnt] at hr
        refine ⟨j, hj, e1, e2, (loop_next (cnd_t (by simp; omega) (bndL (s := ((q - (m.take i).count n : Nat) : Int)) (bnd (ixO_of hlt') (bnd (ints_get hlt) (cnd_t ?_ rfl))) (bnd (x := ((i + 1 : Nat) : Int)) (by rw [hw]) rfl)))).trans hr⟩
        simp only [bne_iff_ne, ne_eq]; omega
  obtain ⟨j, hj, e1, e2, hr⟩ := key m.length BIG 0 (by omega) (Nat.zero_le _) (by unfold BIG; omega) (by simp)
  rw [List.take_zero, List.count_nil, Nat.sub_zero] at hr
  refine ⟨j, hj, e1, e2, ?_⟩
  unfold canon_nth
  exact bndR (a := (j : Int)) hr rfl
def turnS : ((Int × Int × Int)) → Option ((Int × Int × Int) ⊕ ((Int) ⊕ (Int × Int))) := (fun ((s14, s15, s16) : Int × Int × Int) =>
    cond ((decide (0 < s14)))
      ((shlO .u32 s15 1).bind fun v5 =>
      (some (bits .and .u32 s16 1)).bind fun v6 =>
      (some (bits .or .u32 v5 v6)).bind fun v7 =>
      (shrO .u32 s16 1).bind fun v8 =>
      (some (IntKind.i64.wrap (s14 - 1))).bind fun v9 =>
      some (.inl (v9, v7, v8)))
      (some (.inr (.inl s15))))
def putS : (((List Int) × Int × Int)) → Option (((List Int) × Int × Int) ⊕ (((List Int)) ⊕ (T_Bits × Int))) := (fun ((s28, s29, s30) : (List Int) × Int × Int) =>
        cond ((decide (s30 < (s28.length : Int))))
          ((ixO s30 s28.length).bind fun v16 =>
          (getO s28 v16).bind fun v17 =>
          (some (IntKind.u8.wrap s29)).bind fun v18 =>
          (some (bits .or .u8 v17 v18)).bind fun v19 =>
          (ixO s30 s28.length).bind fun v20 =>
          (some (s28.set v20 v19)).bind fun v21 =>
          (shrO .u32 s29 8).bind fun v22 =>
          (some (IntKind.i64.wrap (s30 + 1))).bind fun v23 =>
          some (.inl (v21, v22, v23)))
          (some (.inr (.inl s28))))
def isB (l : List Int) : Prop := ∀ n ∈ l, 0 ≤ n ∧ n < 256
def bitC (l : List Int) (q : Nat) : Bool := (l.getD (q / 8) 0).toNat.testBit (q % 8)
structure Good (B : List Int) (N : Nat) : Prop where
  len : B.length = (N + 7) / 8
  bytes : isB B
  zero : ∀ q, N ≤ q → bitC B q = false
theorem wrap_u32c {n : Int} (h0 : 0 ≤ n) (h1 : n < 4294967296) : IntKind.u32.wrap n = n := by
  simp only [IntKind.wrap, IntKind.bits, IntKind.signed]
  have e : (2 : Int) ^ 32 = 4294967296 := by decide
  simp only [e, Bool.false_and, Bool.false_eq_true, if_false]
  omega
theorem ofInt32 (a : Nat) (ha : a < 4294967296) : (BitVec.ofInt 32 (a : Int)).toNat = a := by
  rw [BitVec.ofInt_natCast, BitVec.toNat_ofNat]; exact Nat.mod_eq_of_lt (by omega)
theorem and1_u32 (a : Nat) (ha : a < 4294967296) : bits .and .u32 (a : Int) 1 = ((a % 2 : Nat) : Int) := by
  show IntKind.u32.wrap ((BitVec.ofInt 32 (a : Int) &&& BitVec.ofInt 32 ((1 : Nat) : Int)).toNat : Int) = _
  rw [BitVec.toNat_and, ofInt32 a ha, ofInt32 1 (by omega), Nat.and_one_is_mod, wrap_u32c (by omega) (by omega)]
theorem or_u32 (c x : Nat) (hc : c < 1000000000) (hx : x < 2) : bits .or .u32 ((2 * c : Nat) : Int) (x : Int) = ((2 * c + x : Nat) : Int) := by
  have h := Nat.shiftLeft_add_eq_or_of_lt (a := c) (b := x) (i := 1) (by omega)
  rw [Nat.shiftLeft_eq, Nat.pow_one, Nat.mul_comm] at h
  show IntKind.u32.wrap ((BitVec.ofInt 32 ((2 * c : Nat) : Int) ||| BitVec.ofInt 32 (x : Int)).toNat : Int) = _
  rw [BitVec.toNat_or, ofInt32 _ (by omega), ofInt32 _ (by omega), ← h, wrap_u32c (by omega) (by omega)]
theorem shl_u32 (a k : Nat) (hk : k ≤ 32) (h : a * 2 ^ k < 4294967296) : shlO .u32 (a : Int) (k : Int) = some ((a * 2 ^ k : Nat) : Int) := by
  simp only [shlO, IntKind.bits]
  rw [if_pos (by omega), Int.toNat_natCast, Nat.min_eq_left hk]
  have e : (a : Int) * 2 ^ k = ((a * 2 ^ k : Nat) : Int) := by push_cast; rfl
  rw [e]
  generalize a * 2 ^ k = y at *
  rw [wrap_u32c (by omega) (by omega)]
theorem or_u8 (a b : Nat) (ha : a < 256) (hb : b < 256) : bits .or .u8 (a : Int) (b : Int) = ((a ||| b : Nat) : Int) := by
  have hx : a ||| b < 2 ^ 8 := Nat.or_lt_two_pow (by omega) (by omega)
  show IntKind.u8.wrap ((BitVec.ofInt 8 (a : Int) ||| BitVec.ofInt 8 (b : Int)).toNat : Int) = _
  rw [BitVec.toNat_or, ofInt8 a ha, ofInt8 b hb, wrap_u8']; omega
theorem fits_eq (v n : Nat) (hn : n ≤ 24) (hv : v < 2 ^ n) : bits_fits (v : Int) (n : Int) = some true := by
  have hp : 2 ^ n ≤ 2 ^ 24 := Nat.pow_le_pow_right (by omega) hn
  have e : (2 : Nat) ^ 24 = 16777216 := by decide
  have sh := shl_nat 1 n (by omega) (by omega)
  rw [Nat.one_mul] at sh
  unfold bits_fits
  refine bndL (s := true) (cnd_t (by simp) (cnd_t (by simp; omega) (cnd_t (by simp) (bnd sh ?_)))) rfl
  rw [decide_eq_true (by omega)]
theorem turn_loop (v n : Nat) (hn : n ≤ 24) (hv : v < 2 ^ n) : ∀ (k fuel t r : Nat), n - t = k → t ≤ n → k < fuel → r < 2 ^ t → (∀ i, i < t → r.testBit i = v.testBit (t - 1 - i)) →
    ∃ r' : Nat, loopF turnS fuel (((n - t : Nat) : Int), (r : Int), ((v / 2 ^ t : Nat) : Int)) = some (.inl (r' : Int)) ∧ r' < 2 ^ n ∧ ∀ i, i < n → r'.testBit i = v.testBit (n - 1 - i) := by
  have hp : 2 ^ n ≤ 2 ^ 24 := Nat.pow_le_pow_right (by omega) hn
  have e24 : (2 : Nat) ^ 24 = 16777216 := by decide
  intro k
  induction k with
  | zero =>
    intro fuel t r hk ht hf hr hb
    obtain ⟨f, rfl⟩ : ∃ f, fuel = f + 1 := ⟨fuel - 1, by omega⟩
    have : t = n := by omega
    subst this
    refine ⟨r, loop_exit ?_, hr, hb⟩
    unfold turnS
    exact cnd_f (by simp) rfl
  | succ k ih =>
    intro fuel t r hk ht hf hr hb
    obtain ⟨f, rfl⟩ : ∃ f, fuel = f + 1 := ⟨fuel - 1, by omega⟩
    have hp2 : 2 ^ t ≤ 2 ^ 24 := Nat.pow_le_pow_right (by omega) (by omega)
    have hvt : v / 2 ^ t < 4294967296 := Nat.lt_of_le_of_lt (Nat.div_le_self _ _) (by omega)
    have sh := shl_u32 r 1 (by omega) (by omega)
    rw [Nat.pow_one, Nat.mul_comm, show ((1 : Nat) : Int) = 1 from rfl] at sh
    have hy : v / 2 ^ t % 2 < 2 := Nat.mod_lt _ (by omega)
    have hor := or_u32 r (v / 2 ^ t % 2) (by omega) hy
    have hsr := shr_nat .u32 (v / 2 ^ t) 1 (by decide)
    rw [Nat.pow_one, Nat.div_div_eq_div_mul, ← Nat.pow_succ, show ((1 : Nat) : Int) = 1 from rfl] at hsr
    have w : IntKind.i64.wrap (((n - t : Nat) : Int) - 1) = ((n - (t + 1) : Nat) : Int) := by rw [wrap_i64 (by omega) (by omega)]; omega
    have hand := and1_u32 _ hvt
    have hbit : ∀ i, i < t + 1 → (2 * r + v / 2 ^ t % 2).testBit i = v.testBit (t + 1 - 1 - i) := by
      intro i hi
      have h1 : 2 * r + v / 2 ^ t % 2 = 2 ^ 1 * r + v / 2 ^ t % 2 := by rw [Nat.pow_one]
      rw [h1, Nat.testBit_two_pow_mul_add _ (by omega)]
      by_cases h0 : i < 1
      · have : i = 0 := by omega
        subst this
        rw [if_pos h0, Nat.testBit_eq_decide_div_mod_eq (x := v)]
        simp [Nat.testBit_zero]
      · rw [if_neg h0, hb (i - 1) (by omega)]
        congr 1; omega
    have hr2 : 2 * r + v / 2 ^ t % 2 < 2 ^ (t + 1) := by rw [Nat.pow_succ]; omega
    obtain ⟨r', h1, h2, h3⟩ := ih f (t + 1) (2 * r + v / 2 ^ t % 2) (by omega) (by omega) (by omega) hr2 hbit
    refine ⟨r', (loop_next ?_).trans h1, h2, h3⟩
    unfold turnS
    exact cnd_t (by simp; omega) (bnd sh (bnd (x := ((v / 2 ^ t % 2 : Nat) : Int)) (by rw [hand]) (bnd (x := ((2 * r + v / 2 ^ t % 2 : Nat) : Int)) (by rw [hor]) (bnd hsr (bnd (x := ((n - (t + 1) : Nat) : Int)) (by rw [w]) rfl)))))
theorem turn_eq (v n : Nat) (hn : n ≤ 24) (hv : v < 2 ^ n) : ∃ r : Nat, bits_Turn (v : Int) (n : Int) = some ((r : Int), 0) ∧ r < 2 ^ n ∧ ∀ i, i < n → r.testBit i = v.testBit (n - 1 - i) := by
  have hp : 2 ^ n ≤ 2 ^ 24 := Nat.pow_le_pow_right (by omega) hn
  have e24 : (2 : Nat) ^ 24 = 16777216 := by decide
  obtain ⟨r, h1, h2, h3⟩ := turn_loop v n hn hv n BIG 0 0 (by omega) (Nat.zero_le _) (by unfold BIG; omega) (by simp) (by omega)
  rw [Nat.sub_zero, Nat.pow_zero, Nat.div_one] at h1
  refine ⟨r, ?_, h2, h3⟩
  unfold bits_Turn
  have w1 : IntKind.u32.wrap (v : Int) = (v : Int) := wrap_u32c (by omega) (by omega)
  have w2 : IntKind.i64.wrap (r : Int) = (r : Int) := wrap_i64 (by omega) (by omega)
  exact bnd (fits_eq v n hn hv) (cnd_f rfl (bnd (x := (v : Int)) (by rw [w1]) (bndL h1 (bnd (x := (r : Int)) (by rw [w2]) rfl))))
theorem bytesFor_eq (N : Nat) (h : N ≤ 100000) : bits_bytesFor (N : Int) = some (((N + 7) / 8 : Nat) : Int) := by
  unfold bits_bytesFor
  have w : IntKind.i64.wrap ((N : Int) + 7) = ((N + 7 : Nat) : Int) := by rw [wrap_i64 (by omega) (by omega)]; simp
  have q := quo_nat (N + 7) 8 (by omega) (by omega)
  rw [show ((8 : Nat) : Int) = 8 from rfl] at q
  exact bnd (x := ((N + 7 : Nat) : Int)) (by rw [w]) (bnd q rfl)
theorem check_good {B : List Int} {N : Nat} (h : Good B N) (hN : N ≤ 40000) : bits_Check (T_Bits.mk B (N : Int)) = some 0 := by
  unfold bits_Check
  have hb := bytesFor_eq N (by omega)
  have r8 := rem_nat N 8 (by omega)
  rw [show ((8 : Nat) : Int) = 8 from rfl] at r8
  have hl := h.len
  refine bndL (s := false) (cnd_f (by simp) (cnd_f (by simp; omega) (bnd hb ?_))) (cnd_f rfl (bnd r8 ?_))
  · have : (((B.length : Nat) : Int) != (((N + 7) / 8 : Nat) : Int)) = false := by rw [hl]; simp
    exact congrArg some (congrArg Sum.inl this)
  refine bndL (s := false) ?_ (cnd_f rfl rfl)
  by_cases h0 : N % 8 = 0
  · exact cnd_f (by simp [h0]) rfl
  have hlt : B.length - 1 < B.length := by omega
  have w : IntKind.i64.wrap (((B.length : Nat) : Int) - 1) = ((B.length - 1 : Nat) : Int) := by rw [wrap_i64 (by omega) (by omega)]; omega
  have hx := h.bytes _ (List.getElem_mem hlt)
  obtain ⟨x, hxe⟩ : ∃ x : Nat, B[B.length - 1] = (x : Int) := ⟨B[B.length - 1].toNat, by omega⟩
  have hr : N % 8 < 8 := Nat.mod_lt _ (by omega)
  have hxs : x < 2 ^ (N % 8) := by
    refine Nat.lt_pow_two_of_testBit _ fun i hi => ?_
    by_cases h8 : i < 8
    · have := h.zero (8 * (B.length - 1) + i) (by omega)
      simp only [bitC] at this
      rw [show (8 * (B.length - 1) + i) / 8 = B.length - 1 by omega, show (8 * (B.length - 1) + i) % 8 = i by omega] at this
      simpa [List.getD_eq_getElem?_getD, hlt, hxe] using this
    · exact Nat.testBit_lt_two_pow (Nat.lt_of_lt_of_le (show x < 2 ^ 8 by omega) (Nat.pow_le_pow_right (by omega) (by omega)))
  have hsh := shr_nat .u8 x (N % 8) (by simp only [IntKind.bits]; omega)
  rw [Nat.div_eq_of_lt hxs] at hsh
  refine cnd_t (by simp; omega) (bnd (x := ((B.length - 1 : Nat) : Int)) (by rw [← w]) (bnd (ixO_of hlt) (bnd (x := (x : Int)) (by rw [getO_of hlt, hxe]) (bnd hsh rfl))))
theorem bitC_set (s : List Int) (j q : Nat) (x : Int) (hj : j < s.length) : bitC (s.set j x) q = if q / 8 = j then x.toNat.testBit (q % 8) else bitC s q := by
  simp only [bitC, List.getD_eq_getElem?_getD, List.getElem?_set]
  by_cases h : j = q / 8
  · subst h; simp [hj]
  · rw [if_neg h, if_neg (fun e => h e.symm)]
theorem put_loop (X D : Nat) : ∀ (k fuel i : Nat) (s : List Int), s.length - i = k → i ≤ s.length → D ≤ i → k < fuel → s.length ≤ 10000 → isB s → X / 256 ^ (i - D) < 4294967296 →
    ∃ s', loopF putS fuel (s, ((X / 256 ^ (i - D) : Nat) : Int), (i : Int)) = some (.inl s') ∧ s'.length = s.length ∧ isB s' ∧
      ∀ q, q < 8 * s.length → bitC s' q = (bitC s q || (decide (8 * i ≤ q) && X.testBit (q - 8 * D))) := by
  intro k
  induction k with
  | zero =>
    intro fuel i s hk hi hD hf hl hs hX
    obtain ⟨f, rfl⟩ : ∃ f, fuel = f + 1 := ⟨fuel - 1, by omega⟩
    refine ⟨s, loop_exit ?_, rfl, hs, fun q hq => ?_⟩
    · unfold putS; exact cnd_f (by simp; omega) rfl
    · have : ¬ 8 * i ≤ q := by omega
      simp [this]
  | succ k ih =>
    intro fuel i s hk hi hD hf hl hs hX
    obtain ⟨f, rfl⟩ : ∃ f, fuel = f + 1 := ⟨fuel - 1, by omega⟩
    have hlt : i < s.length := by omega
    have hx := hs _ (List.getElem_mem hlt)
    obtain ⟨x, hxe⟩ : ∃ x : Nat, s[i] = (x : Int) := ⟨s[i].toNat, by omega⟩
    have hb : X / 256 ^ (i - D) % 256 < 256 := Nat.mod_lt _ (by omega)
    have hor := or_u8 x (X / 256 ^ (i - D) % 256) (by omega) hb
    have hxo : x ||| (X / 256 ^ (i - D) % 256) < 2 ^ 8 := Nat.or_lt_two_pow (by omega) (by omega)
    have w8 : IntKind.u8.wrap ((X / 256 ^ (i - D) : Nat) : Int) = ((X / 256 ^ (i - D) % 256 : Nat) : Int) := by rw [wrap_u8']; rfl
    have hsr := shr_nat .u32 (X / 256 ^ (i - D)) 8 (by decide)
    rw [show (2 : Nat) ^ 8 = 256 from rfl, Nat.div_div_eq_div_mul, ← Nat.pow_succ, show ((8 : Nat) : Int) = 8 from rfl, show (i - D).succ = i + 1 - D by omega] at hsr
    have w1 : IntKind.i64.wrap ((i : Int) + 1) = ((i + 1 : Nat) : Int) := by rw [wrap_i64 (by omega) (by omega)]; simp
    have hX2 : X / 256 ^ (i + 1 - D) < 4294967296 := by
      rw [show i + 1 - D = (i - D) + 1 by omega, Nat.pow_succ, ← Nat.div_div_eq_div_mul]
      exact Nat.lt_of_le_of_lt (Nat.div_le_self _ _) hX
    obtain ⟨s', h1, h2, h3, h4⟩ := ih f (i + 1) (s.set i ((x ||| (X / 256 ^ (i - D) % 256) : Nat) : Int)) (by rw [List.length_set]; omega) (by rw [List.length_set]; omega) (by omega) (by omega) (by rw [List.length_set]; omega)
      (fun n hn => by
        rcases List.mem_or_eq_of_mem_set hn with h | h
        · exact hs n h
        · omega) hX2
    refine ⟨s', (loop_next ?_).trans h1, by rw [h2, List.length_set], h3, fun q hq => ?_⟩
    · unfold putS
      exact cnd_t (by simp; omega) (bnd (ixO_of hlt) (bnd (x := (x : Int)) (by rw [getO_of hlt, hxe]) (bnd (x := ((X / 256 ^ (i - D) % 256 : Nat) : Int)) (by rw [w8]) (bnd (x := ((x ||| (X / 256 ^ (i - D) % 256) : Nat) : Int)) (by rw [hor]) (bnd (ixO_of hlt) (bnd rfl (bnd hsr (bnd (x := ((i + 1 : Nat) : Int)) (by rw [w1]) rfl))))))))
    · rw [h4 q (by rw [List.length_set]; exact hq), bitC_set s i q _ hlt]
      by_cases h8 : q / 8 = i
      · have hbx : bitC s q = x.testBit (q % 8) := by simp [bitC, List.getD_eq_getElem?_getD, h8, hlt, hxe]
        have e1 : ¬ 8 * (i + 1) ≤ q := by omega
        have e2 : 8 * i ≤ q := by omega
        rw [if_pos h8, Int.toNat_natCast, Nat.testBit_or, hbx]
        have e3 : (X / 256 ^ (i - D) % 256).testBit (q % 8) = X.testBit (q - 8 * D) := by
          have e256 : (256 : Nat) = 2 ^ 8 := rfl
          rw [e256, ← Nat.pow_mul, Nat.testBit_mod_two_pow, Nat.testBit_div_two_pow]
          have : q % 8 < 8 := Nat.mod_lt _ (by omega)
          rw [decide_eq_true this, Bool.true_and]
          congr 1; omega
        simp [e1, e2, e3]
      · rw [if_neg h8]
        have e1 : decide (8 * (i + 1) ≤ q) = decide (8 * i ≤ q) := by
          by_cases h : 8 * i ≤ q
          · have : 8 * (i + 1) ≤ q := by omega
            simp [h, this]
          · have : ¬ 8 * (i + 1) ≤ q := by omega
            simp [h, this]
        rw [e1]
theorem put_eq {B : List Int} {N : Nat} (h : Good B N) (v n : Nat) (hn : n ≤ 24) (hv : v < 2 ^ n) (hN : N + n ≤ 40000) :
    ∃ B', bits_Put (T_Bits.mk B (N : Int)) (v : Int) (n : Int) = some (T_Bits.mk B' ((N + n : Nat) : Int), 0) ∧ Good B' (N + n) ∧ (∀ q, q < N → bitC B' q = bitC B q) ∧ ∀ i, i < n → bitC B' (N + i) = v.testBit i := by
  have hp : 2 ^ n ≤ 2 ^ 24 := Nat.pow_le_pow_right (by omega) hn
  have e24 : (2 : Nat) ^ 24 = 16777216 := by decide
  have hl := h.len
  have wN : IntKind.i64.wrap ((N : Int) + (n : Int)) = ((N + n : Nat) : Int) := by rw [wrap_i64 (by omega) (by omega)]; simp
  have hbf := bytesFor_eq (N + n) (by omega)
  have hmk : mkO 1 (((N + n + 7) / 8 : Nat) : Int) (0 : Int) = some (List.replicate ((N + n + 7) / 8) 0) := by
    simp only [mkO, Int.toNat_natCast]; rw [if_pos (by omega)]
  generalize hZd : copyL (List.replicate ((N + n + 7) / 8) (0 : Int)) B = Z
  have hZ : Z = B ++ List.replicate ((N + n + 7) / 8 - B.length) 0 := by
    rw [← hZd, copyL, List.length_replicate, Nat.min_eq_left (by omega), List.take_length, List.drop_replicate]
  have hZl : Z.length = (N + n + 7) / 8 := by rw [hZ, List.length_append, List.length_replicate]; omega
  have hZb : isB Z := by
    intro x hx
    rw [hZ] at hx
    rcases List.mem_append.1 hx with hx | hx
    · exact h.bytes x hx
    · have := List.eq_of_mem_replicate hx; omega
  have hZbit : ∀ q, bitC Z q = bitC B q := by
    intro q
    simp only [bitC, List.getD_eq_getElem?_getD]
    rw [hZ]
    by_cases hq : q / 8 < B.length
    · rw [List.getElem?_append_left hq]
    · rw [List.getElem?_append_right (by omega), List.getElem?_replicate, List.getElem?_eq_none (l := B) (by omega)]
      split <;> rfl
  have wv : IntKind.u32.wrap (v : Int) = (v : Int) := wrap_u32c (by omega) (by omega)
  have r8 := rem_nat N 8 (by omega)
  have q8 := quo_nat N 8 (by omega) (by omega)
  rw [show ((8 : Nat) : Int) = 8 from rfl] at r8 q8
  have hr : N % 8 < 8 := Nat.mod_lt _ (by omega)
  have hpr : 2 ^ (N % 8) ≤ 2 ^ 7 := Nat.pow_le_pow_right (by omega) (by omega)
  have hX : v * 2 ^ (N % 8) < 4294967296 := by
    have := Nat.mul_le_mul (show v ≤ 16777216 by omega) hpr
    have e7 : (2 : Nat) ^ 7 = 128 := by decide
    omega
  have sh := shl_u32 v (N % 8) (by omega) hX
  obtain ⟨s, h1, h2, h3, h4⟩ := put_loop (v * 2 ^ (N % 8)) (N / 8) (Z.length - N / 8) BIG (N / 8) Z rfl (by omega) (Nat.le_refl _) (by unfold BIG; omega) (by omega) hZb (by rw [Nat.sub_self, Nat.pow_zero, Nat.div_one]; exact hX)
  rw [Nat.sub_self, Nat.pow_zero, Nat.div_one] at h1
  have hXbit : ∀ k, (v * 2 ^ (N % 8)).testBit k = (decide (N % 8 ≤ k) && v.testBit (k - N % 8)) := by
    intro k
    rw [Nat.mul_comm, Nat.testBit_two_pow_mul]
  have hout : ∀ q, 8 * s.length ≤ q → bitC s q = false := by
    intro q hq
    simp only [bitC, List.getD_eq_getElem?_getD]
    rw [List.getElem?_eq_none (by omega)]; simp
  refine ⟨s, ?_, ⟨by rw [h2, hZl], h3, fun q hq => ?_⟩, fun q hq => ?_, fun i hi => ?_⟩
  · unfold bits_Put
    exact bnd (check_good h (by omega)) (cnd_f rfl (bnd (fits_eq v n hn hv) (cnd_f rfl (bnd (x := ((N + n : Nat) : Int)) (by rw [wN]) (cnd_f (by simp; omega) (bnd (x := ((N + n : Nat) : Int)) (by rw [wN]) (bnd hbf (bnd hmk (bnd (x := Z) (by rw [hZd]) (bnd (x := (v : Int)) (by rw [wv]) (bnd r8 (bnd sh (bnd q8 (bndL h1 (bnd (x := ((N + n : Nat) : Int)) (by rw [wN]) rfl)))))))))))))))
  · by_cases hq2 : q < 8 * Z.length
    · rw [h4 q hq2, hZbit, h.zero q (by omega), hXbit]
      have : v.testBit (q - 8 * (N / 8) - N % 8) = false := Nat.testBit_lt_two_pow (Nat.lt_of_lt_of_le hv (Nat.pow_le_pow_right (by omega) (by omega)))
      rw [this]; simp
    · exact hout q (by omega)
  · rw [h4 q (by omega), hZbit, hXbit]
    have : ¬ (8 * (N / 8) ≤ q ∧ N % 8 ≤ q - 8 * (N / 8)) := by omega
    by_cases a1 : 8 * (N / 8) ≤ q
    · have a2 : ¬ N % 8 ≤ q - 8 * (N / 8) := fun h => this ⟨a1, h⟩
      simp [a2]
    · simp [a1]
  · rw [h4 (N + i) (by omega), hZbit, h.zero _ (by omega), hXbit, decide_eq_true (show 8 * (N / 8) ≤ N + i by omega), decide_eq_true (show N % 8 ≤ N + i - 8 * (N / 8) by omega)]
    simp only [Bool.false_or, Bool.true_and]
    congr 1; omega
def readS (lengths b v9 v13 : List Int) : ((Int × Int × Int)) → Option ((Int × Int × Int) ⊕ ((Unit) ⊕ (Int × Int × Int))) := (fun ((s52, s53, s54) : Int × Int × Int) =>
          bindS (S := Bool) (A := ((Int × Int × Int) ⊕ ((Unit) ⊕ (Int × Int × Int))))
            (cond ((decide (s54 ≤ 15)))
              ((some (IntKind.i64.wrap (8 * (b.length : Int)))).bind fun v16 =>
              some (.inl ((decide (s52 < v16)))))
              (some (.inl false)))
            (fun (s67 : Bool) =>
              cond (s67)
                ((shlO .i64 s53 1).bind fun v22 =>
                (quoO .i64 s52 8).bind fun v23 =>
                (ixO v23 b.length).bind fun v24 =>
                (getO b v24).bind fun v25 =>
                (remO s52 8).bind fun v26 =>
                (shrO .u8 v25 v26).bind fun v27 =>
                (some (bits .and .u8 v27 1)).bind fun v28 =>
                (some (IntKind.i64.wrap v28)).bind fun v29 =>
                (some (bits .or .i64 v22 v29)).bind fun v30 =>
                (some (IntKind.i64.wrap (s52 + 1))).bind fun v31 =>
                (ixO s54 16).bind fun v32 =>
                (getO v13 v32).bind fun v33 =>
                (ixO s54 16).bind fun v34 =>
                (getO v9 v34).bind fun v35 =>
                (some (IntKind.i64.wrap (v33 + v35))).bind fun v36 =>
                cond ((decide (v30 < v36)))
                  ((ixO s54 16).bind fun v38 =>
                  (getO v13 v38).bind fun v39 =>
                  (some (IntKind.i64.wrap (v30 - v39))).bind fun v40 =>
                  (canon_nth lengths s54 v40).bind fun v41 =>
                  some (.inr (.inr ((v41, v31, 0)))))
                  ((some (IntKind.i64.wrap (s54 + 1))).bind fun v42 =>
                  some (.inl (v31, v30, v42))))
                (some (.inr (.inl ())))) some)
theorem code_pre {m : List Nat} (hm : ∀ x ∈ m, x ≤ 15) {j : Nat} (hj : j < m.length) (h0 : m[j] ≠ 0) {n : Nat} (h1 : 1 ≤ n) (hn : n < m[j]) : fst m n + m.count n ≤ code m j / 2 ^ (m[j] - n) := by
  have xj := hm _ (List.getElem_mem hj)
  have a1 := ws_step m h1 (show n ≤ 15 by omega)
  have a2 := fst_step m (n := m[j]) (by omega) xj
  have a3 := ws_mono m (a := n) (b := m[j] - 1) (by omega)
  have e2 : 2 ^ (15 - n) = 2 ^ (m[j] - n) * 2 ^ (15 - m[j]) := by rw [← Nat.pow_add]; congr 1; omega
  rw [e2, ← Nat.mul_assoc] at a1
  have h3 : (fst m n + m.count n) * 2 ^ (m[j] - n) ≤ fst m m[j] := by
    refine Nat.le_of_mul_le_mul_right ?_ (Nat.pow_pos (show 0 < 2 by omega) (n := 15 - m[j]))
    omega
  refine (Nat.le_div_iff_mul_le (Nat.pow_pos (by omega))).2 ?_
  rw [code_of hj h0]
  omega
theorem read_code {m : List Nat} (hl : m.length ≤ 300) (hm : ∀ x ∈ m, x ≤ 15) (hf : forms m = true) {B : List Int} (hB : isB B) (hbl : B.length ≤ 1000) {j : Nat} (hj : j < m.length) (h0 : m[j] ≠ 0) (P : Nat) (hP : P + m[j] ≤ 8 * B.length)
    (hbits : ∀ i, i < m[j] → bitC B (P + i) = (code m j).testBit (m[j] - 1 - i)) : canon_Read (ints m) B (P : Int) = some ((j : Int), ((P + m[j] : Nat) : Int), 0) := by
  have hwl := forms_ws hf
  have hck := check_ints m (by omega)
  rw [if_pos ⟨hl, hm⟩, if_pos hf] at hck
  have l16 : lnO 16 (ints (fl m 16)) = some (ints (fl m 16)) := by simp [lnO, ints_len, fl_len]
  have l16t : lnO 16 (ints (tal m)) = some (ints (tal m)) := by simp [lnO, ints_len, tal_len]
  have l0 : lnO 16 (List.replicate 16 (0 : Int)) = some (List.replicate 16 (0 : Int)) := by decide
  have w8 : IntKind.i64.wrap (8 * (B.length : Int)) = ((8 * B.length : Nat) : Int) := by rw [wrap_i64 (by omega) (by omega)]; simp
  have xj := hm _ (List.getElem_mem hj)
  have hcl := code_lt hwl hm hj h0
  have key : ∀ (k fuel n : Nat), m[j] - n = k → 1 ≤ n → n ≤ m[j] → k < fuel →
      loopF (readS (ints m) B (ints (tal m)) (ints (fl m 16))) fuel (((P + n - 1 : Nat) : Int), ((code m j / 2 ^ (m[j] - (n - 1)) : Nat) : Int), (n : Int)) = some (.inr ((j : Int), ((P + m[j] : Nat) : Int), 0)) := by
    intro k
    induction k with
    | zero =>
      intro fuel n hk h1 hn hfu
      have hne : n = m[j] := by omega
      obtain ⟨f, rfl⟩ : ∃ f, fuel = f + 1 := ⟨fuel - 1, by omega⟩
      have h16 : n < 16 := by omega
      have h15 : n ≤ 15 := by omega
      have hpq : (P + n - 1) / 8 < B.length := by omega
      have hx := hB _ (List.getElem_mem hpq)
      obtain ⟨x, hxe⟩ : ∃ x : Nat, B[(P + n - 1) / 8] = (x : Int) := ⟨B[(P + n - 1) / 8].toNat, by omega⟩
      have hx256 : x < 256 := by omega
      have q8 := quo_nat (P + n - 1) 8 (by omega) (by omega)
      have r8 := rem_nat (P + n - 1) 8 (by omega)
      rw [show ((8 : Nat) : Int) = 8 from rfl] at q8 r8
      have hr8 : (P + n - 1) % 8 < 8 := Nat.mod_lt _ (by omega)
      have hsh := shr_nat .u8 x ((P + n - 1) % 8) (by simp only [IntKind.bits]; omega)
      have hdv : x / 2 ^ ((P + n - 1) % 8) < 256 := Nat.lt_of_le_of_lt (Nat.div_le_self _ _) hx256
      have hand := and1_u8 _ hdv
      have hb := hbits (n - 1) (by omega)
      have hbx : bitC B (P + (n - 1)) = x.testBit ((P + n - 1) % 8) := by
        rw [show P + (n - 1) = P + n - 1 by omega]
        simp [bitC, List.getD_eq_getElem?_getD, hpq, hxe]
      rw [hbx, Nat.testBit_eq_decide_div_mod_eq, Nat.testBit_eq_decide_div_mod_eq, show m[j] - 1 - (n - 1) = m[j] - n by omega] at hb
      have hy : x / 2 ^ ((P + n - 1) % 8) % 2 = code m j / 2 ^ (m[j] - n) % 2 := by
        have a1 : x / 2 ^ ((P + n - 1) % 8) % 2 < 2 := Nat.mod_lt _ (by omega)
        have a2 : code m j / 2 ^ (m[j] - n) % 2 < 2 := Nat.mod_lt _ (by omega)
        rcases Nat.lt_or_ge (x / 2 ^ ((P + n - 1) % 8) % 2) 1 with h | h
        · have e1 : ¬ x / 2 ^ ((P + n - 1) % 8) % 2 = 1 := by omega
          rw [decide_eq_false e1] at hb
          have := of_decide_eq_false hb.symm
          omega
        · have e1 : x / 2 ^ ((P + n - 1) % 8) % 2 = 1 := by omega
          rw [decide_eq_true e1] at hb
          have := of_decide_eq_true hb.symm
          omega
      have hc2 : 2 * (code m j / 2 ^ (m[j] - (n - 1))) + code m j / 2 ^ (m[j] - n) % 2 = code m j / 2 ^ (m[j] - n) := by
        rw [show m[j] - (n - 1) = (m[j] - n) + 1 by omega, Nat.pow_succ, ← Nat.div_div_eq_div_mul]
        omega
      have hcs : code m j / 2 ^ (m[j] - (n - 1)) ≤ 32768 := Nat.le_trans (Nat.div_le_self _ _) (by have := pow_le15 xj; omega)
      have hcs2 : code m j / 2 ^ (m[j] - n) ≤ 32768 := Nat.le_trans (Nat.div_le_self _ _) (by have := pow_le15 xj; omega)
      rw [hy] at hand
      have hyl : code m j / 2 ^ (m[j] - n) % 2 < 2 := Nat.mod_lt _ (by omega)
      generalize code m j / 2 ^ (m[j] - (n - 1)) = c at *
      have hor := or_bit c (code m j / 2 ^ (m[j] - n) % 2) (by omega) hyl
      rw [hc2] at hor
      have sh1 := shl_nat c 1 (by omega) (by omega)
      rw [Nat.pow_one, Nat.mul_comm c 2, show ((1 : Nat) : Int) = 1 from rfl] at sh1
      generalize hCd : code m j / 2 ^ (m[j] - n) = C at *
      have wy : IntKind.i64.wrap ((C % 2 : Nat) : Int) = ((C % 2 : Nat) : Int) := wrap_i64 (by omega) (by omega)
      have w1 : IntKind.i64.wrap (((P + n - 1 : Nat) : Int) + 1) = ((P + m[j] : Nat) : Int) := by rw [wrap_i64 (by omega) (by omega)]; omega
      have hfl : n < (fl m 16).length := by rw [fl_len]; exact h16
      have hfg : (fl m 16)[n] = fst m n := by simp [fl, h16]
      have hg1 : getO (ints (fl m 16)) n = some ((fst m n : Nat) : Int) := by rw [ints_get hfl, hfg]
      have hg2 := tal_get m h16 (by omega)
      have hle := fst_le hwl h1 h15
      have hp2 := pow_le15 h15
      have w3 : IntKind.i64.wrap (((fst m n : Nat) : Int) + ((m.count n : Nat) : Int)) = ((fst m n + m.count n : Nat) : Int) := by rw [wrap_i64 (by omega) (by omega)]; simp
      have hgo : decide ((((P + n - 1 : Nat) : Int)) < ((8 * B.length : Nat) : Int)) = true := by simp; omega
      have d15 : decide ((n : Int) ≤ 15) = true := by simp; omega
      have hC : C = code m j := by rw [← hCd, hne, Nat.sub_self, Nat.pow_zero, Nat.div_one]
      have hct := count_take_lt hj
      have hcode := code_of hj h0
      rw [← hne] at hct hcode
      obtain ⟨j', hj', e1, e2, hnth⟩ := nth_eq m n (C - fst m n) (by omega) (by omega)
      have hjj : j' = j := by
        have hc' := code_of hj' (by omega)
        rw [e1] at hc'
        rcases Nat.lt_trichotomy j' j with h | h | h
        · have := code_same hj' hj (by omega) (by omega) h; omega
        · exact h
        · have := code_same hj hj' h0 (by omega) h; omega
      rw [hjj] at hnth
      have w4 : IntKind.i64.wrap ((C : Int) - ((fst m n : Nat) : Int)) = ((C - fst m n : Nat) : Int) := by rw [wrap_i64 (by omega) (by omega)]; omega
      refine loop_exit ?_
      unfold readS
      exact bndL (s := true) (cnd_t d15 (bnd (x := ((8 * B.length : Nat) : Int)) (by rw [w8]) (by rw [hgo]))) (cnd_t rfl (bnd sh1 (bnd q8 (bnd (ixO_of hpq) (bnd (x := (x : Int)) (by rw [getO_of hpq, hxe]) (bnd r8 (bnd hsh (bnd (x := ((C % 2 : Nat) : Int)) (by rw [hand])
          (bnd (x := ((C % 2 : Nat) : Int)) (by rw [wy]) (bnd (x := (C : Int)) (by rw [hor]) (bnd (x := ((P + m[j] : Nat) : Int)) (by rw [w1]) (bnd (ixO_of h16) (bnd hg1 (bnd (ixO_of h16) (bnd hg2 (bnd (x := ((fst m n + m.count n : Nat) : Int)) (by rw [w3]) (cnd_t (by simp; omega)
          (bnd (ixO_of h16) (bnd hg1 (bnd (x := ((C - fst m n : Nat) : Int)) (by rw [w4]) (bnd hnth rfl)))))))))))))))))))))
    | succ k ih =>
      intro fuel n hk h1 hn hfu
      obtain ⟨f, rfl⟩ : ∃ f, fuel = f + 1 := ⟨fuel - 1, by omega⟩
      have h16 : n < 16 := by omega
      have h15 : n ≤ 15 := by omega
      have hpq : (P + n - 1) / 8 < B.length := by omega
      have hx := hB _ (List.getElem_mem hpq)
      obtain ⟨x, hxe⟩ : ∃ x : Nat, B[(P + n - 1) / 8] = (x : Int) := ⟨B[(P + n - 1) / 8].toNat, by omega⟩
      have hx256 : x < 256 := by omega
      have q8 := quo_nat (P + n - 1) 8 (by omega) (by omega)
      have r8 := rem_nat (P + n - 1) 8 (by omega)
      rw [show ((8 : Nat) : Int) = 8 from rfl] at q8 r8
      have hr8 : (P + n - 1) % 8 < 8 := Nat.mod_lt _ (by omega)
      have hsh := shr_nat .u8 x ((P + n - 1) % 8) (by simp only [IntKind.bits]; omega)
      have hdv : x / 2 ^ ((P + n - 1) % 8) < 256 := Nat.lt_of_le_of_lt (Nat.div_le_self _ _) hx256
      have hand := and1_u8 _ hdv
      have hb := hbits (n - 1) (by omega)
      have hbx : bitC B (P + (n - 1)) = x.testBit ((P + n - 1) % 8) := by
        rw [show P + (n - 1) = P + n - 1 by omega]
        simp [bitC, List.getD_eq_getElem?_getD, hpq, hxe]
      rw [hbx, Nat.testBit_eq_decide_div_mod_eq, Nat.testBit_eq_decide_div_mod_eq, show m[j] - 1 - (n - 1) = m[j] - n by omega] at hb
      have hy : x / 2 ^ ((P + n - 1) % 8) % 2 = code m j / 2 ^ (m[j] - n) % 2 := by
        have a1 : x / 2 ^ ((P + n - 1) % 8) % 2 < 2 := Nat.mod_lt _ (by omega)
        have a2 : code m j / 2 ^ (m[j] - n) % 2 < 2 := Nat.mod_lt _ (by omega)
        rcases Nat.lt_or_ge (x / 2 ^ ((P + n - 1) % 8) % 2) 1 with h | h
        · have e1 : ¬ x / 2 ^ ((P + n - 1) % 8) % 2 = 1 := by omega
          rw [decide_eq_false e1] at hb
          have := of_decide_eq_false hb.symm
          omega
        · have e1 : x / 2 ^ ((P + n - 1) % 8) % 2 = 1 := by omega
          rw [decide_eq_true e1] at hb
          have := of_decide_eq_true hb.symm
          omega
      have hc2 : 2 * (code m j / 2 ^ (m[j] - (n - 1))) + code m j / 2 ^ (m[j] - n) % 2 = code m j / 2 ^ (m[j] - n) := by
        rw [show m[j] - (n - 1) = (m[j] - n) + 1 by omega, Nat.pow_succ, ← Nat.div_div_eq_div_mul]
        omega
      have hcs : code m j / 2 ^ (m[j] - (n - 1)) ≤ 32768 := Nat.le_trans (Nat.div_le_self _ _) (by have := pow_le15 xj; omega)
      have hcs2 : code m j / 2 ^ (m[j] - n) ≤ 32768 := Nat.le_trans (Nat.div_le_self _ _) (by have := pow_le15 xj; omega)
      have hpre := code_pre hm hj h0 h1 (by omega)
      have hr := ih f (n + 1) (by omega) (by omega) (by omega) (by omega)
      rw [show n + 1 - 1 = n by omega] at hr
      rw [hy] at hand
      have hyl : code m j / 2 ^ (m[j] - n) % 2 < 2 := Nat.mod_lt _ (by omega)
      generalize code m j / 2 ^ (m[j] - (n - 1)) = c at *
      have hor := or_bit c (code m j / 2 ^ (m[j] - n) % 2) (by omega) hyl
      rw [hc2] at hor
      have sh1 := shl_nat c 1 (by omega) (by omega)
      rw [Nat.pow_one, Nat.mul_comm c 2, show ((1 : Nat) : Int) = 1 from rfl] at sh1
      generalize hCd : code m j / 2 ^ (m[j] - n) = C at *
      have wy : IntKind.i64.wrap ((C % 2 : Nat) : Int) = ((C % 2 : Nat) : Int) := wrap_i64 (by omega) (by omega)
      have w1 : IntKind.i64.wrap (((P + n - 1 : Nat) : Int) + 1) = ((P + (n + 1) - 1 : Nat) : Int) := by rw [wrap_i64 (by omega) (by omega)]; omega
      have w2 : IntKind.i64.wrap ((n : Int) + 1) = ((n + 1 : Nat) : Int) := by rw [wrap_i64 (by omega) (by omega)]; simp
      have hfl : n < (fl m 16).length := by rw [fl_len]; exact h16
      have hfg : (fl m 16)[n] = fst m n := by simp [fl, h16]
      have hg1 : getO (ints (fl m 16)) n = some ((fst m n : Nat) : Int) := by rw [ints_get hfl, hfg]
      have hg2 := tal_get m h16 (by omega)
      have hle := fst_le hwl h1 h15
      have hp2 := pow_le15 h15
      have w3 : IntKind.i64.wrap (((fst m n : Nat) : Int) + ((m.count n : Nat) : Int)) = ((fst m n + m.count n : Nat) : Int) := by rw [wrap_i64 (by omega) (by omega)]; simp
      have hgo : decide ((((P + n - 1 : Nat) : Int)) < ((8 * B.length : Nat) : Int)) = true := by simp; omega
      have d15 : decide ((n : Int) ≤ 15) = true := by simp; omega
      refine (loop_next ?_).trans hr
      unfold readS
      exact bndL (s := true) (cnd_t d15 (bnd (x := ((8 * B.length : Nat) : Int)) (by rw [w8]) (by rw [hgo]))) (cnd_t rfl (bnd sh1 (bnd q8 (bnd (ixO_of hpq) (bnd (x := (x : Int)) (by rw [getO_of hpq, hxe]) (bnd r8 (bnd hsh (bnd (x := ((C % 2 : Nat) : Int)) (by rw [hand])
          (bnd (x := ((C % 2 : Nat) : Int)) (by rw [wy]) (bnd (x := (C : Int)) (by rw [hor]) (bnd (x := ((P + (n + 1) - 1 : Nat) : Int)) (by rw [w1]) (bnd (ixO_of h16) (bnd hg1 (bnd (ixO_of h16) (bnd hg2 (bnd (x := ((fst m n + m.count n : Nat) : Int)) (by rw [w3]) (cnd_f (by simp; omega)
          (bnd (x := ((n + 1 : Nat) : Int)) (by rw [w2]) rfl))))))))))))))))))
  have hk := key (m[j] - 1) BIG 1 rfl (by omega) (by omega) (by unfold BIG; omega)
  rw [show P + 1 - 1 = P by omega, Nat.sub_self, Nat.sub_zero, Nat.div_eq_of_lt (by omega)] at hk
  unfold canon_Read
  refine bnd hck (cnd_f rfl (bndL (s := false) (cnd_f (by simp) (bnd (x := ((8 * B.length : Nat) : Int)) (by rw [w8]) ?_)) (cnd_f rfl (bnd (count_eq m hm (by omega)) (bnd l0 (bnd l16t (bnd l16t (bnd (firsts_eq m (by omega) hwl) (bnd l0 (bnd l16 (bndR (a := ((j : Int), ((P + m[j] : Nat) : Int), 0)) hk rfl)))))))))))
  rw [decide_eq_false (by omega)]
end Go.Abs.Sh
