import Derived.Test.YtjnihhkkaioahaaCanonB
namespace Go.Abs.Sh
set_option linter.unusedVariables false
set_option linter.unusedSimpArgs false

theorem nth_some (l : List Int) (n : Int) (hl : l.length ≤ 1000) : ∀ (k fuel i : Nat) (q : Int), l.length - i = k → i ≤ l.length → k < fuel →
    ∃ r, loopF (S := (Int × Int)) (O := (Unit) ⊕ Int) (fun ((s25, s26) : Int × Int) =>
      cond ((decide (s26 < (l.length : Int))))
        (bindS (S := Int) (A := ((Int × Int) ⊕ ((Unit) ⊕ Int)))
          ((ixO s26 l.length).bind fun v2 =>
          (getO l v2).bind fun v3 =>
          cond ((v3 != n))
            (some (.inl s25))
            (cond ((s25 == 0))
              (some (.inr (.inr (.inr (s26)))))
              ((some (IntKind.i64.wrap (s25 - 1))).bind fun v6 =>
              some (.inl v6))))
          (fun (s45 : Int) =>
            (some (IntKind.i64.wrap (s26 + 1))).bind fun v13 =>
            some (.inl (s45, v13))) some)
        (some (.inr (.inl ())))) fuel (q, (i : Int)) = some r := by
  intro k
  induction k with
  | zero =>
    intro fuel i q hk hi hf
    obtain ⟨f, rfl⟩ : ∃ f, fuel = f + 1 := ⟨fuel - 1, by omega⟩
    have : i = l.length := by omega
    subst this
    exact ⟨_, loop_exit (cnd_f (by simp) rfl)⟩
  | succ k ih =>
    intro fuel i q hk hi hf
    obtain ⟨f, rfl⟩ : ∃ f, fuel = f + 1 := ⟨fuel - 1, by omega⟩
    have hlt : i < l.length := by omega
    have hw : IntKind.i64.wrap ((i : Int) + 1) = ((i + 1 : Nat) : Int) := by rw [wrap_i64 (by omega) (by omega)]; simp
    by_cases h1 : l[i] = n
    · by_cases h2 : q = 0
      · exact ⟨_, loop_exit (cnd_t (by simp; omega) (bndR (a := .inr (.inr (i : Int))) (bnd (ixO_of hlt) (bnd (getO_of hlt) (cnd_f (by simp [h1]) (cnd_t (by simp [h2]) rfl)))) rfl))⟩
      · obtain ⟨r, hr⟩ := ih f (i + 1) (IntKind.i64.wrap (q - 1)) (by omega) (by omega) (by omega)
        exact ⟨r, (loop_next (cnd_t (by simp; omega) (bndL (s := IntKind.i64.wrap (q - 1)) (bnd (ixO_of hlt) (bnd (getO_of hlt) (cnd_f (by simp [h1]) (cnd_f (by simp [h2]) (bnd rfl rfl))))) (bnd (x := ((i + 1 : Nat) : Int)) (by rw [hw]) rfl)))).trans hr⟩
    · obtain ⟨r, hr⟩ := ih f (i + 1) q (by omega) (by omega) (by omega)
      exact ⟨r, (loop_next (cnd_t (by simp; omega) (bndL (s := q) (bnd (ixO_of hlt) (bnd (getO_of hlt) (cnd_t (by simp [h1]) rfl))) (bnd (x := ((i + 1 : Nat) : Int)) (by rw [hw]) rfl)))).trans hr⟩
theorem nth_is (l : List Int) (n k : Int) (hl : l.length ≤ 1000) : ∃ r, canon_nth l n k = some r := by
  obtain ⟨r, hr⟩ := nth_some l n hl l.length BIG 0 k (by omega) (Nat.zero_le _) (by unfold BIG; omega)
  unfold canon_nth
  cases r with
  | inl u => exact ⟨0, bndL (s := u) hr rfl⟩
  | inr a => exact ⟨a, bndR (a := a) hr rfl⟩

theorem ofInt64c (a : Nat) (ha : a < 9223372036854775808) : (BitVec.ofInt 64 (a : Int)).toNat = a := ofInt64 a ha
theorem or_bit (c x : Nat) (hc : c < 1000000) (hx : x < 2) : bits .or .i64 ((2 * c : Nat) : Int) (x : Int) = ((2 * c + x : Nat) : Int) := by
  have h := Nat.shiftLeft_add_eq_or_of_lt (a := c) (b := x) (i := 1) (by omega)
  rw [Nat.shiftLeft_eq, Nat.pow_one, Nat.mul_comm] at h
  show IntKind.i64.wrap ((BitVec.ofInt 64 ((2 * c : Nat) : Int) ||| BitVec.ofInt 64 (x : Int)).toNat : Int) = _
  rw [BitVec.toNat_or, ofInt64 _ (by omega), ofInt64 _ (by omega), ← h, wrap_i64 (by omega) (by omega)]

theorem read_full (m : List Nat) (hl : m.length ≤ 300) (hm : ∀ x ∈ m, x ≤ 15) (hf : forms m = true) (hw : ws m 15 = 32768) (b : List Int) (hb : ∀ n ∈ b, 0 ≤ n ∧ n < 256) (hb2 : 2 ≤ b.length) (hb3 : b.length ≤ 1000) :
    ∃ r s, canon_Read (ints m) b 0 = some (r, s, 0) := by
  have hck := check_ints m (by omega)
  rw [if_pos ⟨hl, hm⟩, if_pos hf] at hck
  have l16 : lnO 16 (ints (fl m 16)) = some (ints (fl m 16)) := by simp [lnO, ints_len, fl_len]
  have l16t : lnO 16 (ints (tal m)) = some (ints (tal m)) := by simp [lnO, ints_len, tal_len]
  have l0 : lnO 16 (List.replicate 16 (0 : Int)) = some (List.replicate 16 (0 : Int)) := by decide
  have w8 : IntKind.i64.wrap (8 * (b.length : Int)) = ((8 * b.length : Nat) : Int) := by rw [wrap_i64 (by omega) (by omega)]; simp
  have hwl : ws m 15 ≤ 32768 := by omega
  have key : ∀ (k fuel n c : Nat), 16 - n = k → 1 ≤ n → n ≤ 15 → k < fuel → c < 2 ^ (n - 1) →
      ∃ r s, loopF (S := (Int × Int × Int)) (O := (Unit) ⊕ (Int × Int × Int)) (fun ((s52, s53, s54) : Int × Int × Int) =>
              bindS (S := Bool) (A := ((Int × Int × Int) ⊕ ((Unit) ⊕ (Int × Int × Int))))
                (cond ((decide (s54 ≤ 15)))
                  ((some (IntKind.i64.wrap (8 * (b.length : Int)))).bind fun v16 =>
                  some (.inl ((decide (s52 < v16)))))
                  (some (.inl false)))
                (fun (s67 : Bool) =>
                  cond (s67)
                    ((shlO .i64 s53 1).bind fun v22 =>
                    (quoO .i64 s52 8).bind fun v23 =>
                    (ixO v23 b.length).bind fun v24 =>
                    (getO b v24).bind fun v25 =>
                    (remO s52 8).bind fun v26 =>
                    (shrO .u8 v25 v26).bind fun v27 =>
                    (some (bits .and .u8 v27 1)).bind fun v28 =>
                    (some (IntKind.i64.wrap v28)).bind fun v29 =>
                    (some (bits .or .i64 v22 v29)).bind fun v30 =>
                    (some (IntKind.i64.wrap (s52 + 1))).bind fun v31 =>
                    (ixO s54 16).bind fun v32 =>
                    (getO (ints (fl m 16)) v32).bind fun v33 =>
                    (ixO s54 16).bind fun v34 =>
                    (getO (ints (tal m)) v34).bind fun v35 =>
                    (some (IntKind.i64.wrap (v33 + v35))).bind fun v36 =>
                    cond ((decide (v30 < v36)))
                      ((ixO s54 16).bind fun v38 =>
                      (getO (ints (fl m 16)) v38).bind fun v39 =>
                      (some (IntKind.i64.wrap (v30 - v39))).bind fun v40 =>
                      (canon_nth (ints m) s54 v40).bind fun v41 =>
                      some (.inr (.inr ((v41, v31, 0)))))
                      ((some (IntKind.i64.wrap (s54 + 1))).bind fun v42 =>
                      some (.inl (v31, v30, v42))))
                    (some (.inr (.inl ())))) some) fuel (((n - 1 : Nat) : Int), (c : Int), (n : Int)) = some (.inr (r, s, 0)) := by
    intro k
    induction k with
    | zero => intro fuel n c hk h1 h15; omega
    | succ k ih =>
      intro fuel n c hk h1 h15 hf hc
      obtain ⟨f, rfl⟩ : ∃ f, fuel = f + 1 := ⟨fuel - 1, by omega⟩
      have h16 : n < 16 := by omega
      have hp := pow_le15 (n := n - 1) (by omega)
      have hj : (n - 1) / 8 < b.length := by omega
      have hx := hb b[(n - 1) / 8] (List.getElem_mem hj)
      obtain ⟨x, hxe⟩ : ∃ x : Nat, b[(n - 1) / 8] = (x : Int) := ⟨b[(n - 1) / 8].toNat, by omega⟩
      have hx256 : x < 256 := by omega
      have q8 := quo_nat (n - 1) 8 (by omega) (by omega)
      have r8 := rem_nat (n - 1) 8 (by omega)
      rw [show ((8 : Nat) : Int) = 8 from rfl] at q8 r8
      have hr8 : (n - 1) % 8 < 8 := Nat.mod_lt _ (by omega)
      have hsh := shr_nat .u8 x ((n - 1) % 8) (by simp only [IntKind.bits]; omega)
      have hdv : x / 2 ^ ((n - 1) % 8) < 256 := Nat.lt_of_le_of_lt (Nat.div_le_self _ _) hx256
      have hy : x / 2 ^ ((n - 1) % 8) % 2 < 2 := Nat.mod_lt _ (by omega)
      generalize hyd : x / 2 ^ ((n - 1) % 8) % 2 = y at *
      have sh1 := shl_nat c 1 (by omega) (by omega)
      rw [Nat.pow_one, Nat.mul_comm c 2, show ((1 : Nat) : Int) = 1 from rfl] at sh1
      have wy : IntKind.i64.wrap (y : Int) = (y : Int) := wrap_i64 (by omega) (by omega)
      have hor := or_bit c y (by omega) hy
      have w1 : IntKind.i64.wrap (((n - 1 : Nat) : Int) + 1) = ((n + 1 - 1 : Nat) : Int) := by rw [wrap_i64 (by omega) (by omega)]; omega
      have w2 : IntKind.i64.wrap ((n : Int) + 1) = ((n + 1 : Nat) : Int) := by rw [wrap_i64 (by omega) (by omega)]; simp
      have hfl : n < (fl m 16).length := by rw [fl_len]; exact h16
      have hfg : (fl m 16)[n] = fst m n := by simp [fl, h16]
      have hg1 : getO (ints (fl m 16)) n = some ((fst m n : Nat) : Int) := by rw [ints_get hfl, hfg]
      have hg2 := tal_get m h16 (by omega)
      have hle := fst_le hwl h1 h15
      have hp2 := pow_le15 h15
      have w3 : IntKind.i64.wrap (((fst m n : Nat) : Int) + ((m.count n : Nat) : Int)) = ((fst m n + m.count n : Nat) : Int) := by rw [wrap_i64 (by omega) (by omega)]; simp
      have hc2 : 2 * c + y < 2 ^ n := by
        have : 2 ^ n = 2 * 2 ^ (n - 1) := by rw [← Nat.pow_succ']; congr 1; omega
        omega
      have hgo : decide ((((n - 1 : Nat) : Int)) < ((8 * b.length : Nat) : Int)) = true := by simp; omega
      have d15 : decide ((n : Int) ≤ 15) = true := by simp; omega
      by_cases hin : 2 * c + y < fst m n + m.count n
      · have w4 : IntKind.i64.wrap (((2 * c + y : Nat) : Int) - ((fst m n : Nat) : Int)) = ((2 * c + y : Nat) : Int) - ((fst m n : Nat) : Int) := wrap_i64 (by omega) (by omega)
        obtain ⟨r, hr⟩ := nth_is (ints m) (n : Int) (((2 * c + y : Nat) : Int) - ((fst m n : Nat) : Int)) (by rw [ints_len]; omega)
        refine ⟨r, ((n + 1 - 1 : Nat) : Int), loop_exit (bndL (s := true) (cnd_t d15 (bnd (x := ((8 * b.length : Nat) : Int)) (by rw [w8]) (by rw [hgo]))) (cnd_t rfl (bnd sh1 (bnd q8 (bnd (ixO_of hj) (bnd (x := (x : Int)) (by rw [getO_of hj, hxe]) (bnd r8 (bnd hsh (bnd (x := (y : Int)) (by rw [and1_u8 _ hdv, hyd])
          (bnd (x := (y : Int)) (by rw [wy]) (bnd (x := ((2 * c + y : Nat) : Int)) (by rw [hor]) (bnd (x := ((n + 1 - 1 : Nat) : Int)) (by rw [w1]) (bnd (ixO_of h16) (bnd hg1 (bnd (ixO_of h16) (bnd hg2 (bnd (x := ((fst m n + m.count n : Nat) : Int)) (by rw [w3]) (cnd_t (by simp; omega)
          (bnd (ixO_of h16) (bnd hg1 (bnd (x := ((2 * c + y : Nat) : Int) - ((fst m n : Nat) : Int)) (by rw [w4]) (bnd hr rfl))))))))))))))))))))))⟩
      · have hn15 : n ≠ 15 := by
          intro h
          subst h
          have := ws_step m (n := 15) (by omega) (by omega)
          simp only [Nat.sub_self, Nat.pow_zero, Nat.mul_one] at this
          have e : (2 : Nat) ^ 15 = 32768 := by decide
          omega
        obtain ⟨r, s, hr⟩ := ih f (n + 1) (2 * c + y) (by omega) (by omega) (by omega) (by omega) (by rw [Nat.add_sub_cancel]; exact hc2)
        refine ⟨r, s, (loop_next (bndL (s := true) (cnd_t d15 (bnd (x := ((8 * b.length : Nat) : Int)) (by rw [w8]) (by rw [hgo]))) (cnd_t rfl (bnd sh1 (bnd q8 (bnd (ixO_of hj) (bnd (x := (x : Int)) (by rw [getO_of hj, hxe]) (bnd r8 (bnd hsh (bnd (x := (y : Int)) (by rw [and1_u8 _ hdv, hyd])
          (bnd (x := (y : Int)) (by rw [wy]) (bnd (x := ((2 * c + y : Nat) : Int)) (by rw [hor]) (bnd (x := ((n + 1 - 1 : Nat) : Int)) (by rw [w1]) (bnd (ixO_of h16) (bnd hg1 (bnd (ixO_of h16) (bnd hg2 (bnd (x := ((fst m n + m.count n : Nat) : Int)) (by rw [w3]) (cnd_f (by simp; omega)
          (bnd (x := ((n + 1 : Nat) : Int)) (by rw [w2]) rfl)))))))))))))))))))).trans hr⟩
  obtain ⟨r, s, hr⟩ := key 15 BIG 1 0 rfl (by omega) (by omega) (by unfold BIG; omega) (by decide)
  refine ⟨r, s, ?_⟩
  unfold canon_Read
  refine bnd hck (cnd_f rfl (bndL (s := false) (cnd_f rfl (bnd (x := ((8 * b.length : Nat) : Int)) (by rw [w8]) ?_)) (cnd_f rfl (bnd (count_eq m hm (by omega)) (bnd l0 (bnd l16t (bnd l16t (bnd (firsts_eq m (by omega) hwl) (bnd l0 (bnd l16 (bndR (a := (r, s, 0)) hr rfl))))))))))) 
  rw [decide_eq_false (by omega)]

theorem ws_snoc (m : List Nat) (x : Nat) (h1 : 1 ≤ x) (h15 : x ≤ 15) : ∀ k, ws (m ++ [x]) k = ws m k + if x ≤ k then 2 ^ (15 - x) else 0
  | 0 => by rw [if_neg (by omega)]; rfl
  | k + 1 => by
    rw [ws, ws, ws_snoc m x h1 h15 k, List.count_append]
    by_cases h : x = k + 1
    · subst h
      rw [if_neg (by omega), if_pos (by omega)]
      simp [Nat.add_mul]; omega
    · have : List.count (k + 1) [x] = 0 := by simp [List.count_cons, h]
      rw [this, Nat.add_zero]
      by_cases h2 : x ≤ k
      · rw [if_pos h2, if_pos (by omega)]; omega
      · rw [if_neg h2, if_neg (by omega)]; omega

theorem canonWhole_true (l b : List Int) (more : Int) (hb : ∀ n ∈ b, 0 ≤ n ∧ n < 256) : wherrylaw02_CanonWhole l b more = some true := by
  unfold wherrylaw02_CanonWhole
  by_cases l1 : 290 < l.length
  · exact bndL (s := true) (cnd_t (by simp; omega) rfl) (cnd_t rfl rfl)
  by_cases l2 : 100 < b.length
  · refine bndL (s := true) (cnd_f (by simp; omega) ?_) (cnd_t rfl rfl)
    rw [decide_eq_true (by omega)]
  refine bndL (s := false) (cnd_f (by simp; omega) ?_) (cnd_f rfl ?_)
  · rw [decide_eq_false (by omega)]
  rcases codes_cases l (by omega) with ⟨m, rfl, hl, hm, hf, hc, hck⟩ | ⟨_, hck⟩ | ⟨_, hck⟩
  case inr.inl => exact bnd hck (cnd_t rfl (bnd wakes02 rfl))
  case inr.inr => exact bnd hck (cnd_t rfl (bnd wakes02 rfl))
  have hlen := ints_len m
  rw [hlen] at l1
  have hwl := forms_ws hf
  have hwe : canon_Weigh (ints m) = some ((ws m 15 : Nat) : Int) := by
    unfold canon_Weigh
    refine bnd (valid_eq _) (cnd_f ?_ (bnd (count_eq m hm (by omega)) (bnd (weight_eq m (by omega)) rfl)))
    rw [decide_eq_true]; · rfl
    refine ⟨by omega, fun n hn => ?_⟩
    obtain ⟨x, hx, rfl⟩ := List.mem_map.1 hn
    have := hm x hx; omega
  have snoc : ∀ x : Nat, ints m ++ [(x : Int)] = ints (m ++ [x]) := fun x => by simp [ints]
  refine bnd hck (cnd_f rfl (bnd hwe ?_))
  by_cases hw : ws m 15 = 32768
  case neg =>
    refine cnd_t (by simp only [bne_iff_ne, ne_eq]; omega) ?_
    refine bnd (twinInts_eq _ (by omega)) (bnd (app8 _ _ (by simp; omega)) ?_)
    have h0 := snoc 0
    rw [show ((0 : Nat) : Int) = 0 from rfl] at h0
    rw [h0]
    have hf0 : forms (m ++ [0]) = true := by
      have e : m ++ [0] = with0 m m.length := by simp [with0]
      rw [e, with0_forms]; exact hf
    refine bnd (codes_eq (m ++ [0]) (by simp; omega) (fun x hx => ?_) hf0) (bndL (s := true) (cnd_t rfl (bnd wakes02 rfl)) rfl)
    rcases List.mem_append.1 hx with h | h
    · exact hm x h
    · simp at h; omega
  refine cnd_f (by rw [hw]; rfl) (bndL (s := ()) ?_ ?_)
  · by_cases h2 : 2 ≤ b.length
    · obtain ⟨r, s, hr⟩ := read_full m hl hm hf hw b hb h2 (by omega)
      exact cnd_t (by simp; omega) (bnd hr (cnd_f rfl rfl))
    · exact cnd_f (by simp; omega) rfl
  obtain ⟨A, hA⟩ : ∃ A : Nat, IntKind.u64.wrap more = (A : Int) := ⟨(IntKind.u64.wrap more).toNat, by have := wrap_u64c_nn more; omega⟩
  have hr := rem_nat A 15 (by omega)
  rw [show ((15 : Nat) : Int) = 15 from rfl] at hr
  have hx : A % 15 < 15 := Nat.mod_lt _ (by omega)
  generalize A % 15 = y at *
  have w1 : IntKind.i64.wrap (y : Int) = (y : Int) := wrap_i64 (by omega) (by omega)
  have w2 : IntKind.i64.wrap (1 + (y : Int)) = ((1 + y : Nat) : Int) := by rw [wrap_i64 (by omega) (by omega)]; simp
  refine bndL (s := true) (bnd (twinInts_eq _ (by omega)) (bnd (x := (A : Int)) (by rw [hA]) (bnd hr (bnd (x := (y : Int)) (by rw [w1]) (bnd (x := ((1 + y : Nat) : Int)) (by rw [w2]) (bnd (app8 _ _ (by simp; omega)) ?_)))))) rfl
  rw [snoc]
  have hfx : forms (m ++ [1 + y]) = false := by
    cases h : forms (m ++ [1 + y])
    · rfl
    · have := forms_ws h
      rw [ws_snoc m (1 + y) (by omega) (by omega), if_pos (by omega)] at this
      have : 0 < 2 ^ (15 - (1 + y)) := Nat.pow_pos (by omega)
      omega
  have hck1 := check_ints (m ++ [1 + y]) (by simp; omega)
  rw [if_pos ⟨by simp; omega, fun x hx => by
    rcases List.mem_append.1 hx with h | h
    · exact hm x h
    · simp at h; omega⟩, hfx] at hck1
  have hck2 := check_ints (m ++ [16]) (by simp; omega)
  rw [if_neg (fun h => by have := h.2 16 (by simp); omega)] at hck2
  have h16 := snoc 16
  rw [show ((16 : Nat) : Int) = 16 from rfl] at h16
  refine bnd hck1 (cnd_t rfl (bnd (twinInts_eq _ (by omega)) (bnd (app8 _ _ (by simp; omega)) ?_)))
  rw [h16]
  exact bnd hck2 (cnd_t rfl (bnd wakes02 rfl))
end Go.Abs.Sh
