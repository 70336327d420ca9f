import Derived.Test.YtenfngliiibiiaaSpoiltM
namespace Go.Abs.Sh
set_option linter.unusedVariables false
set_option linter.unusedSimpArgs false

def carryS (b : List Int) (divisor : Int) : ((Int × Int)) → Option ((Int × Int) ⊕ ((Int) ⊕ Int)) := (fun ((s97, s98) : Int × Int) =>
  cond ((decide (s98 < (b.length : Int))))
    (bindS (S := (Int)) (A := ((Int × Int) ⊕ ((Int) ⊕ Int)))
      (loopF (S := (Int × Int)) (O := (Int) ⊕ ((Int × Int) ⊕ ((Int) ⊕ Int))) (fun ((s163, s164) : Int × Int) =>
        cond ((decide (s164 < 8)))
          (bindS (S := Int) (A := ((Int × Int) ⊕ ((Int) ⊕ ((Int × Int) ⊕ ((Int) ⊕ Int)))))
            ((some (bits .and .i64 s163 1)).bind fun v6 =>
            (shrO .i64 s163 1).bind fun v7 =>
            (ixO s98 b.length).bind fun v8 =>
            (getO b v8).bind fun v9 =>
            (some (IntKind.u64.wrap s164)).bind fun v10 =>
            (shrO .u8 v9 v10).bind fun v11 =>
            (some (IntKind.i64.wrap v11)).bind fun v12 =>
            (some (bits .and .i64 v12 1)).bind fun v13 =>
            cond ((v6 != v13))
              ((some (bits .xor .i64 v7 divisor)).bind fun v15 =>
              some (.inl v15))
              (some (.inl v7)))
            (fun (s181 : Int) =>
              (some (IntKind.i64.wrap (s164 + 1))).bind fun v21 =>
              some (.inl (s181, v21))) some)
          (some (.inr (.inl s163))))
        BIG (s97, 0))
      (fun (s172 : Int) =>
        (some (IntKind.i64.wrap (s98 + 1))).bind fun v54 =>
        some (.inl (s172, v54))) some)
    (some (.inr (.inl s97))))
def carryI (b : List Int) (divisor s98 : Int) : ((Int × Int)) → Option ((Int × Int) ⊕ ((Int) ⊕ ((Int × Int) ⊕ ((Int) ⊕ Int)))) := (fun ((s163, s164) : Int × Int) =>
        cond ((decide (s164 < 8)))
          (bindS (S := Int) (A := ((Int × Int) ⊕ ((Int) ⊕ ((Int × Int) ⊕ ((Int) ⊕ Int)))))
            ((some (bits .and .i64 s163 1)).bind fun v6 =>
            (shrO .i64 s163 1).bind fun v7 =>
            (ixO s98 b.length).bind fun v8 =>
            (getO b v8).bind fun v9 =>
            (some (IntKind.u64.wrap s164)).bind fun v10 =>
            (shrO .u8 v9 v10).bind fun v11 =>
            (some (IntKind.i64.wrap v11)).bind fun v12 =>
            (some (bits .and .i64 v12 1)).bind fun v13 =>
            cond ((v6 != v13))
              ((some (bits .xor .i64 v7 divisor)).bind fun v15 =>
              some (.inl v15))
              (some (.inl v7)))
            (fun (s181 : Int) =>
              (some (IntKind.i64.wrap (s164 + 1))).bind fun v21 =>
              some (.inl (s181, v21))) some)
          (some (.inr (.inl s163))))
def rspS (v3 v6 v10 : Int) : (((List Int) × Int)) → Option (((List Int) × Int) ⊕ (((List Int)) ⊕ (List Int))) := (fun ((s53, s54) : (List Int) × Int) =>
    bindS (S := Bool) (A := (((List Int) × Int) ⊕ (((List Int)) ⊕ (List Int))))
      (cond ((decide (s54 < 16)))
        ((some (IntKind.i64.wrap (v6 + s54))).bind fun v11 =>
        some (.inl ((decide (v11 < v3)))))
        (some (.inl false)))
      (fun (s73 : Bool) =>
        cond (s73)
          (bindS (S := (List Int)) (A := (((List Int) × Int) ⊕ (((List Int)) ⊕ (List Int))))
            ((some (IntKind.u64.wrap s54)).bind fun v17 =>
            (shrO .i64 v10 v17).bind fun v18 =>
            (some (bits .and .i64 v18 1)).bind fun v19 =>
            cond ((v19 == 1))
              ((some (IntKind.i64.wrap (v6 + s54))).bind fun v21 =>
              (quoO .i64 v21 8).bind fun v22 =>
              (some (IntKind.i64.wrap (v6 + s54))).bind fun v23 =>
              (quoO .i64 v23 8).bind fun v24 =>
              (ixO v24 s53.length).bind fun v25 =>
              (getO s53 v25).bind fun v26 =>
              (some (IntKind.i64.wrap (v6 + s54))).bind fun v27 =>
              (remO v27 8).bind fun v28 =>
              (some (IntKind.u64.wrap v28)).bind fun v29 =>
              (shlO .u8 1 v29).bind fun v30 =>
              (some (bits .xor .u8 v26 v30)).bind fun v31 =>
              (ixO v22 s53.length).bind fun v32 =>
              (some (s53.set v32 v31)).bind fun v33 =>
              some (.inl v33))
              (some (.inl s53)))
            (fun (s79 : (List Int)) =>
              (some (IntKind.i64.wrap (s54 + 1))).bind fun v39 =>
              some (.inl (s79, v39))) some)
          (some (.inr (.inl s53)))) some)
def overS : (((List Int) × Int)) → Option (((List Int) × Int) ⊕ ((Unit) ⊕ Unit)) := (fun ((s11, s12) : (List Int) × Int) =>
  cond ((decide (s12 < (s11.length : Int))))
    ((ixO s12 s11.length).bind fun v2 =>
    (getO s11 v2).bind fun v3 =>
    (some (IntKind.u8.wrap (v3 + 91))).bind fun v4 =>
    (ixO s12 s11.length).bind fun v5 =>
    (some (s11.set v5 v4)).bind fun v6 =>
    (some (IntKind.i64.wrap (s12 + 1))).bind fun v7 =>
    some (.inl (v6, v7)))
    (some (.inr (.inl ()))))

theorem and1_i64e (a : Nat) (ha : a < 9223372036854775808) : bits .and .i64 (a : Int) 1 = ((a % 2 : Nat) : Int) := and1_i64 a ha
theorem xor_i64e (a b : Nat) (ha : a < 9223372036854775808) (hb : b < 9223372036854775808) : bits .xor .i64 (a : Int) (b : Int) = ((a ^^^ b : Nat) : Int) := by
  have hx : a ^^^ b < 2 ^ 63 := Nat.xor_lt_two_pow (by omega) (by omega)
  show IntKind.i64.wrap ((BitVec.ofInt 64 (a : Int) ^^^ BitVec.ofInt 64 (b : Int)).toNat : Int) = _
  rw [BitVec.toNat_xor, ofInt64 a ha, ofInt64 b hb, wrap_i64 (by omega) (by omega)]

theorem carry_bits (b : List Int) (j : Nat) (hj : j < b.length) (x r : Nat) (hx : b[j] = (x : Int)) (hx256 : x < 256) : ∀ (k fuel t q : Nat), 8 - t = k → t ≤ 8 → k < fuel → q < 65536 → q ^^^ x / 2 ^ t = sn 33800 t (r ^^^ x) →
    loopF (carryI b 33800 (j : Int)) fuel ((q : Int), (t : Int)) = some (.inl ((sn 33800 8 (r ^^^ x) : Nat) : Int)) := by
  intro k
  induction k with
  | zero =>
    intro fuel t q hk ht hf hq he
    obtain ⟨f, rfl⟩ : ∃ f, fuel = f + 1 := ⟨fuel - 1, by omega⟩
    have : t = 8 := by omega
    subst this
    refine loop_exit ?_
    unfold carryI
    refine cnd_f (by simp) ?_
    rw [Nat.div_eq_of_lt (show x < 2 ^ 8 by omega), Nat.xor_zero] at he
    rw [he]
  | succ k ih =>
    intro fuel t q hk ht hf hq he
    obtain ⟨f, rfl⟩ : ∃ f, fuel = f + 1 := ⟨fuel - 1, by omega⟩
    have w1 : IntKind.i64.wrap ((t : Int) + 1) = ((t + 1 : Nat) : Int) := by rw [wrap_i64 (by omega) (by omega)]; simp
    have wu : IntKind.u64.wrap (t : Int) = (t : Int) := wrap_u64n (by omega) (by omega)
    have hsr := shr_nat .i64 q 1 (by decide)
    rw [Nat.pow_one, show ((1 : Nat) : Int) = 1 from rfl] at hsr
    have hsx := shr_nat .u8 x t (by simp only [IntKind.bits]; omega)
    have hdv : x / 2 ^ t < 256 := Nat.lt_of_le_of_lt (Nat.div_le_self _ _) hx256
    have hnext : sn 33800 (t + 1) (r ^^^ x) = s0 33800 (q ^^^ x / 2 ^ t) := by
      rw [he, sn_add]; rfl
    have hX2 : x / 2 ^ (t + 1) = x / 2 ^ t / 2 := by rw [Nat.pow_succ, Nat.div_div_eq_div_mul]
    generalize x / 2 ^ t = X at *
    have wX : IntKind.i64.wrap (X : Int) = (X : Int) := wrap_i64 (by omega) (by omega)
    have hqx : q / 2 < 65536 := by omega
    have hx2 : (q / 2 ^^^ 33800) < 2 ^ 16 := Nat.xor_lt_two_pow (by omega) (by omega)
    have hs0 : s0 33800 (q ^^^ X) = (q / 2 ^^^ (if q % 2 ≠ X % 2 then 33800 else 0)) ^^^ X / 2 := by
      unfold s0
      rw [Nat.xor_div_two, xor_mod2]
      have h1 : q % 2 = 0 ∨ q % 2 = 1 := by omega
      have h2 : X % 2 = 0 ∨ X % 2 = 1 := by omega
      rcases h1 with h1 | h1 <;> rcases h2 with h2 | h2 <;> rw [h1, h2] <;> simp <;> rw [Nat.xor_assoc, Nat.xor_comm (X / 2), ← Nat.xor_assoc]
    by_cases hne : q % 2 = X % 2
    · have e : ¬ q % 2 ≠ X % 2 := fun h => h hne
      rw [if_neg e, Nat.xor_zero] at hs0
      refine (loop_next ?_).trans (ih f (t + 1) (q / 2) (by omega) (by omega) (by omega) hqx (by rw [hX2, hnext, hs0]))
      unfold carryI
      refine cnd_t (by simp; omega) (bndL (s := ((q / 2 : Nat) : Int)) (bnd (x := ((q % 2 : Nat) : Int)) (by rw [and1_i64 _ (by omega)]) (bnd hsr (bnd (ixO_of hj) (bnd (x := (x : Int)) (by rw [getO_of hj, hx]) (bnd (x := (t : Int)) (by rw [wu]) (bnd hsx (bnd (x := (X : Int)) (by rw [wX]) (bnd (x := ((X % 2 : Nat) : Int)) (by rw [and1_i64 _ (by omega)]) (cnd_f ?_ rfl))))))))) (bnd (x := ((t + 1 : Nat) : Int)) (by rw [w1]) rfl))
      rw [hne]; simp
    · rw [if_pos hne] at hs0
      refine (loop_next ?_).trans (ih f (t + 1) (q / 2 ^^^ 33800) (by omega) (by omega) (by omega) (by omega) (by rw [hX2, hnext, hs0]))
      unfold carryI
      have hxo := xor_i64e (q / 2) 33800 (by omega) (by omega)
      rw [show ((33800 : Nat) : Int) = 33800 from rfl] at hxo
      refine cnd_t (by simp; omega) (bndL (s := ((q / 2 ^^^ 33800 : Nat) : Int)) (bnd (x := ((q % 2 : Nat) : Int)) (by rw [and1_i64 _ (by omega)]) (bnd hsr (bnd (ixO_of hj) (bnd (x := (x : Int)) (by rw [getO_of hj, hx]) (bnd (x := (t : Int)) (by rw [wu]) (bnd hsx (bnd (x := (X : Int)) (by rw [wX]) (bnd (x := ((X % 2 : Nat) : Int)) (by rw [and1_i64 _ (by omega)]) (cnd_t ?_ (bnd (x := ((q / 2 ^^^ 33800 : Nat) : Int)) (by rw [hxo]) rfl)))))))))) (bnd (x := ((t + 1 : Nat) : Int)) (by rw [w1]) rfl))
      simp only [bne_iff_ne, ne_eq]; omega

theorem carry_loop (b : List Int) (hb : isBytes b) (hl : b.length < 100000) : ∀ (k fuel i r : Nat), b.length - i = k → i ≤ b.length → k < fuel → r < 65536 →
    loopF (carryS b 33800) fuel ((r : Int), (i : Int)) = some (.inl (((nats (b.drop i)).foldl byteStep r : Nat) : Int)) := by
  intro k
  induction k with
  | zero =>
    intro fuel i r hk hi hf hr
    obtain ⟨f, rfl⟩ : ∃ f, fuel = f + 1 := ⟨fuel - 1, by omega⟩
    have : i = b.length := by omega
    subst this
    refine loop_exit ?_
    unfold carryS
    exact cnd_f (by simp) (by simp [nats])
  | succ k ih =>
    intro fuel i r hk hi hf hr
    obtain ⟨f, rfl⟩ : ∃ f, fuel = f + 1 := ⟨fuel - 1, by omega⟩
    have hlt : i < b.length := by omega
    have hbi := hb b[i] (List.getElem_mem hlt)
    obtain ⟨x, hx⟩ : ∃ x : Nat, b[i] = (x : Int) := ⟨b[i].toNat, by omega⟩
    have hx256 : x < 256 := by omega
    have w1 : IntKind.i64.wrap ((i : Int) + 1) = ((i + 1 : Nat) : Int) := by rw [wrap_i64 (by omega) (by omega)]; simp
    have hdr : b.drop i = b[i] :: b.drop (i + 1) := List.drop_eq_getElem_cons hlt
    have hin := carry_bits b i hlt x r hx hx256 8 BIG 0 r rfl (by omega) (by unfold BIG; omega) hr (by rw [Nat.pow_zero, Nat.div_one]; rfl)
    rw [← byteStep_sn] at hin
    refine (loop_next ?_).trans ((ih f (i + 1) (byteStep r x) (by omega) (by omega) (by omega) (byteStep_lt r x hr hx256)).trans ?_)
    · unfold carryS
      exact cnd_t (by simp; omega) (bndL hin (bnd (x := ((i + 1 : Nat) : Int)) (by rw [w1]) rfl))
    · rw [hdr]; simp [nats, hx]

theorem refShort_eq (b : List Int) (hb : isBytes b) (hl : b.length < 100000) : wherryref08_Short b = some ((short (nats b) : Nat) : Int) := by
  have hk := carry_loop b hb hl b.length BIG 0 65535 (by omega) (Nat.zero_le _) (by unfold BIG; omega) (by omega)
  rw [List.drop_zero] at hk
  have hlt := fold_lt (nats b) 65535 (by omega) (nats_bytes hb)
  have hxo := xor_i64e ((nats b).foldl byteStep 65535) 65535 (by omega) (by omega)
  unfold wherryref08_Short
  refine bnd (x := ((short (nats b) : Nat) : Int)) ?_ rfl
  unfold wherryref08_Carry
  refine bnd (x := 16) (by decide) (bnd (x := 65536) (by decide) (bnd (x := 65535) (by decide) (bndL hk (bnd (x := 16) (by decide) (bnd (x := 65536) (by decide) (bnd (x := 65535) (by decide) (bnd (x := ((short (nats b) : Nat) : Int)) ?_ rfl)))))))
  exact congrArg some hxo

/-- What the page reads of bytes. -/
theorem refRead_eq (a0 a1 a2 a3 a4 a5 a6 : Int) (d : List Int) (q0 q1 : Int) (hp : isBytes (a0 :: a1 :: a2 :: a3 :: a4 :: a5 :: a6 :: d)) (h0 : 0 ≤ q0 ∧ q0 < 256) (h1 : 0 ≤ q1 ∧ q1 < 256) (hd : d.length ≤ 48) :
    wherryref18_ReadFrame ((a0 :: a1 :: a2 :: a3 :: a4 :: a5 :: a6 :: d) ++ [q0, q1]) =
      (if sumOf (a0 :: a1 :: a2 :: a3 :: a4 :: a5 :: a6 :: d) ≠ q1 * 256 + q0 then some (zeroF, 6)
       else if a6 ≠ (d.length : Int) ∨ good (T_Frame.mk a0 (a1 * 256 + a2) (a3 * 256 + a4) a5 d) = false then some (zeroF, 3)
       else some (T_Frame.mk a0 (a1 * 256 + a2) (a3 * 256 + a4) a5 d, 0)) := by
  generalize hpe : (a0 :: a1 :: a2 :: a3 :: a4 :: a5 :: a6 :: d) = p at *
  have hpl : p.length = 7 + d.length := by rw [← hpe]; simp; omega
  have hbl : (p ++ [q0, q1]).length = p.length + 2 := by simp
  unfold wherryref18_ReadFrame
  have w2 : IntKind.i64.wrap (((p ++ [q0, q1]).length : Int) - 2) = (p.length : Int) := by rw [wrap_i64 (by omega) (by omega)]; omega
  have w3 : IntKind.i64.wrap ((p.length : Int) + 1) = ((p.length + 1 : Nat) : Int) := by rw [wrap_i64 (by omega) (by omega)]; simp
  have s1 : sliO (p ++ [q0, q1]) 0 (p.length : Int) = some p := by
    simp only [sliO]; rw [if_pos (by omega)]; simp
  have g0 : getO (p ++ [q0, q1]) p.length = some q0 := by simp [getO]
  have g1 : getO (p ++ [q0, q1]) (p.length + 1) = some q1 := by simp [getO]
  have k0 := hp a0 (by rw [← hpe]; simp)
  have k1 := hp a1 (by rw [← hpe]; simp)
  have k2 := hp a2 (by rw [← hpe]; simp)
  have k3 := hp a3 (by rw [← hpe]; simp)
  have k4 := hp a4 (by rw [← hpe]; simp)
  have k5 := hp a5 (by rw [← hpe]; simp)
  have k6 := hp a6 (by rw [← hpe]; simp)
  have wr : ∀ x : Int, 0 ≤ x ∧ x < 256 → IntKind.i64.wrap x = x := fun x h => wrap_i64 (by omega) (by omega)
  have g : ∀ (i : Nat) (x : Int), (a0 :: a1 :: a2 :: a3 :: a4 :: a5 :: a6 :: d)[i]? = some x → i < 7 → getO (p ++ [q0, q1]) i = some x := by
    intro i x h hi
    simp only [getO]
    rw [List.getElem?_append_left (by omega), ← hpe]; exact h
  have ix : ∀ i : Nat, i < (p ++ [q0, q1]).length → ixO (i : Int) (p ++ [q0, q1]).length = some i := fun i hi => ixO_of hi
  refine bnd (in_eq _ _ _) (cnd_f ?_ (bnd (x := (p.length : Int)) (by rw [w2]) (bnd s1 (bnd (x := sumOf p) (refShort_eq p hp (by omega)) (bnd (ix p.length (by omega)) (bnd g0 (bnd (x := q0) (by rw [wr _ h0]) (bnd (x := ((p.length + 1 : Nat) : Int)) (by rw [w3]) (bnd (ix (p.length + 1) (by omega)) (bnd g1 (bnd (x := q1) (by rw [wr _ h1]) (bnd (shl8 q1 h1) (bnd (x := q1 * 256 + q0) (by rw [or_lo _ _ h1 h0]) ?_)))))))))))))
  · rw [decide_eq_true (by omega), decide_eq_true (by omega)]; rfl
  by_cases hs : sumOf p = q1 * 256 + q0
  case neg =>
    rw [if_pos hs]
    exact cnd_t (by simp [hs]) rfl
  rw [if_neg (by simp [hs])]
  refine cnd_f (by simp [hs]) ?_
  refine bnd (ix 0 (by omega)) (bnd (g 0 a0 rfl (by omega)) (bnd (x := a0) (by rw [wr _ k0]) ?_))
  refine bnd (ix 1 (by omega)) (bnd (g 1 a1 rfl (by omega)) (bnd (x := a1) (by rw [wr _ k1]) (bnd (shl8 a1 k1) ?_)))
  refine bnd (ix 2 (by omega)) (bnd (g 2 a2 rfl (by omega)) (bnd (x := a2) (by rw [wr _ k2]) (bnd (x := a1 * 256 + a2) (by rw [or_hi _ _ k1 k2]) ?_)))
  refine bnd (ix 3 (by omega)) (bnd (g 3 a3 rfl (by omega)) (bnd (x := a3) (by rw [wr _ k3]) (bnd (shl8 a3 k3) ?_)))
  refine bnd (ix 4 (by omega)) (bnd (g 4 a4 rfl (by omega)) (bnd (x := a4) (by rw [wr _ k4]) (bnd (x := a3 * 256 + a4) (by rw [or_hi _ _ k3 k4]) ?_)))
  refine bnd (ix 5 (by omega)) (bnd (g 5 a5 rfl (by omega)) (bnd (x := a5) (by rw [wr _ k5]) ?_))
  have s3 : sliO (p ++ [q0, q1]) 7 (p.length : Int) = some d := by
    simp only [sliO]; rw [if_pos (by omega)]
    have e1 : (p ++ [q0, q1]).drop (7 : Int).toNat = d ++ [q0, q1] := by rw [← hpe]; rfl
    rw [e1, show (p.length : Int).toNat - (7 : Int).toNat = d.length by rw [Int.toNat_natCast]; show p.length - 7 = _; omega]
    simp
  refine bnd s3 (bnd (twin_eq d (by omega)) ?_)
  by_cases h6 : a6 = (d.length : Int)
  · have href := refFrame_eq (T_Frame.mk a0 (a1 * 256 + a2) (a3 * 256 + a4) a5 d) (by show d.length < _; omega)
    cases hg : good (T_Frame.mk a0 (a1 * 256 + a2) (a3 * 256 + a4) a5 d)
    · rw [if_pos (.inr rfl)]
      rw [hg] at href
      exact bndL (s := true) (bnd (ix 6 (by omega)) (bnd (g 6 a6 rfl (by omega)) (bnd (x := a6) (by rw [wr _ k6]) (cnd_f (by simp [h6]) (bnd href rfl))))) rfl
    · rw [if_neg (by simp [h6])]
      rw [hg] at href
      exact bndL (s := false) (bnd (ix 6 (by omega)) (bnd (g 6 a6 rfl (by omega)) (bnd (x := a6) (by rw [wr _ k6]) (cnd_f (by simp [h6]) (bnd href rfl))))) rfl
  · rw [if_pos (.inl h6)]
    exact bndL (s := true) (bnd (ix 6 (by omega)) (bnd (g 6 a6 rfl (by omega)) (bnd (x := a6) (by rw [wr _ k6]) (cnd_t (by simp [h6]) rfl)))) rfl

theorem reads_eq (b : List Int) (hb : isBytes b) (hl : b.length ≤ 300) : ∃ r, frame_Read b = some r ∧ wherryref18_ReadFrame b = some r ∧ r.1.Data.length ≤ 300 ∧ isBytes r.1.Data := by
  by_cases h : 9 ≤ b.length ∧ b.length ≤ 57
  case neg =>
    refine ⟨(zeroF, 3), ?_, ?_, by simp [zeroF], fun n hn => by simp [zeroF] at hn⟩
    · unfold frame_Read
      refine bndL (s := true) ?_ rfl
      by_cases h9 : b.length < 9
      · exact cnd_t (decide_eq_true (by omega)) rfl
      · exact cnd_f (decide_eq_false (by omega)) (by rw [decide_eq_true (by omega)])
    · unfold wherryref18_ReadFrame
      refine bnd (in_eq _ _ _) (cnd_t ?_ rfl)
      by_cases h9 : b.length < 9
      · rw [decide_eq_false (by omega)]; rfl
      · rw [decide_eq_true (by omega), decide_eq_false (by omega)]; rfl
  have hsplit : b = b.take (b.length - 2) ++ b.drop (b.length - 2) := (List.take_append_drop _ _).symm
  obtain ⟨q0, q1, hq⟩ : ∃ q0 q1, b.drop (b.length - 2) = [q0, q1] := by
    have : (b.drop (b.length - 2)).length = 2 := by simp; omega
    match b.drop (b.length - 2), this with
    | [x, y], _ => exact ⟨x, y, rfl⟩
  obtain ⟨a0, a1, a2, a3, a4, a5, a6, d, hp⟩ : ∃ a0 a1 a2 a3 a4 a5 a6 d, b.take (b.length - 2) = a0 :: a1 :: a2 :: a3 :: a4 :: a5 :: a6 :: d := by
    have : 7 ≤ (b.take (b.length - 2)).length := by simp; omega
    match b.take (b.length - 2), this with
    | x0 :: x1 :: x2 :: x3 :: x4 :: x5 :: x6 :: d, _ => exact ⟨_, _, _, _, _, _, _, _, rfl⟩
  have hd : d.length ≤ 48 := by
    have := congrArg List.length hp
    simp at this; omega
  rw [hp, hq] at hsplit
  have hpb : isBytes (a0 :: a1 :: a2 :: a3 :: a4 :: a5 :: a6 :: d) := fun n hn => hb n (by rw [hsplit]; exact List.mem_append_left _ hn)
  have hq0 := hb q0 (by rw [hsplit]; simp)
  have hq1 := hb q1 (by rw [hsplit]; simp)
  have r1 := read_eq a0 a1 a2 a3 a4 a5 a6 d q0 q1 hpb hq0 hq1 hd
  have r2 := refRead_eq a0 a1 a2 a3 a4 a5 a6 d q0 q1 hpb hq0 hq1 hd
  rw [← hsplit] at r1 r2
  have hdb : isBytes d := fun n hn => hpb n (by simp [hn])
  split at r1
  · rename_i hs
    rw [if_pos hs] at r2
    exact ⟨_, r1, r2, by simp [zeroF], fun n hn => by simp [zeroF] at hn⟩
  · rename_i hs
    rw [if_neg hs] at r2
    split at r1
    · rename_i hg
      rw [if_pos hg] at r2
      exact ⟨_, r1, r2, by simp [zeroF], fun n hn => by simp [zeroF] at hn⟩
    · rename_i hg
      rw [if_neg hg] at r2
      exact ⟨_, r1, r2, by show d.length ≤ 300; omega, hdb⟩

theorem refBytes_eq {f : T_Frame} (h : good f = true) (hb : isBytes f.Data) : wherryref18_Bytes f = some (whole f) := by
  obtain ⟨h1, h2, h3, h4, h5⟩ := good_num h
  have hbo := body_bytes h hb
  have hs := sumOf_lt hbo
  have hlen : (body f).length = 7 + f.Data.length := by simp [body]; omega
  have eb : [f.Kind % 256, f.Number / 256 % 256, f.Number % 256, f.Offset / 256 % 256, f.Offset % 256, f.Seq % 256, (f.Data.length : Int) % 256] = [f.Kind, f.Number / 256, f.Number % 256, f.Offset / 256, f.Offset % 256, f.Seq, (f.Data.length : Int)] := by
    rw [show f.Kind % 256 = f.Kind by omega, show f.Number / 256 % 256 = f.Number / 256 by omega, show f.Offset / 256 % 256 = f.Offset / 256 by omega, show f.Seq % 256 = f.Seq by omega, show (f.Data.length : Int) % 256 = (f.Data.length : Int) by omega]
  unfold wherryref18_Bytes
  refine bnd (x := f.Kind % 256) (by rw [wrap_u8]) (bnd (shr8 _ (show 0 ≤ f.Number by omega)) (bnd (x := f.Number / 256 % 256) (by rw [wrap_u8]) (bnd (x := f.Number % 256) (by rw [wrap_u8]) (bnd (shr8 _ (show 0 ≤ f.Offset by omega)) (bnd (x := f.Offset / 256 % 256) (by rw [wrap_u8]) (bnd (x := f.Offset % 256) (by rw [wrap_u8])
    (bnd (x := f.Seq % 256) (by rw [wrap_u8]) (bnd (x := (f.Data.length : Int) % 256) (by rw [wrap_u8]) ?_))))))))
  rw [eb]
  refine bnd (x := body f) (app_of _ _ (by simp; omega)) (bnd (x := sumOf (body f)) (refShort_eq _ hbo (by omega)) (bnd (x := sumOf (body f) % 256) (by rw [wrap_u8]) (bnd (shr8 _ hs.1) (bnd (x := sumOf (body f) / 256) ?_ (bnd (x := whole f) (app_of _ _ (by simp; omega)) rfl)))))
  rw [wrap_u8, show sumOf (body f) / 256 % 256 = sumOf (body f) / 256 by omega]

theorem rsp_loop (n F M : Nat) (hl : n ≤ 1000) (hF : F < 8 * n) (hM : M < 65536) : ∀ (k fuel i : Nat) (s : List Int), 16 - i = k → i ≤ 16 → k < fuel → s.length = n → isBytes s →
    ∃ s', loopF (rspS ((8 * n : Nat) : Int) (F : Int) (M : Int)) fuel (s, (i : Int)) = some (.inl s') ∧ s'.length = n ∧ isBytes s' ∧
      ∀ q, q < 8 * n → bitAt s' q = (bitAt s q ^^ (decide (F + i ≤ q) && decide (q < F + 16) && M.testBit (q - F))) := by
  intro k
  induction k with
  | zero =>
    intro fuel i s hk hi hf hs hsb
    obtain ⟨f, rfl⟩ : ∃ f, fuel = f + 1 := ⟨fuel - 1, by omega⟩
    have hiK : i = 16 := by omega
    subst hiK
    refine ⟨s, loop_exit ?_, hs, hsb, fun q hq => ?_⟩
    · unfold rspS; exact bndL (s := false) (cnd_f (by simp) rfl) (cnd_f rfl rfl)
    · by_cases h : F + 16 ≤ q
      · have : ¬ q < F + 16 := by omega
        simp [this]
      · simp [h]
  | succ k ih =>
    intro fuel i s hk hi hf hs hsb
    obtain ⟨f, rfl⟩ : ∃ f, fuel = f + 1 := ⟨fuel - 1, by omega⟩
    have hi16 : i < 16 := by omega
    have w1 : IntKind.i64.wrap ((F : Int) + (i : Int)) = ((F + i : Nat) : Int) := by rw [wrap_i64 (by omega) (by omega)]; simp
    have w3 : IntKind.i64.wrap ((i : Int) + 1) = ((i + 1 : Nat) : Int) := by rw [wrap_i64 (by omega) (by omega)]; simp
    have wu : IntKind.u64.wrap (i : Int) = (i : Int) := wrap_u64n (by omega) (by omega)
    have hd1 : decide ((i : Int) < 16) = true := by simp; omega
    by_cases hp : F + i < 8 * n
    case neg =>
      refine ⟨s, loop_exit ?_, hs, hsb, fun q hq => ?_⟩
      · unfold rspS
        refine bndL (s := false) (cnd_t hd1 (bnd (x := ((F + i : Nat) : Int)) (by rw [w1]) ?_)) (cnd_f rfl rfl)
        rw [decide_eq_false (by omega)]
      · have : ¬ F + i ≤ q := by omega
        simp [this]
    have hsh := shr_nat .i64 M i (by simp only [IntKind.bits]; omega)
    have hMi : M / 2 ^ i < 9223372036854775808 := Nat.lt_of_le_of_lt (Nat.div_le_self _ _) (by omega)
    have hgo : decide ((((F + i : Nat) : Int)) < ((8 * n : Nat) : Int)) = true := decide_eq_true (by omega)
    cases hb2 : M.testBit i with
    | true =>
      have hj : (F + i) / 8 < s.length := by omega
      have hx := hsb s[(F + i) / 8] (List.getElem_mem hj)
      obtain ⟨x, hxe⟩ : ∃ x : Nat, s[(F + i) / 8] = (x : Int) := ⟨s[(F + i) / 8].toNat, by omega⟩
      have hx256 : x < 256 := by omega
      have hr : (F + i) % 8 < 8 := Nat.mod_lt _ (by omega)
      have hpw := shl1_u8 ((F + i) % 8) hr
      have hp256 : 2 ^ ((F + i) % 8) < 256 := (Nat.pow_lt_pow_right (by omega) hr : 2 ^ ((F + i) % 8) < 2 ^ 8)
      have hxr : x ^^^ 2 ^ ((F + i) % 8) < 2 ^ 8 := Nat.xor_lt_two_pow (n := 8) hx256 hp256
      have q8 := quo_nat (F + i) 8 (by omega) (by omega)
      have r8 := rem_nat (F + i) 8 (by omega)
      rw [show ((8 : Nat) : Int) = 8 from rfl] at q8 r8
      have wr : IntKind.u64.wrap (((F + i) % 8 : Nat) : Int) = (((F + i) % 8 : Nat) : Int) := wrap_u64n (by omega) (by omega)
      obtain ⟨s', h1, h2, h3, h4⟩ := ih f (i + 1) (s.set ((F + i) / 8) ((x ^^^ 2 ^ ((F + i) % 8) : Nat) : Int)) (by omega) (by omega) (by omega) (by simp [hs]) (bytes_set hsb _ _ (by omega))
      refine ⟨s', (loop_next ?_).trans h1, h2, h3, fun q hq => ?_⟩
      · unfold rspS
        refine bndL (s := true) (cnd_t hd1 (bnd (x := ((F + i : Nat) : Int)) (by rw [w1]) (by rw [hgo]))) (cnd_t rfl (bndL (s := s.set ((F + i) / 8) ((x ^^^ 2 ^ ((F + i) % 8) : Nat) : Int)) (bnd (x := (i : Int)) (by rw [wu]) (bnd hsh (bnd (x := ((M / 2 ^ i % 2 : Nat) : Int)) (by rw [and1_i64 _ hMi]) ?_))) (bnd (x := ((i + 1 : Nat) : Int)) (by rw [w3]) rfl)))
        rw [bit_eq, hb2]
        exact cnd_t rfl (bnd (x := ((F + i : Nat) : Int)) (by rw [w1]) (bnd q8 (bnd (x := ((F + i : Nat) : Int)) (by rw [w1]) (bnd q8 (bnd (ixO_of hj) (bnd (x := (x : Int)) (by rw [getO_of hj, hxe]) (bnd (x := ((F + i : Nat) : Int)) (by rw [w1]) (bnd r8
          (bnd (x := (((F + i) % 8 : Nat) : Int)) (by rw [wr]) (bnd hpw (bnd (x := ((x ^^^ 2 ^ ((F + i) % 8) : Nat) : Int)) (by rw [xor_u8 x _ hx256 hp256]) (bnd (ixO_of hj) (bnd rfl rfl)))))))))))))
      · rw [h4 q hq, bitAt_set s _ q _ hj]
        by_cases he : q = F + i
        · subst he
          have hb1 : bitAt s (F + i) = x.testBit ((F + i) % 8) := by
            simp [bitAt, List.getD_eq_getElem?_getD, hj, hxe]
          have hq16 : F + i < F + 16 := by omega
          have hsub : F + i - F = i := by omega
          have hni : ¬ i + 1 ≤ i := by omega
          rw [if_pos rfl, Int.toNat_natCast, Nat.testBit_xor, Nat.testBit_two_pow, hb1, hsub, hb2]
          simp [hi16, hni]
        · have e1 : decide (F + (i + 1) ≤ q) = decide (F + i ≤ q) := by by_cases h : F + i ≤ q <;> simp [h] <;> omega
          rw [e1]
          by_cases h8 : q / 8 = (F + i) / 8
          · have hb1 : bitAt s q = x.testBit (q % 8) := by
              simp [bitAt, List.getD_eq_getElem?_getD, h8, hj, hxe]
            have hm : ¬ (F + i) % 8 = q % 8 := by omega
            rw [if_pos h8, Int.toNat_natCast, Nat.testBit_xor, Nat.testBit_two_pow, hb1]
            simp [hm]
          · rw [if_neg h8]
    | false =>
      obtain ⟨s', h1, h2, h3, h4⟩ := ih f (i + 1) s (by omega) (by omega) (by omega) hs hsb
      refine ⟨s', (loop_next ?_).trans h1, h2, h3, fun q hq => ?_⟩
      · unfold rspS
        refine bndL (s := true) (cnd_t hd1 (bnd (x := ((F + i : Nat) : Int)) (by rw [w1]) (by rw [hgo]))) (cnd_t rfl (bndL (s := s) (bnd (x := (i : Int)) (by rw [wu]) (bnd hsh (bnd (x := ((M / 2 ^ i % 2 : Nat) : Int)) (by rw [and1_i64 _ hMi]) ?_))) (bnd (x := ((i + 1 : Nat) : Int)) (by rw [w3]) rfl)))
        rw [bit_eq, hb2]
        exact cnd_f rfl rfl
      · rw [h4 q hq]
        by_cases he : q = F + i
        · subst he
          have hsub : F + i - F = i := by omega
          rw [hsub, hb2]
          simp
        · have e1 : decide (F + (i + 1) ≤ q) = decide (F + i ≤ q) := by by_cases h : F + i ≤ q <;> simp [h] <;> omega
          rw [e1]

theorem spoils_eq (b : List Int) (hb : isBytes b) (hl : b.length ≤ 300) (at_ p : Int) : ∃ s, frame_Spoil b at_ p = some s ∧ wherryref18_Spoil b at_ p = some s ∧ s.length = b.length := by
  by_cases hne : b = []
  · subst hne
    refine ⟨[], spoil_nil at_ p, ?_, rfl⟩
    unfold wherryref18_Spoil
    exact bnd (twin_eq [] (by simp)) (cnd_t rfl rfl)
  obtain ⟨s, hs, hsl, hsb, hbits⟩ := spoil_eq b at_ p hb (by omega) hne
  have hpos : 0 < b.length := List.length_pos_iff.2 hne
  refine ⟨s, hs, ?_, hsl⟩
  have hFe : ((spF b at_ : Nat) : Int) = at_ % ((8 * b.length : Nat) : Int) := by
    have h1 := Int.emod_nonneg at_ (show ((8 * b.length : Nat) : Int) ≠ 0 by omega)
    unfold spF; omega
  have hF : spF b at_ < 8 * b.length := by
    have h2 := Int.emod_lt_of_pos at_ (show 0 < ((8 * b.length : Nat) : Int) by omega)
    omega
  have hM := spM_lt p
  have w1 : IntKind.i64.wrap (8 * (b.length : Int)) = ((8 * b.length : Nat) : Int) := by rw [wrap_i64 (by omega) (by omega)]; simp
  have htm := tmod_gt at_ (8 * b.length) (by omega)
  have hup := tmod_up at_ (8 * b.length) (by omega)
  have hrem : remO at_ ((8 * b.length : Nat) : Int) = some (at_.tmod ((8 * b.length : Nat) : Int)) := by
    simp only [remO]; rw [if_neg (by omega)]
  have hD : (0 : Int) < ((8 * b.length : Nat) : Int) := by omega
  have hrem2 : remO (at_.tmod ((8 * b.length : Nat) : Int) + ((8 * b.length : Nat) : Int)) ((8 * b.length : Nat) : Int) = some ((spF b at_ : Nat) : Int) := by
    simp only [remO]
    rw [if_neg (by omega), Int.tmod_eq_emod_of_nonneg (by omega), Int.add_emod_right]
    congr 1
    rw [hFe]
    split at hup
    · rw [← hup, ← Int.add_emod_right, Int.emod_eq_of_lt (by omega) (by omega)]
    · rw [← hup, Int.emod_eq_of_lt (by omega) (by omega)]
  have p1 := tmod_gt p 65536 (by omega)
  have p2 := tmod_up p 65536 (by omega)
  rw [show ((65536 : Nat) : Int) = 65536 from rfl] at p1 p2
  have w2 : IntKind.i64.wrap (at_.tmod ((8 * b.length : Nat) : Int) + ((8 * b.length : Nat) : Int)) = at_.tmod ((8 * b.length : Nat) : Int) + ((8 * b.length : Nat) : Int) := wrap_i64 (by omega) (by omega)
  have rp : remO p 65536 = some (p.tmod 65536) := by simp [remO]
  have w5 : IntKind.i64.wrap (p.tmod 65536 + 65536) = p.tmod 65536 + 65536 := wrap_i64 (by omega) (by omega)
  have rp2 : remO (p.tmod 65536 + 65536) 65536 = some (((p % 65536).toNat : Nat) : Int) := by
    simp only [remO]
    rw [if_neg (by omega), Int.tmod_eq_emod_of_nonneg (by omega)]
    congr 1
    split at p2 <;> omega
  have hor : bits .or .i64 (((p % 65536).toNat : Nat) : Int) 1 = ((spM p : Nat) : Int) := by
    have := or_nat (p % 65536).toNat 1 (by omega) (by omega)
    exact this
  obtain ⟨s', h1, h2, h3, h4⟩ := rsp_loop b.length (spF b at_) (spM p) (by omega) hF hM 16 BIG 0 b rfl (by omega) (by unfold BIG; omega) rfl hb
  have he : s' = s := bits_ext h3 hsb (by omega) fun q hq => by
    rw [h4 q (by omega), hbits q (by omega)]
    simp
  rw [he] at h1
  unfold wherryref18_Spoil
  exact bnd (twin_eq b (by omega)) (cnd_f (by rw [beq_eq_false_iff_ne]; omega) (bnd (x := ((8 * b.length : Nat) : Int)) (by rw [w1]) (bnd hrem (bnd (x := at_.tmod ((8 * b.length : Nat) : Int) + ((8 * b.length : Nat) : Int)) (by rw [w2]) (bnd hrem2 (bnd rp (bnd (x := p.tmod 65536 + 65536) (by rw [w5]) (bnd rp2 (bnd (x := ((spM p : Nat) : Int)) (by rw [hor]) (bndL h1 rfl))))))))))

theorem over_eq (l : List Int) (hl : l.length ≤ 1000) : wherrykeep_Over l = some () := by
  have key : ∀ (k fuel i : Nat) (s : List Int), s.length - i = k → i ≤ s.length → k < fuel → s.length ≤ 1000 → loopF overS fuel (s, (i : Int)) = some (.inl ()) := by
    intro k
    induction k with
    | zero =>
      intro fuel i s hk hi hf hs
      obtain ⟨f, rfl⟩ : ∃ f, fuel = f + 1 := ⟨fuel - 1, by omega⟩
      refine loop_exit ?_
      unfold overS; exact cnd_f (by simp; omega) rfl
    | succ k ih =>
      intro fuel i s hk hi hf hs
      obtain ⟨f, rfl⟩ : ∃ f, fuel = f + 1 := ⟨fuel - 1, by omega⟩
      have hlt : i < s.length := by omega
      have hw : IntKind.i64.wrap ((i : Int) + 1) = ((i + 1 : Nat) : Int) := by rw [wrap_i64 (by omega) (by omega)]; simp
      refine (loop_next (s' := (s.set i (IntKind.u8.wrap (s[i] + 91)), ((i + 1 : Nat) : Int))) ?_).trans (ih f (i + 1) _ (by rw [List.length_set]; omega) (by rw [List.length_set]; omega) (by omega) (by rw [List.length_set]; omega))
      unfold overS
      exact cnd_t (by simp; omega) (bnd (ixO_of hlt) (bnd (getO_of hlt) (bnd rfl (bnd (ixO_of hlt) (bnd rfl (bnd (x := ((i + 1 : Nat) : Int)) (by rw [hw]) rfl))))))
  unfold wherrykeep_Over
  exact bndL (key l.length BIG 0 l (by omega) (Nat.zero_le _) (by unfold BIG; omega) hl) rfl

theorem frameExact_true (f : T_Frame) (b : List Int) (at_ p : Int) (hf : isBytes f.Data) (hb : isBytes b) : wherrylaw20_FrameExact f b at_ p = some true := by
  unfold wherrylaw20_FrameExact
  by_cases l1 : 300 < f.Data.length
  · exact bndL (s := true) (cnd_t (decide_eq_true (by omega)) rfl) (cnd_t rfl rfl)
  by_cases l2 : 300 < b.length
  · exact bndL (s := true) (cnd_f (decide_eq_false (by omega)) (by rw [decide_eq_true (by omega)])) (cnd_t rfl rfl)
  refine bndL (s := false) (cnd_f (decide_eq_false (by omega)) (by rw [decide_eq_false (by omega)])) (cnd_f rfl ?_)
  obtain ⟨r, r1, r2, r3, r4⟩ := reads_eq b hb (by omega)
  obtain ⟨s, s1, s2, s3⟩ := spoils_eq b hb (by omega) at_ p
  have href := refFrame_eq f (by omega)
  have kf := keepFrame_eq r.1 r.1 (by omega)
  have kb := keepBytes_eq s s (by omega)
  have tail : ∀ {X : Option (Bool ⊕ Bool)}, X = some (.inl false) → X = some (.inl false) := fun h => h
  have rest : cond (r.2 != r.2) (some (Sum.inl true : Bool ⊕ Bool)) ((wherrykeep_Frame r.1 r.1).bind fun v21 => cond (!v21) (some (.inl true)) ((frame_Spoil b at_ p).bind fun v22 => (wherryref18_Spoil b at_ p).bind fun v23 => (wherrykeep_Bytes v22 v23).bind fun v24 => some (.inl (!v24)))) = some (.inl false) :=
    cnd_f (by simp) (bnd kf (cnd_f (by simp) (bnd s1 (bnd s2 (bnd kb (by simp))))))
  have fin : ∀ x : List Int, x.length ≤ 400 → (wherrykeep_Over r.1.Data).bind (fun v39 => (wherrykeep_Over x).bind fun v40 => bindS (S := Bool) (A := Bool) ((wherrykeep_Frame (T_Frame.mk f.Kind f.Number f.Offset f.Seq f.Data) (T_Frame.mk f.Kind f.Number f.Offset f.Seq f.Data)).bind fun v41 => cond (v41) ((wherrykeep_Bytes b b).bind fun v42 => cond (v42) ((wherrylaw20_wakes ).bind fun v43 => some (.inl v43)) (some (.inl false))) (some (.inl false))) (fun (s44 : Bool) => some (s44)) some) = some true := by
    intro x hx
    exact bnd (over_eq _ (by omega)) (bnd (over_eq _ (by omega)) (bndL (s := true) (bnd (keepFrame_eq _ _ (by show f.Data.length < _; omega)) (cnd_t (by simp) (bnd (keepBytes_eq b b (by omega)) (cnd_t (by simp) (bnd wakes20 rfl))))) rfl))
  rcases bytes_cases f hf with ⟨gf, h⟩ | ⟨gf, h⟩
  · have hwl := whole_length f
    have h48 := (good_num gf).2.2.2.2
    rw [gf] at href
    have hck := check_eq f
    rw [gf] at hck
    refine bnd (twinFrame_eq f (by omega)) (bnd (twin_eq b (by omega)) (bnd h (bnd r1 (bnd r2 (bnd href (bndL (s := false) (bnd hck (bnd rfl (cnd_f rfl (cnd_t rfl (cnd_f rfl (bnd (refBytes_eq gf hf) (bnd (keepBytes_eq _ _ (by show (whole f).length < _; omega)) (cnd_f (by simp) (cnd_f rfl rest))))))))) (cnd_f rfl (fin (whole f) (by omega)))))))))
  · rw [gf] at href
    have hck := check_eq f
    rw [gf] at hck
    exact bnd (twinFrame_eq f (by omega)) (bnd (twin_eq b (by omega)) (bnd h (bnd r1 (bnd r2 (bnd href (bndL (s := false) (bnd hck (bnd rfl (cnd_f rfl (cnd_f rfl (cnd_t rfl (cnd_f rfl (cnd_f rfl (bnd hck (cnd_f rfl rest)))))))) ) (cnd_f rfl (fin [] (by simp)))))))))
end Go.Abs.Sh
