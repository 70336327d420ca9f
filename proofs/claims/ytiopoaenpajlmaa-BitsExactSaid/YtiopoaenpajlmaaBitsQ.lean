import Derived.Test.YtiopoaenpajlmaaBitsP
import Derived.Test.YtiopoaenpajlmaaKeepM
namespace Go.Abs.Sh
set_option linter.unusedVariables false
set_option linter.unusedSimpArgs false

def rightS (s : T_Bits) : ((Int)) → Option ((Int) ⊕ ((Unit) ⊕ Bool)) := (fun (s17 : Int) =>
        (some (IntKind.i64.wrap (8 * (s.B.length : Int)))).bind fun v9 =>
        cond ((decide (s17 < v9)))
          ((wherryref01_bit s.B s17).bind fun v11 =>
          cond ((v11 != 0))
            (some (.inr (.inr (false))))
            ((some (IntKind.i64.wrap (s17 + 1))).bind fun v13 =>
            some (.inl v13)))
          (some (.inr (.inl ()))))
def overS : (((List Int) × Int)) → Option (((List Int) × Int) ⊕ ((Unit) ⊕ Unit)) := (fun ((s11, s12) : (List Int) × Int) =>
  cond ((decide (s12 < (s11.length : Int))))
    ((ixO s12 s11.length).bind fun v2 =>
    (getO s11 v2).bind fun v3 =>
    (some (IntKind.u8.wrap (v3 + 91))).bind fun v4 =>
    (ixO s12 s11.length).bind fun v5 =>
    (some (s11.set v5 v4)).bind fun v6 =>
    (some (IntKind.i64.wrap (s12 + 1))).bind fun v7 =>
    some (.inl (v6, v7)))
    (some (.inr (.inl ()))))

theorem wrap_u64n {n : Int} (h0 : 0 ≤ n) (h1 : n < 18446744073709551616) : IntKind.u64.wrap n = n := by
  simp only [IntKind.wrap, IntKind.bits, IntKind.signed]
  have e : (2 : Int) ^ 64 = 18446744073709551616 := by decide
  simp only [e, Bool.false_and, Bool.false_eq_true, if_false]
  omega
theorem in_eqb (n lo hi : Int) : wherryref01_in n lo hi = some (decide (lo ≤ n) && decide (n ≤ hi)) := by
  unfold wherryref01_in
  cases h : decide (lo ≤ n) <;> rfl
theorem twin_eqb (l : List Int) (h : l.length < 4294967296) : wherrykeep_Twin l = some l := by
  unfold wherrykeep_Twin
  exact bnd (x := l) (by simp only [appO]; rw [if_pos (by simp; omega)]; simp) rfl
theorem over_eqb (l : List Int) (hl : l.length ≤ 10000) : wherrykeep_Over l = some () := by
  have key : ∀ (k fuel i : Nat) (s : List Int), s.length - i = k → i ≤ s.length → k < fuel → s.length ≤ 10000 → loopF overS fuel (s, (i : Int)) = some (.inl ()) := by
    intro k
    induction k with
    | zero =>
      intro fuel i s hk hi hf hs
      obtain ⟨f, rfl⟩ : ∃ f, fuel = f + 1 := ⟨fuel - 1, by omega⟩
      refine loop_exit ?_
      unfold overS; exact cnd_f (by simp; omega) rfl
    | succ k ih =>
      intro fuel i s hk hi hf hs
      obtain ⟨f, rfl⟩ : ∃ f, fuel = f + 1 := ⟨fuel - 1, by omega⟩
      have hlt : i < s.length := by omega
      have hw : IntKind.i64.wrap ((i : Int) + 1) = ((i + 1 : Nat) : Int) := by rw [wrap_i64 (by omega) (by omega)]; simp
      refine (loop_next (s' := (s.set i (IntKind.u8.wrap (s[i] + 91)), ((i + 1 : Nat) : Int))) ?_).trans (ih f (i + 1) _ (by rw [List.length_set]; omega) (by rw [List.length_set]; omega) (by omega) (by rw [List.length_set]; omega))
      unfold overS
      exact cnd_t (by simp; omega) (bnd (ixO_of hlt) (bnd (getO_of hlt) (bnd rfl (bnd (ixO_of hlt) (bnd rfl (bnd (x := ((i + 1 : Nat) : Int)) (by rw [hw]) rfl))))))
  unfold wherrykeep_Over
  exact bndL (key l.length BIG 0 l (by omega) (Nat.zero_le _) (by unfold BIG; omega) hl) rfl

def b2n (b : Bool) : Nat := if b then 1 else 0
theorem bitC_val {B : List Int} (hB : isB B) {q : Nat} (hq : q / 8 < B.length) : B[q / 8].toNat / 2 ^ (q % 8) % 2 = b2n (bitC B q) := by
  have : bitC B q = B[q / 8].toNat.testBit (q % 8) := by simp [bitC, List.getD_eq_getElem?_getD, hq]
  rw [this, b2n, Nat.testBit_eq_decide_div_mod_eq]
  have := Nat.mod_two_eq_zero_or_one (B[q / 8].toNat / 2 ^ (q % 8))
  rcases this with h | h <;> simp [h]
theorem bit_eqb {B : List Int} (hB : isB B) (hl : B.length ≤ 10000) {q : Nat} (hq : q < 8 * B.length) : wherryref01_bit B (q : Int) = some ((b2n (bitC B q) : Nat) : Int) := by
  unfold wherryref01_bit
  have q8 := quo_nat q 8 (by omega) (by omega)
  have r8 := rem_nat q 8 (by omega)
  rw [show ((8 : Nat) : Int) = 8 from rfl] at q8 r8
  have hlt : q / 8 < B.length := by omega
  have hx := hB _ (List.getElem_mem hlt)
  have hv := bitC_val hB hlt
  obtain ⟨x, hxe⟩ : ∃ x : Nat, B[q / 8] = (x : Int) := ⟨B[q / 8].toNat, by omega⟩
  rw [hxe, Int.toNat_natCast] at hv
  have hm : q % 8 < 8 := Nat.mod_lt _ (by omega)
  have sh := shr_nat .u8 x (q % 8) (by simp only [IntKind.bits]; omega)
  have hle : x / 2 ^ (q % 8) ≤ x := Nat.div_le_self _ _
  generalize hy : x / 2 ^ (q % 8) = y at *
  have w1 : IntKind.u64.wrap ((q % 8 : Nat) : Int) = ((q % 8 : Nat) : Int) := wrap_u64n (by omega) (by omega)
  have w2 : IntKind.i64.wrap (y : Int) = (y : Int) := wrap_i64 (by omega) (by omega)
  have a1 := and1_i64 y (by omega)
  exact bnd q8 (bnd (ixO_of hlt) (bnd (x := (x : Int)) (by rw [getO_of hlt, hxe]) (bnd r8 (bnd (x := ((q % 8 : Nat) : Int)) (by rw [w1]) (bnd sh (bnd (x := (y : Int)) (by rw [w2]) (bnd (x := ((b2n (bitC B q) : Nat) : Int)) (by rw [a1, hv]) rfl)))))))

theorem right_loop (s : T_Bits) (hB : isB s.B) (hl : s.B.length ≤ 10000) : ∀ (k fuel i : Nat), 8 * s.B.length - i = k → i ≤ 8 * s.B.length → k < fuel →
    ∃ b : Bool, loopF (rightS s) fuel (i : Int) = some (cond b (.inl ()) (.inr false)) ∧ (b = true ↔ ∀ q, i ≤ q → q < 8 * s.B.length → bitC s.B q = false) := by
  intro k
  have w8 : IntKind.i64.wrap (8 * ((s.B.length : Nat) : Int)) = ((8 * s.B.length : Nat) : Int) := by rw [wrap_i64 (by omega) (by omega)]; simp
  induction k with
  | zero =>
    intro fuel i hk hi hf
    obtain ⟨f, rfl⟩ : ∃ f, fuel = f + 1 := ⟨fuel - 1, by omega⟩
    refine ⟨true, loop_exit ?_, ⟨fun _ q h1 h2 => by omega, fun _ => rfl⟩⟩
    unfold rightS
    exact bnd (x := ((8 * s.B.length : Nat) : Int)) (by rw [w8]) (cnd_f (by simp; omega) rfl)
  | succ k ih =>
    intro fuel i hk hi hf
    obtain ⟨f, rfl⟩ : ∃ f, fuel = f + 1 := ⟨fuel - 1, by omega⟩
    have hlt : i < 8 * s.B.length := by omega
    have hb := bit_eqb hB hl hlt
    cases hbit : bitC s.B i with
    | true =>
      refine ⟨false, loop_exit ?_, ⟨fun h => (by cases h), fun h => by rw [h i (Nat.le_refl _) hlt] at hbit; cases hbit⟩⟩
      rw [hbit] at hb
      unfold rightS
      exact bnd (x := ((8 * s.B.length : Nat) : Int)) (by rw [w8]) (cnd_t (by simp; omega) (bnd hb (cnd_t (by decide) rfl)))
    | false =>
      rw [hbit] at hb
      obtain ⟨b, h1, h2⟩ := ih f (i + 1) (by omega) (by omega) (by omega)
      refine ⟨b, (loop_next ?_).trans h1, h2.trans ⟨fun h q hq hq2 => ?_, fun h q hq hq2 => h q (by omega) hq2⟩⟩
      · have w1 : IntKind.i64.wrap ((i : Int) + 1) = ((i + 1 : Nat) : Int) := by rw [wrap_i64 (by omega) (by omega)]; simp
        unfold rightS
        exact bnd (x := ((8 * s.B.length : Nat) : Int)) (by rw [w8]) (cnd_t (by simp; omega) (bnd hb (cnd_f (by decide) (bnd (x := ((i + 1 : Nat) : Int)) (by rw [w1]) rfl))))
      · by_cases e : q = i
        · subst e; exact hbit
        · exact h q (by omega) hq2

theorem bitC_out (B : List Int) {q : Nat} (h : 8 * B.length ≤ q) : bitC B q = false := by
  simp only [bitC, List.getD_eq_getElem?_getD]
  rw [List.getElem?_eq_none (by omega)]; simp

theorem check_bad {B : List Int} {N : Nat} (hB : isB B) (hN : N ≤ 40000) (hl : B.length = (N + 7) / 8) (hz : ¬ ∀ q, N ≤ q → q < 8 * B.length → bitC B q = false) : bits_Check (T_Bits.mk B (N : Int)) = some 1 := by
  unfold bits_Check
  have hb := bytesFor_eq N (by omega)
  have r8 := rem_nat N 8 (by omega)
  rw [show ((8 : Nat) : Int) = 8 from rfl] at r8
  have h0 : N % 8 ≠ 0 := fun e => hz fun q h1 h2 => by omega
  refine bndL (s := false) (cnd_f (by simp) (cnd_f (by simp; omega) (bnd hb ?_))) (cnd_f rfl (bnd r8 ?_))
  · have : (((B.length : Nat) : Int) != (((N + 7) / 8 : Nat) : Int)) = false := by rw [hl]; simp
    exact congrArg some (congrArg Sum.inl this)
  refine bndL (s := true) ?_ (cnd_t rfl rfl)
  have hlt : B.length - 1 < B.length := by omega
  have w : IntKind.i64.wrap (((B.length : Nat) : Int) - 1) = ((B.length - 1 : Nat) : Int) := by rw [wrap_i64 (by omega) (by omega)]; omega
  have hx := hB _ (List.getElem_mem hlt)
  obtain ⟨x, hxe⟩ : ∃ x : Nat, B[B.length - 1] = (x : Int) := ⟨B[B.length - 1].toNat, by omega⟩
  have hr : N % 8 < 8 := Nat.mod_lt _ (by omega)
  have hsh := shr_nat .u8 x (N % 8) (by simp only [IntKind.bits]; omega)
  have hne : x / 2 ^ (N % 8) ≠ 0 := by
    intro h0'
    have hxs : x < 2 ^ (N % 8) := (Nat.div_eq_zero_iff_lt (Nat.two_pow_pos _)).1 h0'
    refine hz fun q h1 h2 => ?_
    have e1 : q / 8 = B.length - 1 := by omega
    simp only [bitC, e1]
    have : B.getD (B.length - 1) 0 = (x : Int) := by simp [List.getD_eq_getElem?_getD, hlt, hxe]
    rw [this, Int.toNat_natCast]
    exact Nat.testBit_lt_two_pow (Nat.lt_of_lt_of_le hxs (Nat.pow_le_pow_right (by omega) (by omega)))
  refine cnd_t (by simp; omega) (bnd (x := ((B.length - 1 : Nat) : Int)) (by rw [← w]) (bnd (ixO_of hlt) (bnd (x := (x : Int)) (by rw [getO_of hlt, hxe]) (bnd hsh ?_))))
  generalize x / 2 ^ (N % 8) = y at *
  have : ((y : Int) != 0) = true := by simp; omega
  rw [this]

/-- Whether a row of bits is right: both ways of asking say the same. -/
theorem right_eq (s : T_Bits) (hB : isB s.B) (hl : s.B.length ≤ 6000) : ∃ r : Bool, bits_Check s = some (if r then 0 else 1) ∧ wherryref01_RightBits s = some r ∧
    (r = true → ∃ N : Nat, s.N = (N : Int) ∧ N ≤ 40000 ∧ Good s.B N) := by
  obtain ⟨B, M⟩ := s
  dsimp only at hB hl
  by_cases hneg : M < 0
  · refine ⟨false, ?_, ?_, fun h => by cases h⟩
    · unfold bits_Check
      exact bndL (s := true) (cnd_t (by simpa using hneg) rfl) (cnd_t rfl rfl)
    · unfold wherryref01_RightBits
      exact bndL (s := true) (bnd (in_eqb _ _ _) (cnd_t (by simp; omega) rfl)) (cnd_t rfl rfl)
  by_cases hbig : 40000 < M
  · refine ⟨false, ?_, ?_, fun h => by cases h⟩
    · unfold bits_Check
      exact bndL (s := true) (cnd_f (by simpa using hneg) (cnd_t (by simpa using hbig) rfl)) (cnd_t rfl rfl)
    · unfold wherryref01_RightBits
      exact bndL (s := true) (bnd (in_eqb _ _ _) (cnd_t (by simp; omega) rfl)) (cnd_t rfl rfl)
  obtain ⟨N, rfl⟩ : ∃ N : Nat, M = (N : Int) := ⟨M.toNat, by omega⟩
  have hN : N ≤ 40000 := by omega
  have hb := bytesFor_eq N (by omega)
  have w7 : IntKind.i64.wrap ((N : Int) + 7) = ((N + 7 : Nat) : Int) := by rw [wrap_i64 (by omega) (by omega)]; simp
  have q7 := quo_nat (N + 7) 8 (by omega) (by omega)
  rw [show ((8 : Nat) : Int) = 8 from rfl] at q7
  by_cases hlen : B.length = (N + 7) / 8
  case neg =>
    have hne : (((B.length : Nat) : Int) != (((N + 7) / 8 : Nat) : Int)) = true := by simp; omega
    refine ⟨false, ?_, ?_, fun h => by cases h⟩
    · unfold bits_Check
      refine bndL (s := true) (cnd_f (by simp) (cnd_f (by simp; omega) (bnd hb ?_))) (cnd_t rfl rfl)
      exact congrArg some (congrArg Sum.inl hne)
    · unfold wherryref01_RightBits
      refine bndL (s := true) (bnd (in_eqb _ _ _) (cnd_f (by simp; omega) (bnd (x := ((N + 7 : Nat) : Int)) (by rw [w7]) (bnd q7 ?_)))) (cnd_t rfl rfl)
      exact congrArg some (congrArg Sum.inl hne)
  have hne : (((B.length : Nat) : Int) != (((N + 7) / 8 : Nat) : Int)) = false := by rw [hlen]; simp
  obtain ⟨b, h1, h2⟩ := right_loop ⟨B, N⟩ hB (by show B.length ≤ _; omega) (8 * B.length - N) BIG N rfl (by show N ≤ 8 * B.length; omega) (by unfold BIG; omega)
  dsimp only at h1 h2
  have href : wherryref01_RightBits ⟨B, N⟩ = some b := by
    unfold wherryref01_RightBits
    refine bndL (s := false) (bnd (in_eqb _ _ _) (cnd_f (by simp; omega) (bnd (x := ((N + 7 : Nat) : Int)) (by rw [w7]) (bnd q7 ?_)))) (cnd_f rfl ?_)
    · exact congrArg some (congrArg Sum.inl hne)
    cases b with
    | true => exact bndL h1 rfl
    | false => exact bndR h1 rfl
  refine ⟨b, ?_, href, fun hb => ⟨N, rfl, hN, hlen, hB, fun q hq => ?_⟩⟩
  · cases b with
    | true => exact check_good ⟨hlen, hB, fun q hq => by
        by_cases h8 : q < 8 * B.length
        · exact h2.1 rfl q hq h8
        · exact bitC_out B (by omega)⟩ hN
    | false => exact check_bad hB hN hlen fun h => by have := h2.2 h; cases this
  · by_cases h8 : q < 8 * B.length
    · exact h2.1 hb q hq h8
    · exact bitC_out B (by omega)

theorem fits_both (v n : Int) (hv0 : -9223372036854775808 ≤ v) (hv1 : v < 9223372036854775808) : ∃ f : Bool, bits_fits v n = some f ∧ wherryref01_fits v n = some f ∧ (f = true → ∃ V M : Nat, v = (V : Int) ∧ n = (M : Int) ∧ M ≤ 24 ∧ V < 2 ^ M) := by
  by_cases h0 : 0 ≤ n
  case neg =>
    refine ⟨false, ?_, ?_, fun h => by cases h⟩
    · unfold bits_fits; exact bndL (s := false) (cnd_f (by simpa using h0) rfl) rfl
    · unfold wherryref01_fits; exact bndL (s := false) (bnd (in_eqb _ _ _) (cnd_f (by simp; omega) rfl)) rfl
  by_cases h1 : n ≤ 24
  case neg =>
    refine ⟨false, ?_, ?_, fun h => by cases h⟩
    · unfold bits_fits; exact bndL (s := false) (cnd_t (by simpa using h0) (cnd_f (by simpa using h1) rfl)) rfl
    · unfold wherryref01_fits; exact bndL (s := false) (bnd (in_eqb _ _ _) (cnd_f (by simp; omega) rfl)) rfl
  by_cases h2 : 0 ≤ v
  case neg =>
    refine ⟨false, ?_, ?_, fun h => by cases h⟩
    · unfold bits_fits; exact bndL (s := false) (cnd_t (by simpa using h0) (cnd_t (by simpa using h1) (cnd_f (by simpa using h2) rfl))) rfl
    · unfold wherryref01_fits; exact bndL (s := false) (bnd (in_eqb _ _ _) (cnd_t (by simp; omega) (cnd_f (by simpa using h2) rfl))) rfl
  obtain ⟨V, rfl⟩ : ∃ V : Nat, v = (V : Int) := ⟨v.toNat, by omega⟩
  obtain ⟨M, rfl⟩ : ∃ M : Nat, n = (M : Int) := ⟨n.toNat, by omega⟩
  have hp : 2 ^ M ≤ 2 ^ 24 := Nat.pow_le_pow_right (by omega) (by omega)
  have e24 : (2 : Nat) ^ 24 = 16777216 := by decide
  have sh := shl_nat 1 M (by omega) (by omega)
  rw [Nat.one_mul] at sh
  have wu : IntKind.u64.wrap (M : Int) = (M : Int) := wrap_u64n (by omega) (by omega)
  refine ⟨decide (V < 2 ^ M), ?_, ?_, fun h => ⟨V, M, rfl, rfl, by omega, by simpa using h⟩⟩
  · unfold bits_fits
    refine bndL (s := decide (V < 2 ^ M)) (cnd_t (by simp) (cnd_t (by simp; omega) (cnd_t (by simp) (bnd sh ?_)))) rfl
    generalize 2 ^ M = Y
    by_cases h : V < Y <;> simp [h]
  · unfold wherryref01_fits
    refine bndL (s := decide (V < 2 ^ M)) (bnd (in_eqb _ _ _) (cnd_t (by simp; omega) (cnd_t (by simp) (bnd (x := (M : Int)) (by rw [wu]) (bnd sh ?_))))) rfl
    generalize 2 ^ M = Y
    by_cases h : V < Y <;> simp [h]

theorem keepBits_eq (a b : T_Bits) (hl : a.B.length < 4294967296) : wherrykeep_Bits a b = some (decide (a = b)) := by
  unfold wherrykeep_Bits
  obtain ⟨B, N⟩ := a
  obtain ⟨C, M⟩ := b
  by_cases h : N = M
  · refine bndL (s := decide (B = C)) (cnd_t (by simpa using h) (bnd (keepBytes_eq B C hl) rfl)) ?_
    subst h
    by_cases h2 : B = C <;> simp [h2]
  · refine bndL (s := false) (cnd_f (by simpa using h) rfl) ?_
    simp [h]
end Go.Abs.Sh
