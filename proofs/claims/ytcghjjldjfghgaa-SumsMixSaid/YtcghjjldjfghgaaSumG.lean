import Derived.Test.YtcghjjldjfghgaaCrcM
import Derived.Test.YtcghjjldjfghgaaBitM
namespace Go.Abs.Sh
set_option linter.unusedVariables false
set_option linter.unusedSimpArgs false

theorem shr4' (r : Nat) : shrO .u32 (r : Int) 4 = some ((r / 16 : Nat) : Int) := by
  have := shr_nat .u32 r 4 (by decide)
  rw [show ((4 : Nat) : Int) = 4 from rfl] at this
  rw [this, show (2 : Nat) ^ 4 = 16 from rfl]

/-- The sum of a text: the register begins as ones, and is turned about. -/
def crc (d w : Nat) (l : List Nat) : Nat := reg d l (2 ^ w - 1) ^^^ (2 ^ w - 1)
theorem reg_lt (d w : Nat) (hd : d < 2 ^ w) (hw : 8 ≤ w) : ∀ (l : List Nat) (r : Nat), r < 2 ^ w → (∀ x ∈ l, x < 256) → reg d l r < 2 ^ w
  | [], r, hr, _ => by rw [reg_nil]; exact hr
  | x :: l, r, hr, h => by
    have hx := h x (by simp)
    rw [reg_cons _ _ _ _ hx]
    have h2 : 2 ^ 8 ≤ 2 ^ w := Nat.pow_le_pow_right (by omega) hw
    exact reg_lt d w hd hw l _ (sn_lt d _ w 8 hd (Nat.xor_lt_two_pow hr (by omega))) fun y hy => h y (by simp [hy])

theorem sum_gen (d w : Nat) (T : List Nat) (W D : Int) (hw : 8 ≤ w) (hw2 : w ≤ 32) (hd : d < 2 ^ w) (hl16 : T.length = 16) (htab : sums_table D = some (T.map (fun n : Nat => (n : Int))))
    (hT : ∀ i, i < 16 → T.getD i 0 = sn d 4 i) (hones : ((shlO .u32 1 W).bind fun v => some (IntKind.u32.wrap (v - 1))) = some ((2 ^ w - 1 : Nat) : Int))
    (b : List Int) (hb : ∀ n ∈ b, 0 ≤ n ∧ n < 256) (hl : b.length < 4294967296) : sums_sum b W D = some ((crc d w (nats b) : Nat) : Int) := by
  have hpw : 2 ^ w ≤ 2 ^ 32 := Nat.pow_le_pow_right (by omega) hw2
  have hpw0 : 0 < 2 ^ w := Nat.pow_pos (by omega)
  have h256 : 2 ^ 8 ≤ 2 ^ w := Nat.pow_le_pow_right (by omega) hw
  have e32 : (2 : Nat) ^ 32 = 4294967296 := by decide
  have e8 : (2 : Nat) ^ 8 = 256 := by decide
  have hat : ∀ i, i < 16 → getO (T.map (fun n : Nat => (n : Int))) i = some ((sn d 4 i : Nat) : Int) := by
    intro i hi
    rw [← hT i hi]
    have : i < T.length := by omega
    simp [getO, List.getD, this]
  have hTl : ∀ i, i < 16 → sn d 4 i < 2 ^ w := fun i hi => sn_lt d i w 4 hd (by omega)
  have key : ∀ (k fuel i r : Nat), b.length - i = k → i ≤ b.length → k < fuel → r < 2 ^ w →
      loopF (S := (Int × Int)) (O := (Int) ⊕ Int) (fun ((s25, s26) : Int × Int) =>
      cond ((decide (s26 < (b.length : Int))))
        ((ixO s26 b.length).bind fun v7 =>
        (getO b v7).bind fun v8 =>
        (some (IntKind.u32.wrap v8)).bind fun v9 =>
        (some (bits .xor .u32 s25 v9)).bind fun v10 =>
        (shrO .u32 v10 4).bind fun v11 =>
        (remO v10 16).bind fun v12 =>
        (ixO v12 16).bind fun v13 =>
        (getO (T.map (fun n : Nat => (n : Int))) v13).bind fun v14 =>
        (some (bits .xor .u32 v11 v14)).bind fun v15 =>
        (shrO .u32 v15 4).bind fun v16 =>
        (remO v15 16).bind fun v17 =>
        (ixO v17 16).bind fun v18 =>
        (getO (T.map (fun n : Nat => (n : Int))) v18).bind fun v19 =>
        (some (bits .xor .u32 v16 v19)).bind fun v20 =>
        (some (IntKind.i64.wrap (s26 + 1))).bind fun v21 =>
        some (.inl (v20, v21)))
        (some (.inr (.inl s25)))) fuel ((r : Int), (i : Int)) = some (.inl ((reg d (nats (b.drop i)) r : Nat) : Int)) := by
    intro k
    induction k with
    | zero =>
      intro fuel i r hk hi hf hr
      obtain ⟨f, rfl⟩ : ∃ f, fuel = f + 1 := ⟨fuel - 1, by omega⟩
      have hia : i = b.length := by omega
      subst hia
      refine loop_exit (cnd_f (by simp) ?_)
      rw [List.drop_length, show nats [] = [] from rfl, reg_nil]
    | succ k ih =>
      intro fuel i r hk hi hf hr
      obtain ⟨f, rfl⟩ : ∃ f, fuel = f + 1 := ⟨fuel - 1, by omega⟩
      have hlt : i < b.length := by omega
      have hbi := hb b[i] (List.getElem_mem hlt)
      obtain ⟨x, hx⟩ : ∃ x : Nat, b[i] = (x : Int) := ⟨b[i].toNat, by omega⟩
      have hx256 : x < 256 := by omega
      have hw1 : IntKind.i64.wrap ((i : Int) + 1) = ((i + 1 : Nat) : Int) := by
        rw [wrap_i64 (by omega) (by omega)]; simp
      have a1 : r ^^^ x < 2 ^ w := Nat.xor_lt_two_pow hr (by omega)
      have m1 : (r ^^^ x) % 16 < 16 := Nat.mod_lt _ (by omega)
      have a2 : sn d 4 (r ^^^ x) < 2 ^ w := sn_lt d _ w 4 hd a1
      have m2 : sn d 4 (r ^^^ x) % 16 < 16 := Nat.mod_lt _ (by omega)
      have a3 : sn d 8 (r ^^^ x) < 2 ^ w := sn_lt d _ w 8 hd a1
      have e1 : (r ^^^ x) / 16 ^^^ sn d 4 ((r ^^^ x) % 16) = sn d 4 (r ^^^ x) := (sn4_split d _).symm
      have e2 : sn d 4 (r ^^^ x) / 16 ^^^ sn d 4 (sn d 4 (r ^^^ x) % 16) = sn d 8 (r ^^^ x) := by rw [← sn4_split, sn8_split]
      have hdr : b.drop i = b[i] :: b.drop (i + 1) := List.drop_eq_getElem_cons hlt
      have t1 := hTl _ m1
      have t2 := hTl _ m2
      have r16a := rem_nat (r ^^^ x) 16 (by omega)
      have r16b := rem_nat (sn d 4 (r ^^^ x)) 16 (by omega)
      rw [show ((16 : Nat) : Int) = 16 from rfl] at r16a r16b
      refine (loop_next (cnd_t (by simp; omega) (bnd (ixO_of hlt) (bnd (x := (x : Int)) (by rw [getO_of hlt, hx]) (bnd (x := (x : Int)) (by rw [wrap_u32 (by omega) (by omega)])
        (bnd (x := ((r ^^^ x : Nat) : Int)) (by rw [xor_u32 r x (by omega) (by omega)]) (bnd (shr4' _) (bnd r16a (bnd (ixO_of m1) (bnd (hat _ m1)
        (bnd (x := ((sn d 4 (r ^^^ x) : Nat) : Int)) (by rw [xor_u32 _ _ (by omega) (by omega), e1]) (bnd (shr4' _) (bnd r16b (bnd (ixO_of m2) (bnd (hat _ m2)
        (bnd (x := ((sn d 8 (r ^^^ x) : Nat) : Int)) (by rw [xor_u32 _ _ (by omega) (by omega), e2]) (bnd (x := ((i + 1 : Nat) : Int)) (by rw [hw1]) rfl))))))))))))))))).trans ?_
      rw [ih f (i + 1) _ (by omega) hlt (by omega) a3, hdr]
      have : nats (b[i] :: b.drop (i + 1)) = x :: nats (b.drop (i + 1)) := by simp [nats, hx]
      rw [this, reg_cons _ _ _ _ hx256]
  have hz : 2 ^ w - 1 < 2 ^ w := by omega
  have hlt := reg_lt d w hd hw (nats b) (2 ^ w - 1) hz (nats_bytes hb)
  have hc : crc d w (nats b) < 2 ^ w := Nat.xor_lt_two_pow hlt hz
  unfold sums_sum
  have l16 : lnO 16 (T.map (fun n : Nat => (n : Int))) = some (T.map (fun n : Nat => (n : Int))) := by simp [lnO, hl16]
  have l0 : lnO 16 (List.replicate 16 (0 : Int)) = some (List.replicate 16 (0 : Int)) := by decide
  obtain ⟨v, hv, hv2⟩ := bind_some hones
  refine bnd htab (bnd l0 (bnd l16 (bnd hv (bnd hv2 ?_))))
  refine bndL (key b.length BIG 0 (2 ^ w - 1) (by omega) (Nat.zero_le _) (by unfold BIG; omega) hz) ?_
  refine bnd (x := ((crc d w (nats b) : Nat) : Int)) (by rw [List.drop_zero, xor_u32 _ _ (by omega) (by omega)]; rfl) (bnd (x := ((crc d w (nats b) : Nat) : Int)) (by rw [wrap_i64 (by omega) (by omega)]) rfl)

def tabL : List Nat := (List.range 16).map (sn 3988292384 4)
theorem tableL : sums_table 3988292384 = some (tabL.map (fun n : Nat => (n : Int))) := by kernel_rfl
theorem long_eq (b : List Int) (hb : ∀ n ∈ b, 0 ≤ n ∧ n < 256) (hl : b.length < 4294967296) : sums_Long b = some ((crc 3988292384 32 (nats b) : Nat) : Int) := by
  unfold sums_Long
  refine bnd (sum_gen 3988292384 32 tabL 32 3988292384 (by omega) (by omega) (by decide) (by decide) tableL ?_ (by decide) b hb hl) rfl
  intro i hi
  have : ∀ i, i < 16 → tabL.getD i 0 = sn 3988292384 4 i := by decide
  exact this i hi
theorem short_eq' (b : List Int) (hb : ∀ n ∈ b, 0 ≤ n ∧ n < 256) (hl : b.length < 4294967296) : sums_Short b = some ((crc 33800 16 (nats b) : Nat) : Int) := by
  unfold sums_Short
  refine bnd (sum_gen 33800 16 tab16 16 33800 (by omega) (by omega) (by decide) (by decide) table16 ?_ (by decide) b hb hl) rfl
  intro i hi
  have : ∀ i, i < 16 → tab16.getD i 0 = sn 33800 4 i := by decide
  exact this i hi

/-- Bits side by side, no more than the sum is wide, make another sum. -/
theorem burstG (d w K : Nat) (hd : 2 ^ w ≤ d) (hd2 : d < 2 ^ (w + 1)) (hK : K ≤ w + 1) (a b : List Nat) (F : Nat) (M : Nat) (ha : ∀ x ∈ a, x < 256) (hb : ∀ x ∈ b, x < 256) (hl : a.length = b.length) (hF : F < 8 * a.length) (hK0 : 0 < K) (hM0 : M.testBit 0 = true)
    (h : ∀ q, q < 8 * a.length → (b.getD (q / 8) 0).testBit (q % 8) = ((a.getD (q / 8) 0).testBit (q % 8) ^^ (decide (F ≤ q) && decide (q < F + K) && M.testBit (q - F)))) (r : Nat) :
    reg d a r ≠ reg d b r := by
  intro he
  have hD : ∀ q, (bv a ^^^ bv b).testBit q = (decide (q < 8 * a.length) && (decide (F ≤ q) && decide (q < F + K) && M.testBit (q - F))) := by
    intro q
    by_cases hq : q < 8 * a.length
    · rw [Nat.testBit_xor, bv_testBit a q ha, bv_testBit b q hb, h q hq]
      simp only [hq, decide_true, Bool.true_and]
      cases (a.getD (q / 8) 0).testBit (q % 8) <;> simp
    · have h1 : (bv a).testBit q = false := Nat.testBit_lt_two_pow (Nat.lt_of_lt_of_le (bv_lt a ha) (Nat.pow_le_pow_right (by omega) (by omega)))
      have h2 : (bv b).testBit q = false := Nat.testBit_lt_two_pow (Nat.lt_of_lt_of_le (bv_lt b hb) (Nat.pow_le_pow_right (by omega) (by omega)))
      rw [Nat.testBit_xor, h1, h2]
      simp [hq]
  have hz : sn d (8 * a.length) (bv a ^^^ bv b) = 0 := by
    have e : bv a ^^^ bv b = (r ^^^ bv a) ^^^ (r ^^^ bv b) := by
      rw [Nat.xor_comm r (bv a), Nat.xor_assoc, ← Nat.xor_assoc r r, Nat.xor_self, Nat.zero_xor]
    rw [e, sn_xor]
    unfold reg at he
    rw [he, ← hl, Nat.xor_self]
  generalize hDd : bv a ^^^ bv b = D at *
  have hsplit : D = 2 ^ F * (D / 2 ^ F) := by
    refine Nat.eq_of_testBit_eq fun q => ?_
    rw [Nat.testBit_two_pow_mul, Nat.testBit_div_two_pow]
    by_cases hq : F ≤ q
    · simp [hq]
    · rw [hD q]; simp [hq]
  have hm : D / 2 ^ F < 2 ^ (w + 1) := by
    refine Nat.lt_pow_two_of_testBit _ fun i hi => ?_
    rw [Nat.testBit_div_two_pow, hD]
    have : ¬ i + F < F + K := by omega
    simp [this]
  have hm0 : D / 2 ^ F ≠ 0 := by
    intro h0
    have : (D / 2 ^ F).testBit 0 = true := by
      rw [Nat.testBit_div_two_pow, hD]
      simp [hF, hM0, hK0]
    rw [h0] at this
    simp at this
  apply hm0
  refine sn_inj d w hd hd2 (8 * a.length - F) _ hm ?_
  rw [show 8 * a.length = F + (8 * a.length - F) by omega, sn_add] at hz
  rw [hsplit, sn_shift] at hz
  exact hz
theorem crc_ne {d w : Nat} {a b : List Nat} (h : reg d a (2 ^ w - 1) ≠ reg d b (2 ^ w - 1)) : crc d w a ≠ crc d w b := by
  intro e
  apply h
  unfold crc at e
  have := congrArg (fun n => n ^^^ (2 ^ w - 1)) e
  simpa [Nat.xor_assoc] using this
end Go.Abs.Sh
