import Derived.Test.YtenfngliiibiiaaFrameK
import Derived.Test.YtenfngliiibiiaaBitM
namespace Go.Abs.Sh
set_option linter.unusedVariables false
set_option linter.unusedSimpArgs false

/-- Bit q of bytes, the lowest of a byte first. -/
def bitAt (l : List Int) (q : Nat) : Bool := (l.getD (q / 8) 0).toNat.testBit (q % 8)
theorem bitAt_set (s : List Int) (j q : Nat) (x : Int) (hj : j < s.length) : bitAt (s.set j x) q = if q / 8 = j then x.toNat.testBit (q % 8) else bitAt s q := by
  simp only [bitAt, List.getD_eq_getElem?_getD, List.getElem?_set]
  by_cases h : j = q / 8
  · subst h; simp [hj]
  · rw [if_neg h, if_neg (fun e => h e.symm)]
theorem bytes_set {s : List Int} (hs : isBytes s) (j : Nat) (x : Int) (hx : 0 ≤ x ∧ x < 256) : isBytes (s.set j x) := by
  intro n hn
  rcases List.mem_or_eq_of_mem_set hn with h | h
  · exact hs n h
  · subst h; exact hx
/-- Bytes of the same bits are the same. -/
theorem bits_ext {a b : List Int} (ha : isBytes a) (hb : isBytes b) (hl : a.length = b.length) (h : ∀ q, q < 8 * a.length → bitAt a q = bitAt b q) : a = b := by
  refine List.ext_getElem hl fun i h1 h2 => ?_
  have ka := ha a[i] (List.getElem_mem h1)
  have kb := hb b[i] (List.getElem_mem h2)
  have : a[i].toNat = b[i].toNat := by
    refine Nat.eq_of_testBit_eq fun k => ?_
    by_cases hk : k < 8
    · have := h (8 * i + k) (by omega)
      simp only [bitAt] at this
      rw [show (8 * i + k) / 8 = i by omega, show (8 * i + k) % 8 = k by omega] at this
      simpa [List.getD_eq_getElem?_getD, h1, h2] using this
    · rw [Nat.testBit_lt_two_pow (Nat.lt_of_lt_of_le (show a[i].toNat < 2 ^ 8 by omega) (Nat.pow_le_pow_right (by omega) (by omega))),
        Nat.testBit_lt_two_pow (Nat.lt_of_lt_of_le (show b[i].toNat < 2 ^ 8 by omega) (Nat.pow_le_pow_right (by omega) (by omega)))]
  omega

def spF (b : List Int) (at_ : Int) : Nat := (at_ % ((8 * b.length : Nat) : Int)).toNat
def spM (p : Int) : Nat := (p % 65536).toNat ||| 1
theorem spM_lt (p : Int) : spM p < 65536 := by
  have : spM p < 2 ^ 16 := Nat.or_lt_two_pow (by omega) (by omega)
  exact this
theorem spM_0 (p : Int) : (spM p).testBit 0 = true := by simp [spM]
theorem spM_k (p : Int) (k : Nat) (h : 0 < k) : (spM p).testBit k = (p % 65536).toNat.testBit k := by
  simp only [spM, Nat.testBit_or]
  have : Nat.testBit 1 k = false := by
    rw [show (1 : Nat) = 2 ^ 0 from rfl, Nat.testBit_two_pow]; simp; omega
  simp [this]

theorem shl1_u8 : ∀ r : Nat, r < 8 → shlO .u8 1 (r : Int) = some ((2 ^ r : Nat) : Int) := by decide
theorem spoil_eq (b : List Int) (at_ p : Int) (hb : isBytes b) (hl : b.length ≤ 1000) (hne : b ≠ []) :
    ∃ s, frame_Spoil b at_ p = some s ∧ s.length = b.length ∧ isBytes s ∧ ∀ q, q < 8 * b.length → bitAt s q = (bitAt b q ^^ (decide (spF b at_ ≤ q) && decide (q < spF b at_ + 16) && (spM p).testBit (q - spF b at_))) := by
  have hpos : 0 < b.length := List.length_pos_iff.2 hne
  have hM := spM_lt p
  have hF : spF b at_ < 8 * b.length := by
    have h1 := Int.emod_nonneg at_ (show ((8 * b.length : Nat) : Int) ≠ 0 by omega)
    have h2 := Int.emod_lt_of_pos at_ (show 0 < ((8 * b.length : Nat) : Int) by omega)
    unfold spF; omega
  have hFe : ((spF b at_ : Nat) : Int) = at_ % ((8 * b.length : Nat) : Int) := by
    have h1 := Int.emod_nonneg at_ (show ((8 * b.length : Nat) : Int) ≠ 0 by omega)
    unfold spF; omega
  have hF' := hFe
  generalize hMd : spM p = M at *
  generalize spF b at_ = F at *
  have key : ∀ (k fuel i : Nat) (s : List Int), 16 - i = k → i ≤ 16 → k < fuel → s.length = b.length → isBytes s →
      ∃ s', loopF (S := ((List Int) × Int)) (O := ((List Int)) ⊕ (List Int)) (fun ((s60, s61) : (List Int) × Int) =>
            cond ((decide (s61 < 16)))
              (bindS (S := (List Int)) (A := (((List Int) × Int) ⊕ (((List Int)) ⊕ (List Int))))
                ((some (IntKind.i64.wrap ((F : Int) + s61))).bind fun v16 =>
                bindS (S := Bool) (A := (((List Int)) ⊕ (((List Int) × Int) ⊕ (((List Int)) ⊕ (List Int)))))
                  ((some (IntKind.i64.wrap (8 * (s60.length : Int)))).bind fun v17 =>
                  cond ((decide (v16 < v17)))
                    ((shrO .u16 (M : Int) s61).bind fun v18 =>
                    (some (bits .and .u16 v18 1)).bind fun v19 =>
                    some (.inl (v19 == 1)))
                    (some (.inl false)))
                  (fun (s94 : Bool) =>
                    cond (s94)
                      ((quoO .i64 v16 8).bind fun v25 =>
                      (ixO v25 s60.length).bind fun v26 =>
                      (getO s60 v26).bind fun v27 =>
                      (remO v16 8).bind fun v28 =>
                      (shlO .u8 1 v28).bind fun v29 =>
                      (some (bits .xor .u8 v27 v29)).bind fun v30 =>
                      (ixO v25 s60.length).bind fun v31 =>
                      (some (s60.set v31 v30)).bind fun v32 =>
                      some (.inl v32))
                      (some (.inl s60))) some)
                (fun (s90 : (List Int)) =>
                  (some (IntKind.i64.wrap (s61 + 1))).bind fun v42 =>
                  some (.inl (s90, v42))) some)
              (some (.inr (.inl s60)))) fuel (s, (i : Int)) = some (.inl s') ∧ s'.length = b.length ∧ isBytes s' ∧
        ∀ q, q < 8 * b.length → bitAt s' q = (bitAt s q ^^ (decide (F + i ≤ q) && decide (q < F + 16) && M.testBit (q - F))) := by
    intro k
    induction k with
    | zero =>
      intro fuel i s hk hi hf hs hsb
      obtain ⟨f, rfl⟩ : ∃ f, fuel = f + 1 := ⟨fuel - 1, by omega⟩
      have hi16 : i = 16 := by omega
      subst hi16
      refine ⟨s, loop_exit (by simp), hs, hsb, fun q hq => ?_⟩
      by_cases h : F + 16 ≤ q
      · have : ¬ q < F + 16 := by omega
        simp [this]
      · simp [h]
    | succ k ih =>
      intro fuel i s hk hi hf hs hsb
      obtain ⟨f, rfl⟩ : ∃ f, fuel = f + 1 := ⟨fuel - 1, by omega⟩
      have hi16 : i < 16 := by omega
      have hd : decide ((i : Int) < 16) = true := by simp; omega
      have w1 : IntKind.i64.wrap ((F : Int) + (i : Int)) = ((F + i : Nat) : Int) := by rw [wrap_i64 (by omega) (by omega)]; simp
      have w2 : IntKind.i64.wrap (8 * (s.length : Int)) = ((8 * b.length : Nat) : Int) := by rw [hs, wrap_i64 (by omega) (by omega)]; simp
      have w3 : IntKind.i64.wrap ((i : Int) + 1) = ((i + 1 : Nat) : Int) := by rw [wrap_i64 (by omega) (by omega)]; simp
      have hsh : shrO .u16 (M : Int) (i : Int) = some ((M / 2 ^ i : Nat) : Int) := shr_nat .u16 M i (by simp only [IntKind.bits]; omega)
      have hMi : M / 2 ^ i < 65536 := Nat.lt_of_le_of_lt (Nat.div_le_self _ _) hM
      by_cases hp : F + i < 8 * b.length ∧ M.testBit i = true
      · obtain ⟨hp1, hp2⟩ := hp
        have hj : (F + i) / 8 < s.length := by omega
        have hx := hsb s[(F + i) / 8] (List.getElem_mem hj)
        obtain ⟨x, hxe⟩ : ∃ x : Nat, s[(F + i) / 8] = (x : Int) := ⟨s[(F + i) / 8].toNat, by omega⟩
        have hx256 : x < 256 := by omega
        have hr : (F + i) % 8 < 8 := Nat.mod_lt _ (by omega)
        have hpw : shlO .u8 1 (((F + i) % 8 : Nat) : Int) = some ((2 ^ ((F + i) % 8) : Nat) : Int) := by
          generalize (F + i) % 8 = r at *
          exact shl1_u8 r hr
        have hp256 : 2 ^ ((F + i) % 8) < 256 := (Nat.pow_lt_pow_right (by omega) hr : 2 ^ ((F + i) % 8) < 2 ^ 8)
        have hxr : x ^^^ 2 ^ ((F + i) % 8) < 2 ^ 8 := Nat.xor_lt_two_pow (n := 8) hx256 hp256
        obtain ⟨s', h1, h2, h3, h4⟩ := ih f (i + 1) (s.set ((F + i) / 8) ((x ^^^ 2 ^ ((F + i) % 8) : Nat) : Int)) (by omega) (by omega) (by omega) (by simp [hs]) (bytes_set hsb _ _ (by omega))
        refine ⟨s', (loop_next ?_).trans h1, h2, h3, fun q hq => ?_⟩
        · have hlt : decide ((((F + i : Nat) : Int)) < ((8 * b.length : Nat) : Int)) = true := by simp; omega
          simp only [hd, cond_true, w1, w2, w3, hlt, Option.bind_some, hsh, and1_u16 _ hMi, bit_eq, hp2, bindS]
          have q8 := quo_nat (F + i) 8 (by omega) (by omega)
          have r8 := rem_nat (F + i) 8 (by omega)
          rw [show ((8 : Nat) : Int) = 8 from rfl] at q8 r8
          simp only [q8, r8, Option.bind_some, ixO_of hj, getO_of hj, hxe, hpw, xor_u8 x _ hx256 hp256]
        · rw [h4 q hq, bitAt_set s _ q _ hj]
          by_cases he : q = F + i
          · subst he
            have hb1 : bitAt s (F + i) = x.testBit ((F + i) % 8) := by
              simp [bitAt, List.getD_eq_getElem?_getD, hj, hxe]
            have hn : ¬ F + (i + 1) ≤ F + i := by omega
            have hq16 : F + i < F + 16 := by omega
            have hsub : F + i - F = i := by omega
            have hni : ¬ i + 1 ≤ i := by omega
            rw [if_pos rfl, Int.toNat_natCast, Nat.testBit_xor, Nat.testBit_two_pow, hb1, hsub, hp2]
            simp [hi16, hni]
          · have e1 : decide (F + (i + 1) ≤ q) = decide (F + i ≤ q) := by by_cases h : F + i ≤ q <;> simp [h] <;> omega
            rw [e1]
            by_cases h8 : q / 8 = (F + i) / 8
            · have hb1 : bitAt s q = x.testBit (q % 8) := by
                simp [bitAt, List.getD_eq_getElem?_getD, h8, hj, hxe]
              have hm : ¬ (F + i) % 8 = q % 8 := by omega
              rw [if_pos h8, Int.toNat_natCast, Nat.testBit_xor, Nat.testBit_two_pow, hb1]
              simp [hm]
            · rw [if_neg h8]
      · obtain ⟨s', h1, h2, h3, h4⟩ := ih f (i + 1) s (by omega) (by omega) (by omega) hs hsb
        refine ⟨s', (loop_next ?_).trans h1, h2, h3, fun q hq => ?_⟩
        · by_cases hlt : F + i < 8 * b.length
          · have hlt' : decide ((((F + i : Nat) : Int)) < ((8 * b.length : Nat) : Int)) = true := by simp; omega
            have hp2 : M.testBit i = false := by
              cases h : M.testBit i
              · rfl
              · exact absurd ⟨hlt, h⟩ hp
            simp only [hd, cond_true, w1, w2, w3, hlt', Option.bind_some, hsh, and1_u16 _ hMi, bit_eq, hp2, bindS, cond_false]
          · have hlt' : decide ((((F + i : Nat) : Int)) < ((8 * b.length : Nat) : Int)) = false := by simp; omega
            simp only [hd, cond_true, w1, w2, w3, hlt', Option.bind_some, bindS, cond_false]
        · rw [h4 q hq]
          by_cases he : q = F + i
          · subst he
            have hn : ¬ F + (i + 1) ≤ F + i := by omega
            have hq16 : F + i < F + 16 := by omega
            have hsub : F + i - F = i := by omega
            have hp2 : M.testBit i = false := by
              cases h : M.testBit i
              · rfl
              · exact absurd ⟨hq, h⟩ hp
            rw [hsub, hp2]
            simp
          · have e1 : decide (F + (i + 1) ≤ q) = decide (F + i ≤ q) := by by_cases h : F + i ≤ q <;> simp [h] <;> omega
            rw [e1]
  obtain ⟨s, h1, h2, h3, h4⟩ := key 16 BIG 0 b rfl (by omega) (by unfold BIG; omega) rfl hb
  rw [show ((0 : Nat) : Int) = 0 from rfl] at h1
  refine ⟨s, ?_, h2, h3, fun q hq => by simpa using h4 q hq⟩
  have happ : appO 1 ([] : List Int) b = some b := (app_of [] b (by simp; omega))
  have w1 : IntKind.i64.wrap (8 * (b.length : Int)) = ((8 * b.length : Nat) : Int) := by rw [wrap_i64 (by omega) (by omega)]; simp
  have hmask : bits .or .u16 (IntKind.u16.wrap p) 1 = (M : Int) := by
    rw [wrap_u16]
    have := or_u16 (p % 65536).toNat 1 (by omega) (by omega)
    rw [Int.toNat_of_nonneg (by omega)] at this
    rw [← hMd]; exact this
  have hl0 : ((b.length : Int) == 0) = false := by rw [beq_eq_false_iff_ne]; omega
  have htm := tmod_gt at_ (8 * b.length) (by omega)
  have hup := tmod_up at_ (8 * b.length) (by omega)
  have hrem : remO at_ ((8 * b.length : Nat) : Int) = some (at_.tmod ((8 * b.length : Nat) : Int)) := by
    simp only [remO]; rw [if_neg (by omega)]
  unfold frame_Spoil
  refine bnd happ (cnd_f hl0 ?_)
  refine bnd (x := IntKind.u16.wrap p) rfl (bnd (x := (M : Int)) (by rw [hmask]) (bnd (x := ((8 * b.length : Nat) : Int)) (by rw [w1]) (bnd hrem ?_)))
  refine bndL (s := (F : Int)) ?_ ?_
  · generalize at_.tmod ((8 * b.length : Nat) : Int) = t at *
    rw [← hFe] at hup
    by_cases ht : t < 0
    · rw [if_pos ht] at hup
      have e : decide (t < 0) = true := by simp [ht]
      rw [e]
      simp only [cond_true, Option.bind_some, w1]
      rw [hup, wrap_i64 (by omega) (by omega)]
    · rw [if_neg ht] at hup
      have e : decide (t < 0) = false := by simp; omega
      rw [e, ← hup]
      rfl
  refine bndL (s := s) ?_ rfl
  exact h1
end Go.Abs.Sh
