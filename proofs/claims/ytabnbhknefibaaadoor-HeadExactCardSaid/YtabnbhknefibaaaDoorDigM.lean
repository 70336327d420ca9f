import Derived.Test.YtabnbhknefibaaaDoorPatQ
import Derived.Lib.ItoaNum
namespace Go.Abs.Sh
set_option linter.unusedVariables false
set_option linter.unusedSimpArgs false
set_option maxRecDepth 100000
def dgA : Nat → Nat → List Int → List Int
  | 0, n, acc => (48 + (n : Int)) :: acc
  | k + 1, n, acc => if n ≤ 9 then (48 + (n : Int)) :: acc else dgA k (n / 10) ((48 + ((n % 10 : Nat) : Int)) :: acc)
def dig1 (c : Int) : Prop := 48 ≤ c ∧ c ≤ 57
theorem dgA_ok : ∀ (k n : Nat) (acc : List Int), n < 10 ^ (k + 1) → ∃ t, dgA k n acc = t ++ acc ∧ (∀ x ∈ t, dig1 x) ∧ 1 ≤ t.length ∧ t.length ≤ k + 1
  | 0, n, acc, hn => ⟨[48 + (n : Int)], rfl, fun x hx => by simp at hx; subst hx; simp at hn; exact ⟨by omega, by omega⟩, by simp, by simp⟩
  | k + 1, n, acc, hn => by
    unfold dgA
    by_cases h9 : n ≤ 9
    · rw [if_pos h9]
      exact ⟨[48 + (n : Int)], rfl, fun x hx => by simp at hx; subst hx; exact ⟨by omega, by omega⟩, by simp, by simp⟩
    · rw [if_neg h9]
      have hn2 : n / 10 < 10 ^ (k + 1) := by rw [Nat.pow_succ] at hn; omega
      obtain ⟨t, e, h1, h2, h3⟩ := dgA_ok k (n / 10) ((48 + ((n % 10 : Nat) : Int)) :: acc) hn2
      refine ⟨t ++ [48 + ((n % 10 : Nat) : Int)], by rw [e]; simp, fun x hx => ?_, by simp, by simp; omega⟩
      rcases List.mem_append.1 hx with hx | hx
      · exact h1 x hx
      · simp at hx; subst hx; exact ⟨by omega, by omega⟩
theorem dec_dgA : ∀ (k n : Nat) (acc : List Int), n < 10 ^ (k + 1) → (Lib.decDigits n).map (fun b => (b.toNat : Int)) ++ acc = dgA k n acc
  | 0, n, acc, hn => by
    have h : n < 10 := by simpa using hn
    rw [Lib.decDigits_one h]
    show ((UInt8.ofNat (48 + n)).toNat : Int) :: acc = (48 + (n : Int)) :: acc
    rw [UInt8.toNat_ofNat', Nat.mod_eq_of_lt (by omega)]
    simp
  | k + 1, n, acc, hn => by
    unfold dgA
    by_cases h9 : n ≤ 9
    · rw [if_pos h9, Lib.decDigits_one (by omega)]
      show ((UInt8.ofNat (48 + n)).toNat : Int) :: acc = (48 + (n : Int)) :: acc
      rw [UInt8.toNat_ofNat', Nat.mod_eq_of_lt (by omega)]
      simp
    · rw [if_neg h9]
      have hn2 : n / 10 < 10 ^ (k + 1) := by rw [Nat.pow_succ] at hn; omega
      rw [← dec_dgA k (n / 10) _ hn2, Lib.decDigits, dif_neg (by omega)]
      simp only [List.map_append, List.map_cons, List.map_nil, List.append_assoc, List.cons_append, List.nil_append]
      rw [UInt8.toNat_ofNat', Nat.mod_eq_of_lt (by omega)]
      simp
def tenT : ByteArray := ⟨#[48, 49, 50, 51, 52, 53, 54, 55, 56, 57]⟩
theorem tenT_all : (List.range 10).all (fun k => decide (subO tenT ((k : Nat) : Int) ((k + 1 : Nat) : Int) = some (bstr [48 + ((k : Nat) : Int)]))) = true := by kernel_rfl
theorem tenT_of {k : Nat} (h : k < 10) : subO tenT (k : Int) ((k + 1 : Nat) : Int) = some (bstr [48 + (k : Int)]) := by
  have := List.all_eq_true.1 tenT_all k (List.mem_range.2 h)
  exact of_decide_eq_true this
theorem byt_dg {n : Nat} (h : n ≤ 9) : byt [48 + (n : Int)] := byt_cons (by omega) byt_nil
theorem rdig_go : ∀ (k n : Nat) (acc : List Int) (fuel : Nat), n < 10 ^ (k + 1) → n < 9000000000000000000 → k < fuel → byt acc → acc.length + k < 1000 →
      bindS (S := (Int × ByteArray)) (A := ByteArray)
    (loopF (S := (Int × ByteArray)) (O := (Int × ByteArray) ⊕ ByteArray) (fun ((s11, s12) : Int × ByteArray) =>
      cond ((decide (9 < s11)))
        ((remO s11 10).bind fun v2 =>
        (remO s11 10).bind fun v3 =>
        (some (IntKind.i64.wrap (v3 + 1))).bind fun v4 =>
        (subO (⟨#[48, 49, 50, 51, 52, 53, 54, 55, 56, 57]⟩ : ByteArray) v2 v4).bind fun v5 =>
        (catO v5 s12).bind fun v6 =>
        (quoO .i64 s11 10).bind fun v7 =>
        some (.inl (v7, v6)))
        (some (.inr (.inl (s11, s12)))))
      fuel ((n : Int), bstr acc))
    (fun ((s14, s15) : Int × ByteArray) =>
      (some (IntKind.i64.wrap (s14 + 1))).bind fun v23 =>
      (subO (⟨#[48, 49, 50, 51, 52, 53, 54, 55, 56, 57]⟩ : ByteArray) s14 v23).bind fun v24 =>
      (catO v24 s15).bind fun v25 =>
      some (v25)) some = some (bstr (dgA k n acc)) := by
    intro k
    induction k with
    | zero =>
      intro n acc fuel hn _ hf hb hl
      cases fuel with
      | zero => omega
      | succ fuel =>
        have h9 : n ≤ 9 := by simp at hn; omega
        unfold dgA
        exact bndL (loop_exit (cnd_f (decide_eq_false (by omega)) rfl)) (bnd (by rw [wrap_succ (by omega)]) (bnd (tenT_of (by omega)) (bnd (catL (sbytes_bstr (byt_dg h9)) (sbytes_bstr hb) (by simp; omega)) rfl)))
    | succ k ih =>
      intro n acc fuel hn hbig hf hb hl
      cases fuel with
      | zero => omega
      | succ fuel =>
        by_cases h9 : n ≤ 9
        · unfold dgA
          rw [if_pos h9]
          exact bndL (loop_exit (cnd_f (decide_eq_false (by omega)) rfl)) (bnd (by rw [wrap_succ (by omega)]) (bnd (tenT_of (by omega)) (bnd (catL (sbytes_bstr (byt_dg h9)) (sbytes_bstr hb) (by simp; omega)) rfl)))
        · have hd : byt [48 + ((n % 10 : Nat) : Int)] := byt_cons (by omega) byt_nil
          have hr : remO (n : Int) 10 = some ((n % 10 : Nat) : Int) := rem_nat n 10 (by decide)
          have hq : quoO .i64 (n : Int) 10 = some ((n / 10 : Nat) : Int) := quo_nat n 10 (by decide) (by omega)
          have hn2 : n / 10 < 10 ^ (k + 1) := by rw [Nat.pow_succ] at hn; omega
          have hih := ih (n / 10) ((48 + ((n % 10 : Nat) : Int)) :: acc) fuel hn2 (by omega) (by omega) (byt_cons (by omega) hb) (by simp; omega)
          have e : dgA (k + 1) n acc = dgA k (n / 10) ((48 + ((n % 10 : Nat) : Int)) :: acc) := by rw [dgA, if_neg h9]
          rw [e, ← hih]
          congr 1
          exact loop_next (cnd_t (decide_eq_true (by omega)) (bnd hr (bnd hr (bnd (by rw [wrap_succ (by omega)]) (bnd (tenT_of (by omega)) (bnd (catL (sbytes_bstr hd) (sbytes_bstr hb) (by simp; omega)) (bnd hq rfl)))))))
theorem rdig_eq (k n : Nat) (h : n < 10 ^ (k + 1)) (h2 : n < 9000000000000000000) (hk : k < 900) : wherryref11_Digits (n : Int) = some (bstr (dgA k n [])) :=
  rdig_go k n [] BIG h h2 (by unfold BIG; omega) byt_nil (by simpa using by omega)
theorem itoa_eq (k n : Nat) (h : n < 10 ^ (k + 1)) (h2 : n < 9000000000000000000) : strconv_Itoa (n : Int) = some (bstr (dgA k n [])) := by
  unfold strconv_Itoa
  rw [if_pos (by omega), ← dec_dgA k n [] h]
  congr 1
  have : Lib.itoa (n : Int) = Lib.decDigits n := by unfold Lib.itoa; rw [if_neg (by omega), Int.toNat_natCast]
  rw [this, List.append_nil]
  apply sbytes_inj
  rw [sbytes_bstr (fun x hx => by
    obtain ⟨b, _, rfl⟩ := List.mem_map.1 hx
    have := b.toNat_lt
    omega)]
  simp [sbytes]
end Go.Abs.Sh
