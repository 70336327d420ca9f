import Derived.Test.YtgonanjdmdlkjaaDoorStrM
namespace Go.Abs.Sh
set_option linter.unusedVariables false
set_option linter.unusedSimpArgs false
def idx2 : List Int → Option Nat
  | [] => none
  | x :: l => if x = 13 ∧ l.head? = some 10 then some 0 else (idx2 l).map (· + 1)
theorem idx2_some : ∀ {l : List Int} {e : Nat}, idx2 l = some e → e + 2 ≤ l.length ∧ l = l.take e ++ 13 :: 10 :: l.drop (e + 2)
  | [], e, h => by simp [idx2] at h
  | x :: l, e, h => by
    unfold idx2 at h
    split at h
    · rename_i hc
      cases h
      obtain ⟨rfl, h2⟩ := hc
      cases l with
      | nil => simp at h2
      | cons y l => simp at h2; subst h2; simp
    · cases hi : idx2 l with
      | none => simp [hi] at h
      | some k =>
        simp [hi] at h
        subst h
        obtain ⟨h1, h2⟩ := idx2_some hi
        refine ⟨by simp; omega, ?_⟩
        simp only [List.take_succ_cons, List.cons_append, List.drop_succ_cons, show k + 1 + 2 = (k + 2) + 1 by omega]
        rw [← h2]
theorem idx2_line : ∀ {line rest : List Int}, (∀ x ∈ line, x ≠ 13) → idx2 (line ++ 13 :: 10 :: rest) = some line.length
  | [], rest, _ => by simp [idx2]
  | x :: line, rest, h => by
    have hx := h x (by simp)
    have ih := idx2_line (line := line) (rest := rest) fun y hy => h y (by simp [hy])
    rw [List.cons_append]
    unfold idx2
    rw [if_neg (fun e => hx e.1), ih]
    simp
theorem u8_eq {x : Int} (h : 0 ≤ x ∧ x < 256) {n : Nat} (hn : n < 256) : (UInt8.ofNat x.toNat = UInt8.ofNat n) ↔ x = (n : Int) := by
  constructor
  · intro e
    have := congrArg UInt8.toNat e
    simp only [UInt8.toNat_ofNat'] at this
    omega
  · rintro rfl; simp
theorem index2 : ∀ {l : List Int}, byt l → Lib.index (Lib.bytesOf l) (Lib.bytesOf [13, 10]) = match idx2 l with | none => -1 | some e => (e : Int)
  | [], _ => by rfl
  | x :: l, h => by
    have hx := h x (by simp)
    have ih := index2 (l := l) fun y hy => h y (by simp [hy])
    have e1 : Lib.bytesOf (x :: l) = UInt8.ofNat x.toNat :: Lib.bytesOf l := rfl
    have e2 : Lib.bytesOf [13, 10] = [UInt8.ofNat 13, UInt8.ofNat 10] := rfl
    rw [e1]
    unfold Lib.index idx2
    have hp : (Lib.bytesOf [13, 10]).isPrefixOf (UInt8.ofNat x.toNat :: Lib.bytesOf l) = decide (x = 13 ∧ l.head? = some 10) := by
      rw [Bool.eq_iff_iff, decide_eq_true_eq, e2]
      cases l with
      | nil => simp [Lib.bytesOf, List.isPrefixOf]
      | cons y l =>
        have hy := h y (by simp)
        have ex := u8_eq hx (n := 13) (by omega)
        have ey := u8_eq hy (n := 10) (by omega)
        simp only [Lib.bytesOf, List.map_cons, List.isPrefixOf, Bool.and_eq_true, beq_iff_eq, Bool.true_and, Bool.and_true, and_true, List.head?_cons, Option.some.injEq]
        constructor
        · rintro ⟨h1, h2⟩; exact ⟨ex.1 h1.symm, ey.1 h2.symm⟩
        · rintro ⟨h1, h2⟩; exact ⟨(ex.2 h1).symm, (ey.2 h2).symm⟩
    rw [hp]
    by_cases hc : x = 13 ∧ l.head? = some 10
    · rw [if_pos (by simpa using hc), if_pos hc]
      rfl
    · rw [if_neg (by simpa using hc), if_neg hc, ih]
      cases idx2 l with
      | none => rfl
      | some k =>
        have : ((k : Int) == -1) = false := beq_eq_false_iff_ne.2 (by omega)
        simp only [this, Bool.false_eq_true, if_false, Option.map_some]
        rfl
theorem bytesIndex2 {l : List Int} (h : byt l) (hl : l.length < 4294967281) : bytes_Index l [13, 10] = some (match idx2 l with | none => -1 | some e => (e : Int)) := by
  unfold bytes_Index
  rw [if_pos ⟨hl, by simp, by simp, h, by decide⟩, index2 h]
end Go.Abs.Sh
