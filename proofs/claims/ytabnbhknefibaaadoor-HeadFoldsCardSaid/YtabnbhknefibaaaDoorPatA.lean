import Derived.Test.YtabnbhknefibaaaDoorStrM
import Derived.KernelRfl
namespace Go.Abs.Sh
set_option linter.unusedVariables false
set_option linter.unusedSimpArgs false
def idx1 (c : Int) : List Int → Option Nat
  | [] => none
  | x :: l => if x = c then some 0 else (idx1 c l).map (· + 1)
theorem idx1_some {c : Int} : ∀ {l : List Int} {e : Nat}, idx1 c l = some e → e + 1 ≤ l.length ∧ l = l.take e ++ c :: l.drop (e + 1) ∧ c ∉ l.take e
  | [], e, h => by simp [idx1] at h
  | x :: l, e, h => by
    unfold idx1 at h
    split at h
    · rename_i hx
      cases h; subst hx; simp
    · rename_i hx
      cases hi : idx1 c l with
      | none => simp [hi] at h
      | some k =>
        simp [hi] at h
        subst h
        obtain ⟨h1, h2, h3⟩ := idx1_some hi
        refine ⟨by simp; omega, ?_, ?_⟩
        · simp only [List.take_succ_cons, List.cons_append, List.drop_succ_cons]
          rw [← h2]
        · simp only [List.take_succ_cons, List.mem_cons, not_or]
          exact ⟨fun e => hx e.symm, h3⟩
theorem indexByte_eq {n : Nat} (hn : n < 256) : ∀ (l : List UInt8), Lib.indexByte l (UInt8.ofNat n) = match idx1 (n : Int) (l.map fun b => (b.toNat : Int)) with | none => -1 | some e => (e : Int)
  | [] => rfl
  | b :: l => by
    have ih := indexByte_eq hn l
    unfold Lib.indexByte
    rw [List.map_cons]
    unfold idx1
    have hb : (b == UInt8.ofNat n) = decide ((b.toNat : Int) = (n : Int)) := by
      rw [Bool.eq_iff_iff, decide_eq_true_eq, beq_iff_eq]
      constructor
      · rintro rfl; simp; omega
      · intro h
        apply UInt8.toNat_inj.1
        simp; omega
    rw [hb]
    by_cases h : (b.toNat : Int) = (n : Int)
    · rw [if_pos (decide_eq_true h), if_pos h]; rfl
    · rw [if_neg (by simpa using h), if_neg h, ih]
      cases idx1 (n : Int) (l.map fun b => (b.toNat : Int)) with
      | none => rfl
      | some k =>
        have : ((k : Int) == -1) = false := beq_eq_false_iff_ne.2 (by omega)
        simp only [this, Bool.false_eq_true, if_false, Option.map_some]
        rfl
theorem sIndex {n : Nat} (hn : n < 256) (s : ByteArray) : strings_Index s ⟨#[UInt8.ofNat n]⟩ = some (match idx1 (n : Int) (sbytes s) with | none => -1 | some e => (e : Int)) := by
  unfold strings_Index
  have := indexByte_eq hn s.data.toList
  simp only [this]
  rfl
theorem wrap_i {n : Int} (h0 : -9223372036854775808 ≤ n) (h1 : n < 9223372036854775808) : some (IntKind.i64.wrap n) = some n := by rw [wrap_i64 h0 h1]
end Go.Abs.Sh
