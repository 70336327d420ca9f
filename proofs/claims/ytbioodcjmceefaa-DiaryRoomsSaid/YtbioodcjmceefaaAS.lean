/-
  The library's functions, told in Lean; what their contracts come to.
-/
import Derived.Test.YtbioodcjmceefaaAR
import Derived.Lib.IndexLaws
import Derived.Lib.Bytes
import Derived.Deep.Draws
namespace Go.Abs

/-- Bytes. -/
def byt (l : List Int) : Prop := ∀ x ∈ l, 0 ≤ x ∧ x < 256
instance (l : List Int) : Decidable (byt l) := by unfold byt; infer_instance

/-- A call that leaves the world as it was. -/
theorem ans_same {Imm Im : Nat → Prop} {w w' : World} {res : AV} {e : Ending} {x : Value} (he : e = .returned x) (hw : w' = w ∨ ∃ q, w' = w.drewN q) (hR : R (gh0 w Imm Im) V0 w res x []) : Ans Imm Im w res e w' := by
  have hh : w'.heap = w.heap ∧ w'.os = w.os ∧ w'.tape = w.tape ∧ w'.output = w.output := by
    rcases hw with rfl | ⟨q, rfl⟩ <;> exact ⟨rfl, rfl, rfl, rfl⟩
  obtain ⟨h1, h2, h3, h4⟩ := hh
  refine ⟨x, he, ⟨h2, h3, h4, by rw [h1]; exact Nat.le_refl _, fun k _ _ => by rw [h1]⟩, Imm, [], fun _ h => h, fun _ h => .inl h, ?_, List.nodup_nil, by simp⟩
  exact R_stab (W := []) (fun _ h => h) (fun _ h => h) (fun _ _ => rfl) res x [] (clr_nil _) (fun b _ => by rw [h1]) hR

/-- A row of bytes that came in. -/
theorem row_in {g : Gh} {V : Loc → Value} {w : World} {l : List Int} {x : Value} {o : List Nat} (h : R g V w (.fl .shr 1 (List.map (Value.int .u8) l)) x o) :
    ∃ a n c, x = .slice a n c ∧ n ≤ c ∧ l.length = n ∧ (l ≠ [] → ∃ ad, a = some ad) ∧ (∀ ad, a = some ad → ∀ i, i < n → w.cell? (ad.add i) = some (.int .u8 (l.getD i 0))) := by
  simp only [R] at h
  obtain ⟨a, n, c, ⟨rfl, hnc⟩, hl, _, hr, _⟩ := h
  have hn : l.length = n := by simpa using hl
  refine ⟨a, n, c, rfl, hnc, hn, fun hne => ?_, fun ad ha i hi => ?_⟩
  · obtain ⟨ad, e, _⟩ := hr (by simpa using hne)
    exact ⟨ad, e⟩
  · have hne : List.map (Value.int .u8) l ≠ [] := by
      intro e; simp at e; subst e; simp at hn; omega
    obtain ⟨ad', e, hc⟩ := hr hne
    rw [ha] at e; cases e
    have hi' : i < l.length := by omega
    refine hc i _ ?_
    simp [hi']

theorem two_args {g : Gh} {V : Loc → Value} {w : World} {a b : AV} {xs : List Value} (h : Rs g V w [a, b] xs []) : ∃ x y, xs = [x, y] ∧ R g V w a x [] ∧ R g V w b y [] := by
  simp only [Rs] at h
  obtain ⟨x, ys, o1, o2, rfl, e, h1, y, zs, o3, o4, rfl, rfl, h2, rfl, rfl⟩ := h
  simp at e
  obtain ⟨rfl, rfl⟩ := e
  exact ⟨x, y, rfl, h1, h2⟩
theorem one_arg {g : Gh} {V : Loc → Value} {w : World} {a : AV} {xs : List Value} (h : Rs g V w [a] xs []) : ∃ x, xs = [x] ∧ R g V w a x [] := by
  simp only [Rs] at h
  obtain ⟨x, ys, o1, o2, rfl, e, h1, rfl, rfl⟩ := h
  simp at e
  subst e
  exact ⟨x, rfl, h1⟩

namespace Sh
/-- bytes.Index, with a separator of two bytes or more. -/
def bytes_Index (s sep : List Int) : Option Int := if s.length < 4294967281 ∧ 2 ≤ sep.length ∧ sep.length < 4294967281 ∧ byt s ∧ byt sep then some (Lib.index (Lib.bytesOf s) (Lib.bytesOf sep)) else none
end Sh

theorem index_short {s sub : List UInt8} (h : s.length < sub.length) : Lib.index s sub = -1 := by
  induction s with
  | nil =>
    unfold Lib.index
    cases sub with
    | nil => simp at h
    | cons a t => rfl
  | cons b l ih =>
    unfold Lib.index
    have : sub.isPrefixOf (b :: l) = false := by
      cases hp : sub.isPrefixOf (b :: l) with
      | false => rfl
      | true =>
        have := (List.isPrefixOf_iff_prefix.1 hp).length_le
        omega
    rw [this]
    simp only [Bool.false_eq_true, if_false]
    rw [ih (by simp at h; omega)]
    rfl

theorem lib_bytes_Index {P : Program} {gl : List (Nat × List Value)} {f gb : Nat} {mx : Int} (hm : (gb, [.int .i64 mx]) ∈ gl)
    (c1 : ∀ (a1 a2 : Addr) (n c1 k c2 : Nat) (xs ys : List Int) (m : Int) (w : World), xs.length = n → ys.length = k → (∀ x ∈ xs, 0 ≤ x ∧ x < 256) → (∀ y ∈ ys, 0 ≤ y ∧ y < 256) → (∀ i, i < n → w.cell? (a1.add i) = some (.int .u8 (xs.getD i 0))) → (∀ i, i < k → w.cell? (a2.add i) = some (.int .u8 (ys.getD i 0))) →
      n ≤ c1 → n < 4294967281 → k ≤ 9223372036854775807 → w.cell? ⟨gb, 0, none⟩ = some (.int .i64 m) → Calls P f #[.slice (some a1) n c1, .slice (some a2) k c2] w fun e w' => e = .returned (.int .i64 (Lib.index (Lib.bytesOf xs) (Lib.bytesOf ys))) ∧ ∃ q, w' = w.drewN q)
    (c2 : ∀ (p q : Option Addr) (n c m d : Nat) (w : World), 2 ≤ m → n < m → m ≤ 9223372036854775807 → Calls P f #[.slice p n c, .slice q m d] w fun e w' => e = .returned (.int .i64 (-1)) ∧ w' = w)
    (s sep : List Int) (r : Int) (h : Sh.bytes_Index s sep = some r) : FnG P gl f [.fl .shr 1 (List.map (Value.int .u8) s), .fl .shr 1 (List.map (Value.int .u8) sep)] (.v (.int .i64 r)) := by
  unfold Sh.bytes_Index at h
  split at h
  · rename_i hc
    cases h
    obtain ⟨h1, h2, h3, h4, h5⟩ := hc
    intro Imm Im w xs himm hgl hR
    obtain ⟨x, y, rfl, hx, hy⟩ := two_args hR
    obtain ⟨a, n, c, rfl, hnc, hn, hsa, hca⟩ := row_in hx
    obtain ⟨b, k, d, rfl, hkd, hk, hsb, hcb⟩ := row_in hy
    obtain ⟨bd, rfl⟩ := hsb (by intro e; subst e; simp at h2)
    by_cases hshort : n < k
    · have e : Lib.index (Lib.bytesOf s) (Lib.bytesOf sep) = -1 := index_short (by simp only [Lib.bytesOf_length]; omega)
      rw [e]
      refine (c2 a (some bd) n c k d w (by omega) hshort (by omega)).mono ?_
      rintro e w' ⟨rfl, rfl⟩
      exact ans_same rfl (.inl rfl) (by simp [R])
    · obtain ⟨ad, rfl⟩ := hsa (by intro e; subst e; simp at hn; omega)
      refine (c1 ad bd n c k d s sep mx w hn hk h4 h5 (hca ad rfl) (hcb bd rfl) hnc (by omega) (by omega) ((hgl _ hm).2 0 _ rfl)).mono ?_
      rintro e w' ⟨rfl, q, rfl⟩
      exact ans_same rfl (.inr ⟨q, rfl⟩) (by simp [R])
  · cases h
end Go.Abs
