/-
  A store into a byte of a slice of the call's own.
-/
import Derived.Test.YtiopoaenpajlmaaApp
namespace Go.Proofs.Ytiopoaenpajlmaa
open Go.RowKit

theorem own_store {w : World} {base : Nat} {e : TypeId} {A : Option Addr} {n c : Nat} {l : List UInt8} (h : w.ownsRow base e 1 (.slice A n c) n (bv l)) (i : Nat) (hi : i < l.length) :
    ∃ g, A = some ⟨g, 0, none⟩ ∧ g < w.heap.size ∧ base ≤ g ∧ w.cell? ⟨g, i, none⟩ = some (.int .u8 (l[i].toNat : Int)) ∧ w.frozen? ⟨g, i, none⟩ = false ∧
      ∀ y : UInt8, (w.setCell ⟨g, i, none⟩ (.int .u8 (y.toNat : Int))).ownsRow base e 1 (.slice A n c) n (bv (l.set i y)) := by
  have hl := h.1
  rw [bv_length, Nat.mul_one] at hl
  rcases h.2 with ⟨_, h0⟩ | ⟨g, cap, cur, he, hb, hh, h1, h2, h3, h4⟩
  · omega
  · injection he with e1 e2 e3
    subst e1; subst e3
    have hblk : Blk w g e cur := hh
    rw [Nat.mul_one] at h4
    have hcur : cur[i]? = some (.int .u8 (l[i].toNat : Int)) := by
      have h5 : (cur.toList.take n)[i]? = (bv l)[i]? := by rw [h4]
      rw [List.getElem?_take_of_lt (by omega)] at h5
      simpa [bv, hi] using h5
    refine ⟨g, rfl, Blk.lt hblk, hb, by rw [hblk.cell]; exact hcur, hblk.frozen _, fun y => ⟨by rw [bv_length, List.length_set]; omega, .inr ⟨g, c, _, rfl, hb, (hblk.set_ i (.int .u8 (y.toNat : Int))), h1, h2, by simpa using h3, ?_⟩⟩⟩
    rw [Nat.mul_one, Array.toList_setIfInBounds, List.take_set, h4]
    simp [bv, List.map_set]
end Go.Proofs.Ytiopoaenpajlmaa
