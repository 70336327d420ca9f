/-
  What the frames of this seat's statements share: the program's two closed facts; a slice of bytes or of ints that came in, as a list.
-/
import Derived.Test.YtgonanjdmdlkjaaDoorMem
import Derived.ProofKit
import Derived.OpenShut
import Derived.ShutString
import Derived.ChangeOld
namespace Go.Proofs.YtgonanjdmdlkjaaDoor
open Go.ChangeShapes Go.WideShapes Go.ChangeAt Go.RowKit
open Go.ChangeMaps (open_string shut_string)

theorem own : ownKnob Tryd.prog.godebug = none := by kernel_rfl
theorem laidOut : laidOutB Tryd.prog = true := by kernel_rfl

theorem u8_of_wf {z : Int} (h : (Lit.int .u8 z).wf = true) : 0 ≤ z ∧ z < 256 := by
  have := bounds_u8 h; omega

theorem reads_of_cells {w : World} {x : Addr} {len : Nat} {k : IntKind} {zs : List Int} (hz : len ≤ zs.length)
    (hcell : ∀ i, i < zs.length → w.cell? (x.add i) = some (.int k (zs.getD i 0))) : Reads w w.heap.size 1 (some x) len ((zs.take len).map (.int k)) := by
  refine ⟨by rw [List.length_map, List.length_take]; omega, fun hn => ⟨x, rfl, ?_, fun j u hu => ?_⟩⟩
  · have h := World.block_lt_of_cell? w _ (hcell 0 (by omega))
    rwa [block_of_add] at h
  · rw [List.getElem?_map, List.getElem?_take] at hu
    split at hu
    · have hj : j < zs.length := by omega
      rw [hcell j hj, ← hu, List.getElem?_eq_getElem hj]; simp [List.getD, hj]
    · simp at hu

theorem byteS_of_row {H : Type} {enc : TypeId × Value → H} {W : World} {t e : TypeId} {A : Option Addr} {len cap : Nat} {sp : Nat → Bool} {hd : Bool} {d : DataW H} {p : List MemPlace}
    (ht : Tryd.prog.underlying t = some (.slice e)) (he : Tryd.prog.underlying e = some (.int .u8)) (hce : Tryd.prog.cellsOf e = 1) (h : DataW.Trod enc Tryd.prog W 0 sp hd t (Value.slice A len cap) d p) :
    ∃ l : List UInt8, ByteS W W.heap.size A len l ∧ len ≤ maxLen := by
  obtain ⟨fuel, hf⟩ := h
  rcases open_ints ht he hce hf with ⟨hcs, _⟩ | ⟨x, l, c, zs, hcs, _, hl, hm, hz, _, hcell, hwz⟩
  · simp [Value.cells] at hcs
    obtain ⟨rfl, rfl, rfl⟩ := hcs
    exact ⟨[], Reads.none_, by simp⟩
  · simp [Value.cells] at hcs
    obtain ⟨rfl, rfl, rfl⟩ := hcs
    have hzl : len ≤ zs.length := by split at hz <;> omega
    have hr := reads_of_cells hzl hcell
    refine ⟨(zs.take len).map (fun z => UInt8.ofNat z.toNat), ?_, by omega⟩
    have e1 : bv ((zs.take len).map (fun z => UInt8.ofNat z.toNat)) = (zs.take len).map (.int .u8) := by
      rw [bv, List.map_map]
      refine List.map_congr_left fun z hzm => ?_
      have hb := u8_of_wf (hwz z (List.mem_of_mem_take hzm))
      have : (UInt8.ofNat z.toNat).toNat = z.toNat := by simp; omega
      show Value.int .u8 ((UInt8.ofNat z.toNat).toNat : Int) = _
      rw [this, Int.toNat_of_nonneg hb.1]
    show Reads _ _ _ _ _ _
    rw [e1]; exact hr

theorem intS_of_row {H : Type} {enc : TypeId × Value → H} {W : World} {t e : TypeId} {A : Option Addr} {len cap : Nat} {sp : Nat → Bool} {hd : Bool} {d : DataW H} {p : List MemPlace}
    (ht : Tryd.prog.underlying t = some (.slice e)) (he : Tryd.prog.underlying e = some (.int .i64)) (hce : Tryd.prog.cellsOf e = 1) (h : DataW.Trod enc Tryd.prog W 0 sp hd t (Value.slice A len cap) d p) :
    ∃ l : List Int, IntS W W.heap.size A len l ∧ len ≤ maxLen ∧ ∀ n ∈ l, (Lit.int .i64 n).wf = true := by
  obtain ⟨fuel, hf⟩ := h
  rcases open_ints ht he hce hf with ⟨hcs, _⟩ | ⟨x, l, c, zs, hcs, _, hl, hm, hz, _, hcell, hwz⟩
  · simp [Value.cells] at hcs
    obtain ⟨rfl, rfl, rfl⟩ := hcs
    exact ⟨[], Reads.none_, by simp, by simp⟩
  · simp [Value.cells] at hcs
    obtain ⟨rfl, rfl, rfl⟩ := hcs
    have hzl : len ≤ zs.length := by split at hz <;> omega
    exact ⟨zs.take len, reads_of_cells hzl hcell, by omega, fun n hn => hwz n (List.mem_of_mem_take hn)⟩
end Go.Proofs.YtgonanjdmdlkjaaDoor
