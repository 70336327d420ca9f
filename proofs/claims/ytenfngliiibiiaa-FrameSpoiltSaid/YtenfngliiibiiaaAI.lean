/-
  Texts as bytes.
-/
import Derived.Test.YtenfngliiibiiaaAH
import Derived.Lib.ConvBytes
namespace Go.Abs

/-- A text's bytes. -/
def sbytes (s : ByteArray) : List Int := s.data.toList.map fun b => (b.toNat : Int)

section
variable {P : Program} {ty : TypeId} {pos : String} {aft : Array Edge} {gd : Option (Nat × Bool)}

theorem bytesWorld_chg (w : World) (e : TypeId) (s : ByteArray) : Chg [] w (Lib.bytesWorld w e s) := by
  refine ⟨?_, ?_, ?_, by rw [Lib.bytesWorld_size]; omega, fun k hk _ => Lib.bytesWorld_at_old w e s k hk⟩ <;>
    simp [Lib.bytesWorld, World.freeze, World.alloc, World.drew, -World.alloc_eq, -World.drew_eq]

theorem op_str_bytes (N : List Ent) (d : Nat) {s t e : TypeId} (x : Operand) (str : ByteArray) {u : TypeDesc} (hs : P.underlying s = some u) (ht : P.underlying t = some (.slice e)) (he : P.underlying e = some (.int .u8))
    (hx : rd N x = .v (.string str)) :
    LOp P ⟨some d, .convert s t x, ty, pos, aft, gd⟩ N [] [(d, .fl .ro 1 (List.map (Value.int .u8) (sbytes str)))] [.slot d] := by
  refine LOp.fresh rfl rfl fun g V oN a w hp => ?_
  have h := rd_v hp.val hp.esN hx
  have hrun : (execOp a.eval ⟨some d, .convert s t x, ty, pos, aft, gd⟩).run P w = .ok (.value (.slice (some ⟨w.heap.size, 0, none⟩) str.size (grownCap w str.size 0 e))) (Lib.bytesWorld w e str) := by
    simp [execOp, h, Lib.run_convert_string_bytes w s t e str hs ht he]
  refine (Yl.val hrun).mono ?_
  rintro y w' ⟨rfl, rfl⟩
  refine ⟨bytesWorld_chg w e str, { g with Imm := fun b => g.Imm b ∨ b = w.heap.size }, [], ⟨rfl, rfl, rfl, rfl, fun _ h => .inl h, fun b hb => ?_⟩, fun b hb => ?_, ?_, by simp, by simp⟩
  · rcases hb with hb | hb
    · exact .inl hb
    · subst hb; exact .inr hp.base
  · rcases hb with hb | hb
    · exact .inl hb
    · subst hb; exact .inr ⟨Nat.le_refl _, by rw [Lib.bytesWorld_size]; omega⟩
  · simp only [R]
    refine ⟨_, _, _, ⟨rfl, grownCap_ge w str.size 0 e⟩, by simp [sbytes], by intro v hv; obtain ⟨n, _, rfl⟩ := List.mem_map.1 hv; rfl, fun _ => ⟨_, rfl, fun j v hj => ?_⟩, ?_⟩
    · have hlt : j < str.size := by
        have := (List.getElem?_eq_some_iff.1 hj).1
        simpa [sbytes] using this
      rw [show (⟨w.heap.size, 0, none⟩ : Addr).add j = ⟨w.heap.size, j, none⟩ by rw [add_flat]; simp, Lib.bytesWorld_cell w e str j hlt, ← hj]
      simp [sbytes, List.getD_eq_getElem?_getD, hlt]
    · simp only [modeOk]
      exact ⟨trivial, fun _ => ⟨_, rfl, .inr rfl⟩⟩
end
end Go.Abs
