/-
  Texts as bytes.
-/
import Derived.Test.YtbioodcjmceefaaAH
import Derived.Lib.ConvBytes
namespace Go.Abs

/-- A text's bytes. -/
def sbytes (s : ByteArray) : List Int := s.data.toList.map fun b => (b.toNat : Int)

section
variable {P : Program} {ty : TypeId} {pos : String} {aft : Array Edge} {gd : Option (Nat × Bool)}

theorem bytesWorld_chg (w : World) (e : TypeId) (s : ByteArray) : Chg [] w (Lib.bytesWorld w e s) := by
  refine ⟨?_, ?_, ?_, by rw [Lib.bytesWorld_size]; omega, fun k hk _ => Lib.bytesWorld_at_old w e s k hk⟩ <;>
    simp [Lib.bytesWorld, World.freeze, World.alloc, World.drew, -World.alloc_eq, -World.drew_eq]

theorem op_str_bytes (N : List Ent) (d : Nat) {s t e : TypeId} (x : Operand) (str : ByteArray) {u : TypeDesc} (hs : P.underlying s = some u) (ht : P.underlying t = some (.slice e)) (he : P.underlying e = some (.int .u8))
    (hx : rd N x = .v (.string str)) :
    LOp P ⟨some d, .convert s t x, ty, pos, aft, gd⟩ N [] [(d, .fl .ro 1 (List.map (Value.int .u8) (sbytes str)))] [.slot d] := by
  refine LOp.fresh rfl rfl fun g V oN a w hp => ?_
  have h := rd_v hp.val hp.esN hx
  have hrun : (execOp a.eval ⟨some d, .convert s t x, ty, pos, aft, gd⟩).run P w = .ok (.value (.slice (some ⟨w.heap.size, 0, none⟩) str.size (grownCap w str.size 0 e))) (Lib.bytesWorld w e str) := by
    simp [execOp, h, Lib.run_convert_string_bytes w s t e str hs ht he]
  refine (Yl.val hrun).mono ?_
  rintro y w' ⟨rfl, rfl⟩
  refine ⟨bytesWorld_chg w e str, { g with Imm := fun b => g.Imm b ∨ b = w.heap.size }, [], ⟨rfl, rfl, rfl, rfl, fun _ h => .inl h, fun b hb => ?_⟩, fun b hb => ?_, ?_, by simp, by simp⟩
  · rcases hb with hb | hb
    · exact .inl hb
    · subst hb; exact .inr (.inl hp.base)
  · rcases hb with hb | hb
    · exact .inl hb
    · subst hb; exact .inr ⟨Nat.le_refl _, by rw [Lib.bytesWorld_size]; omega⟩
  · simp only [R]
    refine ⟨_, _, _, ⟨rfl, grownCap_ge w str.size 0 e⟩, by simp [sbytes], by intro v hv; obtain ⟨n, _, rfl⟩ := List.mem_map.1 hv; rfl, fun _ => ⟨_, rfl, fun j v hj => ?_⟩, ?_⟩
    · have hlt : j < str.size := by
        have := (List.getElem?_eq_some_iff.1 hj).1
        simpa [sbytes] using this
      rw [show (⟨w.heap.size, 0, none⟩ : Addr).add j = ⟨w.heap.size, j, none⟩ by rw [add_flat]; simp, Lib.bytesWorld_cell w e str j hlt, ← hj]
      simp [sbytes, List.getD_eq_getElem?_getD, hlt]
    · simp only [modeOk]
      exact ⟨trivial, fun _ => ⟨_, rfl, .inr rfl⟩⟩
/-- A constant text's bytes: the row gets a mark behind its last cell. -/
theorem op_conv_mark (N : List Ent) (x d : Nat) {T e E : TypeId} {vs : List Value} (ht : P.underlying T = some (.slice e)) (he : P.underlying e = some (.int .u8)) (hne : vs ≠ []) :
    LOp P ⟨some d, .convert T T (.tmp x), ty, pos, aft, gd⟩ N [(x, .fl (.own E) 1 vs)] [(d, .fl .ro 1 vs)] [.slot d] := by
  refine LOp.core fun g V oN oT a w hd hp => ?_
  have hT := hp.esT
  simp only [Es] at hT
  obtain ⟨ob, o2, rfl, ⟨hR, _⟩, rfl⟩ := hT
  simp only [R, modeOk] at hR
  obtain ⟨A, n, c, ⟨hx, hnc⟩, hlen, hone, hrd, how, ho⟩ := hR
  obtain ⟨_, how⟩ := how
  rcases how with ⟨h1, h2⟩ | ⟨b, cap, cur, h1, _, hh, _, _, _, _⟩
  · exfalso; rw [h2] at hlen; exact hne (List.eq_nil_of_length_eq_zero (by omega))
  have hxe : V (.slot x) = .slice (some ⟨b, 0, none⟩) n cap := h1
  have hev : a.eval (.tmp x) = .slice (some ⟨b, 0, none⟩) n cap := by simp only [Act.eval, ← hp.val]; exact hxe
  have hob : ob = [b] := by rw [ho, hxe]; rfl
  subst hob
  have hw : w.freeze ⟨b, cur.size, none⟩ 1 = { w with heap := w.heap.modify b fun | .cells c elem (lo, hi) => .cells c elem (if lo == hi then (cur.size, cur.size + 1) else (min lo cur.size, max hi (cur.size + 1))) | o => o } := by
    simp [World.freeze]
    rfl
  have hnew : (w.freeze ⟨b, cur.size, none⟩ 1).heap[b]? = some (.cells cur E (cur.size, cur.size + 1)) := by
    rw [hw]; simp only [Array.getElem?_modify, hh]; simp
  have hold : ∀ k, k ≠ b → (w.freeze ⟨b, cur.size, none⟩ 1).heap[k]? = w.heap[k]? := by
    intro k hk
    rw [hw]; simp only [Array.getElem?_modify]; rw [if_neg (fun e => hk e.symm)]
  have hsz : (w.freeze ⟨b, cur.size, none⟩ 1).heap.size = w.heap.size := by rw [hw]; simp
  have hshape : w.shape? b = some (E, cur.size) := by simp [World.shape?, hh]
  have hrun : (execOp a.eval ⟨some d, .convert T T (.tmp x), ty, pos, aft, gd⟩).run P w = .ok (.value (.slice (some ⟨b, 0, none⟩) n cap)) (w.freeze ⟨b, cur.size, none⟩ 1) := by
    simp [execOp, hev, convert, run_underlying ht, run_underlying he, markStringish, hshape]
  refine (Yl.val hrun).mono ?_
  rintro y w' ⟨rfl, rfl⟩
  have hlt : d < g.n := hd d rfl
  have hbi := hp.own b (by simp)
  refine ⟨{ g with Imm := fun k => g.Imm k ∨ k = b }, setV V d _, [], ⟨rfl, rfl, rfl, rfl, fun _ h => .inl h, fun k hk => ?_⟩, fun k hk => ?_, fun k hk => ?_, ⟨rfl, rfl, rfl, by rw [hsz]; exact Nat.le_refl _, fun k hk hkb => hold k (by simpa using hkb)⟩, fun l hl => setV_hit hl, fun u => setV_val hp.val hp.size hlt u, ?_, by simp, by simp⟩
  · rcases hk with hk | hk
    · exact .inl hk
    · subst hk; exact .inr (hp.own2 _ (by simp))
  · rcases hk with hk | hk
    · exact .inl hk
    · exact .inr (.inl (by simp [hk]))
  · rw [hsz]
    rcases hk with hk | hk
    · exact hp.imm k (.inl hk)
    · subst hk; exact hbi.1
  · refine ⟨[], [], rfl, ⟨?_, trivial⟩, rfl⟩
    show R _ _ _ (.fl .ro 1 vs) (setV V d _ (.slot d)) []
    rw [setV_slot]
    simp only [R, modeOk]
    refine ⟨some ⟨b, 0, none⟩, n, cap, ⟨rfl, ?_⟩, hlen, hone, fun hv => ?_, trivial, fun _ => ⟨_, rfl, .inr rfl⟩⟩
    · rw [hxe] at hx; cases hx; exact hnc
    · obtain ⟨ad, e1, hr⟩ := hrd hv
      rw [hxe] at hx; cases hx
      cases e1
      refine ⟨_, rfl, fun j u hj => ?_⟩
      have h3 := hr j u hj
      rw [← h3]
      simp only [World.cell?]
      have e3 : ((⟨b, 0, none⟩ : Addr).add j).block = b := by rw [add_flat]
      rw [e3, hnew, hh]
end
end Go.Abs
