/-
  Operations on rows, on: copies, literals, pieces; structs put together and taken apart; texts and bytes; what is frozen.
-/
import Derived.Test.YtbioodcjmceefaaA9
import Derived.Lib.SlBytesConst
import Derived.Laws.BytesString
namespace Go.Abs

section
variable {P : Program} {ty : TypeId} {pos : String} {aft : Array Edge} {gd : Option (Nat × Bool)}

def notOwn : Md → Bool
  | .own _ => false
  | _ => true

/-- A row of literals. -/
theorem op_buildSlice (N : List Ent) (d : Nat) {T e : TypeId} {n : Nat} {parts : Array (Nat × Operand)} (z : Nat) (zv : Value) (cells : List Value) (vals : List (Nat × Value)) (hT : P.underlying T = some (.slice e)) (hz : (P.info? e).map (·.size) = some z)
    (hzv : (P.info? e).bind (·.zero) = some zv) (hv : ∀ (g : Gh) (V : Loc → Value) (w : World) (o : List Nat) (a : Act), (∀ t, V (.slot t) = a.tmps.getD t undef) → Es g V w N o → (parts.map fun (i, x) => (i, a.eval x)).toList = vals)
    (hf : Instr.fill (fun i => some (i * z, z)) ((Array.range (n * z)).map (zv.cells[· % zv.cells.size]!)) vals = some cells.toArray) (h1 : ∀ u ∈ cells, u.oneCell' = true) (hl : cells.length = n * z) (hn : 0 < n) (h0 : 0 < z) (hsm : n * z ≤ 16777216) :
    LOp P ⟨some d, .buildSlice T n parts, ty, pos, aft, gd⟩ N [] [(d, .fl (.own e) z cells)] [.slot d] := by
  refine LOp.fresh rfl rfl fun g V oN a w hp => ?_
  have hvals := hv g V w oN a hp.val hp.esN
  have hnz : ¬ n * z = 0 := by have := Nat.mul_pos hn h0; omega
  have hr : (execOp a.eval ⟨some d, .buildSlice T n parts, ty, pos, aft, gd⟩).run P w = .ok (.value (.slice (some ⟨w.heap.size, 0, none⟩) n n)) (w.alloc (.cells cells.toArray e)) := by
    have hbig : ¬ n * z > 2 ^ 24 := by omega
    simp only [execOp, Instr.buildSlice, Sem.run_bind, run_underlying hT, Result.andThen_ok, run_sizeOf' hz, hbig, if_false, hnz, run_zero hzv, hvals]
    simp [hf, newRow, newObj]
    rfl
  have hown := World.ownsRow_lit (base := 0) (e := e) (size := z) w cells.toArray n (Nat.zero_le _) (by simp only [maxLen]; have := Nat.le_mul_of_pos_right n h0; omega) (by simpa using hl)
  refine (Yl.val hr).mono ?_
  rintro v w2 ⟨rfl, rfl⟩
  refine ⟨Chg.alloc _ _ _, g, [w.heap.size], g.le_refl, fun b hb => .inl hb, own_fl (by simpa using hown) h1, by simp, ?_⟩
  intro b hb
  simp at hb; subst hb
  exact ⟨Nat.le_refl _, by simp, fun hi => Nat.lt_irrefl _ (hp.imm _ (.inl hi))⟩

/-- A piece of a slice that is not written. -/
theorem op_slice (N : List Ent) (d : Nat) {T e : TypeId} {x : Operand} {lo hi : Option Operand} {m : Md} {z : Nat} {xs : List Value} (l h : Nat) (ys : List Value) (hT : P.underlying T = some (.slice e)) (hz : (P.info? e).map (·.size) = some z) (h0 : 0 < z)
    (hx : rd N x = .fl m z xs) (hm : notOwn m = true)
    (hl : match lo with | some y => ∃ k, rd N y = .v (.int k (l : Int)) | none => l = 0) (hh : match hi with | some y => ∃ k, rd N y = .v (.int k (h : Int)) | none => h * z = xs.length) (h1 : l ≤ h) (h2 : h * z ≤ xs.length) (hys : (xs.drop (l * z)).take ((h - l) * z) = ys) :
    LOp P ⟨some d, .slice T x lo hi none, ty, pos, aft, gd⟩ N [] [(d, .fl m z ys)] [.slot d] := by
  refine LOp.value rfl rfl rfl fun g V oN a w hp => ?_
  obtain ⟨o', _, hr⟩ := rd_R hp.val hp.esN x
  rw [hx] at hr
  simp only [R] at hr
  obtain ⟨A, n, c, ⟨he, hnc⟩, hlen, hone, hrd, hmo⟩ := hr
  have hhn : h ≤ n := by rw [hlen] at h2; exact Nat.le_of_mul_le_mul_right h2 h0
  have hln : l ≤ n := by omega
  have hylen : ys.length = (h - l) * z := by
    rw [← hys]
    have : l * z + (h - l) * z ≤ xs.length := by rw [← Nat.add_mul]; rw [show l + (h - l) = h by omega]; exact h2
    simp; omega
  have hsub : ∀ (j : Nat) (u : Value), ys[j]? = some u → xs[l * z + j]? = some u := by
    intro j u hu
    rw [← hys] at hu
    simp only [List.getElem?_take, List.getElem?_drop] at hu
    split at hu
    · exact hu
    · cases hu
  have hone' : ∀ u ∈ ys, u.oneCell' = true := fun u hu => by
    rw [← hys] at hu
    exact hone u (List.mem_of_mem_drop (List.mem_of_mem_take hu))
  have hne : ys ≠ [] → xs ≠ [] := by
    rintro h3 rfl
    rw [← hys] at h3; simp at h3
  · have e2 : ∀ y, lo = some y → ∃ k, a.eval y = .int k (l : Int) := by
      intro y hy; subst hy; obtain ⟨k, hk⟩ := hl; exact ⟨k, rd_v hp.val hp.esN hk⟩
    have e3 : ∀ y, hi = some y → ∃ k, a.eval y = .int k (h : Int) := by
      intro y hy; subst hy; obtain ⟨k, hk⟩ := hh; exact ⟨k, rd_v hp.val hp.esN hk⟩
    have hhc : h ≤ c := by omega
    have hrun : (execOp a.eval ⟨some d, .slice T x lo hi none, ty, pos, aft, gd⟩).run P w = .ok (.value (.slice (if c = l then A else A.map (·.add (l * z))) (h - l) (c - l))) w := by
      cases lo with
      | none =>
        simp only at hl; subst hl
        cases hi with
        | none =>
          simp only at hh
          have : h = n := Nat.eq_of_mul_eq_mul_right h0 (by omega)
          subst this
          simp [execOp, Instr.sliceAt, Instr.slice, run_underlying hT, he, Instr.sliceBounds, run_sizeOf' hz]
        | some y =>
          obtain ⟨k, hk⟩ := e3 y rfl
          simp [execOp, Instr.sliceAt, Instr.slice, run_underlying hT, he, Instr.sliceBounds, Instr.sliceBound, asIntOf, hk, hhc, run_sizeOf' hz]
      | some y =>
        obtain ⟨k, hk⟩ := e2 y rfl
        cases hi with
        | none =>
          simp only at hh
          have : h = n := Nat.eq_of_mul_eq_mul_right h0 (by omega)
          subst this
          simp [execOp, Instr.sliceAt, Instr.slice, run_underlying hT, he, Instr.sliceBounds, Instr.sliceBound, asIntOf, hk, h1, run_sizeOf' hz]
        | some y' =>
          obtain ⟨k', hk'⟩ := e3 y' rfl
          simp [execOp, Instr.sliceAt, Instr.slice, run_underlying hT, he, Instr.sliceBounds, Instr.sliceBound, asIntOf, hk, hk', h1, hhc, run_sizeOf' hz]
    refine ⟨_, hrun, ?_⟩
    simp only [R]
    refine ⟨_, h - l, c - l, ⟨rfl, by omega⟩, hylen, hone', ?_, ?_⟩
    · intro h3
      obtain ⟨ad, rfl, hc⟩ := hrd (hne h3)
      have hcl : c ≠ l := by
        intro e
        have : h - l = 0 := by omega
        rw [this] at hylen
        simp at hylen; exact h3 hylen
      rw [if_neg hcl]
      refine ⟨ad.add (l * z), rfl, fun j u hu => ?_⟩
      rw [add_add]
      exact hc _ _ (hsub j u hu)
    · cases m with
      | own T => simp [notOwn] at hm
      | ro =>
        refine ⟨rfl, fun h3 => ?_⟩
        obtain ⟨ad, rfl, hi⟩ := hmo.2 (hne h3)
        split
        · exact ⟨ad, rfl, hi⟩
        · exact ⟨ad.add (l * z), rfl, by rw [add_block]; exact hi⟩
      | shr =>
        refine ⟨rfl, fun h3 => ?_⟩
        obtain ⟨ad, rfl, hi⟩ := hmo.2 (hne h3)
        split
        · exact ⟨ad, rfl, hi⟩
        · exact ⟨ad.add (l * z), rfl, by rw [add_block]; exact hi⟩
end
end Go.Abs
