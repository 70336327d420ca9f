/-
  Array variables.
-/
import Derived.Test.YtbioodcjmceefaaAG
namespace Go.Abs

section
variable {g : Gh} {V : Loc → Value} {w : World}
theorem arr_look {N : List Ent} {oN : List Nat} (h : Es g V w N oN) {t : Nat} {T : TypeId} {vs : List Value} (hl : look N t = .arr T vs) :
    ∃ b : Nat, V (.slot t) = .pointer (some ⟨b, 0, none⟩) ∧ w.heap[b]? = some (.cells vs.toArray T (0, 0)) ∧ b ∈ oN := by
  obtain ⟨o', hs, hr, _⟩ := look_ER h t
  dsimp only at hr
  rw [hl] at hr
  simp only [R] at hr
  obtain ⟨b, hx, rfl, hh⟩ := hr
  exact ⟨b, hx, hh, hs _ (by simp)⟩
end

section
variable {P : Program} {ty : TypeId} {pos : String} {aft : Array Edge} {gd : Option (Nat × Bool)}

theorem op_alloc_arr (d : Nat) {T : TypeId} {vs : List Value} (hz : ((P.info? T).bind (·.zero)).map (·.cells.toList) = some vs) :
    LOp P ⟨some d, .alloc T, ty, pos, aft, gd⟩ [] [] [(d, .arr T vs)] [.slot d] := by
  cases hz' : (P.info? T).bind (·.zero) with
  | none => simp [hz'] at hz
  | some z =>
    simp [hz'] at hz
    subst hz
    refine LOp.fresh rfl rfl fun g V oN a w hp => ?_
    have hr : (execOp a.eval ⟨some d, .alloc T, ty, pos, aft, gd⟩).run P w = .ok (.value (.pointer (some ⟨w.heap.size, 0, none⟩))) (w.alloc (.cells z.cells T)) := by
      simp [execOp, Instr.alloc, Sem.run_bind, run_zero hz', newVar, newRow, newObj]
      rfl
    refine (Yl.val hr).mono ?_
    rintro x w' ⟨rfl, rfl⟩
    refine ⟨Chg.alloc _ _ _, g, [w.heap.size], g.le_refl, fun b hb => .inl hb, ?_, by simp, ?_⟩
    · simp only [R]
      exact ⟨w.heap.size, rfl, rfl, by simpa using heap_alloc_new w (.cells z.cells T)⟩
    · intro b hb
      simp at hb; subst hb
      exact ⟨Nat.le_refl _, by simp, fun hi => Nat.lt_irrefl _ (hp.imm _ (.inl hi))⟩

theorem op_box_arr (N : List Ent) (d : Nat) {T : TypeId} (x : Operand) {vs : List Value} (h : rd N x = .v (.agg vs.toArray)) :
    LOp P ⟨some d, .box T x, ty, pos, aft, gd⟩ N [] [(d, .arr T vs)] [.slot d] := by
  refine LOp.fresh rfl rfl fun g V oN a w hp => ?_
  have hx := rd_v hp.val hp.esN h
  have hr : (execOp a.eval ⟨some d, .box T x, ty, pos, aft, gd⟩).run P w = .ok (.value (.pointer (some ⟨w.heap.size, 0, none⟩))) (w.alloc (.cells vs.toArray T)) := by
    simp [execOp, Instr.box, newVar, newRow, newObj, hx, Value.cells]
    rfl
  refine (Yl.val hr).mono ?_
  rintro y w' ⟨rfl, rfl⟩
  refine ⟨Chg.alloc _ _ _, g, [w.heap.size], g.le_refl, fun b hb => .inl hb, ?_, by simp, ?_⟩
  · simp only [R]
    exact ⟨w.heap.size, rfl, rfl, by simpa using heap_alloc_new w (.cells vs.toArray T)⟩
  · intro b hb
    simp at hb; subst hb
    exact ⟨Nat.le_refl _, by simp, fun hi => Nat.lt_irrefl _ (hp.imm _ (.inl hi))⟩

/-- An element of an array variable. -/
theorem op_load_arr (N : List Ent) (d : Nat) {T : TypeId} {td : TypeDesc} (x : Operand) {T' : TypeId} {vs : List Value} (t off : Nat) (v : Value) (hT : P.underlying T = some td) (ha : isAggD td = false)
    (hx : dupOp N x = .ptr t off) (hl : look N t = .arr T' vs) (hv : vs[off]? = some v) :
    LOp P ⟨some d, .load T x, ty, pos, aft, gd⟩ N [] [(d, .v v)] [.slot d] := by
  refine LOp.value rfl rfl rfl fun g V oN a w hp => ?_
  have hR := dupOp_R hp.val hp.esN x
  rw [hx] at hR
  simp only [R] at hR
  obtain ⟨b, h1, h2, _⟩ := hR
  obtain ⟨b', h3, hh, _⟩ := arr_look hp.esN hl
  rw [h1] at h3; cases h3
  refine ⟨v, ?_, by simp [R]⟩
  have hc : w.cell? ⟨b, off, none⟩ = some v := by rw [cell_of_row w b off _ T' (0, 0) hh]; simpa using hv
  simp [execOp, Instr.loadAt, h2, Instr.sureAddr, run_load1 hT ha hc]

/-- A whole array variable. -/
theorem op_loadA_arr (N : List Ent) (d : Nat) {T : TypeId} {td : TypeDesc} (x : Operand) {T' : TypeId} {vs : List Value} (t : Nat) (hT : P.underlying T = some td) (ha : isAggD td = true) (hs : (P.info? T).map (·.size) = some vs.length)
    (hx : dupOp N x = .ptr t 0) (hl : look N t = .arr T' vs) :
    LOp P ⟨some d, .load T x, ty, pos, aft, gd⟩ N [] [(d, .v (.agg vs.toArray))] [.slot d] := by
  refine LOp.value rfl rfl rfl fun g V oN a w hp => ?_
  have hR := dupOp_R hp.val hp.esN x
  rw [hx] at hR
  simp only [R] at hR
  obtain ⟨b, h1, h2, _⟩ := hR
  obtain ⟨b', h3, hh, _⟩ := arr_look hp.esN hl
  rw [h1] at h3; cases h3
  refine ⟨.agg vs.toArray, ?_, by simp [R]⟩
  have hload := run_loadA (P := P) (w := w) (a := ⟨b, 0, none⟩) (xs := vs) hT ha hs rfl (fun j v hj => by
    rw [add_flat, cell_of_row w b _ _ T' (0, 0) hh]; simpa using hj)
  simp [execOp, Instr.loadAt, h2, Instr.sureAddr, hload]

theorem store_arr_core (N : List Ent) {T : TypeId} (ax vx : Operand) {T' : TypeId} {vs us : List Value} (t off s : Nat) (y : Value) (hs : (P.info? T).map (·.size) = some s)
    (hx : dupOp (N ++ [(t, .arr T' vs)]) ax = .ptr t off) (hv : rd N vx = .v y) (hsz : y.cells.size = s) (h1 : ∀ u ∈ y.cells.toList, u.oneCell' = true) (hfit : off + s ≤ vs.length)
    (hus : vs.take off ++ (y.cells.toList ++ vs.drop (off + s)) = us) :
    LOp P ⟨none, .store T ax vx, ty, pos, aft, gd⟩ N [(t, .arr T' vs)] [(t, .arr T' us)] [] := by
  subst hus
  refine LOp.core fun g V oN oT a w hd hp => ?_
  have hB := hp.esT
  have hax := dupOp_R hp.val (Es_append.2 ⟨oN, _, rfl, hp.esN, hB⟩) ax
  simp only [Es] at hB
  obtain ⟨ob, o2, rfl, ⟨hR1, _⟩, rfl⟩ := hB
  simp only [R] at hR1
  obtain ⟨b, h3, rfl, hh⟩ := hR1
  rw [hx] at hax
  simp only [R] at hax
  obtain ⟨b2, h4, h5, _⟩ := hax
  have h3' : V (.slot t) = .pointer (some ⟨b, 0, none⟩) := h3
  rw [h3'] at h4; cases h4
  have hval := rd_v hp.val hp.esN hv
  have hrun : (execOp a.eval ⟨none, .store T ax vx, ty, pos, aft, gd⟩).run P w = .ok .skip (w.setRow b (vs.take off ++ y.cells.toList ++ vs.drop (off + s)).toArray) := by
    have := run_storeRow (P := P) (w := w) (T := T) (off := off) hs hh (v := y) hsz h1 hfit
    simp [execOp, Instr.storeAt, h5, Instr.sureAddr, hval, this]
  refine (Yl.skip hrun).mono ?_
  rintro z w' ⟨rfl, rfl⟩
  have hchg : Chg [b] w (w.setRow b (vs.take off ++ y.cells.toList ++ vs.drop (off + s)).toArray) := setRow_chg _ _ _
  refine ⟨g, V, [b], g.le_refl, fun c hc => .inl hc, fun c hc => ?_, hchg.mono (by simp), fun _ _ => rfl, ?_, ?_, by simp, ?_⟩
  · exact Nat.lt_of_lt_of_le (hp.imm c (.inl hc)) hchg.size
  · intro u; simp only [Act.put]; exact hp.val u
  · refine ⟨[b], [], by simp, ⟨?_, trivial⟩, rfl⟩
    show R _ _ _ (.arr T' _) (V (.slot t)) _
    simp only [R]
    refine ⟨b, h3', rfl, ?_⟩
    rw [List.append_assoc]
    exact setRow_heap w b _ _ T' _ hh
  · intro c hc
    simp at hc; subst hc
    have h6 := hp.own c (by simp)
    exact ⟨.inl (by simp), Nat.lt_of_lt_of_le h6.1 hchg.size, h6.2⟩

theorem op_store_arr (N : List Ent) {T : TypeId} (ax vx : Operand) {T' : TypeId} {vs us : List Value} (t off : Nat) (y : Value) (hs : (P.info? T).map (·.size) = some 1)
    (hx : dupOp (N ++ [(t, .arr T' vs)]) ax = .ptr t off) (hv : rd N vx = .v y) (hy : y.cells = #[y]) (h1 : y.oneCell' = true) (hlt : off < vs.length) (hus : vs.set off y = us) :
    LOp P ⟨none, .store T ax vx, ty, pos, aft, gd⟩ N [(t, .arr T' vs)] [(t, .arr T' us)] [] :=
  store_arr_core N ax vx t off 1 y hs hx hv (by simp [hy]) (by simp [hy, h1]) (by omega) (by
    subst hus
    rw [hy]
    rw [List.set_eq_take_append_cons_drop, if_pos hlt]
    simp)

theorem op_storeA_arr (N : List Ent) {T : TypeId} (ax vx : Operand) {T' : TypeId} {vs us : List Value} (t : Nat) (hs : (P.info? T).map (·.size) = some us.length)
    (hx : dupOp (N ++ [(t, .arr T' vs)]) ax = .ptr t 0) (hv : rd N vx = .v (.agg us.toArray)) (h1 : ∀ u ∈ us, u.oneCell' = true) (hl : vs.length = us.length) :
    LOp P ⟨none, .store T ax vx, ty, pos, aft, gd⟩ N [(t, .arr T' vs)] [(t, .arr T' us)] [] :=
  store_arr_core N ax vx t 0 us.length _ hs hx hv (by simp [Value.cells]) (by simpa [Value.cells] using h1) (by omega) (by
    simp [Value.cells, hl.symm])

/-- An element of an array value. -/
theorem op_index_arr (N : List Ent) (d : Nat) {T e : TypeId} (x y : Operand) {kd : IntKind} (n i : Nat) {vs : List Value} {v : Value} (hT : P.underlying T = some (.array n e)) (hz : (P.info? e).map (·.size) = some 1)
    (hx : rd N x = .v (.agg vs.toArray)) (hy : rd N y = .v (.int kd (i : Int))) (hi : i < n) (hv : vs[i]? = some v) (hu : (∃ td, P.underlying e = some td ∧ isAggD td = false)) :
    LOp P ⟨some d, .index T x y, ty, pos, aft, gd⟩ N [] [(d, .v v)] [.slot d] := by
  refine LOp.value rfl rfl rfl fun g V oN a w hp => ?_
  have h2 := rd_v hp.val hp.esN hx
  have h3 := rd_v hp.val hp.esN hy
  obtain ⟨td, hu, hag⟩ := hu
  refine ⟨v, ?_, by simp [R]⟩
  have hlt := (List.getElem?_eq_some_iff.1 hv).1
  obtain ⟨_, rfl⟩ := List.getElem?_eq_some_iff.1 hv
  simp [execOp, Instr.index, Sem.run_bind, run_underlying hT, h2, h3, asIntOf, run_sizeOf' hz, hi, part, run_isAgg hu, hag, hlt]

theorem op_ix_arr (N : List Ent) (d : Nat) {T e : TypeId} (x y : Operand) {kd : IntKind} {j : Int} (n t i : Nat) (hT : P.underlying T = some (.array n e)) (hz : (P.info? e).map (·.size) = some 1)
    (hx : dupOp N x = .ptr t 0) (hy : rd N y = .v (.int kd j)) (hj : j = (i : Int)) (hi : i < n) (ht : t ≠ d) : LOp P ⟨some d, .indexAddr T x y, ty, pos, aft, gd⟩ N [] [(d, .ptr t i)] [.slot d] := by
  subst hj
  have := op_indexAddr_a (ty := ty) (pos := pos) (aft := aft) (gd := gd) N d x y n t 0 i 1 hT hz hx hy hi ht
  simpa using this
/-- An array's literal. -/
theorem op_build_arr (N : List Ent) (d : Nat) {T e : TypeId} {n : Nat} {parts : Array (Nat × Operand)} (z : Value) (us : List Value) (vals : List (Nat × Value)) (hT : P.underlying T = some (.array n e)) (hz : (P.info? e).map (·.size) = some 1)
    (hzv : (P.info? T).bind (·.zero) = some z) (hv : ∀ (g : Gh) (V : Loc → Value) (w : World) (o : List Nat) (a : Act), (∀ t, V (.slot t) = a.tmps.getD t undef) → Es g V w N o → (parts.map fun (i, x) => (i, a.eval x)).toList = vals)
    (hf : Instr.fill (fun i => some (i * 1, 1)) z.cells vals = some us.toArray) :
    LOp P ⟨some d, .build T parts, ty, pos, aft, gd⟩ N [] [(d, .v (.agg us.toArray))] [.slot d] := by
  refine LOp.value rfl rfl rfl fun g V oN a w hp => ?_
  have hvals := hv g V w oN a hp.val hp.esN
  refine ⟨.agg us.toArray, ?_, by simp [R]⟩
  simp only [execOp, Instr.build, Sem.run_bind, run_zero hzv, Result.andThen_ok, run_underlying hT, run_sizeOf' hz, hvals]
  simp only [Nat.mul_one] at hf
  simp [hf]
end
/-- An array's length is known. -/
def lnO {α : Type} (n : Nat) (l : List α) : Option (List α) := if l.length = n then some l else none
theorem ln_len {α β : Type} {f : α → β} {n : Nat} {l v : List α} (h : lnO n l = some v) : n = (List.map f l).length := by
  unfold lnO at h
  split at h
  · next e => simp [e]
  · cases h
theorem map_get1 {α β : Type} {f : α → β} {l : List α} {i : Nat} {v : α} (h : getO l i = some v) : (List.map f l)[i]? = some (f v) := by
  unfold getO at h
  simp [h]
theorem ln_ones {α : Type} {f : α → Value} (hf : ∀ x, (f x).oneCell' = true) (l : List α) : ∀ u ∈ List.map f l, u.oneCell' = true := by
  intro u hu
  obtain ⟨x, _, rfl⟩ := List.mem_map.1 hu
  exact hf x
def setO {α : Type} (l : List α) (i : Nat) (x : α) : Option (List α) := if i < l.length then some (l.set i x) else none
theorem set_lt {α β : Type} {f : α → β} {l v : List α} {i : Nat} {x : α} (h : setO l i x = some v) : i < (List.map f l).length := by
  unfold setO at h
  split at h
  · simpa
  · cases h
theorem set_eq {α β : Type} {f : α → β} {l v : List α} {i : Nat} {x : α} (h : setO l i x = some v) : (List.map f l).set i (f x) = List.map f v := by
  unfold setO at h
  split at h
  · cases h; exact (List.map_set).symm
  · cases h
end Go.Abs
