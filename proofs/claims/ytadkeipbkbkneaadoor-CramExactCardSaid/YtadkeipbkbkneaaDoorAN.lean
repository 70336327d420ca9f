/-
  The logic of places: texts AW AX AY AZ AN A0.
-/
import Derived.Lib.FrozenHead
import Derived.OpenShut
import Derived.FnData
import Derived.Lib.UnsafeStr
import Derived.Lib.Builder
import Derived.Lib.Repeat
import Derived.Below
import Derived.Test.YtadkeipbkbkneaaDoorAR
section
/-
  Ranges over a function: what yields, what ranges, the rounds; told by a step of Lean on the state that the rounds leave.
-/
namespace Go.Abs
mutual
/-- Holds no memory of its own. -/
def noOwn : AV → Bool
  | .fl (.own _) _ _ => false
  | .fr (.own _) _ _ _ => false
  | .box .. => false
  | .arr .. => false
  | .obox .. => false
  | .cloB .. => false
  | .inv _ => false
  | .mkr .. => false
  | .hid _ => false
  | .agg cs => noOwns cs
  | .tup cs => noOwns cs
  | _ => true
def noOwns : List AV → Bool
  | [] => true
  | c :: cs => noOwn c && noOwns cs
end
mutual
theorem noOwn_nil {g : Gh} {V : Loc → Value} {w : World} : ∀ (av : AV) (x : Value) (o : List Nat), noOwn av = true → R g V w av x o → o = []
  | .any, x, o, _, h => by simp only [R] at h; exact h
  | .v y, x, o, _, h => by simp only [R] at h; exact h.2
  | .fl (.own _) z xs, x, o, hn, h => by simp [noOwn] at hn
  | .fl .ro z xs, x, o, _, h => by simp only [R, modeOk] at h; obtain ⟨a, n, c, _, _, _, _, h, _⟩ := h; exact h
  | .fl .shr z xs, x, o, _, h => by simp only [R, modeOk] at h; obtain ⟨a, n, c, _, _, _, _, h, _⟩ := h; exact h
  | .agg cs, x, o, hn, h => by simp only [R, noOwn] at *; obtain ⟨xs, _, h⟩ := h; exact noOwns_nil cs xs o hn h
  | .tup cs, x, o, hn, h => by simp only [R, noOwn] at *; obtain ⟨xs, _, h⟩ := h; exact noOwns_nil cs xs o hn h
  | .box T cs, x, o, hn, h => by simp [noOwn] at hn
  | .same l, x, o, _, h => by simp only [R] at h; exact h.2
  | .ptr t i, x, o, _, h => by simp only [R] at h; obtain ⟨b, _, _, h⟩ := h; exact h
  | .eref l k, x, o, _, h => by simp only [R] at h; obtain ⟨a, n, c, _, _, h⟩ := h; exact h
  | .arr T vs, x, o, hn, h => by simp [noOwn] at hn
  | .fr (.own _) s z cs, x, o, hn, h => by simp [noOwn] at hn
  | .fr .ro s z cs, x, o, _, h => by simp only [R, modeOk] at h; obtain ⟨vs, a, n, c, _, _, _, _, ⟨h, _⟩, _⟩ := h; exact h
  | .fr .shr s z cs, x, o, _, h => by simp only [R, modeOk] at h; obtain ⟨vs, a, n, c, _, _, _, _, ⟨h, _⟩, _⟩ := h; exact h
  | .glob gl, x, o, _, h => by simp only [R] at h; exact h.2
  | .obox p T cs, x, o, hn, h => by simp [noOwn] at hn
  | .clo f ts, x, o, _, h => by simp only [R] at h; exact h.2
  | .cut l k, x, o, _, h => by simp only [R] at h; obtain ⟨a, n, c, _, _, _, h⟩ := h; exact h
  | .cloB f cs, x, o, hn, h => by simp [noOwn] at hn
  | .inv J, x, o, hn, h => by simp [noOwn] at hn
  | .mkr E xs, x, o, hn, h => by simp [noOwn] at hn
  | .hid J, x, o, hn, h => by simp [noOwn] at hn
  | .asl t i, x, o, _, h => by simp only [R] at h; obtain ⟨b, _, _, h⟩ := h; exact h
theorem noOwns_nil {g : Gh} {V : Loc → Value} {w : World} : ∀ (cs : List AV) (xs : List Value) (o : List Nat), noOwns cs = true → Rs g V w cs xs o → o = []
  | [], xs, o, _, h => by simp only [Rs] at h; exact h.2
  | c :: cs, xs, o, hn, h => by
    simp only [Rs, noOwns, Bool.and_eq_true] at *
    obtain ⟨x, xs', o1, o2, _, rfl, h1, h2⟩ := h
    rw [noOwn_nil c x o1 hn.1 h1, noOwns_nil cs xs' o2 hn.2 h2]; rfl
end
theorem Es_noOwn {g : Gh} {V : Loc → Value} {w : World} : ∀ (es : List Ent) (o : List Nat), es.all (fun e => noOwn e.2) = true → Es g V w es o → o = []
  | [], o, _, h => h
  | e :: es, o, hn, h => by
    simp only [List.all_cons, Bool.and_eq_true] at hn
    obtain ⟨o1, o2, rfl, ⟨h1, _⟩, h2⟩ := h
    rw [noOwn_nil _ _ _ hn.1 h1, Es_noOwn es o2 hn.2 h2]; rfl
section
variable {P : Program} {Q : Exit → Act → World → Prop} {g0 : Gh} {rnd : Option Nat}
end
section
variable {P : Program} {ty : TypeId} {pos : String} {aft : Array Edge} {gd : Option (Nat × Bool)}
end
end Go.Abs
end
section
/-
  The statement 'for x := range f': its rule.
-/
namespace Go.Abs
structure RdT where
  l : Nat
  D : Nat
  fn : FuncId
  tm : Array Value
  ps : Array Tmp
  asg : Code
  bod : Code
def RdT.rc (k : RdT) (st : LoopState) (pe : Option Code) : Loop := { state := st, pending := pe, fn := k.fn, tmps := k.tm, params := k.ps, assign := k.asg, body := k.bod, defers := k.D }
def recI (l D : Nat) (rc : Loop) : InvT where
  P := fun _ _ o w => o = [l, D] ∧ l ≠ D ∧ w.heap[l]? = some (.loop rc) ∧ w.heap[D]? = some (.deferred (some []))
  stab := fun I M I' M' o w w' _ _ hw h => by
    obtain ⟨rfl, h1, h2, h3⟩ := h
    exact ⟨rfl, h1, (hw l (.inl (by simp))).trans h2, (hw D (.inl (by simp))).trans h3⟩
theorem clrEnt_nil (e : Ent) : clrEnt [] e = true := by
  simp only [clrEnt, hit, List.any_nil, List.all_nil, Bool.not_false, Bool.true_and, Bool.and_true, Bool.or_true]; exact clr_nil e.2
def calI (es : List Ent) (tm : Array Value) (l D : Nat) (rc : Loop) : InvT where
  P := fun Imm Im o w => ∃ V o1, (∀ t ∈ es.map (·.1), V (.slot t) = tm.getD t undef) ∧ o = o1 ++ [l, D] ∧ Es (gh0 w Imm Im) V w es o1 ∧ l ≠ D ∧ w.heap[l]? = some (.loop rc) ∧ w.heap[D]? = some (.deferred (some []))
  stab := fun I M I' M' o w w' hI hM hw h => by
    obtain ⟨V, o1, h1, rfl, h2, h3, h4, h5⟩ := h
    refine ⟨V, o1, h1, rfl, ?_, h3, (hw l (.inl (by simp))).trans h4, (hw D (.inl (by simp))).trans h5⟩
    exact Es_stab (W := []) (g := gh0 w I M) (g' := gh0 w' I' M') hI hM (fun _ _ => rfl) es o1 (fun e _ => clrEnt_nil e) (fun b hb => hw b (by
      rcases hb with hb | hb
      · exact .inl (by simp [hb])
      · exact .inr hb)) h2
def RdT.ready (k : RdT) : InvT := recI k.l k.D (k.rc .ready none)
def RdT.J {S O : Type} (k : RdT) (I : S → List Ent) (E : O → List Ent) : S ⊕ O → InvT
  | .inl s => calI (I s) k.tm k.l k.D (k.rc .ready none)
  | .inr o => calI (E o) k.tm k.l k.D (k.rc .done (some .ret))
section
variable {P : Program} {Q : Exit → Act → World → Prop} {g0 : Gh}
theorem Sat.rec {g : Gh} {es : List Ent} {j : Nat} {l D : Nat} {rc : Loop} (rc' : Loop) {a : Act} {w : World} (h : Sat g (es ++ [(j, .inv (recI l D rc))]) a w) :
    w.heap[l]? = some (.loop rc) ∧ Sat g (es ++ [(j, .inv (recI l D rc'))]) a (w.putObj l (.loop rc')) := by
  obtain ⟨V, o, hst, hes⟩ := h
  obtain ⟨o1, o2, rfl, h1, o3, o4, rfl, ⟨h2, _⟩, rfl⟩ := Es_append.1 hes
  simp only [R] at h2
  obtain ⟨rfl, hne, hl, hD⟩ := h2
  simp only [List.append_nil] at hst
  have hlt : l < w.heap.size := (Array.getElem?_eq_some_iff.1 hl).1
  have hown := hst.own l (by simp)
  have hnl : l ∉ o1 := fun hm => (List.nodup_append.1 hst.nodup).2.2 l hm l (by simp) rfl
  refine ⟨hl, V, o1 ++ ([l, D] ++ []), ⟨hst.val, hst.size, hst.defers, hst.dnd, fun E hE => ?_, by simpa using hst.nodup, fun b hb => ?_, fun b hb => by simpa using hst.imm b hb, ?_⟩, Es_append.2 ⟨o1, _, rfl, ?_, [l, D], [], rfl, ⟨?_, trivial⟩, rfl⟩⟩
  · obtain ⟨k1, k2, k3⟩ := hst.marks E hE
    refine ⟨(World.putObj_heap_other (fun e => k2 (by simp [e]))).trans k1, by simpa using k2, k3⟩
  · have := hst.own b (by simpa using hb)
    exact ⟨by simpa using this.1, this.2⟩
  · refine hst.chg.trans' (U := [l]) ⟨rfl, rfl, rfl, by simp, fun k _ hk => World.putObj_heap_other (by simpa using hk)⟩ (fun x hx => ?_)
    simp at hx; subst hx
    exact hown.2.1.symm
  · refine Es_stab (W := []) (fun _ h => h) (fun _ h => h) (fun _ _ => rfl) es o1 (fun e _ => clrEnt_nil e) (fun b hb => World.putObj_heap_other fun e => ?_) h1
    subst e
    rcases hb with hb | hb
    · exact hnl hb
    · exact hown.2.2 hb
  · simp only [R]
    exact ⟨rfl, hne, World.putObj_heap_same hlt, (World.putObj_heap_other (Ne.symm hne)).trans hD⟩
end
end Go.Abs
end
section
/-
  The statement 'for x := range f', after a step told in Lean.
-/
namespace Go.Abs
theorem heap_alloc (w : World) (o : Obj) (k : Nat) (hk : k < w.heap.size) : (w.alloc o).heap[k]? = w.heap[k]? := (Chg.alloc [] w o).block k hk (by simp)
section
variable {P : Program} {Q : Exit → Act → World → Prop} {g0 : Gh}
end
end Go.Abs
end
section
/-
  The row that a text's conversion makes, written into: bytes that are the call's own, with a mark behind them.
-/
namespace Go.Abs
theorem mkr_fl {g : Gh} {V V' : Loc → Value} {w : World} {E : TypeId} {xs : List Value} {x : Value} {o : List Nat} (h : R g V w (.mkr E xs) x o) : R { g with Im := fun b => b ∈ o ∨ g.Im b } V' w (.fl .shr 1 xs) x [] :=
  mkr_shr (oN := o) (g' := { g with Im := fun b => b ∈ o ∨ g.Im b }) (fun _ hb => hb.symm) (fun _ hb => hb) h
section
variable {P : Program} {ty : TypeId} {pos : String} {aft : Array Edge} {gd : Option (Nat × Bool)}
theorem op_ix_mk (N : List Ent) (d : Nat) {T e E : TypeId} (x : Nat) (y : Operand) {kd : IntKind} {xs : List Value} (n : Int) (i : Nat) (l : Loc) (hT : P.underlying T = some (.slice e)) (hz : (P.info? e).map (·.size) = some 1)
    (hx : rd N (.tmp x) = .mkr E xs) (hl : locOf N (.tmp x) = l) (hy : rd N y = .v (.int kd n)) (hn : n = (i : Int)) (hi : i < xs.length) (hd : hit [.slot d] l = false) :
    LOp P ⟨some d, .indexAddr T (.tmp x) y, ty, pos, aft, gd⟩ N [] [(d, .eref l (i * 1))] [.slot d] := by
  subst hn
  refine LOp.value rfl (by simp [clr, hd]) rfl fun g V oN a w hp => ?_
  obtain ⟨o', _, hR⟩ := rd_R hp.val hp.esN (.tmp x)
  rw [hx] at hR
  simp only [R] at hR
  obtain ⟨b, n, cap, cur, fz, he, _, hlen, _, _, _, _, _, _⟩ := hR
  have hin : i < n := by omega
  have h3 := rd_v hp.val hp.esN hy
  have hV : V l = .slice (some ⟨b, 0, none⟩) n cap := by
    rw [← hl, ← he]
    simp only [locOf]
    obtain ⟨o2, _, h2⟩ := opv_R hp.val hp.esN (.tmp x)
    simp only [opv] at h2
    cases hlk : look N x with
    | same l' => rw [hlk] at h2; simp only [R] at h2; exact h2.1.symm
    | _ => simp only [hp.val, Act.eval]
  refine ⟨.pointer (some ((⟨b, 0, none⟩ : Addr).add (i * 1))), ?_, by simp only [R]; exact ⟨_, n, cap, hV, rfl, trivial⟩⟩
  simp [execOp, Instr.indexAt, Sem.run_bind, run_underlying hT, he, h3, asIntOf, run_sizeOf' hz, hin]
theorem op_load_mk (N : List Ent) (d : Nat) {T E : TypeId} {td : TypeDesc} (x : Operand) {xs : List Value} (l : Loc) (k : Nat) (v : Value) (hT : P.underlying T = some td) (ha : isAggD td = false)
    (hx : dupOp N x = .eref l k) (hl : locv N l = .mkr E xs) (hv : xs[k]? = some v) :
    LOp P ⟨some d, .load T x, ty, pos, aft, gd⟩ N [] [(d, .v v)] [.slot d] := by
  refine LOp.v rfl fun g V oN a w hp => ?_
  have hR := dupOp_R hp.val hp.esN x
  rw [hx] at hR
  simp only [R] at hR
  obtain ⟨ad, n, c, h1, h2, _⟩ := hR
  obtain ⟨o', _, h3⟩ := locv_R hp.esN l
  rw [hl] at h3
  have h3 := mkr_fl (V' := V) h3
  simp only [R] at h3
  obtain ⟨A, n', c', ⟨h4, _⟩, _, _, hrd, _⟩ := h3
  rw [h1] at h4; cases h4
  obtain ⟨ad', e, hc⟩ := hrd (fun e => by subst e; simp at hv)
  cases e
  simp [execOp, Instr.loadAt, h2, Instr.sureAddr, run_load1 hT ha (hc k v hv)]
theorem op_mk_str (N : List Ent) (d : Nat) {s t e E : TypeId} (x : Operand) (l : List Int) (hs : P.underlying s = some (.slice e)) (ht : P.underlying t = some .string) (he : P.underlying e = some (.int .u8))
    (hx : rd N x = .mkr E (l.map (.int .u8))) :
    LOp P ⟨some d, .convert s t x, ty, pos, aft, gd⟩ N [] [(d, .v (.string ⟨(l.map fun n => UInt8.ofNat n.toNat).toArray⟩))] [.slot d] := by
  refine LOp.v rfl fun g V oN a w hp => ?_
  obtain ⟨o', _, hr⟩ := rd_R hp.val hp.esN x
  rw [hx] at hr
  have hr := mkr_fl (V' := V) hr
  simp only [R] at hr
  obtain ⟨A, n, c, ⟨hv, _⟩, hl, _, hrd, _⟩ := hr
  have hrun : (convert s t (a.eval x)).run P w = .ok (.string ⟨(l.map fun n => UInt8.ofNat n.toNat).toArray⟩) w := by
    rw [hv]
    cases A with
    | none =>
      have : l = [] := by
        apply Classical.byContradiction
        intro hne
        obtain ⟨ad, e, _⟩ := hrd (by simpa using hne)
        cases e
      subst this
      rw [run_convert_bytes_nil w s e hs he n c t ht]
      rfl
    | some ad =>
      have hload : (loadCells ad n).run P w = .ok (l.map (Value.int .u8)).toArray w := by
        by_cases hne : l = []
        · subst hne
          simp at hl; subst hl
          simp [loadCells, loadCellsFrom]
        · obtain ⟨ad', e, hc⟩ := hrd (by simpa using hne)
          cases e
          have := run_loadCells_list (P := P) w ad (l.map (Value.int .u8)) hc
          simpa [show l.length = n by simpa using hl] using this
      rw [run_convert_bytes_string w s t e _ n c hs he ht, run_bytesToString w _ n c l hload, foldl_push_bytes]
      simp [ByteArray.empty, ByteArray.emptyWithCapacity]
      rfl
  simp [execOp, hrun]
theorem op_str_mk (N : List Ent) (d : Nat) {s t e : TypeId} (x : Operand) (str : ByteArray) {u : TypeDesc} (hs : P.underlying s = some u) (ht : P.underlying t = some (.slice e)) (he : P.underlying e = some (.int .u8))
    (hx : rd N x = .v (.string str)) :
    LOp P ⟨some d, .convert s t x, ty, pos, aft, gd⟩ N [] [(d, .mkr e (List.map (Value.int .u8) (sbytes str)))] [.slot d] := by
  refine LOp.fresh rfl rfl fun g V oN a w hp => ?_
  have h := rd_v hp.val hp.esN hx
  have hrun : (execOp a.eval ⟨some d, .convert s t x, ty, pos, aft, gd⟩).run P w = .ok (.value (.slice (some ⟨w.heap.size, 0, none⟩) str.size (grownCap w str.size 0 e))) (Lib.bytesWorld w e str) := by
    simp [execOp, h, Lib.run_convert_string_bytes w s t e str hs ht he]
  refine (Yl.val hrun).mono ?_
  rintro y w' ⟨rfl, rfl⟩
  have hcap := grownCap_ge w str.size 0 e
  have hlen : (Lib.bytesCells w e str).size = grownCap w str.size 0 e := by
    have hss : str.data.size = str.size := rfl
    simp only [Lib.bytesCells, Array.size_append, Array.size_map, Array.size_replicate]
    omega
  refine ⟨bytesWorld_chg w e str, g, [w.heap.size], g.le_refl, fun b hb => .inl hb, ?_, by simp, fun b hb => ?_⟩
  · simp only [R]
    refine ⟨w.heap.size, str.size, _, Lib.bytesCells w e str, _, rfl, hcap, by simp [sbytes], by intro v hv; obtain ⟨n, _, rfl⟩ := List.mem_map.1 hv; rfl, Lib.bytesWorld_at_new w e str, Nat.le_refl _, by omega, ?_, rfl⟩
    simp only [Lib.bytesCells, Array.toList_append, Array.toList_map]
    rw [List.take_append_of_le_length (by simp), List.take_of_length_le (by simp)]
    simp [sbytes, Function.comp_def]
  · simp only [List.mem_singleton] at hb
    subst hb
    refine ⟨Nat.le_refl _, by rw [Lib.bytesWorld_size]; omega, fun hi => ?_⟩
    have := hp.imm _ (.inl hi); omega
theorem op_store_mk (N : List Ent) {T : TypeId} (ax vx : Operand) {E : TypeId} {xs : List Value} (t k : Nat) (v : Value) (xs' : List Value) (hs : (P.info? T).map (·.size) = some 1)
    (hx : dupOp (N ++ [(t, .mkr E xs)]) ax = .eref (.slot t) k) (hv : rd N vx = .v v) (h1 : v.oneCell' = true) (hfit : k < xs.length) (hxs : xs.set k v = xs') :
    LOp P ⟨none, .store T ax vx, ty, pos, aft, gd⟩ N [(t, .mkr E xs)] [(t, .mkr E xs')] [] := by
  subst hxs
  refine LOp.core fun g V oN oT a w hd hp => ?_
  have hT := hp.esT
  simp only [Es] at hT
  obtain ⟨ob, o2, rfl, ⟨hR, _⟩, rfl⟩ := hT
  have hax := dupOp_R hp.val (Es_append.2 ⟨oN, _, rfl, hp.esN, hp.esT⟩) ax
  rw [hx] at hax
  simp only [R] at hax hR
  obtain ⟨ad, n1, c1, q1, q2, _⟩ := hax
  obtain ⟨b, n, cap, cur, fz, q3, hnc, hln, hone, hb, hfz, hcap, htk, rfl⟩ := hR
  rw [q1] at q3
  cases q3
  rw [add_flat, Nat.zero_add] at q2
  have hvv := rd_v hp.val hp.esN hv
  have hk : k < cur.size := by omega
  have hcell : w.cell? ⟨b, k, none⟩ = some cur[k] := by simp [World.cell?, hb, hk]
  have hfro : w.frozen? ⟨b, k, none⟩ = false := by
    obtain ⟨lo, hi'⟩ := fz
    simp only [World.frozen?, hb, Bool.and_eq_false_iff, decide_eq_false_iff_not]
    left
    simp only at hfz
    omega
  have hvc : v.cells = #[v] := by cases v <;> first | rfl | simp [Value.oneCell'] at h1
  have hrun : (execOp a.eval ⟨none, .store T ax vx, ty, pos, aft, gd⟩).run P w = .ok .skip (w.setRow b (cur.setIfInBounds k v)) := by
    have hst : (store ((⟨b, k, none⟩ : Addr).add 0) v).run P w = .ok () (w.setRow b (cur.setIfInBounds k v)) := by
      rw [add_flat, Nat.add_zero, run_store P w _ v _ h1, hcell]
      simp [hfro, setCell_eq_setRow w b k cur E fz v hb]
    have : (storeVar T ⟨b, k, none⟩ v).run P w = .ok () (w.setRow b (cur.setIfInBounds k v)) := by
      simp [storeVar, Sem.run_bind, run_sizeOf' hs, hvc, storeCells, hst]
    simp [execOp, Instr.storeAt, q2, hvv, Instr.sureAddr, this]
  refine (Yl.skip hrun).mono ?_
  rintro y w' ⟨rfl, rfl⟩
  have hchg : Chg [b] w (w.setRow b (cur.setIfInBounds k v)) := setRow_chg _ _ _
  have hbo := hp.own b (by simp)
  refine ⟨g, V, [b], g.le_refl, fun c hc => .inl hc, fun c hc => Nat.lt_of_lt_of_le (hp.imm c (.inl hc)) hchg.size, by simpa using hchg, fun _ _ => rfl, fun t => by simpa [Act.put] using hp.val t, ?_, by simp, fun c hc => ?_⟩
  · refine ⟨[b], [], rfl, ⟨?_, trivial⟩, rfl⟩
    show R g V _ (.mkr E (xs.set k v)) (V (.slot t)) [b]
    simp only [R]
    refine ⟨b, n1, c1, cur.setIfInBounds k v, fz, q1, hnc, by simpa using hln, fun u hu => ?_, setRow_heap w b cur _ E fz hb, by simpa using hfz, by simpa using hcap, ?_, rfl⟩
    · rcases List.mem_or_eq_of_mem_set hu with h | h
      · exact hone u h
      · rw [h]; exact h1
    · rw [Array.toList_setIfInBounds, List.take_set, htk]
  · simp only [List.mem_singleton] at hc
    subst hc
    exact ⟨.inl (by simp), Nat.lt_of_lt_of_le hbo.1 hchg.size, hbo.2⟩
end
end Go.Abs
end
section
/-
  The library of places, whole; strings.Index at a separator of one byte, strings.IndexByte; a struct out of a tuple.
-/
namespace Go.Abs
namespace Sh
def strings_Index (s sep : ByteArray) : Option Int := match sep.data.toList with
  | [c] => some (Lib.indexByte s.data.toList c)
  | _ => none
@[reducible] def internal_stringslite_Index (s sep : ByteArray) : Option Int := strings_Index s sep
def strings_IndexByte (s : ByteArray) (c : Int) : Option Int := some (Lib.indexByte s.data.toList c.toNat.toUInt8)
@[reducible] def internal_stringslite_IndexByte (s : ByteArray) (c : Int) : Option Int := strings_IndexByte s c
end Sh
theorem two_vals {g : Gh} {V : Loc → Value} {w : World} {a b : Value} {xs : List Value} (h : Rs g V w [.v a, .v b] xs []) : xs = [a, b] := by
  obtain ⟨x, y, rfl, h1, h2⟩ := two_args h
  simp only [R] at h1 h2
  rw [h1.1, h2.1]
theorem lib_strings_IndexByte {P : Program} {f : Nat}
    (c1 : ∀ (s : ByteArray) (c : Int) (w : World), Calls P f #[.string s, .int .u8 c] w fun e w' => e = .returned (.int .i64 (Lib.indexByte s.data.toList c.toNat.toUInt8)) ∧ w' = w)
    (s : ByteArray) (c r : Int) (h : Sh.strings_IndexByte s c = some r) : FnOK P f [.v (.string s), .v (.int .u8 c)] (.v (.int .i64 r)) := by
  unfold Sh.strings_IndexByte at h
  cases h
  intro Imm Im w xs himm hR
  have := two_vals hR
  subst this
  refine (c1 s c w).mono ?_
  rintro e w' ⟨rfl, rfl⟩
  exact ans_same rfl (.inl rfl) (by simp [R])
theorem mk_lt' {A : Type} {f : A → Value} {l : List A} {i : Nat} (h : i < l.length) : i < (List.map f l).length := by rwa [List.length_map]
theorem mk_lt {A : Type} {f : A → Value} {l : List A} {i : Nat} (h : i < l.length) : i * 1 < (List.map f l).length := by rwa [List.length_map, Nat.mul_one]
theorem mk_set {A : Type} {f : A → Value} {l l' : List A} {i : Nat} {x : A} (h : l.set i x = l') : (List.map f l).set (i * 1) (f x) = List.map f l' := by
  subst h; rw [Nat.mul_one, List.map_set]
section
variable {P : Program} {ty : TypeId} {pos : String} {aft : Array Edge} {gd : Option (Nat × Bool)}
theorem op_callPS (N T G : List Ent) (W : List Loc) (d : Nat) (f : FuncId) {cal : Operand} (xs ys : List Operand) {args : Array Operand} {ats : Array TypeId} (avs posts : List AV) (res : AV) (hcal : rd N cal = .v (.func (.func f) #[] #[])) (hrun : ∀ args w, (callFunc f args).run P w = .ok (.enter f args) w)
    (hargs : (xs ++ ys).toArray = args) (hx : isArgs (N ++ T) xs T = true) (hav : ys.map (argv N) = avs) (hf : FnP P f (T.map (·.2) ++ avs) posts res) (hpl : posts.length ≤ T.length) (hcl : closed res = true) (hclT : closeds (T.map (·.2)) = true) (hclp : closeds posts = true)
    (hno : N.all (fun e => noOwn e.2) = true) (hdt : T.all (fun e => !Nat.beq e.1 d) = true) (hG : zipP T posts ++ [(d, res)] = G) (hW : Loc.slot d :: boxW (zipP T posts) = W) :
    LOp P ⟨some d, .call ⟨.value cal, args, ats⟩, ty, pos, aft, gd⟩ N T G W := by
  subst hG hW hargs
  refine LOp.core fun g V oN oT a w hd hp => ?_
  have hN := Es_noOwn N oN hno hp.esN
  have hcv := rd_v hp.val hp.esN hcal
  have hr : (execOp a.eval ⟨some d, .call ⟨.value cal, (xs ++ ys).toArray, ats⟩, ty, pos, aft, gd⟩).run P w = .ok (.enter f ((xs ++ ys).toArray.map a.eval)) w := by
    simp [execOp, resolve, hcv, Deferred.ofValue, invoke, hrun]
  have hxe := isArgs_eval hp.val (Es_append.2 ⟨oN, oT, rfl, hp.esN, hp.esT⟩) hx
  have hR : Rs (gh0 w g.Imm (fun b => g.Im b ∨ b ∈ oN)) V0 w (T.map (·.2) ++ avs) ((xs ++ ys).map a.eval) oT := by
    rw [List.map_append, hxe]
    refine Rs_append.2 ⟨_, _, oT, [], rfl, by simp, ?_, ?_⟩
    · exact Rs_closed (g := g) (g' := gh0 w g.Imm (fun b => g.Im b ∨ b ∈ oN)) (fun _ h => h) _ _ oT hclT (.inl fun b hb => .inl hb) (Es_Rs hp.esT)
    · rw [← hav]
      exact argvs_R (g := g) (g' := gh0 w g.Imm (fun b => g.Im b ∨ b ∈ oN)) rfl (fun b hb => hb) hp.val hp.esN _
  have hnd := hp.nodup
  have hob : ∀ b ∈ oT, b < w.heap.size ∧ ¬ (g.Imm b ∨ g.Im b ∨ b ∈ oN) := by
    intro b hb
    have h1 := hp.own b (by simp [hb])
    refine ⟨h1.1, ?_⟩
    rintro (h | h | h)
    · exact h1.2 (.inl h)
    · exact h1.2 (.inr h)
    · exact (List.nodup_append.1 hnd).2.2 b h b hb rfl
  have hc := hf g.Imm (fun b => g.Im b ∨ b ∈ oN) w _ oT (fun b hb => by
    rcases hb with hb | hb | hb
    · exact hp.imm b (.inl hb)
    · exact hp.imm b (.inr hb)
    · exact (hp.own b (by simp [hb])).1) hR (List.nodup_append.1 hnd).2.1 hob
  have ea : ((xs ++ ys).map a.eval).toArray = (xs ++ ys).toArray.map a.eval := by simp
  rw [ea] at hc
  have hlt : d < g.n := hd d rfl
  refine Yl.call hr (hc.mono ?_)
  rintro e' w' ⟨y, rfl, hchg, Imm', o, hI, hnew, hRr, hndo, hfr⟩
  have htake : ((xs ++ ys).map a.eval).take posts.length = (T.map fun e => V (.slot e.1)).take posts.length := by
    rw [List.map_append, hxe, List.take_append_of_le_length (by simp [hpl])]
  simp only [htake, Rs] at hRr
  obtain ⟨y', vals, o1, o2, hyv, rfl, hR1, hR2⟩ := hRr
  obtain ⟨rfl, rfl⟩ := List.cons.inj hyv
  let V1 : Loc → Value := fun l => match l with
    | .slot u => if u = d then y else V (.slot u)
    | .cell u i => if u = d then cellAt w' y i else if Loc.cell u i ∈ boxW (zipP T posts) then cellAt w' (V (.slot u)) i else V (.cell u i)
  have hV1 : ∀ l, hit (.slot d :: boxW (zipP T posts)) l = false → V1 l = V l := by
    intro l hl
    simp only [hit, List.any_cons, Bool.or_eq_false_iff] at hl
    cases l with
    | slot u =>
      have : u ≠ d := fun e => by subst e; simp at hl
      simp [V1, this]
    | cell u i =>
      have h1 : u ≠ d := fun e => by subst e; simp at hl
      have h2 : Loc.cell u i ∉ boxW (zipP T posts) := fun hm => by
        have := List.any_eq_false.1 hl.2 _ hm
        simp at this
      simp [V1, h1, h2]
  have hTd : ∀ e ∈ T, e.1 ≠ d := fun e he hed => by
    have := List.all_eq_true.1 hdt e he
    rw [hed, Nat.beq_refl] at this; cases this
  have hslotT : (T.map fun e => V1 (.slot e.1)) = T.map fun e => V (.slot e.1) := List.map_congr_left fun e he => by simp [V1, hTd e he]
  have hzT : ∀ {T : List Ent} {ps : List AV} {t : Nat} {av : AV}, (t, av) ∈ zipP T ps → ∃ e ∈ T, e.1 = t := by
    intro T
    induction T with
    | nil => intro ps t av h; cases ps <;> cases h
    | cons e T ih =>
      intro ps t av h
      cases ps with
      | nil => cases h
      | cons p ps =>
        rcases List.mem_cons.1 h with h | h
        · cases h; exact ⟨e, by simp, rfl⟩
        · obtain ⟨e', h1, h2⟩ := ih h; exact ⟨e', by simp [h1], h2⟩
  refine ⟨y, rfl, { g with Imm := fun b => Imm' b }, V1, o2 ++ o1, ⟨rfl, rfl, rfl, rfl, rfl, hI, fun b hb => ?_⟩, fun b hb => ?_, fun b hb => ?_, hchg, hV1, ?_, ?_, ?_, fun b hb => ?_⟩
  · rcases hnew b hb with h | h | h
    · exact .inl h
    · exact .inr (hp.own2 b (by simp [h]))
    · exact .inr (.inl (Nat.le_trans hp.base h.1))
  · rcases hnew b hb with h | h | h
    · exact .inl h
    · exact .inr (.inl h)
    · exact .inr (.inr h.1)
  · rcases hnew b hb with h | h | h
    · exact Nat.lt_of_lt_of_le (hp.imm b (.inl h)) hchg.size
    · exact Nat.lt_of_lt_of_le (hob b h).1 hchg.size
    · exact h.2
  · intro t
    rw [put_getD a d t y (by rw [hp.size]; exact hlt)]
    simp only [V1]
    split
    · rfl
    · exact hp.val t
  · refine Es_append.2 ⟨o2, o1, rfl, ?_, o1, [], by simp, ⟨?_, ?_⟩, rfl⟩
    · refine zipP_Es (V := V) hpl ?_ ?_
      · rw [hslotT]
        exact Rs_closed (g := gh0 w Imm' (fun b => g.Im b ∨ b ∈ oN)) (g' := { g with Imm := fun b => Imm' b }) (fun _ h => h) _ _ o2 hclp (.inl fun b hb => hb.resolve_right (by rw [hN]; simp)) hR2
      · intro t T' cs hm b zs hb hh hsz i hi
        obtain ⟨e, he, rfl⟩ := hzT hm
        have htd := hTd e he
        have hb' : V (.slot e.1) = .pointer (some ⟨b, 0, none⟩) := by simpa [V1, htd] using hb
        have hmem := boxW_mem hm hi
        simp only [V1, htd, if_false, hmem, if_true, hb']
        obtain ⟨zl⟩ := zs
        exact cellAt_box hh (by simpa using (show i < zl.length by simp at hsz; omega))
    · show R _ _ _ res (V1 (.slot d)) o1
      rw [show V1 (.slot d) = y by simp [V1]]
      exact R_closed (g := gh0 w Imm' (fun b => g.Im b ∨ b ∈ oN)) (g' := { g with Imm := fun b => Imm' b }) (fun _ h => h) res y o1 hcl (.inl fun b hb => hb.resolve_right (by rw [hN]; simp)) hR1
    · cases res <;> try trivial
      case box T' cs =>
        intro b hb i hi
        dsimp only at hb hi ⊢
        rw [show V1 (.slot d) = y by simp [V1]] at hb
        simp only [R] at hR1
        obtain ⟨b', zs, os, hx', _, hh, hrs⟩ := hR1
        rw [hb] at hx'; cases hx'
        simp only [V1, if_true, hb]
        exact cellAt_box hh (by rw [Rs_length hrs]; exact hi)
  · exact List.perm_append_comm.nodup_iff.1 hndo
  · obtain ⟨h1, h2, h3⟩ := hfr b (by rcases List.mem_append.1 hb with h | h <;> simp [h])
    refine ⟨h1, h2, ?_⟩
    rintro (h | h)
    · exact h3 h
    · rcases h1 with h1 | h1
      · exact (hob b h1).2 (.inr (.inl h))
      · exact absurd (hp.imm b (.inr h)) (by omega)
theorem op_ix_globz (N : List Ent) (d : Nat) {T e : TypeId} (x y : Operand) {kd : IntKind} (n b k i z : Nat) (m : Int) (hT : P.underlying T = some (.array n e)) (hz : (P.info? e).map (·.size) = some z)
    (hx : rd N x = .v (.pointer (some ⟨b, k, none⟩))) (hy : rd N y = .v (.int kd m)) (hm : m = (i : Int)) (hi : i < n) : LOp P ⟨some d, .indexAddr T x y, ty, pos, aft, gd⟩ N [] [(d, .v (.pointer (some ⟨b, k + i * z, none⟩)))] [.slot d] := by
  subst hm
  refine LOp.v rfl fun g V oN a w hp => ?_
  have h2 := rd_v hp.val hp.esN hx
  have h3 := rd_v hp.val hp.esN hy
  simp [execOp, Instr.indexAt, Sem.run_bind, run_underlying hT, h2, h3, asIntOf, Instr.sureAddr, run_sizeOf' hz, hi, add_flat]
theorem run_slice_arr {w : World} {T e : TypeId} {n b z : Nat} (hT : P.underlying T = some (.array n e)) (hz : (P.info? e).map (·.size) = some z) :
    (Instr.sliceAt T (.pointer (some ⟨b, 0, none⟩)) none none none).run P w = .ok (.slice (some ⟨b, 0, none⟩) n n) w := by
  simp [Instr.sliceAt, Instr.sureAddr, run_underlying hT, Instr.sliceBounds, Sem.run_bind, run_sizeOf' hz, add_flat]
theorem op_slice_asl (N : List Ent) (d t n : Nat) {T e : TypeId} (x : Operand) (hT : P.underlying T = some (.array n e)) (hz : (P.info? e).map (·.size) = some 1)
    (hx : dupOp N x = .ptr t 0) (hdt : d ≠ t) :
    LOp P ⟨some d, .slice T x none none none, ty, pos, aft, gd⟩ N [] [(d, .asl t n)] [.slot d] := by
  refine LOp.value rfl (by simp [clr, hit]; exact hdt) rfl fun g V oN a w hp => ?_
  have hax := dupOp_R hp.val hp.esN x
  rw [hx] at hax
  simp only [R] at hax
  obtain ⟨b, h1, h2, _⟩ := hax
  refine ⟨.slice (some ⟨b, 0, none⟩) n n, ?_, by simp only [R]; exact ⟨b, h1, rfl, trivial⟩⟩
  have := run_slice_arr (P := P) (w := w) (b := b) hT hz
  simp [execOp, h2, this]
theorem op_slice_frz (N : List Ent) (d t n : Nat) {T T' e : TypeId} {vs : List Value} (x : Operand) (hT : P.underlying T = some (.array n e)) (hz : (P.info? e).map (·.size) = some 1)
    (hx : dupOp (N ++ [(t, .arr T' vs)]) x = .ptr t 0) (hl : vs.length = n) (h1 : ∀ u ∈ vs, u.oneCell' = true) :
    LOp P ⟨some d, .slice T x none none none, ty, pos, aft, gd⟩ N [(t, .arr T' vs)] [(t, .any), (d, .fl .ro 1 vs)] [.slot d] := by
  refine LOp.core fun g V oN oT a w hd hp => ?_
  have hT' := hp.esT
  have hax := dupOp_R hp.val (Es_append.2 ⟨oN, _, rfl, hp.esN, hT'⟩) x
  simp only [Es] at hT'
  obtain ⟨ob, o2, rfl, ⟨hR, _⟩, rfl⟩ := hT'
  rw [hx] at hax
  simp only [R] at hax hR
  obtain ⟨b, h3, h4, _⟩ := hax
  obtain ⟨b', h5, rfl, hh⟩ := hR
  have h5' : V (.slot t) = .pointer (some ⟨b', 0, none⟩) := h5
  rw [h5'] at h3; cases h3
  have hrun : (execOp a.eval ⟨some d, .slice T x none none none, ty, pos, aft, gd⟩).run P w = .ok (.value (.slice (some ⟨b, 0, none⟩) n n)) w := by
    have := run_slice_arr (P := P) (w := w) (b := b) hT hz
    simp [execOp, h4, this]
  refine (Yl.val hrun).mono ?_
  rintro v w' ⟨rfl, rfl⟩
  have hlt : d < g.n := hd d rfl
  have hob := hp.own b (by simp)
  refine ⟨{ g with Imm := fun c => g.Imm c ∨ c = b }, setV V d _, [], ⟨rfl, rfl, rfl, rfl, rfl, fun _ h => .inl h, fun c hc => ?_⟩, fun c hc => ?_, fun c hc => ?_, Chg.refl _ _, fun l hl => setV_hit hl, fun u => setV_val hp.val hp.size hlt u, ?_, by simp, by simp⟩
  · rcases hc with hc | rfl
    · exact .inl hc
    · exact .inr (hp.own2 _ (by simp))
  · rcases hc with hc | rfl
    · exact .inl hc
    · exact .inr (.inl (by simp))
  · rcases hc with hc | rfl
    · exact hp.imm c (.inl hc)
    · exact hob.1
  · refine ⟨[], [], rfl, ⟨by simp [R], trivial⟩, [], [], rfl, ⟨?_, trivial⟩, rfl⟩
    show R _ _ _ _ (setV V d _ (.slot d)) _
    rw [setV_slot]
    simp only [R, modeOk]
    refine ⟨some ⟨b, 0, none⟩, n, n, ⟨rfl, Nat.le_refl _⟩, by omega, h1, fun _ => ⟨_, rfl, fun j u hj => ?_⟩, trivial, fun _ => ⟨_, rfl, .inr rfl⟩⟩
    rw [add_flat, cell_of_row _ b _ _ T' (0, 0) hh]; simpa using hj
theorem op_copy_arr (N : List Ent) (d t n : Nat) {T T2 T' e t' : TypeId} (x y : Operand) {my : Md} {xs ys us : List Value} (hu : P.underlying T = some (.slice e)) (hz : (P.info? e).map (·.size) = some 1)
    (hx : dupOp (N ++ [(t, .arr T' xs)]) x = .asl t n) (hl : xs.length = n) (hy : rd N y = .fl my 1 ys) (hdt : d ≠ t) (hus : ys.take (min ys.length n) ++ xs.drop (min ys.length n) = us) :
    LOp P ⟨some d, .call ⟨.builtin .copy, #[x, y], #[T, T2]⟩, t', pos, aft, gd⟩ N [(t, .arr T' xs)]
      [(t, .arr T' us), (d, .v (.int .i64 ((min ys.length n : Nat) : Int)))] [.slot d] := by
  subst hus
  refine LOp.core fun g V oN oT a w hd hp => ?_
  have hT' := hp.esT
  have hax := dupOp_R hp.val (Es_append.2 ⟨oN, _, rfl, hp.esN, hT'⟩) x
  simp only [Es] at hT'
  obtain ⟨ob, o2, rfl, ⟨hR, _⟩, rfl⟩ := hT'
  rw [hx] at hax
  simp only [R] at hax hR
  obtain ⟨b, h3, h4, _⟩ := hax
  obtain ⟨b, h5, rfl, hh⟩ := hR
  have h5' : V (.slot t) = .pointer (some ⟨b, 0, none⟩) := h5
  rw [h5'] at h3; cases h3
  obtain ⟨o', _, hr⟩ := rd_R hp.val hp.esN y
  rw [hy] at hr
  simp only [R] at hr
  obtain ⟨A, m', c, ⟨he, _⟩, hlm, hone, hrd, _⟩ := hr
  simp only [Nat.mul_one] at hlm
  have hst0 : ∀ (a : Addr), storeCells a [] = pure () := fun a => by simp [storeCells]
  have key : ∃ w', (Builtin.copy_ #[T, T2] t' #[.slice (some ⟨b, 0, none⟩) n n, .slice A m' c]).run P w = .ok (goInt (min m' n : Nat)) w' ∧ w'.heap[b]? = some (.cells (ys.take (min m' n) ++ xs.drop (min m' n)).toArray T' (0, 0)) ∧ Chg [b] w w' := by
    cases A with
    | none =>
      have : ys = [] := by
        apply Classical.byContradiction
        intro hne
        obtain ⟨ad, e, _⟩ := hrd hne
        cases e
      subst this
      simp at hlm; subst hlm
      refine ⟨w, ?_, by simpa using hh, Chg.refl _ _⟩
      simp [Builtin.copy_, run_underlying hu, Builtin.lenOf, Builtin.firstCells, run_sizeOf' hz, storeCells]
    | some a0 =>
      have hl2 : (ys.take (min m' n)).length = min m' n := by simp; omega
      have hrun := run_copy_row (P := P) w T T2 t' e b 0 n n a0 m' c xs.toArray T' (ys.take (min m' n)) hu hz hh (by rw [hl2])
        (fun j v hj => by
          rw [List.getElem?_take] at hj
          split at hj
          · obtain ⟨ad, e, hc⟩ := hrd (fun e => by subst e; simp at hj)
            cases e
            exact hc j v hj
          · cases hj)
        (by rw [hl2]; simp; omega) (fun v hv => hone v (List.mem_of_mem_take hv))
      rw [hl2] at hrun
      refine ⟨_, hrun, ?_, setRow_chg _ _ _⟩
      refine (setRow_heap w b _ _ T' _ hh).trans ?_
      simp
  obtain ⟨w', hrun, hh', hchg⟩ := key
  have hrun' : (execOp a.eval ⟨some d, .call ⟨.builtin .copy, #[x, y], #[T, T2]⟩, t', pos, aft, gd⟩).run P w = .ok (.value (goInt (min m' n : Nat))) w' := by
    simp [execOp, resolve, invoke, builtin, he, h4, hrun]
  refine (Yl.val hrun').mono ?_
  rintro v w2 ⟨rfl, rfl⟩
  have hlt : d < g.n := hd d rfl
  have hob := hp.own b (by simp)
  rw [hlm]
  refine ⟨g, setV V d _, [b], g.le_refl, fun c hc => .inl hc, fun c hc => Nat.lt_of_lt_of_le (hp.imm c (.inl hc)) hchg.size, by simpa using hchg, fun l hl => setV_hit hl, fun u => setV_val hp.val hp.size hlt u, ?_, by simp, fun c hc => ?_⟩
  · refine ⟨[b], [], by simp, ⟨?_, trivial⟩, [], [], rfl, ⟨?_, trivial⟩, rfl⟩
    · show R g _ _ _ (setV V d _ (.slot t)) _
      have : setV V d (goInt (min m' n : Nat)) (.slot t) = V (.slot t) := by simp only [setV]; rw [if_neg fun e => hdt e.symm]
      rw [this]
      simp only [R]
      exact ⟨b, h5', rfl, hh'⟩
    · show R g _ _ _ (setV V d _ (.slot d)) _
      rw [setV_slot]; simp [R, goInt]
  · simp only [List.mem_singleton] at hc
    subst hc
    exact ⟨.inl (by simp), Nat.lt_of_lt_of_le hob.1 hchg.size, hob.2⟩
theorem op_cp_arr {A : Type} {f : A → Value} (N : List Ent) (d t n : Nat) {T T2 T' e t' : TypeId} (x y : Operand) {my : Md} (l m : List A) (hu : P.underlying T = some (.slice e)) (hz : (P.info? e).map (·.size) = some 1)
    (hx : dupOp (N ++ [(t, .arr T' (l.map f))]) x = .asl t n) (hl : l.length = n) (hy : rd N y = .fl my 1 (m.map f)) (hdt : d ≠ t) :
    LOp P ⟨some d, .call ⟨.builtin .copy, #[x, y], #[T, T2]⟩, t', pos, aft, gd⟩ N [(t, .arr T' (l.map f))] [(t, .arr T' ((copyL l m).map f)), (d, .v (.int .i64 (copyN l m)))] [.slot d] := by
  have := op_copy_arr (P := P) (pos := pos) (aft := aft) (gd := gd) N d t n (T2 := T2) (t' := t') x y hu hz hx (by simpa using hl) hy hdt rfl
  subst hl
  simpa [copyL, copyN, List.map_take, List.map_drop] using this
def mkcO (by_ : Nat) (c : Int) : Option Unit := if 0 ≤ c ∧ by_ * c.toNat ≤ 140737488355328 then some () else none
theorem op_mk0 (N : List Ent) (d : Nat) {T e : TypeId} (x y : Operand) {kl kc : IntKind} {c : Int} {u : Unit} {by_ : Nat} (hE : ElemT P T e 1 by_) (h0 : 0 < by_)
    (hx : rd N x = .v (.int kl 0)) (hy : rd N y = .v (.int kc c)) (hq : mkcO by_ c = some u) :
    LOp P ⟨some d, .makeSlice T x y, ty, pos, aft, gd⟩ N [] [(d, .fl (.own e) 1 [])] [.slot d] := by
  obtain ⟨i, zv, hT, hi, hz', hs, hzc, _, rfl⟩ := hE.ex
  unfold mkcO at hq
  split at hq
  · rename_i h
    obtain ⟨n, rfl⟩ : ∃ n : Nat, c = (n : Int) := ⟨c.toNat, by omega⟩
    have hb2 := h.2
    simp only [Int.toNat_natCast] at hb2
    have hn : n ≤ maxLen := by
      have := Nat.le_mul_of_pos_left n h0
      simp only [maxLen]; omega
    refine LOp.fresh rfl rfl fun g V oN a w hp => ?_
    have h1 := rd_v hp.val hp.esN hx
    have h2 := rd_v hp.val hp.esN hy
    have hb' : (i.bytes : Int) * (n : Int) ≤ 281474976710656 := by
      have h : ((i.bytes * n : Nat) : Int) ≤ 281474976710656 := by omega
      rwa [Int.natCast_mul] at h
    have hr := run_make (P := P) w T e i zv hT hi hz' kl kc 0 n (by omega) (by omega) hb' (by simp only [maxLen] at hn; omega)
    simp only [Int.toNat_natCast, Int.toNat_zero] at hr
    refine (Yl.val (by simp [execOp, h1, h2, hr] : (execOp a.eval ⟨some d, .makeSlice T x y, ty, pos, aft, gd⟩).run P w = .ok (.value (.slice (some ⟨w.heap.size, 0, none⟩) 0 n)) (w.alloc (.cells (madeCells zv.cells (n * i.size)) e)))).mono ?_
    rintro v w2 ⟨rfl, rfl⟩
    have hnew := heap_alloc_new w (.cells (madeCells zv.cells (n * i.size)) e)
    have hown : (w.alloc (.cells (madeCells zv.cells (n * i.size)) e)).ownsRow 0 e 1 (.slice (some ⟨w.heap.size, 0, none⟩) 0 n) 0 [] := by
      refine ⟨rfl, .inr ⟨w.heap.size, n, _, rfl, Nat.zero_le _, hnew, Nat.zero_le _, hn, ?_, by simp⟩⟩
      rw [size_madeCells, hs]
    refine ⟨(Chg.of_grown (World.grownBy_alloc w _ none)).mono (by simp), g, [w.heap.size], g.le_refl, fun b hb => .inl hb, ?_, by simp, ?_⟩
    · exact own_fl hown (by simp)
    · intro b hb
      simp at hb; subst hb
      exact ⟨Nat.le_refl _, (hown.lt _ rfl).2, fun hi => Nat.lt_irrefl _ (hp.imm _ (.inl hi))⟩
  · cases hq
end
/-! Tables that are laid before the call. -/
theorem int_cells {H : Type} {enc : TypeId × Value → H} {P : Program} {w : World} {base : Nat} {spare : Nat → Bool} {held : Bool} {fuel t : Nat} {k : IntKind} {x : Int} {cs : List Value} {p : List MemPlace} (ht : P.underlying t = some (.int k))
    (h : DataW.trod enc P w base spare held fuel t cs = some (.lit (.int k x), p)) : cs = [.int k x] := by
  obtain ⟨n, h1, h2, _⟩ := DataW.trod_int ht h
  have h3 : n = x := by simpa using (Prod.mk.inj h2).1.symm
  rw [h1, h3]
theorem pieces_all {α : Type} (c : Nat) : ∀ (rs : List (List α)) (cs : List α), cs.length = rs.length * c → (∀ (i : Nat) (r : List α), rs[i]? = some r → (cs.drop (i * c)).take c = r) → cs = rs.flatten
  | [], cs, hl, _ => by simpa using hl
  | r :: rs, cs, hl, h => by
    have h0 := h 0 r rfl
    simp only [Nat.zero_mul, List.drop_zero] at h0
    have ih := pieces_all c rs (cs.drop c) (by simp only [List.length_drop, hl, List.length_cons, Nat.succ_mul]; omega) (fun i q hq => by
      have := h (i + 1) q (by simpa using hq)
      rw [List.drop_drop]
      rwa [Nat.succ_mul, Nat.add_comm] at this)
    rw [List.flatten_cons, ← ih, ← h0, List.take_append_drop]
theorem flat1x {α β : Type} (f : α → β) : ∀ l : List α, (l.map fun x => [f x]).flatten = l.map f
  | [] => rfl
  | a :: l => by simp [flat1x f l]
theorem tab1 {H : Type} {enc : TypeId × Value → H} {P : Program} {w : World} {base : Nat} {spare : Nat → Bool} {held : Bool} {fuel t e n : Nat} {k : IntKind} {ns : List Int} {cs : List Value} {p : List MemPlace}
    (ht : P.underlying t = some (.array n e)) (he : P.underlying e = some (.int k)) (hc : P.cellsOf e = 1) (hn : P.cellsOf t = n)
    (h : DataW.trod enc P w base spare held fuel t cs = some (.agg (ns.map fun x => .lit (.int k x)), p)) : cs = ns.map (Value.int k) := by
  obtain ⟨xs, m, _, hx, hl, hxs, hel⟩ := DataW.trod_array ht h
  have hx' : xs.map (·.1) = ns.map fun x => (.lit (.int k x) : DataW H) := (DataW.agg.inj (Prod.mk.inj hx).1).symm
  have hln : ns.length = n := by have := congrArg List.length hx'; simp only [List.length_map] at this; omega
  have := pieces_all 1 (ns.map fun x => [Value.int k x]) cs (by simp only [List.length_map]; omega) (fun i r hr => by
    simp only [List.getElem?_map, Option.map_eq_some_iff] at hr
    obtain ⟨x, hx1, rfl⟩ := hr
    have hi : i < n := by have := (List.getElem?_eq_some_iff.1 hx1).1; omega
    have h1 := hel i hi
    rw [hc] at h1
    have h2 : (xs.map (·.1))[i]? = some (.lit (.int k x)) := by rw [hx']; simp [hx1]
    rw [List.getElem?_map, Option.map_eq_some_iff] at h2
    obtain ⟨⟨y, q⟩, h3, h4⟩ := h2
    rw [h3] at h1
    cases h4
    exact int_cells he h1)
  rw [this, flat1x]
theorem tab2 {H : Type} {enc : TypeId × Value → H} {P : Program} {w : World} {base : Nat} {spare : Nat → Bool} {held : Bool} {fuel t e i n m : Nat} {k : IntKind} {nss : List (List Int)} {cs : List Value} {p : List MemPlace}
    (ht : P.underlying t = some (.array n e)) (he : P.underlying e = some (.array m i)) (hi : P.underlying i = some (.int k)) (hc : P.cellsOf i = 1) (hm : P.cellsOf e = m) (hn : P.cellsOf t = n * m)
    (h : DataW.trod enc P w base spare held fuel t cs = some (.agg (nss.map fun ns => .agg (ns.map fun x => .lit (.int k x))), p)) : cs = nss.flatten.map (Value.int k) := by
  obtain ⟨xs, f, _, hx, hl, hxs, hel⟩ := DataW.trod_array ht h
  have hx' : xs.map (·.1) = nss.map fun ns => (.agg (ns.map fun x => .lit (.int k x)) : DataW H) := (DataW.agg.inj (Prod.mk.inj hx).1).symm
  have hln : nss.length = n := by have := congrArg List.length hx'; simp only [List.length_map] at this; omega
  have := pieces_all m (nss.map fun ns => ns.map (Value.int k)) cs (by simp only [List.length_map]; rw [hl, hn, hln]) (fun j r hr => by
    simp only [List.getElem?_map, Option.map_eq_some_iff] at hr
    obtain ⟨x, hx1, rfl⟩ := hr
    have hi' : j < n := by have := (List.getElem?_eq_some_iff.1 hx1).1; omega
    have h1 := hel j hi'
    rw [hm] at h1
    have h2 : (xs.map (·.1))[j]? = some (.agg (x.map fun x => .lit (.int k x))) := by rw [hx']; simp [hx1]
    rw [List.getElem?_map, Option.map_eq_some_iff] at h2
    obtain ⟨⟨y, q⟩, h3, h4⟩ := h2
    rw [h3] at h1
    cases h4
    exact tab1 he hi hc hm h1)
  rw [this, List.map_flatten]
theorem laid_cells {P : Program} {W : World} {n : String} {g : Nat} {cs : Array Value} {vs : List Value} (hg : P.globalNamed n = some g) (hv : W.var? P n = some cs) (h : cs.toList = vs) :
    ∀ j u, vs[j]? = some u → W.cell? ⟨g, j, none⟩ = some u := by
  intro j u hu
  rw [World.var?_cell hg hv j, ← hu, ← h]
  simp
/-! What an operation gives is shared from then on. -/
end Go.Abs
end
section
/-
  strings.Builder: what a builder holds; its methods, told.
-/
namespace Go.Abs
set_option linter.unusedVariables false
namespace Sh
def strO (l : List Int) : Option ByteArray := if l.all (fun n => decide (0 ≤ n ∧ n < 256)) then some (bstr l) else none
end Sh
def gD (w : World) : Gh := ⟨0, w, [], fun _ => False, fun _ => False, []⟩
theorem own_any {g g' : Gh} {V V' : Loc → Value} {w : World} {e : TypeId} {z : Nat} {xs : List Value} {x : Value} {o : List Nat} (h : R g V w (.fl (.own e) z xs) x o) : R g' V' w (.fl (.own e) z xs) x o := by
  simp only [R, modeOk] at *; exact h
theorem own_stab {g : Gh} {V : Loc → Value} {w w' : World} {e : TypeId} {z : Nat} {xs : List Value} {x : Value} {o : List Nat} (hw : ∀ b, b ∈ o → w'.heap[b]? = w.heap[b]?) (h : R g V w (.fl (.own e) z xs) x o) : R g V w' (.fl (.own e) z xs) x o :=
  own_any (R_stab (g := gD w) (g' := gD w) (V := V) (V' := V) (W := []) (fun _ h => h) (fun _ h => h) (fun _ _ => rfl) (.fl (.own e) z xs) x o rfl (fun b hb => hb.elim (hw b) (fun h => h.elim False.elim False.elim)) (own_any h))
def BldP (T e : TypeId) (u : Bool) (v : Value) (xs : List Value) (x : Value) (o : List Nat) (w : World) : Prop :=
  ∃ (b : Nat) (p : Value) (o2 : List Nat), x = .pointer (some ⟨b, 0, none⟩) ∧ o = b :: o2 ∧ w.heap[b]? = some (.cells #[p, v] T (0, 0)) ∧ (p = .pointer (some ⟨b, 0, none⟩) ∨ (u = false ∧ p = .pointer none)) ∧ R (gD w) V0 w (.fl (.own e) 1 xs) v o2
theorem BldP.stab {T e : TypeId} {u : Bool} {v : Value} {xs : List Value} {x : Value} {o : List Nat} {w w' : World} (h : BldP T e u v xs x o w) (hw : ∀ b ∈ o, w'.heap[b]? = w.heap[b]?) : BldP T e u v xs x o w' := by
  obtain ⟨b, p, o2, h1, rfl, h3, h4, h5⟩ := h
  exact ⟨b, p, o2, h1, rfl, by rw [hw b (by simp)]; exact h3, h4, own_any (own_stab (fun c hc => hw c (by simp [hc])) h5)⟩
def bldV (T e : TypeId) (v : Value) (xs : List Value) : HidT where
  P _ _ x o w := BldP T e false v xs x o w
  stab _ _ _ _ _ _ _ _ _ _ hw h := h.stab fun b hb => hw b (.inl hb)
def bldT (T e : TypeId) (u : Bool) (xs : List Value) : HidT where
  P _ _ x o w := ∃ v, BldP T e u v xs x o w
  stab _ _ _ _ _ _ _ _ _ _ hw h := h.imp fun v h => h.stab fun b hb => hw b (.inl hb)
section
variable {g : Gh} {P : Program} {Q : Exit → Act → World → Prop} {g0 : Gh} {rnd : Option Nat}
theorem Sat.imp1 {a : Act} {w : World} {es1 es2 : List Ent} {t : Nat} {av av' : AV} (hb : noBox av' = true) (h : ∀ V o, R g V w av (V (.slot t)) o → R g V w av' (V (.slot t)) o) (hs : Sat g (es1 ++ (t, av) :: es2) a w) : Sat g (es1 ++ (t, av') :: es2) a w := by
  obtain ⟨V, o, hst, hes⟩ := hs
  obtain ⟨o1, o2', rfl, h1, h2'⟩ := Es_append.1 hes
  obtain ⟨o3, o2, rfl, ⟨h3, _⟩, h2⟩ := h2'
  exact ⟨V, _, hst, Es_append.2 ⟨o1, _, rfl, h1, o3, o2, rfl, ⟨h V _ h3, by cases av' <;> first | trivial | cases hb⟩, h2⟩⟩
theorem Sat.exi {ι : Type} {a : Act} {w : World} {es1 es2 : List Ent} {t : Nat} {av : AV} {av' : ι → AV} (hb : ∀ i, noBox (av' i) = true) (h : ∀ V x o, R g V w av x o → ∃ i, R g V w (av' i) x o) (hs : Sat g (es1 ++ (t, av) :: es2) a w) : ∃ i, Sat g (es1 ++ (t, av' i) :: es2) a w := by
  obtain ⟨V, o, hst, hes⟩ := hs
  obtain ⟨o1, o2', rfl, h1, h2'⟩ := Es_append.1 hes
  obtain ⟨o3, o2, rfl, ⟨h3, _⟩, h2⟩ := h2'
  obtain ⟨i, h4⟩ := h V _ _ h3
  refine ⟨i, V, _, hst, Es_append.2 ⟨o1, _, rfl, h1, o3, o2, rfl, ⟨h4, ?_⟩, h2⟩⟩
  have := hb i
  dsimp only
  cases h : av' i <;> first | trivial | (rw [h] at this; cases this)
theorem ht_bld_box {c : Code} {T e : TypeId} {xs : List Value} (t : Nat) {es : List Ent} (hcl : es.all (clrEnt (cellsW t 0 2)) = true) (h : HT rnd P Q g0 c ((t, .box T [.ptr t 0, .fl (.own e) 1 xs]) :: es)) : HT rnd P Q g0 c ((t, .hid (bldT T e true xs)) :: es) := by
  intro g a w hg hs
  refine h g a w hg (sat_unbox (n := 2) (es1 := []) rfl (by simpa using hcl) (by simp [clrs, clr, cellsW, hit, List.range, List.range.loop]) ?_)
  refine Sat.imp1 (es1 := []) rfl (fun V o hR => ?_) hs
  simp only [R] at hR ⊢
  obtain ⟨v, b, p, o2, hx, rfl, h3, h4, h5⟩ := hR
  obtain rfl : p = .pointer (some ⟨b, 0, none⟩) := h4.elim id (fun h => by cases h.1)
  refine ⟨fun _ => ⟨b, [.pointer (some ⟨b, 0, none⟩), v], o2, hx, rfl, h3, ?_⟩, fun h => by cases h⟩
  simp only [Rs]
  exact ⟨_, _, [], o2, rfl, rfl, by simp only [R]; exact ⟨b, hx, rfl, trivial⟩, v, [], o2, [], rfl, by simp, own_any h5, rfl, rfl⟩
theorem pt_bld {ex : Exit} {T e : TypeId} {xs : List Value} (t : Nat) {es : List Ent} (h : PT Q g0 ex ((t, .hid (bldT T e true xs)) :: es)) : PT Q g0 ex ((t, .box T [.ptr t 0, .fl (.own e) 1 xs]) :: es) := by
  intro g a w hg hs
  refine h g a w hg (Sat.imp1 (es1 := []) rfl (fun V o hR => ?_) hs)
  simp only [R, Rs] at hR ⊢
  obtain ⟨b, ys, os, hx, rfl, h3, x1, l1, o1, o1', rfl, rfl, ⟨b', h4, rfl, rfl⟩, x2, l2, o3, o4, rfl, rfl, h6, rfl, rfl⟩ := hR
  rw [hx] at h4; cases h4
  refine ⟨x2, b, _, o3, hx, by simp, h3, .inl rfl, ?_⟩
  exact own_any (g := g) (V := V) (by simp only [R]; exact h6)
theorem bld_weak {T e : TypeId} {xs : List Value} : ∀ {g V w x o}, R g V w (.hid (bldT T e true xs)) x o → R g V w (.hid (bldT T e false xs)) x o := by
  intro g V w x o h
  simp only [R] at h ⊢
  obtain ⟨v, b, p, o2, h1, h2, h3, h4, h5⟩ := h
  exact ⟨v, b, p, o2, h1, h2, h3, .inl (h4.elim id fun h => by cases h.1), h5⟩
theorem LOp.bld0 {o : Oper} {N T' : List Ent} {W : List Loc} {d : Nat} {T e : TypeId} (h : LOp P o N T' [(d, .box T [.v (.pointer none), .v (.slice none 0 0)])] W) : LOp P o N T' [(d, .hid (bldT T e false (List.map (Value.int .u8) ([] : List Int))))] W := by
  intro g F a w K Q hd hs hc hk
  refine h g F a w K Q hd hs hc fun g' a' w' hle hs' => hk g' a' w' hle ?_
  refine Sat.imp1 (es1 := N) (av := .box T [.v (.pointer none), .v (.slice none 0 0)]) rfl (fun V o hR => ?_) (by simpa using hs')
  simp only [R, Rs] at hR ⊢
  obtain ⟨b, ys, os, hx, rfl, h3, x1, l1, o1, o1', rfl, rfl, ⟨rfl, rfl⟩, x2, l2, o3, o4, rfl, rfl, ⟨rfl, rfl⟩, rfl, rfl⟩ := hR
  refine ⟨.slice none 0 0, b, _, [], hx, by simp, h3, .inr ⟨rfl, rfl⟩, ?_⟩
  simp only [R, modeOk]
  exact ⟨none, 0, 0, ⟨rfl, Nat.le_refl _⟩, rfl, by simp, fun h => absurd rfl h, World.ownsRow_nil _ _ _ _, rfl⟩
theorem FnP.bldW {f : FuncId} {args : List AV} {T e : TypeId} {xs : List Value} {res : AV} (h : FnP P f args [.hid (bldT T e true xs)] res) : FnP P f args [.hid (bldT T e false xs)] res := by
  intro Imm Im w ys o0 h1 h2 h3 h4
  refine (h Imm Im w ys o0 h1 h2 h3 h4).mono ?_
  rintro e' w' ⟨x, rfl, hch, Imm', o, a1, a2, hR, a3, a4⟩
  refine ⟨x, rfl, hch, Imm', o, a1, a2, ?_, a3, a4⟩
  simp only [Rs] at hR ⊢
  obtain ⟨y1, l1, p1, p2, e1, rfl, hr, y2, l2, p3, p4, e2, rfl, hr2, e3, rfl⟩ := hR
  exact ⟨y1, l1, p1, _, e1, rfl, hr, y2, l2, p3, [], e2, rfl, bld_weak hr2, e3, rfl⟩
theorem ht_bld_row {c : Code} {T e : TypeId} {xs : List Value} (t : Nat) {es : List Ent} (h : ∀ v, HT rnd P Q g0 c ((t, .hid (bldV T e v xs)) :: es)) : HT rnd P Q g0 c ((t, .hid (bldT T e false xs)) :: es) := by
  intro g a w hg hs
  obtain ⟨v, hv⟩ := Sat.exi (es1 := []) (av' := fun v => .hid (bldV T e v xs)) (fun _ => rfl) (fun V x o hR => by simp only [R] at hR ⊢; exact hR) hs
  exact h v g a w hg hv
end
section
variable {P : Program}
theorem bld_check {f : FuncId} {T e : TypeId} {xs : List Value} (hne : T ≠ e)
    (hf : ∀ (b : Nat) (w : World), w.cell? ⟨b, 0, none⟩ = some (.pointer none) → w.shape? b = some (T, 2) → w.frozen? ⟨b, 0, none⟩ = false →
      Calls P f #[.pointer (some ⟨b, 0, none⟩)] w fun e w' => e = .returned (.tuple #[]) ∧ w' = w.setCell ⟨b, 0, none⟩ (.pointer (some ⟨b, 0, none⟩)))
    (hu : ∀ (b : Nat) (w : World), w.cell? ⟨b, 0, none⟩ = some (.pointer (some ⟨b, 0, none⟩)) → Calls P f #[.pointer (some ⟨b, 0, none⟩)] w fun e w' => e = .returned (.tuple #[]) ∧ w' = w) :
    FnP P f [.hid (bldT T e false xs)] [.hid (bldT T e true xs)] (.tup []) := by
  intro Imm Im w ys o0 himm hR hnd ho0
  simp only [Rs] at hR
  obtain ⟨x, l, o1, o2, rfl, rfl, h1, rfl, rfl⟩ := hR
  simp only [R] at h1
  obtain ⟨v, b, p, o3, rfl, rfl, h3, h4, h5⟩ := h1
  have hb : b < w.heap.size := (ho0 b (by simp)).1
  have hno : b ∉ o3 := by simp only [List.append_nil, List.nodup_cons] at hnd; exact hnd.1
  have hc0 : w.cell? ⟨b, 0, none⟩ = some p := by rw [Lib.cell_of_heap h3]; rfl
  rcases h4 with rfl | ⟨_, rfl⟩
  · refine (hu b w hc0).mono ?_
    rintro e' w' ⟨rfl, rfl⟩
    refine ⟨_, rfl, Chg.refl _ _, Imm, b :: o3, fun _ h => h, fun _ h => .inl h, ?_, by simpa using hnd, fun c hc => ⟨.inl (by simpa using hc), (ho0 c (by simpa using hc)).1, fun h => (ho0 c (by simpa using hc)).2 (.inl h)⟩⟩
    simp only [Rs, R]
    exact ⟨_, _, [], b :: o3, rfl, rfl, ⟨[], rfl, rfl, rfl⟩, _, [], b :: o3, [], rfl, by simp, ⟨v, b, _, o3, rfl, rfl, h3, .inl rfl, h5⟩, rfl, rfl⟩
  · refine (hf b w hc0 (by simp [World.shape?, h3]) (Lib.frozen_of_heap h3 0)).mono ?_
    rintro e' w' ⟨rfl, rfl⟩
    have hold : ∀ k, k ≠ b → (w.setCell ⟨b, 0, none⟩ (.pointer (some ⟨b, 0, none⟩))).heap[k]? = w.heap[k]? := by
      intro k hk
      simp only [World.setCell]
      rw [Array.getElem?_modify, if_neg (fun h => hk h.symm)]
    have hnew : (w.setCell ⟨b, 0, none⟩ (.pointer (some ⟨b, 0, none⟩))).heap[b]? = some (.cells #[.pointer (some ⟨b, 0, none⟩), v] T (0, 0)) := by
      simp [World.setCell, Array.getElem?_modify, h3]
    have hsz : (w.setCell ⟨b, 0, none⟩ (.pointer (some ⟨b, 0, none⟩))).heap.size = w.heap.size := by simp [World.setCell]
    refine ⟨_, rfl, ⟨rfl, rfl, rfl, Nat.le_of_eq hsz.symm, fun k _ hk => hold k (fun h => hk (by simp [h]))⟩, Imm, b :: o3, fun _ h => h, fun _ h => .inl h, ?_, by simpa using hnd, fun c hc => ⟨.inl (by simpa using hc), by rw [hsz]; exact (ho0 c (by simpa using hc)).1, fun h => (ho0 c (by simpa using hc)).2 (.inl h)⟩⟩
    simp only [Rs, R]
    refine ⟨_, _, [], b :: o3, rfl, rfl, ⟨[], rfl, rfl, rfl⟩, _, [], b :: o3, [], rfl, by simp, ⟨v, b, _, o3, rfl, rfl, hnew, .inl rfl, ?_⟩, rfl, rfl⟩
    exact own_any (own_stab (fun k hk => hold k (fun h => hno (h ▸ hk))) h5)
end
/-! String. -/
def usdT (v : Value) : HidT where
  P _ _ x o _ := o = [] ∧ ∃ q, x = .pointer q ∧ ∀ a n c, v = .slice (some a) n c → n ≠ 0 → q = some a
  stab _ _ _ _ _ _ _ _ _ _ _ h := h
section
variable {P : Program} {ty : TypeId} {pos : String} {aft : Array Edge} {gd : Option (Nat × Bool)}
theorem bld_look {g : Gh} {V : Loc → Value} {w : World} {N : List Ent} {oN : List Nat} {t : Nat} {T e : TypeId} {v : Value} {xs : List Value} (h : Es g V w N oN) (hl : look N t = .hid (bldV T e v xs)) :
    ∃ (b : Nat) (p : Value) (o2 : List Nat), V (.slot t) = .pointer (some ⟨b, 0, none⟩) ∧ w.heap[b]? = some (.cells #[p, v] T (0, 0)) ∧ R (gD w) V0 w (.fl (.own e) 1 xs) v o2 := by
  obtain ⟨o', _, hE, _⟩ := look_ER h t
  dsimp only at hE
  rw [hl] at hE
  simp only [R] at hE
  obtain ⟨b, p, o2, h1, _, h3, _, h5⟩ := hE
  exact ⟨b, p, o2, h1, h3, h5⟩
theorem op_nilCheck_bld (N : List Ent) (d : Nat) (x : Operand) (t : Nat) {T e : TypeId} {v : Value} {xs : List Value} (h : dupOp N x = .same (.slot t)) (hl : look N t = .hid (bldV T e v xs)) (hdt : d ≠ t) :
    LOp P ⟨some d, .nilCheck x, ty, pos, aft, gd⟩ N [] [(d, .ptr t 0)] [.slot d] := by
  refine LOp.value rfl (by simp [clr, hit, hdt]) rfl fun g V oN a w hp => ?_
  have hR := dupOp_R hp.val hp.esN x
  rw [h] at hR
  simp only [R] at hR
  obtain ⟨b, p, o2, h1, _⟩ := bld_look hp.esN hl
  have h2 : a.eval x = .pointer (some ⟨b, 0, none⟩) := by rw [hR.1, h1]
  refine ⟨a.eval x, ?_, by simp only [R]; exact ⟨b, h1, h2, trivial⟩⟩
  simp [execOp, h2]
theorem op_load_bld (N : List Ent) (d : Nat) {U : TypeId} {td : TypeDesc} (x : Operand) (t : Nat) {T e : TypeId} {v : Value} {xs : List Value} (hT : P.underlying U = some td) (ha : isAggD td = false) (hx : dupOp N x = .ptr t 1) (hl : look N t = .hid (bldV T e v xs)) :
    LOp P ⟨some d, .load U x, ty, pos, aft, gd⟩ N [] [(d, .v v)] [.slot d] := by
  refine LOp.v rfl fun g V oN a w hp => ?_
  have hR := dupOp_R hp.val hp.esN x
  rw [hx] at hR
  simp only [R] at hR
  obtain ⟨b, h1, h2, _⟩ := hR
  obtain ⟨b', p, o2, h3, h4, _⟩ := bld_look hp.esN hl
  rw [h1] at h3; cases h3
  have hc : w.cell? ⟨b, 1, none⟩ = some v := by rw [Lib.cell_of_heap h4]; rfl
  simp [execOp, Instr.loadAt, h2, Instr.sureAddr, run_load1 hT ha hc]
theorem op_len_bld (N : List Ent) (d : Nat) {t' u e' : TypeId} {x : Operand} (t : Nat) {T e : TypeId} {v : Value} {xs : List Value} (hT : P.underlying u = some (.slice e')) (hx : rd N x = .v v) (hl : look N t = .hid (bldV T e v xs)) :
    LOp P ⟨some d, .call ⟨.builtin .len, #[x], #[u]⟩, t', pos, aft, gd⟩ N [] [(d, .v (.int .i64 (xs.length : Int)))] [.slot d] := by
  refine LOp.v rfl fun g V oN ac w hp => ?_
  have h1 := rd_v hp.val hp.esN hx
  obtain ⟨b, p, o2, _, _, hr⟩ := bld_look hp.esN hl
  simp only [R] at hr
  obtain ⟨a, n, c, ⟨he, _⟩, hl, _⟩ := hr
  have : n = xs.length := by omega
  subst this
  simp [execOp, resolve, invoke, builtin, Builtin.len_, h1, he, run_underlying hT, goInt]
theorem op_usd (N : List Ent) (d : Nat) {t' u e' : TypeId} {x : Operand} (t : Nat) {T e : TypeId} {v : Value} {xs : List Value} (hT : P.underlying t' = some (.pointer e')) (hx : rd N x = .v v) (hl : look N t = .hid (bldV T e v xs)) :
    LOp P ⟨some d, .call ⟨.builtin .unsafeSliceData, #[x], #[u]⟩, t', pos, aft, gd⟩ N [] [(d, .hid (usdT v))] [.slot d] := by
  refine LOp.fresh rfl rfl fun g V oN ac w hp => ?_
  have h1 := rd_v hp.val hp.esN hx
  obtain ⟨b, p, o2, _, _, hr⟩ := bld_look hp.esN hl
  simp only [R, modeOk] at hr
  obtain ⟨a, n, c, ⟨rfl, _⟩, hl, _, _, hown, _⟩ := hr
  have fin : ∀ (q : Option Addr) (w2 : World), (∀ a' n' c', Value.slice a n c = .slice (some a') n' c' → n' ≠ 0 → q = some a') → Chg [] w w2 → (Builtin.unsafeSliceData_ #[u] t' #[.slice a n c]).run P w = .ok (.pointer q) w2 → Yl P ⟨some d, .call ⟨.builtin .unsafeSliceData, #[x], #[u]⟩, t', pos, aft, gd⟩ ac w fun x w' => Chg [] w w' ∧ ∃ (g' : Gh) (oG : List Nat), g.le g' ∧ (∀ b, g'.Imm b → g.Imm b ∨ (w.heap.size ≤ b ∧ b < w'.heap.size)) ∧ R g' V w' (.hid (usdT (.slice a n c))) x oG ∧ oG.Nodup ∧
        ∀ b ∈ oG, w.heap.size ≤ b ∧ b < w'.heap.size ∧ ¬ g'.Imm b := by
    intro q w2 hq hch hrun
    refine (Yl.val (by simp [execOp, resolve, invoke, builtin, h1, hrun] : (execOp ac.eval ⟨some d, .call ⟨.builtin .unsafeSliceData, #[x], #[u]⟩, t', pos, aft, gd⟩).run P w = .ok (.value (.pointer q)) w2)).mono ?_
    rintro y w' ⟨rfl, rfl⟩
    exact ⟨hch, g, [], g.le_refl, fun b hb => .inl hb, by simp only [R]; exact ⟨rfl, q, rfl, hq⟩, List.nodup_nil, by simp⟩
  cases a with
  | none => exact fin none w (fun _ _ _ h _ => by cases h) (Chg.refl _ _) (Lib.run_unsafeSliceData_nil w _ _ _ _)
  | some ad =>
    by_cases hc : c = 0
    · subst hc
      rcases hown.2 with ⟨h, _⟩ | ⟨gb, cap, cur, h, _, hg, _⟩
      · cases h
      · cases h
        refine fin (some ⟨w.heap.size, 0, none⟩) _ (fun _ _ _ h hn => ?_) (Chg.alloc [] w _) (Lib.run_unsafeSliceData_zero w _ _ e' hT _ _ (e, cur.size) (by simp [World.shape?, hg]))
        cases h; omega
    · exact fin (some ad) w (fun _ _ _ h _ => by cases h; rfl) (Chg.refl _ _) (Lib.run_unsafeSliceData_row w _ _ _ _ _ hc)
theorem op_ustr (N : List Ent) (d t : Nat) {t' u1 u2 T e : TypeId} {x y : Operand} {v : Value} {l : List Int} {s : ByteArray} (hp1 : P.underlying u1 = some (.pointer e)) (hc1 : P.cellsOf e = 1) (hx : opv N x = .hid (usdT v)) (hy : rd N y = .v (.int .i64 ((l.map (Value.int .u8)).length : Int))) (hs : Sh.strO l = some s) :
    LOp P ⟨some d, .call ⟨.builtin .unsafeString, #[x, y], #[u1, u2]⟩, t', pos, aft, gd⟩ N [(t, .hid (bldV T e v (l.map (Value.int .u8))))] [(d, .v (.string s))] [.slot d] := by
  refine LOp.core fun g V oN oT a w hd hp => ?_
  have hT := hp.esT
  obtain ⟨o', _, hxR⟩ := opv_R hp.val hp.esN x
  rw [hx] at hxR
  simp only [R] at hxR
  obtain ⟨rfl, q, hq, hqa⟩ := hxR
  have hy1 := rd_v hp.val hp.esN hy
  simp only [Es] at hT
  obtain ⟨o1, o2, rfl, ⟨hR, _⟩, rfl⟩ := hT
  simp only [R] at hR
  obtain ⟨b, p, o3, h1, rfl, h3, _, hrow⟩ := hR
  simp only [R, modeOk] at hrow
  obtain ⟨ad, n, c, ⟨rfl, hnc⟩, hln, _, hrd, hown, ho3⟩ := hrow
  have hn : n = l.length := by simpa using hln.symm
  subst hn
  unfold Sh.strO at hs
  split at hs
  case isFalse => cases hs
  rename_i hall
  cases hs
  have hbytes : ∀ z ∈ l, 0 ≤ z ∧ z < 256 := fun z hz => by simpa using List.all_eq_true.1 hall z hz
  have key : ∃ w2, (Builtin.unsafeString_ #[u1, u2] t' #[.pointer q, .int .i64 (l.length : Int)]).run P w = .ok (.string (bstr l)) w2 ∧ Chg (b :: o3) w w2 := by
    by_cases h0 : l = []
    · subst h0
      exact ⟨w, Lib.run_unsafeString_none w u1 u2 t' q, Chg.refl _ _⟩
    · have hlen : l.length ≠ 0 := by simpa using h0
      rcases hown.2 with ⟨_, hz⟩ | ⟨gb, cap, cur, hv, _, hg, hnc', hcm, hcs, _⟩
      · exact absurd hz hlen
      · cases hv
        obtain rfl := hqa _ _ _ rfl hlen
        obtain ⟨ad, e1, hcell⟩ := hrd (by simpa using h0)
        cases e1
        have hrun := Lib.run_unsafeString_row w u1 u2 t' e hp1 hc1 gb cur.size (by simp [World.shape?, hg]) (l.map fun n => UInt8.ofNat n.toNat) (by simpa using h0) (by simp only [List.length_map]; omega) (by simp only [List.length_map]; simp only [maxLen] at hcm; omega) (by
          intro j x hx
          simp only [List.getElem?_map, Option.map_eq_some_iff] at hx
          obtain ⟨z, hz, rfl⟩ := hx
          have hb := hbytes z (List.mem_of_getElem? hz)
          have := hcell j (.int .u8 z) (by simp [hz])
          rw [this]
          congr 2
          rw [UInt8.toNat_ofNat']
          omega)
        simp only [List.length_map] at hrun
        refine ⟨_, hrun, ?_⟩
        have hb3 : gb ∈ o3 := by rw [ho3]; simp [Value.ownBlock]
        unfold World.freeze
        rw [if_neg hlen]
        refine ⟨rfl, rfl, rfl, by simp, fun k _ hk => ?_⟩
        simp only
        rw [Array.getElem?_modify, if_neg (fun h => hk (by simp only [List.mem_cons]; exact .inr (h ▸ hb3)))]
  obtain ⟨w2, hrun, hch⟩ := key
  rw [List.length_map] at hy1
  refine (Yl.val (by simp [execOp, resolve, invoke, builtin, hq, hy1, hrun] : (execOp a.eval ⟨some d, .call ⟨.builtin .unsafeString, #[x, y], #[u1, u2]⟩, t', pos, aft, gd⟩).run P w = .ok (.value (.string (bstr l))) w2)).mono ?_
  rintro y w' ⟨rfl, rfl⟩
  have hlt : d < g.n := hd d rfl
  refine ⟨g, setV V d (.string (bstr l)), [], g.le_refl, fun b hb => .inl hb, fun b hb => Nat.lt_of_lt_of_le (hp.imm b (.inl hb)) hch.size, hch.mono (by simp), fun l hl => setV_hit hl, fun t => setV_val hp.val hp.size hlt t, ⟨[], [], rfl, ⟨?_, trivial⟩, rfl⟩, List.nodup_nil, by simp⟩
  show R g _ _ (.v _) (setV V d _ (.slot d)) []
  rw [setV_slot]
  simp only [R]
  exact ⟨trivial, trivial⟩
end
/-! strings.Repeat. -/
namespace Sh
def strings_Repeat (s : ByteArray) (c : Int) : Option ByteArray := if 0 ≤ c ∧ c ≤ 9223372036854775807 ∧ s.size * c.toNat ≤ 140737488355328 then some ⟨(Lib.repeatL s.data.toList c.toNat).toArray⟩ else none
end Sh
theorem lib_strings_Repeat {P : Program} {f : Nat}
    (c1 : ∀ (s : ByteArray) (c : Nat) (w : World), c ≤ 9223372036854775807 → s.size * c ≤ 140737488355328 → Calls P f #[.string s, .int .i64 c] w fun e w' => e = .returned (.string ⟨(Lib.repeatL s.data.toList c).toArray⟩) ∧ RowKit.Below w.heap.size w w')
    (s : ByteArray) (c : Int) (r : ByteArray) (h : Sh.strings_Repeat s c = some r) : FnOK P f [.v (.string s), .v (.int .i64 c)] (.v (.string r)) := by
  unfold Sh.strings_Repeat at h
  split at h
  case isFalse => cases h
  rename_i hc
  cases h
  obtain ⟨n, rfl⟩ : ∃ n : Nat, c = (n : Int) := ⟨c.toNat, by omega⟩
  simp only [Int.toNat_natCast] at hc ⊢
  intro Imm Im w xs himm hR
  have := two_vals hR
  subst this
  refine (c1 s n w (by omega) hc.2.2).mono ?_
  rintro e w' ⟨rfl, hb⟩
  exact ⟨_, rfl, ⟨hb.os, hb.tape, hb.output, hb.size, fun k hk _ => hb.block k hk⟩, Imm, [], fun _ h => h, fun _ h => .inl h, by simp [R], List.nodup_nil, by simp⟩
end Go.Abs
end
