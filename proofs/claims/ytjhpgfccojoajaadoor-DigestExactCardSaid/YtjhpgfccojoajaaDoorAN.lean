/-
  The logic of places: texts AW AX AY AZ AN.
-/
import Derived.Lib.FrozenHead
import Derived.OpenShut
import Derived.FnData
import Derived.Test.YtjhpgfccojoajaaDoorAR
section
/-
  Ranges over a function: what yields, what ranges, the rounds; told by a step of Lean on the state that the rounds leave.
-/
namespace Go.Abs
section
variable {P : Program} {Q : Exit → Act → World → Prop} {g0 : Gh} {rnd : Option Nat}
end
section
variable {P : Program} {ty : TypeId} {pos : String} {aft : Array Edge} {gd : Option (Nat × Bool)}
end
end Go.Abs
end
section
/-
  The statement 'for x := range f': its rule.
-/
namespace Go.Abs
structure RdT where
  l : Nat
  D : Nat
  fn : FuncId
  tm : Array Value
  ps : Array Tmp
  asg : Code
  bod : Code
def RdT.rc (k : RdT) (st : LoopState) (pe : Option Code) : Loop := { state := st, pending := pe, fn := k.fn, tmps := k.tm, params := k.ps, assign := k.asg, body := k.bod, defers := k.D }
def recI (l D : Nat) (rc : Loop) : InvT where
  P := fun _ _ o w => o = [l, D] ∧ l ≠ D ∧ w.heap[l]? = some (.loop rc) ∧ w.heap[D]? = some (.deferred (some []))
  stab := fun I M I' M' o w w' _ _ hw h => by
    obtain ⟨rfl, h1, h2, h3⟩ := h
    exact ⟨rfl, h1, (hw l (.inl (by simp))).trans h2, (hw D (.inl (by simp))).trans h3⟩
theorem clrEnt_nil (e : Ent) : clrEnt [] e = true := by
  simp only [clrEnt, hit, List.any_nil, List.all_nil, Bool.not_false, Bool.true_and, Bool.and_true, Bool.or_true]; exact clr_nil e.2
def calI (es : List Ent) (tm : Array Value) (l D : Nat) (rc : Loop) : InvT where
  P := fun Imm Im o w => ∃ V o1, (∀ t ∈ es.map (·.1), V (.slot t) = tm.getD t undef) ∧ o = o1 ++ [l, D] ∧ Es (gh0 w Imm Im) V w es o1 ∧ l ≠ D ∧ w.heap[l]? = some (.loop rc) ∧ w.heap[D]? = some (.deferred (some []))
  stab := fun I M I' M' o w w' hI hM hw h => by
    obtain ⟨V, o1, h1, rfl, h2, h3, h4, h5⟩ := h
    refine ⟨V, o1, h1, rfl, ?_, h3, (hw l (.inl (by simp))).trans h4, (hw D (.inl (by simp))).trans h5⟩
    exact Es_stab (W := []) (g := gh0 w I M) (g' := gh0 w' I' M') hI hM (fun _ _ => rfl) es o1 (fun e _ => clrEnt_nil e) (fun b hb => hw b (by
      rcases hb with hb | hb
      · exact .inl (by simp [hb])
      · exact .inr hb)) h2
def RdT.ready (k : RdT) : InvT := recI k.l k.D (k.rc .ready none)
def RdT.J {S O : Type} (k : RdT) (I : S → List Ent) (E : O → List Ent) : S ⊕ O → InvT
  | .inl s => calI (I s) k.tm k.l k.D (k.rc .ready none)
  | .inr o => calI (E o) k.tm k.l k.D (k.rc .done (some .ret))
section
variable {P : Program} {Q : Exit → Act → World → Prop} {g0 : Gh}
theorem Sat.rec {g : Gh} {es : List Ent} {j : Nat} {l D : Nat} {rc : Loop} (rc' : Loop) {a : Act} {w : World} (h : Sat g (es ++ [(j, .inv (recI l D rc))]) a w) :
    w.heap[l]? = some (.loop rc) ∧ Sat g (es ++ [(j, .inv (recI l D rc'))]) a (w.putObj l (.loop rc')) := by
  obtain ⟨V, o, hst, hes⟩ := h
  obtain ⟨o1, o2, rfl, h1, o3, o4, rfl, ⟨h2, _⟩, rfl⟩ := Es_append.1 hes
  simp only [R] at h2
  obtain ⟨rfl, hne, hl, hD⟩ := h2
  simp only [List.append_nil] at hst
  have hlt : l < w.heap.size := (Array.getElem?_eq_some_iff.1 hl).1
  have hown := hst.own l (by simp)
  have hnl : l ∉ o1 := fun hm => (List.nodup_append.1 hst.nodup).2.2 l hm l (by simp) rfl
  refine ⟨hl, V, o1 ++ ([l, D] ++ []), ⟨hst.val, hst.size, hst.defers, hst.dnd, fun E hE => ?_, by simpa using hst.nodup, fun b hb => ?_, fun b hb => by simpa using hst.imm b hb, ?_⟩, Es_append.2 ⟨o1, _, rfl, ?_, [l, D], [], rfl, ⟨?_, trivial⟩, rfl⟩⟩
  · obtain ⟨k1, k2, k3⟩ := hst.marks E hE
    refine ⟨(World.putObj_heap_other (fun e => k2 (by simp [e]))).trans k1, by simpa using k2, k3⟩
  · have := hst.own b (by simpa using hb)
    exact ⟨by simpa using this.1, this.2⟩
  · refine hst.chg.trans' (U := [l]) ⟨rfl, rfl, rfl, by simp, fun k _ hk => World.putObj_heap_other (by simpa using hk)⟩ (fun x hx => ?_)
    simp at hx; subst hx
    exact hown.2.1.symm
  · refine Es_stab (W := []) (fun _ h => h) (fun _ h => h) (fun _ _ => rfl) es o1 (fun e _ => clrEnt_nil e) (fun b hb => World.putObj_heap_other fun e => ?_) h1
    subst e
    rcases hb with hb | hb
    · exact hnl hb
    · exact hown.2.2 hb
  · simp only [R]
    exact ⟨rfl, hne, World.putObj_heap_same hlt, (World.putObj_heap_other (Ne.symm hne)).trans hD⟩
end
end Go.Abs
end
section
/-
  The statement 'for x := range f', after a step told in Lean.
-/
namespace Go.Abs
theorem heap_alloc (w : World) (o : Obj) (k : Nat) (hk : k < w.heap.size) : (w.alloc o).heap[k]? = w.heap[k]? := (Chg.alloc [] w o).block k hk (by simp)
section
variable {P : Program} {Q : Exit → Act → World → Prop} {g0 : Gh}
end
end Go.Abs
end
section
/-
  The row that a text's conversion makes, written into: bytes that are the call's own, with a mark behind them.
-/
namespace Go.Abs
section
variable {P : Program} {ty : TypeId} {pos : String} {aft : Array Edge} {gd : Option (Nat × Bool)}
theorem op_str_mk (N : List Ent) (d : Nat) {s t e : TypeId} (x : Operand) (str : ByteArray) {u : TypeDesc} (hs : P.underlying s = some u) (ht : P.underlying t = some (.slice e)) (he : P.underlying e = some (.int .u8))
    (hx : rd N x = .v (.string str)) :
    LOp P ⟨some d, .convert s t x, ty, pos, aft, gd⟩ N [] [(d, .mkr e (List.map (Value.int .u8) (sbytes str)))] [.slot d] := by
  refine LOp.fresh rfl rfl fun g V oN a w hp => ?_
  have h := rd_v hp.val hp.esN hx
  have hrun : (execOp a.eval ⟨some d, .convert s t x, ty, pos, aft, gd⟩).run P w = .ok (.value (.slice (some ⟨w.heap.size, 0, none⟩) str.size (grownCap w str.size 0 e))) (Lib.bytesWorld w e str) := by
    simp [execOp, h, Lib.run_convert_string_bytes w s t e str hs ht he]
  refine (Yl.val hrun).mono ?_
  rintro y w' ⟨rfl, rfl⟩
  have hcap := grownCap_ge w str.size 0 e
  have hlen : (Lib.bytesCells w e str).size = grownCap w str.size 0 e := by
    have hss : str.data.size = str.size := rfl
    simp only [Lib.bytesCells, Array.size_append, Array.size_map, Array.size_replicate]
    omega
  refine ⟨bytesWorld_chg w e str, g, [w.heap.size], g.le_refl, fun b hb => .inl hb, ?_, by simp, fun b hb => ?_⟩
  · simp only [R]
    refine ⟨w.heap.size, str.size, _, Lib.bytesCells w e str, _, rfl, hcap, by simp [sbytes], by intro v hv; obtain ⟨n, _, rfl⟩ := List.mem_map.1 hv; rfl, Lib.bytesWorld_at_new w e str, Nat.le_refl _, by omega, ?_, rfl⟩
    simp only [Lib.bytesCells, Array.toList_append, Array.toList_map]
    rw [List.take_append_of_le_length (by simp), List.take_of_length_le (by simp)]
    simp [sbytes, Function.comp_def]
  · simp only [List.mem_singleton] at hb
    subst hb
    refine ⟨Nat.le_refl _, by rw [Lib.bytesWorld_size]; omega, fun hi => ?_⟩
    have := hp.imm _ (.inl hi); omega
end
end Go.Abs
end
section
/-
  The library of places, whole; strings.Index at a separator of one byte, strings.IndexByte; a struct out of a tuple.
-/
namespace Go.Abs
namespace Sh
def strings_Index (s sep : ByteArray) : Option Int := match sep.data.toList with
  | [c] => some (Lib.indexByte s.data.toList c)
  | _ => none
@[reducible] def internal_stringslite_Index (s sep : ByteArray) : Option Int := strings_Index s sep
def strings_IndexByte (s : ByteArray) (c : Int) : Option Int := some (Lib.indexByte s.data.toList c.toNat.toUInt8)
@[reducible] def internal_stringslite_IndexByte (s : ByteArray) (c : Int) : Option Int := strings_IndexByte s c
end Sh
section
variable {P : Program} {ty : TypeId} {pos : String} {aft : Array Edge} {gd : Option (Nat × Bool)}
theorem op_ix_globz (N : List Ent) (d : Nat) {T e : TypeId} (x y : Operand) {kd : IntKind} (n b k i z : Nat) (m : Int) (hT : P.underlying T = some (.array n e)) (hz : (P.info? e).map (·.size) = some z)
    (hx : rd N x = .v (.pointer (some ⟨b, k, none⟩))) (hy : rd N y = .v (.int kd m)) (hm : m = (i : Int)) (hi : i < n) : LOp P ⟨some d, .indexAddr T x y, ty, pos, aft, gd⟩ N [] [(d, .v (.pointer (some ⟨b, k + i * z, none⟩)))] [.slot d] := by
  subst hm
  refine LOp.v rfl fun g V oN a w hp => ?_
  have h2 := rd_v hp.val hp.esN hx
  have h3 := rd_v hp.val hp.esN hy
  simp [execOp, Instr.indexAt, Sem.run_bind, run_underlying hT, h2, h3, asIntOf, Instr.sureAddr, run_sizeOf' hz, hi, add_flat]
theorem run_slice_arr {w : World} {T e : TypeId} {n b z : Nat} (hT : P.underlying T = some (.array n e)) (hz : (P.info? e).map (·.size) = some z) :
    (Instr.sliceAt T (.pointer (some ⟨b, 0, none⟩)) none none none).run P w = .ok (.slice (some ⟨b, 0, none⟩) n n) w := by
  simp [Instr.sliceAt, Instr.sureAddr, run_underlying hT, Instr.sliceBounds, Sem.run_bind, run_sizeOf' hz, add_flat]
theorem op_slice_asl (N : List Ent) (d t n : Nat) {T e : TypeId} (x : Operand) (hT : P.underlying T = some (.array n e)) (hz : (P.info? e).map (·.size) = some 1)
    (hx : dupOp N x = .ptr t 0) (hdt : d ≠ t) :
    LOp P ⟨some d, .slice T x none none none, ty, pos, aft, gd⟩ N [] [(d, .asl t n)] [.slot d] := by
  refine LOp.value rfl (by simp [clr, hit]; exact hdt) rfl fun g V oN a w hp => ?_
  have hax := dupOp_R hp.val hp.esN x
  rw [hx] at hax
  simp only [R] at hax
  obtain ⟨b, h1, h2, _⟩ := hax
  refine ⟨.slice (some ⟨b, 0, none⟩) n n, ?_, by simp only [R]; exact ⟨b, h1, rfl, trivial⟩⟩
  have := run_slice_arr (P := P) (w := w) (b := b) hT hz
  simp [execOp, h2, this]
theorem op_slice_frz (N : List Ent) (d t n : Nat) {T T' e : TypeId} {vs : List Value} (x : Operand) (hT : P.underlying T = some (.array n e)) (hz : (P.info? e).map (·.size) = some 1)
    (hx : dupOp (N ++ [(t, .arr T' vs)]) x = .ptr t 0) (hl : vs.length = n) (h1 : ∀ u ∈ vs, u.oneCell' = true) :
    LOp P ⟨some d, .slice T x none none none, ty, pos, aft, gd⟩ N [(t, .arr T' vs)] [(t, .any), (d, .fl .ro 1 vs)] [.slot d] := by
  refine LOp.core fun g V oN oT a w hd hp => ?_
  have hT' := hp.esT
  have hax := dupOp_R hp.val (Es_append.2 ⟨oN, _, rfl, hp.esN, hT'⟩) x
  simp only [Es] at hT'
  obtain ⟨ob, o2, rfl, ⟨hR, _⟩, rfl⟩ := hT'
  rw [hx] at hax
  simp only [R] at hax hR
  obtain ⟨b, h3, h4, _⟩ := hax
  obtain ⟨b', h5, rfl, hh⟩ := hR
  have h5' : V (.slot t) = .pointer (some ⟨b', 0, none⟩) := h5
  rw [h5'] at h3; cases h3
  have hrun : (execOp a.eval ⟨some d, .slice T x none none none, ty, pos, aft, gd⟩).run P w = .ok (.value (.slice (some ⟨b, 0, none⟩) n n)) w := by
    have := run_slice_arr (P := P) (w := w) (b := b) hT hz
    simp [execOp, h4, this]
  refine (Yl.val hrun).mono ?_
  rintro v w' ⟨rfl, rfl⟩
  have hlt : d < g.n := hd d rfl
  have hob := hp.own b (by simp)
  refine ⟨{ g with Imm := fun c => g.Imm c ∨ c = b }, setV V d _, [], ⟨rfl, rfl, rfl, rfl, rfl, fun _ h => .inl h, fun c hc => ?_⟩, fun c hc => ?_, fun c hc => ?_, Chg.refl _ _, fun l hl => setV_hit hl, fun u => setV_val hp.val hp.size hlt u, ?_, by simp, by simp⟩
  · rcases hc with hc | rfl
    · exact .inl hc
    · exact .inr (hp.own2 _ (by simp))
  · rcases hc with hc | rfl
    · exact .inl hc
    · exact .inr (.inl (by simp))
  · rcases hc with hc | rfl
    · exact hp.imm c (.inl hc)
    · exact hob.1
  · refine ⟨[], [], rfl, ⟨by simp [R], trivial⟩, [], [], rfl, ⟨?_, trivial⟩, rfl⟩
    show R _ _ _ _ (setV V d _ (.slot d)) _
    rw [setV_slot]
    simp only [R, modeOk]
    refine ⟨some ⟨b, 0, none⟩, n, n, ⟨rfl, Nat.le_refl _⟩, by omega, h1, fun _ => ⟨_, rfl, fun j u hj => ?_⟩, trivial, fun _ => ⟨_, rfl, .inr rfl⟩⟩
    rw [add_flat, cell_of_row _ b _ _ T' (0, 0) hh]; simpa using hj
theorem op_copy_arr (N : List Ent) (d t n : Nat) {T T2 T' e t' : TypeId} (x y : Operand) {my : Md} {xs ys us : List Value} (hu : P.underlying T = some (.slice e)) (hz : (P.info? e).map (·.size) = some 1)
    (hx : dupOp (N ++ [(t, .arr T' xs)]) x = .asl t n) (hl : xs.length = n) (hy : rd N y = .fl my 1 ys) (hdt : d ≠ t) (hus : ys.take (min ys.length n) ++ xs.drop (min ys.length n) = us) :
    LOp P ⟨some d, .call ⟨.builtin .copy, #[x, y], #[T, T2]⟩, t', pos, aft, gd⟩ N [(t, .arr T' xs)]
      [(t, .arr T' us), (d, .v (.int .i64 ((min ys.length n : Nat) : Int)))] [.slot d] := by
  subst hus
  refine LOp.core fun g V oN oT a w hd hp => ?_
  have hT' := hp.esT
  have hax := dupOp_R hp.val (Es_append.2 ⟨oN, _, rfl, hp.esN, hT'⟩) x
  simp only [Es] at hT'
  obtain ⟨ob, o2, rfl, ⟨hR, _⟩, rfl⟩ := hT'
  rw [hx] at hax
  simp only [R] at hax hR
  obtain ⟨b, h3, h4, _⟩ := hax
  obtain ⟨b, h5, rfl, hh⟩ := hR
  have h5' : V (.slot t) = .pointer (some ⟨b, 0, none⟩) := h5
  rw [h5'] at h3; cases h3
  obtain ⟨o', _, hr⟩ := rd_R hp.val hp.esN y
  rw [hy] at hr
  simp only [R] at hr
  obtain ⟨A, m', c, ⟨he, _⟩, hlm, hone, hrd, _⟩ := hr
  simp only [Nat.mul_one] at hlm
  have hst0 : ∀ (a : Addr), storeCells a [] = pure () := fun a => by simp [storeCells]
  have key : ∃ w', (Builtin.copy_ #[T, T2] t' #[.slice (some ⟨b, 0, none⟩) n n, .slice A m' c]).run P w = .ok (goInt (min m' n : Nat)) w' ∧ w'.heap[b]? = some (.cells (ys.take (min m' n) ++ xs.drop (min m' n)).toArray T' (0, 0)) ∧ Chg [b] w w' := by
    cases A with
    | none =>
      have : ys = [] := by
        apply Classical.byContradiction
        intro hne
        obtain ⟨ad, e, _⟩ := hrd hne
        cases e
      subst this
      simp at hlm; subst hlm
      refine ⟨w, ?_, by simpa using hh, Chg.refl _ _⟩
      simp [Builtin.copy_, run_underlying hu, Builtin.lenOf, Builtin.firstCells, run_sizeOf' hz, storeCells]
    | some a0 =>
      have hl2 : (ys.take (min m' n)).length = min m' n := by simp; omega
      have hrun := run_copy_row (P := P) w T T2 t' e b 0 n n a0 m' c xs.toArray T' (ys.take (min m' n)) hu hz hh (by rw [hl2])
        (fun j v hj => by
          rw [List.getElem?_take] at hj
          split at hj
          · obtain ⟨ad, e, hc⟩ := hrd (fun e => by subst e; simp at hj)
            cases e
            exact hc j v hj
          · cases hj)
        (by rw [hl2]; simp; omega) (fun v hv => hone v (List.mem_of_mem_take hv))
      rw [hl2] at hrun
      refine ⟨_, hrun, ?_, setRow_chg _ _ _⟩
      refine (setRow_heap w b _ _ T' _ hh).trans ?_
      simp
  obtain ⟨w', hrun, hh', hchg⟩ := key
  have hrun' : (execOp a.eval ⟨some d, .call ⟨.builtin .copy, #[x, y], #[T, T2]⟩, t', pos, aft, gd⟩).run P w = .ok (.value (goInt (min m' n : Nat))) w' := by
    simp [execOp, resolve, invoke, builtin, he, h4, hrun]
  refine (Yl.val hrun').mono ?_
  rintro v w2 ⟨rfl, rfl⟩
  have hlt : d < g.n := hd d rfl
  have hob := hp.own b (by simp)
  rw [hlm]
  refine ⟨g, setV V d _, [b], g.le_refl, fun c hc => .inl hc, fun c hc => Nat.lt_of_lt_of_le (hp.imm c (.inl hc)) hchg.size, by simpa using hchg, fun l hl => setV_hit hl, fun u => setV_val hp.val hp.size hlt u, ?_, by simp, fun c hc => ?_⟩
  · refine ⟨[b], [], by simp, ⟨?_, trivial⟩, [], [], rfl, ⟨?_, trivial⟩, rfl⟩
    · show R g _ _ _ (setV V d _ (.slot t)) _
      have : setV V d (goInt (min m' n : Nat)) (.slot t) = V (.slot t) := by simp only [setV]; rw [if_neg fun e => hdt e.symm]
      rw [this]
      simp only [R]
      exact ⟨b, h5', rfl, hh'⟩
    · show R g _ _ _ (setV V d _ (.slot d)) _
      rw [setV_slot]; simp [R, goInt]
  · simp only [List.mem_singleton] at hc
    subst hc
    exact ⟨.inl (by simp), Nat.lt_of_lt_of_le hob.1 hchg.size, hob.2⟩
theorem op_cp_arr {A : Type} {f : A → Value} (N : List Ent) (d t n : Nat) {T T2 T' e t' : TypeId} (x y : Operand) {my : Md} (l m : List A) (hu : P.underlying T = some (.slice e)) (hz : (P.info? e).map (·.size) = some 1)
    (hx : dupOp (N ++ [(t, .arr T' (l.map f))]) x = .asl t n) (hl : l.length = n) (hy : rd N y = .fl my 1 (m.map f)) (hdt : d ≠ t) :
    LOp P ⟨some d, .call ⟨.builtin .copy, #[x, y], #[T, T2]⟩, t', pos, aft, gd⟩ N [(t, .arr T' (l.map f))] [(t, .arr T' ((copyL l m).map f)), (d, .v (.int .i64 (copyN l m)))] [.slot d] := by
  have := op_copy_arr (P := P) (pos := pos) (aft := aft) (gd := gd) N d t n (T2 := T2) (t' := t') x y hu hz hx (by simpa using hl) hy hdt rfl
  subst hl
  simpa [copyL, copyN, List.map_take, List.map_drop] using this
def mkcO (by_ : Nat) (c : Int) : Option Unit := if 0 ≤ c ∧ by_ * c.toNat ≤ 140737488355328 then some () else none
theorem op_mk0 (N : List Ent) (d : Nat) {T e : TypeId} (x y : Operand) {kl kc : IntKind} {c : Int} {u : Unit} {by_ : Nat} (hE : ElemT P T e 1 by_) (h0 : 0 < by_)
    (hx : rd N x = .v (.int kl 0)) (hy : rd N y = .v (.int kc c)) (hq : mkcO by_ c = some u) :
    LOp P ⟨some d, .makeSlice T x y, ty, pos, aft, gd⟩ N [] [(d, .fl (.own e) 1 [])] [.slot d] := by
  obtain ⟨i, zv, hT, hi, hz', hs, hzc, _, rfl⟩ := hE.ex
  unfold mkcO at hq
  split at hq
  · rename_i h
    obtain ⟨n, rfl⟩ : ∃ n : Nat, c = (n : Int) := ⟨c.toNat, by omega⟩
    have hb2 := h.2
    simp only [Int.toNat_natCast] at hb2
    have hn : n ≤ maxLen := by
      have := Nat.le_mul_of_pos_left n h0
      simp only [maxLen]; omega
    refine LOp.fresh rfl rfl fun g V oN a w hp => ?_
    have h1 := rd_v hp.val hp.esN hx
    have h2 := rd_v hp.val hp.esN hy
    have hb' : (i.bytes : Int) * (n : Int) ≤ 281474976710656 := by
      have h : ((i.bytes * n : Nat) : Int) ≤ 281474976710656 := by omega
      rwa [Int.natCast_mul] at h
    have hr := run_make (P := P) w T e i zv hT hi hz' kl kc 0 n (by omega) (by omega) hb' (by simp only [maxLen] at hn; omega)
    simp only [Int.toNat_natCast, Int.toNat_zero] at hr
    refine (Yl.val (by simp [execOp, h1, h2, hr] : (execOp a.eval ⟨some d, .makeSlice T x y, ty, pos, aft, gd⟩).run P w = .ok (.value (.slice (some ⟨w.heap.size, 0, none⟩) 0 n)) (w.alloc (.cells (madeCells zv.cells (n * i.size)) e)))).mono ?_
    rintro v w2 ⟨rfl, rfl⟩
    have hnew := heap_alloc_new w (.cells (madeCells zv.cells (n * i.size)) e)
    have hown : (w.alloc (.cells (madeCells zv.cells (n * i.size)) e)).ownsRow 0 e 1 (.slice (some ⟨w.heap.size, 0, none⟩) 0 n) 0 [] := by
      refine ⟨rfl, .inr ⟨w.heap.size, n, _, rfl, Nat.zero_le _, hnew, Nat.zero_le _, hn, ?_, by simp⟩⟩
      rw [size_madeCells, hs]
    refine ⟨(Chg.of_grown (World.grownBy_alloc w _ none)).mono (by simp), g, [w.heap.size], g.le_refl, fun b hb => .inl hb, ?_, by simp, ?_⟩
    · exact own_fl hown (by simp)
    · intro b hb
      simp at hb; subst hb
      exact ⟨Nat.le_refl _, (hown.lt _ rfl).2, fun hi => Nat.lt_irrefl _ (hp.imm _ (.inl hi))⟩
  · cases hq
end
/-! Tables that are laid before the call. -/
theorem int_cells {H : Type} {enc : TypeId × Value → H} {P : Program} {w : World} {base : Nat} {spare : Nat → Bool} {held : Bool} {fuel t : Nat} {k : IntKind} {x : Int} {cs : List Value} {p : List MemPlace} (ht : P.underlying t = some (.int k))
    (h : DataW.trod enc P w base spare held fuel t cs = some (.lit (.int k x), p)) : cs = [.int k x] := by
  obtain ⟨n, h1, h2, _⟩ := DataW.trod_int ht h
  have h3 : n = x := by simpa using (Prod.mk.inj h2).1.symm
  rw [h1, h3]
theorem pieces_all {α : Type} (c : Nat) : ∀ (rs : List (List α)) (cs : List α), cs.length = rs.length * c → (∀ (i : Nat) (r : List α), rs[i]? = some r → (cs.drop (i * c)).take c = r) → cs = rs.flatten
  | [], cs, hl, _ => by simpa using hl
  | r :: rs, cs, hl, h => by
    have h0 := h 0 r rfl
    simp only [Nat.zero_mul, List.drop_zero] at h0
    have ih := pieces_all c rs (cs.drop c) (by simp only [List.length_drop, hl, List.length_cons, Nat.succ_mul]; omega) (fun i q hq => by
      have := h (i + 1) q (by simpa using hq)
      rw [List.drop_drop]
      rwa [Nat.succ_mul, Nat.add_comm] at this)
    rw [List.flatten_cons, ← ih, ← h0, List.take_append_drop]
theorem flat1x {α β : Type} (f : α → β) : ∀ l : List α, (l.map fun x => [f x]).flatten = l.map f
  | [] => rfl
  | a :: l => by simp [flat1x f l]
theorem tab1 {H : Type} {enc : TypeId × Value → H} {P : Program} {w : World} {base : Nat} {spare : Nat → Bool} {held : Bool} {fuel t e n : Nat} {k : IntKind} {ns : List Int} {cs : List Value} {p : List MemPlace}
    (ht : P.underlying t = some (.array n e)) (he : P.underlying e = some (.int k)) (hc : P.cellsOf e = 1) (hn : P.cellsOf t = n)
    (h : DataW.trod enc P w base spare held fuel t cs = some (.agg (ns.map fun x => .lit (.int k x)), p)) : cs = ns.map (Value.int k) := by
  obtain ⟨xs, m, _, hx, hl, hxs, hel⟩ := DataW.trod_array ht h
  have hx' : xs.map (·.1) = ns.map fun x => (.lit (.int k x) : DataW H) := (DataW.agg.inj (Prod.mk.inj hx).1).symm
  have hln : ns.length = n := by have := congrArg List.length hx'; simp only [List.length_map] at this; omega
  have := pieces_all 1 (ns.map fun x => [Value.int k x]) cs (by simp only [List.length_map]; omega) (fun i r hr => by
    simp only [List.getElem?_map, Option.map_eq_some_iff] at hr
    obtain ⟨x, hx1, rfl⟩ := hr
    have hi : i < n := by have := (List.getElem?_eq_some_iff.1 hx1).1; omega
    have h1 := hel i hi
    rw [hc] at h1
    have h2 : (xs.map (·.1))[i]? = some (.lit (.int k x)) := by rw [hx']; simp [hx1]
    rw [List.getElem?_map, Option.map_eq_some_iff] at h2
    obtain ⟨⟨y, q⟩, h3, h4⟩ := h2
    rw [h3] at h1
    cases h4
    exact int_cells he h1)
  rw [this, flat1x]
theorem tab2 {H : Type} {enc : TypeId × Value → H} {P : Program} {w : World} {base : Nat} {spare : Nat → Bool} {held : Bool} {fuel t e i n m : Nat} {k : IntKind} {nss : List (List Int)} {cs : List Value} {p : List MemPlace}
    (ht : P.underlying t = some (.array n e)) (he : P.underlying e = some (.array m i)) (hi : P.underlying i = some (.int k)) (hc : P.cellsOf i = 1) (hm : P.cellsOf e = m) (hn : P.cellsOf t = n * m)
    (h : DataW.trod enc P w base spare held fuel t cs = some (.agg (nss.map fun ns => .agg (ns.map fun x => .lit (.int k x))), p)) : cs = nss.flatten.map (Value.int k) := by
  obtain ⟨xs, f, _, hx, hl, hxs, hel⟩ := DataW.trod_array ht h
  have hx' : xs.map (·.1) = nss.map fun ns => (.agg (ns.map fun x => .lit (.int k x)) : DataW H) := (DataW.agg.inj (Prod.mk.inj hx).1).symm
  have hln : nss.length = n := by have := congrArg List.length hx'; simp only [List.length_map] at this; omega
  have := pieces_all m (nss.map fun ns => ns.map (Value.int k)) cs (by simp only [List.length_map]; rw [hl, hn, hln]) (fun j r hr => by
    simp only [List.getElem?_map, Option.map_eq_some_iff] at hr
    obtain ⟨x, hx1, rfl⟩ := hr
    have hi' : j < n := by have := (List.getElem?_eq_some_iff.1 hx1).1; omega
    have h1 := hel j hi'
    rw [hm] at h1
    have h2 : (xs.map (·.1))[j]? = some (.agg (x.map fun x => .lit (.int k x))) := by rw [hx']; simp [hx1]
    rw [List.getElem?_map, Option.map_eq_some_iff] at h2
    obtain ⟨⟨y, q⟩, h3, h4⟩ := h2
    rw [h3] at h1
    cases h4
    exact tab1 he hi hc hm h1)
  rw [this, List.map_flatten]
theorem laid_cells {P : Program} {W : World} {n : String} {g : Nat} {cs : Array Value} {vs : List Value} (hg : P.globalNamed n = some g) (hv : W.var? P n = some cs) (h : cs.toList = vs) :
    ∀ j u, vs[j]? = some u → W.cell? ⟨g, j, none⟩ = some u := by
  intro j u hu
  rw [World.var?_cell hg hv j, ← hu, ← h]
  simp
end Go.Abs
end
