/-
  The logic of places: texts AR AS AT AU AV.
-/
import Derived.Lib.IndexLaws
import Derived.Lib.Bytes
import Derived.Deep.Draws
import Derived.Laws.Pointers
import Derived.SizedLaws
import Derived.Test.YtbioodcjmceefaaAL
section
/-
  Package-level variables that are never written: known to a call, read, handed on to the calls that it makes.
-/
namespace Go.Abs
def GOK (gl : List (Nat × List Value)) (I : Nat → Prop) (w : World) : Prop := ∀ p ∈ gl, I p.1 ∧ ∀ j, w.cell? ⟨p.1, j, none⟩ = p.2[j]?
def FnG (P : Program) (gl : List (Nat × List Value)) (f : FuncId) (args : List AV) (res : AV) : Prop :=
  ∀ (Imm Im : Nat → Prop) (w : World) (xs : List Value), (∀ b, Imm b ∨ Im b → b < w.heap.size) → GOK gl (fun b => Imm b ∨ Im b) w → Rs (gh0 w Imm Im) V0 w args xs [] → Calls P f xs.toArray w (Ans Imm Im w res)
theorem FnG.args {P : Program} {gl : List (Nat × List Value)} {f : FuncId} {as bs : List AV} {res : AV} (h : FnG P gl f as res) (hs : Subs bs as) : FnG P gl f bs res := by
  intro Imm Im w xs himm hg hR
  exact h Imm Im w xs himm hg (hs _ _ _ _ _ hR)
section
variable {P : Program} {Q : Exit → Act → World → Prop} {g0 : Gh} {rnd : Option Nat}
end
section
variable {P : Program} {ty : TypeId} {pos : String} {aft : Array Edge} {gd : Option (Nat × Bool)}
end
end Go.Abs
end
section
/-
  The library's functions, told in Lean; what their contracts come to.
-/
namespace Go.Abs
def byt (l : List Int) : Prop := ∀ x ∈ l, 0 ≤ x ∧ x < 256
instance (l : List Int) : Decidable (byt l) := by unfold byt; infer_instance
namespace Sh
end Sh
end Go.Abs
end
section
/-
  Pointers that may be nil: a call's answer that is a pointer to a new struct, or nil.
-/
namespace Go.Abs
def obS {E R : Type} : Option E → (E → Option R) → Option R → Option R
  | some x, f, _ => f x
  | none, _, n => n
section
variable {g : Gh} {V : Loc → Value} {w : World}
theorem sub_ob_nil (T : TypeId) (cs : List AV) : Sub (.v (.pointer none)) (.obox false T cs) := fun g V w x o h => by
  simp only [R] at *
  exact ⟨fun h => (by cases h), fun _ => h⟩
theorem sub_ob_box (T : TypeId) {cs ds : List AV} (hs : Subs cs ds) : Sub (.box T cs) (.obox true T ds) := fun g V w x o h => by
  simp only [R] at *
  obtain ⟨b, xs, os, h1, h2, h3, h4⟩ := h
  exact ⟨fun _ => ⟨b, xs, os, h1, h2, h3, hs _ _ _ _ _ h4⟩, fun h => by cases h⟩
theorem sat_unbox {a : Act} {es1 es2 : List Ent} {t n : Nat} {T : TypeId} {cs : List AV} (hn : cs.length = n) (hcl : (es1 ++ es2).all (clrEnt (cellsW t 0 n)) = true) (hcs : clrs (cellsW t 0 n) cs = true)
    (h : Sat g (es1 ++ (t, .obox true T cs) :: es2) a w) : Sat g (es1 ++ (t, .box T cs) :: es2) a w := by
  subst hn
  obtain ⟨V, o, hst, hes⟩ := h
  obtain ⟨o1, o2', rfl, h1, h2'⟩ := Es_append.1 hes
  obtain ⟨o3, o2, rfl, ⟨h3, _⟩, h2⟩ := h2'
  simp only [R] at h3
  obtain ⟨b, xs, os, hx, rfl, hh, hrs⟩ := h3.1 trivial
  have hl := Rs_length hrs
  have hV' : ∀ l, hit (cellsW t 0 cs.length) l = false → setC V t 0 xs l = V l := fun l hl' => setC_hit (by rw [hl]; exact hl')
  simp only [List.all_eq_true, List.mem_append] at hcl
  refine ⟨setC V t 0 xs, _, ⟨fun u => hst.val u, hst.size, hst.defers, hst.dnd, hst.marks, hst.nodup, hst.own, hst.imm, hst.chg⟩, Es_append.2 ⟨o1, _, rfl, ?_, ?_⟩⟩
  · exact Es_stab (W := cellsW t 0 cs.length) (fun _ h => h) (fun _ h => h) hV' es1 o1 (fun e he => hcl e (.inl he)) (fun _ _ => rfl) h1
  · refine ⟨b :: os, o2, rfl, ⟨?_, ?_⟩, Es_stab (W := cellsW t 0 cs.length) (fun _ h => h) (fun _ h => h) hV' es2 o2 (fun e he => hcl e (.inr he)) (fun _ _ => rfl) h2⟩
    · simp only [R, setC]
      exact ⟨b, xs, os, hx, rfl, hh, Rs_stab (W := cellsW t 0 cs.length) (fun _ h => h) (fun _ h => h) hV' cs xs os hcs (fun _ _ => rfl) hrs⟩
    · intro b' hb' i hi
      simp only [setC] at hb'
      rw [hx] at hb'; cases hb'
      rw [cell_of_row w b i _ T (0, 0) hh]
      simp only [List.getElem?_toArray, setC, true_and, Nat.zero_le, Nat.zero_add, Nat.sub_zero]
      have : i < xs.length := by rw [hl]; exact hi
      rw [if_pos this]
      simp [List.getD_eq_getElem?_getD, List.getElem?_eq_getElem this]
theorem sat_unnil {a : Act} {es1 es2 : List Ent} {t : Nat} {T : TypeId} {cs : List AV} (h : Sat g (es1 ++ (t, .obox false T cs) :: es2) a w) : Sat g (es1 ++ (t, .v (.pointer none)) :: es2) a w := by
  obtain ⟨V, o, hst, hes⟩ := h
  obtain ⟨o1, o2', rfl, h1, h2'⟩ := Es_append.1 hes
  obtain ⟨o3, o2, rfl, ⟨h3, _⟩, h2⟩ := h2'
  simp only [R] at h3
  obtain ⟨hx, rfl⟩ := h3.2 trivial
  refine ⟨V, _, hst, Es_append.2 ⟨o1, _, rfl, h1, [], o2, rfl, ⟨?_, trivial⟩, h2⟩⟩
  simp only [R]
  exact ⟨hx, trivial⟩
end
section
variable {P : Program}
theorem FnP.args {f : FuncId} {args args' posts : List AV} {res : AV} (h : FnP P f args' posts res) (hs : Subs args args') : FnP P f args posts res := fun Imm Im w xs o0 hi hr => h Imm Im w xs o0 hi (hs _ _ _ _ _ hr)
theorem FnE.args {f : FuncId} {args args' : List AV} {res : AV} (h : FnE P f args' res) (hs : Subs args args') : FnE P f args res := fun Imm Im w xs o0 hi hr => h Imm Im w xs o0 hi (hs _ _ _ _ _ hr)
end
section
variable {Q : Exit → Act → World → Prop} {g0 : Gh} {rnd : Option Nat}
theorem pt_ob {E R : Type} {e : Option E} {d : E} {f : E → List AV} {r : R} {A : E → Option R} {B : Option R} {es : List Ent} (i n t : Nat) (T : TypeId) (h : obS e A B = some r)
    {es1 : E → List Ent} {es0 : List Ent} (he : es.take i ++ (t, .obox e.isSome T (f (e.getD d))) :: es.drop (i + 1) = es) (hn : ∀ x, (f x).length = n)
    (hcl : (es.take i ++ es.drop (i + 1)).all (clrEnt (cellsW t 0 n)) = true) (hcs : ∀ x, clrs (cellsW t 0 n) (f x) = true)
    (he1 : ∀ x, es.take i ++ (t, .box T (f x)) :: es.drop (i + 1) = es1 x) (he0 : es.take i ++ (t, .v (.pointer none)) :: es.drop (i + 1) = es0)
    (hs : ∀ x, e = some x → A x = some r → PT Q g0 .normal (es1 x)) (hz : e = none → B = some r → PT Q g0 .normal es0) : PT Q g0 .normal es := by
  intro g a w hg hsat
  rw [← he] at hsat
  cases e with
  | some x =>
    refine hs x rfl h g a w hg ?_
    rw [← he1]
    exact sat_unbox (hn x) hcl (hcs x) hsat
  | none =>
    refine hz rfl h g a w hg ?_
    rw [← he0]
    exact sat_unnil hsat
end
section
variable {P : Program} {ty : TypeId} {pos : String} {aft : Array Edge} {gd : Option (Nat × Bool)}
theorem ptr_guard (op : BinOp) (t : TypeId) (x y : Operand) (p q : Option Addr) : eqGuard op t x y (.pointer p) (.pointer q) = pure () := by unfold eqGuard; cases op <;> simp
theorem op_pnil (N : List Ent) (d : Nat) {t t' : TypeId} {x y : Operand} {u off : Nat} (neg : Bool) (hT : P.underlying t = some (.pointer (P.pointee t))) (hx : dupOp N x = .ptr u off) (hy : rd N y = .v (.pointer none)) :
    LOp P ⟨some d, .binOp (if neg then .neq else .eql) t x y t', ty, pos, aft, gd⟩ N [] [(d, .v (.bool neg))] [.slot d] := by
  refine LOp.v rfl fun g V oN ac w hp => ?_
  have h1 := dupOp_R hp.val hp.esN x
  rw [hx] at h1
  simp only [R] at h1
  obtain ⟨b, _, h1, _⟩ := h1
  have h2 := rd_v hp.val hp.esN hy
  cases neg
  · have := run_eql_pointer_nil (P := P) (w := w) t (some ⟨b, off, none⟩) hT
    simp only [execOp, h1, h2, Sem.run_bind, ptr_guard, Bool.false_eq_true, if_false]
    simp [this]
  · have := run_neq_pointer_nil (P := P) (w := w) t (some ⟨b, off, none⟩) hT
    simp only [execOp, h1, h2, Sem.run_bind, ptr_guard, if_true]
    simp [this]
theorem op_nilnil (N : List Ent) (d : Nat) {t t' : TypeId} {x y : Operand} (neg : Bool) (hT : P.underlying t = some (.pointer (P.pointee t))) (hx : rd N x = .v (.pointer none)) (hy : rd N y = .v (.pointer none)) :
    LOp P ⟨some d, .binOp (if neg then .neq else .eql) t x y t', ty, pos, aft, gd⟩ N [] [(d, .v (.bool (!neg)))] [.slot d] := by
  refine LOp.v rfl fun g V oN ac w hp => ?_
  have h1 := rd_v hp.val hp.esN hx
  have h2 := rd_v hp.val hp.esN hy
  cases neg
  · have := run_eql_pointer_nil (P := P) (w := w) t none hT
    simp only [execOp, h1, h2, Sem.run_bind, ptr_guard, Bool.false_eq_true, if_false]
    simp [this]
  · have := run_neq_pointer_nil (P := P) (w := w) t none hT
    simp only [execOp, h1, h2, Sem.run_bind, ptr_guard, if_true]
    simp [this]
theorem op_move_name (N : List Ent) (d t : Nat) (hcl : hit [.slot d] (.slot t) = false) : LOp P ⟨some d, .move (.tmp t), ty, pos, aft, gd⟩ N [] [(d, .same (.slot t))] [.slot d] :=
  LOp.value rfl (by simp [clr, hcl]) rfl fun g V oN a w hp => ⟨a.eval (.tmp t), by simp [execOp, pure], by simp only [R, Act.eval, hp.val]; exact ⟨trivial, trivial⟩⟩
theorem op_nilCheck_name (N : List Ent) (d : Nat) (x : Operand) (t : Nat) {T : TypeId} {cs : List AV} (h : dupOp N x = .same (.slot t)) (hb : look N t = .box T cs) (hdt : d ≠ t) :
    LOp P ⟨some d, .nilCheck x, ty, pos, aft, gd⟩ N [] [(d, .ptr t 0)] [.slot d] := by
  refine LOp.value rfl (by simp [clr, hit, hdt]) rfl fun g V oN a w hp => ?_
  have hR := dupOp_R hp.val hp.esN x
  rw [h] at hR
  simp only [R] at hR
  obtain ⟨o', _, hE, _⟩ := look_ER hp.esN t
  dsimp only at hE
  rw [hb] at hE
  simp only [R] at hE
  obtain ⟨b, xs, os, h1, _⟩ := hE
  have h2 : a.eval x = .pointer (some ⟨b, 0, none⟩) := by rw [hR.1, h1]
  refine ⟨a.eval x, ?_, by simp only [R]; exact ⟨b, h1, h2, trivial⟩⟩
  simp [execOp, h2]
end
end Go.Abs
end
section
/-
  An own row is cut: x = x[:k] in a variable; an append of rows to a cell.
-/
namespace Go.Abs
section
variable {g : Gh} {V : Loc → Value} {w : World}
theorem Rs_set {c c' : AV} {v : Value} : ∀ {i : Nat} {cs : List AV} {xs : List Value} {o : List Nat}, Rs g V w cs xs o → cs[i]? = some c → (∀ x o, xs[i]? = some x → R g V w c x o → ∃ o', o'.Sublist o ∧ R g V w c' v o') →
    ∃ o', o'.Sublist o ∧ Rs g V w (cs.set i c') (xs.set i v) o'
  | 0, cs, xs, o, h, hc, hk => by
    cases cs with
    | nil => simp at hc
    | cons c0 cs =>
      simp only [List.getElem?_cons_zero, Option.some.injEq] at hc
      subst hc
      simp only [Rs] at h
      obtain ⟨x, xs', o1, o2, rfl, rfl, h1, h2⟩ := h
      obtain ⟨o', s1, s2⟩ := hk x o1 rfl h1
      refine ⟨o' ++ o2, s1.append_right o2, ?_⟩
      simp only [List.set_cons_zero, Rs]
      exact ⟨v, xs', o', o2, rfl, rfl, s2, h2⟩
  | i + 1, cs, xs, o, h, hc, hk => by
    cases cs with
    | nil => simp at hc
    | cons c0 cs =>
      simp only [Rs] at h
      obtain ⟨x, xs', o1, o2, rfl, rfl, h1, h2⟩ := h
      obtain ⟨o', s1, s2⟩ := Rs_set (i := i) h2 (by simpa using hc) (fun y o hy hr => hk y o (by simpa using hy) hr)
      refine ⟨o1 ++ o', s1.append_left o1, ?_⟩
      simp only [List.set_cons_succ, Rs]
      exact ⟨x, xs'.set i v, o1, o', rfl, rfl, h1, s2⟩
theorem cut_owns {e : TypeId} {z n c h : Nat} {a : Option Addr} {xs : List Value} (h0 : w.ownsRow 0 e z (.slice a n c) n xs) (hn : h ≤ n) : w.ownsRow 0 e z (.slice a h c) h (xs.take (h * z)) := by
  refine ⟨by rw [List.length_take, h0.1]; exact Nat.min_eq_left (Nat.mul_le_mul_right _ hn), ?_⟩
  rcases h0.2 with ⟨h1, h2⟩ | ⟨b, cap, cur, h1, h2, h3, h4, h5, h6, h7⟩
  · subst h2
    have : h = 0 := by omega
    subst this
    exact .inl ⟨h1, rfl⟩
  · cases h1
    refine .inr ⟨b, c, cur, rfl, h2, h3, by omega, h5, h6, ?_⟩
    rw [← h7, List.take_take, Nat.min_eq_left (Nat.mul_le_mul_right _ hn)]
theorem cut_fl {e : TypeId} {z n c h : Nat} {a : Option Addr} {xs : List Value} {o : List Nat} (hr : R g V w (.fl (.own e) z xs) (.slice a n c) o) (hn : h ≤ n) : R g V w (.fl (.own e) z (xs.take (h * z))) (.slice a h c) o := by
  simp only [R] at *
  obtain ⟨a', n', c', ⟨he, hnc⟩, hl, h1, hrd, hm⟩ := hr
  cases he
  have hco := cut_owns hm.1 hn
  refine ⟨a, h, c, ⟨rfl, by omega⟩, hco.1, fun u hu => h1 u (List.mem_of_mem_take hu), fun hne => ?_, hco, by rw [hm.2]; cases a <;> rfl⟩
  obtain ⟨ad, e1, e2⟩ := hrd (fun e0 => hne (by rw [e0]; simp))
  refine ⟨ad, e1, fun j u hj => e2 j u ?_⟩
  rw [List.getElem?_take] at hj
  split at hj
  · exact hj
  · cases hj
theorem cut_fr {e : TypeId} {z n c h : Nat} {s : Bool} {a : Option Addr} {ics : List IC} {o : List Nat} (hr : R g V w (.fr (.own e) s z ics) (.slice a n c) o) (hn : h ≤ n) : R g V w (.fr (.own e) s z (ics.take (h * z))) (.slice a h c) o := by
  obtain ⟨us, h1, h2⟩ := fr_fl hr
  exact fl_fr (cut_fl h1 hn) (RIs_take (h * z) h2)
def ownC : AV → Option (Nat × Nat)
  | .fl (.own _) z xs => some (z, xs.length)
  | .fr (.own _) _ z cs => some (z, cs.length)
  | _ => none
def cutA (h : Nat) : AV → AV
  | .fl m z xs => .fl m z (xs.take (h * z))
  | .fr m s z cs => .fr m s z (cs.take (h * z))
  | av => av
theorem ownC_R {av : AV} {z m : Nat} {x : Value} {o : List Nat} (hc : ownC av = some (z, m)) (hr : R g V w av x o) : ∃ a n c, x = .slice a n c ∧ n ≤ c ∧ m = n * z ∧ ((a = none ∧ n = 0) ∨ ∃ b, a = some ⟨b, 0, none⟩) := by
  have key : ∀ (e : TypeId) (xs : List Value), R g V w (.fl (.own e) z xs) x o → xs.length = m → ∃ a n c, x = .slice a n c ∧ n ≤ c ∧ m = n * z ∧ ((a = none ∧ n = 0) ∨ ∃ b, a = some ⟨b, 0, none⟩) := by
    intro e xs h hl
    simp only [R] at h
    obtain ⟨a, n, c, ⟨he, hnc⟩, h1, h2, h3, h4⟩ := h
    subst he
    refine ⟨a, n, c, rfl, hnc, by omega, ?_⟩
    rcases h4.1.2 with ⟨h5, _⟩ | ⟨b, cap, cur, h5, _⟩
    · cases h5; exact .inl ⟨rfl, rfl⟩
    · cases h5; exact .inr ⟨b, rfl⟩
  cases av with
  | fl md z' xs =>
    cases md with
    | own e => simp only [ownC, Option.some.injEq, Prod.mk.injEq] at hc; obtain ⟨rfl, h⟩ := hc; exact key e xs hr h
    | _ => simp [ownC] at hc
  | fr md s z' cs =>
    cases md with
    | own e =>
      simp only [ownC, Option.some.injEq, Prod.mk.injEq] at hc
      obtain ⟨rfl, h⟩ := hc
      obtain ⟨us, h1, h2⟩ := fr_fl hr
      exact key e us h1 (by rw [RIs_length h2]; exact h)
    | _ => simp [ownC] at hc
  | _ => simp [ownC] at hc
theorem cutA_R {av : AV} {z m h n c : Nat} {a : Option Addr} {o : List Nat} (hc : ownC av = some (z, m)) (hr : R g V w av (.slice a n c) o) (hn : h ≤ n) : R g V w (cutA h av) (.slice a h c) o := by
  cases av with
  | fl md z' xs =>
    cases md with
    | own e => exact cut_fl hr hn
    | _ => simp [ownC] at hc
  | fr md s z' cs =>
    cases md with
    | own e => exact cut_fr hr hn
    | _ => simp [ownC] at hc
  | _ => simp [ownC] at hc
end
section
variable {A : Type}
theorem cut_le {l q : List A} {n z : Nat} {b : Int} (hn : n = l.length * z) (h : sliO l 0 b = some q) : b.toNat * z ≤ n := by
  rw [hn]; exact Nat.mul_le_mul_right _ (sli_bd h).2.2.2
theorem cut_fr_eq {enc : A → List IC} {l q : List A} {b : Int} {z : Nat} {m : Md} {s : Bool} (h : sliO l 0 b = some q) (he : ∀ x, (enc x).length = z) : cutA b.toNat (.fr m s z (l.map enc).flatten) = .fr m s z (q.map enc).flatten := by
  have := gflat_sli he h
  simp only [Int.toNat_zero, Nat.zero_mul, List.drop_zero, Nat.sub_zero] at this
  simp only [cutA, this]
end
section
variable {P : Program} {ty : TypeId} {pos : String} {aft : Array Edge} {gd : Option (Nat × Bool)}
theorem op_slice_cut (N : List Ent) (d : Nat) {T e : TypeId} {x y : Operand} {l : Loc} (h z m : Nat) (hT : P.underlying T = some (.slice e)) (hz : (P.info? e).map (·.size) = some z) (h0 : 0 < z)
    (hx : dupOp N x = .same l) (hc : ownC (locv N l) = some (z, m)) (hy : ∃ k, rd N y = .v (.int k (h : Int))) (hm : h * z ≤ m) (hl : hit [.slot d] l = false) :
    LOp P ⟨some d, .slice T x none (some y) none, ty, pos, aft, gd⟩ N [] [(d, .cut l h)] [.slot d] := by
  refine LOp.value rfl (by simp [clr, hl]) rfl fun g V oN a w hp => ?_
  have hax := dupOp_R hp.val hp.esN x
  rw [hx] at hax
  simp only [R] at hax
  obtain ⟨o', _, hr⟩ := locv_R hp.esN l
  obtain ⟨A, n, c, hV, hnc, hmn, hA⟩ := ownC_R hc hr
  have hhn : h ≤ n := by rw [hmn] at hm; exact Nat.le_of_mul_le_mul_right hm h0
  obtain ⟨k, hk⟩ := hy
  have hk := rd_v hp.val hp.esN hk
  have hhc : h ≤ c := by omega
  have he : a.eval x = .slice A n c := by rw [hax.1, hV]
  have hrun : (execOp a.eval ⟨some d, .slice T x none (some y) none, ty, pos, aft, gd⟩).run P w = .ok (.value (.slice (if c = 0 then A else A.map (·.add (0 * z))) (h - 0) (c - 0))) w := by
    simp [execOp, Instr.sliceAt, Instr.slice, run_underlying hT, he, Instr.sliceBounds, Instr.sliceBound, asIntOf, hk, hhc, run_sizeOf' hz]
  refine ⟨_, hrun, ?_⟩
  simp only [R]
  refine ⟨A, n, c, hV, hhn, fun h0 => hA.elim (fun h => absurd h.2 (by omega)) (fun ⟨b, e⟩ => ⟨_, e⟩), ?_, trivial⟩
  rcases hA with ⟨rfl, _⟩ | ⟨b, rfl⟩
  · simp
  · simp only [Nat.zero_mul, Nat.sub_zero, Option.map_some]
    rw [add_flat]; simp
theorem op_store_cut (N : List Ent) {T : TypeId} (ax vx : Operand) {T' : TypeId} {cs cs' : List AV} {c : AV} (u t i h z m : Nat) (hs : (P.info? T).map (·.size) = some 1)
    (hx : dupOp (N ++ [(u, .cut (.cell t i) h), (t, .box T' cs)]) ax = .ptr t i) (hv : dupOp (N ++ [(u, .cut (.cell t i) h), (t, .box T' cs)]) vx = .cut (.cell t i) h) (hc : cs[i]? = some c) (ho : ownC c = some (z, m)) (hcs : cs.set i (cutA h c) = cs') (hcl : clrs (cellsW t i 1) cs' = true) :
    LOp P ⟨none, .store T ax vx, ty, pos, aft, gd⟩ N [(u, .cut (.cell t i) h), (t, .box T' cs)] [(t, .box T' cs')] (cellsW t i 1) := by
  subst hcs
  refine LOp.core fun g V oN oT a w hdd hp => ?_
  have hB' : Es g V w [(u, .cut (.cell t i) h), (t, .box T' cs)] oT := hp.esT
  have hB := hB'
  simp only [Es] at hB
  obtain ⟨ou, oq, rfl, hU, ob, o2, rfl, hER, rfl⟩ := hB
  obtain ⟨hR1, htie⟩ := hER
  simp only [R] at hR1
  obtain ⟨b, xs, os, h3, rfl, hh, hrs⟩ := hR1
  dsimp only at htie h3
  have hNT := Es_append.2 ⟨oN, _, rfl, hp.esN, hB'⟩
  have hax := dupOp_R hp.val hNT ax
  rw [hx] at hax
  simp only [R] at hax
  obtain ⟨b2, h4, h5, _⟩ := hax
  rw [h3] at h4; cases h4
  have hval := dupOp_R hp.val hNT vx
  rw [hv] at hval
  simp only [R] at hval
  obtain ⟨A, n, cc, hVc, hhn, _, hve, _⟩ := hval
  have hl2 := Rs_length hrs
  have hic : i < cs.length := (List.getElem?_eq_some_iff.1 hc).1
  have hcell := htie b h3 i hic
  rw [cell_of_row w b i _ T' (0, 0) hh] at hcell
  have hxi : xs[i]? = some (.slice A n cc) := by
    simp only [List.getElem?_toArray] at hcell
    rw [hcell, hVc]
  obtain ⟨os', hsub, hnew0⟩ := Rs_set (c' := cutA h c) (v := a.eval vx) hrs hc (fun x o hx hr => by
    rw [hxi] at hx; cases hx
    rw [hve]
    exact ⟨o, List.Sublist.refl _, cutA_R ho hr hhn⟩)
  obtain ⟨ys, hys⟩ : ∃ ys, ys = xs.set i (a.eval vx) := ⟨_, rfl⟩
  have hset : xs.take i ++ [a.eval vx] ++ xs.drop (i + 1) = ys := by
    rw [hys, List.set_eq_take_append_cons_drop, if_pos (by omega)]; simp
  rw [← hys] at hnew0
  have hrun : (execOp a.eval ⟨none, .store T ax vx, ty, pos, aft, gd⟩).run P w = .ok .skip (w.setRow b ys.toArray) := by
    have hcl1 : (a.eval vx).cells.toList = [a.eval vx] := by rw [hve]; rfl
    have := run_storeRow (P := P) (w := w) (T := T) (off := i) hs hh (v := a.eval vx) (by rw [hve]; rfl) (by rw [hcl1]; intro u hu; simp at hu; subst hu; rw [hve]; rfl) (by omega)
    rw [hcl1, hset] at this
    simp [execOp, Instr.storeAt, h5, Instr.sureAddr, this]
  refine (Yl.skip hrun).mono ?_
  rintro y w' ⟨rfl, rfl⟩
  have hnd := hp.nodup
  have hndT : (b :: os).Nodup := by have := (List.nodup_append.1 (List.nodup_append.1 hnd).2.1).2.1; simpa using this
  have hlt : ∀ c, c ∈ b :: os → c < w.heap.size ∧ ¬ g.imm c := fun c hc => hp.own c (by simp at hc ⊢; exact .inr (.inr hc))
  have hbi := (hlt b (by simp)).2
  have hbo : b ∉ os := (List.nodup_cons.1 hndT).1
  have hchg : Chg [b] w (w.setRow b ys.toArray) := setRow_chg _ _ _
  have hblk : ∀ c, c ≠ b → (w.setRow b ys.toArray).heap[c]? = w.heap[c]? := fun c hc => setRow_other w b c _ hc
  have hV' : ∀ l, hit (cellsW t i 1) l = false → setC V t i [a.eval vx] l = V l := fun l hl => setC_hit hl
  have hnew := Rs_stab (W := cellsW t i 1) (g := g) (g' := g) (V' := setC V t i [a.eval vx]) (w' := w.setRow b ys.toArray) (fun _ h => h) (fun _ h => h) hV' _ ys os' hcl (fun c hcc => hblk c (by
    rcases hcc with hcc | hcc
    · rintro rfl; exact hbo (hsub.subset hcc)
    · rintro rfl; exact hbi hcc)) hnew0
  refine ⟨g, setC V t i [a.eval vx], b :: os', g.le_refl, fun c hc => .inl hc, fun c hc => ?_, hchg.mono (by simp), hV', ?_, ?_, ?_, ?_⟩
  · exact Nat.lt_of_lt_of_le (hp.imm c (.inl hc)) hchg.size
  · intro u; simp only [setC, Act.put]; exact hp.val u
  · refine ⟨b :: os', [], by simp, ⟨?_, ?_⟩, rfl⟩
    · show R _ _ _ (.box T' _) (setC V t i _ (.slot t)) _
      simp only [R, setC]
      exact ⟨b, ys, os', h3, rfl, setRow_heap w b _ _ T' _ hh, hnew⟩
    · intro b' hb' j hj
      simp only [setC] at hb'
      rw [h3] at hb'; cases hb'
      have hhn := setRow_heap w b xs.toArray ys.toArray T' _ hh
      rw [cell_of_row _ b j _ T' (0, 0) hhn]
      simp only [List.length_set] at hj
      simp only [List.getElem?_toArray, setC, true_and, List.length_singleton]
      rw [hys]
      by_cases hji : j = i
      · subst hji
        rw [if_pos ⟨Nat.le_refl _, by omega⟩, List.getElem?_set_self (by omega)]
        simp
      · rw [if_neg (by omega), List.getElem?_set_ne (by omega)]
        have := htie b h3 j hj
        rw [cell_of_row w b j _ T' (0, 0) hh] at this
        simpa using this
  · exact List.Nodup.sublist (hsub.cons_cons b) hndT
  · intro c hc
    have hc' : c ∈ b :: os := by
      rcases List.mem_cons.1 hc with h | h
      · simp [h]
      · exact List.mem_cons_of_mem _ (hsub.subset h)
    exact ⟨.inl (by simp at hc' ⊢; exact .inr hc'), Nat.lt_of_lt_of_le (hlt c hc').1 hchg.size, (hlt c hc').2⟩
theorem op_app_fr_cell {A : Type} (N : List Ent) (d t i : Nat) {T e t' T' : TypeId} (x y : Operand) {z by_ : Nat} {my : Md} {s s1 s2 : Bool} {cs : List AV} {xs ys zs : List IC} {l m q : List A} (hE : ElemT P T e z by_) (hx : dupOp N x = .same (.cell t i)) (hc : cs.getD i .any = .fr (.own e) s1 z xs) (hic : i < cs.length)
    (hy : rd N y = .fr my s2 z ys) (hn : xs.length = l.length * z) (hm : ys.length = m.length * z) (hq : appO by_ l m = some q) (hz : xs ++ ys = zs) (hs1 : s1 = true → s = true) (hs2 : s2 = true → s = true) (hdt : d ≠ t) {cs' : List AV} (hcs : cs.set i .any = cs') (hcl : clrs [.slot d] cs' = true) :
    LOp P ⟨some d, .call ⟨.builtin .append, #[x, y], #[T, T]⟩, t', pos, aft, gd⟩ N [(t, .box T' cs)] [(t, .box T' cs'), (d, .fr (.own e) s z zs)] [.slot d] := by
  subst hz hcs
  unfold appO at hq
  split at hq
  case isFalse => cases hq
  rename_i hlim
  obtain ⟨ti, zv, hT, hi, hz, hs, hzc, h0, rfl⟩ := hE.ex
  refine LOp.core fun g V oN oT a w hd hp => ?_
  have hT' := hp.esT
  simp only [Es] at hT'
  obtain ⟨ob, o2, rfl, hER, rfl⟩ := hT'
  obtain ⟨hR, htie⟩ := hER
  have hax := dupOp_R hp.val hp.esN x
  rw [hx] at hax
  simp only [R] at hax hR
  obtain ⟨b, cur, os, hpt, rfl, hh, hrs⟩ := hR
  dsimp only at htie
  obtain ⟨o1, o3, hperm, hRi, hrest⟩ := Rs_setAny i hrs hic
  rw [hc] at hRi
  have hlen := Rs_length hrs
  have hcell := htie b hpt i hic
  rw [cell_of_row w b i _ T' (0, 0) hh] at hcell
  have hil : i < cur.length := by omega
  have hVc : V (.cell t i) = cur.getD i undef := by
    simp only [List.getElem?_toArray, List.getElem?_eq_getElem hil, Option.some.injEq] at hcell
    rw [← hcell]; simp [hil]
  obtain ⟨u0, hu0⟩ : ∃ u, u = cur.getD i undef := ⟨_, rfl⟩
  rw [← hu0] at hVc hRi
  obtain ⟨us, hRi, hix⟩ := fr_fl hRi
  rw [← RIs_length hix] at hn
  simp only [R] at hRi
  obtain ⟨a0, n0, c0, ⟨h3, _⟩, hl0, hone0, _, hown, hob⟩ := hRi
  obtain ⟨o', _, hr⟩ := rd_R hp.val hp.esN y
  rw [hy] at hr
  obtain ⟨vs, hr, hiy⟩ := fr_fl hr
  rw [← RIs_length hiy] at hm
  simp only [R] at hr
  obtain ⟨A, m', c, ⟨he, _⟩, hl, hone, hrd, _⟩ := hr
  have em : m' = m.length := Nat.eq_of_mul_eq_mul_right h0 (by omega)
  subst em
  have en : n0 = l.length := Nat.eq_of_mul_eq_mul_right h0 (by omega)
  subst en
  obtain ⟨v', w', hrun, hown', hg, hblk⟩ := run_append_fl (P := P) (ty := t') (c := c) hT hi hz hs hzc h0 hown hl hrd hone (by simp only [maxLen]; omega) (by simpa using hlim.1)
  have hrun' : (execOp a.eval ⟨some d, .call ⟨.builtin .append, #[x, y], #[T, T]⟩, t', pos, aft, gd⟩).run P w = .ok (.value v') w' := by
    have h4 : a.eval x = u0 := by rw [hax.1, hVc]
    simp [execOp, resolve, invoke, builtin, he, h4, hrun]
  refine (Yl.val hrun').mono ?_
  rintro v w2 ⟨rfl, rfl⟩
  have hlt : d < g.n := hd d rfl
  have hchg : Chg o1 w w2 := by rw [hob]; exact Chg.of_grown hg
  have hin1 : ∀ c, c ∈ o1 → c ∈ b :: os := fun c hc' => by have := hperm.mem_iff.2 (List.mem_append.2 (.inl hc')); simp [this]
  have hin3 : ∀ c, c ∈ o3 → c ∈ b :: os := fun c hc' => by have := hperm.mem_iff.2 (List.mem_append.2 (.inr hc')); simp [this]
  have hinb : ∀ c, c ∈ b :: o3 → c ∈ b :: os := by
    intro c hc'
    rcases List.mem_cons.1 hc' with h | h
    · simp [h]
    · exact hin3 c h
  have hnd2 : (b :: os).Nodup := by have := (List.nodup_append.1 hp.nodup).2.1; simpa using this
  have hnd3 : (b :: (o1 ++ o3)).Nodup := ((hperm.cons b).nodup_iff).1 hnd2
  have hlts : ∀ c, c ∈ b :: os → c < w.heap.size ∧ ¬ g.imm c := fun c hc' => hp.own c (by simp at hc' ⊢; exact .inr hc')
  have hkeep : ∀ c, c ∈ b :: o3 ∨ g.imm c → w2.heap[c]? = w.heap[c]? := by
    intro c hc'
    rcases hc' with hc' | hc'
    · refine hchg.block c (hlts c (hinb c hc')).1 fun h1 => ?_
      simp only [List.nodup_cons, List.mem_append, List.nodup_append] at hnd3
      rcases List.mem_cons.1 hc' with rfl | h3
      · exact hnd3.1 (.inl h1)
      · exact hnd3.2.2.2 c h1 c h3 rfl
    · exact hchg.block c (hp.imm c hc') fun h1 => (hlts c (hin1 c h1)).2 hc'
  have hdtl : ∀ l, hit [.slot d] l = false → setV V d v l = V l := fun l hl => setV_hit hl
  refine ⟨g, setV V d v, (b :: o3) ++ v.ownBlock.toList, g.le_refl, fun b hb => .inl hb, fun b hb => Nat.lt_of_lt_of_le (hp.imm b (.inl hb)) hchg.size, ?_, hdtl, fun u => setV_val hp.val hp.size hlt u, ?_, ?_, ?_⟩
  · exact hchg.mono fun c hc' => by simpa using hin1 c hc'
  · have hVt : setV V d v (.slot t) = V (.slot t) := by simp only [setV]; rw [if_neg fun e => hdt e.symm]
    have hVtc : ∀ j, setV V d v (.cell t j) = V (.cell t j) := fun j => rfl
    refine ⟨b :: o3, v.ownBlock.toList, rfl, ⟨?_, ?_⟩, v.ownBlock.toList, [], by simp, ⟨?_, trivial⟩, rfl⟩
    · show R g _ _ (.box T' _) (setV V d v (.slot t)) _
      rw [hVt]
      simp only [R]
      refine ⟨b, cur, o3, hpt, rfl, by rw [hkeep b (.inl (by simp))]; exact hh, ?_⟩
      exact Rs_stab (W := [.slot d]) (fun _ h => h) (fun _ h => h) hdtl _ _ _ hcl (fun c hc' => hkeep c (hc'.imp (fun h => by simp [h]) id)) hrest
    · intro b' hb' j hj
      rw [hVt] at hb'
      rw [hVtc]
      rw [World.cell?_of_block (w := w) (by
        rw [hpt] at hb'; cases hb'
        exact hkeep b (.inl (by simp)))]
      exact htie b' hb' j (by simpa using hj)
    · show R g _ _ _ (setV V d v (.slot d)) _
      rw [setV_slot]
      refine fl_fr (own_fl hown' fun u hu => ?_) (RIs_stab (fun b h => h) (fun c hc' => hkeep c (.inr hc')) _ _ (RIs_append (RIs_weak hs1 hix) (RIs_weak hs2 hiy)))
      rcases List.mem_append.1 hu with h | h
      · exact hone0 u h
      · exact hone u h
  · refine List.nodup_append.2 ⟨?_, by cases v.ownBlock <;> simp, ?_⟩
    · have : (o1 ++ (b :: o3)).Nodup := (List.perm_middle.nodup_iff).2 hnd3
      exact (List.nodup_append.1 this).2.1
    · intro c hc' c2 hc2 e
      subst e
      have hvb : v.ownBlock = some c := by cases hv : v.ownBlock <;> simp [hv] at hc2 ⊢; exact hc2.symm
      rcases hblk with h | h
      · have hin : c ∈ o1 := by rw [hob, ← h, hvb]; simp
        simp only [List.nodup_cons, List.mem_append, List.nodup_append] at hnd3
        rcases List.mem_cons.1 hc' with rfl | h3
        · exact hnd3.1 (.inl hin)
        · exact hnd3.2.2.2 c hin c h3 rfl
      · rw [hvb] at h
        cases h
        have := (hlts w.heap.size (hinb _ hc')).1
        omega
  · intro c hc'
    rcases List.mem_append.1 hc' with hc' | hc'
    · have h4 : c ∈ b :: os := hinb c hc'
      exact ⟨.inl (by simpa using h4), Nat.lt_of_lt_of_le (hlts c h4).1 hchg.size, (hlts c h4).2⟩
    · have hvb : v.ownBlock = some c := by cases hv : v.ownBlock <;> simp [hv] at hc' ⊢; exact hc'.symm
      have hlt2 := (hown'.lt c hvb).2
      rcases hblk with h | h
      · have hin : c ∈ o1 := by rw [hob, ← h, hvb]; simp
        exact ⟨.inl (by simpa using hin1 c hin), hlt2, (hlts c (hin1 c hin)).2⟩
      · rw [hvb] at h
        cases h
        exact ⟨.inr (Nat.le_refl _), hlt2, fun hi => Nat.lt_irrefl _ (hp.imm _ hi)⟩
def argw (N : List Ent) (x : Operand) : AV :=
  match rd N x with
  | .fl .ro z xs => .fl .ro z xs
  | .fr .ro false z cs => .fr .ro false z cs
  | _ => argv N x
theorem argw_R {g g' : Gh} {V V' : Loc → Value} {w : World} {N : List Ent} {oN : List Nat} {a : Act} (hI : g'.Imm = g.Imm) (hM : ∀ b, g.Im b ∨ b ∈ oN → g'.Im b) (hv : ∀ t, V (.slot t) = a.tmps.getD t undef) (hN : Es g V w N oN) (x : Operand) : R g' V' w (argw N x) (a.eval x) [] := by
  obtain ⟨o', _, hr⟩ := rd_R hv hN x
  have hd := argv_R (V' := V') hI hM hv hN x
  unfold argw
  split
  · rename_i z xs hx
    rw [hx] at hr
    simp only [R, modeOk] at *
    obtain ⟨A, n, c, h1, h2, h3, h4, h5, h6⟩ := hr
    exact ⟨A, n, c, h1, h2, h3, h4, trivial, fun hne => let ⟨ad, e, hi⟩ := h6 hne; ⟨ad, e, hI ▸ hi⟩⟩
  · rename_i z cs hx
    rw [hx] at hr
    simp only [R, modeOk] at *
    obtain ⟨vs, A, n, c, h1, h2, h3, h4, ⟨h5, h6⟩, h7⟩ := hr
    exact ⟨vs, A, n, c, h1, h2, h3, h4, ⟨trivial, fun hne => let ⟨ad, e, hi⟩ := h6 hne; ⟨ad, e, hI ▸ hi⟩⟩, RIs_stab (fun b h => by simp only [immB] at *; exact hI ▸ h) (fun _ _ => rfl) cs vs h7⟩
  · exact hd
theorem argws_R {g g' : Gh} {V V' : Loc → Value} {w : World} {N : List Ent} {oN : List Nat} {a : Act} (hI : g'.Imm = g.Imm) (hM : ∀ b, g.Im b ∨ b ∈ oN → g'.Im b) (hv : ∀ t, V (.slot t) = a.tmps.getD t undef) (hN : Es g V w N oN) : ∀ (xs : List Operand), Rs g' V' w (xs.map (argw N)) (xs.map a.eval) []
  | [] => by simp [Rs]
  | x :: xs => by
    simp only [List.map_cons, Rs]
    exact ⟨_, _, [], [], rfl, rfl, argw_R hI hM hv hN x, argws_R hI hM hv hN xs⟩
theorem op_callR (N : List Ent) (d : Nat) (f : FuncId) {cal : Operand} {args : Array Operand} {ats : Array TypeId} (avs : List AV) (res : AV) (hcal : rd N cal = .v (.func (.func f) #[] #[])) (hrun : ∀ args w, (callFunc f args).run P w = .ok (.enter f args) w)
    (hav : args.toList.map (argw N) = avs) (hf : FnOK P f avs res) (hcl : closed res = true) (hsh : noShr res = true) :
    LOp P ⟨some d, .call ⟨.value cal, args, ats⟩, ty, pos, aft, gd⟩ N [] [(d, res)] [.slot d] := by
  refine LOp.fresh rfl (clr_of_closed _ _ hcl) fun g V oN a w hp => ?_
  have hcv := rd_v hp.val hp.esN hcal
  have hr : (execOp a.eval ⟨some d, .call ⟨.value cal, args, ats⟩, ty, pos, aft, gd⟩).run P w = .ok (.enter f (args.map a.eval)) w := by
    simp [execOp, resolve, hcv, Deferred.ofValue, invoke, hrun]
  have hargs : Rs (gh0 w g.Imm (fun b => g.Im b ∨ b ∈ oN)) V0 w avs (args.toList.map a.eval) [] := by
    rw [← hav]
    exact argws_R (g := g) (g' := gh0 w g.Imm (fun b => g.Im b ∨ b ∈ oN)) rfl (fun b hb => hb) hp.val hp.esN _
  have hc := hf g.Imm (fun b => g.Im b ∨ b ∈ oN) w _ (fun b hb => by
    rcases hb with hb | hb | hb
    · exact hp.imm b (.inl hb)
    · exact hp.imm b (.inr hb)
    · exact (hp.own b (by simp [hb])).1) hargs
  have ea : (args.toList.map a.eval).toArray = args.map a.eval := by rw [← Array.toList_map]
  rw [ea] at hc
  refine Yl.call hr (hc.mono ?_)
  rintro e w' ⟨x, rfl, hchg, Imm', o, hI, hnew, hR, hnd, hfr⟩
  refine ⟨x, rfl, hchg, { g with Imm := fun b => Imm' b }, o, ⟨rfl, rfl, rfl, rfl, rfl, hI, fun b hb => ?_⟩, hnew, ?_, hnd, hfr⟩
  · rcases hnew b hb with h | h
    · exact .inl h
    · exact .inr (.inl (Nat.le_trans hp.base h.1))
  · exact R_closed (g := gh0 w Imm' (fun b => g.Im b ∨ b ∈ oN)) (g' := { g with Imm := fun b => Imm' b }) (fun _ h => h) res x o hcl (.inr hsh) hR
end
end Go.Abs
end
section
/-
  What came in, opened, with the form's own reach: each row and each text takes at most so many bytes.
-/
namespace Go.Abs
open Go.WideShapes
def wzS (s : ByteArray) : Prop := s.size ≤ reachBytes
def wzL {A : Type} (b : Nat) (p : A → Prop) (l : List A) : Prop := l.length * b ≤ reachBytes ∧ ∀ x ∈ l, p x
def Heavy {H : Type} (P : Program) (t : TypeId) (d : DataW H) : Prop := ∀ n ∈ d.weights P t, n ≤ reachBytes
def CameZ {H : Type} (enc : TypeId × Value → H) (P : Program) (W : World) (sp : Nat → Bool) (hd : Bool) (t : TypeId) {A : Type} (ie : A → List IC) (wf : A → Prop) : Prop :=
  ∀ (fuel : Nat) (cs : List Value) (y : DataW H × List MemPlace), DataW.trod enc P W 0 sp hd fuel t cs = some y → Heavy P t y.1 → ∃ x : A, RIs (inW W) W true (ie x) cs ∧ (∀ u ∈ cs, u.oneCell' = true) ∧ wf x
section
variable {H : Type} {enc : TypeId × Value → H} {P : Program} {W : World} {sp : Nat → Bool} {hd : Bool} {t : TypeId}
theorem weightsAll_mem {e : TypeId} {d : DataW H} {n : Nat} (hn : n ∈ d.weights P e) : ∀ {ds : List (DataW H)}, d ∈ ds → n ∈ DataW.weightsAll P e ds
  | d0 :: ds, h => by
    simp only [DataW.weightsAll, List.mem_append]
    rcases List.mem_cons.1 h with rfl | h
    · exact .inl hn
    · exact .inr (weightsAll_mem hn h)
theorem heavy_arg {ts : List TypeId} {ds : List (DataW H)} (h : (DataW.weightsEach P ts ds).all (· ≤ reachBytes) = true) (j : Nat) {t : TypeId} {d : DataW H} (ht : ts[j]? = some t) (hd : ds[j]? = some d) : Heavy P t d := fun n hn => by
  simpa using List.all_eq_true.1 h _ (DataW.weights_mem_each ht hd n hn)
theorem camez_int {k : IntKind} (ht : P.underlying t = some (.int k)) : CameZ enc P W sp hd t (fun n : Int => [IC.v (.int k n)]) (wfI k) := fun fuel cs y h _ => came_int ht fuel cs y h
theorem camez_bool (ht : P.underlying t = some .bool) : CameZ enc P W sp hd t (fun b : Bool => [IC.v (.bool b)]) (fun _ => True) := fun fuel cs y h _ => came_bool ht fuel cs y h
theorem camez_string (ht : P.underlying t = some .string) : CameZ enc P W sp hd t (fun s : ByteArray => [IC.v (.string s)]) wzS := by
  intro fuel cs y h hz
  obtain ⟨n, rfl, rfl, hw⟩ := DataW.trod_string ht h
  refine ⟨n, RIs_one.2 (by simp only [RI]), by simp [Value.oneCell'], ?_⟩
  have := hz n.data.toList.length (by simp [DataW.weights])
  simpa [wzS] using this
theorem camez_slice {e : TypeId} {A : Type} {ie : A → List IC} {wf : A → Prop} {z b : Nat} (hby : P.bytesOf e = b) (ht : P.underlying t = some (.slice e)) (hc : P.cellsOf e = z) (h0 : 0 < z) (hzz : ∀ x, (ie x).length = z)
    (he : CameZ enc P W sp hd e ie wf) : CameZ enc P W sp hd t (fun l : List A => [IC.row z (List.flatten (List.map ie l))]) (wzL b wf) := by
  intro fuel cs y h hz
  rcases DataW.trod_slice ht h with ⟨rfl, _⟩ | ⟨a, len, cap, elems, rest, n, _, rfl, hyy, hb, hl, hm, hlen, hel, _, _⟩
  · refine ⟨[], RIs_one.2 ?_, by simp [Value.oneCell'], by simp [wzL]⟩
    simp only [RI]
    exact ⟨[], none, 0, 0, ⟨rfl, Nat.le_refl _⟩, by simp, by simp, fun h => absurd rfl h, fun h => absurd rfl h, by simp [RIs]⟩
  · have hsl : ∀ n, n ∈ (elems.length + rest.length) * P.bytesOf e :: (DataW.weightsAll P e (elems.map (·.1)) ++ DataW.weightsAll P e (rest.map (·.1))) → n ≤ reachBytes := by
      intro n hn
      refine hz n ?_
      rw [hyy]
      simpa [DataW.weights, ht, List.length_map] using hn
    have each : ∀ i, i < len → ∃ (x : A) (ys : List Value), ys.length = z ∧ (∀ j, j < z → W.cell? (a.add (i * z + j)) = ys[j]?) ∧ RIs (inW W) W true (ie x) ys ∧ (∀ u ∈ ys, u.oneCell' = true) ∧ wf x := by
      intro i hi
      have h1 := hel i hi
      rw [List.getElem?_eq_getElem (by omega), hc] at h1
      obtain ⟨ys, hcs, hy⟩ := Option.bind_eq_some_iff.1 h1
      obtain ⟨_, hyl, hcell⟩ := World.cells?_some hcs
      obtain ⟨x, h2, h3, h4⟩ := he _ _ _ hy (fun n hn => hsl n (List.mem_cons_of_mem _ (List.mem_append.2 (.inl (weightsAll_mem hn (List.mem_map.2 ⟨elems[i], List.getElem_mem _, rfl⟩))))))
      exact ⟨x, ys, hyl, fun j hj => by rw [← hcell j hj, Addr.add_add], h2, h3, h4⟩
    have build : ∀ k, k ≤ len → ∃ (l : List A) (vs : List Value), l.length = k ∧ vs.length = k * z ∧ (∀ j, j < k * z → W.cell? (a.add j) = vs[j]?) ∧ (∀ i, ∀ h : i < l.length, RIs (inW W) W true (ie l[i]) ((vs.drop (i * z)).take z)) ∧ (∀ u ∈ vs, u.oneCell' = true) ∧ ∀ x ∈ l, wf x := by
      intro k
      induction k with
      | zero => intro _; exact ⟨[], [], rfl, by simp, by simp, fun i h => by simp at h, by simp, by simp⟩
      | succ k ih =>
        intro hk
        obtain ⟨l, vs, h1, h2, h3, h4, h5, h6⟩ := ih (by omega)
        obtain ⟨x, ys, e1, e2, e3, e4, e5⟩ := each k (by omega)
        refine ⟨l ++ [x], vs ++ ys, by simp [h1], by rw [List.length_append, h2, e1, Nat.add_mul]; omega, ?_, ?_, ?_, ?_⟩
        · intro j hj
          by_cases hjk : j < k * z
          · rw [List.getElem?_append_left (by omega)]; exact h3 j hjk
          · rw [List.getElem?_append_right (by omega), h2, ← e2 (j - k * z) (by rw [Nat.add_mul] at hj; omega)]
            congr 2; omega
        · intro i hi
          by_cases hik : i < l.length
          · rw [List.getElem_append_left hik]
            have hle : (i + 1) * z ≤ k * z := Nat.mul_le_mul_right z (by omega)
            rw [Nat.add_mul] at hle
            rw [List.drop_append_of_le_length (by omega), List.take_append_of_le_length (by rw [List.length_drop]; omega)]
            exact h4 i hik
          · have : i = l.length := by simp at hi; omega
            subst this
            rw [List.getElem_concat_length rfl, h1, List.drop_append_of_le_length (by omega), List.drop_eq_nil_of_le (by omega), List.nil_append, List.take_of_length_le (by omega)]
            exact e3
        · intro u hu
          rcases List.mem_append.1 hu with h | h
          · exact h5 u h
          · exact e4 u h
        · intro u hu
          rcases List.mem_append.1 hu with h | h
          · exact h6 u h
          · rw [List.mem_singleton.1 h]; exact e5
    obtain ⟨l, vs, h1, h2, h3, h4, h5, h6⟩ := build len (Nat.le_refl _)
    refine ⟨l, RIs_one.2 ?_, by simp [Value.oneCell'], ?_, h6⟩
    · simp only [RI]
      refine ⟨vs, some a, len, cap, ⟨rfl, hl⟩, h2, h5, fun _ => ⟨a, rfl, fun j u hu => ?_⟩, fun hne => ⟨a, rfl, .inr ?_⟩, RIs_rows hzz l vs (by rw [h1, h2]) h4⟩
      · have hj := (List.getElem?_eq_some_iff.1 hu).1
        rw [h3 j (by omega)]; exact hu
      · have hpos : 0 < vs.length := List.length_pos_iff.2 hne
        have h0' := h3 0 (by omega)
        rw [List.getElem?_eq_getElem hpos] at h0'
        have := World.block_lt_of_cell? W _ h0'
        rwa [add_block] at this
    · have := hsl _ (List.mem_cons_self ..)
      rw [hby] at this
      rw [h1]
      exact Nat.le_trans (Nat.mul_le_mul_right b (by omega)) this
theorem camez_row1 {e : TypeId} {A : Type} {f : A → Value} {wf : A → Prop} {b : Nat} (hby : P.bytesOf e = b) (ht : P.underlying t = some (.slice e)) (hc : P.cellsOf e = 1) (he : CameZ enc P W sp hd e (fun x => [IC.v (f x)]) wf) :
    CameZ enc P W sp hd t (fun l : List A => [IC.row 1 (List.map IC.v (List.map f l))]) (wzL b wf) := by
  intro fuel cs y h hzy
  obtain ⟨l, h1, h2, h3⟩ := camez_slice hby ht hc (by omega) (fun _ => rfl) he fuel cs y h hzy
  refine ⟨l, ?_, h2, h3⟩
  dsimp only at h1 ⊢
  rw [flat1 (fun x => IC.v (f x))] at h1
  rw [List.map_map]
  exact h1
theorem camez_rowst {e : TypeId} {A : Type} {en : A → List Value} {wf : A → Prop} {z b : Nat} (hby : P.bytesOf e = b) (ht : P.underlying t = some (.slice e)) (hc : P.cellsOf e = z) (h0 : 0 < z) (hz : ∀ x, (en x).length = z)
    (he : CameZ enc P W sp hd e (fun x => List.map IC.v (en x)) wf) : CameZ enc P W sp hd t (fun l : List A => [IC.row z (List.map IC.v (List.flatten (List.map en l)))]) (wzL b wf) := by
  intro fuel cs y h hzy
  obtain ⟨l, h1, h2, h3⟩ := camez_slice hby ht hc h0 (fun x => by simp [hz x]) he fuel cs y h hzy
  refine ⟨l, ?_, h2, h3⟩
  dsimp only at h1 ⊢
  rw [List.map_flatten, List.map_map]
  exact h1
theorem camez_fld {xs : List (DataW H × List MemPlace)} {fs : Array Field} {m o k : Nat} {cs ds : List Value} {T : TypeId} (ht : P.underlying t = some (.struct fs)) (hg : ∀ (i : Nat) (f : Field), fs[i]? = some f → DataW.trod enc P W 0 sp hd m f.type ((cs.drop f.offset).take (P.cellsOf f.type)) = xs[i]?) (hxs : xs.length = fs.size) (hz : Heavy P t (DataW.agg (xs.map (·.1))))
    (i : Nat) (hf : (fs[i]?).map (fun f => (f.type, f.offset)) = some (T, o)) (hk : P.cellsOf T = k) (hds : (cs.drop o).take k = ds) : ∃ y, DataW.trod enc P W 0 sp hd m T ds = some y ∧ Heavy P T y.1 := by
  cases hq : fs[i]? with
  | none => simp [hq] at hf
  | some f =>
    simp only [hq, Option.map_some, Option.some.injEq, Prod.mk.injEq] at hf
    have hi : i < xs.length := by rw [hxs]; exact (Array.getElem?_eq_some_iff.1 hq).1
    have := hg i f hq
    rw [hf.1, hf.2, hk, hds, List.getElem?_eq_getElem hi] at this
    refine ⟨_, this, fun n hn => hz n ?_⟩
    simp only [DataW.weights, ht]
    refine DataW.weights_mem_each (j := i) (t := T) (d := xs[i].1) ?_ ?_ n hn
    · rw [List.getElem?_map, Array.getElem?_toList, hq]; simp [hf.1]
    · rw [List.getElem?_map, List.getElem?_eq_getElem hi]; rfl
end
end Go.Abs
end
