/-
  The logic of places: texts AW AX AY AZ AN A0.
-/
import Derived.Lib.FrozenHead
import Derived.OpenShut
import Derived.FnData
import Derived.Lib.UnsafeStr
import Derived.Lib.Builder
import Derived.Lib.Repeat
import Derived.Lib.Join
import Derived.Lib.Atoi
import Derived.Lib.Bytealg
import Derived.Lib.IndexAny
import Derived.HandedShaped
import Derived.Lib.ConvBytes
import Derived.Below
import Derived.Lib.LaidTab
import Derived.Lib.ItoaNum
import Derived.Sort.Grow
import Derived.Test.YtbioodcjmceefaaAR
section
/-
  Ranges over a function: what yields, what ranges, the rounds; told by a step of Lean on the state that the rounds leave.
-/
namespace Go.Abs
section
variable {P : Program} {Q : Exit → Act → World → Prop} {g0 : Gh} {rnd : Option Nat}
end
section
variable {P : Program} {ty : TypeId} {pos : String} {aft : Array Edge} {gd : Option (Nat × Bool)}
end
end Go.Abs
end
section
/-
  The statement 'for x := range f': its rule.
-/
namespace Go.Abs
structure RdT where
  l : Nat
  D : Nat
  fn : FuncId
  tm : Array Value
  ps : Array Tmp
  asg : Code
  bod : Code
def RdT.rc (k : RdT) (st : LoopState) (pe : Option Code) : Loop := { state := st, pending := pe, fn := k.fn, tmps := k.tm, params := k.ps, assign := k.asg, body := k.bod, defers := k.D }
def recI (l D : Nat) (rc : Loop) : InvT where
  P := fun _ _ o w => o = [l, D] ∧ l ≠ D ∧ w.heap[l]? = some (.loop rc) ∧ w.heap[D]? = some (.deferred (some []))
  stab := fun I M I' M' o w w' _ _ hw h => by
    obtain ⟨rfl, h1, h2, h3⟩ := h
    exact ⟨rfl, h1, (hw l (.inl (by simp))).trans h2, (hw D (.inl (by simp))).trans h3⟩
theorem clrEnt_nil (e : Ent) : clrEnt [] e = true := by
  simp only [clrEnt, hit, List.any_nil, List.all_nil, Bool.not_false, Bool.true_and, Bool.and_true, Bool.or_true]; exact clr_nil e.2
def calI (es : List Ent) (tm : Array Value) (l D : Nat) (rc : Loop) : InvT where
  P := fun Imm Im o w => ∃ V o1, (∀ t ∈ es.map (·.1), V (.slot t) = tm.getD t undef) ∧ o = o1 ++ [l, D] ∧ Es (gh0 w Imm Im) V w es o1 ∧ l ≠ D ∧ w.heap[l]? = some (.loop rc) ∧ w.heap[D]? = some (.deferred (some []))
  stab := fun I M I' M' o w w' hI hM hw h => by
    obtain ⟨V, o1, h1, rfl, h2, h3, h4, h5⟩ := h
    refine ⟨V, o1, h1, rfl, ?_, h3, (hw l (.inl (by simp))).trans h4, (hw D (.inl (by simp))).trans h5⟩
    exact Es_stab (W := []) (g := gh0 w I M) (g' := gh0 w' I' M') hI hM (fun _ _ => rfl) es o1 (fun e _ => clrEnt_nil e) (fun b hb => hw b (by
      rcases hb with hb | hb
      · exact .inl (by simp [hb])
      · exact .inr hb)) h2
def RdT.ready (k : RdT) : InvT := recI k.l k.D (k.rc .ready none)
def RdT.J {S O : Type} (k : RdT) (I : S → List Ent) (E : O → List Ent) : S ⊕ O → InvT
  | .inl s => calI (I s) k.tm k.l k.D (k.rc .ready none)
  | .inr o => calI (E o) k.tm k.l k.D (k.rc .done (some .ret))
section
variable {P : Program} {Q : Exit → Act → World → Prop} {g0 : Gh}
theorem Sat.rec {g : Gh} {es : List Ent} {j : Nat} {l D : Nat} {rc : Loop} (rc' : Loop) {a : Act} {w : World} (h : Sat g (es ++ [(j, .inv (recI l D rc))]) a w) :
    w.heap[l]? = some (.loop rc) ∧ Sat g (es ++ [(j, .inv (recI l D rc'))]) a (w.putObj l (.loop rc')) := by
  obtain ⟨V, o, hst, hes⟩ := h
  obtain ⟨o1, o2, rfl, h1, o3, o4, rfl, ⟨h2, _⟩, rfl⟩ := Es_append.1 hes
  simp only [R] at h2
  obtain ⟨rfl, hne, hl, hD⟩ := h2
  simp only [List.append_nil] at hst
  have hlt : l < w.heap.size := (Array.getElem?_eq_some_iff.1 hl).1
  have hown := hst.own l (by simp)
  have hnl : l ∉ o1 := fun hm => (List.nodup_append.1 hst.nodup).2.2 l hm l (by simp) rfl
  refine ⟨hl, V, o1 ++ ([l, D] ++ []), ⟨hst.val, hst.size, hst.defers, hst.dnd, fun E hE => ?_, by simpa using hst.nodup, fun b hb => ?_, fun b hb => by simpa using hst.imm b hb, ?_⟩, Es_append.2 ⟨o1, _, rfl, ?_, [l, D], [], rfl, ⟨?_, trivial⟩, rfl⟩⟩
  · obtain ⟨k1, k2, k3⟩ := hst.marks E hE
    refine ⟨(World.putObj_heap_other (fun e => k2 (by simp [e]))).trans k1, by simpa using k2, k3⟩
  · have := hst.own b (by simpa using hb)
    exact ⟨by simpa using this.1, this.2⟩
  · refine hst.chg.trans' (U := [l]) ⟨rfl, rfl, rfl, by simp, fun k _ hk => World.putObj_heap_other (by simpa using hk)⟩ (fun x hx => ?_)
    simp at hx; subst hx
    exact hown.2.1.symm
  · refine Es_stab (W := []) (fun _ h => h) (fun _ h => h) (fun _ _ => rfl) es o1 (fun e _ => clrEnt_nil e) (fun b hb => World.putObj_heap_other fun e => ?_) h1
    subst e
    rcases hb with hb | hb
    · exact hnl hb
    · exact hown.2.2 hb
  · simp only [R]
    exact ⟨rfl, hne, World.putObj_heap_same hlt, (World.putObj_heap_other (Ne.symm hne)).trans hD⟩
end
end Go.Abs
end
section
/-
  The statement 'for x := range f', after a step told in Lean.
-/
namespace Go.Abs
theorem heap_alloc (w : World) (o : Obj) (k : Nat) (hk : k < w.heap.size) : (w.alloc o).heap[k]? = w.heap[k]? := (Chg.alloc [] w o).block k hk (by simp)
section
variable {P : Program} {Q : Exit → Act → World → Prop} {g0 : Gh}
end
end Go.Abs
end
section
/-
  The row that a text's conversion makes, written into: bytes that are the call's own, with a mark behind them.
-/
namespace Go.Abs
section
variable {P : Program} {ty : TypeId} {pos : String} {aft : Array Edge} {gd : Option (Nat × Bool)}
end
section
variable {P : Program} {ty : TypeId} {pos : String} {aft : Array Edge} {gd : Option (Nat × Bool)}
end
end Go.Abs
end
section
/-
  The library of places, whole; strings.Index at a separator of one byte, strings.IndexByte; a struct out of a tuple.
-/
namespace Go.Abs
namespace Sh
def strings_Index (s sep : ByteArray) : Option Int := match sep.data.toList with
  | [c] => some (Lib.indexByte s.data.toList c)
  | _ => none
@[reducible] def internal_stringslite_Index (s sep : ByteArray) : Option Int := strings_Index s sep
def strings_IndexByte (s : ByteArray) (c : Int) : Option Int := some (Lib.indexByte s.data.toList c.toNat.toUInt8)
@[reducible] def internal_stringslite_IndexByte (s : ByteArray) (c : Int) : Option Int := strings_IndexByte s c
end Sh
section
variable {P : Program} {ty : TypeId} {pos : String} {aft : Array Edge} {gd : Option (Nat × Bool)}
end
/-! Tables that are laid before the call. -/
/-! What an operation gives is shared from then on. -/
end Go.Abs
end
section
/-
  strings.Builder: what a builder holds; its methods, told.
-/
namespace Go.Abs
set_option linter.unusedVariables false
namespace Sh
end Sh
def gD (w : World) : Gh := ⟨0, w, [], fun _ => False, fun _ => False, []⟩
theorem own_any {g g' : Gh} {V V' : Loc → Value} {w : World} {e : TypeId} {z : Nat} {xs : List Value} {x : Value} {o : List Nat} (h : R g V w (.fl (.own e) z xs) x o) : R g' V' w (.fl (.own e) z xs) x o := by
  simp only [R, modeOk] at *; exact h
theorem own_stab {g : Gh} {V : Loc → Value} {w w' : World} {e : TypeId} {z : Nat} {xs : List Value} {x : Value} {o : List Nat} (hw : ∀ b, b ∈ o → w'.heap[b]? = w.heap[b]?) (h : R g V w (.fl (.own e) z xs) x o) : R g V w' (.fl (.own e) z xs) x o :=
  own_any (R_stab (g := gD w) (g' := gD w) (V := V) (V' := V) (W := []) (fun _ h => h) (fun _ h => h) (fun _ _ => rfl) (.fl (.own e) z xs) x o rfl (fun b hb => hb.elim (hw b) (fun h => h.elim False.elim False.elim)) (own_any h))
def BldP (T e : TypeId) (u : Bool) (v : Value) (xs : List Value) (x : Value) (o : List Nat) (w : World) : Prop :=
  ∃ (b : Nat) (p : Value) (o2 : List Nat), x = .pointer (some ⟨b, 0, none⟩) ∧ o = b :: o2 ∧ w.heap[b]? = some (.cells #[p, v] T (0, 0)) ∧ (p = .pointer (some ⟨b, 0, none⟩) ∨ (u = false ∧ p = .pointer none)) ∧ R (gD w) V0 w (.fl (.own e) 1 xs) v o2
theorem BldP.stab {T e : TypeId} {u : Bool} {v : Value} {xs : List Value} {x : Value} {o : List Nat} {w w' : World} (h : BldP T e u v xs x o w) (hw : ∀ b ∈ o, w'.heap[b]? = w.heap[b]?) : BldP T e u v xs x o w' := by
  obtain ⟨b, p, o2, h1, rfl, h3, h4, h5⟩ := h
  exact ⟨b, p, o2, h1, rfl, by rw [hw b (by simp)]; exact h3, h4, own_any (own_stab (fun c hc => hw c (by simp [hc])) h5)⟩
section
variable {g : Gh} {P : Program} {Q : Exit → Act → World → Prop} {g0 : Gh} {rnd : Option Nat}
end
section
variable {P : Program}
end
/-! String. -/
section
variable {P : Program} {ty : TypeId} {pos : String} {aft : Array Edge} {gd : Option (Nat × Bool)}
end
/-! strings.Repeat. -/
namespace Sh
end Sh
/-! strings.Join. -/
namespace Sh
end Sh
/-! Functions that are given variables and know tables. -/
def FnPG (P : Program) (gl : List (Nat × List Value)) (f : FuncId) (args posts : List AV) (res : AV) : Prop :=
  ∀ (Imm Im : Nat → Prop) (w : World) (xs : List Value) (o0 : List Nat), (∀ b, Imm b ∨ Im b → b < w.heap.size) → GOK gl (fun b => Imm b ∨ Im b) w → Rs (gh0 w Imm Im) V0 w args xs o0 → o0.Nodup → (∀ b ∈ o0, b < w.heap.size ∧ ¬ (Imm b ∨ Im b)) →
    Calls P f xs.toArray w (AnsP xs posts o0 Imm Im w res)
theorem FnPG.args {P : Program} {gl : List (Nat × List Value)} {f : FuncId} {args args' posts : List AV} {res : AV} (h : FnPG P gl f args' posts res) (hs : Subs args args') : FnPG P gl f args posts res := fun Imm Im w xs o0 hi hg hr => h Imm Im w xs o0 hi hg (hs _ _ _ _ _ hr)
section
variable {P : Program} {Q : Exit → Act → World → Prop} {g0 : Gh} {rnd : Option Nat}
end
section
variable {P : Program} {ty : TypeId} {pos : String} {aft : Array Edge} {gd : Option (Nat × Bool)}
end
/-! strconv.Atoi, where it answers. -/
namespace Sh
end Sh
section
variable {P : Program} {ty : TypeId} {pos : String} {aft : Array Edge} {gd : Option (Nat × Bool)}
end
/-! A function value over a variable that lives on: told by the variable's name; the variable stands still while it is called. -/
section
variable {P : Program} {ty : TypeId} {pos : String} {aft : Array Edge} {gd : Option (Nat × Bool)}
end
section
variable {P : Program} {ty : TypeId} {pos : String} {aft : Array Edge} {gd : Option (Nat × Bool)}
end
/-! bytes.IndexAny at a line's end, where it answers. -/
namespace Sh
end Sh
/-! Short names, for the told functions' texts. -/
section
variable {P : Program} {Q : Exit → Act → World → Prop} {g0 : Gh} {rnd : Option Nat} {ops : Array Oper} {N T G : List Ent} {W : List Loc} {ty : TypeId} {pos : String} {aft : Array Edge} {gd : Option (Nat × Bool)}
theorem zl {n m : Nat} (h : Nat.ble n m = true) : n ≤ m := Nat.le_of_ble_eq_true h
theorem zs {o : Oper} (j : Nat) (want : Bool) {d dd : Nat} {oj : Oper} (hg : o.guard = some (j, want)) (hj : ops[j]? = some oj) (hd : oj.dst = some d) (hdd : o.dst = some dd) : OpG P ops o ((d, AV.v (.bool (!want))) :: N) [] [(dd, .v undef)] [.slot dd] :=
  st_skip j d dd want hg hj hd hdd (List.Mem.head _)
abbrev z0 : ByteArray := ⟨#[]⟩
abbrev vs (s : ByteArray) : AV := .v (.string s)
theorem z1 {d : Nat} {x : Operand} {av : AV} (h : (gd, dupOp N x, clr [.slot d] av) = (none, av, true)) : OpG P ops ⟨some d, .move x, ty, pos, aft, gd⟩ N [] [(d, av)] [.slot d] := st_plain (congrArg Prod.fst h) (op_move N d x av (congrArg (fun x => x.2.1) h) (congrArg (fun x => x.2.2) h))
theorem z2 {d : Nat} {x : Operand} {av : AV} (h : (gd, dupOp N x, clr [.slot d] av) = (none, av, true)) : OpG P ops ⟨some d, .assign x, ty, pos, aft, gd⟩ N [] [(d, av)] [.slot d] := st_plain (congrArg Prod.fst h) (op_assign N d x av (congrArg (fun x => x.2.1) h) (congrArg (fun x => x.2.2) h))
theorem z3 {d : Nat} {c x y : Operand} (b : Bool) {r : Value} (h : (gd, rd N c, rd N (if b then x else y)) = (none, .v (.bool b), .v r)) : OpG P ops ⟨some d, .pick c x y, ty, pos, aft, gd⟩ N [] [(d, .v r)] [.slot d] := st_plain (congrArg Prod.fst h) (op_pick N d b r (congrArg (fun x => x.2.1) h) (congrArg (fun x => x.2.2) h))
theorem z4 {d : Nat} {op : BinOp} {t t' : TypeId} {x y : Operand} {a b r : Value} (h : (gd, rd N x, rd N y) = (none, .v a, .v b)) (h2 : aBin op a b = some r) : OpG P ops ⟨some d, .binOp op t x y t', ty, pos, aft, gd⟩ N [] [(d, .v r)] [.slot d] := st_plain (congrArg Prod.fst h) (op_bin N d a b r (congrArg (fun x => x.2.1) h) (congrArg (fun x => x.2.2) h) h2)
theorem oB {d : Nat} {op : BinOp} {t t' : TypeId} {x y : Operand} {a b r : Value} (h : (rd N x, rd N y) = (.v a, .v b)) (h2 : aBin op a b = some r) : LOp P ⟨some d, .binOp op t x y t', ty, pos, aft, gd⟩ N [] [(d, .v r)] [.slot d] := op_bin N d a b r (congrArg Prod.fst h) (congrArg Prod.snd h) h2
theorem oF {d : Nat} {s : TypeId} {x : Operand} {i : Nat} {fs : Array Field} {f : Field} {t off k2 k : Nat} (hT : P.underlying s = some (.struct fs)) (h : (fs[i]?, dupOp N x, off + f.offset, Nat.beq t d) = (some f, .ptr t off, k2, false)) (hk : (P.info? f.type).map (·.size) = some (k + 1)) :
    LOp P ⟨some d, .fieldAddr s x i, ty, pos, aft, gd⟩ N [] [(d, .ptr t k2)] [.slot d] :=
  op_fieldAddr N d x i t off k2 hT (congrArg (fun x => x.1) h) hk (congrArg (fun x => x.2.1) h) (congrArg (fun x => x.2.2.1) h) (Nat.ne_of_beq_eq_false (congrArg (fun x => x.2.2.2) h))
theorem oN {d : Nat} {t t' : TypeId} {x : Operand} {s : ByteArray} (hT : P.underlying t = some .string) (hx : rd N x = .v (.string s)) : LOp P ⟨some d, .call ⟨.builtin .len, #[x], #[t]⟩, t', pos, aft, gd⟩ N [] [(d, .v (.int .i64 (s.size : Int)))] [.slot d] := op_len_str N d s hT hx
end
/-! A store into a struct that is a row's element. -/
/-! A variable that is one number; strconv.Itoa, over its table. -/
namespace Sh
end Sh
section
variable {P : Program} {ty : TypeId} {pos : String} {aft : Array Edge} {gd : Option (Nat × Bool)}
end
/-! A plain value into a cell of a row of structs that hold rows. -/
section
variable {P : Program}
variable {ty : TypeId} {pos : String} {aft : Array Edge} {gd : Option (Nat × Bool)}
end
theorem gflat_fit {A B : Type} {z : Nat} {enc : A → List B} (he : ∀ x, (enc x).length = z) {l : List A} {i q s : Nat} {x : A} (h : getO l i = some x) (hq : q + s ≤ z) : i * z + q + s ≤ ((l.map enc).flatten).length := by
  have hi : i < l.length := (List.getElem?_eq_some_iff.1 h).1
  have := gflat_lt he hi
  omega
theorem gflat_setc {A B : Type} {z : Nat} {enc : A → List B} (he : ∀ x, (enc x).length = z) {l : List A} {i q s : Nat} {x y : A} {vs : List B} (h : getO l i = some x) (hy : enc y = (enc x).take q ++ (vs ++ (enc x).drop (q + s))) (hq : q + s ≤ z) :
    ((l.map enc).flatten).take (i * z + q) ++ (vs ++ ((l.map enc).flatten).drop (i * z + q + s)) = ((l.set i y).map enc).flatten := by
  unfold getO at h
  obtain ⟨hi, hx⟩ := List.getElem?_eq_some_iff.1 h
  have hl : l = l.take i ++ x :: l.drop (i + 1) := by
    rw [← hx, List.getElem_cons_drop, List.take_append_drop]
  have e1 : ((l.map enc).flatten) = ((l.take i).map enc).flatten ++ (enc x ++ ((l.drop (i + 1)).map enc).flatten) := by
    conv => lhs; rw [hl]
    simp
  have e2 : ((l.set i y).map enc).flatten = ((l.take i).map enc).flatten ++ (enc y ++ ((l.drop (i + 1)).map enc).flatten) := by
    rw [List.set_eq_take_append_cons_drop, if_pos hi]
    simp
  have hlen : (((l.take i).map enc).flatten).length = i * z := by rw [gflat_len he, List.length_take, Nat.min_eq_left (Nat.le_of_lt hi)]
  have hex := he x
  rw [e1, e2, hy, ← hlen, List.take_length_add_append, show (((l.take i).map enc).flatten).length + q + s = (((l.take i).map enc).flatten).length + (q + s) by omega, List.drop_length_add_append,
    List.take_append_of_le_length (by omega), List.drop_append_of_le_length (by omega)]
  simp only [List.append_assoc]
namespace Sh
end Sh
/-! A literal of several structs that hold rows. -/
inductive EOK (s : Bool) (z : Nat) (N : List Ent) (zl : List Value) : List (Option Operand) → List IC → Prop
  | nil : EOK s z N zl [] []
  | some (x : Operand) {av : AV} {ics jcs : List IC} {es : List (Option Operand)} (h : dupOp N x = av) (hok : cellsOk N av = true) (hai : AIs s (vcells av) ics) (hl : ics.length = z) (hr : EOK s z N zl es jcs) : EOK s z N zl (some x :: es) (ics ++ jcs)
  | none {ics jcs : List IC} {es : List (Option Operand)} (hai : AIs s (zl.map AV.v) ics) (hl : ics.length = z) (hr : EOK s z N zl es jcs) : EOK s z N zl (none :: es) (ics ++ jcs)
section
variable {P : Program} {ty : TypeId} {pos : String} {aft : Array Edge} {gd : Option (Nat × Bool)}
end
section
variable {P : Program} {ty : TypeId} {pos : String} {aft : Array Edge} {gd : Option (Nat × Bool)}
end
/-! The name of an own row, taken before a store into an element of it, used behind it. -/
section
variable {P : Program} {ty : TypeId} {pos : String} {aft : Array Edge} {gd : Option (Nat × Bool)}
end
/-! An own row in a variable's cell, its header laid open: what names it is a plain value then. -/
theorem St.perm {g : Gh} {V : Loc → Value} {o o' : List Nat} {a : Act} {w : World} (hs : St g V o a w) (hp : o.Perm o') : St g V o' a w :=
  ⟨hs.val, hs.size, hs.defers, hs.dnd, fun D hD => let ⟨h1, h2, h3⟩ := hs.marks D hD; ⟨h1, fun hm => h2 (hp.mem_iff.2 hm), h3⟩, hp.nodup_iff.1 hs.nodup, fun b hb => hs.own b (hp.mem_iff.2 hb), hs.imm, hs.chg⟩
section
variable {P : Program} {Q : Exit → Act → World → Prop} {g0 : Gh} {rnd : Option Nat}
variable {ty : TypeId} {pos : String} {aft : Array Edge} {gd : Option (Nat × Bool)}
end
section
variable {P : Program} {ty : TypeId} {pos : String} {aft : Array Edge} {gd : Option (Nat × Bool)}
end
/-! strings.Count, of one byte. -/
namespace Sh
end Sh
/-! Maps from short rows of bytes to numbers; arrays out of slices. -/
namespace Sh
end Sh
end Go.Abs
end
