/-
  The logic of places: texts AR AS AT AU AV.
-/
import Derived.Lib.IndexLaws
import Derived.Lib.Bytes
import Derived.Deep.Draws
import Derived.Laws.Pointers
import Derived.SizedLaws
import Derived.Test.YtdligpdfcfbgpaaAL
section
/-
  Package-level variables that are never written: known to a call, read, handed on to the calls that it makes.
-/
namespace Go.Abs
def GOK (gl : List (Nat × List Value)) (I : Nat → Prop) (w : World) : Prop := ∀ p ∈ gl, I p.1 ∧ ∀ j, w.cell? ⟨p.1, j, none⟩ = p.2[j]?
def FnG (P : Program) (gl : List (Nat × List Value)) (f : FuncId) (args : List AV) (res : AV) : Prop :=
  ∀ (Imm Im : Nat → Prop) (w : World) (xs : List Value), (∀ b, Imm b ∨ Im b → b < w.heap.size) → GOK gl (fun b => Imm b ∨ Im b) w → Rs (gh0 w Imm Im) V0 w args xs [] → Calls P f xs.toArray w (Ans Imm Im w res)
theorem FnG.args {P : Program} {gl : List (Nat × List Value)} {f : FuncId} {as bs : List AV} {res : AV} (h : FnG P gl f as res) (hs : Subs bs as) : FnG P gl f bs res := by
  intro Imm Im w xs himm hg hR
  exact h Imm Im w xs himm hg (hs _ _ _ _ _ hR)
section
variable {P : Program} {Q : Exit → Act → World → Prop} {g0 : Gh} {rnd : Option Nat}
end
section
variable {P : Program} {ty : TypeId} {pos : String} {aft : Array Edge} {gd : Option (Nat × Bool)}
end
end Go.Abs
end
section
/-
  The library's functions, told in Lean; what their contracts come to.
-/
namespace Go.Abs
def byt (l : List Int) : Prop := ∀ x ∈ l, 0 ≤ x ∧ x < 256
instance (l : List Int) : Decidable (byt l) := by unfold byt; infer_instance
namespace Sh
end Sh
end Go.Abs
end
section
/-
  Pointers that may be nil: a call's answer that is a pointer to a new struct, or nil.
-/
namespace Go.Abs
section
variable {g : Gh} {V : Loc → Value} {w : World}
end
section
variable {P : Program}
theorem FnP.args {f : FuncId} {args args' posts : List AV} {res : AV} (h : FnP P f args' posts res) (hs : Subs args args') : FnP P f args posts res := fun Imm Im w xs o0 hi hr => h Imm Im w xs o0 hi (hs _ _ _ _ _ hr)
theorem FnE.args {f : FuncId} {args args' : List AV} {res : AV} (h : FnE P f args' res) (hs : Subs args args') : FnE P f args res := fun Imm Im w xs o0 hi hr => h Imm Im w xs o0 hi (hs _ _ _ _ _ hr)
end
section
variable {Q : Exit → Act → World → Prop} {g0 : Gh} {rnd : Option Nat}
end
section
variable {P : Program} {ty : TypeId} {pos : String} {aft : Array Edge} {gd : Option (Nat × Bool)}
theorem op_move_name (N : List Ent) (d t : Nat) (hcl : hit [.slot d] (.slot t) = false) : LOp P ⟨some d, .move (.tmp t), ty, pos, aft, gd⟩ N [] [(d, .same (.slot t))] [.slot d] :=
  LOp.value rfl (by simp [clr, hcl]) rfl fun g V oN a w hp => ⟨a.eval (.tmp t), by simp [execOp, pure], by simp only [R, Act.eval, hp.val]; exact ⟨trivial, trivial⟩⟩
theorem op_nilCheck_name (N : List Ent) (d : Nat) (x : Operand) (t : Nat) {T : TypeId} {cs : List AV} (h : dupOp N x = .same (.slot t)) (hb : look N t = .box T cs) (hdt : d ≠ t) :
    LOp P ⟨some d, .nilCheck x, ty, pos, aft, gd⟩ N [] [(d, .ptr t 0)] [.slot d] := by
  refine LOp.value rfl (by simp [clr, hit, hdt]) rfl fun g V oN a w hp => ?_
  have hR := dupOp_R hp.val hp.esN x
  rw [h] at hR
  simp only [R] at hR
  obtain ⟨o', _, hE, _⟩ := look_ER hp.esN t
  dsimp only at hE
  rw [hb] at hE
  simp only [R] at hE
  obtain ⟨b, xs, os, h1, _⟩ := hE
  have h2 : a.eval x = .pointer (some ⟨b, 0, none⟩) := by rw [hR.1, h1]
  refine ⟨a.eval x, ?_, by simp only [R]; exact ⟨b, h1, h2, trivial⟩⟩
  simp [execOp, h2]
end
end Go.Abs
end
section
/-
  An own row is cut: x = x[:k] in a variable; an append of rows to a cell.
-/
namespace Go.Abs
section
variable {g : Gh} {V : Loc → Value} {w : World}
end
section
variable {A : Type}
end
section
variable {P : Program} {ty : TypeId} {pos : String} {aft : Array Edge} {gd : Option (Nat × Bool)}
end
end Go.Abs
end
section
/-
  What came in, opened, with the form's own reach: each row and each text takes at most so many bytes.
-/
namespace Go.Abs
open Go.WideShapes
def wzL {A : Type} (b : Nat) (p : A → Prop) (l : List A) : Prop := l.length * b ≤ reachBytes ∧ ∀ x ∈ l, p x
section
variable {H : Type} {enc : TypeId × Value → H} {P : Program} {W : World} {sp : Nat → Bool} {hd : Bool} {t : TypeId}
end
end Go.Abs
end
