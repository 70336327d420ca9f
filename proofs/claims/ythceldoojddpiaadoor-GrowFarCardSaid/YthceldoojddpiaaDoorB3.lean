/-
  Sets of structs in a variable's place.
-/
import Derived.Test.YthceldoojddpiaaDoorB2
import Derived.DeepKeys3
import Derived.Maps.OwnSet
namespace Go.Abs
open Go.Maps
inductive CK
  | i (q : IntKind)
  | b
  | s
namespace Sh
def ckOK : CK → Value → Bool
  | .i q, .int q' n => decide (q' = q) && (Lit.int q n).wf
  | .b, .bool _ => true
  | .s, .string s => Nat.ble s.size 140737488355328
  | _, _ => false
def cksOK : List CK → List Value → Bool
  | [], [] => true
  | k :: ks, v :: vs => ckOK k v && cksOK ks vs
  | _, _ => false
end Sh
open Sh
section
variable (P : Program)
def kindsF (g : TypeId → Option (List CK)) : List Field → Nat → Option (List CK)
  | [], _ => some []
  | f :: fs, off =>
    match g f.type with
    | some ks => if f.offset = off ∧ P.cellsOf f.type = ks.length then (kindsF g fs (off + ks.length)).map (ks ++ ·) else none
    | none => none
def kinds : Nat → TypeId → Option (List CK)
  | 0, _ => none
  | d + 1, t =>
    match P.underlying t with
    | some .bool => some [.b]
    | some (.int q) => some [.i q]
    | some .string => some [.s]
    | some (.struct fs) =>
      if fs.all (·.name != "_") = true then
        match kindsF P (kinds d) fs.toList 0 with
        | some ks => if ks.length = P.cellsOf t then some ks else none
        | none => none
      else none
    | _ => none
end
section
variable {P : Program}
structure SetF (P : Program) (T k e : TypeId) {α : Type} (ks : List CK) (f : α → List Value) : Prop where
  ut : P.underlying T = some (.map k e)
  kd : Maps.Keyed P k
  ky : ∀ q : α, cksOK ks (f q) = true → ∃ l, keyOf P k (.agg (f q).toArray) = some l
  inj : ∀ a b : α, f a = f b → a = b
variable {ty : TypeId} {pos : String} {aft : Array Edge} {gd : Option (Nat × Bool)} {α : Type}
end
/-! Arrays of two strings, each in a cell. -/
section
variable {P : Program} {ty : TypeId} {pos : String} {aft : Array Edge} {gd : Option (Nat × Bool)}
theorem op_build_arrA (N : List Ent) (d : Nat) {T e : TypeId} {n : Nat} {parts : Array (Nat × Operand)} (z : Value) (us : List Value) (vals : List (Nat × Value)) (hT : P.underlying T = some (.array n e)) (hz : (P.info? e).map (·.size) = some 1)
    (hzv : (P.info? T).bind (·.zero) = some z) (hv : ∀ (g : Gh) (V : Loc → Value) (w : World) (o : List Nat) (a : Act), (∀ t, V (.slot t) = a.tmps.getD t undef) → Es g V w N o → (parts.map fun (i, x) => (i, a.eval x)).toList = vals)
    (hf : Instr.fill (fun i => some (i * 1, 1)) z.cells vals = some us.toArray) (hcl : clr [.slot d] (.agg (us.map .v)) = true) :
    LOp P ⟨some d, .build T parts, ty, pos, aft, gd⟩ N [] [(d, .agg (us.map .v))] [.slot d] := by
  refine LOp.value rfl hcl rfl fun g V oN a w hp => ?_
  have hvals := hv g V w oN a hp.val hp.esN
  refine ⟨.agg us.toArray, ?_, by simp only [R]; exact ⟨us, rfl, Rs_vals us⟩⟩
  simp only [execOp, Instr.build, Sem.run_bind, run_zero hzv, Result.andThen_ok, run_underlying hT, run_sizeOf' hz, hvals]
  simp only [Nat.mul_one] at hf
  simp [hf]
theorem op_ix_e (N : List Ent) (d : Nat) {T e : TypeId} (x y : Operand) {kd : IntKind} (n i z : Nat) (l : Loc) (j k2 : Nat) (hT : P.underlying T = some (.array n e)) (hz : (P.info? e).map (·.size) = some z)
    (hx : dupOp N x = .eref l j) (hy : rd N y = .v (.int kd (i : Int))) (hi : i < n) (hk2 : j + i * z = k2) (hl : hit [.slot d] l = false) : LOp P ⟨some d, .indexAddr T x y, ty, pos, aft, gd⟩ N [] [(d, .eref l k2)] [.slot d] := by
  subst hk2
  refine LOp.value rfl (by simp [clr, hl]) rfl fun g V oN a w hp => ?_
  have hR := dupOp_R hp.val hp.esN x
  rw [hx] at hR
  simp only [R] at hR
  obtain ⟨ad, n', c, h1, h2, _⟩ := hR
  have h3 := rd_v hp.val hp.esN hy
  refine ⟨.pointer (some (ad.add (j + i * z))), ?_, by simp only [R]; exact ⟨ad, n', c, h1, rfl, trivial⟩⟩
  simp [execOp, Instr.indexAt, Sem.run_bind, run_underlying hT, h2, h3, asIntOf, Instr.sureAddr, run_sizeOf' hz, hi, add_add]
end
section
variable {H : Type} {enc : TypeId × Value → H} {P : Program} {W : World} {sp : Nat → Bool} {hd : Bool} {t : TypeId}
end
end Go.Abs
