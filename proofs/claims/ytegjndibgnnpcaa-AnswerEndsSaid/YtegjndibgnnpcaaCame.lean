/-
  What came in, by its type.
-/
import Derived.Test.YtegjndibgnnpcaaProg
import Derived.Test.YtegjndibgnnpcaaSh
import Derived.KernelRfl
set_option linter.unusedVariables false
namespace Go.Proofs.Ytegjndibgnnpcaa
open Go.Abs Go.Abs.Sh

theorem cm3 {H : Type} {enc : TypeId × Value → H} {W : World} {sp : Nat → Bool} {hd : Bool} : Came enc Try.prog W sp hd 3 (fun n : Int => [IC.v (.int .i64 n)]) (wfI .i64) := came_int Try.underlying3
theorem cm9 {H : Type} {enc : TypeId × Value → H} {W : World} {sp : Nat → Bool} {hd : Bool} : Came enc Try.prog W sp hd 9 (fun s : ByteArray => [IC.v (.string s)]) wfS := came_string Try.underlying9
theorem cm22 {H : Type} {enc : TypeId × Value → H} {W : World} {sp : Nat → Bool} {hd : Bool} : Came enc Try.prog W sp hd 22 (fun l : List ByteArray => [IC.row 1 (List.map IC.v (List.map Value.string l))]) (wfL wfS) := came_row1 Try.underlying22 (by kernel_rfl) cm9
theorem cm24 {H : Type} {enc : TypeId × Value → H} {W : World} {sp : Nat → Bool} {hd : Bool} : Came enc Try.prog W sp hd 24 T_Reply.ienc T_Reply.wf := by
  intro fuel cs y h
  obtain ⟨xs, m, _, _, hlen, hxs, hg⟩ := DataW.trod_struct Try.underlying24 h
  have hN : Try.prog.cellsOf 24 = 2 := by kernel_rfl
  rw [hN] at hlen
  obtain ⟨c0, c1, rfl⟩ : ∃ c0 c1, cs = [c0, c1] := by
    match cs, hlen with
    | [c0, c1], _ => exact ⟨_, _, rfl⟩
  obtain ⟨y0, e0⟩ := came_fld hg hxs 0 (T := 3) (o := 0) (k := 1) (ds := [c0]) rfl (by kernel_rfl) rfl
  obtain ⟨x0, r0, o0, w0⟩ := cm3 _ _ _ e0
  obtain ⟨y1, e1⟩ := came_fld hg hxs 1 (T := 22) (o := 1) (k := 1) (ds := [c1]) rfl (by kernel_rfl) rfl
  obtain ⟨x1, r1, o1, w1⟩ := cm22 _ _ _ e1
  exact ⟨T_Reply.mk x0 x1, (RIs_append r0 (RIs_append r1 RIs_nil)), (ones_app o0 (ones_app o1 ones_nil)), w0, w1⟩
theorem cm42 {H : Type} {enc : TypeId × Value → H} {W : World} {sp : Nat → Bool} {hd : Bool} : Came enc Try.prog W sp hd 42 (fun l : List T_Reply => [IC.row 2 (List.flatten (List.map T_Reply.ienc l))]) (wfL T_Reply.wf) := came_slice Try.underlying42 (z := 2) (by kernel_rfl) (by decide) T_Reply.ilen cm24
end Go.Proofs.Ytegjndibgnnpcaa
