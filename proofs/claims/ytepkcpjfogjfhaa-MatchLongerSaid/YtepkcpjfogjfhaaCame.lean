/-
  What came in, by its type.
-/
import Derived.Test.YtepkcpjfogjfhaaProg
import Derived.Test.YtepkcpjfogjfhaaSh
import Derived.KernelRfl
set_option linter.unusedVariables false
set_option maxRecDepth 100000
namespace Go.Proofs.Ytepkcpjfogjfhaa
open Go.Abs Go.Abs.Sh

theorem cm5 {H : Type} {enc : TypeId × Value → H} {W : World} {sp : Nat → Bool} {hd : Bool} : Came enc Try.prog W sp hd 5 (fun n : Int => [IC.v (.int .u8 n)]) (wfI .u8) := came_int Try.underlying5
theorem cm22 {H : Type} {enc : TypeId × Value → H} {W : World} {sp : Nat → Bool} {hd : Bool} : Came enc Try.prog W sp hd 22 (fun l : List Int => [IC.row 1 (List.map IC.v (List.map (Value.int .u8) l))]) (wfL (wfI .u8)) := came_row1 Try.underlying22 (by kernel_rfl) cm5
theorem cm3 {H : Type} {enc : TypeId × Value → H} {W : World} {sp : Nat → Bool} {hd : Bool} : Came enc Try.prog W sp hd 3 (fun n : Int => [IC.v (.int .i64 n)]) (wfI .i64) := came_int Try.underlying3
theorem cm40 {H : Type} {enc : TypeId × Value → H} {W : World} {sp : Nat → Bool} {hd : Bool} : Came enc Try.prog W sp hd 40 (fun x => List.map IC.v (T_Tok.enc x)) T_Tok.wf := by
  intro fuel cs y h
  obtain ⟨xs, m, _, hy, hlen, hxs, hg⟩ := DataW.trod_struct Try.underlying40 h
  have hN : Try.prog.cellsOf 40 = 3 := by kernel_rfl
  rw [hN] at hlen
  obtain ⟨c0, c1, c2, rfl⟩ : ∃ c0 c1 c2, cs = [c0, c1, c2] := by
    match cs, hlen with
    | [c0, c1, c2], _ => exact ⟨_, _, _, rfl⟩
  obtain ⟨y0, e0⟩ := came_fld hg hxs 0 (T := 5) (o := 0) (k := 1) (ds := [c0]) rfl (by kernel_rfl) rfl
  obtain ⟨x0, r0, o0, w0⟩ := cm5 _ _ _ e0
  obtain ⟨y1, e1⟩ := came_fld hg hxs 1 (T := 3) (o := 1) (k := 1) (ds := [c1]) rfl (by kernel_rfl) rfl
  obtain ⟨x1, r1, o1, w1⟩ := cm3 _ _ _ e1
  obtain ⟨y2, e2⟩ := came_fld hg hxs 2 (T := 3) (o := 2) (k := 1) (ds := [c2]) rfl (by kernel_rfl) rfl
  obtain ⟨x2, r2, o2, w2⟩ := cm3 _ _ _ e2
  exact ⟨T_Tok.mk x0 x1 x2, (RIs_append r0 (RIs_append r1 (RIs_append r2 RIs_nil))), (ones_app o0 (ones_app o1 (ones_app o2 ones_nil))), w0, w1, w2⟩
theorem cm23 {H : Type} {enc : TypeId × Value → H} {W : World} {sp : Nat → Bool} {hd : Bool} : Came enc Try.prog W sp hd 23 (fun l : List T_Tok => [IC.row 3 (List.map IC.v (List.flatten (List.map T_Tok.enc l)))]) (wfL T_Tok.wf) := came_rowst Try.underlying23 (z := 3) (by kernel_rfl) (by decide) T_Tok.len cm40
end Go.Proofs.Ytepkcpjfogjfhaa
