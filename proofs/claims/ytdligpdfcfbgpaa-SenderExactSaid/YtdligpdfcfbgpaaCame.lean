/-
  What came in, by its type.
-/
import Derived.Test.YtdligpdfcfbgpaaProg
import Derived.Test.YtdligpdfcfbgpaaSh
import Derived.KernelRfl
set_option linter.unusedVariables false
set_option maxRecDepth 100000
namespace Go.Proofs.Ytdligpdfcfbgpaa
open Go.Abs Go.Abs.Sh

theorem cm3 {H : Type} {enc : TypeId × Value → H} {W : World} {sp : Nat → Bool} {hd : Bool} : Came enc Try.prog W sp hd 3 (fun n : Int => [IC.v (.int .i64 n)]) (wfI .i64) := came_int Try.underlying3
theorem cm5 {H : Type} {enc : TypeId × Value → H} {W : World} {sp : Nat → Bool} {hd : Bool} : Came enc Try.prog W sp hd 5 (fun n : Int => [IC.v (.int .u8 n)]) (wfI .u8) := came_int Try.underlying5
theorem cm22 {H : Type} {enc : TypeId × Value → H} {W : World} {sp : Nat → Bool} {hd : Bool} : Came enc Try.prog W sp hd 22 (fun l : List Int => [IC.row 1 (List.map IC.v (List.map (Value.int .u8) l))]) (wfL (wfI .u8)) := came_row1 Try.underlying22 (by kernel_rfl) cm5
theorem cm4 {H : Type} {enc : TypeId × Value → H} {W : World} {sp : Nat → Bool} {hd : Bool} : Came enc Try.prog W sp hd 4 (fun b : Bool => [IC.v (.bool b)]) (fun _ => True) := came_bool Try.underlying4
theorem cm24 {H : Type} {enc : TypeId × Value → H} {W : World} {sp : Nat → Bool} {hd : Bool} : Came enc Try.prog W sp hd 24 T_Send.ienc T_Send.wf := by
  intro fuel cs y h
  obtain ⟨xs, m, _, hy, hlen, hxs, hg⟩ := DataW.trod_struct Try.underlying24 h
  have hN : Try.prog.cellsOf 24 = 7 := by kernel_rfl
  rw [hN] at hlen
  obtain ⟨c0, c1, c2, c3, c4, c5, c6, rfl⟩ : ∃ c0 c1 c2 c3 c4 c5 c6, cs = [c0, c1, c2, c3, c4, c5, c6] := by
    match cs, hlen with
    | [c0, c1, c2, c3, c4, c5, c6], _ => exact ⟨_, _, _, _, _, _, _, rfl⟩
  obtain ⟨y0, e0⟩ := came_fld hg hxs 0 (T := 3) (o := 0) (k := 1) (ds := [c0]) rfl (by kernel_rfl) rfl
  obtain ⟨x0, r0, o0, w0⟩ := cm3 _ _ _ e0
  obtain ⟨y1, e1⟩ := came_fld hg hxs 1 (T := 22) (o := 1) (k := 1) (ds := [c1]) rfl (by kernel_rfl) rfl
  obtain ⟨x1, r1, o1, w1⟩ := cm22 _ _ _ e1
  obtain ⟨y2, e2⟩ := came_fld hg hxs 2 (T := 4) (o := 2) (k := 1) (ds := [c2]) rfl (by kernel_rfl) rfl
  obtain ⟨x2, r2, o2, w2⟩ := cm4 _ _ _ e2
  obtain ⟨y3, e3⟩ := came_fld hg hxs 3 (T := 3) (o := 3) (k := 1) (ds := [c3]) rfl (by kernel_rfl) rfl
  obtain ⟨x3, r3, o3, w3⟩ := cm3 _ _ _ e3
  obtain ⟨y4, e4⟩ := came_fld hg hxs 4 (T := 3) (o := 4) (k := 1) (ds := [c4]) rfl (by kernel_rfl) rfl
  obtain ⟨x4, r4, o4, w4⟩ := cm3 _ _ _ e4
  obtain ⟨y5, e5⟩ := came_fld hg hxs 5 (T := 3) (o := 5) (k := 1) (ds := [c5]) rfl (by kernel_rfl) rfl
  obtain ⟨x5, r5, o5, w5⟩ := cm3 _ _ _ e5
  obtain ⟨y6, e6⟩ := came_fld hg hxs 6 (T := 4) (o := 6) (k := 1) (ds := [c6]) rfl (by kernel_rfl) rfl
  obtain ⟨x6, r6, o6, w6⟩ := cm4 _ _ _ e6
  exact ⟨T_Send.mk x0 x1 x2 x3 x4 x5 x6, (RIs_append r0 (RIs_append r1 (RIs_append r2 (RIs_append r3 (RIs_append r4 (RIs_append r5 (RIs_append r6 RIs_nil))))))), (ones_app o0 (ones_app o1 (ones_app o2 (ones_app o3 (ones_app o4 (ones_app o5 (ones_app o6 ones_nil))))))), w0, w1, w2, w3, w4, w5, w6⟩
theorem cm26 {H : Type} {enc : TypeId × Value → H} {W : World} {sp : Nat → Bool} {hd : Bool} : Came enc Try.prog W sp hd 26 T_Frame.ienc T_Frame.wf := by
  intro fuel cs y h
  obtain ⟨xs, m, _, hy, hlen, hxs, hg⟩ := DataW.trod_struct Try.underlying26 h
  have hN : Try.prog.cellsOf 26 = 5 := by kernel_rfl
  rw [hN] at hlen
  obtain ⟨c0, c1, c2, c3, c4, rfl⟩ : ∃ c0 c1 c2 c3 c4, cs = [c0, c1, c2, c3, c4] := by
    match cs, hlen with
    | [c0, c1, c2, c3, c4], _ => exact ⟨_, _, _, _, _, rfl⟩
  obtain ⟨y0, e0⟩ := came_fld hg hxs 0 (T := 3) (o := 0) (k := 1) (ds := [c0]) rfl (by kernel_rfl) rfl
  obtain ⟨x0, r0, o0, w0⟩ := cm3 _ _ _ e0
  obtain ⟨y1, e1⟩ := came_fld hg hxs 1 (T := 3) (o := 1) (k := 1) (ds := [c1]) rfl (by kernel_rfl) rfl
  obtain ⟨x1, r1, o1, w1⟩ := cm3 _ _ _ e1
  obtain ⟨y2, e2⟩ := came_fld hg hxs 2 (T := 3) (o := 2) (k := 1) (ds := [c2]) rfl (by kernel_rfl) rfl
  obtain ⟨x2, r2, o2, w2⟩ := cm3 _ _ _ e2
  obtain ⟨y3, e3⟩ := came_fld hg hxs 3 (T := 3) (o := 3) (k := 1) (ds := [c3]) rfl (by kernel_rfl) rfl
  obtain ⟨x3, r3, o3, w3⟩ := cm3 _ _ _ e3
  obtain ⟨y4, e4⟩ := came_fld hg hxs 4 (T := 22) (o := 4) (k := 1) (ds := [c4]) rfl (by kernel_rfl) rfl
  obtain ⟨x4, r4, o4, w4⟩ := cm22 _ _ _ e4
  exact ⟨T_Frame.mk x0 x1 x2 x3 x4, (RIs_append r0 (RIs_append r1 (RIs_append r2 (RIs_append r3 (RIs_append r4 RIs_nil))))), (ones_app o0 (ones_app o1 (ones_app o2 (ones_app o3 (ones_app o4 ones_nil))))), w0, w1, w2, w3, w4⟩
end Go.Proofs.Ytdligpdfcfbgpaa
