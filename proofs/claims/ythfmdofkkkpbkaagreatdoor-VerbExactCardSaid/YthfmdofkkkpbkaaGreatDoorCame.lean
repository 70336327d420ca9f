/-
  What came in, by its type.
-/
import Derived.Test.YthfmdofkkkpbkaaGreatDoorProg
import Derived.Test.YthfmdofkkkpbkaaGreatDoorSh
import Derived.KernelRfl
set_option linter.unusedVariables false
set_option maxRecDepth 100000
namespace Go.Proofs.YthfmdofkkkpbkaaGreatDoor
open Go.Abs Go.Abs.Sh

theorem cz3 {H : Type} {enc : TypeId × Value → H} {W : World} {sp : Nat → Bool} {hd : Bool} : CameZ enc Tryz.prog W sp hd 3 (fun n : Int => [IC.v (.int .i64 n)]) (wfI .i64) := camez_int Tryz.underlying3
theorem cz9 {H : Type} {enc : TypeId × Value → H} {W : World} {sp : Nat → Bool} {hd : Bool} : CameZ enc Tryz.prog W sp hd 9 (fun s : ByteArray => [IC.v (.string s)]) wzS := camez_string Tryz.underlying9
theorem cz4 {H : Type} {enc : TypeId × Value → H} {W : World} {sp : Nat → Bool} {hd : Bool} : CameZ enc Tryz.prog W sp hd 4 (fun b : Bool => [IC.v (.bool b)]) (fun _ => True) := camez_bool Tryz.underlying4
theorem cz23 {H : Type} {enc : TypeId × Value → H} {W : World} {sp : Nat → Bool} {hd : Bool} : CameZ enc Tryz.prog W sp hd 23 (fun x => List.map IC.v (T_Path.enc x)) T_Path.wz := by
  intro fuel cs y h hz
  obtain ⟨xs, m, _, hy, hlen, hxs, hg⟩ := DataW.trod_struct Tryz.underlying23 h
  have hz' : Heavy Tryz.prog 23 (DataW.agg (xs.map (·.1))) := by rw [hy] at hz; exact hz
  have hN : Tryz.prog.cellsOf 23 = 3 := by kernel_rfl
  rw [hN] at hlen
  obtain ⟨c0, c1, c2, rfl⟩ : ∃ c0 c1 c2, cs = [c0, c1, c2] := by
    match cs, hlen with
    | [c0, c1, c2], _ => exact ⟨_, _, _, rfl⟩
  obtain ⟨y0, e0, z0⟩ := camez_fld Tryz.underlying23 hg hxs hz' 0 (T := 4) (o := 0) (k := 1) (ds := [c0]) rfl (by kernel_rfl) rfl
  obtain ⟨x0, r0, o0, w0⟩ := cz4 _ _ _ e0 z0
  obtain ⟨y1, e1, z1⟩ := camez_fld Tryz.underlying23 hg hxs hz' 1 (T := 9) (o := 1) (k := 1) (ds := [c1]) rfl (by kernel_rfl) rfl
  obtain ⟨x1, r1, o1, w1⟩ := cz9 _ _ _ e1 z1
  obtain ⟨y2, e2, z2⟩ := camez_fld Tryz.underlying23 hg hxs hz' 2 (T := 9) (o := 2) (k := 1) (ds := [c2]) rfl (by kernel_rfl) rfl
  obtain ⟨x2, r2, o2, w2⟩ := cz9 _ _ _ e2 z2
  exact ⟨T_Path.mk x0 x1 x2, (RIs_append r0 (RIs_append r1 (RIs_append r2 RIs_nil))), (ones_app o0 (ones_app o1 (ones_app o2 ones_nil))), w0, w1, w2⟩
theorem cz47 {H : Type} {enc : TypeId × Value → H} {W : World} {sp : Nat → Bool} {hd : Bool} : CameZ enc Tryz.prog W sp hd 47 (fun x => List.map IC.v (T_Param.enc x)) T_Param.wz := by
  intro fuel cs y h hz
  obtain ⟨xs, m, _, hy, hlen, hxs, hg⟩ := DataW.trod_struct Tryz.underlying47 h
  have hz' : Heavy Tryz.prog 47 (DataW.agg (xs.map (·.1))) := by rw [hy] at hz; exact hz
  have hN : Tryz.prog.cellsOf 47 = 2 := by kernel_rfl
  rw [hN] at hlen
  obtain ⟨c0, c1, rfl⟩ : ∃ c0 c1, cs = [c0, c1] := by
    match cs, hlen with
    | [c0, c1], _ => exact ⟨_, _, rfl⟩
  obtain ⟨y0, e0, z0⟩ := camez_fld Tryz.underlying47 hg hxs hz' 0 (T := 9) (o := 0) (k := 1) (ds := [c0]) rfl (by kernel_rfl) rfl
  obtain ⟨x0, r0, o0, w0⟩ := cz9 _ _ _ e0 z0
  obtain ⟨y1, e1, z1⟩ := camez_fld Tryz.underlying47 hg hxs hz' 1 (T := 9) (o := 1) (k := 1) (ds := [c1]) rfl (by kernel_rfl) rfl
  obtain ⟨x1, r1, o1, w1⟩ := cz9 _ _ _ e1 z1
  exact ⟨T_Param.mk x0 x1, (RIs_append r0 (RIs_append r1 RIs_nil)), (ones_app o0 (ones_app o1 ones_nil)), w0, w1⟩
theorem cz24 {H : Type} {enc : TypeId × Value → H} {W : World} {sp : Nat → Bool} {hd : Bool} : CameZ enc Tryz.prog W sp hd 24 (fun l : List T_Param => [IC.row 2 (List.map IC.v (List.flatten (List.map T_Param.enc l)))]) (wzL 32 T_Param.wz) := camez_rowst (b := 32) (by kernel_rfl) Tryz.underlying24 (z := 2) (by kernel_rfl) (by decide) T_Param.len cz47
theorem cz26 {H : Type} {enc : TypeId × Value → H} {W : World} {sp : Nat → Bool} {hd : Bool} : CameZ enc Tryz.prog W sp hd 26 T_Cmd.ienc T_Cmd.wz := by
  intro fuel cs y h hz
  obtain ⟨xs, m, _, hy, hlen, hxs, hg⟩ := DataW.trod_struct Tryz.underlying26 h
  have hz' : Heavy Tryz.prog 26 (DataW.agg (xs.map (·.1))) := by rw [hy] at hz; exact hz
  have hN : Tryz.prog.cellsOf 26 = 6 := by kernel_rfl
  rw [hN] at hlen
  obtain ⟨c0, c1, c2, c3, c4, c5, rfl⟩ : ∃ c0 c1 c2 c3 c4 c5, cs = [c0, c1, c2, c3, c4, c5] := by
    match cs, hlen with
    | [c0, c1, c2, c3, c4, c5], _ => exact ⟨_, _, _, _, _, _, rfl⟩
  obtain ⟨y0, e0, z0⟩ := camez_fld Tryz.underlying26 hg hxs hz' 0 (T := 3) (o := 0) (k := 1) (ds := [c0]) rfl (by kernel_rfl) rfl
  obtain ⟨x0, r0, o0, w0⟩ := cz3 _ _ _ e0 z0
  obtain ⟨y1, e1, z1⟩ := camez_fld Tryz.underlying26 hg hxs hz' 1 (T := 9) (o := 1) (k := 1) (ds := [c1]) rfl (by kernel_rfl) rfl
  obtain ⟨x1, r1, o1, w1⟩ := cz9 _ _ _ e1 z1
  obtain ⟨y2, e2, z2⟩ := camez_fld Tryz.underlying26 hg hxs hz' 2 (T := 23) (o := 2) (k := 3) (ds := [c2, c3, c4]) rfl (by kernel_rfl) rfl
  obtain ⟨x2, r2, o2, w2⟩ := cz23 _ _ _ e2 z2
  obtain ⟨y3, e3, z3⟩ := camez_fld Tryz.underlying26 hg hxs hz' 3 (T := 24) (o := 5) (k := 1) (ds := [c5]) rfl (by kernel_rfl) rfl
  obtain ⟨x3, r3, o3, w3⟩ := cz24 _ _ _ e3 z3
  exact ⟨T_Cmd.mk x0 x1 x2 x3, (RIs_append r0 (RIs_append r1 (RIs_append r2 (RIs_append r3 RIs_nil)))), (ones_app o0 (ones_app o1 (ones_app o2 (ones_app o3 ones_nil)))), w0, w1, w2, w3⟩
end Go.Proofs.YthfmdofkkkpbkaaGreatDoor
