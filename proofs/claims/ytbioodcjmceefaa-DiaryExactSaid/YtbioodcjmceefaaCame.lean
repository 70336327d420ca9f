/-
  What came in, by its type.
-/
import Derived.Test.YtbioodcjmceefaaProg
import Derived.Test.YtbioodcjmceefaaSh
import Derived.KernelRfl
set_option linter.unusedVariables false
set_option maxRecDepth 100000
namespace Go.Proofs.Ytbioodcjmceefaa
open Go.Abs Go.Abs.Sh

theorem cz3 {H : Type} {enc : TypeId × Value → H} {W : World} {sp : Nat → Bool} {hd : Bool} : CameZ enc Try.prog W sp hd 3 (fun n : Int => [IC.v (.int .i64 n)]) (wfI .i64) := camez_int Try.underlying3
theorem cz4 {H : Type} {enc : TypeId × Value → H} {W : World} {sp : Nat → Bool} {hd : Bool} : CameZ enc Try.prog W sp hd 4 (fun b : Bool => [IC.v (.bool b)]) (fun _ => True) := camez_bool Try.underlying4
theorem cz9 {H : Type} {enc : TypeId × Value → H} {W : World} {sp : Nat → Bool} {hd : Bool} : CameZ enc Try.prog W sp hd 9 (fun s : ByteArray => [IC.v (.string s)]) wzS := camez_string Try.underlying9
theorem cz39 {H : Type} {enc : TypeId × Value → H} {W : World} {sp : Nat → Bool} {hd : Bool} : CameZ enc Try.prog W sp hd 39 (fun x => List.map IC.v (T_Path.enc x)) T_Path.wz := by
  intro fuel cs y h hz
  obtain ⟨xs, m, _, hy, hlen, hxs, hg⟩ := DataW.trod_struct Try.underlying39 h
  have hz' : Heavy Try.prog 39 (DataW.agg (xs.map (·.1))) := by rw [hy] at hz; exact hz
  have hN : Try.prog.cellsOf 39 = 3 := by kernel_rfl
  rw [hN] at hlen
  obtain ⟨c0, c1, c2, rfl⟩ : ∃ c0 c1 c2, cs = [c0, c1, c2] := by
    match cs, hlen with
    | [c0, c1, c2], _ => exact ⟨_, _, _, rfl⟩
  obtain ⟨y0, e0, z0⟩ := camez_fld Try.underlying39 hg hxs hz' 0 (T := 4) (o := 0) (k := 1) (ds := [c0]) rfl (by kernel_rfl) rfl
  obtain ⟨x0, r0, o0, w0⟩ := cz4 _ _ _ e0 z0
  obtain ⟨y1, e1, z1⟩ := camez_fld Try.underlying39 hg hxs hz' 1 (T := 9) (o := 1) (k := 1) (ds := [c1]) rfl (by kernel_rfl) rfl
  obtain ⟨x1, r1, o1, w1⟩ := cz9 _ _ _ e1 z1
  obtain ⟨y2, e2, z2⟩ := camez_fld Try.underlying39 hg hxs hz' 2 (T := 9) (o := 2) (k := 1) (ds := [c2]) rfl (by kernel_rfl) rfl
  obtain ⟨x2, r2, o2, w2⟩ := cz9 _ _ _ e2 z2
  exact ⟨T_Path.mk x0 x1 x2, (RIs_append r0 (RIs_append r1 (RIs_append r2 RIs_nil))), (ones_app o0 (ones_app o1 (ones_app o2 ones_nil))), w0, w1, w2⟩
theorem cz40 {H : Type} {enc : TypeId × Value → H} {W : World} {sp : Nat → Bool} {hd : Bool} : CameZ enc Try.prog W sp hd 40 (fun l : List T_Path => [IC.row 3 (List.map IC.v (List.flatten (List.map T_Path.enc l)))]) (wzL 40 T_Path.wz) := camez_rowst (b := 40) (by kernel_rfl) Try.underlying40 (z := 3) (by kernel_rfl) (by decide) T_Path.len cz39
theorem cz5 {H : Type} {enc : TypeId × Value → H} {W : World} {sp : Nat → Bool} {hd : Bool} : CameZ enc Try.prog W sp hd 5 (fun n : Int => [IC.v (.int .u8 n)]) (wfI .u8) := camez_int Try.underlying5
theorem cz41 {H : Type} {enc : TypeId × Value → H} {W : World} {sp : Nat → Bool} {hd : Bool} : CameZ enc Try.prog W sp hd 41 (fun l : List Int => [IC.row 1 (List.map IC.v (List.map (Value.int .u8) l))]) (wzL 1 (wfI .u8)) := camez_row1 (b := 1) (by kernel_rfl) Try.underlying41 (by kernel_rfl) cz5
theorem cz43 {H : Type} {enc : TypeId × Value → H} {W : World} {sp : Nat → Bool} {hd : Bool} : CameZ enc Try.prog W sp hd 43 T_Mail.ienc T_Mail.wz := by
  intro fuel cs y h hz
  obtain ⟨xs, m, _, hy, hlen, hxs, hg⟩ := DataW.trod_struct Try.underlying43 h
  have hz' : Heavy Try.prog 43 (DataW.agg (xs.map (·.1))) := by rw [hy] at hz; exact hz
  have hN : Try.prog.cellsOf 43 = 8 := by kernel_rfl
  rw [hN] at hlen
  obtain ⟨c0, c1, c2, c3, c4, c5, c6, c7, rfl⟩ : ∃ c0 c1 c2 c3 c4 c5 c6 c7, cs = [c0, c1, c2, c3, c4, c5, c6, c7] := by
    match cs, hlen with
    | [c0, c1, c2, c3, c4, c5, c6, c7], _ => exact ⟨_, _, _, _, _, _, _, _, rfl⟩
  obtain ⟨y0, e0, z0⟩ := camez_fld Try.underlying43 hg hxs hz' 0 (T := 39) (o := 0) (k := 3) (ds := [c0, c1, c2]) rfl (by kernel_rfl) rfl
  obtain ⟨x0, r0, o0, w0⟩ := cz39 _ _ _ e0 z0
  obtain ⟨y1, e1, z1⟩ := camez_fld Try.underlying43 hg hxs hz' 1 (T := 40) (o := 3) (k := 1) (ds := [c3]) rfl (by kernel_rfl) rfl
  obtain ⟨x1, r1, o1, w1⟩ := cz40 _ _ _ e1 z1
  obtain ⟨y2, e2, z2⟩ := camez_fld Try.underlying43 hg hxs hz' 2 (T := 41) (o := 4) (k := 1) (ds := [c4]) rfl (by kernel_rfl) rfl
  obtain ⟨x2, r2, o2, w2⟩ := cz41 _ _ _ e2 z2
  obtain ⟨y3, e3, z3⟩ := camez_fld Try.underlying43 hg hxs hz' 3 (T := 4) (o := 5) (k := 1) (ds := [c5]) rfl (by kernel_rfl) rfl
  obtain ⟨x3, r3, o3, w3⟩ := cz4 _ _ _ e3 z3
  obtain ⟨y4, e4, z4⟩ := camez_fld Try.underlying43 hg hxs hz' 4 (T := 9) (o := 6) (k := 1) (ds := [c6]) rfl (by kernel_rfl) rfl
  obtain ⟨x4, r4, o4, w4⟩ := cz9 _ _ _ e4 z4
  obtain ⟨y5, e5, z5⟩ := camez_fld Try.underlying43 hg hxs hz' 5 (T := 3) (o := 7) (k := 1) (ds := [c7]) rfl (by kernel_rfl) rfl
  obtain ⟨x5, r5, o5, w5⟩ := cz3 _ _ _ e5 z5
  exact ⟨T_Mail.mk x0 x1 x2 x3 x4 x5, (RIs_append r0 (RIs_append r1 (RIs_append r2 (RIs_append r3 (RIs_append r4 (RIs_append r5 RIs_nil)))))), (ones_app o0 (ones_app o1 (ones_app o2 (ones_app o3 (ones_app o4 (ones_app o5 ones_nil)))))), w0, w1, w2, w3, w4, w5⟩
theorem cz44 {H : Type} {enc : TypeId × Value → H} {W : World} {sp : Nat → Bool} {hd : Bool} : CameZ enc Try.prog W sp hd 44 (fun l : List Int => [IC.row 1 (List.map IC.v (List.map (Value.int .i64) l))]) (wzL 8 (wfI .i64)) := camez_row1 (b := 8) (by kernel_rfl) Try.underlying44 (by kernel_rfl) cz3
theorem cz46 {H : Type} {enc : TypeId × Value → H} {W : World} {sp : Nat → Bool} {hd : Bool} : CameZ enc Try.prog W sp hd 46 T_Rec.ienc T_Rec.wz := by
  intro fuel cs y h hz
  obtain ⟨xs, m, _, hy, hlen, hxs, hg⟩ := DataW.trod_struct Try.underlying46 h
  have hz' : Heavy Try.prog 46 (DataW.agg (xs.map (·.1))) := by rw [hy] at hz; exact hz
  have hN : Try.prog.cellsOf 46 = 15 := by kernel_rfl
  rw [hN] at hlen
  obtain ⟨c0, c1, c2, c3, c4, c5, c6, c7, c8, c9, c10, c11, c12, c13, c14, rfl⟩ : ∃ c0 c1 c2 c3 c4 c5 c6 c7 c8 c9 c10 c11 c12 c13 c14, cs = [c0, c1, c2, c3, c4, c5, c6, c7, c8, c9, c10, c11, c12, c13, c14] := by
    match cs, hlen with
    | [c0, c1, c2, c3, c4, c5, c6, c7, c8, c9, c10, c11, c12, c13, c14], _ => exact ⟨_, _, _, _, _, _, _, _, _, _, _, _, _, _, _, rfl⟩
  obtain ⟨y0, e0, z0⟩ := camez_fld Try.underlying46 hg hxs hz' 0 (T := 3) (o := 0) (k := 1) (ds := [c0]) rfl (by kernel_rfl) rfl
  obtain ⟨x0, r0, o0, w0⟩ := cz3 _ _ _ e0 z0
  obtain ⟨y1, e1, z1⟩ := camez_fld Try.underlying46 hg hxs hz' 1 (T := 43) (o := 1) (k := 8) (ds := [c1, c2, c3, c4, c5, c6, c7, c8]) rfl (by kernel_rfl) rfl
  obtain ⟨x1, r1, o1, w1⟩ := cz43 _ _ _ e1 z1
  obtain ⟨y2, e2, z2⟩ := camez_fld Try.underlying46 hg hxs hz' 2 (T := 3) (o := 9) (k := 1) (ds := [c9]) rfl (by kernel_rfl) rfl
  obtain ⟨x2, r2, o2, w2⟩ := cz3 _ _ _ e2 z2
  obtain ⟨y3, e3, z3⟩ := camez_fld Try.underlying46 hg hxs hz' 3 (T := 44) (o := 10) (k := 1) (ds := [c10]) rfl (by kernel_rfl) rfl
  obtain ⟨x3, r3, o3, w3⟩ := cz44 _ _ _ e3 z3
  obtain ⟨y4, e4, z4⟩ := camez_fld Try.underlying46 hg hxs hz' 4 (T := 3) (o := 11) (k := 1) (ds := [c11]) rfl (by kernel_rfl) rfl
  obtain ⟨x4, r4, o4, w4⟩ := cz3 _ _ _ e4 z4
  obtain ⟨y5, e5, z5⟩ := camez_fld Try.underlying46 hg hxs hz' 5 (T := 3) (o := 12) (k := 1) (ds := [c12]) rfl (by kernel_rfl) rfl
  obtain ⟨x5, r5, o5, w5⟩ := cz3 _ _ _ e5 z5
  obtain ⟨y6, e6, z6⟩ := camez_fld Try.underlying46 hg hxs hz' 6 (T := 3) (o := 13) (k := 1) (ds := [c13]) rfl (by kernel_rfl) rfl
  obtain ⟨x6, r6, o6, w6⟩ := cz3 _ _ _ e6 z6
  obtain ⟨y7, e7, z7⟩ := camez_fld Try.underlying46 hg hxs hz' 7 (T := 41) (o := 14) (k := 1) (ds := [c14]) rfl (by kernel_rfl) rfl
  obtain ⟨x7, r7, o7, w7⟩ := cz41 _ _ _ e7 z7
  exact ⟨T_Rec.mk x0 x1 x2 x3 x4 x5 x6 x7, (RIs_append r0 (RIs_append r1 (RIs_append r2 (RIs_append r3 (RIs_append r4 (RIs_append r5 (RIs_append r6 (RIs_append r7 RIs_nil)))))))), (ones_app o0 (ones_app o1 (ones_app o2 (ones_app o3 (ones_app o4 (ones_app o5 (ones_app o6 (ones_app o7 ones_nil)))))))), w0, w1, w2, w3, w4, w5, w6, w7⟩
theorem cz31 {H : Type} {enc : TypeId × Value → H} {W : World} {sp : Nat → Bool} {hd : Bool} : CameZ enc Try.prog W sp hd 31 (fun l : List T_Rec => [IC.row 15 (List.flatten (List.map T_Rec.ienc l))]) (wzL 208 T_Rec.wz) := camez_slice (b := 208) (by kernel_rfl) Try.underlying31 (z := 15) (by kernel_rfl) (by decide) T_Rec.ilen cz46
theorem cz33 {H : Type} {enc : TypeId × Value → H} {W : World} {sp : Nat → Bool} {hd : Bool} : CameZ enc Try.prog W sp hd 33 T_wherrylaw18_Act.ienc T_wherrylaw18_Act.wz := by
  intro fuel cs y h hz
  obtain ⟨xs, m, _, hy, hlen, hxs, hg⟩ := DataW.trod_struct Try.underlying33 h
  have hz' : Heavy Try.prog 33 (DataW.agg (xs.map (·.1))) := by rw [hy] at hz; exact hz
  have hN : Try.prog.cellsOf 33 = 4 := by kernel_rfl
  rw [hN] at hlen
  obtain ⟨c0, c1, c2, c3, rfl⟩ : ∃ c0 c1 c2 c3, cs = [c0, c1, c2, c3] := by
    match cs, hlen with
    | [c0, c1, c2, c3], _ => exact ⟨_, _, _, _, rfl⟩
  obtain ⟨y0, e0, z0⟩ := camez_fld Try.underlying33 hg hxs hz' 0 (T := 3) (o := 0) (k := 1) (ds := [c0]) rfl (by kernel_rfl) rfl
  obtain ⟨x0, r0, o0, w0⟩ := cz3 _ _ _ e0 z0
  obtain ⟨y1, e1, z1⟩ := camez_fld Try.underlying33 hg hxs hz' 1 (T := 31) (o := 1) (k := 1) (ds := [c1]) rfl (by kernel_rfl) rfl
  obtain ⟨x1, r1, o1, w1⟩ := cz31 _ _ _ e1 z1
  obtain ⟨y2, e2, z2⟩ := camez_fld Try.underlying33 hg hxs hz' 2 (T := 3) (o := 2) (k := 1) (ds := [c2]) rfl (by kernel_rfl) rfl
  obtain ⟨x2, r2, o2, w2⟩ := cz3 _ _ _ e2 z2
  obtain ⟨y3, e3, z3⟩ := camez_fld Try.underlying33 hg hxs hz' 3 (T := 3) (o := 3) (k := 1) (ds := [c3]) rfl (by kernel_rfl) rfl
  obtain ⟨x3, r3, o3, w3⟩ := cz3 _ _ _ e3 z3
  exact ⟨T_wherrylaw18_Act.mk x0 x1 x2 x3, (RIs_append r0 (RIs_append r1 (RIs_append r2 (RIs_append r3 RIs_nil)))), (ones_app o0 (ones_app o1 (ones_app o2 (ones_app o3 ones_nil)))), w0, w1, w2, w3⟩
theorem cz22 {H : Type} {enc : TypeId × Value → H} {W : World} {sp : Nat → Bool} {hd : Bool} : CameZ enc Try.prog W sp hd 22 (fun l : List T_wherrylaw18_Act => [IC.row 4 (List.flatten (List.map T_wherrylaw18_Act.ienc l))]) (wzL 48 T_wherrylaw18_Act.wz) := camez_slice (b := 48) (by kernel_rfl) Try.underlying22 (z := 4) (by kernel_rfl) (by decide) T_wherrylaw18_Act.ilen cz33
end Go.Proofs.Ytbioodcjmceefaa
