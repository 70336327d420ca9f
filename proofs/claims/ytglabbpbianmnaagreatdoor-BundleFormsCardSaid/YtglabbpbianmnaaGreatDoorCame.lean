/-
  What came in, by its type.
-/
import Derived.Test.YtglabbpbianmnaaGreatDoorProg
import Derived.Test.YtglabbpbianmnaaGreatDoorSh
import Derived.KernelRfl
set_option linter.unusedVariables false
set_option maxRecDepth 100000
namespace Go.Proofs.YtglabbpbianmnaaGreatDoor
open Go.Abs Go.Abs.Sh

theorem cz3 {H:Type} {enc:TypeId×Value→H} {W:World} {sp:Nat→Bool} {hd:Bool}:CameZ enc Tryz.prog W sp hd 3 (fun n:Int=>[IC.v (.int .i64 n)]) (wfI .i64):=camez_int Tryz.underlying3
theorem cz4 {H:Type} {enc:TypeId×Value→H} {W:World} {sp:Nat→Bool} {hd:Bool}:CameZ enc Tryz.prog W sp hd 4 (fun b:Bool=>[IC.v (.bool b)]) (fun _=>True):=camez_bool Tryz.underlying4
theorem cz9 {H:Type} {enc:TypeId×Value→H} {W:World} {sp:Nat→Bool} {hd:Bool}:CameZ enc Tryz.prog W sp hd 9 (fun s:ByteArray=>[IC.v (.string s)]) wzS:=camez_string Tryz.underlying9
theorem cz43 {H:Type} {enc:TypeId×Value→H} {W:World} {sp:Nat→Bool} {hd:Bool}:CameZ enc Tryz.prog W sp hd 43 (fun x=>List.map IC.v (T_Path.enc x)) T_Path.wz:=by
  intro fuel cs y h hz
  obtain ⟨xs, m, _, hy, hlen, hxs, hg⟩:=DataW.trod_struct Tryz.underlying43 h
  have hz':Heavy Tryz.prog 43 (DataW.agg (xs.map (·.1))):=by rw [hy] at hz; exact hz
  have hN:Tryz.prog.cellsOf 43=3:=by kernel_rfl
  rw [hN] at hlen
  obtain ⟨c0, c1, c2, rfl⟩:∃ c0 c1 c2, cs=[c0, c1, c2]:=by
    match cs, hlen with
    | [c0, c1, c2], _=>exact ⟨_, _, _, rfl⟩
  obtain ⟨y0, e0, z0⟩:=camez_fld Tryz.underlying43 hg hxs hz' 0 (T:=4) (o:=0) (k:=1) (ds:=[c0]) rfl (by kernel_rfl) rfl
  obtain ⟨x0, r0, o0, w0⟩:=cz4 _ _ _ e0 z0
  obtain ⟨y1, e1, z1⟩:=camez_fld Tryz.underlying43 hg hxs hz' 1 (T:=9) (o:=1) (k:=1) (ds:=[c1]) rfl (by kernel_rfl) rfl
  obtain ⟨x1, r1, o1, w1⟩:=cz9 _ _ _ e1 z1
  obtain ⟨y2, e2, z2⟩:=camez_fld Tryz.underlying43 hg hxs hz' 2 (T:=9) (o:=2) (k:=1) (ds:=[c2]) rfl (by kernel_rfl) rfl
  obtain ⟨x2, r2, o2, w2⟩:=cz9 _ _ _ e2 z2
  exact ⟨T_Path.mk x0 x1 x2, (RIs_append r0 (RIs_append r1 (RIs_append r2 RIs_nil))), (ones_app o0 (ones_app o1 (ones_app o2 ones_nil))), w0, w1, w2⟩
theorem cz44 {H:Type} {enc:TypeId×Value→H} {W:World} {sp:Nat→Bool} {hd:Bool}:CameZ enc Tryz.prog W sp hd 44 (fun l:List T_Path=>[IC.row 3 (List.map IC.v (List.flatten (List.map T_Path.enc l)))]) (wzL 40 T_Path.wz):=camez_rowst (b:=40) (by kernel_rfl) Tryz.underlying44 (z:=3) (by kernel_rfl) (by decide) T_Path.len cz43
theorem cz5 {H:Type} {enc:TypeId×Value→H} {W:World} {sp:Nat→Bool} {hd:Bool}:CameZ enc Tryz.prog W sp hd 5 (fun n:Int=>[IC.v (.int .u8 n)]) (wfI .u8):=camez_int Tryz.underlying5
theorem cz25 {H:Type} {enc:TypeId×Value→H} {W:World} {sp:Nat→Bool} {hd:Bool}:CameZ enc Tryz.prog W sp hd 25 (fun l:List Int=>[IC.row 1 (List.map IC.v (List.map (Value.int .u8) l))]) (wzL 1 (wfI .u8)):=camez_row1 (b:=1) (by kernel_rfl) Tryz.underlying25 (by kernel_rfl) cz5
theorem cz46 {H:Type} {enc:TypeId×Value→H} {W:World} {sp:Nat→Bool} {hd:Bool}:CameZ enc Tryz.prog W sp hd 46 T_Mail.ienc T_Mail.wz:=by
  intro fuel cs y h hz
  obtain ⟨xs, m, _, hy, hlen, hxs, hg⟩:=DataW.trod_struct Tryz.underlying46 h
  have hz':Heavy Tryz.prog 46 (DataW.agg (xs.map (·.1))):=by rw [hy] at hz; exact hz
  have hN:Tryz.prog.cellsOf 46=8:=by kernel_rfl
  rw [hN] at hlen
  obtain ⟨c0, c1, c2, c3, c4, c5, c6, c7, rfl⟩:∃ c0 c1 c2 c3 c4 c5 c6 c7, cs=[c0, c1, c2, c3, c4, c5, c6, c7]:=by
    match cs, hlen with
    | [c0, c1, c2, c3, c4, c5, c6, c7], _=>exact ⟨_, _, _, _, _, _, _, _, rfl⟩
  obtain ⟨y0, e0, z0⟩:=camez_fld Tryz.underlying46 hg hxs hz' 0 (T:=43) (o:=0) (k:=3) (ds:=[c0, c1, c2]) rfl (by kernel_rfl) rfl
  obtain ⟨x0, r0, o0, w0⟩:=cz43 _ _ _ e0 z0
  obtain ⟨y1, e1, z1⟩:=camez_fld Tryz.underlying46 hg hxs hz' 1 (T:=44) (o:=3) (k:=1) (ds:=[c3]) rfl (by kernel_rfl) rfl
  obtain ⟨x1, r1, o1, w1⟩:=cz44 _ _ _ e1 z1
  obtain ⟨y2, e2, z2⟩:=camez_fld Tryz.underlying46 hg hxs hz' 2 (T:=25) (o:=4) (k:=1) (ds:=[c4]) rfl (by kernel_rfl) rfl
  obtain ⟨x2, r2, o2, w2⟩:=cz25 _ _ _ e2 z2
  obtain ⟨y3, e3, z3⟩:=camez_fld Tryz.underlying46 hg hxs hz' 3 (T:=4) (o:=5) (k:=1) (ds:=[c5]) rfl (by kernel_rfl) rfl
  obtain ⟨x3, r3, o3, w3⟩:=cz4 _ _ _ e3 z3
  obtain ⟨y4, e4, z4⟩:=camez_fld Tryz.underlying46 hg hxs hz' 4 (T:=9) (o:=6) (k:=1) (ds:=[c6]) rfl (by kernel_rfl) rfl
  obtain ⟨x4, r4, o4, w4⟩:=cz9 _ _ _ e4 z4
  obtain ⟨y5, e5, z5⟩:=camez_fld Tryz.underlying46 hg hxs hz' 5 (T:=3) (o:=7) (k:=1) (ds:=[c7]) rfl (by kernel_rfl) rfl
  obtain ⟨x5, r5, o5, w5⟩:=cz3 _ _ _ e5 z5
  exact ⟨T_Mail.mk x0 x1 x2 x3 x4 x5, (RIs_append r0 (RIs_append r1 (RIs_append r2 (RIs_append r3 (RIs_append r4 (RIs_append r5 RIs_nil)))))), (ones_app o0 (ones_app o1 (ones_app o2 (ones_app o3 (ones_app o4 (ones_app o5 ones_nil)))))), w0, w1, w2, w3, w4, w5⟩
theorem cz22 {H:Type} {enc:TypeId×Value→H} {W:World} {sp:Nat→Bool} {hd:Bool}:CameZ enc Tryz.prog W sp hd 22 (fun l:List T_Mail=>[IC.row 8 (List.flatten (List.map T_Mail.ienc l))]) (wzL 120 T_Mail.wz):=camez_slice (b:=120) (by kernel_rfl) Tryz.underlying22 (z:=8) (by kernel_rfl) (by decide) T_Mail.ilen cz46
theorem cz24 {H:Type} {enc:TypeId×Value→H} {W:World} {sp:Nat→Bool} {hd:Bool}:CameZ enc Tryz.prog W sp hd 24 T_Bundle.ienc T_Bundle.wz:=by
  intro fuel cs y h hz
  obtain ⟨xs, m, _, hy, hlen, hxs, hg⟩:=DataW.trod_struct Tryz.underlying24 h
  have hz':Heavy Tryz.prog 24 (DataW.agg (xs.map (·.1))):=by rw [hy] at hz; exact hz
  have hN:Tryz.prog.cellsOf 24=3:=by kernel_rfl
  rw [hN] at hlen
  obtain ⟨c0, c1, c2, rfl⟩:∃ c0 c1 c2, cs=[c0, c1, c2]:=by
    match cs, hlen with
    | [c0, c1, c2], _=>exact ⟨_, _, _, rfl⟩
  obtain ⟨y0, e0, z0⟩:=camez_fld Tryz.underlying24 hg hxs hz' 0 (T:=3) (o:=0) (k:=1) (ds:=[c0]) rfl (by kernel_rfl) rfl
  obtain ⟨x0, r0, o0, w0⟩:=cz3 _ _ _ e0 z0
  obtain ⟨y1, e1, z1⟩:=camez_fld Tryz.underlying24 hg hxs hz' 1 (T:=3) (o:=1) (k:=1) (ds:=[c1]) rfl (by kernel_rfl) rfl
  obtain ⟨x1, r1, o1, w1⟩:=cz3 _ _ _ e1 z1
  obtain ⟨y2, e2, z2⟩:=camez_fld Tryz.underlying24 hg hxs hz' 2 (T:=22) (o:=2) (k:=1) (ds:=[c2]) rfl (by kernel_rfl) rfl
  obtain ⟨x2, r2, o2, w2⟩:=cz22 _ _ _ e2 z2
  exact ⟨T_Bundle.mk x0 x1 x2, (RIs_append r0 (RIs_append r1 (RIs_append r2 RIs_nil))), (ones_app o0 (ones_app o1 (ones_app o2 ones_nil))), w0, w1, w2⟩
end Go.Proofs.YtglabbpbianmnaaGreatDoor
