/-
  What came in, by its type.
-/
import Derived.Test.YtofbofdggabfiaaGreatDoorProg
import Derived.Test.YtofbofdggabfiaaGreatDoorSh
import Derived.KernelRfl
set_option linter.unusedVariables false
set_option maxRecDepth 100000
namespace Go.Proofs.YtofbofdggabfiaaGreatDoor
open Go.Abs Go.Abs.Sh

theorem cz3 {H:Type} {enc:TypeId×Value→H} {W:World} {sp:Nat→Bool} {hd:Bool}:CameZ enc Tryz.prog W sp hd 3 (fun n:Int=>[IC.v (.int .i64 n)]) (wfI .i64):=camez_int Tryz.underlying3
theorem cz4 {H:Type} {enc:TypeId×Value→H} {W:World} {sp:Nat→Bool} {hd:Bool}:CameZ enc Tryz.prog W sp hd 4 (fun b:Bool=>[IC.v (.bool b)]) (fun _=>True):=camez_bool Tryz.underlying4
theorem cz9 {H:Type} {enc:TypeId×Value→H} {W:World} {sp:Nat→Bool} {hd:Bool}:CameZ enc Tryz.prog W sp hd 9 (fun s:ByteArray=>[IC.v (.string s)]) wzS:=camez_string Tryz.underlying9
theorem cz24 {H:Type} {enc:TypeId×Value→H} {W:World} {sp:Nat→Bool} {hd:Bool}:CameZ enc Tryz.prog W sp hd 24 (fun x=>List.map IC.v (T_Path.enc x)) T_Path.wz:=by
  intro fuel cs y h hz
  obtain ⟨xs, m, _, hy, hlen, hxs, hg⟩:=DataW.trod_struct Tryz.underlying24 h
  have hz':Heavy Tryz.prog 24 (DataW.agg (xs.map (·.1))):=by rw [hy] at hz; exact hz
  have hN:Tryz.prog.cellsOf 24=3:=by kernel_rfl
  rw [hN] at hlen
  obtain ⟨c0, c1, c2, rfl⟩:∃ c0 c1 c2, cs=[c0, c1, c2]:=by
    match cs, hlen with
    | [c0, c1, c2], _=>exact ⟨_, _, _, rfl⟩
  obtain ⟨y0, e0, z0⟩:=camez_fld Tryz.underlying24 hg hxs hz' 0 (T:=4) (o:=0) (k:=1) (ds:=[c0]) rfl (by kernel_rfl) rfl
  obtain ⟨x0, r0, o0, w0⟩:=cz4 _ _ _ e0 z0
  obtain ⟨y1, e1, z1⟩:=camez_fld Tryz.underlying24 hg hxs hz' 1 (T:=9) (o:=1) (k:=1) (ds:=[c1]) rfl (by kernel_rfl) rfl
  obtain ⟨x1, r1, o1, w1⟩:=cz9 _ _ _ e1 z1
  obtain ⟨y2, e2, z2⟩:=camez_fld Tryz.underlying24 hg hxs hz' 2 (T:=9) (o:=2) (k:=1) (ds:=[c2]) rfl (by kernel_rfl) rfl
  obtain ⟨x2, r2, o2, w2⟩:=cz9 _ _ _ e2 z2
  exact ⟨T_Path.mk x0 x1 x2, (RIs_append r0 (RIs_append r1 (RIs_append r2 RIs_nil))), (ones_app o0 (ones_app o1 (ones_app o2 ones_nil))), w0, w1, w2⟩
theorem cz5 {H:Type} {enc:TypeId×Value→H} {W:World} {sp:Nat→Bool} {hd:Bool}:CameZ enc Tryz.prog W sp hd 5 (fun n:Int=>[IC.v (.int .u8 n)]) (wfI .u8):=camez_int Tryz.underlying5
theorem cz25 {H:Type} {enc:TypeId×Value→H} {W:World} {sp:Nat→Bool} {hd:Bool}:CameZ enc Tryz.prog W sp hd 25 (fun l:List Int=>[IC.row 1 (List.map IC.v (List.map (Value.int .u8) l))]) (wzL 1 (wfI .u8)):=camez_row1 (b:=1) (by kernel_rfl) Tryz.underlying25 (by kernel_rfl) cz5
theorem cz55 {H:Type} {enc:TypeId×Value→H} {W:World} {sp:Nat→Bool} {hd:Bool}:CameZ enc Tryz.prog W sp hd 55 T_Event.ienc T_Event.wz:=by
  intro fuel cs y h hz
  obtain ⟨xs, m, _, hy, hlen, hxs, hg⟩:=DataW.trod_struct Tryz.underlying55 h
  have hz':Heavy Tryz.prog 55 (DataW.agg (xs.map (·.1))):=by rw [hy] at hz; exact hz
  have hN:Tryz.prog.cellsOf 55=9:=by kernel_rfl
  rw [hN] at hlen
  obtain ⟨c0, c1, c2, c3, c4, c5, c6, c7, c8, rfl⟩:∃ c0 c1 c2 c3 c4 c5 c6 c7 c8, cs=[c0, c1, c2, c3, c4, c5, c6, c7, c8]:=by
    match cs, hlen with
    | [c0, c1, c2, c3, c4, c5, c6, c7, c8], _=>exact ⟨_, _, _, _, _, _, _, _, _, rfl⟩
  obtain ⟨y0, e0, z0⟩:=camez_fld Tryz.underlying55 hg hxs hz' 0 (T:=3) (o:=0) (k:=1) (ds:=[c0]) rfl (by kernel_rfl) rfl
  obtain ⟨x0, r0, o0, w0⟩:=cz3 _ _ _ e0 z0
  obtain ⟨y1, e1, z1⟩:=camez_fld Tryz.underlying55 hg hxs hz' 1 (T:=3) (o:=1) (k:=1) (ds:=[c1]) rfl (by kernel_rfl) rfl
  obtain ⟨x1, r1, o1, w1⟩:=cz3 _ _ _ e1 z1
  obtain ⟨y2, e2, z2⟩:=camez_fld Tryz.underlying55 hg hxs hz' 2 (T:=24) (o:=2) (k:=3) (ds:=[c2, c3, c4]) rfl (by kernel_rfl) rfl
  obtain ⟨x2, r2, o2, w2⟩:=cz24 _ _ _ e2 z2
  obtain ⟨y3, e3, z3⟩:=camez_fld Tryz.underlying55 hg hxs hz' 3 (T:=24) (o:=5) (k:=3) (ds:=[c5, c6, c7]) rfl (by kernel_rfl) rfl
  obtain ⟨x3, r3, o3, w3⟩:=cz24 _ _ _ e3 z3
  obtain ⟨y4, e4, z4⟩:=camez_fld Tryz.underlying55 hg hxs hz' 4 (T:=25) (o:=8) (k:=1) (ds:=[c8]) rfl (by kernel_rfl) rfl
  obtain ⟨x4, r4, o4, w4⟩:=cz25 _ _ _ e4 z4
  exact ⟨T_Event.mk x0 x1 x2 x3 x4, (RIs_append r0 (RIs_append r1 (RIs_append r2 (RIs_append r3 (RIs_append r4 RIs_nil))))), (ones_app o0 (ones_app o1 (ones_app o2 (ones_app o3 (ones_app o4 ones_nil))))), w0, w1, w2, w3, w4⟩
theorem cz22 {H:Type} {enc:TypeId×Value→H} {W:World} {sp:Nat→Bool} {hd:Bool}:CameZ enc Tryz.prog W sp hd 22 (fun l:List T_Event=>[IC.row 9 (List.flatten (List.map T_Event.ienc l))]) (wzL 120 T_Event.wz):=camez_slice (b:=120) (by kernel_rfl) Tryz.underlying22 (z:=9) (by kernel_rfl) (by decide) T_Event.ilen cz55
theorem cz30 {H:Type} {enc:TypeId×Value→H} {W:World} {sp:Nat→Bool} {hd:Bool}:CameZ enc Tryz.prog W sp hd 30 (fun l:List T_Path=>[IC.row 3 (List.map IC.v (List.flatten (List.map T_Path.enc l)))]) (wzL 40 T_Path.wz):=camez_rowst (b:=40) (by kernel_rfl) Tryz.underlying30 (z:=3) (by kernel_rfl) (by decide) T_Path.len cz24
theorem cz32 {H:Type} {enc:TypeId×Value→H} {W:World} {sp:Nat→Bool} {hd:Bool}:CameZ enc Tryz.prog W sp hd 32 T_Mail.ienc T_Mail.wz:=by
  intro fuel cs y h hz
  obtain ⟨xs, m, _, hy, hlen, hxs, hg⟩:=DataW.trod_struct Tryz.underlying32 h
  have hz':Heavy Tryz.prog 32 (DataW.agg (xs.map (·.1))):=by rw [hy] at hz; exact hz
  have hN:Tryz.prog.cellsOf 32=8:=by kernel_rfl
  rw [hN] at hlen
  obtain ⟨c0, c1, c2, c3, c4, c5, c6, c7, rfl⟩:∃ c0 c1 c2 c3 c4 c5 c6 c7, cs=[c0, c1, c2, c3, c4, c5, c6, c7]:=by
    match cs, hlen with
    | [c0, c1, c2, c3, c4, c5, c6, c7], _=>exact ⟨_, _, _, _, _, _, _, _, rfl⟩
  obtain ⟨y0, e0, z0⟩:=camez_fld Tryz.underlying32 hg hxs hz' 0 (T:=24) (o:=0) (k:=3) (ds:=[c0, c1, c2]) rfl (by kernel_rfl) rfl
  obtain ⟨x0, r0, o0, w0⟩:=cz24 _ _ _ e0 z0
  obtain ⟨y1, e1, z1⟩:=camez_fld Tryz.underlying32 hg hxs hz' 1 (T:=30) (o:=3) (k:=1) (ds:=[c3]) rfl (by kernel_rfl) rfl
  obtain ⟨x1, r1, o1, w1⟩:=cz30 _ _ _ e1 z1
  obtain ⟨y2, e2, z2⟩:=camez_fld Tryz.underlying32 hg hxs hz' 2 (T:=25) (o:=4) (k:=1) (ds:=[c4]) rfl (by kernel_rfl) rfl
  obtain ⟨x2, r2, o2, w2⟩:=cz25 _ _ _ e2 z2
  obtain ⟨y3, e3, z3⟩:=camez_fld Tryz.underlying32 hg hxs hz' 3 (T:=4) (o:=5) (k:=1) (ds:=[c5]) rfl (by kernel_rfl) rfl
  obtain ⟨x3, r3, o3, w3⟩:=cz4 _ _ _ e3 z3
  obtain ⟨y4, e4, z4⟩:=camez_fld Tryz.underlying32 hg hxs hz' 4 (T:=9) (o:=6) (k:=1) (ds:=[c6]) rfl (by kernel_rfl) rfl
  obtain ⟨x4, r4, o4, w4⟩:=cz9 _ _ _ e4 z4
  obtain ⟨y5, e5, z5⟩:=camez_fld Tryz.underlying32 hg hxs hz' 5 (T:=3) (o:=7) (k:=1) (ds:=[c7]) rfl (by kernel_rfl) rfl
  obtain ⟨x5, r5, o5, w5⟩:=cz3 _ _ _ e5 z5
  exact ⟨T_Mail.mk x0 x1 x2 x3 x4 x5, (RIs_append r0 (RIs_append r1 (RIs_append r2 (RIs_append r3 (RIs_append r4 (RIs_append r5 RIs_nil)))))), (ones_app o0 (ones_app o1 (ones_app o2 (ones_app o3 (ones_app o4 (ones_app o5 ones_nil)))))), w0, w1, w2, w3, w4, w5⟩
theorem cz42 {H:Type} {enc:TypeId×Value→H} {W:World} {sp:Nat→Bool} {hd:Bool}:CameZ enc Tryz.prog W sp hd 42 (fun l:List Int=>[IC.row 1 (List.map IC.v (List.map (Value.int .i64) l))]) (wzL 8 (wfI .i64)):=camez_row1 (b:=8) (by kernel_rfl) Tryz.underlying42 (by kernel_rfl) cz3
theorem cz57 {H:Type} {enc:TypeId×Value→H} {W:World} {sp:Nat→Bool} {hd:Bool}:CameZ enc Tryz.prog W sp hd 57 T_Rec.ienc T_Rec.wz:=by
  intro fuel cs y h hz
  obtain ⟨xs, m, _, hy, hlen, hxs, hg⟩:=DataW.trod_struct Tryz.underlying57 h
  have hz':Heavy Tryz.prog 57 (DataW.agg (xs.map (·.1))):=by rw [hy] at hz; exact hz
  have hN:Tryz.prog.cellsOf 57=15:=by kernel_rfl
  rw [hN] at hlen
  obtain ⟨c0, c1, c2, c3, c4, c5, c6, c7, c8, c9, c10, c11, c12, c13, c14, rfl⟩:∃ c0 c1 c2 c3 c4 c5 c6 c7 c8 c9 c10 c11 c12 c13 c14, cs=[c0, c1, c2, c3, c4, c5, c6, c7, c8, c9, c10, c11, c12, c13, c14]:=by
    match cs, hlen with
    | [c0, c1, c2, c3, c4, c5, c6, c7, c8, c9, c10, c11, c12, c13, c14], _=>exact ⟨_, _, _, _, _, _, _, _, _, _, _, _, _, _, _, rfl⟩
  obtain ⟨y0, e0, z0⟩:=camez_fld Tryz.underlying57 hg hxs hz' 0 (T:=3) (o:=0) (k:=1) (ds:=[c0]) rfl (by kernel_rfl) rfl
  obtain ⟨x0, r0, o0, w0⟩:=cz3 _ _ _ e0 z0
  obtain ⟨y1, e1, z1⟩:=camez_fld Tryz.underlying57 hg hxs hz' 1 (T:=32) (o:=1) (k:=8) (ds:=[c1, c2, c3, c4, c5, c6, c7, c8]) rfl (by kernel_rfl) rfl
  obtain ⟨x1, r1, o1, w1⟩:=cz32 _ _ _ e1 z1
  obtain ⟨y2, e2, z2⟩:=camez_fld Tryz.underlying57 hg hxs hz' 2 (T:=3) (o:=9) (k:=1) (ds:=[c9]) rfl (by kernel_rfl) rfl
  obtain ⟨x2, r2, o2, w2⟩:=cz3 _ _ _ e2 z2
  obtain ⟨y3, e3, z3⟩:=camez_fld Tryz.underlying57 hg hxs hz' 3 (T:=42) (o:=10) (k:=1) (ds:=[c10]) rfl (by kernel_rfl) rfl
  obtain ⟨x3, r3, o3, w3⟩:=cz42 _ _ _ e3 z3
  obtain ⟨y4, e4, z4⟩:=camez_fld Tryz.underlying57 hg hxs hz' 4 (T:=3) (o:=11) (k:=1) (ds:=[c11]) rfl (by kernel_rfl) rfl
  obtain ⟨x4, r4, o4, w4⟩:=cz3 _ _ _ e4 z4
  obtain ⟨y5, e5, z5⟩:=camez_fld Tryz.underlying57 hg hxs hz' 5 (T:=3) (o:=12) (k:=1) (ds:=[c12]) rfl (by kernel_rfl) rfl
  obtain ⟨x5, r5, o5, w5⟩:=cz3 _ _ _ e5 z5
  obtain ⟨y6, e6, z6⟩:=camez_fld Tryz.underlying57 hg hxs hz' 6 (T:=3) (o:=13) (k:=1) (ds:=[c13]) rfl (by kernel_rfl) rfl
  obtain ⟨x6, r6, o6, w6⟩:=cz3 _ _ _ e6 z6
  obtain ⟨y7, e7, z7⟩:=camez_fld Tryz.underlying57 hg hxs hz' 7 (T:=25) (o:=14) (k:=1) (ds:=[c14]) rfl (by kernel_rfl) rfl
  obtain ⟨x7, r7, o7, w7⟩:=cz25 _ _ _ e7 z7
  exact ⟨T_Rec.mk x0 x1 x2 x3 x4 x5 x6 x7, (RIs_append r0 (RIs_append r1 (RIs_append r2 (RIs_append r3 (RIs_append r4 (RIs_append r5 (RIs_append r6 (RIs_append r7 RIs_nil)))))))), (ones_app o0 (ones_app o1 (ones_app o2 (ones_app o3 (ones_app o4 (ones_app o5 (ones_app o6 (ones_app o7 ones_nil)))))))), w0, w1, w2, w3, w4, w5, w6, w7⟩
theorem cz26 {H:Type} {enc:TypeId×Value→H} {W:World} {sp:Nat→Bool} {hd:Bool}:CameZ enc Tryz.prog W sp hd 26 (fun l:List T_Rec=>[IC.row 15 (List.flatten (List.map T_Rec.ienc l))]) (wzL 208 T_Rec.wz):=camez_slice (b:=208) (by kernel_rfl) Tryz.underlying26 (z:=15) (by kernel_rfl) (by decide) T_Rec.ilen cz57
theorem cz27 {H:Type} {enc:TypeId×Value→H} {W:World} {sp:Nat→Bool} {hd:Bool}:CameZ enc Tryz.prog W sp hd 27 (fun l:List ByteArray=>[IC.v (.string (l.getD 0 (⟨#[]⟩:ByteArray))), IC.v (.string (l.getD 1 (⟨#[]⟩:ByteArray)))]) (fun l=>l.length=2∧∀ x∈l, wzS x):=camez_arr2 Tryz.underlying27 Tryz.underlying9 (by kernel_rfl) (by kernel_rfl)
theorem cz29 {H:Type} {enc:TypeId×Value→H} {W:World} {sp:Nat→Bool} {hd:Bool}:CameZ enc Tryz.prog W sp hd 29 (fun x=>List.map IC.v (T_Config.enc x)) T_Config.wz:=by
  intro fuel cs y h hz
  obtain ⟨xs, m, _, hy, hlen, hxs, hg⟩:=DataW.trod_struct Tryz.underlying29 h
  have hz':Heavy Tryz.prog 29 (DataW.agg (xs.map (·.1))):=by rw [hy] at hz; exact hz
  have hN:Tryz.prog.cellsOf 29=7:=by kernel_rfl
  rw [hN] at hlen
  obtain ⟨c0, c1, c2, c3, c4, c5, c6, rfl⟩:∃ c0 c1 c2 c3 c4 c5 c6, cs=[c0, c1, c2, c3, c4, c5, c6]:=by
    match cs, hlen with
    | [c0, c1, c2, c3, c4, c5, c6], _=>exact ⟨_, _, _, _, _, _, _, rfl⟩
  obtain ⟨y0, e0, z0⟩:=camez_fld Tryz.underlying29 hg hxs hz' 0 (T:=27) (o:=0) (k:=2) (ds:=[c0, c1]) rfl (by kernel_rfl) rfl
  obtain ⟨x0, r0, o0, w0⟩:=cz27 _ _ _ e0 z0
  obtain ⟨y1, e1, z1⟩:=camez_fld Tryz.underlying29 hg hxs hz' 1 (T:=3) (o:=2) (k:=1) (ds:=[c2]) rfl (by kernel_rfl) rfl
  obtain ⟨x1, r1, o1, w1⟩:=cz3 _ _ _ e1 z1
  obtain ⟨y2, e2, z2⟩:=camez_fld Tryz.underlying29 hg hxs hz' 2 (T:=9) (o:=3) (k:=1) (ds:=[c3]) rfl (by kernel_rfl) rfl
  obtain ⟨x2, r2, o2, w2⟩:=cz9 _ _ _ e2 z2
  obtain ⟨y3, e3, z3⟩:=camez_fld Tryz.underlying29 hg hxs hz' 3 (T:=9) (o:=4) (k:=1) (ds:=[c4]) rfl (by kernel_rfl) rfl
  obtain ⟨x3, r3, o3, w3⟩:=cz9 _ _ _ e3 z3
  obtain ⟨y4, e4, z4⟩:=camez_fld Tryz.underlying29 hg hxs hz' 4 (T:=3) (o:=5) (k:=1) (ds:=[c5]) rfl (by kernel_rfl) rfl
  obtain ⟨x4, r4, o4, w4⟩:=cz3 _ _ _ e4 z4
  obtain ⟨y5, e5, z5⟩:=camez_fld Tryz.underlying29 hg hxs hz' 5 (T:=4) (o:=6) (k:=1) (ds:=[c6]) rfl (by kernel_rfl) rfl
  obtain ⟨x5, r5, o5, w5⟩:=cz4 _ _ _ e5 z5
  exact ⟨T_Config.mk x0 x1 x2 x3 x4 x5, (RIs_append r0 (RIs_append r1 (RIs_append r2 (RIs_append r3 (RIs_append r4 (RIs_append r5 RIs_nil)))))), (ones_app o0 (ones_app o1 (ones_app o2 (ones_app o3 (ones_app o4 (ones_app o5 ones_nil)))))), w0, w1, w2, w3, w4, w5⟩
end Go.Proofs.YtofbofdggabfiaaGreatDoor
