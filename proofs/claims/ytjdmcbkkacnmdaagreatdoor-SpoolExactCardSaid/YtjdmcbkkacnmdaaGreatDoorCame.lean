import Derived.Test.YtjdmcbkkacnmdaaGreatDoorProg
import Derived.Test.YtjdmcbkkacnmdaaGreatDoorSh
import Derived.KernelRfl
set_option linter.unusedVariables false
set_option maxRecDepth 100000
namespace Go.Proofs.YtjdmcbkkacnmdaaGreatDoor
open Go.Abs Go.Abs.Sh

theorem Df {H:Type} {enc:TypeId×Value→H} {W:World} {sp:Nat→Bool} {hd:Bool}:gr enc Tryz.prog W sp hd 3 (fun n:Int=>[IC.v (.int .i64 n)]) (jU .i64):=sb Tryz.underlying3
theorem Gc {H:Type} {enc:TypeId×Value→H} {W:World} {sp:Nat→Bool} {hd:Bool}:gr enc Tryz.prog W sp hd 4 (fun b:Bool=>[IC.v (.bool b)]) (fun _=>True):=vO Tryz.underlying4
theorem EK {H:Type} {enc:TypeId×Value→H} {W:World} {sp:Nat→Bool} {hd:Bool}:gr enc Tryz.prog W sp hd 9 (fun s:ByteArray=>[IC.v (.string s)]) BZ:=sX Tryz.underlying9
theorem Ek {H:Type} {enc:TypeId×Value→H} {W:World} {sp:Nat→Bool} {hd:Bool}:gr enc Tryz.prog W sp hd 24 (fun x=>List.map IC.v (T_Path.enc x)) T_Path.wz:=by
 intro fuel cs y h hz
 obtain ⟨xs, m, _, hy, hlen, hxs, hg⟩:=DataW.trod_struct Tryz.underlying24 h
 have hz':mL Tryz.prog 24 (DataW.agg (xs.map (·.1))):=by rw [hy] at hz; exact hz
 have hN:Tryz.prog.cellsOf 24=3:=by kernel_rfl
 rw [hN] at hlen
 obtain ⟨c0, c1, c2, rfl⟩:∃ c0 c1 c2, cs=[c0, c1, c2]:=by
  match cs, hlen with
  | [c0, c1, c2], _=>exact ⟨_, _, _, rfl⟩
 obtain ⟨y0, e0, z0⟩:=cW Tryz.underlying24 hg hxs hz' 0 (T:=4) (o:=0) (k:=1) (ds:=[c0]) rfl (by kernel_rfl) rfl
 obtain ⟨x0, r0, o0, w0⟩:=Gc _ _ _ e0 z0
 obtain ⟨y1, e1, z1⟩:=cW Tryz.underlying24 hg hxs hz' 1 (T:=9) (o:=1) (k:=1) (ds:=[c1]) rfl (by kernel_rfl) rfl
 obtain ⟨x1, r1, o1, w1⟩:=EK _ _ _ e1 z1
 obtain ⟨y2, e2, z2⟩:=cW Tryz.underlying24 hg hxs hz' 2 (T:=9) (o:=2) (k:=1) (ds:=[c2]) rfl (by kernel_rfl) rfl
 obtain ⟨x2, r2, o2, w2⟩:=EK _ _ _ e2 z2
 exact ⟨T_Path.mk x0 x1 x2, (bC r0 (bC r1 (bC r2 ta))), (dE o0 (dE o1 (dE o2 qT))), w0, w1, w2⟩
theorem EV {H:Type} {enc:TypeId×Value→H} {W:World} {sp:Nat→Bool} {hd:Bool}:gr enc Tryz.prog W sp hd 25 (fun l:List T_Path=>[IC.row 3 (List.map IC.v (List.flatten (List.map T_Path.enc l)))]) (tL 40 T_Path.wz):=uZ (b:=40) (by kernel_rfl) Tryz.underlying25 (z:=3) (by kernel_rfl) (by decide) T_Path.len Ek
theorem GG {H:Type} {enc:TypeId×Value→H} {W:World} {sp:Nat→Bool} {hd:Bool}:gr enc Tryz.prog W sp hd 5 (fun n:Int=>[IC.v (.int .u8 n)]) (jU .u8):=sb Tryz.underlying5
theorem DM {H:Type} {enc:TypeId×Value→H} {W:World} {sp:Nat→Bool} {hd:Bool}:gr enc Tryz.prog W sp hd 26 (fun l:List Int=>[IC.row 1 (List.map IC.v (List.map (Value.int .u8) l))]) (tL 1 (jU .u8)):=qx (b:=1) (by kernel_rfl) Tryz.underlying26 (by kernel_rfl) GG
theorem EW {H:Type} {enc:TypeId×Value→H} {W:World} {sp:Nat→Bool} {hd:Bool}:gr enc Tryz.prog W sp hd 28 T_Mail.ienc T_Mail.wz:=by
 intro fuel cs y h hz
 obtain ⟨xs, m, _, hy, hlen, hxs, hg⟩:=DataW.trod_struct Tryz.underlying28 h
 have hz':mL Tryz.prog 28 (DataW.agg (xs.map (·.1))):=by rw [hy] at hz; exact hz
 have hN:Tryz.prog.cellsOf 28=8:=by kernel_rfl
 rw [hN] at hlen
 obtain ⟨c0, c1, c2, c3, c4, c5, c6, c7, rfl⟩:∃ c0 c1 c2 c3 c4 c5 c6 c7, cs=[c0, c1, c2, c3, c4, c5, c6, c7]:=by
  match cs, hlen with
  | [c0, c1, c2, c3, c4, c5, c6, c7], _=>exact ⟨_, _, _, _, _, _, _, _, rfl⟩
 obtain ⟨y0, e0, z0⟩:=cW Tryz.underlying28 hg hxs hz' 0 (T:=24) (o:=0) (k:=3) (ds:=[c0, c1, c2]) rfl (by kernel_rfl) rfl
 obtain ⟨x0, r0, o0, w0⟩:=Ek _ _ _ e0 z0
 obtain ⟨y1, e1, z1⟩:=cW Tryz.underlying28 hg hxs hz' 1 (T:=25) (o:=3) (k:=1) (ds:=[c3]) rfl (by kernel_rfl) rfl
 obtain ⟨x1, r1, o1, w1⟩:=EV _ _ _ e1 z1
 obtain ⟨y2, e2, z2⟩:=cW Tryz.underlying28 hg hxs hz' 2 (T:=26) (o:=4) (k:=1) (ds:=[c4]) rfl (by kernel_rfl) rfl
 obtain ⟨x2, r2, o2, w2⟩:=DM _ _ _ e2 z2
 obtain ⟨y3, e3, z3⟩:=cW Tryz.underlying28 hg hxs hz' 3 (T:=4) (o:=5) (k:=1) (ds:=[c5]) rfl (by kernel_rfl) rfl
 obtain ⟨x3, r3, o3, w3⟩:=Gc _ _ _ e3 z3
 obtain ⟨y4, e4, z4⟩:=cW Tryz.underlying28 hg hxs hz' 4 (T:=9) (o:=6) (k:=1) (ds:=[c6]) rfl (by kernel_rfl) rfl
 obtain ⟨x4, r4, o4, w4⟩:=EK _ _ _ e4 z4
 obtain ⟨y5, e5, z5⟩:=cW Tryz.underlying28 hg hxs hz' 5 (T:=3) (o:=7) (k:=1) (ds:=[c7]) rfl (by kernel_rfl) rfl
 obtain ⟨x5, r5, o5, w5⟩:=Df _ _ _ e5 z5
 exact ⟨T_Mail.mk x0 x1 x2 x3 x4 x5, (bC r0 (bC r1 (bC r2 (bC r3 (bC r4 (bC r5 ta)))))), (dE o0 (dE o1 (dE o2 (dE o3 (dE o4 (dE o5 qT)))))), w0, w1, w2, w3, w4, w5⟩
theorem ES {H:Type} {enc:TypeId×Value→H} {W:World} {sp:Nat→Bool} {hd:Bool}:gr enc Tryz.prog W sp hd 29 (fun l:List Int=>[IC.row 1 (List.map IC.v (List.map (Value.int .i64) l))]) (tL 8 (jU .i64)):=qx (b:=8) (by kernel_rfl) Tryz.underlying29 (by kernel_rfl) Df
theorem Ec {H:Type} {enc:TypeId×Value→H} {W:World} {sp:Nat→Bool} {hd:Bool}:gr enc Tryz.prog W sp hd 31 T_Rec.ienc T_Rec.wz:=by
 intro fuel cs y h hz
 obtain ⟨xs, m, _, hy, hlen, hxs, hg⟩:=DataW.trod_struct Tryz.underlying31 h
 have hz':mL Tryz.prog 31 (DataW.agg (xs.map (·.1))):=by rw [hy] at hz; exact hz
 have hN:Tryz.prog.cellsOf 31=15:=by kernel_rfl
 rw [hN] at hlen
 obtain ⟨c0, c1, c2, c3, c4, c5, c6, c7, c8, c9, c10, c11, c12, c13, c14, rfl⟩:∃ c0 c1 c2 c3 c4 c5 c6 c7 c8 c9 c10 c11 c12 c13 c14, cs=[c0, c1, c2, c3, c4, c5, c6, c7, c8, c9, c10, c11, c12, c13, c14]:=by
  match cs, hlen with
  | [c0, c1, c2, c3, c4, c5, c6, c7, c8, c9, c10, c11, c12, c13, c14], _=>exact ⟨_, _, _, _, _, _, _, _, _, _, _, _, _, _, _, rfl⟩
 obtain ⟨y0, e0, z0⟩:=cW Tryz.underlying31 hg hxs hz' 0 (T:=3) (o:=0) (k:=1) (ds:=[c0]) rfl (by kernel_rfl) rfl
 obtain ⟨x0, r0, o0, w0⟩:=Df _ _ _ e0 z0
 obtain ⟨y1, e1, z1⟩:=cW Tryz.underlying31 hg hxs hz' 1 (T:=28) (o:=1) (k:=8) (ds:=[c1, c2, c3, c4, c5, c6, c7, c8]) rfl (by kernel_rfl) rfl
 obtain ⟨x1, r1, o1, w1⟩:=EW _ _ _ e1 z1
 obtain ⟨y2, e2, z2⟩:=cW Tryz.underlying31 hg hxs hz' 2 (T:=3) (o:=9) (k:=1) (ds:=[c9]) rfl (by kernel_rfl) rfl
 obtain ⟨x2, r2, o2, w2⟩:=Df _ _ _ e2 z2
 obtain ⟨y3, e3, z3⟩:=cW Tryz.underlying31 hg hxs hz' 3 (T:=29) (o:=10) (k:=1) (ds:=[c10]) rfl (by kernel_rfl) rfl
 obtain ⟨x3, r3, o3, w3⟩:=ES _ _ _ e3 z3
 obtain ⟨y4, e4, z4⟩:=cW Tryz.underlying31 hg hxs hz' 4 (T:=3) (o:=11) (k:=1) (ds:=[c11]) rfl (by kernel_rfl) rfl
 obtain ⟨x4, r4, o4, w4⟩:=Df _ _ _ e4 z4
 obtain ⟨y5, e5, z5⟩:=cW Tryz.underlying31 hg hxs hz' 5 (T:=3) (o:=12) (k:=1) (ds:=[c12]) rfl (by kernel_rfl) rfl
 obtain ⟨x5, r5, o5, w5⟩:=Df _ _ _ e5 z5
 obtain ⟨y6, e6, z6⟩:=cW Tryz.underlying31 hg hxs hz' 6 (T:=3) (o:=13) (k:=1) (ds:=[c13]) rfl (by kernel_rfl) rfl
 obtain ⟨x6, r6, o6, w6⟩:=Df _ _ _ e6 z6
 obtain ⟨y7, e7, z7⟩:=cW Tryz.underlying31 hg hxs hz' 7 (T:=26) (o:=14) (k:=1) (ds:=[c14]) rfl (by kernel_rfl) rfl
 obtain ⟨x7, r7, o7, w7⟩:=DM _ _ _ e7 z7
 exact ⟨T_Rec.mk x0 x1 x2 x3 x4 x5 x6 x7, (bC r0 (bC r1 (bC r2 (bC r3 (bC r4 (bC r5 (bC r6 (bC r7 ta)))))))), (dE o0 (dE o1 (dE o2 (dE o3 (dE o4 (dE o5 (dE o6 (dE o7 qT)))))))), w0, w1, w2, w3, w4, w5, w6, w7⟩
theorem EY {H:Type} {enc:TypeId×Value→H} {W:World} {sp:Nat→Bool} {hd:Bool}:gr enc Tryz.prog W sp hd 22 (fun l:List T_Rec=>[IC.row 15 (List.flatten (List.map T_Rec.ienc l))]) (tL 208 T_Rec.wz):=kY (b:=208) (by kernel_rfl) Tryz.underlying22 (z:=15) (by kernel_rfl) (by decide) T_Rec.ilen Ec
end Go.Proofs.YtjdmcbkkacnmdaaGreatDoor
