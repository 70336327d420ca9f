import Derived.Test.YtjnnkhmhjcjhdaaGreatDoorProg
import Derived.Test.YtjnnkhmhjcjhdaaGreatDoorSh
set_option linter.unusedVariables false
set_option maxRecDepth 100000
namespace Go.Proofs.YtjnnkhmhjcjhdaaGreatDoor
open Go.Abs Go.Abs.Sh

theorem IV {H:Type} {enc:TypeId×Value→H} {W:World} {sp:Nat→Bool} {hd:Bool}:gM enc Tryz.prog W sp hd 22 (fun l:List ByteArray=>[IC.v (.string (l.getD 0 (⟨#[]⟩:ByteArray))), IC.v (.string (l.getD 1 (⟨#[]⟩:ByteArray)))]) (fun l=>l.length=2∧∀ x∈l, uq x):=xE Tryz.underlying22 Tryz.underlying9 (by kernel_rfl) (by kernel_rfl)
theorem Ih {H:Type} {enc:TypeId×Value→H} {W:World} {sp:Nat→Bool} {hd:Bool}:gM enc Tryz.prog W sp hd 3 (fun n:Int=>[IC.v (.int .i64 n)]) (nQ .i64):=tM Tryz.underlying3
theorem Gr {H:Type} {enc:TypeId×Value→H} {W:World} {sp:Nat→Bool} {hd:Bool}:gM enc Tryz.prog W sp hd 9 (fun s:ByteArray=>[IC.v (.string s)]) uq:=ur Tryz.underlying9
theorem Ik {H:Type} {enc:TypeId×Value→H} {W:World} {sp:Nat→Bool} {hd:Bool}:gM enc Tryz.prog W sp hd 4 (fun b:Bool=>[IC.v (.bool b)]) (fun _=>True):=xx Tryz.underlying4
theorem IQ {H:Type} {enc:TypeId×Value→H} {W:World} {sp:Nat→Bool} {hd:Bool}:gM enc Tryz.prog W sp hd 24 (fun x=>List.map IC.v (T_Config.enc x)) T_Config.wz:=by
 intro fuel cs y h hz
 obtain ⟨xs, m, _, hy, hlen, hxs, hg⟩:=DataW.trod_struct Tryz.underlying24 h
 have hz':lN Tryz.prog 24 (DataW.agg (xs.map (·.1))):=by rw [hy] at hz; exact hz
 have hN:Tryz.prog.cellsOf 24=7:=by kernel_rfl
 rw [hN] at hlen
 obtain ⟨c0, c1, c2, c3, c4, c5, c6, rfl⟩:∃ c0 c1 c2 c3 c4 c5 c6, cs=[c0, c1, c2, c3, c4, c5, c6]:=by
  match cs, hlen with
  | [c0, c1, c2, c3, c4, c5, c6], _=>exact ⟨_, _, _, _, _, _, _, rfl⟩
 obtain ⟨y0, e0, z0⟩:=cp Tryz.underlying24 hg hxs hz' 0 (T:=22) (o:=0) (k:=2) (ds:=[c0, c1]) rfl (by kernel_rfl) rfl
 obtain ⟨x0, r0, o0, w0⟩:=IV _ _ _ e0 z0
 obtain ⟨y1, e1, z1⟩:=cp Tryz.underlying24 hg hxs hz' 1 (T:=3) (o:=2) (k:=1) (ds:=[c2]) rfl (by kernel_rfl) rfl
 obtain ⟨x1, r1, o1, w1⟩:=Ih _ _ _ e1 z1
 obtain ⟨y2, e2, z2⟩:=cp Tryz.underlying24 hg hxs hz' 2 (T:=9) (o:=3) (k:=1) (ds:=[c3]) rfl (by kernel_rfl) rfl
 obtain ⟨x2, r2, o2, w2⟩:=Gr _ _ _ e2 z2
 obtain ⟨y3, e3, z3⟩:=cp Tryz.underlying24 hg hxs hz' 3 (T:=9) (o:=4) (k:=1) (ds:=[c4]) rfl (by kernel_rfl) rfl
 obtain ⟨x3, r3, o3, w3⟩:=Gr _ _ _ e3 z3
 obtain ⟨y4, e4, z4⟩:=cp Tryz.underlying24 hg hxs hz' 4 (T:=3) (o:=5) (k:=1) (ds:=[c5]) rfl (by kernel_rfl) rfl
 obtain ⟨x4, r4, o4, w4⟩:=Ih _ _ _ e4 z4
 obtain ⟨y5, e5, z5⟩:=cp Tryz.underlying24 hg hxs hz' 5 (T:=4) (o:=6) (k:=1) (ds:=[c6]) rfl (by kernel_rfl) rfl
 obtain ⟨x5, r5, o5, w5⟩:=Ik _ _ _ e5 z5
 exact ⟨T_Config.mk x0 x1 x2 x3 x4 x5, (br r0 (br r1 (br r2 (br r3 (br r4 (br r5 uw)))))), (dj o0 (dj o1 (dj o2 (dj o3 (dj o4 (dj o5 sD)))))), w0, w1, w2, w3, w4, w5⟩
theorem GW {H:Type} {enc:TypeId×Value→H} {W:World} {sp:Nat→Bool} {hd:Bool}:gM enc Tryz.prog W sp hd 26 (fun x=>List.map IC.v (T_Path.enc x)) T_Path.wz:=by
 intro fuel cs y h hz
 obtain ⟨xs, m, _, hy, hlen, hxs, hg⟩:=DataW.trod_struct Tryz.underlying26 h
 have hz':lN Tryz.prog 26 (DataW.agg (xs.map (·.1))):=by rw [hy] at hz; exact hz
 have hN:Tryz.prog.cellsOf 26=3:=by kernel_rfl
 rw [hN] at hlen
 obtain ⟨c0, c1, c2, rfl⟩:∃ c0 c1 c2, cs=[c0, c1, c2]:=by
  match cs, hlen with
  | [c0, c1, c2], _=>exact ⟨_, _, _, rfl⟩
 obtain ⟨y0, e0, z0⟩:=cp Tryz.underlying26 hg hxs hz' 0 (T:=4) (o:=0) (k:=1) (ds:=[c0]) rfl (by kernel_rfl) rfl
 obtain ⟨x0, r0, o0, w0⟩:=Ik _ _ _ e0 z0
 obtain ⟨y1, e1, z1⟩:=cp Tryz.underlying26 hg hxs hz' 1 (T:=9) (o:=1) (k:=1) (ds:=[c1]) rfl (by kernel_rfl) rfl
 obtain ⟨x1, r1, o1, w1⟩:=Gr _ _ _ e1 z1
 obtain ⟨y2, e2, z2⟩:=cp Tryz.underlying26 hg hxs hz' 2 (T:=9) (o:=2) (k:=1) (ds:=[c2]) rfl (by kernel_rfl) rfl
 obtain ⟨x2, r2, o2, w2⟩:=Gr _ _ _ e2 z2
 exact ⟨T_Path.mk x0 x1 x2, (br r0 (br r1 (br r2 uw))), (dj o0 (dj o1 (dj o2 sD))), w0, w1, w2⟩
theorem Jh {H:Type} {enc:TypeId×Value→H} {W:World} {sp:Nat→Bool} {hd:Bool}:gM enc Tryz.prog W sp hd 27 (fun l:List T_Path=>[IC.row 3 (List.map IC.v (List.flatten (List.map T_Path.enc l)))]) (xd 40 T_Path.wz):=wQ (b:=40) (by kernel_rfl) Tryz.underlying27 (z:=3) (by kernel_rfl) (by decide) T_Path.len GW
theorem JT {H:Type} {enc:TypeId×Value→H} {W:World} {sp:Nat→Bool} {hd:Bool}:gM enc Tryz.prog W sp hd 5 (fun n:Int=>[IC.v (.int .u8 n)]) (nQ .u8):=tM Tryz.underlying5
theorem Hi {H:Type} {enc:TypeId×Value→H} {W:World} {sp:Nat→Bool} {hd:Bool}:gM enc Tryz.prog W sp hd 28 (fun l:List Int=>[IC.row 1 (List.map IC.v (List.map (Value.int .u8) l))]) (xd 1 (nQ .u8)):=rI (b:=1) (by kernel_rfl) Tryz.underlying28 (by kernel_rfl) JT
theorem IP {H:Type} {enc:TypeId×Value→H} {W:World} {sp:Nat→Bool} {hd:Bool}:gM enc Tryz.prog W sp hd 30 T_Gate.ienc T_Gate.wz:=by
 intro fuel cs y h hz
 obtain ⟨xs, m, _, hy, hlen, hxs, hg⟩:=DataW.trod_struct Tryz.underlying30 h
 have hz':lN Tryz.prog 30 (DataW.agg (xs.map (·.1))):=by rw [hy] at hz; exact hz
 have hN:Tryz.prog.cellsOf 30=10:=by kernel_rfl
 rw [hN] at hlen
 obtain ⟨c0, c1, c2, c3, c4, c5, c6, c7, c8, c9, rfl⟩:∃ c0 c1 c2 c3 c4 c5 c6 c7 c8 c9, cs=[c0, c1, c2, c3, c4, c5, c6, c7, c8, c9]:=by
  match cs, hlen with
  | [c0, c1, c2, c3, c4, c5, c6, c7, c8, c9], _=>exact ⟨_, _, _, _, _, _, _, _, _, _, rfl⟩
 obtain ⟨y0, e0, z0⟩:=cp Tryz.underlying30 hg hxs hz' 0 (T:=3) (o:=0) (k:=1) (ds:=[c0]) rfl (by kernel_rfl) rfl
 obtain ⟨x0, r0, o0, w0⟩:=Ih _ _ _ e0 z0
 obtain ⟨y1, e1, z1⟩:=cp Tryz.underlying30 hg hxs hz' 1 (T:=9) (o:=1) (k:=1) (ds:=[c1]) rfl (by kernel_rfl) rfl
 obtain ⟨x1, r1, o1, w1⟩:=Gr _ _ _ e1 z1
 obtain ⟨y2, e2, z2⟩:=cp Tryz.underlying30 hg hxs hz' 2 (T:=26) (o:=2) (k:=3) (ds:=[c2, c3, c4]) rfl (by kernel_rfl) rfl
 obtain ⟨x2, r2, o2, w2⟩:=GW _ _ _ e2 z2
 obtain ⟨y3, e3, z3⟩:=cp Tryz.underlying30 hg hxs hz' 3 (T:=27) (o:=5) (k:=1) (ds:=[c5]) rfl (by kernel_rfl) rfl
 obtain ⟨x3, r3, o3, w3⟩:=Jh _ _ _ e3 z3
 obtain ⟨y4, e4, z4⟩:=cp Tryz.underlying30 hg hxs hz' 4 (T:=4) (o:=6) (k:=1) (ds:=[c6]) rfl (by kernel_rfl) rfl
 obtain ⟨x4, r4, o4, w4⟩:=Ik _ _ _ e4 z4
 obtain ⟨y5, e5, z5⟩:=cp Tryz.underlying30 hg hxs hz' 5 (T:=28) (o:=7) (k:=1) (ds:=[c7]) rfl (by kernel_rfl) rfl
 obtain ⟨x5, r5, o5, w5⟩:=Hi _ _ _ e5 z5
 obtain ⟨y6, e6, z6⟩:=cp Tryz.underlying30 hg hxs hz' 6 (T:=9) (o:=8) (k:=1) (ds:=[c8]) rfl (by kernel_rfl) rfl
 obtain ⟨x6, r6, o6, w6⟩:=Gr _ _ _ e6 z6
 obtain ⟨y7, e7, z7⟩:=cp Tryz.underlying30 hg hxs hz' 7 (T:=4) (o:=9) (k:=1) (ds:=[c9]) rfl (by kernel_rfl) rfl
 obtain ⟨x7, r7, o7, w7⟩:=Ik _ _ _ e7 z7
 exact ⟨T_Gate.mk x0 x1 x2 x3 x4 x5 x6 x7, (br r0 (br r1 (br r2 (br r3 (br r4 (br r5 (br r6 (br r7 uw)))))))), (dj o0 (dj o1 (dj o2 (dj o3 (dj o4 (dj o5 (dj o6 (dj o7 sD)))))))), w0, w1, w2, w3, w4, w5, w6, w7⟩
theorem Ir {H:Type} {enc:TypeId×Value→H} {W:World} {sp:Nat→Bool} {hd:Bool}:gM enc Tryz.prog W sp hd 31 (fun l:List Int=>[IC.row 1 (List.map IC.v (List.map (Value.int .i64) l))]) (xd 8 (nQ .i64)):=rI (b:=8) (by kernel_rfl) Tryz.underlying31 (by kernel_rfl) Ih
end Go.Proofs.YtjnnkhmhjcjhdaaGreatDoor
