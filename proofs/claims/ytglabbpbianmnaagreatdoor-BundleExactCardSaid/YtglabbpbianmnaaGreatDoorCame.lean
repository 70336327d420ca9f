import Derived.Test.YtglabbpbianmnaaGreatDoorProg
import Derived.Test.YtglabbpbianmnaaGreatDoorSh
import Derived.KernelRfl
set_option linter.unusedVariables false
set_option maxRecDepth 100000
namespace Go.Proofs.YtglabbpbianmnaaGreatDoor
open Go.Abs Go.Abs.Sh

theorem Jr {H:Type} {enc:TypeId×Value→H} {W:World} {sp:Nat→Bool} {hd:Bool}:iJ enc Tryz.prog W sp hd 3 (fun n:Int=>[IC.v (.int .i64 n)]) (ra .i64):=tL Tryz.underlying3
theorem Ks {H:Type} {enc:TypeId×Value→H} {W:World} {sp:Nat→Bool} {hd:Bool}:iJ enc Tryz.prog W sp hd 4 (fun b:Bool=>[IC.v (.bool b)]) (fun _=>True):=xw Tryz.underlying4
theorem Jl {H:Type} {enc:TypeId×Value→H} {W:World} {sp:Nat→Bool} {hd:Bool}:iJ enc Tryz.prog W sp hd 9 (fun s:ByteArray=>[IC.v (.string s)]) FB:=uC Tryz.underlying9
theorem HO {H:Type} {enc:TypeId×Value→H} {W:World} {sp:Nat→Bool} {hd:Bool}:iJ enc Tryz.prog W sp hd 43 (fun x=>List.map IC.v (aj.enc x)) aj.wz:=by
 intro fuel cs y h hz
 obtain ⟨xs, m, _, hy, hlen, hxs, hg⟩:=DataW.trod_struct Tryz.underlying43 h
 have hz':lP Tryz.prog 43 (DataW.agg (xs.map (·.1))):=by rw [hy] at hz; exact hz
 have hN:Tryz.prog.cellsOf 43=3:=by kernel_rfl
 rw [hN] at hlen
 obtain ⟨c0, c1, c2, rfl⟩:∃ c0 c1 c2, cs=[c0, c1, c2]:=by
  match cs, hlen with
  | [c0, c1, c2], _=>exact ⟨_, _, _, rfl⟩
 obtain ⟨y0, e0, z0⟩:=eX Tryz.underlying43 hg hxs hz' 0 (T:=4) (o:=0) (k:=1) (ds:=[c0]) rfl (by kernel_rfl) rfl
 obtain ⟨x0, r0, o0, w0⟩:=Ks _ _ _ e0 z0
 obtain ⟨y1, e1, z1⟩:=eX Tryz.underlying43 hg hxs hz' 1 (T:=9) (o:=1) (k:=1) (ds:=[c1]) rfl (by kernel_rfl) rfl
 obtain ⟨x1, r1, o1, w1⟩:=Jl _ _ _ e1 z1
 obtain ⟨y2, e2, z2⟩:=eX Tryz.underlying43 hg hxs hz' 2 (T:=9) (o:=2) (k:=1) (ds:=[c2]) rfl (by kernel_rfl) rfl
 obtain ⟨x2, r2, o2, w2⟩:=Jl _ _ _ e2 z2
 exact ⟨aj.mk x0 x1 x2, (cY r0 (cY r1 (cY r2 vt))), (fR o0 (fR o1 (fR o2 se))), w0, w1, w2⟩
theorem Jw {H:Type} {enc:TypeId×Value→H} {W:World} {sp:Nat→Bool} {hd:Bool}:iJ enc Tryz.prog W sp hd 44 (fun l:List aj=>[IC.row 3 (List.map IC.v (List.flatten (List.map aj.enc l)))]) (Bo 40 aj.wz):=vN (b:=40) (by kernel_rfl) Tryz.underlying44 (z:=3) (by kernel_rfl) (by decide) aj.len HO
theorem La {H:Type} {enc:TypeId×Value→H} {W:World} {sp:Nat→Bool} {hd:Bool}:iJ enc Tryz.prog W sp hd 5 (fun n:Int=>[IC.v (.int .u8 n)]) (ra .u8):=tL Tryz.underlying5
theorem HY {H:Type} {enc:TypeId×Value→H} {W:World} {sp:Nat→Bool} {hd:Bool}:iJ enc Tryz.prog W sp hd 25 (fun l:List Int=>[IC.row 1 (List.map IC.v (List.map (Value.int .u8) l))]) (Bo 1 (ra .u8)):=yh (b:=1) (by kernel_rfl) Tryz.underlying25 (by kernel_rfl) La
theorem Ka {H:Type} {enc:TypeId×Value→H} {W:World} {sp:Nat→Bool} {hd:Bool}:iJ enc Tryz.prog W sp hd 46 ae.ienc ae.wz:=by
 intro fuel cs y h hz
 obtain ⟨xs, m, _, hy, hlen, hxs, hg⟩:=DataW.trod_struct Tryz.underlying46 h
 have hz':lP Tryz.prog 46 (DataW.agg (xs.map (·.1))):=by rw [hy] at hz; exact hz
 have hN:Tryz.prog.cellsOf 46=8:=by kernel_rfl
 rw [hN] at hlen
 obtain ⟨c0, c1, c2, c3, c4, c5, c6, c7, rfl⟩:∃ c0 c1 c2 c3 c4 c5 c6 c7, cs=[c0, c1, c2, c3, c4, c5, c6, c7]:=by
  match cs, hlen with
  | [c0, c1, c2, c3, c4, c5, c6, c7], _=>exact ⟨_, _, _, _, _, _, _, _, rfl⟩
 obtain ⟨y0, e0, z0⟩:=eX Tryz.underlying46 hg hxs hz' 0 (T:=43) (o:=0) (k:=3) (ds:=[c0, c1, c2]) rfl (by kernel_rfl) rfl
 obtain ⟨x0, r0, o0, w0⟩:=HO _ _ _ e0 z0
 obtain ⟨y1, e1, z1⟩:=eX Tryz.underlying46 hg hxs hz' 1 (T:=44) (o:=3) (k:=1) (ds:=[c3]) rfl (by kernel_rfl) rfl
 obtain ⟨x1, r1, o1, w1⟩:=Jw _ _ _ e1 z1
 obtain ⟨y2, e2, z2⟩:=eX Tryz.underlying46 hg hxs hz' 2 (T:=25) (o:=4) (k:=1) (ds:=[c4]) rfl (by kernel_rfl) rfl
 obtain ⟨x2, r2, o2, w2⟩:=HY _ _ _ e2 z2
 obtain ⟨y3, e3, z3⟩:=eX Tryz.underlying46 hg hxs hz' 3 (T:=4) (o:=5) (k:=1) (ds:=[c5]) rfl (by kernel_rfl) rfl
 obtain ⟨x3, r3, o3, w3⟩:=Ks _ _ _ e3 z3
 obtain ⟨y4, e4, z4⟩:=eX Tryz.underlying46 hg hxs hz' 4 (T:=9) (o:=6) (k:=1) (ds:=[c6]) rfl (by kernel_rfl) rfl
 obtain ⟨x4, r4, o4, w4⟩:=Jl _ _ _ e4 z4
 obtain ⟨y5, e5, z5⟩:=eX Tryz.underlying46 hg hxs hz' 5 (T:=3) (o:=7) (k:=1) (ds:=[c7]) rfl (by kernel_rfl) rfl
 obtain ⟨x5, r5, o5, w5⟩:=Jr _ _ _ e5 z5
 exact ⟨ae.mk x0 x1 x2 x3 x4 x5, (cY r0 (cY r1 (cY r2 (cY r3 (cY r4 (cY r5 vt)))))), (fR o0 (fR o1 (fR o2 (fR o3 (fR o4 (fR o5 se)))))), w0, w1, w2, w3, w4, w5⟩
theorem IH {H:Type} {enc:TypeId×Value→H} {W:World} {sp:Nat→Bool} {hd:Bool}:iJ enc Tryz.prog W sp hd 22 (fun l:List ae=>[IC.row 8 (List.flatten (List.map ae.ienc l))]) (Bo 120 ae.wz):=mL (b:=120) (by kernel_rfl) Tryz.underlying22 (z:=8) (by kernel_rfl) (by decide) ae.ilen Ka
theorem Kg {H:Type} {enc:TypeId×Value→H} {W:World} {sp:Nat→Bool} {hd:Bool}:iJ enc Tryz.prog W sp hd 24 az.ienc az.wz:=by
 intro fuel cs y h hz
 obtain ⟨xs, m, _, hy, hlen, hxs, hg⟩:=DataW.trod_struct Tryz.underlying24 h
 have hz':lP Tryz.prog 24 (DataW.agg (xs.map (·.1))):=by rw [hy] at hz; exact hz
 have hN:Tryz.prog.cellsOf 24=3:=by kernel_rfl
 rw [hN] at hlen
 obtain ⟨c0, c1, c2, rfl⟩:∃ c0 c1 c2, cs=[c0, c1, c2]:=by
  match cs, hlen with
  | [c0, c1, c2], _=>exact ⟨_, _, _, rfl⟩
 obtain ⟨y0, e0, z0⟩:=eX Tryz.underlying24 hg hxs hz' 0 (T:=3) (o:=0) (k:=1) (ds:=[c0]) rfl (by kernel_rfl) rfl
 obtain ⟨x0, r0, o0, w0⟩:=Jr _ _ _ e0 z0
 obtain ⟨y1, e1, z1⟩:=eX Tryz.underlying24 hg hxs hz' 1 (T:=3) (o:=1) (k:=1) (ds:=[c1]) rfl (by kernel_rfl) rfl
 obtain ⟨x1, r1, o1, w1⟩:=Jr _ _ _ e1 z1
 obtain ⟨y2, e2, z2⟩:=eX Tryz.underlying24 hg hxs hz' 2 (T:=22) (o:=2) (k:=1) (ds:=[c2]) rfl (by kernel_rfl) rfl
 obtain ⟨x2, r2, o2, w2⟩:=IH _ _ _ e2 z2
 exact ⟨az.mk x0 x1 x2, (cY r0 (cY r1 (cY r2 vt))), (fR o0 (fR o1 (fR o2 se))), w0, w1, w2⟩
end Go.Proofs.YtglabbpbianmnaaGreatDoor
