import Derived.Test.YtjnnkhmhjcjhdaaGreatDoorProg
import Derived.Test.YtjnnkhmhjcjhdaaGreatDoorSh
set_option linter.unusedVariables false
set_option maxRecDepth 100000
namespace Go.Proofs.YtjnnkhmhjcjhdaaGreatDoor
open Go.Abs Go.Abs.Sh

theorem Ln {H:Type} {enc:TypeId×Value→H} {W:World} {sp:Nat→Bool} {hd:Bool}:pQ enc Tryz.prog W sp hd 4 (fun b:Bool=>[IC.v (.bool b)]) (fun _=>True):=BX Tryz.underlying4
theorem La {H:Type} {enc:TypeId×Value→H} {W:World} {sp:Nat→Bool} {hd:Bool}:pQ enc Tryz.prog W sp hd 9 (fun s:ByteArray=>[IC.v (.string s)]) Az:=wV Tryz.underlying9
theorem Jj {H:Type} {enc:TypeId×Value→H} {W:World} {sp:Nat→Bool} {hd:Bool}:pQ enc Tryz.prog W sp hd 26 (fun x=>List.map IC.v (T_Path.enc x)) T_Path.wf:=by
 intro fuel cs y h
 obtain ⟨xs, m, _, hy, hlen, hxs, hg⟩:=DataW.trod_struct Tryz.underlying26 h
 have hN:Tryz.prog.cellsOf 26=3:=by kernel_rfl
 rw [hN] at hlen
 obtain ⟨c0, c1, c2, rfl⟩:∃ c0 c1 c2, cs=[c0, c1, c2]:=by
  match cs, hlen with
  | [c0, c1, c2], _=>exact ⟨_, _, _, rfl⟩
 obtain ⟨y0, e0⟩:=sE hg hxs 0 (T:=4) (o:=0) (k:=1) (ds:=[c0]) rfl (by kernel_rfl) rfl
 obtain ⟨x0, r0, o0, w0⟩:=Ln _ _ _ e0
 obtain ⟨y1, e1⟩:=sE hg hxs 1 (T:=9) (o:=1) (k:=1) (ds:=[c1]) rfl (by kernel_rfl) rfl
 obtain ⟨x1, r1, o1, w1⟩:=La _ _ _ e1
 obtain ⟨y2, e2⟩:=sE hg hxs 2 (T:=9) (o:=2) (k:=1) (ds:=[c2]) rfl (by kernel_rfl) rfl
 obtain ⟨x2, r2, o2, w2⟩:=La _ _ _ e2
 exact ⟨T_Path.mk x0 x1 x2, (jt r0 (jt r1 (jt r2 EV))), (sU o0 (sU o1 (sU o2 DW))), w0, w1, w2⟩
theorem Ko {H:Type} {enc:TypeId×Value→H} {W:World} {sp:Nat→Bool} {hd:Bool}:pQ enc Tryz.prog W sp hd 27 (fun l:List T_Path=>[IC.row 3 (List.map IC.v (List.flatten (List.map T_Path.enc l)))]) (xx T_Path.wf):=yT Tryz.underlying27 (z:=3) (by kernel_rfl) (by decide) T_Path.len Jj
theorem Lc {H:Type} {enc:TypeId×Value→H} {W:World} {sp:Nat→Bool} {hd:Bool}:pQ enc Tryz.prog W sp hd 5 (fun n:Int=>[IC.v (.int .u8 n)]) (pU .u8):=CW Tryz.underlying5
theorem JS {H:Type} {enc:TypeId×Value→H} {W:World} {sp:Nat→Bool} {hd:Bool}:pQ enc Tryz.prog W sp hd 28 (fun l:List Int=>[IC.row 1 (List.map IC.v (List.map (Value.int .u8) l))]) (xx (pU .u8)):=Cj Tryz.underlying28 (by kernel_rfl) Lc
end Go.Proofs.YtjnnkhmhjcjhdaaGreatDoor
