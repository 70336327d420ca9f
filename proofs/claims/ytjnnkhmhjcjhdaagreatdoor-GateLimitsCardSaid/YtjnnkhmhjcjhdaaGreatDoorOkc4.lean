/-
  The model's runs are what is told in Lean.
-/
import Derived.Test.YtjnnkhmhjcjhdaaGreatDoorProg
import Derived.KernelRfl
import Derived.Test.YtjnnkhmhjcjhdaaGreatDoorShelf
import Derived.Test.YtjnnkhmhjcjhdaaGreatDoorIdx
import Derived.Test.YtjnnkhmhjcjhdaaGreatDoorB3
import Derived.Test.YtjnnkhmhjcjhdaaGreatDoorC1
import Derived.Test.YtjnnkhmhjcjhdaaGreatDoorBC
import Derived.Test.YtjnnkhmhjcjhdaaGreatDoorOkc3
set_option linter.unusedVariables false
set_option linter.unusedSimpArgs false
set_option maxHeartbeats 1000000
namespace Go.Proofs.YtjnnkhmhjcjhdaaGreatDoor
open Go.Abs Go.Abs.Sh Tryz
open List (map flatten)
open Value (int)
theorem Eb (b:(List Int)) (width:Int) (divisor:Int) (r:Int) (h:Sh.xJ b width divisor=some r):eD Tryz.prog 182 [.fl .shr 1 (map (int .u8) b), .v (.int .i64 width), .v (.int .u32 divisor)] (.v (.int .i64 r)):=by
  unfold Sh.xJ at h
  refine yO 47 func182 fun g0 hn hio => ?_
  refine cF hn 1 [0,1,2] ?_
  refine aM ?_
  obtain ⟨v1, hv1, h⟩:=zn h
  obtain ⟨v2, hv2, h⟩:=zn h
  obtain ⟨v3, hv3, h⟩:=zn h
  refine yx hn 1 ?_
  refine ys 0 ⟨lk call202 (Ah _ _ hv1)⟩ ?_
  refine yS (.arr 222 (map (int .u32) ((List.replicate 16 (0:Int))))) 0 ⟨oA (eN _ Gl)⟩ ?_
  refine yk [7] [13] ?_
  refine yt (7,.arr 222 (map (int .u32) v1)) 0 ⟨eU _ _ _ _ (Gs.trans (congrArg some (dV hv3))) rfl rfl (jT (fun _=>rfl) _) ((dV (f:=int .u32) hv2).symm.trans (dV (f:=int .u32) hv3))⟩ ?_
  refine dv [0,1,7] ?_
  refine aM ?_
  obtain ⟨v4, hv4, h⟩:=zn h
  obtain ⟨v5, hv5, h⟩:=zn h
  refine yx hn 1 ?_
  refine ys 0 ⟨lB (wg hv4)⟩ ?_
  refine ys 1 ⟨lb hv5⟩ ?_
  refine dv [0,7,8] ?_
  refine cF hn 2 [0,7,8,9] ?_
  refine aM ?_
  refine cF hn 3 [7,8,9,18,19,20] ?_
  refine dx h (fun ((s25,s26):Int×Int)=>[(7,.arr 222 (map (int .u32) v1)),(8,.v (.int .u32 v5)),(9,.v (.int .u32 s25)),(18,fb b),(19,vi (b.length:Int)),(20,vi s26)]) (fun (s28:Int)=>[(8,.v (.int .u32 v5)),(9,.v (.int .u32 s28))]) ?_ ?_
  ·rintro s28 h
   refine bb (aM ?_)
   obtain ⟨v36, hv36, h⟩:=zn h
   obtain ⟨v37, hv37, h⟩:=zn h
   refine yx hn 2 ?_
   refine ys 0 ⟨lb hv36⟩ ?_
   refine ys 1 ⟨lv hv37⟩ ?_
   refine dv [6] ?_
   refine bO ?_
   obtain rfl:=zi h
   exact bP hio rfl (.tmp _ _ .nil) rfl rfl
  ·rintro u29 hl30 hr31 ⟨s25, s26⟩ rr34 h ho32
   refine cF hn 1 [7,8,9,18,19,20,21] ?_
   refine aM ?_
   refine bL _ rfl (fun hb35 => ?_) (fun hb35 => ?_)
   ·have h:=bT hb35 h
    refine bU ?_
    refine bb (aM ?_)
    refine cA ?_
    refine aM ?_
    obtain ⟨v7, hv7, h⟩:=zn h
    obtain ⟨v8, hv8, h⟩:=zn h
    refine yx hn 0 ?_
    refine ys 0 ⟨li hv7⟩ ?_
    refine ys 1 ⟨ll hv8⟩ ?_
    refine dv [7,8,9,18,19,20,11] ?_
    refine aM ?_
    obtain ⟨v9, hv9, h⟩:=zn h
    obtain ⟨v10, hv10, h⟩:=zn h
    refine yx hn 2 ?_
    refine ys 0 ⟨lv hv9⟩ ?_
    refine ys 0 ⟨lb hv10⟩ ?_
    refine yw [9] 1 ?_
    refine dv [7,8,18,19,20,9] ?_
    refine aM ?_
    obtain ⟨v11, hv11, h⟩:=zn h
    obtain ⟨v12, hv12, h⟩:=zn h
    obtain ⟨v13, hv13, h⟩:=zn h
    obtain ⟨v14, hv14, h⟩:=zn h
    obtain ⟨v15, hv15, h⟩:=zn h
    refine yx hn 1 ?_
    refine ys 1 ⟨lB (rk hv11)⟩ ?_
    refine ys 0 ⟨lB (oH hv12)⟩ ?_
    refine yS (.ptr 7 v13) 0 ⟨fK _ _ _ _ 16 7 _ underlying222 mc rfl rfl (dR hv13).1 (dR hv13).2 (by decide)⟩ ?_
    refine yS (.v (.int .u32 v14)) 0 ⟨fk _ _ _ _ _ _ underlying106 rfl rfl rfl (gr hv14)⟩ ?_
    refine ys 0 ⟨lb hv15⟩ ?_
    refine yw [9] 1 ?_
    refine dv [7,8,18,19,20,9] ?_
    obtain ⟨v16, hv16, h⟩:=zn h
    obtain ⟨v17, hv17, h⟩:=zn h
    obtain ⟨v18, hv18, h⟩:=zn h
    obtain ⟨v19, hv19, h⟩:=zn h
    obtain ⟨v20, hv20, h⟩:=zn h
    refine yx hn 1 ?_
    refine ys 1 ⟨lB (rk hv16)⟩ ?_
    refine ys 0 ⟨lB (oH hv17)⟩ ?_
    refine yS (.ptr 7 v18) 0 ⟨fK _ _ _ _ 16 7 _ underlying222 mc rfl rfl (dR hv18).1 (dR hv18).2 (by decide)⟩ ?_
    refine yS (.v (.int .u32 v19)) 0 ⟨fk _ _ _ _ _ _ underlying106 rfl rfl rfl (gr hv19)⟩ ?_
    refine ys 0 ⟨lb hv20⟩ ?_
    refine yw [9] 1 ?_
    refine ye [7,8,18,19,20,9] ?_
    refine cG ?_
    refine bb ?_
    obtain ⟨v21, hv21, h⟩:=zn h
    refine yx hn 0 ?_
    refine ys 0 ⟨lb hv21⟩ ?_
    refine yw [20] 1 ?_
    refine ye [7,8,18,19,9,20] ?_
    refine bG [0,1,4,2,3,5] (by kernel_rfl) (es':=[(_,_),(_,_),(_,_),(_,_),(_,_),(_,_)]) rfl ?_
    exact dM _ (zi h).symm rfl
   ·have h:=bQ hb35 h
    refine dK ?_
    refine cd ?_
    refine cd ?_
    refine dL ?_
    refine bG [1,2] (by kernel_rfl) (es':=[(_,_),(_,_)]) rfl ?_
    exact hl30 _ (ho32 _ (zi h).symm).symm
theorem CE (b:(List Int)) (r:Int) (h:Sh.vO b=some r):eD Tryz.prog 153 [.fl .shr 1 (map (int .u8) b)] (.v (.int .i64 r)):=by
  unfold Sh.vO at h
  refine yO 5 func153 fun g0 hn hio => ?_
  refine cF hn 1 [0] ?_
  refine aM ?_
  obtain ⟨v1, hv1, h⟩:=zn h
  refine yx hn 1 ?_
  refine ys 1 ⟨lk call182 (Eb _ _ _ _ hv1)⟩ ?_
  refine dv [2] ?_
  refine bO ?_
  obtain rfl:=zi h
  exact bP hio rfl (.tmp _ _ .nil) rfl rfl
theorem xm (mx:Int×Nat×Value) (b:ib) (r:((List Int)×Int)) (h:Sh.rv b=some r):lX Tryz.prog (GL mx) 130 [.agg [.v (.int .i64 b.Origin), .v (.int .i64 b.Number), .fr .shr true 8 (flatten (map dw.ienc b.Mails))]] (.tup [.mkr 5 (map (int .u8) r.1), .v (.int .i64 r.2)]):=by
  unfold Sh.rv at h
  refine yG 50 func130 fun g0 hn hio => ?_
  refine cF hn 3 [50,1] ?_
  refine aM ?_
  refine aM ?_
  obtain ⟨v1, hv1, h⟩:=zn h
  refine yx hn 1 ?_
  refine ys 1 ⟨lg call151 (xo _ _ _ hv1) 50⟩ ?_
  refine dv [50,1,4] ?_
  refine cF hn 2 [50,1,4,13] ?_
  refine bL _ rfl (fun hb46 => ?_) (fun hb46 => ?_)
  ·have h:=bT hb46 h
   refine cF hn 3 [50,2,3] ?_
   refine bO ?_
   refine bG [1,2] (by kernel_rfl) (es':=[(_,_),(_,_)]) rfl ?_
   refine fe (fs:=[(2,.mkr 5 (map (int .u8) [])),(3,vi v1)]) (.sub _ (kv 5) rfl (.same _ .nil)) ?_
   refine bw ?_
   obtain rfl:=zi h
   exact bP hio rfl (.tmp _ _ (.tmp _ _ .nil)) rfl rfl
  ·have h:=bQ hb46 h
   refine bU ?_
   refine bb (aM ?_)
   obtain ⟨v3, hv3, h⟩:=zn h
   refine yx hn 2 ?_
   refine ys 0 ⟨lg call152 (tP _ _ _ hv3) 50⟩ ?_
   refine ya 0 ?_
   refine dv [50,1,5] ?_
   refine cF hn 1 [50,1,5,6] ?_
   refine aM ?_
   refine aM ?_
   obtain ⟨v4, hv4, h⟩:=zn h
   refine wb [[1],[18,1],[1],[20,1],[1],[22,1],[23],[5],[25,5],[5]] ?_
   refine wN [27,5] ?_
   refine wo [] ⟨lk call153 (CE _ _ hv4)⟩ ?_
   refine wN [19,21,24,26,28] ?_
   refine wS (.fl (.own 3) 1 (map (int .i64) [b.Origin,b.Number,(b.Mails.length:Int),(v3.length:Int),v4])) [[29],[]] ⟨dJ _ _ 1 (.int .i64 0) (map (int .i64) [b.Origin,b.Number,(b.Mails.length:Int),(v3.length:Int),v4]) [(0,.int .i64 b.Origin),(1,.int .i64 b.Number),(2,.int .i64 (b.Mails.length:Int)),(3,.int .i64 (v3.length:Int)),(4,.int .i64 v4)] underlying31 MC OY (fun _ V w o a hv hes=>by have e0:=eA hv hes (x := .tmp 19) rfl; have e1:=eA hv hes (x := .tmp 21) rfl; have e2:=eA hv hes (x := .tmp 24) rfl; have e3:=eA hv hes (x := .tmp 26) rfl; have e4:=eA hv hes (x := .tmp 28) rfl; simp only [List.map_toArray,List.map_cons,List.map_nil,e0,e1,e2,e3,e4]; try rfl) (fT (by simp [Instr.fill,Value.cells]; rfl) (by simp [List.range,List.range.loop] <;> rfl)) (by simp [Value.oneCell']) rfl (by decide) (by decide) (by decide)⟩ ?_
   refine Af hn [50,5,6,29,30,31] ?_
   refine dx h (fun ((s51,s52):ByteArray×Int)=>[(50,.glob (GL mx)),(5,.fl (.own 5) 1 (map (int .u8) v3)),(6,vs s51),(29,.fl (.own 3) 1 (map (int .i64) [b.Origin,b.Number,(b.Mails.length:Int),(v3.length:Int),v4])),(30,vi ([b.Origin,b.Number,(b.Mails.length:Int),(v3.length:Int),v4].length:Int)),(31,vi s52)]) (fun (s54:ByteArray)=>[(50,.glob (GL mx)),(5,.fl (.own 5) 1 (map (int .u8) v3)),(6,vs s54)]) ?_ ?_
   ·rintro s54 h
    refine bb (aM ?_)
    obtain ⟨v26, hv26, h⟩:=zn h
    obtain ⟨v27, hv27, h⟩:=zn h
    obtain ⟨v44, hv44, h⟩:=zn h
    refine yx hn 1 ?_
    refine ys 0 ⟨lB (ie hv26)⟩ ?_
    refine ys 0 ⟨lU hv27⟩ ?_
    refine ym 0 ?_
    refine yk [43] [44] ?_
    refine tg (43,.any) (45,.mkr 5 (map (int .u8) v44)) 0 ⟨Bo _ _ _ _ _ oz rfl rfl rfl rfl hv44 rfl⟩ ?_
    refine ya 0 ?_
    refine dv [50,9] ?_
    refine aM ?_
    refine lp hn 1 ?_
    refine yS (vi (v44.length:Int)) 1 ⟨sV _ _ _ underlying28 rfl (List.length_map _)⟩ ?_
    refine dv [50,9,48] ?_
    refine bL _ rfl (fun hb62 => ?_) (fun hb62 => ?_)
    ·have h:=bT hb62 h
     refine cF hn 2 [50,2,3] ?_
     refine bO ?_
     refine bG [1,2] (by kernel_rfl) (es':=[(_,_),(_,_)]) rfl ?_
     refine fe (fs:=[(2,.mkr 5 (map (int .u8) [])),(3,vi 2)]) (.sub _ (kv 5) rfl (.same _ .nil)) ?_
     refine bw ?_
     obtain rfl:=zi h
     exact bP hio rfl (.tmp _ _ (.tmp _ _ .nil)) rfl rfl
    ·have h:=bQ hb62 h
     refine bU ?_
     refine bb ?_
     refine lp hn 0 ?_
     refine ym 0 ?_
     refine ya 1 ?_
     refine dv [50,2,3] ?_
     refine bO ?_
     refine bG [1,2] (by kernel_rfl) (es':=[(_,_),(_,_)]) rfl ?_
     obtain rfl:=zi h
     exact bP hio rfl (.tmp _ _ (.tmp _ _ .nil)) rfl rfl
   ·rintro u55 hl56 hr57 ⟨s51, s52⟩ rr60 h ho58
    refine cF hn 1 [50,5,6,29,30,31,32] ?_
    refine aM ?_
    refine bL _ rfl (fun hb61 => ?_) (fun hb61 => ?_)
    ·have h:=bT hb61 h
     refine bU ?_
     refine bb (aM ?_)
     refine cA ?_
     refine aM ?_
     obtain ⟨v6, hv6, h⟩:=zn h
     obtain ⟨v7, hv7, h⟩:=zn h
     refine yx hn 0 ?_
     refine ys 0 ⟨li hv6⟩ ?_
     refine ys 1 ⟨ll hv7⟩ ?_
     refine dv [50,5,6,29,30,31,8] ?_
     obtain ⟨v8, hv8, h⟩:=zn h
     obtain ⟨v9, hv9, h⟩:=zn h
     obtain ⟨v10, hv10, h⟩:=zn h
     refine yx hn 2 ?_
     refine ys 0 ⟨lg call150 (rD _ _ _ hv8) 50⟩ ?_
     refine ys 0 ⟨lB (ie hv9)⟩ ?_
     refine ys 0 ⟨lB (ie hv10)⟩ ?_
     refine yw [6] 1 ?_
     refine ye [50,5,29,30,31,6] ?_
     refine cG ?_
     refine bb ?_
     obtain ⟨v11, hv11, h⟩:=zn h
     refine yx hn 0 ?_
     refine ys 0 ⟨lb hv11⟩ ?_
     refine yw [31] 1 ?_
     refine ye [50,5,29,30,6,31] ?_
     refine bG [0,1,4,2,3,5] (by kernel_rfl) (es':=[(_,_),(_,_),(_,_),(_,_),(_,_),(_,_)]) rfl ?_
     exact dM _ (zi h).symm rfl
    ·have h:=bQ hb61 h
     refine dK ?_
     refine cd ?_
     refine cd ?_
     refine dL ?_
     refine bG [0,1,2] (by kernel_rfl) (es':=[(_,_),(_,_),(_,_)]) rfl ?_
     exact hl56 _ (ho58 _ (zi h).symm).symm
theorem Cu (mx:Int×Nat×Value) (m:dw) (r:Bool) (h:Sh.vS m=some r):lX Tryz.prog (GL mx) 101 [.agg [.v (.bool m.From.Null), .v (.string m.From.Local), .v (.string m.From.Domain), .fl .shr 3 (flatten (map bu.enc m.To)), .fl .shr 1 (map (int .u8) m.Body), .v (.bool m.Quiet), .v (.string m.Helo), .v (.int .i64 m.At)]] (.v (.bool r)):=by
  unfold Sh.vS at h
  refine yG 14 func101 fun g0 hn hio => ?_
  refine cF hn 2 [14,1] ?_
  refine aM ?_
  obtain ⟨v1, hv1, h⟩:=zn h
  refine yx hn 1 ?_
  refine yS (.fr (.own 53) true 8 (flatten (map dw.ienc [(dw.mk (bu.mk m.From.Null m.From.Local m.From.Domain) m.To m.Body m.Quiet m.Helo m.At)]))) 0 ⟨qY _ _ _ 8 (.agg #[.bool false,.string ByteArray.empty,.string ByteArray.empty,.slice none 0 0,.slice none 0 0,.bool false,.string ByteArray.empty,.int .i64 0]) true _ _ underlying60 JA Jy rfl rfl (.cons (.v _) (.cons (.v _) (.cons (.v _) (.cons (.shr _ _ rfl rfl) (.cons (.shr _ _ rfl rfl) (.cons (.v _) (.cons (.v _) (.cons (.v _) (.nil))))))))) rfl (by decide) (by decide)⟩ ?_
  refine yk [7] [] ?_
  refine yt (8,.agg [vi 0,vi 65535,.fr (.own 53) true 8 (flatten (map dw.ienc [(dw.mk (bu.mk m.From.Null m.From.Local m.From.Domain) m.To m.Body m.Quiet m.Helo m.At)]))]) 0 ⟨dQ _ _ _ _ [1,1,1] _ _ underlying62 Pc (Oy _ underlying62) (.copy _ (.take _ _ rE.nil)) rfl rfl rfl⟩ ?_
  refine ys 0 ⟨lg call130 (xm _ _ _ hv1) 14⟩ ?_
  refine ym 0 ?_
  refine Oc 1 ?_
  refine ya 1 ?_
  refine dv [14,4] ?_
  refine cF hn 3 [14,2] ?_
  refine bO ?_
  refine bG [1] (by kernel_rfl) (es':=[(_,_)]) rfl ?_
  obtain rfl:=zi h
  exact bP hio rfl (.tmp _ _ .nil) rfl rfl
theorem qP (mx:Int×Nat×Value) (s:aa) (body:(List Int)) (r:(cc×aa)) (h:Sh.kQ s body=some r):rW Tryz.prog (GL mx) 86 [.box 80 (aa.b s), .fl .shr 1 (map (int .u8) body)] [.box 80 (aa.b r.2)] (.agg [.v (.int .i64 r.1.Reply.Code), .fl .ro 1 (map Value.string r.1.Reply.Lines), .v (.bool r.1.Has), .v (.bool r.1.Mail.From.Null), .v (.string r.1.Mail.From.Local), .v (.string r.1.Mail.From.Domain), .fl .ro 3 (flatten (map bu.enc r.1.Mail.To)), .fl .ro 1 (map (int .u8) r.1.Mail.Body), .v (.bool r.1.Mail.Quiet), .v (.string r.1.Mail.Helo), .v (.int .i64 r.1.Mail.At), .v (.bool r.1.Ask)]):=by
  unfold Sh.kQ at h
  refine JO 81 func86 fun args0 hargs0 g0 hn hio => ?_
  refine lp hn 0 ?_
  refine yS (.box 55 [vi 0,vz,vb false,vb false,vs z0,vs z0,vz,vz,vb false,vs z0,vi 0,vb false]) 0 ⟨oA (dh _ _ Au)⟩ ?_
  refine dv [0,1,81,4,0] ?_
  refine aM ?_
  obtain ⟨v1, hv1, h⟩:=zn h
  obtain ⟨v2, hv2, h⟩:=zn h
  obtain ⟨v3, hv3, h⟩:=zn h
  refine sY (by kernel_rfl) hn (El:=(_::_::_::_::_::(9,fb body)::(10,.same (.slot 0))::(11,.ptr 0 0)::(12,.ptr 0 0)::(13,.ptr 0 1)::(14,vs s.Gate.Helo)::(15,.same (.slot 0))::(16,.same (.slot 0))::(17,.ptr 0 0)::(18,.ptr 0 17)::(19,vi s.site)::(20,.ptr 0 0)::(21,.ptr 0 10)::(22,.ptr 0 10)::(23,.ptr 0 (10+v1 * 1))::(24,vs v2)::(25,.same (.slot 0))::(26,.ptr 0 0)::(27,.ptr 0 18)::(28,vi s.at_)::(29,.tup [.mkr 5 (map (int .u8) v3.1),vi v3.2])::(8,.tup [.mkr 5 (map (int .u8) v3.1),.any])::(8,.tup [.any,vi v3.2])::(30,.mkr 5 (map (int .u8) v3.1))::(8,.tup [.any,.any])::(31,vi v3.2)::(5,.mkr 5 (map (int .u8) v3.1))::(6,vi v3.2)::[])) (init:=[0,1,2,3,4]) (fin:=[0,1,2,3,31,32,4]) (sps:=(zq [1] 5 9::zq [] 6 10::zq [6,0] 7 11::zq [7,0] 8 12::zq [8,0] 9 13::zq [9,0] 10 14::zq [] 11 15::zq [] 12 16::zq [12,0] 13 17::zq [13,0] 14 18::zq [14,0] 15 19::zq [11,0] 16 20::zq [16,0] 17 21::zq [17,0] 18 22::zq [18,0,15] 19 23::zq [19,0] 20 24::zq [] 21 25::zq [21,0] 22 26::zq [22,0] 23 27::zq [23,0] 24 28::zq [5,10,20,24,2] 25 29::⟨[],[25],[26,27],[(.slot 8)]⟩::⟨[],[26],[29,28],[(.slot 30)]⟩::zq [27] 30 31::⟨[],[28],[31],[(.slot 5)]⟩::zq [30] 32 6::[])) (es':=[(_,_),(_,_),(_,_),(_,_),(5,.mkr 5 (map (int .u8) v3.1)),(6,vi v3.2),(_,_)]) (by kernel_rfl) rfl rfl ⟨z1 rfl,zp rfl (gp _ _ _ rfl),zp rfl (jl _ _ _ 0 rfl rfl (by decide)),zp rfl (oF underlying80 rfl uu),zp rfl (oF underlying30 rfl Am),zp rfl (oL underlying9 rfl),zp rfl (gp _ _ _ rfl),zp rfl (gp _ _ _ rfl),zp rfl (jl _ _ _ 0 rfl rfl (by decide)),zp rfl (oF underlying80 rfl MC),zp rfl (oL underlying3 rfl),zp rfl (jl _ _ _ 0 rfl rfl (by decide)),zp rfl (oF underlying80 rfl Nf),zp rfl (oF underlying24 rfl Pi),zp rfl (Bp _ _ _ _ 2 0 10 _ underlying22 Am rfl rfl (dR hv1).1 (dR hv1).2 (by decide)),zp rfl (wy _ _ _ 0 10 v1 2 ([(s.config.Domains.getD 0 z0),(s.config.Domains.getD 1 z0)]:List ByteArray) _ underlying9 rfl rfl rfl rfl hv2),zp rfl (gp _ _ _ rfl),zp rfl (jl _ _ _ 0 rfl rfl (by decide)),zp rfl (oF underlying80 rfl MC),zp rfl (oL underlying3 rfl),zp rfl (uW _ _ 81 100 _ _ rfl call100 rfl rfl (fun _ h=>h) (Eh mx body s.Gate.Helo v2 s.at_ _ hv3) rfl rfl),zp rfl (cM.split (A:=[]) 8 0 _ _ _ (mS _ _ _ _ rfl) (zl rfl) rfl rfl),zp rfl (jD _ _ _ _ _ rfl (zl rfl) rfl rfl (by decide) rfl),zp rfl (oE rfl),zp rfl (pF _ _ _ _ rfl),z2 rfl,zz⟩ ?_
  refine bb (aM ?_)
  refine Ga 4 hio (es':=[(0, .box 80 (aa.b s)), (1, fb body), (81, .glob (GL mx)), (4, .box 55 [.v (.int .i64 0),vz,.v (.bool false),.v (.bool false),.v (.string (⟨#[]⟩:ByteArray)),.v (.string (⟨#[]⟩:ByteArray)),vz,vz,.v (.bool false),.v (.string (⟨#[]⟩:ByteArray)),.v (.int .i64 0),.v (.bool false)]), (5, .fl .ro 1 (map (int .u8) v3.1)), (6, .v (.int .i64 v3.2)), (0, .v (List.getD args0 0 undef))]) rfl ?_
  obtain ⟨v4, hv4, h⟩:=zn h
  refine wb [[],[32,0],[33,0],[34,0],[35,0],[],[37,0],[38,0],[39,0],[40,0]] ?_
  refine wN [41,0] ?_
  refine wo [[5]] ⟨lk call59 (mI _ _ hv4)⟩ ?_
  refine wK [42] [36,43] ?_
  refine wt [(44,.agg [vb s.Gate.From.Null,vs s.Gate.From.Local,vs s.Gate.From.Domain,.fl (.own 26) 3 (flatten (map bu.enc v4)),.fl .ro 1 (map (int .u8) v3.1),vb false,vs z0,vi 0])] [] ⟨dQ _ _ _ _ [3,1,1,1,1,1] _ _ underlying53 Jy (Pw _ underlying53) (.copy _ (.take _ _ (.copy _ rE.nil))) rfl rfl rfl⟩ ?_
  refine wN [] ?_
  refine wS (.box 53 [vb false,vs z0,vs z0,vz,vz,vb false,vs z0,vi 0]) [] ⟨oA (dh _ _ Jy)⟩ ?_
  refine wK [44,7] [] ?_
  refine wt [(7,.box 53 [vb s.Gate.From.Null,vs s.Gate.From.Local,vs s.Gate.From.Domain,.fl (.own 26) 3 (flatten (map bu.enc v4)),.fl .ro 1 (map (int .u8) v3.1),vb false,vs z0,vi 0])] [] ⟨cO _ _ _ _ _ _ _ _ JA rfl rfl rfl (zl rfl) rfl rfl⟩ ?_
  refine Af hn [0,1,81,4,6,7,0] ?_
  refine aM ?_
  refine aM ?_
  refine ce h (fun (s13:Bool)=>[(0,.box 80 (aa.b s)),(81,.glob (GL mx)),(4,.box 55 [vi 0,vz,vb false,vb false,vs z0,vs z0,vz,vz,vb false,vs z0,vi 0,vb false]),(7,.box 53 [vb s.Gate.From.Null,vs s.Gate.From.Local,vs s.Gate.From.Domain,.fl (.own 26) 3 (flatten (map bu.enc v4)),.fl .ro 1 (map (int .u8) v3.1),vb false,vs z0,vi 0]),(56,vb s13),(0,.v (List.getD args0 0 undef))]) ?_ ?_
  ·rintro s13 h
   refine bb ?_
   refine bL _ rfl (fun hb17 => ?_) (fun hb17 => ?_)
   ·have h:=bT hb17 h
    refine aM ?_
    obtain ⟨v11, hv11, h⟩:=zn h
    refine yx hn 1 ?_
    refine yQ call85 (jp _ _ _ hv11) 0 [57] 0 ?_
    refine yk [58] [] ?_
    refine yt (59,.agg [vi v11.1.Code,.fl (.own 9) 1 (map Value.string v11.1.Lines),vb false,vb false,vs z0,vs z0,vz,vz,vb false,vs z0,vi 0,vb false]) 0 ⟨dQ _ _ _ _ [2,1,8,1] _ _ underlying55 Au (IB _ underlying55) (.take _ _ rE.nil) rfl rfl rfl⟩ ?_
    refine yk [59,4] [] ?_
    refine yt (4,.box 55 [vi v11.1.Code,.fl (.own 9) 1 (map Value.string v11.1.Lines),vb false,vb false,vs z0,vs z0,vz,vz,vb false,vs z0,vi 0,vb false]) 0 ⟨cO _ _ _ _ _ _ _ _ Ei rfl rfl rfl (zl rfl) rfl rfl⟩ ?_
    refine dv [0,81,4,0] ?_
    refine bO ?_
    refine bG [2,0,3] (by kernel_rfl) (es':=[(_,_),(_,_),(_,_)]) rfl ?_
    refine fe (fs:=[(4,.box 55 [vi v11.1.Code,.fl (.own 9) 1 (map Value.string v11.1.Lines),vb false,vb false,vs z0,vs z0,.fl (.own 26) 3 (flatten (map bu.enc [])),.fl (.own 5) 1 (map (int .u8) []),vb false,vs z0,vi 0,vb false]),(0,.box 80 (aa.b v11.2)),(0,.v (List.getD args0 0 undef))]) (.box _ _ (bq (bI _) (bq (bI _) (bq (bI _) (bq (bI _) (bq (bI _) (bq (bI _) (bq (ek 26 3) (bq (ek 5 1) (bq (bI _) (bq (bI _) (bq (bI _) (bq (bI _) (dO))))))))))))) rfl (.same _ (.same _ .nil))) ?_
    refine xu 0 hio (es':=[(4, .box 55 [.v (.int .i64 v11.1.Code),.fl .ro 1 (map Value.string v11.1.Lines),.v (.bool false),.v (.bool false),.v (.string (⟨#[]⟩:ByteArray)),.v (.string (⟨#[]⟩:ByteArray)),.fl .ro 3 (flatten (map bu.enc [])),.fl .ro 1 (map (int .u8) []),.v (.bool false),.v (.string (⟨#[]⟩:ByteArray)),.v (.int .i64 0),.v (.bool false)]), (0, .box 80 (aa.b v11.2)), (0, .v (List.getD args0 0 undef))]) rfl ?_
    refine bw ?_
    obtain rfl:=zi h
    exact dS (es:=[(4, .box 55 [.v (.int .i64 v11.1.Code),.fl .ro 1 (map Value.string v11.1.Lines),.v (.bool false),.v (.bool false),.v (.string (⟨#[]⟩:ByteArray)),.v (.string (⟨#[]⟩:ByteArray)),.fl .ro 3 (flatten (map bu.enc [])),.fl .ro 1 (map (int .u8) []),.v (.bool false),.v (.string (⟨#[]⟩:ByteArray)),.v (.int .i64 0),.v (.bool false)])]) (posts:=[.box 80 (aa.b v11.2)]) hio rfl rfl (.cellA _ _ _ _ underlying55 rfl Ei .nil) rfl rfl hargs0 rfl
   ·have h:=bQ hb17 h
    refine bU ?_
    refine bb (aM ?_)
    refine wb [[],[60,0],[61,0],[62,0],[63,0],[],[65,0],[66,0],[67,0],[68,0],[],[70,0],[71,0],[72,0],[7]] ?_
    refine wK [7] [74,64] ?_
    refine wt [(7,.box 53 [vb s.Gate.From.Null,vs s.Gate.From.Local,vs s.Gate.From.Domain,.fl (.own 26) 3 (flatten (map bu.enc v4)),.fl .ro 1 (map (int .u8) v3.1),vb s.Gate.Quiet,vs z0,vi 0])] [[7]] ⟨iJ _ _ _ _ _ _ _ _ PK rfl rfl rfl rfl (zl rfl) rfl rfl⟩ ?_
    refine wK [7] [75,69] ?_
    refine wt [(7,.box 53 [vb s.Gate.From.Null,vs s.Gate.From.Local,vs s.Gate.From.Domain,.fl (.own 26) 3 (flatten (map bu.enc v4)),.fl .ro 1 (map (int .u8) v3.1),vb s.Gate.Quiet,vs s.Gate.Helo,vi 0])] [[7]] ⟨iJ _ _ _ _ _ _ _ _ Am rfl rfl rfl rfl (zl rfl) rfl rfl⟩ ?_
    refine wK [7] [76,73] ?_
    refine wt [(7,.box 53 [vb s.Gate.From.Null,vs s.Gate.From.Local,vs s.Gate.From.Domain,.fl (.own 26) 3 (flatten (map bu.enc v4)),.fl .ro 1 (map (int .u8) v3.1),vb s.Gate.Quiet,vs s.Gate.Helo,vi s.at_])] [] ⟨iJ _ _ _ _ _ _ _ _ MC rfl rfl rfl rfl (zl rfl) rfl rfl⟩ ?_
    refine Af hn [0,81,4,7,0] ?_
    refine aM ?_
    obtain ⟨v12, hv12, h⟩:=zn h
    refine wb [[0]] ?_
    refine wK [0] [77] ?_
    refine wt [(0,.box 80 (aa.b v12.2)),(78,.agg [vi v12.1.Code,.fl (.own 9) 1 (map Value.string v12.1.Lines)])] [] ⟨xP _ _ _ _ 78 85 [.tmp 77] [_] _ _ _ rfl call85 rfl rfl rfl (jp ((aa.r s)) 250 _ hv12) (zl rfl) rfl rfl rfl rfl rfl rfl rfl rfl⟩ ?_
    refine wK [7] [] ?_
    refine wt [(79,.agg [vb s.Gate.From.Null,vs s.Gate.From.Local,vs s.Gate.From.Domain,.fl (.own 26) 3 (flatten (map bu.enc v4)),.fl .ro 1 (map (int .u8) v3.1),vb s.Gate.Quiet,vs s.Gate.Helo,vi s.at_])] [] ⟨tF _ _ _ _ underlying53 rfl JA rfl rfl⟩ ?_
    refine wK [78,79] [] ?_
    refine wt [(80,.agg [vi v12.1.Code,.fl (.own 9) 1 (map Value.string v12.1.Lines),vb true,vb s.Gate.From.Null,vs s.Gate.From.Local,vs s.Gate.From.Domain,.fl (.own 26) 3 (flatten (map bu.enc v4)),.fl .ro 1 (map (int .u8) v3.1),vb s.Gate.Quiet,vs s.Gate.Helo,vi s.at_,vb false])] [] ⟨dQ _ _ _ _ [2,1,8,1] _ _ underlying55 Au (IB _ underlying55) (.take _ _ (.copy _ (.take _ _ rE.nil))) rfl rfl rfl⟩ ?_
    refine wK [80,4] [] ?_
    refine wt [(4,.box 55 [vi v12.1.Code,.fl (.own 9) 1 (map Value.string v12.1.Lines),vb true,vb s.Gate.From.Null,vs s.Gate.From.Local,vs s.Gate.From.Domain,.fl (.own 26) 3 (flatten (map bu.enc v4)),.fl .ro 1 (map (int .u8) v3.1),vb s.Gate.Quiet,vs s.Gate.Helo,vi s.at_,vb false])] [] ⟨cO _ _ _ _ _ _ _ _ Ei rfl rfl rfl (zl rfl) rfl rfl⟩ ?_
    refine Af hn [0,81,4,0] ?_
    refine bO ?_
    refine bG [2,0,3] (by kernel_rfl) (es':=[(_,_),(_,_),(_,_)]) rfl ?_
    refine xu 0 hio (es':=[(4, .box 55 [.v (.int .i64 v12.1.Code),.fl .ro 1 (map Value.string v12.1.Lines),.v (.bool true),.v (.bool s.Gate.From.Null),.v (.string s.Gate.From.Local),.v (.string s.Gate.From.Domain),.fl .ro 3 (flatten (map bu.enc v4)),.fl .ro 1 (map (int .u8) v3.1),.v (.bool s.Gate.Quiet),.v (.string s.Gate.Helo),.v (.int .i64 s.at_),.v (.bool false)]), (0, .box 80 (aa.b v12.2)), (0, .v (List.getD args0 0 undef))]) rfl ?_
    obtain rfl:=zi h
    exact dS (es:=[(4, .box 55 [.v (.int .i64 v12.1.Code),.fl .ro 1 (map Value.string v12.1.Lines),.v (.bool true),.v (.bool s.Gate.From.Null),.v (.string s.Gate.From.Local),.v (.string s.Gate.From.Domain),.fl .ro 3 (flatten (map bu.enc v4)),.fl .ro 1 (map (int .u8) v3.1),.v (.bool s.Gate.Quiet),.v (.string s.Gate.Helo),.v (.int .i64 s.at_),.v (.bool false)])]) (posts:=[.box 80 (aa.b v12.2)]) hio rfl rfl (.cellA _ _ _ _ underlying55 rfl Ei .nil) rfl rfl hargs0 rfl
  ·intro u14 h hl15 hr16
   refine bJ h (fun hg3_3 h => ?_) (fun hg3_3 h => ?_)
   ·refine yx hn 4 ?_
    refine yd hg3_3 8 ?_
    refine ye [0,81,4,7,56,0] ?_
    exact hl15 _ (zi h).symm
   ·refine bJ h (fun hg3_7 h => ?_) (fun hg3_7 h => ?_)
    ·refine yx hn 4 ?_
     refine yd hg3_3 4 ?_
     refine yd hg3_7 4 ?_
     refine ye [0,81,4,7,56,0] ?_
     exact hl15 _ (zi h).symm
    ·obtain ⟨v5, hv5, h⟩:=zn h
     refine yx hn 4 ?_
     refine yd hg3_3 4 ?_
     refine yd hg3_7 1 ?_
     refine ys 2 ⟨lg call101 (Cu _ _ _ hv5) 81⟩ ?_
     refine ye [0,81,4,7,56,0] ?_
     exact hl15 _ (zi h).symm
theorem zV (mx:Int×Nat×Value) (b:(List Int)) (r:(List (List Int))) (h:Sh.ux b=some r):lX Tryz.prog (GL mx) 102 [.fl .shr 1 (map (int .u8) b)] (.fr .ro false 1 (flatten (map Row_int_u8.ienc r))):=by
  unfold Sh.ux at h
  refine yG 14 func102 fun g0 hn hio => ?_
  refine cF hn 1 [0,14] ?_
  refine lp hn 0 ?_
  refine yS (.box 137 [vz]) 0 ⟨oA (dh _ _ NH)⟩ ?_
  refine dv [0,14,3] ?_
  refine aM ?_
  refine aM ?_
  obtain ⟨v1, hv1, h⟩:=zn h
  refine yx hn 1 ?_
  refine yk [] [5] ?_
  refine yt (6,.cloB 123 [.box 28 [fb v1]]) 0 ⟨ld _ _ 96 _ _ rfl call96 rfl rfl (kY b _ hv1) rfl⟩ ?_
  refine dv [14,3,6] ?_
  refine cA ?_
  refine nH [2,0,1] (by kernel_rfl) (es':=[(6,.cloB 123 [.box 28 [fb v1]]),(14,.glob (GL mx)),(3,.box 137 [vz])]) rfl ?_
  refine um (fs:=[(6,.cloB 123 [.box 28 [fb v1]]),(14,.glob (GL mx)),(3,.box 137 [.fr (.own 28) false 1 (flatten (map Row_int_u8.ienc []))])]) (.same _ (.same _ (.box _ _ (bq (rq 28 false 1) (dO)) rfl .nil))) ?_
  refine lY h 123 6 7 15 _ [14, 3] call123 (fun (s7:(List (List Int)))=>[(14, .glob (GL mx)), (3, .box 137 [.fr (.own 28) false 1 (flatten (map Row_int_u8.ienc s7))])]) (fun (():Unit)=>[]) (fun l J Y hY t t' h=>jC mx l J Y hY v1 t t' h) hn rfl (fun _=>rfl) (fun _=>rfl) (fun _=>rfl) rfl rfl (fun _=>⟨rfl, rfl⟩) rfl (lQ 14 rfl) ?_ ?_ ?_
  ·rintro kk g0 hn hio x s7 u h
   refine wD (es':=[(7,fb x),(14,.glob (GL mx)),(3,.box 137 [.fr (.own 28) false 1 (flatten (map Row_int_u8.ienc s7))]),(14,.v (kk.tm.getD 14 undef)),(3,.v (kk.tm.getD 3 undef)),(15,.inv kk.ready)]) rfl ?_
   refine yy hn 1 [14,3,15,4,14,3] ?_
   refine bG [0,1,3,4,5,2] (by kernel_rfl) (es':=[(14,.glob (GL mx)),(3,.box 137 [.fr (.own 28) false 1 (flatten (map Row_int_u8.ienc s7))]),(4,fb x),(14,.v (kk.tm.getD 14 undef)),(3,.v (kk.tm.getD 3 undef)),(15,.inv kk.ready)]) rfl ?_
   refine nK (es:=[(14,.glob (GL mx)),(3,.box 137 [.fr (.own 28) false 1 (flatten (map Row_int_u8.ienc s7))]),(4,fb x),(14,.v (kk.tm.getD 14 undef)),(3,.v (kk.tm.getD 3 undef))]) 15 rfl ?_
   refine cA ?_
   obtain ⟨v2, hv2, h⟩:=zn h
   obtain ⟨v3, hv3, h⟩:=zn h
   refine wb [[3],[4]] ?_
   refine wN [9] ?_
   refine wS (.fl .ro 1 (map (int .u8) v2)) [] ⟨cM.frzG 0 (up _ _ _ _ oz rfl rfl (kA _) hv2 (congrArg (map _) (uk hv2))) (zl rfl) rfl⟩ ?_
   refine wN [10] ?_
   refine wS (.fr (.own 28) false 1 (flatten (map Row_int_u8.ienc [v2]))) [] ⟨qY _ _ _ 1 (.slice none 0 0) false _ _ underlying137 pW Ky rfl rfl (.cons (.ro _ _ rfl) (.nil)) rfl (by decide) (by decide)⟩ ?_
   refine wK [3] [8,11] ?_
   refine wt [(3,.box 137 [.any]),(12,.fr (.own 28) false 1 (flatten (map Row_int_u8.ienc v3)))] [] ⟨mv _ 12 3 0 _ _ NB rfl rfl (zl rfl) rfl (jL Row_int_u8.ilen _) (jL Row_int_u8.ilen _) hv3 (tb (oo hv3)) (by decide) (by decide) (by decide) rfl rfl⟩ ?_
   refine wK [8,12,3] [] ?_
   refine wt [(3,.box 137 [.fr (.own 28) false 1 (flatten (map Row_int_u8.ienc v3))])] [] ⟨cM.drop [_] (cO _ _ _ _ _ _ _ _ Ns rfl rfl rfl (zl rfl) rfl rfl)⟩ ?_
   refine we hn [14,3,15,14,3] ?_
   refine cG ?_
   refine bG [0,1,3,4,2] (by kernel_rfl) (es':=[(_,_),(_,_),(_,_),(_,_),(_,_)]) rfl ?_
   obtain rfl:=zi h
   exact nZ 15 [14, 3] _ rfl rfl (by kernel_rfl)
  ·rintro D s7 h
   refine cG ?_
   refine bb (aM ?_)
   refine Dd 1 hio (es':=[(14, .glob (GL mx)), (3, .box 137 [.fr .ro false 1 (flatten (map Row_int_u8.ienc s7))])]) rfl ?_
   refine yy hn 2 [14,2] ?_
   refine bb (bO ?_)
   refine bG [1] (by kernel_rfl) (es':=[(_,_)]) rfl ?_
   obtain rfl:=zi h
   exact bP hio rfl (.tmp _ _ .nil) rfl rfl
  ·rintro D ⟨⟩ h
   cases h
theorem vB (mx:Int×Nat×Value) (b:(List Int)) (r:Int) (h:Sh.pZ b=some r):lX Tryz.prog (GL mx) 87 [.fl .shr 1 (map (int .u8) b)] (.v (.int .i64 r)):=by
  unfold Sh.pZ at h
  refine yG 23 func87 fun g0 hn hio => ?_
  refine cF hn 1 [0,23] ?_
  refine cF hn 1 [0,23,3] ?_
  refine aM ?_
  refine ce h (fun (s27:Int)=>[(23,.glob (GL mx)),(3,vi s27)]) ?_ ?_
  ·rintro s27 h
   refine bb ?_
   refine cF hn 2 [23,2] ?_
   refine bO ?_
   refine bG [1] (by kernel_rfl) (es':=[(_,_)]) rfl ?_
   obtain rfl:=zi h
   exact bP hio rfl (.tmp _ _ .nil) rfl rfl
  ·intro u28 h hl29 hr30
   refine aM ?_
   obtain ⟨v1, hv1, h⟩:=zn h
   refine yx hn 1 ?_
   refine ys 2 ⟨lg call102 (zV _ _ _ hv1) 23⟩ ?_
   refine dv [23,3,7,8,9] ?_
   refine dx h (fun ((s37,s38):Int×Int)=>[(23,.glob (GL mx)),(3,vi s37),(7,.fr .ro false 1 (flatten (map Row_int_u8.ienc v1))),(8,vi (v1.length:Int)),(9,vi s38)]) (fun (s41:Int)=>[(23,.glob (GL mx)),(3,vi s41)]) ?_ ?_
   ·rintro s41 h
    exact hl29 _ (zi h).symm
   ·rintro u42 hl43 hr44 ⟨s37, s38⟩ rr47 h ho45
    refine cF hn 1 [23,3,7,8,9,10] ?_
    refine aM ?_
    refine bL _ rfl (fun hb48 => ?_) (fun hb48 => ?_)
    ·have h:=bT hb48 h
     refine bU ?_
     refine bb (aM ?_)
     refine cA ?_
     refine aM ?_
     obtain ⟨v3, hv3, h⟩:=zn h
     obtain ⟨v4, hv4, h⟩:=zn h
     refine yx hn 0 ?_
     refine ys 0 ⟨lI hv3⟩ ?_
     refine yS (.fl .ro 1 (map (int .u8) v4)) 1 ⟨dp _ _ _ _ _ _ _ underlying28 rfl rfl rfl (Er Row_int_u8.ilen hv4 rfl) (.fl _ _ rfl)⟩ ?_
     refine dv [23,3,7,8,9,5] ?_
     refine aM ?_
     obtain ⟨v5, hv5, h⟩:=zn h
     obtain ⟨v6, hv6, h⟩:=zn h
     refine yx hn 3 ?_
     refine ys 0 ⟨lb hv5⟩ ?_
     refine ys 0 ⟨lb hv6⟩ ?_
     refine yw [3] 1 ?_
     refine dv [23,7,8,9,5,3] ?_
     refine aM ?_
     obtain ⟨v7, hv7, h⟩:=zn h
     refine yx hn 1 ?_
     refine ys 1 ⟨lS hv7⟩ ?_
     refine dv [23,7,8,9,3,20] ?_
     refine bL _ rfl (fun hb49 => ?_) (fun hb49 => ?_)
     ·have h:=bT hb49 h
      refine dK ?_
      refine EP (by decide) ?_
      refine cd ?_
      refine cd ?_
      refine dL ?_
      refine bG [0,4] (by kernel_rfl) (es':=[(_,_),(_,_)]) rfl ?_
      exact hl43 _ (ho45 _ (zi h).symm).symm
     ·have h:=bQ hb49 h
      refine bU ?_
      refine cG ?_
      refine bb ?_
      obtain ⟨v9, hv9, h⟩:=zn h
      refine yx hn 0 ?_
      refine ys 0 ⟨lb hv9⟩ ?_
      refine yw [9] 1 ?_
      refine ye [23,7,8,3,9] ?_
      refine bG [0,3,1,2,4] (by kernel_rfl) (es':=[(_,_),(_,_),(_,_),(_,_),(_,_)]) rfl ?_
      exact dM _ (zi h).symm rfl
    ·have h:=bQ hb48 h
     refine dK ?_
     refine cd ?_
     refine cd ?_
     refine dL ?_
     refine bG [0,1] (by kernel_rfl) (es':=[(_,_),(_,_)]) rfl ?_
     exact hl43 _ (ho45 _ (zi h).symm).symm
theorem jN (s:aa) (r:aa) (h:Sh.ia s=some r):un Tryz.prog 88 [.box 80 (aa.b s)] [.box 80 (aa.b r)] (.tup []):=by
  unfold Sh.ia at h
  refine yP 15 func88 fun args0 hargs0 g0 hn hio => ?_
  refine yx hn 3 ?_
  refine yS (.agg [vb false,vs z0,vs z0]) 12 ⟨dQ _ _ _ _ [1,1,1] _ _ underlying26 xW (Ip _ underlying26) rE.nil rfl rfl rfl⟩ ?_
  refine ye [0,0] ?_
  refine fe (fs:=[(0,.box 80 (vi s.Gate.Phase::vs s.Gate.Helo::vb false::vs z0::vs z0::.fl (.own 26) 3 (flatten (map bu.enc []))::vb false::.mkr 5 (map (int .u8) s.Gate.Buf)::vs s.Gate.Challenge::vb s.Gate.Proved::co.c s.config [vi s.site,vi s.at_,.fr (.own 55) false 12 (flatten (map cc.ienc s.out))])),(0,.v (List.getD args0 0 undef))]) (.box _ _ (bq (bI _) (bq (bI _) (bq (bI _) (bq (bI _) (bq (bI _) (bq (ek 26 3) (bq (bI _) (bq (bI _) (bq (bI _) (bq (bI _) (bq (bI _) (bq (bI _) (bq (bI _) (bq (bI _) (bq (bI _) (bq (bI _) (bq (bI _) (bq (bI _) (bq (bI _) (bq (bI _) (dO))))))))))))))))))))) rfl (.same _ .nil)) ?_
  obtain rfl:=zi h
  exact pQ (es:=[]) (posts:=[.box 80 [.v (.int .i64 s.Gate.Phase),.v (.string s.Gate.Helo),.v (.bool false),.v (.string (⟨#[]⟩:ByteArray)),.v (.string (⟨#[]⟩:ByteArray)),.fl (.own 26) 3 (flatten (map bu.enc [])),.v (.bool false),.mkr 5 (map (int .u8) s.Gate.Buf),.v (.string s.Gate.Challenge),.v (.bool s.Gate.Proved),.v (.string ((s.config.Domains.getD 0 (⟨#[]⟩:ByteArray)))),.v (.string ((s.config.Domains.getD 1 (⟨#[]⟩:ByteArray)))),.v (.int .i64 s.config.Expiry),.v (.string s.config.User),.v (.string s.config.Secret),.v (.int .i64 s.config.Log),.v (.bool s.config.Held),.v (.int .i64 s.site),.v (.int .i64 s.at_),.fr (.own 55) false 12 (flatten (map cc.ienc s.out))]]) hio rfl rfl .nil rfl rfl hargs0 rfl
theorem rQ (mx:Int×Nat×Value) (s:aa) (r:(Bool×aa)) (h:Sh.jY s=some r):rW Tryz.prog (GL mx) 73 [.box 80 (aa.b s)] [.box 80 (aa.b r.2)] (.v (.bool r.1)):=by
  unfold Sh.jY at h
  refine JO 60 func73 fun args0 hargs0 g0 hn hio => ?_
  refine cF hn 1 [0,60,0] ?_
  refine aM ?_
  obtain ⟨v1, hv1, h⟩:=zn h
  refine yx hn 5 ?_
  refine ys 0 ⟨lg call84 (zQ _ _ _ hv1) 60⟩ ?_
  refine ym 0 ?_
  refine Oc 2 ?_
  refine ya 2 ?_
  refine dv [0,60,3,4,5,0] ?_
  refine aM ?_
  refine cF hn 2 [0,60,3,4,5,18,0] ?_
  refine bL _ rfl (fun hb2 => ?_) (fun hb2 => ?_)
  ·have h:=bT hb2 h
   refine cF hn 1 [0,60,2,0] ?_
   refine bO ?_
   refine bG [2,0,3] (by kernel_rfl) (es':=[(_,_),(_,_),(_,_)]) rfl ?_
   refine bw ?_
   obtain rfl:=zi h
   exact dS (es:=[(2, .v (.bool false))]) (posts:=[.box 80 (aa.b s)]) hio rfl rfl (.tmp _ _ .nil) rfl rfl hargs0 rfl
  ·have h:=bQ hb2 h
   refine bU ?_
   refine bb (aM ?_)
   obtain ⟨v3, hv3, h⟩:=zn h
   refine yx hn 1 ?_
   refine yQ call85 (jp _ _ _ hv3) 0 [19] 0 ?_
   refine yk [20] [] ?_
   refine yt (21,.agg [vi v3.1.Code,.fl (.own 9) 1 (map Value.string v3.1.Lines),vb false,vb false,vs z0,vs z0,vz,vz,vb false,vs z0,vi 0,vb false]) 0 ⟨dQ _ _ _ _ [2,1,8,1] _ _ underlying55 Au (IB _ underlying55) (.take _ _ rE.nil) rfl rfl rfl⟩ ?_
   refine yS (.box 55 [vi 0,vz,vb false,vb false,vs z0,vs z0,vz,vz,vb false,vs z0,vi 0,vb false]) 0 ⟨oA (dh _ _ Au)⟩ ?_
   refine yk [21,6] [] ?_
   refine yt (6,.box 55 [vi v3.1.Code,.fl (.own 9) 1 (map Value.string v3.1.Lines),vb false,vb false,vs z0,vs z0,vz,vz,vb false,vs z0,vi 0,vb false]) 0 ⟨cO _ _ _ _ _ _ _ _ Ei rfl rfl rfl (zl rfl) rfl rfl⟩ ?_
   refine dv [0,60,3,4,5,6,0] ?_
   refine aM ?_
   refine ce h (fun ((s7,s8,s9,s10,s11,s12,s13,s14,s15,s16,s17,s18,s19,s20,s21,s22,s23,s24,s25,s26,s27,s28,s29,s30,s31,s32,s33,s34,s35,s36,s37,s38,s39):Int×ByteArray×Bool×ByteArray×ByteArray×(List bu)×Bool×(List Int)×ByteArray×Bool×ByteArray×ByteArray×Int×ByteArray×ByteArray×Int×Bool×Int×Int×(List cc)×Int×Int×(List ByteArray)×Bool×Bool×ByteArray×ByteArray×(List bu)×(List Int)×Bool×ByteArray×Int×Bool)=>[(0,.box 80 [vi s7,vs s8,vb s9,vs s10,vs s11,.fl (.own 26) 3 (flatten (map bu.enc s12)),vb s13,.mkr 5 (map (int .u8) s14),vs s15,vb s16,vs s17,vs s18,vi s19,vs s20,vs s21,vi s22,vb s23,vi s24,vi s25,.fr (.own 55) false 12 (flatten (map cc.ienc s26))]),(60,.glob (GL mx)),(4,vi s27),(6,.box 55 [vi s28,.fl .ro 1 (map Value.string s29),vb s30,vb s31,vs s32,vs s33,.fl .ro 3 (flatten (map bu.enc s34)),.fl .ro 1 (map (int .u8) s35),vb s36,vs s37,vi s38,vb s39]),(0,.v (List.getD args0 0 undef))]) ?_ ?_
   ·rintro ⟨s7, s8, s9, s10, s11, s12, s13, s14, s15, s16, s17, s18, s19, s20, s21, s22, s23, s24, s25, s26, s27, s28, s29, s30, s31, s32, s33, s34, s35, s36, s37, s38, s39⟩ h
    refine bb (aM ?_)
    obtain ⟨v44, hv44, h⟩:=zn h
    refine wb [[],[],[34,0],[35,0],[36,0],[6]] ?_
    refine wN [38] ?_
    refine wS (.fr (.own 55) false 12 (flatten (map cc.ienc [(cc.mk (fw.mk s28 s29) s30 ((dw.mk (bu.mk s31 s32 s33) s34 s35 s36 s37 s38)) s39)]))) [] ⟨qY _ _ _ 12 (.agg #[.int .i64 0,.slice none 0 0,.bool false,.bool false,.string ByteArray.empty,.string ByteArray.empty,.slice none 0 0,.slice none 0 0,.bool false,.string ByteArray.empty,.int .i64 0,.bool false]) false _ _ underlying34 Ei Au rfl rfl (.cons (.v _) (.cons (.ro _ _ rfl) (.cons (.v _) (.cons (.v _) (.cons (.v _) (.cons (.v _) (.cons (.ro _ _ rfl) (.cons (.ro _ _ rfl) (.cons (.v _) (.cons (.v _) (.cons (.v _) (.cons (.v _) (.nil))))))))))))) rfl (by decide) (by decide)⟩ ?_
    refine wK [0] [37,39] ?_
    refine wt [(0,.box 80 [vi s7,vs s8,vb s9,vs s10,vs s11,.fl (.own 26) 3 (flatten (map bu.enc s12)),vb s13,.mkr 5 (map (int .u8) s14),vs s15,vb s16,vs s17,vs s18,vi s19,vs s20,vs s21,vi s22,vb s23,vi s24,vi s25,.any]),(40,.fr (.own 55) false 12 (flatten (map cc.ienc v44)))] [[33,0],[41,0]] ⟨mv _ 40 0 19 _ _ Mi rfl rfl (zl rfl) rfl (jL cc.ilen _) (jL cc.ilen _) hv44 (tb (oo hv44)) (by decide) (by decide) (by decide) rfl rfl⟩ ?_
    refine wK [37,40,0] [42] ?_
    refine wt [(0,.box 80 [vi s7,vs s8,vb s9,vs s10,vs s11,.fl (.own 26) 3 (flatten (map bu.enc s12)),vb s13,.mkr 5 (map (int .u8) s14),vs s15,vb s16,vs s17,vs s18,vi s19,vs s20,vs s21,vi s22,vb s23,vi s24,vi s25,.fr (.own 55) false 12 (flatten (map cc.ienc v44))])] [] ⟨cM.drop [_] (cO _ _ _ _ _ _ _ _ LU rfl rfl rfl (zl rfl) rfl rfl)⟩ ?_
    refine Af hn [0,60,4,0] ?_
    refine aM ?_
    obtain ⟨v45, hv45, h⟩:=zn h
    refine yx hn 7 ?_
    refine yk [0] [48,49] ?_
    refine tg (0,.box 80 [vi s7,vs s8,vb s9,vs s10,vs s11,.fl (.own 26) 3 (flatten (map bu.enc s12)),vb s13,.any,vs s15,vb s16,vs s17,vs s18,vi s19,vs s20,vs s21,vi s22,vb s23,vi s24,vi s25,.fr (.own 55) false 12 (flatten (map cc.ienc v44))]) (50,.mkr 5 (map (int .u8) v45)) 3 ⟨Ag _ 50 0 7 _ _ underlying28 qp rfl rfl (zl rfl) rfl rfl hv45 rfl (Nat.ne_of_beq_eq_false rfl) rfl rfl⟩ ?_
    refine yw [48] 0 ?_
    refine yk [50,0] [53] ?_
    refine yt (0,.box 80 [vi s7,vs s8,vb s9,vs s10,vs s11,.fl (.own 26) 3 (flatten (map bu.enc s12)),vb s13,.mkr 5 (map (int .u8) v45),vs s15,vb s16,vs s17,vs s18,vi s19,vs s20,vs s21,vi s22,vb s23,vi s24,vi s25,.fr (.own 55) false 12 (flatten (map cc.ienc v44))]) 0 ⟨cO _ _ _ _ _ _ _ _ pW rfl rfl rfl (zl rfl) rfl rfl⟩ ?_
    refine dv [0,60,0] ?_
    refine cF hn 5 [0,60,0] ?_
    refine aM ?_
    obtain ⟨v46, hv46, h⟩:=zn h
    refine yx hn 1 ?_
    refine yQ call88 (jN _ _ hv46) 0 [58] 0 ?_
    refine dv [0,60,0] ?_
    refine cF hn 1 [0,60,2,0] ?_
    refine bO ?_
    refine bG [2,0,3] (by kernel_rfl) (es':=[(_,_),(_,_),(_,_)]) rfl ?_
    obtain rfl:=zi h
    exact dS (es:=[(2, .v (.bool true))]) (posts:=[.box 80 (aa.b v46)]) hio rfl rfl (.tmp _ _ .nil) rfl rfl hargs0 rfl
   ·intro u40 h hl41 hr42
    refine cF hn 2 [0,60,3,4,6,23,0] ?_
    refine bL _ rfl (fun hb43 => ?_) (fun hb43 => ?_)
    ·have h:=bT hb43 h
     refine Ga 2 hio (es':=[(0, .box 80 (aa.b v3.2)), (60, .glob (GL mx)), (3, .fl .ro 1 (map (int .u8) v1.1)), (4, .v (.int .i64 v1.2.1)), (6, .box 55 [.v (.int .i64 v3.1.Code),.fl (.own 9) 1 (map Value.string v3.1.Lines),.v (.bool false),.v (.bool false),.v (.string (⟨#[]⟩:ByteArray)),.v (.string (⟨#[]⟩:ByteArray)),vz,vz,.v (.bool false),.v (.string (⟨#[]⟩:ByteArray)),.v (.int .i64 0),.v (.bool false)]), (23, .v (.bool (v1.2.2==0))), (0, .v (List.getD args0 0 undef))]) rfl ?_
     obtain ⟨v5, hv5, h⟩:=zn h
     refine yx hn 2 ?_
     refine yk [0] [24,25,60] ?_
     refine tg (0,.box 80 (aa.b v5.2)) (26,.agg [vi v5.1.Reply.Code,.fl .ro 1 (map Value.string v5.1.Reply.Lines),vb v5.1.Has,vb v5.1.Mail.From.Null,vs v5.1.Mail.From.Local,vs v5.1.Mail.From.Domain,.fl .ro 3 (flatten (map bu.enc v5.1.Mail.To)),.fl .ro 1 (map (int .u8) v5.1.Mail.Body),vb v5.1.Mail.Quiet,vs v5.1.Mail.Helo,vi v5.1.Mail.At,vb v5.1.Ask]) 1 ⟨js _ _ _ _ 26 60 86 [.tmp 24] [.tmp 25] _ _ _ rfl call86 rfl rfl rfl rfl (fun _ h=>h) (qP mx ((aa.r v3.2)) v1.1 _ hv5) (zl rfl) rfl rfl rfl rfl rfl rfl rfl⟩ ?_
     refine ye [0,60,4,6,0] ?_
     exact hl41 _ (zi h).symm
    ·have h:=bQ hb43 h
     obtain ⟨v6, hv6, h⟩:=zn h
     refine yx hn 5 ?_
     refine ys 0 ⟨lg call87 (vB _ _ _ hv6) 60⟩ ?_
     refine yw [4] 1 ?_
     refine ye [0,60,6,4,0] ?_
     refine bG [0,1,3,2,4] (by kernel_rfl) (es':=[(_,_),(_,_),(_,_),(_,_),(_,_)]) rfl ?_
     refine xu 3 hio (es':=[(0, .box 80 (aa.b v3.2)), (60, .glob (GL mx)), (4, .v (.int .i64 v6)), (6, .box 55 [.v (.int .i64 v3.1.Code),.fl .ro 1 (map Value.string v3.1.Lines),.v (.bool false),.v (.bool false),.v (.string (⟨#[]⟩:ByteArray)),.v (.string (⟨#[]⟩:ByteArray)),vz,vz,.v (.bool false),.v (.string (⟨#[]⟩:ByteArray)),.v (.int .i64 0),.v (.bool false)]), (0, .v (List.getD args0 0 undef))]) rfl ?_
     refine fe (fs:=[(0,.box 80 (aa.b v3.2)),(60,.glob (GL mx)),(4,vi v6),(6,.box 55 [vi v3.1.Code,.fl .ro 1 (map Value.string v3.1.Lines),vb false,vb false,vs z0,vs z0,.fl .ro 3 (flatten (map bu.enc [])),.fl .ro 1 (map (int .u8) []),vb false,vs z0,vi 0,vb false]),(0,.v (List.getD args0 0 undef))]) (.same _ (.same _ (.same _ (.box _ _ (bq (bI _) (bq (bI _) (bq (bI _) (bq (bI _) (bq (bI _) (bq (bI _) (bq (xK 3) (bq (xK 1) (bq (bI _) (bq (bI _) (bq (bI _) (bq (bI _) (dO))))))))))))) rfl (.same _ .nil))))) ?_
     exact hl41 _ (zi h).symm
theorem zK (i:Int) (q:Int) (p_r:Int) (t:Int) (r:(Int×Int)) (h:Sh.sK i q p_r t=some r):eD Tryz.prog 219 [.v (.int .i64 i), .v (.int .u32 q), .v (.int .u32 p_r), .v (.int .u32 t)] (.tup [.v (.int .u32 r.1), .v (.int .i64 r.2)]):=by
  unfold Sh.sK at h
  refine yO 56 func219 fun g0 hn hio => ?_
  refine cF hn 2 [0,1,2,3] ?_
  refine aM ?_
  refine aM ?_
  obtain ⟨v1, hv1, h⟩:=zn h
  refine yx hn 1 ?_
  refine ys 0 ⟨lB (vJ hv1)⟩ ?_
  refine dv [0,1,2,3,11] ?_
  refine cA ?_
  refine cF hn 2 [0,1,2,3,11,12] ?_
  refine bL _ rfl (fun hb2 => ?_) (fun hb2 => ?_)
  ·have h:=bT hb2 h
   refine aM ?_
   obtain ⟨v3, hv3, h⟩:=zn h
   obtain ⟨v4, hv4, h⟩:=zn h
   obtain ⟨v5, hv5, h⟩:=zn h
   obtain ⟨v6, hv6, h⟩:=zn h
   refine yx hn 2 ?_
   refine ys 1 ⟨lb hv3⟩ ?_
   refine yS (.v (.int .u32 v4)) 1 ⟨JK _ _ _ _ rfl (Lx (f:=int .u32) (Option.some.inj hv4))⟩ ?_
   refine ys 0 ⟨lb hv5⟩ ?_
   refine ys 3 ⟨lb hv6⟩ ?_
   refine dv [8,9] ?_
   refine bO ?_
   refine cC ?_
   refine bw ?_
   obtain rfl:=zi h
   exact bP hio rfl (.tmp _ _ (.tmp _ _ .nil)) rfl rfl
  ·have h:=bQ hb2 h
   refine cF hn 2 [0,1,2,3,11,23] ?_
   refine bL _ rfl (fun hb7 => ?_) (fun hb7 => ?_)
   ·have h:=bT hb7 h
    refine aM ?_
    obtain ⟨v8, hv8, h⟩:=zn h
    obtain ⟨v9, hv9, h⟩:=zn h
    obtain ⟨v10, hv10, h⟩:=zn h
    obtain ⟨v11, hv11, h⟩:=zn h
    obtain ⟨v12, hv12, h⟩:=zn h
    obtain ⟨v13, hv13, h⟩:=zn h
    refine yx hn 2 ?_
    refine ys 2 ⟨lb hv8⟩ ?_
    refine ys 0 ⟨lb hv9⟩ ?_
    refine ys 1 ⟨lb hv10⟩ ?_
    refine ys 0 ⟨lb hv11⟩ ?_
    refine ys 0 ⟨lb hv12⟩ ?_
    refine ys 2 ⟨lB (oH hv13)⟩ ?_
    refine dv [8,9] ?_
    refine bO ?_
    refine cC ?_
    refine bw ?_
    obtain rfl:=zi h
    exact bP hio rfl (.tmp _ _ (.tmp _ _ .nil)) rfl rfl
   ·have h:=bQ hb7 h
    refine cF hn 2 [0,1,2,3,36] ?_
    refine bL _ rfl (fun hb14 => ?_) (fun hb14 => ?_)
    ·have h:=bT hb14 h
     refine aM ?_
     obtain ⟨v15, hv15, h⟩:=zn h
     obtain ⟨v16, hv16, h⟩:=zn h
     obtain ⟨v17, hv17, h⟩:=zn h
     obtain ⟨v18, hv18, h⟩:=zn h
     obtain ⟨v19, hv19, h⟩:=zn h
     refine yx hn 2 ?_
     refine ys 1 ⟨lb hv15⟩ ?_
     refine ys 1 ⟨lb hv16⟩ ?_
     refine ys 0 ⟨lb hv17⟩ ?_
     refine ys 0 ⟨lb hv18⟩ ?_
     refine ys 2 ⟨lB (oH hv19)⟩ ?_
     refine dv [8,9] ?_
     refine bO ?_
     refine cC ?_
     refine bw ?_
     obtain rfl:=zi h
     exact bP hio rfl (.tmp _ _ (.tmp _ _ .nil)) rfl rfl
    ·have h:=bQ hb14 h
     refine bU ?_
     refine cG ?_
     refine bb (aM ?_)
     obtain ⟨v20, hv20, h⟩:=zn h
     obtain ⟨v21, hv21, h⟩:=zn h
     obtain ⟨v22, hv22, h⟩:=zn h
     obtain ⟨v23, hv23, h⟩:=zn h
     obtain ⟨v24, hv24, h⟩:=zn h
     refine yx hn 3 ?_
     refine yS (.v (.int .u32 v20)) 0 ⟨JK _ _ _ _ rfl (Lx (f:=int .u32) (Option.some.inj hv20))⟩ ?_
     refine ys 0 ⟨lb hv21⟩ ?_
     refine ys 1 ⟨lb hv22⟩ ?_
     refine ys 0 ⟨lb hv23⟩ ?_
     refine ys 2 ⟨lB (oH hv24)⟩ ?_
     refine dv [8,9] ?_
     refine bO ?_
     obtain rfl:=zi h
     exact bP hio rfl (.tmp _ _ (.tmp _ _ .nil)) rfl rfl
end Go.Proofs.YtjnnkhmhjcjhdaaGreatDoor
