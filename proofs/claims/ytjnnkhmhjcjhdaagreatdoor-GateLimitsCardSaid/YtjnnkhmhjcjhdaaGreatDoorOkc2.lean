/-
  The model's runs are what is told in Lean.
-/
import Derived.Test.YtjnnkhmhjcjhdaaGreatDoorProg
import Derived.KernelRfl
import Derived.Test.YtjnnkhmhjcjhdaaGreatDoorShelf
import Derived.Test.YtjnnkhmhjcjhdaaGreatDoorIdx
import Derived.Test.YtjnnkhmhjcjhdaaGreatDoorB3
import Derived.Test.YtjnnkhmhjcjhdaaGreatDoorC1
import Derived.Test.YtjnnkhmhjcjhdaaGreatDoorBC
import Derived.Test.YtjnnkhmhjcjhdaaGreatDoorOkc1
set_option linter.unusedVariables false
set_option linter.unusedSimpArgs false
set_option maxHeartbeats 1000000
namespace Go.Proofs.YtjnnkhmhjcjhdaaGreatDoor
open Go.Abs Go.Abs.Sh Tryz
open List (map flatten)
open Value (int)
theorem tE (g:cq) (r:Bool) (h:Sh.kf g=some r):eD Tryz.prog 36 [.agg [.v (.int .i64 g.Phase), .v (.string g.Helo), .v (.bool g.From.Null), .v (.string g.From.Local), .v (.string g.From.Domain), .fl .shr 3 (flatten (map bu.enc g.To)), .v (.bool g.Quiet), .fl .shr 1 (map (int .u8) g.Buf), .v (.string g.Challenge), .v (.bool g.Proved)]] (.v (.bool r)):=by
  unfold Sh.kf at h
  refine yO 22 func36 fun g0 hn hio => ?_
  refine cF hn 2 [1] ?_
  refine aM ?_
  refine ce h (fun (s2:Bool)=>[(2,vb s2)]) ?_ ?_
  ·rintro s2 h
   refine bb (bO ?_)
   obtain rfl:=zi h
   exact bP hio rfl (.tmp _ _ .nil) rfl rfl
  ·intro u3 h hl4 hr5
   refine bJ h (fun hg1_3 h => ?_) (fun hg1_3 h => ?_)
   ·refine bJ h (fun hg1_8 h => ?_) (fun hg1_8 h => ?_)
    ·refine bJ h (fun hg1_14 h => ?_) (fun hg1_14 h => ?_)
     ·obtain ⟨v1, hv1, h⟩:=zn h
      refine yx hn 4 ?_
      refine yd hg1_3 5 ?_
      refine yd hg1_8 6 ?_
      refine yd hg1_14 2 ?_
      refine ys 2 ⟨lk call58 (sc _ _ _ hv1)⟩ ?_
      refine ye [2] ?_
      exact hl4 _ (zi h).symm
     ·refine yx hn 4 ?_
      refine yd hg1_3 5 ?_
      refine yd hg1_8 6 ?_
      refine yd hg1_14 5 ?_
      refine ye [2] ?_
      exact hl4 _ (zi h).symm
    ·refine yx hn 4 ?_
     refine yd hg1_3 5 ?_
     refine yd hg1_8 11 ?_
     refine ye [2] ?_
     exact hl4 _ (zi h).symm
   ·refine yx hn 4 ?_
    refine yd hg1_3 16 ?_
    refine ye [2] ?_
    exact hl4 _ (zi h).symm
theorem mI (l:(List bu)) (r:(List bu)) (h:Sh.gH l=some r):eD Tryz.prog 59 [.fl .shr 3 (flatten (map bu.enc l))] (.fl (.own 26) 3 (flatten (map bu.enc r))):=by
  unfold Sh.gH at h
  refine yO 5 func59 fun g0 hn hio => ?_
  refine cF hn 1 [0] ?_
  refine aM ?_
  obtain ⟨v1, hv1, h⟩:=zn h
  refine yx hn 1 ?_
  refine yS (.fl (.own 26) 3 (flatten (map bu.enc v1))) 0 ⟨up _ _ _ _ NQ rfl rfl (pz bu.len _) hv1 (congrArg (fun l=>flatten (map _ l)) (uk hv1))⟩ ?_
  refine ya 0 ?_
  refine dv [2] ?_
  refine bO ?_
  obtain rfl:=zi h
  exact bP hio rfl (.tmp _ _ .nil) rfl rfl
theorem tW (l:(List Int)) (r:(List Int)) (h:Sh.lw l=some r):eD Tryz.prog 60 [.fl .shr 1 (map (int .u8) l)] (.fl (.own 5) 1 (map (int .u8) r)):=by
  unfold Sh.lw at h
  refine yO 5 func60 fun g0 hn hio => ?_
  refine cF hn 1 [0] ?_
  refine aM ?_
  obtain ⟨v1, hv1, h⟩:=zn h
  refine yx hn 1 ?_
  refine yS (.fl (.own 5) 1 (map (int .u8) v1)) 0 ⟨up _ _ _ _ oz rfl rfl (kA _) hv1 (congrArg (map _) (uk hv1))⟩ ?_
  refine ya 0 ?_
  refine dv [2] ?_
  refine bO ?_
  obtain rfl:=zi h
  exact bP hio rfl (.tmp _ _ .nil) rfl rfl
theorem tK (g:cq) (r:cq) (h:Sh.nw g=some r):eD Tryz.prog 37 [.agg [.v (.int .i64 g.Phase), .v (.string g.Helo), .v (.bool g.From.Null), .v (.string g.From.Local), .v (.string g.From.Domain), .fl .shr 3 (flatten (map bu.enc g.To)), .v (.bool g.Quiet), .fl .shr 1 (map (int .u8) g.Buf), .v (.string g.Challenge), .v (.bool g.Proved)]] (.agg [.v (.int .i64 r.Phase), .v (.string r.Helo), .v (.bool r.From.Null), .v (.string r.From.Local), .v (.string r.From.Domain), .fl (.own 26) 3 (flatten (map bu.enc r.To)), .v (.bool r.Quiet), .fl (.own 5) 1 (map (int .u8) r.Buf), .v (.string r.Challenge), .v (.bool r.Proved)]):=by
  unfold Sh.nw at h
  refine yO 12 func37 fun g0 hn hio => ?_
  refine lp hn 1 ?_
  refine yS (.box 30 [vi 0,vs z0,vb false,vs z0,vs z0,vz,vb false,vz,vs z0,vb false]) 0 ⟨oA (dh _ _ Ao)⟩ ?_
  refine dv [1,2] ?_
  refine aM ?_
  obtain ⟨v1, hv1, h⟩:=zn h
  refine yx hn 2 ?_
  refine ys 1 ⟨lk call59 (mI _ _ hv1)⟩ ?_
  refine yk [5,1] [6] ?_
  refine yt (1,.box 30 [vi g.Phase,vs g.Helo,vb g.From.Null,vs g.From.Local,vs g.From.Domain,.fl (.own 26) 3 (flatten (map bu.enc v1)),vb g.Quiet,fb g.Buf,vs g.Challenge,vb g.Proved]) 0 ⟨cO _ _ _ _ _ _ _ _ NM rfl rfl rfl (zl rfl) rfl rfl⟩ ?_
  refine dv [1,2] ?_
  refine aM ?_
  obtain ⟨v2, hv2, h⟩:=zn h
  refine yx hn 2 ?_
  refine ys 1 ⟨lk call60 (tW _ _ hv2)⟩ ?_
  refine yk [9,1] [10] ?_
  refine yt (1,.box 30 [vi g.Phase,vs g.Helo,vb g.From.Null,vs g.From.Local,vs g.From.Domain,.fl (.own 26) 3 (flatten (map bu.enc v1)),vb g.Quiet,.fl (.own 5) 1 (map (int .u8) v2),vs g.Challenge,vb g.Proved]) 0 ⟨cO _ _ _ _ _ _ _ _ pW rfl rfl rfl (zl rfl) rfl rfl⟩ ?_
  refine dv [1,2] ?_
  refine lp hn 0 ?_
  refine yk [1] [] ?_
  refine yt (11,.agg [vi g.Phase,vs g.Helo,vb g.From.Null,vs g.From.Local,vs g.From.Domain,.fl (.own 26) 3 (flatten (map bu.enc v1)),vb g.Quiet,.fl (.own 5) 1 (map (int .u8) v2),vs g.Challenge,vb g.Proved]) 0 ⟨tF _ _ _ _ underlying30 rfl uu rfl rfl⟩ ?_
  refine yk [11,2] [] ?_
  refine yt (2,.box 30 [vi g.Phase,vs g.Helo,vb g.From.Null,vs g.From.Local,vs g.From.Domain,.fl (.own 26) 3 (flatten (map bu.enc v1)),vb g.Quiet,.fl (.own 5) 1 (map (int .u8) v2),vs g.Challenge,vb g.Proved]) 0 ⟨cO _ _ _ _ _ _ _ _ uu rfl rfl rfl (zl rfl) rfl rfl⟩ ?_
  refine dv [2] ?_
  refine bO ?_
  obtain rfl:=zi h
  exact bP hio rfl (.cellA _ _ _ _ underlying30 rfl uu .nil) rfl rfl
theorem sP (a:(List Int)) (b:(List Int)) (r:Bool) (h:Sh.pM a b=some r):eD Tryz.prog 72 [.fl .shr 1 (map (int .u8) a), .fl .shr 1 (map (int .u8) b)] (.v (.bool r)):=by
  unfold Sh.pM at h
  refine yO 10 func72 fun g0 hn hio => ?_
  refine cF hn 1 [0,1] ?_
  refine aM ?_
  obtain ⟨v1, hv1, h⟩:=zn h
  obtain ⟨v2, hv2, h⟩:=zn h
  refine yx hn 1 ?_
  refine ys 1 ⟨lS hv1⟩ ?_
  refine ys 2 ⟨lS hv2⟩ ?_
  refine dv [4] ?_
  refine bO ?_
  obtain rfl:=zi h
  exact bP hio rfl (.tmp _ _ .nil) rfl rfl
theorem uq (s:(List Int)) (suffix:(List Int)) (r:Bool) (h:Sh.om s suffix=some r):eD Tryz.prog 61 [.fl .shr 1 (map (int .u8) s), .fl .shr 1 (map (int .u8) suffix)] (.v (.bool r)):=by
  unfold Sh.om at h
  refine yO 21 func61 fun g0 hn hio => ?_
  refine cF hn 1 [0,1] ?_
  refine aM ?_
  refine ce h (fun (s4:Bool)=>[(4,vb s4)]) ?_ ?_
  ·rintro s4 h
   refine bb (bO ?_)
   obtain rfl:=zi h
   exact bP hio rfl (.tmp _ _ .nil) rfl rfl
  ·intro u5 h hl6 hr7
   refine bJ h (fun hg1_5 h => ?_) (fun hg1_5 h => ?_)
   ·obtain ⟨v1, hv1, h⟩:=zn h
    obtain ⟨v2, hv2, h⟩:=zn h
    obtain ⟨v3, hv3, h⟩:=zn h
    refine yx hn 6 ?_
    refine yd hg1_5 5 ?_
    refine ys 0 ⟨lb hv1⟩ ?_
    refine yS (fb v2) 1 ⟨rV _ _ _ v1 (s.length:Int) _ underlying28 qp rfl rfl ⟨_,rfl⟩ rfl hv2⟩ ?_
    refine ys 2 ⟨lk call72 (sP _ _ _ hv3)⟩ ?_
    refine ye [4] ?_
    exact hl6 _ (zi h).symm
   ·refine yx hn 6 ?_
    refine yd hg1_5 11 ?_
    refine ye [4] ?_
    exact hl6 _ (zi h).symm
theorem pY (s:aa) (x:Int) (r:(Bool×aa)) (h:Sh.eT s x=some r):un Tryz.prog 38 [.box 80 (aa.b s), .v (.int .u8 x)] [.box 80 (aa.b r.2)] (.v (.bool r.1)):=by
  unfold Sh.eT at h
  refine yP 39 func38 fun args0 hargs0 g0 hn hio => ?_
  refine cF hn 1 [0,1,0] ?_
  refine aM ?_
  refine cF hn 6 [0,1,10,0] ?_
  refine bL _ rfl (fun hb1 => ?_) (fun hb1 => ?_)
  ·have h:=bT hb1 h
   refine aM ?_
   refine ce h (fun (s4:Bool)=>[(0,.box 80 (aa.b s)),(4,vb s4),(0,.v (List.getD args0 0 undef))]) ?_ ?_
   ·rintro s4 h
    refine bb (bO ?_)
    refine bG [1,0,2] (by kernel_rfl) (es':=[(_,_),(_,_),(_,_)]) rfl ?_
    refine bw ?_
    obtain rfl:=zi h
    exact dS (es:=[(4, .v (.bool s4))]) (posts:=[.box 80 (aa.b s)]) hio rfl rfl (.tmp _ _ .nil) rfl rfl hargs0 rfl
   ·intro u5 h hl6 hr7
    obtain ⟨v2, hv2, h⟩:=zn h
    refine bJ h (fun hg2_7 h => ?_) (fun hg2_7 h => ?_)
    ·refine yx hn 5 ?_
     refine ys 2 ⟨lM hv2⟩ ?_
     refine yd hg2_7 10 ?_
     refine ye [0,4,0] ?_
     exact hl6 _ (zi h).symm
    ·obtain ⟨v3, hv3, h⟩:=zn h
     refine yx hn 5 ?_
     refine ys 2 ⟨lM hv2⟩ ?_
     refine yd hg2_7 5 ?_
     refine yS (.fl (.own 5) 1 (map (int .u8) [13,10,46,13,10])) 0 ⟨dJ _ _ 1 (.int .u8 0) (map (int .u8) [13,10,46,13,10]) [(0,.int .u8 13),(1,.int .u8 10),(2,.int .u8 46),(3,.int .u8 13),(4,.int .u8 10)] underlying28 qp zS (fun _ V w o a hv hes=>by simp only [List.map_toArray,List.map_cons,List.map_nil]; try rfl) (fT (by simp [Instr.fill,Value.cells]; rfl) (by simp [List.range,List.range.loop] <;> rfl)) (by simp [Value.oneCell']) rfl (by decide) (by decide) (by decide)⟩ ?_
     refine yk [24] [] ?_
     refine yt (25,.fl .ro 1 (map (int .u8) [13,10,46,13,10])) 0 ⟨jq _ _ _ underlying28 underlying5 (by intro h; cases h)⟩ ?_
     refine ys 2 ⟨lk call61 (uq _ _ _ hv3)⟩ ?_
     refine ye [0,4,0] ?_
     exact hl6 _ (zi h).symm
  ·have h:=bQ hb1 h
   refine bU ?_
   refine bb (aM ?_)
   refine ce h (fun (s8:Bool)=>[(0,.box 80 (aa.b s)),(4,vb s8),(0,.v (List.getD args0 0 undef))]) ?_ ?_
   ·rintro s8 h
    refine bb (bO ?_)
    refine bG [1,0,2] (by kernel_rfl) (es':=[(_,_),(_,_),(_,_)]) rfl ?_
    obtain rfl:=zi h
    exact dS (es:=[(4, .v (.bool s8))]) (posts:=[.box 80 (aa.b s)]) hio rfl rfl (.tmp _ _ .nil) rfl rfl hargs0 rfl
   ·intro u9 h hl10 hr11
    refine bJ h (fun hg3_2 h => ?_) (fun hg3_2 h => ?_)
    ·refine yx hn 3 ?_
     refine yd hg3_2 9 ?_
     refine ye [0,4,0] ?_
     exact hl10 _ (zi h).symm
    ·refine yx hn 3 ?_
     refine yd hg3_2 5 ?_
     refine yS (vi (s.Gate.Buf.length:Int)) 3 ⟨sV _ _ _ underlying28 rfl (List.length_map _)⟩ ?_
     refine ye [0,4,0] ?_
     exact hl10 _ (zi h).symm
theorem kY (b:(List Int)) (r:(List Int)) (h:Sh.lz b=some r):eD Tryz.prog 96 [.fl .shr 1 (map (int .u8) b)] (.cloB 123 [.box 28 [.fl .shr 1 (map (int .u8) r)]]):=by
  unfold Sh.lz at h
  refine yO 4 func96 fun g0 hn hio => ?_
  refine cF hn 2 [1] ?_
  refine lp hn 0 ?_
  refine yk [1] [] ?_
  refine yt (3,.cloB 123 [.box 28 [fb b]]) 0 ⟨Dz _ _ [1] [.box 28 [fb b]] rfl rfl rfl⟩ ?_
  refine ya 0 ?_
  refine dv [2] ?_
  refine bO ?_
  obtain rfl:=zi h
  exact bP hio rfl (.tmp _ _ .nil) rfl rfl
theorem zu (mx:Int×Nat×Value) (s sep:List Int) (r:Int) (h:Sh.pT s sep=some r):lX Tryz.prog (GL mx) 89 [.fl .shr 1 (map (int .u8) s), .fl .shr 1 (map (int .u8) sep)] (.v (.int .i64 r)) :=
  xd (CI mx) Tryz.bytes_Index_at Tryz.bytes_Index_longer s sep r h
theorem xi (mx:Int×Nat×Value) (s:(List Int)) (sep:(List Int)) (r:((List Int)×(List Int)×Bool)) (h:Sh.re s sep=some r):lX Tryz.prog (GL mx) 74 [.fl .shr 1 (map (int .u8) s), .fl .shr 1 (map (int .u8) sep)] (.tup [.fl .shr 1 (map (int .u8) r.1), .fl .shr 1 (map (int .u8) r.2.1), .v (.bool r.2.2)]):=by
  unfold Sh.re at h
  refine yG 23 func74 fun g0 hn hio => ?_
  refine cF hn 3 [0,1,23] ?_
  refine aM ?_
  refine aM ?_
  obtain ⟨v1, hv1, h⟩:=zn h
  refine yx hn 2 ?_
  refine ys 1 ⟨lg call89 (zu _ _ _ _ hv1) 23⟩ ?_
  refine dv [0,1,23,7] ?_
  refine cF hn 2 [0,1,23,7,12] ?_
  refine bL _ rfl (fun hb2 => ?_) (fun hb2 => ?_)
  ·have h:=bT hb2 h
   refine aM ?_
   obtain ⟨v3, hv3, h⟩:=zn h
   obtain ⟨v4, hv4, h⟩:=zn h
   obtain ⟨v5, hv5, h⟩:=zn h
   refine wb [[0],[7]] ?_
   refine wN [13,14] ?_
   refine wS (fb v3) [[0],[7],[1],[18]] ⟨rV _ _ _ 0 v1 _ underlying28 qp rfl rfl rfl ⟨_,rfl⟩ hv3⟩ ?_
   refine wN [17,19] ?_
   refine wo [] ⟨lb hv4⟩ ?_
   refine wN [16,20] ?_
   refine wS (fb v5) [[15],[21],[]] ⟨rV _ _ _ v4 (s.length:Int) _ underlying28 qp rfl rfl ⟨_,rfl⟩ rfl hv5⟩ ?_
   refine Af hn [23,4,5,6] ?_
   refine bO ?_
   refine bG [1,2,3] (by kernel_rfl) (es':=[(_,_),(_,_),(_,_)]) rfl ?_
   refine bw ?_
   obtain rfl:=zi h
   exact bP hio rfl (.tmp _ _ (.tmp _ _ (.tmp _ _ .nil))) rfl rfl
  ·have h:=bQ hb2 h
   refine bU ?_
   refine bb ?_
   refine cF hn 4 [23,4,5,6] ?_
   refine bO ?_
   refine bG [1,2,3] (by kernel_rfl) (es':=[(_,_),(_,_),(_,_)]) rfl ?_
   refine fe (fs:=[(4,fb s),(5,fb []),(6,vb false)]) (.same _ (.sub _ (DY 1) rfl (.same _ .nil))) ?_
   obtain rfl:=zi h
   exact bP hio rfl (.tmp _ _ (.tmp _ _ (.tmp _ _ .nil))) rfl rfl
theorem jC (mx:Int×Nat×Value) (l:Nat) {S:Type} (J:S→qd) (Y:(List Int)→S→Option (S×Bool)) (hY:vh Tryz.prog l (fun x => .fl .shr 1 (map (int .u8) x)) Y J) (c0:(List Int)) (st r:S) (h:Sh.ju Y c0 st=some r):MW Tryz.prog (GL mx) 123 l [.box 28 [.fl .shr 1 (map (int .u8) c0)]] (J st) (J r):=by
  unfold Sh.ju at h
  refine yI 23 func123 fun g0 hn hio => ?_
  refine dx h (fun ((s17,s18):(List Int)×S)=>[(0,.v (.func (.yield l) #[] #[])),(1,.box 28 [fb s17]),(23,.glob (GL mx)),(24,.inv (J s18))]) (fun (():Unit)=>[]) ?_ ?_
  ·rintro ⟨⟩ h
   cases h
  ·rintro u25 hl26 hr27 ⟨s17, s18⟩ rr30 h ho28
   refine cA ?_
   refine aM ?_
   obtain ⟨v1, hv1, h⟩:=zn h
   refine yx hn 1 ?_
   refine yS (.fl (.own 5) 1 (map (int .u8) [13,10])) 0 ⟨dJ _ _ 1 (.int .u8 0) (map (int .u8) [13,10]) [(0,.int .u8 13),(1,.int .u8 10)] underlying28 qp zS (fun _ V w o a hv hes=>by simp only [List.map_toArray,List.map_cons,List.map_nil]; try rfl) (fT (by simp [Instr.fill,Value.cells]; rfl) (by simp [List.range,List.range.loop] <;> rfl)) (by simp [Value.oneCell']) rfl (by decide) (by decide) (by decide)⟩ ?_
   refine yk [8] [] ?_
   refine yt (9,.fl .ro 1 (map (int .u8) [13,10])) 0 ⟨jq _ _ _ underlying28 underlying5 (by intro h; cases h)⟩ ?_
   refine yk [] [7,9,23] ?_
   refine yt (10,.tup [fb v1.1,fb v1.2.1,vb v1.2.2]) 0 ⟨Hq _ _ 23 74 _ _ rfl call74 rfl rfl rfl (fun _ h=>h) (xi mx s17 [13,10] _ hv1) rfl⟩ ?_
   refine ym 6 ?_
   refine dv [0,1,23,24,3,4,5] ?_
   refine aM ?_
   refine aM ?_
   refine ce h (fun ((s31,s32):S×Bool)=>[(0,.v (.func (.yield l) #[] #[])),(1,.box 28 [fb s17]),(23,.glob (GL mx)),(24,.inv (J s31)),(4,fb v1.2.1),(21,vb s32)]) ?_ ?_
   ·rintro ⟨s31, s32⟩ h
    refine bb ?_
    refine bL _ rfl (fun hb36 => ?_) (fun hb36 => ?_)
    ·have h:=bT hb36 h
     refine bO ?_
     refine bG [3] (by kernel_rfl) (es':=[(24,.inv (J s31))]) rfl ?_
     refine bw ?_
     refine cC ?_
     refine bw ?_
     refine cC ?_
     have h:=hr27 _ (ho28 _ (zi h).symm).symm
     obtain rfl:=zi h
     exact xt hio rfl rfl rfl
    ·have h:=bQ hb36 h
     refine bU ?_
     refine bb ?_
     refine yy hn 2 [0,1,23,24] ?_
     refine cG ?_
     exact dM _ (zi h).symm rfl
   ·intro u33 h hl34 hr35
    refine bJ h (fun hg1_2 h => ?_) (fun hg1_2 h => ?_)
    ·refine yx hn 3 ?_
     refine yd hg1_2 5 ?_
     refine ye [0,1,23,24,4,21] ?_
     exact hl34 _ (zi h).symm
    ·obtain ⟨v2, hv2, h⟩:=zn h
     refine yx hn 3 ?_
     refine yd hg1_2 2 ?_
     refine yk [24] [18,17] ?_
     refine tg (24,.inv (J v2.1)) (19,vb v2.2) 2 ⟨uE _ _ 24 l v1.1 s18 v2 hY hv2 rfl rfl rfl⟩ ?_
     refine ye [0,1,23,24,4,21] ?_
     exact hl34 _ (zi h).symm
theorem vy (mx:Int×Nat×Value) (b:(List Int)) (r:(Int×Bool)) (h:Sh.qi b=some r):lX Tryz.prog (GL mx) 94 [.fl .shr 1 (map (int .u8) b)] (.tup [.v (.int .i64 r.1), .v (.bool r.2)]):=by
  unfold Sh.qi at h
  refine yG 17 func94 fun g0 hn hio => ?_
  refine lp hn 0 ?_
  refine yS (.box 3 [vi 0]) 0 ⟨oA (dh _ _ OY)⟩ ?_
  refine yS (.box 4 [vb false]) 0 ⟨oA (dh _ _ Oh)⟩ ?_
  refine dv [0,17,2,3] ?_
  refine aM ?_
  refine aM ?_
  obtain ⟨v1, hv1, h⟩:=zn h
  refine yx hn 1 ?_
  refine yk [] [5] ?_
  refine yt (6,.cloB 123 [.box 28 [fb v1]]) 0 ⟨ld _ _ 96 _ _ rfl call96 rfl rfl (kY b _ hv1) rfl⟩ ?_
  refine dv [17,2,3,6] ?_
  refine cA ?_
  refine nH [3,0,1,2] (by kernel_rfl) (es':=[(6,.cloB 123 [.box 28 [fb v1]]),(17,.glob (GL mx)),(2,.box 3 [vi 0]),(3,.box 4 [vb false])]) rfl ?_
  refine lY h 123 6 7 18 _ [17, 2, 3] call123 (fun (s8:Int)=>[(17, .glob (GL mx)), (2, .box 3 [.v (.int .i64 s8)]), (3, .box 4 [.v (.bool false)])]) (fun (s10:Int)=>[(17, .glob (GL mx)), (2, .box 3 [.v (.int .i64 s10)]), (3, .box 4 [.v (.bool true)])]) (fun l J Y hY t t' h=>jC mx l J Y hY v1 t t' h) hn rfl (fun _=>rfl) (fun _=>rfl) (fun _=>rfl) rfl rfl (fun _=>⟨rfl, rfl⟩) rfl (lQ 17 rfl) ?_ ?_ ?_
  ·rintro kk g0 hn hio x s8 u h
   refine wD (es':=[(7,fb x),(17,.glob (GL mx)),(2,.box 3 [vi s8]),(3,.box 4 [vb false]),(17,.v (kk.tm.getD 17 undef)),(2,.v (kk.tm.getD 2 undef)),(3,.v (kk.tm.getD 3 undef)),(18,.inv kk.ready)]) rfl ?_
   refine yy hn 1 [17,2,3,18,4,17,2,3] ?_
   refine bG [0,1,2,4,5,6,7,3] (by kernel_rfl) (es':=[(17,.glob (GL mx)),(2,.box 3 [vi s8]),(3,.box 4 [vb false]),(4,fb x),(17,.v (kk.tm.getD 17 undef)),(2,.v (kk.tm.getD 2 undef)),(3,.v (kk.tm.getD 3 undef)),(18,.inv kk.ready)]) rfl ?_
   refine nK (es:=[(17,.glob (GL mx)),(2,.box 3 [vi s8]),(3,.box 4 [vb false]),(4,fb x),(17,.v (kk.tm.getD 17 undef)),(2,.v (kk.tm.getD 2 undef)),(3,.v (kk.tm.getD 3 undef))]) 18 rfl ?_
   refine cA ?_
   refine aM ?_
   refine aM ?_
   obtain ⟨v2, hv2, h⟩:=zn h
   refine yx hn 1 ?_
   refine ys 1 ⟨lS hv2⟩ ?_
   refine dv [17,2,3,4,18,10,17,2,3] ?_
   refine bL _ rfl (fun hb11 => ?_) (fun hb11 => ?_)
   ·have h:=bT hb11 h
    refine cF hn 3 [17,2,3,18,17,2,3] ?_
    refine bO ?_
    refine bw ?_
    refine cC ?_
    refine bG [0,1,2,4,5,6,3] (by kernel_rfl) (es':=[(_,_),(_,_),(_,_),(_,_),(_,_),(_,_),(_,_)]) rfl ?_
    obtain rfl:=zi h
    exact uV 18 [17, 2, 3] _ rfl rfl (by kernel_rfl)
   ·have h:=bQ hb11 h
    refine bU ?_
    refine bb ?_
    obtain ⟨v4, hv4, h⟩:=zn h
    obtain ⟨v5, hv5, h⟩:=zn h
    refine yx hn 3 ?_
    refine ys 0 ⟨lb hv4⟩ ?_
    refine ys 1 ⟨lb hv5⟩ ?_
    refine ye [17,2,3,18,17,2,3] ?_
    refine cG ?_
    refine bG [0,1,2,4,5,6,3] (by kernel_rfl) (es':=[(_,_),(_,_),(_,_),(_,_),(_,_),(_,_),(_,_)]) rfl ?_
    obtain rfl:=zi h
    exact nZ 18 [17, 2, 3] _ rfl rfl (by kernel_rfl)
  ·rintro D s8 h
   refine cG ?_
   refine bb ?_
   refine cF hn 2 [17,2,3] ?_
   refine bO ?_
   refine bG [1,2] (by kernel_rfl) (es':=[(_,_),(_,_)]) rfl ?_
   obtain rfl:=zi h
   exact bP hio rfl (.cell1 _ _ _ _ underlying3 rfl (.cell1 _ _ _ _ underlying4 rfl .nil)) rfl rfl
  ·rintro D s10 h
   refine bG [1,2] (by kernel_rfl) (es':=[(_,_),(_,_)]) rfl ?_
   refine cC ?_
   refine bw ?_
   obtain rfl:=zi h
   exact bP hio rfl (.cell1 _ _ _ _ underlying3 rfl (.cell1 _ _ _ _ underlying4 rfl .nil)) rfl rfl
theorem uU (mx:Int×Nat×Value) (s:List Int) (c:ByteArray) (r:Int) (h:Sh.mK s c=some r):lX Tryz.prog (GL mx) 144 [.fl .shr 1 (map (int .u8) s), .v (.string c)] (.v (.int .i64 r)) :=
  ur (CI mx) (Gt mx) (KY mx) (fun s b off c w hs hnc hb hm hmb k1 k2 HG hp=>Tryz.idx_crlf s b off c w mx.1 hs hnc hb hm hmb (Fo lG nQ (by kernel_rfl) (by kernel_rfl) k1 k2) HG hp) Tryz.idx_none s c r h
theorem sJ (mx:Int×Nat×Value) (b:(List Int)) (chars:ByteArray) (r:Bool) (h:Sh.mY b chars=some r):lX Tryz.prog (GL mx) 122 [.fl .shr 1 (map (int .u8) b), .v (.string chars)] (.v (.bool r)):=by
  unfold Sh.mY at h
  refine yG 9 func122 fun g0 hn hio => ?_
  refine cF hn 1 [0,1,9] ?_
  refine aM ?_
  obtain ⟨v1, hv1, h⟩:=zn h
  refine yx hn 2 ?_
  refine ys 2 ⟨lg call144 (uU _ _ _ _ hv1) 9⟩ ?_
  refine dv [9,4] ?_
  refine bO ?_
  refine bG [1] (by kernel_rfl) (es':=[(_,_)]) rfl ?_
  obtain rfl:=zi h
  exact bP hio rfl (.tmp _ _ .nil) rfl rfl
theorem nI (mx:Int×Nat×Value) (b:(List Int)) (r:Int) (h:Sh.nD b=some r):lX Tryz.prog (GL mx) 95 [.fl .shr 1 (map (int .u8) b)] (.v (.int .i64 r)):=by
  unfold Sh.nD at h
  refine yG 19 func95 fun g0 hn hio => ?_
  refine lp hn 0 ?_
  refine yS (.box 35 [vi 0]) 0 ⟨oA (dh _ _ OG)⟩ ?_
  refine dv [0,19,2] ?_
  refine lp hn 0 ?_
  refine yS (.box 3 [vi 0]) 1 ⟨oA (dh _ _ OY)⟩ ?_
  refine dv [0,19,2,3] ?_
  refine aM ?_
  refine aM ?_
  obtain ⟨v1, hv1, h⟩:=zn h
  refine yx hn 1 ?_
  refine yk [] [5] ?_
  refine yt (6,.cloB 123 [.box 28 [fb v1]]) 0 ⟨ld _ _ 96 _ _ rfl call96 rfl rfl (kY b _ hv1) rfl⟩ ?_
  refine dv [0,19,2,3,6] ?_
  refine cA ?_
  refine nH [4,0,1,2,3] (by kernel_rfl) (es':=[(6,.cloB 123 [.box 28 [fb v1]]),(0,fb b),(19,.glob (GL mx)),(2,.box 35 [vi 0]),(3,.box 3 [vi 0])]) rfl ?_
  refine lY h 123 6 7 20 _ [0, 19, 2, 3] call123 (fun (s8:Int)=>[(0, fb b), (19, .glob (GL mx)), (2, .box 35 [.v (.int .i64 0)]), (3, .box 3 [.v (.int .i64 s8)])]) (fun (s10:Int)=>[(0, fb b), (19, .glob (GL mx)), (2, .box 35 [.v (.int .i64 5)]), (3, .box 3 [.v (.int .i64 s10)])]) (fun l J Y hY t t' h=>jC mx l J Y hY v1 t t' h) hn rfl (fun _=>rfl) (fun _=>rfl) (fun _=>rfl) rfl rfl (fun _=>⟨rfl, rfl⟩) rfl (lQ 19 rfl) ?_ ?_ ?_
  ·rintro kk g0 hn hio x s8 u h
   refine wD (es':=[(7,fb x),(0,fb b),(19,.glob (GL mx)),(2,.box 35 [vi 0]),(3,.box 3 [vi s8]),(0,.v (kk.tm.getD 0 undef)),(19,.v (kk.tm.getD 19 undef)),(2,.v (kk.tm.getD 2 undef)),(3,.v (kk.tm.getD 3 undef)),(20,.inv kk.ready)]) rfl ?_
   refine yy hn 1 [0,19,2,3,20,4,0,19,2,3] ?_
   refine bG [0,1,2,3,5,6,7,8,9,4] (by kernel_rfl) (es':=[(0,fb b),(19,.glob (GL mx)),(2,.box 35 [vi 0]),(3,.box 3 [vi s8]),(4,fb x),(0,.v (kk.tm.getD 0 undef)),(19,.v (kk.tm.getD 19 undef)),(2,.v (kk.tm.getD 2 undef)),(3,.v (kk.tm.getD 3 undef)),(20,.inv kk.ready)]) rfl ?_
   refine nK (es:=[(0,fb b),(19,.glob (GL mx)),(2,.box 35 [vi 0]),(3,.box 3 [vi s8]),(4,fb x),(0,.v (kk.tm.getD 0 undef)),(19,.v (kk.tm.getD 19 undef)),(2,.v (kk.tm.getD 2 undef)),(3,.v (kk.tm.getD 3 undef))]) 20 rfl ?_
   refine cA ?_
   refine aM ?_
   refine aM ?_
   obtain ⟨v2, hv2, h⟩:=zn h
   refine yx hn 1 ?_
   refine ys 0 ⟨lg call122 (sJ _ _ _ _ hv2) 19⟩ ?_
   refine dv [0,19,2,3,4,20,9,0,19,2,3] ?_
   refine bL _ rfl (fun hb11 => ?_) (fun hb11 => ?_)
   ·have h:=bT hb11 h
    refine cF hn 1 [0,19,2,3,20,0,19,2,3] ?_
    refine bO ?_
    refine bw ?_
    refine cC ?_
    refine bG [0,1,2,3,5,6,7,8,4] (by kernel_rfl) (es':=[(_,_),(_,_),(_,_),(_,_),(_,_),(_,_),(_,_),(_,_),(_,_)]) rfl ?_
    obtain rfl:=zi h
    exact uV 20 [0, 19, 2, 3] _ rfl rfl (by kernel_rfl)
   ·have h:=bQ hb11 h
    refine bU ?_
    refine bb ?_
    obtain ⟨v4, hv4, h⟩:=zn h
    obtain ⟨v5, hv5, h⟩:=zn h
    refine yx hn 3 ?_
    refine ys 0 ⟨lb hv4⟩ ?_
    refine ys 1 ⟨lb hv5⟩ ?_
    refine ye [0,19,2,3,20,0,19,2,3] ?_
    refine cG ?_
    refine bG [0,1,2,3,5,6,7,8,4] (by kernel_rfl) (es':=[(_,_),(_,_),(_,_),(_,_),(_,_),(_,_),(_,_),(_,_),(_,_)]) rfl ?_
    obtain rfl:=zi h
    exact nZ 20 [0, 19, 2, 3] _ rfl rfl (by kernel_rfl)
  ·rintro D s8 h
   refine cG ?_
   refine bb (aM ?_)
   refine cF hn 4 [19,2,18] ?_
   refine bL _ rfl (fun hb12 => ?_) (fun hb12 => ?_)
   ·have h:=bT hb12 h
    refine cF hn 1 [19,2] ?_
    refine bO ?_
    refine bG [1] (by kernel_rfl) (es':=[(_,_)]) rfl ?_
    refine bw ?_
    obtain rfl:=zi h
    exact bP hio rfl (.cell1 _ _ _ _ underlying35 rfl .nil) rfl rfl
   ·have h:=bQ hb12 h
    refine bU ?_
    refine bb ?_
    refine cF hn 1 [19,2] ?_
    refine bO ?_
    refine bG [1] (by kernel_rfl) (es':=[(_,_)]) rfl ?_
    obtain rfl:=zi h
    exact bP hio rfl (.cell1 _ _ _ _ underlying35 rfl .nil) rfl rfl
  ·rintro D s10 h
   refine bG [2] (by kernel_rfl) (es':=[(_,_)]) rfl ?_
   refine cC ?_
   refine bw ?_
   obtain rfl:=zi h
   exact bP hio rfl (.cell1 _ _ _ _ underlying35 rfl .nil) rfl rfl
theorem ph (s:(List Int)) (prefix_:(List Int)) (r:Bool) (h:Sh.lr s prefix_=some r):eD Tryz.prog 124 [.fl .shr 1 (map (int .u8) s), .fl .shr 1 (map (int .u8) prefix_)] (.v (.bool r)):=by
  unfold Sh.lr at h
  refine yO 18 func124 fun g0 hn hio => ?_
  refine cF hn 1 [0,1] ?_
  refine aM ?_
  refine ce h (fun (s3:Bool)=>[(4,vb s3)]) ?_ ?_
  ·rintro s3 h
   refine bb (bO ?_)
   obtain rfl:=zi h
   exact bP hio rfl (.tmp _ _ .nil) rfl rfl
  ·intro u4 h hl5 hr6
   refine bJ h (fun hg1_5 h => ?_) (fun hg1_5 h => ?_)
   ·obtain ⟨v1, hv1, h⟩:=zn h
    obtain ⟨v2, hv2, h⟩:=zn h
    refine yx hn 6 ?_
    refine yd hg1_5 3 ?_
    refine yS (fb v1) 1 ⟨rV _ _ _ 0 (prefix_.length:Int) _ underlying28 qp rfl rfl rfl ⟨_,rfl⟩ hv1⟩ ?_
    refine ys 2 ⟨lk call72 (sP _ _ _ hv2)⟩ ?_
    refine ye [4] ?_
    exact hl5 _ (zi h).symm
   ·refine yx hn 6 ?_
    refine yd hg1_5 8 ?_
    refine ye [4] ?_
    exact hl5 _ (zi h).symm
theorem qQ (s:(List Int)) (prefix_:(List Int)) (r:(List Int)) (h:Sh.kO s prefix_=some r):eD Tryz.prog 97 [.fl .shr 1 (map (int .u8) s), .fl .shr 1 (map (int .u8) prefix_)] (.fl .shr 1 (map (int .u8) r)):=by
  unfold Sh.kO at h
  refine yO 13 func97 fun g0 hn hio => ?_
  refine cF hn 1 [0,1] ?_
  refine aM ?_
  refine aM ?_
  obtain ⟨v1, hv1, h⟩:=zn h
  refine yx hn 2 ?_
  refine ys 0 ⟨lk call124 (ph _ _ _ hv1)⟩ ?_
  refine dv [0,1,7] ?_
  refine bL _ rfl (fun hb2 => ?_) (fun hb2 => ?_)
  ·have h:=bT hb2 h
   refine aM ?_
   obtain ⟨v3, hv3, h⟩:=zn h
   refine yx hn 3 ?_
   refine yS (fb v3) 1 ⟨rV _ _ _ (prefix_.length:Int) (s.length:Int) _ underlying28 qp rfl rfl ⟨_,rfl⟩ rfl hv3⟩ ?_
   refine dv [4] ?_
   refine bO ?_
   refine bw ?_
   obtain rfl:=zi h
   exact bP hio rfl (.tmp _ _ .nil) rfl rfl
  ·have h:=bQ hb2 h
   refine bU ?_
   refine bb ?_
   refine cF hn 2 [4] ?_
   refine bO ?_
   obtain rfl:=zi h
   exact bP hio rfl (.tmp _ _ .nil) rfl rfl
theorem zQ (mx:Int×Nat×Value) (b:(List Int)) (r:((List Int)×Int×Int)) (h:Sh.qT b=some r):lX Tryz.prog (GL mx) 84 [.fl .shr 1 (map (int .u8) b)] (.tup [.fl (.own 5) 1 (map (int .u8) r.1), .v (.int .i64 r.2.1), .v (.int .i64 r.2.2)]):=by
  unfold Sh.qT at h
  refine yG 39 func84 fun g0 hn hio => ?_
  refine lp hn 0 ?_
  refine yS (.box 28 [vz]) 2 ⟨oA (dh _ _ Ky)⟩ ?_
  refine dv [0,39,2] ?_
  refine aM ?_
  obtain ⟨v1, hv1, h⟩:=zn h
  refine yx hn 1 ?_
  refine ys 0 ⟨lg call94 (vy _ _ _ hv1) 39⟩ ?_
  refine ym 4 ?_
  refine dv [0,39,2,5,6] ?_
  refine aM ?_
  refine cF hn 2 [0,39,2,5,15] ?_
  refine bL _ rfl (fun hb2 => ?_) (fun hb2 => ?_)
  ·have h:=bT hb2 h
   refine cF hn 3 [39,2,3,4] ?_
   refine bO ?_
   refine bG [1,2,3] (by kernel_rfl) (es':=[(_,_),(_,_),(_,_)]) rfl ?_
   refine fe (fs:=[(2,.box 28 [.fl (.own 5) 1 (map (int .u8) [])]),(3,vi 0),(4,vi 9)]) (.box _ _ (bq (ek 5 1) (dO)) rfl (.same _ (.same _ .nil))) ?_
   refine bw ?_
   obtain rfl:=zi h
   exact bP hio rfl (.cell1 _ _ _ _ underlying28 rfl (.tmp _ _ (.tmp _ _ .nil))) rfl rfl
  ·have h:=bQ hb2 h
   refine bU ?_
   refine bb (aM ?_)
   refine aM ?_
   obtain ⟨v3, hv3, h⟩:=zn h
   obtain ⟨v4, hv4, h⟩:=zn h
   refine yx hn 2 ?_
   refine yS (fb v3) 0 ⟨rV _ _ _ 0 v1.1 _ underlying28 qp rfl rfl rfl ⟨_,rfl⟩ hv3⟩ ?_
   refine ys 1 ⟨lg call95 (nI _ _ _ hv4) 39⟩ ?_
   refine dv [0,39,2,5,7] ?_
   refine cF hn 2 [0,39,2,5,7,21] ?_
   refine bL _ rfl (fun hb5 => ?_) (fun hb5 => ?_)
   ·have h:=bT hb5 h
    refine cF hn 4 [39,2,3,4] ?_
    refine bO ?_
    refine bG [1,2,3] (by kernel_rfl) (es':=[(_,_),(_,_),(_,_)]) rfl ?_
    refine fe (fs:=[(2,.box 28 [.fl (.own 5) 1 (map (int .u8) [])]),(3,vi 0),(4,vi v4)]) (.box _ _ (bq (ek 5 1) (dO)) rfl (.same _ (.same _ .nil))) ?_
    refine bw ?_
    obtain rfl:=zi h
    exact bP hio rfl (.cell1 _ _ _ _ underlying28 rfl (.tmp _ _ (.tmp _ _ .nil))) rfl rfl
   ·have h:=bQ hb5 h
    refine bU ?_
    refine bb (aM ?_)
    refine aM ?_
    obtain ⟨v6, hv6, h⟩:=zn h
    obtain ⟨v7, hv7, h⟩:=zn h
    refine yx hn 2 ?_
    refine yS (fb v6) 0 ⟨rV _ _ _ 0 v1.1 _ underlying28 qp rfl rfl rfl ⟨_,rfl⟩ hv6⟩ ?_
    refine yk [] [25] ?_
    refine yt (26,.cloB 123 [.box 28 [fb v7]]) 0 ⟨ld _ _ 96 _ _ rfl call96 rfl rfl (kY v6 _ hv7) rfl⟩ ?_
    refine dv [39,2,5,26] ?_
    refine cA ?_
    refine nH [3,0,1,2] (by kernel_rfl) (es':=[(26,.cloB 123 [.box 28 [fb v7]]),(39,.glob (GL mx)),(2,.box 28 [vz]),(5,vi v1.1)]) rfl ?_
    refine um (fs:=[(26,.cloB 123 [.box 28 [fb v7]]),(39,.glob (GL mx)),(2,.box 28 [.fl (.own 5) 1 (map (int .u8) [])]),(5,vi v1.1)]) (.same _ (.same _ (.box _ _ (bq (ek 5 1) (dO)) rfl (.same _ .nil)))) ?_
    refine lY h 123 26 27 40 _ [39, 2, 5] call123 (fun (s12:(List Int))=>[(39, .glob (GL mx)), (2, .box 28 [.fl (.own 5) 1 (map (int .u8) s12)]), (5, .v (.int .i64 v1.1))]) (fun (():Unit)=>[]) (fun l J Y hY t t' h=>jC mx l J Y hY v7 t t' h) hn rfl (fun _=>rfl) (fun _=>rfl) (fun _=>rfl) rfl rfl (fun _=>⟨rfl, rfl⟩) rfl (lQ 39 rfl) ?_ ?_ ?_
    ·rintro kk g0 hn hio x s12 u h
     refine wD (es':=[(27,fb x),(39,.glob (GL mx)),(2,.box 28 [.fl (.own 5) 1 (map (int .u8) s12)]),(5,vi v1.1),(39,.v (kk.tm.getD 39 undef)),(2,.v (kk.tm.getD 2 undef)),(5,.v (kk.tm.getD 5 undef)),(40,.inv kk.ready)]) rfl ?_
     refine yy hn 1 [39,2,5,40,8,39,2,5] ?_
     refine bG [0,1,2,4,5,6,7,3] (by kernel_rfl) (es':=[(39,.glob (GL mx)),(2,.box 28 [.fl (.own 5) 1 (map (int .u8) s12)]),(5,vi v1.1),(8,fb x),(39,.v (kk.tm.getD 39 undef)),(2,.v (kk.tm.getD 2 undef)),(5,.v (kk.tm.getD 5 undef)),(40,.inv kk.ready)]) rfl ?_
     refine nK (es:=[(39,.glob (GL mx)),(2,.box 28 [.fl (.own 5) 1 (map (int .u8) s12)]),(5,vi v1.1),(8,fb x),(39,.v (kk.tm.getD 39 undef)),(2,.v (kk.tm.getD 2 undef)),(5,.v (kk.tm.getD 5 undef))]) 40 rfl ?_
     refine cA ?_
     refine aM ?_
     obtain ⟨v8, hv8, h⟩:=zn h
     obtain ⟨v9, hv9, h⟩:=zn h
     refine wb [[2],[8]] ?_
     refine wN [] ?_
     refine wS (.fl (.own 5) 1 (map (int .u8) [46])) [] ⟨dJ _ _ 1 (.int .u8 0) (map (int .u8) [46]) [(0,.int .u8 46)] underlying28 qp zS (fun _ V w o a hv hes=>by simp only [List.map_toArray,List.map_cons,List.map_nil]; try rfl) (fT (by simp [Instr.fill,Value.cells]; rfl) (by simp [List.range,List.range.loop] <;> rfl)) (by simp [Value.oneCell']) rfl (by decide) (by decide) (by decide)⟩ ?_
     refine wK [30] [] ?_
     refine wt [(31,.fl .ro 1 (map (int .u8) [46]))] [] ⟨jq _ _ _ underlying28 underlying5 (by intro h; cases h)⟩ ?_
     refine wN [29,31] ?_
     refine wS (fb v8) [] ⟨ld _ _ 97 _ _ rfl call97 rfl rfl (qQ x [46] _ hv8) rfl⟩ ?_
     refine wK [2] [28,32] ?_
     refine wt [(2,.box 28 [.any]),(33,.fl (.own 5) 1 (map (int .u8) v9))] [] ⟨mb _ _ _ _ _ _ oz rfl rfl (zl rfl) rfl (kA _) (kA _) hv9 ((List.map_append).symm.trans (congrArg (map _) (oo hv9))) (Nat.ne_of_beq_eq_false rfl) rfl rfl⟩ ?_
     refine wK [28,33,2] [] ?_
     refine wt [(2,.box 28 [.fl (.own 5) 1 (map (int .u8) v9)])] [] ⟨cM.drop [_] (cO _ _ _ _ _ _ _ _ pW rfl rfl rfl (zl rfl) rfl rfl)⟩ ?_
     refine Af hn [39,2,5,40,39,2,5] ?_
     obtain ⟨v10, hv10, h⟩:=zn h
     refine yx hn 1 ?_
     refine yk [2] [34] ?_
     refine tg (2,.box 28 [.any]) (35,.fl (.own 5) 1 (map (int .u8) v10)) 0 ⟨iF _ _ _ _ _ _ oz zS underlying9 rfl rfl (zl rfl) rfl rfl hv10 rfl (Nat.ne_of_beq_eq_false rfl) rfl rfl⟩ ?_
     refine yw [34] 0 ?_
     refine yk [35,2] [] ?_
     refine yt (2,.box 28 [.fl (.own 5) 1 (map (int .u8) v10)]) 0 ⟨cO _ _ _ _ _ _ _ _ pW rfl rfl rfl (zl rfl) rfl rfl⟩ ?_
     refine ye [39,2,5,40,39,2,5] ?_
     refine cG ?_
     refine bG [0,1,2,4,5,6,3] (by kernel_rfl) (es':=[(_,_),(_,_),(_,_),(_,_),(_,_),(_,_),(_,_)]) rfl ?_
     obtain rfl:=zi h
     exact nZ 40 [39, 2, 5] _ rfl rfl (by kernel_rfl)
    ·rintro D s12 h
     refine cG ?_
     refine bb (aM ?_)
     obtain ⟨v13, hv13, h⟩:=zn h
     refine yx hn 2 ?_
     refine ys 0 ⟨lb hv13⟩ ?_
     refine yk [2] [36] ?_
     refine yt (2,.box 28 [.fl (.own 5) 1 (map (int .u8) s12)]) 2 ⟨zh _ _ _ 2 0 pW rfl rfl rfl (zl rfl)⟩ ?_
     refine dv [39,2,3,4] ?_
     refine bO ?_
     refine bG [1,2,3] (by kernel_rfl) (es':=[(_,_),(_,_),(_,_)]) rfl ?_
     obtain rfl:=zi h
     exact bP hio rfl (.cell1 _ _ _ _ underlying28 rfl (.tmp _ _ (.tmp _ _ .nil))) rfl rfl
    ·rintro D ⟨⟩ h
     cases h
theorem jz (xs:List Value):un Tryz.prog 145 [.hid (lF 153 5 false xs)] [.hid (lF 153 5 true xs)] (.tup []) :=
  Hu (by decide) (fun b w h1 h2 h3=>Tryz.Builder_copyCheck_fresh b w h1 h2 h3) (fun b w h=>Tryz.Builder_copyCheck_used b w h)
theorem gF (xs:List Int) (c:Int) (r:List Int) (h:fZ 1 xs [c]=some r):un Tryz.prog 125 [.hid (lF 153 5 false (map (int .u8) xs)), .v (.int .u8 c)] [.hid (lF 153 5 false (map (int .u8) r))] (.v .nilIface):=by
  refine un.bldW ?_
  refine Ci func125 rfl (zl rfl) rfl (zl rfl) fun args0 hargs0 g0 hn hio => ?_
  refine Lg hn [_,_,_,(4,.v .nilIface)] [0,1,2] [0,1,2] [zq [] 3 4] [(_,_),(_,_),(_,_)] rfl ⟨z2 rfl,zz⟩ ?_
  refine Lg hn [_,_,_,(5,.same (.slot 0)),(0,.hid (lF 153 5 true (map (int .u8) xs))),(6,.tup [])] [0,1,2] [4,1,2] [zq [] 3 5,⟨[3],[0],[4,5],[(.slot 6)]⟩] [(_,_),(_,_),(_,_)] rfl ⟨zp rfl (gp _ _ _ rfl),zp rfl (qA _ _ _ _ 6 145 [.tmp 5] [] _ _ _ rfl call145 rfl rfl rfl (jz _) (zl rfl) rfl rfl rfl rfl rfl rfl rfl),zz⟩ ?_
  refine xF 0 rfl ?_
  refine Lg hn (_::_::_::(7,.ptr 0 0)::(8,.ptr 0 0)::(9,.ptr 0 0)::(10,.ptr 0 1)::(11,.same (.cell 0 1))::(12,.v (.int .u8 c))::(13,.fl (.own 5) 1 (map (int .u8) [c]))::(14,.fl (.own 5) 1 (map (int .u8) r))::(0,.box 153 [.ptr 0 0,.any])::(15,.ptr 0 0)::(16,.ptr 0 1)::(0,.box 153 [.ptr 0 0,.fl (.own 5) 1 (map (int .u8) r)])::[]) [0,1,2] [14,2] [zq [0] 3 7,zq [0] 4 8,zq [4,0] 5 9,zq [5,0] 6 10,zq [6,0] 7 11,zq [1] 8 12,zq [8] 9 13,⟨[7,9],[0],[11,10],[(.slot 14)]⟩,zq [3,11] 12 15,zq [12,11] 13 16,⟨[13],[7,10,11],[14],[.cell 0 1]⟩] [(_,_),(_,_)] rfl ⟨z1 rfl,z1 rfl,zp rfl (nS _ _ _ 0 0 rfl (by decide)),zp rfl (oF underlying153 rfl pW),zp rfl (oL underlying28 rfl),z1 rfl,zp rfl (dJ _ _ 1 (.int .u8 0) (map (int .u8) [c]) [(0, .int .u8 c)] underlying28 qp zS (fun _ V w o a hv hes=>by have e0:=eA hv hes (x := .tmp 12) rfl; simp only [List.map_toArray, List.map_cons, List.map_nil, e0]; try rfl) (fT (by simp [Instr.fill, Value.cells]; rfl) (by simp [List.range, List.range.loop])) (by simp [Value.oneCell']) rfl (by decide) (by decide) (by decide)),zp rfl (mb _ _ _ _ _ _ oz rfl rfl (zl rfl) rfl (kA _) (kA _) h ((List.map_append).symm.trans (congrArg (map _) (oo h))) (Nat.ne_of_beq_eq_false rfl) rfl rfl),zp rfl (nS _ _ _ 0 0 rfl (by decide)),zp rfl (oF underlying153 rfl pW),zp rfl (cM.drop [_] (cO _ _ _ _ _ _ _ _ pW rfl rfl rfl (zl rfl) rfl rfl)),zz⟩ ?_
  refine Lg hn [_,_,(4,.v .nilIface)] [0,1] [0,1,2] [zq [] 2 4] [(_,_),(_,_),(_,_)] rfl ⟨z2 rfl,zz⟩ ?_
  refine bO ?_
  refine Ju 0 ?_
  refine bG [2,0,1] (by kernel_rfl) (es':=[(_,_),(_,_),(_,_)]) rfl ?_
  exact dS (es:=[(4, .v .nilIface)]) (posts:=[.hid (lF 153 5 true (map (int .u8) r))]) hio rfl rfl (.tmp _ _ .nil) rfl rfl hargs0 rfl
theorem uz (s:ByteArray) (c:Int) (r:ByteArray) (h:Sh.strings_Repeat s c=some r):eD Tryz.prog 127 [.v (.string s), .v (.int .i64 c)] (.v (.string r)):=tQ Tryz.strings_Repeat s c r h
theorem nA (xs:List Int) (s:ByteArray) (r:List Int) (h:fZ 1 xs (br s)=some r):un Tryz.prog 126 [.hid (lF 153 5 false (map (int .u8) xs)), .v (.string s)] [.hid (lF 153 5 false (map (int .u8) r))] (.tup [.v (.int .i64 (s.size:Int)), .v .nilIface]):=by
  refine un.bldW ?_
  refine Ci func126 rfl (zl rfl) rfl (zl rfl) fun args0 hargs0 g0 hn hio => ?_
  refine Lg hn [_,_,_,(4,vi 0),(5,.v .nilIface)] [0,1,2] [0,1,2] [zq [] 3 4,zq [] 4 5] [(_,_),(_,_),(_,_)] rfl ⟨z2 rfl,z2 rfl,zz⟩ ?_
  refine Lg hn [_,_,_,(6,.same (.slot 0)),(0,.hid (lF 153 5 true (map (int .u8) xs))),(7,.tup [])] [0,1,2] [4,1,2] [zq [] 3 6,⟨[3],[0],[4,5],[(.slot 7)]⟩] [(_,_),(_,_),(_,_)] rfl ⟨zp rfl (gp _ _ _ rfl),zp rfl (qA _ _ _ _ 7 145 [.tmp 6] [] _ _ _ rfl call145 rfl rfl rfl (jz _) (zl rfl) rfl rfl rfl rfl rfl rfl rfl),zz⟩ ?_
  refine xF 0 rfl ?_
  refine Lg hn (_::_::_::(8,.ptr 0 0)::(9,.ptr 0 0)::(10,.ptr 0 0)::(11,.ptr 0 1)::(12,.same (.cell 0 1))::(13,vs s)::(14,.fl (.own 5) 1 (map (int .u8) r))::(0,.box 153 [.ptr 0 0,.any])::(15,.ptr 0 0)::(16,.ptr 0 1)::(0,.box 153 [.ptr 0 0,.fl (.own 5) 1 (map (int .u8) r)])::[]) [0,1,2] [13,1,2] [zq [0] 3 8,zq [0] 4 9,zq [4,0] 5 10,zq [5,0] 6 11,zq [6,0] 7 12,zq [1] 8 13,⟨[7,8],[0],[10,9],[(.slot 14)]⟩,zq [3,10] 11 15,zq [11,10] 12 16,⟨[12],[7,9,10],[13],[.cell 0 1]⟩] [(_,_),(_,_),(_,_)] rfl ⟨z1 rfl,z1 rfl,zp rfl (nS _ _ _ 0 0 rfl (by decide)),zp rfl (oF underlying153 rfl pW),zp rfl (oL underlying28 rfl),z1 rfl,zp rfl (iF _ _ _ _ _ _ oz zS underlying9 rfl rfl (zl rfl) rfl rfl h rfl (Nat.ne_of_beq_eq_false rfl) rfl rfl),zp rfl (nS _ _ _ 0 0 rfl (by decide)),zp rfl (oF underlying153 rfl pW),zp rfl (cM.drop [_] (cO _ _ _ _ _ _ _ _ pW rfl rfl rfl (zl rfl) rfl rfl)),zz⟩ ?_
  refine Lg hn [_,_,_,(17,vs s),(18,vi (s.size:Int)),(4,vi (s.size:Int)),(5,.v .nilIface)] [0,1,2] [0,2,5,6] [zq [1] 3 17,zq [3] 4 18,zq [4] 5 4,zq [] 6 5] [(_,_),(_,_),(_,_),(_,_)] rfl ⟨z1 rfl,zp rfl (oN underlying9 rfl),z2 rfl,z2 rfl,zz⟩ ?_
  refine bO ?_
  refine Ju 0 ?_
  refine bG [2,3,0,1] (by kernel_rfl) (es':=[(_,_),(_,_),(_,_),(_,_)]) rfl ?_
  exact dS (es:=[(4, .v (.int .i64 (s.size:Int))), (5, .v .nilIface)]) (posts:=[.hid (lF 153 5 true (map (int .u8) r))]) hio rfl rfl (.tmp _ _ (.tmp _ _ .nil)) rfl rfl hargs0 rfl
theorem kL (xs:List Int) (s:ByteArray) (h:Jr xs=some s):un Tryz.prog 128 [.hid (lF 153 5 false (map (int .u8) xs))] [] (.v (.string s)):=by
  refine Ci func128 rfl (zl rfl) rfl (zl rfl) fun args0 hargs0 g0 hn hio => ?_
  refine FT 0 fun v => ?_
  refine Lg hn [_,(2,vs ByteArray.empty)] [0] [0] [zq [] 1 2] [(_,_)] rfl ⟨z2 rfl,zz⟩ ?_
  refine aM ?_
  refine sY (by kernel_rfl) hn (El:=[_,(3,.same (.slot 0)),(4,.ptr 0 0),(5,.ptr 0 1),(6,.v v),(7,.hid (Ll v)),(8,.same (.slot 0)),(9,.ptr 0 0),(10,.ptr 0 1),(11,.v v),(12,vi ((map (int .u8) xs).length:Int)),(13,vs s),(2,vs s)]) (init:=[0]) (fin:=[12]) (sps:=[zq [] 1 3,zq [1,0] 2 4,zq [2] 3 5,zq [3,0] 4 6,zq [4,0] 5 7,zq [] 6 8,zq [6,0] 7 9,zq [7] 8 10,zq [8,0] 9 11,zq [9,0] 10 12,⟨[5,10],[0],[11],[(.slot 13)]⟩,zq [11] 12 2]) (es':=[(2,vs s)]) (by kernel_rfl) rfl rfl ⟨zp rfl (gp _ _ _ rfl),zp rfl (ry _ _ _ 0 rfl rfl (by decide)),zp rfl (oF underlying153 rfl pW),zp rfl (wH _ _ _ 0 underlying28 rfl rfl rfl),zp rfl (LW _ _ 0 underlying173 rfl rfl),zp rfl (gp _ _ _ rfl),zp rfl (ry _ _ _ 0 rfl rfl (by decide)),zp rfl (oF underlying153 rfl pW),zp rfl (wH _ _ _ 0 underlying28 rfl rfl rfl),zp rfl (Fu _ _ 0 underlying28 rfl rfl),zp rfl (KQ _ _ 0 underlying173 (by kernel_rfl) rfl rfl h),z2 rfl,zz⟩ ?_
  refine bb (bO ?_)
  exact dS (es:=[(2, .v (.string s))]) (posts:=[]) hio rfl rfl (.tmp _ _ .nil) rfl rfl hargs0 rfl
theorem oZ (b:(List Int)) (r:ByteArray) (h:Sh.nU b=some r):eD Tryz.prog 98 [.fl .shr 1 (map (int .u8) b)] (.v (.string r)):=by
  unfold Sh.nU at h
  refine yO 61 func98 fun g0 hn hio => ?_
  refine cF hn 1 [0] ?_
  refine lp hn 0 ?_
  refine yS (.hid (lF 153 5 false (map (int .u8) ([]:List Int)))) 0 ⟨oA (cM.bld0 (dh _ _ LH))⟩ ?_
  refine dv [0,3] ?_
  refine aM ?_
  refine cF hn 1 [0,3,4] ?_
  refine dx h (fun ((s89,s90):(List Int)×Int)=>[(0,fb b),(3,.hid (lF 153 5 false (map (int .u8) s89))),(4,vi s90)]) (fun (s122:(List Int))=>[(3,.hid (lF 153 5 false (map (int .u8) s122)))]) ?_ ?_
  ·rintro s122 h
   refine bb (aM ?_)
   obtain ⟨v160, hv160, h⟩:=zn h
   refine yx hn 0 ?_
   refine yk [3] [] ?_
   refine yt (60,vs v160) 1 ⟨qA _ _ _ _ 60 128 [.tmp 3] [] _ _ _ rfl call128 rfl rfl rfl (kL s122 _ hv160) (zl rfl) rfl rfl rfl rfl rfl rfl rfl⟩ ?_
   refine dv [2] ?_
   refine bO ?_
   obtain rfl:=zi h
   exact bP hio rfl (.tmp _ _ .nil) rfl rfl
  ·rintro u123 hl124 hr125 ⟨s89, s90⟩ rr128 h ho126
   refine aM ?_
   refine cF hn 4 [0,3,4,13] ?_
   refine bL _ rfl (fun hb129 => ?_) (fun hb129 => ?_)
   ·have h:=bT hb129 h
    refine bU ?_
    refine bb (aM ?_)
    refine cA ?_
    refine aM ?_
    obtain ⟨v2, hv2, h⟩:=zn h
    obtain ⟨v3, hv3, h⟩:=zn h
    refine yx hn 3 ?_
    refine ys 0 ⟨lb hv2⟩ ?_
    refine yS (vi v3) 1 ⟨(Option.some.inj hv3) ▸ CH _ _ _ _ rfl rfl⟩ ?_
    refine dv [0,3,4,5] ?_
    refine cF hn 1 [0,3,4,5,6] ?_
    refine aM ?_
    refine aM ?_
    obtain ⟨v4, hv4, h⟩:=zn h
    obtain ⟨v5, hv5, h⟩:=zn h
    refine yx hn 4 ?_
    refine ys 0 ⟨lb hv4⟩ ?_
    refine yS (fb v5) 2 ⟨rV _ _ _ s90 v4 _ underlying28 qp rfl rfl ⟨_,rfl⟩ ⟨_,rfl⟩ hv5⟩ ?_
    refine dv [0,3,4,5,6,26,27,28] ?_
    refine dx h (fun ((s134,s135):Int×Int)=>[(0,fb b),(3,.hid (lF 153 5 false (map (int .u8) s89))),(4,vi s90),(5,vi v3),(6,.v (.int .u32 s134)),(26,fb v5),(27,vi (v5.length:Int)),(28,vi s135)]) (fun (s137:Int)=>[(0,fb b),(3,.hid (lF 153 5 false (map (int .u8) s89))),(4,vi s90),(5,vi v3),(6,.v (.int .u32 s137))]) ?_ ?_
    ·rintro s137 h
     refine bb (aM ?_)
     refine aM ?_
     obtain ⟨v29, hv29, h⟩:=zn h
     refine yx hn 1 ?_
     refine ys 1 ⟨lb hv29⟩ ?_
     refine dv [0,3,4,5,6,43,44] ?_
     refine dx h (fun ((s149,s150):(List Int)×Int)=>[(0,fb b),(3,.hid (lF 153 5 false (map (int .u8) s149))),(4,vi s90),(5,vi v3),(6,.v (.int .u32 s137)),(43,vi v29),(44,vi s150)]) (fun (s152:(List Int))=>[(0,fb b),(3,.hid (lF 153 5 false (map (int .u8) s152))),(4,vi s90),(5,vi v3)]) ?_ ?_
     ·rintro s152 h
      refine bb ?_
      obtain ⟨v52, hv52, h⟩:=zn h
      obtain ⟨v53, hv53, h⟩:=zn h
      obtain ⟨v54, hv54, h⟩:=zn h
      refine yx hn 1 ?_
      refine ys 0 ⟨lb hv52⟩ ?_
      refine ys 0 ⟨lk call127 (uz _ _ _ hv53)⟩ ?_
      refine yq call126 (nA _ _ _ hv54) 3 [58] 0 ?_
      refine ye [0,3,4] ?_
      refine cG ?_
      refine bb ?_
      obtain ⟨v55, hv55, h⟩:=zn h
      refine yx hn 1 ?_
      refine ys 0 ⟨lb hv55⟩ ?_
      refine yw [4] 1 ?_
      refine ye [0,3,4] ?_
      exact dM _ (zi h).symm rfl
     ·rintro u153 hl154 hr155 ⟨s149, s150⟩ rr158 h ho156
      refine cF hn 1 [0,3,4,5,6,43,44,45] ?_
      refine aM ?_
      refine bL _ rfl (fun hb159 => ?_) (fun hb159 => ?_)
      ·have h:=bT hb159 h
       refine bU ?_
       refine bb (aM ?_)
       refine cA ?_
       refine cF hn 2 [0,3,4,5,6,43,44,9] ?_
       obtain ⟨v31, hv31, h⟩:=zn h
       obtain ⟨v32, hv32, h⟩:=zn h
       obtain ⟨v33, hv33, h⟩:=zn h
       obtain ⟨v34, hv34, h⟩:=zn h
       obtain ⟨v35, hv35, h⟩:=zn h
       obtain ⟨v36, hv36, h⟩:=zn h
       refine yx hn 2 ?_
       refine ys 0 ⟨lb hv31⟩ ?_
       refine ys 0 ⟨lb hv32⟩ ?_
       refine ys 0 ⟨lB (rk hv33)⟩ ?_
       refine ys 0 ⟨lb hv34⟩ ?_
       refine ys 0 ⟨lh hv35⟩ ?_
       refine yq call125 (gF _ _ _ hv36) 3 [53] 0 ?_
       refine ye [0,3,4,5,6,43,44] ?_
       refine cG ?_
       refine bb ?_
       obtain ⟨v37, hv37, h⟩:=zn h
       refine yx hn 0 ?_
       refine ys 0 ⟨lb hv37⟩ ?_
       refine yw [44] 1 ?_
       refine ye [0,3,4,5,6,43,44] ?_
       exact dM _ (zi h).symm rfl
      ·have h:=bQ hb159 h
       refine dK ?_
       refine cd ?_
       refine cd ?_
       refine dL ?_
       refine bG [0,1,2,3] (by kernel_rfl) (es':=[(_,_),(_,_),(_,_),(_,_)]) rfl ?_
       exact hl154 _ (ho156 _ (zi h).symm).symm
    ·rintro u138 hl139 hr140 ⟨s134, s135⟩ rr143 h ho141
     refine cF hn 1 [0,3,4,5,6,26,27,28,29] ?_
     refine aM ?_
     refine bL _ rfl (fun hb144 => ?_) (fun hb144 => ?_)
     ·have h:=bT hb144 h
      refine bU ?_
      refine bb (aM ?_)
      refine cA ?_
      refine aM ?_
      obtain ⟨v7, hv7, h⟩:=zn h
      obtain ⟨v8, hv8, h⟩:=zn h
      refine yx hn 1 ?_
      refine ys 0 ⟨li hv7⟩ ?_
      refine ys 2 ⟨ll hv8⟩ ?_
      refine dv [0,3,4,5,6,26,27,28,7,8] ?_
      obtain ⟨v9, hv9, h⟩:=zn h
      obtain ⟨v10, hv10, h⟩:=zn h
      obtain ⟨v11, hv11, h⟩:=zn h
      obtain ⟨v12, hv12, h⟩:=zn h
      obtain ⟨v13, hv13, h⟩:=zn h
      refine yx hn 2 ?_
      refine ys 1 ⟨lv hv9⟩ ?_
      refine ys 0 ⟨lb hv10⟩ ?_
      refine ys 0 ⟨lb hv11⟩ ?_
      refine ys 0 ⟨lB (wg hv12)⟩ ?_
      refine ys 0 ⟨lb hv13⟩ ?_
      refine yw [6] 1 ?_
      refine ye [0,3,4,5,26,27,28,6] ?_
      refine cG ?_
      refine bb ?_
      obtain ⟨v14, hv14, h⟩:=zn h
      refine yx hn 0 ?_
      refine ys 0 ⟨lb hv14⟩ ?_
      refine yw [28] 1 ?_
      refine ye [0,3,4,5,26,27,6,28] ?_
      refine bG [0,1,2,3,6,4,5,7] (by kernel_rfl) (es':=[(_,_),(_,_),(_,_),(_,_),(_,_),(_,_),(_,_),(_,_)]) rfl ?_
      exact dM _ (zi h).symm rfl
     ·have h:=bQ hb144 h
      refine dK ?_
      refine cd ?_
      refine cd ?_
      refine dL ?_
      refine bG [0,1,2,3,4] (by kernel_rfl) (es':=[(_,_),(_,_),(_,_),(_,_),(_,_)]) rfl ?_
      exact hl139 _ (ho141 _ (zi h).symm).symm
   ·have h:=bQ hb129 h
    refine dK ?_
    refine cd ?_
    refine cd ?_
    refine dL ?_
    refine bG [1] (by kernel_rfl) (es':=[(_,_)]) rfl ?_
    exact hl124 _ (ho126 _ (zi h).symm).symm
theorem sD (code:Int) (r:Bool) (h:Sh.nN code=some r):eD Tryz.prog 99 [.v (.int .i64 code)] (.v (.bool r)):=by
  unfold Sh.nN at h
  refine yO 9 func99 fun g0 hn hio => ?_
  refine cF hn 1 [0] ?_
  refine aM ?_
  refine ce h (fun (s1:Bool)=>[(2,vb s1)]) ?_ ?_
  ·rintro s1 h
   refine bb (bO ?_)
   obtain rfl:=zi h
   exact bP hio rfl (.tmp _ _ .nil) rfl rfl
  ·intro u2 h hl3 hr4
   refine bJ h (fun hg1_2 h => ?_) (fun hg1_2 h => ?_)
   ·refine yx hn 3 ?_
    refine yd hg1_2 4 ?_
    refine ye [2] ?_
    exact hl3 _ (zi h).symm
   ·refine yx hn 3 ?_
    refine yd hg1_2 4 ?_
    refine ye [2] ?_
    exact hl3 _ (zi h).symm
theorem jp (s:aa) (code:Int) (r:(fw×aa)) (h:Sh.gK s code=some r):un Tryz.prog 85 [.box 80 (aa.b s), .v (.int .i64 code)] [.box 80 (aa.b r.2)] (.agg [.v (.int .i64 r.1.Code), .fl (.own 9) 1 (map Value.string r.1.Lines)]):=by
  unfold Sh.gK at h
  refine yP 24 func85 fun args0 hargs0 g0 hn hio => ?_
  refine lp hn 0 ?_
  refine yS (.box 51 [vi 0,vz]) 0 ⟨oA (dh _ _ Ke)⟩ ?_
  refine dv [0,1,4,0] ?_
  refine cF hn 1 [0,1,4,5,0] ?_
  refine aM ?_
  refine ce h (fun (s6:ByteArray)=>[(0,.box 80 (aa.b s)),(1,vi code),(4,.box 51 [vi 0,vz]),(5,vs s6),(0,.v (List.getD args0 0 undef))]) ?_ ?_
  ·rintro s6 h
   refine bb ?_
   refine lp hn 2 ?_
   refine yS (.fl (.own 9) 1 (map Value.string [s6])) 0 ⟨dJ _ _ 1 (.string ByteArray.empty) (map Value.string [s6]) [(0,.string s6)] underlying49 Am Oj (fun _ V w o a hv hes=>by have e0:=eA hv hes (x := .tmp 21) rfl; simp only [List.map_toArray,List.map_cons,List.map_nil,e0]; try rfl) (fT (by simp [Instr.fill,Value.cells]; rfl) (by simp [List.range,List.range.loop] <;> rfl)) (by simp [Value.oneCell']) rfl (by decide) (by decide) (by decide)⟩ ?_
   refine yk [22] [20] ?_
   refine yt (23,.agg [vi code,.fl (.own 9) 1 (map Value.string [s6])]) 0 ⟨dQ _ _ _ _ [1,1] _ _ underlying51 Ke (Ny _ underlying51) (.copy _ (.take _ _ rE.nil)) rfl rfl rfl⟩ ?_
   refine yk [23,4] [] ?_
   refine yt (4,.box 51 [vi code,.fl (.own 9) 1 (map Value.string [s6])]) 0 ⟨cO _ _ _ _ _ _ _ _ Kx rfl rfl rfl (zl rfl) rfl rfl⟩ ?_
   refine dv [0,4,0] ?_
   refine bO ?_
   refine bG [1,0,2] (by kernel_rfl) (es':=[(_,_),(_,_),(_,_)]) rfl ?_
   obtain rfl:=zi h
   exact dS (es:=[(4, .box 51 [.v (.int .i64 code),.fl (.own 9) 1 (map Value.string [s6])])]) (posts:=[.box 80 (aa.b s)]) hio rfl rfl (.cellA _ _ _ _ underlying51 rfl Kx .nil) rfl rfl hargs0 rfl
  ·intro u7 h hl8 hr9
   refine cA ?_
   refine cF hn 3 [0,1,4,5,6,0] ?_
   refine bL _ rfl (fun hb10 => ?_) (fun hb10 => ?_)
   ·have h:=bT hb10 h
    obtain ⟨v2, hv2, h⟩:=zn h
    obtain ⟨v3, hv3, h⟩:=zn h
    refine yx hn 5 ?_
    refine ys 0 ⟨lT hv2⟩ ?_
    refine ys 0 ⟨lk call98 (oZ _ _ hv3)⟩ ?_
    refine yw [5] 1 ?_
    refine ye [0,1,4,5,0] ?_
    refine cG ?_
    exact hl8 _ (zi h).symm
   ·have h:=bQ hb10 h
    refine aM ?_
    obtain ⟨v4, hv4, h⟩:=zn h
    refine yx hn 1 ?_
    refine ys 2 ⟨lk call99 (sD _ _ hv4)⟩ ?_
    refine dv [0,1,4,5,16,0] ?_
    refine bL _ rfl (fun hb11 => ?_) (fun hb11 => ?_)
    ·have h:=bT hb11 h
     refine yx hn 0 ?_
     refine yw [5] 1 ?_
     refine ye [0,1,4,5,0] ?_
     refine cG ?_
     exact hl8 _ (zi h).symm
    ·have h:=bQ hb11 h
     refine bU ?_
     refine cG ?_
     refine bG [0,1,2,3,5] (by kernel_rfl) (es':=[(_,_),(_,_),(_,_),(_,_),(_,_)]) rfl ?_
     exact hl8 _ (zi h).symm
theorem rD (mx:Int×Nat×Value) (n:Int) (r:ByteArray) (h:Sh.strconv_Itoa n=some r):lX Tryz.prog (GL mx) 150 [.v (.int .i64 n)] (.v (.string r)):=vR (by kernel_rfl) (KJ mx) (by rfl) (fun n w h0 h1 ht=>Tryz.strconv_Itoa n h0 h1 w ht) n r h
end Go.Proofs.YtjnnkhmhjcjhdaaGreatDoor
