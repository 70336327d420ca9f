/-
  The model's runs are what is told in Lean.
-/
import Derived.Test.YtjnnkhmhjcjhdaaGreatDoorProg
import Derived.KernelRfl
import Derived.Test.YtjnnkhmhjcjhdaaGreatDoorShelf
import Derived.Test.YtjnnkhmhjcjhdaaGreatDoorIdx
import Derived.Test.YtjnnkhmhjcjhdaaGreatDoorB3
import Derived.Test.YtjnnkhmhjcjhdaaGreatDoorC1
import Derived.Test.YtjnnkhmhjcjhdaaGreatDoorBC
import Derived.Test.YtjnnkhmhjcjhdaaGreatDoorOkc8
set_option linter.unusedVariables false
set_option linter.unusedSimpArgs false
set_option maxHeartbeats 1000000
namespace Go.Proofs.YtjnnkhmhjcjhdaaGreatDoor
open Go.Abs Go.Abs.Sh Tryz
open List (map flatten)
open Value (int)
theorem iB (mx:Int×Nat×Value) (r:Bool) (h:Sh.fx  = some r):lX Tryz.prog (GL mx) 14 [] (.v (.bool r)):=by
  unfold Sh.fx at h
  refine yG 51 func14 fun g0 hn hio => ?_
  refine cF hn 1 [51] ?_
  refine aM ?_
  obtain ⟨v1, hv1, h⟩:=zn h
  obtain ⟨v2, hv2, h⟩:=zn h
  obtain ⟨v3, hv3, h⟩:=zn h
  refine yx hn 0 ?_
  refine ys 0 ⟨lk call20 (gG _ hv1)⟩ ?_
  refine ys 0 ⟨lk call22 (wC _ _ hv2)⟩ ?_
  refine yS (.fl (.own 5) 1 (map (int .u8) [77,65,73,76,32,70,82,79,77,58,60,62,13,10,69,72,76,79,32,104,13,10])) 0 ⟨dJ _ _ 1 (.int .u8 0) (map (int .u8) [77,65,73,76,32,70,82,79,77,58,60,62,13,10,69,72,76,79,32,104,13,10]) [(0,.int .u8 77),(1,.int .u8 65),(2,.int .u8 73),(3,.int .u8 76),(4,.int .u8 32),(5,.int .u8 70),(6,.int .u8 82),(7,.int .u8 79),(8,.int .u8 77),(9,.int .u8 58),(10,.int .u8 60),(11,.int .u8 62),(12,.int .u8 13),(13,.int .u8 10),(14,.int .u8 69),(15,.int .u8 72),(16,.int .u8 76),(17,.int .u8 79),(18,.int .u8 32),(19,.int .u8 104),(20,.int .u8 13),(21,.int .u8 10)] underlying28 qp zS (fun _ V w o a hv hes=>by simp only [List.map_toArray,List.map_cons,List.map_nil]; try rfl) (fT (by simp [Instr.fill,Value.cells]; rfl) (by simp [List.range,List.range.loop] <;> rfl)) (by simp [Value.oneCell']) rfl (by decide) (by decide) (by decide)⟩ ?_
  refine yk [7] [] ?_
  refine yt (8,.fl .ro 1 (map (int .u8) [77,65,73,76,32,70,82,79,77,58,60,62,13,10,69,72,76,79,32,104,13,10])) 0 ⟨jq _ _ _ underlying28 underlying5 (by intro h; cases h)⟩ ?_
  refine ys 0 ⟨lg call13 (oW _ _ _ _ _ _ _ hv3) 51⟩ ?_
  refine ym 0 ?_
  refine yS (.agg [vi v3.1.Phase,vs v3.1.Helo,vb v3.1.From.Null,vs v3.1.From.Local,vs v3.1.From.Domain,.fl .ro 3 (flatten (map bu.enc v3.1.To)),vb v3.1.Quiet,.fl .ro 1 (map (int .u8) v3.1.Buf),vs v3.1.Challenge,vb v3.1.Proved]) 2 ⟨jM _ _ _ _ _ _ rfl rfl (zl rfl) rfl rfl⟩ ?_
  refine yS (.box 30 [vi 0,vs z0,vb false,vs z0,vs z0,vz,vb false,vz,vs z0,vb false]) 3 ⟨oA (dh _ _ Ao)⟩ ?_
  refine dv [51,1,2,3] ?_
  refine aM ?_
  refine ce h (fun (s10:Bool)=>[(51,.glob (GL mx)),(0,vb s10)]) ?_ ?_
  ·rintro s10 h
   refine bb (bO ?_)
   refine bG [1] (by kernel_rfl) (es':=[(_,_)]) rfl ?_
   obtain rfl:=zi h
   exact bP hio rfl (.tmp _ _ .nil) rfl rfl
  ·intro u11 h hl12 hr13
   refine bJ h (fun hg2_2 h => ?_) (fun hg2_2 h => ?_)
   ·refine bJ h (fun hg2_7 h => ?_) (fun hg2_7 h => ?_)
    ·obtain ⟨v4, hv4, h⟩:=zn h
     obtain ⟨v5, hv5, h⟩:=zn h
     refine bJ h (fun hg2_15 h => ?_) (fun hg2_15 h => ?_)
     ·obtain ⟨v6, hv6, h⟩:=zn h
      obtain ⟨v7, hv7, h⟩:=zn h
      refine bJ h (fun hg2_23 h => ?_) (fun hg2_23 h => ?_)
      ·refine bJ h (fun hg2_28 h => ?_) (fun hg2_28 h => ?_)
       ·refine bJ h (fun hg2_33 h => ?_) (fun hg2_33 h => ?_)
        ·obtain ⟨v8, hv8, h⟩:=zn h
         obtain ⟨v9, hv9, h⟩:=zn h
         refine yx hn 3 ?_
         refine yd hg2_2 5 ?_
         refine yd hg2_7 1 ?_
         refine ys 2 ⟨lI hv4⟩ ?_
         refine yS (vi v5.Reply.Code) 3 ⟨dp _ _ _ _ _ _ _ underlying3 rfl rfl rfl (dt (j:=0) cc.ilen hv5 rfl) (.v _)⟩ ?_
         refine yd hg2_15 1 ?_
         refine ys 2 ⟨lI hv6⟩ ?_
         refine yS (vi v7.Reply.Code) 3 ⟨dp _ _ _ _ _ _ _ underlying3 rfl rfl rfl (dt (j:=0) cc.ilen hv7 rfl) (.v _)⟩ ?_
         refine yd hg2_23 5 ?_
         refine yd hg2_28 5 ?_
         refine yd hg2_33 0 ?_
         refine ys 0 ⟨lk call20 (gG _ hv8)⟩ ?_
         refine ys 3 ⟨lg call35 (sx _ _ _ hv9) 51⟩ ?_
         refine ye [51,0] ?_
         exact hl12 _ (zi h).symm
        ·refine yx hn 3 ?_
         refine yd hg2_2 5 ?_
         refine yd hg2_7 1 ?_
         refine ys 2 ⟨lI hv4⟩ ?_
         refine yS (vi v5.Reply.Code) 3 ⟨dp _ _ _ _ _ _ _ underlying3 rfl rfl rfl (dt (j:=0) cc.ilen hv5 rfl) (.v _)⟩ ?_
         refine yd hg2_15 1 ?_
         refine ys 2 ⟨lI hv6⟩ ?_
         refine yS (vi v7.Reply.Code) 3 ⟨dp _ _ _ _ _ _ _ underlying3 rfl rfl rfl (dt (j:=0) cc.ilen hv7 rfl) (.v _)⟩ ?_
         refine yd hg2_23 5 ?_
         refine yd hg2_28 5 ?_
         refine yd hg2_33 5 ?_
         refine ye [51,0] ?_
         exact hl12 _ (zi h).symm
       ·refine yx hn 3 ?_
        refine yd hg2_2 5 ?_
        refine yd hg2_7 1 ?_
        refine ys 2 ⟨lI hv4⟩ ?_
        refine yS (vi v5.Reply.Code) 3 ⟨dp _ _ _ _ _ _ _ underlying3 rfl rfl rfl (dt (j:=0) cc.ilen hv5 rfl) (.v _)⟩ ?_
        refine yd hg2_15 1 ?_
        refine ys 2 ⟨lI hv6⟩ ?_
        refine yS (vi v7.Reply.Code) 3 ⟨dp _ _ _ _ _ _ _ underlying3 rfl rfl rfl (dt (j:=0) cc.ilen hv7 rfl) (.v _)⟩ ?_
        refine yd hg2_23 5 ?_
        refine yd hg2_28 10 ?_
        refine ye [51,0] ?_
        exact hl12 _ (zi h).symm
      ·refine yx hn 3 ?_
       refine yd hg2_2 5 ?_
       refine yd hg2_7 1 ?_
       refine ys 2 ⟨lI hv4⟩ ?_
       refine yS (vi v5.Reply.Code) 3 ⟨dp _ _ _ _ _ _ _ underlying3 rfl rfl rfl (dt (j:=0) cc.ilen hv5 rfl) (.v _)⟩ ?_
       refine yd hg2_15 1 ?_
       refine ys 2 ⟨lI hv6⟩ ?_
       refine yS (vi v7.Reply.Code) 3 ⟨dp _ _ _ _ _ _ _ underlying3 rfl rfl rfl (dt (j:=0) cc.ilen hv7 rfl) (.v _)⟩ ?_
       refine yd hg2_23 15 ?_
       refine ye [51,0] ?_
       exact hl12 _ (zi h).symm
     ·refine yx hn 3 ?_
      refine yd hg2_2 5 ?_
      refine yd hg2_7 1 ?_
      refine ys 2 ⟨lI hv4⟩ ?_
      refine yS (vi v5.Reply.Code) 3 ⟨dp _ _ _ _ _ _ _ underlying3 rfl rfl rfl (dt (j:=0) cc.ilen hv5 rfl) (.v _)⟩ ?_
      refine yd hg2_15 23 ?_
      refine ye [51,0] ?_
      exact hl12 _ (zi h).symm
    ·refine yx hn 3 ?_
     refine yd hg2_2 5 ?_
     refine yd hg2_7 31 ?_
     refine ye [51,0] ?_
     exact hl12 _ (zi h).symm
   ·refine yx hn 3 ?_
    refine yd hg2_2 36 ?_
    refine ye [51,0] ?_
    exact hl12 _ (zi h).symm
theorem ff (a:bu) (b:bu) (r:Bool) (h:Sh.lq a b=some r):eD Tryz.prog 32 [.agg [.v (.bool a.Null), .v (.string a.Local), .v (.string a.Domain)], .agg [.v (.bool b.Null), .v (.string b.Local), .v (.string b.Domain)]] (.v (.bool r)):=by
  unfold Sh.lq at h
  refine yO 24 func32 fun g0 hn hio => ?_
  refine cF hn 3 [2,3] ?_
  refine aM ?_
  refine ce h (fun (s2:Bool)=>[(4,vb s2)]) ?_ ?_
  ·rintro s2 h
   refine bb (bO ?_)
   obtain rfl:=zi h
   exact bP hio rfl (.tmp _ _ .nil) rfl rfl
  ·intro u3 h hl4 hr5
   obtain ⟨v1, hv1, h⟩:=zn h
   refine bJ h (fun hg1_5 h => ?_) (fun hg1_5 h => ?_)
   ·refine bJ h (fun hg1_12 h => ?_) (fun hg1_12 h => ?_)
    ·refine yx hn 4 ?_
     refine yS (vb (a.Null==b.Null)) 1 ⟨sC _ _ _ _ underlying4 rfl rfl⟩ ?_
     refine yd hg1_5 7 ?_
     refine yd hg1_12 7 ?_
     refine ye [4] ?_
     exact hl4 _ (zi h).symm
    ·refine yx hn 4 ?_
     refine yS (vb (a.Null==b.Null)) 1 ⟨sC _ _ _ _ underlying4 rfl rfl⟩ ?_
     refine yd hg1_5 7 ?_
     refine yd hg1_12 7 ?_
     refine ye [4] ?_
     exact hl4 _ (zi h).symm
   ·refine yx hn 4 ?_
    refine yS (vb (a.Null==b.Null)) 1 ⟨sC _ _ _ _ underlying4 rfl rfl⟩ ?_
    refine yd hg1_5 14 ?_
    refine ye [4] ?_
    exact hl4 _ (zi h).symm
theorem gN (a:(List bu)) (b:(List bu)) (r:Bool) (h:Sh.nu a b=some r):eD Tryz.prog 40 [.fl .shr 3 (flatten (map bu.enc a)), .fl .shr 3 (flatten (map bu.enc b))] (.v (.bool r)):=by
  unfold Sh.nu at h
  refine yO 27 func40 fun g0 hn hio => ?_
  refine cF hn 1 [0,1] ?_
  refine aM ?_
  refine cF hn 5 [0,1,10] ?_
  refine bL _ rfl (fun hb1 => ?_) (fun hb1 => ?_)
  ·have h:=bT hb1 h
   refine cF hn 1 [4] ?_
   refine bO ?_
   refine bw ?_
   obtain rfl:=zi h
   exact bP hio rfl (.tmp _ _ .nil) rfl rfl
  ·have h:=bQ hb1 h
   refine bU ?_
   refine bb (aM ?_)
   refine cF hn 1 [0,1,5] ?_
   refine dx h (fun (s13:Int)=>[(0,.fl .shr 3 (flatten (map bu.enc a))),(1,.fl .shr 3 (flatten (map bu.enc b))),(5,vi s13)]) (fun (():Unit)=>[]) ?_ ?_
   ·rintro ⟨⟩ h
    refine bb ?_
    refine cF hn 1 [4] ?_
    refine bO ?_
    obtain rfl:=zi h
    exact bP hio rfl (.tmp _ _ .nil) rfl rfl
   ·rintro u16 hl17 hr18 s13 rr21 h ho19
    refine aM ?_
    refine cF hn 4 [0,1,5,14] ?_
    refine bL _ rfl (fun hb22 => ?_) (fun hb22 => ?_)
    ·have h:=bT hb22 h
     refine bU ?_
     refine bb (aM ?_)
     refine cA ?_
     refine aM ?_
     obtain ⟨v3, hv3, h⟩:=zn h
     obtain ⟨v4, hv4, h⟩:=zn h
     obtain ⟨v5, hv5, h⟩:=zn h
     obtain ⟨v6, hv6, h⟩:=zn h
     obtain ⟨v7, hv7, h⟩:=zn h
     refine wb [[0],[5]] ?_
     refine wN [17,18] ?_
     refine wo [] ⟨lj hv3⟩ ?_
     refine wN [19,17] ?_
     refine wS (.agg [vb v4.Null,vs v4.Local,vs v4.Domain]) [[1],[5]] ⟨nC _ _ _ _ _ _ _ underlying26 rfl zX rfl rfl (qL bu.len hv4) rfl (by decide)⟩ ?_
     refine wN [21,22] ?_
     refine wo [] ⟨lj hv5⟩ ?_
     refine wN [23,21] ?_
     refine wS (.agg [vb v6.Null,vs v6.Local,vs v6.Domain]) [] ⟨nC _ _ _ _ _ _ _ underlying26 rfl zX rfl rfl (qL bu.len hv6) rfl (by decide)⟩ ?_
     refine wN [20,24] ?_
     refine wo [[25]] ⟨lk call32 (ff _ _ _ hv7)⟩ ?_
     refine Af hn [0,1,5,26] ?_
     refine bL _ rfl (fun hb23 => ?_) (fun hb23 => ?_)
     ·have h:=bT hb23 h
      refine cF hn 1 [4] ?_
      refine bO ?_
      refine cC ?_
      refine bw ?_
      refine bw ?_
      refine cC ?_
      refine bw ?_
      have h:=hr18 _ (ho19 _ (zi h).symm).symm
      obtain rfl:=zi h
      exact bP hio rfl (.tmp _ _ .nil) rfl rfl
     ·have h:=bQ hb23 h
      refine bU ?_
      refine cG ?_
      refine bb ?_
      obtain ⟨v9, hv9, h⟩:=zn h
      refine yx hn 1 ?_
      refine ys 0 ⟨lb hv9⟩ ?_
      refine yw [5] 1 ?_
      refine ye [0,1,5] ?_
      exact dM _ (zi h).symm rfl
    ·have h:=bQ hb22 h
     refine dK ?_
     refine cd ?_
     refine cd ?_
     refine dL ?_
     refine bG [] (by kernel_rfl) (es':=[]) rfl ?_
     exact hl17 _ (ho19 _ (zi h).symm).symm
theorem kN (a:(List Int)) (b:(List Int)) (r:Bool) (h:Sh.nj a b=some r):eD Tryz.prog 41 [.fl .shr 1 (map (int .u8) a), .fl .shr 1 (map (int .u8) b)] (.v (.bool r)):=by
  unfold Sh.nj at h
  refine yO 26 func41 fun g0 hn hio => ?_
  refine cF hn 1 [0,1] ?_
  refine aM ?_
  refine cF hn 5 [0,1,10] ?_
  refine bL _ rfl (fun hb1 => ?_) (fun hb1 => ?_)
  ·have h:=bT hb1 h
   refine cF hn 1 [4] ?_
   refine bO ?_
   refine bw ?_
   obtain rfl:=zi h
   exact bP hio rfl (.tmp _ _ .nil) rfl rfl
  ·have h:=bQ hb1 h
   refine bU ?_
   refine bb (aM ?_)
   refine cF hn 1 [0,1,5] ?_
   refine dx h (fun (s12:Int)=>[(0,fb a),(1,fb b),(5,vi s12)]) (fun (():Unit)=>[]) ?_ ?_
   ·rintro ⟨⟩ h
    refine bb ?_
    refine cF hn 1 [4] ?_
    refine bO ?_
    obtain rfl:=zi h
    exact bP hio rfl (.tmp _ _ .nil) rfl rfl
   ·rintro u15 hl16 hr17 s12 rr20 h ho18
    refine aM ?_
    refine cF hn 4 [0,1,5,14] ?_
    refine bL _ rfl (fun hb21 => ?_) (fun hb21 => ?_)
    ·have h:=bT hb21 h
     refine bU ?_
     refine bb (aM ?_)
     refine cA ?_
     refine aM ?_
     obtain ⟨v3, hv3, h⟩:=zn h
     obtain ⟨v4, hv4, h⟩:=zn h
     obtain ⟨v5, hv5, h⟩:=zn h
     obtain ⟨v6, hv6, h⟩:=zn h
     refine wb [[0],[5]] ?_
     refine wN [17,18] ?_
     refine wo [] ⟨li hv3⟩ ?_
     refine wN [19,17] ?_
     refine wo [[1],[5]] ⟨ll hv4⟩ ?_
     refine wN [21,22] ?_
     refine wo [] ⟨li hv5⟩ ?_
     refine wN [23,21] ?_
     refine wo [[20,24]] ⟨ll hv6⟩ ?_
     refine Af hn [0,1,5,25] ?_
     refine bL _ rfl (fun hb22 => ?_) (fun hb22 => ?_)
     ·have h:=bT hb22 h
      refine cF hn 1 [4] ?_
      refine bO ?_
      refine cC ?_
      refine bw ?_
      refine bw ?_
      refine cC ?_
      refine bw ?_
      have h:=hr17 _ (ho18 _ (zi h).symm).symm
      obtain rfl:=zi h
      exact bP hio rfl (.tmp _ _ .nil) rfl rfl
     ·have h:=bQ hb22 h
      refine bU ?_
      refine cG ?_
      refine bb ?_
      obtain ⟨v8, hv8, h⟩:=zn h
      refine yx hn 1 ?_
      refine ys 0 ⟨lb hv8⟩ ?_
      refine yw [5] 1 ?_
      refine ye [0,1,5] ?_
      exact dM _ (zi h).symm rfl
    ·have h:=bQ hb21 h
     refine dK ?_
     refine cd ?_
     refine cd ?_
     refine dL ?_
     refine bG [] (by kernel_rfl) (es':=[]) rfl ?_
     exact hl16 _ (ho18 _ (zi h).symm).symm
theorem gj (a:cq) (b:cq) (r:Bool) (h:Sh.ir a b=some r):eD Tryz.prog 15 [.agg [.v (.int .i64 a.Phase), .v (.string a.Helo), .v (.bool a.From.Null), .v (.string a.From.Local), .v (.string a.From.Domain), .fl .shr 3 (flatten (map bu.enc a.To)), .v (.bool a.Quiet), .fl .shr 1 (map (int .u8) a.Buf), .v (.string a.Challenge), .v (.bool a.Proved)], .agg [.v (.int .i64 b.Phase), .v (.string b.Helo), .v (.bool b.From.Null), .v (.string b.From.Local), .v (.string b.From.Domain), .fl .shr 3 (flatten (map bu.enc b.To)), .v (.bool b.Quiet), .fl .shr 1 (map (int .u8) b.Buf), .v (.string b.Challenge), .v (.bool b.Proved)]] (.v (.bool r)):=by
  unfold Sh.ir at h
  refine yO 59 func15 fun g0 hn hio => ?_
  refine cF hn 3 [2,3] ?_
  refine aM ?_
  refine ce h (fun (s6:Bool)=>[(4,vb s6)]) ?_ ?_
  ·rintro s6 h
   refine bb (bO ?_)
   obtain rfl:=zi h
   exact bP hio rfl (.tmp _ _ .nil) rfl rfl
  ·intro u7 h hl8 hr9
   refine bJ h (fun hg1_5 h => ?_) (fun hg1_5 h => ?_)
   ·refine bJ h (fun hg1_12 h => ?_) (fun hg1_12 h => ?_)
    ·obtain ⟨v1, hv1, h⟩:=zn h
     refine bJ h (fun hg1_19 h => ?_) (fun hg1_19 h => ?_)
     ·obtain ⟨v2, hv2, h⟩:=zn h
      refine bJ h (fun hg1_26 h => ?_) (fun hg1_26 h => ?_)
      ·obtain ⟨v3, hv3, h⟩:=zn h
       refine bJ h (fun hg1_33 h => ?_) (fun hg1_33 h => ?_)
       ·obtain ⟨v4, hv4, h⟩:=zn h
        refine bJ h (fun hg1_40 h => ?_) (fun hg1_40 h => ?_)
        ·refine bJ h (fun hg1_47 h => ?_) (fun hg1_47 h => ?_)
         ·obtain ⟨v5, hv5, h⟩:=zn h
          refine yx hn 6 ?_
          refine yd hg1_5 7 ?_
          refine yd hg1_12 4 ?_
          refine ys 2 ⟨lk call32 (ff _ _ _ hv1)⟩ ?_
          refine yd hg1_19 4 ?_
          refine ys 2 ⟨lk call40 (gN _ _ _ hv2)⟩ ?_
          refine yd hg1_26 4 ?_
          refine yS (vb (a.Quiet==b.Quiet)) 2 ⟨sC _ _ _ _ underlying4 rfl rfl⟩ ?_
          refine yd hg1_33 4 ?_
          refine ys 2 ⟨lk call41 (kN _ _ _ hv4)⟩ ?_
          refine yd hg1_40 7 ?_
          refine yd hg1_47 4 ?_
          refine yS (vb (a.Proved==b.Proved)) 2 ⟨sC _ _ _ _ underlying4 rfl rfl⟩ ?_
          refine ye [4] ?_
          exact hl8 _ (zi h).symm
         ·refine yx hn 6 ?_
          refine yd hg1_5 7 ?_
          refine yd hg1_12 4 ?_
          refine ys 2 ⟨lk call32 (ff _ _ _ hv1)⟩ ?_
          refine yd hg1_19 4 ?_
          refine ys 2 ⟨lk call40 (gN _ _ _ hv2)⟩ ?_
          refine yd hg1_26 4 ?_
          refine yS (vb (a.Quiet==b.Quiet)) 2 ⟨sC _ _ _ _ underlying4 rfl rfl⟩ ?_
          refine yd hg1_33 4 ?_
          refine ys 2 ⟨lk call41 (kN _ _ _ hv4)⟩ ?_
          refine yd hg1_40 7 ?_
          refine yd hg1_47 7 ?_
          refine ye [4] ?_
          exact hl8 _ (zi h).symm
        ·refine yx hn 6 ?_
         refine yd hg1_5 7 ?_
         refine yd hg1_12 4 ?_
         refine ys 2 ⟨lk call32 (ff _ _ _ hv1)⟩ ?_
         refine yd hg1_19 4 ?_
         refine ys 2 ⟨lk call40 (gN _ _ _ hv2)⟩ ?_
         refine yd hg1_26 4 ?_
         refine yS (vb (a.Quiet==b.Quiet)) 2 ⟨sC _ _ _ _ underlying4 rfl rfl⟩ ?_
         refine yd hg1_33 4 ?_
         refine ys 2 ⟨lk call41 (kN _ _ _ hv4)⟩ ?_
         refine yd hg1_40 14 ?_
         refine ye [4] ?_
         exact hl8 _ (zi h).symm
       ·refine yx hn 6 ?_
        refine yd hg1_5 7 ?_
        refine yd hg1_12 4 ?_
        refine ys 2 ⟨lk call32 (ff _ _ _ hv1)⟩ ?_
        refine yd hg1_19 4 ?_
        refine ys 2 ⟨lk call40 (gN _ _ _ hv2)⟩ ?_
        refine yd hg1_26 4 ?_
        refine yS (vb (a.Quiet==b.Quiet)) 2 ⟨sC _ _ _ _ underlying4 rfl rfl⟩ ?_
        refine yd hg1_33 21 ?_
        refine ye [4] ?_
        exact hl8 _ (zi h).symm
      ·refine yx hn 6 ?_
       refine yd hg1_5 7 ?_
       refine yd hg1_12 4 ?_
       refine ys 2 ⟨lk call32 (ff _ _ _ hv1)⟩ ?_
       refine yd hg1_19 4 ?_
       refine ys 2 ⟨lk call40 (gN _ _ _ hv2)⟩ ?_
       refine yd hg1_26 28 ?_
       refine ye [4] ?_
       exact hl8 _ (zi h).symm
     ·refine yx hn 6 ?_
      refine yd hg1_5 7 ?_
      refine yd hg1_12 4 ?_
      refine ys 2 ⟨lk call32 (ff _ _ _ hv1)⟩ ?_
      refine yd hg1_19 35 ?_
      refine ye [4] ?_
      exact hl8 _ (zi h).symm
    ·refine yx hn 6 ?_
     refine yd hg1_5 7 ?_
     refine yd hg1_12 42 ?_
     refine ye [4] ?_
     exact hl8 _ (zi h).symm
   ·refine yx hn 6 ?_
    refine yd hg1_5 49 ?_
    refine ye [4] ?_
    exact hl8 _ (zi h).symm
theorem tr (s:ByteArray) (r:ByteArray) (h:Sh.jj s=some r):eD Tryz.prog 30 [.v (.string s)] (.v (.string r)):=by
  unfold Sh.jj at h
  refine yO 29 func30 fun g0 hn hio => ?_
  refine cF hn 1 [0] ?_
  refine cF hn 1 [0,3] ?_
  refine aM ?_
  refine cF hn 1 [0,3,4] ?_
  refine um (fs:=[(0,vs s),(3,.fl (.own 5) 1 (map (int .u8) [])),(4,vi 0)]) (.same _ (.sub _ (ek 5 1) rfl (.same _ .nil))) ?_
  refine dx h (fun ((s37,s38):(List Int)×Int)=>[(0,vs s),(3,.fl (.own 5) 1 (map (int .u8) s37)),(4,vi s38)]) (fun (s54:(List Int))=>[(3,.fl (.own 5) 1 (map (int .u8) s54))]) ?_ ?_
  ·rintro s54 h
   refine bb (aM ?_)
   obtain ⟨v76, hv76, h⟩:=zn h
   refine yx hn 0 ?_
   refine ym 0 ?_
   refine ys 1 ⟨lS hv76⟩ ?_
   refine dv [2] ?_
   refine bO ?_
   obtain rfl:=zi h
   exact bP hio rfl (.tmp _ _ .nil) rfl rfl
  ·rintro u55 hl56 hr57 ⟨s37, s38⟩ rr60 h ho58
   refine aM ?_
   refine cF hn 4 [0,3,4,9] ?_
   refine bL _ rfl (fun hb61 => ?_) (fun hb61 => ?_)
   ·have h:=bT hb61 h
    refine bU ?_
    refine bb (aM ?_)
    refine cA ?_
    refine aM ?_
    obtain ⟨v2, hv2, h⟩:=zn h
    refine yx hn 2 ?_
    refine ys 1 ⟨lh hv2⟩ ?_
    refine dv [0,3,4,5] ?_
    refine aM ?_
    refine ce h (fun (s67:Int)=>[(0,vs s),(3,.fl (.own 5) 1 (map (int .u8) s37)),(4,vi s38),(5,.v (.int .u8 s67))]) ?_ ?_
    ·rintro s67 h
     refine bb ?_
     obtain ⟨v18, hv18, h⟩:=zn h
     refine yx hn 0 ?_
     refine ym 1 ?_
     refine yS (.fl (.own 5) 1 (map (int .u8) [s67])) 0 ⟨dJ _ _ 1 (.int .u8 0) (map (int .u8) [s67]) [(0,.int .u8 s67)] underlying28 qp zS (fun _ V w o a hv hes=>by have e0:=eA hv hes (x := .tmp 24) rfl; simp only [List.map_toArray,List.map_cons,List.map_nil,e0]; try rfl) (fT (by simp [Instr.fill,Value.cells]; rfl) (by simp [List.range,List.range.loop] <;> rfl)) (by simp [Value.oneCell']) rfl (by decide) (by decide) (by decide)⟩ ?_
     refine yp oz hv18 0 ?_
     refine ya 0 ?_
     refine ye [0,4,3] ?_
     refine cG ?_
     refine bb ?_
     obtain ⟨v19, hv19, h⟩:=zn h
     refine yx hn 1 ?_
     refine ys 0 ⟨lb hv19⟩ ?_
     refine yw [4] 1 ?_
     refine ye [0,3,4] ?_
     exact dM _ (zi h).symm rfl
    ·intro u68 h hl69 hr70
     refine aM ?_
     refine ce h (fun (s71:Bool)=>[(0,vs s),(3,.fl (.own 5) 1 (map (int .u8) s37)),(4,vi s38),(5,.v (.int .u8 v2)),(20,vb s71)]) ?_ ?_
     ·rintro s71 h
      refine bb ?_
      refine bL _ rfl (fun hb75 => ?_) (fun hb75 => ?_)
      ·have h:=bT hb75 h
       obtain ⟨v8, hv8, h⟩:=zn h
       refine yx hn 1 ?_
       refine ys 0 ⟨lb hv8⟩ ?_
       refine yw [5] 1 ?_
       refine ye [0,3,4,5] ?_
       exact hl69 _ (zi h).symm
      ·have h:=bQ hb75 h
       refine bU ?_
       refine bG [0,1,2,3] (by kernel_rfl) (es':=[(_,_),(_,_),(_,_),(_,_)]) rfl ?_
       exact hl69 _ (zi h).symm
     ·intro u72 h hl73 hr74
      refine bJ h (fun hg6_2 h => ?_) (fun hg6_2 h => ?_)
      ·refine yx hn 3 ?_
       refine yd hg6_2 3 ?_
       refine ye [0,3,4,5,20] ?_
       exact hl73 _ (zi h).symm
      ·refine yx hn 3 ?_
       refine yd hg6_2 3 ?_
       refine ye [0,3,4,5,20] ?_
       exact hl73 _ (zi h).symm
   ·have h:=bQ hb61 h
    refine dK ?_
    refine cd ?_
    refine cd ?_
    refine dL ?_
    refine bG [1] (by kernel_rfl) (es':=[(_,_)]) rfl ?_
    exact hl56 _ (ho58 _ (zi h).symm).symm
end Go.Proofs.YtjnnkhmhjcjhdaaGreatDoor
