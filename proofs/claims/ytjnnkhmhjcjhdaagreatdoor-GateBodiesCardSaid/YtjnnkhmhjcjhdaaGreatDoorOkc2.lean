/-
  The model's runs are what is told in Lean.
-/
import Derived.Test.YtjnnkhmhjcjhdaaGreatDoorProg
import Derived.KernelRfl
import Derived.Test.YtjnnkhmhjcjhdaaGreatDoorShelf
import Derived.Test.YtjnnkhmhjcjhdaaGreatDoorIdx
import Derived.Test.YtjnnkhmhjcjhdaaGreatDoorB3
import Derived.Test.YtjnnkhmhjcjhdaaGreatDoorC1
import Derived.Test.YtjnnkhmhjcjhdaaGreatDoorBC
import Derived.Test.YtjnnkhmhjcjhdaaGreatDoorOkc1
set_option linter.unusedVariables false
set_option linter.unusedSimpArgs false
set_option maxHeartbeats 1000000
namespace Go.Proofs.YtjnnkhmhjcjhdaaGreatDoor
open Go.Abs Go.Abs.Sh Tryz
open List (map flatten)
open Value (int)
theorem nH (mx:Int×Nat×Value) (c:bq) (r:Int) (h:Sh.jW c=some r):iO Tryz.prog (GL mx) 35 [.agg [.v (.string ((c.Domains.getD 0 (⟨#[]⟩:ByteArray)))), .v (.string ((c.Domains.getD 1 (⟨#[]⟩:ByteArray)))), .v (.int .i64 c.Expiry), .v (.string c.User), .v (.string c.Secret), .v (.int .i64 c.Log), .v (.bool c.Held)]] (.v (.int .i64 r)):=by
  unfold Sh.jW at h
  refine yG 65 func35 fun g0 hn hio => ?_
  refine bE hn 2 [65,1] ?_
  refine af ?_
  refine bk h (fun (s4:Bool)=>[(65,.glob (GL mx)),(1,.box 24 (bq.c c [])),(3,vb s4)]) ?_ ?_
  ·rintro s4 h
   refine aB (af ?_)
   refine bk h (fun (s8:Bool)=>[(65,.glob (GL mx)),(1,.box 24 (bq.c c [])),(3,vb s4),(4,vb s8)]) ?_ ?_
   ·rintro s8 h
    refine aB (af ?_)
    refine bk h (fun (s14:Bool)=>[(65,.glob (GL mx)),(1,.box 24 (bq.c c [])),(3,vb s4),(4,vb s8),(5,vb s14)]) ?_ ?_
    ·rintro s14 h
     refine aB (af ?_)
     refine bk h (fun (s18:Bool)=>[(65,.glob (GL mx)),(3,vb s4),(4,vb s8),(5,vb s14),(6,vb s18)]) ?_ ?_
     ·rintro s18 h
      refine aB (af ?_)
      refine af ?_
      refine bk h (fun (s22:Bool)=>[(65,.glob (GL mx)),(64,vb s22)]) ?_ ?_
      ·rintro s22 h
       refine aB ?_
       refine aP _ rfl (fun hb26 => ?_) (fun hb26 => ?_)
       ·have h:=aT hb26 h
        refine bE hn 1 [65,2] ?_
        refine aS ?_
        refine aD [1] (by kernel_rfl) (es':=[(_,_)]) rfl ?_
        refine aO ?_
        obtain rfl:=zi h
        exact aW hio rfl (.tmp _ _ .nil) rfl rfl
       ·have h:=aV hb26 h
        refine ba ?_
        refine aB ?_
        refine bE hn 1 [65,2] ?_
        refine aS ?_
        refine aD [1] (by kernel_rfl) (es':=[(_,_)]) rfl ?_
        obtain rfl:=zi h
        exact aW hio rfl (.tmp _ _ .nil) rfl rfl
      ·intro u23 h hl24 hr25
       refine aR h (fun hg5_2 h => ?_) (fun hg5_2 h => ?_)
       ·refine yx hn 3 ?_
        refine yd hg5_2 11 ?_
        refine ye [65,64] ?_
        exact hl24 _ (zi h).symm
       ·refine aR h (fun hg5_6 h => ?_) (fun hg5_6 h => ?_)
        ·refine yx hn 3 ?_
         refine yd hg5_2 4 ?_
         refine yd hg5_6 7 ?_
         refine ye [65,64] ?_
         exact hl24 _ (zi h).symm
        ·refine aR h (fun hg5_10 h => ?_) (fun hg5_10 h => ?_)
         ·refine yx hn 3 ?_
          refine yd hg5_2 4 ?_
          refine yd hg5_6 4 ?_
          refine yd hg5_10 3 ?_
          refine ye [65,64] ?_
          exact hl24 _ (zi h).symm
         ·refine yx hn 3 ?_
          refine yd hg5_2 4 ?_
          refine yd hg5_6 4 ?_
          refine yd hg5_10 3 ?_
          refine ye [65,64] ?_
          exact hl24 _ (zi h).symm
     ·intro u19 h hl20 hr21
      refine aR h (fun hg4_3 h => ?_) (fun hg4_3 h => ?_)
      ·refine yx hn 4 ?_
       refine yd hg4_3 5 ?_
       refine ye [65,3,4,5,6] ?_
       exact hl20 _ (zi h).symm
      ·refine yx hn 4 ?_
       refine yd hg4_3 5 ?_
       refine ye [65,3,4,5,6] ?_
       exact hl20 _ (zi h).symm
    ·intro u15 h hl16 hr17
     obtain ⟨v12, hv12, h⟩:=zn h
     refine aR h (fun hg3_3 h => ?_) (fun hg3_3 h => ?_)
     ·obtain ⟨v13, hv13, h⟩:=zn h
      refine yx hn 2 ?_
      refine ys 1 ⟨lk call57 (mB _ _ hv12)⟩ ?_
      refine yd hg3_3 2 ?_
      refine ys 2 ⟨lk call57 (mB _ _ hv13)⟩ ?_
      refine ye [65,1,3,4,5] ?_
      exact hl16 _ (zi h).symm
     ·refine yx hn 2 ?_
      refine ys 1 ⟨lk call57 (mB _ _ hv12)⟩ ?_
      refine yd hg3_3 5 ?_
      refine ye [65,1,3,4,5] ?_
      exact hl16 _ (zi h).symm
   ·intro u9 h hl10 hr11
    refine aR h (fun hg2_3 h => ?_) (fun hg2_3 h => ?_)
    ·refine yx hn 4 ?_
     refine yd hg2_3 5 ?_
     refine ye [65,1,3,4] ?_
     exact hl10 _ (zi h).symm
    ·refine yx hn 4 ?_
     refine yd hg2_3 5 ?_
     refine ye [65,1,3,4] ?_
     exact hl10 _ (zi h).symm
  ·intro u5 h hl6 hr7
   obtain ⟨v1, hv1, h⟩:=zn h
   refine aR h (fun hg1_4 h => ?_) (fun hg1_4 h => ?_)
   ·obtain ⟨v2, hv2, h⟩:=zn h
    refine aR h (fun hg1_10 h => ?_) (fun hg1_10 h => ?_)
    ·obtain ⟨v3, hv3, h⟩:=zn h
     refine yx hn 1 ?_
     refine yS (.ptr 1 0) 1 ⟨cO _ _ _ _ 2 1 0 0 1 underlying22 up rfl rfl (by decide) (by decide)⟩ ?_
     refine ys 1 ⟨lg call55 (cM _ _ _ hv1) 65⟩ ?_
     refine yd hg1_4 1 ?_
     refine yS (.ptr 1 1) 1 ⟨cO _ _ _ _ 2 1 0 1 1 underlying22 up rfl rfl (by decide) (by decide)⟩ ?_
     refine ys 2 ⟨lg call55 (cM _ _ _ hv2) 65⟩ ?_
     refine yd hg1_10 1 ?_
     refine yS (.ptr 1 0) 2 ⟨cO _ _ _ _ 2 1 0 0 1 underlying22 up rfl rfl (by decide) (by decide)⟩ ?_
     refine yS (.ptr 1 1) 1 ⟨cO _ _ _ _ 2 1 0 1 1 underlying22 up rfl rfl (by decide) (by decide)⟩ ?_
     refine ys 3 ⟨lk call56 (lx _ _ _ hv3)⟩ ?_
     refine ye [65,1,3] ?_
     exact hl6 _ (zi h).symm
    ·refine yx hn 1 ?_
     refine yS (.ptr 1 0) 1 ⟨cO _ _ _ _ 2 1 0 0 1 underlying22 up rfl rfl (by decide) (by decide)⟩ ?_
     refine ys 1 ⟨lg call55 (cM _ _ _ hv1) 65⟩ ?_
     refine yd hg1_4 1 ?_
     refine yS (.ptr 1 1) 1 ⟨cO _ _ _ _ 2 1 0 1 1 underlying22 up rfl rfl (by decide) (by decide)⟩ ?_
     refine ys 2 ⟨lg call55 (cM _ _ _ hv2) 65⟩ ?_
     refine yd hg1_10 10 ?_
     refine ye [65,1,3] ?_
     exact hl6 _ (zi h).symm
   ·refine yx hn 1 ?_
    refine yS (.ptr 1 0) 1 ⟨cO _ _ _ _ 2 1 0 0 1 underlying22 up rfl rfl (by decide) (by decide)⟩ ?_
    refine ys 1 ⟨lg call55 (cM _ _ _ hv1) 65⟩ ?_
    refine yd hg1_4 16 ?_
    refine ye [65,1,3] ?_
    exact hl6 _ (zi h).symm
theorem pE (g:bp) (r:Bool) (h:Sh.jL g=some r):cU Tryz.prog 36 [.agg [.v (.int .i64 g.Phase), .v (.string g.Helo), .v (.bool g.From.Null), .v (.string g.From.Local), .v (.string g.From.Domain), .fl .shr 3 (flatten (map aF.enc g.To)), .v (.bool g.Quiet), .fl .shr 1 (map (int .u8) g.Buf), .v (.string g.Challenge), .v (.bool g.Proved)]] (.v (.bool r)):=by
  unfold Sh.jL at h
  refine yO 22 func36 fun g0 hn hio => ?_
  refine bE hn 2 [1] ?_
  refine af ?_
  refine bk h (fun (s2:Bool)=>[(2,vb s2)]) ?_ ?_
  ·rintro s2 h
   refine aB (aS ?_)
   obtain rfl:=zi h
   exact aW hio rfl (.tmp _ _ .nil) rfl rfl
  ·intro u3 h hl4 hr5
   refine aR h (fun hg1_3 h => ?_) (fun hg1_3 h => ?_)
   ·refine aR h (fun hg1_8 h => ?_) (fun hg1_8 h => ?_)
    ·refine aR h (fun hg1_14 h => ?_) (fun hg1_14 h => ?_)
     ·obtain ⟨v1, hv1, h⟩:=zn h
      refine yx hn 4 ?_
      refine yd hg1_3 5 ?_
      refine yd hg1_8 6 ?_
      refine yd hg1_14 2 ?_
      refine ys 2 ⟨lk call58 (nU _ _ _ hv1)⟩ ?_
      refine ye [2] ?_
      exact hl4 _ (zi h).symm
     ·refine yx hn 4 ?_
      refine yd hg1_3 5 ?_
      refine yd hg1_8 6 ?_
      refine yd hg1_14 5 ?_
      refine ye [2] ?_
      exact hl4 _ (zi h).symm
    ·refine yx hn 4 ?_
     refine yd hg1_3 5 ?_
     refine yd hg1_8 11 ?_
     refine ye [2] ?_
     exact hl4 _ (zi h).symm
   ·refine yx hn 4 ?_
    refine yd hg1_3 16 ?_
    refine ye [2] ?_
    exact hl4 _ (zi h).symm
theorem jf (l:(List aF)) (r:(List aF)) (h:Sh.er l=some r):cU Tryz.prog 59 [.fl .shr 3 (flatten (map aF.enc l))] (.fl (.own 26) 3 (flatten (map aF.enc r))):=by
  unfold Sh.er at h
  refine yO 5 func59 fun g0 hn hio => ?_
  refine bE hn 1 [0] ?_
  refine af ?_
  obtain ⟨v1, hv1, h⟩:=zn h
  refine yx hn 1 ?_
  refine yS (.fl (.own 26) 3 (flatten (map aF.enc v1))) 0 ⟨mA _ _ _ _ GH rfl rfl (kR aF.len _) hv1 (congrArg (fun l=>flatten (map _ l)) (mK hv1))⟩ ?_
  refine ya 0 ?_
  refine bS [2] ?_
  refine aS ?_
  obtain rfl:=zi h
  exact aW hio rfl (.tmp _ _ .nil) rfl rfl
theorem pI (l:(List Int)) (r:(List Int)) (h:Sh.ib l=some r):cU Tryz.prog 60 [.fl .shr 1 (map (int .u8) l)] (.fl (.own 5) 1 (map (int .u8) r)):=by
  unfold Sh.ib at h
  refine yO 5 func60 fun g0 hn hio => ?_
  refine bE hn 1 [0] ?_
  refine af ?_
  obtain ⟨v1, hv1, h⟩:=zn h
  refine yx hn 1 ?_
  refine yS (.fl (.own 5) 1 (map (int .u8) v1)) 0 ⟨mA _ _ _ _ fV rfl rfl (fY _) hv1 (congrArg (map _) (mK hv1))⟩ ?_
  refine ya 0 ?_
  refine bS [2] ?_
  refine aS ?_
  obtain rfl:=zi h
  exact aW hio rfl (.tmp _ _ .nil) rfl rfl
theorem pz (g:bp) (r:bp) (h:Sh.jH g=some r):cU Tryz.prog 37 [.agg [.v (.int .i64 g.Phase), .v (.string g.Helo), .v (.bool g.From.Null), .v (.string g.From.Local), .v (.string g.From.Domain), .fl .shr 3 (flatten (map aF.enc g.To)), .v (.bool g.Quiet), .fl .shr 1 (map (int .u8) g.Buf), .v (.string g.Challenge), .v (.bool g.Proved)]] (.agg [.v (.int .i64 r.Phase), .v (.string r.Helo), .v (.bool r.From.Null), .v (.string r.From.Local), .v (.string r.From.Domain), .fl (.own 26) 3 (flatten (map aF.enc r.To)), .v (.bool r.Quiet), .fl (.own 5) 1 (map (int .u8) r.Buf), .v (.string r.Challenge), .v (.bool r.Proved)]):=by
  unfold Sh.jH at h
  refine yO 12 func37 fun g0 hn hio => ?_
  refine gP hn 1 ?_
  refine yS (.box 30 [vi 0,vs z0,vb false,vs z0,vs z0,vz,vb false,vz,vs z0,vb false]) 0 ⟨oA (bR _ _ xh)⟩ ?_
  refine bS [1,2] ?_
  refine af ?_
  obtain ⟨v1, hv1, h⟩:=zn h
  refine yx hn 2 ?_
  refine ys 1 ⟨lk call59 (jf _ _ hv1)⟩ ?_
  refine yk [5,1] [6] ?_
  refine yt (1,.box 30 [vi g.Phase,vs g.Helo,vb g.From.Null,vs g.From.Local,vs g.From.Domain,.fl (.own 26) 3 (flatten (map aF.enc v1)),vb g.Quiet,fb g.Buf,vs g.Challenge,vb g.Proved]) 0 ⟨bI _ _ _ _ _ _ _ _ GD rfl rfl rfl (zl rfl) rfl rfl⟩ ?_
  refine bS [1,2] ?_
  refine af ?_
  obtain ⟨v2, hv2, h⟩:=zn h
  refine yx hn 2 ?_
  refine ys 1 ⟨lk call60 (pI _ _ hv2)⟩ ?_
  refine yk [9,1] [10] ?_
  refine yt (1,.box 30 [vi g.Phase,vs g.Helo,vb g.From.Null,vs g.From.Local,vs g.From.Domain,.fl (.own 26) 3 (flatten (map aF.enc v1)),vb g.Quiet,.fl (.own 5) 1 (map (int .u8) v2),vs g.Challenge,vb g.Proved]) 0 ⟨bI _ _ _ _ _ _ _ _ lQ rfl rfl rfl (zl rfl) rfl rfl⟩ ?_
  refine bS [1,2] ?_
  refine gP hn 0 ?_
  refine yk [1] [] ?_
  refine yt (11,.agg [vi g.Phase,vs g.Helo,vb g.From.Null,vs g.From.Local,vs g.From.Domain,.fl (.own 26) 3 (flatten (map aF.enc v1)),vb g.Quiet,.fl (.own 5) 1 (map (int .u8) v2),vs g.Challenge,vb g.Proved]) 0 ⟨pG _ _ _ _ underlying30 rfl tN rfl rfl⟩ ?_
  refine yk [11,2] [] ?_
  refine yt (2,.box 30 [vi g.Phase,vs g.Helo,vb g.From.Null,vs g.From.Local,vs g.From.Domain,.fl (.own 26) 3 (flatten (map aF.enc v1)),vb g.Quiet,.fl (.own 5) 1 (map (int .u8) v2),vs g.Challenge,vb g.Proved]) 0 ⟨bI _ _ _ _ _ _ _ _ tN rfl rfl rfl (zl rfl) rfl rfl⟩ ?_
  refine bS [2] ?_
  refine aS ?_
  obtain rfl:=zi h
  exact aW hio rfl (.cellA _ _ _ _ underlying30 rfl tN .nil) rfl rfl
theorem nX (a:(List Int)) (b:(List Int)) (r:Bool) (h:Sh.jV a b=some r):cU Tryz.prog 72 [.fl .shr 1 (map (int .u8) a), .fl .shr 1 (map (int .u8) b)] (.v (.bool r)):=by
  unfold Sh.jV at h
  refine yO 10 func72 fun g0 hn hio => ?_
  refine bE hn 1 [0,1] ?_
  refine af ?_
  obtain ⟨v1, hv1, h⟩:=zn h
  obtain ⟨v2, hv2, h⟩:=zn h
  refine yx hn 1 ?_
  refine ys 1 ⟨lS hv1⟩ ?_
  refine ys 2 ⟨lS hv2⟩ ?_
  refine bS [4] ?_
  refine aS ?_
  obtain rfl:=zi h
  exact aW hio rfl (.tmp _ _ .nil) rfl rfl
theorem qh (s:(List Int)) (suffix:(List Int)) (r:Bool) (h:Sh.fI s suffix=some r):cU Tryz.prog 61 [.fl .shr 1 (map (int .u8) s), .fl .shr 1 (map (int .u8) suffix)] (.v (.bool r)):=by
  unfold Sh.fI at h
  refine yO 21 func61 fun g0 hn hio => ?_
  refine bE hn 1 [0,1] ?_
  refine af ?_
  refine bk h (fun (s4:Bool)=>[(4,vb s4)]) ?_ ?_
  ·rintro s4 h
   refine aB (aS ?_)
   obtain rfl:=zi h
   exact aW hio rfl (.tmp _ _ .nil) rfl rfl
  ·intro u5 h hl6 hr7
   refine aR h (fun hg1_5 h => ?_) (fun hg1_5 h => ?_)
   ·obtain ⟨v1, hv1, h⟩:=zn h
    obtain ⟨v2, hv2, h⟩:=zn h
    obtain ⟨v3, hv3, h⟩:=zn h
    refine yx hn 6 ?_
    refine yd hg1_5 5 ?_
    refine ys 0 ⟨lb hv1⟩ ?_
    refine yS (fb v2) 1 ⟨oW _ _ _ v1 (s.length:Int) _ underlying28 kI rfl rfl ⟨_,rfl⟩ rfl hv2⟩ ?_
    refine ys 2 ⟨lk call72 (nX _ _ _ hv3)⟩ ?_
    refine ye [4] ?_
    exact hl6 _ (zi h).symm
   ·refine yx hn 6 ?_
    refine yd hg1_5 11 ?_
    refine ye [4] ?_
    exact hl6 _ (zi h).symm
theorem lZ (s:aa) (x:Int) (r:(Bool×aa)) (h:Sh.cn s x=some r):pM Tryz.prog 38 [.box 80 (aa.b s), .v (.int .u8 x)] [.box 80 (aa.b r.2)] (.v (.bool r.1)):=by
  unfold Sh.cn at h
  refine yP 39 func38 fun args0 hargs0 g0 hn hio => ?_
  refine bE hn 1 [0,1,0] ?_
  refine af ?_
  refine bE hn 6 [0,1,10,0] ?_
  refine aP _ rfl (fun hb1 => ?_) (fun hb1 => ?_)
  ·have h:=aT hb1 h
   refine af ?_
   refine bk h (fun (s4:Bool)=>[(0,.box 80 (aa.b s)),(4,vb s4),(0,.v (List.getD args0 0 undef))]) ?_ ?_
   ·rintro s4 h
    refine aB (aS ?_)
    refine aD [1,0,2] (by kernel_rfl) (es':=[(_,_),(_,_),(_,_)]) rfl ?_
    refine aO ?_
    obtain rfl:=zi h
    exact cq (es:=[(4, .v (.bool s4))]) (posts:=[.box 80 (aa.b s)]) hio rfl rfl (.tmp _ _ .nil) rfl rfl hargs0 rfl
   ·intro u5 h hl6 hr7
    obtain ⟨v2, hv2, h⟩:=zn h
    refine aR h (fun hg2_7 h => ?_) (fun hg2_7 h => ?_)
    ·refine yx hn 5 ?_
     refine ys 2 ⟨lM hv2⟩ ?_
     refine yd hg2_7 10 ?_
     refine ye [0,4,0] ?_
     exact hl6 _ (zi h).symm
    ·obtain ⟨v3, hv3, h⟩:=zn h
     refine yx hn 5 ?_
     refine ys 2 ⟨lM hv2⟩ ?_
     refine yd hg2_7 5 ?_
     refine yS (.fl (.own 5) 1 (map (int .u8) [13,10,46,13,10])) 0 ⟨bM _ _ 1 (.int .u8 0) (map (int .u8) [13,10,46,13,10]) [(0,.int .u8 13),(1,.int .u8 10),(2,.int .u8 46),(3,.int .u8 13),(4,.int .u8 10)] underlying28 kI qV (fun _ V w o a hv hes=>by simp only [List.map_toArray,List.map_cons,List.map_nil]; try rfl) (cR (by simp [Instr.fill,Value.cells]; rfl) (by simp [List.range,List.range.loop] <;> rfl)) (by simp [Value.oneCell']) rfl (by decide) (by decide) (by decide)⟩ ?_
     refine yk [24] [] ?_
     refine yt (25,.fl .ro 1 (map (int .u8) [13,10,46,13,10])) 0 ⟨gH _ _ _ underlying28 underlying5 (by intro h; cases h)⟩ ?_
     refine ys 2 ⟨lk call61 (qh _ _ _ hv3)⟩ ?_
     refine ye [0,4,0] ?_
     exact hl6 _ (zi h).symm
  ·have h:=aV hb1 h
   refine ba ?_
   refine aB (af ?_)
   refine bk h (fun (s8:Bool)=>[(0,.box 80 (aa.b s)),(4,vb s8),(0,.v (List.getD args0 0 undef))]) ?_ ?_
   ·rintro s8 h
    refine aB (aS ?_)
    refine aD [1,0,2] (by kernel_rfl) (es':=[(_,_),(_,_),(_,_)]) rfl ?_
    obtain rfl:=zi h
    exact cq (es:=[(4, .v (.bool s8))]) (posts:=[.box 80 (aa.b s)]) hio rfl rfl (.tmp _ _ .nil) rfl rfl hargs0 rfl
   ·intro u9 h hl10 hr11
    refine aR h (fun hg3_2 h => ?_) (fun hg3_2 h => ?_)
    ·refine yx hn 3 ?_
     refine yd hg3_2 9 ?_
     refine ye [0,4,0] ?_
     exact hl10 _ (zi h).symm
    ·refine yx hn 3 ?_
     refine yd hg3_2 5 ?_
     refine yS (vi (s.Gate.Buf.length:Int)) 3 ⟨pn _ _ _ underlying28 rfl (List.length_map _)⟩ ?_
     refine ye [0,4,0] ?_
     exact hl10 _ (zi h).symm
theorem gW (b:(List Int)) (r:(List Int)) (h:Sh.eY b=some r):cU Tryz.prog 96 [.fl .shr 1 (map (int .u8) b)] (.cloB 123 [.box 28 [.fl .shr 1 (map (int .u8) r)]]):=by
  unfold Sh.eY at h
  refine yO 4 func96 fun g0 hn hio => ?_
  refine bE hn 2 [1] ?_
  refine gP hn 0 ?_
  refine yk [1] [] ?_
  refine yt (3,.cloB 123 [.box 28 [fb b]]) 0 ⟨wU _ _ [1] [.box 28 [fb b]] rfl rfl rfl⟩ ?_
  refine ya 0 ?_
  refine bS [2] ?_
  refine aS ?_
  obtain rfl:=zi h
  exact aW hio rfl (.tmp _ _ .nil) rfl rfl
theorem tZ (mx:Int×Nat×Value) (s sep:List Int) (r:Int) (h:Sh.iJ s sep=some r):iO Tryz.prog (GL mx) 89 [.fl .shr 1 (map (int .u8) s), .fl .shr 1 (map (int .u8) sep)] (.v (.int .i64 r)) :=
  sq (wg mx) Tryz.bytes_Index_at Tryz.bytes_Index_longer s sep r h
theorem sw (mx:Int×Nat×Value) (s:(List Int)) (sep:(List Int)) (r:((List Int)×(List Int)×Bool)) (h:Sh.eO s sep=some r):iO Tryz.prog (GL mx) 74 [.fl .shr 1 (map (int .u8) s), .fl .shr 1 (map (int .u8) sep)] (.tup [.fl .shr 1 (map (int .u8) r.1), .fl .shr 1 (map (int .u8) r.2.1), .v (.bool r.2.2)]):=by
  unfold Sh.eO at h
  refine yG 23 func74 fun g0 hn hio => ?_
  refine bE hn 3 [0,1,23] ?_
  refine af ?_
  refine af ?_
  obtain ⟨v1, hv1, h⟩:=zn h
  refine yx hn 2 ?_
  refine ys 1 ⟨lg call89 (tZ _ _ _ _ hv1) 23⟩ ?_
  refine bS [0,1,23,7] ?_
  refine bE hn 2 [0,1,23,7,12] ?_
  refine aP _ rfl (fun hb2 => ?_) (fun hb2 => ?_)
  ·have h:=aT hb2 h
   refine af ?_
   obtain ⟨v3, hv3, h⟩:=zn h
   obtain ⟨v4, hv4, h⟩:=zn h
   obtain ⟨v5, hv5, h⟩:=zn h
   refine wb [[0],[7]] ?_
   refine wN [13,14] ?_
   refine wS (fb v3) [[0],[7],[1],[18]] ⟨oW _ _ _ 0 v1 _ underlying28 kI rfl rfl rfl ⟨_,rfl⟩ hv3⟩ ?_
   refine wN [17,19] ?_
   refine wo [] ⟨lb hv4⟩ ?_
   refine wN [16,20] ?_
   refine wS (fb v5) [[15],[21],[]] ⟨oW _ _ _ v4 (s.length:Int) _ underlying28 kI rfl rfl ⟨_,rfl⟩ rfl hv5⟩ ?_
   refine vJ hn [23,4,5,6] ?_
   refine aS ?_
   refine aD [1,2,3] (by kernel_rfl) (es':=[(_,_),(_,_),(_,_)]) rfl ?_
   refine aO ?_
   obtain rfl:=zi h
   exact aW hio rfl (.tmp _ _ (.tmp _ _ (.tmp _ _ .nil))) rfl rfl
  ·have h:=aV hb2 h
   refine ba ?_
   refine aB ?_
   refine bE hn 4 [23,4,5,6] ?_
   refine aS ?_
   refine aD [1,2,3] (by kernel_rfl) (es':=[(_,_),(_,_),(_,_)]) rfl ?_
   refine dm (fs:=[(4,fb s),(5,fb []),(6,vb false)]) (.same _ (.sub _ (rZ 1) rfl (.same _ .nil))) ?_
   obtain rfl:=zi h
   exact aW hio rfl (.tmp _ _ (.tmp _ _ (.tmp _ _ .nil))) rfl rfl
theorem fL (mx:Int×Nat×Value) (l:Nat) {S:Type} (J:S→lJ) (Y:(List Int)→S→Option (S×Bool)) (hY:qO Tryz.prog l (fun x => .fl .shr 1 (map (int .u8) x)) Y J) (c0:(List Int)) (st r:S) (h:Sh.eu Y c0 st=some r):Gs Tryz.prog (GL mx) 123 l [.box 28 [.fl .shr 1 (map (int .u8) c0)]] (J st) (J r):=by
  unfold Sh.eu at h
  refine yI 23 func123 fun g0 hn hio => ?_
  refine bV h (fun ((s17,s18):(List Int)×S)=>[(0,.v (.func (.yield l) #[] #[])),(1,.box 28 [fb s17]),(23,.glob (GL mx)),(24,.inv (J s18))]) (fun (():Unit)=>[]) ?_ ?_
  ·rintro ⟨⟩ h
   cases h
  ·rintro u25 hl26 hr27 ⟨s17, s18⟩ rr30 h ho28
   refine bz ?_
   refine af ?_
   obtain ⟨v1, hv1, h⟩:=zn h
   refine yx hn 1 ?_
   refine yS (.fl (.own 5) 1 (map (int .u8) [13,10])) 0 ⟨bM _ _ 1 (.int .u8 0) (map (int .u8) [13,10]) [(0,.int .u8 13),(1,.int .u8 10)] underlying28 kI qV (fun _ V w o a hv hes=>by simp only [List.map_toArray,List.map_cons,List.map_nil]; try rfl) (cR (by simp [Instr.fill,Value.cells]; rfl) (by simp [List.range,List.range.loop] <;> rfl)) (by simp [Value.oneCell']) rfl (by decide) (by decide) (by decide)⟩ ?_
   refine yk [8] [] ?_
   refine yt (9,.fl .ro 1 (map (int .u8) [13,10])) 0 ⟨gH _ _ _ underlying28 underlying5 (by intro h; cases h)⟩ ?_
   refine yk [] [7,9,23] ?_
   refine yt (10,.tup [fb v1.1,fb v1.2.1,vb v1.2.2]) 0 ⟨Bg _ _ 23 74 _ _ rfl call74 rfl rfl rfl (fun _ h=>h) (sw mx s17 [13,10] _ hv1) rfl⟩ ?_
   refine ym 6 ?_
   refine bS [0,1,23,24,3,4,5] ?_
   refine af ?_
   refine af ?_
   refine bk h (fun ((s31,s32):S×Bool)=>[(0,.v (.func (.yield l) #[] #[])),(1,.box 28 [fb s17]),(23,.glob (GL mx)),(24,.inv (J s31)),(4,fb v1.2.1),(21,vb s32)]) ?_ ?_
   ·rintro ⟨s31, s32⟩ h
    refine aB ?_
    refine aP _ rfl (fun hb36 => ?_) (fun hb36 => ?_)
    ·have h:=aT hb36 h
     refine aS ?_
     refine aD [3] (by kernel_rfl) (es':=[(24,.inv (J s31))]) rfl ?_
     refine aO ?_
     refine bA ?_
     refine aO ?_
     refine bA ?_
     have h:=hr27 _ (ho28 _ (zi h).symm).symm
     obtain rfl:=zi h
     exact sM hio rfl rfl rfl
    ·have h:=aV hb36 h
     refine ba ?_
     refine aB ?_
     refine yy hn 2 [0,1,23,24] ?_
     refine bF ?_
     exact ci _ (zi h).symm rfl
   ·intro u33 h hl34 hr35
    refine aR h (fun hg1_2 h => ?_) (fun hg1_2 h => ?_)
    ·refine yx hn 3 ?_
     refine yd hg1_2 5 ?_
     refine ye [0,1,23,24,4,21] ?_
     exact hl34 _ (zi h).symm
    ·obtain ⟨v2, hv2, h⟩:=zn h
     refine yx hn 3 ?_
     refine yd hg1_2 2 ?_
     refine yk [24] [18,17] ?_
     refine np (24,.inv (J v2.1)) (19,vb v2.2) 2 ⟨qx _ _ 24 l v1.1 s18 v2 hY hv2 rfl rfl rfl⟩ ?_
     refine ye [0,1,23,24,4,21] ?_
     exact hl34 _ (zi h).symm
theorem rG (mx:Int×Nat×Value) (b:(List Int)) (r:(Int×Bool)) (h:Sh.jP b=some r):iO Tryz.prog (GL mx) 94 [.fl .shr 1 (map (int .u8) b)] (.tup [.v (.int .i64 r.1), .v (.bool r.2)]):=by
  unfold Sh.jP at h
  refine yG 17 func94 fun g0 hn hio => ?_
  refine gP hn 0 ?_
  refine yS (.box 3 [vi 0]) 0 ⟨oA (bR _ _ Hn)⟩ ?_
  refine yS (.box 4 [vb false]) 0 ⟨oA (bR _ _ Hb)⟩ ?_
  refine bS [0,17,2,3] ?_
  refine af ?_
  refine af ?_
  obtain ⟨v1, hv1, h⟩:=zn h
  refine yx hn 1 ?_
  refine yk [] [5] ?_
  refine yt (6,.cloB 123 [.box 28 [fb v1]]) 0 ⟨gU _ _ 96 _ _ rfl call96 rfl rfl (gW b _ hv1) rfl⟩ ?_
  refine bS [17,2,3,6] ?_
  refine bz ?_
  refine jO [3,0,1,2] (by kernel_rfl) (es':=[(6,.cloB 123 [.box 28 [fb v1]]),(17,.glob (GL mx)),(2,.box 3 [vi 0]),(3,.box 4 [vb false])]) rfl ?_
  refine iE h 123 6 7 18 _ [17, 2, 3] call123 (fun (s8:Int)=>[(17, .glob (GL mx)), (2, .box 3 [.v (.int .i64 s8)]), (3, .box 4 [.v (.bool false)])]) (fun (s10:Int)=>[(17, .glob (GL mx)), (2, .box 3 [.v (.int .i64 s10)]), (3, .box 4 [.v (.bool true)])]) (fun l J Y hY t t' h=>fL mx l J Y hY v1 t t' h) hn rfl (fun _=>rfl) (fun _=>rfl) (fun _=>rfl) rfl rfl (fun _=>⟨rfl, rfl⟩) rfl (iB 17 rfl) ?_ ?_ ?_
  ·rintro kk g0 hn hio x s8 u h
   refine rX (es':=[(7,fb x),(17,.glob (GL mx)),(2,.box 3 [vi s8]),(3,.box 4 [vb false]),(17,.v (kk.tm.getD 17 undef)),(2,.v (kk.tm.getD 2 undef)),(3,.v (kk.tm.getD 3 undef)),(18,.inv kk.ready)]) rfl ?_
   refine yy hn 1 [17,2,3,18,4,17,2,3] ?_
   refine aD [0,1,2,4,5,6,7,3] (by kernel_rfl) (es':=[(17,.glob (GL mx)),(2,.box 3 [vi s8]),(3,.box 4 [vb false]),(4,fb x),(17,.v (kk.tm.getD 17 undef)),(2,.v (kk.tm.getD 2 undef)),(3,.v (kk.tm.getD 3 undef)),(18,.inv kk.ready)]) rfl ?_
   refine jT (es:=[(17,.glob (GL mx)),(2,.box 3 [vi s8]),(3,.box 4 [vb false]),(4,fb x),(17,.v (kk.tm.getD 17 undef)),(2,.v (kk.tm.getD 2 undef)),(3,.v (kk.tm.getD 3 undef))]) 18 rfl ?_
   refine bz ?_
   refine af ?_
   refine af ?_
   obtain ⟨v2, hv2, h⟩:=zn h
   refine yx hn 1 ?_
   refine ys 1 ⟨lS hv2⟩ ?_
   refine bS [17,2,3,4,18,10,17,2,3] ?_
   refine aP _ rfl (fun hb11 => ?_) (fun hb11 => ?_)
   ·have h:=aT hb11 h
    refine bE hn 3 [17,2,3,18,17,2,3] ?_
    refine aS ?_
    refine aO ?_
    refine bA ?_
    refine aD [0,1,2,4,5,6,3] (by kernel_rfl) (es':=[(_,_),(_,_),(_,_),(_,_),(_,_),(_,_),(_,_)]) rfl ?_
    obtain rfl:=zi h
    exact qi 18 [17, 2, 3] _ rfl rfl (by kernel_rfl)
   ·have h:=aV hb11 h
    refine ba ?_
    refine aB ?_
    obtain ⟨v4, hv4, h⟩:=zn h
    obtain ⟨v5, hv5, h⟩:=zn h
    refine yx hn 3 ?_
    refine ys 0 ⟨lb hv4⟩ ?_
    refine ys 1 ⟨lb hv5⟩ ?_
    refine ye [17,2,3,18,17,2,3] ?_
    refine bF ?_
    refine aD [0,1,2,4,5,6,3] (by kernel_rfl) (es':=[(_,_),(_,_),(_,_),(_,_),(_,_),(_,_),(_,_)]) rfl ?_
    obtain rfl:=zi h
    exact jY 18 [17, 2, 3] _ rfl rfl (by kernel_rfl)
  ·rintro D s8 h
   refine bF ?_
   refine aB ?_
   refine bE hn 2 [17,2,3] ?_
   refine aS ?_
   refine aD [1,2] (by kernel_rfl) (es':=[(_,_),(_,_)]) rfl ?_
   obtain rfl:=zi h
   exact aW hio rfl (.cell1 _ _ _ _ underlying3 rfl (.cell1 _ _ _ _ underlying4 rfl .nil)) rfl rfl
  ·rintro D s10 h
   refine aD [1,2] (by kernel_rfl) (es':=[(_,_),(_,_)]) rfl ?_
   refine bA ?_
   refine aO ?_
   obtain rfl:=zi h
   exact aW hio rfl (.cell1 _ _ _ _ underlying3 rfl (.cell1 _ _ _ _ underlying4 rfl .nil)) rfl rfl
theorem qE (mx:Int×Nat×Value) (s:List Int) (c:ByteArray) (r:Int) (h:Sh.gz s c=some r):iO Tryz.prog (GL mx) 144 [.fl .shr 1 (map (int .u8) s), .v (.string c)] (.v (.int .i64 r)) :=
  pR (wg mx) (Ao mx) (Ef mx) (fun s b off c w hs hnc hb hm hmb k1 k2 HG hp=>Tryz.idx_crlf s b off c w mx.1 hs hnc hb hm hmb (yJ il kj (by kernel_rfl) (by kernel_rfl) k1 k2) HG hp) Tryz.idx_none s c r h
theorem nR (mx:Int×Nat×Value) (b:(List Int)) (chars:ByteArray) (r:Bool) (h:Sh.dx b chars=some r):iO Tryz.prog (GL mx) 122 [.fl .shr 1 (map (int .u8) b), .v (.string chars)] (.v (.bool r)):=by
  unfold Sh.dx at h
  refine yG 9 func122 fun g0 hn hio => ?_
  refine bE hn 1 [0,1,9] ?_
  refine af ?_
  obtain ⟨v1, hv1, h⟩:=zn h
  refine yx hn 2 ?_
  refine ys 2 ⟨lg call144 (qE _ _ _ _ hv1) 9⟩ ?_
  refine bS [9,4] ?_
  refine aS ?_
  refine aD [1] (by kernel_rfl) (es':=[(_,_)]) rfl ?_
  obtain rfl:=zi h
  exact aW hio rfl (.tmp _ _ .nil) rfl rfl
theorem jQ (mx:Int×Nat×Value) (b:(List Int)) (r:Int) (h:Sh.iq b=some r):iO Tryz.prog (GL mx) 95 [.fl .shr 1 (map (int .u8) b)] (.v (.int .i64 r)):=by
  unfold Sh.iq at h
  refine yG 19 func95 fun g0 hn hio => ?_
  refine gP hn 0 ?_
  refine yS (.box 35 [vi 0]) 0 ⟨oA (bR _ _ Hi)⟩ ?_
  refine bS [0,19,2] ?_
  refine gP hn 0 ?_
  refine yS (.box 3 [vi 0]) 1 ⟨oA (bR _ _ Hn)⟩ ?_
  refine bS [0,19,2,3] ?_
  refine af ?_
  refine af ?_
  obtain ⟨v1, hv1, h⟩:=zn h
  refine yx hn 1 ?_
  refine yk [] [5] ?_
  refine yt (6,.cloB 123 [.box 28 [fb v1]]) 0 ⟨gU _ _ 96 _ _ rfl call96 rfl rfl (gW b _ hv1) rfl⟩ ?_
  refine bS [0,19,2,3,6] ?_
  refine bz ?_
  refine jO [4,0,1,2,3] (by kernel_rfl) (es':=[(6,.cloB 123 [.box 28 [fb v1]]),(0,fb b),(19,.glob (GL mx)),(2,.box 35 [vi 0]),(3,.box 3 [vi 0])]) rfl ?_
  refine iE h 123 6 7 20 _ [0, 19, 2, 3] call123 (fun (s8:Int)=>[(0, fb b), (19, .glob (GL mx)), (2, .box 35 [.v (.int .i64 0)]), (3, .box 3 [.v (.int .i64 s8)])]) (fun (s10:Int)=>[(0, fb b), (19, .glob (GL mx)), (2, .box 35 [.v (.int .i64 5)]), (3, .box 3 [.v (.int .i64 s10)])]) (fun l J Y hY t t' h=>fL mx l J Y hY v1 t t' h) hn rfl (fun _=>rfl) (fun _=>rfl) (fun _=>rfl) rfl rfl (fun _=>⟨rfl, rfl⟩) rfl (iB 19 rfl) ?_ ?_ ?_
  ·rintro kk g0 hn hio x s8 u h
   refine rX (es':=[(7,fb x),(0,fb b),(19,.glob (GL mx)),(2,.box 35 [vi 0]),(3,.box 3 [vi s8]),(0,.v (kk.tm.getD 0 undef)),(19,.v (kk.tm.getD 19 undef)),(2,.v (kk.tm.getD 2 undef)),(3,.v (kk.tm.getD 3 undef)),(20,.inv kk.ready)]) rfl ?_
   refine yy hn 1 [0,19,2,3,20,4,0,19,2,3] ?_
   refine aD [0,1,2,3,5,6,7,8,9,4] (by kernel_rfl) (es':=[(0,fb b),(19,.glob (GL mx)),(2,.box 35 [vi 0]),(3,.box 3 [vi s8]),(4,fb x),(0,.v (kk.tm.getD 0 undef)),(19,.v (kk.tm.getD 19 undef)),(2,.v (kk.tm.getD 2 undef)),(3,.v (kk.tm.getD 3 undef)),(20,.inv kk.ready)]) rfl ?_
   refine jT (es:=[(0,fb b),(19,.glob (GL mx)),(2,.box 35 [vi 0]),(3,.box 3 [vi s8]),(4,fb x),(0,.v (kk.tm.getD 0 undef)),(19,.v (kk.tm.getD 19 undef)),(2,.v (kk.tm.getD 2 undef)),(3,.v (kk.tm.getD 3 undef))]) 20 rfl ?_
   refine bz ?_
   refine af ?_
   refine af ?_
   obtain ⟨v2, hv2, h⟩:=zn h
   refine yx hn 1 ?_
   refine ys 0 ⟨lg call122 (nR _ _ _ _ hv2) 19⟩ ?_
   refine bS [0,19,2,3,4,20,9,0,19,2,3] ?_
   refine aP _ rfl (fun hb11 => ?_) (fun hb11 => ?_)
   ·have h:=aT hb11 h
    refine bE hn 1 [0,19,2,3,20,0,19,2,3] ?_
    refine aS ?_
    refine aO ?_
    refine bA ?_
    refine aD [0,1,2,3,5,6,7,8,4] (by kernel_rfl) (es':=[(_,_),(_,_),(_,_),(_,_),(_,_),(_,_),(_,_),(_,_),(_,_)]) rfl ?_
    obtain rfl:=zi h
    exact qi 20 [0, 19, 2, 3] _ rfl rfl (by kernel_rfl)
   ·have h:=aV hb11 h
    refine ba ?_
    refine aB ?_
    obtain ⟨v4, hv4, h⟩:=zn h
    obtain ⟨v5, hv5, h⟩:=zn h
    refine yx hn 3 ?_
    refine ys 0 ⟨lb hv4⟩ ?_
    refine ys 1 ⟨lb hv5⟩ ?_
    refine ye [0,19,2,3,20,0,19,2,3] ?_
    refine bF ?_
    refine aD [0,1,2,3,5,6,7,8,4] (by kernel_rfl) (es':=[(_,_),(_,_),(_,_),(_,_),(_,_),(_,_),(_,_),(_,_),(_,_)]) rfl ?_
    obtain rfl:=zi h
    exact jY 20 [0, 19, 2, 3] _ rfl rfl (by kernel_rfl)
  ·rintro D s8 h
   refine bF ?_
   refine aB (af ?_)
   refine bE hn 4 [19,2,18] ?_
   refine aP _ rfl (fun hb12 => ?_) (fun hb12 => ?_)
   ·have h:=aT hb12 h
    refine bE hn 1 [19,2] ?_
    refine aS ?_
    refine aD [1] (by kernel_rfl) (es':=[(_,_)]) rfl ?_
    refine aO ?_
    obtain rfl:=zi h
    exact aW hio rfl (.cell1 _ _ _ _ underlying35 rfl .nil) rfl rfl
   ·have h:=aV hb12 h
    refine ba ?_
    refine aB ?_
    refine bE hn 1 [19,2] ?_
    refine aS ?_
    refine aD [1] (by kernel_rfl) (es':=[(_,_)]) rfl ?_
    obtain rfl:=zi h
    exact aW hio rfl (.cell1 _ _ _ _ underlying35 rfl .nil) rfl rfl
  ·rintro D s10 h
   refine aD [2] (by kernel_rfl) (es':=[(_,_)]) rfl ?_
   refine bA ?_
   refine aO ?_
   obtain rfl:=zi h
   exact aW hio rfl (.cell1 _ _ _ _ underlying35 rfl .nil) rfl rfl
theorem kO (s:(List Int)) (prefix_:(List Int)) (r:Bool) (h:Sh.hZ s prefix_=some r):cU Tryz.prog 124 [.fl .shr 1 (map (int .u8) s), .fl .shr 1 (map (int .u8) prefix_)] (.v (.bool r)):=by
  unfold Sh.hZ at h
  refine yO 18 func124 fun g0 hn hio => ?_
  refine bE hn 1 [0,1] ?_
  refine af ?_
  refine bk h (fun (s3:Bool)=>[(4,vb s3)]) ?_ ?_
  ·rintro s3 h
   refine aB (aS ?_)
   obtain rfl:=zi h
   exact aW hio rfl (.tmp _ _ .nil) rfl rfl
  ·intro u4 h hl5 hr6
   refine aR h (fun hg1_5 h => ?_) (fun hg1_5 h => ?_)
   ·obtain ⟨v1, hv1, h⟩:=zn h
    obtain ⟨v2, hv2, h⟩:=zn h
    refine yx hn 6 ?_
    refine yd hg1_5 3 ?_
    refine yS (fb v1) 1 ⟨oW _ _ _ 0 (prefix_.length:Int) _ underlying28 kI rfl rfl rfl ⟨_,rfl⟩ hv1⟩ ?_
    refine ys 2 ⟨lk call72 (nX _ _ _ hv2)⟩ ?_
    refine ye [4] ?_
    exact hl5 _ (zi h).symm
   ·refine yx hn 6 ?_
    refine yd hg1_5 8 ?_
    refine ye [4] ?_
    exact hl5 _ (zi h).symm
theorem mT (s:(List Int)) (prefix_:(List Int)) (r:(List Int)) (h:Sh.gK s prefix_=some r):cU Tryz.prog 97 [.fl .shr 1 (map (int .u8) s), .fl .shr 1 (map (int .u8) prefix_)] (.fl .shr 1 (map (int .u8) r)):=by
  unfold Sh.gK at h
  refine yO 13 func97 fun g0 hn hio => ?_
  refine bE hn 1 [0,1] ?_
  refine af ?_
  refine af ?_
  obtain ⟨v1, hv1, h⟩:=zn h
  refine yx hn 2 ?_
  refine ys 0 ⟨lk call124 (kO _ _ _ hv1)⟩ ?_
  refine bS [0,1,7] ?_
  refine aP _ rfl (fun hb2 => ?_) (fun hb2 => ?_)
  ·have h:=aT hb2 h
   refine af ?_
   obtain ⟨v3, hv3, h⟩:=zn h
   refine yx hn 3 ?_
   refine yS (fb v3) 1 ⟨oW _ _ _ (prefix_.length:Int) (s.length:Int) _ underlying28 kI rfl rfl ⟨_,rfl⟩ rfl hv3⟩ ?_
   refine bS [4] ?_
   refine aS ?_
   refine aO ?_
   obtain rfl:=zi h
   exact aW hio rfl (.tmp _ _ .nil) rfl rfl
  ·have h:=aV hb2 h
   refine ba ?_
   refine aB ?_
   refine bE hn 2 [4] ?_
   refine aS ?_
   obtain rfl:=zi h
   exact aW hio rfl (.tmp _ _ .nil) rfl rfl
theorem uv (mx:Int×Nat×Value) (b:(List Int)) (r:((List Int)×Int×Int)) (h:Sh.jK b=some r):iO Tryz.prog (GL mx) 84 [.fl .shr 1 (map (int .u8) b)] (.tup [.fl (.own 5) 1 (map (int .u8) r.1), .v (.int .i64 r.2.1), .v (.int .i64 r.2.2)]):=by
  unfold Sh.jK at h
  refine yG 39 func84 fun g0 hn hio => ?_
  refine gP hn 0 ?_
  refine yS (.box 28 [vz]) 2 ⟨oA (bR _ _ DY)⟩ ?_
  refine bS [0,39,2] ?_
  refine af ?_
  obtain ⟨v1, hv1, h⟩:=zn h
  refine yx hn 1 ?_
  refine ys 0 ⟨lg call94 (rG _ _ _ hv1) 39⟩ ?_
  refine ym 4 ?_
  refine bS [0,39,2,5,6] ?_
  refine af ?_
  refine bE hn 2 [0,39,2,5,15] ?_
  refine aP _ rfl (fun hb2 => ?_) (fun hb2 => ?_)
  ·have h:=aT hb2 h
   refine bE hn 3 [39,2,3,4] ?_
   refine aS ?_
   refine aD [1,2,3] (by kernel_rfl) (es':=[(_,_),(_,_),(_,_)]) rfl ?_
   refine dm (fs:=[(2,.box 28 [.fl (.own 5) 1 (map (int .u8) [])]),(3,vi 0),(4,vi 9)]) (.box _ _ (ai (cy 5 1) (cl)) rfl (.same _ (.same _ .nil))) ?_
   refine aO ?_
   obtain rfl:=zi h
   exact aW hio rfl (.cell1 _ _ _ _ underlying28 rfl (.tmp _ _ (.tmp _ _ .nil))) rfl rfl
  ·have h:=aV hb2 h
   refine ba ?_
   refine aB (af ?_)
   refine af ?_
   obtain ⟨v3, hv3, h⟩:=zn h
   obtain ⟨v4, hv4, h⟩:=zn h
   refine yx hn 2 ?_
   refine yS (fb v3) 0 ⟨oW _ _ _ 0 v1.1 _ underlying28 kI rfl rfl rfl ⟨_,rfl⟩ hv3⟩ ?_
   refine ys 1 ⟨lg call95 (jQ _ _ _ hv4) 39⟩ ?_
   refine bS [0,39,2,5,7] ?_
   refine bE hn 2 [0,39,2,5,7,21] ?_
   refine aP _ rfl (fun hb5 => ?_) (fun hb5 => ?_)
   ·have h:=aT hb5 h
    refine bE hn 4 [39,2,3,4] ?_
    refine aS ?_
    refine aD [1,2,3] (by kernel_rfl) (es':=[(_,_),(_,_),(_,_)]) rfl ?_
    refine dm (fs:=[(2,.box 28 [.fl (.own 5) 1 (map (int .u8) [])]),(3,vi 0),(4,vi v4)]) (.box _ _ (ai (cy 5 1) (cl)) rfl (.same _ (.same _ .nil))) ?_
    refine aO ?_
    obtain rfl:=zi h
    exact aW hio rfl (.cell1 _ _ _ _ underlying28 rfl (.tmp _ _ (.tmp _ _ .nil))) rfl rfl
   ·have h:=aV hb5 h
    refine ba ?_
    refine aB (af ?_)
    refine af ?_
    obtain ⟨v6, hv6, h⟩:=zn h
    obtain ⟨v7, hv7, h⟩:=zn h
    refine yx hn 2 ?_
    refine yS (fb v6) 0 ⟨oW _ _ _ 0 v1.1 _ underlying28 kI rfl rfl rfl ⟨_,rfl⟩ hv6⟩ ?_
    refine yk [] [25] ?_
    refine yt (26,.cloB 123 [.box 28 [fb v7]]) 0 ⟨gU _ _ 96 _ _ rfl call96 rfl rfl (gW v6 _ hv7) rfl⟩ ?_
    refine bS [39,2,5,26] ?_
    refine bz ?_
    refine jO [3,0,1,2] (by kernel_rfl) (es':=[(26,.cloB 123 [.box 28 [fb v7]]),(39,.glob (GL mx)),(2,.box 28 [vz]),(5,vi v1.1)]) rfl ?_
    refine nY (fs:=[(26,.cloB 123 [.box 28 [fb v7]]),(39,.glob (GL mx)),(2,.box 28 [.fl (.own 5) 1 (map (int .u8) [])]),(5,vi v1.1)]) (.same _ (.same _ (.box _ _ (ai (cy 5 1) (cl)) rfl (.same _ .nil)))) ?_
    refine iE h 123 26 27 40 _ [39, 2, 5] call123 (fun (s12:(List Int))=>[(39, .glob (GL mx)), (2, .box 28 [.fl (.own 5) 1 (map (int .u8) s12)]), (5, .v (.int .i64 v1.1))]) (fun (():Unit)=>[]) (fun l J Y hY t t' h=>fL mx l J Y hY v7 t t' h) hn rfl (fun _=>rfl) (fun _=>rfl) (fun _=>rfl) rfl rfl (fun _=>⟨rfl, rfl⟩) rfl (iB 39 rfl) ?_ ?_ ?_
    ·rintro kk g0 hn hio x s12 u h
     refine rX (es':=[(27,fb x),(39,.glob (GL mx)),(2,.box 28 [.fl (.own 5) 1 (map (int .u8) s12)]),(5,vi v1.1),(39,.v (kk.tm.getD 39 undef)),(2,.v (kk.tm.getD 2 undef)),(5,.v (kk.tm.getD 5 undef)),(40,.inv kk.ready)]) rfl ?_
     refine yy hn 1 [39,2,5,40,8,39,2,5] ?_
     refine aD [0,1,2,4,5,6,7,3] (by kernel_rfl) (es':=[(39,.glob (GL mx)),(2,.box 28 [.fl (.own 5) 1 (map (int .u8) s12)]),(5,vi v1.1),(8,fb x),(39,.v (kk.tm.getD 39 undef)),(2,.v (kk.tm.getD 2 undef)),(5,.v (kk.tm.getD 5 undef)),(40,.inv kk.ready)]) rfl ?_
     refine jT (es:=[(39,.glob (GL mx)),(2,.box 28 [.fl (.own 5) 1 (map (int .u8) s12)]),(5,vi v1.1),(8,fb x),(39,.v (kk.tm.getD 39 undef)),(2,.v (kk.tm.getD 2 undef)),(5,.v (kk.tm.getD 5 undef))]) 40 rfl ?_
     refine bz ?_
     refine af ?_
     obtain ⟨v8, hv8, h⟩:=zn h
     obtain ⟨v9, hv9, h⟩:=zn h
     refine wb [[2],[8]] ?_
     refine wN [] ?_
     refine wS (.fl (.own 5) 1 (map (int .u8) [46])) [] ⟨bM _ _ 1 (.int .u8 0) (map (int .u8) [46]) [(0,.int .u8 46)] underlying28 kI qV (fun _ V w o a hv hes=>by simp only [List.map_toArray,List.map_cons,List.map_nil]; try rfl) (cR (by simp [Instr.fill,Value.cells]; rfl) (by simp [List.range,List.range.loop] <;> rfl)) (by simp [Value.oneCell']) rfl (by decide) (by decide) (by decide)⟩ ?_
     refine wK [30] [] ?_
     refine wt [(31,.fl .ro 1 (map (int .u8) [46]))] [] ⟨gH _ _ _ underlying28 underlying5 (by intro h; cases h)⟩ ?_
     refine wN [29,31] ?_
     refine wS (fb v8) [] ⟨gU _ _ 97 _ _ rfl call97 rfl rfl (mT x [46] _ hv8) rfl⟩ ?_
     refine wK [2] [28,32] ?_
     refine wt [(2,.box 28 [.any]),(33,.fl (.own 5) 1 (map (int .u8) v9))] [] ⟨iu _ _ _ _ _ _ fV rfl rfl (zl rfl) rfl (fY _) (fY _) hv9 ((List.map_append).symm.trans (congrArg (map _) (kv hv9))) (Nat.ne_of_beq_eq_false rfl) rfl rfl⟩ ?_
     refine wK [28,33,2] [] ?_
     refine wt [(2,.box 28 [.fl (.own 5) 1 (map (int .u8) v9)])] [] ⟨bG.drop [_] (bI _ _ _ _ _ _ _ _ lQ rfl rfl rfl (zl rfl) rfl rfl)⟩ ?_
     refine vJ hn [39,2,5,40,39,2,5] ?_
     obtain ⟨v10, hv10, h⟩:=zn h
     refine yx hn 1 ?_
     refine yk [2] [34] ?_
     refine np (2,.box 28 [.any]) (35,.fl (.own 5) 1 (map (int .u8) v10)) 0 ⟨eG _ _ _ _ _ _ fV qV underlying9 rfl rfl (zl rfl) rfl rfl hv10 rfl (Nat.ne_of_beq_eq_false rfl) rfl rfl⟩ ?_
     refine yw [34] 0 ?_
     refine yk [35,2] [] ?_
     refine yt (2,.box 28 [.fl (.own 5) 1 (map (int .u8) v10)]) 0 ⟨bI _ _ _ _ _ _ _ _ lQ rfl rfl rfl (zl rfl) rfl rfl⟩ ?_
     refine ye [39,2,5,40,39,2,5] ?_
     refine bF ?_
     refine aD [0,1,2,4,5,6,3] (by kernel_rfl) (es':=[(_,_),(_,_),(_,_),(_,_),(_,_),(_,_),(_,_)]) rfl ?_
     obtain rfl:=zi h
     exact jY 40 [39, 2, 5] _ rfl rfl (by kernel_rfl)
    ·rintro D s12 h
     refine bF ?_
     refine aB (af ?_)
     obtain ⟨v13, hv13, h⟩:=zn h
     refine yx hn 2 ?_
     refine ys 0 ⟨lb hv13⟩ ?_
     refine yk [2] [36] ?_
     refine yt (2,.box 28 [.fl (.own 5) 1 (map (int .u8) s12)]) 2 ⟨tw _ _ _ 2 0 lQ rfl rfl rfl (zl rfl)⟩ ?_
     refine bS [39,2,3,4] ?_
     refine aS ?_
     refine aD [1,2,3] (by kernel_rfl) (es':=[(_,_),(_,_),(_,_)]) rfl ?_
     obtain rfl:=zi h
     exact aW hio rfl (.cell1 _ _ _ _ underlying28 rfl (.tmp _ _ (.tmp _ _ .nil))) rfl rfl
    ·rintro D ⟨⟩ h
     cases h
theorem fJ (xs:List Value):pM Tryz.prog 145 [.hid (ii 153 5 false xs)] [.hid (ii 153 5 true xs)] (.tup []) :=
  Bu (by decide) (fun b w h1 h2 h3=>Tryz.Builder_copyCheck_fresh b w h1 h2 h3) (fun b w h=>Tryz.Builder_copyCheck_used b w h)
theorem eo (xs:List Int) (c:Int) (r:List Int) (h:cW 1 xs [c]=some r):pM Tryz.prog 125 [.hid (ii 153 5 false (map (int .u8) xs)), .v (.int .u8 c)] [.hid (ii 153 5 false (map (int .u8) r))] (.v .nilIface):=by
  refine pM.bldW ?_
  refine vM func125 rfl (zl rfl) rfl (zl rfl) fun args0 hargs0 g0 hn hio => ?_
  refine DC hn [_,_,_,(4,.v .nilIface)] [0,1,2] [0,1,2] [zq [] 3 4] [(_,_),(_,_),(_,_)] rfl ⟨z2 rfl,zz⟩ ?_
  refine DC hn [_,_,_,(5,.same (.slot 0)),(0,.hid (ii 153 5 true (map (int .u8) xs))),(6,.tup [])] [0,1,2] [4,1,2] [zq [] 3 5,⟨[3],[0],[4,5],[(.slot 6)]⟩] [(_,_),(_,_),(_,_)] rfl ⟨zp rfl (eb _ _ _ rfl),zp rfl (mg _ _ _ _ 6 145 [.tmp 5] [] _ _ _ rfl call145 rfl rfl rfl (fJ _) (zl rfl) rfl rfl rfl rfl rfl rfl rfl),zz⟩ ?_
  refine tu 0 rfl ?_
  refine DC hn (_::_::_::(7,.ptr 0 0)::(8,.ptr 0 0)::(9,.ptr 0 0)::(10,.ptr 0 1)::(11,.same (.cell 0 1))::(12,.v (.int .u8 c))::(13,.fl (.own 5) 1 (map (int .u8) [c]))::(14,.fl (.own 5) 1 (map (int .u8) r))::(0,.box 153 [.ptr 0 0,.any])::(15,.ptr 0 0)::(16,.ptr 0 1)::(0,.box 153 [.ptr 0 0,.fl (.own 5) 1 (map (int .u8) r)])::[]) [0,1,2] [14,2] [zq [0] 3 7,zq [0] 4 8,zq [4,0] 5 9,zq [5,0] 6 10,zq [6,0] 7 11,zq [1] 8 12,zq [8] 9 13,⟨[7,9],[0],[11,10],[(.slot 14)]⟩,zq [3,11] 12 15,zq [12,11] 13 16,⟨[13],[7,10,11],[14],[.cell 0 1]⟩] [(_,_),(_,_)] rfl ⟨z1 rfl,z1 rfl,zp rfl (ki _ _ _ 0 0 rfl (by decide)),zp rfl (oF underlying153 rfl lQ),zp rfl (oL underlying28 rfl),z1 rfl,zp rfl (bM _ _ 1 (.int .u8 0) (map (int .u8) [c]) [(0, .int .u8 c)] underlying28 kI qV (fun _ V w o a hv hes=>by have e0:=cN hv hes (x := .tmp 12) rfl; simp only [List.map_toArray, List.map_cons, List.map_nil, e0]; try rfl) (cR (by simp [Instr.fill, Value.cells]; rfl) (by simp [List.range, List.range.loop])) (by simp [Value.oneCell']) rfl (by decide) (by decide) (by decide)),zp rfl (iu _ _ _ _ _ _ fV rfl rfl (zl rfl) rfl (fY _) (fY _) h ((List.map_append).symm.trans (congrArg (map _) (kv h))) (Nat.ne_of_beq_eq_false rfl) rfl rfl),zp rfl (ki _ _ _ 0 0 rfl (by decide)),zp rfl (oF underlying153 rfl lQ),zp rfl (bG.drop [_] (bI _ _ _ _ _ _ _ _ lQ rfl rfl rfl (zl rfl) rfl rfl)),zz⟩ ?_
  refine DC hn [_,_,(4,.v .nilIface)] [0,1] [0,1,2] [zq [] 2 4] [(_,_),(_,_),(_,_)] rfl ⟨z2 rfl,zz⟩ ?_
  refine aS ?_
  refine Ci 0 ?_
  refine aD [2,0,1] (by kernel_rfl) (es':=[(_,_),(_,_),(_,_)]) rfl ?_
  exact cq (es:=[(4, .v .nilIface)]) (posts:=[.hid (ii 153 5 true (map (int .u8) r))]) hio rfl rfl (.tmp _ _ .nil) rfl rfl hargs0 rfl
theorem qp (s:ByteArray) (c:Int) (r:ByteArray) (h:Sh.strings_Repeat s c=some r):cU Tryz.prog 127 [.v (.string s), .v (.int .i64 c)] (.v (.string r)):=pJ Tryz.strings_Repeat s c r h
theorem jM (xs:List Int) (s:ByteArray) (r:List Int) (h:cW 1 xs (cr s)=some r):pM Tryz.prog 126 [.hid (ii 153 5 false (map (int .u8) xs)), .v (.string s)] [.hid (ii 153 5 false (map (int .u8) r))] (.tup [.v (.int .i64 (s.size:Int)), .v .nilIface]):=by
  refine pM.bldW ?_
  refine vM func126 rfl (zl rfl) rfl (zl rfl) fun args0 hargs0 g0 hn hio => ?_
  refine DC hn [_,_,_,(4,vi 0),(5,.v .nilIface)] [0,1,2] [0,1,2] [zq [] 3 4,zq [] 4 5] [(_,_),(_,_),(_,_)] rfl ⟨z2 rfl,z2 rfl,zz⟩ ?_
  refine DC hn [_,_,_,(6,.same (.slot 0)),(0,.hid (ii 153 5 true (map (int .u8) xs))),(7,.tup [])] [0,1,2] [4,1,2] [zq [] 3 6,⟨[3],[0],[4,5],[(.slot 7)]⟩] [(_,_),(_,_),(_,_)] rfl ⟨zp rfl (eb _ _ _ rfl),zp rfl (mg _ _ _ _ 7 145 [.tmp 6] [] _ _ _ rfl call145 rfl rfl rfl (fJ _) (zl rfl) rfl rfl rfl rfl rfl rfl rfl),zz⟩ ?_
  refine tu 0 rfl ?_
  refine DC hn (_::_::_::(8,.ptr 0 0)::(9,.ptr 0 0)::(10,.ptr 0 0)::(11,.ptr 0 1)::(12,.same (.cell 0 1))::(13,vs s)::(14,.fl (.own 5) 1 (map (int .u8) r))::(0,.box 153 [.ptr 0 0,.any])::(15,.ptr 0 0)::(16,.ptr 0 1)::(0,.box 153 [.ptr 0 0,.fl (.own 5) 1 (map (int .u8) r)])::[]) [0,1,2] [13,1,2] [zq [0] 3 8,zq [0] 4 9,zq [4,0] 5 10,zq [5,0] 6 11,zq [6,0] 7 12,zq [1] 8 13,⟨[7,8],[0],[10,9],[(.slot 14)]⟩,zq [3,10] 11 15,zq [11,10] 12 16,⟨[12],[7,9,10],[13],[.cell 0 1]⟩] [(_,_),(_,_),(_,_)] rfl ⟨z1 rfl,z1 rfl,zp rfl (ki _ _ _ 0 0 rfl (by decide)),zp rfl (oF underlying153 rfl lQ),zp rfl (oL underlying28 rfl),z1 rfl,zp rfl (eG _ _ _ _ _ _ fV qV underlying9 rfl rfl (zl rfl) rfl rfl h rfl (Nat.ne_of_beq_eq_false rfl) rfl rfl),zp rfl (ki _ _ _ 0 0 rfl (by decide)),zp rfl (oF underlying153 rfl lQ),zp rfl (bG.drop [_] (bI _ _ _ _ _ _ _ _ lQ rfl rfl rfl (zl rfl) rfl rfl)),zz⟩ ?_
  refine DC hn [_,_,_,(17,vs s),(18,vi (s.size:Int)),(4,vi (s.size:Int)),(5,.v .nilIface)] [0,1,2] [0,2,5,6] [zq [1] 3 17,zq [3] 4 18,zq [4] 5 4,zq [] 6 5] [(_,_),(_,_),(_,_),(_,_)] rfl ⟨z1 rfl,zp rfl (oN underlying9 rfl),z2 rfl,z2 rfl,zz⟩ ?_
  refine aS ?_
  refine Ci 0 ?_
  refine aD [2,3,0,1] (by kernel_rfl) (es':=[(_,_),(_,_),(_,_),(_,_)]) rfl ?_
  exact cq (es:=[(4, .v (.int .i64 (s.size:Int))), (5, .v .nilIface)]) (posts:=[.hid (ii 153 5 true (map (int .u8) r))]) hio rfl rfl (.tmp _ _ (.tmp _ _ .nil)) rfl rfl hargs0 rfl
theorem gI (xs:List Int) (s:ByteArray) (h:Cf xs=some s):pM Tryz.prog 128 [.hid (ii 153 5 false (map (int .u8) xs))] [] (.v (.string s)):=by
  refine vM func128 rfl (zl rfl) rfl (zl rfl) fun args0 hargs0 g0 hn hio => ?_
  refine zu 0 fun v => ?_
  refine DC hn [_,(2,vs ByteArray.empty)] [0] [0] [zq [] 1 2] [(_,_)] rfl ⟨z2 rfl,zz⟩ ?_
  refine af ?_
  refine sK (by kernel_rfl) hn (El:=[_,(3,.same (.slot 0)),(4,.ptr 0 0),(5,.ptr 0 1),(6,.v v),(7,.hid (Eb v)),(8,.same (.slot 0)),(9,.ptr 0 0),(10,.ptr 0 1),(11,.v v),(12,vi ((map (int .u8) xs).length:Int)),(13,vs s),(2,vs s)]) (init:=[0]) (fin:=[12]) (sps:=[zq [] 1 3,zq [1,0] 2 4,zq [2] 3 5,zq [3,0] 4 6,zq [4,0] 5 7,zq [] 6 8,zq [6,0] 7 9,zq [7] 8 10,zq [8,0] 9 11,zq [9,0] 10 12,⟨[5,10],[0],[11],[(.slot 13)]⟩,zq [11] 12 2]) (es':=[(2,vs s)]) (by kernel_rfl) rfl rfl ⟨zp rfl (eb _ _ _ rfl),zp rfl (nc _ _ _ 0 rfl rfl (by decide)),zp rfl (oF underlying153 rfl lQ),zp rfl (rT _ _ _ 0 underlying28 rfl rfl rfl),zp rfl (Fz _ _ 0 underlying173 rfl rfl),zp rfl (eb _ _ _ rfl),zp rfl (nc _ _ _ 0 rfl rfl (by decide)),zp rfl (oF underlying153 rfl lQ),zp rfl (rT _ _ _ 0 underlying28 rfl rfl rfl),zp rfl (yb _ _ 0 underlying28 rfl rfl),zp rfl (DN _ _ 0 underlying173 (by kernel_rfl) rfl rfl h),z2 rfl,zz⟩ ?_
  refine aB (aS ?_)
  exact cq (es:=[(2, .v (.string s))]) (posts:=[]) hio rfl rfl (.tmp _ _ .nil) rfl rfl hargs0 rfl
theorem kS (b:(List Int)) (r:ByteArray) (h:Sh.ke b=some r):cU Tryz.prog 98 [.fl .shr 1 (map (int .u8) b)] (.v (.string r)):=by
  unfold Sh.ke at h
  refine yO 61 func98 fun g0 hn hio => ?_
  refine bE hn 1 [0] ?_
  refine gP hn 0 ?_
  refine yS (.hid (ii 153 5 false (map (int .u8) ([]:List Int)))) 0 ⟨oA (bG.bld0 (bR _ _ EY))⟩ ?_
  refine bS [0,3] ?_
  refine af ?_
  refine bE hn 1 [0,3,4] ?_
  refine bV h (fun ((s89,s90):(List Int)×Int)=>[(0,fb b),(3,.hid (ii 153 5 false (map (int .u8) s89))),(4,vi s90)]) (fun (s122:(List Int))=>[(3,.hid (ii 153 5 false (map (int .u8) s122)))]) ?_ ?_
  ·rintro s122 h
   refine aB (af ?_)
   obtain ⟨v160, hv160, h⟩:=zn h
   refine yx hn 0 ?_
   refine yk [3] [] ?_
   refine yt (60,vs v160) 1 ⟨mg _ _ _ _ 60 128 [.tmp 3] [] _ _ _ rfl call128 rfl rfl rfl (gI s122 _ hv160) (zl rfl) rfl rfl rfl rfl rfl rfl rfl⟩ ?_
   refine bS [2] ?_
   refine aS ?_
   obtain rfl:=zi h
   exact aW hio rfl (.tmp _ _ .nil) rfl rfl
  ·rintro u123 hl124 hr125 ⟨s89, s90⟩ rr128 h ho126
   refine af ?_
   refine bE hn 4 [0,3,4,13] ?_
   refine aP _ rfl (fun hb129 => ?_) (fun hb129 => ?_)
   ·have h:=aT hb129 h
    refine ba ?_
    refine aB (af ?_)
    refine bz ?_
    refine af ?_
    obtain ⟨v2, hv2, h⟩:=zn h
    obtain ⟨v3, hv3, h⟩:=zn h
    refine yx hn 3 ?_
    refine ys 0 ⟨lb hv2⟩ ?_
    refine yS (vi v3) 1 ⟨(Option.some.inj hv3) ▸ vn _ _ _ _ rfl rfl⟩ ?_
    refine bS [0,3,4,5] ?_
    refine bE hn 1 [0,3,4,5,6] ?_
    refine af ?_
    refine af ?_
    obtain ⟨v4, hv4, h⟩:=zn h
    obtain ⟨v5, hv5, h⟩:=zn h
    refine yx hn 4 ?_
    refine ys 0 ⟨lb hv4⟩ ?_
    refine yS (fb v5) 2 ⟨oW _ _ _ s90 v4 _ underlying28 kI rfl rfl ⟨_,rfl⟩ ⟨_,rfl⟩ hv5⟩ ?_
    refine bS [0,3,4,5,6,26,27,28] ?_
    refine bV h (fun ((s134,s135):Int×Int)=>[(0,fb b),(3,.hid (ii 153 5 false (map (int .u8) s89))),(4,vi s90),(5,vi v3),(6,.v (.int .u32 s134)),(26,fb v5),(27,vi (v5.length:Int)),(28,vi s135)]) (fun (s137:Int)=>[(0,fb b),(3,.hid (ii 153 5 false (map (int .u8) s89))),(4,vi s90),(5,vi v3),(6,.v (.int .u32 s137))]) ?_ ?_
    ·rintro s137 h
     refine aB (af ?_)
     refine af ?_
     obtain ⟨v29, hv29, h⟩:=zn h
     refine yx hn 1 ?_
     refine ys 1 ⟨lb hv29⟩ ?_
     refine bS [0,3,4,5,6,43,44] ?_
     refine bV h (fun ((s149,s150):(List Int)×Int)=>[(0,fb b),(3,.hid (ii 153 5 false (map (int .u8) s149))),(4,vi s90),(5,vi v3),(6,.v (.int .u32 s137)),(43,vi v29),(44,vi s150)]) (fun (s152:(List Int))=>[(0,fb b),(3,.hid (ii 153 5 false (map (int .u8) s152))),(4,vi s90),(5,vi v3)]) ?_ ?_
     ·rintro s152 h
      refine aB ?_
      obtain ⟨v52, hv52, h⟩:=zn h
      obtain ⟨v53, hv53, h⟩:=zn h
      obtain ⟨v54, hv54, h⟩:=zn h
      refine yx hn 1 ?_
      refine ys 0 ⟨lb hv52⟩ ?_
      refine ys 0 ⟨lk call127 (qp _ _ _ hv53)⟩ ?_
      refine yq call126 (jM _ _ _ hv54) 3 [58] 0 ?_
      refine ye [0,3,4] ?_
      refine bF ?_
      refine aB ?_
      obtain ⟨v55, hv55, h⟩:=zn h
      refine yx hn 1 ?_
      refine ys 0 ⟨lb hv55⟩ ?_
      refine yw [4] 1 ?_
      refine ye [0,3,4] ?_
      exact ci _ (zi h).symm rfl
     ·rintro u153 hl154 hr155 ⟨s149, s150⟩ rr158 h ho156
      refine bE hn 1 [0,3,4,5,6,43,44,45] ?_
      refine af ?_
      refine aP _ rfl (fun hb159 => ?_) (fun hb159 => ?_)
      ·have h:=aT hb159 h
       refine ba ?_
       refine aB (af ?_)
       refine bz ?_
       refine bE hn 2 [0,3,4,5,6,43,44,9] ?_
       obtain ⟨v31, hv31, h⟩:=zn h
       obtain ⟨v32, hv32, h⟩:=zn h
       obtain ⟨v33, hv33, h⟩:=zn h
       obtain ⟨v34, hv34, h⟩:=zn h
       obtain ⟨v35, hv35, h⟩:=zn h
       obtain ⟨v36, hv36, h⟩:=zn h
       refine yx hn 2 ?_
       refine ys 0 ⟨lb hv31⟩ ?_
       refine ys 0 ⟨lb hv32⟩ ?_
       refine ys 0 ⟨lB (mw hv33)⟩ ?_
       refine ys 0 ⟨lb hv34⟩ ?_
       refine ys 0 ⟨lh hv35⟩ ?_
       refine yq call125 (eo _ _ _ hv36) 3 [53] 0 ?_
       refine ye [0,3,4,5,6,43,44] ?_
       refine bF ?_
       refine aB ?_
       obtain ⟨v37, hv37, h⟩:=zn h
       refine yx hn 0 ?_
       refine ys 0 ⟨lb hv37⟩ ?_
       refine yw [44] 1 ?_
       refine ye [0,3,4,5,6,43,44] ?_
       exact ci _ (zi h).symm rfl
      ·have h:=aV hb159 h
       refine ck ?_
       refine bh ?_
       refine bh ?_
       refine cj ?_
       refine aD [0,1,2,3] (by kernel_rfl) (es':=[(_,_),(_,_),(_,_),(_,_)]) rfl ?_
       exact hl154 _ (ho156 _ (zi h).symm).symm
    ·rintro u138 hl139 hr140 ⟨s134, s135⟩ rr143 h ho141
     refine bE hn 1 [0,3,4,5,6,26,27,28,29] ?_
     refine af ?_
     refine aP _ rfl (fun hb144 => ?_) (fun hb144 => ?_)
     ·have h:=aT hb144 h
      refine ba ?_
      refine aB (af ?_)
      refine bz ?_
      refine af ?_
      obtain ⟨v7, hv7, h⟩:=zn h
      obtain ⟨v8, hv8, h⟩:=zn h
      refine yx hn 1 ?_
      refine ys 0 ⟨li hv7⟩ ?_
      refine ys 2 ⟨ll hv8⟩ ?_
      refine bS [0,3,4,5,6,26,27,28,7,8] ?_
      obtain ⟨v9, hv9, h⟩:=zn h
      obtain ⟨v10, hv10, h⟩:=zn h
      obtain ⟨v11, hv11, h⟩:=zn h
      obtain ⟨v12, hv12, h⟩:=zn h
      obtain ⟨v13, hv13, h⟩:=zn h
      refine yx hn 2 ?_
      refine ys 1 ⟨lv hv9⟩ ?_
      refine ys 0 ⟨lb hv10⟩ ?_
      refine ys 0 ⟨lb hv11⟩ ?_
      refine ys 0 ⟨lB (qZ hv12)⟩ ?_
      refine ys 0 ⟨lb hv13⟩ ?_
      refine yw [6] 1 ?_
      refine ye [0,3,4,5,26,27,28,6] ?_
      refine bF ?_
      refine aB ?_
      obtain ⟨v14, hv14, h⟩:=zn h
      refine yx hn 0 ?_
      refine ys 0 ⟨lb hv14⟩ ?_
      refine yw [28] 1 ?_
      refine ye [0,3,4,5,26,27,6,28] ?_
      refine aD [0,1,2,3,6,4,5,7] (by kernel_rfl) (es':=[(_,_),(_,_),(_,_),(_,_),(_,_),(_,_),(_,_),(_,_)]) rfl ?_
      exact ci _ (zi h).symm rfl
     ·have h:=aV hb144 h
      refine ck ?_
      refine bh ?_
      refine bh ?_
      refine cj ?_
      refine aD [0,1,2,3,4] (by kernel_rfl) (es':=[(_,_),(_,_),(_,_),(_,_),(_,_)]) rfl ?_
      exact hl139 _ (ho141 _ (zi h).symm).symm
   ·have h:=aV hb129 h
    refine ck ?_
    refine bh ?_
    refine bh ?_
    refine cj ?_
    refine aD [1] (by kernel_rfl) (es':=[(_,_)]) rfl ?_
    exact hl124 _ (ho126 _ (zi h).symm).symm
theorem oa (code:Int) (r:Bool) (h:Sh.jX code=some r):cU Tryz.prog 99 [.v (.int .i64 code)] (.v (.bool r)):=by
  unfold Sh.jX at h
  refine yO 9 func99 fun g0 hn hio => ?_
  refine bE hn 1 [0] ?_
  refine af ?_
  refine bk h (fun (s1:Bool)=>[(2,vb s1)]) ?_ ?_
  ·rintro s1 h
   refine aB (aS ?_)
   obtain rfl:=zi h
   exact aW hio rfl (.tmp _ _ .nil) rfl rfl
  ·intro u2 h hl3 hr4
   refine aR h (fun hg1_2 h => ?_) (fun hg1_2 h => ?_)
   ·refine yx hn 3 ?_
    refine yd hg1_2 4 ?_
    refine ye [2] ?_
    exact hl3 _ (zi h).symm
   ·refine yx hn 3 ?_
    refine yd hg1_2 4 ?_
    refine ye [2] ?_
    exact hl3 _ (zi h).symm
end Go.Proofs.YtjnnkhmhjcjhdaaGreatDoor
