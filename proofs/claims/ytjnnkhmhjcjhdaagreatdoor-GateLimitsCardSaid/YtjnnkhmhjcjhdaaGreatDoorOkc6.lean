/-
  The model's runs are what is told in Lean.
-/
import Derived.Test.YtjnnkhmhjcjhdaaGreatDoorProg
import Derived.KernelRfl
import Derived.Test.YtjnnkhmhjcjhdaaGreatDoorShelf
import Derived.Test.YtjnnkhmhjcjhdaaGreatDoorIdx
import Derived.Test.YtjnnkhmhjcjhdaaGreatDoorB3
import Derived.Test.YtjnnkhmhjcjhdaaGreatDoorC1
import Derived.Test.YtjnnkhmhjcjhdaaGreatDoorBC
import Derived.Test.YtjnnkhmhjcjhdaaGreatDoorOkc5
set_option linter.unusedVariables false
set_option linter.unusedSimpArgs false
set_option maxHeartbeats 1000000
namespace Go.Proofs.YtjnnkhmhjcjhdaaGreatDoor
open Go.Abs Go.Abs.Sh Tryz
open List (map flatten)
open Value (int)
theorem mQ (s:ByteArray) (sep:ByteArray) (r:(ByteArray×ByteArray×Bool)) (h:Sh.fL s sep=some r):eD Tryz.prog 134 [.v (.string s), .v (.string sep)] (.tup [.v (.string r.1), .v (.string r.2.1), .v (.bool r.2.2)]):=by
  unfold Sh.fL at h
  refine yO 13 func134 fun g0 hn hio => ?_
  refine cF hn 3 [0,1] ?_
  refine aM ?_
  obtain ⟨v1, hv1, h⟩:=zn h
  refine yx hn 2 ?_
  refine ys 6 ⟨lk call156 (oM _ _ _ hv1)⟩ ?_
  refine dv [4,5,6] ?_
  refine bO ?_
  obtain rfl:=zi h
  exact bP hio rfl (.tmp _ _ (.tmp _ _ (.tmp _ _ .nil))) rfl rfl
theorem sv (line:ByteArray) (r:Int) (h:Sh.lV line=some r):eD Tryz.prog 109 [.v (.string line)] (.v (.int .i64 r)):=by
  unfold Sh.lV at h
  refine yO 37 func109 fun g0 hn hio => ?_
  refine cF hn 1 [0] ?_
  refine aM ?_
  obtain ⟨v1, hv1, h⟩:=zn h
  refine yx hn 1 ?_
  refine ys 0 ⟨lk call134 (mQ _ _ _ hv1)⟩ ?_
  refine ym 6 ?_
  refine dv [3] ?_
  refine aM ?_
  refine aM ?_
  obtain ⟨v2, hv2, h⟩:=zn h
  refine yx hn 1 ?_
  refine ys 0 ⟨lk call71 (iu _ _ hv2)⟩ ?_
  refine dv [13] ?_
  refine cA ?_
  refine aM ?_
  refine ce h (fun (s4:Bool)=>[(13,vs v2),(14,vb s4)]) ?_ ?_
  ·rintro s4 h
   refine bb ?_
   refine bL _ rfl (fun hb9 => ?_) (fun hb9 => ?_)
   ·have h:=bT hb9 h
    refine cF hn 1 [2] ?_
    refine bO ?_
    refine cC ?_
    refine bw ?_
    obtain rfl:=zi h
    exact bP hio rfl (.tmp _ _ .nil) rfl rfl
   ·have h:=bQ hb9 h
    refine cF hn 2 [13,17] ?_
    refine bL _ rfl (fun hb10 => ?_) (fun hb10 => ?_)
    ·have h:=bT hb10 h
     refine cF hn 1 [2] ?_
     refine bO ?_
     refine cC ?_
     refine bw ?_
     obtain rfl:=zi h
     exact bP hio rfl (.tmp _ _ .nil) rfl rfl
    ·have h:=bQ hb10 h
     refine cF hn 2 [13,19] ?_
     refine bL _ rfl (fun hb11 => ?_) (fun hb11 => ?_)
     ·have h:=bT hb11 h
      refine cF hn 1 [2] ?_
      refine bO ?_
      refine cC ?_
      refine bw ?_
      obtain rfl:=zi h
      exact bP hio rfl (.tmp _ _ .nil) rfl rfl
     ·have h:=bQ hb11 h
      refine cF hn 2 [13,21] ?_
      refine bL _ rfl (fun hb12 => ?_) (fun hb12 => ?_)
      ·have h:=bT hb12 h
       refine cF hn 1 [2] ?_
       refine bO ?_
       refine cC ?_
       refine bw ?_
       obtain rfl:=zi h
       exact bP hio rfl (.tmp _ _ .nil) rfl rfl
      ·have h:=bQ hb12 h
       refine cF hn 2 [13,23] ?_
       refine bL _ rfl (fun hb13 => ?_) (fun hb13 => ?_)
       ·have h:=bT hb13 h
        refine cF hn 1 [2] ?_
        refine bO ?_
        refine cC ?_
        refine bw ?_
        obtain rfl:=zi h
        exact bP hio rfl (.tmp _ _ .nil) rfl rfl
       ·have h:=bQ hb13 h
        refine cF hn 2 [13,25] ?_
        refine bL _ rfl (fun hb14 => ?_) (fun hb14 => ?_)
        ·have h:=bT hb14 h
         refine cF hn 1 [2] ?_
         refine bO ?_
         refine cC ?_
         refine bw ?_
         obtain rfl:=zi h
         exact bP hio rfl (.tmp _ _ .nil) rfl rfl
        ·have h:=bQ hb14 h
         refine cF hn 2 [13,27] ?_
         refine bL _ rfl (fun hb15 => ?_) (fun hb15 => ?_)
         ·have h:=bT hb15 h
          refine cF hn 1 [2] ?_
          refine bO ?_
          refine cC ?_
          refine bw ?_
          obtain rfl:=zi h
          exact bP hio rfl (.tmp _ _ .nil) rfl rfl
         ·have h:=bQ hb15 h
          refine cF hn 2 [13,29] ?_
          refine bL _ rfl (fun hb16 => ?_) (fun hb16 => ?_)
          ·have h:=bT hb16 h
           refine cF hn 1 [2] ?_
           refine bO ?_
           refine cC ?_
           refine bw ?_
           obtain rfl:=zi h
           exact bP hio rfl (.tmp _ _ .nil) rfl rfl
          ·have h:=bQ hb16 h
           refine cF hn 2 [13,31] ?_
           refine bL _ rfl (fun hb17 => ?_) (fun hb17 => ?_)
           ·have h:=bT hb17 h
            refine cF hn 1 [2] ?_
            refine bO ?_
            refine cC ?_
            refine bw ?_
            obtain rfl:=zi h
            exact bP hio rfl (.tmp _ _ .nil) rfl rfl
           ·have h:=bQ hb17 h
            refine cF hn 2 [13,33] ?_
            refine bL _ rfl (fun hb18 => ?_) (fun hb18 => ?_)
            ·have h:=bT hb18 h
             refine cF hn 1 [2] ?_
             refine bO ?_
             refine cC ?_
             refine bw ?_
             obtain rfl:=zi h
             exact bP hio rfl (.tmp _ _ .nil) rfl rfl
            ·have h:=bQ hb18 h
             refine cF hn 2 [35] ?_
             refine bL _ rfl (fun hb19 => ?_) (fun hb19 => ?_)
             ·have h:=bT hb19 h
              refine cF hn 1 [2] ?_
              refine bO ?_
              refine cC ?_
              refine bw ?_
              obtain rfl:=zi h
              exact bP hio rfl (.tmp _ _ .nil) rfl rfl
             ·have h:=bQ hb19 h
              refine bU ?_
              refine cG ?_
              refine bb ?_
              refine cF hn 1 [2] ?_
              refine bO ?_
              obtain rfl:=zi h
              exact bP hio rfl (.tmp _ _ .nil) rfl rfl
  ·intro u5 h hl6 hr7
   refine cF hn 2 [13,14] ?_
   refine bL _ rfl (fun hb8 => ?_) (fun hb8 => ?_)
   ·have h:=bT hb8 h
    refine bU ?_
    exact hl6 _ (zi h).symm
   ·have h:=bQ hb8 h
    refine yx hn 1 ?_
    refine yw [14] 1 ?_
    refine ye [13,14] ?_
    exact hl6 _ (zi h).symm
theorem jR (a:ByteArray) (b:ByteArray) (r:Bool) (h:Sh.gu a b=some r):eD Tryz.prog 136 [.v (.string a), .v (.string b)] (.v (.bool r)):=by
  unfold Sh.gu at h
  refine yO 10 func136 fun g0 hn hio => ?_
  refine cF hn 1 [0,1] ?_
  refine aM ?_
  obtain ⟨v1, hv1, h⟩:=zn h
  obtain ⟨v2, hv2, h⟩:=zn h
  refine yx hn 1 ?_
  refine ys 1 ⟨lk call71 (iu _ _ hv1)⟩ ?_
  refine ys 2 ⟨lk call71 (iu _ _ hv2)⟩ ?_
  refine dv [4] ?_
  refine bO ?_
  obtain rfl:=zi h
  exact bP hio rfl (.tmp _ _ .nil) rfl rfl
theorem rz (s:ByteArray) (prefix_:ByteArray) (r:(ByteArray×Bool)) (h:Sh.kJ s prefix_=some r):eD Tryz.prog 135 [.v (.string s), .v (.string prefix_)] (.tup [.v (.string r.1), .v (.bool r.2)]):=by
  unfold Sh.kJ at h
  refine yO 24 func135 fun g0 hn hio => ?_
  refine cF hn 2 [0,1] ?_
  refine aM ?_
  refine aM ?_
  refine ce h (fun (s3:Bool)=>[(0,vs s),(1,vs prefix_),(19,vb s3)]) ?_ ?_
  ·rintro s3 h
   refine bb ?_
   refine bL _ rfl (fun hb7 => ?_) (fun hb7 => ?_)
   ·have h:=bT hb7 h
    refine cF hn 2 [4,5] ?_
    refine bO ?_
    refine bw ?_
    obtain rfl:=zi h
    exact bP hio rfl (.tmp _ _ (.tmp _ _ .nil)) rfl rfl
   ·have h:=bQ hb7 h
    refine bU ?_
    refine bb (aM ?_)
    obtain ⟨v8, hv8, h⟩:=zn h
    refine yx hn 3 ?_
    refine yS (vs v8) 2 ⟨fj _ _ _ (prefix_.size:Int) (s.size:Int) _ underlying9 rfl ⟨_,rfl⟩ rfl hv8⟩ ?_
    refine dv [4,5] ?_
    refine bO ?_
    obtain rfl:=zi h
    exact bP hio rfl (.tmp _ _ (.tmp _ _ .nil)) rfl rfl
  ·intro u4 h hl5 hr6
   refine bJ h (fun hg1_5 h => ?_) (fun hg1_5 h => ?_)
   ·refine yx hn 6 ?_
    refine yd hg1_5 8 ?_
    refine ye [0,1,19] ?_
    exact hl5 _ (zi h).symm
   ·obtain ⟨v1, hv1, h⟩:=zn h
    obtain ⟨v2, hv2, h⟩:=zn h
    refine yx hn 6 ?_
    refine yd hg1_5 3 ?_
    refine yS (vs v1) 1 ⟨fj _ _ _ 0 (prefix_.size:Int) _ underlying9 rfl rfl ⟨_,rfl⟩ hv1⟩ ?_
    refine ys 2 ⟨lk call136 (jR _ _ _ hv2)⟩ ?_
    refine ye [0,1,19] ?_
    exact hl5 _ (zi h).symm
theorem rm (mx:Int×Nat×Value) (line:ByteArray) (r:Bool) (h:Sh.gI line=some r):lX Tryz.prog (GL mx) 110 [.v (.string line)] (.v (.bool r)):=by
  unfold Sh.gI at h
  refine yG 40 func110 fun g0 hn hio => ?_
  refine cF hn 1 [0,40] ?_
  refine aM ?_
  obtain ⟨v1, hv1, h⟩:=zn h
  refine yx hn 1 ?_
  refine ys 0 ⟨lk call135 (rz _ _ _ hv1)⟩ ?_
  refine ym 4 ?_
  refine dv [40,3,4] ?_
  refine aM ?_
  refine aM ?_
  refine ce h (fun (s3:Bool)=>[(40,.glob (GL mx)),(3,vs v1.1),(20,vb s3)]) ?_ ?_
  ·rintro s3 h
   refine bb ?_
   refine bL _ rfl (fun hb7 => ?_) (fun hb7 => ?_)
   ·have h:=bT hb7 h
    refine cF hn 1 [40,2] ?_
    refine bO ?_
    refine bG [1] (by kernel_rfl) (es':=[(_,_)]) rfl ?_
    refine bw ?_
    obtain rfl:=zi h
    exact bP hio rfl (.tmp _ _ .nil) rfl rfl
   ·have h:=bQ hb7 h
    refine bU ?_
    refine bb (aM ?_)
    refine cF hn 3 [40,3,22,23] ?_
    refine dx h (fun (s26:Int)=>[(40,.glob (GL mx)),(3,vs v1.1),(22,vi (v1.1.size:Int)),(23,vi s26)]) (fun (():Unit)=>[(40,.glob (GL mx))]) ?_ ?_
    ·rintro ⟨⟩ h
     refine bb ?_
     refine cF hn 1 [40,2] ?_
     refine bO ?_
     refine bG [1] (by kernel_rfl) (es':=[(_,_)]) rfl ?_
     obtain rfl:=zi h
     exact bP hio rfl (.tmp _ _ .nil) rfl rfl
    ·rintro u33 hl34 hr35 s26 rr38 h ho36
     refine cF hn 1 [40,3,22,23,24] ?_
     refine aM ?_
     refine bL _ rfl (fun hb39 => ?_) (fun hb39 => ?_)
     ·have h:=bT hb39 h
      refine bU ?_
      refine bb (aM ?_)
      refine cA ?_
      refine cF hn 2 [40,3,22,23,5] ?_
      refine aM ?_
      refine ce h (fun (s40:Bool)=>[(40,.glob (GL mx)),(3,vs v1.1),(22,vi (v1.1.size:Int)),(23,vi s26),(38,vb s40)]) ?_ ?_
      ·rintro s40 h
       refine bb ?_
       refine bL _ rfl (fun hb44 => ?_) (fun hb44 => ?_)
       ·have h:=bT hb44 h
        refine cF hn 1 [40,2] ?_
        refine bO ?_
        refine bG [1] (by kernel_rfl) (es':=[(_,_)]) rfl ?_
        refine cC ?_
        refine bw ?_
        refine bw ?_
        refine cC ?_
        refine bw ?_
        have h:=hr35 _ (ho36 _ (zi h).symm).symm
        obtain rfl:=zi h
        exact bP hio rfl (.tmp _ _ .nil) rfl rfl
       ·have h:=bQ hb44 h
        refine bU ?_
        refine cG ?_
        refine bb ?_
        obtain ⟨v18, hv18, h⟩:=zn h
        refine yx hn 0 ?_
        refine ys 0 ⟨lb hv18⟩ ?_
        refine yw [23] 1 ?_
        refine ye [40,3,22,23] ?_
        exact dM _ (zi h).symm rfl
      ·intro u41 h hl42 hr43
       obtain ⟨v9, hv9, h⟩:=zn h
       refine bJ h (fun hg7_4 h => ?_) (fun hg7_4 h => ?_)
       ·obtain ⟨v10, hv10, h⟩:=zn h
        obtain ⟨v11, hv11, h⟩:=zn h
        obtain ⟨v12, hv12, h⟩:=zn h
        refine yx hn 2 ?_
        refine ys 2 ⟨lh hv9⟩ ?_
        refine yd hg7_4 3 ?_
        refine ys 0 ⟨lb hv10⟩ ?_
        refine yS (vs v11) 0 ⟨fj _ _ _ s26 v10 _ underlying9 rfl ⟨_,rfl⟩ ⟨_,rfl⟩ hv11⟩ ?_
        refine ys 2 ⟨lg call55 (eF _ _ _ hv12) 40⟩ ?_
        refine ye [40,3,22,23,38] ?_
        exact hl42 _ (zi h).symm
       ·refine yx hn 2 ?_
        refine ys 2 ⟨lh hv9⟩ ?_
        refine yd hg7_4 8 ?_
        refine ye [40,3,22,23,38] ?_
        exact hl42 _ (zi h).symm
     ·have h:=bQ hb39 h
      refine dK ?_
      refine cd ?_
      refine cd ?_
      refine dL ?_
      refine bG [0] (by kernel_rfl) (es':=[(_,_)]) rfl ?_
      exact hl34 _ (ho36 _ (zi h).symm).symm
  ·intro u4 h hl5 hr6
   refine bJ h (fun hg2_2 h => ?_) (fun hg2_2 h => ?_)
   ·refine yx hn 3 ?_
    refine yd hg2_2 7 ?_
    refine ye [40,3,20] ?_
    exact hl5 _ (zi h).symm
   ·refine bJ h (fun hg2_6 h => ?_) (fun hg2_6 h => ?_)
    ·refine yx hn 3 ?_
     refine yd hg2_2 4 ?_
     refine yd hg2_6 3 ?_
     refine ye [40,3,20] ?_
     exact hl5 _ (zi h).symm
    ·obtain ⟨v2, hv2, h⟩:=zn h
     refine yx hn 3 ?_
     refine yd hg2_2 4 ?_
     refine yd hg2_6 1 ?_
     refine ys 1 ⟨lk call136 (jR _ _ _ hv2)⟩ ?_
     refine ye [40,3,20] ?_
     exact hl5 _ (zi h).symm
theorem xl (kind:Int) (r:ByteArray) (h:Sh.mH kind=some r):eD Tryz.prog 157 [.v (.int .i64 kind)] (.v (.string r)):=by
  unfold Sh.mH at h
  refine yO 5 func157 fun g0 hn hio => ?_
  refine cF hn 1 [0] ?_
  refine aM ?_
  refine cF hn 2 [4] ?_
  refine bL _ rfl (fun hb1 => ?_) (fun hb1 => ?_)
  ·have h:=bT hb1 h
   refine cF hn 1 [2] ?_
   refine bO ?_
   refine bw ?_
   obtain rfl:=zi h
   exact bP hio rfl (.tmp _ _ .nil) rfl rfl
  ·have h:=bQ hb1 h
   refine bU ?_
   refine bb ?_
   refine cF hn 1 [2] ?_
   refine bO ?_
   obtain rfl:=zi h
   exact bP hio rfl (.tmp _ _ .nil) rfl rfl
theorem mm (s:ByteArray) (prefix_:ByteArray) (r:Bool) (h:Sh.ej s prefix_=some r):eD Tryz.prog 175 [.v (.string s), .v (.string prefix_)] (.v (.bool r)):=by
  unfold Sh.ej at h
  refine yO 18 func175 fun g0 hn hio => ?_
  refine cF hn 1 [0,1] ?_
  refine aM ?_
  refine ce h (fun (s2:Bool)=>[(4,vb s2)]) ?_ ?_
  ·rintro s2 h
   refine bb (bO ?_)
   obtain rfl:=zi h
   exact bP hio rfl (.tmp _ _ .nil) rfl rfl
  ·intro u3 h hl4 hr5
   refine bJ h (fun hg1_5 h => ?_) (fun hg1_5 h => ?_)
   ·obtain ⟨v1, hv1, h⟩:=zn h
    refine yx hn 6 ?_
    refine yd hg1_5 3 ?_
    refine yS (vs v1) 4 ⟨fj _ _ _ 0 (prefix_.size:Int) _ underlying9 rfl rfl ⟨_,rfl⟩ hv1⟩ ?_
    refine ye [4] ?_
    exact hl4 _ (zi h).symm
   ·refine yx hn 6 ?_
    refine yd hg1_5 8 ?_
    refine ye [4] ?_
    exact hl4 _ (zi h).symm
theorem mq (s:ByteArray) (prefix_:ByteArray) (r:(ByteArray×Bool)) (h:Sh.eP s prefix_=some r):eD Tryz.prog 205 [.v (.string s), .v (.string prefix_)] (.tup [.v (.string r.1), .v (.bool r.2)]):=by
  unfold Sh.eP at h
  refine yO 15 func205 fun g0 hn hio => ?_
  refine cF hn 2 [0,1] ?_
  refine aM ?_
  refine aM ?_
  obtain ⟨v1, hv1, h⟩:=zn h
  refine yx hn 2 ?_
  refine ys 1 ⟨lk call175 (mm _ _ _ hv1)⟩ ?_
  refine dv [0,1,9] ?_
  refine bL _ rfl (fun hb2 => ?_) (fun hb2 => ?_)
  ·have h:=bT hb2 h
   refine cF hn 3 [4,5] ?_
   refine bO ?_
   refine bw ?_
   obtain rfl:=zi h
   exact bP hio rfl (.tmp _ _ (.tmp _ _ .nil)) rfl rfl
  ·have h:=bQ hb2 h
   refine bU ?_
   refine bb (aM ?_)
   obtain ⟨v3, hv3, h⟩:=zn h
   refine yx hn 3 ?_
   refine yS (vs v3) 2 ⟨fj _ _ _ (prefix_.size:Int) (s.size:Int) _ underlying9 rfl ⟨_,rfl⟩ rfl hv3⟩ ?_
   refine dv [4,5] ?_
   refine bO ?_
   obtain rfl:=zi h
   exact bP hio rfl (.tmp _ _ (.tmp _ _ .nil)) rfl rfl
theorem nP (s:ByteArray) (prefix_:ByteArray) (r:(ByteArray×Bool)) (h:Sh.gA s prefix_=some r):eD Tryz.prog 184 [.v (.string s), .v (.string prefix_)] (.tup [.v (.string r.1), .v (.bool r.2)]):=by
  unfold Sh.gA at h
  refine yO 11 func184 fun g0 hn hio => ?_
  refine cF hn 2 [0,1] ?_
  refine aM ?_
  obtain ⟨v1, hv1, h⟩:=zn h
  refine yx hn 2 ?_
  refine ys 4 ⟨lk call205 (mq _ _ _ hv1)⟩ ?_
  refine dv [4,5] ?_
  refine bO ?_
  obtain rfl:=zi h
  exact bP hio rfl (.tmp _ _ (.tmp _ _ .nil)) rfl rfl
theorem mn (s:ByteArray) (suffix:ByteArray) (r:Bool) (h:Sh.ef s suffix=some r):eD Tryz.prog 220 [.v (.string s), .v (.string suffix)] (.v (.bool r)):=by
  unfold Sh.ef at h
  refine yO 21 func220 fun g0 hn hio => ?_
  refine cF hn 1 [0,1] ?_
  refine aM ?_
  refine ce h (fun (s3:Bool)=>[(4,vb s3)]) ?_ ?_
  ·rintro s3 h
   refine bb (bO ?_)
   obtain rfl:=zi h
   exact bP hio rfl (.tmp _ _ .nil) rfl rfl
  ·intro u4 h hl5 hr6
   refine bJ h (fun hg1_5 h => ?_) (fun hg1_5 h => ?_)
   ·obtain ⟨v1, hv1, h⟩:=zn h
    obtain ⟨v2, hv2, h⟩:=zn h
    refine yx hn 6 ?_
    refine yd hg1_5 5 ?_
    refine ys 0 ⟨lb hv1⟩ ?_
    refine yS (vs v2) 4 ⟨fj _ _ _ v1 (s.size:Int) _ underlying9 rfl ⟨_,rfl⟩ rfl hv2⟩ ?_
    refine ye [4] ?_
    exact hl5 _ (zi h).symm
   ·refine yx hn 6 ?_
    refine yd hg1_5 11 ?_
    refine ye [4] ?_
    exact hl5 _ (zi h).symm
theorem mp (s:ByteArray) (suffix:ByteArray) (r:(ByteArray×Bool)) (h:Sh.eO s suffix=some r):eD Tryz.prog 206 [.v (.string s), .v (.string suffix)] (.tup [.v (.string r.1), .v (.bool r.2)]):=by
  unfold Sh.eO at h
  refine yO 18 func206 fun g0 hn hio => ?_
  refine cF hn 2 [0,1] ?_
  refine aM ?_
  refine aM ?_
  obtain ⟨v1, hv1, h⟩:=zn h
  refine yx hn 2 ?_
  refine ys 1 ⟨lk call220 (mn _ _ _ hv1)⟩ ?_
  refine dv [0,1,9] ?_
  refine bL _ rfl (fun hb2 => ?_) (fun hb2 => ?_)
  ·have h:=bT hb2 h
   refine cF hn 3 [4,5] ?_
   refine bO ?_
   refine bw ?_
   obtain rfl:=zi h
   exact bP hio rfl (.tmp _ _ (.tmp _ _ .nil)) rfl rfl
  ·have h:=bQ hb2 h
   refine bU ?_
   refine bb (aM ?_)
   obtain ⟨v3, hv3, h⟩:=zn h
   obtain ⟨v4, hv4, h⟩:=zn h
   refine yx hn 5 ?_
   refine ys 0 ⟨lb hv3⟩ ?_
   refine yS (vs v4) 2 ⟨fj _ _ _ 0 v3 _ underlying9 rfl rfl ⟨_,rfl⟩ hv4⟩ ?_
   refine dv [4,5] ?_
   refine bO ?_
   obtain rfl:=zi h
   exact bP hio rfl (.tmp _ _ (.tmp _ _ .nil)) rfl rfl
theorem se (s:ByteArray) (suffix:ByteArray) (r:(ByteArray×Bool)) (h:Sh.gB s suffix=some r):eD Tryz.prog 185 [.v (.string s), .v (.string suffix)] (.tup [.v (.string r.1), .v (.bool r.2)]):=by
  unfold Sh.gB at h
  refine yO 11 func185 fun g0 hn hio => ?_
  refine cF hn 2 [0,1] ?_
  refine aM ?_
  obtain ⟨v1, hv1, h⟩:=zn h
  refine yx hn 2 ?_
  refine ys 4 ⟨lk call206 (mp _ _ _ hv1)⟩ ?_
  refine dv [4,5] ?_
  refine bO ?_
  obtain rfl:=zi h
  exact bP hio rfl (.tmp _ _ (.tmp _ _ .nil)) rfl rfl
theorem Av (mx:Int×Nat×Value) (s:ByteArray) (r:(bu×Int)) (h:Sh.pg s=some r):lX Tryz.prog (GL mx) 158 [.v (.string s)] (.tup [.agg [.v (.bool r.1.Null), .v (.string r.1.Local), .v (.string r.1.Domain)], .v (.int .i64 r.2)]):=by
  unfold Sh.pg at h
  refine yG 50 func158 fun g0 hn hio => ?_
  refine lp hn 0 ?_
  refine yS (.box 26 [vb false,vs z0,vs z0]) 1 ⟨oA (dh _ _ xW)⟩ ?_
  refine dv [0,50,2] ?_
  refine aM ?_
  refine cF hn 2 [0,50,2,12] ?_
  refine bL _ rfl (fun hb1 => ?_) (fun hb1 => ?_)
  ·have h:=bT hb1 h
   refine lp hn 0 ?_
   refine yS (.agg [vb true,vs z0,vs z0]) 2 ⟨dQ _ _ _ _ [1,1,1] _ _ underlying26 xW (Ip _ underlying26) (.copy _ rE.nil) rfl rfl rfl⟩ ?_
   refine dv [50,2,3] ?_
   refine bO ?_
   refine bG [1,2] (by kernel_rfl) (es':=[(_,_),(_,_)]) rfl ?_
   refine bw ?_
   obtain rfl:=zi h
   exact bP hio rfl (.cellA _ _ _ _ underlying26 rfl zX (.tmp _ _ .nil)) rfl rfl
  ·have h:=bQ hb1 h
   refine bU ?_
   refine bb (aM ?_)
   obtain ⟨v2, hv2, h⟩:=zn h
   refine yx hn 1 ?_
   refine ys 0 ⟨lk call184 (nP _ _ _ hv2)⟩ ?_
   refine ym 4 ?_
   refine dv [50,2,4,5] ?_
   refine aM ?_
   obtain ⟨v3, hv3, h⟩:=zn h
   refine yx hn 1 ?_
   refine ys 0 ⟨lk call185 (se _ _ _ hv3)⟩ ?_
   refine ym 2 ?_
   refine yw [4] 2 ?_
   refine dv [50,2,5,4,6] ?_
   refine aM ?_
   obtain ⟨v4, hv4, h⟩:=zn h
   refine yx hn 1 ?_
   refine ys 0 ⟨lk call134 (mQ _ _ _ hv4)⟩ ?_
   refine ym 6 ?_
   refine dv [50,2,5,6,7,8,9] ?_
   refine lp hn 2 ?_
   refine yS (.agg [vb false,vs v4.1,vs v4.2.1]) 0 ⟨dQ _ _ _ _ [1,1,1] _ _ underlying26 xW (Ip _ underlying26) (.copy _ (.copy _ rE.nil)) rfl rfl rfl⟩ ?_
   refine yS (.box 26 [vb false,vs z0,vs z0]) 1 ⟨oA (dh _ _ xW)⟩ ?_
   refine dv [50,2,5,6,9,10] ?_
   refine aM ?_
   refine aM ?_
   refine ce h (fun (s6:Bool)=>[(50,.glob (GL mx)),(2,.box 26 [vb false,vs z0,vs z0]),(10,.box 26 [vb false,vs v4.1,vs v4.2.1]),(47,vb s6)]) ?_ ?_
   ·rintro s6 h
    refine bb ?_
    refine bL _ rfl (fun hb10 => ?_) (fun hb10 => ?_)
    ·have h:=bT hb10 h
     refine lp hn 0 ?_
     refine yS (.agg [vb false,vs z0,vs z0]) 0 ⟨dQ _ _ _ _ [1,1,1] _ _ underlying26 xW (Ip _ underlying26) rE.nil rfl rfl rfl⟩ ?_
     refine yk [48,2] [] ?_
     refine yt (2,.box 26 [vb false,vs z0,vs z0]) 1 ⟨gm _ _ _ 48 2 3 zX rfl rfl rfl rfl rfl (.eq _ (.eq _ (.eq _ (.nil _)))) rfl⟩ ?_
     refine dv [50,2,3] ?_
     refine bO ?_
     refine bG [1,2] (by kernel_rfl) (es':=[(_,_),(_,_)]) rfl ?_
     refine bw ?_
     obtain rfl:=zi h
     exact bP hio rfl (.cellA _ _ _ _ underlying26 rfl zX (.tmp _ _ .nil)) rfl rfl
    ·have h:=bQ hb10 h
     refine bU ?_
     refine bb ?_
     refine cF hn 3 [50,2,3] ?_
     refine bO ?_
     refine bG [1,2] (by kernel_rfl) (es':=[(_,_),(_,_)]) rfl ?_
     obtain rfl:=zi h
     exact bP hio rfl (.cellA _ _ _ _ underlying26 rfl zX (.tmp _ _ .nil)) rfl rfl
   ·intro u7 h hl8 hr9
    refine bJ h (fun hg7_2 h => ?_) (fun hg7_2 h => ?_)
    ·refine yx hn 3 ?_
     refine yd hg7_2 12 ?_
     refine ye [50,2,10,47] ?_
     exact hl8 _ (zi h).symm
    ·refine bJ h (fun hg7_6 h => ?_) (fun hg7_6 h => ?_)
     ·refine yx hn 3 ?_
      refine yd hg7_2 4 ?_
      refine yd hg7_6 8 ?_
      refine ye [50,2,10,47] ?_
      exact hl8 _ (zi h).symm
     ·refine bJ h (fun hg7_10 h => ?_) (fun hg7_10 h => ?_)
      ·refine yx hn 3 ?_
       refine yd hg7_2 4 ?_
       refine yd hg7_6 4 ?_
       refine yd hg7_10 4 ?_
       refine ye [50,2,10,47] ?_
       exact hl8 _ (zi h).symm
      ·obtain ⟨v5, hv5, h⟩:=zn h
       refine yx hn 3 ?_
       refine yd hg7_2 4 ?_
       refine yd hg7_6 4 ?_
       refine yd hg7_10 1 ?_
       refine ys 2 ⟨lg call162 (fq _ _ _ hv5) 50⟩ ?_
       refine ye [50,2,10,47] ?_
       exact hl8 _ (zi h).symm
theorem wT (s:ByteArray) (r:Int×Unit) (h:Sh.strconv_Atoi s=some r):eD Tryz.prog 139 [.v (.string s)] (.tup [.v (.int .i64 r.1), .v .nilIface]):=vY (fun s n w h1 h2=>Tryz.strconv_Atoi s n h1 h2 w) s r h
theorem xp (s:ByteArray) (digits:Int) (r:(Int×Bool)) (h:Sh.mT s digits=some r):eD Tryz.prog 207 [.v (.string s), .v (.int .i64 digits)] (.tup [.v (.int .i64 r.1), .v (.bool r.2)]):=by
  unfold Sh.mT at h
  refine yO 51 func207 fun g0 hn hio => ?_
  refine cF hn 2 [0,1] ?_
  refine aM ?_
  refine aM ?_
  refine ce h (fun (s3:Bool)=>[(0,vs s),(26,vb s3)]) ?_ ?_
  ·rintro s3 h
   refine bb ?_
   refine bL _ rfl (fun hb7 => ?_) (fun hb7 => ?_)
   ·have h:=bT hb7 h
    refine cF hn 2 [4,5] ?_
    refine bO ?_
    refine bw ?_
    obtain rfl:=zi h
    exact bP hio rfl (.tmp _ _ (.tmp _ _ .nil)) rfl rfl
   ·have h:=bQ hb7 h
    refine bU ?_
    refine bb (aM ?_)
    refine cF hn 3 [0,28,29] ?_
    refine dx h (fun (s24:Int)=>[(0,vs s),(28,vi (s.size:Int)),(29,vi s24)]) (fun (():Unit)=>[(0,vs s)]) ?_ ?_
    ·rintro ⟨⟩ h
     refine bb (aM ?_)
     obtain ⟨v43, hv43, h⟩:=zn h
     refine yx hn 1 ?_
     refine ys 0 ⟨lk call139 (wT _ _ hv43)⟩ ?_
     refine ym 4 ?_
     refine dv [7,8] ?_
     refine aM ?_
     refine wb [[7],[8]] ?_
     refine wN [49] ?_
     refine wS (vb true) [[48],[50]] ⟨Jz _ _ false underlying155 rfl⟩ ?_
     refine Af hn [4,5] ?_
     refine bO ?_
     obtain rfl:=zi h
     exact bP hio rfl (.tmp _ _ (.tmp _ _ .nil)) rfl rfl
    ·rintro u31 hl32 hr33 s24 rr36 h ho34
     refine cF hn 1 [0,28,29,30] ?_
     refine aM ?_
     refine bL _ rfl (fun hb37 => ?_) (fun hb37 => ?_)
     ·have h:=bT hb37 h
      refine bU ?_
      refine bb (aM ?_)
      refine cA ?_
      refine cF hn 2 [0,28,29,6] ?_
      refine aM ?_
      refine ce h (fun (s38:Bool)=>[(0,vs s),(28,vi (s.size:Int)),(29,vi s24),(41,vb s38)]) ?_ ?_
      ·rintro s38 h
       refine bb ?_
       refine bL _ rfl (fun hb42 => ?_) (fun hb42 => ?_)
       ·have h:=bT hb42 h
        refine cF hn 2 [4,5] ?_
        refine bO ?_
        refine cC ?_
        refine bw ?_
        refine bw ?_
        refine cC ?_
        refine bw ?_
        have h:=hr33 _ (ho34 _ (zi h).symm).symm
        obtain rfl:=zi h
        exact bP hio rfl (.tmp _ _ (.tmp _ _ .nil)) rfl rfl
       ·have h:=bQ hb42 h
        refine bU ?_
        refine cG ?_
        refine bb ?_
        obtain ⟨v16, hv16, h⟩:=zn h
        refine yx hn 0 ?_
        refine ys 0 ⟨lb hv16⟩ ?_
        refine yw [29] 1 ?_
        refine ye [0,28,29] ?_
        exact dM _ (zi h).symm rfl
      ·intro u39 h hl40 hr41
       obtain ⟨v9, hv9, h⟩:=zn h
       refine bJ h (fun hg6_4 h => ?_) (fun hg6_4 h => ?_)
       ·refine yx hn 2 ?_
        refine ys 2 ⟨lh hv9⟩ ?_
        refine yd hg6_4 5 ?_
        refine ye [0,28,29,41] ?_
        exact hl40 _ (zi h).symm
       ·obtain ⟨v10, hv10, h⟩:=zn h
        refine yx hn 2 ?_
        refine ys 2 ⟨lh hv9⟩ ?_
        refine yd hg6_4 2 ?_
        refine ys 2 ⟨lh hv10⟩ ?_
        refine ye [0,28,29,41] ?_
        exact hl40 _ (zi h).symm
     ·have h:=bQ hb37 h
      refine dK ?_
      refine cd ?_
      refine cd ?_
      refine dL ?_
      refine bG [0] (by kernel_rfl) (es':=[(_,_)]) rfl ?_
      exact hl32 _ (ho34 _ (zi h).symm).symm
  ·intro u4 h hl5 hr6
   refine bJ h (fun hg1_2 h => ?_) (fun hg1_2 h => ?_)
   ·refine yx hn 3 ?_
    refine yd hg1_2 15 ?_
    refine ye [0,26] ?_
    exact hl5 _ (zi h).symm
   ·obtain ⟨v1, hv1, h⟩:=zn h
    refine bJ h (fun hg1_9 h => ?_) (fun hg1_9 h => ?_)
    ·refine yx hn 3 ?_
     refine yd hg1_2 3 ?_
     refine yS (vi v1) 3 ⟨(Option.some.inj hv1) ▸ CH _ _ _ _ rfl rfl⟩ ?_
     refine yd hg1_9 8 ?_
     refine ye [0,26] ?_
     exact hl5 _ (zi h).symm
    ·obtain ⟨v2, hv2, h⟩:=zn h
     refine bJ h (fun hg1_13 h => ?_) (fun hg1_13 h => ?_)
     ·refine yx hn 3 ?_
      refine yd hg1_2 3 ?_
      refine yS (vi v1) 3 ⟨(Option.some.inj hv1) ▸ CH _ _ _ _ rfl rfl⟩ ?_
      refine yd hg1_9 1 ?_
      refine ys 2 ⟨lh hv2⟩ ?_
      refine yd hg1_13 4 ?_
      refine ye [0,26] ?_
      exact hl5 _ (zi h).symm
     ·refine yx hn 3 ?_
      refine yd hg1_2 3 ?_
      refine yS (vi v1) 3 ⟨(Option.some.inj hv1) ▸ CH _ _ _ _ rfl rfl⟩ ?_
      refine yd hg1_9 1 ?_
      refine ys 2 ⟨lh hv2⟩ ?_
      refine yd hg1_13 4 ?_
      refine ye [0,26] ?_
      exact hl5 _ (zi h).symm
theorem tH (s:ByteArray) (words:(List ByteArray)) (r:(ByteArray×Bool)) (h:Sh.nq s words=some r):eD Tryz.prog 208 [.v (.string s), .fl .shr 1 (map Value.string words)] (.tup [.v (.string r.1), .v (.bool r.2)]):=by
  unfold Sh.nq at h
  refine yO 19 func208 fun g0 hn hio => ?_
  refine cF hn 2 [0,1] ?_
  refine aM ?_
  refine cF hn 3 [0,8,9,10] ?_
  refine dx h (fun (s10:Int)=>[(0,vs s),(8,.fl .shr 1 (map Value.string words)),(9,vi (words.length:Int)),(10,vi s10)]) (fun (():Unit)=>[]) ?_ ?_
  ·rintro ⟨⟩ h
   refine bb ?_
   refine cF hn 2 [4,5] ?_
   refine bO ?_
   obtain rfl:=zi h
   exact bP hio rfl (.tmp _ _ (.tmp _ _ .nil)) rfl rfl
  ·rintro u13 hl14 hr15 s10 rr18 h ho16
   refine cF hn 1 [0,8,9,10,11] ?_
   refine aM ?_
   refine bL _ rfl (fun hb19 => ?_) (fun hb19 => ?_)
   ·have h:=bT hb19 h
    refine bU ?_
    refine bb (aM ?_)
    refine cA ?_
    refine aM ?_
    obtain ⟨v2, hv2, h⟩:=zn h
    obtain ⟨v3, hv3, h⟩:=zn h
    refine yx hn 0 ?_
    refine ys 0 ⟨li hv2⟩ ?_
    refine ys 1 ⟨ll hv3⟩ ?_
    refine dv [0,8,9,10,7] ?_
    refine aM ?_
    obtain ⟨v4, hv4, h⟩:=zn h
    refine yx hn 2 ?_
    refine ys 0 ⟨lk call136 (jR _ _ _ hv4)⟩ ?_
    refine dv [0,8,9,10,7,16] ?_
    refine bL _ rfl (fun hb20 => ?_) (fun hb20 => ?_)
    ·have h:=bT hb20 h
     refine cF hn 3 [4,5] ?_
     refine bO ?_
     refine cC ?_
     refine bw ?_
     refine bw ?_
     refine cC ?_
     refine bw ?_
     have h:=hr15 _ (ho16 _ (zi h).symm).symm
     obtain rfl:=zi h
     exact bP hio rfl (.tmp _ _ (.tmp _ _ .nil)) rfl rfl
    ·have h:=bQ hb20 h
     refine bU ?_
     refine cG ?_
     refine bb ?_
     obtain ⟨v6, hv6, h⟩:=zn h
     refine yx hn 0 ?_
     refine ys 0 ⟨lb hv6⟩ ?_
     refine yw [10] 1 ?_
     refine ye [0,8,9,10] ?_
     exact dM _ (zi h).symm rfl
   ·have h:=bQ hb19 h
    refine dK ?_
    refine cd ?_
    refine cd ?_
    refine dL ?_
    refine bG [] (by kernel_rfl) (es':=[]) rfl ?_
    exact hl14 _ (ho16 _ (zi h).symm).symm
theorem uY (kind:Int) (key:ByteArray) (val:ByteArray) (r:(bX×Bool)) (h:Sh.ja kind key val=some r):eD Tryz.prog 186 [.v (.int .i64 kind), .v (.string key), .v (.string val)] (.tup [.agg [.v (.string r.1.Key), .v (.string r.1.Val)], .v (.bool r.2)]):=by
  unfold Sh.ja at h
  refine yO 62 func186 fun g0 hn hio => ?_
  refine lp hn 0 ?_
  refine yS (.box 181 [vs z0,vs z0]) 1 ⟨oA (dh _ _ wM)⟩ ?_
  refine dv [0,1,2,6] ?_
  refine aM ?_
  refine cA ?_
  refine aM ?_
  refine ce h (fun (s1:Bool)=>[(0,vi kind),(1,vs key),(2,vs val),(6,.box 181 [vs z0,vs z0]),(14,vb s1)]) ?_ ?_
  ·rintro s1 h
   refine bb ?_
   refine bL _ rfl (fun hb5 => ?_) (fun hb5 => ?_)
   ·have h:=bT hb5 h
    refine aM ?_
    obtain ⟨v6, hv6, h⟩:=zn h
    refine yx hn 1 ?_
    refine ys 0 ⟨lk call207 (xp _ _ _ hv6)⟩ ?_
    refine ym 4 ?_
    refine dv [2,6,9] ?_
    refine lp hn 1 ?_
    refine yS (.agg [vs (⟨#[83,73,90,69]⟩:ByteArray),vs val]) 3 ⟨dQ _ _ _ _ [1,1] _ _ underlying181 wM (Gi _ underlying181) (.copy _ (.copy _ rE.nil)) rfl rfl rfl⟩ ?_
    refine dv [6,7] ?_
    refine bO ?_
    refine cC ?_
    refine bw ?_
    obtain rfl:=zi h
    exact bP hio rfl (.cellA _ _ _ _ underlying181 rfl vf (.tmp _ _ .nil)) rfl rfl
   ·have h:=bQ hb5 h
    refine aM ?_
    refine ce h (fun (s7:Bool)=>[(0,vi kind),(1,vs key),(2,vs val),(6,.box 181 [vs z0,vs z0]),(29,vb s7)]) ?_ ?_
    ·rintro s7 h
     refine bb ?_
     refine bL _ rfl (fun hb11 => ?_) (fun hb11 => ?_)
     ·have h:=bT hb11 h
      refine aM ?_
      obtain ⟨v12, hv12, h⟩:=zn h
      refine yx hn 1 ?_
      refine yS (.fl (.own 9) 1 (map Value.string ([(⟨#[70,85,76,76]⟩:ByteArray),(⟨#[72,68,82,83]⟩:ByteArray)]))) 0 ⟨dJ _ _ 1 (.string ByteArray.empty) (map Value.string ([(⟨#[70,85,76,76]⟩:ByteArray),(⟨#[72,68,82,83]⟩:ByteArray)])) [(0,.string (⟨#[70,85,76,76]⟩:ByteArray)),(1,.string (⟨#[72,68,82,83]⟩:ByteArray))] underlying49 Am Oj (fun _ V w o a hv hes=>by simp only [List.map_toArray,List.map_cons,List.map_nil]; try rfl) (fT (by simp [Instr.fill,Value.cells]; rfl) (by simp [List.range,List.range.loop] <;> rfl)) (by simp [Value.oneCell']) rfl (by decide) (by decide) (by decide)⟩ ?_
      refine ys 0 ⟨lk call208 (tH _ _ _ hv12)⟩ ?_
      refine ym 4 ?_
      refine dv [6,10,11] ?_
      refine lp hn 1 ?_
      refine yS (.agg [vs (⟨#[82,69,84]⟩:ByteArray),vs v12.1]) 3 ⟨dQ _ _ _ _ [1,1] _ _ underlying181 wM (Gi _ underlying181) (.copy _ (.copy _ rE.nil)) rfl rfl rfl⟩ ?_
      refine dv [6,7] ?_
      refine bO ?_
      refine cC ?_
      refine bw ?_
      obtain rfl:=zi h
      exact bP hio rfl (.cellA _ _ _ _ underlying181 rfl vf (.tmp _ _ .nil)) rfl rfl
     ·have h:=bQ hb11 h
      refine aM ?_
      refine ce h (fun (s13:Bool)=>[(2,vs val),(6,.box 181 [vs z0,vs z0]),(45,vb s13)]) ?_ ?_
      ·rintro s13 h
       refine bb ?_
       refine bL _ rfl (fun hb17 => ?_) (fun hb17 => ?_)
       ·have h:=bT hb17 h
        refine aM ?_
        obtain ⟨v18, hv18, h⟩:=zn h
        refine yx hn 1 ?_
        refine yS (.fl (.own 9) 1 (map Value.string ([(⟨#[78,69,86,69,82]⟩:ByteArray),(⟨#[70,65,73,76,85,82,69]⟩:ByteArray)]))) 0 ⟨dJ _ _ 1 (.string ByteArray.empty) (map Value.string ([(⟨#[78,69,86,69,82]⟩:ByteArray),(⟨#[70,65,73,76,85,82,69]⟩:ByteArray)])) [(0,.string (⟨#[78,69,86,69,82]⟩:ByteArray)),(1,.string (⟨#[70,65,73,76,85,82,69]⟩:ByteArray))] underlying49 Am Oj (fun _ V w o a hv hes=>by simp only [List.map_toArray,List.map_cons,List.map_nil]; try rfl) (fT (by simp [Instr.fill,Value.cells]; rfl) (by simp [List.range,List.range.loop] <;> rfl)) (by simp [Value.oneCell']) rfl (by decide) (by decide) (by decide)⟩ ?_
        refine ys 0 ⟨lk call208 (tH _ _ _ hv18)⟩ ?_
        refine ym 4 ?_
        refine dv [6,12,13] ?_
        refine lp hn 1 ?_
        refine yS (.agg [vs (⟨#[78,79,84,73,70,89]⟩:ByteArray),vs v18.1]) 3 ⟨dQ _ _ _ _ [1,1] _ _ underlying181 wM (Gi _ underlying181) (.copy _ (.copy _ rE.nil)) rfl rfl rfl⟩ ?_
        refine dv [6,7] ?_
        refine bO ?_
        refine cC ?_
        refine bw ?_
        obtain rfl:=zi h
        exact bP hio rfl (.cellA _ _ _ _ underlying181 rfl vf (.tmp _ _ .nil)) rfl rfl
       ·have h:=bQ hb17 h
        refine bU ?_
        refine cG ?_
        refine bb ?_
        refine lp hn 0 ?_
        refine yS (.agg [vs z0,vs z0]) 0 ⟨dQ _ _ _ _ [1,1] _ _ underlying181 wM (Gi _ underlying181) rE.nil rfl rfl rfl⟩ ?_
        refine yk [61,6] [] ?_
        refine yt (6,.box 181 [vs z0,vs z0]) 1 ⟨gm _ _ _ 61 6 2 vf rfl rfl rfl rfl rfl (.eq _ (.eq _ (.nil _))) rfl⟩ ?_
        refine dv [6,7] ?_
        refine bO ?_
        obtain rfl:=zi h
        exact bP hio rfl (.cellA _ _ _ _ underlying181 rfl vf (.tmp _ _ .nil)) rfl rfl
      ·intro u14 h hl15 hr16
       refine bJ h (fun hg7_2 h => ?_) (fun hg7_2 h => ?_)
       ·refine yx hn 3 ?_
        refine yd hg7_2 4 ?_
        refine ye [2,6,45] ?_
        exact hl15 _ (zi h).symm
       ·refine yx hn 3 ?_
        refine yd hg7_2 4 ?_
        refine ye [2,6,45] ?_
        exact hl15 _ (zi h).symm
    ·intro u8 h hl9 hr10
     refine bJ h (fun hg4_2 h => ?_) (fun hg4_2 h => ?_)
     ·refine yx hn 3 ?_
      refine yd hg4_2 4 ?_
      refine ye [0,1,2,6,29] ?_
      exact hl9 _ (zi h).symm
     ·refine yx hn 3 ?_
      refine yd hg4_2 4 ?_
      refine ye [0,1,2,6,29] ?_
      exact hl9 _ (zi h).symm
  ·intro u2 h hl3 hr4
   refine bJ h (fun hg1_2 h => ?_) (fun hg1_2 h => ?_)
   ·refine yx hn 3 ?_
    refine yd hg1_2 4 ?_
    refine ye [0,1,2,6,14] ?_
    exact hl3 _ (zi h).symm
   ·refine yx hn 3 ?_
    refine yd hg1_2 4 ?_
    refine ye [0,1,2,6,14] ?_
    exact hl3 _ (zi h).symm
theorem pX (bx:Nat) (q:bX) (cap:bX) (r:Bool) (h:Sh.fY q cap=some r):lX Tryz.prog [(bx, [.string cap.Key, .string cap.Val])] 188 [.agg [.v (.string q.Key), .v (.string q.Val)], .v (.pointer (some ⟨bx, 0, none⟩))] (.v (.bool r)):=by
  unfold Sh.fY at h
  refine yG 9 func188 fun g0 hn hio => ?_
  refine cF hn 2 [1,9,2] ?_
  refine lp hn 2 ?_
  refine yS (.v (.pointer (some ⟨bx,0,none⟩))) 0 ⟨yi _ _ _ _ bx 0 _ underlying181 rfl Am rfl rfl⟩ ?_
  refine yS (vs cap.Key) 2 ⟨qS _ _ 9 bx 0 _ _ underlying9 rfl rfl rfl (.head _) rfl⟩ ?_
  refine dv [9,3] ?_
  refine bO ?_
  refine bG [1] (by kernel_rfl) (es':=[(_,_)]) rfl ?_
  obtain rfl:=zi h
  exact bP hio rfl (.tmp _ _ .nil) rfl rfl
theorem fO (bx:Nat) (s:(List bX)) (cap:bX) (r:Int) (h:Sh.df s cap=some r):lX Tryz.prog [(bx, [.string cap.Key, .string cap.Val])] 209 [.fl .shr 2 (flatten (map bX.enc s)), .v (.func (.func 188) #[] #[.pointer (some ⟨bx, 0, none⟩)])] (.v (.int .i64 r)):=by
  unfold Sh.df at h
  refine yG 19 func209 fun g0 hn hio => ?_
  refine cF hn 1 [0,1,19] ?_
  refine aM ?_
  refine cF hn 3 [0,1,19,7,8] ?_
  refine dx h (fun (s10:Int)=>[(0,.fl .shr 2 (flatten (map bX.enc s))),(1,.v (.func (.func 188) #[] #[.pointer (some ⟨bx,0,none⟩)])),(19,.glob [(bx,[.string cap.Key,.string cap.Val])]),(7,vi (s.length:Int)),(8,vi s10)]) (fun (():Unit)=>[(19,.glob [(bx,[.string cap.Key,.string cap.Val])])]) ?_ ?_
  ·rintro ⟨⟩ h
   refine bb ?_
   refine cF hn 1 [19,4] ?_
   refine bO ?_
   refine bG [1] (by kernel_rfl) (es':=[(_,_)]) rfl ?_
   obtain rfl:=zi h
   exact bP hio rfl (.tmp _ _ .nil) rfl rfl
  ·rintro u13 hl14 hr15 s10 rr18 h ho16
   refine cF hn 1 [0,1,19,7,8,9] ?_
   refine aM ?_
   refine bL _ rfl (fun hb19 => ?_) (fun hb19 => ?_)
   ·have h:=bT hb19 h
    refine bU ?_
    refine bb (aM ?_)
    refine cA ?_
    refine cF hn 2 [0,1,19,7,8,5] ?_
    refine aM ?_
    obtain ⟨v2, hv2, h⟩:=zn h
    obtain ⟨v3, hv3, h⟩:=zn h
    obtain ⟨v4, hv4, h⟩:=zn h
    refine yx hn 3 ?_
    refine ys 0 ⟨lj hv2⟩ ?_
    refine yS (.agg [vs v3.Key,vs v3.Val]) 0 ⟨nC _ _ _ _ _ _ _ underlying181 rfl vf rfl rfl (qL bX.len hv3) rfl (by decide)⟩ ?_
    refine yS (vb v4) 0 ⟨Ix _ _ 19 188 (.pointer (some ⟨bx,0,none⟩)) _ _ rfl call188 rfl rfl (fun _ h=>h) (pX bx v3 cap _ hv4) rfl rfl⟩ ?_
    refine dv [0,1,19,7,8,5,16] ?_
    refine bL _ rfl (fun hb20 => ?_) (fun hb20 => ?_)
    ·have h:=bT hb20 h
     refine cF hn 2 [19,4] ?_
     refine bO ?_
     refine bG [1] (by kernel_rfl) (es':=[(_,_)]) rfl ?_
     refine cC ?_
     refine bw ?_
     refine bw ?_
     refine cC ?_
     refine bw ?_
     have h:=hr15 _ (ho16 _ (zi h).symm).symm
     obtain rfl:=zi h
     exact bP hio rfl (.tmp _ _ .nil) rfl rfl
    ·have h:=bQ hb20 h
     refine bU ?_
     refine cG ?_
     refine bb ?_
     obtain ⟨v6, hv6, h⟩:=zn h
     refine yx hn 0 ?_
     refine ys 0 ⟨lb hv6⟩ ?_
     refine yw [8] 1 ?_
     refine ye [0,1,19,7,8] ?_
     exact dM _ (zi h).symm rfl
   ·have h:=bQ hb19 h
    refine dK ?_
    refine cd ?_
    refine cd ?_
    refine dL ?_
    refine bG [2] (by kernel_rfl) (es':=[(_,_)]) rfl ?_
    exact hl14 _ (ho16 _ (zi h).symm).symm
theorem fp (bx:Nat) (s:(List bX)) (cap:bX) (r:Bool) (h:Sh.cE s cap=some r):lX Tryz.prog [(bx, [.string cap.Key, .string cap.Val])] 187 [.fl .shr 2 (flatten (map bX.enc s)), .v (.func (.func 188) #[] #[.pointer (some ⟨bx, 0, none⟩)])] (.v (.bool r)):=by
  unfold Sh.cE at h
  refine yG 9 func187 fun g0 hn hio => ?_
  refine cF hn 1 [0,1,9] ?_
  refine aM ?_
  obtain ⟨v1, hv1, h⟩:=zn h
  refine yx hn 2 ?_
  refine ys 2 ⟨lg call209 (fO _ _ _ _ hv1) 9⟩ ?_
  refine dv [9,4] ?_
  refine bO ?_
  refine bG [1] (by kernel_rfl) (es':=[(_,_)]) rfl ?_
  obtain rfl:=zi h
  exact bP hio rfl (.tmp _ _ .nil) rfl rfl
theorem tX (mx:Int×Nat×Value) (kind:Int) (s:ByteArray) (r:((List bX)×Bool)) (h:Sh.jE kind s=some r):lX Tryz.prog (GL mx) 159 [.v (.int .i64 kind), .v (.string s)] (.tup [.fl .ro 2 (flatten (map bX.enc r.1)), .v (.bool r.2)]):=by
  unfold Sh.jE at h
  refine yG 53 func159 fun g0 hn hio => ?_
  refine lp hn 1 ?_
  refine yS (.box 120 [vz]) 0 ⟨oA (dh _ _ LO)⟩ ?_
  refine yS (.box 4 [vb false]) 0 ⟨oA (dh _ _ Oh)⟩ ?_
  refine dv [1,53,2,4,5] ?_
  refine lp hn 0 ?_
  refine yS (.box 120 [vz]) 0 ⟨oA (dh _ _ LO)⟩ ?_
  refine dv [1,53,2,4,5,6] ?_
  refine aM ?_
  refine cF hn 2 [1,53,2,4,5,6,15] ?_
  refine bL _ rfl (fun hb33 => ?_) (fun hb33 => ?_)
  ·have h:=bT hb33 h
   refine cF hn 3 [53,4,5] ?_
   refine bO ?_
   refine bG [1,2] (by kernel_rfl) (es':=[(_,_),(_,_)]) rfl ?_
   refine fe (fs:=[(4,.box 120 [.fl (.own 181) 2 (flatten (map bX.enc []))]),(5,.box 4 [vb true])]) (.box _ _ (bq (ek 181 2) (dO)) rfl (.same _ .nil)) ?_
   refine jv 0 hio (es':=[(4, .box 120 [.fl .ro 2 (flatten (map bX.enc []))]), (5, .box 4 [.v (.bool true)])]) rfl ?_
   refine bw ?_
   obtain rfl:=zi h
   exact bP hio rfl (.cell1 _ _ _ _ underlying120 rfl (.cell1 _ _ _ _ underlying4 rfl .nil)) rfl rfl
  ·have h:=bQ hb33 h
   refine bU ?_
   refine bb (aM ?_)
   obtain ⟨v2, hv2, h⟩:=zn h
   refine yx hn 1 ?_
   refine ys 0 ⟨lk call184 (nP _ _ _ hv2)⟩ ?_
   refine ym 2 ?_
   refine yw [1] 2 ?_
   refine dv [53,2,4,5,6,1,7] ?_
   refine aM ?_
   refine cF hn 2 [53,2,4,5,6,1,23] ?_
   refine bL _ rfl (fun hb34 => ?_) (fun hb34 => ?_)
   ·have h:=bT hb34 h
    refine cF hn 2 [53,4,5] ?_
    refine bO ?_
    refine bG [1,2] (by kernel_rfl) (es':=[(_,_),(_,_)]) rfl ?_
    refine fe (fs:=[(4,.box 120 [.fl (.own 181) 2 (flatten (map bX.enc []))]),(5,.box 4 [vb false])]) (.box _ _ (bq (ek 181 2) (dO)) rfl (.same _ .nil)) ?_
    refine jv 0 hio (es':=[(4, .box 120 [.fl .ro 2 (flatten (map bX.enc []))]), (5, .box 4 [.v (.bool false)])]) rfl ?_
    refine bw ?_
    obtain rfl:=zi h
    exact bP hio rfl (.cell1 _ _ _ _ underlying120 rfl (.cell1 _ _ _ _ underlying4 rfl .nil)) rfl rfl
   ·have h:=bQ hb34 h
    refine bU ?_
    refine bb (aM ?_)
    refine aM ?_
    obtain ⟨v4, hv4, h⟩:=zn h
    refine yx hn 1 ?_
    refine yk [] [24] ?_
    refine yt (25,.cloB 119 [.box 9 [vs v4.1],.box 9 [vs v4.2.1],.box 3 [vi v4.2.2]]) 0 ⟨ld _ _ 80 _ _ rfl call80 rfl rfl (kR v2.1 (⟨#[32]⟩:ByteArray) _ hv4) rfl⟩ ?_
    refine dv [53,2,4,5,6,25] ?_
    refine cA ?_
    refine nH [5,0,1,2,3,4] (by kernel_rfl) (es':=[(25,.cloB 119 [.box 9 [vs v4.1],.box 9 [vs v4.2.1],.box 3 [vi v4.2.2]]),(53,.glob (GL mx)),(2,.box 3 [vi kind]),(4,.box 120 [vz]),(5,.box 4 [vb false]),(6,.box 120 [vz])]) rfl ?_
    refine um (fs:=[(25,.cloB 119 [.box 9 [vs v4.1],.box 9 [vs v4.2.1],.box 3 [vi v4.2.2]]),(53,.glob (GL mx)),(2,.box 3 [vi kind]),(4,.box 120 [vz]),(5,.box 4 [vb false]),(6,.box 120 [.fl (.own 181) 2 (flatten (map bX.enc []))])]) (.same _ (.same _ (.same _ (.same _ (.same _ (.box _ _ (bq (ek 181 2) (dO)) rfl .nil)))))) ?_
    refine lY h 119 25 26 54 _ [53, 2, 4, 5, 6] call119 (fun (s46:(List bX))=>[(53, .glob (GL mx)), (2, .box 3 [.v (.int .i64 kind)]), (4, .box 120 [vz]), (5, .box 4 [.v (.bool false)]), (6, .box 120 [.fl (.own 181) 2 (flatten (map bX.enc s46))])]) (fun (s52:(List bX))=>[(53, .glob (GL mx)), (2, .box 3 [.v (.int .i64 kind)]), (4, .box 120 [vz]), (5, .box 4 [.v (.bool false)]), (6, .box 120 [.fl (.own 181) 2 (flatten (map bX.enc s52))])]) (fun l J Y hY t t' h=>jQ mx l J Y hY v4.1 v4.2.1 v4.2.2 t t' h) hn rfl (fun _=>rfl) (fun _=>rfl) (fun _=>rfl) rfl rfl (fun _=>⟨rfl, rfl⟩) rfl (lQ 53 rfl) ?_ ?_ ?_
    ·rintro kk g0 hn hio x s46 u h
     refine wD (es':=[(26,vs x),(53,.glob (GL mx)),(2,.box 3 [vi kind]),(4,.box 120 [vz]),(5,.box 4 [vb false]),(6,.box 120 [.fl (.own 181) 2 (flatten (map bX.enc s46))]),(53,.v (kk.tm.getD 53 undef)),(2,.v (kk.tm.getD 2 undef)),(4,.v (kk.tm.getD 4 undef)),(5,.v (kk.tm.getD 5 undef)),(6,.v (kk.tm.getD 6 undef)),(54,.inv kk.ready)]) rfl ?_
     refine yy hn 1 [53,2,4,5,6,54,8,53,2,4,5,6] ?_
     refine bG [0,1,2,3,4,6,7,8,9,10,11,5] (by kernel_rfl) (es':=[(53,.glob (GL mx)),(2,.box 3 [vi kind]),(4,.box 120 [vz]),(5,.box 4 [vb false]),(6,.box 120 [.fl (.own 181) 2 (flatten (map bX.enc s46))]),(8,vs x),(53,.v (kk.tm.getD 53 undef)),(2,.v (kk.tm.getD 2 undef)),(4,.v (kk.tm.getD 4 undef)),(5,.v (kk.tm.getD 5 undef)),(6,.v (kk.tm.getD 6 undef)),(54,.inv kk.ready)]) rfl ?_
     refine nK (es:=[(53,.glob (GL mx)),(2,.box 3 [vi kind]),(4,.box 120 [vz]),(5,.box 4 [vb false]),(6,.box 120 [.fl (.own 181) 2 (flatten (map bX.enc s46))]),(8,vs x),(53,.v (kk.tm.getD 53 undef)),(2,.v (kk.tm.getD 2 undef)),(4,.v (kk.tm.getD 4 undef)),(5,.v (kk.tm.getD 5 undef)),(6,.v (kk.tm.getD 6 undef))]) 54 rfl ?_
     refine cA ?_
     refine aM ?_
     obtain ⟨v5, hv5, h⟩:=zn h
     refine yx hn 1 ?_
     refine ys 0 ⟨lk call134 (mQ _ _ _ hv5)⟩ ?_
     refine ym 6 ?_
     refine dv [53,2,4,5,6,54,9,10,53,2,4,5,6] ?_
     refine aM ?_
     obtain ⟨v6, hv6, h⟩:=zn h
     obtain ⟨v7, hv7, h⟩:=zn h
     refine sY (by kernel_rfl) hn (El:=(_::_::_::_::_::_::_::_::_::_::_::_::_::(34,vi kind)::(35,vs v5.1)::(36,vs v6)::(37,vs v5.2.1)::(38,.tup [.agg [vs v7.1.Key,vs v7.1.Val],vb v7.2])::(33,.tup [.agg [vs v7.1.Key,vs v7.1.Val],.any])::(33,.tup [.any,vb v7.2])::(39,.agg [vs v7.1.Key,vs v7.1.Val])::(33,.tup [.any,.any])::(40,vb v7.2)::(12,.box 181 [vs z0,vs z0])::(12,.box 181 [vs v7.1.Key,vs v7.1.Val])::(13,vb v7.2)::[])) (init:=[0,1,2,3,4,5,6,7,8,9,10,11,12]) (fin:=[0,1,2,3,4,5,24,25,8,9,10,11,12]) (sps:=[zq [1] 13 34,zq [6] 14 35,zq [14] 15 36,zq [7] 16 37,zq [13,15,16] 17 38,⟨[],[17],[18,19],[(.slot 33)]⟩,⟨[],[18],[21,20],[(.slot 39)]⟩,zq [19] 22 40,zq [] 23 12,⟨[20],[23],[24],[.cell 12 0,.cell 12 1]⟩,zq [22] 25 13]) (es':=[(_,_),(_,_),(_,_),(_,_),(_,_),(_,_),(12,.box 181 [vs v7.1.Key,vs v7.1.Val]),(13,vb v7.2),(_,_),(_,_),(_,_),(_,_),(_,_)]) (by kernel_rfl) rfl rfl ⟨zp rfl (oL underlying3 rfl),z1 rfl,zp rfl (uX _ _ 71 _ _ rfl call71 rfl (iu v5.1 _ hv6) rfl rfl),z1 rfl,zp rfl (uX _ _ 186 _ _ rfl call186 rfl (uY kind v6 v5.2.1 _ hv7) rfl rfl),zp rfl (cM.split (A:=[]) 33 0 _ _ _ (mS _ _ _ _ rfl) (zl rfl) rfl rfl),zp rfl (jD _ _ _ _ _ rfl (zl rfl) rfl rfl (by decide) rfl),zp rfl (oE rfl),zp rfl (dh _ _ wM),zp rfl (oS vf rfl),z2 rfl,zz⟩ ?_
     refine bb (aM ?_)
     refine aM ?_
     refine ce h (fun (s53:Bool)=>[(53,.glob (GL mx)),(2,.box 3 [vi kind]),(4,.box 120 [vz]),(5,.box 4 [vb false]),(6,.box 120 [.fl (.own 181) 2 (flatten (map bX.enc s46))]),(54,.inv kk.busy),(12,.box 181 [vs v7.1.Key,vs v7.1.Val]),(47,vb s53),(53,.v (kk.tm.getD 53 undef)),(2,.v (kk.tm.getD 2 undef)),(4,.v (kk.tm.getD 4 undef)),(5,.v (kk.tm.getD 5 undef)),(6,.v (kk.tm.getD 6 undef))]) ?_ ?_
     ·rintro s53 h
      refine bb ?_
      refine bL _ rfl (fun hb57 => ?_) (fun hb57 => ?_)
      ·have h:=bT hb57 h
       refine cF hn 2 [53,2,4,5,6,54,53,2,4,5,6] ?_
       refine bO ?_
       refine bw ?_
       refine cC ?_
       refine bG [0,1,2,3,4,6,7,8,9,10,5] (by kernel_rfl) (es':=[(_,_),(_,_),(_,_),(_,_),(_,_),(_,_),(_,_),(_,_),(_,_),(_,_),(_,_)]) rfl ?_
       obtain rfl:=zi h
       exact uV 54 [53, 2, 4, 5, 6] _ rfl rfl (by kernel_rfl)
      ·have h:=bQ hb57 h
       refine bU ?_
       refine bb ?_
       obtain ⟨v14, hv14, h⟩:=zn h
       refine yx hn 2 ?_
       refine yS (.fl (.own 181) 2 (flatten (map bX.enc [v7.1]))) 0 ⟨dJ _ _ 2 (.agg #[.string ByteArray.empty,.string ByteArray.empty]) (flatten (map bX.enc [v7.1])) [(0,.agg #[.string v7.1.Key,.string v7.1.Val])] underlying120 vf wM (fun _ V w o a hv hes=>by have e0:=LK (ys:=[.string v7.1.Key,.string v7.1.Val]) hv hes (x := .tmp 49) rfl; simp only [List.map_toArray,List.map_cons,List.map_nil,e0]; try rfl) (fT (by simp [Instr.fill,Value.cells]; rfl) (by simp [List.range,List.range.loop,bX.enc] <;> rfl)) (by simp [Value.oneCell',bX.enc]) rfl (by decide) (by decide) (by decide)⟩ ?_
       refine yk [6] [48,50] ?_
       refine tg (6,.box 120 [.any]) (51,.fl (.own 181) 2 (flatten (map bX.enc v14))) 0 ⟨mb _ _ _ _ _ _ NC rfl rfl (zl rfl) rfl (pz bX.len _) (pz bX.len _) hv14 (Dm (oo hv14)) (Nat.ne_of_beq_eq_false rfl) rfl rfl⟩ ?_
       refine yw [48] 0 ?_
       refine yk [51,6] [] ?_
       refine yt (6,.box 120 [.fl (.own 181) 2 (flatten (map bX.enc v14))]) 0 ⟨cO _ _ _ _ _ _ _ _ NI rfl rfl rfl (zl rfl) rfl rfl⟩ ?_
       refine ye [53,2,4,5,6,54,53,2,4,5,6] ?_
       refine cG ?_
       refine bG [0,1,2,3,4,6,7,8,9,10,5] (by kernel_rfl) (es':=[(_,_),(_,_),(_,_),(_,_),(_,_),(_,_),(_,_),(_,_),(_,_),(_,_),(_,_)]) rfl ?_
       obtain rfl:=zi h
       exact nZ 54 [53, 2, 4, 5, 6] _ rfl rfl (by kernel_rfl)
     ·intro u54 h hl55 hr56
      refine bJ h (fun hg11_2 h => ?_) (fun hg11_2 h => ?_)
      ·refine yx hn 3 ?_
       refine yd hg11_2 4 ?_
       refine ye [53,2,4,5,6,54,12,47,53,2,4,5,6] ?_
       exact hl55 _ (zi h).symm
      ·obtain ⟨v8, hv8, h⟩:=zn h
       refine yx hn 3 ?_
       refine yd hg11_2 1 ?_
       refine yS (.clo 188 [12]) 0 ⟨qB _ _ _ 12 (by decide)⟩ ?_
       refine yS (vb v8) 1 ⟨Jw _ 46 12 45 187 188 [.string v7.1.Key,.string v7.1.Val] [.tmp 44] _ _ rfl call187 rfl rfl rfl rfl (fun bx=>fp bx s46 v7.1 _ hv8) rfl rfl⟩ ?_
       refine ye [53,2,4,5,6,54,12,47,53,2,4,5,6] ?_
       exact hl55 _ (zi h).symm
    ·rintro D s46 h
     refine cG ?_
     refine bb (aM ?_)
     refine Dd 4 hio (es':=[(53, .glob (GL mx)), (2, .box 3 [.v (.int .i64 kind)]), (4, .box 120 [vz]), (5, .box 4 [.v (.bool false)]), (6, .box 120 [.fl .ro 2 (flatten (map bX.enc s46))])]) rfl ?_
     refine yy hn 3 [53,4,5] ?_
     refine bb (bO ?_)
     refine bG [1,2] (by kernel_rfl) (es':=[(_,_),(_,_)]) rfl ?_
     obtain rfl:=zi h
     exact bP hio rfl (.cell1 _ _ _ _ underlying120 rfl (.cell1 _ _ _ _ underlying4 rfl .nil)) rfl rfl
    ·rintro D s52 h
     refine bG [2,3] (by kernel_rfl) (es':=[(_,_),(_,_)]) rfl ?_
     refine fe (fs:=[(4,.box 120 [.fl (.own 181) 2 (flatten (map bX.enc []))]),(5,.box 4 [vb false])]) (.box _ _ (bq (ek 181 2) (dO)) rfl (.same _ .nil)) ?_
     refine jv 0 hio (es':=[(4, .box 120 [.fl .ro 2 (flatten (map bX.enc []))]), (5, .box 4 [.v (.bool false)])]) rfl ?_
     refine cC ?_
     refine bw ?_
     obtain rfl:=zi h
     exact bP hio rfl (.cell1 _ _ _ _ underlying120 rfl (.cell1 _ _ _ _ underlying4 rfl .nil)) rfl rfl
end Go.Proofs.YtjnnkhmhjcjhdaaGreatDoor
