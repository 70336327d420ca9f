/-
  The model's runs are what is told in Lean.
-/
import Derived.Test.YtjnnkhmhjcjhdaaGreatDoorProg
import Derived.KernelRfl
import Derived.Test.YtjnnkhmhjcjhdaaGreatDoorShelf
import Derived.Test.YtjnnkhmhjcjhdaaGreatDoorIdx
import Derived.Test.YtjnnkhmhjcjhdaaGreatDoorB3
import Derived.Test.YtjnnkhmhjcjhdaaGreatDoorC1
import Derived.Test.YtjnnkhmhjcjhdaaGreatDoorBC
import Derived.Test.YtjnnkhmhjcjhdaaGreatDoorOkc6
set_option linter.unusedVariables false
set_option linter.unusedSimpArgs false
set_option maxHeartbeats 1000000
namespace Go.Proofs.YtjnnkhmhjcjhdaaGreatDoor
open Go.Abs Go.Abs.Sh Tryz
open List (map flatten)
open Value (int)
theorem tx (mx:Int×Nat×Value) (kind:Int) (line:ByteArray) (r:(dA×Bool)) (h:Sh.jm kind line=some r):lX Tryz.prog (GL mx) 137 [.v (.int .i64 kind), .v (.string line)] (.tup [.agg [.v (.int .i64 r.1.Kind), .v (.string r.1.Text), .v (.bool r.1.Path.Null), .v (.string r.1.Path.Local), .v (.string r.1.Path.Domain), .fl .ro 2 (flatten (map bX.enc r.1.Params))], .v (.bool r.2)]):=by
  unfold Sh.jm at h
  refine yG 56 func137 fun g0 hn hio => ?_
  refine lp hn 0 ?_
  refine yS (.box 122 [vi 0,vs z0,vb false,vs z0,vs z0,vz]) 1 ⟨oA (dh _ _ qH)⟩ ?_
  refine dv [0,1,56,4] ?_
  refine aM ?_
  obtain ⟨v1, hv1, h⟩:=zn h
  obtain ⟨v2, hv2, h⟩:=zn h
  refine yx hn 2 ?_
  refine ys 0 ⟨lk call157 (xl _ _ hv1)⟩ ?_
  refine ys 0 ⟨lk call135 (rz _ _ _ hv2)⟩ ?_
  refine ym 4 ?_
  refine dv [0,56,4,6,7] ?_
  refine aM ?_
  refine cF hn 2 [0,56,4,6,20] ?_
  refine bL _ rfl (fun hb15 => ?_) (fun hb15 => ?_)
  ·have h:=bT hb15 h
   refine lp hn 0 ?_
   refine yS (.agg [vi 0,vs z0,vb false,vs z0,vs z0,vz]) 0 ⟨dQ _ _ _ _ [1,1,3,1] _ _ underlying122 qH (xR _ underlying122) rE.nil rfl rfl rfl⟩ ?_
   refine yk [21,4] [] ?_
   refine yt (4,.box 122 [vi 0,vs z0,vb false,vs z0,vs z0,vz]) 1 ⟨gm _ _ _ 21 4 6 km rfl rfl rfl rfl rfl (.eq _ (.eq _ (.eq _ (.eq _ (.eq _ (.eq _ (.nil _))))))) rfl⟩ ?_
   refine dv [56,4,5] ?_
   refine bO ?_
   refine bG [1,2] (by kernel_rfl) (es':=[(_,_),(_,_)]) rfl ?_
   refine fe (fs:=[(4,.box 122 [vi 0,vs z0,vb false,vs z0,vs z0,.fl (.own 181) 2 (flatten (map bX.enc []))]),(5,vb false)]) (.box _ _ (bq (bI _) (bq (bI _) (bq (bI _) (bq (bI _) (bq (bI _) (bq (ek 181 2) (dO))))))) rfl (.same _ .nil)) ?_
   refine jv 0 hio (es':=[(4, .box 122 [.v (.int .i64 0),.v (.string (⟨#[]⟩:ByteArray)),.v (.bool false),.v (.string (⟨#[]⟩:ByteArray)),.v (.string (⟨#[]⟩:ByteArray)),.fl .ro 2 (flatten (map bX.enc []))]), (5, .v (.bool false))]) rfl ?_
   refine bw ?_
   obtain rfl:=zi h
   exact bP hio rfl (.cellA _ _ _ _ underlying122 rfl km (.tmp _ _ .nil)) rfl rfl
  ·have h:=bQ hb15 h
   refine bU ?_
   refine bb (aM ?_)
   obtain ⟨v4, hv4, h⟩:=zn h
   obtain ⟨v5, hv5, h⟩:=zn h
   refine yx hn 1 ?_
   refine ys 0 ⟨lk call121 (qz _ _ _ hv4)⟩ ?_
   refine ys 1 ⟨lb hv5⟩ ?_
   refine dv [0,56,4,6,8] ?_
   refine aM ?_
   obtain ⟨v6, hv6, h⟩:=zn h
   obtain ⟨v7, hv7, h⟩:=zn h
   refine yx hn 2 ?_
   refine yS (vs v6) 0 ⟨fj _ _ _ 0 v5 _ underlying9 rfl rfl ⟨_,rfl⟩ hv6⟩ ?_
   refine ys 0 ⟨lg call158 (Av _ _ _ hv7) 56⟩ ?_
   refine ym 0 ?_
   refine yS (.agg [vb v7.1.Null,vs v7.1.Local,vs v7.1.Domain]) 1 ⟨jM _ _ _ _ _ _ rfl rfl (zl rfl) rfl rfl⟩ ?_
   refine yS (.box 26 [vb false,vs z0,vs z0]) 2 ⟨oA (dh _ _ xW)⟩ ?_
   refine dv [0,56,4,6,8,9,10] ?_
   refine aM ?_
   refine aM ?_
   refine ce h (fun (s16:Bool)=>[(0,vi kind),(56,.glob (GL mx)),(4,.box 122 [vi 0,vs z0,vb false,vs z0,vs z0,vz]),(6,vs v2.1),(8,vi v5),(9,.box 26 [vb v7.1.Null,vs v7.1.Local,vs v7.1.Domain]),(41,vb s16)]) ?_ ?_
   ·rintro s16 h
    refine bb ?_
    refine bL _ rfl (fun hb20 => ?_) (fun hb20 => ?_)
    ·have h:=bT hb20 h
     refine lp hn 0 ?_
     refine yS (.agg [vi 0,vs z0,vb false,vs z0,vs z0,vz]) 0 ⟨dQ _ _ _ _ [1,1,3,1] _ _ underlying122 qH (xR _ underlying122) rE.nil rfl rfl rfl⟩ ?_
     refine yk [42,4] [] ?_
     refine yt (4,.box 122 [vi 0,vs z0,vb false,vs z0,vs z0,vz]) 1 ⟨gm _ _ _ 42 4 6 km rfl rfl rfl rfl rfl (.eq _ (.eq _ (.eq _ (.eq _ (.eq _ (.eq _ (.nil _))))))) rfl⟩ ?_
     refine dv [56,4,5] ?_
     refine bO ?_
     refine bG [1,2] (by kernel_rfl) (es':=[(_,_),(_,_)]) rfl ?_
     refine fe (fs:=[(4,.box 122 [vi 0,vs z0,vb false,vs z0,vs z0,.fl (.own 181) 2 (flatten (map bX.enc []))]),(5,vb false)]) (.box _ _ (bq (bI _) (bq (bI _) (bq (bI _) (bq (bI _) (bq (bI _) (bq (ek 181 2) (dO))))))) rfl (.same _ .nil)) ?_
     refine jv 0 hio (es':=[(4, .box 122 [.v (.int .i64 0),.v (.string (⟨#[]⟩:ByteArray)),.v (.bool false),.v (.string (⟨#[]⟩:ByteArray)),.v (.string (⟨#[]⟩:ByteArray)),.fl .ro 2 (flatten (map bX.enc []))]), (5, .v (.bool false))]) rfl ?_
     refine bw ?_
     obtain rfl:=zi h
     exact bP hio rfl (.cellA _ _ _ _ underlying122 rfl km (.tmp _ _ .nil)) rfl rfl
    ·have h:=bQ hb20 h
     refine bU ?_
     refine bb (aM ?_)
     obtain ⟨v13, hv13, h⟩:=zn h
     obtain ⟨v14, hv14, h⟩:=zn h
     refine yx hn 3 ?_
     refine yS (vs v13) 0 ⟨fj _ _ _ v5 (v2.1.size:Int) _ underlying9 rfl ⟨_,rfl⟩ rfl hv13⟩ ?_
     refine ys 0 ⟨lg call159 (tX _ _ _ _ hv14) 56⟩ ?_
     refine ym 4 ?_
     refine dv [0,56,4,9,11,7] ?_
     refine lp hn 3 ?_
     refine yS (.agg [vi kind,vs z0,vb v7.1.Null,vs v7.1.Local,vs v7.1.Domain,.fl .ro 2 (flatten (map bX.enc v14.1))]) 3 ⟨dQ _ _ _ _ [1,1,3,1] _ _ underlying122 qH (xR _ underlying122) (.copy _ (.copy _ (.copy _ rE.nil))) rfl rfl rfl⟩ ?_
     refine dv [56,4,5] ?_
     refine bO ?_
     refine bG [1,2] (by kernel_rfl) (es':=[(_,_),(_,_)]) rfl ?_
     obtain rfl:=zi h
     exact bP hio rfl (.cellA _ _ _ _ underlying122 rfl km (.tmp _ _ .nil)) rfl rfl
   ·intro u17 h hl18 hr19
    refine bJ h (fun hg6_2 h => ?_) (fun hg6_2 h => ?_)
    ·refine yx hn 3 ?_
     refine yd hg6_2 7 ?_
     refine ye [0,56,4,6,8,9,41] ?_
     exact hl18 _ (zi h).symm
    ·refine bJ h (fun hg6_5 h => ?_) (fun hg6_5 h => ?_)
     ·refine yx hn 3 ?_
      refine yd hg6_2 3 ?_
      refine yd hg6_5 4 ?_
      refine ye [0,56,4,6,8,9,41] ?_
      exact hl18 _ (zi h).symm
     ·refine yx hn 3 ?_
      refine yd hg6_2 3 ?_
      refine yd hg6_5 4 ?_
      refine ye [0,56,4,6,8,9,41] ?_
      exact hl18 _ (zi h).symm
theorem wQ (mx:Int×Nat×Value) (line:ByteArray) (r:(dA×Bool)) (h:Sh.mJ line=some r):lX Tryz.prog (GL mx) 111 [.v (.string line)] (.tup [.agg [.v (.int .i64 r.1.Kind), .v (.string r.1.Text), .v (.bool r.1.Path.Null), .v (.string r.1.Path.Local), .v (.string r.1.Path.Domain), .fl .ro 2 (flatten (map bX.enc r.1.Params))], .v (.bool r.2)]):=by
  unfold Sh.mJ at h
  refine yG 65 func111 fun g0 hn hio => ?_
  refine lp hn 0 ?_
  refine yS (.box 122 [vi 0,vs z0,vb false,vs z0,vs z0,vz]) 1 ⟨oA (dh _ _ qH)⟩ ?_
  refine dv [0,65,2] ?_
  refine aM ?_
  obtain ⟨v1, hv1, h⟩:=zn h
  refine yx hn 1 ?_
  refine ys 0 ⟨lk call134 (mQ _ _ _ hv1)⟩ ?_
  refine ym 6 ?_
  refine dv [0,65,2,5,6] ?_
  refine aM ?_
  obtain ⟨v2, hv2, h⟩:=zn h
  refine yx hn 1 ?_
  refine ys 0 ⟨lk call109 (sv _ _ hv2)⟩ ?_
  refine yS (.agg [vi v2,vs z0,vb false,vs z0,vs z0,vz]) 0 ⟨dQ _ _ _ _ [1,1,3,1] _ _ underlying122 qH (xR _ underlying122) (.copy _ rE.nil) rfl rfl rfl⟩ ?_
  refine yS (.box 122 [vi 0,vs z0,vb false,vs z0,vs z0,vz]) 1 ⟨oA (dh _ _ qH)⟩ ?_
  refine dv [0,65,2,5,6,7] ?_
  refine aM ?_
  refine cF hn 2 [0,65,2,5,6,7,18] ?_
  refine cA ?_
  refine aM ?_
  refine ce h (fun (s30:Bool)=>[(0,vs line),(65,.glob (GL mx)),(2,.box 122 [vi 0,vs z0,vb false,vs z0,vs z0,vz]),(5,vs v1.2.1),(6,vb v1.2.2),(7,.box 122 [vi v2,vs z0,vb false,vs z0,vs z0,vz]),(18,vi v2),(19,vb s30)]) ?_ ?_
  ·rintro s30 h
   refine bb ?_
   refine bL _ rfl (fun hb35 => ?_) (fun hb35 => ?_)
   ·have h:=bT hb35 h
    refine aM ?_
    obtain ⟨v10, hv10, h⟩:=zn h
    refine yx hn 3 ?_
    refine ys 0 ⟨lg call137 (tx _ _ _ _ hv10) 65⟩ ?_
    refine yS (.agg [vi v10.1.Kind,vs v10.1.Text,vb v10.1.Path.Null,vs v10.1.Path.Local,vs v10.1.Path.Domain,.fl .ro 2 (flatten (map bX.enc v10.1.Params))]) 3 ⟨jM _ _ _ _ _ _ rfl rfl (zl rfl) rfl rfl⟩ ?_
    refine dv [65,2,3] ?_
    refine bO ?_
    refine bG [1,2] (by kernel_rfl) (es':=[(_,_),(_,_)]) rfl ?_
    refine cC ?_
    refine bw ?_
    obtain rfl:=zi h
    exact bP hio rfl (.cellA _ _ _ _ underlying122 rfl km (.tmp _ _ .nil)) rfl rfl
   ·have h:=bQ hb35 h
    refine aM ?_
    refine ce h (fun (s37:Bool)=>[(65,.glob (GL mx)),(2,.box 122 [vi 0,vs z0,vb false,vs z0,vs z0,vz]),(5,vs v1.2.1),(6,vb v1.2.2),(7,.box 122 [vi v2,vs z0,vb false,vs z0,vs z0,vz]),(18,vi v2),(28,vb s37)]) ?_ ?_
    ·rintro s37 h
     refine bb ?_
     refine bL _ rfl (fun hb42 => ?_) (fun hb42 => ?_)
     ·have h:=bT hb42 h
      refine cF hn 3 [65,2,5,7] ?_
      refine aM ?_
      obtain ⟨v18, hv18, h⟩:=zn h
      refine wb [[7],[5]] ?_
      refine wN [34,65] ?_
      refine wo [] ⟨lg call55 (eF _ _ _ hv18) 65⟩ ?_
      refine wK [2] [33] ?_
      refine wt [(2,.box 122 [vi v2,vs v1.2.1,vb false,vs z0,vs z0,vz])] [[35]] ⟨iJ _ _ _ _ _ _ _ _ km rfl rfl rfl rfl (zl rfl) rfl rfl⟩ ?_
      refine Af hn [65,2,3] ?_
      refine bO ?_
      refine bG [1,2] (by kernel_rfl) (es':=[(_,_),(_,_)]) rfl ?_
      refine fe (fs:=[(2,.box 122 [vi v2,vs v1.2.1,vb false,vs z0,vs z0,.fl (.own 181) 2 (flatten (map bX.enc []))]),(3,vb v18)]) (.box _ _ (bq (bI _) (bq (bI _) (bq (bI _) (bq (bI _) (bq (bI _) (bq (ek 181 2) (dO))))))) rfl (.same _ .nil)) ?_
      refine jv 0 hio (es':=[(2, .box 122 [.v (.int .i64 v2),.v (.string v1.2.1),.v (.bool false),.v (.string (⟨#[]⟩:ByteArray)),.v (.string (⟨#[]⟩:ByteArray)),.fl .ro 2 (flatten (map bX.enc []))]), (3, .v (.bool v18))]) rfl ?_
      refine cC ?_
      refine bw ?_
      obtain rfl:=zi h
      exact bP hio rfl (.cellA _ _ _ _ underlying122 rfl km (.tmp _ _ .nil)) rfl rfl
     ·have h:=bQ hb42 h
      refine cF hn 2 [65,2,5,6,7,18,36] ?_
      refine bL _ rfl (fun hb43 => ?_) (fun hb43 => ?_)
      ·have h:=bT hb43 h
       refine cF hn 3 [65,2,5,7] ?_
       refine cF hn 5 [65,2,3] ?_
       refine bO ?_
       refine bG [1,2] (by kernel_rfl) (es':=[(_,_),(_,_)]) rfl ?_
       refine fe (fs:=[(2,.box 122 [vi v2,vs v1.2.1,vb false,vs z0,vs z0,.fl (.own 181) 2 (flatten (map bX.enc []))]),(3,vb (!(v1.2.1.toList==z0.toList)))]) (.box _ _ (bq (bI _) (bq (bI _) (bq (bI _) (bq (bI _) (bq (bI _) (bq (ek 181 2) (dO))))))) rfl (.same _ .nil)) ?_
       refine jv 0 hio (es':=[(2, .box 122 [.v (.int .i64 v2),.v (.string v1.2.1),.v (.bool false),.v (.string (⟨#[]⟩:ByteArray)),.v (.string (⟨#[]⟩:ByteArray)),.fl .ro 2 (flatten (map bX.enc []))]), (3, .v (.bool ((!(v1.2.1.toList==(⟨#[]⟩:ByteArray).toList)))))]) rfl ?_
       refine cC ?_
       refine bw ?_
       obtain rfl:=zi h
       exact bP hio rfl (.cellA _ _ _ _ underlying122 rfl km (.tmp _ _ .nil)) rfl rfl
      ·have h:=bQ hb43 h
       refine cF hn 2 [65,2,5,6,7,18,43] ?_
       refine bL _ rfl (fun hb44 => ?_) (fun hb44 => ?_)
       ·have h:=bT hb44 h
        refine cF hn 3 [65,2,5,6,7] ?_
        refine aM ?_
        refine ce h (fun (s45:Bool)=>[(65,.glob (GL mx)),(2,.box 122 [vi v2,vs v1.2.1,vb false,vs z0,vs z0,vz]),(3,vb s45)]) ?_ ?_
        ·rintro s45 h
         refine bb (bO ?_)
         refine bG [1,2] (by kernel_rfl) (es':=[(_,_),(_,_)]) rfl ?_
         refine fe (fs:=[(2,.box 122 [vi v2,vs v1.2.1,vb false,vs z0,vs z0,.fl (.own 181) 2 (flatten (map bX.enc []))]),(3,vb s45)]) (.box _ _ (bq (bI _) (bq (bI _) (bq (bI _) (bq (bI _) (bq (bI _) (bq (ek 181 2) (dO))))))) rfl (.same _ .nil)) ?_
         refine jv 0 hio (es':=[(2, .box 122 [.v (.int .i64 v2),.v (.string v1.2.1),.v (.bool false),.v (.string (⟨#[]⟩:ByteArray)),.v (.string (⟨#[]⟩:ByteArray)),.fl .ro 2 (flatten (map bX.enc []))]), (3, .v (.bool s45))]) rfl ?_
         refine cC ?_
         refine bw ?_
         obtain rfl:=zi h
         exact bP hio rfl (.cellA _ _ _ _ underlying122 rfl km (.tmp _ _ .nil)) rfl rfl
        ·intro u46 h hl47 hr48
         refine bJ h (fun hg16_3 h => ?_) (fun hg16_3 h => ?_)
         ·refine wb [[7],[6],[48],[49]] ?_
          refine wd hg16_3 [[50],[50],[50]] ?_
          refine wK [2] [47] ?_
          refine wt [(2,.box 122 [vi v2,vs v1.2.1,vb false,vs z0,vs z0,vz])] [[53]] ⟨iJ _ _ _ _ _ _ _ _ km rfl rfl rfl rfl (zl rfl) rfl rfl⟩ ?_
          refine we hn [65,2,3] ?_
          exact hl47 _ (zi h).symm
         ·obtain ⟨v21, hv21, h⟩:=zn h
          refine wb [[7],[6],[48],[49]] ?_
          refine wd hg16_3 [[50,5]] ?_
          refine wN [50,51,65] ?_
          refine wo [[50,52]] ⟨lg call55 (eF _ _ _ hv21) 65⟩ ?_
          refine wK [2] [47] ?_
          refine wt [(2,.box 122 [vi v2,vs v1.2.1,vb false,vs z0,vs z0,vz])] [[53]] ⟨iJ _ _ _ _ _ _ _ _ km rfl rfl rfl rfl (zl rfl) rfl rfl⟩ ?_
          refine we hn [65,2,3] ?_
          exact hl47 _ (zi h).symm
       ·have h:=bQ hb44 h
        refine cF hn 2 [65,2,5,6,7,18,54] ?_
        refine bL _ rfl (fun hb49 => ?_) (fun hb49 => ?_)
        ·have h:=bT hb49 h
         refine aM ?_
         obtain ⟨v27, hv27, h⟩:=zn h
         refine wb [[7],[5]] ?_
         refine wN [57] ?_
         refine wo [] ⟨lk call136 (jR _ _ _ hv27)⟩ ?_
         refine wK [2] [56] ?_
         refine wt [(2,.box 122 [vi v2,vs z0,vb false,vs z0,vs z0,vz])] [[58]] ⟨iJ _ _ _ _ _ _ _ _ km rfl rfl rfl rfl (zl rfl) rfl rfl⟩ ?_
         refine Af hn [65,2,3] ?_
         refine bO ?_
         refine bG [1,2] (by kernel_rfl) (es':=[(_,_),(_,_)]) rfl ?_
         refine fe (fs:=[(2,.box 122 [vi v2,vs z0,vb false,vs z0,vs z0,.fl (.own 181) 2 (flatten (map bX.enc []))]),(3,vb v27)]) (.box _ _ (bq (bI _) (bq (bI _) (bq (bI _) (bq (bI _) (bq (bI _) (bq (ek 181 2) (dO))))))) rfl (.same _ .nil)) ?_
         refine jv 0 hio (es':=[(2, .box 122 [.v (.int .i64 v2),.v (.string (⟨#[]⟩:ByteArray)),.v (.bool false),.v (.string (⟨#[]⟩:ByteArray)),.v (.string (⟨#[]⟩:ByteArray)),.fl .ro 2 (flatten (map bX.enc []))]), (3, .v (.bool v27))]) rfl ?_
         refine cC ?_
         refine bw ?_
         obtain rfl:=zi h
         exact bP hio rfl (.cellA _ _ _ _ underlying122 rfl km (.tmp _ _ .nil)) rfl rfl
        ·have h:=bQ hb49 h
         refine cF hn 2 [65,2,6,7,59] ?_
         refine bL _ rfl (fun hb50 => ?_) (fun hb50 => ?_)
         ·have h:=bT hb50 h
          refine cF hn 3 [65,2,3] ?_
          refine bO ?_
          refine bG [1,2] (by kernel_rfl) (es':=[(_,_),(_,_)]) rfl ?_
          refine fe (fs:=[(2,.box 122 [vi v2,vs z0,vb false,vs z0,vs z0,.fl (.own 181) 2 (flatten (map bX.enc []))]),(3,vb true)]) (.box _ _ (bq (bI _) (bq (bI _) (bq (bI _) (bq (bI _) (bq (bI _) (bq (ek 181 2) (dO))))))) rfl (.same _ .nil)) ?_
          refine jv 0 hio (es':=[(2, .box 122 [.v (.int .i64 v2),.v (.string (⟨#[]⟩:ByteArray)),.v (.bool false),.v (.string (⟨#[]⟩:ByteArray)),.v (.string (⟨#[]⟩:ByteArray)),.fl .ro 2 (flatten (map bX.enc []))]), (3, .v (.bool true))]) rfl ?_
          refine cC ?_
          refine bw ?_
          obtain rfl:=zi h
          exact bP hio rfl (.cellA _ _ _ _ underlying122 rfl km (.tmp _ _ .nil)) rfl rfl
         ·have h:=bQ hb50 h
          refine bU ?_
          refine cG ?_
          refine bb ?_
          refine cF hn 5 [65,2,3] ?_
          refine bO ?_
          refine bG [1,2] (by kernel_rfl) (es':=[(_,_),(_,_)]) rfl ?_
          refine fe (fs:=[(2,.box 122 [vi v2,vs z0,vb false,vs z0,vs z0,.fl (.own 181) 2 (flatten (map bX.enc []))]),(3,vb (!v1.2.2))]) (.box _ _ (bq (bI _) (bq (bI _) (bq (bI _) (bq (bI _) (bq (bI _) (bq (ek 181 2) (dO))))))) rfl (.same _ .nil)) ?_
          refine jv 0 hio (es':=[(2, .box 122 [.v (.int .i64 v2),.v (.string (⟨#[]⟩:ByteArray)),.v (.bool false),.v (.string (⟨#[]⟩:ByteArray)),.v (.string (⟨#[]⟩:ByteArray)),.fl .ro 2 (flatten (map bX.enc []))]), (3, .v (.bool (!v1.2.2)))]) rfl ?_
          obtain rfl:=zi h
          exact bP hio rfl (.cellA _ _ _ _ underlying122 rfl km (.tmp _ _ .nil)) rfl rfl
    ·intro u38 h hl39 hr40
     refine cF hn 2 [65,2,5,6,7,18,28] ?_
     refine bL _ rfl (fun hb41 => ?_) (fun hb41 => ?_)
     ·have h:=bT hb41 h
      refine bU ?_
      exact hl39 _ (zi h).symm
     ·have h:=bQ hb41 h
      refine yx hn 1 ?_
      refine yw [28] 1 ?_
      refine ye [65,2,5,6,7,18,28] ?_
      exact hl39 _ (zi h).symm
  ·intro u31 h hl32 hr33
   refine cF hn 2 [0,65,2,5,6,7,18,19] ?_
   refine bL _ rfl (fun hb34 => ?_) (fun hb34 => ?_)
   ·have h:=bT hb34 h
    refine bU ?_
    exact hl32 _ (zi h).symm
   ·have h:=bQ hb34 h
    refine yx hn 1 ?_
    refine yw [19] 1 ?_
    refine ye [0,65,2,5,6,7,18,19] ?_
    exact hl32 _ (zi h).symm
theorem Ar (mx:Int×Nat×Value) (line:ByteArray) (r:(dA×Int)) (h:Sh.jr line=some r):lX Tryz.prog (GL mx) 91 [.v (.string line)] (.tup [.agg [.v (.int .i64 r.1.Kind), .v (.string r.1.Text), .v (.bool r.1.Path.Null), .v (.string r.1.Path.Local), .v (.string r.1.Path.Domain), .fl .ro 2 (flatten (map bX.enc r.1.Params))], .v (.int .i64 r.2)]):=by
  unfold Sh.jr at h
  refine yG 32 func91 fun g0 hn hio => ?_
  refine lp hn 0 ?_
  refine yS (.box 122 [vi 0,vs z0,vb false,vs z0,vs z0,vz]) 1 ⟨oA (dh _ _ qH)⟩ ?_
  refine dv [0,32,2] ?_
  refine aM ?_
  refine aM ?_
  refine ce h (fun (s12:Bool)=>[(0,vs line),(32,.glob (GL mx)),(2,.box 122 [vi 0,vs z0,vb false,vs z0,vs z0,vz]),(18,vb s12)]) ?_ ?_
  ·rintro s12 h
   refine bb ?_
   refine bL _ rfl (fun hb16 => ?_) (fun hb16 => ?_)
   ·have h:=bT hb16 h
    refine lp hn 0 ?_
    refine yS (.agg [vi 0,vs z0,vb false,vs z0,vs z0,vz]) 0 ⟨dQ _ _ _ _ [1,1,3,1] _ _ underlying122 qH (xR _ underlying122) rE.nil rfl rfl rfl⟩ ?_
    refine yk [19,2] [] ?_
    refine yt (2,.box 122 [vi 0,vs z0,vb false,vs z0,vs z0,vz]) 1 ⟨gm _ _ _ 19 2 6 km rfl rfl rfl rfl rfl (.eq _ (.eq _ (.eq _ (.eq _ (.eq _ (.eq _ (.nil _))))))) rfl⟩ ?_
    refine dv [32,2,3] ?_
    refine bO ?_
    refine bG [1,2] (by kernel_rfl) (es':=[(_,_),(_,_)]) rfl ?_
    refine fe (fs:=[(2,.box 122 [vi 0,vs z0,vb false,vs z0,vs z0,.fl (.own 181) 2 (flatten (map bX.enc []))]),(3,vi 500)]) (.box _ _ (bq (bI _) (bq (bI _) (bq (bI _) (bq (bI _) (bq (bI _) (bq (ek 181 2) (dO))))))) rfl (.same _ .nil)) ?_
    refine jv 0 hio (es':=[(2, .box 122 [.v (.int .i64 0),.v (.string (⟨#[]⟩:ByteArray)),.v (.bool false),.v (.string (⟨#[]⟩:ByteArray)),.v (.string (⟨#[]⟩:ByteArray)),.fl .ro 2 (flatten (map bX.enc []))]), (3, .v (.int .i64 500))]) rfl ?_
    refine bw ?_
    obtain rfl:=zi h
    exact bP hio rfl (.cellA _ _ _ _ underlying122 rfl km (.tmp _ _ .nil)) rfl rfl
   ·have h:=bQ hb16 h
    refine bU ?_
    refine bb (aM ?_)
    refine aM ?_
    obtain ⟨v8, hv8, h⟩:=zn h
    refine yx hn 1 ?_
    refine ys 0 ⟨lg call110 (rm _ _ _ hv8) 32⟩ ?_
    refine dv [0,32,2,21] ?_
    refine bL _ rfl (fun hb17 => ?_) (fun hb17 => ?_)
    ·have h:=bT hb17 h
     refine lp hn 0 ?_
     refine yS (.agg [vi 0,vs z0,vb false,vs z0,vs z0,vz]) 0 ⟨dQ _ _ _ _ [1,1,3,1] _ _ underlying122 qH (xR _ underlying122) rE.nil rfl rfl rfl⟩ ?_
     refine yk [22,2] [] ?_
     refine yt (2,.box 122 [vi 0,vs z0,vb false,vs z0,vs z0,vz]) 1 ⟨gm _ _ _ 22 2 6 km rfl rfl rfl rfl rfl (.eq _ (.eq _ (.eq _ (.eq _ (.eq _ (.eq _ (.nil _))))))) rfl⟩ ?_
     refine dv [32,2,3] ?_
     refine bO ?_
     refine bG [1,2] (by kernel_rfl) (es':=[(_,_),(_,_)]) rfl ?_
     refine fe (fs:=[(2,.box 122 [vi 0,vs z0,vb false,vs z0,vs z0,.fl (.own 181) 2 (flatten (map bX.enc []))]),(3,vi 504)]) (.box _ _ (bq (bI _) (bq (bI _) (bq (bI _) (bq (bI _) (bq (bI _) (bq (ek 181 2) (dO))))))) rfl (.same _ .nil)) ?_
     refine jv 0 hio (es':=[(2, .box 122 [.v (.int .i64 0),.v (.string (⟨#[]⟩:ByteArray)),.v (.bool false),.v (.string (⟨#[]⟩:ByteArray)),.v (.string (⟨#[]⟩:ByteArray)),.fl .ro 2 (flatten (map bX.enc []))]), (3, .v (.int .i64 504))]) rfl ?_
     refine bw ?_
     obtain rfl:=zi h
     exact bP hio rfl (.cellA _ _ _ _ underlying122 rfl km (.tmp _ _ .nil)) rfl rfl
    ·have h:=bQ hb17 h
     refine bU ?_
     refine bb (aM ?_)
     obtain ⟨v10, hv10, h⟩:=zn h
     refine yx hn 1 ?_
     refine ys 0 ⟨lg call111 (wQ _ _ _ hv10) 32⟩ ?_
     refine ym 0 ?_
     refine yS (.agg [vi v10.1.Kind,vs v10.1.Text,vb v10.1.Path.Null,vs v10.1.Path.Local,vs v10.1.Path.Domain,.fl .ro 2 (flatten (map bX.enc v10.1.Params))]) 1 ⟨jM _ _ _ _ _ _ rfl rfl (zl rfl) rfl rfl⟩ ?_
     refine yS (.box 122 [vi 0,vs z0,vb false,vs z0,vs z0,vz]) 2 ⟨oA (dh _ _ qH)⟩ ?_
     refine dv [32,2,4,5] ?_
     refine aM ?_
     refine cF hn 2 [32,2,4,29] ?_
     refine bL _ rfl (fun hb18 => ?_) (fun hb18 => ?_)
     ·have h:=bT hb18 h
      refine lp hn 0 ?_
      refine yS (.agg [vi 0,vs z0,vb false,vs z0,vs z0,vz]) 0 ⟨dQ _ _ _ _ [1,1,3,1] _ _ underlying122 qH (xR _ underlying122) rE.nil rfl rfl rfl⟩ ?_
      refine yk [30,2] [] ?_
      refine yt (2,.box 122 [vi 0,vs z0,vb false,vs z0,vs z0,vz]) 1 ⟨gm _ _ _ 30 2 6 km rfl rfl rfl rfl rfl (.eq _ (.eq _ (.eq _ (.eq _ (.eq _ (.eq _ (.nil _))))))) rfl⟩ ?_
      refine dv [32,2,3] ?_
      refine bO ?_
      refine bG [1,2] (by kernel_rfl) (es':=[(_,_),(_,_)]) rfl ?_
      refine fe (fs:=[(2,.box 122 [vi 0,vs z0,vb false,vs z0,vs z0,.fl (.own 181) 2 (flatten (map bX.enc []))]),(3,vi 501)]) (.box _ _ (bq (bI _) (bq (bI _) (bq (bI _) (bq (bI _) (bq (bI _) (bq (ek 181 2) (dO))))))) rfl (.same _ .nil)) ?_
      refine jv 0 hio (es':=[(2, .box 122 [.v (.int .i64 0),.v (.string (⟨#[]⟩:ByteArray)),.v (.bool false),.v (.string (⟨#[]⟩:ByteArray)),.v (.string (⟨#[]⟩:ByteArray)),.fl .ro 2 (flatten (map bX.enc []))]), (3, .v (.int .i64 501))]) rfl ?_
      refine bw ?_
      obtain rfl:=zi h
      exact bP hio rfl (.cellA _ _ _ _ underlying122 rfl km (.tmp _ _ .nil)) rfl rfl
     ·have h:=bQ hb18 h
      refine bU ?_
      refine bb ?_
      refine cF hn 3 [32,2,3] ?_
      refine bO ?_
      refine bG [1,2] (by kernel_rfl) (es':=[(_,_),(_,_)]) rfl ?_
      obtain rfl:=zi h
      exact bP hio rfl (.cellA _ _ _ _ underlying122 rfl km (.tmp _ _ .nil)) rfl rfl
  ·intro u13 h hl14 hr15
   refine bJ h (fun hg1_3 h => ?_) (fun hg1_3 h => ?_)
   ·refine yx hn 4 ?_
    refine yd hg1_3 9 ?_
    refine ye [0,32,2,18] ?_
    exact hl14 _ (zi h).symm
   ·obtain ⟨v1, hv1, h⟩:=zn h
    refine bJ h (fun hg1_8 h => ?_) (fun hg1_8 h => ?_)
    ·refine yx hn 4 ?_
     refine yd hg1_3 1 ?_
     refine ys 3 ⟨lk call108 (pV _ _ hv1)⟩ ?_
     refine yd hg1_8 4 ?_
     refine ye [0,32,2,18] ?_
     exact hl14 _ (zi h).symm
    ·obtain ⟨v2, hv2, h⟩:=zn h
     refine yx hn 4 ?_
     refine yd hg1_3 1 ?_
     refine ys 3 ⟨lk call108 (pV _ _ hv1)⟩ ?_
     refine yd hg1_8 1 ?_
     refine ys 2 ⟨lk call109 (sv _ _ hv2)⟩ ?_
     refine ye [0,32,2,18] ?_
     exact hl14 _ (zi h).symm
theorem tI (c:dA) (key:ByteArray) (r:(ByteArray×Bool)) (h:Sh.lJ c key=some r):eD Tryz.prog 138 [.agg [.v (.int .i64 c.Kind), .v (.string c.Text), .v (.bool c.Path.Null), .v (.string c.Path.Local), .v (.string c.Path.Domain), .fl .shr 2 (flatten (map bX.enc c.Params))], .v (.string key)] (.tup [.v (.string r.1), .v (.bool r.2)]):=by
  unfold Sh.lJ at h
  refine yO 22 func138 fun g0 hn hio => ?_
  refine cF hn 3 [1,2] ?_
  refine aM ?_
  refine cF hn 4 [1,9,10,11] ?_
  refine dx h (fun (s9:Int)=>[(1,vs key),(9,.fl .shr 2 (flatten (map bX.enc c.Params))),(10,vi (c.Params.length:Int)),(11,vi s9)]) (fun (():Unit)=>[]) ?_ ?_
  ·rintro ⟨⟩ h
   refine bb ?_
   refine cF hn 2 [4,5] ?_
   refine bO ?_
   obtain rfl:=zi h
   exact bP hio rfl (.tmp _ _ (.tmp _ _ .nil)) rfl rfl
  ·rintro u12 hl13 hr14 s9 rr17 h ho15
   refine cF hn 1 [1,9,10,11,12] ?_
   refine aM ?_
   refine bL _ rfl (fun hb18 => ?_) (fun hb18 => ?_)
   ·have h:=bT hb18 h
    refine bU ?_
    refine bb (aM ?_)
    refine cA ?_
    refine aM ?_
    obtain ⟨v2, hv2, h⟩:=zn h
    obtain ⟨v3, hv3, h⟩:=zn h
    refine yx hn 0 ?_
    refine ys 0 ⟨lj hv2⟩ ?_
    refine yS (.agg [vs v3.Key,vs v3.Val]) 0 ⟨nC _ _ _ _ _ _ _ underlying181 rfl vf rfl rfl (qL bX.len hv3) rfl (by decide)⟩ ?_
    refine yS (.box 181 [vs z0,vs z0]) 1 ⟨oA (dh _ _ wM)⟩ ?_
    refine dv [1,9,10,11,7] ?_
    refine cF hn 4 [1,9,10,11,7,18] ?_
    refine bL _ rfl (fun hb19 => ?_) (fun hb19 => ?_)
    ·have h:=bT hb19 h
     refine cF hn 4 [4,5] ?_
     refine bO ?_
     refine cC ?_
     refine bw ?_
     refine bw ?_
     refine cC ?_
     refine bw ?_
     have h:=hr14 _ (ho15 _ (zi h).symm).symm
     obtain rfl:=zi h
     exact bP hio rfl (.tmp _ _ (.tmp _ _ .nil)) rfl rfl
    ·have h:=bQ hb19 h
     refine bU ?_
     refine cG ?_
     refine bb ?_
     obtain ⟨v5, hv5, h⟩:=zn h
     refine yx hn 0 ?_
     refine ys 0 ⟨lb hv5⟩ ?_
     refine yw [11] 1 ?_
     refine ye [1,9,10,11] ?_
     exact dM _ (zi h).symm rfl
   ·have h:=bQ hb18 h
    refine dK ?_
    refine cd ?_
    refine cd ?_
    refine dL ?_
    refine bG [] (by kernel_rfl) (es':=[]) rfl ?_
    exact hl13 _ (ho15 _ (zi h).symm).symm
theorem wj (mx:Int×Nat×Value) (s:ByteArray) (r:Int) (h:Sh.jI s=some r):lX Tryz.prog (GL mx) 139 [.v (.string s)] (.tup [.v (.int .i64 r), .any]):=uN (KR mx) (fun s n w h1 h2=>Tryz.strconv_Atoi s n h1 h2 w) (fun s w h1 h2 h3=>(Tryz.strconv_Atoi_err s h1 h2 _ w h3 (.inr ⟨_, _, rfl⟩)).mono fun _ _ ⟨_, h4, _, _, h5⟩=>⟨_, h4, h5⟩) s r h
theorem sh (mx:Int×Nat×Value) (s:aa) (c:dA) (r:(Int×aa)) (h:Sh.iE s c=some r):rW Tryz.prog (GL mx) 112 [.box 80 (aa.b s), .agg [.v (.int .i64 c.Kind), .v (.string c.Text), .v (.bool c.Path.Null), .v (.string c.Path.Local), .v (.string c.Path.Domain), .fl .shr 2 (flatten (map bX.enc c.Params))]] [.box 80 (aa.b r.2)] (.v (.int .i64 r.1)):=by
  unfold Sh.iE at h
  refine JO 39 func112 fun args0 hargs0 g0 hn hio => ?_
  refine cF hn 2 [0,39,3,0] ?_
  refine aM ?_
  obtain ⟨v1, hv1, h⟩:=zn h
  refine yx hn 1 ?_
  refine ys 0 ⟨lk call138 (tI _ _ _ hv1)⟩ ?_
  refine ym 4 ?_
  refine dv [0,39,3,5,0] ?_
  refine aM ?_
  obtain ⟨v2, hv2, h⟩:=zn h
  refine yx hn 1 ?_
  refine ys 0 ⟨lg call139 (wj _ _ _ hv2) 39⟩ ?_
  refine ym 4 ?_
  refine dv [0,39,3,7,0] ?_
  refine aM ?_
  refine cA ?_
  refine cF hn 7 [0,39,3,7,19,0] ?_
  refine bL _ rfl (fun hb3 => ?_) (fun hb3 => ?_)
  ·have h:=bT hb3 h
   refine cF hn 1 [0,39,4,0] ?_
   refine bO ?_
   refine bG [2,0,3] (by kernel_rfl) (es':=[(_,_),(_,_),(_,_)]) rfl ?_
   refine cC ?_
   refine bw ?_
   obtain rfl:=zi h
   exact dS (es:=[(4, .v (.int .i64 503))]) (posts:=[.box 80 (aa.b s)]) hio rfl rfl (.tmp _ _ .nil) rfl rfl hargs0 rfl
  ·have h:=bQ hb3 h
   refine cF hn 3 [0,39,3,26,0] ?_
   refine bL _ rfl (fun hb4 => ?_) (fun hb4 => ?_)
   ·have h:=bT hb4 h
    refine cF hn 1 [0,39,4,0] ?_
    refine bO ?_
    refine bG [2,0,3] (by kernel_rfl) (es':=[(_,_),(_,_),(_,_)]) rfl ?_
    refine cC ?_
    refine bw ?_
    obtain rfl:=zi h
    exact dS (es:=[(4, .v (.int .i64 552))]) (posts:=[.box 80 (aa.b s)]) hio rfl rfl (.tmp _ _ .nil) rfl rfl hargs0 rfl
   ·have h:=bQ hb4 h
    refine bU ?_
    refine cG ?_
    refine bb (aM ?_)
    refine wb [[],[],[3],[31,3],[29,0],[33,0],[34,0]] ?_
    refine wK [0] [35] ?_
    refine wt [(0,.box 80 (vi 2::vs s.Gate.Helo::vb s.Gate.From.Null::vs s.Gate.From.Local::vs s.Gate.From.Domain::.fl (.own 26) 3 (flatten (map bu.enc s.Gate.To))::vb s.Gate.Quiet::.mkr 5 (map (int .u8) s.Gate.Buf)::vs s.Gate.Challenge::vb s.Gate.Proved::co.c s.config [vi s.site,vi s.at_,.fr (.own 55) false 12 (flatten (map cc.ienc s.out))]))] [[30,0],[36,0],[37,0]] ⟨iJ _ _ _ _ _ _ _ _ MC rfl rfl rfl rfl (zl rfl) rfl rfl⟩ ?_
    refine wK [0] [38,32] ?_
    refine wt [(0,.box 80 (vi 2::vs s.Gate.Helo::vb c.Path.Null::vs c.Path.Local::vs c.Path.Domain::.fl (.own 26) 3 (flatten (map bu.enc s.Gate.To))::vb s.Gate.Quiet::.mkr 5 (map (int .u8) s.Gate.Buf)::vs s.Gate.Challenge::vb s.Gate.Proved::co.c s.config [vi s.site,vi s.at_,.fr (.own 55) false 12 (flatten (map cc.ienc s.out))]))] [] ⟨iJ _ _ _ _ _ _ _ _ zX rfl rfl rfl rfl (zl rfl) rfl rfl⟩ ?_
    refine Af hn [0,39,0] ?_
    refine cF hn 1 [0,39,4,0] ?_
    refine bO ?_
    refine bG [2,0,3] (by kernel_rfl) (es':=[(_,_),(_,_),(_,_)]) rfl ?_
    obtain rfl:=zi h
    exact dS (es:=[(4, .v (.int .i64 250))]) (posts:=[.box 80 [.v (.int .i64 2),.v (.string s.Gate.Helo),.v (.bool c.Path.Null),.v (.string c.Path.Local),.v (.string c.Path.Domain),.fl (.own 26) 3 (flatten (map bu.enc s.Gate.To)),.v (.bool s.Gate.Quiet),.mkr 5 (map (int .u8) s.Gate.Buf),.v (.string s.Gate.Challenge),.v (.bool s.Gate.Proved),.v (.string ((s.config.Domains.getD 0 (⟨#[]⟩:ByteArray)))),.v (.string ((s.config.Domains.getD 1 (⟨#[]⟩:ByteArray)))),.v (.int .i64 s.config.Expiry),.v (.string s.config.User),.v (.string s.config.Secret),.v (.int .i64 s.config.Log),.v (.bool s.config.Held),.v (.int .i64 s.site),.v (.int .i64 s.at_),.fr (.own 55) false 12 (flatten (map cc.ienc s.out))]]) hio rfl rfl (.tmp _ _ .nil) rfl rfl hargs0 rfl
theorem tU (mx:Int×Nat×Value) (p:bu) (domain:ByteArray) (r:Bool) (h:Sh.qX p domain=some r):lX Tryz.prog (GL mx) 140 [.agg [.v (.bool p.Null), .v (.string p.Local), .v (.string p.Domain)], .v (.string domain)] (.v (.bool r)):=by
  unfold Sh.qX at h
  refine yG 21 func140 fun g0 hn hio => ?_
  refine cF hn 2 [1,21,2] ?_
  refine aM ?_
  refine ce h (fun (s4:Bool)=>[(21,.glob (GL mx)),(4,vb s4)]) ?_ ?_
  ·rintro s4 h
   refine bb (bO ?_)
   refine bG [1] (by kernel_rfl) (es':=[(_,_)]) rfl ?_
   obtain rfl:=zi h
   exact bP hio rfl (.tmp _ _ .nil) rfl rfl
  ·intro u5 h hl6 hr7
   obtain ⟨v1, hv1, h⟩:=zn h
   refine bJ h (fun hg1_3 h => ?_) (fun hg1_3 h => ?_)
   ·refine bJ h (fun hg1_8 h => ?_) (fun hg1_8 h => ?_)
    ·obtain ⟨v2, hv2, h⟩:=zn h
     obtain ⟨v3, hv3, h⟩:=zn h
     refine yx hn 1 ?_
     refine ys 2 ⟨lg call162 (fq _ _ _ hv1) 21⟩ ?_
     refine yd hg1_3 5 ?_
     refine yd hg1_8 2 ?_
     refine ys 1 ⟨lk call71 (iu _ _ hv2)⟩ ?_
     refine ys 3 ⟨lk call71 (iu _ _ hv3)⟩ ?_
     refine ye [21,4] ?_
     exact hl6 _ (zi h).symm
    ·refine yx hn 1 ?_
     refine ys 2 ⟨lg call162 (fq _ _ _ hv1) 21⟩ ?_
     refine yd hg1_3 5 ?_
     refine yd hg1_8 8 ?_
     refine ye [21,4] ?_
     exact hl6 _ (zi h).symm
   ·refine yx hn 1 ?_
    refine ys 2 ⟨lg call162 (fq _ _ _ hv1) 21⟩ ?_
    refine yd hg1_3 13 ?_
    refine ye [21,4] ?_
    exact hl6 _ (zi h).symm
theorem sR (mx:Int×Nat×Value) (s:aa) (c:dA) (r:(Int×aa)) (h:Sh.iN s c=some r):rW Tryz.prog (GL mx) 113 [.box 80 (aa.b s), .agg [.v (.int .i64 c.Kind), .v (.string c.Text), .v (.bool c.Path.Null), .v (.string c.Path.Local), .v (.string c.Path.Domain), .fl .shr 2 (flatten (map bX.enc c.Params))]] [.box 80 (aa.b r.2)] (.v (.int .i64 r.1)):=by
  unfold Sh.iN at h
  refine JO 81 func113 fun args0 hargs0 g0 hn hio => ?_
  refine cF hn 2 [0,81,3,0] ?_
  refine aM ?_
  refine cA ?_
  refine aM ?_
  refine ce h (fun (s1:Bool)=>[(0,.box 80 (aa.b s)),(81,.glob (GL mx)),(3,.box 122 (dA.c c [])),(7,vb s1),(0,.v (List.getD args0 0 undef))]) ?_ ?_
  ·rintro s1 h
   refine bb ?_
   refine bL _ rfl (fun hb5 => ?_) (fun hb5 => ?_)
   ·have h:=bT hb5 h
    refine cF hn 1 [0,81,4,0] ?_
    refine bO ?_
    refine bG [2,0,3] (by kernel_rfl) (es':=[(_,_),(_,_),(_,_)]) rfl ?_
    refine cC ?_
    refine bw ?_
    obtain rfl:=zi h
    exact dS (es:=[(4, .v (.int .i64 503))]) (posts:=[.box 80 (aa.b s)]) hio rfl rfl (.tmp _ _ .nil) rfl rfl hargs0 rfl
   ·have h:=bQ hb5 h
    refine cF hn 8 [0,81,3,22,0] ?_
    refine bL _ rfl (fun hb6 => ?_) (fun hb6 => ?_)
    ·have h:=bT hb6 h
     refine cF hn 1 [0,81,4,0] ?_
     refine bO ?_
     refine bG [2,0,3] (by kernel_rfl) (es':=[(_,_),(_,_),(_,_)]) rfl ?_
     refine cC ?_
     refine bw ?_
     obtain rfl:=zi h
     exact dS (es:=[(4, .v (.int .i64 452))]) (posts:=[.box 80 (aa.b s)]) hio rfl rfl (.tmp _ _ .nil) rfl rfl hargs0 rfl
    ·have h:=bQ hb6 h
     refine aM ?_
     refine ce h (fun (s9:Bool)=>[(0,.box 80 (aa.b s)),(81,.glob (GL mx)),(3,.box 122 (dA.c c [])),(30,vb s9),(0,.v (List.getD args0 0 undef))]) ?_ ?_
     ·rintro s9 h
      refine bb ?_
      refine bL _ rfl (fun hb13 => ?_) (fun hb13 => ?_)
      ·have h:=bT hb13 h
       refine cF hn 1 [0,81,4,0] ?_
       refine bO ?_
       refine bG [2,0,3] (by kernel_rfl) (es':=[(_,_),(_,_),(_,_)]) rfl ?_
       refine cC ?_
       refine bw ?_
       obtain rfl:=zi h
       exact dS (es:=[(4, .v (.int .i64 550))]) (posts:=[.box 80 (aa.b s)]) hio rfl rfl (.tmp _ _ .nil) rfl rfl hargs0 rfl
      ·have h:=bQ hb13 h
       refine bU ?_
       refine cG ?_
       refine bb ?_
       refine cF hn 5 [0,81,3,0] ?_
       refine aM ?_
       obtain ⟨v14, hv14, h⟩:=zn h
       refine wb [[],[],[58,0],[59,0],[60,0],[61,0],[3],[63,3]] ?_
       refine wN [64] ?_
       refine wS (.fl (.own 26) 3 (flatten (map bu.enc [(bu.mk c.Path.Null c.Path.Local c.Path.Domain)]))) [] ⟨dJ _ _ 3 (.agg #[.bool false,.string ByteArray.empty,.string ByteArray.empty]) (flatten (map bu.enc [(bu.mk c.Path.Null c.Path.Local c.Path.Domain)])) [(0,.agg #[.bool c.Path.Null,.string c.Path.Local,.string c.Path.Domain])] underlying27 zX xW (fun _ V w o a hv hes=>by have e0:=LK (ys:=[.bool c.Path.Null,.string c.Path.Local,.string c.Path.Domain]) hv hes (x := .tmp 64) rfl; simp only [List.map_toArray,List.map_cons,List.map_nil,e0]; try rfl) (fT (by simp [Instr.fill,Value.cells]; rfl) (by simp [List.range,List.range.loop,bu.enc] <;> rfl)) (by simp [Value.oneCell',bu.enc]) rfl (by decide) (by decide) (by decide)⟩ ?_
       refine wK [0] [62,65] ?_
       refine wt [(0,.box 80 (vi 3::vs s.Gate.Helo::vb s.Gate.From.Null::vs s.Gate.From.Local::vs s.Gate.From.Domain::.any::vb s.Gate.Quiet::.mkr 5 (map (int .u8) s.Gate.Buf)::vs s.Gate.Challenge::vb s.Gate.Proved::co.c s.config [vi s.site,vi s.at_,.fr (.own 55) false 12 (flatten (map cc.ienc s.out))])),(66,.fl (.own 26) 3 (flatten (map bu.enc v14)))] [[57,0],[67,0],[68,0]] ⟨mb _ _ _ _ _ _ NQ rfl rfl (zl rfl) rfl (pz bu.len _) (pz bu.len _) hv14 (Dm (oo hv14)) (Nat.ne_of_beq_eq_false rfl) rfl rfl⟩ ?_
       refine wK [62,66,0] [69] ?_
       refine wt [(0,.box 80 (vi 3::vs s.Gate.Helo::vb s.Gate.From.Null::vs s.Gate.From.Local::vs s.Gate.From.Domain::.fl (.own 26) 3 (flatten (map bu.enc v14))::vb s.Gate.Quiet::.mkr 5 (map (int .u8) s.Gate.Buf)::vs s.Gate.Challenge::vb s.Gate.Proved::co.c s.config [vi s.site,vi s.at_,.fr (.own 55) false 12 (flatten (map cc.ienc s.out))]))] [] ⟨cM.drop [_] (cO _ _ _ _ _ _ _ _ NM rfl rfl rfl (zl rfl) rfl rfl)⟩ ?_
       refine Af hn [0,81,3,0] ?_
       refine aM ?_
       refine ce h (fun (s17:Bool)=>[(0,.box 80 (vi 3::vs s.Gate.Helo::vb s.Gate.From.Null::vs s.Gate.From.Local::vs s.Gate.From.Domain::.fl (.own 26) 3 (flatten (map bu.enc v14))::vb s17::.mkr 5 (map (int .u8) s.Gate.Buf)::vs s.Gate.Challenge::vb s.Gate.Proved::co.c s.config [vi s.site,vi s.at_,.fr (.own 55) false 12 (flatten (map cc.ienc s.out))])),(81,.glob (GL mx)),(0,.v (List.getD args0 0 undef))]) ?_ ?_
       ·rintro s17 h
        refine bb ?_
        refine cF hn 1 [0,81,4,0] ?_
        refine bO ?_
        refine bG [2,0,3] (by kernel_rfl) (es':=[(_,_),(_,_),(_,_)]) rfl ?_
        obtain rfl:=zi h
        exact dS (es:=[(4, .v (.int .i64 250))]) (posts:=[.box 80 [.v (.int .i64 3),.v (.string s.Gate.Helo),.v (.bool s.Gate.From.Null),.v (.string s.Gate.From.Local),.v (.string s.Gate.From.Domain),.fl (.own 26) 3 (flatten (map bu.enc v14)),.v (.bool s17),.mkr 5 (map (int .u8) s.Gate.Buf),.v (.string s.Gate.Challenge),.v (.bool s.Gate.Proved),.v (.string ((s.config.Domains.getD 0 (⟨#[]⟩:ByteArray)))),.v (.string ((s.config.Domains.getD 1 (⟨#[]⟩:ByteArray)))),.v (.int .i64 s.config.Expiry),.v (.string s.config.User),.v (.string s.config.Secret),.v (.int .i64 s.config.Log),.v (.bool s.config.Held),.v (.int .i64 s.site),.v (.int .i64 s.at_),.fr (.own 55) false 12 (flatten (map cc.ienc s.out))]]) hio rfl rfl (.tmp _ _ .nil) rfl rfl hargs0 rfl
       ·intro u18 h hl19 hr20
        refine aM ?_
        obtain ⟨v15, hv15, h⟩:=zn h
        refine yx hn 1 ?_
        refine ys 0 ⟨lk call138 (tI _ _ _ hv15)⟩ ?_
        refine ym 4 ?_
        refine dv [0,81,5,0] ?_
        refine cF hn 2 [0,81,76,0] ?_
        refine bL _ rfl (fun hb21 => ?_) (fun hb21 => ?_)
        ·have h:=bT hb21 h
         refine yy hn 5 [0,81,0] ?_
         exact hl19 _ (zi h).symm
        ·have h:=bQ hb21 h
         refine bU ?_
         refine bG [0,1,3] (by kernel_rfl) (es':=[(_,_),(_,_),(_,_)]) rfl ?_
         exact hl19 _ (zi h).symm
     ·intro u10 h hl11 hr12
      obtain ⟨v7, hv7, h⟩:=zn h
      refine bJ h (fun hg5_10 h => ?_) (fun hg5_10 h => ?_)
      ·obtain ⟨v8, hv8, h⟩:=zn h
       refine wb [[3],[31,3],[],[33,0],[34,0],[35,0]] ?_
       refine wN [36,0] ?_
       refine wS (.ptr 0 10) [[37,0]] ⟨eE _ _ _ _ 2 0 10 0 1 underlying22 Am rfl rfl (by decide) (by decide)⟩ ?_
       refine wN [32,38,81] ?_
       refine wo [[39],[40]] ⟨lg call140 (tU _ _ _ _ hv7) 81⟩ ?_
       refine wd hg5_10 [[41,3],[41,42,3],[41],[41,44,0],[41,45,0],[41,46,0]] ?_
       refine wN [41,47,0] ?_
       refine wS (.ptr 0 11) [[41,48,0]] ⟨eE _ _ _ _ 2 0 10 1 1 underlying22 Am rfl rfl (by decide) (by decide)⟩ ?_
       refine wN [41,43,49,81] ?_
       refine wo [[41,50],[41,51],[52]] ⟨lg call140 (tU _ _ _ _ hv8) 81⟩ ?_
       refine we hn [0,81,3,30,0] ?_
       exact hl11 _ (zi h).symm
      ·refine wb [[3],[31,3],[],[33,0],[34,0],[35,0]] ?_
       refine wN [36,0] ?_
       refine wS (.ptr 0 10) [[37,0]] ⟨eE _ _ _ _ 2 0 10 0 1 underlying22 Am rfl rfl (by decide) (by decide)⟩ ?_
       refine wN [32,38,81] ?_
       refine wo [[39],[40]] ⟨lg call140 (tU _ _ _ _ hv7) 81⟩ ?_
       refine wd hg5_10 [[41],[41],[41],[41],[41],[41],[41],[41],[41],[41],[41],[52]] ?_
       refine we hn [0,81,3,30,0] ?_
       exact hl11 _ (zi h).symm
  ·intro u2 h hl3 hr4
   refine bJ h (fun hg1_6 h => ?_) (fun hg1_6 h => ?_)
   ·refine yx hn 7 ?_
    refine yd hg1_6 8 ?_
    refine ye [0,81,3,7,0] ?_
    exact hl3 _ (zi h).symm
   ·refine yx hn 7 ?_
    refine yd hg1_6 8 ?_
    refine ye [0,81,3,7,0] ?_
    exact hl3 _ (zi h).symm
theorem rI (s:aa) (r:(Int×aa)) (h:Sh.lA s=some r):un Tryz.prog 114 [.box 80 (aa.b s)] [.box 80 (aa.b r.2)] (.v (.int .i64 r.1)):=by
  unfold Sh.lA at h
  refine yP 13 func114 fun args0 hargs0 g0 hn hio => ?_
  refine cF hn 1 [0,0] ?_
  refine aM ?_
  refine cF hn 6 [0,8,0] ?_
  refine bL _ rfl (fun hb1 => ?_) (fun hb1 => ?_)
  ·have h:=bT hb1 h
   refine cF hn 1 [0,2,0] ?_
   refine bO ?_
   refine bG [1,0,2] (by kernel_rfl) (es':=[(_,_),(_,_),(_,_)]) rfl ?_
   refine bw ?_
   obtain rfl:=zi h
   exact dS (es:=[(2, .v (.int .i64 503))]) (posts:=[.box 80 (aa.b s)]) hio rfl rfl (.tmp _ _ .nil) rfl rfl hargs0 rfl
  ·have h:=bQ hb1 h
   refine bU ?_
   refine bb ?_
   refine cF hn 5 [0,0] ?_
   refine cF hn 1 [0,2,0] ?_
   refine bO ?_
   refine bG [1,0,2] (by kernel_rfl) (es':=[(_,_),(_,_),(_,_)]) rfl ?_
   obtain rfl:=zi h
   exact dS (es:=[(2, .v (.int .i64 354))]) (posts:=[.box 80 [.v (.int .i64 4),.v (.string s.Gate.Helo),.v (.bool s.Gate.From.Null),.v (.string s.Gate.From.Local),.v (.string s.Gate.From.Domain),.fl (.own 26) 3 (flatten (map bu.enc s.Gate.To)),.v (.bool s.Gate.Quiet),.mkr 5 (map (int .u8) s.Gate.Buf),.v (.string s.Gate.Challenge),.v (.bool s.Gate.Proved),.v (.string ((s.config.Domains.getD 0 (⟨#[]⟩:ByteArray)))),.v (.string ((s.config.Domains.getD 1 (⟨#[]⟩:ByteArray)))),.v (.int .i64 s.config.Expiry),.v (.string s.config.User),.v (.string s.config.Secret),.v (.int .i64 s.config.Log),.v (.bool s.config.Held),.v (.int .i64 s.site),.v (.int .i64 s.at_),.fr (.own 55) false 12 (flatten (map cc.ienc s.out))]]) hio rfl rfl (.tmp _ _ .nil) rfl rfl hargs0 rfl
theorem mj (s:aa) (domain:ByteArray) (r:(Bool×aa)) (h:Sh.iw s domain=some r):un Tryz.prog 141 [.box 80 (aa.b s), .v (.string domain)] [.box 80 (aa.b r.2)] (.v (.bool r.1)):=by
  unfold Sh.iw at h
  refine yP 18 func141 fun args0 hargs0 g0 hn hio => ?_
  refine cF hn 1 [0,1,0] ?_
  refine aM ?_
  obtain ⟨v1, hv1, h⟩:=zn h
  obtain ⟨v2, hv2, h⟩:=zn h
  obtain ⟨v3, hv3, h⟩:=zn h
  obtain ⟨v4, hv4, h⟩:=zn h
  refine wb [[1],[],[],[7,0],[8,0],[9,0]] ?_
  refine wN [10] ?_
  refine wo [[6,0],[12,0],[13,0]] ⟨lb hv1⟩ ?_
  refine wN [14,0,11] ?_
  refine wS (.ptr 0 (10+v2 * 1)) [] ⟨Bp _ _ _ _ 2 0 10 _ underlying22 Am rfl rfl (dR hv2).1 (dR hv2).2 (by decide)⟩ ?_
  refine wN [15,0] ?_
  refine wS (vs v3) [] ⟨wy _ _ _ 0 10 v2 2 ([(s.config.Domains.getD 0 z0),(s.config.Domains.getD 1 z0)]:List ByteArray) _ underlying9 rfl rfl rfl rfl hv3⟩ ?_
  refine wN [5,16] ?_
  refine wo [[17]] ⟨lk call56 (pS _ _ _ hv4)⟩ ?_
  refine Af hn [0,4,0] ?_
  refine bO ?_
  refine bG [1,0,2] (by kernel_rfl) (es':=[(_,_),(_,_),(_,_)]) rfl ?_
  obtain rfl:=zi h
  exact dS (es:=[(4, .v (.bool v4))]) (posts:=[.box 80 (aa.b s)]) hio rfl rfl (.tmp _ _ .nil) rfl rfl hargs0 rfl
theorem sw (s:aa) (c:dA) (r:(Int×aa)) (h:Sh.mZ s c=some r):un Tryz.prog 116 [.box 80 (aa.b s), .agg [.v (.int .i64 c.Kind), .v (.string c.Text), .v (.bool c.Path.Null), .v (.string c.Path.Local), .v (.string c.Path.Domain), .fl .shr 2 (flatten (map bX.enc c.Params))]] [.box 80 (aa.b r.2)] (.v (.int .i64 r.1)):=by
  unfold Sh.mZ at h
  refine yP 18 func116 fun args0 hargs0 g0 hn hio => ?_
  refine cF hn 2 [0,3,0] ?_
  refine aM ?_
  refine cA ?_
  refine cF hn 7 [0,3,5,0] ?_
  refine bL _ rfl (fun hb1 => ?_) (fun hb1 => ?_)
  ·have h:=bT hb1 h
   refine cF hn 1 [0,4,0] ?_
   refine bO ?_
   refine bG [1,0,2] (by kernel_rfl) (es':=[(_,_),(_,_),(_,_)]) rfl ?_
   refine cC ?_
   refine bw ?_
   obtain rfl:=zi h
   exact dS (es:=[(4, .v (.int .i64 503))]) (posts:=[.box 80 (aa.b s)]) hio rfl rfl (.tmp _ _ .nil) rfl rfl hargs0 rfl
  ·have h:=bQ hb1 h
   refine aM ?_
   obtain ⟨v2, hv2, h⟩:=zn h
   refine yx hn 3 ?_
   refine yQ call141 (mj _ _ _ hv2) 0 [13,15] 2 ?_
   refine dv [0,12,0] ?_
   refine bL _ rfl (fun hb3 => ?_) (fun hb3 => ?_)
   ·have h:=bT hb3 h
    refine cF hn 1 [0,4,0] ?_
    refine bO ?_
    refine bG [1,0,2] (by kernel_rfl) (es':=[(_,_),(_,_),(_,_)]) rfl ?_
    refine cC ?_
    refine bw ?_
    obtain rfl:=zi h
    exact dS (es:=[(4, .v (.int .i64 459))]) (posts:=[.box 80 (aa.b v2.2)]) hio rfl rfl (.tmp _ _ .nil) rfl rfl hargs0 rfl
   ·have h:=bQ hb3 h
    refine bU ?_
    refine cG ?_
    refine bb ?_
    refine cF hn 1 [0,4,0] ?_
    refine bO ?_
    refine bG [1,0,2] (by kernel_rfl) (es':=[(_,_),(_,_),(_,_)]) rfl ?_
    obtain rfl:=zi h
    exact dS (es:=[(4, .v (.int .i64 250))]) (posts:=[.box 80 (aa.b v2.2)]) hio rfl rfl (.tmp _ _ .nil) rfl rfl hargs0 rfl
theorem me (s:aa) (code:Int) (r:aa) (h:Sh.iC s code=some r):un Tryz.prog 115 [.box 80 (aa.b s), .v (.int .i64 code)] [.box 80 (aa.b r)] (.tup []):=by
  unfold Sh.iC at h
  refine yP 19 func115 fun args0 hargs0 g0 hn hio => ?_
  obtain ⟨v1, hv1, h⟩:=zn h
  obtain ⟨v2, hv2, h⟩:=zn h
  refine wb [[],[],[5,0],[6,0],[7,0],[0],[1]] ?_
  refine wN [9,0,10] ?_
  refine wS (.agg [vi v1.Code,.fl (.own 9) 1 (map Value.string v1.Lines)]) [[1],[12]] ⟨ES _ 11 0 85 [.int .i64 code] _ rfl call85 rfl rfl rfl rfl (fun u=>ki u ((aa.r s)) code _ hv1) rfl rfl rfl⟩ ?_
  refine wK [11] [13] ?_
  refine wt [(14,.agg [vi v1.Code,.fl (.own 9) 1 (map Value.string v1.Lines),vb false,vb false,vs z0,vs z0,vz,vz,vb false,vs z0,vi 0,vb (code==250)])] [] ⟨dQ _ _ _ _ [2,1,8,1] _ _ underlying55 Au (IB _ underlying55) (.take _ _ (.copy _ rE.nil)) rfl rfl rfl⟩ ?_
  refine wK [14] [] ?_
  refine wt [(15,.fr (.own 55) false 12 (flatten (map cc.ienc ([(cc.mk v1 false ((dw.mk ((bu.mk false z0 z0)) [] [] false z0 0)) (code==250))]))))] [] ⟨pO _ _ _ 12 (.agg #[.int .i64 0,.slice none 0 0,.bool false,.bool false,.string ByteArray.empty,.string ByteArray.empty,.slice none 0 0,.slice none 0 0,.bool false,.string ByteArray.empty,.int .i64 0,.bool false]) false _ _ underlying34 Ei Au rfl (.cons (.v _) (.cons (.ro _ _ rfl) (.cons (.v _) (.cons (.v _) (.cons (.v _) (.cons (.v _) (.cons (.nil 3) (.cons (.nil 1) (.cons (.v _) (.cons (.v _) (.cons (.v _) (.cons (.v _) (.nil))))))))))))) rfl (by decide) (by decide)⟩ ?_
  refine wK [0] [8,15] ?_
  refine wt [(0,.box 80 (vi s.Gate.Phase::vs s.Gate.Helo::vb s.Gate.From.Null::vs s.Gate.From.Local::vs s.Gate.From.Domain::.fl (.own 26) 3 (flatten (map bu.enc s.Gate.To))::vb s.Gate.Quiet::.mkr 5 (map (int .u8) s.Gate.Buf)::vs s.Gate.Challenge::vb s.Gate.Proved::co.c s.config [vi s.site,vi s.at_,.any])),(16,.fr (.own 55) false 12 (flatten (map cc.ienc v2)))] [[4,0],[17,0]] ⟨mv _ 16 0 19 _ _ Mi rfl rfl (zl rfl) rfl (jL cc.ilen _) (jL cc.ilen _) hv2 (tb (oo hv2)) (by decide) (by decide) (by decide) rfl rfl⟩ ?_
  refine wK [8,16,0] [18] ?_
  refine wt [(0,.box 80 (vi s.Gate.Phase::vs s.Gate.Helo::vb s.Gate.From.Null::vs s.Gate.From.Local::vs s.Gate.From.Domain::.fl (.own 26) 3 (flatten (map bu.enc s.Gate.To))::vb s.Gate.Quiet::.mkr 5 (map (int .u8) s.Gate.Buf)::vs s.Gate.Challenge::vb s.Gate.Proved::co.c s.config [vi s.site,vi s.at_,.fr (.own 55) false 12 (flatten (map cc.ienc v2))]))] [] ⟨cM.drop [_] (cO _ _ _ _ _ _ _ _ LU rfl rfl rfl (zl rfl) rfl rfl)⟩ ?_
  refine we hn [0,0] ?_
  obtain rfl:=zi h
  exact pQ (es:=[]) (posts:=[.box 80 [.v (.int .i64 s.Gate.Phase),.v (.string s.Gate.Helo),.v (.bool s.Gate.From.Null),.v (.string s.Gate.From.Local),.v (.string s.Gate.From.Domain),.fl (.own 26) 3 (flatten (map bu.enc s.Gate.To)),.v (.bool s.Gate.Quiet),.mkr 5 (map (int .u8) s.Gate.Buf),.v (.string s.Gate.Challenge),.v (.bool s.Gate.Proved),.v (.string ((s.config.Domains.getD 0 (⟨#[]⟩:ByteArray)))),.v (.string ((s.config.Domains.getD 1 (⟨#[]⟩:ByteArray)))),.v (.int .i64 s.config.Expiry),.v (.string s.config.User),.v (.string s.config.Secret),.v (.int .i64 s.config.Log),.v (.bool s.config.Held),.v (.int .i64 s.site),.v (.int .i64 s.at_),.fr (.own 55) false 12 (flatten (map cc.ienc v2))]]) hio rfl rfl .nil rfl rfl hargs0 rfl
theorem sH (s:aa) (r:(Int×aa)) (h:Sh.mC s=some r):un Tryz.prog 117 [.box 80 (aa.b s)] [.box 80 (aa.b r.2)] (.v (.int .i64 r.1)):=by
  unfold Sh.mC at h
  refine yP 20 func117 fun args0 hargs0 g0 hn hio => ?_
  refine cF hn 1 [0,0] ?_
  refine aM ?_
  refine aM ?_
  refine ce h (fun (s1:Bool)=>[(0,.box 80 (aa.b s)),(15,vb s1),(0,.v (List.getD args0 0 undef))]) ?_ ?_
  ·rintro s1 h
   refine bb ?_
   refine bL _ rfl (fun hb5 => ?_) (fun hb5 => ?_)
   ·have h:=bT hb5 h
    refine cF hn 1 [0,2,0] ?_
    refine bO ?_
    refine bG [1,0,2] (by kernel_rfl) (es':=[(_,_),(_,_),(_,_)]) rfl ?_
    refine bw ?_
    obtain rfl:=zi h
    exact dS (es:=[(2, .v (.int .i64 503))]) (posts:=[.box 80 (aa.b s)]) hio rfl rfl (.tmp _ _ .nil) rfl rfl hargs0 rfl
   ·have h:=bQ hb5 h
    refine bU ?_
    refine bb ?_
    refine cF hn 5 [0,0] ?_
    refine cF hn 1 [0,2,0] ?_
    refine bO ?_
    refine bG [1,0,2] (by kernel_rfl) (es':=[(_,_),(_,_),(_,_)]) rfl ?_
    obtain rfl:=zi h
    exact dS (es:=[(2, .v (.int .i64 334))]) (posts:=[.box 80 [.v (.int .i64 5),.v (.string s.Gate.Helo),.v (.bool s.Gate.From.Null),.v (.string s.Gate.From.Local),.v (.string s.Gate.From.Domain),.fl (.own 26) 3 (flatten (map bu.enc s.Gate.To)),.v (.bool s.Gate.Quiet),.mkr 5 (map (int .u8) s.Gate.Buf),.v (.string s.Gate.Challenge),.v (.bool s.Gate.Proved),.v (.string ((s.config.Domains.getD 0 (⟨#[]⟩:ByteArray)))),.v (.string ((s.config.Domains.getD 1 (⟨#[]⟩:ByteArray)))),.v (.int .i64 s.config.Expiry),.v (.string s.config.User),.v (.string s.config.Secret),.v (.int .i64 s.config.Log),.v (.bool s.config.Held),.v (.int .i64 s.site),.v (.int .i64 s.at_),.fr (.own 55) false 12 (flatten (map cc.ienc s.out))]]) hio rfl rfl (.tmp _ _ .nil) rfl rfl hargs0 rfl
  ·intro u2 h hl3 hr4
   refine bJ h (fun hg1_6 h => ?_) (fun hg1_6 h => ?_)
   ·refine yx hn 7 ?_
    refine yd hg1_6 6 ?_
    refine ye [0,15,0] ?_
    exact hl3 _ (zi h).symm
   ·refine yx hn 7 ?_
    refine yd hg1_6 6 ?_
    refine ye [0,15,0] ?_
    exact hl3 _ (zi h).symm
end Go.Proofs.YtjnnkhmhjcjhdaaGreatDoor
