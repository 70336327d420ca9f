import Derived.Test.YtglabbpbianmnaaGreatDoorOkc2
set_option linter.unusedVariables false
set_option linter.unusedSimpArgs false
set_option maxHeartbeats 1000000
namespace Go.Proofs.YtglabbpbianmnaaGreatDoor
open Go.Abs Go.Abs.Sh Tryz
open List (map flatten)
open Value (int)
theorem dP (c:Int) (r:Bool) (h:Sh.cP c=some r):co Tryz.prog 107 [.v (.int .u8 c)] (.v (.bool r)):=by
 unfold Sh.cP at h
 refine yO 17 func107 fun g0 hn hio => ?_
 refine bi hn 1 [0] ?_
 refine ag ?_
 refine aP h (fun (s1:Bool)=>[(2,vb s1)]) ?_ ?_
 ·rintro s1 h
  refine ai (aD ?_)
  obtain rfl:=zi h
  exact aF hio rfl (.tmp _ _ .nil) rfl rfl
 ·intro u2 h hl3 hr4
  refine au h (fun hg1_2 h => ?_) (fun hg1_2 h => ?_)
  ·refine au h (fun hg1_6 h => ?_) (fun hg1_6 h => ?_)
   ·refine yx hn 3 ?_
    refine yd hg1_2 4 ?_
    refine yd hg1_6 8 ?_
    refine ye [2] ?_
    exact hl3 _ (zi h).symm
   ·refine au h (fun hg1_9 h => ?_) (fun hg1_9 h => ?_)
    ·refine yx hn 3 ?_
     refine yd hg1_2 4 ?_
     refine yd hg1_6 3 ?_
     refine yd hg1_9 5 ?_
     refine ye [2] ?_
     exact hl3 _ (zi h).symm
    ·refine yx hn 3 ?_
     refine yd hg1_2 4 ?_
     refine yd hg1_6 3 ?_
     refine yd hg1_9 5 ?_
     refine ye [2] ?_
     exact hl3 _ (zi h).symm
  ·refine au h (fun hg1_9 h => ?_) (fun hg1_9 h => ?_)
   ·refine yx hn 3 ?_
    refine yd hg1_2 7 ?_
    refine yd hg1_9 5 ?_
    refine ye [2] ?_
    exact hl3 _ (zi h).symm
   ·refine yx hn 3 ?_
    refine yd hg1_2 7 ?_
    refine yd hg1_9 5 ?_
    refine ye [2] ?_
    exact hl3 _ (zi h).symm
theorem fg (c:Int) (r:Bool) (h:Sh.cz c=some r):co Tryz.prog 60 [.v (.int .u8 c)] (.v (.bool r)):=by
 unfold Sh.cz at h
 refine yO 9 func60 fun g0 hn hio => ?_
 refine bi hn 1 [0] ?_
 refine ag ?_
 refine aP h (fun (s1:Bool)=>[(2,vb s1)]) ?_ ?_
 ·rintro s1 h
  refine ai (aD ?_)
  obtain rfl:=zi h
  exact aF hio rfl (.tmp _ _ .nil) rfl rfl
 ·intro u2 h hl3 hr4
  refine au h (fun hg1_2 h => ?_) (fun hg1_2 h => ?_)
  ·refine yx hn 3 ?_
   refine yd hg1_2 4 ?_
   refine ye [2] ?_
   exact hl3 _ (zi h).symm
  ·refine yx hn 3 ?_
   refine yd hg1_2 4 ?_
   refine ye [2] ?_
   exact hl3 _ (zi h).symm
theorem jM (c:Int) (r:Bool) (h:Sh.dX c=some r):co Tryz.prog 106 [.v (.int .u8 c)] (.v (.bool r)):=by
 unfold Sh.dX at h
 refine yO 24 func106 fun g0 hn hio => ?_
 refine bi hn 1 [0] ?_
 refine ag (ag ?_)
 refine aP h (fun (s3:Bool)=>[(0,.v (.int .u8 c)),(10,vb s3)]) ?_ ?_
 ·rintro s3 h
  refine ai ?_
  refine aA _ rfl (fun hb7 => ?_) (fun hb7 => ?_)
  ·have h:=aH hb7 h
   refine bi hn 1 [2] ?_
   refine aD (am ?_)
   obtain rfl:=zi h
   exact aF hio rfl (.tmp _ _ .nil) rfl rfl
  ·have h:=aG hb7 h
   refine aB (ai ?_)
   refine bi hn 1 [0,3] ?_
   refine ag ?_
   refine bi hn 1 [0,3,4] ?_
   refine bj h (fun (s15:Int)=>[(0,.v (.int .u8 c)),(3,vs (⟨#[33,35,36,37,38,39,42,43,45,47,61,63,94,95,123,124,125,126]⟩:Li)),(4,vi s15)]) (fun (():Unit)=>[(0,.v (.int .u8 c))]) ?_ ?_
   ·rintro ⟨⟩ h
    refine ai ?_
    refine bi hn 3 [2] ?_
    refine aD ?_
    obtain rfl:=zi h
    exact aF hio rfl (.tmp _ _ .nil) rfl rfl
   ·rintro u18 hl19 hr20 s15 rr23 h ho21
    refine ag ?_
    refine bi hn 4 [0,3,4,14] ?_
    refine aA _ rfl (fun hb24 => ?_) (fun hb24 => ?_)
    ·have h:=aH hb24 h
     refine aB ?_
     refine ai (ag ?_)
     refine aS (ag ?_)
     obtain ⟨v9,hv9,h⟩:=zn h
     refine yx hn 2 ?_
     refine ys 2 ⟨lh hv9⟩ ?_
     refine bK [0,3,4,21] ?_
     refine aA _ rfl (fun hb25 => ?_) (fun hb25 => ?_)
     ·have h:=aH hb25 h
      refine bi hn 1 [2] ?_
      refine aD (aY (am (am (aY (am ?_)))))
      have h:=hr20 _ (ho21 _ (zi h).symm).symm
      obtain rfl:=zi h
      exact aF hio rfl (.tmp _ _ .nil) rfl rfl
     ·have h:=aG hb25 h
      refine aB (bA (ai ?_))
      obtain ⟨v11,hv11,h⟩:=zn h
      refine yx hn 1 ?_
      refine ys 0 ⟨lb hv11⟩ ?_
      refine yw [4] 1 ?_
      refine ye [0,3,4] ?_
      exact bF _ (zi h).symm rfl
    ·have h:=aG hb24 h
     refine bx (aE (aE (bu ?_)))
     refine aC [0] (by kernel_rfl) (es':=[(_,_)]) rfl ?_
     exact hl19 _ (ho21 _ (zi h).symm).symm
 ·intro u4 h hl5 hr6
  obtain ⟨v1,hv1,h⟩:=zn h
  refine au h (fun hg1_2 h => ?_) (fun hg1_2 h => ?_)
  ·refine yx hn 1 ?_
   refine ys 1 ⟨lk call107 (dP _ _ hv1)⟩ ?_
   refine yd hg1_2 3 ?_
   refine ye [0,10] ?_
   exact hl5 _ (zi h).symm
  ·obtain ⟨v2,hv2,h⟩:=zn h
   refine yx hn 1 ?_
   refine ys 1 ⟨lk call107 (dP _ _ hv1)⟩ ?_
   refine yd hg1_2 1 ?_
   refine ys 1 ⟨lk call60 (fg _ _ hv2)⟩ ?_
   refine ye [0,10] ?_
   exact hl5 _ (zi h).symm
theorem jv (s:Li) (r:Bool) (h:Sh.fj s=some r):co Tryz.prog 85 [.v (.string s)] (.v (.bool r)):=by
 unfold Sh.fj at h
 refine yO 51 func85 fun g0 hn hio => ?_
 refine bi hn 1 [0] ?_
 refine ag (ag ?_)
 refine aP h (fun (s5:Bool)=>[(0,vs s),(20,vb s5)]) ?_ ?_
 ·rintro s5 h
  refine ai ?_
  refine aA _ rfl (fun hb9 => ?_) (fun hb9 => ?_)
  ·have h:=aH hb9 h
   refine bi hn 1 [2] ?_
   refine aD (am ?_)
   obtain rfl:=zi h
   exact aF hio rfl (.tmp _ _ .nil) rfl rfl
  ·have h:=aG hb9 h
   refine aB ?_
   refine ai (ag ?_)
   refine bi hn 1 [0,3] ?_
   refine bj h (fun (s33:Int)=>[(0,vs s),(3,vi s33)]) (fun (():Unit)=>[]) ?_ ?_
   ·rintro ⟨⟩ h
    refine ai ?_
    refine bi hn 1 [2] ?_
    refine aD ?_
    obtain rfl:=zi h
    exact aF hio rfl (.tmp _ _ .nil) rfl rfl
   ·rintro u40 hl41 hr42 s33 rr45 h ho43
    refine ag ?_
    refine bi hn 4 [0,3,24] ?_
    refine aA _ rfl (fun hb46 => ?_) (fun hb46 => ?_)
    ·have h:=aH hb46 h
     refine aB ?_
     refine ai (ag ?_)
     refine aS (ag ?_)
     refine aP h (fun (s47:Bool)=>[(0,vs s),(3,vi s33),(50,vb s47)]) ?_ ?_
     ·rintro s47 h
      refine ai ?_
      refine aA _ rfl (fun hb51 => ?_) (fun hb51 => ?_)
      ·have h:=aH hb51 h
       refine bi hn 1 [2] ?_
       refine aD (aY (am (am (aY (am ?_)))))
       have h:=hr42 _ (ho43 _ (zi h).symm).symm
       obtain rfl:=zi h
       exact aF hio rfl (.tmp _ _ .nil) rfl rfl
      ·have h:=aG hb51 h
       refine aB (bA (ai ?_))
       obtain ⟨v25,hv25,h⟩:=zn h
       refine yx hn 1 ?_
       refine ys 0 ⟨lb hv25⟩ ?_
       refine yw [3] 1 ?_
       refine ye [0,3] ?_
       exact bF _ (zi h).symm rfl
     ·intro u48 h hl49 hr50
      obtain ⟨v11,hv11,h⟩:=zn h
      refine au h (fun hg6_4 h => ?_) (fun hg6_4 h => ?_)
      ·obtain ⟨v12,hv12,h⟩:=zn h
       obtain ⟨v13,hv13,h⟩:=zn h
       refine au h (fun hg6_11 h => ?_) (fun hg6_11 h => ?_)
       ·refine yx hn 2 ?_
        refine ys 2 ⟨lh hv11⟩ ?_
        refine yd hg6_4 2 ?_
        refine ys 0 ⟨lb hv12⟩ ?_
        refine ys 3 ⟨lh hv13⟩ ?_
        refine yd hg6_11 12 ?_
        refine ye [0,3,50] ?_
        exact hl49 _ (zi h).symm
       ·obtain ⟨v14,hv14,h⟩:=zn h
        refine au h (fun hg6_16 h => ?_) (fun hg6_16 h => ?_)
        ·obtain ⟨v15,hv15,h⟩:=zn h
         obtain ⟨v16,hv16,h⟩:=zn h
         refine yx hn 2 ?_
         refine ys 2 ⟨lh hv11⟩ ?_
         refine yd hg6_4 2 ?_
         refine ys 0 ⟨lb hv12⟩ ?_
         refine ys 3 ⟨lh hv13⟩ ?_
         refine yd hg6_11 2 ?_
         refine ys 2 ⟨lh hv14⟩ ?_
         refine yd hg6_16 2 ?_
         refine ys 0 ⟨lh hv15⟩ ?_
         refine ys 3 ⟨lk call106 (jM _ _ hv16)⟩ ?_
         refine ye [0,3,50] ?_
         exact hl49 _ (zi h).symm
        ·refine yx hn 2 ?_
         refine ys 2 ⟨lh hv11⟩ ?_
         refine yd hg6_4 2 ?_
         refine ys 0 ⟨lb hv12⟩ ?_
         refine ys 3 ⟨lh hv13⟩ ?_
         refine yd hg6_11 2 ?_
         refine ys 2 ⟨lh hv14⟩ ?_
         refine yd hg6_16 7 ?_
         refine ye [0,3,50] ?_
         exact hl49 _ (zi h).symm
      ·obtain ⟨v17,hv17,h⟩:=zn h
       refine au h (fun hg6_16 h => ?_) (fun hg6_16 h => ?_)
       ·obtain ⟨v18,hv18,h⟩:=zn h
        obtain ⟨v19,hv19,h⟩:=zn h
        refine yx hn 2 ?_
        refine ys 2 ⟨lh hv11⟩ ?_
        refine yd hg6_4 9 ?_
        refine ys 2 ⟨lh hv17⟩ ?_
        refine yd hg6_16 2 ?_
        refine ys 0 ⟨lh hv18⟩ ?_
        refine ys 3 ⟨lk call106 (jM _ _ hv19)⟩ ?_
        refine ye [0,3,50] ?_
        exact hl49 _ (zi h).symm
       ·refine yx hn 2 ?_
        refine ys 2 ⟨lh hv11⟩ ?_
        refine yd hg6_4 9 ?_
        refine ys 2 ⟨lh hv17⟩ ?_
        refine yd hg6_16 7 ?_
        refine ye [0,3,50] ?_
        exact hl49 _ (zi h).symm
    ·have h:=aG hb46 h
     refine bx (aE (aE (bu ?_)))
     refine aC [] (by kernel_rfl) (es':=[]) rfl ?_
     exact hl41 _ (ho43 _ (zi h).symm).symm
 ·intro u6 h hl7 hr8
  obtain ⟨v1,hv1,h⟩:=zn h
  refine au h (fun hg1_4 h => ?_) (fun hg1_4 h => ?_)
  ·refine yx hn 2 ?_
   refine ys 2 ⟨lk call43 (bm _ _ _ _ hv1)⟩ ?_
   refine yd hg1_4 12 ?_
   refine ye [0,20] ?_
   exact hl7 _ (zi h).symm
  ·obtain ⟨v2,hv2,h⟩:=zn h
   refine au h (fun hg1_9 h => ?_) (fun hg1_9 h => ?_)
   ·refine yx hn 2 ?_
    refine ys 2 ⟨lk call43 (bm _ _ _ _ hv1)⟩ ?_
    refine yd hg1_4 1 ?_
    refine ys 3 ⟨lh hv2⟩ ?_
    refine yd hg1_9 7 ?_
    refine ye [0,20] ?_
    exact hl7 _ (zi h).symm
   ·obtain ⟨v3,hv3,h⟩:=zn h
    obtain ⟨v4,hv4,h⟩:=zn h
    refine yx hn 2 ?_
    refine ys 2 ⟨lk call43 (bm _ _ _ _ hv1)⟩ ?_
    refine yd hg1_4 1 ?_
    refine ys 3 ⟨lh hv2⟩ ?_
    refine yd hg1_9 3 ?_
    refine ys 0 ⟨lb hv3⟩ ?_
    refine ys 2 ⟨lh hv4⟩ ?_
    refine ye [0,20] ?_
    exact hl7 _ (zi h).symm
theorem mb (s:Li) (r:Bool) (h:Sh.eR s=some r):co Tryz.prog 86 [.v (.string s)] (.v (.bool r)):=by
 unfold Sh.eR at h
 refine yO 63 func86 fun g0 hn hio => ?_
 refine bi hn 1 [0] ?_
 refine ag (ag ?_)
 obtain ⟨v1,hv1,h⟩:=zn h
 refine yx hn 2 ?_
 refine ys 1 ⟨lk call43 (bm _ _ _ _ hv1)⟩ ?_
 refine bK [0,8] ?_
 refine aA _ rfl (fun hb2 => ?_) (fun hb2 => ?_)
 ·have h:=aH hb2 h
  refine bi hn 1 [2] ?_
  refine aD (am ?_)
  obtain rfl:=zi h
  exact aF hio rfl (.tmp _ _ .nil) rfl rfl
 ·have h:=aG hb2 h
  refine aB (ai ?_)
  refine bi hn 1 [0,3] ?_
  refine ag ?_
  refine bi hn 1 [0,3,4] ?_
  refine bj h (fun ((s88,s89):Int×Int)=>[(0,vs s),(3,vi s88),(4,vi s89)]) (fun (():Unit)=>[]) ?_ ?_
  ·rintro ⟨⟩ h
   refine ai ?_
   refine bi hn 1 [2] ?_
   refine aD ?_
   obtain rfl:=zi h
   exact aF hio rfl (.tmp _ _ .nil) rfl rfl
  ·rintro u125 hl126 hr127 ⟨s88,s89⟩ rr130 h ho128
   refine ag ?_
   refine bi hn 4 [0,3,4,12] ?_
   refine aA _ rfl (fun hb131 => ?_) (fun hb131 => ?_)
   ·have h:=aH hb131 h
    refine aB ?_
    refine ai (ag ?_)
    refine aP h (fun (s147:Int)=>[(0,vs s),(3,vi s147),(4,vi s89)]) ?_ ?_
    ·rintro s147 h
     refine ai ?_
     obtain ⟨v50,hv50,h⟩:=zn h
     refine yx hn 1 ?_
     refine ys 0 ⟨lb hv50⟩ ?_
     refine yw [4] 1 ?_
     refine ye [0,3,4] ?_
     exact bF _ (zi h).symm rfl
    ·intro u148 h hl149 hr150
     refine aS (ag (ag ?_))
     refine aP h (fun (s151:Bool)=>[(0,vs s),(3,vi s88),(4,vi s89),(24,vb s151)]) ?_ ?_
     ·rintro s151 h
      refine ai ?_
      refine aA _ rfl (fun hb155 => ?_) (fun hb155 => ?_)
      ·have h:=aH hb155 h
       refine ag (ag ?_)
       refine aP h (fun (s156:Bool)=>[(0,vs s),(3,vi s88),(4,vi s89),(42,vb s156)]) ?_ ?_
       ·rintro s156 h
        refine ai ?_
        refine aA _ rfl (fun hb160 => ?_) (fun hb160 => ?_)
        ·have h:=aH hb160 h
         refine bi hn 1 [2] ?_
         refine aD (am (am (aY (am (am (aY (am ?_)))))))
         have h:=hr150 _ (zi h).symm
         have h:=hr127 _ (ho128 _ (zi h).symm).symm
         obtain rfl:=zi h
         exact aF hio rfl (.tmp _ _ .nil) rfl rfl
        ·have h:=aG hb160 h
         refine aB (ai (bx (aE (bu ?_))))
         refine aC [0,1,2] (by kernel_rfl) (es':=[(_,_),(_,_),(_,_)]) rfl ?_
         exact hl149 _ (zi h).symm
       ·intro u157 h hl158 hr159
        obtain ⟨v10,hv10,h⟩:=zn h
        obtain ⟨v11,hv11,h⟩:=zn h
        refine au h (fun hg8_5 h => ?_) (fun hg8_5 h => ?_)
        ·obtain ⟨v12,hv12,h⟩:=zn h
         obtain ⟨v13,hv13,h⟩:=zn h
         refine au h (fun hg8_12 h => ?_) (fun hg8_12 h => ?_)
         ·obtain ⟨v14,hv14,h⟩:=zn h
          refine yx hn 2 ?_
          refine ys 0 ⟨lh hv10⟩ ?_
          refine ys 2 ⟨lk call107 (dP _ _ hv11)⟩ ?_
          refine yd hg8_5 2 ?_
          refine ys 0 ⟨lh hv12⟩ ?_
          refine ys 3 ⟨lk call60 (fg _ _ hv13)⟩ ?_
          refine yd hg8_12 2 ?_
          refine ys 2 ⟨lh hv14⟩ ?_
          refine ye [0,3,4,42] ?_
          exact hl158 _ (zi h).symm
         ·refine yx hn 2 ?_
          refine ys 0 ⟨lh hv10⟩ ?_
          refine ys 2 ⟨lk call107 (dP _ _ hv11)⟩ ?_
          refine yd hg8_5 2 ?_
          refine ys 0 ⟨lh hv12⟩ ?_
          refine ys 3 ⟨lk call60 (fg _ _ hv13)⟩ ?_
          refine yd hg8_12 5 ?_
          refine ye [0,3,4,42] ?_
          exact hl158 _ (zi h).symm
        ·refine yx hn 2 ?_
         refine ys 0 ⟨lh hv10⟩ ?_
         refine ys 2 ⟨lk call107 (dP _ _ hv11)⟩ ?_
         refine yd hg8_5 12 ?_
         refine ye [0,3,4,42] ?_
         exact hl158 _ (zi h).symm
      ·have h:=aG hb155 h
       refine aB ?_
       refine ai (ag ?_)
       refine ag ?_
       refine aP h (fun (s161:Bool)=>[(0,vs s),(4,vi s89),(60,vb s161)]) ?_ ?_
       ·rintro s161 h
        refine ai ?_
        refine aA _ rfl (fun hb165 => ?_) (fun hb165 => ?_)
        ·have h:=aH hb165 h
         refine bi hn 1 [2] ?_
         refine aD (am (aY (am (am (aY (am ?_))))))
         have h:=hr150 _ (zi h).symm
         have h:=hr127 _ (ho128 _ (zi h).symm).symm
         obtain rfl:=zi h
         exact aF hio rfl (.tmp _ _ .nil) rfl rfl
        ·have h:=aG hb165 h
         refine aB (ai ?_)
         obtain ⟨v30,hv30,h⟩:=zn h
         refine yx hn 1 ?_
         refine ys 1 ⟨lb hv30⟩ ?_
         refine ye [0,4,3] ?_
         refine bA ?_
         refine aC [0,2,1] (by kernel_rfl) (es':=[(_,_),(_,_),(_,_)]) rfl ?_
         exact hl149 _ (zi h).symm
       ·intro u162 h hl163 hr164
        obtain ⟨v20,hv20,h⟩:=zn h
        obtain ⟨v21,hv21,h⟩:=zn h
        refine au h (fun hg10_5 h => ?_) (fun hg10_5 h => ?_)
        ·refine yx hn 2 ?_
         refine ys 0 ⟨lb hv20⟩ ?_
         refine ys 2 ⟨lk call43 (bm _ _ _ _ hv21)⟩ ?_
         refine yd hg10_5 12 ?_
         refine ye [0,4,60] ?_
         exact hl163 _ (zi h).symm
        ·obtain ⟨v22,hv22,h⟩:=zn h
         refine au h (fun hg10_11 h => ?_) (fun hg10_11 h => ?_)
         ·refine yx hn 2 ?_
          refine ys 0 ⟨lb hv20⟩ ?_
          refine ys 2 ⟨lk call43 (bm _ _ _ _ hv21)⟩ ?_
          refine yd hg10_5 2 ?_
          refine ys 3 ⟨lh hv22⟩ ?_
          refine yd hg10_11 6 ?_
          refine ye [0,4,60] ?_
          exact hl163 _ (zi h).symm
         ·obtain ⟨v23,hv23,h⟩:=zn h
          obtain ⟨v24,hv24,h⟩:=zn h
          refine yx hn 2 ?_
          refine ys 0 ⟨lb hv20⟩ ?_
          refine ys 2 ⟨lk call43 (bm _ _ _ _ hv21)⟩ ?_
          refine yd hg10_5 2 ?_
          refine ys 3 ⟨lh hv22⟩ ?_
          refine yd hg10_11 2 ?_
          refine ys 0 ⟨lb hv23⟩ ?_
          refine ys 2 ⟨lh hv24⟩ ?_
          refine ye [0,4,60] ?_
          exact hl163 _ (zi h).symm
     ·intro u152 h hl153 hr154
      refine au h (fun hg7_4 h => ?_) (fun hg7_4 h => ?_)
      ·obtain ⟨v4,hv4,h⟩:=zn h
       refine yx hn 5 ?_
       refine yd hg7_4 2 ?_
       refine ys 2 ⟨lh hv4⟩ ?_
       refine ye [0,3,4,24] ?_
       exact hl153 _ (zi h).symm
      ·refine yx hn 5 ?_
       refine yd hg7_4 5 ?_
       refine ye [0,3,4,24] ?_
       exact hl153 _ (zi h).symm
   ·have h:=aG hb131 h
    refine bx (aE (aE (bu ?_)))
    refine aC [] (by kernel_rfl) (es':=[]) rfl ?_
    exact hl126 _ (ho128 _ (zi h).symm).symm
theorem dc (p:aj) (r:Bool) (h:Sh.cV p=some r):co Tryz.prog 66 [.agg [.v (.bool p.Le),.v (.string p.Lc),.v (.string p.KZ)]] (.v (.bool r)):=by
 unfold Sh.cV at h
 refine yO 21 func66 fun g0 hn hio => ?_
 refine bi hn 2 [1] ?_
 refine ag ?_
 refine bi hn 2 [1,4] ?_
 refine aA _ rfl (fun hb1 => ?_) (fun hb1 => ?_)
 ·have h:=aH hb1 h
  refine ag ?_
  refine aP h (fun (s2:Bool)=>[(2,vb s2)]) ?_ ?_
  ·rintro s2 h
   refine ai (aD ?_)
   refine am ?_
   obtain rfl:=zi h
   exact aF hio rfl (.tmp _ _ .nil) rfl rfl
  ·intro u3 h hl4 hr5
   refine au h (fun hg2_3 h => ?_) (fun hg2_3 h => ?_)
   ·refine yx hn 4 ?_
    refine yd hg2_3 5 ?_
    refine ye [2] ?_
    exact hl4 _ (zi h).symm
   ·refine yx hn 4 ?_
    refine yd hg2_3 5 ?_
    refine ye [2] ?_
    exact hl4 _ (zi h).symm
 ·have h:=aG hb1 h
  refine aB ?_
  refine ai (ag ?_)
  refine aP h (fun (s8:Bool)=>[(2,vb s8)]) ?_ ?_
  ·rintro s8 h
   refine ai (aD ?_)
   obtain rfl:=zi h
   exact aF hio rfl (.tmp _ _ .nil) rfl rfl
  ·intro u9 h hl10 hr11
   obtain ⟨v6,hv6,h⟩:=zn h
   refine au h (fun hg3_3 h => ?_) (fun hg3_3 h => ?_)
   ·obtain ⟨v7,hv7,h⟩:=zn h
    refine yx hn 2 ?_
    refine ys 1 ⟨lk call85 (jv _ _ hv6)⟩ ?_
    refine yd hg3_3 2 ?_
    refine ys 2 ⟨lk call86 (mb _ _ hv7)⟩ ?_
    refine ye [2] ?_
    exact hl10 _ (zi h).symm
   ·refine yx hn 2 ?_
    refine ys 1 ⟨lk call85 (jv _ _ hv6)⟩ ?_
    refine yd hg3_3 5 ?_
    refine ye [2] ?_
    exact hl10 _ (zi h).symm
theorem gG (b:(List Int)) (r:Bool) (h:Sh.bL b=some r):co Tryz.prog 67 [.fl .shr 1 (map (int .u8) b)] (.v (.bool r)):=by
 unfold Sh.bL at h
 refine yO 61 func67 fun g0 hn hio => ?_
 refine bi hn 1 [0] ?_
 refine ag ?_
 refine bi hn 1 [0,3] ?_
 refine bj h (fun (s31:Int)=>[(0,fb b),(3,vi s31)]) (fun (():Unit)=>[(0,fb b)]) ?_ ?_
 ·rintro ⟨⟩ h
  refine ai (ag ?_)
  refine aP h (fun (s53:Bool)=>[(2,vb s53)]) ?_ ?_
  ·rintro s53 h
   refine ai (aD ?_)
   obtain rfl:=zi h
   exact aF hio rfl (.tmp _ _ .nil) rfl rfl
  ·intro u54 h hl55 hr56
   refine au h (fun hg6_3 h => ?_) (fun hg6_3 h => ?_)
   ·refine yx hn 4 ?_
    refine yd hg6_3 9 ?_
    refine ye [2] ?_
    exact hl55 _ (zi h).symm
   ·obtain ⟨v50,hv50,h⟩:=zn h
    obtain ⟨v51,hv51,h⟩:=zn h
    obtain ⟨v52,hv52,h⟩:=zn h
    refine yx hn 4 ?_
    refine yd hg6_3 3 ?_
    refine ys 0 ⟨lb hv50⟩ ?_
    refine ys 0 ⟨li hv51⟩ ?_
    refine ys 3 ⟨ll hv52⟩ ?_
    refine ye [2] ?_
    exact hl55 _ (zi h).symm
 ·rintro u38 hl39 hr40 s31 rr43 h ho41
  refine ag ?_
  refine bi hn 4 [0,3,7] ?_
  refine aA _ rfl (fun hb44 => ?_) (fun hb44 => ?_)
  ·have h:=aH hb44 h
   refine aB ?_
   refine ai (ag ?_)
   refine aS (ag ?_)
   refine aP h (fun (s45:Bool)=>[(0,fb b),(3,vi s31),(48,vb s45)]) ?_ ?_
   ·rintro s45 h
    refine ai ?_
    refine aA _ rfl (fun hb49 => ?_) (fun hb49 => ?_)
    ·have h:=aH hb49 h
     refine bi hn 1 [2] ?_
     refine aD (aY (am (am (aY (am ?_)))))
     have h:=hr40 _ (ho41 _ (zi h).symm).symm
     obtain rfl:=zi h
     exact aF hio rfl (.tmp _ _ .nil) rfl rfl
    ·have h:=aG hb49 h
     refine aB (bA (ai ?_))
     obtain ⟨v23,hv23,h⟩:=zn h
     refine yx hn 1 ?_
     refine ys 0 ⟨lb hv23⟩ ?_
     refine yw [3] 1 ?_
     refine ye [0,3] ?_
     exact bF _ (zi h).symm rfl
   ·intro u46 h hl47 hr48
    obtain ⟨v2,hv2,h⟩:=zn h
    obtain ⟨v3,hv3,h⟩:=zn h
    refine au h (fun hg4_5 h => ?_) (fun hg4_5 h => ?_)
    ·obtain ⟨v4,hv4,h⟩:=zn h
     refine au h (fun hg4_11 h => ?_) (fun hg4_11 h => ?_)
     ·refine yx hn 2 ?_
      refine ys 0 ⟨li hv2⟩ ?_
      refine ys 2 ⟨ll hv3⟩ ?_
      refine yd hg4_5 1 ?_
      refine ys 4 ⟨lb hv4⟩ ?_
      refine yd hg4_11 27 ?_
      refine ye [0,3,48] ?_
      exact hl47 _ (zi h).symm
     ·obtain ⟨v5,hv5,h⟩:=zn h
      obtain ⟨v6,hv6,h⟩:=zn h
      obtain ⟨v7,hv7,h⟩:=zn h
      refine au h (fun hg4_20 h => ?_) (fun hg4_20 h => ?_)
      ·refine yx hn 2 ?_
       refine ys 0 ⟨li hv2⟩ ?_
       refine ys 2 ⟨ll hv3⟩ ?_
       refine yd hg4_5 1 ?_
       refine ys 4 ⟨lb hv4⟩ ?_
       refine yd hg4_11 2 ?_
       refine ys 0 ⟨lb hv5⟩ ?_
       refine ys 0 ⟨li hv6⟩ ?_
       refine ys 4 ⟨ll hv7⟩ ?_
       refine yd hg4_20 18 ?_
       refine ye [0,3,48] ?_
       exact hl47 _ (zi h).symm
      ·obtain ⟨v8,hv8,h⟩:=zn h
       obtain ⟨v9,hv9,h⟩:=zn h
       refine au h (fun hg4_26 h => ?_) (fun hg4_26 h => ?_)
       ·refine au h (fun hg4_29 h => ?_) (fun hg4_29 h => ?_)
        ·refine yx hn 2 ?_
         refine ys 0 ⟨li hv2⟩ ?_
         refine ys 2 ⟨ll hv3⟩ ?_
         refine yd hg4_5 1 ?_
         refine ys 4 ⟨lb hv4⟩ ?_
         refine yd hg4_11 2 ?_
         refine ys 0 ⟨lb hv5⟩ ?_
         refine ys 0 ⟨li hv6⟩ ?_
         refine ys 4 ⟨ll hv7⟩ ?_
         refine yd hg4_20 2 ?_
         refine ys 0 ⟨li hv8⟩ ?_
         refine ys 2 ⟨ll hv9⟩ ?_
         refine yd hg4_26 3 ?_
         refine yd hg4_29 9 ?_
         refine ye [0,3,48] ?_
         exact hl47 _ (zi h).symm
        ·obtain ⟨v10,hv10,h⟩:=zn h
         obtain ⟨v11,hv11,h⟩:=zn h
         obtain ⟨v12,hv12,h⟩:=zn h
         refine yx hn 2 ?_
         refine ys 0 ⟨li hv2⟩ ?_
         refine ys 2 ⟨ll hv3⟩ ?_
         refine yd hg4_5 1 ?_
         refine ys 4 ⟨lb hv4⟩ ?_
         refine yd hg4_11 2 ?_
         refine ys 0 ⟨lb hv5⟩ ?_
         refine ys 0 ⟨li hv6⟩ ?_
         refine ys 4 ⟨ll hv7⟩ ?_
         refine yd hg4_20 2 ?_
         refine ys 0 ⟨li hv8⟩ ?_
         refine ys 2 ⟨ll hv9⟩ ?_
         refine yd hg4_26 3 ?_
         refine yd hg4_29 2 ?_
         refine ys 0 ⟨lb hv10⟩ ?_
         refine ys 0 ⟨li hv11⟩ ?_
         refine ys 4 ⟨ll hv12⟩ ?_
         refine ye [0,3,48] ?_
         exact hl47 _ (zi h).symm
       ·refine yx hn 2 ?_
        refine ys 0 ⟨li hv2⟩ ?_
        refine ys 2 ⟨ll hv3⟩ ?_
        refine yd hg4_5 1 ?_
        refine ys 4 ⟨lb hv4⟩ ?_
        refine yd hg4_11 2 ?_
        refine ys 0 ⟨lb hv5⟩ ?_
        refine ys 0 ⟨li hv6⟩ ?_
        refine ys 4 ⟨ll hv7⟩ ?_
        refine yd hg4_20 2 ?_
        refine ys 0 ⟨li hv8⟩ ?_
        refine ys 2 ⟨ll hv9⟩ ?_
        refine yd hg4_26 12 ?_
        refine ye [0,3,48] ?_
        exact hl47 _ (zi h).symm
    ·obtain ⟨v13,hv13,h⟩:=zn h
     obtain ⟨v14,hv14,h⟩:=zn h
     refine au h (fun hg4_26 h => ?_) (fun hg4_26 h => ?_)
     ·refine au h (fun hg4_29 h => ?_) (fun hg4_29 h => ?_)
      ·refine yx hn 2 ?_
       refine ys 0 ⟨li hv2⟩ ?_
       refine ys 2 ⟨ll hv3⟩ ?_
       refine yd hg4_5 17 ?_
       refine ys 0 ⟨li hv13⟩ ?_
       refine ys 2 ⟨ll hv14⟩ ?_
       refine yd hg4_26 3 ?_
       refine yd hg4_29 9 ?_
       refine ye [0,3,48] ?_
       exact hl47 _ (zi h).symm
      ·obtain ⟨v15,hv15,h⟩:=zn h
       obtain ⟨v16,hv16,h⟩:=zn h
       obtain ⟨v17,hv17,h⟩:=zn h
       refine yx hn 2 ?_
       refine ys 0 ⟨li hv2⟩ ?_
       refine ys 2 ⟨ll hv3⟩ ?_
       refine yd hg4_5 17 ?_
       refine ys 0 ⟨li hv13⟩ ?_
       refine ys 2 ⟨ll hv14⟩ ?_
       refine yd hg4_26 3 ?_
       refine yd hg4_29 2 ?_
       refine ys 0 ⟨lb hv15⟩ ?_
       refine ys 0 ⟨li hv16⟩ ?_
       refine ys 4 ⟨ll hv17⟩ ?_
       refine ye [0,3,48] ?_
       exact hl47 _ (zi h).symm
     ·refine yx hn 2 ?_
      refine ys 0 ⟨li hv2⟩ ?_
      refine ys 2 ⟨ll hv3⟩ ?_
      refine yd hg4_5 17 ?_
      refine ys 0 ⟨li hv13⟩ ?_
      refine ys 2 ⟨ll hv14⟩ ?_
      refine yd hg4_26 12 ?_
      refine ye [0,3,48] ?_
      exact hl47 _ (zi h).symm
  ·have h:=aG hb44 h
   refine bx (aE (aE (bu ?_)))
   refine aC [0] (by kernel_rfl) (es':=[(_,_)]) rfl ?_
   exact hl39 _ (ho41 _ (zi h).symm).symm
theorem fA (m:ae) (r:Bool) (h:Sh.cW m=some r):co Tryz.prog 44 [.agg [.v (.bool m.La.Le),.v (.string m.La.Lc),.v (.string m.La.KZ),.fl .shr 3 (flatten (map aj.enc m.To)),.fl .shr 1 (map (int .u8) m.KY),.v (.bool m.Lh),.v (.string m.Lb),.v (.int .i64 m.At)]] (.v (.bool r)):=by
 unfold Sh.cW at h
 refine yO 49 func44 fun g0 hn hio => ?_
 refine bi hn 2 [1] ?_
 refine ag (ag ?_)
 refine aP h (fun (s4:Bool)=>[(1,.box 46 (ae.c m [])),(26,vb s4)]) ?_ ?_
 ·rintro s4 h
  refine ai ?_
  refine aA _ rfl (fun hb8 => ?_) (fun hb8 => ?_)
  ·have h:=aH hb8 h
   refine bi hn 1 [2] ?_
   refine aD (am ?_)
   obtain rfl:=zi h
   exact aF hio rfl (.tmp _ _ .nil) rfl rfl
  ·have h:=aG hb8 h
   refine aB ?_
   refine ai (ag ?_)
   refine bi hn 1 [1,3] ?_
   refine bj h (fun (s28:Int)=>[(1,.box 46 (ae.c m [])),(3,vi s28)]) (fun (():Unit)=>[]) ?_ ?_
   ·rintro ⟨⟩ h
    refine ai ?_
    refine bi hn 1 [2] ?_
    refine aD ?_
    obtain rfl:=zi h
    exact aF hio rfl (.tmp _ _ .nil) rfl rfl
   ·rintro u35 hl36 hr37 s28 rr40 h ho38
    refine ag ?_
    refine bi hn 5 [1,3,31] ?_
    refine aA _ rfl (fun hb41 => ?_) (fun hb41 => ?_)
    ·have h:=aH hb41 h
     refine aB ?_
     refine ai (ag ?_)
     refine aS (ag ?_)
     refine aP h (fun (s42:Bool)=>[(1,.box 46 (ae.c m [])),(3,vi s28),(48,vb s42)]) ?_ ?_
     ·rintro s42 h
      refine ai ?_
      refine aA _ rfl (fun hb46 => ?_) (fun hb46 => ?_)
      ·have h:=aH hb46 h
       refine bi hn 1 [2] ?_
       refine aD (aY (am (am (aY (am ?_)))))
       have h:=hr37 _ (ho38 _ (zi h).symm).symm
       obtain rfl:=zi h
       exact aF hio rfl (.tmp _ _ .nil) rfl rfl
      ·have h:=aG hb46 h
       refine aB (bA (ai ?_))
       obtain ⟨v20,hv20,h⟩:=zn h
       refine yx hn 1 ?_
       refine ys 0 ⟨lb hv20⟩ ?_
       refine yw [3] 1 ?_
       refine ye [1,3] ?_
       exact bF _ (zi h).symm rfl
     ·intro u43 h hl44 hr45
      obtain ⟨v10,hv10,h⟩:=zn h
      obtain ⟨v11,hv11,h⟩:=zn h
      obtain ⟨v12,hv12,h⟩:=zn h
      refine au h (fun hg6_7 h => ?_) (fun hg6_7 h => ?_)
      ·refine yx hn 3 ?_
       refine ys 0 ⟨lj hv10⟩ ?_
       refine yS (.agg [vb v11.Le,vs v11.Lc,vs v11.KZ]) 0 ⟨gU _ _ _ _ _ _ _ underlying43 rfl iJ rfl rfl (jE aj.len hv11) rfl (by decide)⟩ ?_
       refine ys 2 ⟨lk call66 (dc _ _ hv12)⟩ ?_
       refine yd hg6_7 7 ?_
       refine ye [1,3,48] ?_
       exact hl44 _ (zi h).symm
      ·obtain ⟨v13,hv13,h⟩:=zn h
       obtain ⟨v14,hv14,h⟩:=zn h
       refine yx hn 3 ?_
       refine ys 0 ⟨lj hv10⟩ ?_
       refine yS (.agg [vb v11.Le,vs v11.Lc,vs v11.KZ]) 0 ⟨gU _ _ _ _ _ _ _ underlying43 rfl iJ rfl rfl (jE aj.len hv11) rfl (by decide)⟩ ?_
       refine ys 2 ⟨lk call66 (dc _ _ hv12)⟩ ?_
       refine yd hg6_7 3 ?_
       refine ys 1 ⟨lj hv13⟩ ?_
       refine ys 1 ⟨lL hv14⟩ ?_
       refine ye [1,3,48] ?_
       exact hl44 _ (zi h).symm
    ·have h:=aG hb41 h
     refine bx (aE (aE (bu ?_)))
     refine aC [] (by kernel_rfl) (es':=[]) rfl ?_
     exact hl36 _ (ho38 _ (zi h).symm).symm
 ·intro u5 h hl6 hr7
  obtain ⟨v1,hv1,h⟩:=zn h
  refine au h (fun hg1_4 h => ?_) (fun hg1_4 h => ?_)
  ·refine yx hn 2 ?_
   refine ys 2 ⟨lk call66 (dc _ _ hv1)⟩ ?_
   refine yd hg1_4 18 ?_
   refine ye [1,26] ?_
   exact hl6 _ (zi h).symm
  ·obtain ⟨v2,hv2,h⟩:=zn h
   refine au h (fun hg1_11 h => ?_) (fun hg1_11 h => ?_)
   ·refine yx hn 2 ?_
    refine ys 2 ⟨lk call66 (dc _ _ hv1)⟩ ?_
    refine yd hg1_4 3 ?_
    refine ys 3 ⟨lk call43 (bm _ _ _ _ hv2)⟩ ?_
    refine yd hg1_11 11 ?_
    refine ye [1,26] ?_
    exact hl6 _ (zi h).symm
   ·obtain ⟨v3,hv3,h⟩:=zn h
    refine au h (fun hg1_17 h => ?_) (fun hg1_17 h => ?_)
    ·refine yx hn 2 ?_
     refine ys 2 ⟨lk call66 (dc _ _ hv1)⟩ ?_
     refine yd hg1_4 3 ?_
     refine ys 3 ⟨lk call43 (bm _ _ _ _ hv2)⟩ ?_
     refine yd hg1_11 2 ?_
     refine ys 3 ⟨lk call67 (gG _ _ hv3)⟩ ?_
     refine yd hg1_17 5 ?_
     refine ye [1,26] ?_
     exact hl6 _ (zi h).symm
    ·refine yx hn 2 ?_
     refine ys 2 ⟨lk call66 (dc _ _ hv1)⟩ ?_
     refine yd hg1_4 3 ?_
     refine ys 3 ⟨lk call43 (bm _ _ _ _ hv2)⟩ ?_
     refine yd hg1_11 2 ?_
     refine ys 3 ⟨lk call67 (gG _ _ hv3)⟩ ?_
     refine yd hg1_17 5 ?_
     refine ye [1,26] ?_
     exact hl6 _ (zi h).symm
theorem bV (b:az) (r:Bool) (h:Sh.cp b=some r):co Tryz.prog 20 [.agg [.v (.int .i64 b.Lg),.v (.int .i64 b.Lf),.fr .shr true 8 (flatten (map ae.ienc b.Ld))]] (.v (.bool r)):=by
 unfold Sh.cp at h
 refine yO 51 func20 fun g0 hn hio => ?_
 refine bi hn 2 [1] ?_
 refine ag (ag ?_)
 refine aP h (fun (s4:Bool)=>[(1,.box 24 [vi b.Lg,vi b.Lf,.fr .shr true 8 (flatten (map ae.ienc b.Ld))]),(21,vb s4)]) ?_ ?_
 ·rintro s4 h
  refine ai ?_
  refine aA _ rfl (fun hb8 => ?_) (fun hb8 => ?_)
  ·have h:=aH hb8 h
   refine bi hn 1 [2] ?_
   refine aD (am ?_)
   obtain rfl:=zi h
   exact aF hio rfl (.tmp _ _ .nil) rfl rfl
  ·have h:=aG hb8 h
   refine aB ?_
   refine ai (ag ?_)
   refine bi hn 1 [1,3] ?_
   refine bj h (fun (s26:Int)=>[(1,.box 24 [vi b.Lg,vi b.Lf,.fr .shr true 8 (flatten (map ae.ienc b.Ld))]),(3,vi s26)]) (fun (():Unit)=>[]) ?_ ?_
   ·rintro ⟨⟩ h
    refine ai ?_
    refine bi hn 1 [2] ?_
    refine aD ?_
    obtain rfl:=zi h
    exact aF hio rfl (.tmp _ _ .nil) rfl rfl
   ·rintro u33 hl34 hr35 s26 rr38 h ho36
    refine ag ?_
    refine bi hn 5 [1,3,26] ?_
    refine aA _ rfl (fun hb39 => ?_) (fun hb39 => ?_)
    ·have h:=aH hb39 h
     refine aB ?_
     refine ai (ag ?_)
     refine aS (ag ?_)
     obtain ⟨v10,hv10,h⟩:=zn h
     obtain ⟨v11,hv11,h⟩:=zn h
     refine yx hn 3 ?_
     refine ys 0 ⟨lI hv10⟩ ?_
     refine yS (.agg (ae.c v11 [])) 0 ⟨eg _ _ _ _ _ _ _ _ underlying46 rfl eD rfl rfl (fc ae.ilen hv11) (.cons (.v _) (.cons (.v _) (.cons (.v _) (.cons (.fl _ _ rfl) (.cons (.fl _ _ rfl) (.cons (.v _) (.cons (.v _) (.cons (.v _) (.nil))))))))) rfl (by decide)⟩ ?_
     refine yS (.box 46 [vb false,vs z0,vs z0,vz,vz,vb false,vs z0,vi 0]) 1 ⟨oA (bz _ _ kh)⟩ ?_
     refine bK [1,3,4] ?_
     refine ag ?_
     refine aP h (fun (s40:Bool)=>[(1,.box 24 [vi b.Lg,vi b.Lf,.fr .shr true 8 (flatten (map ae.ienc b.Ld))]),(3,vi s26),(50,vb s40)]) ?_ ?_
     ·rintro s40 h
      refine ai ?_
      refine aA _ rfl (fun hb44 => ?_) (fun hb44 => ?_)
      ·have h:=aH hb44 h
       refine bi hn 1 [2] ?_
       refine aD (aY (am (am (aY (am ?_)))))
       have h:=hr35 _ (ho36 _ (zi h).symm).symm
       obtain rfl:=zi h
       exact aF hio rfl (.tmp _ _ .nil) rfl rfl
      ·have h:=aG hb44 h
       refine aB (bA (ai ?_))
       obtain ⟨v18,hv18,h⟩:=zn h
       refine yx hn 1 ?_
       refine ys 0 ⟨lb hv18⟩ ?_
       refine yw [3] 1 ?_
       refine ye [1,3] ?_
       exact bF _ (zi h).symm rfl
     ·intro u41 h hl42 hr43
      obtain ⟨v12,hv12,h⟩:=zn h
      refine au h (fun hg7_3 h => ?_) (fun hg7_3 h => ?_)
      ·refine yx hn 1 ?_
       refine ys 2 ⟨lk call44 (fA _ _ hv12)⟩ ?_
       refine yd hg7_3 13 ?_
       refine ye [1,3,50] ?_
       exact hl42 _ (zi h).symm
      ·refine au h (fun hg7_7 h => ?_) (fun hg7_7 h => ?_)
       ·refine yx hn 1 ?_
        refine ys 2 ⟨lk call44 (fA _ _ hv12)⟩ ?_
        refine yd hg7_3 4 ?_
        refine yd hg7_7 9 ?_
        refine ye [1,3,50] ?_
        exact hl42 _ (zi h).symm
       ·refine au h (fun hg7_12 h => ?_) (fun hg7_12 h => ?_)
        ·refine yx hn 1 ?_
         refine ys 2 ⟨lk call44 (fA _ _ hv12)⟩ ?_
         refine yd hg7_3 4 ?_
         refine yd hg7_7 5 ?_
         refine yd hg7_12 4 ?_
         refine ye [1,3,50] ?_
         exact hl42 _ (zi h).symm
        ·refine yx hn 1 ?_
         refine ys 2 ⟨lk call44 (fA _ _ hv12)⟩ ?_
         refine yd hg7_3 4 ?_
         refine yd hg7_7 5 ?_
         refine yd hg7_12 4 ?_
         refine ye [1,3,50] ?_
         exact hl42 _ (zi h).symm
    ·have h:=aG hb39 h
     refine bx (aE (aE (bu ?_)))
     refine aC [] (by kernel_rfl) (es':=[]) rfl ?_
     exact hl34 _ (ho36 _ (zi h).symm).symm
 ·intro u5 h hl6 hr7
  obtain ⟨v1,hv1,h⟩:=zn h
  refine au h (fun hg1_4 h => ?_) (fun hg1_4 h => ?_)
  ·refine yx hn 2 ?_
   refine ys 2 ⟨lk call43 (bm _ _ _ _ hv1)⟩ ?_
   refine yd hg1_4 12 ?_
   refine ye [1,21] ?_
   exact hl6 _ (zi h).symm
  ·obtain ⟨v2,hv2,h⟩:=zn h
   refine au h (fun hg1_10 h => ?_) (fun hg1_10 h => ?_)
   ·refine yx hn 2 ?_
    refine ys 2 ⟨lk call43 (bm _ _ _ _ hv1)⟩ ?_
    refine yd hg1_4 2 ?_
    refine ys 3 ⟨lk call43 (bm _ _ _ _ hv2)⟩ ?_
    refine yd hg1_10 6 ?_
    refine ye [1,21] ?_
    exact hl6 _ (zi h).symm
   ·obtain ⟨v3,hv3,h⟩:=zn h
    refine yx hn 2 ?_
    refine ys 2 ⟨lk call43 (bm _ _ _ _ hv1)⟩ ?_
    refine yd hg1_4 2 ?_
    refine ys 3 ⟨lk call43 (bm _ _ _ _ hv2)⟩ ?_
    refine yd hg1_10 3 ?_
    refine ys 2 ⟨lk call43 (bm _ _ _ _ hv3)⟩ ?_
    refine ye [1,21] ?_
    exact hl6 _ (zi h).symm
theorem jN (p:aj) (r:Li) (h:Sh.cJ p=some r):co Tryz.prog 54 [.agg [.v (.bool p.Le),.v (.string p.Lc),.v (.string p.KZ)]] (.v (.string r)):=by
 unfold Sh.cJ at h
 refine yO 13 func54 fun g0 hn hio => ?_
 refine bi hn 2 [1] ?_
 refine ag ?_
 refine bi hn 2 [1,4] ?_
 refine aA _ rfl (fun hb1 => ?_) (fun hb1 => ?_)
 ·have h:=aH hb1 h
  refine bi hn 1 [2] ?_
  refine aD (am ?_)
  obtain rfl:=zi h
  exact aF hio rfl (.tmp _ _ .nil) rfl rfl
 ·have h:=aG hb1 h
  refine aB ?_
  refine ai (ag ?_)
  obtain ⟨v2,hv2,h⟩:=zn h
  obtain ⟨v3,hv3,h⟩:=zn h
  obtain ⟨v4,hv4,h⟩:=zn h
  obtain ⟨v5,hv5,h⟩:=zn h
  refine yx hn 2 ?_
  refine ys 0 ⟨lB (dD hv2)⟩ ?_
  refine ys 2 ⟨lB (dD hv3)⟩ ?_
  refine ys 0 ⟨lB (dD hv4)⟩ ?_
  refine ys 1 ⟨lB (dD hv5)⟩ ?_
  refine bK [2] ?_
  refine aD ?_
  obtain rfl:=zi h
  exact aF hio rfl (.tmp _ _ .nil) rfl rfl
theorem mz (b:(List Int)) (r:(List Int)) (h:Sh.et b=some r):co Tryz.prog 55 [.fl .shr 1 (map (int .u8) b)] (.fl (.own 5) 1 (map (int .u8) r)):=by
 unfold Sh.et at h
 refine yO 41 func55 fun g0 hn hio => ?_
 refine bi hn 1 [0] ?_
 refine bi hn 1 [0,3] ?_
 refine ag ?_
 refine bi hn 1 [0,3,4] ?_
 refine gV (fs:=[(0,fb b),(3,.fl (.own 5) 1 (map (int .u8) [])),(4,vi 0)]) (.same _ (.sub _ (cg 5 1) rfl (.same _ .nil))) ?_
 refine bj h (fun ((s43,s44):(List Int)×Int)=>[(0,fb b),(3,.fl (.own 5) 1 (map (int .u8) s43)),(4,vi s44)]) (fun (s60:(List Int))=>[(3,.fl (.own 5) 1 (map (int .u8) s60))]) ?_ ?_
 ·rintro s60 h
  refine ai (ag ?_)
  obtain ⟨v82,hv82,h⟩:=zn h
  refine yx hn 0 ?_
  refine ym 0 ?_
  refine yS (.fl (.own 5) 1 (map (int .u8) [46,13,10])) 0 ⟨ce _ _ 1 (.int .u8 0) (map (int .u8) [46,13,10]) [(0,.int .u8 46),(1,.int .u8 13),(2,.int .u8 10)] underlying25 nV tq (fun _ V w o a hv hes=>by simp only [List.map_toArray,List.map_cons,List.map_nil]; try rfl) (fy (by simp [Instr.fill,Value.cells]; rfl) (by simp [List.range,List.range.loop] <;> rfl)) (by simp [Value.oneCell']) rfl (by decide) (by decide) (by decide)⟩ ?_
  refine yp kE hv82 0 ?_
  refine ya 0 ?_
  refine bK [2] ?_
  refine aD ?_
  obtain rfl:=zi h
  exact aF hio rfl (.tmp _ _ .nil) rfl rfl
 ·rintro u61 hl62 hr63 ⟨s43,s44⟩ rr66 h ho64
  refine ag ?_
  refine bi hn 4 [0,3,4,8] ?_
  refine aA _ rfl (fun hb67 => ?_) (fun hb67 => ?_)
  ·have h:=aH hb67 h
   refine aB ?_
   refine ai (ag ?_)
   refine aS (ag ?_)
   refine aP h (fun (s73:(List Int))=>[(0,fb b),(4,vi s44),(3,.fl (.own 5) 1 (map (int .u8) s73))]) ?_ ?_
   ·rintro s73 h
    refine ai ?_
    obtain ⟨v22,hv22,h⟩:=zn h
    obtain ⟨v23,hv23,h⟩:=zn h
    obtain ⟨v24,hv24,h⟩:=zn h
    refine yx hn 0 ?_
    refine ym 2 ?_
    refine ys 0 ⟨li hv22⟩ ?_
    refine ys 0 ⟨ll hv23⟩ ?_
    refine yS (.fl (.own 5) 1 (map (int .u8) [v23])) 0 ⟨ce _ _ 1 (.int .u8 0) (map (int .u8) [v23]) [(0,.int .u8 v23)] underlying25 nV tq (fun _ V w o a hv hes=>by have e0:=dN hv hes (x := .tmp 35) rfl; simp only [List.map_toArray,List.map_cons,List.map_nil,e0]; try rfl) (fy (by simp [Instr.fill,Value.cells]; rfl) (by simp [List.range,List.range.loop] <;> rfl)) (by simp [Value.oneCell']) rfl (by decide) (by decide) (by decide)⟩ ?_
    refine yp kE hv24 0 ?_
    refine ya 0 ?_
    refine ye [0,4,3] ?_
    refine bA (ai ?_)
    obtain ⟨v25,hv25,h⟩:=zn h
    refine yx hn 1 ?_
    refine ys 0 ⟨lb hv25⟩ ?_
    refine yw [4] 1 ?_
    refine ye [0,3,4] ?_
    exact bF _ (zi h).symm rfl
   ·intro u74 h hl75 hr76
    refine ag ?_
    refine aP h (fun (s77:Bool)=>[(0,fb b),(3,.fl (.own 5) 1 (map (int .u8) s43)),(4,vi s44),(27,vb s77)]) ?_ ?_
    ·rintro s77 h
     refine ai ?_
     refine aA _ rfl (fun hb81 => ?_) (fun hb81 => ?_)
     ·have h:=aH hb81 h
      obtain ⟨v12,hv12,h⟩:=zn h
      refine yx hn 0 ?_
      refine ym 0 ?_
      refine yS (.fl (.own 5) 1 (map (int .u8) [46])) 0 ⟨ce _ _ 1 (.int .u8 0) (map (int .u8) [46]) [(0,.int .u8 46)] underlying25 nV tq (fun _ V w o a hv hes=>by simp only [List.map_toArray,List.map_cons,List.map_nil]; try rfl) (fy (by simp [Instr.fill,Value.cells]; rfl) (by simp [List.range,List.range.loop] <;> rfl)) (by simp [Value.oneCell']) rfl (by decide) (by decide) (by decide)⟩ ?_
      refine yp kE hv12 0 ?_
      refine ya 0 ?_
      refine ye [0,4,3] ?_
      exact hl75 _ (zi h).symm
     ·have h:=aG hb81 h
      refine aB ?_
      refine aC [0,2,1] (by kernel_rfl) (es':=[(_,_),(_,_),(_,_)]) rfl ?_
      exact hl75 _ (zi h).symm
    ·intro u78 h hl79 hr80
     obtain ⟨v2,hv2,h⟩:=zn h
     obtain ⟨v3,hv3,h⟩:=zn h
     refine au h (fun hg5_5 h => ?_) (fun hg5_5 h => ?_)
     ·refine au h (fun hg5_8 h => ?_) (fun hg5_8 h => ?_)
      ·refine yx hn 2 ?_
       refine ys 0 ⟨li hv2⟩ ?_
       refine ys 2 ⟨ll hv3⟩ ?_
       refine yd hg5_5 3 ?_
       refine yd hg5_8 8 ?_
       refine ye [0,3,4,27] ?_
       exact hl79 _ (zi h).symm
      ·obtain ⟨v4,hv4,h⟩:=zn h
       obtain ⟨v5,hv5,h⟩:=zn h
       obtain ⟨v6,hv6,h⟩:=zn h
       refine yx hn 2 ?_
       refine ys 0 ⟨li hv2⟩ ?_
       refine ys 2 ⟨ll hv3⟩ ?_
       refine yd hg5_5 3 ?_
       refine yd hg5_8 2 ?_
       refine ys 0 ⟨lb hv4⟩ ?_
       refine ys 0 ⟨li hv5⟩ ?_
       refine ys 3 ⟨ll hv6⟩ ?_
       refine ye [0,3,4,27] ?_
       exact hl79 _ (zi h).symm
     ·refine yx hn 2 ?_
      refine ys 0 ⟨li hv2⟩ ?_
      refine ys 2 ⟨ll hv3⟩ ?_
      refine yd hg5_5 11 ?_
      refine ye [0,3,4,27] ?_
      exact hl79 _ (zi h).symm
  ·have h:=aG hb67 h
   refine bx (aE (aE (bu ?_)))
   refine aC [1] (by kernel_rfl) (es':=[(_,_)]) rfl ?_
   exact hl62 _ (ho64 _ (zi h).symm).symm
theorem lE (b:az) (r:(List Int)) (h:Sh.ed b=some r):co Tryz.prog 33 [.agg [.v (.int .i64 b.Lg),.v (.int .i64 b.Lf),.fr .shr true 8 (flatten (map ae.ienc b.Ld))]] (.fl (.own 5) 1 (map (int .u8) r)):=by
 unfold Sh.ed at h
 refine yO 51 func33 fun g0 hn hio => ?_
 refine bi hn 2 [1] ?_
 refine bi hn 1 [1,3] ?_
 refine ag ?_
 refine bi hn 1 [1,3,4] ?_
 refine gV (fs:=[(1,.box 24 [vi b.Lg,vi b.Lf,.fr .shr true 8 (flatten (map ae.ienc b.Ld))]),(3,.fl (.own 5) 1 (map (int .u8) [])),(4,vi 0)]) (.same _ (.sub _ (cg 5 1) rfl (.same _ .nil))) ?_
 refine bj h (fun ((s52,s53):(List Int)×Int)=>[(1,.box 24 [vi b.Lg,vi b.Lf,.fr .shr true 8 (flatten (map ae.ienc b.Ld))]),(3,.fl (.own 5) 1 (map (int .u8) s52)),(4,vi s53)]) (fun (s70:(List Int))=>[(3,.fl (.own 5) 1 (map (int .u8) s70))]) ?_ ?_
 ·rintro s70 h
  refine ai (ag ?_)
  obtain ⟨v93,hv93,h⟩:=zn h
  refine yx hn 0 ?_
  refine ym 0 ?_
  refine yk [49] [] ?_
  refine qk (49,.any) (50,.fl (.own 5) 1 (map (int .u8) v93)) 0 ⟨rp _ _ _ _ _ kE tq underlying9 rfl rfl rfl hv93 rfl⟩ ?_
  refine ya 0 ?_
  refine bK [2] ?_
  refine aD ?_
  obtain rfl:=zi h
  exact aF hio rfl (.tmp _ _ .nil) rfl rfl
 ·rintro u71 hl72 hr73 ⟨s52,s53⟩ rr76 h ho74
  refine ag ?_
  refine bi hn 5 [1,3,4,11] ?_
  refine aA _ rfl (fun hb77 => ?_) (fun hb77 => ?_)
  ·have h:=aH hb77 h
   refine aB ?_
   refine ai (ag ?_)
   refine aS (ag ?_)
   obtain ⟨v2,hv2,h⟩:=zn h
   obtain ⟨v3,hv3,h⟩:=zn h
   refine yx hn 3 ?_
   refine ys 0 ⟨lI hv2⟩ ?_
   refine yS (.agg (ae.c v3 [])) 0 ⟨eg _ _ _ _ _ _ _ _ underlying46 rfl eD rfl rfl (fc ae.ilen hv3) (.cons (.v _) (.cons (.v _) (.cons (.v _) (.cons (.fl _ _ rfl) (.cons (.fl _ _ rfl) (.cons (.v _) (.cons (.v _) (.cons (.v _) (.nil))))))))) rfl (by decide)⟩ ?_
   refine yS (.box 46 [vb false,vs z0,vs z0,vz,vz,vb false,vs z0,vi 0]) 1 ⟨oA (bz _ _ kh)⟩ ?_
   refine bK [1,3,4,5] ?_
   refine ag ?_
   obtain ⟨v4,hv4,h⟩:=zn h
   obtain ⟨v5,hv5,h⟩:=zn h
   obtain ⟨v6,hv6,h⟩:=zn h
   obtain ⟨v7,hv7,h⟩:=zn h
   refine yx hn 0 ?_
   refine ym 2 ?_
   refine ys 0 ⟨lk call54 (jN _ _ hv4)⟩ ?_
   refine ys 0 ⟨lB (dD hv5)⟩ ?_
   refine ys 0 ⟨lB (dD hv6)⟩ ?_
   refine yk [19] [24] ?_
   refine qk (19,.any) (25,.fl (.own 5) 1 (map (int .u8) v7)) 0 ⟨rp _ _ _ _ _ kE tq underlying9 rfl rfl rfl hv7 rfl⟩ ?_
   refine ya 0 ?_
   refine bK [1,4,5,3] ?_
   refine ag ?_
   refine bi hn 1 [1,4,5,3,6] ?_
   refine bj h (fun ((s82,s83):(List Int)×Int)=>[(1,.box 24 [vi b.Lg,vi b.Lf,.fr .shr true 8 (flatten (map ae.ienc b.Ld))]),(4,vi s53),(5,.box 46 (ae.c v3 [])),(3,.fl (.own 5) 1 (map (int .u8) s82)),(6,vi s83)]) (fun (s85:(List Int))=>[(1,.box 24 [vi b.Lg,vi b.Lf,.fr .shr true 8 (flatten (map ae.ienc b.Ld))]),(4,vi s53),(5,.box 46 (ae.c v3 [])),(3,.fl (.own 5) 1 (map (int .u8) s85))]) ?_ ?_
   ·rintro s85 h
    refine ai ?_
    obtain ⟨v30,hv30,h⟩:=zn h
    obtain ⟨v31,hv31,h⟩:=zn h
    obtain ⟨v32,hv32,h⟩:=zn h
    refine wb [] ?_
    refine wK [3] [] ?_
    refine wt [(43,.fl (.own 5) 1 (map (int .u8) s85))] [] ⟨eK _ _ _ _ rfl⟩ ?_
    refine wK [43] [] ?_
    refine wt [(43,.any),(44,.fl (.own 5) 1 (map (int .u8) v30))] [[5],[45,5]] ⟨rp _ _ _ _ _ kE tq underlying9 rfl rfl rfl hv30 rfl⟩ ?_
    refine wN [46] ?_
    refine wo [] ⟨lk call55 (mz _ _ hv31)⟩ ?_
    refine wK [44] [47] ?_
    refine wt [(44,.any),(48,.fl (.own 5) 1 (map (int .u8) v32))] [] ⟨De _ _ _ _ _ kE rfl rfl (gR _) (gR _) hv32 ((List.map_append).symm.trans (congrArg (map _) (jh hv32)))⟩ ?_
    refine wK [48] [] ?_
    refine wt [(3,.fl (.own 5) 1 (map (int .u8) v32))] [] ⟨gw _ _ _ _ rfl⟩ ?_
    refine we hn [1,4,3] ?_
    refine bA (ai ?_)
    obtain ⟨v33,hv33,h⟩:=zn h
    refine yx hn 1 ?_
    refine ys 0 ⟨lb hv33⟩ ?_
    refine yw [4] 1 ?_
    refine ye [1,3,4] ?_
    exact bF _ (zi h).symm rfl
   ·rintro u86 hl87 hr88 ⟨s82,s83⟩ rr91 h ho89
    refine ag ?_
    refine bi hn 5 [1,4,5,3,6,30] ?_
    refine aA _ rfl (fun hb92 => ?_) (fun hb92 => ?_)
    ·have h:=aH hb92 h
     refine aB ?_
     refine ai (ag ?_)
     refine aS ?_
     obtain ⟨v9,hv9,h⟩:=zn h
     obtain ⟨v10,hv10,h⟩:=zn h
     obtain ⟨v11,hv11,h⟩:=zn h
     obtain ⟨v12,hv12,h⟩:=zn h
     obtain ⟨v13,hv13,h⟩:=zn h
     obtain ⟨v14,hv14,h⟩:=zn h
     refine yx hn 0 ?_
     refine ym 3 ?_
     refine ys 0 ⟨lj hv9⟩ ?_
     refine yS (.agg [vb v10.Le,vs v10.Lc,vs v10.KZ]) 0 ⟨gU _ _ _ _ _ _ _ underlying43 rfl iJ rfl rfl (jE aj.len hv10) rfl (by decide)⟩ ?_
     refine ys 0 ⟨lk call54 (jN _ _ hv11)⟩ ?_
     refine ys 0 ⟨lB (dD hv12)⟩ ?_
     refine ys 0 ⟨lB (dD hv13)⟩ ?_
     refine yk [33] [41] ?_
     refine qk (33,.any) (42,.fl (.own 5) 1 (map (int .u8) v14)) 0 ⟨rp _ _ _ _ _ kE tq underlying9 rfl rfl rfl hv14 rfl⟩ ?_
     refine ya 0 ?_
     refine ye [1,4,5,6,3] ?_
     refine bA (ai ?_)
     obtain ⟨v15,hv15,h⟩:=zn h
     refine yx hn 1 ?_
     refine ys 0 ⟨lb hv15⟩ ?_
     refine yw [6] 1 ?_
     refine ye [1,4,5,3,6] ?_
     exact bF _ (zi h).symm rfl
    ·have h:=aG hb92 h
     refine bx (aE (aE (bu ?_)))
     refine aC [0,1,2,3] (by kernel_rfl) (es':=[(_,_),(_,_),(_,_),(_,_)]) rfl ?_
     exact hl87 _ (ho89 _ (zi h).symm).symm
  ·have h:=aG hb77 h
   refine bx (aE (aE (bu ?_)))
   refine aC [1] (by kernel_rfl) (es':=[(_,_)]) rfl ?_
   exact hl72 _ (ho74 _ (zi h).symm).symm
theorem dQ (n:Int) (r:Li) (h:Sh.aJ n=some r):co Tryz.prog 27 [.v (.int .i64 n)] (.v (.string r)):=by
 unfold Sh.aJ at h
 refine yO 22 func27 fun g0 hn hio => ?_
 refine bi hn 1 [0] ?_
 refine bi hn 1 [0,3] ?_
 refine ag ?_
 refine bj h (fun ((s11,s12):Int×Li)=>[(0,vi s11),(3,vs s12)]) (fun ((s14,s15):Int×Li)=>[(0,vi s14),(3,vs s15)]) ?_ ?_
 ·rintro ⟨s14,s15⟩ h
  refine ai (ag ?_)
  obtain ⟨v23,hv23,h⟩:=zn h
  obtain ⟨v24,hv24,h⟩:=zn h
  obtain ⟨v25,hv25,h⟩:=zn h
  refine yx hn 2 ?_
  refine ys 0 ⟨lb hv23⟩ ?_
  refine yS (vs v24) 1 ⟨cL _ _ _ s14 v23 _ underlying9 rfl ⟨_,rfl⟩ ⟨_,rfl⟩ hv24⟩ ?_
  refine ys 1 ⟨lB (dD hv25)⟩ ?_
  refine bK [2] ?_
  refine aD ?_
  obtain rfl:=zi h
  exact aF hio rfl (.tmp _ _ .nil) rfl rfl
 ·rintro u16 hl17 hr18 ⟨s11,s12⟩ rr21 h ho19
  refine ag ?_
  refine bi hn 2 [0,3,5] ?_
  refine aA _ rfl (fun hb22 => ?_) (fun hb22 => ?_)
  ·have h:=aH hb22 h
   refine aB (ai (aS (ag ?_)))
   obtain ⟨v2,hv2,h⟩:=zn h
   obtain ⟨v3,hv3,h⟩:=zn h
   obtain ⟨v4,hv4,h⟩:=zn h
   obtain ⟨v5,hv5,h⟩:=zn h
   obtain ⟨v6,hv6,h⟩:=zn h
   refine yx hn 1 ?_
   refine ys 1 ⟨lB (uu hv2)⟩ ?_
   refine ys 0 ⟨lB (uu hv3)⟩ ?_
   refine ys 0 ⟨lb hv4⟩ ?_
   refine yS (vs v5) 1 ⟨cL _ _ _ v2 v4 _ underlying9 rfl ⟨_,rfl⟩ ⟨_,rfl⟩ hv5⟩ ?_
   refine ys 0 ⟨lB (dD hv6)⟩ ?_
   refine yw [3] 1 ?_
   refine bK [0,3] ?_
   obtain ⟨v7,hv7,h⟩:=zn h
   refine yx hn 1 ?_
   refine ys 0 ⟨lB (FN hv7)⟩ ?_
   refine yw [0] 1 ?_
   refine ye [3,0] ?_
   refine bA ?_
   refine aC [1,0] (by kernel_rfl) (es':=[(_,_),(_,_)]) rfl ?_
   exact bF _ (zi h).symm rfl
  ·have h:=aG hb22 h
   refine bx (aE (aE (bu ?_)))
   refine aC [0,1] (by kernel_rfl) (es':=[(_,_),(_,_)]) rfl ?_
   exact hl17 _ (ho19 _ (zi h).symm).symm
theorem mn (b:(List Int)) (width:Int) (divisor:Int) (r:Int) (h:Sh.ga b width divisor=some r):co Tryz.prog 48 [.fl .shr 1 (map (int .u8) b),.v (.int .i64 width),.v (.int .i64 divisor)] (.v (.int .i64 r)):=by
 unfold Sh.ga at h
 refine yO 49 func48 fun g0 hn hio => ?_
 refine bi hn 1 [0,1,2] ?_
 refine ag ?_
 obtain ⟨v1,hv1,h⟩:=zn h
 obtain ⟨v2,hv2,h⟩:=zn h
 obtain ⟨v3,hv3,h⟩:=zn h
 refine yx hn 1 ?_
 refine ys 0 ⟨lv hv1⟩ ?_
 refine ys 0 ⟨lB (uv hv2)⟩ ?_
 refine ys 1 ⟨lb hv3⟩ ?_
 refine bK [0,1,2,7] ?_
 refine ag ?_
 refine bi hn 1 [0,1,2,7,8] ?_
 refine bj h (fun ((s97,s98):Int×Int)=>[(0,fb b),(1,vi width),(2,vi divisor),(7,vi s97),(8,vi s98)]) (fun (s139:Int)=>[(1,vi width),(7,vi s139)]) ?_ ?_
 ·rintro s139 h
  refine ai (ag ?_)
  obtain ⟨v186,hv186,h⟩:=zn h
  obtain ⟨v187,hv187,h⟩:=zn h
  obtain ⟨v188,hv188,h⟩:=zn h
  obtain ⟨v189,hv189,h⟩:=zn h
  refine yx hn 2 ?_
  refine ys 0 ⟨lv hv186⟩ ?_
  refine ys 0 ⟨lB (uv hv187)⟩ ?_
  refine ys 0 ⟨lb hv188⟩ ?_
  refine ys 1 ⟨lb hv189⟩ ?_
  refine bK [6] ?_
  refine aD ?_
  obtain rfl:=zi h
  exact aF hio rfl (.tmp _ _ .nil) rfl rfl
 ·rintro u140 hl141 hr142 ⟨s97,s98⟩ rr145 h ho143
  refine ag ?_
  refine bi hn 4 [0,1,2,7,8,18] ?_
  refine aA _ rfl (fun hb146 => ?_) (fun hb146 => ?_)
  ·have h:=aH hb146 h
   refine aB ?_
   refine ai (ag ?_)
   refine aS ?_
   refine bi hn 1 [0,1,2,7,8,9] ?_
   refine bj h (fun ((s163,s164):Int×Int)=>[(0,fb b),(1,vi width),(2,vi divisor),(7,vi s163),(8,vi s98),(9,vi s164)]) (fun (s172:Int)=>[(0,fb b),(1,vi width),(2,vi divisor),(7,vi s172),(8,vi s98)]) ?_ ?_
   ·rintro s172 h
    refine bA (ai ?_)
    obtain ⟨v54,hv54,h⟩:=zn h
    refine yx hn 1 ?_
    refine ys 0 ⟨lb hv54⟩ ?_
    refine yw [8] 1 ?_
    refine ye [0,1,2,7,8] ?_
    exact bF _ (zi h).symm rfl
   ·rintro u173 hl174 hr175 ⟨s163,s164⟩ rr178 h ho176
    refine ag ?_
    refine bi hn 2 [0,1,2,7,8,9,22] ?_
    refine aA _ rfl (fun hb179 => ?_) (fun hb179 => ?_)
    ·have h:=aH hb179 h
     refine aB ?_
     refine ai (ag ?_)
     refine aP h (fun (s181:Int)=>[(0,fb b),(1,vi width),(2,vi divisor),(8,vi s98),(9,vi s164),(7,vi s181)]) ?_ ?_
     ·rintro s181 h
      refine ai ?_
      obtain ⟨v21,hv21,h⟩:=zn h
      refine yx hn 1 ?_
      refine ys 0 ⟨lb hv21⟩ ?_
      refine yw [9] 1 ?_
      refine ye [0,1,2,8,7,9] ?_
      refine aC [0,1,2,4,3,5] (by kernel_rfl) (es':=[(_,_),(_,_),(_,_),(_,_),(_,_),(_,_)]) rfl ?_
      exact bF _ (zi h).symm rfl
     ·intro u182 h hl183 hr184
      refine aS (ag ?_)
      obtain ⟨v6,hv6,h⟩:=zn h
      refine yx hn 1 ?_
      refine ys 1 ⟨lb hv6⟩ ?_
      refine bK [0,1,2,7,8,9,10] ?_
      refine ag ?_
      obtain ⟨v7,hv7,h⟩:=zn h
      refine yx hn 1 ?_
      refine ys 0 ⟨lB (qf hv7)⟩ ?_
      refine yw [7] 1 ?_
      refine bK [0,1,2,8,9,10,7] ?_
      refine ag ?_
      obtain ⟨v8,hv8,h⟩:=zn h
      obtain ⟨v9,hv9,h⟩:=zn h
      obtain ⟨v10,hv10,h⟩:=zn h
      obtain ⟨v11,hv11,h⟩:=zn h
      obtain ⟨v12,hv12,h⟩:=zn h
      obtain ⟨v13,hv13,h⟩:=zn h
      refine yx hn 3 ?_
      refine ys 0 ⟨li hv8⟩ ?_
      refine ys 1 ⟨ll hv9⟩ ?_
      refine ys 0 ⟨lv hv10⟩ ?_
      refine ys 0 ⟨lB (qf hv11)⟩ ?_
      refine ys 0 ⟨lv hv12⟩ ?_
      refine ys 1 ⟨lb hv13⟩ ?_
      refine bK [0,1,2,8,9,7,39] ?_
      refine aA _ rfl (fun hb185 => ?_) (fun hb185 => ?_)
      ·have h:=aH hb185 h
       obtain ⟨v15,hv15,h⟩:=zn h
       refine yx hn 2 ?_
       refine ys 0 ⟨lb hv15⟩ ?_
       refine yw [7] 1 ?_
       refine ye [0,1,2,8,9,7] ?_
       refine bA ?_
       exact hl183 _ (zi h).symm
      ·have h:=aG hb185 h
       refine aB (bA ?_)
       refine aC [0,1,2,3,4,5] (by kernel_rfl) (es':=[(_,_),(_,_),(_,_),(_,_),(_,_),(_,_)]) rfl ?_
       exact hl183 _ (zi h).symm
    ·have h:=aG hb179 h
     refine bx (aE (aE (bu ?_)))
     refine aC [0,1,2,3,4] (by kernel_rfl) (es':=[(_,_),(_,_),(_,_),(_,_),(_,_)]) rfl ?_
     exact hl174 _ (ho176 _ (zi h).symm).symm
  ·have h:=aG hb146 h
   refine bx (aE (aE (bu ?_)))
   refine aC [1,3] (by kernel_rfl) (es':=[(_,_),(_,_)]) rfl ?_
   exact hl141 _ (ho143 _ (zi h).symm).symm
end Go.Proofs.YtglabbpbianmnaaGreatDoor
