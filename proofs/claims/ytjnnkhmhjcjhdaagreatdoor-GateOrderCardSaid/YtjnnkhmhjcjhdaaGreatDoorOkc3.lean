/-
 The model's runs are what is told in Lean.
-/
import Derived.Test.YtjnnkhmhjcjhdaaGreatDoorOkc2
set_option linter.unusedVariables false
set_option linter.unusedSimpArgs false
set_option maxHeartbeats 1000000
namespace Go.Proofs.YtjnnkhmhjcjhdaaGreatDoor
open Go.Abs Go.Abs.Sh Tryz
open List (map flatten)
open Value (int)
theorem bZ (mx:Int×Nat×Value) (p:ae) (r:Int) (h:Sh.ff p=some r):fk Tryz.prog (GL mx) 162 [.agg [.v (.bool p.EM),.v (.string p.EI),.v (.string p.Ex)]] (.v (.int .i64 r)):=by
 unfold Sh.ff at h
 refine yG 27 func162 fun g0 hn hio => ?_
 refine aI hn 2 [27,1] ?_
 refine eC hn 1 ?_
 refine yS (.agg [vb true,vs z0,vs z0]) 0 ⟨bn _ _ _ _ [1,1,1] _ _ underlying26 pM (xb _ underlying26) (.copy _ km.nil) rfl rfl rfl⟩ ?_
 refine yS (vb ((p.EM==true)&&((p.EI.toList==z0.toList)&&((p.Ex.toList==z0.toList)&&true)))) 1 ⟨xo _ _ [.bool p.EM,.string p.EI,.string p.Ex] [.bool true,.string z0,.string z0] (((p.EM==true)&&((p.EI.toList==z0.toList)&&((p.Ex.toList==z0.toList)&&true)))) _ false (by kernel_rfl) (by kernel_rfl) (by kernel_rfl) (by kernel_rfl) (by kernel_rfl) rfl rfl rfl rfl (by kernel_rfl) rfl⟩ ?_
 refine aT [27,1,3] ?_
 refine ab ?_
 refine aD h (fun (s3:Bool)=>[(27,.glob (GL mx)),(3,vb ((p.EM==true)&&((p.EI.toList==z0.toList)&&((p.Ex.toList==z0.toList)&&true)))),(4,vb s3)]) ?_ ?_
 ·rintro s3 h
  refine ag (ab ?_)
  refine ab ?_
  refine aD h (fun (s7:Bool)=>[(27,.glob (GL mx)),(26,vb s7)]) ?_ ?_
  ·rintro s7 h
   refine ag ?_
   refine al _ rfl (fun hb11 => ?_) (fun hb11 => ?_)
   ·have h:=ap hb11 h
    refine aI hn 1 [27,2] ?_
    refine am ?_
    refine ah [1] (by kernel_rfl) (es':=[(_,_)]) rfl ?_
    refine ai ?_
    obtain rfl:=zi h
    exact ao hio rfl (.tmp _ _ .nil) rfl rfl
   ·have h:=aq hb11 h
    refine ar (ag ?_)
    refine aI hn 1 [27,2] ?_
    refine am ?_
    refine ah [1] (by kernel_rfl) (es':=[(_,_)]) rfl ?_
    obtain rfl:=zi h
    exact ao hio rfl (.tmp _ _ .nil) rfl rfl
  ·intro u8 h hl9 hr10
   refine ak h (fun hg3_2 h => ?_) (fun hg3_2 h => ?_)
   ·refine yx hn 3 ?_
    refine yd hg3_2 3 ?_
    refine ye [27,26] ?_
    exact hl9 _ (zi h).symm
   ·refine yx hn 3 ?_
    refine yd hg3_2 3 ?_
    refine ye [27,26] ?_
    exact hl9 _ (zi h).symm
 ·intro u4 h hl5 hr6
  refine ak h (fun hg2_3 h => ?_) (fun hg2_3 h => ?_)
  ·obtain ⟨v1,hv1,h⟩:=zn h
   refine ak h (fun hg2_8 h => ?_) (fun hg2_8 h => ?_)
   ·obtain ⟨v2,hv2,h⟩:=zn h
    refine yx hn 4 ?_
    refine yd hg2_3 2 ?_
    refine ys 2 ⟨lg call194 (mc _ _ _ hv1) 27⟩ ?_
    refine yd hg2_8 2 ?_
    refine ys 2 ⟨lg call55 (bG _ _ _ hv2) 27⟩ ?_
    refine ye [27,3,4] ?_
    exact hl5 _ (zi h).symm
   ·refine yx hn 4 ?_
    refine yd hg2_3 2 ?_
    refine ys 2 ⟨lg call194 (mc _ _ _ hv1) 27⟩ ?_
    refine yd hg2_8 5 ?_
    refine ye [27,3,4] ?_
    exact hl5 _ (zi h).symm
  ·refine yx hn 4 ?_
   refine yd hg2_3 10 ?_
   refine ye [27,3,4] ?_
   exact hl5 _ (zi h).symm
theorem fJ (mx:Int×Nat×Value) (m:aU) (r:Bool) (h:Sh.iK m=some r):fk Tryz.prog (GL mx) 201 [.agg [.v (.bool m.EA.EM),.v (.string m.EA.EI),.v (.string m.EA.Ex),.fl .shr 3 (flatten (map ae.enc m.To)),.fl .shr 1 (map (int .u8) m.Et),.v (.bool m.EU),.v (.string m.EE),.v (.int .i64 m.At)]] (.v (.bool r)):=by
 unfold Sh.iK at h
 refine yG 36 func201 fun g0 hn hio => ?_
 refine aI hn 2 [36,1] ?_
 refine ab (ab ?_)
 refine aD h (fun (s2:Bool)=>[(36,.glob (GL mx)),(1,.box 53 (aU.c m [])),(20,vb s2)]) ?_ ?_
 ·rintro s2 h
  refine ag ?_
  refine al _ rfl (fun hb6 => ?_) (fun hb6 => ?_)
  ·have h:=ap hb6 h
   refine aI hn 1 [36,2] ?_
   refine am ?_
   refine ah [1] (by kernel_rfl) (es':=[(_,_)]) rfl ?_
   refine ai ?_
   obtain rfl:=zi h
   exact ao hio rfl (.tmp _ _ .nil) rfl rfl
  ·have h:=aq hb6 h
   refine ar ?_
   refine ag (ab ?_)
   refine aI hn 4 [36,22,23,24] ?_
   refine aX h (fun (s24:Int)=>[(36,.glob (GL mx)),(22,.fl .shr 3 (flatten (map ae.enc m.To))),(23,vi (m.To.length:Int)),(24,vi s24)]) (fun (():Unit)=>[(36,.glob (GL mx))]) ?_ ?_
   ·rintro ⟨⟩ h
    refine ag ?_
    refine aI hn 1 [36,2] ?_
    refine am ?_
    refine ah [1] (by kernel_rfl) (es':=[(_,_)]) rfl ?_
    obtain rfl:=zi h
    exact ao hio rfl (.tmp _ _ .nil) rfl rfl
   ·rintro u31 hl32 hr33 s24 rr36 h ho34
    refine aI hn 1 [36,22,23,24,25] ?_
    refine ab ?_
    refine al _ rfl (fun hb37 => ?_) (fun hb37 => ?_)
    ·have h:=ap hb37 h
     refine ar ?_
     refine ag (ab ?_)
     refine aH (ab ?_)
     obtain ⟨v8,hv8,h⟩:=zn h
     obtain ⟨v9,hv9,h⟩:=zn h
     refine yx hn 0 ?_
     refine ys 0 ⟨lj hv8⟩ ?_
     refine yS (.agg [vb v9.EM,vs v9.EI,vs v9.Ex]) 0 ⟨gz _ _ _ _ _ _ _ underlying26 rfl qP rfl rfl (jp ae.len hv9) rfl (by decide)⟩ ?_
     refine yS (.box 26 [vb false,vs z0,vs z0]) 1 ⟨oA (aP _ _ pM)⟩ ?_
     refine aT [36,22,23,24,4] ?_
     refine ab ?_
     refine aD h (fun (s38:Bool)=>[(36,.glob (GL mx)),(22,.fl .shr 3 (flatten (map ae.enc m.To))),(23,vi (m.To.length:Int)),(24,vi s24),(34,vb s38)]) ?_ ?_
     ·rintro s38 h
      refine ag ?_
      refine al _ rfl (fun hb42 => ?_) (fun hb42 => ?_)
      ·have h:=ap hb42 h
       refine aI hn 1 [36,2] ?_
       refine am ?_
       refine ah [1] (by kernel_rfl) (es':=[(_,_)]) rfl ?_
       refine aG (ai (ai (aG (ai ?_))))
       have h:=hr33 _ (ho34 _ (zi h).symm).symm
       obtain rfl:=zi h
       exact ao hio rfl (.tmp _ _ .nil) rfl rfl
      ·have h:=aq hb42 h
       refine ar (aJ (ag ?_))
       obtain ⟨v16,hv16,h⟩:=zn h
       refine yx hn 0 ?_
       refine ys 0 ⟨lb hv16⟩ ?_
       refine yw [24] 1 ?_
       refine ye [36,22,23,24] ?_
       exact bi _ (zi h).symm rfl
     ·intro u39 h hl40 hr41
      obtain ⟨v10,hv10,h⟩:=zn h
      refine ak h (fun hg6_3 h => ?_) (fun hg6_3 h => ?_)
      ·refine yx hn 1 ?_
       refine ys 2 ⟨lg call162 (bZ _ _ _ hv10) 36⟩ ?_
       refine yd hg6_3 3 ?_
       refine ye [36,22,23,24,34] ?_
       exact hl40 _ (zi h).symm
      ·refine yx hn 1 ?_
       refine ys 2 ⟨lg call162 (bZ _ _ _ hv10) 36⟩ ?_
       refine yd hg6_3 3 ?_
       refine ye [36,22,23,24,34] ?_
       exact hl40 _ (zi h).symm
    ·have h:=aq hb37 h
     refine bh (aB (aB (bf ?_)))
     refine ah [0] (by kernel_rfl) (es':=[(_,_)]) rfl ?_
     exact hl32 _ (ho34 _ (zi h).symm).symm
 ·intro u3 h hl4 hr5
  obtain ⟨v1,hv1,h⟩:=zn h
  refine ak h (fun hg1_4 h => ?_) (fun hg1_4 h => ?_)
  ·refine yx hn 2 ?_
   refine ys 2 ⟨lg call162 (bZ _ _ _ hv1) 36⟩ ?_
   refine yd hg1_4 11 ?_
   refine ye [36,1,20] ?_
   exact hl4 _ (zi h).symm
  ·refine ak h (fun hg1_10 h => ?_) (fun hg1_10 h => ?_)
   ·refine yx hn 2 ?_
    refine ys 2 ⟨lg call162 (bZ _ _ _ hv1) 36⟩ ?_
    refine yd hg1_4 6 ?_
    refine yd hg1_10 5 ?_
    refine ye [36,1,20] ?_
    exact hl4 _ (zi h).symm
   ·refine yx hn 2 ?_
    refine ys 2 ⟨lg call162 (bZ _ _ _ hv1) 36⟩ ?_
    refine yd hg1_4 6 ?_
    refine yd hg1_10 5 ?_
    refine ye [36,1,20] ?_
    exact hl4 _ (zi h).symm
theorem dt (mx:Int×Nat×Value) (m:aU) (r:Bool) (h:Sh.gw m=some r):fk Tryz.prog (GL mx) 178 [.agg [.v (.bool m.EA.EM),.v (.string m.EA.EI),.v (.string m.EA.Ex),.fl .shr 3 (flatten (map ae.enc m.To)),.fl .shr 1 (map (int .u8) m.Et),.v (.bool m.EU),.v (.string m.EE),.v (.int .i64 m.At)]] (.v (.bool r)):=by
 unfold Sh.gw at h
 refine yG 17 func178 fun g0 hn hio => ?_
 refine aI hn 2 [17,1] ?_
 refine ab ?_
 refine aD h (fun (s3:Bool)=>[(17,.glob (GL mx)),(2,vb s3)]) ?_ ?_
 ·rintro s3 h
  refine ag (am ?_)
  refine ah [1] (by kernel_rfl) (es':=[(_,_)]) rfl ?_
  obtain rfl:=zi h
  exact ao hio rfl (.tmp _ _ .nil) rfl rfl
 ·intro u4 h hl5 hr6
  obtain ⟨v1,hv1,h⟩:=zn h
  refine ak h (fun hg1_2 h => ?_) (fun hg1_2 h => ?_)
  ·refine ak h (fun hg1_8 h => ?_) (fun hg1_8 h => ?_)
   ·obtain ⟨v2,hv2,h⟩:=zn h
    refine yx hn 1 ?_
    refine ys 1 ⟨lg call201 (fJ _ _ _ hv1) 17⟩ ?_
    refine yd hg1_2 6 ?_
    refine yd hg1_8 2 ?_
    refine ys 3 ⟨lg call95 (gG _ _ _ hv2) 17⟩ ?_
    refine ye [17,2] ?_
    exact hl5 _ (zi h).symm
   ·refine yx hn 1 ?_
    refine ys 1 ⟨lg call201 (fJ _ _ _ hv1) 17⟩ ?_
    refine yd hg1_2 6 ?_
    refine yd hg1_8 6 ?_
    refine ye [17,2] ?_
    exact hl5 _ (zi h).symm
  ·refine yx hn 1 ?_
   refine ys 1 ⟨lg call201 (fJ _ _ _ hv1) 17⟩ ?_
   refine yd hg1_2 12 ?_
   refine ye [17,2] ?_
   exact hl5 _ (zi h).symm
theorem pb (mx:Int×Nat×Value) (b:cR) (r:Int) (h:Sh.jP b=some r):fk Tryz.prog (GL mx) 151 [.agg [.v (.int .i64 b.EO),.v (.int .i64 b.EN),.fr .shr true 8 (flatten (map aU.ienc b.EL))]] (.v (.int .i64 r)):=by
 unfold Sh.jP at h
 refine yG 58 func151 fun g0 hn hio => ?_
 refine aI hn 2 [58,1] ?_
 refine ab (ab ?_)
 refine aD h (fun (s1:Bool)=>[(58,.glob (GL mx)),(1,.box 62 [vi b.EO,vi b.EN,.fr .shr true 8 (flatten (map aU.ienc b.EL))]),(22,vb s1)]) ?_ ?_
 ·rintro s1 h
  refine ag ?_
  refine al _ rfl (fun hb5 => ?_) (fun hb5 => ?_)
  ·have h:=ap hb5 h
   refine aI hn 1 [58,2] ?_
   refine am ?_
   refine ah [1] (by kernel_rfl) (es':=[(_,_)]) rfl ?_
   refine ai ?_
   obtain rfl:=zi h
   exact ao hio rfl (.tmp _ _ .nil) rfl rfl
  ·have h:=aq hb5 h
   refine ar ?_
   refine ag (ab ?_)
   refine ab ?_
   refine aD h (fun (s6:Bool)=>[(58,.glob (GL mx)),(1,.box 62 [vi b.EO,vi b.EN,.fr .shr true 8 (flatten (map aU.ienc b.EL))]),(32,vb s6)]) ?_ ?_
   ·rintro s6 h
    refine ag ?_
    refine al _ rfl (fun hb10 => ?_) (fun hb10 => ?_)
    ·have h:=ap hb10 h
     refine aI hn 1 [58,2] ?_
     refine am ?_
     refine ah [1] (by kernel_rfl) (es':=[(_,_)]) rfl ?_
     refine ai ?_
     obtain rfl:=zi h
     exact ao hio rfl (.tmp _ _ .nil) rfl rfl
    ·have h:=aq hb10 h
     refine ar ?_
     refine ag (ab ?_)
     refine aI hn 4 [58,34,35,36] ?_
     refine aX h (fun (s28:Int)=>[(58,.glob (GL mx)),(34,.fr .shr true 8 (flatten (map aU.ienc b.EL))),(35,vi (b.EL.length:Int)),(36,vi s28)]) (fun (():Unit)=>[(58,.glob (GL mx))]) ?_ ?_
     ·rintro ⟨⟩ h
      refine ag ?_
      refine aI hn 1 [58,2] ?_
      refine am ?_
      refine ah [1] (by kernel_rfl) (es':=[(_,_)]) rfl ?_
      obtain rfl:=zi h
      exact ao hio rfl (.tmp _ _ .nil) rfl rfl
     ·rintro u35 hl36 hr37 s28 rr40 h ho38
      refine aI hn 1 [58,34,35,36,37] ?_
      refine ab ?_
      refine al _ rfl (fun hb41 => ?_) (fun hb41 => ?_)
      ·have h:=ap hb41 h
       refine ar ?_
       refine ag (ab ?_)
       refine aH (ab ?_)
       obtain ⟨v12,hv12,h⟩:=zn h
       obtain ⟨v13,hv13,h⟩:=zn h
       refine yx hn 0 ?_
       refine ys 0 ⟨lI hv12⟩ ?_
       refine yS (.agg (aU.c v13 [])) 0 ⟨oU _ _ _ _ _ _ _ _ underlying53 rfl xI rfl rfl (oa aU.ilen hv13) (.cons (.v _) (.cons (.v _) (.cons (.v _) (.cons (.fl _ _ rfl) (.cons (.fl _ _ rfl) (.cons (.v _) (.cons (.v _) (.cons (.v _) (.nil))))))))) rfl (by decide)⟩ ?_
       refine yS (.box 53 [vb false,vs z0,vs z0,vz,vz,vb false,vs z0,vi 0]) 1 ⟨oA (aP _ _ xS)⟩ ?_
       refine aT [58,34,35,36,4] ?_
       refine ab ?_
       refine aD h (fun (s42:Bool)=>[(58,.glob (GL mx)),(34,.fr .shr true 8 (flatten (map aU.ienc b.EL))),(35,vi (b.EL.length:Int)),(36,vi s28),(56,vb s42)]) ?_ ?_
       ·rintro s42 h
        refine ag ?_
        refine al _ rfl (fun hb46 => ?_) (fun hb46 => ?_)
        ·have h:=ap hb46 h
         refine aI hn 1 [58,2] ?_
         refine am ?_
         refine ah [1] (by kernel_rfl) (es':=[(_,_)]) rfl ?_
         refine aG (ai (ai (aG (ai ?_))))
         have h:=hr37 _ (ho38 _ (zi h).symm).symm
         obtain rfl:=zi h
         exact ao hio rfl (.tmp _ _ .nil) rfl rfl
        ·have h:=aq hb46 h
         refine ar (aJ (ag ?_))
         obtain ⟨v20,hv20,h⟩:=zn h
         refine yx hn 0 ?_
         refine ys 0 ⟨lb hv20⟩ ?_
         refine yw [36] 1 ?_
         refine ye [58,34,35,36] ?_
         exact bi _ (zi h).symm rfl
       ·intro u43 h hl44 hr45
        obtain ⟨v14,hv14,h⟩:=zn h
        refine ak h (fun hg8_3 h => ?_) (fun hg8_3 h => ?_)
        ·refine yx hn 1 ?_
         refine ys 2 ⟨lg call178 (dt _ _ _ hv14) 58⟩ ?_
         refine yd hg8_3 13 ?_
         refine ye [58,34,35,36,56] ?_
         exact hl44 _ (zi h).symm
        ·refine ak h (fun hg8_7 h => ?_) (fun hg8_7 h => ?_)
         ·refine yx hn 1 ?_
          refine ys 2 ⟨lg call178 (dt _ _ _ hv14) 58⟩ ?_
          refine yd hg8_3 4 ?_
          refine yd hg8_7 9 ?_
          refine ye [58,34,35,36,56] ?_
          exact hl44 _ (zi h).symm
         ·refine ak h (fun hg8_12 h => ?_) (fun hg8_12 h => ?_)
          ·refine yx hn 1 ?_
           refine ys 2 ⟨lg call178 (dt _ _ _ hv14) 58⟩ ?_
           refine yd hg8_3 4 ?_
           refine yd hg8_7 5 ?_
           refine yd hg8_12 4 ?_
           refine ye [58,34,35,36,56] ?_
           exact hl44 _ (zi h).symm
          ·refine yx hn 1 ?_
           refine ys 2 ⟨lg call178 (dt _ _ _ hv14) 58⟩ ?_
           refine yd hg8_3 4 ?_
           refine yd hg8_7 5 ?_
           refine yd hg8_12 4 ?_
           refine ye [58,34,35,36,56] ?_
           exact hl44 _ (zi h).symm
      ·have h:=aq hb41 h
       refine bh (aB (aB (bf ?_)))
       refine ah [0] (by kernel_rfl) (es':=[(_,_)]) rfl ?_
       exact hl36 _ (ho38 _ (zi h).symm).symm
   ·intro u7 h hl8 hr9
    refine ak h (fun hg3_4 h => ?_) (fun hg3_4 h => ?_)
    ·refine yx hn 5 ?_
     refine yd hg3_4 5 ?_
     refine ye [58,1,32] ?_
     exact hl8 _ (zi h).symm
    ·refine yx hn 5 ?_
     refine yd hg3_4 5 ?_
     refine ye [58,1,32] ?_
     exact hl8 _ (zi h).symm
 ·intro u2 h hl3 hr4
  refine ak h (fun hg1_3 h => ?_) (fun hg1_3 h => ?_)
  ·refine ak h (fun hg1_8 h => ?_) (fun hg1_8 h => ?_)
   ·refine yx hn 4 ?_
    refine yd hg1_3 5 ?_
    refine yd hg1_8 9 ?_
    refine ye [58,1,22] ?_
    exact hl3 _ (zi h).symm
   ·refine ak h (fun hg1_13 h => ?_) (fun hg1_13 h => ?_)
    ·refine yx hn 4 ?_
     refine yd hg1_3 5 ?_
     refine yd hg1_8 5 ?_
     refine yd hg1_13 4 ?_
     refine ye [58,1,22] ?_
     exact hl3 _ (zi h).symm
    ·refine yx hn 4 ?_
     refine yd hg1_3 5 ?_
     refine yd hg1_8 5 ?_
     refine yd hg1_13 4 ?_
     refine ye [58,1,22] ?_
     exact hl3 _ (zi h).symm
  ·refine ak h (fun hg1_13 h => ?_) (fun hg1_13 h => ?_)
   ·refine yx hn 4 ?_
    refine yd hg1_3 10 ?_
    refine yd hg1_13 4 ?_
    refine ye [58,1,22] ?_
    exact hl3 _ (zi h).symm
   ·refine yx hn 4 ?_
    refine yd hg1_3 10 ?_
    refine yd hg1_13 4 ?_
    refine ye [58,1,22] ?_
    exact hl3 _ (zi h).symm
theorem sB (mx:Int×Nat×Value) (p:ae) (r:(Fa×Int)) (h:Sh.nV p=some r):fk Tryz.prog (GL mx) 180 [.agg [.v (.bool p.EM),.v (.string p.EI),.v (.string p.Ex)]] (.tup [.v (.string r.1),.v (.int .i64 r.2)]):=by
 unfold Sh.nV at h
 refine yG 20 func180 fun g0 hn hio => ?_
 refine aI hn 3 [20,1] ?_
 refine ab (ab ?_)
 obtain ⟨v1,hv1,h⟩:=zn h
 refine yx hn 1 ?_
 refine ys 1 ⟨lg call162 (bZ _ _ _ hv1) 20⟩ ?_
 refine aT [20,1,4] ?_
 refine aI hn 2 [20,1,4,8] ?_
 refine al _ rfl (fun hb2 => ?_) (fun hb2 => ?_)
 ·have h:=ap hb2 h
  refine aI hn 3 [20,2,3] ?_
  refine am ?_
  refine ah [1,2] (by kernel_rfl) (es':=[(_,_),(_,_)]) rfl ?_
  refine ai ?_
  obtain rfl:=zi h
  exact ao hio rfl (.tmp _ _ (.tmp _ _ .nil)) rfl rfl
 ·have h:=aq hb2 h
  refine ar ?_
  refine ag (ab ?_)
  refine aI hn 2 [20,1,11] ?_
  refine al _ rfl (fun hb3 => ?_) (fun hb3 => ?_)
  ·have h:=ap hb3 h
   refine aI hn 2 [20,2,3] ?_
   refine am ?_
   refine ah [1,2] (by kernel_rfl) (es':=[(_,_),(_,_)]) rfl ?_
   refine ai ?_
   obtain rfl:=zi h
   exact ao hio rfl (.tmp _ _ (.tmp _ _ .nil)) rfl rfl
  ·have h:=aq hb3 h
   refine ar ?_
   refine ag (ab ?_)
   obtain ⟨v4,hv4,h⟩:=zn h
   obtain ⟨v5,hv5,h⟩:=zn h
   obtain ⟨v6,hv6,h⟩:=zn h
   obtain ⟨v7,hv7,h⟩:=zn h
   refine yx hn 2 ?_
   refine ys 0 ⟨lB (dW hv4)⟩ ?_
   refine ys 2 ⟨lB (dW hv5)⟩ ?_
   refine ys 0 ⟨lB (dW hv6)⟩ ?_
   refine ys 2 ⟨lB (dW hv7)⟩ ?_
   refine aT [20,2,3] ?_
   refine am ?_
   refine ah [1,2] (by kernel_rfl) (es':=[(_,_),(_,_)]) rfl ?_
   obtain rfl:=zi h
   exact ao hio rfl (.tmp _ _ (.tmp _ _ .nil)) rfl rfl
theorem eN (mx:Int×Nat×Value) (word:Fa) (p:ae) (cap:(List Int)) (r:(List Int)) (h:Sh.cS word p cap=some r):kZ Tryz.prog (GL mx) 179 [.v (.string word),.agg [.v (.bool p.EM),.v (.string p.EI),.v (.string p.Ex)],.box 28 [.fl (.own 5) 1 (map (int .u8) cap)]] [.v (.string word),.agg [.v (.bool p.EM),.v (.string p.EI),.v (.string p.Ex)],.box 28 [.fl (.own 5) 1 (map (int .u8) r)]] (.tup []):=by
 unfold Sh.cS at h
 refine yc 18 func179 fun args0 hargs0 g0 hn hio => ?_
 refine aI hn 1 [0,1,2,18,4,0,1,2] ?_
 refine ab ?_
 obtain ⟨v1,hv1,h⟩:=zn h
 refine yx hn 1 ?_
 refine ys 0 ⟨lg call180 (sB _ _ _ hv1) 18⟩ ?_
 refine ym 4 ?_
 refine aT [0,1,2,18,5,0,1,2] ?_
 obtain ⟨v2,hv2,h⟩:=zn h
 obtain ⟨v3,hv3,h⟩:=zn h
 obtain ⟨v4,hv4,h⟩:=zn h
 refine yx hn 3 ?_
 refine ys 0 ⟨lB (dW hv2)⟩ ?_
 refine ys 0 ⟨lB (dW hv3)⟩ ?_
 refine yk [2] [12,16] ?_
 refine kU (2,.box 28 [.any]) (17,.fl (.own 5) 1 (map (int .u8) v4)) 0 ⟨cZ _ _ _ _ _ _ ia rb underlying9 rfl rfl (zl rfl) rfl rfl hv4 rfl (Nat.ne_of_beq_eq_false rfl) rfl rfl⟩ ?_
 refine yw [12] 0 ?_
 refine yk [17,2] [] ?_
 refine yt (2,.box 28 [.fl (.own 5) 1 (map (int .u8) v4)]) 0 ⟨aK _ _ _ _ _ _ _ _ jh rfl rfl rfl (zl rfl) rfl rfl⟩ ?_
 refine ye [0,1,2,18,0,1,2] ?_
 refine ah [0,1,2,4,5,6] (by kernel_rfl) (es':=[(_,_),(_,_),(_,_),(_,_),(_,_),(_,_)]) rfl ?_
 obtain rfl:=zi h
 exact jb (es:=[]) (posts:=[.v (.string word),.agg [.v (.bool p.EM),.v (.string p.EI),.v (.string p.Ex)],.box 28 [.fl (.own 5) 1 (map (int .u8) v4)]]) hio rfl rfl .nil rfl rfl hargs0 rfl
theorem qT (mx:Int×Nat×Value) (b:(List Int)) (r:((List Int)×Int)) (h:Sh.mL b=some r):fk Tryz.prog (GL mx) 181 [.fl .shr 1 (map (int .u8) b)] (.tup [.fl (.own 5) 1 (map (int .u8) r.1),.v (.int .i64 r.2)]):=by
 unfold Sh.mL at h
 refine yG 28 func181 fun g0 hn hio => ?_
 refine aI hn 2 [0,28] ?_
 refine ab (ab ?_)
 obtain ⟨v1,hv1,h⟩:=zn h
 refine yx hn 1 ?_
 refine ys 1 ⟨lg call95 (gG _ _ _ hv1) 28⟩ ?_
 refine aT [0,28,4] ?_
 refine aI hn 2 [0,28,4,10] ?_
 refine al _ rfl (fun hb2 => ?_) (fun hb2 => ?_)
 ·have h:=ap hb2 h
  refine aI hn 3 [28,2,3] ?_
  refine am ?_
  refine ah [1,2] (by kernel_rfl) (es':=[(_,_),(_,_)]) rfl ?_
  refine bT (fs:=[(2,.fl (.own 5) 1 (map (int .u8) [])),(3,vi v1)]) (.sub _ (bC 5 1) rfl (.same _ .nil)) ?_
  refine ai ?_
  obtain rfl:=zi h
  exact ao hio rfl (.tmp _ _ (.tmp _ _ .nil)) rfl rfl
 ·have h:=aq hb2 h
  refine ar (ag ?_)
  refine eC hn 0 ?_
  refine yS (.box 28 [vz]) 0 ⟨oA (aP _ _ zf)⟩ ?_
  refine aT [0,28,5] ?_
  refine ab (ab ?_)
  obtain ⟨v3,hv3,h⟩:=zn h
  refine yx hn 1 ?_
  refine yk [] [12] ?_
  refine yt (13,.cloB 123 [.box 28 [fb v3]]) 0 ⟨eR _ _ 96 _ _ rfl call96 rfl rfl (eS b _ hv3) rfl⟩ ?_
  refine aT [28,5,13] ?_
  refine aH ?_
  refine gJ [2,0,1] (by kernel_rfl) (es':=[(13,.cloB 123 [.box 28 [fb v3]]),(28,.glob (GL mx)),(5,.box 28 [vz])]) rfl ?_
  refine nH (fs:=[(13,.cloB 123 [.box 28 [fb v3]]),(28,.glob (GL mx)),(5,.box 28 [.fl (.own 5) 1 (map (int .u8) [])])]) (.same _ (.same _ (.box _ _ (af (bC 5 1) (bj)) rfl .nil))) ?_
  refine fx h 123 13 14 29 _ [28,5] call123 (fun (s21:(List Int))=>[(28,.glob (GL mx)),(5,.box 28 [.fl (.own 5) 1 (map (int .u8) s21)])]) (fun (():Unit)=>[]) (fun l J Y hY t t' h=>dI mx l J Y hY v3 t t' h) hn rfl (fun _=>rfl) (fun _=>rfl) (fun _=>rfl) rfl rfl (fun _=>⟨rfl,rfl⟩) rfl (fw 28 rfl) ?_ ?_ ?_
  ·rintro kk g0 hn hio x s21 u h
   refine oY (es':=[(14,fb x),(28,.glob (GL mx)),(5,.box 28 [.fl (.own 5) 1 (map (int .u8) s21)]),(28,.v (kk.tm.getD 28 undef)),(5,.v (kk.tm.getD 5 undef)),(29,.inv kk.ready)]) rfl ?_
   refine yy hn 1 [28,5,29,6,28,5] ?_
   refine ah [0,1,3,4,5,2] (by kernel_rfl) (es':=[(28,.glob (GL mx)),(5,.box 28 [.fl (.own 5) 1 (map (int .u8) s21)]),(6,fb x),(28,.v (kk.tm.getD 28 undef)),(5,.v (kk.tm.getD 5 undef)),(29,.inv kk.ready)]) rfl ?_
   refine gR (es:=[(28,.glob (GL mx)),(5,.box 28 [.fl (.own 5) 1 (map (int .u8) s21)]),(6,fb x),(28,.v (kk.tm.getD 28 undef)),(5,.v (kk.tm.getD 5 undef))]) 29 rfl ?_
   refine aH (ab ?_)
   refine aD h (fun (s29:(List Int))=>[(28,.glob (GL mx)),(5,.box 28 [.fl (.own 5) 1 (map (int .u8) s29)]),(6,fb x),(29,.inv kk.busy),(28,.v (kk.tm.getD 28 undef)),(5,.v (kk.tm.getD 5 undef))]) ?_ ?_
   ·rintro s29 h
    refine ag (ab ?_)
    obtain ⟨v12,hv12,h⟩:=zn h
    refine yx hn 2 ?_
    refine yk [5] [21,22] ?_
    refine kU (5,.box 28 [.any]) (23,.fl (.own 5) 1 (map (int .u8) v12)) 0 ⟨fv _ _ _ _ _ _ ia rfl rfl (zl rfl) rfl (eF _) (eF _) hv12 ((List.map_append).symm.trans (congrArg (map _) (im hv12))) (Nat.ne_of_beq_eq_false rfl) rfl rfl⟩ ?_
    refine yw [21] 0 ?_
    refine yk [23,5] [] ?_
    refine yt (5,.box 28 [.fl (.own 5) 1 (map (int .u8) v12)]) 0 ⟨aK _ _ _ _ _ _ _ _ jh rfl rfl rfl (zl rfl) rfl rfl⟩ ?_
    refine aT [28,5,29,28,5] ?_
    obtain ⟨v13,hv13,h⟩:=zn h
    refine yx hn 1 ?_
    refine yk [5] [24] ?_
    refine kU (5,.box 28 [.any]) (25,.fl (.own 5) 1 (map (int .u8) v13)) 0 ⟨cZ _ _ _ _ _ _ ia rb underlying9 rfl rfl (zl rfl) rfl rfl hv13 rfl (Nat.ne_of_beq_eq_false rfl) rfl rfl⟩ ?_
    refine yw [24] 0 ?_
    refine yk [25,5] [] ?_
    refine yt (5,.box 28 [.fl (.own 5) 1 (map (int .u8) v13)]) 0 ⟨aK _ _ _ _ _ _ _ _ jh rfl rfl rfl (zl rfl) rfl rfl⟩ ?_
    refine ye [28,5,29,28,5] ?_
    refine aJ ?_
    refine ah [0,1,3,4,2] (by kernel_rfl) (es':=[(_,_),(_,_),(_,_),(_,_),(_,_)]) rfl ?_
    obtain rfl:=zi h
    exact gT 29 [28,5] _ rfl rfl (by kernel_rfl)
   ·intro u30 h hl31 hr32
    refine ab ?_
    obtain ⟨v4,hv4,h⟩:=zn h
    refine yx hn 1 ?_
    refine yS (.fl (.own 5) 1 (map (int .u8) [46])) 0 ⟨bb _ _ 1 (.int .u8 0) (map (int .u8) [46]) [(0,.int .u8 46)] underlying28 jA rb (fun _ V w o a hv hes=>by simp only [List.map_toArray,List.map_cons,List.map_nil]; try rfl) (cn (by simp [Instr.fill,Value.cells]; rfl) (by simp [List.range,List.range.loop] <;> rfl)) (by simp [Value.oneCell']) rfl (by decide) (by decide) (by decide)⟩ ?_
    refine yk [16] [] ?_
    refine yt (17,.fl .ro 1 (map (int .u8) [46])) 0 ⟨eE _ _ _ underlying28 underlying5 (by intro h; cases h)⟩ ?_
    refine ys 0 ⟨lk call124 (iA _ _ _ hv4)⟩ ?_
    refine aT [28,5,6,29,18,28,5] ?_
    refine al _ rfl (fun hb33 => ?_) (fun hb33 => ?_)
    ·have h:=ap hb33 h
     obtain ⟨v6,hv6,h⟩:=zn h
     refine yx hn 1 ?_
     refine yk [5] [19] ?_
     refine kU (5,.box 28 [.any]) (20,.fl (.own 5) 1 (map (int .u8) v6)) 0 ⟨cZ _ _ _ _ _ _ ia rb underlying9 rfl rfl (zl rfl) rfl rfl hv6 rfl (Nat.ne_of_beq_eq_false rfl) rfl rfl⟩ ?_
     refine yw [19] 0 ?_
     refine yk [20,5] [] ?_
     refine yt (5,.box 28 [.fl (.own 5) 1 (map (int .u8) v6)]) 0 ⟨aK _ _ _ _ _ _ _ _ jh rfl rfl rfl (zl rfl) rfl rfl⟩ ?_
     refine ye [28,5,6,29,28,5] ?_
     exact hl31 _ (zi h).symm
    ·have h:=aq hb33 h
     refine ar ?_
     refine ah [0,1,2,3,5,6] (by kernel_rfl) (es':=[(_,_),(_,_),(_,_),(_,_),(_,_),(_,_)]) rfl ?_
     exact hl31 _ (zi h).symm
  ·rintro D s21 h
   refine aJ ?_
   refine ag (ab ?_)
   obtain ⟨v34,hv34,h⟩:=zn h
   refine yx hn 1 ?_
   refine yk [5] [26] ?_
   refine kU (5,.box 28 [.any]) (27,.fl (.own 5) 1 (map (int .u8) v34)) 0 ⟨cZ _ _ _ _ _ _ ia rb underlying9 rfl rfl (zl rfl) rfl rfl hv34 rfl (Nat.ne_of_beq_eq_false rfl) rfl rfl⟩ ?_
   refine ya 1 ?_
   refine aT [28,2,3] ?_
   refine am ?_
   refine ah [1,2] (by kernel_rfl) (es':=[(_,_),(_,_)]) rfl ?_
   obtain rfl:=zi h
   exact ao hio rfl (.tmp _ _ (.tmp _ _ .nil)) rfl rfl
  ·rintro D ⟨⟩ h
   cases h
theorem mq (mx:Int×Nat×Value) (mails:(List aU)) (r:(List Int)) (h:Sh.ib mails=some r):fk Tryz.prog (GL mx) 152 [.fr .shr true 8 (flatten (map aU.ienc mails))] (.fl (.own 5) 1 (map (int .u8) r)):=by
 unfold Sh.ib at h
 refine yG 47 func152 fun g0 hn hio => ?_
 refine aI hn 1 [0,47] ?_
 refine eC hn 0 ?_
 refine yS (.box 28 [vz]) 0 ⟨oA (aP _ _ zf)⟩ ?_
 refine aT [0,47,3] ?_
 refine eC hn 0 ?_
 refine yS (.clo 179 [3]) 1 ⟨jr _ _ _ 3 (by decide)⟩ ?_
 refine aT [0,47,3,4] ?_
 refine ab ?_
 refine aI hn 3 [47,3,4,12,13,14] ?_
 refine nH (fs:=[(47,.glob (GL mx)),(3,.box 28 [.fl (.own 5) 1 (map (int .u8) [])]),(4,.clo 179 [3]),(12,.fr .shr true 8 (flatten (map aU.ienc mails))),(13,vi (mails.length:Int)),(14,vi 0)]) (.same _ (.box _ _ (af (bC 5 1) (bj)) rfl (.same _ (.same _ (.same _ (.same _ .nil)))))) ?_
 refine aX h (fun ((s46,s47):(List Int)×Int)=>[(47,.glob (GL mx)),(3,.box 28 [.fl (.own 5) 1 (map (int .u8) s46)]),(4,.clo 179 [3]),(12,.fr .shr true 8 (flatten (map aU.ienc mails))),(13,vi (mails.length:Int)),(14,vi s47)]) (fun (s64:(List Int))=>[(47,.glob (GL mx)),(3,.box 28 [.fl (.own 5) 1 (map (int .u8) s64)])]) ?_ ?_
 ·rintro s64 h
  refine ag (ab ?_)
  obtain ⟨v87,hv87,h⟩:=zn h
  refine yx hn 1 ?_
  refine yk [3] [45] ?_
  refine kU (3,.box 28 [.any]) (46,.fl (.own 5) 1 (map (int .u8) v87)) 0 ⟨cZ _ _ _ _ _ _ ia rb underlying9 rfl rfl (zl rfl) rfl rfl hv87 rfl (Nat.ne_of_beq_eq_false rfl) rfl rfl⟩ ?_
  refine ya 0 ?_
  refine aT [47,2] ?_
  refine am ?_
  refine ah [1] (by kernel_rfl) (es':=[(_,_)]) rfl ?_
  obtain rfl:=zi h
  exact ao hio rfl (.tmp _ _ .nil) rfl rfl
 ·rintro u65 hl66 hr67 ⟨s46,s47⟩ rr70 h ho68
  refine aI hn 1 [47,3,4,12,13,14,15] ?_
  refine ab ?_
  refine al _ rfl (fun hb71 => ?_) (fun hb71 => ?_)
  ·have h:=ap hb71 h
   refine ar ?_
   refine ag (ab ?_)
   refine aH (ab ?_)
   obtain ⟨v2,hv2,h⟩:=zn h
   obtain ⟨v3,hv3,h⟩:=zn h
   refine yx hn 0 ?_
   refine ys 0 ⟨lI hv2⟩ ?_
   refine yS (.agg (aU.c v3 [])) 0 ⟨oU _ _ _ _ _ _ _ _ underlying53 rfl xI rfl rfl (oa aU.ilen hv3) (.cons (.v _) (.cons (.v _) (.cons (.v _) (.cons (.fl _ _ rfl) (.cons (.fl _ _ rfl) (.cons (.v _) (.cons (.v _) (.cons (.v _) (.nil))))))))) rfl (by decide)⟩ ?_
   refine yS (.box 53 [vb false,vs z0,vs z0,vz,vz,vb false,vs z0,vi 0]) 1 ⟨oA (aP _ _ xS)⟩ ?_
   refine aT [47,3,4,12,13,14,6] ?_
   refine ab ?_
   obtain ⟨v4,hv4,h⟩:=zn h
   refine yx hn 3 ?_
   refine yk [3] [18,20,47] ?_
   refine kU (3,.box 28 [.fl (.own 5) 1 (map (int .u8) v4)]) (21,.tup []) 0 ⟨rm _ _ _ 21 18 3 47 179 [_,.tmp 20] _ _ _ _ rfl call179 rfl rfl rfl (fun _ h=>h) (eN mx (⟨#[77,65,73,76,32,70,82,79,77,58]⟩:Fa) (ae.mk v3.EA.EM v3.EA.EI v3.EA.Ex) s46 _ hv4) rfl rfl rfl rfl rfl rfl rfl rfl⟩ ?_
   refine aT [47,3,4,12,13,14,6] ?_
   refine ab ?_
   refine aI hn 4 [47,3,4,12,13,14,6,23,24,25] ?_
   refine aX h (fun ((s76,s77):(List Int)×Int)=>[(47,.glob (GL mx)),(3,.box 28 [.fl (.own 5) 1 (map (int .u8) s76)]),(4,.clo 179 [3]),(12,.fr .shr true 8 (flatten (map aU.ienc mails))),(13,vi (mails.length:Int)),(14,vi s47),(6,.box 53 (aU.c v3 [])),(23,.fl .shr 3 (flatten (map ae.enc v3.To))),(24,vi (v3.To.length:Int)),(25,vi s77)]) (fun (s79:(List Int))=>[(47,.glob (GL mx)),(3,.box 28 [.fl (.own 5) 1 (map (int .u8) s79)]),(4,.clo 179 [3]),(12,.fr .shr true 8 (flatten (map aU.ienc mails))),(13,vi (mails.length:Int)),(14,vi s47),(6,.box 53 (aU.c v3 []))]) ?_ ?_
   ·rintro s79 h
    refine ag (ab ?_)
    obtain ⟨v24,hv24,h⟩:=zn h
    refine yx hn 1 ?_
    refine yk [3] [33] ?_
    refine kU (3,.box 28 [.any]) (34,.fl (.own 5) 1 (map (int .u8) v24)) 0 ⟨cZ _ _ _ _ _ _ ia rb underlying9 rfl rfl (zl rfl) rfl rfl hv24 rfl (Nat.ne_of_beq_eq_false rfl) rfl rfl⟩ ?_
    refine yw [33] 0 ?_
    refine yk [34,3] [] ?_
    refine yt (3,.box 28 [.fl (.own 5) 1 (map (int .u8) v24)]) 0 ⟨aK _ _ _ _ _ _ _ _ jh rfl rfl rfl (zl rfl) rfl rfl⟩ ?_
    refine aT [47,3,4,12,13,14,6] ?_
    refine ab ?_
    obtain ⟨v25,hv25,h⟩:=zn h
    refine yx hn 2 ?_
    refine ys 0 ⟨lg call181 (qT _ _ _ hv25) 47⟩ ?_
    refine ym 0 ?_
    refine CF 1 ?_
    refine ya 1 ?_
    refine aT [47,3,4,12,13,14,9] ?_
    obtain ⟨v26,hv26,h⟩:=zn h
    refine yx hn 1 ?_
    refine ym 0 ?_
    refine yk [3] [41,42] ?_
    refine kU (3,.box 28 [.any]) (43,.fl (.own 5) 1 (map (int .u8) v26)) 0 ⟨fv _ _ _ _ _ _ ia rfl rfl (zl rfl) rfl (eF _) (eF _) hv26 ((List.map_append).symm.trans (congrArg (map _) (im hv26))) (Nat.ne_of_beq_eq_false rfl) rfl rfl⟩ ?_
    refine yw [41] 0 ?_
    refine yk [43,3] [] ?_
    refine yt (3,.box 28 [.fl (.own 5) 1 (map (int .u8) v26)]) 0 ⟨aK _ _ _ _ _ _ _ _ jh rfl rfl rfl (zl rfl) rfl rfl⟩ ?_
    refine ye [47,3,4,12,13,14] ?_
    refine aJ (ag ?_)
    obtain ⟨v27,hv27,h⟩:=zn h
    refine yx hn 0 ?_
    refine ys 0 ⟨lb hv27⟩ ?_
    refine yw [14] 1 ?_
    refine ye [47,3,4,12,13,14] ?_
    exact bi _ (zi h).symm rfl
   ·rintro u80 hl81 hr82 ⟨s76,s77⟩ rr85 h ho83
    refine aI hn 1 [47,3,4,12,13,14,6,23,24,25,26] ?_
    refine ab ?_
    refine al _ rfl (fun hb86 => ?_) (fun hb86 => ?_)
    ·have h:=ap hb86 h
     refine ar ?_
     refine ag (ab ?_)
     refine aH (ab ?_)
     obtain ⟨v6,hv6,h⟩:=zn h
     obtain ⟨v7,hv7,h⟩:=zn h
     refine yx hn 0 ?_
     refine ys 0 ⟨lj hv6⟩ ?_
     refine yS (.agg [vb v7.EM,vs v7.EI,vs v7.Ex]) 0 ⟨gz _ _ _ _ _ _ _ underlying26 rfl qP rfl rfl (jp ae.len hv7) rfl (by decide)⟩ ?_
     refine yS (.box 26 [vb false,vs z0,vs z0]) 1 ⟨oA (aP _ _ pM)⟩ ?_
     refine aT [47,3,4,12,13,14,6,23,24,25,8] ?_
     obtain ⟨v8,hv8,h⟩:=zn h
     refine yx hn 2 ?_
     refine yk [3] [29,30,47] ?_
     refine kU (3,.box 28 [.fl (.own 5) 1 (map (int .u8) v8)]) (31,.tup []) 0 ⟨rm _ _ _ 31 29 3 47 179 [_,.tmp 30] _ _ _ _ rfl call179 rfl rfl rfl (fun _ h=>h) (eN mx (⟨#[82,67,80,84,32,84,79,58]⟩:Fa) v7 s76 _ hv8) rfl rfl rfl rfl rfl rfl rfl rfl⟩ ?_
     refine ye [47,3,4,12,13,14,6,23,24,25] ?_
     refine aJ (ag ?_)
     obtain ⟨v9,hv9,h⟩:=zn h
     refine yx hn 0 ?_
     refine ys 0 ⟨lb hv9⟩ ?_
     refine yw [25] 1 ?_
     refine ye [47,3,4,12,13,14,6,23,24,25] ?_
     exact bi _ (zi h).symm rfl
    ·have h:=aq hb86 h
     refine bh (aB (aB (bf ?_)))
     refine ah [0,1,2,3,4,5,6] (by kernel_rfl) (es':=[(_,_),(_,_),(_,_),(_,_),(_,_),(_,_),(_,_)]) rfl ?_
     exact hl81 _ (ho83 _ (zi h).symm).symm
  ·have h:=aq hb71 h
   refine bh (aB (aB (bf ?_)))
   refine ah [0,1] (by kernel_rfl) (es':=[(_,_),(_,_)]) rfl ?_
   exact hl66 _ (ho68 _ (zi h).symm).symm
theorem qS (divisor:Int) (r:(List Int)) (h:Sh.mB divisor=some r):bL Tryz.prog 202 [.v (.int .u32 divisor)] (.v (.agg (map (int .u32) r).toArray)):=by
 unfold Sh.mB at h
 refine yO 29 func202 fun g0 hn hio => ?_
 refine eC hn 0 ?_
 refine yS (.arr 222 (map (int .u32) ((List.replicate 16 (0:Int))))) 0 ⟨oA (bN _ vA)⟩ ?_
 refine aT [0,2] ?_
 refine eC hn 0 ?_
 refine yS (.arr 222 (map (int .u32) ((List.replicate 16 (0:Int))))) 0 ⟨oA (bN _ vA)⟩ ?_
 refine aT [0,2,3] ?_
 refine ab ?_
 refine aI hn 1 [0,2,3,7] ?_
 refine aX h (fun ((s91,s92):(List Int)×Int)=>[(0,.v (.int .u32 divisor)),(2,.arr 222 (map (int .u32) ((List.replicate 16 (0:Int))))),(3,.arr 222 (map (int .u32) s91)),(7,vi s92)]) (fun (s133:(List Int))=>[(2,.arr 222 (map (int .u32) ((List.replicate 16 (0:Int))))),(3,.arr 222 (map (int .u32) s133))]) ?_ ?_
 ·rintro s133 h
  refine ag (ab ?_)
  obtain ⟨v180,hv180,h⟩:=zn h
  obtain ⟨v181,hv181,h⟩:=zn h
  obtain ⟨v182,hv182,h⟩:=zn h
  refine yx hn 0 ?_
  refine yS (.v (.agg (map (int .u32) s133).toArray)) 0 ⟨fS _ _ _ _ underlying222 rfl (vR.trans (congrArg some (bq hv180))) rfl rfl⟩ ?_
  refine yk [2] [28] ?_
  refine yt (2,.arr 222 (map (int .u32) s133)) 0 ⟨bQ _ _ _ _ (vR.trans (congrArg some (bq hv182))) rfl rfl (ef (fun _=>rfl) _) ((bq (f:=int .u32) hv181).symm.trans (bq (f:=int .u32) hv182))⟩ ?_
  refine aT [2] ?_
  refine am ?_
  obtain ⟨v183,hv183,h⟩:=zn h
  obtain rfl:=zi h
  exact ao hio rfl (.cellR _ _ _ _ underlying222 rfl (vR.trans (congrArg some (bq hv183))) .nil) rfl rfl
 ·rintro u134 hl135 hr136 ⟨s91,s92⟩ rr139 h ho137
  refine aI hn 1 [0,2,3,7,8] ?_
  refine ab ?_
  refine al _ rfl (fun hb140 => ?_) (fun hb140 => ?_)
  ·have h:=ap hb140 h
   refine ar ?_
   refine ag (ab ?_)
   refine aH ?_
   refine aI hn 2 [0,2,3,7,4] ?_
   refine ab ?_
   obtain ⟨v2,hv2,h⟩:=zn h
   refine yx hn 1 ?_
   refine ys 1 ⟨lv hv2⟩ ?_
   refine aT [0,2,3,7,4,5] ?_
   refine ab ?_
   refine aI hn 1 [0,2,3,7,4,5,12] ?_
   refine aX h (fun ((s157,s158):Int×Int)=>[(0,.v (.int .u32 divisor)),(2,.arr 222 (map (int .u32) ((List.replicate 16 (0:Int))))),(3,.arr 222 (map (int .u32) s91)),(7,vi s92),(4,vi s92),(5,.v (.int .u32 s157)),(12,vi s158)]) (fun (s166:Int)=>[(0,.v (.int .u32 divisor)),(2,.arr 222 (map (int .u32) ((List.replicate 16 (0:Int))))),(3,.arr 222 (map (int .u32) s91)),(7,vi s92),(4,vi s92),(5,.v (.int .u32 s166))]) ?_ ?_
   ·rintro s166 h
    refine ag ?_
    obtain ⟨v46,hv46,h⟩:=zn h
    obtain ⟨v47,hv47,h⟩:=zn h
    refine yx hn 2 ?_
    refine yS (.ptr 3 v46) 0 ⟨cg _ _ _ _ 16 3 _ underlying222 fA rfl rfl (bk hv46).1 (bk hv46).2 (by decide)⟩ ?_
    refine yk [3] [26,25] ?_
    refine yt (3,.arr 222 (map (int .u32) v47)) 0 ⟨jE _ _ _ _ _ _ fA rfl rfl rfl rfl (uE hv47) (uz (f:=int .u32) hv47)⟩ ?_
    refine ye [0,2,3,7] ?_
    refine aJ (ag ?_)
    obtain ⟨v48,hv48,h⟩:=zn h
    refine yx hn 0 ?_
    refine ys 0 ⟨lb hv48⟩ ?_
    refine yw [7] 1 ?_
    refine ye [0,2,3,7] ?_
    exact bi _ (zi h).symm rfl
   ·rintro u167 hl168 hr169 ⟨s157,s158⟩ rr172 h ho170
    refine aI hn 1 [0,2,3,7,4,5,12,13] ?_
    refine ab ?_
    refine al _ rfl (fun hb173 => ?_) (fun hb173 => ?_)
    ·have h:=ap hb173 h
     refine ar ?_
     refine ag (ab ?_)
     refine aD h (fun (s175:Int)=>[(0,.v (.int .u32 divisor)),(2,.arr 222 (map (int .u32) ((List.replicate 16 (0:Int))))),(3,.arr 222 (map (int .u32) s91)),(7,vi s92),(4,vi s92),(12,vi s158),(5,.v (.int .u32 s175))]) ?_ ?_
     ·rintro s175 h
      refine ag ?_
      obtain ⟨v13,hv13,h⟩:=zn h
      refine yx hn 0 ?_
      refine ys 0 ⟨lb hv13⟩ ?_
      refine yw [12] 1 ?_
      refine ye [0,2,3,7,4,5,12] ?_
      exact bi _ (zi h).symm rfl
     ·intro u176 h hl177 hr178
      refine aH (ab ?_)
      obtain ⟨v4,hv4,h⟩:=zn h
      refine yx hn 1 ?_
      refine ys 1 ⟨lb hv4⟩ ?_
      refine aT [0,2,3,7,4,5,12,6] ?_
      refine ab ?_
      obtain ⟨v5,hv5,h⟩:=zn h
      refine yx hn 1 ?_
      refine ys 0 ⟨lB (jN hv5)⟩ ?_
      refine yw [5] 1 ?_
      refine aT [0,2,3,7,4,12,6,5] ?_
      refine aI hn 2 [0,2,3,7,4,12,5,19] ?_
      refine al _ rfl (fun hb179 => ?_) (fun hb179 => ?_)
      ·have h:=ap hb179 h
       obtain ⟨v7,hv7,h⟩:=zn h
       refine yx hn 2 ?_
       refine ys 0 ⟨lb hv7⟩ ?_
       refine yw [5] 1 ?_
       refine ye [0,2,3,7,4,12,5] ?_
       refine aJ ?_
       exact hl177 _ (zi h).symm
      ·have h:=aq hb179 h
       refine ar (aJ ?_)
       refine ah [0,1,2,3,4,5,6] (by kernel_rfl) (es':=[(_,_),(_,_),(_,_),(_,_),(_,_),(_,_),(_,_)]) rfl ?_
       exact hl177 _ (zi h).symm
    ·have h:=aq hb173 h
     refine bh (aB (aB (bf ?_)))
     refine ah [0,1,2,3,4,5] (by kernel_rfl) (es':=[(_,_),(_,_),(_,_),(_,_),(_,_),(_,_)]) rfl ?_
     exact hl168 _ (ho170 _ (zi h).symm).symm
  ·have h:=aq hb140 h
   refine bh (aB (aB (bf ?_)))
   refine ah [1,2] (by kernel_rfl) (es':=[(_,_),(_,_)]) rfl ?_
   exact hl135 _ (ho137 _ (zi h).symm).symm
theorem tn (b:(List Int)) (width:Int) (divisor:Int) (r:Int) (h:Sh.qk b width divisor=some r):bL Tryz.prog 182 [.fl .shr 1 (map (int .u8) b),.v (.int .i64 width),.v (.int .u32 divisor)] (.v (.int .i64 r)):=by
 unfold Sh.qk at h
 refine yO 47 func182 fun g0 hn hio => ?_
 refine aI hn 1 [0,1,2] ?_
 refine ab ?_
 obtain ⟨v1,hv1,h⟩:=zn h
 obtain ⟨v2,hv2,h⟩:=zn h
 obtain ⟨v3,hv3,h⟩:=zn h
 refine yx hn 1 ?_
 refine ys 0 ⟨lk call202 (qS _ _ hv1)⟩ ?_
 refine yS (.arr 222 (map (int .u32) ((List.replicate 16 (0:Int))))) 0 ⟨oA (bN _ vA)⟩ ?_
 refine yk [7] [13] ?_
 refine yt (7,.arr 222 (map (int .u32) v1)) 0 ⟨bQ _ _ _ _ (vR.trans (congrArg some (bq hv3))) rfl rfl (ef (fun _=>rfl) _) ((bq (f:=int .u32) hv2).symm.trans (bq (f:=int .u32) hv3))⟩ ?_
 refine aT [0,1,7] ?_
 refine ab ?_
 obtain ⟨v4,hv4,h⟩:=zn h
 obtain ⟨v5,hv5,h⟩:=zn h
 refine yx hn 1 ?_
 refine ys 0 ⟨lB (nN hv4)⟩ ?_
 refine ys 1 ⟨lb hv5⟩ ?_
 refine aT [0,7,8] ?_
 refine aI hn 2 [0,7,8,9] ?_
 refine ab ?_
 refine aI hn 3 [7,8,9,18,19,20] ?_
 refine aX h (fun ((s25,s26):Int×Int)=>[(7,.arr 222 (map (int .u32) v1)),(8,.v (.int .u32 v5)),(9,.v (.int .u32 s25)),(18,fb b),(19,vi (b.length:Int)),(20,vi s26)]) (fun (s28:Int)=>[(8,.v (.int .u32 v5)),(9,.v (.int .u32 s28))]) ?_ ?_
 ·rintro s28 h
  refine ag (ab ?_)
  obtain ⟨v36,hv36,h⟩:=zn h
  obtain ⟨v37,hv37,h⟩:=zn h
  refine yx hn 2 ?_
  refine ys 0 ⟨lb hv36⟩ ?_
  refine ys 1 ⟨lv hv37⟩ ?_
  refine aT [6] ?_
  refine am ?_
  obtain rfl:=zi h
  exact ao hio rfl (.tmp _ _ .nil) rfl rfl
 ·rintro u29 hl30 hr31 ⟨s25,s26⟩ rr34 h ho32
  refine aI hn 1 [7,8,9,18,19,20,21] ?_
  refine ab ?_
  refine al _ rfl (fun hb35 => ?_) (fun hb35 => ?_)
  ·have h:=ap hb35 h
   refine ar ?_
   refine ag (ab ?_)
   refine aH (ab ?_)
   obtain ⟨v7,hv7,h⟩:=zn h
   obtain ⟨v8,hv8,h⟩:=zn h
   refine yx hn 0 ?_
   refine ys 0 ⟨li hv7⟩ ?_
   refine ys 1 ⟨ll hv8⟩ ?_
   refine aT [7,8,9,18,19,20,11] ?_
   refine ab ?_
   obtain ⟨v9,hv9,h⟩:=zn h
   obtain ⟨v10,hv10,h⟩:=zn h
   refine yx hn 2 ?_
   refine ys 0 ⟨lv hv9⟩ ?_
   refine ys 0 ⟨lb hv10⟩ ?_
   refine yw [9] 1 ?_
   refine aT [7,8,18,19,20,9] ?_
   refine ab ?_
   obtain ⟨v11,hv11,h⟩:=zn h
   obtain ⟨v12,hv12,h⟩:=zn h
   obtain ⟨v13,hv13,h⟩:=zn h
   obtain ⟨v14,hv14,h⟩:=zn h
   obtain ⟨v15,hv15,h⟩:=zn h
   refine yx hn 1 ?_
   refine ys 1 ⟨lB (jN hv11)⟩ ?_
   refine ys 0 ⟨lB (jK hv12)⟩ ?_
   refine yS (.ptr 7 v13) 0 ⟨cg _ _ _ _ 16 7 _ underlying222 fA rfl rfl (bk hv13).1 (bk hv13).2 (by decide)⟩ ?_
   refine yS (.v (.int .u32 v14)) 0 ⟨bV _ _ _ _ _ _ underlying106 rfl rfl rfl (cC hv14)⟩ ?_
   refine ys 0 ⟨lb hv15⟩ ?_
   refine yw [9] 1 ?_
   refine aT [7,8,18,19,20,9] ?_
   obtain ⟨v16,hv16,h⟩:=zn h
   obtain ⟨v17,hv17,h⟩:=zn h
   obtain ⟨v18,hv18,h⟩:=zn h
   obtain ⟨v19,hv19,h⟩:=zn h
   obtain ⟨v20,hv20,h⟩:=zn h
   refine yx hn 1 ?_
   refine ys 1 ⟨lB (jN hv16)⟩ ?_
   refine ys 0 ⟨lB (jK hv17)⟩ ?_
   refine yS (.ptr 7 v18) 0 ⟨cg _ _ _ _ 16 7 _ underlying222 fA rfl rfl (bk hv18).1 (bk hv18).2 (by decide)⟩ ?_
   refine yS (.v (.int .u32 v19)) 0 ⟨bV _ _ _ _ _ _ underlying106 rfl rfl rfl (cC hv19)⟩ ?_
   refine ys 0 ⟨lb hv20⟩ ?_
   refine yw [9] 1 ?_
   refine ye [7,8,18,19,20,9] ?_
   refine aJ (ag ?_)
   obtain ⟨v21,hv21,h⟩:=zn h
   refine yx hn 0 ?_
   refine ys 0 ⟨lb hv21⟩ ?_
   refine yw [20] 1 ?_
   refine ye [7,8,18,19,9,20] ?_
   refine ah [0,1,4,2,3,5] (by kernel_rfl) (es':=[(_,_),(_,_),(_,_),(_,_),(_,_),(_,_)]) rfl ?_
   exact bi _ (zi h).symm rfl
  ·have h:=aq hb35 h
   refine bh (aB (aB (bf ?_)))
   refine ah [1,2] (by kernel_rfl) (es':=[(_,_),(_,_)]) rfl ?_
   exact hl30 _ (ho32 _ (zi h).symm).symm
theorem sj (b:(List Int)) (r:Int) (h:Sh.nO b=some r):bL Tryz.prog 153 [.fl .shr 1 (map (int .u8) b)] (.v (.int .i64 r)):=by
 unfold Sh.nO at h
 refine yO 5 func153 fun g0 hn hio => ?_
 refine aI hn 1 [0] ?_
 refine ab ?_
 obtain ⟨v1,hv1,h⟩:=zn h
 refine yx hn 1 ?_
 refine ys 1 ⟨lk call182 (tn _ _ _ _ hv1)⟩ ?_
 refine aT [2] ?_
 refine am ?_
 obtain rfl:=zi h
 exact ao hio rfl (.tmp _ _ .nil) rfl rfl
theorem oZ (mx:Int×Nat×Value) (b:cR) (r:((List Int)×Int)) (h:Sh.jU b=some r):fk Tryz.prog (GL mx) 130 [.agg [.v (.int .i64 b.EO),.v (.int .i64 b.EN),.fr .shr true 8 (flatten (map aU.ienc b.EL))]] (.tup [.mkr 5 (map (int .u8) r.1),.v (.int .i64 r.2)]):=by
 unfold Sh.jU at h
 refine yG 50 func130 fun g0 hn hio => ?_
 refine aI hn 3 [50,1] ?_
 refine ab (ab ?_)
 obtain ⟨v1,hv1,h⟩:=zn h
 refine yx hn 1 ?_
 refine ys 1 ⟨lg call151 (pb _ _ _ hv1) 50⟩ ?_
 refine aT [50,1,4] ?_
 refine aI hn 2 [50,1,4,13] ?_
 refine al _ rfl (fun hb46 => ?_) (fun hb46 => ?_)
 ·have h:=ap hb46 h
  refine aI hn 3 [50,2,3] ?_
  refine am ?_
  refine ah [1,2] (by kernel_rfl) (es':=[(_,_),(_,_)]) rfl ?_
  refine bT (fs:=[(2,.mkr 5 (map (int .u8) [])),(3,vi v1)]) (.sub _ (ej 5) rfl (.same _ .nil)) ?_
  refine ai ?_
  obtain rfl:=zi h
  exact ao hio rfl (.tmp _ _ (.tmp _ _ .nil)) rfl rfl
 ·have h:=aq hb46 h
  refine ar ?_
  refine ag (ab ?_)
  obtain ⟨v3,hv3,h⟩:=zn h
  refine yx hn 2 ?_
  refine ys 0 ⟨lg call152 (mq _ _ _ hv3) 50⟩ ?_
  refine ya 0 ?_
  refine aT [50,1,5] ?_
  refine aI hn 1 [50,1,5,6] ?_
  refine ab (ab ?_)
  obtain ⟨v4,hv4,h⟩:=zn h
  refine wb [[1],[18,1],[1],[20,1],[1],[22,1],[23],[5],[25,5],[5]] ?_
  refine wN [27,5] ?_
  refine wo [] ⟨lk call153 (sj _ _ hv4)⟩ ?_
  refine wN [19,21,24,26,28] ?_
  refine wS (.fl (.own 3) 1 (map (int .i64) [b.EO,b.EN,(b.EL.length:Int),(v3.length:Int),v4])) [[29],[]] ⟨bb _ _ 1 (.int .i64 0) (map (int .i64) [b.EO,b.EN,(b.EL.length:Int),(v3.length:Int),v4]) [(0,.int .i64 b.EO),(1,.int .i64 b.EN),(2,.int .i64 (b.EL.length:Int)),(3,.int .i64 (v3.length:Int)),(4,.int .i64 v4)] underlying31 Ar Dw (fun _ V w o a hv hes=>by have e0:=bK hv hes (x := .tmp 19) rfl; have e1:=bK hv hes (x := .tmp 21) rfl; have e2:=bK hv hes (x := .tmp 24) rfl; have e3:=bK hv hes (x := .tmp 26) rfl; have e4:=bK hv hes (x := .tmp 28) rfl; simp only [List.map_toArray,List.map_cons,List.map_nil,e0,e1,e2,e3,e4]; try rfl) (cn (by simp [Instr.fill,Value.cells]; rfl) (by simp [List.range,List.range.loop] <;> rfl)) (by simp [Value.oneCell']) rfl (by decide) (by decide) (by decide)⟩ ?_
  refine qR hn [50,5,6,29,30,31] ?_
  refine aX h (fun ((s51,s52):Fa×Int)=>[(50,.glob (GL mx)),(5,.fl (.own 5) 1 (map (int .u8) v3)),(6,vs s51),(29,.fl (.own 3) 1 (map (int .i64) [b.EO,b.EN,(b.EL.length:Int),(v3.length:Int),v4])),(30,vi ([b.EO,b.EN,(b.EL.length:Int),(v3.length:Int),v4].length:Int)),(31,vi s52)]) (fun (s54:Fa)=>[(50,.glob (GL mx)),(5,.fl (.own 5) 1 (map (int .u8) v3)),(6,vs s54)]) ?_ ?_
  ·rintro s54 h
   refine ag (ab ?_)
   obtain ⟨v26,hv26,h⟩:=zn h
   obtain ⟨v27,hv27,h⟩:=zn h
   obtain ⟨v44,hv44,h⟩:=zn h
   refine yx hn 1 ?_
   refine ys 0 ⟨lB (dW hv26)⟩ ?_
   refine ys 0 ⟨lU hv27⟩ ?_
   refine ym 0 ?_
   refine yk [43] [44] ?_
   refine kU (43,.any) (45,.mkr 5 (map (int .u8) v44)) 0 ⟨nP _ _ _ _ _ ia rfl rfl rfl rfl hv44 rfl⟩ ?_
   refine ya 0 ?_
   refine aT [50,9] ?_
   refine ab ?_
   refine eC hn 1 ?_
   refine yS (vi (v44.length:Int)) 1 ⟨lO _ _ _ underlying28 rfl (List.length_map _)⟩ ?_
   refine aT [50,9,48] ?_
   refine al _ rfl (fun hb62 => ?_) (fun hb62 => ?_)
   ·have h:=ap hb62 h
    refine aI hn 2 [50,2,3] ?_
    refine am ?_
    refine ah [1,2] (by kernel_rfl) (es':=[(_,_),(_,_)]) rfl ?_
    refine bT (fs:=[(2,.mkr 5 (map (int .u8) [])),(3,vi 2)]) (.sub _ (ej 5) rfl (.same _ .nil)) ?_
    refine ai ?_
    obtain rfl:=zi h
    exact ao hio rfl (.tmp _ _ (.tmp _ _ .nil)) rfl rfl
   ·have h:=aq hb62 h
    refine ar (ag ?_)
    refine eC hn 0 ?_
    refine ym 0 ?_
    refine ya 1 ?_
    refine aT [50,2,3] ?_
    refine am ?_
    refine ah [1,2] (by kernel_rfl) (es':=[(_,_),(_,_)]) rfl ?_
    obtain rfl:=zi h
    exact ao hio rfl (.tmp _ _ (.tmp _ _ .nil)) rfl rfl
  ·rintro u55 hl56 hr57 ⟨s51,s52⟩ rr60 h ho58
   refine aI hn 1 [50,5,6,29,30,31,32] ?_
   refine ab ?_
   refine al _ rfl (fun hb61 => ?_) (fun hb61 => ?_)
   ·have h:=ap hb61 h
    refine ar ?_
    refine ag (ab ?_)
    refine aH (ab ?_)
    obtain ⟨v6,hv6,h⟩:=zn h
    obtain ⟨v7,hv7,h⟩:=zn h
    refine yx hn 0 ?_
    refine ys 0 ⟨li hv6⟩ ?_
    refine ys 1 ⟨ll hv7⟩ ?_
    refine aT [50,5,6,29,30,31,8] ?_
    obtain ⟨v8,hv8,h⟩:=zn h
    obtain ⟨v9,hv9,h⟩:=zn h
    obtain ⟨v10,hv10,h⟩:=zn h
    refine yx hn 2 ?_
    refine ys 0 ⟨lg call150 (kh _ _ _ hv8) 50⟩ ?_
    refine ys 0 ⟨lB (dW hv9)⟩ ?_
    refine ys 0 ⟨lB (dW hv10)⟩ ?_
    refine yw [6] 1 ?_
    refine ye [50,5,29,30,31,6] ?_
    refine aJ (ag ?_)
    obtain ⟨v11,hv11,h⟩:=zn h
    refine yx hn 0 ?_
    refine ys 0 ⟨lb hv11⟩ ?_
    refine yw [31] 1 ?_
    refine ye [50,5,29,30,6,31] ?_
    refine ah [0,1,4,2,3,5] (by kernel_rfl) (es':=[(_,_),(_,_),(_,_),(_,_),(_,_),(_,_)]) rfl ?_
    exact bi _ (zi h).symm rfl
   ·have h:=aq hb61 h
    refine bh (aB (aB (bf ?_)))
    refine ah [0,1,2] (by kernel_rfl) (es':=[(_,_),(_,_),(_,_)]) rfl ?_
    exact hl56 _ (ho58 _ (zi h).symm).symm
theorem sC (mx:Int×Nat×Value) (m:aU) (r:Bool) (h:Sh.om m=some r):fk Tryz.prog (GL mx) 101 [.agg [.v (.bool m.EA.EM),.v (.string m.EA.EI),.v (.string m.EA.Ex),.fl .shr 3 (flatten (map ae.enc m.To)),.fl .shr 1 (map (int .u8) m.Et),.v (.bool m.EU),.v (.string m.EE),.v (.int .i64 m.At)]] (.v (.bool r)):=by
 unfold Sh.om at h
 refine yG 14 func101 fun g0 hn hio => ?_
 refine aI hn 2 [14,1] ?_
 refine ab ?_
 obtain ⟨v1,hv1,h⟩:=zn h
 refine yx hn 1 ?_
 refine yS (.fr (.own 53) true 8 (flatten (map aU.ienc [(aU.mk (ae.mk m.EA.EM m.EA.EI m.EA.Ex) m.To m.Et m.EU m.EE m.At)]))) 0 ⟨jG _ _ _ 8 (.agg #[.bool false,.string ByteArray.empty,.string ByteArray.empty,.slice none 0 0,.slice none 0 0,.bool false,.string ByteArray.empty,.int .i64 0]) true _ _ underlying60 xI xS rfl rfl (.cons (.v _) (.cons (.v _) (.cons (.v _) (.cons (.shr _ _ rfl rfl) (.cons (.shr _ _ rfl rfl) (.cons (.v _) (.cons (.v _) (.cons (.v _) (.nil))))))))) rfl (by decide) (by decide)⟩ ?_
 refine yk [7] [] ?_
 refine yt (8,.agg [vi 0,vi 65535,.fr (.own 53) true 8 (flatten (map aU.ienc [(aU.mk (ae.mk m.EA.EM m.EA.EI m.EA.Ex) m.To m.Et m.EU m.EE m.At)]))]) 0 ⟨bn _ _ _ _ [1,1,1] _ _ underlying62 Dh (CV _ underlying62) (.copy _ (.take _ _ km.nil)) rfl rfl rfl⟩ ?_
 refine ys 0 ⟨lg call130 (oZ _ _ _ hv1) 14⟩ ?_
 refine ym 0 ?_
 refine CF 1 ?_
 refine ya 1 ?_
 refine aT [14,4] ?_
 refine aI hn 3 [14,2] ?_
 refine am ?_
 refine ah [1] (by kernel_rfl) (es':=[(_,_)]) rfl ?_
 obtain rfl:=zi h
 exact ao hio rfl (.tmp _ _ .nil) rfl rfl
end Go.Proofs.YtjnnkhmhjcjhdaaGreatDoor
