/-
  The model's runs are what is told in Lean.
-/
import Derived.Test.YtjnnkhmhjcjhdaaGreatDoorProg
import Derived.KernelRfl
import Derived.Test.YtjnnkhmhjcjhdaaGreatDoorShelf
import Derived.Test.YtjnnkhmhjcjhdaaGreatDoorIdx
import Derived.Test.YtjnnkhmhjcjhdaaGreatDoorB3
import Derived.Test.YtjnnkhmhjcjhdaaGreatDoorC1
import Derived.Test.YtjnnkhmhjcjhdaaGreatDoorBC
import Derived.Test.YtjnnkhmhjcjhdaaGreatDoorOkc3
set_option linter.unusedVariables false
set_option linter.unusedSimpArgs false
set_option maxHeartbeats 1000000
namespace Go.Proofs.YtjnnkhmhjcjhdaaGreatDoor
open Go.Abs Go.Abs.Sh Tryz
open List (map flatten)
open Value (int)
theorem jp (mx:Int×Nat×Value) (p:cz) (r:Int) (h:Sh.qi p=some r):qT Tryz.prog (GL mx) 162 [.agg [.v (.bool p.Null), .v (.string p.Local), .v (.string p.Domain)]] (.v (.int .i64 r)):=by
  unfold Sh.qi at h
  refine yG 27 func162 fun g0 hn hio => ?_
  refine eo hn 2 [27,1] ?_
  refine oh hn 1 ?_
  refine yS (.agg [vb true,vs z0,vs z0]) 0 ⟨fJ _ _ _ _ [1,1,1] _ _ underlying26 Ab (JD _ underlying26) (.copy _ uY.nil) rfl rfl rfl⟩ ?_
  refine yS (vb ((p.Null==true)&&((p.Local.toList==z0.toList)&&((p.Domain.toList==z0.toList)&&true)))) 1 ⟨Qg _ _ [.bool p.Null,.string p.Local,.string p.Domain] [.bool true,.string z0,.string z0] (((p.Null==true)&&((p.Local.toList==z0.toList)&&((p.Domain.toList==z0.toList)&&true)))) _ false (by kernel_rfl) (by kernel_rfl) (by kernel_rfl) (by kernel_rfl) (by kernel_rfl) rfl rfl rfl rfl (by kernel_rfl) rfl⟩ ?_
  refine eS [27,1,3] ?_
  refine bq ?_
  refine dO h (fun (s3:Bool)=>[(27,.glob (GL mx)),(3,vb ((p.Null==true)&&((p.Local.toList==z0.toList)&&((p.Domain.toList==z0.toList)&&true)))),(4,vb s3)]) ?_ ?_
  ·rintro s3 h
   refine cr (bq ?_)
   refine bq ?_
   refine dO h (fun (s7:Bool)=>[(27,.glob (GL mx)),(26,vb s7)]) ?_ ?_
   ·rintro s7 h
    refine cr ?_
    refine cU _ rfl (fun hb11 => ?_) (fun hb11 => ?_)
    ·have h:=dn hb11 h
     refine eo hn 1 [27,2] ?_
     refine cY ?_
     refine cw [1] (by kernel_rfl) (es':=[(_,_)]) rfl ?_
     refine cT ?_
     obtain rfl:=zi h
     exact dq hio rfl (.tmp _ _ .nil) rfl rfl
    ·have h:=dj hb11 h
     refine dw ?_
     refine cr ?_
     refine eo hn 1 [27,2] ?_
     refine cY ?_
     refine cw [1] (by kernel_rfl) (es':=[(_,_)]) rfl ?_
     obtain rfl:=zi h
     exact dq hio rfl (.tmp _ _ .nil) rfl rfl
   ·intro u8 h hl9 hr10
    refine cZ h (fun hg3_2 h => ?_) (fun hg3_2 h => ?_)
    ·refine yx hn 3 ?_
     refine yd hg3_2 3 ?_
     refine ye [27,26] ?_
     exact hl9 _ (zi h).symm
    ·refine yx hn 3 ?_
     refine yd hg3_2 3 ?_
     refine ye [27,26] ?_
     exact hl9 _ (zi h).symm
  ·intro u4 h hl5 hr6
   refine cZ h (fun hg2_3 h => ?_) (fun hg2_3 h => ?_)
   ·obtain ⟨v1, hv1, h⟩:=zn h
    refine cZ h (fun hg2_8 h => ?_) (fun hg2_8 h => ?_)
    ·obtain ⟨v2, hv2, h⟩:=zn h
     refine yx hn 4 ?_
     refine yd hg2_3 2 ?_
     refine ys 2 ⟨lg call194 (zT _ _ _ hv1) 27⟩ ?_
     refine yd hg2_8 2 ?_
     refine ys 2 ⟨lg call55 (ib _ _ _ hv2) 27⟩ ?_
     refine ye [27,3,4] ?_
     exact hl5 _ (zi h).symm
    ·refine yx hn 4 ?_
     refine yd hg2_3 2 ?_
     refine ys 2 ⟨lg call194 (zT _ _ _ hv1) 27⟩ ?_
     refine yd hg2_8 5 ?_
     refine ye [27,3,4] ?_
     exact hl5 _ (zi h).symm
   ·refine yx hn 4 ?_
    refine yd hg2_3 10 ?_
    refine ye [27,3,4] ?_
    exact hl5 _ (zi h).symm
theorem rp (mx:Int×Nat×Value) (m:fe) (r:Bool) (h:Sh.tM m=some r):qT Tryz.prog (GL mx) 201 [.agg [.v (.bool m.From.Null), .v (.string m.From.Local), .v (.string m.From.Domain), .fl .shr 3 (flatten (map cz.enc m.To)), .fl .shr 1 (map (int .u8) m.Body), .v (.bool m.Quiet), .v (.string m.Helo), .v (.int .i64 m.At)]] (.v (.bool r)):=by
  unfold Sh.tM at h
  refine yG 36 func201 fun g0 hn hio => ?_
  refine eo hn 2 [36,1] ?_
  refine bq ?_
  refine bq ?_
  refine dO h (fun (s2:Bool)=>[(36,.glob (GL mx)),(1,.box 53 (fe.c m [])),(20,vb s2)]) ?_ ?_
  ·rintro s2 h
   refine cr ?_
   refine cU _ rfl (fun hb6 => ?_) (fun hb6 => ?_)
   ·have h:=dn hb6 h
    refine eo hn 1 [36,2] ?_
    refine cY ?_
    refine cw [1] (by kernel_rfl) (es':=[(_,_)]) rfl ?_
    refine cT ?_
    obtain rfl:=zi h
    exact dq hio rfl (.tmp _ _ .nil) rfl rfl
   ·have h:=dj hb6 h
    refine dw ?_
    refine cr (bq ?_)
    refine eo hn 4 [36,22,23,24] ?_
    refine eR h (fun (s24:Int)=>[(36,.glob (GL mx)),(22,.fl .shr 3 (flatten (map cz.enc m.To))),(23,vi (m.To.length:Int)),(24,vi s24)]) (fun (():Unit)=>[(36,.glob (GL mx))]) ?_ ?_
    ·rintro ⟨⟩ h
     refine cr ?_
     refine eo hn 1 [36,2] ?_
     refine cY ?_
     refine cw [1] (by kernel_rfl) (es':=[(_,_)]) rfl ?_
     obtain rfl:=zi h
     exact dq hio rfl (.tmp _ _ .nil) rfl rfl
    ·rintro u31 hl32 hr33 s24 rr36 h ho34
     refine eo hn 1 [36,22,23,24,25] ?_
     refine bq ?_
     refine cU _ rfl (fun hb37 => ?_) (fun hb37 => ?_)
     ·have h:=dn hb37 h
      refine dw ?_
      refine cr (bq ?_)
      refine dY ?_
      refine bq ?_
      obtain ⟨v8, hv8, h⟩:=zn h
      obtain ⟨v9, hv9, h⟩:=zn h
      refine yx hn 0 ?_
      refine ys 0 ⟨lj hv8⟩ ?_
      refine yS (.agg [vb v9.Null,vs v9.Local,vs v9.Domain]) 0 ⟨vT _ _ _ _ _ _ _ underlying26 rfl LQ rfl rfl (BV cz.len hv9) rfl (by decide)⟩ ?_
      refine yS (.box 26 [vb false,vs z0,vs z0]) 1 ⟨oA (fj _ _ Ab)⟩ ?_
      refine eS [36,22,23,24,4] ?_
      refine bq ?_
      refine dO h (fun (s38:Bool)=>[(36,.glob (GL mx)),(22,.fl .shr 3 (flatten (map cz.enc m.To))),(23,vi (m.To.length:Int)),(24,vi s24),(34,vb s38)]) ?_ ?_
      ·rintro s38 h
       refine cr ?_
       refine cU _ rfl (fun hb42 => ?_) (fun hb42 => ?_)
       ·have h:=dn hb42 h
        refine eo hn 1 [36,2] ?_
        refine cY ?_
        refine cw [1] (by kernel_rfl) (es':=[(_,_)]) rfl ?_
        refine eA ?_
        refine cT ?_
        refine cT ?_
        refine eA ?_
        refine cT ?_
        have h:=hr33 _ (ho34 _ (zi h).symm).symm
        obtain rfl:=zi h
        exact dq hio rfl (.tmp _ _ .nil) rfl rfl
       ·have h:=dj hb42 h
        refine dw ?_
        refine ep ?_
        refine cr ?_
        obtain ⟨v16, hv16, h⟩:=zn h
        refine yx hn 0 ?_
        refine ys 0 ⟨lb hv16⟩ ?_
        refine yw [24] 1 ?_
        refine ye [36,22,23,24] ?_
        exact fx _ (zi h).symm rfl
      ·intro u39 h hl40 hr41
       obtain ⟨v10, hv10, h⟩:=zn h
       refine cZ h (fun hg6_3 h => ?_) (fun hg6_3 h => ?_)
       ·refine yx hn 1 ?_
        refine ys 2 ⟨lg call162 (jp _ _ _ hv10) 36⟩ ?_
        refine yd hg6_3 3 ?_
        refine ye [36,22,23,24,34] ?_
        exact hl40 _ (zi h).symm
       ·refine yx hn 1 ?_
        refine ys 2 ⟨lg call162 (jp _ _ _ hv10) 36⟩ ?_
        refine yd hg6_3 3 ?_
        refine ye [36,22,23,24,34] ?_
        exact hl40 _ (zi h).symm
     ·have h:=dj hb37 h
      refine fp ?_
      refine dB ?_
      refine dB ?_
      refine fq ?_
      refine cw [0] (by kernel_rfl) (es':=[(_,_)]) rfl ?_
      exact hl32 _ (ho34 _ (zi h).symm).symm
  ·intro u3 h hl4 hr5
   obtain ⟨v1, hv1, h⟩:=zn h
   refine cZ h (fun hg1_4 h => ?_) (fun hg1_4 h => ?_)
   ·refine yx hn 2 ?_
    refine ys 2 ⟨lg call162 (jp _ _ _ hv1) 36⟩ ?_
    refine yd hg1_4 11 ?_
    refine ye [36,1,20] ?_
    exact hl4 _ (zi h).symm
   ·refine cZ h (fun hg1_10 h => ?_) (fun hg1_10 h => ?_)
    ·refine yx hn 2 ?_
     refine ys 2 ⟨lg call162 (jp _ _ _ hv1) 36⟩ ?_
     refine yd hg1_4 6 ?_
     refine yd hg1_10 5 ?_
     refine ye [36,1,20] ?_
     exact hl4 _ (zi h).symm
    ·refine yx hn 2 ?_
     refine ys 2 ⟨lg call162 (jp _ _ _ hv1) 36⟩ ?_
     refine yd hg1_4 6 ?_
     refine yd hg1_10 5 ?_
     refine ye [36,1,20] ?_
     exact hl4 _ (zi h).symm
theorem mA (mx:Int×Nat×Value) (m:fe) (r:Bool) (h:Sh.sh m=some r):qT Tryz.prog (GL mx) 178 [.agg [.v (.bool m.From.Null), .v (.string m.From.Local), .v (.string m.From.Domain), .fl .shr 3 (flatten (map cz.enc m.To)), .fl .shr 1 (map (int .u8) m.Body), .v (.bool m.Quiet), .v (.string m.Helo), .v (.int .i64 m.At)]] (.v (.bool r)):=by
  unfold Sh.sh at h
  refine yG 17 func178 fun g0 hn hio => ?_
  refine eo hn 2 [17,1] ?_
  refine bq ?_
  refine dO h (fun (s3:Bool)=>[(17,.glob (GL mx)),(2,vb s3)]) ?_ ?_
  ·rintro s3 h
   refine cr (cY ?_)
   refine cw [1] (by kernel_rfl) (es':=[(_,_)]) rfl ?_
   obtain rfl:=zi h
   exact dq hio rfl (.tmp _ _ .nil) rfl rfl
  ·intro u4 h hl5 hr6
   obtain ⟨v1, hv1, h⟩:=zn h
   refine cZ h (fun hg1_2 h => ?_) (fun hg1_2 h => ?_)
   ·refine cZ h (fun hg1_8 h => ?_) (fun hg1_8 h => ?_)
    ·obtain ⟨v2, hv2, h⟩:=zn h
     refine yx hn 1 ?_
     refine ys 1 ⟨lg call201 (rp _ _ _ hv1) 17⟩ ?_
     refine yd hg1_2 6 ?_
     refine yd hg1_8 2 ?_
     refine ys 3 ⟨lg call95 (sB _ _ _ hv2) 17⟩ ?_
     refine ye [17,2] ?_
     exact hl5 _ (zi h).symm
    ·refine yx hn 1 ?_
     refine ys 1 ⟨lg call201 (rp _ _ _ hv1) 17⟩ ?_
     refine yd hg1_2 6 ?_
     refine yd hg1_8 6 ?_
     refine ye [17,2] ?_
     exact hl5 _ (zi h).symm
   ·refine yx hn 1 ?_
    refine ys 1 ⟨lg call201 (rp _ _ _ hv1) 17⟩ ?_
    refine yd hg1_2 12 ?_
    refine ye [17,2] ?_
    exact hl5 _ (zi h).symm
theorem Eu (mx:Int×Nat×Value) (b:ld) (r:Int) (h:Sh.ww b=some r):qT Tryz.prog (GL mx) 151 [.agg [.v (.int .i64 b.Origin), .v (.int .i64 b.Number), .fr .shr true 8 (flatten (map fe.ienc b.Mails))]] (.v (.int .i64 r)):=by
  unfold Sh.ww at h
  refine yG 58 func151 fun g0 hn hio => ?_
  refine eo hn 2 [58,1] ?_
  refine bq ?_
  refine bq ?_
  refine dO h (fun (s1:Bool)=>[(58,.glob (GL mx)),(1,.box 62 [vi b.Origin,vi b.Number,.fr .shr true 8 (flatten (map fe.ienc b.Mails))]),(22,vb s1)]) ?_ ?_
  ·rintro s1 h
   refine cr ?_
   refine cU _ rfl (fun hb5 => ?_) (fun hb5 => ?_)
   ·have h:=dn hb5 h
    refine eo hn 1 [58,2] ?_
    refine cY ?_
    refine cw [1] (by kernel_rfl) (es':=[(_,_)]) rfl ?_
    refine cT ?_
    obtain rfl:=zi h
    exact dq hio rfl (.tmp _ _ .nil) rfl rfl
   ·have h:=dj hb5 h
    refine dw ?_
    refine cr (bq ?_)
    refine bq ?_
    refine dO h (fun (s6:Bool)=>[(58,.glob (GL mx)),(1,.box 62 [vi b.Origin,vi b.Number,.fr .shr true 8 (flatten (map fe.ienc b.Mails))]),(32,vb s6)]) ?_ ?_
    ·rintro s6 h
     refine cr ?_
     refine cU _ rfl (fun hb10 => ?_) (fun hb10 => ?_)
     ·have h:=dn hb10 h
      refine eo hn 1 [58,2] ?_
      refine cY ?_
      refine cw [1] (by kernel_rfl) (es':=[(_,_)]) rfl ?_
      refine cT ?_
      obtain rfl:=zi h
      exact dq hio rfl (.tmp _ _ .nil) rfl rfl
     ·have h:=dj hb10 h
      refine dw ?_
      refine cr (bq ?_)
      refine eo hn 4 [58,34,35,36] ?_
      refine eR h (fun (s28:Int)=>[(58,.glob (GL mx)),(34,.fr .shr true 8 (flatten (map fe.ienc b.Mails))),(35,vi (b.Mails.length:Int)),(36,vi s28)]) (fun (():Unit)=>[(58,.glob (GL mx))]) ?_ ?_
      ·rintro ⟨⟩ h
       refine cr ?_
       refine eo hn 1 [58,2] ?_
       refine cY ?_
       refine cw [1] (by kernel_rfl) (es':=[(_,_)]) rfl ?_
       obtain rfl:=zi h
       exact dq hio rfl (.tmp _ _ .nil) rfl rfl
      ·rintro u35 hl36 hr37 s28 rr40 h ho38
       refine eo hn 1 [58,34,35,36,37] ?_
       refine bq ?_
       refine cU _ rfl (fun hb41 => ?_) (fun hb41 => ?_)
       ·have h:=dn hb41 h
        refine dw ?_
        refine cr (bq ?_)
        refine dY ?_
        refine bq ?_
        obtain ⟨v12, hv12, h⟩:=zn h
        obtain ⟨v13, hv13, h⟩:=zn h
        refine yx hn 0 ?_
        refine ys 0 ⟨lI hv12⟩ ?_
        refine yS (.agg (fe.c v13 [])) 0 ⟨Ed _ _ _ _ _ _ _ _ underlying53 rfl Rf rfl rfl (DM fe.ilen hv13) (.cons (.v _) (.cons (.v _) (.cons (.v _) (.cons (.fl _ _ rfl) (.cons (.fl _ _ rfl) (.cons (.v _) (.cons (.v _) (.cons (.v _) (.nil))))))))) rfl (by decide)⟩ ?_
        refine yS (.box 53 [vb false,vs z0,vs z0,vz,vz,vb false,vs z0,vi 0]) 1 ⟨oA (fj _ _ QM)⟩ ?_
        refine eS [58,34,35,36,4] ?_
        refine bq ?_
        refine dO h (fun (s42:Bool)=>[(58,.glob (GL mx)),(34,.fr .shr true 8 (flatten (map fe.ienc b.Mails))),(35,vi (b.Mails.length:Int)),(36,vi s28),(56,vb s42)]) ?_ ?_
        ·rintro s42 h
         refine cr ?_
         refine cU _ rfl (fun hb46 => ?_) (fun hb46 => ?_)
         ·have h:=dn hb46 h
          refine eo hn 1 [58,2] ?_
          refine cY ?_
          refine cw [1] (by kernel_rfl) (es':=[(_,_)]) rfl ?_
          refine eA ?_
          refine cT ?_
          refine cT ?_
          refine eA ?_
          refine cT ?_
          have h:=hr37 _ (ho38 _ (zi h).symm).symm
          obtain rfl:=zi h
          exact dq hio rfl (.tmp _ _ .nil) rfl rfl
         ·have h:=dj hb46 h
          refine dw ?_
          refine ep ?_
          refine cr ?_
          obtain ⟨v20, hv20, h⟩:=zn h
          refine yx hn 0 ?_
          refine ys 0 ⟨lb hv20⟩ ?_
          refine yw [36] 1 ?_
          refine ye [58,34,35,36] ?_
          exact fx _ (zi h).symm rfl
        ·intro u43 h hl44 hr45
         obtain ⟨v14, hv14, h⟩:=zn h
         refine cZ h (fun hg8_3 h => ?_) (fun hg8_3 h => ?_)
         ·refine yx hn 1 ?_
          refine ys 2 ⟨lg call178 (mA _ _ _ hv14) 58⟩ ?_
          refine yd hg8_3 13 ?_
          refine ye [58,34,35,36,56] ?_
          exact hl44 _ (zi h).symm
         ·refine cZ h (fun hg8_7 h => ?_) (fun hg8_7 h => ?_)
          ·refine yx hn 1 ?_
           refine ys 2 ⟨lg call178 (mA _ _ _ hv14) 58⟩ ?_
           refine yd hg8_3 4 ?_
           refine yd hg8_7 9 ?_
           refine ye [58,34,35,36,56] ?_
           exact hl44 _ (zi h).symm
          ·refine cZ h (fun hg8_12 h => ?_) (fun hg8_12 h => ?_)
           ·refine yx hn 1 ?_
            refine ys 2 ⟨lg call178 (mA _ _ _ hv14) 58⟩ ?_
            refine yd hg8_3 4 ?_
            refine yd hg8_7 5 ?_
            refine yd hg8_12 4 ?_
            refine ye [58,34,35,36,56] ?_
            exact hl44 _ (zi h).symm
           ·refine yx hn 1 ?_
            refine ys 2 ⟨lg call178 (mA _ _ _ hv14) 58⟩ ?_
            refine yd hg8_3 4 ?_
            refine yd hg8_7 5 ?_
            refine yd hg8_12 4 ?_
            refine ye [58,34,35,36,56] ?_
            exact hl44 _ (zi h).symm
       ·have h:=dj hb41 h
        refine fp ?_
        refine dB ?_
        refine dB ?_
        refine fq ?_
        refine cw [0] (by kernel_rfl) (es':=[(_,_)]) rfl ?_
        exact hl36 _ (ho38 _ (zi h).symm).symm
    ·intro u7 h hl8 hr9
     refine cZ h (fun hg3_4 h => ?_) (fun hg3_4 h => ?_)
     ·refine yx hn 5 ?_
      refine yd hg3_4 5 ?_
      refine ye [58,1,32] ?_
      exact hl8 _ (zi h).symm
     ·refine yx hn 5 ?_
      refine yd hg3_4 5 ?_
      refine ye [58,1,32] ?_
      exact hl8 _ (zi h).symm
  ·intro u2 h hl3 hr4
   refine cZ h (fun hg1_3 h => ?_) (fun hg1_3 h => ?_)
   ·refine cZ h (fun hg1_8 h => ?_) (fun hg1_8 h => ?_)
    ·refine yx hn 4 ?_
     refine yd hg1_3 5 ?_
     refine yd hg1_8 9 ?_
     refine ye [58,1,22] ?_
     exact hl3 _ (zi h).symm
    ·refine cZ h (fun hg1_13 h => ?_) (fun hg1_13 h => ?_)
     ·refine yx hn 4 ?_
      refine yd hg1_3 5 ?_
      refine yd hg1_8 5 ?_
      refine yd hg1_13 4 ?_
      refine ye [58,1,22] ?_
      exact hl3 _ (zi h).symm
     ·refine yx hn 4 ?_
      refine yd hg1_3 5 ?_
      refine yd hg1_8 5 ?_
      refine yd hg1_13 4 ?_
      refine ye [58,1,22] ?_
      exact hl3 _ (zi h).symm
   ·refine cZ h (fun hg1_13 h => ?_) (fun hg1_13 h => ?_)
    ·refine yx hn 4 ?_
     refine yd hg1_3 10 ?_
     refine yd hg1_13 4 ?_
     refine ye [58,1,22] ?_
     exact hl3 _ (zi h).symm
    ·refine yx hn 4 ?_
     refine yd hg1_3 10 ?_
     refine yd hg1_13 4 ?_
     refine ye [58,1,22] ?_
     exact hl3 _ (zi h).symm
theorem Kl (mx:Int×Nat×Value) (p:cz) (r:(ByteArray×Int)) (h:Sh.Dj p=some r):qT Tryz.prog (GL mx) 180 [.agg [.v (.bool p.Null), .v (.string p.Local), .v (.string p.Domain)]] (.tup [.v (.string r.1), .v (.int .i64 r.2)]):=by
  unfold Sh.Dj at h
  refine yG 20 func180 fun g0 hn hio => ?_
  refine eo hn 3 [20,1] ?_
  refine bq ?_
  refine bq ?_
  obtain ⟨v1, hv1, h⟩:=zn h
  refine yx hn 1 ?_
  refine ys 1 ⟨lg call162 (jp _ _ _ hv1) 20⟩ ?_
  refine eS [20,1,4] ?_
  refine eo hn 2 [20,1,4,8] ?_
  refine cU _ rfl (fun hb2 => ?_) (fun hb2 => ?_)
  ·have h:=dn hb2 h
   refine eo hn 3 [20,2,3] ?_
   refine cY ?_
   refine cw [1,2] (by kernel_rfl) (es':=[(_,_),(_,_)]) rfl ?_
   refine cT ?_
   obtain rfl:=zi h
   exact dq hio rfl (.tmp _ _ (.tmp _ _ .nil)) rfl rfl
  ·have h:=dj hb2 h
   refine dw ?_
   refine cr (bq ?_)
   refine eo hn 2 [20,1,11] ?_
   refine cU _ rfl (fun hb3 => ?_) (fun hb3 => ?_)
   ·have h:=dn hb3 h
    refine eo hn 2 [20,2,3] ?_
    refine cY ?_
    refine cw [1,2] (by kernel_rfl) (es':=[(_,_),(_,_)]) rfl ?_
    refine cT ?_
    obtain rfl:=zi h
    exact dq hio rfl (.tmp _ _ (.tmp _ _ .nil)) rfl rfl
   ·have h:=dj hb3 h
    refine dw ?_
    refine cr (bq ?_)
    obtain ⟨v4, hv4, h⟩:=zn h
    obtain ⟨v5, hv5, h⟩:=zn h
    obtain ⟨v6, hv6, h⟩:=zn h
    obtain ⟨v7, hv7, h⟩:=zn h
    refine yx hn 2 ?_
    refine ys 0 ⟨lB (kF hv4)⟩ ?_
    refine ys 2 ⟨lB (kF hv5)⟩ ?_
    refine ys 0 ⟨lB (kF hv6)⟩ ?_
    refine ys 2 ⟨lB (kF hv7)⟩ ?_
    refine eS [20,2,3] ?_
    refine cY ?_
    refine cw [1,2] (by kernel_rfl) (es':=[(_,_),(_,_)]) rfl ?_
    obtain rfl:=zi h
    exact dq hio rfl (.tmp _ _ (.tmp _ _ .nil)) rfl rfl
theorem pT (mx:Int×Nat×Value) (word:ByteArray) (p:cz) (cap:(List Int)) (r:(List Int)) (h:Sh.lw word p cap=some r):xD Tryz.prog (GL mx) 179 [.v (.string word), .agg [.v (.bool p.Null), .v (.string p.Local), .v (.string p.Domain)], .box 28 [.fl (.own 5) 1 (map (int .u8) cap)]] [.v (.string word), .agg [.v (.bool p.Null), .v (.string p.Local), .v (.string p.Domain)], .box 28 [.fl (.own 5) 1 (map (int .u8) r)]] (.tup []):=by
  unfold Sh.lw at h
  refine RA 18 func179 fun args0 hargs0 g0 hn hio => ?_
  refine eo hn 1 [0,1,2,18,4,0,1,2] ?_
  refine bq ?_
  obtain ⟨v1, hv1, h⟩:=zn h
  refine yx hn 1 ?_
  refine ys 0 ⟨lg call180 (Kl _ _ _ hv1) 18⟩ ?_
  refine ym 4 ?_
  refine eS [0,1,2,18,5,0,1,2] ?_
  obtain ⟨v2, hv2, h⟩:=zn h
  obtain ⟨v3, hv3, h⟩:=zn h
  obtain ⟨v4, hv4, h⟩:=zn h
  refine yx hn 3 ?_
  refine ys 0 ⟨lB (kF hv2)⟩ ?_
  refine ys 0 ⟨lB (kF hv3)⟩ ?_
  refine yk [2] [12,16] ?_
  refine wX (2,.box 28 [.any]) (17,.fl (.own 5) 1 (map (int .u8) v4)) 0 ⟨lQ _ _ _ _ _ _ pF EP underlying9 rfl rfl (zl rfl) rfl rfl hv4 rfl (Nat.ne_of_beq_eq_false rfl) rfl rfl⟩ ?_
  refine yw [12] 0 ?_
  refine yk [17,2] [] ?_
  refine yt (2,.box 28 [.fl (.own 5) 1 (map (int .u8) v4)]) 0 ⟨eD _ _ _ _ _ _ _ _ uE rfl rfl rfl (zl rfl) rfl rfl⟩ ?_
  refine ye [0,1,2,18,0,1,2] ?_
  refine cw [0,1,2,4,5,6] (by kernel_rfl) (es':=[(_,_),(_,_),(_,_),(_,_),(_,_),(_,_)]) rfl ?_
  obtain rfl:=zi h
  exact up (es:=[]) (posts:=[.v (.string word), .agg [.v (.bool p.Null),.v (.string p.Local),.v (.string p.Domain)], .box 28 [.fl (.own 5) 1 (map (int .u8) v4)]]) hio rfl rfl .nil rfl rfl hargs0 rfl
theorem HZ (mx:Int×Nat×Value) (b:(List Int)) (r:((List Int)×Int)) (h:Sh.Bb b=some r):qT Tryz.prog (GL mx) 181 [.fl .shr 1 (map (int .u8) b)] (.tup [.fl (.own 5) 1 (map (int .u8) r.1), .v (.int .i64 r.2)]):=by
  unfold Sh.Bb at h
  refine yG 28 func181 fun g0 hn hio => ?_
  refine eo hn 2 [0,28] ?_
  refine bq ?_
  refine bq ?_
  obtain ⟨v1, hv1, h⟩:=zn h
  refine yx hn 1 ?_
  refine ys 1 ⟨lg call95 (sB _ _ _ hv1) 28⟩ ?_
  refine eS [0,28,4] ?_
  refine eo hn 2 [0,28,4,10] ?_
  refine cU _ rfl (fun hb2 => ?_) (fun hb2 => ?_)
  ·have h:=dn hb2 h
   refine eo hn 3 [28,2,3] ?_
   refine cY ?_
   refine cw [1,2] (by kernel_rfl) (es':=[(_,_),(_,_)]) rfl ?_
   refine iZ (fs:=[(2,.fl (.own 5) 1 (map (int .u8) [])),(3,vi v1)]) (.sub _ (gr 5 1) rfl (.same _ .nil)) ?_
   refine cT ?_
   obtain rfl:=zi h
   exact dq hio rfl (.tmp _ _ (.tmp _ _ .nil)) rfl rfl
  ·have h:=dj hb2 h
   refine dw ?_
   refine cr ?_
   refine oh hn 0 ?_
   refine yS (.box 28 [vz]) 0 ⟨oA (fj _ _ SW)⟩ ?_
   refine eS [0,28,5] ?_
   refine bq ?_
   refine bq ?_
   obtain ⟨v3, hv3, h⟩:=zn h
   refine yx hn 1 ?_
   refine yk [] [12] ?_
   refine yt (13,.cloB 123 [.box 28 [fb v3]]) 0 ⟨pO _ _ 96 _ _ rfl call96 rfl rfl (pS b _ hv3) rfl⟩ ?_
   refine eS [28,5,13] ?_
   refine dY ?_
   refine sw [2,0,1] (by kernel_rfl) (es':=[(13,.cloB 123 [.box 28 [fb v3]]),(28,.glob (GL mx)),(5,.box 28 [vz])]) rfl ?_
   refine Br (fs:=[(13,.cloB 123 [.box 28 [fb v3]]),(28,.glob (GL mx)),(5,.box 28 [.fl (.own 5) 1 (map (int .u8) [])])]) (.same _ (.same _ (.box _ _ (bI (gr 5 1) (fM)) rfl .nil))) ?_
   refine qQ h 123 13 14 29 _ [28, 5] call123 (fun (s21:(List Int))=>[(28, .glob (GL mx)), (5, .box 28 [.fl (.own 5) 1 (map (int .u8) s21)])]) (fun (():Unit)=>[]) (fun l J Y hY t t' h=>nD mx l J Y hY v3 t t' h) hn rfl (fun _=>rfl) (fun _=>rfl) (fun _=>rfl) rfl rfl (fun _=>⟨rfl, rfl⟩) rfl (re 28 rfl) ?_ ?_ ?_
   ·rintro kk g0 hn hio x s21 u h
    refine Ee (es':=[(14,fb x),(28,.glob (GL mx)),(5,.box 28 [.fl (.own 5) 1 (map (int .u8) s21)]),(28,.v (kk.tm.getD 28 undef)),(5,.v (kk.tm.getD 5 undef)),(29,.inv kk.ready)]) rfl ?_
    refine yy hn 1 [28,5,29,6,28,5] ?_
    refine cw [0,1,3,4,5,2] (by kernel_rfl) (es':=[(28,.glob (GL mx)),(5,.box 28 [.fl (.own 5) 1 (map (int .u8) s21)]),(6,fb x),(28,.v (kk.tm.getD 28 undef)),(5,.v (kk.tm.getD 5 undef)),(29,.inv kk.ready)]) rfl ?_
    refine sL (es:=[(28,.glob (GL mx)),(5,.box 28 [.fl (.own 5) 1 (map (int .u8) s21)]),(6,fb x),(28,.v (kk.tm.getD 28 undef)),(5,.v (kk.tm.getD 5 undef))]) 29 rfl ?_
    refine dY ?_
    refine bq ?_
    refine dO h (fun (s29:(List Int))=>[(28,.glob (GL mx)),(5,.box 28 [.fl (.own 5) 1 (map (int .u8) s29)]),(6,fb x),(29,.inv kk.busy),(28,.v (kk.tm.getD 28 undef)),(5,.v (kk.tm.getD 5 undef))]) ?_ ?_
    ·rintro s29 h
     refine cr (bq ?_)
     obtain ⟨v12, hv12, h⟩:=zn h
     refine yx hn 2 ?_
     refine yk [5] [21,22] ?_
     refine wX (5,.box 28 [.any]) (23,.fl (.own 5) 1 (map (int .u8) v12)) 0 ⟨qO _ _ _ _ _ _ pF rfl rfl (zl rfl) rfl (lx _) (lx _) hv12 ((List.map_append).symm.trans (congrArg (map _) (rv hv12))) (Nat.ne_of_beq_eq_false rfl) rfl rfl⟩ ?_
     refine yw [21] 0 ?_
     refine yk [23,5] [] ?_
     refine yt (5,.box 28 [.fl (.own 5) 1 (map (int .u8) v12)]) 0 ⟨eD _ _ _ _ _ _ _ _ uE rfl rfl rfl (zl rfl) rfl rfl⟩ ?_
     refine eS [28,5,29,28,5] ?_
     obtain ⟨v13, hv13, h⟩:=zn h
     refine yx hn 1 ?_
     refine yk [5] [24] ?_
     refine wX (5,.box 28 [.any]) (25,.fl (.own 5) 1 (map (int .u8) v13)) 0 ⟨lQ _ _ _ _ _ _ pF EP underlying9 rfl rfl (zl rfl) rfl rfl hv13 rfl (Nat.ne_of_beq_eq_false rfl) rfl rfl⟩ ?_
     refine yw [24] 0 ?_
     refine yk [25,5] [] ?_
     refine yt (5,.box 28 [.fl (.own 5) 1 (map (int .u8) v13)]) 0 ⟨eD _ _ _ _ _ _ _ _ uE rfl rfl rfl (zl rfl) rfl rfl⟩ ?_
     refine ye [28,5,29,28,5] ?_
     refine ep ?_
     refine cw [0,1,3,4,2] (by kernel_rfl) (es':=[(_,_),(_,_),(_,_),(_,_),(_,_)]) rfl ?_
     obtain rfl:=zi h
     exact sQ 29 [28, 5] _ rfl rfl (by kernel_rfl)
    ·intro u30 h hl31 hr32
     refine bq ?_
     obtain ⟨v4, hv4, h⟩:=zn h
     refine yx hn 1 ?_
     refine yS (.fl (.own 5) 1 (map (int .u8) [46])) 0 ⟨eN _ _ 1 (.int .u8 0) (map (int .u8) [46]) [(0,.int .u8 46)] underlying28 tq EP (fun _ V w o a hv hes=>by simp only [List.map_toArray,List.map_cons,List.map_nil]; try rfl) (iw (by simp [Instr.fill,Value.cells]; rfl) (by simp [List.range,List.range.loop] <;> rfl)) (by simp [Value.oneCell']) rfl (by decide) (by decide) (by decide)⟩ ?_
     refine yk [16] [] ?_
     refine yt (17,.fl .ro 1 (map (int .u8) [46])) 0 ⟨ph _ _ _ underlying28 underlying5 (by intro h; cases h)⟩ ?_
     refine ys 0 ⟨lk call124 (ug _ _ _ hv4)⟩ ?_
     refine eS [28,5,6,29,18,28,5] ?_
     refine cU _ rfl (fun hb33 => ?_) (fun hb33 => ?_)
     ·have h:=dn hb33 h
      obtain ⟨v6, hv6, h⟩:=zn h
      refine yx hn 1 ?_
      refine yk [5] [19] ?_
      refine wX (5,.box 28 [.any]) (20,.fl (.own 5) 1 (map (int .u8) v6)) 0 ⟨lQ _ _ _ _ _ _ pF EP underlying9 rfl rfl (zl rfl) rfl rfl hv6 rfl (Nat.ne_of_beq_eq_false rfl) rfl rfl⟩ ?_
      refine yw [19] 0 ?_
      refine yk [20,5] [] ?_
      refine yt (5,.box 28 [.fl (.own 5) 1 (map (int .u8) v6)]) 0 ⟨eD _ _ _ _ _ _ _ _ uE rfl rfl rfl (zl rfl) rfl rfl⟩ ?_
      refine ye [28,5,6,29,28,5] ?_
      exact hl31 _ (zi h).symm
     ·have h:=dj hb33 h
      refine dw ?_
      refine cw [0,1,2,3,5,6] (by kernel_rfl) (es':=[(_,_),(_,_),(_,_),(_,_),(_,_),(_,_)]) rfl ?_
      exact hl31 _ (zi h).symm
   ·rintro D s21 h
    refine ep ?_
    refine cr (bq ?_)
    obtain ⟨v34, hv34, h⟩:=zn h
    refine yx hn 1 ?_
    refine yk [5] [26] ?_
    refine wX (5,.box 28 [.any]) (27,.fl (.own 5) 1 (map (int .u8) v34)) 0 ⟨lQ _ _ _ _ _ _ pF EP underlying9 rfl rfl (zl rfl) rfl rfl hv34 rfl (Nat.ne_of_beq_eq_false rfl) rfl rfl⟩ ?_
    refine ya 1 ?_
    refine eS [28,2,3] ?_
    refine cY ?_
    refine cw [1,2] (by kernel_rfl) (es':=[(_,_),(_,_)]) rfl ?_
    obtain rfl:=zi h
    exact dq hio rfl (.tmp _ _ (.tmp _ _ .nil)) rfl rfl
   ·rintro D ⟨⟩ h
    cases h
theorem Ak (mx:Int×Nat×Value) (mails:(List fe)) (r:(List Int)) (h:Sh.tg mails=some r):qT Tryz.prog (GL mx) 152 [.fr .shr true 8 (flatten (map fe.ienc mails))] (.fl (.own 5) 1 (map (int .u8) r)):=by
  unfold Sh.tg at h
  refine yG 47 func152 fun g0 hn hio => ?_
  refine eo hn 1 [0,47] ?_
  refine oh hn 0 ?_
  refine yS (.box 28 [vz]) 0 ⟨oA (fj _ _ SW)⟩ ?_
  refine eS [0,47,3] ?_
  refine oh hn 0 ?_
  refine yS (.clo 179 [3]) 1 ⟨ve _ _ _ 3 (by decide)⟩ ?_
  refine eS [0,47,3,4] ?_
  refine bq ?_
  refine eo hn 3 [47,3,4,12,13,14] ?_
  refine Br (fs:=[(47,.glob (GL mx)),(3,.box 28 [.fl (.own 5) 1 (map (int .u8) [])]),(4,.clo 179 [3]),(12,.fr .shr true 8 (flatten (map fe.ienc mails))),(13,vi (mails.length:Int)),(14,vi 0)]) (.same _ (.box _ _ (bI (gr 5 1) (fM)) rfl (.same _ (.same _ (.same _ (.same _ .nil)))))) ?_
  refine eR h (fun ((s46,s47):(List Int)×Int)=>[(47,.glob (GL mx)),(3,.box 28 [.fl (.own 5) 1 (map (int .u8) s46)]),(4,.clo 179 [3]),(12,.fr .shr true 8 (flatten (map fe.ienc mails))),(13,vi (mails.length:Int)),(14,vi s47)]) (fun (s64:(List Int))=>[(47,.glob (GL mx)),(3,.box 28 [.fl (.own 5) 1 (map (int .u8) s64)])]) ?_ ?_
  ·rintro s64 h
   refine cr (bq ?_)
   obtain ⟨v87, hv87, h⟩:=zn h
   refine yx hn 1 ?_
   refine yk [3] [45] ?_
   refine wX (3,.box 28 [.any]) (46,.fl (.own 5) 1 (map (int .u8) v87)) 0 ⟨lQ _ _ _ _ _ _ pF EP underlying9 rfl rfl (zl rfl) rfl rfl hv87 rfl (Nat.ne_of_beq_eq_false rfl) rfl rfl⟩ ?_
   refine ya 0 ?_
   refine eS [47,2] ?_
   refine cY ?_
   refine cw [1] (by kernel_rfl) (es':=[(_,_)]) rfl ?_
   obtain rfl:=zi h
   exact dq hio rfl (.tmp _ _ .nil) rfl rfl
  ·rintro u65 hl66 hr67 ⟨s46, s47⟩ rr70 h ho68
   refine eo hn 1 [47,3,4,12,13,14,15] ?_
   refine bq ?_
   refine cU _ rfl (fun hb71 => ?_) (fun hb71 => ?_)
   ·have h:=dn hb71 h
    refine dw ?_
    refine cr (bq ?_)
    refine dY ?_
    refine bq ?_
    obtain ⟨v2, hv2, h⟩:=zn h
    obtain ⟨v3, hv3, h⟩:=zn h
    refine yx hn 0 ?_
    refine ys 0 ⟨lI hv2⟩ ?_
    refine yS (.agg (fe.c v3 [])) 0 ⟨Ed _ _ _ _ _ _ _ _ underlying53 rfl Rf rfl rfl (DM fe.ilen hv3) (.cons (.v _) (.cons (.v _) (.cons (.v _) (.cons (.fl _ _ rfl) (.cons (.fl _ _ rfl) (.cons (.v _) (.cons (.v _) (.cons (.v _) (.nil))))))))) rfl (by decide)⟩ ?_
    refine yS (.box 53 [vb false,vs z0,vs z0,vz,vz,vb false,vs z0,vi 0]) 1 ⟨oA (fj _ _ QM)⟩ ?_
    refine eS [47,3,4,12,13,14,6] ?_
    refine bq ?_
    obtain ⟨v4, hv4, h⟩:=zn h
    refine yx hn 3 ?_
    refine yk [3] [18,20,47] ?_
    refine wX (3,.box 28 [.fl (.own 5) 1 (map (int .u8) v4)]) (21,.tup []) 0 ⟨Jc _ _ _ 21 18 3 47 179 [_,.tmp 20] _ _ _ _ rfl call179 rfl rfl rfl (fun _ h=>h) (pT mx (⟨#[77,65,73,76,32,70,82,79,77,58]⟩:ByteArray) (cz.mk v3.From.Null v3.From.Local v3.From.Domain) s46 _ hv4) rfl rfl rfl rfl rfl rfl rfl rfl⟩ ?_
    refine eS [47,3,4,12,13,14,6] ?_
    refine bq ?_
    refine eo hn 4 [47,3,4,12,13,14,6,23,24,25] ?_
    refine eR h (fun ((s76,s77):(List Int)×Int)=>[(47,.glob (GL mx)),(3,.box 28 [.fl (.own 5) 1 (map (int .u8) s76)]),(4,.clo 179 [3]),(12,.fr .shr true 8 (flatten (map fe.ienc mails))),(13,vi (mails.length:Int)),(14,vi s47),(6,.box 53 (fe.c v3 [])),(23,.fl .shr 3 (flatten (map cz.enc v3.To))),(24,vi (v3.To.length:Int)),(25,vi s77)]) (fun (s79:(List Int))=>[(47,.glob (GL mx)),(3,.box 28 [.fl (.own 5) 1 (map (int .u8) s79)]),(4,.clo 179 [3]),(12,.fr .shr true 8 (flatten (map fe.ienc mails))),(13,vi (mails.length:Int)),(14,vi s47),(6,.box 53 (fe.c v3 []))]) ?_ ?_
    ·rintro s79 h
     refine cr (bq ?_)
     obtain ⟨v24, hv24, h⟩:=zn h
     refine yx hn 1 ?_
     refine yk [3] [33] ?_
     refine wX (3,.box 28 [.any]) (34,.fl (.own 5) 1 (map (int .u8) v24)) 0 ⟨lQ _ _ _ _ _ _ pF EP underlying9 rfl rfl (zl rfl) rfl rfl hv24 rfl (Nat.ne_of_beq_eq_false rfl) rfl rfl⟩ ?_
     refine yw [33] 0 ?_
     refine yk [34,3] [] ?_
     refine yt (3,.box 28 [.fl (.own 5) 1 (map (int .u8) v24)]) 0 ⟨eD _ _ _ _ _ _ _ _ uE rfl rfl rfl (zl rfl) rfl rfl⟩ ?_
     refine eS [47,3,4,12,13,14,6] ?_
     refine bq ?_
     obtain ⟨v25, hv25, h⟩:=zn h
     refine yx hn 2 ?_
     refine ys 0 ⟨lg call181 (HZ _ _ _ hv25) 47⟩ ?_
     refine ym 0 ?_
     refine VQ 1 ?_
     refine ya 1 ?_
     refine eS [47,3,4,12,13,14,9] ?_
     obtain ⟨v26, hv26, h⟩:=zn h
     refine yx hn 1 ?_
     refine ym 0 ?_
     refine yk [3] [41,42] ?_
     refine wX (3,.box 28 [.any]) (43,.fl (.own 5) 1 (map (int .u8) v26)) 0 ⟨qO _ _ _ _ _ _ pF rfl rfl (zl rfl) rfl (lx _) (lx _) hv26 ((List.map_append).symm.trans (congrArg (map _) (rv hv26))) (Nat.ne_of_beq_eq_false rfl) rfl rfl⟩ ?_
     refine yw [41] 0 ?_
     refine yk [43,3] [] ?_
     refine yt (3,.box 28 [.fl (.own 5) 1 (map (int .u8) v26)]) 0 ⟨eD _ _ _ _ _ _ _ _ uE rfl rfl rfl (zl rfl) rfl rfl⟩ ?_
     refine ye [47,3,4,12,13,14] ?_
     refine ep ?_
     refine cr ?_
     obtain ⟨v27, hv27, h⟩:=zn h
     refine yx hn 0 ?_
     refine ys 0 ⟨lb hv27⟩ ?_
     refine yw [14] 1 ?_
     refine ye [47,3,4,12,13,14] ?_
     exact fx _ (zi h).symm rfl
    ·rintro u80 hl81 hr82 ⟨s76, s77⟩ rr85 h ho83
     refine eo hn 1 [47,3,4,12,13,14,6,23,24,25,26] ?_
     refine bq ?_
     refine cU _ rfl (fun hb86 => ?_) (fun hb86 => ?_)
     ·have h:=dn hb86 h
      refine dw ?_
      refine cr (bq ?_)
      refine dY ?_
      refine bq ?_
      obtain ⟨v6, hv6, h⟩:=zn h
      obtain ⟨v7, hv7, h⟩:=zn h
      refine yx hn 0 ?_
      refine ys 0 ⟨lj hv6⟩ ?_
      refine yS (.agg [vb v7.Null,vs v7.Local,vs v7.Domain]) 0 ⟨vT _ _ _ _ _ _ _ underlying26 rfl LQ rfl rfl (BV cz.len hv7) rfl (by decide)⟩ ?_
      refine yS (.box 26 [vb false,vs z0,vs z0]) 1 ⟨oA (fj _ _ Ab)⟩ ?_
      refine eS [47,3,4,12,13,14,6,23,24,25,8] ?_
      obtain ⟨v8, hv8, h⟩:=zn h
      refine yx hn 2 ?_
      refine yk [3] [29,30,47] ?_
      refine wX (3,.box 28 [.fl (.own 5) 1 (map (int .u8) v8)]) (31,.tup []) 0 ⟨Jc _ _ _ 31 29 3 47 179 [_,.tmp 30] _ _ _ _ rfl call179 rfl rfl rfl (fun _ h=>h) (pT mx (⟨#[82,67,80,84,32,84,79,58]⟩:ByteArray) v7 s76 _ hv8) rfl rfl rfl rfl rfl rfl rfl rfl⟩ ?_
      refine ye [47,3,4,12,13,14,6,23,24,25] ?_
      refine ep ?_
      refine cr ?_
      obtain ⟨v9, hv9, h⟩:=zn h
      refine yx hn 0 ?_
      refine ys 0 ⟨lb hv9⟩ ?_
      refine yw [25] 1 ?_
      refine ye [47,3,4,12,13,14,6,23,24,25] ?_
      exact fx _ (zi h).symm rfl
     ·have h:=dj hb86 h
      refine fp ?_
      refine dB ?_
      refine dB ?_
      refine fq ?_
      refine cw [0,1,2,3,4,5,6] (by kernel_rfl) (es':=[(_,_),(_,_),(_,_),(_,_),(_,_),(_,_),(_,_)]) rfl ?_
      exact hl81 _ (ho83 _ (zi h).symm).symm
   ·have h:=dj hb71 h
    refine fp ?_
    refine dB ?_
    refine dB ?_
    refine fq ?_
    refine cw [0,1] (by kernel_rfl) (es':=[(_,_),(_,_)]) rfl ?_
    exact hl66 _ (ho68 _ (zi h).symm).symm
theorem Hu (divisor:Int) (r:(List Int)) (h:Sh.Ba divisor=some r):gN Tryz.prog 202 [.v (.int .u32 divisor)] (.v (.agg (map (int .u32) r).toArray)):=by
  unfold Sh.Ba at h
  refine yO 29 func202 fun g0 hn hio => ?_
  refine oh hn 0 ?_
  refine yS (.arr 222 (map (int .u32) ((List.replicate 16 (0:Int))))) 0 ⟨oA (fK _ Ph)⟩ ?_
  refine eS [0,2] ?_
  refine oh hn 0 ?_
  refine yS (.arr 222 (map (int .u32) ((List.replicate 16 (0:Int))))) 0 ⟨oA (fK _ Ph)⟩ ?_
  refine eS [0,2,3] ?_
  refine bq ?_
  refine eo hn 1 [0,2,3,7] ?_
  refine eR h (fun ((s91,s92):(List Int)×Int)=>[(0,.v (.int .u32 divisor)),(2,.arr 222 (map (int .u32) ((List.replicate 16 (0:Int))))),(3,.arr 222 (map (int .u32) s91)),(7,vi s92)]) (fun (s133:(List Int))=>[(2,.arr 222 (map (int .u32) ((List.replicate 16 (0:Int))))),(3,.arr 222 (map (int .u32) s133))]) ?_ ?_
  ·rintro s133 h
   refine cr (bq ?_)
   obtain ⟨v180, hv180, h⟩:=zn h
   obtain ⟨v181, hv181, h⟩:=zn h
   obtain ⟨v182, hv182, h⟩:=zn h
   refine yx hn 0 ?_
   refine yS (.v (.agg (map (int .u32) s133).toArray)) 0 ⟨pb _ _ _ _ underlying222 rfl (Ot.trans (congrArg some (fa hv180))) rfl rfl⟩ ?_
   refine yk [2] [28] ?_
   refine yt (2,.arr 222 (map (int .u32) s133)) 0 ⟨fQ _ _ _ _ (Ot.trans (congrArg some (fa hv182))) rfl rfl (jN (fun _=>rfl) _) ((fa (f:=int .u32) hv181).symm.trans (fa (f:=int .u32) hv182))⟩ ?_
   refine eS [2] ?_
   refine cY ?_
   obtain ⟨v183, hv183, h⟩:=zn h
   obtain rfl:=zi h
   exact dq hio rfl (.cellR _ _ _ _ underlying222 rfl (Ot.trans (congrArg some (fa hv183))) .nil) rfl rfl
  ·rintro u134 hl135 hr136 ⟨s91, s92⟩ rr139 h ho137
   refine eo hn 1 [0,2,3,7,8] ?_
   refine bq ?_
   refine cU _ rfl (fun hb140 => ?_) (fun hb140 => ?_)
   ·have h:=dn hb140 h
    refine dw ?_
    refine cr (bq ?_)
    refine dY ?_
    refine eo hn 2 [0,2,3,7,4] ?_
    refine bq ?_
    obtain ⟨v2, hv2, h⟩:=zn h
    refine yx hn 1 ?_
    refine ys 1 ⟨lv hv2⟩ ?_
    refine eS [0,2,3,7,4,5] ?_
    refine bq ?_
    refine eo hn 1 [0,2,3,7,4,5,12] ?_
    refine eR h (fun ((s157,s158):Int×Int)=>[(0,.v (.int .u32 divisor)),(2,.arr 222 (map (int .u32) ((List.replicate 16 (0:Int))))),(3,.arr 222 (map (int .u32) s91)),(7,vi s92),(4,vi s92),(5,.v (.int .u32 s157)),(12,vi s158)]) (fun (s166:Int)=>[(0,.v (.int .u32 divisor)),(2,.arr 222 (map (int .u32) ((List.replicate 16 (0:Int))))),(3,.arr 222 (map (int .u32) s91)),(7,vi s92),(4,vi s92),(5,.v (.int .u32 s166))]) ?_ ?_
    ·rintro s166 h
     refine cr ?_
     obtain ⟨v46, hv46, h⟩:=zn h
     obtain ⟨v47, hv47, h⟩:=zn h
     refine yx hn 2 ?_
     refine yS (.ptr 3 v46) 0 ⟨ji _ _ _ _ 16 3 _ underlying222 mQ rfl rfl (fH hv46).1 (fH hv46).2 (by decide)⟩ ?_
     refine yk [3] [26,25] ?_
     refine yt (3,.arr 222 (map (int .u32) v47)) 0 ⟨tF _ _ _ _ _ _ mQ rfl rfl rfl rfl (Kd hv47) (Ko (f:=int .u32) hv47)⟩ ?_
     refine ye [0,2,3,7] ?_
     refine ep ?_
     refine cr ?_
     obtain ⟨v48, hv48, h⟩:=zn h
     refine yx hn 0 ?_
     refine ys 0 ⟨lb hv48⟩ ?_
     refine yw [7] 1 ?_
     refine ye [0,2,3,7] ?_
     exact fx _ (zi h).symm rfl
    ·rintro u167 hl168 hr169 ⟨s157, s158⟩ rr172 h ho170
     refine eo hn 1 [0,2,3,7,4,5,12,13] ?_
     refine bq ?_
     refine cU _ rfl (fun hb173 => ?_) (fun hb173 => ?_)
     ·have h:=dn hb173 h
      refine dw ?_
      refine cr (bq ?_)
      refine dO h (fun (s175:Int)=>[(0,.v (.int .u32 divisor)),(2,.arr 222 (map (int .u32) ((List.replicate 16 (0:Int))))),(3,.arr 222 (map (int .u32) s91)),(7,vi s92),(4,vi s92),(12,vi s158),(5,.v (.int .u32 s175))]) ?_ ?_
      ·rintro s175 h
       refine cr ?_
       obtain ⟨v13, hv13, h⟩:=zn h
       refine yx hn 0 ?_
       refine ys 0 ⟨lb hv13⟩ ?_
       refine yw [12] 1 ?_
       refine ye [0,2,3,7,4,5,12] ?_
       exact fx _ (zi h).symm rfl
      ·intro u176 h hl177 hr178
       refine dY ?_
       refine bq ?_
       obtain ⟨v4, hv4, h⟩:=zn h
       refine yx hn 1 ?_
       refine ys 1 ⟨lb hv4⟩ ?_
       refine eS [0,2,3,7,4,5,12,6] ?_
       refine bq ?_
       obtain ⟨v5, hv5, h⟩:=zn h
       refine yx hn 1 ?_
       refine ys 0 ⟨lB (qc hv5)⟩ ?_
       refine yw [5] 1 ?_
       refine eS [0,2,3,7,4,12,6,5] ?_
       refine eo hn 2 [0,2,3,7,4,12,5,19] ?_
       refine cU _ rfl (fun hb179 => ?_) (fun hb179 => ?_)
       ·have h:=dn hb179 h
        obtain ⟨v7, hv7, h⟩:=zn h
        refine yx hn 2 ?_
        refine ys 0 ⟨lb hv7⟩ ?_
        refine yw [5] 1 ?_
        refine ye [0,2,3,7,4,12,5] ?_
        refine ep ?_
        exact hl177 _ (zi h).symm
       ·have h:=dj hb179 h
        refine dw ?_
        refine ep ?_
        refine cw [0,1,2,3,4,5,6] (by kernel_rfl) (es':=[(_,_),(_,_),(_,_),(_,_),(_,_),(_,_),(_,_)]) rfl ?_
        exact hl177 _ (zi h).symm
     ·have h:=dj hb173 h
      refine fp ?_
      refine dB ?_
      refine dB ?_
      refine fq ?_
      refine cw [0,1,2,3,4,5] (by kernel_rfl) (es':=[(_,_),(_,_),(_,_),(_,_),(_,_),(_,_)]) rfl ?_
      exact hl168 _ (ho170 _ (zi h).symm).symm
   ·have h:=dj hb140 h
    refine fp ?_
    refine dB ?_
    refine dB ?_
    refine fq ?_
    refine cw [1,2] (by kernel_rfl) (es':=[(_,_),(_,_)]) rfl ?_
    exact hl135 _ (ho137 _ (zi h).symm).symm
theorem Mi (b:(List Int)) (width:Int) (divisor:Int) (r:Int) (h:Sh.FT b width divisor=some r):gN Tryz.prog 182 [.fl .shr 1 (map (int .u8) b), .v (.int .i64 width), .v (.int .u32 divisor)] (.v (.int .i64 r)):=by
  unfold Sh.FT at h
  refine yO 47 func182 fun g0 hn hio => ?_
  refine eo hn 1 [0,1,2] ?_
  refine bq ?_
  obtain ⟨v1, hv1, h⟩:=zn h
  obtain ⟨v2, hv2, h⟩:=zn h
  obtain ⟨v3, hv3, h⟩:=zn h
  refine yx hn 1 ?_
  refine ys 0 ⟨lk call202 (Hu _ _ hv1)⟩ ?_
  refine yS (.arr 222 (map (int .u32) ((List.replicate 16 (0:Int))))) 0 ⟨oA (fK _ Ph)⟩ ?_
  refine yk [7] [13] ?_
  refine yt (7,.arr 222 (map (int .u32) v1)) 0 ⟨fQ _ _ _ _ (Ot.trans (congrArg some (fa hv3))) rfl rfl (jN (fun _=>rfl) _) ((fa (f:=int .u32) hv2).symm.trans (fa (f:=int .u32) hv3))⟩ ?_
  refine eS [0,1,7] ?_
  refine bq ?_
  obtain ⟨v4, hv4, h⟩:=zn h
  obtain ⟨v5, hv5, h⟩:=zn h
  refine yx hn 1 ?_
  refine ys 0 ⟨lB (tX hv4)⟩ ?_
  refine ys 1 ⟨lb hv5⟩ ?_
  refine eS [0,7,8] ?_
  refine eo hn 2 [0,7,8,9] ?_
  refine bq ?_
  refine eo hn 3 [7,8,9,18,19,20] ?_
  refine eR h (fun ((s25,s26):Int×Int)=>[(7,.arr 222 (map (int .u32) v1)),(8,.v (.int .u32 v5)),(9,.v (.int .u32 s25)),(18,fb b),(19,vi (b.length:Int)),(20,vi s26)]) (fun (s28:Int)=>[(8,.v (.int .u32 v5)),(9,.v (.int .u32 s28))]) ?_ ?_
  ·rintro s28 h
   refine cr (bq ?_)
   obtain ⟨v36, hv36, h⟩:=zn h
   obtain ⟨v37, hv37, h⟩:=zn h
   refine yx hn 2 ?_
   refine ys 0 ⟨lb hv36⟩ ?_
   refine ys 1 ⟨lv hv37⟩ ?_
   refine eS [6] ?_
   refine cY ?_
   obtain rfl:=zi h
   exact dq hio rfl (.tmp _ _ .nil) rfl rfl
  ·rintro u29 hl30 hr31 ⟨s25, s26⟩ rr34 h ho32
   refine eo hn 1 [7,8,9,18,19,20,21] ?_
   refine bq ?_
   refine cU _ rfl (fun hb35 => ?_) (fun hb35 => ?_)
   ·have h:=dn hb35 h
    refine dw ?_
    refine cr (bq ?_)
    refine dY ?_
    refine bq ?_
    obtain ⟨v7, hv7, h⟩:=zn h
    obtain ⟨v8, hv8, h⟩:=zn h
    refine yx hn 0 ?_
    refine ys 0 ⟨li hv7⟩ ?_
    refine ys 1 ⟨ll hv8⟩ ?_
    refine eS [7,8,9,18,19,20,11] ?_
    refine bq ?_
    obtain ⟨v9, hv9, h⟩:=zn h
    obtain ⟨v10, hv10, h⟩:=zn h
    refine yx hn 2 ?_
    refine ys 0 ⟨lv hv9⟩ ?_
    refine ys 0 ⟨lb hv10⟩ ?_
    refine yw [9] 1 ?_
    refine eS [7,8,18,19,20,9] ?_
    refine bq ?_
    obtain ⟨v11, hv11, h⟩:=zn h
    obtain ⟨v12, hv12, h⟩:=zn h
    obtain ⟨v13, hv13, h⟩:=zn h
    obtain ⟨v14, hv14, h⟩:=zn h
    obtain ⟨v15, hv15, h⟩:=zn h
    refine yx hn 1 ?_
    refine ys 1 ⟨lB (qc hv11)⟩ ?_
    refine ys 0 ⟨lB (qh hv12)⟩ ?_
    refine yS (.ptr 7 v13) 0 ⟨ji _ _ _ _ 16 7 _ underlying222 mQ rfl rfl (fH hv13).1 (fH hv13).2 (by decide)⟩ ?_
    refine yS (.v (.int .u32 v14)) 0 ⟨jf _ _ _ _ _ _ underlying106 rfl rfl rfl (kr hv14)⟩ ?_
    refine ys 0 ⟨lb hv15⟩ ?_
    refine yw [9] 1 ?_
    refine eS [7,8,18,19,20,9] ?_
    obtain ⟨v16, hv16, h⟩:=zn h
    obtain ⟨v17, hv17, h⟩:=zn h
    obtain ⟨v18, hv18, h⟩:=zn h
    obtain ⟨v19, hv19, h⟩:=zn h
    obtain ⟨v20, hv20, h⟩:=zn h
    refine yx hn 1 ?_
    refine ys 1 ⟨lB (qc hv16)⟩ ?_
    refine ys 0 ⟨lB (qh hv17)⟩ ?_
    refine yS (.ptr 7 v18) 0 ⟨ji _ _ _ _ 16 7 _ underlying222 mQ rfl rfl (fH hv18).1 (fH hv18).2 (by decide)⟩ ?_
    refine yS (.v (.int .u32 v19)) 0 ⟨jf _ _ _ _ _ _ underlying106 rfl rfl rfl (kr hv19)⟩ ?_
    refine ys 0 ⟨lb hv20⟩ ?_
    refine yw [9] 1 ?_
    refine ye [7,8,18,19,20,9] ?_
    refine ep ?_
    refine cr ?_
    obtain ⟨v21, hv21, h⟩:=zn h
    refine yx hn 0 ?_
    refine ys 0 ⟨lb hv21⟩ ?_
    refine yw [20] 1 ?_
    refine ye [7,8,18,19,9,20] ?_
    refine cw [0,1,4,2,3,5] (by kernel_rfl) (es':=[(_,_),(_,_),(_,_),(_,_),(_,_),(_,_)]) rfl ?_
    exact fx _ (zi h).symm rfl
   ·have h:=dj hb35 h
    refine fp ?_
    refine dB ?_
    refine dB ?_
    refine fq ?_
    refine cw [1,2] (by kernel_rfl) (es':=[(_,_),(_,_)]) rfl ?_
    exact hl30 _ (ho32 _ (zi h).symm).symm
theorem JR (b:(List Int)) (r:Int) (h:Sh.Dp b=some r):gN Tryz.prog 153 [.fl .shr 1 (map (int .u8) b)] (.v (.int .i64 r)):=by
  unfold Sh.Dp at h
  refine yO 5 func153 fun g0 hn hio => ?_
  refine eo hn 1 [0] ?_
  refine bq ?_
  obtain ⟨v1, hv1, h⟩:=zn h
  refine yx hn 1 ?_
  refine ys 1 ⟨lk call182 (Mi _ _ _ _ hv1)⟩ ?_
  refine eS [2] ?_
  refine cY ?_
  obtain rfl:=zi h
  exact dq hio rfl (.tmp _ _ .nil) rfl rfl
theorem EL (mx:Int×Nat×Value) (b:ld) (r:((List Int)×Int)) (h:Sh.wk b=some r):qT Tryz.prog (GL mx) 130 [.agg [.v (.int .i64 b.Origin), .v (.int .i64 b.Number), .fr .shr true 8 (flatten (map fe.ienc b.Mails))]] (.tup [.mkr 5 (map (int .u8) r.1), .v (.int .i64 r.2)]):=by
  unfold Sh.wk at h
  refine yG 50 func130 fun g0 hn hio => ?_
  refine eo hn 3 [50,1] ?_
  refine bq ?_
  refine bq ?_
  obtain ⟨v1, hv1, h⟩:=zn h
  refine yx hn 1 ?_
  refine ys 1 ⟨lg call151 (Eu _ _ _ hv1) 50⟩ ?_
  refine eS [50,1,4] ?_
  refine eo hn 2 [50,1,4,13] ?_
  refine cU _ rfl (fun hb46 => ?_) (fun hb46 => ?_)
  ·have h:=dn hb46 h
   refine eo hn 3 [50,2,3] ?_
   refine cY ?_
   refine cw [1,2] (by kernel_rfl) (es':=[(_,_),(_,_)]) rfl ?_
   refine iZ (fs:=[(2,.mkr 5 (map (int .u8) [])),(3,vi v1)]) (.sub _ (oX 5) rfl (.same _ .nil)) ?_
   refine cT ?_
   obtain rfl:=zi h
   exact dq hio rfl (.tmp _ _ (.tmp _ _ .nil)) rfl rfl
  ·have h:=dj hb46 h
   refine dw ?_
   refine cr (bq ?_)
   obtain ⟨v3, hv3, h⟩:=zn h
   refine yx hn 2 ?_
   refine ys 0 ⟨lg call152 (Ak _ _ _ hv3) 50⟩ ?_
   refine ya 0 ?_
   refine eS [50,1,5] ?_
   refine eo hn 1 [50,1,5,6] ?_
   refine bq ?_
   refine bq ?_
   obtain ⟨v4, hv4, h⟩:=zn h
   refine wb [[1],[18,1],[1],[20,1],[1],[22,1],[23],[5],[25,5],[5]] ?_
   refine wN [27,5] ?_
   refine wo [] ⟨lk call153 (JR _ _ hv4)⟩ ?_
   refine wN [19,21,24,26,28] ?_
   refine wS (.fl (.own 3) 1 (map (int .i64) [b.Origin,b.Number,(b.Mails.length:Int),(v3.length:Int),v4])) [[29],[]] ⟨eN _ _ 1 (.int .i64 0) (map (int .i64) [b.Origin,b.Number,(b.Mails.length:Int),(v3.length:Int),v4]) [(0,.int .i64 b.Origin),(1,.int .i64 b.Number),(2,.int .i64 (b.Mails.length:Int)),(3,.int .i64 (v3.length:Int)),(4,.int .i64 v4)] underlying31 Ur Wj (fun _ V w o a hv hes=>by have e0:=gJ hv hes (x := .tmp 19) rfl; have e1:=gJ hv hes (x := .tmp 21) rfl; have e2:=gJ hv hes (x := .tmp 24) rfl; have e3:=gJ hv hes (x := .tmp 26) rfl; have e4:=gJ hv hes (x := .tmp 28) rfl; simp only [List.map_toArray,List.map_cons,List.map_nil,e0,e1,e2,e3,e4]; try rfl) (iw (by simp [Instr.fill,Value.cells]; rfl) (by simp [List.range,List.range.loop] <;> rfl)) (by simp [Value.oneCell']) rfl (by decide) (by decide) (by decide)⟩ ?_
   refine Ht hn [50,5,6,29,30,31] ?_
   refine eR h (fun ((s51,s52):ByteArray×Int)=>[(50,.glob (GL mx)),(5,.fl (.own 5) 1 (map (int .u8) v3)),(6,vs s51),(29,.fl (.own 3) 1 (map (int .i64) [b.Origin,b.Number,(b.Mails.length:Int),(v3.length:Int),v4])),(30,vi ([b.Origin,b.Number,(b.Mails.length:Int),(v3.length:Int),v4].length:Int)),(31,vi s52)]) (fun (s54:ByteArray)=>[(50,.glob (GL mx)),(5,.fl (.own 5) 1 (map (int .u8) v3)),(6,vs s54)]) ?_ ?_
   ·rintro s54 h
    refine cr (bq ?_)
    obtain ⟨v26, hv26, h⟩:=zn h
    obtain ⟨v27, hv27, h⟩:=zn h
    obtain ⟨v44, hv44, h⟩:=zn h
    refine yx hn 1 ?_
    refine ys 0 ⟨lB (kF hv26)⟩ ?_
    refine ys 0 ⟨lU hv27⟩ ?_
    refine ym 0 ?_
    refine yk [43] [44] ?_
    refine wX (43,.any) (45,.mkr 5 (map (int .u8) v44)) 0 ⟨Je _ _ _ _ _ pF rfl rfl rfl rfl hv44 rfl⟩ ?_
    refine ya 0 ?_
    refine eS [50,9] ?_
    refine bq ?_
    refine oh hn 1 ?_
    refine yS (vi (v44.length:Int)) 1 ⟨yT _ _ _ underlying28 rfl (List.length_map _)⟩ ?_
    refine eS [50,9,48] ?_
    refine cU _ rfl (fun hb62 => ?_) (fun hb62 => ?_)
    ·have h:=dn hb62 h
     refine eo hn 2 [50,2,3] ?_
     refine cY ?_
     refine cw [1,2] (by kernel_rfl) (es':=[(_,_),(_,_)]) rfl ?_
     refine iZ (fs:=[(2,.mkr 5 (map (int .u8) [])),(3,vi 2)]) (.sub _ (oX 5) rfl (.same _ .nil)) ?_
     refine cT ?_
     obtain rfl:=zi h
     exact dq hio rfl (.tmp _ _ (.tmp _ _ .nil)) rfl rfl
    ·have h:=dj hb62 h
     refine dw ?_
     refine cr ?_
     refine oh hn 0 ?_
     refine ym 0 ?_
     refine ya 1 ?_
     refine eS [50,2,3] ?_
     refine cY ?_
     refine cw [1,2] (by kernel_rfl) (es':=[(_,_),(_,_)]) rfl ?_
     obtain rfl:=zi h
     exact dq hio rfl (.tmp _ _ (.tmp _ _ .nil)) rfl rfl
   ·rintro u55 hl56 hr57 ⟨s51, s52⟩ rr60 h ho58
    refine eo hn 1 [50,5,6,29,30,31,32] ?_
    refine bq ?_
    refine cU _ rfl (fun hb61 => ?_) (fun hb61 => ?_)
    ·have h:=dn hb61 h
     refine dw ?_
     refine cr (bq ?_)
     refine dY ?_
     refine bq ?_
     obtain ⟨v6, hv6, h⟩:=zn h
     obtain ⟨v7, hv7, h⟩:=zn h
     refine yx hn 0 ?_
     refine ys 0 ⟨li hv6⟩ ?_
     refine ys 1 ⟨ll hv7⟩ ?_
     refine eS [50,5,6,29,30,31,8] ?_
     obtain ⟨v8, hv8, h⟩:=zn h
     obtain ⟨v9, hv9, h⟩:=zn h
     obtain ⟨v10, hv10, h⟩:=zn h
     refine yx hn 2 ?_
     refine ys 0 ⟨lg call150 (wJ _ _ _ hv8) 50⟩ ?_
     refine ys 0 ⟨lB (kF hv9)⟩ ?_
     refine ys 0 ⟨lB (kF hv10)⟩ ?_
     refine yw [6] 1 ?_
     refine ye [50,5,29,30,31,6] ?_
     refine ep ?_
     refine cr ?_
     obtain ⟨v11, hv11, h⟩:=zn h
     refine yx hn 0 ?_
     refine ys 0 ⟨lb hv11⟩ ?_
     refine yw [31] 1 ?_
     refine ye [50,5,29,30,6,31] ?_
     refine cw [0,1,4,2,3,5] (by kernel_rfl) (es':=[(_,_),(_,_),(_,_),(_,_),(_,_),(_,_)]) rfl ?_
     exact fx _ (zi h).symm rfl
    ·have h:=dj hb61 h
     refine fp ?_
     refine dB ?_
     refine dB ?_
     refine fq ?_
     refine cw [0,1,2] (by kernel_rfl) (es':=[(_,_),(_,_),(_,_)]) rfl ?_
     exact hl56 _ (ho58 _ (zi h).symm).symm
theorem JL (mx:Int×Nat×Value) (m:fe) (r:Bool) (h:Sh.zj m=some r):qT Tryz.prog (GL mx) 101 [.agg [.v (.bool m.From.Null), .v (.string m.From.Local), .v (.string m.From.Domain), .fl .shr 3 (flatten (map cz.enc m.To)), .fl .shr 1 (map (int .u8) m.Body), .v (.bool m.Quiet), .v (.string m.Helo), .v (.int .i64 m.At)]] (.v (.bool r)):=by
  unfold Sh.zj at h
  refine yG 14 func101 fun g0 hn hio => ?_
  refine eo hn 2 [14,1] ?_
  refine bq ?_
  obtain ⟨v1, hv1, h⟩:=zn h
  refine yx hn 1 ?_
  refine yS (.fr (.own 53) true 8 (flatten (map fe.ienc [(fe.mk (cz.mk m.From.Null m.From.Local m.From.Domain) m.To m.Body m.Quiet m.Helo m.At)]))) 0 ⟨vX _ _ _ 8 (.agg #[.bool false,.string ByteArray.empty,.string ByteArray.empty,.slice none 0 0,.slice none 0 0,.bool false,.string ByteArray.empty,.int .i64 0]) true _ _ underlying60 Rf QM rfl rfl (.cons (.v _) (.cons (.v _) (.cons (.v _) (.cons (.shr _ _ rfl rfl) (.cons (.shr _ _ rfl rfl) (.cons (.v _) (.cons (.v _) (.cons (.v _) (.nil))))))))) rfl (by decide) (by decide)⟩ ?_
  refine yk [7] [] ?_
  refine yt (8,.agg [vi 0,vi 65535,.fr (.own 53) true 8 (flatten (map fe.ienc [(fe.mk (cz.mk m.From.Null m.From.Local m.From.Domain) m.To m.Body m.Quiet m.Helo m.At)]))]) 0 ⟨fJ _ _ _ _ [1,1,1] _ _ underlying62 WK (VS _ underlying62) (.copy _ (.take _ _ uY.nil)) rfl rfl rfl⟩ ?_
  refine ys 0 ⟨lg call130 (EL _ _ _ hv1) 14⟩ ?_
  refine ym 0 ?_
  refine VQ 1 ?_
  refine ya 1 ?_
  refine eS [14,4] ?_
  refine eo hn 3 [14,2] ?_
  refine cY ?_
  refine cw [1] (by kernel_rfl) (es':=[(_,_)]) rfl ?_
  obtain rfl:=zi h
  exact dq hio rfl (.tmp _ _ .nil) rfl rfl
end Go.Proofs.YtjnnkhmhjcjhdaaGreatDoor
