/-
  The model's runs are what is told in Lean.
-/
import Derived.Test.YtjnnkhmhjcjhdaaGreatDoorProg
import Derived.KernelRfl
import Derived.Test.YtjnnkhmhjcjhdaaGreatDoorShelf
import Derived.Test.YtjnnkhmhjcjhdaaGreatDoorIdx
import Derived.Test.YtjnnkhmhjcjhdaaGreatDoorB3
import Derived.Test.YtjnnkhmhjcjhdaaGreatDoorC1
import Derived.Test.YtjnnkhmhjcjhdaaGreatDoorBC
import Derived.Test.YtjnnkhmhjcjhdaaGreatDoorOkc1
set_option linter.unusedVariables false
set_option linter.unusedSimpArgs false
set_option maxHeartbeats 1000000
namespace Go.Proofs.YtjnnkhmhjcjhdaaGreatDoor
open Go.Abs Go.Abs.Sh Tryz
open List (map flatten)
open Value (int)
theorem wM (user:ByteArray) (secret:ByteArray) (challenge:ByteArray) (r:ByteArray) (h:Sh.jW user secret challenge=some r):gN Tryz.prog 29 [.v (.string user), .v (.string secret), .v (.string challenge)] (.v (.string r)):=by
  unfold Sh.jW at h
  refine yO 20 func29 fun g0 hn hio => ?_
  refine eo hn 1 [0,1,2] ?_
  refine bq ?_
  obtain ⟨v1, hv1, h⟩:=zn h
  obtain ⟨v2, hv2, h⟩:=zn h
  obtain ⟨v3, hv3, h⟩:=zn h
  obtain ⟨v4, hv4, h⟩:=zn h
  obtain ⟨v5, hv5, h⟩:=zn h
  refine yx hn 1 ?_
  refine ys 1 ⟨lT hv1⟩ ?_
  refine ys 0 ⟨lT hv2⟩ ?_
  refine ys 0 ⟨lk call52 (xL _ _ _ hv3)⟩ ?_
  refine yS (.arr 91 (map (int .u8) ((List.replicate 16 (0:Int))))) 0 ⟨oA (fK _ EN)⟩ ?_
  refine yk [7] [12] ?_
  refine yt (7,.arr 91 (map (int .u8) v3)) 0 ⟨fQ _ _ _ _ (zx.trans (congrArg some (fa hv5))) rfl rfl (jN (fun _=>rfl) _) ((fa (f:=int .u8) hv4).symm.trans (fa (f:=int .u8) hv5))⟩ ?_
  refine eS [0,7] ?_
  refine bq ?_
  obtain ⟨v6, hv6, h⟩:=zn h
  obtain ⟨v7, hv7, h⟩:=zn h
  obtain ⟨v8, hv8, h⟩:=zn h
  obtain ⟨v9, hv9, h⟩:=zn h
  obtain ⟨v10, hv10, h⟩:=zn h
  obtain ⟨v11, hv11, h⟩:=zn h
  refine yx hn 1 ?_
  refine ys 0 ⟨lB (kF hv6)⟩ ?_
  refine yk [7] [] ?_
  refine wX (7,.any) (15,.fl .ro 1 (map (int .u8) v3)) 0 ⟨pt _ _ 7 16 _ underlying91 tq rfl (fa hv7).symm (jN (fun _=>rfl) _)⟩ ?_
  refine ys 0 ⟨lk call54 (Bm _ _ hv8)⟩ ?_
  refine ys 0 ⟨lB (kF hv9)⟩ ?_
  refine ys 0 ⟨lT hv10⟩ ?_
  refine ys 1 ⟨lk call53 (wO _ _ hv11)⟩ ?_
  refine eS [6] ?_
  refine cY ?_
  obtain rfl:=zi h
  exact dq hio rfl (.tmp _ _ .nil) rfl rfl
theorem zD (s:ByteArray) (sep:ByteArray) (sepSave:Int) (r:(ByteArray×ByteArray×Int)) (h:Sh.sr s sep sepSave=some r):gN Tryz.prog 93 [.v (.string s), .v (.string sep), .v (.int .i64 sepSave)] (.cloB 119 [.box 9 [.v (.string r.1)], .box 9 [.v (.string r.2.1)], .box 3 [.v (.int .i64 r.2.2)]]):=by
  unfold Sh.sr at h
  refine yO 8 func93 fun g0 hn hio => ?_
  refine eo hn 4 [3,4,5] ?_
  refine oh hn 0 ?_
  refine yk [4,3,5] [] ?_
  refine yt (7,.cloB 119 [.box 9 [vs sep],.box 9 [vs s],.box 3 [vi sepSave]]) 0 ⟨Li _ _ [4,3,5] [.box 9 [vs sep],.box 9 [vs s],.box 3 [vi sepSave]] rfl rfl rfl⟩ ?_
  refine ya 0 ?_
  refine eS [6] ?_
  refine cY ?_
  obtain rfl:=zi h
  exact dq hio rfl (.tmp _ _ .nil) rfl rfl
theorem pB (s:ByteArray) (sep:ByteArray) (r:(ByteArray×ByteArray×Int)) (h:Sh.mD s sep=some r):gN Tryz.prog 80 [.v (.string s), .v (.string sep)] (.cloB 119 [.box 9 [.v (.string r.1)], .box 9 [.v (.string r.2.1)], .box 3 [.v (.int .i64 r.2.2)]]):=by
  unfold Sh.mD at h
  refine yO 8 func80 fun g0 hn hio => ?_
  refine eo hn 1 [0,1] ?_
  refine bq ?_
  obtain ⟨v1, hv1, h⟩:=zn h
  refine yx hn 2 ?_
  refine yk [] [5,6] ?_
  refine yt (7,.cloB 119 [.box 9 [vs v1.1],.box 9 [vs v1.2.1],.box 3 [vi v1.2.2]]) 0 ⟨pO _ _ 93 _ _ rfl call93 rfl rfl (zD s sep 0 _ hv1) rfl⟩ ?_
  refine ya 0 ?_
  refine eS [4] ?_
  refine cY ?_
  obtain rfl:=zi h
  exact dq hio rfl (.tmp _ _ .nil) rfl rfl
theorem oZ (mx:Int×Nat×Value) (s:ByteArray) (r:(Int×Int)) (h:Sh.iX s=some r):qT Tryz.prog (GL mx) 142 [.v (.string s)] (.tup [.v (.int .i32 r.1), .v (.int .i64 r.2)]):=by
  unfold Sh.iX at h
  refine yG 117 func142 fun g0 hn hio => ?_
  refine eo hn 2 [0,117] ?_
  refine eo hn 3 [0,117,4] ?_
  refine bq ?_
  refine eo hn 2 [0,117,4,16] ?_
  refine cU _ rfl (fun hb1 => ?_) (fun hb1 => ?_)
  ·have h:=dn hb1 h
   refine eo hn 2 [117,2,3] ?_
   refine cY ?_
   refine cw [1,2] (by kernel_rfl) (es':=[(_,_),(_,_)]) rfl ?_
   refine cT ?_
   obtain rfl:=zi h
   exact dq hio rfl (.tmp _ _ (.tmp _ _ .nil)) rfl rfl
  ·have h:=dj hb1 h
   refine dw ?_
   refine cr (bq ?_)
   obtain ⟨v2, hv2, h⟩:=zn h
   refine yx hn 1 ?_
   refine ys 1 ⟨lh hv2⟩ ?_
   refine eS [0,117,4,5] ?_
   refine bq ?_
   obtain ⟨v3, hv3, h⟩:=zn h
   obtain ⟨v4, hv4, h⟩:=zn h
   refine yx hn 1 ?_
   refine yS (.v (.pointer (some ⟨1,(0+v3 * 1),none⟩))) 0 ⟨xu _ _ _ _ 256 1 0 _ 1 _ underlying184 tq rfl rfl (fH hv3).1 (fH hv3).2⟩ ?_
   refine yS (.v (.int .u8 v4)) 1 ⟨vS _ _ 117 1 _ _ _ underlying5 rfl rfl rfl (Oa mx) (kr hv4)⟩ ?_
   refine eS [0,117,4,5,6] ?_
   refine bq ?_
   refine eo hn 2 [0,117,4,5,6,23] ?_
   refine cU _ rfl (fun hb5 => ?_) (fun hb5 => ?_)
   ·have h:=dn hb5 h
    refine bq ?_
    obtain ⟨v6, hv6, h⟩:=zn h
    obtain ⟨v7, hv7, h⟩:=zn h
    obtain ⟨v8, hv8, h⟩:=zn h
    refine yx hn 1 ?_
    refine ys 0 ⟨lv hv6⟩ ?_
    refine ys 0 ⟨lB (tX hv7)⟩ ?_
    refine ys 1 ⟨lB (qc hv8)⟩ ?_
    refine eS [0,117,7] ?_
    refine bq ?_
    obtain ⟨v9, hv9, h⟩:=zn h
    obtain ⟨v10, hv10, h⟩:=zn h
    obtain ⟨v11, hv11, h⟩:=zn h
    obtain ⟨v12, hv12, h⟩:=zn h
    obtain ⟨v13, hv13, h⟩:=zn h
    refine yx hn 1 ?_
    refine ys 0 ⟨lh hv9⟩ ?_
    refine ys 1 ⟨lv hv10⟩ ?_
    refine ys 1 ⟨lb hv11⟩ ?_
    refine ys 0 ⟨lb hv12⟩ ?_
    refine ys 2 ⟨lb hv13⟩ ?_
    refine eS [117,2,3] ?_
    refine cY ?_
    refine cw [1,2] (by kernel_rfl) (es':=[(_,_),(_,_)]) rfl ?_
    refine cT ?_
    obtain rfl:=zi h
    exact dq hio rfl (.tmp _ _ (.tmp _ _ .nil)) rfl rfl
   ·have h:=dj hb5 h
    cases h
theorem qd (mx:Int×Nat×Value) (s:ByteArray) (r:(Int×Int)) (h:Sh.jA s=some r):qT Tryz.prog (GL mx) 120 [.v (.string s)] (.tup [.v (.int .i32 r.1), .v (.int .i64 r.2)]):=by
  unfold Sh.jA at h
  refine yG 19 func120 fun g0 hn hio => ?_
  refine eo hn 2 [0,19] ?_
  refine bq ?_
  refine bq ?_
  refine dO h (fun (s2:Bool)=>[(0,vs s),(19,.glob (GL mx)),(10,vb s2)]) ?_ ?_
  ·rintro s2 h
   refine cr ?_
   refine cU _ rfl (fun hb6 => ?_) (fun hb6 => ?_)
   ·have h:=dn hb6 h
    refine bq ?_
    obtain ⟨v7, hv7, h⟩:=zn h
    obtain ⟨v8, hv8, h⟩:=zn h
    refine yx hn 1 ?_
    refine ys 0 ⟨lh hv7⟩ ?_
    refine ys 2 ⟨lv hv8⟩ ?_
    refine eS [19,2,3] ?_
    refine cY ?_
    refine cw [1,2] (by kernel_rfl) (es':=[(_,_),(_,_)]) rfl ?_
    refine cT ?_
    obtain rfl:=zi h
    exact dq hio rfl (.tmp _ _ (.tmp _ _ .nil)) rfl rfl
   ·have h:=dj hb6 h
    obtain ⟨v9, hv9, h⟩:=zn h
    refine yx hn 1 ?_
    refine ys 0 ⟨lg call142 (oZ _ _ _ hv9) 19⟩ ?_
    refine ym 4 ?_
    refine eS [19,2,3] ?_
    refine cY ?_
    refine cw [1,2] (by kernel_rfl) (es':=[(_,_),(_,_)]) rfl ?_
    obtain rfl:=zi h
    exact dq hio rfl (.tmp _ _ (.tmp _ _ .nil)) rfl rfl
  ·intro u3 h hl4 hr5
   refine cZ h (fun hg1_2 h => ?_) (fun hg1_2 h => ?_)
   ·obtain ⟨v1, hv1, h⟩:=zn h
    refine yx hn 3 ?_
    refine yd hg1_2 1 ?_
    refine ys 2 ⟨lh hv1⟩ ?_
    refine ye [0,19,10] ?_
    exact hl4 _ (zi h).symm
   ·refine yx hn 3 ?_
    refine yd hg1_2 4 ?_
    refine ye [0,19,10] ?_
    exact hl4 _ (zi h).symm
theorem vy (s sub:ByteArray) (r:Int) (h:Sh.mw s sub=some r):gN Tryz.prog 121 [.v (.string s), .v (.string sub)] (.v (.int .i64 r)):=uy Tryz.strings_Index_one s sub r h
theorem nR (mx:Int×Nat×Value) (l:Nat) {S:Type} (J:S→uL) (Y:ByteArray→S→Option (S×Bool)) (hY:BJ Tryz.prog l (fun x => .v (.string x)) Y J) (c0:ByteArray) (c1:ByteArray) (c2:Int) (st r:S) (h:Sh.kV Y c0 c1 c2 st=some r):VI Tryz.prog (GL mx) 119 l [.box 9 [.v (.string c0)], .box 9 [.v (.string c1)], .box 3 [.v (.int .i64 c2)]] (J st) (J r):=by
  unfold Sh.kV at h
  refine yI 52 func119 fun g0 hn hio => ?_
  refine bq ?_
  refine eo hn 3 [0,1,2,3,52,53,11] ?_
  refine cU _ rfl (fun hb1 => ?_) (fun hb1 => ?_)
  ·have h:=dn hb1 h
   refine bq ?_
   refine sw [0,2,4,5] (by kernel_rfl) (es':=[(_,_),(_,_),(_,_),(_,_)]) rfl ?_
   refine eR h (fun ((s12,s13):ByteArray×S)=>[(0,.v (.func (.yield l) #[] #[])),(2,.box 9 [vs s12]),(52,.glob (GL mx)),(53,.inv (J s13))]) (fun (s16:S)=>[(52,.glob (GL mx)),(53,.inv (J s16))]) ?_ ?_
   ·rintro s16 h
    refine cr (cY ?_)
    refine cw [1] (by kernel_rfl) (es':=[(53,.inv (J s16))]) rfl ?_
    refine cT ?_
    obtain rfl:=zi h
    exact Fi hio rfl rfl rfl
   ·rintro u17 hl18 hr19 ⟨s12, s13⟩ rr22 h ho20
    refine bq ?_
    refine eo hn 3 [0,2,52,53,14] ?_
    refine cU _ rfl (fun hb23 => ?_) (fun hb23 => ?_)
    ·have h:=dn hb23 h
     refine dw ?_
     refine cr ?_
     refine dY ?_
     refine bq ?_
     obtain ⟨v3, hv3, h⟩:=zn h
     refine yx hn 1 ?_
     refine ys 0 ⟨lg call120 (qd _ _ _ hv3) 52⟩ ?_
     refine ym 4 ?_
     refine eS [0,2,52,53,6] ?_
     refine bq ?_
     refine bq ?_
     obtain ⟨v4, hv4, h⟩:=zn h
     obtain ⟨v5, hv5, h⟩:=zn h
     refine yx hn 3 ?_
     refine yS (vs v4) 0 ⟨iT _ _ _ 0 v3.2 _ underlying9 rfl rfl ⟨_,rfl⟩ hv4⟩ ?_
     refine yk [53] [23,20] ?_
     refine wX (53,.inv (J v5.1)) (24,vb v5.2) 1 ⟨CB _ _ 53 l v4 s13 v5 hY hv5 rfl rfl rfl⟩ ?_
     refine eS [0,2,52,53,6,25] ?_
     refine cU _ rfl (fun hb24 => ?_) (fun hb24 => ?_)
     ·have h:=dn hb24 h
      refine cY ?_
      refine cw [3] (by kernel_rfl) (es':=[(53,.inv (J v5.1))]) rfl ?_
      refine cT ?_
      refine eA ?_
      refine cT ?_
      refine eA ?_
      refine cT ?_
      refine cT ?_
      have h:=hr19 _ (ho20 _ (zi h).symm).symm
      obtain rfl:=zi h
      exact Fi hio rfl rfl rfl
     ·have h:=dj hb24 h
      refine dw ?_
      refine cr ?_
      obtain ⟨v7, hv7, h⟩:=zn h
      refine yx hn 2 ?_
      refine yS (vs v7) 1 ⟨iT _ _ _ v3.2 (s12.size:Int) _ underlying9 rfl ⟨_,rfl⟩ rfl hv7⟩ ?_
      refine ye [0,2,52,53] ?_
      refine ep ?_
      exact fx _ (zi h).symm rfl
    ·have h:=dj hb23 h
     refine fp ?_
     refine dB ?_
     refine dB ?_
     refine fq ?_
     refine cw [2,3] (by kernel_rfl) (es':=[(_,_),(_,_)]) rfl ?_
     exact hl18 _ (ho20 _ (zi h).symm).symm
  ·have h:=dj hb1 h
   refine dw ?_
   refine cr (bq ?_)
   refine sw [0,1,2,3,4,5] (by kernel_rfl) (es':=[(_,_),(_,_),(_,_),(_,_),(_,_),(_,_)]) rfl ?_
   refine eR h (fun ((s37,s38):ByteArray×S)=>[(0,.v (.func (.yield l) #[] #[])),(1,.box 9 [vs c0]),(2,.box 9 [vs s37]),(3,.box 3 [vi c2]),(52,.glob (GL mx)),(53,.inv (J s38))]) (fun ((s41,s42):ByteArray×S)=>[(0,.v (.func (.yield l) #[] #[])),(2,.box 9 [vs s41]),(52,.glob (GL mx)),(53,.inv (J s42))]) ?_ ?_
   ·rintro ⟨s41, s42⟩ h
    refine cr ?_
    obtain ⟨v51, hv51, h⟩:=zn h
    refine yx hn 2 ?_
    refine yk [53] [50,49] ?_
    refine wX (53,.inv (J v51.1)) (51,vb v51.2) 0 ⟨CB _ _ 53 l s41 s42 v51 hY hv51 rfl rfl rfl⟩ ?_
    refine ye [52,53] ?_
    refine cw [1] (by kernel_rfl) (es':=[(53,.inv (J v51.1))]) rfl ?_
    obtain rfl:=zi h
    exact SJ hio rfl rfl rfl
   ·rintro u43 hl44 hr45 ⟨s37, s38⟩ rr48 h ho46
    refine dY ?_
    refine bq ?_
    obtain ⟨v25, hv25, h⟩:=zn h
    refine yx hn 2 ?_
    refine ys 1 ⟨lk call121 (vy _ _ _ hv25)⟩ ?_
    refine eS [0,1,2,3,52,53,7] ?_
    refine bq ?_
    refine eo hn 2 [0,1,2,3,52,53,7,33] ?_
    refine cU _ rfl (fun hb49 => ?_) (fun hb49 => ?_)
    ·have h:=dn hb49 h
     refine fp ?_
     refine dB ?_
     refine KY (by decide) ?_
     refine dB ?_
     refine fq ?_
     refine cw [0,2,4,5] (by kernel_rfl) (es':=[(_,_),(_,_),(_,_),(_,_)]) rfl ?_
     exact hl44 _ (ho46 _ (zi h).symm).symm
    ·have h:=dj hb49 h
     refine dw ?_
     refine cr (bq ?_)
     obtain ⟨v27, hv27, h⟩:=zn h
     obtain ⟨v28, hv28, h⟩:=zn h
     refine yx hn 3 ?_
     refine ys 0 ⟨lb hv27⟩ ?_
     refine yS (vs v28) 1 ⟨iT _ _ _ 0 v27 _ underlying9 rfl rfl ⟨_,rfl⟩ hv28⟩ ?_
     refine eS [0,1,2,3,52,53,7,8] ?_
     refine bq ?_
     refine bq ?_
     obtain ⟨v29, hv29, h⟩:=zn h
     refine yx hn 2 ?_
     refine yk [53] [40,39] ?_
     refine wX (53,.inv (J v29.1)) (41,vb v29.2) 1 ⟨CB _ _ 53 l v28 s38 v29 hY hv29 rfl rfl rfl⟩ ?_
     refine eS [0,1,2,3,52,53,7,42] ?_
     refine cU _ rfl (fun hb50 => ?_) (fun hb50 => ?_)
     ·have h:=dn hb50 h
      refine cY ?_
      refine cw [5] (by kernel_rfl) (es':=[(53,.inv (J v29.1))]) rfl ?_
      refine cT ?_
      refine eA ?_
      refine cT ?_
      refine eA ?_
      refine cT ?_
      have h:=hr45 _ (ho46 _ (zi h).symm).symm
      obtain rfl:=zi h
      exact Fi hio rfl rfl rfl
     ·have h:=dj hb50 h
      refine dw ?_
      refine cr ?_
      obtain ⟨v31, hv31, h⟩:=zn h
      obtain ⟨v32, hv32, h⟩:=zn h
      refine yx hn 4 ?_
      refine ys 0 ⟨lb hv31⟩ ?_
      refine yS (vs v32) 1 ⟨iT _ _ _ v31 (s37.size:Int) _ underlying9 rfl ⟨_,rfl⟩ rfl hv32⟩ ?_
      refine ye [0,1,2,3,52,53] ?_
      refine ep ?_
      exact fx _ (zi h).symm rfl
theorem mc (c:Int) (r:Bool) (h:Sh.nZ c=some r):gN Tryz.prog 83 [.v (.int .u8 c)] (.v (.bool r)):=by
  unfold Sh.nZ at h
  refine yO 25 func83 fun g0 hn hio => ?_
  refine eo hn 1 [0] ?_
  refine bq ?_
  refine dO h (fun (s1:Bool)=>[(2,vb s1)]) ?_ ?_
  ·rintro s1 h
   refine cr (cY ?_)
   obtain rfl:=zi h
   exact dq hio rfl (.tmp _ _ .nil) rfl rfl
  ·intro u2 h hl3 hr4
   refine cZ h (fun hg1_2 h => ?_) (fun hg1_2 h => ?_)
   ·refine cZ h (fun hg1_6 h => ?_) (fun hg1_6 h => ?_)
    ·refine yx hn 3 ?_
     refine yd hg1_2 4 ?_
     refine yd hg1_6 16 ?_
     refine ye [2] ?_
     exact hl3 _ (zi h).symm
    ·refine cZ h (fun hg1_9 h => ?_) (fun hg1_9 h => ?_)
     ·refine cZ h (fun hg1_14 h => ?_) (fun hg1_14 h => ?_)
      ·refine yx hn 3 ?_
       refine yd hg1_2 4 ?_
       refine yd hg1_6 3 ?_
       refine yd hg1_9 5 ?_
       refine yd hg1_14 8 ?_
       refine ye [2] ?_
       exact hl3 _ (zi h).symm
      ·refine cZ h (fun hg1_17 h => ?_) (fun hg1_17 h => ?_)
       ·refine yx hn 3 ?_
        refine yd hg1_2 4 ?_
        refine yd hg1_6 3 ?_
        refine yd hg1_9 5 ?_
        refine yd hg1_14 3 ?_
        refine yd hg1_17 5 ?_
        refine ye [2] ?_
        exact hl3 _ (zi h).symm
       ·refine yx hn 3 ?_
        refine yd hg1_2 4 ?_
        refine yd hg1_6 3 ?_
        refine yd hg1_9 5 ?_
        refine yd hg1_14 3 ?_
        refine yd hg1_17 5 ?_
        refine ye [2] ?_
        exact hl3 _ (zi h).symm
     ·refine cZ h (fun hg1_17 h => ?_) (fun hg1_17 h => ?_)
      ·refine yx hn 3 ?_
       refine yd hg1_2 4 ?_
       refine yd hg1_6 3 ?_
       refine yd hg1_9 8 ?_
       refine yd hg1_17 5 ?_
       refine ye [2] ?_
       exact hl3 _ (zi h).symm
      ·refine yx hn 3 ?_
       refine yd hg1_2 4 ?_
       refine yd hg1_6 3 ?_
       refine yd hg1_9 8 ?_
       refine yd hg1_17 5 ?_
       refine ye [2] ?_
       exact hl3 _ (zi h).symm
   ·refine cZ h (fun hg1_9 h => ?_) (fun hg1_9 h => ?_)
    ·refine cZ h (fun hg1_14 h => ?_) (fun hg1_14 h => ?_)
     ·refine yx hn 3 ?_
      refine yd hg1_2 7 ?_
      refine yd hg1_9 5 ?_
      refine yd hg1_14 8 ?_
      refine ye [2] ?_
      exact hl3 _ (zi h).symm
     ·refine cZ h (fun hg1_17 h => ?_) (fun hg1_17 h => ?_)
      ·refine yx hn 3 ?_
       refine yd hg1_2 7 ?_
       refine yd hg1_9 5 ?_
       refine yd hg1_14 3 ?_
       refine yd hg1_17 5 ?_
       refine ye [2] ?_
       exact hl3 _ (zi h).symm
      ·refine yx hn 3 ?_
       refine yd hg1_2 7 ?_
       refine yd hg1_9 5 ?_
       refine yd hg1_14 3 ?_
       refine yd hg1_17 5 ?_
       refine ye [2] ?_
       exact hl3 _ (zi h).symm
    ·refine cZ h (fun hg1_17 h => ?_) (fun hg1_17 h => ?_)
     ·refine yx hn 3 ?_
      refine yd hg1_2 7 ?_
      refine yd hg1_9 8 ?_
      refine yd hg1_17 5 ?_
      refine ye [2] ?_
      exact hl3 _ (zi h).symm
     ·refine yx hn 3 ?_
      refine yd hg1_2 7 ?_
      refine yd hg1_9 8 ?_
      refine yd hg1_17 5 ?_
      refine ye [2] ?_
      exact hl3 _ (zi h).symm
theorem EU (c:Int) (r:Bool) (h:Sh.vV c=some r):gN Tryz.prog 82 [.v (.int .u8 c)] (.v (.bool r)):=by
  unfold Sh.vV at h
  refine yO 9 func82 fun g0 hn hio => ?_
  refine eo hn 1 [0] ?_
  refine bq ?_
  refine dO h (fun (s2:Bool)=>[(2,vb s2)]) ?_ ?_
  ·rintro s2 h
   refine cr (cY ?_)
   obtain rfl:=zi h
   exact dq hio rfl (.tmp _ _ .nil) rfl rfl
  ·intro u3 h hl4 hr5
   obtain ⟨v1, hv1, h⟩:=zn h
   refine cZ h (fun hg1_2 h => ?_) (fun hg1_2 h => ?_)
   ·refine yx hn 1 ?_
    refine ys 1 ⟨lk call83 (mc _ _ hv1)⟩ ?_
    refine yd hg1_2 4 ?_
    refine ye [2] ?_
    exact hl4 _ (zi h).symm
   ·refine yx hn 1 ?_
    refine ys 1 ⟨lk call83 (mc _ _ hv1)⟩ ?_
    refine yd hg1_2 4 ?_
    refine ye [2] ?_
    exact hl4 _ (zi h).symm
theorem tE (s:ByteArray) (r:Bool) (h:Sh.mv s=some r):gN Tryz.prog 81 [.v (.string s), .v (.func (.func 82) #[] #[])] (.v (.bool r)):=by
  unfold Sh.mv at h
  refine yO 18 func81 fun g0 hn hio => ?_
  refine eo hn 1 [0,1] ?_
  refine bq ?_
  refine eo hn 3 [0,1,7,8] ?_
  refine eR h (fun (s9:Int)=>[(0,vs s),(1,.v (.func (.func 82) #[] #[])),(7,vi (s.size:Int)),(8,vi s9)]) (fun (():Unit)=>[]) ?_ ?_
  ·rintro ⟨⟩ h
   refine cr ?_
   refine eo hn 1 [4] ?_
   refine cY ?_
   obtain rfl:=zi h
   exact dq hio rfl (.tmp _ _ .nil) rfl rfl
  ·rintro u12 hl13 hr14 s9 rr17 h ho15
   refine eo hn 1 [0,1,7,8,9] ?_
   refine bq ?_
   refine cU _ rfl (fun hb18 => ?_) (fun hb18 => ?_)
   ·have h:=dn hb18 h
    refine dw ?_
    refine cr (bq ?_)
    refine dY ?_
    refine eo hn 2 [0,1,7,8,5] ?_
    refine bq ?_
    obtain ⟨v2, hv2, h⟩:=zn h
    obtain ⟨v3, hv3, h⟩:=zn h
    refine yx hn 3 ?_
    refine ys 0 ⟨lh hv2⟩ ?_
    refine ys 1 ⟨lk call82 (EU _ _ hv3)⟩ ?_
    refine eS [0,1,7,8,16] ?_
    refine cU _ rfl (fun hb19 => ?_) (fun hb19 => ?_)
    ·have h:=dn hb19 h
     refine eo hn 1 [4] ?_
     refine cY ?_
     refine eA ?_
     refine cT ?_
     refine cT ?_
     refine eA ?_
     refine cT ?_
     have h:=hr14 _ (ho15 _ (zi h).symm).symm
     obtain rfl:=zi h
     exact dq hio rfl (.tmp _ _ .nil) rfl rfl
    ·have h:=dj hb19 h
     refine dw ?_
     refine ep ?_
     refine cr ?_
     obtain ⟨v5, hv5, h⟩:=zn h
     refine yx hn 0 ?_
     refine ys 0 ⟨lb hv5⟩ ?_
     refine yw [8] 1 ?_
     refine ye [0,1,7,8] ?_
     exact fx _ (zi h).symm rfl
   ·have h:=dj hb18 h
    refine fp ?_
    refine dB ?_
    refine dB ?_
    refine fq ?_
    refine cw [] (by kernel_rfl) (es':=[]) rfl ?_
    exact hl13 _ (ho15 _ (zi h).symm).symm
theorem Hz (s:ByteArray) (r:Bool) (h:Sh.Au s=some r):gN Tryz.prog 70 [.v (.string s)] (.v (.bool r)):=by
  unfold Sh.Au at h
  refine yO 27 func70 fun g0 hn hio => ?_
  refine eo hn 1 [0] ?_
  refine bq ?_
  refine dO h (fun (s5:Bool)=>[(2,vb s5)]) ?_ ?_
  ·rintro s5 h
   refine cr (cY ?_)
   obtain rfl:=zi h
   exact dq hio rfl (.tmp _ _ .nil) rfl rfl
  ·intro u6 h hl7 hr8
   refine cZ h (fun hg1_2 h => ?_) (fun hg1_2 h => ?_)
   ·refine cZ h (fun hg1_7 h => ?_) (fun hg1_7 h => ?_)
    ·obtain ⟨v1, hv1, h⟩:=zn h
     refine cZ h (fun hg1_12 h => ?_) (fun hg1_12 h => ?_)
     ·obtain ⟨v2, hv2, h⟩:=zn h
      obtain ⟨v3, hv3, h⟩:=zn h
      refine cZ h (fun hg1_20 h => ?_) (fun hg1_20 h => ?_)
      ·obtain ⟨v4, hv4, h⟩:=zn h
       refine yx hn 3 ?_
       refine yd hg1_2 5 ?_
       refine yd hg1_7 1 ?_
       refine ys 3 ⟨lh hv1⟩ ?_
       refine yd hg1_12 3 ?_
       refine ys 0 ⟨lb hv2⟩ ?_
       refine ys 3 ⟨lh hv3⟩ ?_
       refine yd hg1_20 1 ?_
       refine ys 2 ⟨lk call81 (tE _ _ hv4)⟩ ?_
       refine ye [2] ?_
       exact hl7 _ (zi h).symm
      ·refine yx hn 3 ?_
       refine yd hg1_2 5 ?_
       refine yd hg1_7 1 ?_
       refine ys 3 ⟨lh hv1⟩ ?_
       refine yd hg1_12 3 ?_
       refine ys 0 ⟨lb hv2⟩ ?_
       refine ys 3 ⟨lh hv3⟩ ?_
       refine yd hg1_20 4 ?_
       refine ye [2] ?_
       exact hl7 _ (zi h).symm
     ·refine yx hn 3 ?_
      refine yd hg1_2 5 ?_
      refine yd hg1_7 1 ?_
      refine ys 3 ⟨lh hv1⟩ ?_
      refine yd hg1_12 12 ?_
      refine ye [2] ?_
      exact hl7 _ (zi h).symm
    ·refine yx hn 3 ?_
     refine yd hg1_2 5 ?_
     refine yd hg1_7 17 ?_
     refine ye [2] ?_
     exact hl7 _ (zi h).symm
   ·refine yx hn 3 ?_
    refine yd hg1_2 22 ?_
    refine ye [2] ?_
    exact hl7 _ (zi h).symm
theorem ta (mx:Int×Nat×Value) (s:ByteArray) (r:Bool) (h:Sh.ly s=some r):qT Tryz.prog (GL mx) 69 [.v (.string s), .v (.func (.func 70) #[] #[])] (.v (.bool r)):=by
  unfold Sh.ly at h
  refine yG 13 func69 fun g0 hn hio => ?_
  refine oh hn 1 ?_
  refine yS (.box 4 [vb false]) 0 ⟨oA (fj _ _ VM)⟩ ?_
  refine eS [0,13,3,4] ?_
  refine bq ?_
  refine bq ?_
  obtain ⟨v1, hv1, h⟩:=zn h
  refine yx hn 1 ?_
  refine yk [] [6] ?_
  refine yt (7,.cloB 119 [.box 9 [vs v1.1],.box 9 [vs v1.2.1],.box 3 [vi v1.2.2]]) 0 ⟨pO _ _ 80 _ _ rfl call80 rfl rfl (pB s (⟨#[46]⟩:ByteArray) _ hv1) rfl⟩ ?_
  refine eS [13,3,4,7] ?_
  refine dY ?_
  refine sw [3,0,1,2] (by kernel_rfl) (es':=[(7,.cloB 119 [.box 9 [vs v1.1],.box 9 [vs v1.2.1],.box 3 [vi v1.2.2]]),(13,.glob (GL mx)),(3,.box 65 [.v (.func (.func 70) #[] #[])]),(4,.box 4 [vb false])]) rfl ?_
  refine qQ h 119 7 8 14 _ [13, 3, 4] call119 (fun (():Unit)=>[(13, .glob (GL mx)), (3, .box 65 [.v (.func (.func 70) #[] #[])]), (4, .box 4 [.v (.bool false)])]) (fun (():Unit)=>[(13, .glob (GL mx)), (3, .box 65 [.v (.func (.func 70) #[] #[])]), (4, .box 4 [.v (.bool false)])]) (fun l J Y hY t t' h=>nR mx l J Y hY v1.1 v1.2.1 v1.2.2 t t' h) hn rfl (fun _=>rfl) (fun _=>rfl) (fun _=>rfl) rfl rfl (fun _=>⟨rfl, rfl⟩) rfl (re 13 rfl) ?_ ?_ ?_
  ·rintro kk g0 hn hio x ⟨⟩ u h
   refine Ee (es':=[(8,vs x),(13,.glob (GL mx)),(3,.box 65 [.v (.func (.func 70) #[] #[])]),(4,.box 4 [vb false]),(13,.v (kk.tm.getD 13 undef)),(3,.v (kk.tm.getD 3 undef)),(4,.v (kk.tm.getD 4 undef)),(14,.inv kk.ready)]) rfl ?_
   refine yy hn 1 [13,3,4,14,5,13,3,4] ?_
   refine cw [0,1,2,4,5,6,7,3] (by kernel_rfl) (es':=[(13,.glob (GL mx)),(3,.box 65 [.v (.func (.func 70) #[] #[])]),(4,.box 4 [vb false]),(5,vs x),(13,.v (kk.tm.getD 13 undef)),(3,.v (kk.tm.getD 3 undef)),(4,.v (kk.tm.getD 4 undef)),(14,.inv kk.ready)]) rfl ?_
   refine sL (es:=[(13,.glob (GL mx)),(3,.box 65 [.v (.func (.func 70) #[] #[])]),(4,.box 4 [vb false]),(5,vs x),(13,.v (kk.tm.getD 13 undef)),(3,.v (kk.tm.getD 3 undef)),(4,.v (kk.tm.getD 4 undef))]) 14 rfl ?_
   refine dY ?_
   refine bq ?_
   obtain ⟨v2, hv2, h⟩:=zn h
   refine yx hn 2 ?_
   refine ys 1 ⟨lk call70 (Hz _ _ hv2)⟩ ?_
   refine eS [13,3,4,14,12,13,3,4] ?_
   refine cU _ rfl (fun hb5 => ?_) (fun hb5 => ?_)
   ·have h:=dn hb5 h
    refine eo hn 1 [13,3,4,14,13,3,4] ?_
    refine cY ?_
    refine eA ?_
    refine cw [0,1,2,4,5,6,3] (by kernel_rfl) (es':=[(_,_),(_,_),(_,_),(_,_),(_,_),(_,_),(_,_)]) rfl ?_
    obtain rfl:=zi h
    exact BU 14 [13, 3, 4] _ rfl rfl (by kernel_rfl)
   ·have h:=dj hb5 h
    refine dw ?_
    refine ep ?_
    refine cw [0,1,2,5,6,7,3] (by kernel_rfl) (es':=[(_,_),(_,_),(_,_),(_,_),(_,_),(_,_),(_,_)]) rfl ?_
    obtain rfl:=zi h
    exact sQ 14 [13, 3, 4] _ rfl rfl (by kernel_rfl)
  ·rintro D ⟨⟩ h
   refine ep ?_
   refine cr ?_
   refine eo hn 1 [13,4] ?_
   refine cY ?_
   refine cw [1] (by kernel_rfl) (es':=[(_,_)]) rfl ?_
   obtain rfl:=zi h
   exact dq hio rfl (.cell1 _ _ _ _ underlying4 rfl .nil) rfl rfl
  ·rintro D ⟨⟩ h
   refine cw [2] (by kernel_rfl) (es':=[(_,_)]) rfl ?_
   refine eA ?_
   refine cT ?_
   obtain rfl:=zi h
   exact dq hio rfl (.cell1 _ _ _ _ underlying4 rfl .nil) rfl rfl
theorem ib (mx:Int×Nat×Value) (s:ByteArray) (r:Bool) (h:Sh.kS s=some r):qT Tryz.prog (GL mx) 55 [.v (.string s)] (.v (.bool r)):=by
  unfold Sh.kS at h
  refine yG 10 func55 fun g0 hn hio => ?_
  refine eo hn 1 [0,10] ?_
  refine bq ?_
  refine dO h (fun (s2:Bool)=>[(10,.glob (GL mx)),(2,vb s2)]) ?_ ?_
  ·rintro s2 h
   refine cr (cY ?_)
   refine cw [1] (by kernel_rfl) (es':=[(_,_)]) rfl ?_
   obtain rfl:=zi h
   exact dq hio rfl (.tmp _ _ .nil) rfl rfl
  ·intro u3 h hl4 hr5
   refine cZ h (fun hg1_3 h => ?_) (fun hg1_3 h => ?_)
   ·obtain ⟨v1, hv1, h⟩:=zn h
    refine yx hn 4 ?_
    refine yd hg1_3 1 ?_
    refine ys 2 ⟨lg call69 (ta _ _ _ hv1) 10⟩ ?_
    refine ye [10,2] ?_
    exact hl4 _ (zi h).symm
   ·refine yx hn 4 ?_
    refine yd hg1_3 4 ?_
    refine ye [10,2] ?_
    exact hl4 _ (zi h).symm
theorem mj (s:ByteArray) (r:ByteArray) (h:Sh.nP s=some r):gN Tryz.prog 71 [.v (.string s)] (.v (.string r)):=by
  unfold Sh.nP at h
  refine yO 29 func71 fun g0 hn hio => ?_
  refine eo hn 1 [0] ?_
  refine bq ?_
  obtain ⟨v1, hv1, h⟩:=zn h
  refine yx hn 1 ?_
  refine ys 0 ⟨lU hv1⟩ ?_
  refine ya 0 ?_
  refine eS [3] ?_
  refine bq ?_
  refine oh hn 1 ?_
  refine yS (vi (v1.length:Int)) 1 ⟨yT _ _ _ underlying28 rfl (List.length_map _)⟩ ?_
  refine eS [3,8,9,10] ?_
  refine eR h (fun ((s40,s41):(List Int)×Int)=>[(3,.mkr 5 (map (int .u8) s40)),(8,.same (.slot 3)),(9,vi (v1.length:Int)),(10,vi s41)]) (fun (s57:(List Int))=>[(3,.mkr 5 (map (int .u8) s57))]) ?_ ?_
  ·rintro s57 h
   refine cr (bq ?_)
   obtain ⟨v79, hv79, h⟩:=zn h
   refine yx hn 0 ?_
   refine ym 0 ?_
   refine ys 1 ⟨lM hv79⟩ ?_
   refine eS [2] ?_
   refine cY ?_
   obtain rfl:=zi h
   exact dq hio rfl (.tmp _ _ .nil) rfl rfl
  ·rintro u58 hl59 hr60 ⟨s40, s41⟩ rr63 h ho61
   refine eo hn 1 [3,8,9,10,11] ?_
   refine bq ?_
   refine cU _ rfl (fun hb64 => ?_) (fun hb64 => ?_)
   ·have h:=dn hb64 h
    refine dw ?_
    refine cr (bq ?_)
    refine dO h (fun (s70:(List Int))=>[(3,.mkr 5 (map (int .u8) s70)),(8,.same (.slot 3)),(9,vi (v1.length:Int)),(10,vi s41)]) ?_ ?_
    ·rintro s70 h
     refine cr ?_
     obtain ⟨v22, hv22, h⟩:=zn h
     refine yx hn 0 ?_
     refine ys 0 ⟨lb hv22⟩ ?_
     refine yw [10] 1 ?_
     refine ye [3,8,9,10] ?_
     exact fx _ (zi h).symm rfl
    ·intro u71 h hl72 hr73
     refine dY ?_
     refine bq ?_
     obtain ⟨v3, hv3, h⟩:=zn h
     obtain ⟨v4, hv4, h⟩:=zn h
     refine yx hn 1 ?_
     refine yS (.eref (.slot 3) (v3 * 1)) 0 ⟨KO _ _ _ _ _ _ _ underlying28 tq rfl rfl rfl (fH hv3).1 (Qh (fH hv3).2) rfl⟩ ?_
     refine yS (.v (.int .u8 v4)) 2 ⟨MQ _ _ _ _ _ _ underlying5 rfl rfl rfl (Kg hv4)⟩ ?_
     refine eS [3,8,9,10,4,5] ?_
     refine bq ?_
     refine dO h (fun (s74:Bool)=>[(3,.mkr 5 (map (int .u8) s40)),(8,.same (.slot 3)),(9,vi (v1.length:Int)),(10,vi s41),(4,vi s41),(5,.v (.int .u8 v4)),(20,vb s74)]) ?_ ?_
     ·rintro s74 h
      refine cr ?_
      refine cU _ rfl (fun hb78 => ?_) (fun hb78 => ?_)
      ·have h:=dn hb78 h
       obtain ⟨v10, hv10, h⟩:=zn h
       obtain ⟨v11, hv11, h⟩:=zn h
       obtain ⟨v12, hv12, h⟩:=zn h
       refine yx hn 3 ?_
       refine ys 0 ⟨lb hv10⟩ ?_
       refine yS (.eref (.slot 3) (v11 * 1)) 0 ⟨KO _ _ _ _ _ _ _ underlying28 tq rfl rfl rfl (fH hv11).1 (Qh (fH hv11).2) rfl⟩ ?_
       refine yk [3] [25,24] ?_
       refine yt (3,.mkr 5 (map (int .u8) v12)) 0 ⟨LI _ _ _ _ _ _ _ tq rfl rfl rfl (Vi (fH hv11).2) (Uo (f:=int .u8) (Option.some.inj hv12))⟩ ?_
       refine ye [3,8,9,10] ?_
       refine ep ?_
       exact hl72 _ (zi h).symm
      ·have h:=dj hb78 h
       refine dw ?_
       refine ep ?_
       refine cw [0,1,2,3] (by kernel_rfl) (es':=[(_,_),(_,_),(_,_),(_,_)]) rfl ?_
       exact hl72 _ (zi h).symm
     ·intro u75 h hl76 hr77
      refine cZ h (fun hg5_2 h => ?_) (fun hg5_2 h => ?_)
      ·refine yx hn 3 ?_
       refine yd hg5_2 3 ?_
       refine ye [3,8,9,10,4,5,20] ?_
       exact hl76 _ (zi h).symm
      ·refine yx hn 3 ?_
       refine yd hg5_2 3 ?_
       refine ye [3,8,9,10,4,5,20] ?_
       exact hl76 _ (zi h).symm
   ·have h:=dj hb64 h
    refine fp ?_
    refine dB ?_
    refine dB ?_
    refine fq ?_
    refine cw [0] (by kernel_rfl) (es':=[(_,_)]) rfl ?_
    exact hl59 _ (ho61 _ (zi h).symm).symm
theorem uo (a:ByteArray) (b:ByteArray) (r:Bool) (h:Sh.rK a b=some r):gN Tryz.prog 56 [.v (.string a), .v (.string b)] (.v (.bool r)):=by
  unfold Sh.rK at h
  refine yO 10 func56 fun g0 hn hio => ?_
  refine eo hn 1 [0,1] ?_
  refine bq ?_
  obtain ⟨v1, hv1, h⟩:=zn h
  obtain ⟨v2, hv2, h⟩:=zn h
  refine yx hn 1 ?_
  refine ys 1 ⟨lk call71 (mj _ _ hv1)⟩ ?_
  refine ys 2 ⟨lk call71 (mj _ _ hv2)⟩ ?_
  refine eS [4] ?_
  refine cY ?_
  obtain rfl:=zi h
  exact dq hio rfl (.tmp _ _ .nil) rfl rfl
theorem yc (s:ByteArray) (least:Int) (r:Bool) (h:Sh.kQ s least=some r):gN Tryz.prog 58 [.v (.string s), .v (.int .u8 least)] (.v (.bool r)):=by
  unfold Sh.kQ at h
  refine yO 23 func58 fun g0 hn hio => ?_
  refine eo hn 1 [0,1] ?_
  refine bq ?_
  refine eo hn 3 [0,1,7,8] ?_
  refine eR h (fun (s17:Int)=>[(0,vs s),(1,.v (.int .u8 least)),(7,vi (s.size:Int)),(8,vi s17)]) (fun (():Unit)=>[]) ?_ ?_
  ·rintro ⟨⟩ h
   refine cr ?_
   refine eo hn 1 [4] ?_
   refine cY ?_
   obtain rfl:=zi h
   exact dq hio rfl (.tmp _ _ .nil) rfl rfl
  ·rintro u24 hl25 hr26 s17 rr29 h ho27
   refine eo hn 1 [0,1,7,8,9] ?_
   refine bq ?_
   refine cU _ rfl (fun hb30 => ?_) (fun hb30 => ?_)
   ·have h:=dn hb30 h
    refine dw ?_
    refine cr (bq ?_)
    refine dY ?_
    refine eo hn 2 [0,1,7,8,5] ?_
    refine bq ?_
    refine dO h (fun (s31:Bool)=>[(0,vs s),(1,.v (.int .u8 least)),(7,vi (s.size:Int)),(8,vi s17),(21,vb s31)]) ?_ ?_
    ·rintro s31 h
     refine cr ?_
     refine cU _ rfl (fun hb35 => ?_) (fun hb35 => ?_)
     ·have h:=dn hb35 h
      refine eo hn 1 [4] ?_
      refine cY ?_
      refine eA ?_
      refine cT ?_
      refine cT ?_
      refine eA ?_
      refine cT ?_
      have h:=hr26 _ (ho27 _ (zi h).symm).symm
      obtain rfl:=zi h
      exact dq hio rfl (.tmp _ _ .nil) rfl rfl
     ·have h:=dj hb35 h
      refine dw ?_
      refine ep ?_
      refine cr ?_
      obtain ⟨v9, hv9, h⟩:=zn h
      refine yx hn 0 ?_
      refine ys 0 ⟨lb hv9⟩ ?_
      refine yw [8] 1 ?_
      refine ye [0,1,7,8] ?_
      exact fx _ (zi h).symm rfl
    ·intro u32 h hl33 hr34
     obtain ⟨v2, hv2, h⟩:=zn h
     refine cZ h (fun hg4_5 h => ?_) (fun hg4_5 h => ?_)
     ·refine yx hn 2 ?_
      refine ys 3 ⟨lh hv2⟩ ?_
      refine yd hg4_5 5 ?_
      refine ye [0,1,7,8,21] ?_
      exact hl33 _ (zi h).symm
     ·obtain ⟨v3, hv3, h⟩:=zn h
      refine yx hn 2 ?_
      refine ys 3 ⟨lh hv2⟩ ?_
      refine yd hg4_5 2 ?_
      refine ys 2 ⟨lh hv3⟩ ?_
      refine ye [0,1,7,8,21] ?_
      exact hl33 _ (zi h).symm
   ·have h:=dj hb30 h
    refine fp ?_
    refine dB ?_
    refine dB ?_
    refine fq ?_
    refine cw [] (by kernel_rfl) (es':=[]) rfl ?_
    exact hl25 _ (ho27 _ (zi h).symm).symm
theorem vP (s:ByteArray) (r:Bool) (h:Sh.zd s=some r):gN Tryz.prog 57 [.v (.string s)] (.v (.bool r)):=by
  unfold Sh.zd at h
  refine yO 15 func57 fun g0 hn hio => ?_
  refine eo hn 1 [0] ?_
  refine bq ?_
  refine dO h (fun (s2:Bool)=>[(2,vb s2)]) ?_ ?_
  ·rintro s2 h
   refine cr (cY ?_)
   obtain rfl:=zi h
   exact dq hio rfl (.tmp _ _ .nil) rfl rfl
  ·intro u3 h hl4 hr5
   refine cZ h (fun hg1_3 h => ?_) (fun hg1_3 h => ?_)
   ·refine cZ h (fun hg1_8 h => ?_) (fun hg1_8 h => ?_)
    ·obtain ⟨v1, hv1, h⟩:=zn h
     refine yx hn 4 ?_
     refine yd hg1_3 5 ?_
     refine yd hg1_8 1 ?_
     refine ys 2 ⟨lk call58 (yc _ _ _ hv1)⟩ ?_
     refine ye [2] ?_
     exact hl4 _ (zi h).symm
    ·refine yx hn 4 ?_
     refine yd hg1_3 5 ?_
     refine yd hg1_8 4 ?_
     refine ye [2] ?_
     exact hl4 _ (zi h).symm
   ·refine yx hn 4 ?_
    refine yd hg1_3 9 ?_
    refine ye [2] ?_
    exact hl4 _ (zi h).symm
theorem xW (mx:Int×Nat×Value) (c:dQ) (r:Int) (h:Sh.sI c=some r):qT Tryz.prog (GL mx) 35 [.agg [.v (.string ((c.Domains.getD 0 (⟨#[]⟩:ByteArray)))), .v (.string ((c.Domains.getD 1 (⟨#[]⟩:ByteArray)))), .v (.int .i64 c.Expiry), .v (.string c.User), .v (.string c.Secret), .v (.int .i64 c.Log), .v (.bool c.Held)]] (.v (.int .i64 r)):=by
  unfold Sh.sI at h
  refine yG 65 func35 fun g0 hn hio => ?_
  refine eo hn 2 [65,1] ?_
  refine bq ?_
  refine dO h (fun (s4:Bool)=>[(65,.glob (GL mx)),(1,.box 24 (dQ.c c [])),(3,vb s4)]) ?_ ?_
  ·rintro s4 h
   refine cr (bq ?_)
   refine dO h (fun (s8:Bool)=>[(65,.glob (GL mx)),(1,.box 24 (dQ.c c [])),(3,vb s4),(4,vb s8)]) ?_ ?_
   ·rintro s8 h
    refine cr (bq ?_)
    refine dO h (fun (s14:Bool)=>[(65,.glob (GL mx)),(1,.box 24 (dQ.c c [])),(3,vb s4),(4,vb s8),(5,vb s14)]) ?_ ?_
    ·rintro s14 h
     refine cr (bq ?_)
     refine dO h (fun (s18:Bool)=>[(65,.glob (GL mx)),(3,vb s4),(4,vb s8),(5,vb s14),(6,vb s18)]) ?_ ?_
     ·rintro s18 h
      refine cr (bq ?_)
      refine bq ?_
      refine dO h (fun (s22:Bool)=>[(65,.glob (GL mx)),(64,vb s22)]) ?_ ?_
      ·rintro s22 h
       refine cr ?_
       refine cU _ rfl (fun hb26 => ?_) (fun hb26 => ?_)
       ·have h:=dn hb26 h
        refine eo hn 1 [65,2] ?_
        refine cY ?_
        refine cw [1] (by kernel_rfl) (es':=[(_,_)]) rfl ?_
        refine cT ?_
        obtain rfl:=zi h
        exact dq hio rfl (.tmp _ _ .nil) rfl rfl
       ·have h:=dj hb26 h
        refine dw ?_
        refine cr ?_
        refine eo hn 1 [65,2] ?_
        refine cY ?_
        refine cw [1] (by kernel_rfl) (es':=[(_,_)]) rfl ?_
        obtain rfl:=zi h
        exact dq hio rfl (.tmp _ _ .nil) rfl rfl
      ·intro u23 h hl24 hr25
       refine cZ h (fun hg5_2 h => ?_) (fun hg5_2 h => ?_)
       ·refine yx hn 3 ?_
        refine yd hg5_2 11 ?_
        refine ye [65,64] ?_
        exact hl24 _ (zi h).symm
       ·refine cZ h (fun hg5_6 h => ?_) (fun hg5_6 h => ?_)
        ·refine yx hn 3 ?_
         refine yd hg5_2 4 ?_
         refine yd hg5_6 7 ?_
         refine ye [65,64] ?_
         exact hl24 _ (zi h).symm
        ·refine cZ h (fun hg5_10 h => ?_) (fun hg5_10 h => ?_)
         ·refine yx hn 3 ?_
          refine yd hg5_2 4 ?_
          refine yd hg5_6 4 ?_
          refine yd hg5_10 3 ?_
          refine ye [65,64] ?_
          exact hl24 _ (zi h).symm
         ·refine yx hn 3 ?_
          refine yd hg5_2 4 ?_
          refine yd hg5_6 4 ?_
          refine yd hg5_10 3 ?_
          refine ye [65,64] ?_
          exact hl24 _ (zi h).symm
     ·intro u19 h hl20 hr21
      refine cZ h (fun hg4_3 h => ?_) (fun hg4_3 h => ?_)
      ·refine yx hn 4 ?_
       refine yd hg4_3 5 ?_
       refine ye [65,3,4,5,6] ?_
       exact hl20 _ (zi h).symm
      ·refine yx hn 4 ?_
       refine yd hg4_3 5 ?_
       refine ye [65,3,4,5,6] ?_
       exact hl20 _ (zi h).symm
    ·intro u15 h hl16 hr17
     obtain ⟨v12, hv12, h⟩:=zn h
     refine cZ h (fun hg3_3 h => ?_) (fun hg3_3 h => ?_)
     ·obtain ⟨v13, hv13, h⟩:=zn h
      refine yx hn 2 ?_
      refine ys 1 ⟨lk call57 (vP _ _ hv12)⟩ ?_
      refine yd hg3_3 2 ?_
      refine ys 2 ⟨lk call57 (vP _ _ hv13)⟩ ?_
      refine ye [65,1,3,4,5] ?_
      exact hl16 _ (zi h).symm
     ·refine yx hn 2 ?_
      refine ys 1 ⟨lk call57 (vP _ _ hv12)⟩ ?_
      refine yd hg3_3 5 ?_
      refine ye [65,1,3,4,5] ?_
      exact hl16 _ (zi h).symm
   ·intro u9 h hl10 hr11
    refine cZ h (fun hg2_3 h => ?_) (fun hg2_3 h => ?_)
    ·refine yx hn 4 ?_
     refine yd hg2_3 5 ?_
     refine ye [65,1,3,4] ?_
     exact hl10 _ (zi h).symm
    ·refine yx hn 4 ?_
     refine yd hg2_3 5 ?_
     refine ye [65,1,3,4] ?_
     exact hl10 _ (zi h).symm
  ·intro u5 h hl6 hr7
   obtain ⟨v1, hv1, h⟩:=zn h
   refine cZ h (fun hg1_4 h => ?_) (fun hg1_4 h => ?_)
   ·obtain ⟨v2, hv2, h⟩:=zn h
    refine cZ h (fun hg1_10 h => ?_) (fun hg1_10 h => ?_)
    ·obtain ⟨v3, hv3, h⟩:=zn h
     refine yx hn 1 ?_
     refine yS (.ptr 1 0) 1 ⟨ig _ _ _ _ 2 1 0 0 1 underlying22 FZ rfl rfl (by decide) (by decide)⟩ ?_
     refine ys 1 ⟨lg call55 (ib _ _ _ hv1) 65⟩ ?_
     refine yd hg1_4 1 ?_
     refine yS (.ptr 1 1) 1 ⟨ig _ _ _ _ 2 1 0 1 1 underlying22 FZ rfl rfl (by decide) (by decide)⟩ ?_
     refine ys 2 ⟨lg call55 (ib _ _ _ hv2) 65⟩ ?_
     refine yd hg1_10 1 ?_
     refine yS (.ptr 1 0) 2 ⟨ig _ _ _ _ 2 1 0 0 1 underlying22 FZ rfl rfl (by decide) (by decide)⟩ ?_
     refine yS (.ptr 1 1) 1 ⟨ig _ _ _ _ 2 1 0 1 1 underlying22 FZ rfl rfl (by decide) (by decide)⟩ ?_
     refine ys 3 ⟨lk call56 (uo _ _ _ hv3)⟩ ?_
     refine ye [65,1,3] ?_
     exact hl6 _ (zi h).symm
    ·refine yx hn 1 ?_
     refine yS (.ptr 1 0) 1 ⟨ig _ _ _ _ 2 1 0 0 1 underlying22 FZ rfl rfl (by decide) (by decide)⟩ ?_
     refine ys 1 ⟨lg call55 (ib _ _ _ hv1) 65⟩ ?_
     refine yd hg1_4 1 ?_
     refine yS (.ptr 1 1) 1 ⟨ig _ _ _ _ 2 1 0 1 1 underlying22 FZ rfl rfl (by decide) (by decide)⟩ ?_
     refine ys 2 ⟨lg call55 (ib _ _ _ hv2) 65⟩ ?_
     refine yd hg1_10 10 ?_
     refine ye [65,1,3] ?_
     exact hl6 _ (zi h).symm
   ·refine yx hn 1 ?_
    refine yS (.ptr 1 0) 1 ⟨ig _ _ _ _ 2 1 0 0 1 underlying22 FZ rfl rfl (by decide) (by decide)⟩ ?_
    refine ys 1 ⟨lg call55 (ib _ _ _ hv1) 65⟩ ?_
    refine yd hg1_4 16 ?_
    refine ye [65,1,3] ?_
    exact hl6 _ (zi h).symm
theorem zY (g:dE) (r:Bool) (h:Sh.nA g=some r):gN Tryz.prog 36 [.agg [.v (.int .i64 g.Phase), .v (.string g.Helo), .v (.bool g.From.Null), .v (.string g.From.Local), .v (.string g.From.Domain), .fl .shr 3 (flatten (map cz.enc g.To)), .v (.bool g.Quiet), .fl .shr 1 (map (int .u8) g.Buf), .v (.string g.Challenge), .v (.bool g.Proved)]] (.v (.bool r)):=by
  unfold Sh.nA at h
  refine yO 22 func36 fun g0 hn hio => ?_
  refine eo hn 2 [1] ?_
  refine bq ?_
  refine dO h (fun (s2:Bool)=>[(2,vb s2)]) ?_ ?_
  ·rintro s2 h
   refine cr (cY ?_)
   obtain rfl:=zi h
   exact dq hio rfl (.tmp _ _ .nil) rfl rfl
  ·intro u3 h hl4 hr5
   refine cZ h (fun hg1_3 h => ?_) (fun hg1_3 h => ?_)
   ·refine cZ h (fun hg1_8 h => ?_) (fun hg1_8 h => ?_)
    ·refine cZ h (fun hg1_14 h => ?_) (fun hg1_14 h => ?_)
     ·obtain ⟨v1, hv1, h⟩:=zn h
      refine yx hn 4 ?_
      refine yd hg1_3 5 ?_
      refine yd hg1_8 6 ?_
      refine yd hg1_14 2 ?_
      refine ys 2 ⟨lk call58 (yc _ _ _ hv1)⟩ ?_
      refine ye [2] ?_
      exact hl4 _ (zi h).symm
     ·refine yx hn 4 ?_
      refine yd hg1_3 5 ?_
      refine yd hg1_8 6 ?_
      refine yd hg1_14 5 ?_
      refine ye [2] ?_
      exact hl4 _ (zi h).symm
    ·refine yx hn 4 ?_
     refine yd hg1_3 5 ?_
     refine yd hg1_8 11 ?_
     refine ye [2] ?_
     exact hl4 _ (zi h).symm
   ·refine yx hn 4 ?_
    refine yd hg1_3 16 ?_
    refine ye [2] ?_
    exact hl4 _ (zi h).symm
theorem rC (l:(List cz)) (r:(List cz)) (h:Sh.kM l=some r):gN Tryz.prog 59 [.fl .shr 3 (flatten (map cz.enc l))] (.fl (.own 26) 3 (flatten (map cz.enc r))):=by
  unfold Sh.kM at h
  refine yO 5 func59 fun g0 hn hio => ?_
  refine eo hn 1 [0] ?_
  refine bq ?_
  obtain ⟨v1, hv1, h⟩:=zn h
  refine yx hn 1 ?_
  refine yS (.fl (.own 26) 3 (flatten (map cz.enc v1))) 0 ⟨vG _ _ _ _ Vz rfl rfl (tK cz.len _) hv1 (congrArg (fun l=>flatten (map _ l)) (wq hv1))⟩ ?_
  refine ya 0 ?_
  refine eS [2] ?_
  refine cY ?_
  obtain rfl:=zi h
  exact dq hio rfl (.tmp _ _ .nil) rfl rfl
theorem Bi (l:(List Int)) (r:(List Int)) (h:Sh.pW l=some r):gN Tryz.prog 60 [.fl .shr 1 (map (int .u8) l)] (.fl (.own 5) 1 (map (int .u8) r)):=by
  unfold Sh.pW at h
  refine yO 5 func60 fun g0 hn hio => ?_
  refine eo hn 1 [0] ?_
  refine bq ?_
  obtain ⟨v1, hv1, h⟩:=zn h
  refine yx hn 1 ?_
  refine yS (.fl (.own 5) 1 (map (int .u8) v1)) 0 ⟨vG _ _ _ _ pF rfl rfl (lx _) hv1 (congrArg (map _) (wq hv1))⟩ ?_
  refine ya 0 ?_
  refine eS [2] ?_
  refine cY ?_
  obtain rfl:=zi h
  exact dq hio rfl (.tmp _ _ .nil) rfl rfl
theorem zQ (g:dE) (r:dE) (h:Sh.sv g=some r):gN Tryz.prog 37 [.agg [.v (.int .i64 g.Phase), .v (.string g.Helo), .v (.bool g.From.Null), .v (.string g.From.Local), .v (.string g.From.Domain), .fl .shr 3 (flatten (map cz.enc g.To)), .v (.bool g.Quiet), .fl .shr 1 (map (int .u8) g.Buf), .v (.string g.Challenge), .v (.bool g.Proved)]] (.agg [.v (.int .i64 r.Phase), .v (.string r.Helo), .v (.bool r.From.Null), .v (.string r.From.Local), .v (.string r.From.Domain), .fl (.own 26) 3 (flatten (map cz.enc r.To)), .v (.bool r.Quiet), .fl (.own 5) 1 (map (int .u8) r.Buf), .v (.string r.Challenge), .v (.bool r.Proved)]):=by
  unfold Sh.sv at h
  refine yO 12 func37 fun g0 hn hio => ?_
  refine oh hn 1 ?_
  refine yS (.box 30 [vi 0,vs z0,vb false,vs z0,vs z0,vz,vb false,vz,vs z0,vb false]) 0 ⟨oA (fj _ _ Kw)⟩ ?_
  refine eS [1,2] ?_
  refine bq ?_
  obtain ⟨v1, hv1, h⟩:=zn h
  refine yx hn 2 ?_
  refine ys 1 ⟨lk call59 (rC _ _ hv1)⟩ ?_
  refine yk [5,1] [6] ?_
  refine yt (1,.box 30 [vi g.Phase,vs g.Helo,vb g.From.Null,vs g.From.Local,vs g.From.Domain,.fl (.own 26) 3 (flatten (map cz.enc v1)),vb g.Quiet,fb g.Buf,vs g.Challenge,vb g.Proved]) 0 ⟨eD _ _ _ _ _ _ _ _ US rfl rfl rfl (zl rfl) rfl rfl⟩ ?_
  refine eS [1,2] ?_
  refine bq ?_
  obtain ⟨v2, hv2, h⟩:=zn h
  refine yx hn 2 ?_
  refine ys 1 ⟨lk call60 (Bi _ _ hv2)⟩ ?_
  refine yk [9,1] [10] ?_
  refine yt (1,.box 30 [vi g.Phase,vs g.Helo,vb g.From.Null,vs g.From.Local,vs g.From.Domain,.fl (.own 26) 3 (flatten (map cz.enc v1)),vb g.Quiet,.fl (.own 5) 1 (map (int .u8) v2),vs g.Challenge,vb g.Proved]) 0 ⟨eD _ _ _ _ _ _ _ _ uE rfl rfl rfl (zl rfl) rfl rfl⟩ ?_
  refine eS [1,2] ?_
  refine oh hn 0 ?_
  refine yk [1] [] ?_
  refine yt (11,.agg [vi g.Phase,vs g.Helo,vb g.From.Null,vs g.From.Local,vs g.From.Domain,.fl (.own 26) 3 (flatten (map cz.enc v1)),vb g.Quiet,.fl (.own 5) 1 (map (int .u8) v2),vs g.Challenge,vb g.Proved]) 0 ⟨zV _ _ _ _ underlying30 rfl Du rfl rfl⟩ ?_
  refine yk [11,2] [] ?_
  refine yt (2,.box 30 [vi g.Phase,vs g.Helo,vb g.From.Null,vs g.From.Local,vs g.From.Domain,.fl (.own 26) 3 (flatten (map cz.enc v1)),vb g.Quiet,.fl (.own 5) 1 (map (int .u8) v2),vs g.Challenge,vb g.Proved]) 0 ⟨eD _ _ _ _ _ _ _ _ Du rfl rfl rfl (zl rfl) rfl rfl⟩ ?_
  refine eS [2] ?_
  refine cY ?_
  obtain rfl:=zi h
  exact dq hio rfl (.cellA _ _ _ _ underlying30 rfl Du .nil) rfl rfl
theorem yf (a:(List Int)) (b:(List Int)) (r:Bool) (h:Sh.sO a b=some r):gN Tryz.prog 72 [.fl .shr 1 (map (int .u8) a), .fl .shr 1 (map (int .u8) b)] (.v (.bool r)):=by
  unfold Sh.sO at h
  refine yO 10 func72 fun g0 hn hio => ?_
  refine eo hn 1 [0,1] ?_
  refine bq ?_
  obtain ⟨v1, hv1, h⟩:=zn h
  obtain ⟨v2, hv2, h⟩:=zn h
  refine yx hn 1 ?_
  refine ys 1 ⟨lS hv1⟩ ?_
  refine ys 2 ⟨lS hv2⟩ ?_
  refine eS [4] ?_
  refine cY ?_
  obtain rfl:=zi h
  exact dq hio rfl (.tmp _ _ .nil) rfl rfl
theorem Bp (s:(List Int)) (suffix:(List Int)) (r:Bool) (h:Sh.nE s suffix=some r):gN Tryz.prog 61 [.fl .shr 1 (map (int .u8) s), .fl .shr 1 (map (int .u8) suffix)] (.v (.bool r)):=by
  unfold Sh.nE at h
  refine yO 21 func61 fun g0 hn hio => ?_
  refine eo hn 1 [0,1] ?_
  refine bq ?_
  refine dO h (fun (s4:Bool)=>[(4,vb s4)]) ?_ ?_
  ·rintro s4 h
   refine cr (cY ?_)
   obtain rfl:=zi h
   exact dq hio rfl (.tmp _ _ .nil) rfl rfl
  ·intro u5 h hl6 hr7
   refine cZ h (fun hg1_5 h => ?_) (fun hg1_5 h => ?_)
   ·obtain ⟨v1, hv1, h⟩:=zn h
    obtain ⟨v2, hv2, h⟩:=zn h
    obtain ⟨v3, hv3, h⟩:=zn h
    refine yx hn 6 ?_
    refine yd hg1_5 5 ?_
    refine ys 0 ⟨lb hv1⟩ ?_
    refine yS (fb v2) 1 ⟨xo _ _ _ v1 (s.length:Int) _ underlying28 tq rfl rfl ⟨_,rfl⟩ rfl hv2⟩ ?_
    refine ys 2 ⟨lk call72 (yf _ _ _ hv3)⟩ ?_
    refine ye [4] ?_
    exact hl6 _ (zi h).symm
   ·refine yx hn 6 ?_
    refine yd hg1_5 11 ?_
    refine ye [4] ?_
    exact hl6 _ (zi h).symm
theorem uD (s:aa) (x:Int) (r:(Bool×aa)) (h:Sh.gp s x=some r):Bt Tryz.prog 38 [.box 80 (aa.b s), .v (.int .u8 x)] [.box 80 (aa.b r.2)] (.v (.bool r.1)):=by
  unfold Sh.gp at h
  refine yP 39 func38 fun args0 hargs0 g0 hn hio => ?_
  refine eo hn 1 [0,1,0] ?_
  refine bq ?_
  refine eo hn 6 [0,1,10,0] ?_
  refine cU _ rfl (fun hb1 => ?_) (fun hb1 => ?_)
  ·have h:=dn hb1 h
   refine bq ?_
   refine dO h (fun (s4:Bool)=>[(0,.box 80 (aa.b s)),(4,vb s4),(0,.v (List.getD args0 0 undef))]) ?_ ?_
   ·rintro s4 h
    refine cr (cY ?_)
    refine cw [1,0,2] (by kernel_rfl) (es':=[(_,_),(_,_),(_,_)]) rfl ?_
    refine cT ?_
    obtain rfl:=zi h
    exact fR (es:=[(4, .v (.bool s4))]) (posts:=[.box 80 (aa.b s)]) hio rfl rfl (.tmp _ _ .nil) rfl rfl hargs0 rfl
   ·intro u5 h hl6 hr7
    obtain ⟨v2, hv2, h⟩:=zn h
    refine cZ h (fun hg2_7 h => ?_) (fun hg2_7 h => ?_)
    ·refine yx hn 5 ?_
     refine ys 2 ⟨lM hv2⟩ ?_
     refine yd hg2_7 10 ?_
     refine ye [0,4,0] ?_
     exact hl6 _ (zi h).symm
    ·obtain ⟨v3, hv3, h⟩:=zn h
     refine yx hn 5 ?_
     refine ys 2 ⟨lM hv2⟩ ?_
     refine yd hg2_7 5 ?_
     refine yS (.fl (.own 5) 1 (map (int .u8) [13,10,46,13,10])) 0 ⟨eN _ _ 1 (.int .u8 0) (map (int .u8) [13,10,46,13,10]) [(0,.int .u8 13),(1,.int .u8 10),(2,.int .u8 46),(3,.int .u8 13),(4,.int .u8 10)] underlying28 tq EP (fun _ V w o a hv hes=>by simp only [List.map_toArray,List.map_cons,List.map_nil]; try rfl) (iw (by simp [Instr.fill,Value.cells]; rfl) (by simp [List.range,List.range.loop] <;> rfl)) (by simp [Value.oneCell']) rfl (by decide) (by decide) (by decide)⟩ ?_
     refine yk [24] [] ?_
     refine yt (25,.fl .ro 1 (map (int .u8) [13,10,46,13,10])) 0 ⟨ph _ _ _ underlying28 underlying5 (by intro h; cases h)⟩ ?_
     refine ys 2 ⟨lk call61 (Bp _ _ _ hv3)⟩ ?_
     refine ye [0,4,0] ?_
     exact hl6 _ (zi h).symm
  ·have h:=dj hb1 h
   refine dw ?_
   refine cr (bq ?_)
   refine dO h (fun (s8:Bool)=>[(0,.box 80 (aa.b s)),(4,vb s8),(0,.v (List.getD args0 0 undef))]) ?_ ?_
   ·rintro s8 h
    refine cr (cY ?_)
    refine cw [1,0,2] (by kernel_rfl) (es':=[(_,_),(_,_),(_,_)]) rfl ?_
    obtain rfl:=zi h
    exact fR (es:=[(4, .v (.bool s8))]) (posts:=[.box 80 (aa.b s)]) hio rfl rfl (.tmp _ _ .nil) rfl rfl hargs0 rfl
   ·intro u9 h hl10 hr11
    refine cZ h (fun hg3_2 h => ?_) (fun hg3_2 h => ?_)
    ·refine yx hn 3 ?_
     refine yd hg3_2 9 ?_
     refine ye [0,4,0] ?_
     exact hl10 _ (zi h).symm
    ·refine yx hn 3 ?_
     refine yd hg3_2 5 ?_
     refine yS (vi (s.Gate.Buf.length:Int)) 3 ⟨yT _ _ _ underlying28 rfl (List.length_map _)⟩ ?_
     refine ye [0,4,0] ?_
     exact hl10 _ (zi h).symm
theorem pS (b:(List Int)) (r:(List Int)) (h:Sh.qA b=some r):gN Tryz.prog 96 [.fl .shr 1 (map (int .u8) b)] (.cloB 123 [.box 28 [.fl .shr 1 (map (int .u8) r)]]):=by
  unfold Sh.qA at h
  refine yO 4 func96 fun g0 hn hio => ?_
  refine eo hn 2 [1] ?_
  refine oh hn 0 ?_
  refine yk [1] [] ?_
  refine yt (3,.cloB 123 [.box 28 [fb b]]) 0 ⟨Li _ _ [1] [.box 28 [fb b]] rfl rfl rfl⟩ ?_
  refine ya 0 ?_
  refine eS [2] ?_
  refine cY ?_
  obtain rfl:=zi h
  exact dq hio rfl (.tmp _ _ .nil) rfl rfl
theorem GM (mx:Int×Nat×Value) (s sep:List Int) (r:Int) (h:Sh.ux s sep=some r):qT Tryz.prog (GL mx) 89 [.fl .shr 1 (map (int .u8) s), .fl .shr 1 (map (int .u8) sep)] (.v (.int .i64 r)) :=
  Ew (JM mx) Tryz.bytes_Index_at Tryz.bytes_Index_longer s sep r h
theorem EE (mx:Int×Nat×Value) (s:(List Int)) (sep:(List Int)) (r:((List Int)×(List Int)×Bool)) (h:Sh.wD s sep=some r):qT Tryz.prog (GL mx) 74 [.fl .shr 1 (map (int .u8) s), .fl .shr 1 (map (int .u8) sep)] (.tup [.fl .shr 1 (map (int .u8) r.1), .fl .shr 1 (map (int .u8) r.2.1), .v (.bool r.2.2)]):=by
  unfold Sh.wD at h
  refine yG 23 func74 fun g0 hn hio => ?_
  refine eo hn 3 [0,1,23] ?_
  refine bq ?_
  refine bq ?_
  obtain ⟨v1, hv1, h⟩:=zn h
  refine yx hn 2 ?_
  refine ys 1 ⟨lg call89 (GM _ _ _ _ hv1) 23⟩ ?_
  refine eS [0,1,23,7] ?_
  refine eo hn 2 [0,1,23,7,12] ?_
  refine cU _ rfl (fun hb2 => ?_) (fun hb2 => ?_)
  ·have h:=dn hb2 h
   refine bq ?_
   obtain ⟨v3, hv3, h⟩:=zn h
   obtain ⟨v4, hv4, h⟩:=zn h
   obtain ⟨v5, hv5, h⟩:=zn h
   refine wb [[0],[7]] ?_
   refine wN [13,14] ?_
   refine wS (fb v3) [[0],[7],[1],[18]] ⟨xo _ _ _ 0 v1 _ underlying28 tq rfl rfl rfl ⟨_,rfl⟩ hv3⟩ ?_
   refine wN [17,19] ?_
   refine wo [] ⟨lb hv4⟩ ?_
   refine wN [16,20] ?_
   refine wS (fb v5) [[15],[21],[]] ⟨xo _ _ _ v4 (s.length:Int) _ underlying28 tq rfl rfl ⟨_,rfl⟩ rfl hv5⟩ ?_
   refine Ht hn [23,4,5,6] ?_
   refine cY ?_
   refine cw [1,2,3] (by kernel_rfl) (es':=[(_,_),(_,_),(_,_)]) rfl ?_
   refine cT ?_
   obtain rfl:=zi h
   exact dq hio rfl (.tmp _ _ (.tmp _ _ (.tmp _ _ .nil))) rfl rfl
  ·have h:=dj hb2 h
   refine dw ?_
   refine cr ?_
   refine eo hn 4 [23,4,5,6] ?_
   refine cY ?_
   refine cw [1,2,3] (by kernel_rfl) (es':=[(_,_),(_,_),(_,_)]) rfl ?_
   refine iZ (fs:=[(4,fb s),(5,fb []),(6,vb false)]) (.same _ (.sub _ (LK 1) rfl (.same _ .nil))) ?_
   obtain rfl:=zi h
   exact dq hio rfl (.tmp _ _ (.tmp _ _ (.tmp _ _ .nil))) rfl rfl
end Go.Proofs.YtjnnkhmhjcjhdaaGreatDoor
