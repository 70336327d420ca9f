/-
  The model's runs are what is told in Lean.
-/
import Derived.Test.YtjnnkhmhjcjhdaaGreatDoorProg
import Derived.KernelRfl
import Derived.Test.YtjnnkhmhjcjhdaaGreatDoorShelf
import Derived.Test.YtjnnkhmhjcjhdaaGreatDoorIdx
import Derived.Test.YtjnnkhmhjcjhdaaGreatDoorB3
import Derived.Test.YtjnnkhmhjcjhdaaGreatDoorC1
import Derived.Test.YtjnnkhmhjcjhdaaGreatDoorBC
import Derived.Test.YtjnnkhmhjcjhdaaGreatDoorOkc2
set_option linter.unusedVariables false
set_option linter.unusedSimpArgs false
set_option maxHeartbeats 1000000
namespace Go.Proofs.YtjnnkhmhjcjhdaaGreatDoor
open Go.Abs Go.Abs.Sh Tryz
open List (map flatten)
open Value (int)
theorem Al (mx:Int×Nat×Value) (helo:ByteArray) (site:ByteArray) (at_:Int) (r:((List Int)×Int)) (h:Sh.uo helo site at_=some r):lX Tryz.prog (GL mx) 129 [.v (.string helo), .v (.string site), .v (.int .i64 at_)] (.tup [.mkr 5 (map (int .u8) r.1), .v (.int .i64 r.2)]):=by
  unfold Sh.uo at h
  refine yG 33 func129 fun g0 hn hio => ?_
  refine cF hn 2 [0,1,2,33] ?_
  refine aM ?_
  refine aM ?_
  refine ce h (fun (s21:Bool)=>[(0,vs helo),(1,vs site),(2,vi at_),(33,.glob (GL mx)),(15,vb s21)]) ?_ ?_
  ·rintro s21 h
   refine bb ?_
   refine bL _ rfl (fun hb25 => ?_) (fun hb25 => ?_)
   ·have h:=bT hb25 h
    refine cF hn 2 [33,6,7] ?_
    refine bO ?_
    refine bG [1,2] (by kernel_rfl) (es':=[(_,_),(_,_)]) rfl ?_
    refine fe (fs:=[(6,.mkr 5 (map (int .u8) [])),(7,vi 5)]) (.sub _ (kv 5) rfl (.same _ .nil)) ?_
    refine bw ?_
    obtain rfl:=zi h
    exact bP hio rfl (.tmp _ _ (.tmp _ _ .nil)) rfl rfl
   ·have h:=bQ hb25 h
    refine bU ?_
    refine bb (aM ?_)
    refine aM ?_
    refine ce h (fun (s26:Bool)=>[(0,vs helo),(1,vs site),(2,vi at_),(33,.glob (GL mx)),(21,vb s26)]) ?_ ?_
    ·rintro s26 h
     refine bb ?_
     refine bL _ rfl (fun hb30 => ?_) (fun hb30 => ?_)
     ·have h:=bT hb30 h
      refine cF hn 2 [33,6,7] ?_
      refine bO ?_
      refine bG [1,2] (by kernel_rfl) (es':=[(_,_),(_,_)]) rfl ?_
      refine fe (fs:=[(6,.mkr 5 (map (int .u8) [])),(7,vi 1)]) (.sub _ (kv 5) rfl (.same _ .nil)) ?_
      refine bw ?_
      obtain rfl:=zi h
      exact bP hio rfl (.tmp _ _ (.tmp _ _ .nil)) rfl rfl
     ·have h:=bQ hb30 h
      refine bU ?_
      refine bb (aM ?_)
      obtain ⟨v13, hv13, h⟩:=zn h
      obtain ⟨v14, hv14, h⟩:=zn h
      obtain ⟨v15, hv15, h⟩:=zn h
      obtain ⟨v16, hv16, h⟩:=zn h
      obtain ⟨v17, hv17, h⟩:=zn h
      obtain ⟨v18, hv18, h⟩:=zn h
      obtain ⟨v19, hv19, h⟩:=zn h
      obtain ⟨v20, hv20, h⟩:=zn h
      refine yx hn 1 ?_
      refine ys 0 ⟨lB (ie hv13)⟩ ?_
      refine ys 1 ⟨lB (ie hv14)⟩ ?_
      refine ys 0 ⟨lB (ie hv15)⟩ ?_
      refine ys 1 ⟨lB (ie hv16)⟩ ?_
      refine ys 0 ⟨lg call150 (rD _ _ _ hv17) 33⟩ ?_
      refine ys 0 ⟨lB (ie hv18)⟩ ?_
      refine ys 0 ⟨lB (ie hv19)⟩ ?_
      refine ys 0 ⟨lU hv20⟩ ?_
      refine ya 1 ?_
      refine dv [33,6,7] ?_
      refine bO ?_
      refine bG [1,2] (by kernel_rfl) (es':=[(_,_),(_,_)]) rfl ?_
      obtain rfl:=zi h
      exact bP hio rfl (.tmp _ _ (.tmp _ _ .nil)) rfl rfl
    ·intro u27 h hl28 hr29
     refine bJ h (fun hg3_2 h => ?_) (fun hg3_2 h => ?_)
     ·refine yx hn 3 ?_
      refine yd hg3_2 3 ?_
      refine ye [0,1,2,33,21] ?_
      exact hl28 _ (zi h).symm
     ·refine yx hn 3 ?_
      refine yd hg3_2 3 ?_
      refine ye [0,1,2,33,21] ?_
      exact hl28 _ (zi h).symm
  ·intro u22 h hl23 hr24
   obtain ⟨v1, hv1, h⟩:=zn h
   refine bJ h (fun hg1_3 h => ?_) (fun hg1_3 h => ?_)
   ·refine yx hn 1 ?_
    refine ys 2 ⟨lg call55 (eF _ _ _ hv1) 33⟩ ?_
    refine yd hg1_3 4 ?_
    refine ye [0,1,2,33,15] ?_
    exact hl23 _ (zi h).symm
   ·obtain ⟨v2, hv2, h⟩:=zn h
    refine yx hn 1 ?_
    refine ys 2 ⟨lg call55 (eF _ _ _ hv1) 33⟩ ?_
    refine yd hg1_3 1 ?_
    refine ys 2 ⟨lg call55 (eF _ _ _ hv2) 33⟩ ?_
    refine ye [0,1,2,33,15] ?_
    exact hl23 _ (zi h).symm
theorem Eh (mx:Int×Nat×Value) (b:(List Int)) (helo:ByteArray) (site:ByteArray) (at_:Int) (r:((List Int)×Int)) (h:Sh.yR b helo site at_=some r):lX Tryz.prog (GL mx) 100 [.fl .shr 1 (map (int .u8) b), .v (.string helo), .v (.string site), .v (.int .i64 at_)] (.tup [.mkr 5 (map (int .u8) r.1), .v (.int .i64 r.2)]):=by
  unfold Sh.yR at h
  refine yG 31 func100 fun g0 hn hio => ?_
  refine cF hn 2 [0,1,2,3,31] ?_
  refine aM ?_
  refine aM ?_
  obtain ⟨v1, hv1, h⟩:=zn h
  refine yx hn 1 ?_
  refine ys 1 ⟨lg call95 (nI _ _ _ hv1) 31⟩ ?_
  refine dv [0,1,2,3,31,10] ?_
  refine cF hn 2 [0,1,2,3,31,10,16] ?_
  refine bL _ rfl (fun hb6 => ?_) (fun hb6 => ?_)
  ·have h:=bT hb6 h
   refine cF hn 3 [31,8,9] ?_
   refine bO ?_
   refine bG [1,2] (by kernel_rfl) (es':=[(_,_),(_,_)]) rfl ?_
   refine fe (fs:=[(8,.mkr 5 (map (int .u8) [])),(9,vi v1)]) (.sub _ (kv 5) rfl (.same _ .nil)) ?_
   refine bw ?_
   obtain rfl:=zi h
   exact bP hio rfl (.tmp _ _ (.tmp _ _ .nil)) rfl rfl
  ·have h:=bQ hb6 h
   refine bU ?_
   refine bb (aM ?_)
   obtain ⟨v3, hv3, h⟩:=zn h
   refine yx hn 3 ?_
   refine ys 0 ⟨lg call129 (Al _ _ _ _ _ hv3) 31⟩ ?_
   refine ym 0 ?_
   refine Oc 1 ?_
   refine ya 1 ?_
   refine dv [0,31,11,12] ?_
   refine aM ?_
   refine cF hn 2 [0,31,11,12,26] ?_
   refine bL _ rfl (fun hb7 => ?_) (fun hb7 => ?_)
   ·have h:=bT hb7 h
    refine cF hn 3 [31,8,9] ?_
    refine bO ?_
    refine bG [1,2] (by kernel_rfl) (es':=[(_,_),(_,_)]) rfl ?_
    refine fe (fs:=[(8,.mkr 5 (map (int .u8) [])),(9,vi v3.2)]) (.sub _ (kv 5) rfl (.same _ .nil)) ?_
    refine bw ?_
    obtain rfl:=zi h
    exact bP hio rfl (.tmp _ _ (.tmp _ _ .nil)) rfl rfl
   ·have h:=bQ hb7 h
    refine bU ?_
    refine bb (aM ?_)
    obtain ⟨v5, hv5, h⟩:=zn h
    refine yx hn 0 ?_
    refine ym 1 ?_
    refine yk [28] [29] ?_
    refine tg (28,.any) (30,.mkr 5 (map (int .u8) v5)) 0 ⟨Bo _ _ _ _ _ oz rfl rfl rfl rfl hv5 rfl⟩ ?_
    refine ya 1 ?_
    refine dv [31,8,9] ?_
    refine bO ?_
    refine bG [1,2] (by kernel_rfl) (es':=[(_,_),(_,_)]) rfl ?_
    obtain rfl:=zi h
    exact bP hio rfl (.tmp _ _ (.tmp _ _ .nil)) rfl rfl
theorem rX (s:ByteArray) (c r:Int) (h:Sh.strings_IndexByte s c=some r):eD Tryz.prog 224 [.v (.string s), .v (.int .u8 c)] (.v (.int .i64 r)):=rP Tryz.strings_IndexByte s c r h
theorem zE (c:Int) (r:Bool) (h:Sh.lO c=some r):eD Tryz.prog 223 [.v (.int .u8 c)] (.v (.bool r)):=by
  unfold Sh.lO at h
  refine yO 10 func223 fun g0 hn hio => ?_
  refine cF hn 1 [0] ?_
  refine aM ?_
  refine ce h (fun (s3:Bool)=>[(2,vb s3)]) ?_ ?_
  ·rintro s3 h
   refine bb (bO ?_)
   obtain rfl:=zi h
   exact bP hio rfl (.tmp _ _ .nil) rfl rfl
  ·intro u4 h hl5 hr6
   obtain ⟨v1, hv1, h⟩:=zn h
   refine bJ h (fun hg1_2 h => ?_) (fun hg1_2 h => ?_)
   ·refine yx hn 1 ?_
    refine ys 1 ⟨lk call83 (iz _ _ hv1)⟩ ?_
    refine yd hg1_2 5 ?_
    refine ye [2] ?_
    exact hl5 _ (zi h).symm
   ·obtain ⟨v2, hv2, h⟩:=zn h
    refine yx hn 1 ?_
    refine ys 1 ⟨lk call83 (iz _ _ hv1)⟩ ?_
    refine yd hg1_2 1 ?_
    refine ys 3 ⟨lk call224 (rX _ _ _ hv2)⟩ ?_
    refine ye [2] ?_
    exact hl5 _ (zi h).symm
theorem px (s:ByteArray) (r:Bool) (h:Sh.jc s=some r):eD Tryz.prog 81 [.v (.string s), .v (.func (.func 223) #[] #[])] (.v (.bool r)):=by
  unfold Sh.jc at h
  refine yO 18 func81 fun g0 hn hio => ?_
  refine cF hn 1 [0,1] ?_
  refine aM ?_
  refine cF hn 3 [0,1,7,8] ?_
  refine dx h (fun (s9:Int)=>[(0,vs s),(1,.v (.func (.func 223) #[] #[])),(7,vi (s.size:Int)),(8,vi s9)]) (fun (():Unit)=>[]) ?_ ?_
  ·rintro ⟨⟩ h
   refine bb ?_
   refine cF hn 1 [4] ?_
   refine bO ?_
   obtain rfl:=zi h
   exact bP hio rfl (.tmp _ _ .nil) rfl rfl
  ·rintro u12 hl13 hr14 s9 rr17 h ho15
   refine cF hn 1 [0,1,7,8,9] ?_
   refine aM ?_
   refine bL _ rfl (fun hb18 => ?_) (fun hb18 => ?_)
   ·have h:=bT hb18 h
    refine bU ?_
    refine bb (aM ?_)
    refine cA ?_
    refine cF hn 2 [0,1,7,8,5] ?_
    refine aM ?_
    obtain ⟨v2, hv2, h⟩:=zn h
    obtain ⟨v3, hv3, h⟩:=zn h
    refine yx hn 3 ?_
    refine ys 0 ⟨lh hv2⟩ ?_
    refine ys 1 ⟨lk call223 (zE _ _ hv3)⟩ ?_
    refine dv [0,1,7,8,16] ?_
    refine bL _ rfl (fun hb19 => ?_) (fun hb19 => ?_)
    ·have h:=bT hb19 h
     refine cF hn 1 [4] ?_
     refine bO ?_
     refine cC ?_
     refine bw ?_
     refine bw ?_
     refine cC ?_
     refine bw ?_
     have h:=hr14 _ (ho15 _ (zi h).symm).symm
     obtain rfl:=zi h
     exact bP hio rfl (.tmp _ _ .nil) rfl rfl
    ·have h:=bQ hb19 h
     refine bU ?_
     refine cG ?_
     refine bb ?_
     obtain ⟨v5, hv5, h⟩:=zn h
     refine yx hn 0 ?_
     refine ys 0 ⟨lb hv5⟩ ?_
     refine yw [8] 1 ?_
     refine ye [0,1,7,8] ?_
     exact dM _ (zi h).symm rfl
   ·have h:=bQ hb18 h
    refine dK ?_
    refine cd ?_
    refine cd ?_
    refine dL ?_
    refine bG [] (by kernel_rfl) (es':=[]) rfl ?_
    exact hl13 _ (ho15 _ (zi h).symm).symm
theorem CB (s:ByteArray) (r:Bool) (h:Sh.qv s=some r):eD Tryz.prog 213 [.v (.string s)] (.v (.bool r)):=by
  unfold Sh.qv at h
  refine yO 9 func213 fun g0 hn hio => ?_
  refine cF hn 1 [0] ?_
  refine aM ?_
  refine ce h (fun (s2:Bool)=>[(2,vb s2)]) ?_ ?_
  ·rintro s2 h
   refine bb (bO ?_)
   obtain rfl:=zi h
   exact bP hio rfl (.tmp _ _ .nil) rfl rfl
  ·intro u3 h hl4 hr5
   refine bJ h (fun hg1_2 h => ?_) (fun hg1_2 h => ?_)
   ·obtain ⟨v1, hv1, h⟩:=zn h
    refine yx hn 3 ?_
    refine yd hg1_2 1 ?_
    refine ys 2 ⟨lk call81 (px _ _ hv1)⟩ ?_
    refine ye [2] ?_
    exact hl4 _ (zi h).symm
   ·refine yx hn 3 ?_
    refine yd hg1_2 4 ?_
    refine ye [2] ?_
    exact hl4 _ (zi h).symm
theorem oX (mx:Int×Nat×Value) (s:ByteArray) (r:Bool) (h:Sh.iX s=some r):lX Tryz.prog (GL mx) 69 [.v (.string s), .v (.func (.func 213) #[] #[])] (.v (.bool r)):=by
  unfold Sh.iX at h
  refine yG 13 func69 fun g0 hn hio => ?_
  refine lp hn 1 ?_
  refine yS (.box 4 [vb false]) 0 ⟨oA (dh _ _ Oh)⟩ ?_
  refine dv [0,13,3,4] ?_
  refine aM ?_
  refine aM ?_
  obtain ⟨v1, hv1, h⟩:=zn h
  refine yx hn 1 ?_
  refine yk [] [6] ?_
  refine yt (7,.cloB 119 [.box 9 [vs v1.1],.box 9 [vs v1.2.1],.box 3 [vi v1.2.2]]) 0 ⟨ld _ _ 80 _ _ rfl call80 rfl rfl (kR s (⟨#[46]⟩:ByteArray) _ hv1) rfl⟩ ?_
  refine dv [13,3,4,7] ?_
  refine cA ?_
  refine nH [3,0,1,2] (by kernel_rfl) (es':=[(7,.cloB 119 [.box 9 [vs v1.1],.box 9 [vs v1.2.1],.box 3 [vi v1.2.2]]),(13,.glob (GL mx)),(3,.box 65 [.v (.func (.func 213) #[] #[])]),(4,.box 4 [vb false])]) rfl ?_
  refine lY h 119 7 8 14 _ [13, 3, 4] call119 (fun (():Unit)=>[(13, .glob (GL mx)), (3, .box 65 [.v (.func (.func 213) #[] #[])]), (4, .box 4 [.v (.bool false)])]) (fun (():Unit)=>[(13, .glob (GL mx)), (3, .box 65 [.v (.func (.func 213) #[] #[])]), (4, .box 4 [.v (.bool false)])]) (fun l J Y hY t t' h=>jQ mx l J Y hY v1.1 v1.2.1 v1.2.2 t t' h) hn rfl (fun _=>rfl) (fun _=>rfl) (fun _=>rfl) rfl rfl (fun _=>⟨rfl, rfl⟩) rfl (lQ 13 rfl) ?_ ?_ ?_
  ·rintro kk g0 hn hio x ⟨⟩ u h
   refine wD (es':=[(8,vs x),(13,.glob (GL mx)),(3,.box 65 [.v (.func (.func 213) #[] #[])]),(4,.box 4 [vb false]),(13,.v (kk.tm.getD 13 undef)),(3,.v (kk.tm.getD 3 undef)),(4,.v (kk.tm.getD 4 undef)),(14,.inv kk.ready)]) rfl ?_
   refine yy hn 1 [13,3,4,14,5,13,3,4] ?_
   refine bG [0,1,2,4,5,6,7,3] (by kernel_rfl) (es':=[(13,.glob (GL mx)),(3,.box 65 [.v (.func (.func 213) #[] #[])]),(4,.box 4 [vb false]),(5,vs x),(13,.v (kk.tm.getD 13 undef)),(3,.v (kk.tm.getD 3 undef)),(4,.v (kk.tm.getD 4 undef)),(14,.inv kk.ready)]) rfl ?_
   refine nK (es:=[(13,.glob (GL mx)),(3,.box 65 [.v (.func (.func 213) #[] #[])]),(4,.box 4 [vb false]),(5,vs x),(13,.v (kk.tm.getD 13 undef)),(3,.v (kk.tm.getD 3 undef)),(4,.v (kk.tm.getD 4 undef))]) 14 rfl ?_
   refine cA ?_
   refine aM ?_
   obtain ⟨v2, hv2, h⟩:=zn h
   refine yx hn 2 ?_
   refine ys 1 ⟨lk call213 (CB _ _ hv2)⟩ ?_
   refine dv [13,3,4,14,12,13,3,4] ?_
   refine bL _ rfl (fun hb5 => ?_) (fun hb5 => ?_)
   ·have h:=bT hb5 h
    refine cF hn 1 [13,3,4,14,13,3,4] ?_
    refine bO ?_
    refine cC ?_
    refine bG [0,1,2,4,5,6,3] (by kernel_rfl) (es':=[(_,_),(_,_),(_,_),(_,_),(_,_),(_,_),(_,_)]) rfl ?_
    obtain rfl:=zi h
    exact uV 14 [13, 3, 4] _ rfl rfl (by kernel_rfl)
   ·have h:=bQ hb5 h
    refine bU ?_
    refine cG ?_
    refine bG [0,1,2,5,6,7,3] (by kernel_rfl) (es':=[(_,_),(_,_),(_,_),(_,_),(_,_),(_,_),(_,_)]) rfl ?_
    obtain rfl:=zi h
    exact nZ 14 [13, 3, 4] _ rfl rfl (by kernel_rfl)
  ·rintro D ⟨⟩ h
   refine cG ?_
   refine bb ?_
   refine cF hn 1 [13,4] ?_
   refine bO ?_
   refine bG [1] (by kernel_rfl) (es':=[(_,_)]) rfl ?_
   obtain rfl:=zi h
   exact bP hio rfl (.cell1 _ _ _ _ underlying4 rfl .nil) rfl rfl
  ·rintro D ⟨⟩ h
   refine bG [2] (by kernel_rfl) (es':=[(_,_)]) rfl ?_
   refine cC ?_
   refine bw ?_
   obtain rfl:=zi h
   exact bP hio rfl (.cell1 _ _ _ _ underlying4 rfl .nil) rfl rfl
theorem tN (mx:Int×Nat×Value) (s:ByteArray) (r:Bool) (h:Sh.pf s=some r):lX Tryz.prog (GL mx) 194 [.v (.string s)] (.v (.bool r)):=by
  unfold Sh.pf at h
  refine yG 10 func194 fun g0 hn hio => ?_
  refine cF hn 1 [0,10] ?_
  refine aM ?_
  refine ce h (fun (s2:Bool)=>[(10,.glob (GL mx)),(2,vb s2)]) ?_ ?_
  ·rintro s2 h
   refine bb (bO ?_)
   refine bG [1] (by kernel_rfl) (es':=[(_,_)]) rfl ?_
   obtain rfl:=zi h
   exact bP hio rfl (.tmp _ _ .nil) rfl rfl
  ·intro u3 h hl4 hr5
   refine bJ h (fun hg1_3 h => ?_) (fun hg1_3 h => ?_)
   ·obtain ⟨v1, hv1, h⟩:=zn h
    refine yx hn 4 ?_
    refine yd hg1_3 1 ?_
    refine ys 2 ⟨lg call69 (oX _ _ _ hv1) 10⟩ ?_
    refine ye [10,2] ?_
    exact hl4 _ (zi h).symm
   ·refine yx hn 4 ?_
    refine yd hg1_3 4 ?_
    refine ye [10,2] ?_
    exact hl4 _ (zi h).symm
theorem fq (mx:Int×Nat×Value) (p:bu) (r:Int) (h:Sh.hH p=some r):lX Tryz.prog (GL mx) 162 [.agg [.v (.bool p.Null), .v (.string p.Local), .v (.string p.Domain)]] (.v (.int .i64 r)):=by
  unfold Sh.hH at h
  refine yG 27 func162 fun g0 hn hio => ?_
  refine cF hn 2 [27,1] ?_
  refine lp hn 1 ?_
  refine yS (.agg [vb true,vs z0,vs z0]) 0 ⟨dQ _ _ _ _ [1,1,1] _ _ underlying26 xW (Ip _ underlying26) (.copy _ rE.nil) rfl rfl rfl⟩ ?_
  refine yS (vb ((p.Null==true)&&((p.Local.toList==z0.toList)&&((p.Domain.toList==z0.toList)&&true)))) 1 ⟨IR _ _ [.bool p.Null,.string p.Local,.string p.Domain] [.bool true,.string z0,.string z0] (((p.Null==true)&&((p.Local.toList==z0.toList)&&((p.Domain.toList==z0.toList)&&true)))) _ false (by kernel_rfl) (by kernel_rfl) (by kernel_rfl) (by kernel_rfl) (by kernel_rfl) rfl rfl rfl rfl (by kernel_rfl) rfl⟩ ?_
  refine dv [27,1,3] ?_
  refine aM ?_
  refine ce h (fun (s3:Bool)=>[(27,.glob (GL mx)),(3,vb ((p.Null==true)&&((p.Local.toList==z0.toList)&&((p.Domain.toList==z0.toList)&&true)))),(4,vb s3)]) ?_ ?_
  ·rintro s3 h
   refine bb (aM ?_)
   refine aM ?_
   refine ce h (fun (s7:Bool)=>[(27,.glob (GL mx)),(26,vb s7)]) ?_ ?_
   ·rintro s7 h
    refine bb ?_
    refine bL _ rfl (fun hb11 => ?_) (fun hb11 => ?_)
    ·have h:=bT hb11 h
     refine cF hn 1 [27,2] ?_
     refine bO ?_
     refine bG [1] (by kernel_rfl) (es':=[(_,_)]) rfl ?_
     refine bw ?_
     obtain rfl:=zi h
     exact bP hio rfl (.tmp _ _ .nil) rfl rfl
    ·have h:=bQ hb11 h
     refine bU ?_
     refine bb ?_
     refine cF hn 1 [27,2] ?_
     refine bO ?_
     refine bG [1] (by kernel_rfl) (es':=[(_,_)]) rfl ?_
     obtain rfl:=zi h
     exact bP hio rfl (.tmp _ _ .nil) rfl rfl
   ·intro u8 h hl9 hr10
    refine bJ h (fun hg3_2 h => ?_) (fun hg3_2 h => ?_)
    ·refine yx hn 3 ?_
     refine yd hg3_2 3 ?_
     refine ye [27,26] ?_
     exact hl9 _ (zi h).symm
    ·refine yx hn 3 ?_
     refine yd hg3_2 3 ?_
     refine ye [27,26] ?_
     exact hl9 _ (zi h).symm
  ·intro u4 h hl5 hr6
   refine bJ h (fun hg2_3 h => ?_) (fun hg2_3 h => ?_)
   ·obtain ⟨v1, hv1, h⟩:=zn h
    refine bJ h (fun hg2_8 h => ?_) (fun hg2_8 h => ?_)
    ·obtain ⟨v2, hv2, h⟩:=zn h
     refine yx hn 4 ?_
     refine yd hg2_3 2 ?_
     refine ys 2 ⟨lg call194 (tN _ _ _ hv1) 27⟩ ?_
     refine yd hg2_8 2 ?_
     refine ys 2 ⟨lg call55 (eF _ _ _ hv2) 27⟩ ?_
     refine ye [27,3,4] ?_
     exact hl5 _ (zi h).symm
    ·refine yx hn 4 ?_
     refine yd hg2_3 2 ?_
     refine ys 2 ⟨lg call194 (tN _ _ _ hv1) 27⟩ ?_
     refine yd hg2_8 5 ?_
     refine ye [27,3,4] ?_
     exact hl5 _ (zi h).symm
   ·refine yx hn 4 ?_
    refine yd hg2_3 10 ?_
    refine ye [27,3,4] ?_
    exact hl5 _ (zi h).symm
theorem mr (mx:Int×Nat×Value) (m:dw) (r:Bool) (h:Sh.pA m=some r):lX Tryz.prog (GL mx) 201 [.agg [.v (.bool m.From.Null), .v (.string m.From.Local), .v (.string m.From.Domain), .fl .shr 3 (flatten (map bu.enc m.To)), .fl .shr 1 (map (int .u8) m.Body), .v (.bool m.Quiet), .v (.string m.Helo), .v (.int .i64 m.At)]] (.v (.bool r)):=by
  unfold Sh.pA at h
  refine yG 36 func201 fun g0 hn hio => ?_
  refine cF hn 2 [36,1] ?_
  refine aM ?_
  refine aM ?_
  refine ce h (fun (s2:Bool)=>[(36,.glob (GL mx)),(1,.box 53 (dw.c m [])),(20,vb s2)]) ?_ ?_
  ·rintro s2 h
   refine bb ?_
   refine bL _ rfl (fun hb6 => ?_) (fun hb6 => ?_)
   ·have h:=bT hb6 h
    refine cF hn 1 [36,2] ?_
    refine bO ?_
    refine bG [1] (by kernel_rfl) (es':=[(_,_)]) rfl ?_
    refine bw ?_
    obtain rfl:=zi h
    exact bP hio rfl (.tmp _ _ .nil) rfl rfl
   ·have h:=bQ hb6 h
    refine bU ?_
    refine bb (aM ?_)
    refine cF hn 4 [36,22,23,24] ?_
    refine dx h (fun (s24:Int)=>[(36,.glob (GL mx)),(22,.fl .shr 3 (flatten (map bu.enc m.To))),(23,vi (m.To.length:Int)),(24,vi s24)]) (fun (():Unit)=>[(36,.glob (GL mx))]) ?_ ?_
    ·rintro ⟨⟩ h
     refine bb ?_
     refine cF hn 1 [36,2] ?_
     refine bO ?_
     refine bG [1] (by kernel_rfl) (es':=[(_,_)]) rfl ?_
     obtain rfl:=zi h
     exact bP hio rfl (.tmp _ _ .nil) rfl rfl
    ·rintro u31 hl32 hr33 s24 rr36 h ho34
     refine cF hn 1 [36,22,23,24,25] ?_
     refine aM ?_
     refine bL _ rfl (fun hb37 => ?_) (fun hb37 => ?_)
     ·have h:=bT hb37 h
      refine bU ?_
      refine bb (aM ?_)
      refine cA ?_
      refine aM ?_
      obtain ⟨v8, hv8, h⟩:=zn h
      obtain ⟨v9, hv9, h⟩:=zn h
      refine yx hn 0 ?_
      refine ys 0 ⟨lj hv8⟩ ?_
      refine yS (.agg [vb v9.Null,vs v9.Local,vs v9.Domain]) 0 ⟨nC _ _ _ _ _ _ _ underlying26 rfl zX rfl rfl (qL bu.len hv9) rfl (by decide)⟩ ?_
      refine yS (.box 26 [vb false,vs z0,vs z0]) 1 ⟨oA (dh _ _ xW)⟩ ?_
      refine dv [36,22,23,24,4] ?_
      refine aM ?_
      refine ce h (fun (s38:Bool)=>[(36,.glob (GL mx)),(22,.fl .shr 3 (flatten (map bu.enc m.To))),(23,vi (m.To.length:Int)),(24,vi s24),(34,vb s38)]) ?_ ?_
      ·rintro s38 h
       refine bb ?_
       refine bL _ rfl (fun hb42 => ?_) (fun hb42 => ?_)
       ·have h:=bT hb42 h
        refine cF hn 1 [36,2] ?_
        refine bO ?_
        refine bG [1] (by kernel_rfl) (es':=[(_,_)]) rfl ?_
        refine cC ?_
        refine bw ?_
        refine bw ?_
        refine cC ?_
        refine bw ?_
        have h:=hr33 _ (ho34 _ (zi h).symm).symm
        obtain rfl:=zi h
        exact bP hio rfl (.tmp _ _ .nil) rfl rfl
       ·have h:=bQ hb42 h
        refine bU ?_
        refine cG ?_
        refine bb ?_
        obtain ⟨v16, hv16, h⟩:=zn h
        refine yx hn 0 ?_
        refine ys 0 ⟨lb hv16⟩ ?_
        refine yw [24] 1 ?_
        refine ye [36,22,23,24] ?_
        exact dM _ (zi h).symm rfl
      ·intro u39 h hl40 hr41
       obtain ⟨v10, hv10, h⟩:=zn h
       refine bJ h (fun hg6_3 h => ?_) (fun hg6_3 h => ?_)
       ·refine yx hn 1 ?_
        refine ys 2 ⟨lg call162 (fq _ _ _ hv10) 36⟩ ?_
        refine yd hg6_3 3 ?_
        refine ye [36,22,23,24,34] ?_
        exact hl40 _ (zi h).symm
       ·refine yx hn 1 ?_
        refine ys 2 ⟨lg call162 (fq _ _ _ hv10) 36⟩ ?_
        refine yd hg6_3 3 ?_
        refine ye [36,22,23,24,34] ?_
        exact hl40 _ (zi h).symm
     ·have h:=bQ hb37 h
      refine dK ?_
      refine cd ?_
      refine cd ?_
      refine dL ?_
      refine bG [0] (by kernel_rfl) (es':=[(_,_)]) rfl ?_
      exact hl32 _ (ho34 _ (zi h).symm).symm
  ·intro u3 h hl4 hr5
   obtain ⟨v1, hv1, h⟩:=zn h
   refine bJ h (fun hg1_4 h => ?_) (fun hg1_4 h => ?_)
   ·refine yx hn 2 ?_
    refine ys 2 ⟨lg call162 (fq _ _ _ hv1) 36⟩ ?_
    refine yd hg1_4 11 ?_
    refine ye [36,1,20] ?_
    exact hl4 _ (zi h).symm
   ·refine bJ h (fun hg1_10 h => ?_) (fun hg1_10 h => ?_)
    ·refine yx hn 2 ?_
     refine ys 2 ⟨lg call162 (fq _ _ _ hv1) 36⟩ ?_
     refine yd hg1_4 6 ?_
     refine yd hg1_10 5 ?_
     refine ye [36,1,20] ?_
     exact hl4 _ (zi h).symm
    ·refine yx hn 2 ?_
     refine ys 2 ⟨lg call162 (fq _ _ _ hv1) 36⟩ ?_
     refine yd hg1_4 6 ?_
     refine yd hg1_10 5 ?_
     refine ye [36,1,20] ?_
     exact hl4 _ (zi h).symm
theorem iZ (mx:Int×Nat×Value) (m:dw) (r:Bool) (h:Sh.ni m=some r):lX Tryz.prog (GL mx) 178 [.agg [.v (.bool m.From.Null), .v (.string m.From.Local), .v (.string m.From.Domain), .fl .shr 3 (flatten (map bu.enc m.To)), .fl .shr 1 (map (int .u8) m.Body), .v (.bool m.Quiet), .v (.string m.Helo), .v (.int .i64 m.At)]] (.v (.bool r)):=by
  unfold Sh.ni at h
  refine yG 17 func178 fun g0 hn hio => ?_
  refine cF hn 2 [17,1] ?_
  refine aM ?_
  refine ce h (fun (s3:Bool)=>[(17,.glob (GL mx)),(2,vb s3)]) ?_ ?_
  ·rintro s3 h
   refine bb (bO ?_)
   refine bG [1] (by kernel_rfl) (es':=[(_,_)]) rfl ?_
   obtain rfl:=zi h
   exact bP hio rfl (.tmp _ _ .nil) rfl rfl
  ·intro u4 h hl5 hr6
   obtain ⟨v1, hv1, h⟩:=zn h
   refine bJ h (fun hg1_2 h => ?_) (fun hg1_2 h => ?_)
   ·refine bJ h (fun hg1_8 h => ?_) (fun hg1_8 h => ?_)
    ·obtain ⟨v2, hv2, h⟩:=zn h
     refine yx hn 1 ?_
     refine ys 1 ⟨lg call201 (mr _ _ _ hv1) 17⟩ ?_
     refine yd hg1_2 6 ?_
     refine yd hg1_8 2 ?_
     refine ys 3 ⟨lg call95 (nI _ _ _ hv2) 17⟩ ?_
     refine ye [17,2] ?_
     exact hl5 _ (zi h).symm
    ·refine yx hn 1 ?_
     refine ys 1 ⟨lg call201 (mr _ _ _ hv1) 17⟩ ?_
     refine yd hg1_2 6 ?_
     refine yd hg1_8 6 ?_
     refine ye [17,2] ?_
     exact hl5 _ (zi h).symm
   ·refine yx hn 1 ?_
    refine ys 1 ⟨lg call201 (mr _ _ _ hv1) 17⟩ ?_
    refine yd hg1_2 12 ?_
    refine ye [17,2] ?_
    exact hl5 _ (zi h).symm
theorem xo (mx:Int×Nat×Value) (b:ib) (r:Int) (h:Sh.rp b=some r):lX Tryz.prog (GL mx) 151 [.agg [.v (.int .i64 b.Origin), .v (.int .i64 b.Number), .fr .shr true 8 (flatten (map dw.ienc b.Mails))]] (.v (.int .i64 r)):=by
  unfold Sh.rp at h
  refine yG 58 func151 fun g0 hn hio => ?_
  refine cF hn 2 [58,1] ?_
  refine aM ?_
  refine aM ?_
  refine ce h (fun (s1:Bool)=>[(58,.glob (GL mx)),(1,.box 62 [vi b.Origin,vi b.Number,.fr .shr true 8 (flatten (map dw.ienc b.Mails))]),(22,vb s1)]) ?_ ?_
  ·rintro s1 h
   refine bb ?_
   refine bL _ rfl (fun hb5 => ?_) (fun hb5 => ?_)
   ·have h:=bT hb5 h
    refine cF hn 1 [58,2] ?_
    refine bO ?_
    refine bG [1] (by kernel_rfl) (es':=[(_,_)]) rfl ?_
    refine bw ?_
    obtain rfl:=zi h
    exact bP hio rfl (.tmp _ _ .nil) rfl rfl
   ·have h:=bQ hb5 h
    refine bU ?_
    refine bb (aM ?_)
    refine aM ?_
    refine ce h (fun (s6:Bool)=>[(58,.glob (GL mx)),(1,.box 62 [vi b.Origin,vi b.Number,.fr .shr true 8 (flatten (map dw.ienc b.Mails))]),(32,vb s6)]) ?_ ?_
    ·rintro s6 h
     refine bb ?_
     refine bL _ rfl (fun hb10 => ?_) (fun hb10 => ?_)
     ·have h:=bT hb10 h
      refine cF hn 1 [58,2] ?_
      refine bO ?_
      refine bG [1] (by kernel_rfl) (es':=[(_,_)]) rfl ?_
      refine bw ?_
      obtain rfl:=zi h
      exact bP hio rfl (.tmp _ _ .nil) rfl rfl
     ·have h:=bQ hb10 h
      refine bU ?_
      refine bb (aM ?_)
      refine cF hn 4 [58,34,35,36] ?_
      refine dx h (fun (s28:Int)=>[(58,.glob (GL mx)),(34,.fr .shr true 8 (flatten (map dw.ienc b.Mails))),(35,vi (b.Mails.length:Int)),(36,vi s28)]) (fun (():Unit)=>[(58,.glob (GL mx))]) ?_ ?_
      ·rintro ⟨⟩ h
       refine bb ?_
       refine cF hn 1 [58,2] ?_
       refine bO ?_
       refine bG [1] (by kernel_rfl) (es':=[(_,_)]) rfl ?_
       obtain rfl:=zi h
       exact bP hio rfl (.tmp _ _ .nil) rfl rfl
      ·rintro u35 hl36 hr37 s28 rr40 h ho38
       refine cF hn 1 [58,34,35,36,37] ?_
       refine aM ?_
       refine bL _ rfl (fun hb41 => ?_) (fun hb41 => ?_)
       ·have h:=bT hb41 h
        refine bU ?_
        refine bb (aM ?_)
        refine cA ?_
        refine aM ?_
        obtain ⟨v12, hv12, h⟩:=zn h
        obtain ⟨v13, hv13, h⟩:=zn h
        refine yx hn 0 ?_
        refine ys 0 ⟨lI hv12⟩ ?_
        refine yS (.agg (dw.c v13 [])) 0 ⟨wu _ _ _ _ _ _ _ _ underlying53 rfl JA rfl rfl (vL dw.ilen hv13) (.cons (.v _) (.cons (.v _) (.cons (.v _) (.cons (.fl _ _ rfl) (.cons (.fl _ _ rfl) (.cons (.v _) (.cons (.v _) (.cons (.v _) (.nil))))))))) rfl (by decide)⟩ ?_
        refine yS (.box 53 [vb false,vs z0,vs z0,vz,vz,vb false,vs z0,vi 0]) 1 ⟨oA (dh _ _ Jy)⟩ ?_
        refine dv [58,34,35,36,4] ?_
        refine aM ?_
        refine ce h (fun (s42:Bool)=>[(58,.glob (GL mx)),(34,.fr .shr true 8 (flatten (map dw.ienc b.Mails))),(35,vi (b.Mails.length:Int)),(36,vi s28),(56,vb s42)]) ?_ ?_
        ·rintro s42 h
         refine bb ?_
         refine bL _ rfl (fun hb46 => ?_) (fun hb46 => ?_)
         ·have h:=bT hb46 h
          refine cF hn 1 [58,2] ?_
          refine bO ?_
          refine bG [1] (by kernel_rfl) (es':=[(_,_)]) rfl ?_
          refine cC ?_
          refine bw ?_
          refine bw ?_
          refine cC ?_
          refine bw ?_
          have h:=hr37 _ (ho38 _ (zi h).symm).symm
          obtain rfl:=zi h
          exact bP hio rfl (.tmp _ _ .nil) rfl rfl
         ·have h:=bQ hb46 h
          refine bU ?_
          refine cG ?_
          refine bb ?_
          obtain ⟨v20, hv20, h⟩:=zn h
          refine yx hn 0 ?_
          refine ys 0 ⟨lb hv20⟩ ?_
          refine yw [36] 1 ?_
          refine ye [58,34,35,36] ?_
          exact dM _ (zi h).symm rfl
        ·intro u43 h hl44 hr45
         obtain ⟨v14, hv14, h⟩:=zn h
         refine bJ h (fun hg8_3 h => ?_) (fun hg8_3 h => ?_)
         ·refine yx hn 1 ?_
          refine ys 2 ⟨lg call178 (iZ _ _ _ hv14) 58⟩ ?_
          refine yd hg8_3 13 ?_
          refine ye [58,34,35,36,56] ?_
          exact hl44 _ (zi h).symm
         ·refine bJ h (fun hg8_7 h => ?_) (fun hg8_7 h => ?_)
          ·refine yx hn 1 ?_
           refine ys 2 ⟨lg call178 (iZ _ _ _ hv14) 58⟩ ?_
           refine yd hg8_3 4 ?_
           refine yd hg8_7 9 ?_
           refine ye [58,34,35,36,56] ?_
           exact hl44 _ (zi h).symm
          ·refine bJ h (fun hg8_12 h => ?_) (fun hg8_12 h => ?_)
           ·refine yx hn 1 ?_
            refine ys 2 ⟨lg call178 (iZ _ _ _ hv14) 58⟩ ?_
            refine yd hg8_3 4 ?_
            refine yd hg8_7 5 ?_
            refine yd hg8_12 4 ?_
            refine ye [58,34,35,36,56] ?_
            exact hl44 _ (zi h).symm
           ·refine yx hn 1 ?_
            refine ys 2 ⟨lg call178 (iZ _ _ _ hv14) 58⟩ ?_
            refine yd hg8_3 4 ?_
            refine yd hg8_7 5 ?_
            refine yd hg8_12 4 ?_
            refine ye [58,34,35,36,56] ?_
            exact hl44 _ (zi h).symm
       ·have h:=bQ hb41 h
        refine dK ?_
        refine cd ?_
        refine cd ?_
        refine dL ?_
        refine bG [0] (by kernel_rfl) (es':=[(_,_)]) rfl ?_
        exact hl36 _ (ho38 _ (zi h).symm).symm
    ·intro u7 h hl8 hr9
     refine bJ h (fun hg3_4 h => ?_) (fun hg3_4 h => ?_)
     ·refine yx hn 5 ?_
      refine yd hg3_4 5 ?_
      refine ye [58,1,32] ?_
      exact hl8 _ (zi h).symm
     ·refine yx hn 5 ?_
      refine yd hg3_4 5 ?_
      refine ye [58,1,32] ?_
      exact hl8 _ (zi h).symm
  ·intro u2 h hl3 hr4
   refine bJ h (fun hg1_3 h => ?_) (fun hg1_3 h => ?_)
   ·refine bJ h (fun hg1_8 h => ?_) (fun hg1_8 h => ?_)
    ·refine yx hn 4 ?_
     refine yd hg1_3 5 ?_
     refine yd hg1_8 9 ?_
     refine ye [58,1,22] ?_
     exact hl3 _ (zi h).symm
    ·refine bJ h (fun hg1_13 h => ?_) (fun hg1_13 h => ?_)
     ·refine yx hn 4 ?_
      refine yd hg1_3 5 ?_
      refine yd hg1_8 5 ?_
      refine yd hg1_13 4 ?_
      refine ye [58,1,22] ?_
      exact hl3 _ (zi h).symm
     ·refine yx hn 4 ?_
      refine yd hg1_3 5 ?_
      refine yd hg1_8 5 ?_
      refine yd hg1_13 4 ?_
      refine ye [58,1,22] ?_
      exact hl3 _ (zi h).symm
   ·refine bJ h (fun hg1_13 h => ?_) (fun hg1_13 h => ?_)
    ·refine yx hn 4 ?_
     refine yd hg1_3 10 ?_
     refine yd hg1_13 4 ?_
     refine ye [58,1,22] ?_
     exact hl3 _ (zi h).symm
    ·refine yx hn 4 ?_
     refine yd hg1_3 10 ?_
     refine yd hg1_13 4 ?_
     refine ye [58,1,22] ?_
     exact hl3 _ (zi h).symm
theorem CO (mx:Int×Nat×Value) (p:bu) (r:(ByteArray×Int)) (h:Sh.vT p=some r):lX Tryz.prog (GL mx) 180 [.agg [.v (.bool p.Null), .v (.string p.Local), .v (.string p.Domain)]] (.tup [.v (.string r.1), .v (.int .i64 r.2)]):=by
  unfold Sh.vT at h
  refine yG 20 func180 fun g0 hn hio => ?_
  refine cF hn 3 [20,1] ?_
  refine aM ?_
  refine aM ?_
  obtain ⟨v1, hv1, h⟩:=zn h
  refine yx hn 1 ?_
  refine ys 1 ⟨lg call162 (fq _ _ _ hv1) 20⟩ ?_
  refine dv [20,1,4] ?_
  refine cF hn 2 [20,1,4,8] ?_
  refine bL _ rfl (fun hb2 => ?_) (fun hb2 => ?_)
  ·have h:=bT hb2 h
   refine cF hn 3 [20,2,3] ?_
   refine bO ?_
   refine bG [1,2] (by kernel_rfl) (es':=[(_,_),(_,_)]) rfl ?_
   refine bw ?_
   obtain rfl:=zi h
   exact bP hio rfl (.tmp _ _ (.tmp _ _ .nil)) rfl rfl
  ·have h:=bQ hb2 h
   refine bU ?_
   refine bb (aM ?_)
   refine cF hn 2 [20,1,11] ?_
   refine bL _ rfl (fun hb3 => ?_) (fun hb3 => ?_)
   ·have h:=bT hb3 h
    refine cF hn 2 [20,2,3] ?_
    refine bO ?_
    refine bG [1,2] (by kernel_rfl) (es':=[(_,_),(_,_)]) rfl ?_
    refine bw ?_
    obtain rfl:=zi h
    exact bP hio rfl (.tmp _ _ (.tmp _ _ .nil)) rfl rfl
   ·have h:=bQ hb3 h
    refine bU ?_
    refine bb (aM ?_)
    obtain ⟨v4, hv4, h⟩:=zn h
    obtain ⟨v5, hv5, h⟩:=zn h
    obtain ⟨v6, hv6, h⟩:=zn h
    obtain ⟨v7, hv7, h⟩:=zn h
    refine yx hn 2 ?_
    refine ys 0 ⟨lB (ie hv4)⟩ ?_
    refine ys 2 ⟨lB (ie hv5)⟩ ?_
    refine ys 0 ⟨lB (ie hv6)⟩ ?_
    refine ys 2 ⟨lB (ie hv7)⟩ ?_
    refine dv [20,2,3] ?_
    refine bO ?_
    refine bG [1,2] (by kernel_rfl) (es':=[(_,_),(_,_)]) rfl ?_
    obtain rfl:=zi h
    exact bP hio rfl (.tmp _ _ (.tmp _ _ .nil)) rfl rfl
theorem kV (mx:Int×Nat×Value) (word:ByteArray) (p:bu) (cap:(List Int)) (r:(List Int)) (h:Sh.ig word p cap=some r):rW Tryz.prog (GL mx) 179 [.v (.string word), .agg [.v (.bool p.Null), .v (.string p.Local), .v (.string p.Domain)], .box 28 [.fl (.own 5) 1 (map (int .u8) cap)]] [.v (.string word), .agg [.v (.bool p.Null), .v (.string p.Local), .v (.string p.Domain)], .box 28 [.fl (.own 5) 1 (map (int .u8) r)]] (.tup []):=by
  unfold Sh.ig at h
  refine JO 18 func179 fun args0 hargs0 g0 hn hio => ?_
  refine cF hn 1 [0,1,2,18,4,0,1,2] ?_
  refine aM ?_
  obtain ⟨v1, hv1, h⟩:=zn h
  refine yx hn 1 ?_
  refine ys 0 ⟨lg call180 (CO _ _ _ hv1) 18⟩ ?_
  refine ym 4 ?_
  refine dv [0,1,2,18,5,0,1,2] ?_
  obtain ⟨v2, hv2, h⟩:=zn h
  obtain ⟨v3, hv3, h⟩:=zn h
  obtain ⟨v4, hv4, h⟩:=zn h
  refine yx hn 3 ?_
  refine ys 0 ⟨lB (ie hv2)⟩ ?_
  refine ys 0 ⟨lB (ie hv3)⟩ ?_
  refine yk [2] [12,16] ?_
  refine tg (2,.box 28 [.any]) (17,.fl (.own 5) 1 (map (int .u8) v4)) 0 ⟨iF _ _ _ _ _ _ oz zS underlying9 rfl rfl (zl rfl) rfl rfl hv4 rfl (Nat.ne_of_beq_eq_false rfl) rfl rfl⟩ ?_
  refine yw [12] 0 ?_
  refine yk [17,2] [] ?_
  refine yt (2,.box 28 [.fl (.own 5) 1 (map (int .u8) v4)]) 0 ⟨cO _ _ _ _ _ _ _ _ pW rfl rfl rfl (zl rfl) rfl rfl⟩ ?_
  refine ye [0,1,2,18,0,1,2] ?_
  refine bG [0,1,2,4,5,6] (by kernel_rfl) (es':=[(_,_),(_,_),(_,_),(_,_),(_,_),(_,_)]) rfl ?_
  obtain rfl:=zi h
  exact pQ (es:=[]) (posts:=[.v (.string word), .agg [.v (.bool p.Null),.v (.string p.Local),.v (.string p.Domain)], .box 28 [.fl (.own 5) 1 (map (int .u8) v4)]]) hio rfl rfl .nil rfl rfl hargs0 rfl
theorem Ai (mx:Int×Nat×Value) (b:(List Int)) (r:((List Int)×Int)) (h:Sh.uv b=some r):lX Tryz.prog (GL mx) 181 [.fl .shr 1 (map (int .u8) b)] (.tup [.fl (.own 5) 1 (map (int .u8) r.1), .v (.int .i64 r.2)]):=by
  unfold Sh.uv at h
  refine yG 28 func181 fun g0 hn hio => ?_
  refine cF hn 2 [0,28] ?_
  refine aM ?_
  refine aM ?_
  obtain ⟨v1, hv1, h⟩:=zn h
  refine yx hn 1 ?_
  refine ys 1 ⟨lg call95 (nI _ _ _ hv1) 28⟩ ?_
  refine dv [0,28,4] ?_
  refine cF hn 2 [0,28,4,10] ?_
  refine bL _ rfl (fun hb2 => ?_) (fun hb2 => ?_)
  ·have h:=bT hb2 h
   refine cF hn 3 [28,2,3] ?_
   refine bO ?_
   refine bG [1,2] (by kernel_rfl) (es':=[(_,_),(_,_)]) rfl ?_
   refine fe (fs:=[(2,.fl (.own 5) 1 (map (int .u8) [])),(3,vi v1)]) (.sub _ (ek 5 1) rfl (.same _ .nil)) ?_
   refine bw ?_
   obtain rfl:=zi h
   exact bP hio rfl (.tmp _ _ (.tmp _ _ .nil)) rfl rfl
  ·have h:=bQ hb2 h
   refine bU ?_
   refine bb ?_
   refine lp hn 0 ?_
   refine yS (.box 28 [vz]) 0 ⟨oA (dh _ _ Ky)⟩ ?_
   refine dv [0,28,5] ?_
   refine aM ?_
   refine aM ?_
   obtain ⟨v3, hv3, h⟩:=zn h
   refine yx hn 1 ?_
   refine yk [] [12] ?_
   refine yt (13,.cloB 123 [.box 28 [fb v3]]) 0 ⟨ld _ _ 96 _ _ rfl call96 rfl rfl (kY b _ hv3) rfl⟩ ?_
   refine dv [28,5,13] ?_
   refine cA ?_
   refine nH [2,0,1] (by kernel_rfl) (es':=[(13,.cloB 123 [.box 28 [fb v3]]),(28,.glob (GL mx)),(5,.box 28 [vz])]) rfl ?_
   refine um (fs:=[(13,.cloB 123 [.box 28 [fb v3]]),(28,.glob (GL mx)),(5,.box 28 [.fl (.own 5) 1 (map (int .u8) [])])]) (.same _ (.same _ (.box _ _ (bq (ek 5 1) (dO)) rfl .nil))) ?_
   refine lY h 123 13 14 29 _ [28, 5] call123 (fun (s21:(List Int))=>[(28, .glob (GL mx)), (5, .box 28 [.fl (.own 5) 1 (map (int .u8) s21)])]) (fun (():Unit)=>[]) (fun l J Y hY t t' h=>jC mx l J Y hY v3 t t' h) hn rfl (fun _=>rfl) (fun _=>rfl) (fun _=>rfl) rfl rfl (fun _=>⟨rfl, rfl⟩) rfl (lQ 28 rfl) ?_ ?_ ?_
   ·rintro kk g0 hn hio x s21 u h
    refine wD (es':=[(14,fb x),(28,.glob (GL mx)),(5,.box 28 [.fl (.own 5) 1 (map (int .u8) s21)]),(28,.v (kk.tm.getD 28 undef)),(5,.v (kk.tm.getD 5 undef)),(29,.inv kk.ready)]) rfl ?_
    refine yy hn 1 [28,5,29,6,28,5] ?_
    refine bG [0,1,3,4,5,2] (by kernel_rfl) (es':=[(28,.glob (GL mx)),(5,.box 28 [.fl (.own 5) 1 (map (int .u8) s21)]),(6,fb x),(28,.v (kk.tm.getD 28 undef)),(5,.v (kk.tm.getD 5 undef)),(29,.inv kk.ready)]) rfl ?_
    refine nK (es:=[(28,.glob (GL mx)),(5,.box 28 [.fl (.own 5) 1 (map (int .u8) s21)]),(6,fb x),(28,.v (kk.tm.getD 28 undef)),(5,.v (kk.tm.getD 5 undef))]) 29 rfl ?_
    refine cA ?_
    refine aM ?_
    refine ce h (fun (s29:(List Int))=>[(28,.glob (GL mx)),(5,.box 28 [.fl (.own 5) 1 (map (int .u8) s29)]),(6,fb x),(29,.inv kk.busy),(28,.v (kk.tm.getD 28 undef)),(5,.v (kk.tm.getD 5 undef))]) ?_ ?_
    ·rintro s29 h
     refine bb (aM ?_)
     obtain ⟨v12, hv12, h⟩:=zn h
     refine yx hn 2 ?_
     refine yk [5] [21,22] ?_
     refine tg (5,.box 28 [.any]) (23,.fl (.own 5) 1 (map (int .u8) v12)) 0 ⟨mb _ _ _ _ _ _ oz rfl rfl (zl rfl) rfl (kA _) (kA _) hv12 ((List.map_append).symm.trans (congrArg (map _) (oo hv12))) (Nat.ne_of_beq_eq_false rfl) rfl rfl⟩ ?_
     refine yw [21] 0 ?_
     refine yk [23,5] [] ?_
     refine yt (5,.box 28 [.fl (.own 5) 1 (map (int .u8) v12)]) 0 ⟨cO _ _ _ _ _ _ _ _ pW rfl rfl rfl (zl rfl) rfl rfl⟩ ?_
     refine dv [28,5,29,28,5] ?_
     obtain ⟨v13, hv13, h⟩:=zn h
     refine yx hn 1 ?_
     refine yk [5] [24] ?_
     refine tg (5,.box 28 [.any]) (25,.fl (.own 5) 1 (map (int .u8) v13)) 0 ⟨iF _ _ _ _ _ _ oz zS underlying9 rfl rfl (zl rfl) rfl rfl hv13 rfl (Nat.ne_of_beq_eq_false rfl) rfl rfl⟩ ?_
     refine yw [24] 0 ?_
     refine yk [25,5] [] ?_
     refine yt (5,.box 28 [.fl (.own 5) 1 (map (int .u8) v13)]) 0 ⟨cO _ _ _ _ _ _ _ _ pW rfl rfl rfl (zl rfl) rfl rfl⟩ ?_
     refine ye [28,5,29,28,5] ?_
     refine cG ?_
     refine bG [0,1,3,4,2] (by kernel_rfl) (es':=[(_,_),(_,_),(_,_),(_,_),(_,_)]) rfl ?_
     obtain rfl:=zi h
     exact nZ 29 [28, 5] _ rfl rfl (by kernel_rfl)
    ·intro u30 h hl31 hr32
     refine aM ?_
     obtain ⟨v4, hv4, h⟩:=zn h
     refine yx hn 1 ?_
     refine yS (.fl (.own 5) 1 (map (int .u8) [46])) 0 ⟨dJ _ _ 1 (.int .u8 0) (map (int .u8) [46]) [(0,.int .u8 46)] underlying28 qp zS (fun _ V w o a hv hes=>by simp only [List.map_toArray,List.map_cons,List.map_nil]; try rfl) (fT (by simp [Instr.fill,Value.cells]; rfl) (by simp [List.range,List.range.loop] <;> rfl)) (by simp [Value.oneCell']) rfl (by decide) (by decide) (by decide)⟩ ?_
     refine yk [16] [] ?_
     refine yt (17,.fl .ro 1 (map (int .u8) [46])) 0 ⟨jq _ _ _ underlying28 underlying5 (by intro h; cases h)⟩ ?_
     refine ys 0 ⟨lk call124 (ph _ _ _ hv4)⟩ ?_
     refine dv [28,5,6,29,18,28,5] ?_
     refine bL _ rfl (fun hb33 => ?_) (fun hb33 => ?_)
     ·have h:=bT hb33 h
      obtain ⟨v6, hv6, h⟩:=zn h
      refine yx hn 1 ?_
      refine yk [5] [19] ?_
      refine tg (5,.box 28 [.any]) (20,.fl (.own 5) 1 (map (int .u8) v6)) 0 ⟨iF _ _ _ _ _ _ oz zS underlying9 rfl rfl (zl rfl) rfl rfl hv6 rfl (Nat.ne_of_beq_eq_false rfl) rfl rfl⟩ ?_
      refine yw [19] 0 ?_
      refine yk [20,5] [] ?_
      refine yt (5,.box 28 [.fl (.own 5) 1 (map (int .u8) v6)]) 0 ⟨cO _ _ _ _ _ _ _ _ pW rfl rfl rfl (zl rfl) rfl rfl⟩ ?_
      refine ye [28,5,6,29,28,5] ?_
      exact hl31 _ (zi h).symm
     ·have h:=bQ hb33 h
      refine bU ?_
      refine bG [0,1,2,3,5,6] (by kernel_rfl) (es':=[(_,_),(_,_),(_,_),(_,_),(_,_),(_,_)]) rfl ?_
      exact hl31 _ (zi h).symm
   ·rintro D s21 h
    refine cG ?_
    refine bb (aM ?_)
    obtain ⟨v34, hv34, h⟩:=zn h
    refine yx hn 1 ?_
    refine yk [5] [26] ?_
    refine tg (5,.box 28 [.any]) (27,.fl (.own 5) 1 (map (int .u8) v34)) 0 ⟨iF _ _ _ _ _ _ oz zS underlying9 rfl rfl (zl rfl) rfl rfl hv34 rfl (Nat.ne_of_beq_eq_false rfl) rfl rfl⟩ ?_
    refine ya 1 ?_
    refine dv [28,2,3] ?_
    refine bO ?_
    refine bG [1,2] (by kernel_rfl) (es':=[(_,_),(_,_)]) rfl ?_
    obtain rfl:=zi h
    exact bP hio rfl (.tmp _ _ (.tmp _ _ .nil)) rfl rfl
   ·rintro D ⟨⟩ h
    cases h
theorem tP (mx:Int×Nat×Value) (mails:(List dw)) (r:(List Int)) (h:Sh.oh mails=some r):lX Tryz.prog (GL mx) 152 [.fr .shr true 8 (flatten (map dw.ienc mails))] (.fl (.own 5) 1 (map (int .u8) r)):=by
  unfold Sh.oh at h
  refine yG 47 func152 fun g0 hn hio => ?_
  refine cF hn 1 [0,47] ?_
  refine lp hn 0 ?_
  refine yS (.box 28 [vz]) 0 ⟨oA (dh _ _ Ky)⟩ ?_
  refine dv [0,47,3] ?_
  refine lp hn 0 ?_
  refine yS (.clo 179 [3]) 1 ⟨qB _ _ _ 3 (by decide)⟩ ?_
  refine dv [0,47,3,4] ?_
  refine aM ?_
  refine cF hn 3 [47,3,4,12,13,14] ?_
  refine um (fs:=[(47,.glob (GL mx)),(3,.box 28 [.fl (.own 5) 1 (map (int .u8) [])]),(4,.clo 179 [3]),(12,.fr .shr true 8 (flatten (map dw.ienc mails))),(13,vi (mails.length:Int)),(14,vi 0)]) (.same _ (.box _ _ (bq (ek 5 1) (dO)) rfl (.same _ (.same _ (.same _ (.same _ .nil)))))) ?_
  refine dx h (fun ((s46,s47):(List Int)×Int)=>[(47,.glob (GL mx)),(3,.box 28 [.fl (.own 5) 1 (map (int .u8) s46)]),(4,.clo 179 [3]),(12,.fr .shr true 8 (flatten (map dw.ienc mails))),(13,vi (mails.length:Int)),(14,vi s47)]) (fun (s64:(List Int))=>[(47,.glob (GL mx)),(3,.box 28 [.fl (.own 5) 1 (map (int .u8) s64)])]) ?_ ?_
  ·rintro s64 h
   refine bb (aM ?_)
   obtain ⟨v87, hv87, h⟩:=zn h
   refine yx hn 1 ?_
   refine yk [3] [45] ?_
   refine tg (3,.box 28 [.any]) (46,.fl (.own 5) 1 (map (int .u8) v87)) 0 ⟨iF _ _ _ _ _ _ oz zS underlying9 rfl rfl (zl rfl) rfl rfl hv87 rfl (Nat.ne_of_beq_eq_false rfl) rfl rfl⟩ ?_
   refine ya 0 ?_
   refine dv [47,2] ?_
   refine bO ?_
   refine bG [1] (by kernel_rfl) (es':=[(_,_)]) rfl ?_
   obtain rfl:=zi h
   exact bP hio rfl (.tmp _ _ .nil) rfl rfl
  ·rintro u65 hl66 hr67 ⟨s46, s47⟩ rr70 h ho68
   refine cF hn 1 [47,3,4,12,13,14,15] ?_
   refine aM ?_
   refine bL _ rfl (fun hb71 => ?_) (fun hb71 => ?_)
   ·have h:=bT hb71 h
    refine bU ?_
    refine bb (aM ?_)
    refine cA ?_
    refine aM ?_
    obtain ⟨v2, hv2, h⟩:=zn h
    obtain ⟨v3, hv3, h⟩:=zn h
    refine yx hn 0 ?_
    refine ys 0 ⟨lI hv2⟩ ?_
    refine yS (.agg (dw.c v3 [])) 0 ⟨wu _ _ _ _ _ _ _ _ underlying53 rfl JA rfl rfl (vL dw.ilen hv3) (.cons (.v _) (.cons (.v _) (.cons (.v _) (.cons (.fl _ _ rfl) (.cons (.fl _ _ rfl) (.cons (.v _) (.cons (.v _) (.cons (.v _) (.nil))))))))) rfl (by decide)⟩ ?_
    refine yS (.box 53 [vb false,vs z0,vs z0,vz,vz,vb false,vs z0,vi 0]) 1 ⟨oA (dh _ _ Jy)⟩ ?_
    refine dv [47,3,4,12,13,14,6] ?_
    refine aM ?_
    obtain ⟨v4, hv4, h⟩:=zn h
    refine yx hn 3 ?_
    refine yk [3] [18,20,47] ?_
    refine tg (3,.box 28 [.fl (.own 5) 1 (map (int .u8) v4)]) (21,.tup []) 0 ⟨Bu _ _ _ 21 18 3 47 179 [_,.tmp 20] _ _ _ _ rfl call179 rfl rfl rfl (fun _ h=>h) (kV mx (⟨#[77,65,73,76,32,70,82,79,77,58]⟩:ByteArray) (bu.mk v3.From.Null v3.From.Local v3.From.Domain) s46 _ hv4) rfl rfl rfl rfl rfl rfl rfl rfl⟩ ?_
    refine dv [47,3,4,12,13,14,6] ?_
    refine aM ?_
    refine cF hn 4 [47,3,4,12,13,14,6,23,24,25] ?_
    refine dx h (fun ((s76,s77):(List Int)×Int)=>[(47,.glob (GL mx)),(3,.box 28 [.fl (.own 5) 1 (map (int .u8) s76)]),(4,.clo 179 [3]),(12,.fr .shr true 8 (flatten (map dw.ienc mails))),(13,vi (mails.length:Int)),(14,vi s47),(6,.box 53 (dw.c v3 [])),(23,.fl .shr 3 (flatten (map bu.enc v3.To))),(24,vi (v3.To.length:Int)),(25,vi s77)]) (fun (s79:(List Int))=>[(47,.glob (GL mx)),(3,.box 28 [.fl (.own 5) 1 (map (int .u8) s79)]),(4,.clo 179 [3]),(12,.fr .shr true 8 (flatten (map dw.ienc mails))),(13,vi (mails.length:Int)),(14,vi s47),(6,.box 53 (dw.c v3 []))]) ?_ ?_
    ·rintro s79 h
     refine bb (aM ?_)
     obtain ⟨v24, hv24, h⟩:=zn h
     refine yx hn 1 ?_
     refine yk [3] [33] ?_
     refine tg (3,.box 28 [.any]) (34,.fl (.own 5) 1 (map (int .u8) v24)) 0 ⟨iF _ _ _ _ _ _ oz zS underlying9 rfl rfl (zl rfl) rfl rfl hv24 rfl (Nat.ne_of_beq_eq_false rfl) rfl rfl⟩ ?_
     refine yw [33] 0 ?_
     refine yk [34,3] [] ?_
     refine yt (3,.box 28 [.fl (.own 5) 1 (map (int .u8) v24)]) 0 ⟨cO _ _ _ _ _ _ _ _ pW rfl rfl rfl (zl rfl) rfl rfl⟩ ?_
     refine dv [47,3,4,12,13,14,6] ?_
     refine aM ?_
     obtain ⟨v25, hv25, h⟩:=zn h
     refine yx hn 2 ?_
     refine ys 0 ⟨lg call181 (Ai _ _ _ hv25) 47⟩ ?_
     refine ym 0 ?_
     refine Oc 1 ?_
     refine ya 1 ?_
     refine dv [47,3,4,12,13,14,9] ?_
     obtain ⟨v26, hv26, h⟩:=zn h
     refine yx hn 1 ?_
     refine ym 0 ?_
     refine yk [3] [41,42] ?_
     refine tg (3,.box 28 [.any]) (43,.fl (.own 5) 1 (map (int .u8) v26)) 0 ⟨mb _ _ _ _ _ _ oz rfl rfl (zl rfl) rfl (kA _) (kA _) hv26 ((List.map_append).symm.trans (congrArg (map _) (oo hv26))) (Nat.ne_of_beq_eq_false rfl) rfl rfl⟩ ?_
     refine yw [41] 0 ?_
     refine yk [43,3] [] ?_
     refine yt (3,.box 28 [.fl (.own 5) 1 (map (int .u8) v26)]) 0 ⟨cO _ _ _ _ _ _ _ _ pW rfl rfl rfl (zl rfl) rfl rfl⟩ ?_
     refine ye [47,3,4,12,13,14] ?_
     refine cG ?_
     refine bb ?_
     obtain ⟨v27, hv27, h⟩:=zn h
     refine yx hn 0 ?_
     refine ys 0 ⟨lb hv27⟩ ?_
     refine yw [14] 1 ?_
     refine ye [47,3,4,12,13,14] ?_
     exact dM _ (zi h).symm rfl
    ·rintro u80 hl81 hr82 ⟨s76, s77⟩ rr85 h ho83
     refine cF hn 1 [47,3,4,12,13,14,6,23,24,25,26] ?_
     refine aM ?_
     refine bL _ rfl (fun hb86 => ?_) (fun hb86 => ?_)
     ·have h:=bT hb86 h
      refine bU ?_
      refine bb (aM ?_)
      refine cA ?_
      refine aM ?_
      obtain ⟨v6, hv6, h⟩:=zn h
      obtain ⟨v7, hv7, h⟩:=zn h
      refine yx hn 0 ?_
      refine ys 0 ⟨lj hv6⟩ ?_
      refine yS (.agg [vb v7.Null,vs v7.Local,vs v7.Domain]) 0 ⟨nC _ _ _ _ _ _ _ underlying26 rfl zX rfl rfl (qL bu.len hv7) rfl (by decide)⟩ ?_
      refine yS (.box 26 [vb false,vs z0,vs z0]) 1 ⟨oA (dh _ _ xW)⟩ ?_
      refine dv [47,3,4,12,13,14,6,23,24,25,8] ?_
      obtain ⟨v8, hv8, h⟩:=zn h
      refine yx hn 2 ?_
      refine yk [3] [29,30,47] ?_
      refine tg (3,.box 28 [.fl (.own 5) 1 (map (int .u8) v8)]) (31,.tup []) 0 ⟨Bu _ _ _ 31 29 3 47 179 [_,.tmp 30] _ _ _ _ rfl call179 rfl rfl rfl (fun _ h=>h) (kV mx (⟨#[82,67,80,84,32,84,79,58]⟩:ByteArray) v7 s76 _ hv8) rfl rfl rfl rfl rfl rfl rfl rfl⟩ ?_
      refine ye [47,3,4,12,13,14,6,23,24,25] ?_
      refine cG ?_
      refine bb ?_
      obtain ⟨v9, hv9, h⟩:=zn h
      refine yx hn 0 ?_
      refine ys 0 ⟨lb hv9⟩ ?_
      refine yw [25] 1 ?_
      refine ye [47,3,4,12,13,14,6,23,24,25] ?_
      exact dM _ (zi h).symm rfl
     ·have h:=bQ hb86 h
      refine dK ?_
      refine cd ?_
      refine cd ?_
      refine dL ?_
      refine bG [0,1,2,3,4,5,6] (by kernel_rfl) (es':=[(_,_),(_,_),(_,_),(_,_),(_,_),(_,_),(_,_)]) rfl ?_
      exact hl81 _ (ho83 _ (zi h).symm).symm
   ·have h:=bQ hb71 h
    refine dK ?_
    refine cd ?_
    refine cd ?_
    refine dL ?_
    refine bG [0,1] (by kernel_rfl) (es':=[(_,_),(_,_)]) rfl ?_
    exact hl66 _ (ho68 _ (zi h).symm).symm
theorem Ah (divisor:Int) (r:(List Int)) (h:Sh.tV divisor=some r):eD Tryz.prog 202 [.v (.int .u32 divisor)] (.v (.agg (map (int .u32) r).toArray)):=by
  unfold Sh.tV at h
  refine yO 29 func202 fun g0 hn hio => ?_
  refine lp hn 0 ?_
  refine yS (.arr 222 (map (int .u32) ((List.replicate 16 (0:Int))))) 0 ⟨oA (eN _ Gl)⟩ ?_
  refine dv [0,2] ?_
  refine lp hn 0 ?_
  refine yS (.arr 222 (map (int .u32) ((List.replicate 16 (0:Int))))) 0 ⟨oA (eN _ Gl)⟩ ?_
  refine dv [0,2,3] ?_
  refine aM ?_
  refine cF hn 1 [0,2,3,7] ?_
  refine dx h (fun ((s91,s92):(List Int)×Int)=>[(0,.v (.int .u32 divisor)),(2,.arr 222 (map (int .u32) ((List.replicate 16 (0:Int))))),(3,.arr 222 (map (int .u32) s91)),(7,vi s92)]) (fun (s133:(List Int))=>[(2,.arr 222 (map (int .u32) ((List.replicate 16 (0:Int))))),(3,.arr 222 (map (int .u32) s133))]) ?_ ?_
  ·rintro s133 h
   refine bb (aM ?_)
   obtain ⟨v180, hv180, h⟩:=zn h
   obtain ⟨v181, hv181, h⟩:=zn h
   obtain ⟨v182, hv182, h⟩:=zn h
   refine yx hn 0 ?_
   refine yS (.v (.agg (map (int .u32) s133).toArray)) 0 ⟨mP _ _ _ _ underlying222 rfl (Gs.trans (congrArg some (dV hv180))) rfl rfl⟩ ?_
   refine yk [2] [28] ?_
   refine yt (2,.arr 222 (map (int .u32) s133)) 0 ⟨eU _ _ _ _ (Gs.trans (congrArg some (dV hv182))) rfl rfl (jT (fun _=>rfl) _) ((dV (f:=int .u32) hv181).symm.trans (dV (f:=int .u32) hv182))⟩ ?_
   refine dv [2] ?_
   refine bO ?_
   obtain ⟨v183, hv183, h⟩:=zn h
   obtain rfl:=zi h
   exact bP hio rfl (.cellR _ _ _ _ underlying222 rfl (Gs.trans (congrArg some (dV hv183))) .nil) rfl rfl
  ·rintro u134 hl135 hr136 ⟨s91, s92⟩ rr139 h ho137
   refine cF hn 1 [0,2,3,7,8] ?_
   refine aM ?_
   refine bL _ rfl (fun hb140 => ?_) (fun hb140 => ?_)
   ·have h:=bT hb140 h
    refine bU ?_
    refine bb (aM ?_)
    refine cA ?_
    refine cF hn 2 [0,2,3,7,4] ?_
    refine aM ?_
    obtain ⟨v2, hv2, h⟩:=zn h
    refine yx hn 1 ?_
    refine ys 1 ⟨lv hv2⟩ ?_
    refine dv [0,2,3,7,4,5] ?_
    refine aM ?_
    refine cF hn 1 [0,2,3,7,4,5,12] ?_
    refine dx h (fun ((s157,s158):Int×Int)=>[(0,.v (.int .u32 divisor)),(2,.arr 222 (map (int .u32) ((List.replicate 16 (0:Int))))),(3,.arr 222 (map (int .u32) s91)),(7,vi s92),(4,vi s92),(5,.v (.int .u32 s157)),(12,vi s158)]) (fun (s166:Int)=>[(0,.v (.int .u32 divisor)),(2,.arr 222 (map (int .u32) ((List.replicate 16 (0:Int))))),(3,.arr 222 (map (int .u32) s91)),(7,vi s92),(4,vi s92),(5,.v (.int .u32 s166))]) ?_ ?_
    ·rintro s166 h
     refine bb ?_
     obtain ⟨v46, hv46, h⟩:=zn h
     obtain ⟨v47, hv47, h⟩:=zn h
     refine yx hn 2 ?_
     refine yS (.ptr 3 v46) 0 ⟨fK _ _ _ _ 16 3 _ underlying222 mc rfl rfl (dR hv46).1 (dR hv46).2 (by decide)⟩ ?_
     refine yk [3] [26,25] ?_
     refine yt (3,.arr 222 (map (int .u32) v47)) 0 ⟨ri _ _ _ _ _ _ mc rfl rfl rfl rfl (EV hv47) (FL (f:=int .u32) hv47)⟩ ?_
     refine ye [0,2,3,7] ?_
     refine cG ?_
     refine bb ?_
     obtain ⟨v48, hv48, h⟩:=zn h
     refine yx hn 0 ?_
     refine ys 0 ⟨lb hv48⟩ ?_
     refine yw [7] 1 ?_
     refine ye [0,2,3,7] ?_
     exact dM _ (zi h).symm rfl
    ·rintro u167 hl168 hr169 ⟨s157, s158⟩ rr172 h ho170
     refine cF hn 1 [0,2,3,7,4,5,12,13] ?_
     refine aM ?_
     refine bL _ rfl (fun hb173 => ?_) (fun hb173 => ?_)
     ·have h:=bT hb173 h
      refine bU ?_
      refine bb (aM ?_)
      refine ce h (fun (s175:Int)=>[(0,.v (.int .u32 divisor)),(2,.arr 222 (map (int .u32) ((List.replicate 16 (0:Int))))),(3,.arr 222 (map (int .u32) s91)),(7,vi s92),(4,vi s92),(12,vi s158),(5,.v (.int .u32 s175))]) ?_ ?_
      ·rintro s175 h
       refine bb ?_
       obtain ⟨v13, hv13, h⟩:=zn h
       refine yx hn 0 ?_
       refine ys 0 ⟨lb hv13⟩ ?_
       refine yw [12] 1 ?_
       refine ye [0,2,3,7,4,5,12] ?_
       exact dM _ (zi h).symm rfl
      ·intro u176 h hl177 hr178
       refine cA ?_
       refine aM ?_
       obtain ⟨v4, hv4, h⟩:=zn h
       refine yx hn 1 ?_
       refine ys 1 ⟨lb hv4⟩ ?_
       refine dv [0,2,3,7,4,5,12,6] ?_
       refine aM ?_
       obtain ⟨v5, hv5, h⟩:=zn h
       refine yx hn 1 ?_
       refine ys 0 ⟨lB (rk hv5)⟩ ?_
       refine yw [5] 1 ?_
       refine dv [0,2,3,7,4,12,6,5] ?_
       refine cF hn 2 [0,2,3,7,4,12,5,19] ?_
       refine bL _ rfl (fun hb179 => ?_) (fun hb179 => ?_)
       ·have h:=bT hb179 h
        obtain ⟨v7, hv7, h⟩:=zn h
        refine yx hn 2 ?_
        refine ys 0 ⟨lb hv7⟩ ?_
        refine yw [5] 1 ?_
        refine ye [0,2,3,7,4,12,5] ?_
        refine cG ?_
        exact hl177 _ (zi h).symm
       ·have h:=bQ hb179 h
        refine bU ?_
        refine cG ?_
        refine bG [0,1,2,3,4,5,6] (by kernel_rfl) (es':=[(_,_),(_,_),(_,_),(_,_),(_,_),(_,_),(_,_)]) rfl ?_
        exact hl177 _ (zi h).symm
     ·have h:=bQ hb173 h
      refine dK ?_
      refine cd ?_
      refine cd ?_
      refine dL ?_
      refine bG [0,1,2,3,4,5] (by kernel_rfl) (es':=[(_,_),(_,_),(_,_),(_,_),(_,_),(_,_)]) rfl ?_
      exact hl168 _ (ho170 _ (zi h).symm).symm
   ·have h:=bQ hb140 h
    refine dK ?_
    refine cd ?_
    refine cd ?_
    refine dL ?_
    refine bG [1,2] (by kernel_rfl) (es':=[(_,_),(_,_)]) rfl ?_
    exact hl135 _ (ho137 _ (zi h).symm).symm
end Go.Proofs.YtjnnkhmhjcjhdaaGreatDoor
