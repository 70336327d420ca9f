/-
  The model's runs are what is told in Lean.
-/
import Derived.Test.YtjnnkhmhjcjhdaaGreatDoorProg
import Derived.KernelRfl
import Derived.Test.YtjnnkhmhjcjhdaaGreatDoorShelf
import Derived.Test.YtjnnkhmhjcjhdaaGreatDoorIdx
import Derived.Test.YtjnnkhmhjcjhdaaGreatDoorB3
import Derived.Test.YtjnnkhmhjcjhdaaGreatDoorC1
import Derived.Test.YtjnnkhmhjcjhdaaGreatDoorBC
import Derived.Test.YtjnnkhmhjcjhdaaGreatDoorOkc2
set_option linter.unusedVariables false
set_option linter.unusedSimpArgs false
set_option maxHeartbeats 1000000
namespace Go.Proofs.YtjnnkhmhjcjhdaaGreatDoor
open Go.Abs Go.Abs.Sh Tryz
open List (map flatten)
open Value (int)
theorem nD (mx:Int×Nat×Value) (l:Nat) {S:Type} (J:S→uL) (Y:(List Int)→S→Option (S×Bool)) (hY:BJ Tryz.prog l (fun x => .fl .shr 1 (map (int .u8) x)) Y J) (c0:(List Int)) (st r:S) (h:Sh.na Y c0 st=some r):VI Tryz.prog (GL mx) 123 l [.box 28 [.fl .shr 1 (map (int .u8) c0)]] (J st) (J r):=by
  unfold Sh.na at h
  refine yI 23 func123 fun g0 hn hio => ?_
  refine eR h (fun ((s17,s18):(List Int)×S)=>[(0,.v (.func (.yield l) #[] #[])),(1,.box 28 [fb s17]),(23,.glob (GL mx)),(24,.inv (J s18))]) (fun (():Unit)=>[]) ?_ ?_
  ·rintro ⟨⟩ h
   cases h
  ·rintro u25 hl26 hr27 ⟨s17, s18⟩ rr30 h ho28
   refine dY ?_
   refine bq ?_
   obtain ⟨v1, hv1, h⟩:=zn h
   refine yx hn 1 ?_
   refine yS (.fl (.own 5) 1 (map (int .u8) [13,10])) 0 ⟨eN _ _ 1 (.int .u8 0) (map (int .u8) [13,10]) [(0,.int .u8 13),(1,.int .u8 10)] underlying28 tq EP (fun _ V w o a hv hes=>by simp only [List.map_toArray,List.map_cons,List.map_nil]; try rfl) (iw (by simp [Instr.fill,Value.cells]; rfl) (by simp [List.range,List.range.loop] <;> rfl)) (by simp [Value.oneCell']) rfl (by decide) (by decide) (by decide)⟩ ?_
   refine yk [8] [] ?_
   refine yt (9,.fl .ro 1 (map (int .u8) [13,10])) 0 ⟨ph _ _ _ underlying28 underlying5 (by intro h; cases h)⟩ ?_
   refine yk [] [7,9,23] ?_
   refine yt (10,.tup [fb v1.1,fb v1.2.1,vb v1.2.2]) 0 ⟨PL _ _ 23 74 _ _ rfl call74 rfl rfl rfl (fun _ h=>h) (EE mx s17 [13,10] _ hv1) rfl⟩ ?_
   refine ym 6 ?_
   refine eS [0,1,23,24,3,4,5] ?_
   refine bq ?_
   refine bq ?_
   refine dO h (fun ((s31,s32):S×Bool)=>[(0,.v (.func (.yield l) #[] #[])),(1,.box 28 [fb s17]),(23,.glob (GL mx)),(24,.inv (J s31)),(4,fb v1.2.1),(21,vb s32)]) ?_ ?_
   ·rintro ⟨s31, s32⟩ h
    refine cr ?_
    refine cU _ rfl (fun hb36 => ?_) (fun hb36 => ?_)
    ·have h:=dn hb36 h
     refine cY ?_
     refine cw [3] (by kernel_rfl) (es':=[(24,.inv (J s31))]) rfl ?_
     refine cT ?_
     refine eA ?_
     refine cT ?_
     refine eA ?_
     have h:=hr27 _ (ho28 _ (zi h).symm).symm
     obtain rfl:=zi h
     exact Fi hio rfl rfl rfl
    ·have h:=dj hb36 h
     refine dw ?_
     refine cr ?_
     refine yy hn 2 [0,1,23,24] ?_
     refine ep ?_
     exact fx _ (zi h).symm rfl
   ·intro u33 h hl34 hr35
    refine cZ h (fun hg1_2 h => ?_) (fun hg1_2 h => ?_)
    ·refine yx hn 3 ?_
     refine yd hg1_2 5 ?_
     refine ye [0,1,23,24,4,21] ?_
     exact hl34 _ (zi h).symm
    ·obtain ⟨v2, hv2, h⟩:=zn h
     refine yx hn 3 ?_
     refine yd hg1_2 2 ?_
     refine yk [24] [18,17] ?_
     refine wX (24,.inv (J v2.1)) (19,vb v2.2) 2 ⟨CB _ _ 24 l v1.1 s18 v2 hY hv2 rfl rfl rfl⟩ ?_
     refine ye [0,1,23,24,4,21] ?_
     exact hl34 _ (zi h).symm
theorem Dh (mx:Int×Nat×Value) (b:(List Int)) (r:(Int×Bool)) (h:Sh.uG b=some r):qT Tryz.prog (GL mx) 94 [.fl .shr 1 (map (int .u8) b)] (.tup [.v (.int .i64 r.1), .v (.bool r.2)]):=by
  unfold Sh.uG at h
  refine yG 17 func94 fun g0 hn hio => ?_
  refine oh hn 0 ?_
  refine yS (.box 3 [vi 0]) 0 ⟨oA (fj _ _ Wj)⟩ ?_
  refine yS (.box 4 [vb false]) 0 ⟨oA (fj _ _ VM)⟩ ?_
  refine eS [0,17,2,3] ?_
  refine bq ?_
  refine bq ?_
  obtain ⟨v1, hv1, h⟩:=zn h
  refine yx hn 1 ?_
  refine yk [] [5] ?_
  refine yt (6,.cloB 123 [.box 28 [fb v1]]) 0 ⟨pO _ _ 96 _ _ rfl call96 rfl rfl (pS b _ hv1) rfl⟩ ?_
  refine eS [17,2,3,6] ?_
  refine dY ?_
  refine sw [3,0,1,2] (by kernel_rfl) (es':=[(6,.cloB 123 [.box 28 [fb v1]]),(17,.glob (GL mx)),(2,.box 3 [vi 0]),(3,.box 4 [vb false])]) rfl ?_
  refine qQ h 123 6 7 18 _ [17, 2, 3] call123 (fun (s8:Int)=>[(17, .glob (GL mx)), (2, .box 3 [.v (.int .i64 s8)]), (3, .box 4 [.v (.bool false)])]) (fun (s10:Int)=>[(17, .glob (GL mx)), (2, .box 3 [.v (.int .i64 s10)]), (3, .box 4 [.v (.bool true)])]) (fun l J Y hY t t' h=>nD mx l J Y hY v1 t t' h) hn rfl (fun _=>rfl) (fun _=>rfl) (fun _=>rfl) rfl rfl (fun _=>⟨rfl, rfl⟩) rfl (re 17 rfl) ?_ ?_ ?_
  ·rintro kk g0 hn hio x s8 u h
   refine Ee (es':=[(7,fb x),(17,.glob (GL mx)),(2,.box 3 [vi s8]),(3,.box 4 [vb false]),(17,.v (kk.tm.getD 17 undef)),(2,.v (kk.tm.getD 2 undef)),(3,.v (kk.tm.getD 3 undef)),(18,.inv kk.ready)]) rfl ?_
   refine yy hn 1 [17,2,3,18,4,17,2,3] ?_
   refine cw [0,1,2,4,5,6,7,3] (by kernel_rfl) (es':=[(17,.glob (GL mx)),(2,.box 3 [vi s8]),(3,.box 4 [vb false]),(4,fb x),(17,.v (kk.tm.getD 17 undef)),(2,.v (kk.tm.getD 2 undef)),(3,.v (kk.tm.getD 3 undef)),(18,.inv kk.ready)]) rfl ?_
   refine sL (es:=[(17,.glob (GL mx)),(2,.box 3 [vi s8]),(3,.box 4 [vb false]),(4,fb x),(17,.v (kk.tm.getD 17 undef)),(2,.v (kk.tm.getD 2 undef)),(3,.v (kk.tm.getD 3 undef))]) 18 rfl ?_
   refine dY ?_
   refine bq ?_
   refine bq ?_
   obtain ⟨v2, hv2, h⟩:=zn h
   refine yx hn 1 ?_
   refine ys 1 ⟨lS hv2⟩ ?_
   refine eS [17,2,3,4,18,10,17,2,3] ?_
   refine cU _ rfl (fun hb11 => ?_) (fun hb11 => ?_)
   ·have h:=dn hb11 h
    refine eo hn 3 [17,2,3,18,17,2,3] ?_
    refine cY ?_
    refine cT ?_
    refine eA ?_
    refine cw [0,1,2,4,5,6,3] (by kernel_rfl) (es':=[(_,_),(_,_),(_,_),(_,_),(_,_),(_,_),(_,_)]) rfl ?_
    obtain rfl:=zi h
    exact BU 18 [17, 2, 3] _ rfl rfl (by kernel_rfl)
   ·have h:=dj hb11 h
    refine dw ?_
    refine cr ?_
    obtain ⟨v4, hv4, h⟩:=zn h
    obtain ⟨v5, hv5, h⟩:=zn h
    refine yx hn 3 ?_
    refine ys 0 ⟨lb hv4⟩ ?_
    refine ys 1 ⟨lb hv5⟩ ?_
    refine ye [17,2,3,18,17,2,3] ?_
    refine ep ?_
    refine cw [0,1,2,4,5,6,3] (by kernel_rfl) (es':=[(_,_),(_,_),(_,_),(_,_),(_,_),(_,_),(_,_)]) rfl ?_
    obtain rfl:=zi h
    exact sQ 18 [17, 2, 3] _ rfl rfl (by kernel_rfl)
  ·rintro D s8 h
   refine ep ?_
   refine cr ?_
   refine eo hn 2 [17,2,3] ?_
   refine cY ?_
   refine cw [1,2] (by kernel_rfl) (es':=[(_,_),(_,_)]) rfl ?_
   obtain rfl:=zi h
   exact dq hio rfl (.cell1 _ _ _ _ underlying3 rfl (.cell1 _ _ _ _ underlying4 rfl .nil)) rfl rfl
  ·rintro D s10 h
   refine cw [1,2] (by kernel_rfl) (es':=[(_,_),(_,_)]) rfl ?_
   refine eA ?_
   refine cT ?_
   obtain rfl:=zi h
   exact dq hio rfl (.cell1 _ _ _ _ underlying3 rfl (.cell1 _ _ _ _ underlying4 rfl .nil)) rfl rfl
theorem CF (mx:Int×Nat×Value) (s:List Int) (c:ByteArray) (r:Int) (h:Sh.rz s c=some r):qT Tryz.prog (GL mx) 144 [.fl .shr 1 (map (int .u8) s), .v (.string c)] (.v (.int .i64 r)) :=
  Ah (JM mx) (Oa mx) (RU mx) (fun s b off c w hs hnc hb hm hmb k1 k2 HG hp=>Tryz.idx_crlf s b off c w mx.1 hs hnc hb hm hmb (Np qg sU (by kernel_rfl) (by kernel_rfl) k1 k2) HG hp) Tryz.idx_none s c r h
theorem yh (mx:Int×Nat×Value) (b:(List Int)) (chars:ByteArray) (r:Bool) (h:Sh.rG b chars=some r):qT Tryz.prog (GL mx) 122 [.fl .shr 1 (map (int .u8) b), .v (.string chars)] (.v (.bool r)):=by
  unfold Sh.rG at h
  refine yG 9 func122 fun g0 hn hio => ?_
  refine eo hn 1 [0,1,9] ?_
  refine bq ?_
  obtain ⟨v1, hv1, h⟩:=zn h
  refine yx hn 2 ?_
  refine ys 2 ⟨lg call144 (CF _ _ _ _ hv1) 9⟩ ?_
  refine eS [9,4] ?_
  refine cY ?_
  refine cw [1] (by kernel_rfl) (es':=[(_,_)]) rfl ?_
  obtain rfl:=zi h
  exact dq hio rfl (.tmp _ _ .nil) rfl rfl
theorem sB (mx:Int×Nat×Value) (b:(List Int)) (r:Int) (h:Sh.si b=some r):qT Tryz.prog (GL mx) 95 [.fl .shr 1 (map (int .u8) b)] (.v (.int .i64 r)):=by
  unfold Sh.si at h
  refine yG 19 func95 fun g0 hn hio => ?_
  refine oh hn 0 ?_
  refine yS (.box 35 [vi 0]) 0 ⟨oA (fj _ _ Xb)⟩ ?_
  refine eS [0,19,2] ?_
  refine oh hn 0 ?_
  refine yS (.box 3 [vi 0]) 1 ⟨oA (fj _ _ Wj)⟩ ?_
  refine eS [0,19,2,3] ?_
  refine bq ?_
  refine bq ?_
  obtain ⟨v1, hv1, h⟩:=zn h
  refine yx hn 1 ?_
  refine yk [] [5] ?_
  refine yt (6,.cloB 123 [.box 28 [fb v1]]) 0 ⟨pO _ _ 96 _ _ rfl call96 rfl rfl (pS b _ hv1) rfl⟩ ?_
  refine eS [0,19,2,3,6] ?_
  refine dY ?_
  refine sw [4,0,1,2,3] (by kernel_rfl) (es':=[(6,.cloB 123 [.box 28 [fb v1]]),(0,fb b),(19,.glob (GL mx)),(2,.box 35 [vi 0]),(3,.box 3 [vi 0])]) rfl ?_
  refine qQ h 123 6 7 20 _ [0, 19, 2, 3] call123 (fun (s8:Int)=>[(0, fb b), (19, .glob (GL mx)), (2, .box 35 [.v (.int .i64 0)]), (3, .box 3 [.v (.int .i64 s8)])]) (fun (s10:Int)=>[(0, fb b), (19, .glob (GL mx)), (2, .box 35 [.v (.int .i64 5)]), (3, .box 3 [.v (.int .i64 s10)])]) (fun l J Y hY t t' h=>nD mx l J Y hY v1 t t' h) hn rfl (fun _=>rfl) (fun _=>rfl) (fun _=>rfl) rfl rfl (fun _=>⟨rfl, rfl⟩) rfl (re 19 rfl) ?_ ?_ ?_
  ·rintro kk g0 hn hio x s8 u h
   refine Ee (es':=[(7,fb x),(0,fb b),(19,.glob (GL mx)),(2,.box 35 [vi 0]),(3,.box 3 [vi s8]),(0,.v (kk.tm.getD 0 undef)),(19,.v (kk.tm.getD 19 undef)),(2,.v (kk.tm.getD 2 undef)),(3,.v (kk.tm.getD 3 undef)),(20,.inv kk.ready)]) rfl ?_
   refine yy hn 1 [0,19,2,3,20,4,0,19,2,3] ?_
   refine cw [0,1,2,3,5,6,7,8,9,4] (by kernel_rfl) (es':=[(0,fb b),(19,.glob (GL mx)),(2,.box 35 [vi 0]),(3,.box 3 [vi s8]),(4,fb x),(0,.v (kk.tm.getD 0 undef)),(19,.v (kk.tm.getD 19 undef)),(2,.v (kk.tm.getD 2 undef)),(3,.v (kk.tm.getD 3 undef)),(20,.inv kk.ready)]) rfl ?_
   refine sL (es:=[(0,fb b),(19,.glob (GL mx)),(2,.box 35 [vi 0]),(3,.box 3 [vi s8]),(4,fb x),(0,.v (kk.tm.getD 0 undef)),(19,.v (kk.tm.getD 19 undef)),(2,.v (kk.tm.getD 2 undef)),(3,.v (kk.tm.getD 3 undef))]) 20 rfl ?_
   refine dY ?_
   refine bq ?_
   refine bq ?_
   obtain ⟨v2, hv2, h⟩:=zn h
   refine yx hn 1 ?_
   refine ys 0 ⟨lg call122 (yh _ _ _ _ hv2) 19⟩ ?_
   refine eS [0,19,2,3,4,20,9,0,19,2,3] ?_
   refine cU _ rfl (fun hb11 => ?_) (fun hb11 => ?_)
   ·have h:=dn hb11 h
    refine eo hn 1 [0,19,2,3,20,0,19,2,3] ?_
    refine cY ?_
    refine cT ?_
    refine eA ?_
    refine cw [0,1,2,3,5,6,7,8,4] (by kernel_rfl) (es':=[(_,_),(_,_),(_,_),(_,_),(_,_),(_,_),(_,_),(_,_),(_,_)]) rfl ?_
    obtain rfl:=zi h
    exact BU 20 [0, 19, 2, 3] _ rfl rfl (by kernel_rfl)
   ·have h:=dj hb11 h
    refine dw ?_
    refine cr ?_
    obtain ⟨v4, hv4, h⟩:=zn h
    obtain ⟨v5, hv5, h⟩:=zn h
    refine yx hn 3 ?_
    refine ys 0 ⟨lb hv4⟩ ?_
    refine ys 1 ⟨lb hv5⟩ ?_
    refine ye [0,19,2,3,20,0,19,2,3] ?_
    refine ep ?_
    refine cw [0,1,2,3,5,6,7,8,4] (by kernel_rfl) (es':=[(_,_),(_,_),(_,_),(_,_),(_,_),(_,_),(_,_),(_,_),(_,_)]) rfl ?_
    obtain rfl:=zi h
    exact sQ 20 [0, 19, 2, 3] _ rfl rfl (by kernel_rfl)
  ·rintro D s8 h
   refine ep ?_
   refine cr (bq ?_)
   refine eo hn 4 [19,2,18] ?_
   refine cU _ rfl (fun hb12 => ?_) (fun hb12 => ?_)
   ·have h:=dn hb12 h
    refine eo hn 1 [19,2] ?_
    refine cY ?_
    refine cw [1] (by kernel_rfl) (es':=[(_,_)]) rfl ?_
    refine cT ?_
    obtain rfl:=zi h
    exact dq hio rfl (.cell1 _ _ _ _ underlying35 rfl .nil) rfl rfl
   ·have h:=dj hb12 h
    refine dw ?_
    refine cr ?_
    refine eo hn 1 [19,2] ?_
    refine cY ?_
    refine cw [1] (by kernel_rfl) (es':=[(_,_)]) rfl ?_
    obtain rfl:=zi h
    exact dq hio rfl (.cell1 _ _ _ _ underlying35 rfl .nil) rfl rfl
  ·rintro D s10 h
   refine cw [2] (by kernel_rfl) (es':=[(_,_)]) rfl ?_
   refine eA ?_
   refine cT ?_
   obtain rfl:=zi h
   exact dq hio rfl (.cell1 _ _ _ _ underlying35 rfl .nil) rfl rfl
theorem ug (s:(List Int)) (prefix_:(List Int)) (r:Bool) (h:Sh.pZ s prefix_=some r):gN Tryz.prog 124 [.fl .shr 1 (map (int .u8) s), .fl .shr 1 (map (int .u8) prefix_)] (.v (.bool r)):=by
  unfold Sh.pZ at h
  refine yO 18 func124 fun g0 hn hio => ?_
  refine eo hn 1 [0,1] ?_
  refine bq ?_
  refine dO h (fun (s3:Bool)=>[(4,vb s3)]) ?_ ?_
  ·rintro s3 h
   refine cr (cY ?_)
   obtain rfl:=zi h
   exact dq hio rfl (.tmp _ _ .nil) rfl rfl
  ·intro u4 h hl5 hr6
   refine cZ h (fun hg1_5 h => ?_) (fun hg1_5 h => ?_)
   ·obtain ⟨v1, hv1, h⟩:=zn h
    obtain ⟨v2, hv2, h⟩:=zn h
    refine yx hn 6 ?_
    refine yd hg1_5 3 ?_
    refine yS (fb v1) 1 ⟨xo _ _ _ 0 (prefix_.length:Int) _ underlying28 tq rfl rfl rfl ⟨_,rfl⟩ hv1⟩ ?_
    refine ys 2 ⟨lk call72 (yf _ _ _ hv2)⟩ ?_
    refine ye [4] ?_
    exact hl5 _ (zi h).symm
   ·refine yx hn 6 ?_
    refine yd hg1_5 8 ?_
    refine ye [4] ?_
    exact hl5 _ (zi h).symm
theorem wh (s:(List Int)) (prefix_:(List Int)) (r:(List Int)) (h:Sh.pG s prefix_=some r):gN Tryz.prog 97 [.fl .shr 1 (map (int .u8) s), .fl .shr 1 (map (int .u8) prefix_)] (.fl .shr 1 (map (int .u8) r)):=by
  unfold Sh.pG at h
  refine yO 13 func97 fun g0 hn hio => ?_
  refine eo hn 1 [0,1] ?_
  refine bq ?_
  refine bq ?_
  obtain ⟨v1, hv1, h⟩:=zn h
  refine yx hn 2 ?_
  refine ys 0 ⟨lk call124 (ug _ _ _ hv1)⟩ ?_
  refine eS [0,1,7] ?_
  refine cU _ rfl (fun hb2 => ?_) (fun hb2 => ?_)
  ·have h:=dn hb2 h
   refine bq ?_
   obtain ⟨v3, hv3, h⟩:=zn h
   refine yx hn 3 ?_
   refine yS (fb v3) 1 ⟨xo _ _ _ (prefix_.length:Int) (s.length:Int) _ underlying28 tq rfl rfl ⟨_,rfl⟩ rfl hv3⟩ ?_
   refine eS [4] ?_
   refine cY ?_
   refine cT ?_
   obtain rfl:=zi h
   exact dq hio rfl (.tmp _ _ .nil) rfl rfl
  ·have h:=dj hb2 h
   refine dw ?_
   refine cr ?_
   refine eo hn 2 [4] ?_
   refine cY ?_
   obtain rfl:=zi h
   exact dq hio rfl (.tmp _ _ .nil) rfl rfl
theorem HH (mx:Int×Nat×Value) (b:(List Int)) (r:((List Int)×Int×Int)) (h:Sh.ub b=some r):qT Tryz.prog (GL mx) 84 [.fl .shr 1 (map (int .u8) b)] (.tup [.fl (.own 5) 1 (map (int .u8) r.1), .v (.int .i64 r.2.1), .v (.int .i64 r.2.2)]):=by
  unfold Sh.ub at h
  refine yG 39 func84 fun g0 hn hio => ?_
  refine oh hn 0 ?_
  refine yS (.box 28 [vz]) 2 ⟨oA (fj _ _ SW)⟩ ?_
  refine eS [0,39,2] ?_
  refine bq ?_
  obtain ⟨v1, hv1, h⟩:=zn h
  refine yx hn 1 ?_
  refine ys 0 ⟨lg call94 (Dh _ _ _ hv1) 39⟩ ?_
  refine ym 4 ?_
  refine eS [0,39,2,5,6] ?_
  refine bq ?_
  refine eo hn 2 [0,39,2,5,15] ?_
  refine cU _ rfl (fun hb2 => ?_) (fun hb2 => ?_)
  ·have h:=dn hb2 h
   refine eo hn 3 [39,2,3,4] ?_
   refine cY ?_
   refine cw [1,2,3] (by kernel_rfl) (es':=[(_,_),(_,_),(_,_)]) rfl ?_
   refine iZ (fs:=[(2,.box 28 [.fl (.own 5) 1 (map (int .u8) [])]),(3,vi 0),(4,vi 9)]) (.box _ _ (bI (gr 5 1) (fM)) rfl (.same _ (.same _ .nil))) ?_
   refine cT ?_
   obtain rfl:=zi h
   exact dq hio rfl (.cell1 _ _ _ _ underlying28 rfl (.tmp _ _ (.tmp _ _ .nil))) rfl rfl
  ·have h:=dj hb2 h
   refine dw ?_
   refine cr (bq ?_)
   refine bq ?_
   obtain ⟨v3, hv3, h⟩:=zn h
   obtain ⟨v4, hv4, h⟩:=zn h
   refine yx hn 2 ?_
   refine yS (fb v3) 0 ⟨xo _ _ _ 0 v1.1 _ underlying28 tq rfl rfl rfl ⟨_,rfl⟩ hv3⟩ ?_
   refine ys 1 ⟨lg call95 (sB _ _ _ hv4) 39⟩ ?_
   refine eS [0,39,2,5,7] ?_
   refine eo hn 2 [0,39,2,5,7,21] ?_
   refine cU _ rfl (fun hb5 => ?_) (fun hb5 => ?_)
   ·have h:=dn hb5 h
    refine eo hn 4 [39,2,3,4] ?_
    refine cY ?_
    refine cw [1,2,3] (by kernel_rfl) (es':=[(_,_),(_,_),(_,_)]) rfl ?_
    refine iZ (fs:=[(2,.box 28 [.fl (.own 5) 1 (map (int .u8) [])]),(3,vi 0),(4,vi v4)]) (.box _ _ (bI (gr 5 1) (fM)) rfl (.same _ (.same _ .nil))) ?_
    refine cT ?_
    obtain rfl:=zi h
    exact dq hio rfl (.cell1 _ _ _ _ underlying28 rfl (.tmp _ _ (.tmp _ _ .nil))) rfl rfl
   ·have h:=dj hb5 h
    refine dw ?_
    refine cr (bq ?_)
    refine bq ?_
    obtain ⟨v6, hv6, h⟩:=zn h
    obtain ⟨v7, hv7, h⟩:=zn h
    refine yx hn 2 ?_
    refine yS (fb v6) 0 ⟨xo _ _ _ 0 v1.1 _ underlying28 tq rfl rfl rfl ⟨_,rfl⟩ hv6⟩ ?_
    refine yk [] [25] ?_
    refine yt (26,.cloB 123 [.box 28 [fb v7]]) 0 ⟨pO _ _ 96 _ _ rfl call96 rfl rfl (pS v6 _ hv7) rfl⟩ ?_
    refine eS [39,2,5,26] ?_
    refine dY ?_
    refine sw [3,0,1,2] (by kernel_rfl) (es':=[(26,.cloB 123 [.box 28 [fb v7]]),(39,.glob (GL mx)),(2,.box 28 [vz]),(5,vi v1.1)]) rfl ?_
    refine Br (fs:=[(26,.cloB 123 [.box 28 [fb v7]]),(39,.glob (GL mx)),(2,.box 28 [.fl (.own 5) 1 (map (int .u8) [])]),(5,vi v1.1)]) (.same _ (.same _ (.box _ _ (bI (gr 5 1) (fM)) rfl (.same _ .nil)))) ?_
    refine qQ h 123 26 27 40 _ [39, 2, 5] call123 (fun (s12:(List Int))=>[(39, .glob (GL mx)), (2, .box 28 [.fl (.own 5) 1 (map (int .u8) s12)]), (5, .v (.int .i64 v1.1))]) (fun (():Unit)=>[]) (fun l J Y hY t t' h=>nD mx l J Y hY v7 t t' h) hn rfl (fun _=>rfl) (fun _=>rfl) (fun _=>rfl) rfl rfl (fun _=>⟨rfl, rfl⟩) rfl (re 39 rfl) ?_ ?_ ?_
    ·rintro kk g0 hn hio x s12 u h
     refine Ee (es':=[(27,fb x),(39,.glob (GL mx)),(2,.box 28 [.fl (.own 5) 1 (map (int .u8) s12)]),(5,vi v1.1),(39,.v (kk.tm.getD 39 undef)),(2,.v (kk.tm.getD 2 undef)),(5,.v (kk.tm.getD 5 undef)),(40,.inv kk.ready)]) rfl ?_
     refine yy hn 1 [39,2,5,40,8,39,2,5] ?_
     refine cw [0,1,2,4,5,6,7,3] (by kernel_rfl) (es':=[(39,.glob (GL mx)),(2,.box 28 [.fl (.own 5) 1 (map (int .u8) s12)]),(5,vi v1.1),(8,fb x),(39,.v (kk.tm.getD 39 undef)),(2,.v (kk.tm.getD 2 undef)),(5,.v (kk.tm.getD 5 undef)),(40,.inv kk.ready)]) rfl ?_
     refine sL (es:=[(39,.glob (GL mx)),(2,.box 28 [.fl (.own 5) 1 (map (int .u8) s12)]),(5,vi v1.1),(8,fb x),(39,.v (kk.tm.getD 39 undef)),(2,.v (kk.tm.getD 2 undef)),(5,.v (kk.tm.getD 5 undef))]) 40 rfl ?_
     refine dY ?_
     refine bq ?_
     obtain ⟨v8, hv8, h⟩:=zn h
     obtain ⟨v9, hv9, h⟩:=zn h
     refine wb [[2],[8]] ?_
     refine wN [] ?_
     refine wS (.fl (.own 5) 1 (map (int .u8) [46])) [] ⟨eN _ _ 1 (.int .u8 0) (map (int .u8) [46]) [(0,.int .u8 46)] underlying28 tq EP (fun _ V w o a hv hes=>by simp only [List.map_toArray,List.map_cons,List.map_nil]; try rfl) (iw (by simp [Instr.fill,Value.cells]; rfl) (by simp [List.range,List.range.loop] <;> rfl)) (by simp [Value.oneCell']) rfl (by decide) (by decide) (by decide)⟩ ?_
     refine wK [30] [] ?_
     refine wt [(31,.fl .ro 1 (map (int .u8) [46]))] [] ⟨ph _ _ _ underlying28 underlying5 (by intro h; cases h)⟩ ?_
     refine wN [29,31] ?_
     refine wS (fb v8) [] ⟨pO _ _ 97 _ _ rfl call97 rfl rfl (wh x [46] _ hv8) rfl⟩ ?_
     refine wK [2] [28,32] ?_
     refine wt [(2,.box 28 [.any]),(33,.fl (.own 5) 1 (map (int .u8) v9))] [] ⟨qO _ _ _ _ _ _ pF rfl rfl (zl rfl) rfl (lx _) (lx _) hv9 ((List.map_append).symm.trans (congrArg (map _) (rv hv9))) (Nat.ne_of_beq_eq_false rfl) rfl rfl⟩ ?_
     refine wK [28,33,2] [] ?_
     refine wt [(2,.box 28 [.fl (.own 5) 1 (map (int .u8) v9)])] [] ⟨eC.drop [_] (eD _ _ _ _ _ _ _ _ uE rfl rfl rfl (zl rfl) rfl rfl)⟩ ?_
     refine Ht hn [39,2,5,40,39,2,5] ?_
     obtain ⟨v10, hv10, h⟩:=zn h
     refine yx hn 1 ?_
     refine yk [2] [34] ?_
     refine wX (2,.box 28 [.any]) (35,.fl (.own 5) 1 (map (int .u8) v10)) 0 ⟨lQ _ _ _ _ _ _ pF EP underlying9 rfl rfl (zl rfl) rfl rfl hv10 rfl (Nat.ne_of_beq_eq_false rfl) rfl rfl⟩ ?_
     refine yw [34] 0 ?_
     refine yk [35,2] [] ?_
     refine yt (2,.box 28 [.fl (.own 5) 1 (map (int .u8) v10)]) 0 ⟨eD _ _ _ _ _ _ _ _ uE rfl rfl rfl (zl rfl) rfl rfl⟩ ?_
     refine ye [39,2,5,40,39,2,5] ?_
     refine ep ?_
     refine cw [0,1,2,4,5,6,3] (by kernel_rfl) (es':=[(_,_),(_,_),(_,_),(_,_),(_,_),(_,_),(_,_)]) rfl ?_
     obtain rfl:=zi h
     exact sQ 40 [39, 2, 5] _ rfl rfl (by kernel_rfl)
    ·rintro D s12 h
     refine ep ?_
     refine cr (bq ?_)
     obtain ⟨v13, hv13, h⟩:=zn h
     refine yx hn 2 ?_
     refine ys 0 ⟨lb hv13⟩ ?_
     refine yk [2] [36] ?_
     refine yt (2,.box 28 [.fl (.own 5) 1 (map (int .u8) s12)]) 2 ⟨FQ _ _ _ 2 0 uE rfl rfl rfl (zl rfl)⟩ ?_
     refine eS [39,2,3,4] ?_
     refine cY ?_
     refine cw [1,2,3] (by kernel_rfl) (es':=[(_,_),(_,_),(_,_)]) rfl ?_
     obtain rfl:=zi h
     exact dq hio rfl (.cell1 _ _ _ _ underlying28 rfl (.tmp _ _ (.tmp _ _ .nil))) rfl rfl
    ·rintro D ⟨⟩ h
     cases h
theorem nH (xs:List Value):Bt Tryz.prog 145 [.hid (qw 153 5 false xs)] [.hid (qw 153 5 true xs)] (.tup []) :=
  Pl (by decide) (fun b w h1 h2 h3=>Tryz.Builder_copyCheck_fresh b w h1 h2 h3) (fun b w h=>Tryz.Builder_copyCheck_used b w h)
theorem kA (xs:List Int) (c:Int) (r:List Int) (h:je 1 xs [c]=some r):Bt Tryz.prog 125 [.hid (qw 153 5 false (map (int .u8) xs)), .v (.int .u8 c)] [.hid (qw 153 5 false (map (int .u8) r))] (.v .nilIface):=by
  refine Bt.bldW ?_
  refine KD func125 rfl (zl rfl) rfl (zl rfl) fun args0 hargs0 g0 hn hio => ?_
  refine RH hn [_,_,_,(4,.v .nilIface)] [0,1,2] [0,1,2] [zq [] 3 4] [(_,_),(_,_),(_,_)] rfl ⟨z2 rfl,zz⟩ ?_
  refine RH hn [_,_,_,(5,.same (.slot 0)),(0,.hid (qw 153 5 true (map (int .u8) xs))),(6,.tup [])] [0,1,2] [4,1,2] [zq [] 3 5,⟨[3],[0],[4,5],[(.slot 6)]⟩] [(_,_),(_,_),(_,_)] rfl ⟨zp rfl (ke _ _ _ rfl),zp rfl (vj _ _ _ _ 6 145 [.tmp 5] [] _ _ _ rfl call145 rfl rfl rfl (nH _) (zl rfl) rfl rfl rfl rfl rfl rfl rfl),zz⟩ ?_
  refine Fu 0 rfl ?_
  refine RH hn (_::_::_::(7,.ptr 0 0)::(8,.ptr 0 0)::(9,.ptr 0 0)::(10,.ptr 0 1)::(11,.same (.cell 0 1))::(12,.v (.int .u8 c))::(13,.fl (.own 5) 1 (map (int .u8) [c]))::(14,.fl (.own 5) 1 (map (int .u8) r))::(0,.box 153 [.ptr 0 0,.any])::(15,.ptr 0 0)::(16,.ptr 0 1)::(0,.box 153 [.ptr 0 0,.fl (.own 5) 1 (map (int .u8) r)])::[]) [0,1,2] [14,2] [zq [0] 3 7,zq [0] 4 8,zq [4,0] 5 9,zq [5,0] 6 10,zq [6,0] 7 11,zq [1] 8 12,zq [8] 9 13,⟨[7,9],[0],[11,10],[(.slot 14)]⟩,zq [3,11] 12 15,zq [12,11] 13 16,⟨[13],[7,10,11],[14],[.cell 0 1]⟩] [(_,_),(_,_)] rfl ⟨z1 rfl,z1 rfl,zp rfl (sK _ _ _ 0 0 rfl (by decide)),zp rfl (oF underlying153 rfl uE),zp rfl (oL underlying28 rfl),z1 rfl,zp rfl (eN _ _ 1 (.int .u8 0) (map (int .u8) [c]) [(0, .int .u8 c)] underlying28 tq EP (fun _ V w o a hv hes=>by have e0:=gJ hv hes (x := .tmp 12) rfl; simp only [List.map_toArray, List.map_cons, List.map_nil, e0]; try rfl) (iw (by simp [Instr.fill, Value.cells]; rfl) (by simp [List.range, List.range.loop])) (by simp [Value.oneCell']) rfl (by decide) (by decide) (by decide)),zp rfl (qO _ _ _ _ _ _ pF rfl rfl (zl rfl) rfl (lx _) (lx _) h ((List.map_append).symm.trans (congrArg (map _) (rv h))) (Nat.ne_of_beq_eq_false rfl) rfl rfl),zp rfl (sK _ _ _ 0 0 rfl (by decide)),zp rfl (oF underlying153 rfl uE),zp rfl (eC.drop [_] (eD _ _ _ _ _ _ _ _ uE rfl rfl rfl (zl rfl) rfl rfl)),zz⟩ ?_
  refine RH hn [_,_,(4,.v .nilIface)] [0,1] [0,1,2] [zq [] 2 4] [(_,_),(_,_),(_,_)] rfl ⟨z2 rfl,zz⟩ ?_
  refine cY ?_
  refine QU 0 ?_
  refine cw [2,0,1] (by kernel_rfl) (es':=[(_,_),(_,_),(_,_)]) rfl ?_
  exact fR (es:=[(4, .v .nilIface)]) (posts:=[.hid (qw 153 5 true (map (int .u8) r))]) hio rfl rfl (.tmp _ _ .nil) rfl rfl hargs0 rfl
theorem Cb (s:ByteArray) (c:Int) (r:ByteArray) (h:Sh.strings_Repeat s c=some r):gN Tryz.prog 127 [.v (.string s), .v (.int .i64 c)] (.v (.string r)):=Bs Tryz.strings_Repeat s c r h
theorem sf (xs:List Int) (s:ByteArray) (r:List Int) (h:je 1 xs (ed s)=some r):Bt Tryz.prog 126 [.hid (qw 153 5 false (map (int .u8) xs)), .v (.string s)] [.hid (qw 153 5 false (map (int .u8) r))] (.tup [.v (.int .i64 (s.size:Int)), .v .nilIface]):=by
  refine Bt.bldW ?_
  refine KD func126 rfl (zl rfl) rfl (zl rfl) fun args0 hargs0 g0 hn hio => ?_
  refine RH hn [_,_,_,(4,vi 0),(5,.v .nilIface)] [0,1,2] [0,1,2] [zq [] 3 4,zq [] 4 5] [(_,_),(_,_),(_,_)] rfl ⟨z2 rfl,z2 rfl,zz⟩ ?_
  refine RH hn [_,_,_,(6,.same (.slot 0)),(0,.hid (qw 153 5 true (map (int .u8) xs))),(7,.tup [])] [0,1,2] [4,1,2] [zq [] 3 6,⟨[3],[0],[4,5],[(.slot 7)]⟩] [(_,_),(_,_),(_,_)] rfl ⟨zp rfl (ke _ _ _ rfl),zp rfl (vj _ _ _ _ 7 145 [.tmp 6] [] _ _ _ rfl call145 rfl rfl rfl (nH _) (zl rfl) rfl rfl rfl rfl rfl rfl rfl),zz⟩ ?_
  refine Fu 0 rfl ?_
  refine RH hn (_::_::_::(8,.ptr 0 0)::(9,.ptr 0 0)::(10,.ptr 0 0)::(11,.ptr 0 1)::(12,.same (.cell 0 1))::(13,vs s)::(14,.fl (.own 5) 1 (map (int .u8) r))::(0,.box 153 [.ptr 0 0,.any])::(15,.ptr 0 0)::(16,.ptr 0 1)::(0,.box 153 [.ptr 0 0,.fl (.own 5) 1 (map (int .u8) r)])::[]) [0,1,2] [13,1,2] [zq [0] 3 8,zq [0] 4 9,zq [4,0] 5 10,zq [5,0] 6 11,zq [6,0] 7 12,zq [1] 8 13,⟨[7,8],[0],[10,9],[(.slot 14)]⟩,zq [3,10] 11 15,zq [11,10] 12 16,⟨[12],[7,9,10],[13],[.cell 0 1]⟩] [(_,_),(_,_),(_,_)] rfl ⟨z1 rfl,z1 rfl,zp rfl (sK _ _ _ 0 0 rfl (by decide)),zp rfl (oF underlying153 rfl uE),zp rfl (oL underlying28 rfl),z1 rfl,zp rfl (lQ _ _ _ _ _ _ pF EP underlying9 rfl rfl (zl rfl) rfl rfl h rfl (Nat.ne_of_beq_eq_false rfl) rfl rfl),zp rfl (sK _ _ _ 0 0 rfl (by decide)),zp rfl (oF underlying153 rfl uE),zp rfl (eC.drop [_] (eD _ _ _ _ _ _ _ _ uE rfl rfl rfl (zl rfl) rfl rfl)),zz⟩ ?_
  refine RH hn [_,_,_,(17,vs s),(18,vi (s.size:Int)),(4,vi (s.size:Int)),(5,.v .nilIface)] [0,1,2] [0,2,5,6] [zq [1] 3 17,zq [3] 4 18,zq [4] 5 4,zq [] 6 5] [(_,_),(_,_),(_,_),(_,_)] rfl ⟨z1 rfl,zp rfl (oN underlying9 rfl),z2 rfl,z2 rfl,zz⟩ ?_
  refine cY ?_
  refine QU 0 ?_
  refine cw [2,3,0,1] (by kernel_rfl) (es':=[(_,_),(_,_),(_,_),(_,_)]) rfl ?_
  exact fR (es:=[(4, .v (.int .i64 (s.size:Int))), (5, .v .nilIface)]) (posts:=[.hid (qw 153 5 true (map (int .u8) r))]) hio rfl rfl (.tmp _ _ (.tmp _ _ .nil)) rfl rfl hargs0 rfl
theorem py (xs:List Int) (s:ByteArray) (h:Nn xs=some s):Bt Tryz.prog 128 [.hid (qw 153 5 false (map (int .u8) xs))] [] (.v (.string s)):=by
  refine KD func128 rfl (zl rfl) rfl (zl rfl) fun args0 hargs0 g0 hn hio => ?_
  refine Ns 0 fun v => ?_
  refine RH hn [_,(2,vs ByteArray.empty)] [0] [0] [zq [] 1 2] [(_,_)] rfl ⟨z2 rfl,zz⟩ ?_
  refine bq ?_
  refine Cf (by kernel_rfl) hn (El:=[_,(3,.same (.slot 0)),(4,.ptr 0 0),(5,.ptr 0 1),(6,.v v),(7,.hid (SB v)),(8,.same (.slot 0)),(9,.ptr 0 0),(10,.ptr 0 1),(11,.v v),(12,vi ((map (int .u8) xs).length:Int)),(13,vs s),(2,vs s)]) (init:=[0]) (fin:=[12]) (sps:=[zq [] 1 3,zq [1,0] 2 4,zq [2] 3 5,zq [3,0] 4 6,zq [4,0] 5 7,zq [] 6 8,zq [6,0] 7 9,zq [7] 8 10,zq [8,0] 9 11,zq [9,0] 10 12,⟨[5,10],[0],[11],[(.slot 13)]⟩,zq [11] 12 2]) (es':=[(2,vs s)]) (by kernel_rfl) rfl rfl ⟨zp rfl (ke _ _ _ rfl),zp rfl (wH _ _ _ 0 rfl rfl (by decide)),zp rfl (oF underlying153 rfl uE),zp rfl (Ej _ _ _ 0 underlying28 rfl rfl rfl),zp rfl (TT _ _ 0 underlying173 rfl rfl),zp rfl (ke _ _ _ rfl),zp rfl (wH _ _ _ 0 rfl rfl (by decide)),zp rfl (oF underlying153 rfl uE),zp rfl (Ej _ _ _ 0 underlying28 rfl rfl rfl),zp rfl (NI _ _ 0 underlying28 rfl rfl),zp rfl (SD _ _ 0 underlying173 (by kernel_rfl) rfl rfl h),z2 rfl,zz⟩ ?_
  refine cr (cY ?_)
  exact fR (es:=[(2, .v (.string s))]) (posts:=[]) hio rfl rfl (.tmp _ _ .nil) rfl rfl hargs0 rfl
theorem tQ (b:(List Int)) (r:ByteArray) (h:Sh.kR b=some r):gN Tryz.prog 98 [.fl .shr 1 (map (int .u8) b)] (.v (.string r)):=by
  unfold Sh.kR at h
  refine yO 61 func98 fun g0 hn hio => ?_
  refine eo hn 1 [0] ?_
  refine oh hn 0 ?_
  refine yS (.hid (qw 153 5 false (map (int .u8) ([]:List Int)))) 0 ⟨oA (eC.bld0 (fj _ _ TK))⟩ ?_
  refine eS [0,3] ?_
  refine bq ?_
  refine eo hn 1 [0,3,4] ?_
  refine eR h (fun ((s89,s90):(List Int)×Int)=>[(0,fb b),(3,.hid (qw 153 5 false (map (int .u8) s89))),(4,vi s90)]) (fun (s122:(List Int))=>[(3,.hid (qw 153 5 false (map (int .u8) s122)))]) ?_ ?_
  ·rintro s122 h
   refine cr (bq ?_)
   obtain ⟨v160, hv160, h⟩:=zn h
   refine yx hn 0 ?_
   refine yk [3] [] ?_
   refine yt (60,vs v160) 1 ⟨vj _ _ _ _ 60 128 [.tmp 3] [] _ _ _ rfl call128 rfl rfl rfl (py s122 _ hv160) (zl rfl) rfl rfl rfl rfl rfl rfl rfl⟩ ?_
   refine eS [2] ?_
   refine cY ?_
   obtain rfl:=zi h
   exact dq hio rfl (.tmp _ _ .nil) rfl rfl
  ·rintro u123 hl124 hr125 ⟨s89, s90⟩ rr128 h ho126
   refine bq ?_
   refine eo hn 4 [0,3,4,13] ?_
   refine cU _ rfl (fun hb129 => ?_) (fun hb129 => ?_)
   ·have h:=dn hb129 h
    refine dw ?_
    refine cr (bq ?_)
    refine dY ?_
    refine bq ?_
    obtain ⟨v2, hv2, h⟩:=zn h
    obtain ⟨v3, hv3, h⟩:=zn h
    refine yx hn 3 ?_
    refine ys 0 ⟨lb hv2⟩ ?_
    refine yS (vi v3) 1 ⟨(Option.some.inj hv3) ▸ GV _ _ _ _ rfl rfl⟩ ?_
    refine eS [0,3,4,5] ?_
    refine eo hn 1 [0,3,4,5,6] ?_
    refine bq ?_
    refine bq ?_
    obtain ⟨v4, hv4, h⟩:=zn h
    obtain ⟨v5, hv5, h⟩:=zn h
    refine yx hn 4 ?_
    refine ys 0 ⟨lb hv4⟩ ?_
    refine yS (fb v5) 2 ⟨xo _ _ _ s90 v4 _ underlying28 tq rfl rfl ⟨_,rfl⟩ ⟨_,rfl⟩ hv5⟩ ?_
    refine eS [0,3,4,5,6,26,27,28] ?_
    refine eR h (fun ((s134,s135):Int×Int)=>[(0,fb b),(3,.hid (qw 153 5 false (map (int .u8) s89))),(4,vi s90),(5,vi v3),(6,.v (.int .u32 s134)),(26,fb v5),(27,vi (v5.length:Int)),(28,vi s135)]) (fun (s137:Int)=>[(0,fb b),(3,.hid (qw 153 5 false (map (int .u8) s89))),(4,vi s90),(5,vi v3),(6,.v (.int .u32 s137))]) ?_ ?_
    ·rintro s137 h
     refine cr (bq ?_)
     refine bq ?_
     obtain ⟨v29, hv29, h⟩:=zn h
     refine yx hn 1 ?_
     refine ys 1 ⟨lb hv29⟩ ?_
     refine eS [0,3,4,5,6,43,44] ?_
     refine eR h (fun ((s149,s150):(List Int)×Int)=>[(0,fb b),(3,.hid (qw 153 5 false (map (int .u8) s149))),(4,vi s90),(5,vi v3),(6,.v (.int .u32 s137)),(43,vi v29),(44,vi s150)]) (fun (s152:(List Int))=>[(0,fb b),(3,.hid (qw 153 5 false (map (int .u8) s152))),(4,vi s90),(5,vi v3)]) ?_ ?_
     ·rintro s152 h
      refine cr ?_
      obtain ⟨v52, hv52, h⟩:=zn h
      obtain ⟨v53, hv53, h⟩:=zn h
      obtain ⟨v54, hv54, h⟩:=zn h
      refine yx hn 1 ?_
      refine ys 0 ⟨lb hv52⟩ ?_
      refine ys 0 ⟨lk call127 (Cb _ _ _ hv53)⟩ ?_
      refine yq call126 (sf _ _ _ hv54) 3 [58] 0 ?_
      refine ye [0,3,4] ?_
      refine ep ?_
      refine cr ?_
      obtain ⟨v55, hv55, h⟩:=zn h
      refine yx hn 1 ?_
      refine ys 0 ⟨lb hv55⟩ ?_
      refine yw [4] 1 ?_
      refine ye [0,3,4] ?_
      exact fx _ (zi h).symm rfl
     ·rintro u153 hl154 hr155 ⟨s149, s150⟩ rr158 h ho156
      refine eo hn 1 [0,3,4,5,6,43,44,45] ?_
      refine bq ?_
      refine cU _ rfl (fun hb159 => ?_) (fun hb159 => ?_)
      ·have h:=dn hb159 h
       refine dw ?_
       refine cr (bq ?_)
       refine dY ?_
       refine eo hn 2 [0,3,4,5,6,43,44,9] ?_
       obtain ⟨v31, hv31, h⟩:=zn h
       obtain ⟨v32, hv32, h⟩:=zn h
       obtain ⟨v33, hv33, h⟩:=zn h
       obtain ⟨v34, hv34, h⟩:=zn h
       obtain ⟨v35, hv35, h⟩:=zn h
       obtain ⟨v36, hv36, h⟩:=zn h
       refine yx hn 2 ?_
       refine ys 0 ⟨lb hv31⟩ ?_
       refine ys 0 ⟨lb hv32⟩ ?_
       refine ys 0 ⟨lB (qc hv33)⟩ ?_
       refine ys 0 ⟨lb hv34⟩ ?_
       refine ys 0 ⟨lh hv35⟩ ?_
       refine yq call125 (kA _ _ _ hv36) 3 [53] 0 ?_
       refine ye [0,3,4,5,6,43,44] ?_
       refine ep ?_
       refine cr ?_
       obtain ⟨v37, hv37, h⟩:=zn h
       refine yx hn 0 ?_
       refine ys 0 ⟨lb hv37⟩ ?_
       refine yw [44] 1 ?_
       refine ye [0,3,4,5,6,43,44] ?_
       exact fx _ (zi h).symm rfl
      ·have h:=dj hb159 h
       refine fp ?_
       refine dB ?_
       refine dB ?_
       refine fq ?_
       refine cw [0,1,2,3] (by kernel_rfl) (es':=[(_,_),(_,_),(_,_),(_,_)]) rfl ?_
       exact hl154 _ (ho156 _ (zi h).symm).symm
    ·rintro u138 hl139 hr140 ⟨s134, s135⟩ rr143 h ho141
     refine eo hn 1 [0,3,4,5,6,26,27,28,29] ?_
     refine bq ?_
     refine cU _ rfl (fun hb144 => ?_) (fun hb144 => ?_)
     ·have h:=dn hb144 h
      refine dw ?_
      refine cr (bq ?_)
      refine dY ?_
      refine bq ?_
      obtain ⟨v7, hv7, h⟩:=zn h
      obtain ⟨v8, hv8, h⟩:=zn h
      refine yx hn 1 ?_
      refine ys 0 ⟨li hv7⟩ ?_
      refine ys 2 ⟨ll hv8⟩ ?_
      refine eS [0,3,4,5,6,26,27,28,7,8] ?_
      obtain ⟨v9, hv9, h⟩:=zn h
      obtain ⟨v10, hv10, h⟩:=zn h
      obtain ⟨v11, hv11, h⟩:=zn h
      obtain ⟨v12, hv12, h⟩:=zn h
      obtain ⟨v13, hv13, h⟩:=zn h
      refine yx hn 2 ?_
      refine ys 1 ⟨lv hv9⟩ ?_
      refine ys 0 ⟨lb hv10⟩ ?_
      refine ys 0 ⟨lb hv11⟩ ?_
      refine ys 0 ⟨lB (tX hv12)⟩ ?_
      refine ys 0 ⟨lb hv13⟩ ?_
      refine yw [6] 1 ?_
      refine ye [0,3,4,5,26,27,28,6] ?_
      refine ep ?_
      refine cr ?_
      obtain ⟨v14, hv14, h⟩:=zn h
      refine yx hn 0 ?_
      refine ys 0 ⟨lb hv14⟩ ?_
      refine yw [28] 1 ?_
      refine ye [0,3,4,5,26,27,6,28] ?_
      refine cw [0,1,2,3,6,4,5,7] (by kernel_rfl) (es':=[(_,_),(_,_),(_,_),(_,_),(_,_),(_,_),(_,_),(_,_)]) rfl ?_
      exact fx _ (zi h).symm rfl
     ·have h:=dj hb144 h
      refine fp ?_
      refine dB ?_
      refine dB ?_
      refine fq ?_
      refine cw [0,1,2,3,4] (by kernel_rfl) (es':=[(_,_),(_,_),(_,_),(_,_),(_,_)]) rfl ?_
      exact hl139 _ (ho141 _ (zi h).symm).symm
   ·have h:=dj hb129 h
    refine fp ?_
    refine dB ?_
    refine dB ?_
    refine fq ?_
    refine cw [1] (by kernel_rfl) (es':=[(_,_)]) rfl ?_
    exact hl124 _ (ho126 _ (zi h).symm).symm
theorem xw (code:Int) (r:Bool) (h:Sh.qJ code=some r):gN Tryz.prog 99 [.v (.int .i64 code)] (.v (.bool r)):=by
  unfold Sh.qJ at h
  refine yO 9 func99 fun g0 hn hio => ?_
  refine eo hn 1 [0] ?_
  refine bq ?_
  refine dO h (fun (s1:Bool)=>[(2,vb s1)]) ?_ ?_
  ·rintro s1 h
   refine cr (cY ?_)
   obtain rfl:=zi h
   exact dq hio rfl (.tmp _ _ .nil) rfl rfl
  ·intro u2 h hl3 hr4
   refine cZ h (fun hg1_2 h => ?_) (fun hg1_2 h => ?_)
   ·refine yx hn 3 ?_
    refine yd hg1_2 4 ?_
    refine ye [2] ?_
    exact hl3 _ (zi h).symm
   ·refine yx hn 3 ?_
    refine yd hg1_2 4 ?_
    refine ye [2] ?_
    exact hl3 _ (zi h).symm
theorem nC (s:aa) (code:Int) (r:(jl×aa)) (h:Sh.iS s code=some r):Bt Tryz.prog 85 [.box 80 (aa.b s), .v (.int .i64 code)] [.box 80 (aa.b r.2)] (.agg [.v (.int .i64 r.1.Code), .fl (.own 9) 1 (map Value.string r.1.Lines)]):=by
  unfold Sh.iS at h
  refine yP 24 func85 fun args0 hargs0 g0 hn hio => ?_
  refine oh hn 0 ?_
  refine yS (.box 51 [vi 0,vz]) 0 ⟨oA (fj _ _ Sy)⟩ ?_
  refine eS [0,1,4,0] ?_
  refine eo hn 1 [0,1,4,5,0] ?_
  refine bq ?_
  refine dO h (fun (s6:ByteArray)=>[(0,.box 80 (aa.b s)),(1,vi code),(4,.box 51 [vi 0,vz]),(5,vs s6),(0,.v (List.getD args0 0 undef))]) ?_ ?_
  ·rintro s6 h
   refine cr ?_
   refine oh hn 2 ?_
   refine yS (.fl (.own 9) 1 (map Value.string [s6])) 0 ⟨eN _ _ 1 (.string ByteArray.empty) (map Value.string [s6]) [(0,.string s6)] underlying49 FZ Vg (fun _ V w o a hv hes=>by have e0:=gJ hv hes (x := .tmp 21) rfl; simp only [List.map_toArray,List.map_cons,List.map_nil,e0]; try rfl) (iw (by simp [Instr.fill,Value.cells]; rfl) (by simp [List.range,List.range.loop] <;> rfl)) (by simp [Value.oneCell']) rfl (by decide) (by decide) (by decide)⟩ ?_
   refine yk [22] [20] ?_
   refine yt (23,.agg [vi code,.fl (.own 9) 1 (map Value.string [s6])]) 0 ⟨fJ _ _ _ _ [1,1] _ _ underlying51 Sy (VJ _ underlying51) (.copy _ (.take _ _ uY.nil)) rfl rfl rfl⟩ ?_
   refine yk [23,4] [] ?_
   refine yt (4,.box 51 [vi code,.fl (.own 9) 1 (map Value.string [s6])]) 0 ⟨eD _ _ _ _ _ _ _ _ RO rfl rfl rfl (zl rfl) rfl rfl⟩ ?_
   refine eS [0,4,0] ?_
   refine cY ?_
   refine cw [1,0,2] (by kernel_rfl) (es':=[(_,_),(_,_),(_,_)]) rfl ?_
   obtain rfl:=zi h
   exact fR (es:=[(4, .box 51 [.v (.int .i64 code),.fl (.own 9) 1 (map Value.string [s6])])]) (posts:=[.box 80 (aa.b s)]) hio rfl rfl (.cellA _ _ _ _ underlying51 rfl RO .nil) rfl rfl hargs0 rfl
  ·intro u7 h hl8 hr9
   refine dY ?_
   refine eo hn 3 [0,1,4,5,6,0] ?_
   refine cU _ rfl (fun hb10 => ?_) (fun hb10 => ?_)
   ·have h:=dn hb10 h
    obtain ⟨v2, hv2, h⟩:=zn h
    obtain ⟨v3, hv3, h⟩:=zn h
    refine yx hn 5 ?_
    refine ys 0 ⟨lT hv2⟩ ?_
    refine ys 0 ⟨lk call98 (tQ _ _ hv3)⟩ ?_
    refine yw [5] 1 ?_
    refine ye [0,1,4,5,0] ?_
    refine ep ?_
    exact hl8 _ (zi h).symm
   ·have h:=dj hb10 h
    refine bq ?_
    obtain ⟨v4, hv4, h⟩:=zn h
    refine yx hn 1 ?_
    refine ys 2 ⟨lk call99 (xw _ _ hv4)⟩ ?_
    refine eS [0,1,4,5,16,0] ?_
    refine cU _ rfl (fun hb11 => ?_) (fun hb11 => ?_)
    ·have h:=dn hb11 h
     refine yx hn 0 ?_
     refine yw [5] 1 ?_
     refine ye [0,1,4,5,0] ?_
     refine ep ?_
     exact hl8 _ (zi h).symm
    ·have h:=dj hb11 h
     refine dw ?_
     refine ep ?_
     refine cw [0,1,2,3,5] (by kernel_rfl) (es':=[(_,_),(_,_),(_,_),(_,_),(_,_)]) rfl ?_
     exact hl8 _ (zi h).symm
theorem wJ (mx:Int×Nat×Value) (n:Int) (r:ByteArray) (h:Sh.strconv_Itoa n=some r):qT Tryz.prog (GL mx) 150 [.v (.int .i64 n)] (.v (.string r)):=Db (by kernel_rfl) (SY mx) (by rfl) (fun n w h0 h1 ht=>Tryz.strconv_Itoa n h0 h1 w ht) n r h
theorem HI (mx:Int×Nat×Value) (helo:ByteArray) (site:ByteArray) (at_:Int) (r:((List Int)×Int)) (h:Sh.Bo helo site at_=some r):qT Tryz.prog (GL mx) 129 [.v (.string helo), .v (.string site), .v (.int .i64 at_)] (.tup [.mkr 5 (map (int .u8) r.1), .v (.int .i64 r.2)]):=by
  unfold Sh.Bo at h
  refine yG 33 func129 fun g0 hn hio => ?_
  refine eo hn 2 [0,1,2,33] ?_
  refine bq ?_
  refine bq ?_
  refine dO h (fun (s21:Bool)=>[(0,vs helo),(1,vs site),(2,vi at_),(33,.glob (GL mx)),(15,vb s21)]) ?_ ?_
  ·rintro s21 h
   refine cr ?_
   refine cU _ rfl (fun hb25 => ?_) (fun hb25 => ?_)
   ·have h:=dn hb25 h
    refine eo hn 2 [33,6,7] ?_
    refine cY ?_
    refine cw [1,2] (by kernel_rfl) (es':=[(_,_),(_,_)]) rfl ?_
    refine iZ (fs:=[(6,.mkr 5 (map (int .u8) [])),(7,vi 5)]) (.sub _ (oX 5) rfl (.same _ .nil)) ?_
    refine cT ?_
    obtain rfl:=zi h
    exact dq hio rfl (.tmp _ _ (.tmp _ _ .nil)) rfl rfl
   ·have h:=dj hb25 h
    refine dw ?_
    refine cr (bq ?_)
    refine bq ?_
    refine dO h (fun (s26:Bool)=>[(0,vs helo),(1,vs site),(2,vi at_),(33,.glob (GL mx)),(21,vb s26)]) ?_ ?_
    ·rintro s26 h
     refine cr ?_
     refine cU _ rfl (fun hb30 => ?_) (fun hb30 => ?_)
     ·have h:=dn hb30 h
      refine eo hn 2 [33,6,7] ?_
      refine cY ?_
      refine cw [1,2] (by kernel_rfl) (es':=[(_,_),(_,_)]) rfl ?_
      refine iZ (fs:=[(6,.mkr 5 (map (int .u8) [])),(7,vi 1)]) (.sub _ (oX 5) rfl (.same _ .nil)) ?_
      refine cT ?_
      obtain rfl:=zi h
      exact dq hio rfl (.tmp _ _ (.tmp _ _ .nil)) rfl rfl
     ·have h:=dj hb30 h
      refine dw ?_
      refine cr (bq ?_)
      obtain ⟨v13, hv13, h⟩:=zn h
      obtain ⟨v14, hv14, h⟩:=zn h
      obtain ⟨v15, hv15, h⟩:=zn h
      obtain ⟨v16, hv16, h⟩:=zn h
      obtain ⟨v17, hv17, h⟩:=zn h
      obtain ⟨v18, hv18, h⟩:=zn h
      obtain ⟨v19, hv19, h⟩:=zn h
      obtain ⟨v20, hv20, h⟩:=zn h
      refine yx hn 1 ?_
      refine ys 0 ⟨lB (kF hv13)⟩ ?_
      refine ys 1 ⟨lB (kF hv14)⟩ ?_
      refine ys 0 ⟨lB (kF hv15)⟩ ?_
      refine ys 1 ⟨lB (kF hv16)⟩ ?_
      refine ys 0 ⟨lg call150 (wJ _ _ _ hv17) 33⟩ ?_
      refine ys 0 ⟨lB (kF hv18)⟩ ?_
      refine ys 0 ⟨lB (kF hv19)⟩ ?_
      refine ys 0 ⟨lU hv20⟩ ?_
      refine ya 1 ?_
      refine eS [33,6,7] ?_
      refine cY ?_
      refine cw [1,2] (by kernel_rfl) (es':=[(_,_),(_,_)]) rfl ?_
      obtain rfl:=zi h
      exact dq hio rfl (.tmp _ _ (.tmp _ _ .nil)) rfl rfl
    ·intro u27 h hl28 hr29
     refine cZ h (fun hg3_2 h => ?_) (fun hg3_2 h => ?_)
     ·refine yx hn 3 ?_
      refine yd hg3_2 3 ?_
      refine ye [0,1,2,33,21] ?_
      exact hl28 _ (zi h).symm
     ·refine yx hn 3 ?_
      refine yd hg3_2 3 ?_
      refine ye [0,1,2,33,21] ?_
      exact hl28 _ (zi h).symm
  ·intro u22 h hl23 hr24
   obtain ⟨v1, hv1, h⟩:=zn h
   refine cZ h (fun hg1_3 h => ?_) (fun hg1_3 h => ?_)
   ·refine yx hn 1 ?_
    refine ys 2 ⟨lg call55 (ib _ _ _ hv1) 33⟩ ?_
    refine yd hg1_3 4 ?_
    refine ye [0,1,2,33,15] ?_
    exact hl23 _ (zi h).symm
   ·obtain ⟨v2, hv2, h⟩:=zn h
    refine yx hn 1 ?_
    refine ys 2 ⟨lg call55 (ib _ _ _ hv1) 33⟩ ?_
    refine yd hg1_3 1 ?_
    refine ys 2 ⟨lg call55 (ib _ _ _ hv2) 33⟩ ?_
    refine ye [0,1,2,33,15] ?_
    exact hl23 _ (zi h).symm
theorem Ls (mx:Int×Nat×Value) (b:(List Int)) (helo:ByteArray) (site:ByteArray) (at_:Int) (r:((List Int)×Int)) (h:Sh.Cs b helo site at_=some r):qT Tryz.prog (GL mx) 100 [.fl .shr 1 (map (int .u8) b), .v (.string helo), .v (.string site), .v (.int .i64 at_)] (.tup [.mkr 5 (map (int .u8) r.1), .v (.int .i64 r.2)]):=by
  unfold Sh.Cs at h
  refine yG 31 func100 fun g0 hn hio => ?_
  refine eo hn 2 [0,1,2,3,31] ?_
  refine bq ?_
  refine bq ?_
  obtain ⟨v1, hv1, h⟩:=zn h
  refine yx hn 1 ?_
  refine ys 1 ⟨lg call95 (sB _ _ _ hv1) 31⟩ ?_
  refine eS [0,1,2,3,31,10] ?_
  refine eo hn 2 [0,1,2,3,31,10,16] ?_
  refine cU _ rfl (fun hb6 => ?_) (fun hb6 => ?_)
  ·have h:=dn hb6 h
   refine eo hn 3 [31,8,9] ?_
   refine cY ?_
   refine cw [1,2] (by kernel_rfl) (es':=[(_,_),(_,_)]) rfl ?_
   refine iZ (fs:=[(8,.mkr 5 (map (int .u8) [])),(9,vi v1)]) (.sub _ (oX 5) rfl (.same _ .nil)) ?_
   refine cT ?_
   obtain rfl:=zi h
   exact dq hio rfl (.tmp _ _ (.tmp _ _ .nil)) rfl rfl
  ·have h:=dj hb6 h
   refine dw ?_
   refine cr (bq ?_)
   obtain ⟨v3, hv3, h⟩:=zn h
   refine yx hn 3 ?_
   refine ys 0 ⟨lg call129 (HI _ _ _ _ _ hv3) 31⟩ ?_
   refine ym 0 ?_
   refine VQ 1 ?_
   refine ya 1 ?_
   refine eS [0,31,11,12] ?_
   refine bq ?_
   refine eo hn 2 [0,31,11,12,26] ?_
   refine cU _ rfl (fun hb7 => ?_) (fun hb7 => ?_)
   ·have h:=dn hb7 h
    refine eo hn 3 [31,8,9] ?_
    refine cY ?_
    refine cw [1,2] (by kernel_rfl) (es':=[(_,_),(_,_)]) rfl ?_
    refine iZ (fs:=[(8,.mkr 5 (map (int .u8) [])),(9,vi v3.2)]) (.sub _ (oX 5) rfl (.same _ .nil)) ?_
    refine cT ?_
    obtain rfl:=zi h
    exact dq hio rfl (.tmp _ _ (.tmp _ _ .nil)) rfl rfl
   ·have h:=dj hb7 h
    refine dw ?_
    refine cr (bq ?_)
    obtain ⟨v5, hv5, h⟩:=zn h
    refine yx hn 0 ?_
    refine ym 1 ?_
    refine yk [28] [29] ?_
    refine wX (28,.any) (30,.mkr 5 (map (int .u8) v5)) 0 ⟨Je _ _ _ _ _ pF rfl rfl rfl rfl hv5 rfl⟩ ?_
    refine ya 1 ?_
    refine eS [31,8,9] ?_
    refine cY ?_
    refine cw [1,2] (by kernel_rfl) (es':=[(_,_),(_,_)]) rfl ?_
    obtain rfl:=zi h
    exact dq hio rfl (.tmp _ _ (.tmp _ _ .nil)) rfl rfl
theorem xr (s:ByteArray) (c r:Int) (h:Sh.strings_IndexByte s c=some r):gN Tryz.prog 224 [.v (.string s), .v (.int .u8 c)] (.v (.int .i64 r)):=xb Tryz.strings_IndexByte s c r h
theorem Hk (c:Int) (r:Bool) (h:Sh.xi c=some r):gN Tryz.prog 223 [.v (.int .u8 c)] (.v (.bool r)):=by
  unfold Sh.xi at h
  refine yO 10 func223 fun g0 hn hio => ?_
  refine eo hn 1 [0] ?_
  refine bq ?_
  refine dO h (fun (s3:Bool)=>[(2,vb s3)]) ?_ ?_
  ·rintro s3 h
   refine cr (cY ?_)
   obtain rfl:=zi h
   exact dq hio rfl (.tmp _ _ .nil) rfl rfl
  ·intro u4 h hl5 hr6
   obtain ⟨v1, hv1, h⟩:=zn h
   refine cZ h (fun hg1_2 h => ?_) (fun hg1_2 h => ?_)
   ·refine yx hn 1 ?_
    refine ys 1 ⟨lk call83 (mc _ _ hv1)⟩ ?_
    refine yd hg1_2 5 ?_
    refine ye [2] ?_
    exact hl5 _ (zi h).symm
   ·obtain ⟨v2, hv2, h⟩:=zn h
    refine yx hn 1 ?_
    refine ys 1 ⟨lk call83 (mc _ _ hv1)⟩ ?_
    refine yd hg1_2 1 ?_
    refine ys 3 ⟨lk call224 (xr _ _ _ hv2)⟩ ?_
    refine ye [2] ?_
    exact hl5 _ (zi h).symm
theorem tN (s:ByteArray) (r:Bool) (h:Sh.mG s=some r):gN Tryz.prog 81 [.v (.string s), .v (.func (.func 223) #[] #[])] (.v (.bool r)):=by
  unfold Sh.mG at h
  refine yO 18 func81 fun g0 hn hio => ?_
  refine eo hn 1 [0,1] ?_
  refine bq ?_
  refine eo hn 3 [0,1,7,8] ?_
  refine eR h (fun (s9:Int)=>[(0,vs s),(1,.v (.func (.func 223) #[] #[])),(7,vi (s.size:Int)),(8,vi s9)]) (fun (():Unit)=>[]) ?_ ?_
  ·rintro ⟨⟩ h
   refine cr ?_
   refine eo hn 1 [4] ?_
   refine cY ?_
   obtain rfl:=zi h
   exact dq hio rfl (.tmp _ _ .nil) rfl rfl
  ·rintro u12 hl13 hr14 s9 rr17 h ho15
   refine eo hn 1 [0,1,7,8,9] ?_
   refine bq ?_
   refine cU _ rfl (fun hb18 => ?_) (fun hb18 => ?_)
   ·have h:=dn hb18 h
    refine dw ?_
    refine cr (bq ?_)
    refine dY ?_
    refine eo hn 2 [0,1,7,8,5] ?_
    refine bq ?_
    obtain ⟨v2, hv2, h⟩:=zn h
    obtain ⟨v3, hv3, h⟩:=zn h
    refine yx hn 3 ?_
    refine ys 0 ⟨lh hv2⟩ ?_
    refine ys 1 ⟨lk call223 (Hk _ _ hv3)⟩ ?_
    refine eS [0,1,7,8,16] ?_
    refine cU _ rfl (fun hb19 => ?_) (fun hb19 => ?_)
    ·have h:=dn hb19 h
     refine eo hn 1 [4] ?_
     refine cY ?_
     refine eA ?_
     refine cT ?_
     refine cT ?_
     refine eA ?_
     refine cT ?_
     have h:=hr14 _ (ho15 _ (zi h).symm).symm
     obtain rfl:=zi h
     exact dq hio rfl (.tmp _ _ .nil) rfl rfl
    ·have h:=dj hb19 h
     refine dw ?_
     refine ep ?_
     refine cr ?_
     obtain ⟨v5, hv5, h⟩:=zn h
     refine yx hn 0 ?_
     refine ys 0 ⟨lb hv5⟩ ?_
     refine yw [8] 1 ?_
     refine ye [0,1,7,8] ?_
     exact fx _ (zi h).symm rfl
   ·have h:=dj hb18 h
    refine fp ?_
    refine dB ?_
    refine dB ?_
    refine fq ?_
    refine cw [] (by kernel_rfl) (es':=[]) rfl ?_
    exact hl13 _ (ho15 _ (zi h).symm).symm
theorem Jr (s:ByteArray) (r:Bool) (h:Sh.DP s=some r):gN Tryz.prog 213 [.v (.string s)] (.v (.bool r)):=by
  unfold Sh.DP at h
  refine yO 9 func213 fun g0 hn hio => ?_
  refine eo hn 1 [0] ?_
  refine bq ?_
  refine dO h (fun (s2:Bool)=>[(2,vb s2)]) ?_ ?_
  ·rintro s2 h
   refine cr (cY ?_)
   obtain rfl:=zi h
   exact dq hio rfl (.tmp _ _ .nil) rfl rfl
  ·intro u3 h hl4 hr5
   refine cZ h (fun hg1_2 h => ?_) (fun hg1_2 h => ?_)
   ·obtain ⟨v1, hv1, h⟩:=zn h
    refine yx hn 3 ?_
    refine yd hg1_2 1 ?_
    refine ys 2 ⟨lk call81 (tN _ _ hv1)⟩ ?_
    refine ye [2] ?_
    exact hl4 _ (zi h).symm
   ·refine yx hn 3 ?_
    refine yd hg1_2 4 ?_
    refine ye [2] ?_
    exact hl4 _ (zi h).symm
theorem tv (mx:Int×Nat×Value) (s:ByteArray) (r:Bool) (h:Sh.mz s=some r):qT Tryz.prog (GL mx) 69 [.v (.string s), .v (.func (.func 213) #[] #[])] (.v (.bool r)):=by
  unfold Sh.mz at h
  refine yG 13 func69 fun g0 hn hio => ?_
  refine oh hn 1 ?_
  refine yS (.box 4 [vb false]) 0 ⟨oA (fj _ _ VM)⟩ ?_
  refine eS [0,13,3,4] ?_
  refine bq ?_
  refine bq ?_
  obtain ⟨v1, hv1, h⟩:=zn h
  refine yx hn 1 ?_
  refine yk [] [6] ?_
  refine yt (7,.cloB 119 [.box 9 [vs v1.1],.box 9 [vs v1.2.1],.box 3 [vi v1.2.2]]) 0 ⟨pO _ _ 80 _ _ rfl call80 rfl rfl (pB s (⟨#[46]⟩:ByteArray) _ hv1) rfl⟩ ?_
  refine eS [13,3,4,7] ?_
  refine dY ?_
  refine sw [3,0,1,2] (by kernel_rfl) (es':=[(7,.cloB 119 [.box 9 [vs v1.1],.box 9 [vs v1.2.1],.box 3 [vi v1.2.2]]),(13,.glob (GL mx)),(3,.box 65 [.v (.func (.func 213) #[] #[])]),(4,.box 4 [vb false])]) rfl ?_
  refine qQ h 119 7 8 14 _ [13, 3, 4] call119 (fun (():Unit)=>[(13, .glob (GL mx)), (3, .box 65 [.v (.func (.func 213) #[] #[])]), (4, .box 4 [.v (.bool false)])]) (fun (():Unit)=>[(13, .glob (GL mx)), (3, .box 65 [.v (.func (.func 213) #[] #[])]), (4, .box 4 [.v (.bool false)])]) (fun l J Y hY t t' h=>nR mx l J Y hY v1.1 v1.2.1 v1.2.2 t t' h) hn rfl (fun _=>rfl) (fun _=>rfl) (fun _=>rfl) rfl rfl (fun _=>⟨rfl, rfl⟩) rfl (re 13 rfl) ?_ ?_ ?_
  ·rintro kk g0 hn hio x ⟨⟩ u h
   refine Ee (es':=[(8,vs x),(13,.glob (GL mx)),(3,.box 65 [.v (.func (.func 213) #[] #[])]),(4,.box 4 [vb false]),(13,.v (kk.tm.getD 13 undef)),(3,.v (kk.tm.getD 3 undef)),(4,.v (kk.tm.getD 4 undef)),(14,.inv kk.ready)]) rfl ?_
   refine yy hn 1 [13,3,4,14,5,13,3,4] ?_
   refine cw [0,1,2,4,5,6,7,3] (by kernel_rfl) (es':=[(13,.glob (GL mx)),(3,.box 65 [.v (.func (.func 213) #[] #[])]),(4,.box 4 [vb false]),(5,vs x),(13,.v (kk.tm.getD 13 undef)),(3,.v (kk.tm.getD 3 undef)),(4,.v (kk.tm.getD 4 undef)),(14,.inv kk.ready)]) rfl ?_
   refine sL (es:=[(13,.glob (GL mx)),(3,.box 65 [.v (.func (.func 213) #[] #[])]),(4,.box 4 [vb false]),(5,vs x),(13,.v (kk.tm.getD 13 undef)),(3,.v (kk.tm.getD 3 undef)),(4,.v (kk.tm.getD 4 undef))]) 14 rfl ?_
   refine dY ?_
   refine bq ?_
   obtain ⟨v2, hv2, h⟩:=zn h
   refine yx hn 2 ?_
   refine ys 1 ⟨lk call213 (Jr _ _ hv2)⟩ ?_
   refine eS [13,3,4,14,12,13,3,4] ?_
   refine cU _ rfl (fun hb5 => ?_) (fun hb5 => ?_)
   ·have h:=dn hb5 h
    refine eo hn 1 [13,3,4,14,13,3,4] ?_
    refine cY ?_
    refine eA ?_
    refine cw [0,1,2,4,5,6,3] (by kernel_rfl) (es':=[(_,_),(_,_),(_,_),(_,_),(_,_),(_,_),(_,_)]) rfl ?_
    obtain rfl:=zi h
    exact BU 14 [13, 3, 4] _ rfl rfl (by kernel_rfl)
   ·have h:=dj hb5 h
    refine dw ?_
    refine ep ?_
    refine cw [0,1,2,5,6,7,3] (by kernel_rfl) (es':=[(_,_),(_,_),(_,_),(_,_),(_,_),(_,_),(_,_)]) rfl ?_
    obtain rfl:=zi h
    exact sQ 14 [13, 3, 4] _ rfl rfl (by kernel_rfl)
  ·rintro D ⟨⟩ h
   refine ep ?_
   refine cr ?_
   refine eo hn 1 [13,4] ?_
   refine cY ?_
   refine cw [1] (by kernel_rfl) (es':=[(_,_)]) rfl ?_
   obtain rfl:=zi h
   exact dq hio rfl (.cell1 _ _ _ _ underlying4 rfl .nil) rfl rfl
  ·rintro D ⟨⟩ h
   refine cw [2] (by kernel_rfl) (es':=[(_,_)]) rfl ?_
   refine eA ?_
   refine cT ?_
   obtain rfl:=zi h
   exact dq hio rfl (.cell1 _ _ _ _ underlying4 rfl .nil) rfl rfl
theorem zT (mx:Int×Nat×Value) (s:ByteArray) (r:Bool) (h:Sh.Ay s=some r):qT Tryz.prog (GL mx) 194 [.v (.string s)] (.v (.bool r)):=by
  unfold Sh.Ay at h
  refine yG 10 func194 fun g0 hn hio => ?_
  refine eo hn 1 [0,10] ?_
  refine bq ?_
  refine dO h (fun (s2:Bool)=>[(10,.glob (GL mx)),(2,vb s2)]) ?_ ?_
  ·rintro s2 h
   refine cr (cY ?_)
   refine cw [1] (by kernel_rfl) (es':=[(_,_)]) rfl ?_
   obtain rfl:=zi h
   exact dq hio rfl (.tmp _ _ .nil) rfl rfl
  ·intro u3 h hl4 hr5
   refine cZ h (fun hg1_3 h => ?_) (fun hg1_3 h => ?_)
   ·obtain ⟨v1, hv1, h⟩:=zn h
    refine yx hn 4 ?_
    refine yd hg1_3 1 ?_
    refine ys 2 ⟨lg call69 (tv _ _ _ hv1) 10⟩ ?_
    refine ye [10,2] ?_
    exact hl4 _ (zi h).symm
   ·refine yx hn 4 ?_
    refine yd hg1_3 4 ?_
    refine ye [10,2] ?_
    exact hl4 _ (zi h).symm
end Go.Proofs.YtjnnkhmhjcjhdaaGreatDoor
