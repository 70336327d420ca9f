/-
 The model's runs are what is told in Lean.
-/
import Derived.Test.YtjnnkhmhjcjhdaaGreatDoorOkc1
set_option linter.unusedVariables false
set_option linter.unusedSimpArgs false
set_option maxHeartbeats 1000000
namespace Go.Proofs.YtjnnkhmhjcjhdaaGreatDoor
open Go.Abs Go.Abs.Sh Tryz
open List (map flatten)
open Value (int)
theorem dI (mx:Int×Nat×Value) (l:Nat) {S:Type} (J:S→jf) (Y:(List Int)→S→Option (S×Bool)) (hY:mZ Tryz.prog l (fun x => .fl .shr 1 (map (int .u8) x)) Y J) (c0:(List Int)) (st r:S) (h:Sh.cN Y c0 st=some r):Co Tryz.prog (GL mx) 123 l [.box 28 [.fl .shr 1 (map (int .u8) c0)]] (J st) (J r):=by
 unfold Sh.cN at h
 refine yI 23 func123 fun g0 hn hio => ?_
 refine aX h (fun ((s17,s18):(List Int)×S)=>[(0,.v (.func (.yield l) #[] #[])),(1,.box 28 [fb s17]),(23,.glob (GL mx)),(24,.inv (J s18))]) (fun (():Unit)=>[]) ?_ ?_
 ·rintro ⟨⟩ h
  cases h
 ·rintro u25 hl26 hr27 ⟨s17,s18⟩ rr30 h ho28
  refine aH (ab ?_)
  obtain ⟨v1,hv1,h⟩:=zn h
  refine yx hn 1 ?_
  refine yS (.fl (.own 5) 1 (map (int .u8) [13,10])) 0 ⟨bb _ _ 1 (.int .u8 0) (map (int .u8) [13,10]) [(0,.int .u8 13),(1,.int .u8 10)] underlying28 jA rb (fun _ V w o a hv hes=>by simp only [List.map_toArray,List.map_cons,List.map_nil]; try rfl) (cn (by simp [Instr.fill,Value.cells]; rfl) (by simp [List.range,List.range.loop] <;> rfl)) (by simp [Value.oneCell']) rfl (by decide) (by decide) (by decide)⟩ ?_
  refine yk [8] [] ?_
  refine yt (9,.fl .ro 1 (map (int .u8) [13,10])) 0 ⟨eE _ _ _ underlying28 underlying5 (by intro h; cases h)⟩ ?_
  refine yk [] [7,9,23] ?_
  refine yt (10,.tup [fb v1.1,fb v1.2.1,vb v1.2.2]) 0 ⟨vX _ _ 23 74 _ _ rfl call74 rfl rfl rfl (fun _ h=>h) (pp mx s17 [13,10] _ hv1) rfl⟩ ?_
  refine ym 6 ?_
  refine aT [0,1,23,24,3,4,5] ?_
  refine ab (ab ?_)
  refine aD h (fun ((s31,s32):S×Bool)=>[(0,.v (.func (.yield l) #[] #[])),(1,.box 28 [fb s17]),(23,.glob (GL mx)),(24,.inv (J s31)),(4,fb v1.2.1),(21,vb s32)]) ?_ ?_
  ·rintro ⟨s31,s32⟩ h
   refine ag ?_
   refine al _ rfl (fun hb36 => ?_) (fun hb36 => ?_)
   ·have h:=ap hb36 h
    refine am ?_
    refine ah [3] (by kernel_rfl) (es':=[(24,.inv (J s31))]) rfl ?_
    refine ai (aG (ai (aG ?_)))
    have h:=hr27 _ (ho28 _ (zi h).symm).symm
    obtain rfl:=zi h
    exact pr hio rfl rfl rfl
   ·have h:=aq hb36 h
    refine ar (ag ?_)
    refine yy hn 2 [0,1,23,24] ?_
    refine aJ ?_
    exact bi _ (zi h).symm rfl
  ·intro u33 h hl34 hr35
   refine ak h (fun hg1_2 h => ?_) (fun hg1_2 h => ?_)
   ·refine yx hn 3 ?_
    refine yd hg1_2 5 ?_
    refine ye [0,1,23,24,4,21] ?_
    exact hl34 _ (zi h).symm
   ·obtain ⟨v2,hv2,h⟩:=zn h
    refine yx hn 3 ?_
    refine yd hg1_2 2 ?_
    refine yk [24] [18,17] ?_
    refine kU (24,.inv (J v2.1)) (19,vb v2.2) 2 ⟨mT _ _ 24 l v1.1 s18 v2 hY hv2 rfl rfl rfl⟩ ?_
    refine ye [0,1,23,24,4,21] ?_
    exact hl34 _ (zi h).symm
theorem oe (mx:Int×Nat×Value) (b:(List Int)) (r:(Int×Bool)) (h:Sh.dQ b=some r):fk Tryz.prog (GL mx) 94 [.fl .shr 1 (map (int .u8) b)] (.tup [.v (.int .i64 r.1),.v (.bool r.2)]):=by
 unfold Sh.dQ at h
 refine yG 17 func94 fun g0 hn hio => ?_
 refine eC hn 0 ?_
 refine yS (.box 3 [vi 0]) 0 ⟨oA (aP _ _ Dw)⟩ ?_
 refine yS (.box 4 [vb false]) 0 ⟨oA (aP _ _ CL)⟩ ?_
 refine aT [0,17,2,3] ?_
 refine ab (ab ?_)
 obtain ⟨v1,hv1,h⟩:=zn h
 refine yx hn 1 ?_
 refine yk [] [5] ?_
 refine yt (6,.cloB 123 [.box 28 [fb v1]]) 0 ⟨eR _ _ 96 _ _ rfl call96 rfl rfl (eS b _ hv1) rfl⟩ ?_
 refine aT [17,2,3,6] ?_
 refine aH ?_
 refine gJ [3,0,1,2] (by kernel_rfl) (es':=[(6,.cloB 123 [.box 28 [fb v1]]),(17,.glob (GL mx)),(2,.box 3 [vi 0]),(3,.box 4 [vb false])]) rfl ?_
 refine fx h 123 6 7 18 _ [17,2,3] call123 (fun (s8:Int)=>[(17,.glob (GL mx)),(2,.box 3 [.v (.int .i64 s8)]),(3,.box 4 [.v (.bool false)])]) (fun (s10:Int)=>[(17,.glob (GL mx)),(2,.box 3 [.v (.int .i64 s10)]),(3,.box 4 [.v (.bool true)])]) (fun l J Y hY t t' h=>dI mx l J Y hY v1 t t' h) hn rfl (fun _=>rfl) (fun _=>rfl) (fun _=>rfl) rfl rfl (fun _=>⟨rfl,rfl⟩) rfl (fw 17 rfl) ?_ ?_ ?_
 ·rintro kk g0 hn hio x s8 u h
  refine oY (es':=[(7,fb x),(17,.glob (GL mx)),(2,.box 3 [vi s8]),(3,.box 4 [vb false]),(17,.v (kk.tm.getD 17 undef)),(2,.v (kk.tm.getD 2 undef)),(3,.v (kk.tm.getD 3 undef)),(18,.inv kk.ready)]) rfl ?_
  refine yy hn 1 [17,2,3,18,4,17,2,3] ?_
  refine ah [0,1,2,4,5,6,7,3] (by kernel_rfl) (es':=[(17,.glob (GL mx)),(2,.box 3 [vi s8]),(3,.box 4 [vb false]),(4,fb x),(17,.v (kk.tm.getD 17 undef)),(2,.v (kk.tm.getD 2 undef)),(3,.v (kk.tm.getD 3 undef)),(18,.inv kk.ready)]) rfl ?_
  refine gR (es:=[(17,.glob (GL mx)),(2,.box 3 [vi s8]),(3,.box 4 [vb false]),(4,fb x),(17,.v (kk.tm.getD 17 undef)),(2,.v (kk.tm.getD 2 undef)),(3,.v (kk.tm.getD 3 undef))]) 18 rfl ?_
  refine aH (ab (ab ?_))
  obtain ⟨v2,hv2,h⟩:=zn h
  refine yx hn 1 ?_
  refine ys 1 ⟨lS hv2⟩ ?_
  refine aT [17,2,3,4,18,10,17,2,3] ?_
  refine al _ rfl (fun hb11 => ?_) (fun hb11 => ?_)
  ·have h:=ap hb11 h
   refine aI hn 3 [17,2,3,18,17,2,3] ?_
   refine am (ai (aG ?_))
   refine ah [0,1,2,4,5,6,3] (by kernel_rfl) (es':=[(_,_),(_,_),(_,_),(_,_),(_,_),(_,_),(_,_)]) rfl ?_
   obtain rfl:=zi h
   exact mU 18 [17,2,3] _ rfl rfl (by kernel_rfl)
  ·have h:=aq hb11 h
   refine ar (ag ?_)
   obtain ⟨v4,hv4,h⟩:=zn h
   obtain ⟨v5,hv5,h⟩:=zn h
   refine yx hn 3 ?_
   refine ys 0 ⟨lb hv4⟩ ?_
   refine ys 1 ⟨lb hv5⟩ ?_
   refine ye [17,2,3,18,17,2,3] ?_
   refine aJ ?_
   refine ah [0,1,2,4,5,6,3] (by kernel_rfl) (es':=[(_,_),(_,_),(_,_),(_,_),(_,_),(_,_),(_,_)]) rfl ?_
   obtain rfl:=zi h
   exact gT 18 [17,2,3] _ rfl rfl (by kernel_rfl)
 ·rintro D s8 h
  refine aJ (ag ?_)
  refine aI hn 2 [17,2,3] ?_
  refine am ?_
  refine ah [1,2] (by kernel_rfl) (es':=[(_,_),(_,_)]) rfl ?_
  obtain rfl:=zi h
  exact ao hio rfl (.cell1 _ _ _ _ underlying3 rfl (.cell1 _ _ _ _ underlying4 rfl .nil)) rfl rfl
 ·rintro D s10 h
  refine ah [1,2] (by kernel_rfl) (es':=[(_,_),(_,_)]) rfl ?_
  refine aG (ai ?_)
  obtain rfl:=zi h
  exact ao hio rfl (.cell1 _ _ _ _ underlying3 rfl (.cell1 _ _ _ _ underlying4 rfl .nil)) rfl rfl
theorem nr (mx:Int×Nat×Value) (s:List Int) (c:Fa) (r:Int) (h:Sh.gh s c=some r):fk Tryz.prog (GL mx) 144 [.fl .shr 1 (map (int .u8) s),.v (.string c)] (.v (.int .i64 r)) :=
 mu (sb mx) (vC mx) (yJ mx) (fun s b off c w hs hnc hb hm hmb k1 k2 HG hp=>Tryz.idx_crlf s b off c w mx.1 hs hnc hb hm hmb (ui fe gX (by kernel_rfl) (by kernel_rfl) k1 k2) HG hp) Tryz.idx_none s c r h
theorem kS (mx:Int×Nat×Value) (b:(List Int)) (chars:Fa) (r:Bool) (h:Sh.fX b chars=some r):fk Tryz.prog (GL mx) 122 [.fl .shr 1 (map (int .u8) b),.v (.string chars)] (.v (.bool r)):=by
 unfold Sh.fX at h
 refine yG 9 func122 fun g0 hn hio => ?_
 refine aI hn 1 [0,1,9] ?_
 refine ab ?_
 obtain ⟨v1,hv1,h⟩:=zn h
 refine yx hn 2 ?_
 refine ys 2 ⟨lg call144 (nr _ _ _ _ hv1) 9⟩ ?_
 refine aT [9,4] ?_
 refine am ?_
 refine ah [1] (by kernel_rfl) (es':=[(_,_)]) rfl ?_
 obtain rfl:=zi h
 exact ao hio rfl (.tmp _ _ .nil) rfl rfl
theorem gG (mx:Int×Nat×Value) (b:(List Int)) (r:Int) (h:Sh.gC b=some r):fk Tryz.prog (GL mx) 95 [.fl .shr 1 (map (int .u8) b)] (.v (.int .i64 r)):=by
 unfold Sh.gC at h
 refine yG 19 func95 fun g0 hn hio => ?_
 refine eC hn 0 ?_
 refine yS (.box 35 [vi 0]) 0 ⟨oA (aP _ _ CZ)⟩ ?_
 refine aT [0,19,2] ?_
 refine eC hn 0 ?_
 refine yS (.box 3 [vi 0]) 1 ⟨oA (aP _ _ Dw)⟩ ?_
 refine aT [0,19,2,3] ?_
 refine ab (ab ?_)
 obtain ⟨v1,hv1,h⟩:=zn h
 refine yx hn 1 ?_
 refine yk [] [5] ?_
 refine yt (6,.cloB 123 [.box 28 [fb v1]]) 0 ⟨eR _ _ 96 _ _ rfl call96 rfl rfl (eS b _ hv1) rfl⟩ ?_
 refine aT [0,19,2,3,6] ?_
 refine aH ?_
 refine gJ [4,0,1,2,3] (by kernel_rfl) (es':=[(6,.cloB 123 [.box 28 [fb v1]]),(0,fb b),(19,.glob (GL mx)),(2,.box 35 [vi 0]),(3,.box 3 [vi 0])]) rfl ?_
 refine fx h 123 6 7 20 _ [0,19,2,3] call123 (fun (s8:Int)=>[(0,fb b),(19,.glob (GL mx)),(2,.box 35 [.v (.int .i64 0)]),(3,.box 3 [.v (.int .i64 s8)])]) (fun (s10:Int)=>[(0,fb b),(19,.glob (GL mx)),(2,.box 35 [.v (.int .i64 5)]),(3,.box 3 [.v (.int .i64 s10)])]) (fun l J Y hY t t' h=>dI mx l J Y hY v1 t t' h) hn rfl (fun _=>rfl) (fun _=>rfl) (fun _=>rfl) rfl rfl (fun _=>⟨rfl,rfl⟩) rfl (fw 19 rfl) ?_ ?_ ?_
 ·rintro kk g0 hn hio x s8 u h
  refine oY (es':=[(7,fb x),(0,fb b),(19,.glob (GL mx)),(2,.box 35 [vi 0]),(3,.box 3 [vi s8]),(0,.v (kk.tm.getD 0 undef)),(19,.v (kk.tm.getD 19 undef)),(2,.v (kk.tm.getD 2 undef)),(3,.v (kk.tm.getD 3 undef)),(20,.inv kk.ready)]) rfl ?_
  refine yy hn 1 [0,19,2,3,20,4,0,19,2,3] ?_
  refine ah [0,1,2,3,5,6,7,8,9,4] (by kernel_rfl) (es':=[(0,fb b),(19,.glob (GL mx)),(2,.box 35 [vi 0]),(3,.box 3 [vi s8]),(4,fb x),(0,.v (kk.tm.getD 0 undef)),(19,.v (kk.tm.getD 19 undef)),(2,.v (kk.tm.getD 2 undef)),(3,.v (kk.tm.getD 3 undef)),(20,.inv kk.ready)]) rfl ?_
  refine gR (es:=[(0,fb b),(19,.glob (GL mx)),(2,.box 35 [vi 0]),(3,.box 3 [vi s8]),(4,fb x),(0,.v (kk.tm.getD 0 undef)),(19,.v (kk.tm.getD 19 undef)),(2,.v (kk.tm.getD 2 undef)),(3,.v (kk.tm.getD 3 undef))]) 20 rfl ?_
  refine aH (ab (ab ?_))
  obtain ⟨v2,hv2,h⟩:=zn h
  refine yx hn 1 ?_
  refine ys 0 ⟨lg call122 (kS _ _ _ _ hv2) 19⟩ ?_
  refine aT [0,19,2,3,4,20,9,0,19,2,3] ?_
  refine al _ rfl (fun hb11 => ?_) (fun hb11 => ?_)
  ·have h:=ap hb11 h
   refine aI hn 1 [0,19,2,3,20,0,19,2,3] ?_
   refine am (ai (aG ?_))
   refine ah [0,1,2,3,5,6,7,8,4] (by kernel_rfl) (es':=[(_,_),(_,_),(_,_),(_,_),(_,_),(_,_),(_,_),(_,_),(_,_)]) rfl ?_
   obtain rfl:=zi h
   exact mU 20 [0,19,2,3] _ rfl rfl (by kernel_rfl)
  ·have h:=aq hb11 h
   refine ar (ag ?_)
   obtain ⟨v4,hv4,h⟩:=zn h
   obtain ⟨v5,hv5,h⟩:=zn h
   refine yx hn 3 ?_
   refine ys 0 ⟨lb hv4⟩ ?_
   refine ys 1 ⟨lb hv5⟩ ?_
   refine ye [0,19,2,3,20,0,19,2,3] ?_
   refine aJ ?_
   refine ah [0,1,2,3,5,6,7,8,4] (by kernel_rfl) (es':=[(_,_),(_,_),(_,_),(_,_),(_,_),(_,_),(_,_),(_,_),(_,_)]) rfl ?_
   obtain rfl:=zi h
   exact gT 20 [0,19,2,3] _ rfl rfl (by kernel_rfl)
 ·rintro D s8 h
  refine aJ ?_
  refine ag (ab ?_)
  refine aI hn 4 [19,2,18] ?_
  refine al _ rfl (fun hb12 => ?_) (fun hb12 => ?_)
  ·have h:=ap hb12 h
   refine aI hn 1 [19,2] ?_
   refine am ?_
   refine ah [1] (by kernel_rfl) (es':=[(_,_)]) rfl ?_
   refine ai ?_
   obtain rfl:=zi h
   exact ao hio rfl (.cell1 _ _ _ _ underlying35 rfl .nil) rfl rfl
  ·have h:=aq hb12 h
   refine ar (ag ?_)
   refine aI hn 1 [19,2] ?_
   refine am ?_
   refine ah [1] (by kernel_rfl) (es':=[(_,_)]) rfl ?_
   obtain rfl:=zi h
   exact ao hio rfl (.cell1 _ _ _ _ underlying35 rfl .nil) rfl rfl
 ·rintro D s10 h
  refine ah [2] (by kernel_rfl) (es':=[(_,_)]) rfl ?_
  refine aG (ai ?_)
  obtain rfl:=zi h
  exact ao hio rfl (.cell1 _ _ _ _ underlying35 rfl .nil) rfl rfl
theorem iA (s:(List Int)) (prefix_:(List Int)) (r:Bool) (h:Sh.eU s prefix_=some r):bL Tryz.prog 124 [.fl .shr 1 (map (int .u8) s),.fl .shr 1 (map (int .u8) prefix_)] (.v (.bool r)):=by
 unfold Sh.eU at h
 refine yO 18 func124 fun g0 hn hio => ?_
 refine aI hn 1 [0,1] ?_
 refine ab ?_
 refine aD h (fun (s3:Bool)=>[(4,vb s3)]) ?_ ?_
 ·rintro s3 h
  refine ag (am ?_)
  obtain rfl:=zi h
  exact ao hio rfl (.tmp _ _ .nil) rfl rfl
 ·intro u4 h hl5 hr6
  refine ak h (fun hg1_5 h => ?_) (fun hg1_5 h => ?_)
  ·obtain ⟨v1,hv1,h⟩:=zn h
   obtain ⟨v2,hv2,h⟩:=zn h
   refine yx hn 6 ?_
   refine yd hg1_5 3 ?_
   refine yS (fb v1) 1 ⟨kK _ _ _ 0 (prefix_.length:Int) _ underlying28 jA rfl rfl rfl ⟨_,rfl⟩ hv1⟩ ?_
   refine ys 2 ⟨lk call72 (kX _ _ _ hv2)⟩ ?_
   refine ye [4] ?_
   exact hl5 _ (zi h).symm
  ·refine yx hn 6 ?_
   refine yd hg1_5 8 ?_
   refine ye [4] ?_
   exact hl5 _ (zi h).symm
theorem jS (s:(List Int)) (prefix_:(List Int)) (r:(List Int)) (h:Sh.eM s prefix_=some r):bL Tryz.prog 97 [.fl .shr 1 (map (int .u8) s),.fl .shr 1 (map (int .u8) prefix_)] (.fl .shr 1 (map (int .u8) r)):=by
 unfold Sh.eM at h
 refine yO 13 func97 fun g0 hn hio => ?_
 refine aI hn 1 [0,1] ?_
 refine ab (ab ?_)
 obtain ⟨v1,hv1,h⟩:=zn h
 refine yx hn 2 ?_
 refine ys 0 ⟨lk call124 (iA _ _ _ hv1)⟩ ?_
 refine aT [0,1,7] ?_
 refine al _ rfl (fun hb2 => ?_) (fun hb2 => ?_)
 ·have h:=ap hb2 h
  refine ab ?_
  obtain ⟨v3,hv3,h⟩:=zn h
  refine yx hn 3 ?_
  refine yS (fb v3) 1 ⟨kK _ _ _ (prefix_.length:Int) (s.length:Int) _ underlying28 jA rfl rfl ⟨_,rfl⟩ rfl hv3⟩ ?_
  refine aT [4] ?_
  refine am (ai ?_)
  obtain rfl:=zi h
  exact ao hio rfl (.tmp _ _ .nil) rfl rfl
 ·have h:=aq hb2 h
  refine ar (ag ?_)
  refine aI hn 2 [4] ?_
  refine am ?_
  obtain rfl:=zi h
  exact ao hio rfl (.tmp _ _ .nil) rfl rfl
theorem qK (mx:Int×Nat×Value) (b:(List Int)) (r:((List Int)×Int×Int)) (h:Sh.ei b=some r):fk Tryz.prog (GL mx) 84 [.fl .shr 1 (map (int .u8) b)] (.tup [.fl (.own 5) 1 (map (int .u8) r.1),.v (.int .i64 r.2.1),.v (.int .i64 r.2.2)]):=by
 unfold Sh.ei at h
 refine yG 39 func84 fun g0 hn hio => ?_
 refine eC hn 0 ?_
 refine yS (.box 28 [vz]) 2 ⟨oA (aP _ _ zf)⟩ ?_
 refine aT [0,39,2] ?_
 refine ab ?_
 obtain ⟨v1,hv1,h⟩:=zn h
 refine yx hn 1 ?_
 refine ys 0 ⟨lg call94 (oe _ _ _ hv1) 39⟩ ?_
 refine ym 4 ?_
 refine aT [0,39,2,5,6] ?_
 refine ab ?_
 refine aI hn 2 [0,39,2,5,15] ?_
 refine al _ rfl (fun hb2 => ?_) (fun hb2 => ?_)
 ·have h:=ap hb2 h
  refine aI hn 3 [39,2,3,4] ?_
  refine am ?_
  refine ah [1,2,3] (by kernel_rfl) (es':=[(_,_),(_,_),(_,_)]) rfl ?_
  refine bT (fs:=[(2,.box 28 [.fl (.own 5) 1 (map (int .u8) [])]),(3,vi 0),(4,vi 9)]) (.box _ _ (af (bC 5 1) (bj)) rfl (.same _ (.same _ .nil))) ?_
  refine ai ?_
  obtain rfl:=zi h
  exact ao hio rfl (.cell1 _ _ _ _ underlying28 rfl (.tmp _ _ (.tmp _ _ .nil))) rfl rfl
 ·have h:=aq hb2 h
  refine ar ?_
  refine ag (ab ?_)
  refine ab ?_
  obtain ⟨v3,hv3,h⟩:=zn h
  obtain ⟨v4,hv4,h⟩:=zn h
  refine yx hn 2 ?_
  refine yS (fb v3) 0 ⟨kK _ _ _ 0 v1.1 _ underlying28 jA rfl rfl rfl ⟨_,rfl⟩ hv3⟩ ?_
  refine ys 1 ⟨lg call95 (gG _ _ _ hv4) 39⟩ ?_
  refine aT [0,39,2,5,7] ?_
  refine aI hn 2 [0,39,2,5,7,21] ?_
  refine al _ rfl (fun hb5 => ?_) (fun hb5 => ?_)
  ·have h:=ap hb5 h
   refine aI hn 4 [39,2,3,4] ?_
   refine am ?_
   refine ah [1,2,3] (by kernel_rfl) (es':=[(_,_),(_,_),(_,_)]) rfl ?_
   refine bT (fs:=[(2,.box 28 [.fl (.own 5) 1 (map (int .u8) [])]),(3,vi 0),(4,vi v4)]) (.box _ _ (af (bC 5 1) (bj)) rfl (.same _ (.same _ .nil))) ?_
   refine ai ?_
   obtain rfl:=zi h
   exact ao hio rfl (.cell1 _ _ _ _ underlying28 rfl (.tmp _ _ (.tmp _ _ .nil))) rfl rfl
  ·have h:=aq hb5 h
   refine ar ?_
   refine ag (ab ?_)
   refine ab ?_
   obtain ⟨v6,hv6,h⟩:=zn h
   obtain ⟨v7,hv7,h⟩:=zn h
   refine yx hn 2 ?_
   refine yS (fb v6) 0 ⟨kK _ _ _ 0 v1.1 _ underlying28 jA rfl rfl rfl ⟨_,rfl⟩ hv6⟩ ?_
   refine yk [] [25] ?_
   refine yt (26,.cloB 123 [.box 28 [fb v7]]) 0 ⟨eR _ _ 96 _ _ rfl call96 rfl rfl (eS v6 _ hv7) rfl⟩ ?_
   refine aT [39,2,5,26] ?_
   refine aH ?_
   refine gJ [3,0,1,2] (by kernel_rfl) (es':=[(26,.cloB 123 [.box 28 [fb v7]]),(39,.glob (GL mx)),(2,.box 28 [vz]),(5,vi v1.1)]) rfl ?_
   refine nH (fs:=[(26,.cloB 123 [.box 28 [fb v7]]),(39,.glob (GL mx)),(2,.box 28 [.fl (.own 5) 1 (map (int .u8) [])]),(5,vi v1.1)]) (.same _ (.same _ (.box _ _ (af (bC 5 1) (bj)) rfl (.same _ .nil)))) ?_
   refine fx h 123 26 27 40 _ [39,2,5] call123 (fun (s12:(List Int))=>[(39,.glob (GL mx)),(2,.box 28 [.fl (.own 5) 1 (map (int .u8) s12)]),(5,.v (.int .i64 v1.1))]) (fun (():Unit)=>[]) (fun l J Y hY t t' h=>dI mx l J Y hY v7 t t' h) hn rfl (fun _=>rfl) (fun _=>rfl) (fun _=>rfl) rfl rfl (fun _=>⟨rfl,rfl⟩) rfl (fw 39 rfl) ?_ ?_ ?_
   ·rintro kk g0 hn hio x s12 u h
    refine oY (es':=[(27,fb x),(39,.glob (GL mx)),(2,.box 28 [.fl (.own 5) 1 (map (int .u8) s12)]),(5,vi v1.1),(39,.v (kk.tm.getD 39 undef)),(2,.v (kk.tm.getD 2 undef)),(5,.v (kk.tm.getD 5 undef)),(40,.inv kk.ready)]) rfl ?_
    refine yy hn 1 [39,2,5,40,8,39,2,5] ?_
    refine ah [0,1,2,4,5,6,7,3] (by kernel_rfl) (es':=[(39,.glob (GL mx)),(2,.box 28 [.fl (.own 5) 1 (map (int .u8) s12)]),(5,vi v1.1),(8,fb x),(39,.v (kk.tm.getD 39 undef)),(2,.v (kk.tm.getD 2 undef)),(5,.v (kk.tm.getD 5 undef)),(40,.inv kk.ready)]) rfl ?_
    refine gR (es:=[(39,.glob (GL mx)),(2,.box 28 [.fl (.own 5) 1 (map (int .u8) s12)]),(5,vi v1.1),(8,fb x),(39,.v (kk.tm.getD 39 undef)),(2,.v (kk.tm.getD 2 undef)),(5,.v (kk.tm.getD 5 undef))]) 40 rfl ?_
    refine aH (ab ?_)
    obtain ⟨v8,hv8,h⟩:=zn h
    obtain ⟨v9,hv9,h⟩:=zn h
    refine wb [[2],[8]] ?_
    refine wN [] ?_
    refine wS (.fl (.own 5) 1 (map (int .u8) [46])) [] ⟨bb _ _ 1 (.int .u8 0) (map (int .u8) [46]) [(0,.int .u8 46)] underlying28 jA rb (fun _ V w o a hv hes=>by simp only [List.map_toArray,List.map_cons,List.map_nil]; try rfl) (cn (by simp [Instr.fill,Value.cells]; rfl) (by simp [List.range,List.range.loop] <;> rfl)) (by simp [Value.oneCell']) rfl (by decide) (by decide) (by decide)⟩ ?_
    refine wK [30] [] ?_
    refine wt [(31,.fl .ro 1 (map (int .u8) [46]))] [] ⟨eE _ _ _ underlying28 underlying5 (by intro h; cases h)⟩ ?_
    refine wN [29,31] ?_
    refine wS (fb v8) [] ⟨eR _ _ 97 _ _ rfl call97 rfl rfl (jS x [46] _ hv8) rfl⟩ ?_
    refine wK [2] [28,32] ?_
    refine wt [(2,.box 28 [.any]),(33,.fl (.own 5) 1 (map (int .u8) v9))] [] ⟨fv _ _ _ _ _ _ ia rfl rfl (zl rfl) rfl (eF _) (eF _) hv9 ((List.map_append).symm.trans (congrArg (map _) (im hv9))) (Nat.ne_of_beq_eq_false rfl) rfl rfl⟩ ?_
    refine wK [28,33,2] [] ?_
    refine wt [(2,.box 28 [.fl (.own 5) 1 (map (int .u8) v9)])] [] ⟨aL.drop [_] (aK _ _ _ _ _ _ _ _ jh rfl rfl rfl (zl rfl) rfl rfl)⟩ ?_
    refine qR hn [39,2,5,40,39,2,5] ?_
    obtain ⟨v10,hv10,h⟩:=zn h
    refine yx hn 1 ?_
    refine yk [2] [34] ?_
    refine kU (2,.box 28 [.any]) (35,.fl (.own 5) 1 (map (int .u8) v10)) 0 ⟨cZ _ _ _ _ _ _ ia rb underlying9 rfl rfl (zl rfl) rfl rfl hv10 rfl (Nat.ne_of_beq_eq_false rfl) rfl rfl⟩ ?_
    refine yw [34] 0 ?_
    refine yk [35,2] [] ?_
    refine yt (2,.box 28 [.fl (.own 5) 1 (map (int .u8) v10)]) 0 ⟨aK _ _ _ _ _ _ _ _ jh rfl rfl rfl (zl rfl) rfl rfl⟩ ?_
    refine ye [39,2,5,40,39,2,5] ?_
    refine aJ ?_
    refine ah [0,1,2,4,5,6,3] (by kernel_rfl) (es':=[(_,_),(_,_),(_,_),(_,_),(_,_),(_,_),(_,_)]) rfl ?_
    obtain rfl:=zi h
    exact gT 40 [39,2,5] _ rfl rfl (by kernel_rfl)
   ·rintro D s12 h
    refine aJ ?_
    refine ag (ab ?_)
    obtain ⟨v13,hv13,h⟩:=zn h
    refine yx hn 2 ?_
    refine ys 0 ⟨lb hv13⟩ ?_
    refine yk [2] [36] ?_
    refine yt (2,.box 28 [.fl (.own 5) 1 (map (int .u8) s12)]) 2 ⟨qx _ _ _ 2 0 jh rfl rfl rfl (zl rfl)⟩ ?_
    refine aT [39,2,3,4] ?_
    refine am ?_
    refine ah [1,2,3] (by kernel_rfl) (es':=[(_,_),(_,_),(_,_)]) rfl ?_
    obtain rfl:=zi h
    exact ao hio rfl (.cell1 _ _ _ _ underlying28 rfl (.tmp _ _ (.tmp _ _ .nil))) rfl rfl
   ·rintro D ⟨⟩ h
    cases h
theorem dK (xs:List Value):mr Tryz.prog 145 [.hid (fh 153 5 false xs)] [.hid (fh 153 5 true xs)] (.tup []) :=
 vY (by decide) (fun b w h1 h2 h3=>Tryz.Builder_copyCheck_fresh b w h1 h2 h3) (fun b w h=>Tryz.Builder_copyCheck_used b w h)
theorem cH (xs:List Int) (c:Int) (r:List Int) (h:cz 1 xs [c]=some r):mr Tryz.prog 125 [.hid (fh 153 5 false (map (int .u8) xs)),.v (.int .u8 c)] [.hid (fh 153 5 false (map (int .u8) r))] (.v .nilIface):=by
 refine mr.bldW ?_
 refine sk func125 rfl (zl rfl) rfl (zl rfl) fun args0 hargs0 g0 hn hio => ?_
 refine zI hn [_,_,_,(4,.v .nilIface)] [0,1,2] [0,1,2] [zq [] 3 4] [(_,_),(_,_),(_,_)] rfl ⟨z2 rfl,zz⟩ ?_
 refine zI hn [_,_,_,(5,.same (.slot 0)),(0,.hid (fh 153 5 true (map (int .u8) xs))),(6,.tup [])] [0,1,2] [4,1,2] [zq [] 3 5,⟨[3],[0],[4,5],[(.slot 6)]⟩] [(_,_),(_,_),(_,_)] rfl ⟨zp rfl (cy _ _ _ rfl),zp rfl (jw _ _ _ _ 6 145 [.tmp 5] [] _ _ _ rfl call145 rfl rfl rfl (dK _) (zl rfl) rfl rfl rfl rfl rfl rfl rfl),zz⟩ ?_
 refine qD 0 rfl ?_
 refine zI hn (_::_::_::(7,.ptr 0 0)::(8,.ptr 0 0)::(9,.ptr 0 0)::(10,.ptr 0 1)::(11,.same (.cell 0 1))::(12,.v (.int .u8 c))::(13,.fl (.own 5) 1 (map (int .u8) [c]))::(14,.fl (.own 5) 1 (map (int .u8) r))::(0,.box 153 [.ptr 0 0,.any])::(15,.ptr 0 0)::(16,.ptr 0 1)::(0,.box 153 [.ptr 0 0,.fl (.own 5) 1 (map (int .u8) r)])::[]) [0,1,2] [14,2] [zq [0] 3 7,zq [0] 4 8,zq [4,0] 5 9,zq [5,0] 6 10,zq [6,0] 7 11,zq [1] 8 12,zq [8] 9 13,⟨[7,9],[0],[11,10],[(.slot 14)]⟩,zq [3,11] 12 15,zq [12,11] 13 16,⟨[13],[7,10,11],[14],[.cell 0 1]⟩] [(_,_),(_,_)] rfl ⟨z1 rfl,z1 rfl,zp rfl (gU _ _ _ 0 0 rfl (by decide)),zp rfl (oF underlying153 rfl jh),zp rfl (oL underlying28 rfl),z1 rfl,zp rfl (bb _ _ 1 (.int .u8 0) (map (int .u8) [c]) [(0,.int .u8 c)] underlying28 jA rb (fun _ V w o a hv hes=>by have e0:=bK hv hes (x := .tmp 12) rfl; simp only [List.map_toArray,List.map_cons,List.map_nil,e0]; try rfl) (cn (by simp [Instr.fill,Value.cells]; rfl) (by simp [List.range,List.range.loop])) (by simp [Value.oneCell']) rfl (by decide) (by decide) (by decide)),zp rfl (fv _ _ _ _ _ _ ia rfl rfl (zl rfl) rfl (eF _) (eF _) h ((List.map_append).symm.trans (congrArg (map _) (im h))) (Nat.ne_of_beq_eq_false rfl) rfl rfl),zp rfl (gU _ _ _ 0 0 rfl (by decide)),zp rfl (oF underlying153 rfl jh),zp rfl (aL.drop [_] (aK _ _ _ _ _ _ _ _ jh rfl rfl rfl (zl rfl) rfl rfl)),zz⟩ ?_
 refine zI hn [_,_,(4,.v .nilIface)] [0,1] [0,1,2] [zq [] 2 4] [(_,_),(_,_),(_,_)] rfl ⟨z2 rfl,zz⟩ ?_
 refine am ?_
 refine xT 0 ?_
 refine ah [2,0,1] (by kernel_rfl) (es':=[(_,_),(_,_),(_,_)]) rfl ?_
 exact bo (es:=[(4,.v .nilIface)]) (posts:=[.hid (fh 153 5 true (map (int .u8) r))]) hio rfl rfl (.tmp _ _ .nil) rfl rfl hargs0 rfl
theorem nz (s:Fa) (c:Int) (r:Fa) (h:Sh.strings_Repeat s c=some r):bL Tryz.prog 127 [.v (.string s),.v (.int .i64 c)] (.v (.string r)):=mD Tryz.strings_Repeat s c r h
theorem gr (xs:List Int) (s:Fa) (r:List Int) (h:cz 1 xs (bl s)=some r):mr Tryz.prog 126 [.hid (fh 153 5 false (map (int .u8) xs)),.v (.string s)] [.hid (fh 153 5 false (map (int .u8) r))] (.tup [.v (.int .i64 (s.size:Int)),.v .nilIface]):=by
 refine mr.bldW ?_
 refine sk func126 rfl (zl rfl) rfl (zl rfl) fun args0 hargs0 g0 hn hio => ?_
 refine zI hn [_,_,_,(4,vi 0),(5,.v .nilIface)] [0,1,2] [0,1,2] [zq [] 3 4,zq [] 4 5] [(_,_),(_,_),(_,_)] rfl ⟨z2 rfl,z2 rfl,zz⟩ ?_
 refine zI hn [_,_,_,(6,.same (.slot 0)),(0,.hid (fh 153 5 true (map (int .u8) xs))),(7,.tup [])] [0,1,2] [4,1,2] [zq [] 3 6,⟨[3],[0],[4,5],[(.slot 7)]⟩] [(_,_),(_,_),(_,_)] rfl ⟨zp rfl (cy _ _ _ rfl),zp rfl (jw _ _ _ _ 7 145 [.tmp 6] [] _ _ _ rfl call145 rfl rfl rfl (dK _) (zl rfl) rfl rfl rfl rfl rfl rfl rfl),zz⟩ ?_
 refine qD 0 rfl ?_
 refine zI hn (_::_::_::(8,.ptr 0 0)::(9,.ptr 0 0)::(10,.ptr 0 0)::(11,.ptr 0 1)::(12,.same (.cell 0 1))::(13,vs s)::(14,.fl (.own 5) 1 (map (int .u8) r))::(0,.box 153 [.ptr 0 0,.any])::(15,.ptr 0 0)::(16,.ptr 0 1)::(0,.box 153 [.ptr 0 0,.fl (.own 5) 1 (map (int .u8) r)])::[]) [0,1,2] [13,1,2] [zq [0] 3 8,zq [0] 4 9,zq [4,0] 5 10,zq [5,0] 6 11,zq [6,0] 7 12,zq [1] 8 13,⟨[7,8],[0],[10,9],[(.slot 14)]⟩,zq [3,10] 11 15,zq [11,10] 12 16,⟨[12],[7,9,10],[13],[.cell 0 1]⟩] [(_,_),(_,_),(_,_)] rfl ⟨z1 rfl,z1 rfl,zp rfl (gU _ _ _ 0 0 rfl (by decide)),zp rfl (oF underlying153 rfl jh),zp rfl (oL underlying28 rfl),z1 rfl,zp rfl (cZ _ _ _ _ _ _ ia rb underlying9 rfl rfl (zl rfl) rfl rfl h rfl (Nat.ne_of_beq_eq_false rfl) rfl rfl),zp rfl (gU _ _ _ 0 0 rfl (by decide)),zp rfl (oF underlying153 rfl jh),zp rfl (aL.drop [_] (aK _ _ _ _ _ _ _ _ jh rfl rfl rfl (zl rfl) rfl rfl)),zz⟩ ?_
 refine zI hn [_,_,_,(17,vs s),(18,vi (s.size:Int)),(4,vi (s.size:Int)),(5,.v .nilIface)] [0,1,2] [0,2,5,6] [zq [1] 3 17,zq [3] 4 18,zq [4] 5 4,zq [] 6 5] [(_,_),(_,_),(_,_),(_,_)] rfl ⟨z1 rfl,zp rfl (oN underlying9 rfl),z2 rfl,z2 rfl,zz⟩ ?_
 refine am ?_
 refine xT 0 ?_
 refine ah [2,3,0,1] (by kernel_rfl) (es':=[(_,_),(_,_),(_,_),(_,_)]) rfl ?_
 exact bo (es:=[(4,.v (.int .i64 (s.size:Int))),(5,.v .nilIface)]) (posts:=[.hid (fh 153 5 true (map (int .u8) r))]) hio rfl rfl (.tmp _ _ (.tmp _ _ .nil)) rfl rfl hargs0 rfl
theorem eG (xs:List Int) (s:Fa) (h:xL xs=some s):mr Tryz.prog 128 [.hid (fh 153 5 false (map (int .u8) xs))] [] (.v (.string s)):=by
 refine sk func128 rfl (zl rfl) rfl (zl rfl) fun args0 hargs0 g0 hn hio => ?_
 refine uI 0 fun v => ?_
 refine zI hn [_,(2,vs ByteArray.empty)] [0] [0] [zq [] 1 2] [(_,_)] rfl ⟨z2 rfl,zz⟩ ?_
 refine ab ?_
 refine nu (by kernel_rfl) hn (El:=[_,(3,.same (.slot 0)),(4,.ptr 0 0),(5,.ptr 0 1),(6,.v v),(7,.hid (yL v)),(8,.same (.slot 0)),(9,.ptr 0 0),(10,.ptr 0 1),(11,.v v),(12,vi ((map (int .u8) xs).length:Int)),(13,vs s),(2,vs s)]) (init:=[0]) (fin:=[12]) (sps:=[zq [] 1 3,zq [1,0] 2 4,zq [2] 3 5,zq [3,0] 4 6,zq [4,0] 5 7,zq [] 6 8,zq [6,0] 7 9,zq [7] 8 10,zq [8,0] 9 11,zq [9,0] 10 12,⟨[5,10],[0],[11],[(.slot 13)]⟩,zq [11] 12 2]) (es':=[(2,vs s)]) (by kernel_rfl) rfl rfl ⟨zp rfl (cy _ _ _ rfl),zp rfl (ke _ _ _ 0 rfl rfl (by decide)),zp rfl (oF underlying153 rfl jh),zp rfl (oK _ _ _ 0 underlying28 rfl rfl rfl),zp rfl (Bm _ _ 0 underlying173 rfl rfl),zp rfl (cy _ _ _ rfl),zp rfl (ke _ _ _ 0 rfl rfl (by decide)),zp rfl (oF underlying153 rfl jh),zp rfl (oK _ _ _ 0 underlying28 rfl rfl rfl),zp rfl (uo _ _ 0 underlying28 rfl rfl),zp rfl (yH _ _ 0 underlying173 (by kernel_rfl) rfl rfl h),z2 rfl,zz⟩ ?_
 refine ag (am ?_)
 exact bo (es:=[(2,.v (.string s))]) (posts:=[]) hio rfl rfl (.tmp _ _ .nil) rfl rfl hargs0 rfl
theorem iF (b:(List Int)) (r:Fa) (h:Sh.gL b=some r):bL Tryz.prog 98 [.fl .shr 1 (map (int .u8) b)] (.v (.string r)):=by
 unfold Sh.gL at h
 refine yO 61 func98 fun g0 hn hio => ?_
 refine aI hn 1 [0] ?_
 refine eC hn 0 ?_
 refine yS (.hid (fh 153 5 false (map (int .u8) ([]:List Int)))) 0 ⟨oA (aL.bld0 (aP _ _ zZ))⟩ ?_
 refine aT [0,3] ?_
 refine ab ?_
 refine aI hn 1 [0,3,4] ?_
 refine aX h (fun ((s89,s90):(List Int)×Int)=>[(0,fb b),(3,.hid (fh 153 5 false (map (int .u8) s89))),(4,vi s90)]) (fun (s122:(List Int))=>[(3,.hid (fh 153 5 false (map (int .u8) s122)))]) ?_ ?_
 ·rintro s122 h
  refine ag (ab ?_)
  obtain ⟨v160,hv160,h⟩:=zn h
  refine yx hn 0 ?_
  refine yk [3] [] ?_
  refine yt (60,vs v160) 1 ⟨jw _ _ _ _ 60 128 [.tmp 3] [] _ _ _ rfl call128 rfl rfl rfl (eG s122 _ hv160) (zl rfl) rfl rfl rfl rfl rfl rfl rfl⟩ ?_
  refine aT [2] ?_
  refine am ?_
  obtain rfl:=zi h
  exact ao hio rfl (.tmp _ _ .nil) rfl rfl
 ·rintro u123 hl124 hr125 ⟨s89,s90⟩ rr128 h ho126
  refine ab ?_
  refine aI hn 4 [0,3,4,13] ?_
  refine al _ rfl (fun hb129 => ?_) (fun hb129 => ?_)
  ·have h:=ap hb129 h
   refine ar ?_
   refine ag (ab ?_)
   refine aH (ab ?_)
   obtain ⟨v2,hv2,h⟩:=zn h
   obtain ⟨v3,hv3,h⟩:=zn h
   refine yx hn 3 ?_
   refine ys 0 ⟨lb hv2⟩ ?_
   refine yS (vi v3) 1 ⟨(Option.some.inj hv3) ▸ sq _ _ _ _ rfl rfl⟩ ?_
   refine aT [0,3,4,5] ?_
   refine aI hn 1 [0,3,4,5,6] ?_
   refine ab (ab ?_)
   obtain ⟨v4,hv4,h⟩:=zn h
   obtain ⟨v5,hv5,h⟩:=zn h
   refine yx hn 4 ?_
   refine ys 0 ⟨lb hv4⟩ ?_
   refine yS (fb v5) 2 ⟨kK _ _ _ s90 v4 _ underlying28 jA rfl rfl ⟨_,rfl⟩ ⟨_,rfl⟩ hv5⟩ ?_
   refine aT [0,3,4,5,6,26,27,28] ?_
   refine aX h (fun ((s134,s135):Int×Int)=>[(0,fb b),(3,.hid (fh 153 5 false (map (int .u8) s89))),(4,vi s90),(5,vi v3),(6,.v (.int .u32 s134)),(26,fb v5),(27,vi (v5.length:Int)),(28,vi s135)]) (fun (s137:Int)=>[(0,fb b),(3,.hid (fh 153 5 false (map (int .u8) s89))),(4,vi s90),(5,vi v3),(6,.v (.int .u32 s137))]) ?_ ?_
   ·rintro s137 h
    refine ag (ab ?_)
    refine ab ?_
    obtain ⟨v29,hv29,h⟩:=zn h
    refine yx hn 1 ?_
    refine ys 1 ⟨lb hv29⟩ ?_
    refine aT [0,3,4,5,6,43,44] ?_
    refine aX h (fun ((s149,s150):(List Int)×Int)=>[(0,fb b),(3,.hid (fh 153 5 false (map (int .u8) s149))),(4,vi s90),(5,vi v3),(6,.v (.int .u32 s137)),(43,vi v29),(44,vi s150)]) (fun (s152:(List Int))=>[(0,fb b),(3,.hid (fh 153 5 false (map (int .u8) s152))),(4,vi s90),(5,vi v3)]) ?_ ?_
    ·rintro s152 h
     refine ag ?_
     obtain ⟨v52,hv52,h⟩:=zn h
     obtain ⟨v53,hv53,h⟩:=zn h
     obtain ⟨v54,hv54,h⟩:=zn h
     refine yx hn 1 ?_
     refine ys 0 ⟨lb hv52⟩ ?_
     refine ys 0 ⟨lk call127 (nz _ _ _ hv53)⟩ ?_
     refine yq call126 (gr _ _ _ hv54) 3 [58] 0 ?_
     refine ye [0,3,4] ?_
     refine aJ (ag ?_)
     obtain ⟨v55,hv55,h⟩:=zn h
     refine yx hn 1 ?_
     refine ys 0 ⟨lb hv55⟩ ?_
     refine yw [4] 1 ?_
     refine ye [0,3,4] ?_
     exact bi _ (zi h).symm rfl
    ·rintro u153 hl154 hr155 ⟨s149,s150⟩ rr158 h ho156
     refine aI hn 1 [0,3,4,5,6,43,44,45] ?_
     refine ab ?_
     refine al _ rfl (fun hb159 => ?_) (fun hb159 => ?_)
     ·have h:=ap hb159 h
      refine ar ?_
      refine ag (ab ?_)
      refine aH ?_
      refine aI hn 2 [0,3,4,5,6,43,44,9] ?_
      obtain ⟨v31,hv31,h⟩:=zn h
      obtain ⟨v32,hv32,h⟩:=zn h
      obtain ⟨v33,hv33,h⟩:=zn h
      obtain ⟨v34,hv34,h⟩:=zn h
      obtain ⟨v35,hv35,h⟩:=zn h
      obtain ⟨v36,hv36,h⟩:=zn h
      refine yx hn 2 ?_
      refine ys 0 ⟨lb hv31⟩ ?_
      refine ys 0 ⟨lb hv32⟩ ?_
      refine ys 0 ⟨lB (jN hv33)⟩ ?_
      refine ys 0 ⟨lb hv34⟩ ?_
      refine ys 0 ⟨lh hv35⟩ ?_
      refine yq call125 (cH _ _ _ hv36) 3 [53] 0 ?_
      refine ye [0,3,4,5,6,43,44] ?_
      refine aJ (ag ?_)
      obtain ⟨v37,hv37,h⟩:=zn h
      refine yx hn 0 ?_
      refine ys 0 ⟨lb hv37⟩ ?_
      refine yw [44] 1 ?_
      refine ye [0,3,4,5,6,43,44] ?_
      exact bi _ (zi h).symm rfl
     ·have h:=aq hb159 h
      refine bh (aB (aB (bf ?_)))
      refine ah [0,1,2,3] (by kernel_rfl) (es':=[(_,_),(_,_),(_,_),(_,_)]) rfl ?_
      exact hl154 _ (ho156 _ (zi h).symm).symm
   ·rintro u138 hl139 hr140 ⟨s134,s135⟩ rr143 h ho141
    refine aI hn 1 [0,3,4,5,6,26,27,28,29] ?_
    refine ab ?_
    refine al _ rfl (fun hb144 => ?_) (fun hb144 => ?_)
    ·have h:=ap hb144 h
     refine ar ?_
     refine ag (ab ?_)
     refine aH (ab ?_)
     obtain ⟨v7,hv7,h⟩:=zn h
     obtain ⟨v8,hv8,h⟩:=zn h
     refine yx hn 1 ?_
     refine ys 0 ⟨li hv7⟩ ?_
     refine ys 2 ⟨ll hv8⟩ ?_
     refine aT [0,3,4,5,6,26,27,28,7,8] ?_
     obtain ⟨v9,hv9,h⟩:=zn h
     obtain ⟨v10,hv10,h⟩:=zn h
     obtain ⟨v11,hv11,h⟩:=zn h
     obtain ⟨v12,hv12,h⟩:=zn h
     obtain ⟨v13,hv13,h⟩:=zn h
     refine yx hn 2 ?_
     refine ys 1 ⟨lv hv9⟩ ?_
     refine ys 0 ⟨lb hv10⟩ ?_
     refine ys 0 ⟨lb hv11⟩ ?_
     refine ys 0 ⟨lB (nN hv12)⟩ ?_
     refine ys 0 ⟨lb hv13⟩ ?_
     refine yw [6] 1 ?_
     refine ye [0,3,4,5,26,27,28,6] ?_
     refine aJ (ag ?_)
     obtain ⟨v14,hv14,h⟩:=zn h
     refine yx hn 0 ?_
     refine ys 0 ⟨lb hv14⟩ ?_
     refine yw [28] 1 ?_
     refine ye [0,3,4,5,26,27,6,28] ?_
     refine ah [0,1,2,3,6,4,5,7] (by kernel_rfl) (es':=[(_,_),(_,_),(_,_),(_,_),(_,_),(_,_),(_,_),(_,_)]) rfl ?_
     exact bi _ (zi h).symm rfl
    ·have h:=aq hb144 h
     refine bh (aB (aB (bf ?_)))
     refine ah [0,1,2,3,4] (by kernel_rfl) (es':=[(_,_),(_,_),(_,_),(_,_),(_,_)]) rfl ?_
     exact hl139 _ (ho141 _ (zi h).symm).symm
  ·have h:=aq hb129 h
   refine bh (aB (aB (bf ?_)))
   refine ah [1] (by kernel_rfl) (es':=[(_,_)]) rfl ?_
   exact hl124 _ (ho126 _ (zi h).symm).symm
theorem ku (code:Int) (r:Bool) (h:Sh.iV code=some r):bL Tryz.prog 99 [.v (.int .i64 code)] (.v (.bool r)):=by
 unfold Sh.iV at h
 refine yO 9 func99 fun g0 hn hio => ?_
 refine aI hn 1 [0] ?_
 refine ab ?_
 refine aD h (fun (s1:Bool)=>[(2,vb s1)]) ?_ ?_
 ·rintro s1 h
  refine ag (am ?_)
  obtain rfl:=zi h
  exact ao hio rfl (.tmp _ _ .nil) rfl rfl
 ·intro u2 h hl3 hr4
  refine ak h (fun hg1_2 h => ?_) (fun hg1_2 h => ?_)
  ·refine yx hn 3 ?_
   refine yd hg1_2 4 ?_
   refine ye [2] ?_
   exact hl3 _ (zi h).symm
  ·refine yx hn 3 ?_
   refine yd hg1_2 4 ?_
   refine ye [2] ?_
   exact hl3 _ (zi h).symm
theorem dH (s:aa) (code:Int) (r:(cd×aa)) (h:Sh.cK s code=some r):mr Tryz.prog 85 [.box 80 (aa.b s),.v (.int .i64 code)] [.box 80 (aa.b r.2)] (.agg [.v (.int .i64 r.1.Ew),.fl (.own 9) 1 (map Value.string r.1.EH)]):=by
 unfold Sh.cK at h
 refine yP 24 func85 fun args0 hargs0 g0 hn hio => ?_
 refine eC hn 0 ?_
 refine yS (.box 51 [vi 0,vz]) 0 ⟨oA (aP _ _ zx)⟩ ?_
 refine aT [0,1,4,0] ?_
 refine aI hn 1 [0,1,4,5,0] ?_
 refine ab ?_
 refine aD h (fun (s6:Fa)=>[(0,.box 80 (aa.b s)),(1,vi code),(4,.box 51 [vi 0,vz]),(5,vs s6),(0,.v (List.getD args0 0 undef))]) ?_ ?_
 ·rintro s6 h
  refine ag ?_
  refine eC hn 2 ?_
  refine yS (.fl (.own 9) 1 (map Value.string [s6])) 0 ⟨bb _ _ 1 (.string ByteArray.empty) (map Value.string [s6]) [(0,.string s6)] underlying49 pW Cf (fun _ V w o a hv hes=>by have e0:=bK hv hes (x := .tmp 21) rfl; simp only [List.map_toArray,List.map_cons,List.map_nil,e0]; try rfl) (cn (by simp [Instr.fill,Value.cells]; rfl) (by simp [List.range,List.range.loop] <;> rfl)) (by simp [Value.oneCell']) rfl (by decide) (by decide) (by decide)⟩ ?_
  refine yk [22] [20] ?_
  refine yt (23,.agg [vi code,.fl (.own 9) 1 (map Value.string [s6])]) 0 ⟨bn _ _ _ _ [1,1] _ _ underlying51 zx (Cd _ underlying51) (.copy _ (.take _ _ km.nil)) rfl rfl rfl⟩ ?_
  refine yk [23,4] [] ?_
  refine yt (4,.box 51 [vi code,.fl (.own 9) 1 (map Value.string [s6])]) 0 ⟨aK _ _ _ _ _ _ _ _ zb rfl rfl rfl (zl rfl) rfl rfl⟩ ?_
  refine aT [0,4,0] ?_
  refine am ?_
  refine ah [1,0,2] (by kernel_rfl) (es':=[(_,_),(_,_),(_,_)]) rfl ?_
  obtain rfl:=zi h
  exact bo (es:=[(4,.box 51 [.v (.int .i64 code),.fl (.own 9) 1 (map Value.string [s6])])]) (posts:=[.box 80 (aa.b s)]) hio rfl rfl (.cellA _ _ _ _ underlying51 rfl zb .nil) rfl rfl hargs0 rfl
 ·intro u7 h hl8 hr9
  refine aH ?_
  refine aI hn 3 [0,1,4,5,6,0] ?_
  refine al _ rfl (fun hb10 => ?_) (fun hb10 => ?_)
  ·have h:=ap hb10 h
   obtain ⟨v2,hv2,h⟩:=zn h
   obtain ⟨v3,hv3,h⟩:=zn h
   refine yx hn 5 ?_
   refine ys 0 ⟨lT hv2⟩ ?_
   refine ys 0 ⟨lk call98 (iF _ _ hv3)⟩ ?_
   refine yw [5] 1 ?_
   refine ye [0,1,4,5,0] ?_
   refine aJ ?_
   exact hl8 _ (zi h).symm
  ·have h:=aq hb10 h
   refine ab ?_
   obtain ⟨v4,hv4,h⟩:=zn h
   refine yx hn 1 ?_
   refine ys 2 ⟨lk call99 (ku _ _ hv4)⟩ ?_
   refine aT [0,1,4,5,16,0] ?_
   refine al _ rfl (fun hb11 => ?_) (fun hb11 => ?_)
   ·have h:=ap hb11 h
    refine yx hn 0 ?_
    refine yw [5] 1 ?_
    refine ye [0,1,4,5,0] ?_
    refine aJ ?_
    exact hl8 _ (zi h).symm
   ·have h:=aq hb11 h
    refine ar (aJ ?_)
    refine ah [0,1,2,3,5] (by kernel_rfl) (es':=[(_,_),(_,_),(_,_),(_,_),(_,_)]) rfl ?_
    exact hl8 _ (zi h).symm
theorem kh (mx:Int×Nat×Value) (n:Int) (r:Fa) (h:Sh.strconv_Itoa n=some r):fk Tryz.prog (GL mx) 150 [.v (.int .i64 n)] (.v (.string r)):=nC (by kernel_rfl) (zB mx) (by rfl) (fun n w h0 h1 ht=>Tryz.strconv_Itoa n h0 h1 w ht) n r h
theorem qY (mx:Int×Nat×Value) (helo:Fa) (site:Fa) (at_:Int) (r:((List Int)×Int)) (h:Sh.mz helo site at_=some r):fk Tryz.prog (GL mx) 129 [.v (.string helo),.v (.string site),.v (.int .i64 at_)] (.tup [.mkr 5 (map (int .u8) r.1),.v (.int .i64 r.2)]):=by
 unfold Sh.mz at h
 refine yG 33 func129 fun g0 hn hio => ?_
 refine aI hn 2 [0,1,2,33] ?_
 refine ab (ab ?_)
 refine aD h (fun (s21:Bool)=>[(0,vs helo),(1,vs site),(2,vi at_),(33,.glob (GL mx)),(15,vb s21)]) ?_ ?_
 ·rintro s21 h
  refine ag ?_
  refine al _ rfl (fun hb25 => ?_) (fun hb25 => ?_)
  ·have h:=ap hb25 h
   refine aI hn 2 [33,6,7] ?_
   refine am ?_
   refine ah [1,2] (by kernel_rfl) (es':=[(_,_),(_,_)]) rfl ?_
   refine bT (fs:=[(6,.mkr 5 (map (int .u8) [])),(7,vi 5)]) (.sub _ (ej 5) rfl (.same _ .nil)) ?_
   refine ai ?_
   obtain rfl:=zi h
   exact ao hio rfl (.tmp _ _ (.tmp _ _ .nil)) rfl rfl
  ·have h:=aq hb25 h
   refine ar ?_
   refine ag (ab ?_)
   refine ab ?_
   refine aD h (fun (s26:Bool)=>[(0,vs helo),(1,vs site),(2,vi at_),(33,.glob (GL mx)),(21,vb s26)]) ?_ ?_
   ·rintro s26 h
    refine ag ?_
    refine al _ rfl (fun hb30 => ?_) (fun hb30 => ?_)
    ·have h:=ap hb30 h
     refine aI hn 2 [33,6,7] ?_
     refine am ?_
     refine ah [1,2] (by kernel_rfl) (es':=[(_,_),(_,_)]) rfl ?_
     refine bT (fs:=[(6,.mkr 5 (map (int .u8) [])),(7,vi 1)]) (.sub _ (ej 5) rfl (.same _ .nil)) ?_
     refine ai ?_
     obtain rfl:=zi h
     exact ao hio rfl (.tmp _ _ (.tmp _ _ .nil)) rfl rfl
    ·have h:=aq hb30 h
     refine ar ?_
     refine ag (ab ?_)
     obtain ⟨v13,hv13,h⟩:=zn h
     obtain ⟨v14,hv14,h⟩:=zn h
     obtain ⟨v15,hv15,h⟩:=zn h
     obtain ⟨v16,hv16,h⟩:=zn h
     obtain ⟨v17,hv17,h⟩:=zn h
     obtain ⟨v18,hv18,h⟩:=zn h
     obtain ⟨v19,hv19,h⟩:=zn h
     obtain ⟨v20,hv20,h⟩:=zn h
     refine yx hn 1 ?_
     refine ys 0 ⟨lB (dW hv13)⟩ ?_
     refine ys 1 ⟨lB (dW hv14)⟩ ?_
     refine ys 0 ⟨lB (dW hv15)⟩ ?_
     refine ys 1 ⟨lB (dW hv16)⟩ ?_
     refine ys 0 ⟨lg call150 (kh _ _ _ hv17) 33⟩ ?_
     refine ys 0 ⟨lB (dW hv18)⟩ ?_
     refine ys 0 ⟨lB (dW hv19)⟩ ?_
     refine ys 0 ⟨lU hv20⟩ ?_
     refine ya 1 ?_
     refine aT [33,6,7] ?_
     refine am ?_
     refine ah [1,2] (by kernel_rfl) (es':=[(_,_),(_,_)]) rfl ?_
     obtain rfl:=zi h
     exact ao hio rfl (.tmp _ _ (.tmp _ _ .nil)) rfl rfl
   ·intro u27 h hl28 hr29
    refine ak h (fun hg3_2 h => ?_) (fun hg3_2 h => ?_)
    ·refine yx hn 3 ?_
     refine yd hg3_2 3 ?_
     refine ye [0,1,2,33,21] ?_
     exact hl28 _ (zi h).symm
    ·refine yx hn 3 ?_
     refine yd hg3_2 3 ?_
     refine ye [0,1,2,33,21] ?_
     exact hl28 _ (zi h).symm
 ·intro u22 h hl23 hr24
  obtain ⟨v1,hv1,h⟩:=zn h
  refine ak h (fun hg1_3 h => ?_) (fun hg1_3 h => ?_)
  ·refine yx hn 1 ?_
   refine ys 2 ⟨lg call55 (bG _ _ _ hv1) 33⟩ ?_
   refine yd hg1_3 4 ?_
   refine ye [0,1,2,33,15] ?_
   exact hl23 _ (zi h).symm
  ·obtain ⟨v2,hv2,h⟩:=zn h
   refine yx hn 1 ?_
   refine ys 2 ⟨lg call55 (bG _ _ _ hv1) 33⟩ ?_
   refine yd hg1_3 1 ?_
   refine ys 2 ⟨lg call55 (bG _ _ _ hv2) 33⟩ ?_
   refine ye [0,1,2,33,15] ?_
   exact hl23 _ (zi h).symm
theorem sQ (mx:Int×Nat×Value) (b:(List Int)) (helo:Fa) (site:Fa) (at_:Int) (r:((List Int)×Int)) (h:Sh.pS b helo site at_=some r):fk Tryz.prog (GL mx) 100 [.fl .shr 1 (map (int .u8) b),.v (.string helo),.v (.string site),.v (.int .i64 at_)] (.tup [.mkr 5 (map (int .u8) r.1),.v (.int .i64 r.2)]):=by
 unfold Sh.pS at h
 refine yG 31 func100 fun g0 hn hio => ?_
 refine aI hn 2 [0,1,2,3,31] ?_
 refine ab (ab ?_)
 obtain ⟨v1,hv1,h⟩:=zn h
 refine yx hn 1 ?_
 refine ys 1 ⟨lg call95 (gG _ _ _ hv1) 31⟩ ?_
 refine aT [0,1,2,3,31,10] ?_
 refine aI hn 2 [0,1,2,3,31,10,16] ?_
 refine al _ rfl (fun hb6 => ?_) (fun hb6 => ?_)
 ·have h:=ap hb6 h
  refine aI hn 3 [31,8,9] ?_
  refine am ?_
  refine ah [1,2] (by kernel_rfl) (es':=[(_,_),(_,_)]) rfl ?_
  refine bT (fs:=[(8,.mkr 5 (map (int .u8) [])),(9,vi v1)]) (.sub _ (ej 5) rfl (.same _ .nil)) ?_
  refine ai ?_
  obtain rfl:=zi h
  exact ao hio rfl (.tmp _ _ (.tmp _ _ .nil)) rfl rfl
 ·have h:=aq hb6 h
  refine ar ?_
  refine ag (ab ?_)
  obtain ⟨v3,hv3,h⟩:=zn h
  refine yx hn 3 ?_
  refine ys 0 ⟨lg call129 (qY _ _ _ _ _ hv3) 31⟩ ?_
  refine ym 0 ?_
  refine CF 1 ?_
  refine ya 1 ?_
  refine aT [0,31,11,12] ?_
  refine ab ?_
  refine aI hn 2 [0,31,11,12,26] ?_
  refine al _ rfl (fun hb7 => ?_) (fun hb7 => ?_)
  ·have h:=ap hb7 h
   refine aI hn 3 [31,8,9] ?_
   refine am ?_
   refine ah [1,2] (by kernel_rfl) (es':=[(_,_),(_,_)]) rfl ?_
   refine bT (fs:=[(8,.mkr 5 (map (int .u8) [])),(9,vi v3.2)]) (.sub _ (ej 5) rfl (.same _ .nil)) ?_
   refine ai ?_
   obtain rfl:=zi h
   exact ao hio rfl (.tmp _ _ (.tmp _ _ .nil)) rfl rfl
  ·have h:=aq hb7 h
   refine ar ?_
   refine ag (ab ?_)
   obtain ⟨v5,hv5,h⟩:=zn h
   refine yx hn 0 ?_
   refine ym 1 ?_
   refine yk [28] [29] ?_
   refine kU (28,.any) (30,.mkr 5 (map (int .u8) v5)) 0 ⟨nP _ _ _ _ _ ia rfl rfl rfl rfl hv5 rfl⟩ ?_
   refine ya 1 ?_
   refine aT [31,8,9] ?_
   refine am ?_
   refine ah [1,2] (by kernel_rfl) (es':=[(_,_),(_,_)]) rfl ?_
   obtain rfl:=zi h
   exact ao hio rfl (.tmp _ _ (.tmp _ _ .nil)) rfl rfl
theorem kA (s:Fa) (c r:Int) (h:Sh.strings_IndexByte s c=some r):bL Tryz.prog 224 [.v (.string s),.v (.int .u8 c)] (.v (.int .i64 r)):=ki Tryz.strings_IndexByte s c r h
theorem pX (c:Int) (r:Bool) (h:Sh.kR c=some r):bL Tryz.prog 223 [.v (.int .u8 c)] (.v (.bool r)):=by
 unfold Sh.kR at h
 refine yO 10 func223 fun g0 hn hio => ?_
 refine aI hn 1 [0] ?_
 refine ab ?_
 refine aD h (fun (s3:Bool)=>[(2,vb s3)]) ?_ ?_
 ·rintro s3 h
  refine ag (am ?_)
  obtain rfl:=zi h
  exact ao hio rfl (.tmp _ _ .nil) rfl rfl
 ·intro u4 h hl5 hr6
  obtain ⟨v1,hv1,h⟩:=zn h
  refine ak h (fun hg1_2 h => ?_) (fun hg1_2 h => ?_)
  ·refine yx hn 1 ?_
   refine ys 1 ⟨lk call83 (cV _ _ hv1)⟩ ?_
   refine yd hg1_2 5 ?_
   refine ye [2] ?_
   exact hl5 _ (zi h).symm
  ·obtain ⟨v2,hv2,h⟩:=zn h
   refine yx hn 1 ?_
   refine ys 1 ⟨lk call83 (cV _ _ hv1)⟩ ?_
   refine yd hg1_2 1 ?_
   refine ys 3 ⟨lk call224 (kA _ _ _ hv2)⟩ ?_
   refine ye [2] ?_
   exact hl5 _ (zi h).symm
theorem iL (s:Fa) (r:Bool) (h:Sh.dB s=some r):bL Tryz.prog 81 [.v (.string s),.v (.func (.func 223) #[] #[])] (.v (.bool r)):=by
 unfold Sh.dB at h
 refine yO 18 func81 fun g0 hn hio => ?_
 refine aI hn 1 [0,1] ?_
 refine ab ?_
 refine aI hn 3 [0,1,7,8] ?_
 refine aX h (fun (s9:Int)=>[(0,vs s),(1,.v (.func (.func 223) #[] #[])),(7,vi (s.size:Int)),(8,vi s9)]) (fun (():Unit)=>[]) ?_ ?_
 ·rintro ⟨⟩ h
  refine ag ?_
  refine aI hn 1 [4] ?_
  refine am ?_
  obtain rfl:=zi h
  exact ao hio rfl (.tmp _ _ .nil) rfl rfl
 ·rintro u12 hl13 hr14 s9 rr17 h ho15
  refine aI hn 1 [0,1,7,8,9] ?_
  refine ab ?_
  refine al _ rfl (fun hb18 => ?_) (fun hb18 => ?_)
  ·have h:=ap hb18 h
   refine ar ?_
   refine ag (ab ?_)
   refine aH ?_
   refine aI hn 2 [0,1,7,8,5] ?_
   refine ab ?_
   obtain ⟨v2,hv2,h⟩:=zn h
   obtain ⟨v3,hv3,h⟩:=zn h
   refine yx hn 3 ?_
   refine ys 0 ⟨lh hv2⟩ ?_
   refine ys 1 ⟨lk call223 (pX _ _ hv3)⟩ ?_
   refine aT [0,1,7,8,16] ?_
   refine al _ rfl (fun hb19 => ?_) (fun hb19 => ?_)
   ·have h:=ap hb19 h
    refine aI hn 1 [4] ?_
    refine am (aG (ai (ai (aG (ai ?_)))))
    have h:=hr14 _ (ho15 _ (zi h).symm).symm
    obtain rfl:=zi h
    exact ao hio rfl (.tmp _ _ .nil) rfl rfl
   ·have h:=aq hb19 h
    refine ar (aJ (ag ?_))
    obtain ⟨v5,hv5,h⟩:=zn h
    refine yx hn 0 ?_
    refine ys 0 ⟨lb hv5⟩ ?_
    refine yw [8] 1 ?_
    refine ye [0,1,7,8] ?_
    exact bi _ (zi h).symm rfl
  ·have h:=aq hb18 h
   refine bh (aB (aB (bf ?_)))
   refine ah [] (by kernel_rfl) (es':=[]) rfl ?_
   exact hl13 _ (ho15 _ (zi h).symm).symm
theorem sE (s:Fa) (r:Bool) (h:Sh.ol s=some r):bL Tryz.prog 213 [.v (.string s)] (.v (.bool r)):=by
 unfold Sh.ol at h
 refine yO 9 func213 fun g0 hn hio => ?_
 refine aI hn 1 [0] ?_
 refine ab ?_
 refine aD h (fun (s2:Bool)=>[(2,vb s2)]) ?_ ?_
 ·rintro s2 h
  refine ag (am ?_)
  obtain rfl:=zi h
  exact ao hio rfl (.tmp _ _ .nil) rfl rfl
 ·intro u3 h hl4 hr5
  refine ak h (fun hg1_2 h => ?_) (fun hg1_2 h => ?_)
  ·obtain ⟨v1,hv1,h⟩:=zn h
   refine yx hn 3 ?_
   refine yd hg1_2 1 ?_
   refine ys 2 ⟨lk call81 (iL _ _ hv1)⟩ ?_
   refine ye [2] ?_
   exact hl4 _ (zi h).symm
  ·refine yx hn 3 ?_
   refine yd hg1_2 4 ?_
   refine ye [2] ?_
   exact hl4 _ (zi h).symm
theorem ir (mx:Int×Nat×Value) (s:Fa) (r:Bool) (h:Sh.dp s=some r):fk Tryz.prog (GL mx) 69 [.v (.string s),.v (.func (.func 213) #[] #[])] (.v (.bool r)):=by
 unfold Sh.dp at h
 refine yG 13 func69 fun g0 hn hio => ?_
 refine eC hn 1 ?_
 refine yS (.box 4 [vb false]) 0 ⟨oA (aP _ _ CL)⟩ ?_
 refine aT [0,13,3,4] ?_
 refine ab (ab ?_)
 obtain ⟨v1,hv1,h⟩:=zn h
 refine yx hn 1 ?_
 refine yk [] [6] ?_
 refine yt (7,.cloB 119 [.box 9 [vs v1.1],.box 9 [vs v1.2.1],.box 3 [vi v1.2.2]]) 0 ⟨eR _ _ 80 _ _ rfl call80 rfl rfl (eK s (⟨#[46]⟩:Fa) _ hv1) rfl⟩ ?_
 refine aT [13,3,4,7] ?_
 refine aH ?_
 refine gJ [3,0,1,2] (by kernel_rfl) (es':=[(7,.cloB 119 [.box 9 [vs v1.1],.box 9 [vs v1.2.1],.box 3 [vi v1.2.2]]),(13,.glob (GL mx)),(3,.box 65 [.v (.func (.func 213) #[] #[])]),(4,.box 4 [vb false])]) rfl ?_
 refine fx h 119 7 8 14 _ [13,3,4] call119 (fun (():Unit)=>[(13,.glob (GL mx)),(3,.box 65 [.v (.func (.func 213) #[] #[])]),(4,.box 4 [.v (.bool false)])]) (fun (():Unit)=>[(13,.glob (GL mx)),(3,.box 65 [.v (.func (.func 213) #[] #[])]),(4,.box 4 [.v (.bool false)])]) (fun l J Y hY t t' h=>dV mx l J Y hY v1.1 v1.2.1 v1.2.2 t t' h) hn rfl (fun _=>rfl) (fun _=>rfl) (fun _=>rfl) rfl rfl (fun _=>⟨rfl,rfl⟩) rfl (fw 13 rfl) ?_ ?_ ?_
 ·rintro kk g0 hn hio x ⟨⟩ u h
  refine oY (es':=[(8,vs x),(13,.glob (GL mx)),(3,.box 65 [.v (.func (.func 213) #[] #[])]),(4,.box 4 [vb false]),(13,.v (kk.tm.getD 13 undef)),(3,.v (kk.tm.getD 3 undef)),(4,.v (kk.tm.getD 4 undef)),(14,.inv kk.ready)]) rfl ?_
  refine yy hn 1 [13,3,4,14,5,13,3,4] ?_
  refine ah [0,1,2,4,5,6,7,3] (by kernel_rfl) (es':=[(13,.glob (GL mx)),(3,.box 65 [.v (.func (.func 213) #[] #[])]),(4,.box 4 [vb false]),(5,vs x),(13,.v (kk.tm.getD 13 undef)),(3,.v (kk.tm.getD 3 undef)),(4,.v (kk.tm.getD 4 undef)),(14,.inv kk.ready)]) rfl ?_
  refine gR (es:=[(13,.glob (GL mx)),(3,.box 65 [.v (.func (.func 213) #[] #[])]),(4,.box 4 [vb false]),(5,vs x),(13,.v (kk.tm.getD 13 undef)),(3,.v (kk.tm.getD 3 undef)),(4,.v (kk.tm.getD 4 undef))]) 14 rfl ?_
  refine aH (ab ?_)
  obtain ⟨v2,hv2,h⟩:=zn h
  refine yx hn 2 ?_
  refine ys 1 ⟨lk call213 (sE _ _ hv2)⟩ ?_
  refine aT [13,3,4,14,12,13,3,4] ?_
  refine al _ rfl (fun hb5 => ?_) (fun hb5 => ?_)
  ·have h:=ap hb5 h
   refine aI hn 1 [13,3,4,14,13,3,4] ?_
   refine am (aG ?_)
   refine ah [0,1,2,4,5,6,3] (by kernel_rfl) (es':=[(_,_),(_,_),(_,_),(_,_),(_,_),(_,_),(_,_)]) rfl ?_
   obtain rfl:=zi h
   exact mU 14 [13,3,4] _ rfl rfl (by kernel_rfl)
  ·have h:=aq hb5 h
   refine ar (aJ ?_)
   refine ah [0,1,2,5,6,7,3] (by kernel_rfl) (es':=[(_,_),(_,_),(_,_),(_,_),(_,_),(_,_),(_,_)]) rfl ?_
   obtain rfl:=zi h
   exact gT 14 [13,3,4] _ rfl rfl (by kernel_rfl)
 ·rintro D ⟨⟩ h
  refine aJ (ag ?_)
  refine aI hn 1 [13,4] ?_
  refine am ?_
  refine ah [1] (by kernel_rfl) (es':=[(_,_)]) rfl ?_
  obtain rfl:=zi h
  exact ao hio rfl (.cell1 _ _ _ _ underlying4 rfl .nil) rfl rfl
 ·rintro D ⟨⟩ h
  refine ah [2] (by kernel_rfl) (es':=[(_,_)]) rfl ?_
  refine aG (ai ?_)
  obtain rfl:=zi h
  exact ao hio rfl (.cell1 _ _ _ _ underlying4 rfl .nil) rfl rfl
theorem mc (mx:Int×Nat×Value) (s:Fa) (r:Bool) (h:Sh.mE s=some r):fk Tryz.prog (GL mx) 194 [.v (.string s)] (.v (.bool r)):=by
 unfold Sh.mE at h
 refine yG 10 func194 fun g0 hn hio => ?_
 refine aI hn 1 [0,10] ?_
 refine ab ?_
 refine aD h (fun (s2:Bool)=>[(10,.glob (GL mx)),(2,vb s2)]) ?_ ?_
 ·rintro s2 h
  refine ag (am ?_)
  refine ah [1] (by kernel_rfl) (es':=[(_,_)]) rfl ?_
  obtain rfl:=zi h
  exact ao hio rfl (.tmp _ _ .nil) rfl rfl
 ·intro u3 h hl4 hr5
  refine ak h (fun hg1_3 h => ?_) (fun hg1_3 h => ?_)
  ·obtain ⟨v1,hv1,h⟩:=zn h
   refine yx hn 4 ?_
   refine yd hg1_3 1 ?_
   refine ys 2 ⟨lg call69 (ir _ _ _ hv1) 10⟩ ?_
   refine ye [10,2] ?_
   exact hl4 _ (zi h).symm
  ·refine yx hn 4 ?_
   refine yd hg1_3 4 ?_
   refine ye [10,2] ?_
   exact hl4 _ (zi h).symm
end Go.Proofs.YtjnnkhmhjcjhdaaGreatDoor
