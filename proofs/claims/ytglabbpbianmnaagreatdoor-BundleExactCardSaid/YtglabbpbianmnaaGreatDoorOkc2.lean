import Derived.Test.YtglabbpbianmnaaGreatDoorOkc1
set_option linter.unusedVariables false
set_option linter.unusedSimpArgs false
set_option maxHeartbeats 1000000
namespace Go.Proofs.YtglabbpbianmnaaGreatDoor
open Go.Abs Go.Abs.Sh Tryz
open List (map flatten)
open Value (int)
theorem qN (mx:Int) (s:(List Int)) (sep:(List Int)) (r:((List Int)×(List Int)×Bool)) (h:Sh.dy s sep=some r):kF Tryz.prog (GL mx) 34 [.fl .shr 1 (map (int .u8) s),.fl .shr 1 (map (int .u8) sep)] (.tup [.fl .shr 1 (map (int .u8) r.1),.fl .shr 1 (map (int .u8) r.2.1),.v (.bool r.2.2)]):=by
 unfold Sh.dy at h
 refine yG 23 func34 fun g0 hn hio => ?_
 refine bi hn 3 [0,1,23] ?_
 refine ag (ag ?_)
 obtain ⟨v1,hv1,h⟩:=zn h
 refine yx hn 2 ?_
 refine ys 1 ⟨lg call56 (mw _ _ _ _ hv1) 23⟩ ?_
 refine bK [0,1,23,7] ?_
 refine bi hn 2 [0,1,23,7,12] ?_
 refine aA _ rfl (fun hb2 => ?_) (fun hb2 => ?_)
 ·have h:=aH hb2 h
  refine ag ?_
  obtain ⟨v3,hv3,h⟩:=zn h
  obtain ⟨v4,hv4,h⟩:=zn h
  obtain ⟨v5,hv5,h⟩:=zn h
  refine wb [[0],[7]] ?_
  refine wN [13,14] ?_
  refine wS (fb v3) [[0],[7],[1],[18]] ⟨ik _ _ _ 0 v1 _ underlying25 nV rfl rfl rfl ⟨_,rfl⟩ hv3⟩ ?_
  refine wN [17,19] ?_
  refine wo [] ⟨lb hv4⟩ ?_
  refine wN [16,20] ?_
  refine wS (fb v5) [[15],[21],[]] ⟨ik _ _ _ v4 (s.length:Int) _ underlying25 nV rfl rfl ⟨_,rfl⟩ rfl hv5⟩ ?_
  refine rz hn [23,4,5,6] ?_
  refine aD ?_
  refine aC [1,2,3] (by kernel_rfl) (es':=[(_,_),(_,_),(_,_)]) rfl ?_
  refine am ?_
  obtain rfl:=zi h
  exact aF hio rfl (.tmp _ _ (.tmp _ _ (.tmp _ _ .nil))) rfl rfl
 ·have h:=aG hb2 h
  refine aB (ai ?_)
  refine bi hn 4 [23,4,5,6] ?_
  refine aD ?_
  refine aC [1,2,3] (by kernel_rfl) (es':=[(_,_),(_,_),(_,_)]) rfl ?_
  refine dl (fs:=[(4,fb s),(5,fb []),(6,vb false)]) (.same _ (.sub _ (wM 1) rfl (.same _ .nil))) ?_
  obtain rfl:=zi h
  exact aF hio rfl (.tmp _ _ (.tmp _ _ (.tmp _ _ .nil))) rfl rfl
theorem gT (mx:Int) (l:Nat) {S:Type} (J:S→kL) (Y:(List Int)→S→Option (S×Bool)) (hY:pg Tryz.prog l (fun x => .fl .shr 1 (map (int .u8) x)) Y J) (c0:(List Int)) (st r:S) (h:Sh.fo Y c0 st=some r):Ig Tryz.prog (GL mx) 89 l [.box 25 [.fl .shr 1 (map (int .u8) c0)]] (J st) (J r):=by
 unfold Sh.fo at h
 refine yI 23 func89 fun g0 hn hio => ?_
 refine bj h (fun ((s17,s18):(List Int)×S)=>[(0,.v (.func (.yield l) #[] #[])),(1,.box 25 [fb s17]),(23,.glob (GL mx)),(24,.inv (J s18))]) (fun (():Unit)=>[]) ?_ ?_
 ·rintro ⟨⟩ h
  cases h
 ·rintro u25 hl26 hr27 ⟨s17,s18⟩ rr30 h ho28
  refine aS (ag ?_)
  obtain ⟨v1,hv1,h⟩:=zn h
  refine yx hn 1 ?_
  refine yS (.fl (.own 5) 1 (map (int .u8) [13,10])) 0 ⟨ce _ _ 1 (.int .u8 0) (map (int .u8) [13,10]) [(0,.int .u8 13),(1,.int .u8 10)] underlying25 nV tq (fun _ V w o a hv hes=>by simp only [List.map_toArray,List.map_cons,List.map_nil]; try rfl) (fy (by simp [Instr.fill,Value.cells]; rfl) (by simp [List.range,List.range.loop] <;> rfl)) (by simp [Value.oneCell']) rfl (by decide) (by decide) (by decide)⟩ ?_
  refine yk [8] [] ?_
  refine yt (9,.fl .ro 1 (map (int .u8) [13,10])) 0 ⟨gB _ _ _ underlying25 underlying5 (by intro h; cases h)⟩ ?_
  refine yk [] [7,9,23] ?_
  refine yt (10,.tup [fb v1.1,fb v1.2.1,vb v1.2.2]) 0 ⟨zV _ _ 23 34 _ _ rfl call34 rfl rfl rfl (fun _ h=>h) (qN mx s17 [13,10] _ hv1) rfl⟩ ?_
  refine ym 6 ?_
  refine bK [0,1,23,24,3,4,5] ?_
  refine ag (ag ?_)
  refine aP h (fun ((s31,s32):S×Bool)=>[(0,.v (.func (.yield l) #[] #[])),(1,.box 25 [fb s17]),(23,.glob (GL mx)),(24,.inv (J s31)),(4,fb v1.2.1),(21,vb s32)]) ?_ ?_
  ·rintro ⟨s31,s32⟩ h
   refine ai ?_
   refine aA _ rfl (fun hb36 => ?_) (fun hb36 => ?_)
   ·have h:=aH hb36 h
    refine aD ?_
    refine aC [3] (by kernel_rfl) (es':=[(24,.inv (J s31))]) rfl ?_
    refine am (aY (am (aY ?_)))
    have h:=hr27 _ (ho28 _ (zi h).symm).symm
    obtain rfl:=zi h
    exact ra hio rfl rfl rfl
   ·have h:=aG hb36 h
    refine aB (ai ?_)
    refine yy hn 2 [0,1,23,24] ?_
    refine bA ?_
    exact bF _ (zi h).symm rfl
  ·intro u33 h hl34 hr35
   refine au h (fun hg1_2 h => ?_) (fun hg1_2 h => ?_)
   ·refine yx hn 3 ?_
    refine yd hg1_2 5 ?_
    refine ye [0,1,23,24,4,21] ?_
    exact hl34 _ (zi h).symm
   ·obtain ⟨v2,hv2,h⟩:=zn h
    refine yx hn 3 ?_
    refine yd hg1_2 2 ?_
    refine yk [24] [18,17] ?_
    refine qk (24,.inv (J v2.1)) (19,vb v2.2) 2 ⟨pF _ _ 24 l v1.1 s18 v2 hY hv2 rfl rfl rfl⟩ ?_
    refine ye [0,1,23,24,4,21] ?_
    exact hl34 _ (zi h).symm
theorem pj (mx:Int) (s:List Int) (c:Li) (r:Int) (h:Sh.gh s c=some r):kF Tryz.prog (GL mx) 105 [.fl .shr 1 (map (int .u8) s),.v (.string c)] (.v (.int .i64 r)) :=
 oy (yA mx) (yR mx) (DL mx) (fun s b off c w hs hnc hb hm hmb k1 k2 HG hp=>Tryz.idx_crlf s b off c w mx hs hnc hb hm hmb (xu gW js (by kernel_rfl) (by kernel_rfl) k1 k2) HG hp) Tryz.idx_none s c r h
theorem mv (mx:Int) (b:(List Int)) (chars:Li) (r:Bool) (h:Sh.cy b chars=some r):kF Tryz.prog (GL mx) 84 [.fl .shr 1 (map (int .u8) b),.v (.string chars)] (.v (.bool r)):=by
 unfold Sh.cy at h
 refine yG 9 func84 fun g0 hn hio => ?_
 refine bi hn 1 [0,1,9] ?_
 refine ag ?_
 obtain ⟨v1,hv1,h⟩:=zn h
 refine yx hn 2 ?_
 refine ys 2 ⟨lg call105 (pj _ _ _ _ hv1) 9⟩ ?_
 refine bK [9,4] ?_
 refine aD ?_
 refine aC [1] (by kernel_rfl) (es':=[(_,_)]) rfl ?_
 obtain rfl:=zi h
 exact aF hio rfl (.tmp _ _ .nil) rfl rfl
theorem kN (mx:Int) (b:(List Int)) (r:Int) (h:Sh.cM b=some r):kF Tryz.prog (GL mx) 65 [.fl .shr 1 (map (int .u8) b)] (.v (.int .i64 r)):=by
 unfold Sh.cM at h
 refine yG 19 func65 fun g0 hn hio => ?_
 refine gv hn 0 ?_
 refine yS (.box 29 [vi 0]) 0 ⟨oA (bz _ _ JU)⟩ ?_
 refine bK [0,19,2] ?_
 refine gv hn 0 ?_
 refine yS (.box 3 [vi 0]) 1 ⟨oA (bz _ _ IW)⟩ ?_
 refine bK [0,19,2,3] ?_
 refine ag (ag ?_)
 obtain ⟨v1,hv1,h⟩:=zn h
 refine yx hn 1 ?_
 refine yk [] [5] ?_
 refine yt (6,.cloB 89 [.box 25 [fb v1]]) 0 ⟨jA _ _ 69 _ _ rfl call69 rfl rfl (jp b _ hv1) rfl⟩ ?_
 refine bK [0,19,2,3,6] ?_
 refine aS ?_
 refine jY [4,0,1,2,3] (by kernel_rfl) (es':=[(6,.cloB 89 [.box 25 [fb v1]]),(0,fb b),(19,.glob (GL mx)),(2,.box 29 [vi 0]),(3,.box 3 [vi 0])]) rfl ?_
 refine ke h 89 6 7 20 _ [0,19,2,3] call89 (fun (s8:Int)=>[(0,fb b),(19,.glob (GL mx)),(2,.box 29 [.v (.int .i64 0)]),(3,.box 3 [.v (.int .i64 s8)])]) (fun (s10:Int)=>[(0,fb b),(19,.glob (GL mx)),(2,.box 29 [.v (.int .i64 5)]),(3,.box 3 [.v (.int .i64 s10)])]) (fun l J Y hY t t' h=>gT mx l J Y hY v1 t t' h) hn rfl (fun _=>rfl) (fun _=>rfl) (fun _=>rfl) rfl rfl (fun _=>⟨rfl,rfl⟩) rfl (kg 19 rfl) ?_ ?_ ?_
 ·rintro kk g0 hn hio x s8 u h
  refine tz (es':=[(7,fb x),(0,fb b),(19,.glob (GL mx)),(2,.box 29 [vi 0]),(3,.box 3 [vi s8]),(0,.v (kk.tm.getD 0 undef)),(19,.v (kk.tm.getD 19 undef)),(2,.v (kk.tm.getD 2 undef)),(3,.v (kk.tm.getD 3 undef)),(20,.inv kk.ready)]) rfl ?_
  refine yy hn 1 [0,19,2,3,20,4,0,19,2,3] ?_
  refine aC [0,1,2,3,5,6,7,8,9,4] (by kernel_rfl) (es':=[(0,fb b),(19,.glob (GL mx)),(2,.box 29 [vi 0]),(3,.box 3 [vi s8]),(4,fb x),(0,.v (kk.tm.getD 0 undef)),(19,.v (kk.tm.getD 19 undef)),(2,.v (kk.tm.getD 2 undef)),(3,.v (kk.tm.getD 3 undef)),(20,.inv kk.ready)]) rfl ?_
  refine kV (es:=[(0,fb b),(19,.glob (GL mx)),(2,.box 29 [vi 0]),(3,.box 3 [vi s8]),(4,fb x),(0,.v (kk.tm.getD 0 undef)),(19,.v (kk.tm.getD 19 undef)),(2,.v (kk.tm.getD 2 undef)),(3,.v (kk.tm.getD 3 undef))]) 20 rfl ?_
  refine aS (ag (ag ?_))
  obtain ⟨v2,hv2,h⟩:=zn h
  refine yx hn 1 ?_
  refine ys 0 ⟨lg call84 (mv _ _ _ _ hv2) 19⟩ ?_
  refine bK [0,19,2,3,4,20,9,0,19,2,3] ?_
  refine aA _ rfl (fun hb11 => ?_) (fun hb11 => ?_)
  ·have h:=aH hb11 h
   refine bi hn 1 [0,19,2,3,20,0,19,2,3] ?_
   refine aD (am (aY ?_))
   refine aC [0,1,2,3,5,6,7,8,4] (by kernel_rfl) (es':=[(_,_),(_,_),(_,_),(_,_),(_,_),(_,_),(_,_),(_,_),(_,_)]) rfl ?_
   obtain rfl:=zi h
   exact rl 20 [0,19,2,3] _ rfl rfl (by kernel_rfl)
  ·have h:=aG hb11 h
   refine aB (ai ?_)
   obtain ⟨v4,hv4,h⟩:=zn h
   obtain ⟨v5,hv5,h⟩:=zn h
   refine yx hn 3 ?_
   refine ys 0 ⟨lb hv4⟩ ?_
   refine ys 1 ⟨lb hv5⟩ ?_
   refine ye [0,19,2,3,20,0,19,2,3] ?_
   refine bA ?_
   refine aC [0,1,2,3,5,6,7,8,4] (by kernel_rfl) (es':=[(_,_),(_,_),(_,_),(_,_),(_,_),(_,_),(_,_),(_,_),(_,_)]) rfl ?_
   obtain rfl:=zi h
   exact kX 20 [0,19,2,3] _ rfl rfl (by kernel_rfl)
 ·rintro D s8 h
  refine bA ?_
  refine ai (ag ?_)
  refine bi hn 4 [19,2,18] ?_
  refine aA _ rfl (fun hb12 => ?_) (fun hb12 => ?_)
  ·have h:=aH hb12 h
   refine bi hn 1 [19,2] ?_
   refine aD ?_
   refine aC [1] (by kernel_rfl) (es':=[(_,_)]) rfl ?_
   refine am ?_
   obtain rfl:=zi h
   exact aF hio rfl (.cell1 _ _ _ _ underlying29 rfl .nil) rfl rfl
  ·have h:=aG hb12 h
   refine aB (ai ?_)
   refine bi hn 1 [19,2] ?_
   refine aD ?_
   refine aC [1] (by kernel_rfl) (es':=[(_,_)]) rfl ?_
   obtain rfl:=zi h
   exact aF hio rfl (.cell1 _ _ _ _ underlying29 rfl .nil) rfl rfl
 ·rintro D s10 h
  refine aC [2] (by kernel_rfl) (es':=[(_,_)]) rfl ?_
  refine aY (am ?_)
  obtain rfl:=zi h
  exact aF hio rfl (.cell1 _ _ _ _ underlying29 rfl .nil) rfl rfl
theorem fx (mx:Int) (m:ae) (r:Bool) (h:Sh.cI m=some r):kF Tryz.prog (GL mx) 42 [.agg [.v (.bool m.La.Le),.v (.string m.La.Lc),.v (.string m.La.KZ),.fl .shr 3 (flatten (map aj.enc m.To)),.fl .shr 1 (map (int .u8) m.KY),.v (.bool m.Lh),.v (.string m.Lb),.v (.int .i64 m.At)]] (.v (.bool r)):=by
 unfold Sh.cI at h
 refine yG 17 func42 fun g0 hn hio => ?_
 refine bi hn 2 [17,1] ?_
 refine ag ?_
 refine aP h (fun (s3:Bool)=>[(17,.glob (GL mx)),(2,vb s3)]) ?_ ?_
 ·rintro s3 h
  refine ai (aD ?_)
  refine aC [1] (by kernel_rfl) (es':=[(_,_)]) rfl ?_
  obtain rfl:=zi h
  exact aF hio rfl (.tmp _ _ .nil) rfl rfl
 ·intro u4 h hl5 hr6
  obtain ⟨v1,hv1,h⟩:=zn h
  refine au h (fun hg1_2 h => ?_) (fun hg1_2 h => ?_)
  ·refine au h (fun hg1_8 h => ?_) (fun hg1_8 h => ?_)
   ·obtain ⟨v2,hv2,h⟩:=zn h
    refine yx hn 1 ?_
    refine ys 1 ⟨lg call64 (iF _ _ _ hv1) 17⟩ ?_
    refine yd hg1_2 6 ?_
    refine yd hg1_8 2 ?_
    refine ys 3 ⟨lg call65 (kN _ _ _ hv2) 17⟩ ?_
    refine ye [17,2] ?_
    exact hl5 _ (zi h).symm
   ·refine yx hn 1 ?_
    refine ys 1 ⟨lg call64 (iF _ _ _ hv1) 17⟩ ?_
    refine yd hg1_2 6 ?_
    refine yd hg1_8 6 ?_
    refine ye [17,2] ?_
    exact hl5 _ (zi h).symm
  ·refine yx hn 1 ?_
   refine ys 1 ⟨lg call64 (iF _ _ _ hv1) 17⟩ ?_
   refine yd hg1_2 12 ?_
   refine ye [17,2] ?_
   exact hl5 _ (zi h).symm
theorem cQ (mx:Int) (b:az) (r:Int) (h:Sh.cS b=some r):kF Tryz.prog (GL mx) 19 [.agg [.v (.int .i64 b.Lg),.v (.int .i64 b.Lf),.fr .shr true 8 (flatten (map ae.ienc b.Ld))]] (.v (.int .i64 r)):=by
 unfold Sh.cS at h
 refine yG 58 func19 fun g0 hn hio => ?_
 refine bi hn 2 [58,1] ?_
 refine ag (ag ?_)
 refine aP h (fun (s1:Bool)=>[(58,.glob (GL mx)),(1,.box 24 [vi b.Lg,vi b.Lf,.fr .shr true 8 (flatten (map ae.ienc b.Ld))]),(22,vb s1)]) ?_ ?_
 ·rintro s1 h
  refine ai ?_
  refine aA _ rfl (fun hb5 => ?_) (fun hb5 => ?_)
  ·have h:=aH hb5 h
   refine bi hn 1 [58,2] ?_
   refine aD ?_
   refine aC [1] (by kernel_rfl) (es':=[(_,_)]) rfl ?_
   refine am ?_
   obtain rfl:=zi h
   exact aF hio rfl (.tmp _ _ .nil) rfl rfl
  ·have h:=aG hb5 h
   refine aB ?_
   refine ai (ag ?_)
   refine ag ?_
   refine aP h (fun (s6:Bool)=>[(58,.glob (GL mx)),(1,.box 24 [vi b.Lg,vi b.Lf,.fr .shr true 8 (flatten (map ae.ienc b.Ld))]),(32,vb s6)]) ?_ ?_
   ·rintro s6 h
    refine ai ?_
    refine aA _ rfl (fun hb10 => ?_) (fun hb10 => ?_)
    ·have h:=aH hb10 h
     refine bi hn 1 [58,2] ?_
     refine aD ?_
     refine aC [1] (by kernel_rfl) (es':=[(_,_)]) rfl ?_
     refine am ?_
     obtain rfl:=zi h
     exact aF hio rfl (.tmp _ _ .nil) rfl rfl
    ·have h:=aG hb10 h
     refine aB ?_
     refine ai (ag ?_)
     refine bi hn 4 [58,34,35,36] ?_
     refine bj h (fun (s28:Int)=>[(58,.glob (GL mx)),(34,.fr .shr true 8 (flatten (map ae.ienc b.Ld))),(35,vi (b.Ld.length:Int)),(36,vi s28)]) (fun (():Unit)=>[(58,.glob (GL mx))]) ?_ ?_
     ·rintro ⟨⟩ h
      refine ai ?_
      refine bi hn 1 [58,2] ?_
      refine aD ?_
      refine aC [1] (by kernel_rfl) (es':=[(_,_)]) rfl ?_
      obtain rfl:=zi h
      exact aF hio rfl (.tmp _ _ .nil) rfl rfl
     ·rintro u35 hl36 hr37 s28 rr40 h ho38
      refine bi hn 1 [58,34,35,36,37] ?_
      refine ag ?_
      refine aA _ rfl (fun hb41 => ?_) (fun hb41 => ?_)
      ·have h:=aH hb41 h
       refine aB ?_
       refine ai (ag ?_)
       refine aS (ag ?_)
       obtain ⟨v12,hv12,h⟩:=zn h
       obtain ⟨v13,hv13,h⟩:=zn h
       refine yx hn 0 ?_
       refine ys 0 ⟨lI hv12⟩ ?_
       refine yS (.agg (ae.c v13 [])) 0 ⟨eg _ _ _ _ _ _ _ _ underlying46 rfl eD rfl rfl (fc ae.ilen hv13) (.cons (.v _) (.cons (.v _) (.cons (.v _) (.cons (.fl _ _ rfl) (.cons (.fl _ _ rfl) (.cons (.v _) (.cons (.v _) (.cons (.v _) (.nil))))))))) rfl (by decide)⟩ ?_
       refine yS (.box 46 [vb false,vs z0,vs z0,vz,vz,vb false,vs z0,vi 0]) 1 ⟨oA (bz _ _ kh)⟩ ?_
       refine bK [58,34,35,36,4] ?_
       refine ag ?_
       refine aP h (fun (s42:Bool)=>[(58,.glob (GL mx)),(34,.fr .shr true 8 (flatten (map ae.ienc b.Ld))),(35,vi (b.Ld.length:Int)),(36,vi s28),(56,vb s42)]) ?_ ?_
       ·rintro s42 h
        refine ai ?_
        refine aA _ rfl (fun hb46 => ?_) (fun hb46 => ?_)
        ·have h:=aH hb46 h
         refine bi hn 1 [58,2] ?_
         refine aD ?_
         refine aC [1] (by kernel_rfl) (es':=[(_,_)]) rfl ?_
         refine aY (am (am (aY (am ?_))))
         have h:=hr37 _ (ho38 _ (zi h).symm).symm
         obtain rfl:=zi h
         exact aF hio rfl (.tmp _ _ .nil) rfl rfl
        ·have h:=aG hb46 h
         refine aB (bA (ai ?_))
         obtain ⟨v20,hv20,h⟩:=zn h
         refine yx hn 0 ?_
         refine ys 0 ⟨lb hv20⟩ ?_
         refine yw [36] 1 ?_
         refine ye [58,34,35,36] ?_
         exact bF _ (zi h).symm rfl
       ·intro u43 h hl44 hr45
        obtain ⟨v14,hv14,h⟩:=zn h
        refine au h (fun hg8_3 h => ?_) (fun hg8_3 h => ?_)
        ·refine yx hn 1 ?_
         refine ys 2 ⟨lg call42 (fx _ _ _ hv14) 58⟩ ?_
         refine yd hg8_3 13 ?_
         refine ye [58,34,35,36,56] ?_
         exact hl44 _ (zi h).symm
        ·refine au h (fun hg8_7 h => ?_) (fun hg8_7 h => ?_)
         ·refine yx hn 1 ?_
          refine ys 2 ⟨lg call42 (fx _ _ _ hv14) 58⟩ ?_
          refine yd hg8_3 4 ?_
          refine yd hg8_7 9 ?_
          refine ye [58,34,35,36,56] ?_
          exact hl44 _ (zi h).symm
         ·refine au h (fun hg8_12 h => ?_) (fun hg8_12 h => ?_)
          ·refine yx hn 1 ?_
           refine ys 2 ⟨lg call42 (fx _ _ _ hv14) 58⟩ ?_
           refine yd hg8_3 4 ?_
           refine yd hg8_7 5 ?_
           refine yd hg8_12 4 ?_
           refine ye [58,34,35,36,56] ?_
           exact hl44 _ (zi h).symm
          ·refine yx hn 1 ?_
           refine ys 2 ⟨lg call42 (fx _ _ _ hv14) 58⟩ ?_
           refine yd hg8_3 4 ?_
           refine yd hg8_7 5 ?_
           refine yd hg8_12 4 ?_
           refine ye [58,34,35,36,56] ?_
           exact hl44 _ (zi h).symm
      ·have h:=aG hb41 h
       refine bx (aE (aE (bu ?_)))
       refine aC [0] (by kernel_rfl) (es':=[(_,_)]) rfl ?_
       exact hl36 _ (ho38 _ (zi h).symm).symm
   ·intro u7 h hl8 hr9
    refine au h (fun hg3_4 h => ?_) (fun hg3_4 h => ?_)
    ·refine yx hn 5 ?_
     refine yd hg3_4 5 ?_
     refine ye [58,1,32] ?_
     exact hl8 _ (zi h).symm
    ·refine yx hn 5 ?_
     refine yd hg3_4 5 ?_
     refine ye [58,1,32] ?_
     exact hl8 _ (zi h).symm
 ·intro u2 h hl3 hr4
  refine au h (fun hg1_3 h => ?_) (fun hg1_3 h => ?_)
  ·refine au h (fun hg1_8 h => ?_) (fun hg1_8 h => ?_)
   ·refine yx hn 4 ?_
    refine yd hg1_3 5 ?_
    refine yd hg1_8 9 ?_
    refine ye [58,1,22] ?_
    exact hl3 _ (zi h).symm
   ·refine au h (fun hg1_13 h => ?_) (fun hg1_13 h => ?_)
    ·refine yx hn 4 ?_
     refine yd hg1_3 5 ?_
     refine yd hg1_8 5 ?_
     refine yd hg1_13 4 ?_
     refine ye [58,1,22] ?_
     exact hl3 _ (zi h).symm
    ·refine yx hn 4 ?_
     refine yd hg1_3 5 ?_
     refine yd hg1_8 5 ?_
     refine yd hg1_13 4 ?_
     refine ye [58,1,22] ?_
     exact hl3 _ (zi h).symm
  ·refine au h (fun hg1_13 h => ?_) (fun hg1_13 h => ?_)
   ·refine yx hn 4 ?_
    refine yd hg1_3 10 ?_
    refine yd hg1_13 4 ?_
    refine ye [58,1,22] ?_
    exact hl3 _ (zi h).symm
   ·refine yx hn 4 ?_
    refine yd hg1_3 10 ?_
    refine yd hg1_13 4 ?_
    refine ye [58,1,22] ?_
    exact hl3 _ (zi h).symm
theorem uo (mx:Int) (p:aj) (r:(Li×Int)) (h:Sh.ly p=some r):kF Tryz.prog (GL mx) 50 [.agg [.v (.bool p.Le),.v (.string p.Lc),.v (.string p.KZ)]] (.tup [.v (.string r.1),.v (.int .i64 r.2)]):=by
 unfold Sh.ly at h
 refine yG 20 func50 fun g0 hn hio => ?_
 refine bi hn 3 [20,1] ?_
 refine ag (ag ?_)
 obtain ⟨v1,hv1,h⟩:=zn h
 refine yx hn 1 ?_
 refine ys 1 ⟨lg call68 (fq _ _ _ hv1) 20⟩ ?_
 refine bK [20,1,4] ?_
 refine bi hn 2 [20,1,4,8] ?_
 refine aA _ rfl (fun hb2 => ?_) (fun hb2 => ?_)
 ·have h:=aH hb2 h
  refine bi hn 3 [20,2,3] ?_
  refine aD ?_
  refine aC [1,2] (by kernel_rfl) (es':=[(_,_),(_,_)]) rfl ?_
  refine am ?_
  obtain rfl:=zi h
  exact aF hio rfl (.tmp _ _ (.tmp _ _ .nil)) rfl rfl
 ·have h:=aG hb2 h
  refine aB ?_
  refine ai (ag ?_)
  refine bi hn 2 [20,1,11] ?_
  refine aA _ rfl (fun hb3 => ?_) (fun hb3 => ?_)
  ·have h:=aH hb3 h
   refine bi hn 2 [20,2,3] ?_
   refine aD ?_
   refine aC [1,2] (by kernel_rfl) (es':=[(_,_),(_,_)]) rfl ?_
   refine am ?_
   obtain rfl:=zi h
   exact aF hio rfl (.tmp _ _ (.tmp _ _ .nil)) rfl rfl
  ·have h:=aG hb3 h
   refine aB ?_
   refine ai (ag ?_)
   obtain ⟨v4,hv4,h⟩:=zn h
   obtain ⟨v5,hv5,h⟩:=zn h
   obtain ⟨v6,hv6,h⟩:=zn h
   obtain ⟨v7,hv7,h⟩:=zn h
   refine yx hn 2 ?_
   refine ys 0 ⟨lB (dD hv4)⟩ ?_
   refine ys 2 ⟨lB (dD hv5)⟩ ?_
   refine ys 0 ⟨lB (dD hv6)⟩ ?_
   refine ys 2 ⟨lB (dD hv7)⟩ ?_
   refine bK [20,2,3] ?_
   refine aD ?_
   refine aC [1,2] (by kernel_rfl) (es':=[(_,_),(_,_)]) rfl ?_
   obtain rfl:=zi h
   exact aF hio rfl (.tmp _ _ (.tmp _ _ .nil)) rfl rfl
theorem gO (mx:Int) (word:Li) (p:aj) (cap:(List Int)) (r:(List Int)) (h:Sh.cd word p cap=some r):xy Tryz.prog (GL mx) 49 [.v (.string word),.agg [.v (.bool p.Le),.v (.string p.Lc),.v (.string p.KZ)],.box 25 [.fl (.own 5) 1 (map (int .u8) cap)]] [.v (.string word),.agg [.v (.bool p.Le),.v (.string p.Lc),.v (.string p.KZ)],.box 25 [.fl (.own 5) 1 (map (int .u8) r)]] (.tup []):=by
 unfold Sh.cd at h
 refine KQ 18 func49 fun args0 hargs0 g0 hn hio => ?_
 refine bi hn 1 [0,1,2,18,4,0,1,2] ?_
 refine ag ?_
 obtain ⟨v1,hv1,h⟩:=zn h
 refine yx hn 1 ?_
 refine ys 0 ⟨lg call50 (uo _ _ _ hv1) 18⟩ ?_
 refine ym 4 ?_
 refine bK [0,1,2,18,5,0,1,2] ?_
 obtain ⟨v2,hv2,h⟩:=zn h
 obtain ⟨v3,hv3,h⟩:=zn h
 obtain ⟨v4,hv4,h⟩:=zn h
 refine yx hn 3 ?_
 refine ys 0 ⟨lB (dD hv2)⟩ ?_
 refine ys 0 ⟨lB (dD hv3)⟩ ?_
 refine yk [2] [12,16] ?_
 refine qk (2,.box 25 [.any]) (17,.fl (.own 5) 1 (map (int .u8) v4)) 0 ⟨fP _ _ _ _ _ _ kE tq underlying9 rfl rfl (zl rfl) rfl rfl hv4 rfl (Nat.ne_of_beq_eq_false rfl) rfl rfl⟩ ?_
 refine yw [12] 0 ?_
 refine yk [17,2] [] ?_
 refine yt (2,.box 25 [.fl (.own 5) 1 (map (int .u8) v4)]) 0 ⟨aU _ _ _ _ _ _ _ _ qP rfl rfl rfl (zl rfl) rfl rfl⟩ ?_
 refine ye [0,1,2,18,0,1,2] ?_
 refine aC [0,1,2,4,5,6] (by kernel_rfl) (es':=[(_,_),(_,_),(_,_),(_,_),(_,_),(_,_)]) rfl ?_
 obtain rfl:=zi h
 exact EE (es:=[]) (posts:=[.v (.string word),.agg [.v (.bool p.Le),.v (.string p.Lc),.v (.string p.KZ)],.box 25 [.fl (.own 5) 1 (map (int .u8) v4)]]) hio rfl rfl .nil rfl rfl hargs0 rfl
theorem mj (a:(List Int)) (b:(List Int)) (r:Bool) (h:Sh.eN a b=some r):co Tryz.prog 37 [.fl .shr 1 (map (int .u8) a),.fl .shr 1 (map (int .u8) b)] (.v (.bool r)):=by
 unfold Sh.eN at h
 refine yO 10 func37 fun g0 hn hio => ?_
 refine bi hn 1 [0,1] ?_
 refine ag ?_
 obtain ⟨v1,hv1,h⟩:=zn h
 obtain ⟨v2,hv2,h⟩:=zn h
 refine yx hn 1 ?_
 refine ys 1 ⟨lS hv1⟩ ?_
 refine ys 2 ⟨lS hv2⟩ ?_
 refine bK [4] ?_
 refine aD ?_
 obtain rfl:=zi h
 exact aF hio rfl (.tmp _ _ .nil) rfl rfl
theorem gZ (s:(List Int)) (prefix_:(List Int)) (r:Bool) (h:Sh.cj s prefix_=some r):co Tryz.prog 70 [.fl .shr 1 (map (int .u8) s),.fl .shr 1 (map (int .u8) prefix_)] (.v (.bool r)):=by
 unfold Sh.cj at h
 refine yO 18 func70 fun g0 hn hio => ?_
 refine bi hn 1 [0,1] ?_
 refine ag ?_
 refine aP h (fun (s3:Bool)=>[(4,vb s3)]) ?_ ?_
 ·rintro s3 h
  refine ai (aD ?_)
  obtain rfl:=zi h
  exact aF hio rfl (.tmp _ _ .nil) rfl rfl
 ·intro u4 h hl5 hr6
  refine au h (fun hg1_5 h => ?_) (fun hg1_5 h => ?_)
  ·obtain ⟨v1,hv1,h⟩:=zn h
   obtain ⟨v2,hv2,h⟩:=zn h
   refine yx hn 6 ?_
   refine yd hg1_5 3 ?_
   refine yS (fb v1) 1 ⟨ik _ _ _ 0 (prefix_.length:Int) _ underlying25 nV rfl rfl rfl ⟨_,rfl⟩ hv1⟩ ?_
   refine ys 2 ⟨lk call37 (mj _ _ _ hv2)⟩ ?_
   refine ye [4] ?_
   exact hl5 _ (zi h).symm
  ·refine yx hn 6 ?_
   refine yd hg1_5 8 ?_
   refine ye [4] ?_
   exact hl5 _ (zi h).symm
theorem sX (mx:Int) (b:(List Int)) (r:((List Int)×Int)) (h:Sh.gq b=some r):kF Tryz.prog (GL mx) 51 [.fl .shr 1 (map (int .u8) b)] (.tup [.fl (.own 5) 1 (map (int .u8) r.1),.v (.int .i64 r.2)]):=by
 unfold Sh.gq at h
 refine yG 28 func51 fun g0 hn hio => ?_
 refine bi hn 2 [0,28] ?_
 refine ag (ag ?_)
 obtain ⟨v1,hv1,h⟩:=zn h
 refine yx hn 1 ?_
 refine ys 1 ⟨lg call65 (kN _ _ _ hv1) 28⟩ ?_
 refine bK [0,28,4] ?_
 refine bi hn 2 [0,28,4,10] ?_
 refine aA _ rfl (fun hb2 => ?_) (fun hb2 => ?_)
 ·have h:=aH hb2 h
  refine bi hn 3 [28,2,3] ?_
  refine aD ?_
  refine aC [1,2] (by kernel_rfl) (es':=[(_,_),(_,_)]) rfl ?_
  refine dl (fs:=[(2,.fl (.own 5) 1 (map (int .u8) [])),(3,vi v1)]) (.sub _ (cg 5 1) rfl (.same _ .nil)) ?_
  refine am ?_
  obtain rfl:=zi h
  exact aF hio rfl (.tmp _ _ (.tmp _ _ .nil)) rfl rfl
 ·have h:=aG hb2 h
  refine aB (ai ?_)
  refine gv hn 0 ?_
  refine yS (.box 25 [vz]) 0 ⟨oA (bz _ _ Hb)⟩ ?_
  refine bK [0,28,5] ?_
  refine ag (ag ?_)
  obtain ⟨v3,hv3,h⟩:=zn h
  refine yx hn 1 ?_
  refine yk [] [12] ?_
  refine yt (13,.cloB 89 [.box 25 [fb v3]]) 0 ⟨jA _ _ 69 _ _ rfl call69 rfl rfl (jp b _ hv3) rfl⟩ ?_
  refine bK [28,5,13] ?_
  refine aS ?_
  refine jY [2,0,1] (by kernel_rfl) (es':=[(13,.cloB 89 [.box 25 [fb v3]]),(28,.glob (GL mx)),(5,.box 25 [vz])]) rfl ?_
  refine gV (fs:=[(13,.cloB 89 [.box 25 [fb v3]]),(28,.glob (GL mx)),(5,.box 25 [.fl (.own 5) 1 (map (int .u8) [])])]) (.same _ (.same _ (.box _ _ (ay (cg 5 1) (cu)) rfl .nil))) ?_
  refine ke h 89 13 14 29 _ [28,5] call89 (fun (s21:(List Int))=>[(28,.glob (GL mx)),(5,.box 25 [.fl (.own 5) 1 (map (int .u8) s21)])]) (fun (():Unit)=>[]) (fun l J Y hY t t' h=>gT mx l J Y hY v3 t t' h) hn rfl (fun _=>rfl) (fun _=>rfl) (fun _=>rfl) rfl rfl (fun _=>⟨rfl,rfl⟩) rfl (kg 28 rfl) ?_ ?_ ?_
  ·rintro kk g0 hn hio x s21 u h
   refine tz (es':=[(14,fb x),(28,.glob (GL mx)),(5,.box 25 [.fl (.own 5) 1 (map (int .u8) s21)]),(28,.v (kk.tm.getD 28 undef)),(5,.v (kk.tm.getD 5 undef)),(29,.inv kk.ready)]) rfl ?_
   refine yy hn 1 [28,5,29,6,28,5] ?_
   refine aC [0,1,3,4,5,2] (by kernel_rfl) (es':=[(28,.glob (GL mx)),(5,.box 25 [.fl (.own 5) 1 (map (int .u8) s21)]),(6,fb x),(28,.v (kk.tm.getD 28 undef)),(5,.v (kk.tm.getD 5 undef)),(29,.inv kk.ready)]) rfl ?_
   refine kV (es:=[(28,.glob (GL mx)),(5,.box 25 [.fl (.own 5) 1 (map (int .u8) s21)]),(6,fb x),(28,.v (kk.tm.getD 28 undef)),(5,.v (kk.tm.getD 5 undef))]) 29 rfl ?_
   refine aS (ag ?_)
   refine aP h (fun (s29:(List Int))=>[(28,.glob (GL mx)),(5,.box 25 [.fl (.own 5) 1 (map (int .u8) s29)]),(6,fb x),(29,.inv kk.busy),(28,.v (kk.tm.getD 28 undef)),(5,.v (kk.tm.getD 5 undef))]) ?_ ?_
   ·rintro s29 h
    refine ai (ag ?_)
    obtain ⟨v12,hv12,h⟩:=zn h
    refine yx hn 2 ?_
    refine yk [5] [21,22] ?_
    refine qk (5,.box 25 [.any]) (23,.fl (.own 5) 1 (map (int .u8) v12)) 0 ⟨jt _ _ _ _ _ _ kE rfl rfl (zl rfl) rfl (gR _) (gR _) hv12 ((List.map_append).symm.trans (congrArg (map _) (jh hv12))) (Nat.ne_of_beq_eq_false rfl) rfl rfl⟩ ?_
    refine yw [21] 0 ?_
    refine yk [23,5] [] ?_
    refine yt (5,.box 25 [.fl (.own 5) 1 (map (int .u8) v12)]) 0 ⟨aU _ _ _ _ _ _ _ _ qP rfl rfl rfl (zl rfl) rfl rfl⟩ ?_
    refine bK [28,5,29,28,5] ?_
    obtain ⟨v13,hv13,h⟩:=zn h
    refine yx hn 1 ?_
    refine yk [5] [24] ?_
    refine qk (5,.box 25 [.any]) (25,.fl (.own 5) 1 (map (int .u8) v13)) 0 ⟨fP _ _ _ _ _ _ kE tq underlying9 rfl rfl (zl rfl) rfl rfl hv13 rfl (Nat.ne_of_beq_eq_false rfl) rfl rfl⟩ ?_
    refine yw [24] 0 ?_
    refine yk [25,5] [] ?_
    refine yt (5,.box 25 [.fl (.own 5) 1 (map (int .u8) v13)]) 0 ⟨aU _ _ _ _ _ _ _ _ qP rfl rfl rfl (zl rfl) rfl rfl⟩ ?_
    refine ye [28,5,29,28,5] ?_
    refine bA ?_
    refine aC [0,1,3,4,2] (by kernel_rfl) (es':=[(_,_),(_,_),(_,_),(_,_),(_,_)]) rfl ?_
    obtain rfl:=zi h
    exact kX 29 [28,5] _ rfl rfl (by kernel_rfl)
   ·intro u30 h hl31 hr32
    refine ag ?_
    obtain ⟨v4,hv4,h⟩:=zn h
    refine yx hn 1 ?_
    refine yS (.fl (.own 5) 1 (map (int .u8) [46])) 0 ⟨ce _ _ 1 (.int .u8 0) (map (int .u8) [46]) [(0,.int .u8 46)] underlying25 nV tq (fun _ V w o a hv hes=>by simp only [List.map_toArray,List.map_cons,List.map_nil]; try rfl) (fy (by simp [Instr.fill,Value.cells]; rfl) (by simp [List.range,List.range.loop] <;> rfl)) (by simp [Value.oneCell']) rfl (by decide) (by decide) (by decide)⟩ ?_
    refine yk [16] [] ?_
    refine yt (17,.fl .ro 1 (map (int .u8) [46])) 0 ⟨gB _ _ _ underlying25 underlying5 (by intro h; cases h)⟩ ?_
    refine ys 0 ⟨lk call70 (gZ _ _ _ hv4)⟩ ?_
    refine bK [28,5,6,29,18,28,5] ?_
    refine aA _ rfl (fun hb33 => ?_) (fun hb33 => ?_)
    ·have h:=aH hb33 h
     obtain ⟨v6,hv6,h⟩:=zn h
     refine yx hn 1 ?_
     refine yk [5] [19] ?_
     refine qk (5,.box 25 [.any]) (20,.fl (.own 5) 1 (map (int .u8) v6)) 0 ⟨fP _ _ _ _ _ _ kE tq underlying9 rfl rfl (zl rfl) rfl rfl hv6 rfl (Nat.ne_of_beq_eq_false rfl) rfl rfl⟩ ?_
     refine yw [19] 0 ?_
     refine yk [20,5] [] ?_
     refine yt (5,.box 25 [.fl (.own 5) 1 (map (int .u8) v6)]) 0 ⟨aU _ _ _ _ _ _ _ _ qP rfl rfl rfl (zl rfl) rfl rfl⟩ ?_
     refine ye [28,5,6,29,28,5] ?_
     exact hl31 _ (zi h).symm
    ·have h:=aG hb33 h
     refine aB ?_
     refine aC [0,1,2,3,5,6] (by kernel_rfl) (es':=[(_,_),(_,_),(_,_),(_,_),(_,_),(_,_)]) rfl ?_
     exact hl31 _ (zi h).symm
  ·rintro D s21 h
   refine bA ?_
   refine ai (ag ?_)
   obtain ⟨v34,hv34,h⟩:=zn h
   refine yx hn 1 ?_
   refine yk [5] [26] ?_
   refine qk (5,.box 25 [.any]) (27,.fl (.own 5) 1 (map (int .u8) v34)) 0 ⟨fP _ _ _ _ _ _ kE tq underlying9 rfl rfl (zl rfl) rfl rfl hv34 rfl (Nat.ne_of_beq_eq_false rfl) rfl rfl⟩ ?_
   refine ya 1 ?_
   refine bK [28,2,3] ?_
   refine aD ?_
   refine aC [1,2] (by kernel_rfl) (es':=[(_,_),(_,_)]) rfl ?_
   obtain rfl:=zi h
   exact aF hio rfl (.tmp _ _ (.tmp _ _ .nil)) rfl rfl
  ·rintro D ⟨⟩ h
   cases h
theorem nW (mx:Int) (mails:(List ae)) (r:(List Int)) (h:Sh.fT mails=some r):kF Tryz.prog (GL mx) 30 [.fr .shr true 8 (flatten (map ae.ienc mails))] (.fl (.own 5) 1 (map (int .u8) r)):=by
 unfold Sh.fT at h
 refine yG 47 func30 fun g0 hn hio => ?_
 refine bi hn 1 [0,47] ?_
 refine gv hn 0 ?_
 refine yS (.box 25 [vz]) 0 ⟨oA (bz _ _ Hb)⟩ ?_
 refine bK [0,47,3] ?_
 refine gv hn 0 ?_
 refine yS (.clo 49 [3]) 1 ⟨qh _ _ _ 3 (by decide)⟩ ?_
 refine bK [0,47,3,4] ?_
 refine ag ?_
 refine bi hn 3 [47,3,4,12,13,14] ?_
 refine gV (fs:=[(47,.glob (GL mx)),(3,.box 25 [.fl (.own 5) 1 (map (int .u8) [])]),(4,.clo 49 [3]),(12,.fr .shr true 8 (flatten (map ae.ienc mails))),(13,vi (mails.length:Int)),(14,vi 0)]) (.same _ (.box _ _ (ay (cg 5 1) (cu)) rfl (.same _ (.same _ (.same _ (.same _ .nil)))))) ?_
 refine bj h (fun ((s46,s47):(List Int)×Int)=>[(47,.glob (GL mx)),(3,.box 25 [.fl (.own 5) 1 (map (int .u8) s46)]),(4,.clo 49 [3]),(12,.fr .shr true 8 (flatten (map ae.ienc mails))),(13,vi (mails.length:Int)),(14,vi s47)]) (fun (s64:(List Int))=>[(47,.glob (GL mx)),(3,.box 25 [.fl (.own 5) 1 (map (int .u8) s64)])]) ?_ ?_
 ·rintro s64 h
  refine ai (ag ?_)
  obtain ⟨v87,hv87,h⟩:=zn h
  refine yx hn 1 ?_
  refine yk [3] [45] ?_
  refine qk (3,.box 25 [.any]) (46,.fl (.own 5) 1 (map (int .u8) v87)) 0 ⟨fP _ _ _ _ _ _ kE tq underlying9 rfl rfl (zl rfl) rfl rfl hv87 rfl (Nat.ne_of_beq_eq_false rfl) rfl rfl⟩ ?_
  refine ya 0 ?_
  refine bK [47,2] ?_
  refine aD ?_
  refine aC [1] (by kernel_rfl) (es':=[(_,_)]) rfl ?_
  obtain rfl:=zi h
  exact aF hio rfl (.tmp _ _ .nil) rfl rfl
 ·rintro u65 hl66 hr67 ⟨s46,s47⟩ rr70 h ho68
  refine bi hn 1 [47,3,4,12,13,14,15] ?_
  refine ag ?_
  refine aA _ rfl (fun hb71 => ?_) (fun hb71 => ?_)
  ·have h:=aH hb71 h
   refine aB ?_
   refine ai (ag ?_)
   refine aS (ag ?_)
   obtain ⟨v2,hv2,h⟩:=zn h
   obtain ⟨v3,hv3,h⟩:=zn h
   refine yx hn 0 ?_
   refine ys 0 ⟨lI hv2⟩ ?_
   refine yS (.agg (ae.c v3 [])) 0 ⟨eg _ _ _ _ _ _ _ _ underlying46 rfl eD rfl rfl (fc ae.ilen hv3) (.cons (.v _) (.cons (.v _) (.cons (.v _) (.cons (.fl _ _ rfl) (.cons (.fl _ _ rfl) (.cons (.v _) (.cons (.v _) (.cons (.v _) (.nil))))))))) rfl (by decide)⟩ ?_
   refine yS (.box 46 [vb false,vs z0,vs z0,vz,vz,vb false,vs z0,vi 0]) 1 ⟨oA (bz _ _ kh)⟩ ?_
   refine bK [47,3,4,12,13,14,6] ?_
   refine ag ?_
   obtain ⟨v4,hv4,h⟩:=zn h
   refine yx hn 3 ?_
   refine yk [3] [18,20,47] ?_
   refine qk (3,.box 25 [.fl (.own 5) 1 (map (int .u8) v4)]) (21,.tup []) 0 ⟨tD _ _ _ 21 18 3 47 49 [_,.tmp 20] _ _ _ _ rfl call49 rfl rfl rfl (fun _ h=>h) (gO mx (⟨#[77,65,73,76,32,70,82,79,77,58]⟩:Li) (aj.mk v3.La.Le v3.La.Lc v3.La.KZ) s46 _ hv4) rfl rfl rfl rfl rfl rfl rfl rfl⟩ ?_
   refine bK [47,3,4,12,13,14,6] ?_
   refine ag ?_
   refine bi hn 4 [47,3,4,12,13,14,6,23,24,25] ?_
   refine bj h (fun ((s76,s77):(List Int)×Int)=>[(47,.glob (GL mx)),(3,.box 25 [.fl (.own 5) 1 (map (int .u8) s76)]),(4,.clo 49 [3]),(12,.fr .shr true 8 (flatten (map ae.ienc mails))),(13,vi (mails.length:Int)),(14,vi s47),(6,.box 46 (ae.c v3 [])),(23,.fl .shr 3 (flatten (map aj.enc v3.To))),(24,vi (v3.To.length:Int)),(25,vi s77)]) (fun (s79:(List Int))=>[(47,.glob (GL mx)),(3,.box 25 [.fl (.own 5) 1 (map (int .u8) s79)]),(4,.clo 49 [3]),(12,.fr .shr true 8 (flatten (map ae.ienc mails))),(13,vi (mails.length:Int)),(14,vi s47),(6,.box 46 (ae.c v3 []))]) ?_ ?_
   ·rintro s79 h
    refine ai (ag ?_)
    obtain ⟨v24,hv24,h⟩:=zn h
    refine yx hn 1 ?_
    refine yk [3] [33] ?_
    refine qk (3,.box 25 [.any]) (34,.fl (.own 5) 1 (map (int .u8) v24)) 0 ⟨fP _ _ _ _ _ _ kE tq underlying9 rfl rfl (zl rfl) rfl rfl hv24 rfl (Nat.ne_of_beq_eq_false rfl) rfl rfl⟩ ?_
    refine yw [33] 0 ?_
    refine yk [34,3] [] ?_
    refine yt (3,.box 25 [.fl (.own 5) 1 (map (int .u8) v24)]) 0 ⟨aU _ _ _ _ _ _ _ _ qP rfl rfl rfl (zl rfl) rfl rfl⟩ ?_
    refine bK [47,3,4,12,13,14,6] ?_
    refine ag ?_
    obtain ⟨v25,hv25,h⟩:=zn h
    refine yx hn 2 ?_
    refine ys 0 ⟨lg call51 (sX _ _ _ hv25) 47⟩ ?_
    refine ym 0 ?_
    refine yV 1 ?_
    refine ya 1 ?_
    refine bK [47,3,4,12,13,14,9] ?_
    obtain ⟨v26,hv26,h⟩:=zn h
    refine yx hn 1 ?_
    refine ym 0 ?_
    refine yk [3] [41,42] ?_
    refine qk (3,.box 25 [.any]) (43,.fl (.own 5) 1 (map (int .u8) v26)) 0 ⟨jt _ _ _ _ _ _ kE rfl rfl (zl rfl) rfl (gR _) (gR _) hv26 ((List.map_append).symm.trans (congrArg (map _) (jh hv26))) (Nat.ne_of_beq_eq_false rfl) rfl rfl⟩ ?_
    refine yw [41] 0 ?_
    refine yk [43,3] [] ?_
    refine yt (3,.box 25 [.fl (.own 5) 1 (map (int .u8) v26)]) 0 ⟨aU _ _ _ _ _ _ _ _ qP rfl rfl rfl (zl rfl) rfl rfl⟩ ?_
    refine ye [47,3,4,12,13,14] ?_
    refine bA (ai ?_)
    obtain ⟨v27,hv27,h⟩:=zn h
    refine yx hn 0 ?_
    refine ys 0 ⟨lb hv27⟩ ?_
    refine yw [14] 1 ?_
    refine ye [47,3,4,12,13,14] ?_
    exact bF _ (zi h).symm rfl
   ·rintro u80 hl81 hr82 ⟨s76,s77⟩ rr85 h ho83
    refine bi hn 1 [47,3,4,12,13,14,6,23,24,25,26] ?_
    refine ag ?_
    refine aA _ rfl (fun hb86 => ?_) (fun hb86 => ?_)
    ·have h:=aH hb86 h
     refine aB ?_
     refine ai (ag ?_)
     refine aS (ag ?_)
     obtain ⟨v6,hv6,h⟩:=zn h
     obtain ⟨v7,hv7,h⟩:=zn h
     refine yx hn 0 ?_
     refine ys 0 ⟨lj hv6⟩ ?_
     refine yS (.agg [vb v7.Le,vs v7.Lc,vs v7.KZ]) 0 ⟨gU _ _ _ _ _ _ _ underlying43 rfl iJ rfl rfl (jE aj.len hv7) rfl (by decide)⟩ ?_
     refine yS (.box 43 [vb false,vs z0,vs z0]) 1 ⟨oA (bz _ _ jr)⟩ ?_
     refine bK [47,3,4,12,13,14,6,23,24,25,8] ?_
     obtain ⟨v8,hv8,h⟩:=zn h
     refine yx hn 2 ?_
     refine yk [3] [29,30,47] ?_
     refine qk (3,.box 25 [.fl (.own 5) 1 (map (int .u8) v8)]) (31,.tup []) 0 ⟨tD _ _ _ 31 29 3 47 49 [_,.tmp 30] _ _ _ _ rfl call49 rfl rfl rfl (fun _ h=>h) (gO mx (⟨#[82,67,80,84,32,84,79,58]⟩:Li) v7 s76 _ hv8) rfl rfl rfl rfl rfl rfl rfl rfl⟩ ?_
     refine ye [47,3,4,12,13,14,6,23,24,25] ?_
     refine bA (ai ?_)
     obtain ⟨v9,hv9,h⟩:=zn h
     refine yx hn 0 ?_
     refine ys 0 ⟨lb hv9⟩ ?_
     refine yw [25] 1 ?_
     refine ye [47,3,4,12,13,14,6,23,24,25] ?_
     exact bF _ (zi h).symm rfl
    ·have h:=aG hb86 h
     refine bx (aE (aE (bu ?_)))
     refine aC [0,1,2,3,4,5,6] (by kernel_rfl) (es':=[(_,_),(_,_),(_,_),(_,_),(_,_),(_,_),(_,_)]) rfl ?_
     exact hl81 _ (ho83 _ (zi h).symm).symm
  ·have h:=aG hb71 h
   refine bx (aE (aE (bu ?_)))
   refine aC [0,1] (by kernel_rfl) (es':=[(_,_),(_,_)]) rfl ?_
   exact hl66 _ (ho68 _ (zi h).symm).symm
theorem th (divisor:Int) (r:(List Int)) (h:Sh.kA divisor=some r):co Tryz.prog 71 [.v (.int .u32 divisor)] (.v (.agg (map (int .u32) r).toArray)):=by
 unfold Sh.kA at h
 refine yO 29 func71 fun g0 hn hio => ?_
 refine gv hn 0 ?_
 refine yS (.arr 109 (map (int .u32) ((List.replicate 16 (0:Int))))) 0 ⟨oA (ka _ CH)⟩ ?_
 refine bK [0,2] ?_
 refine gv hn 0 ?_
 refine yS (.arr 109 (map (int .u32) ((List.replicate 16 (0:Int))))) 0 ⟨oA (ka _ CH)⟩ ?_
 refine bK [0,2,3] ?_
 refine ag ?_
 refine bi hn 1 [0,2,3,7] ?_
 refine bj h (fun ((s91,s92):(List Int)×Int)=>[(0,.v (.int .u32 divisor)),(2,.arr 109 (map (int .u32) ((List.replicate 16 (0:Int))))),(3,.arr 109 (map (int .u32) s91)),(7,vi s92)]) (fun (s133:(List Int))=>[(2,.arr 109 (map (int .u32) ((List.replicate 16 (0:Int))))),(3,.arr 109 (map (int .u32) s133))]) ?_ ?_
 ·rintro s133 h
  refine ai (ag ?_)
  obtain ⟨v180,hv180,h⟩:=zn h
  obtain ⟨v181,hv181,h⟩:=zn h
  obtain ⟨v182,hv182,h⟩:=zn h
  refine yx hn 0 ?_
  refine yS (.v (.agg (map (int .u32) s133).toArray)) 0 ⟨uX _ _ _ _ underlying109 rfl (zL.trans (congrArg some (mI hv180))) rfl rfl⟩ ?_
  refine yk [2] [28] ?_
  refine yt (2,.arr 109 (map (int .u32) s133)) 0 ⟨nT _ _ _ _ (zL.trans (congrArg some (mI hv182))) rfl rfl (zh (fun _=>rfl) _) ((mI (f:=int .u32) hv181).symm.trans (mI (f:=int .u32) hv182))⟩ ?_
  refine bK [2] ?_
  refine aD ?_
  obtain ⟨v183,hv183,h⟩:=zn h
  obtain rfl:=zi h
  exact aF hio rfl (.cellR _ _ _ _ underlying109 rfl (zL.trans (congrArg some (mI hv183))) .nil) rfl rfl
 ·rintro u134 hl135 hr136 ⟨s91,s92⟩ rr139 h ho137
  refine bi hn 1 [0,2,3,7,8] ?_
  refine ag ?_
  refine aA _ rfl (fun hb140 => ?_) (fun hb140 => ?_)
  ·have h:=aH hb140 h
   refine aB ?_
   refine ai (ag ?_)
   refine aS ?_
   refine bi hn 2 [0,2,3,7,4] ?_
   refine ag ?_
   obtain ⟨v2,hv2,h⟩:=zn h
   refine yx hn 1 ?_
   refine ys 1 ⟨lv hv2⟩ ?_
   refine bK [0,2,3,7,4,5] ?_
   refine ag ?_
   refine bi hn 1 [0,2,3,7,4,5,12] ?_
   refine bj h (fun ((s157,s158):Int×Int)=>[(0,.v (.int .u32 divisor)),(2,.arr 109 (map (int .u32) ((List.replicate 16 (0:Int))))),(3,.arr 109 (map (int .u32) s91)),(7,vi s92),(4,vi s92),(5,.v (.int .u32 s157)),(12,vi s158)]) (fun (s166:Int)=>[(0,.v (.int .u32 divisor)),(2,.arr 109 (map (int .u32) ((List.replicate 16 (0:Int))))),(3,.arr 109 (map (int .u32) s91)),(7,vi s92),(4,vi s92),(5,.v (.int .u32 s166))]) ?_ ?_
   ·rintro s166 h
    refine ai ?_
    obtain ⟨v46,hv46,h⟩:=zn h
    obtain ⟨v47,hv47,h⟩:=zn h
    refine yx hn 2 ?_
    refine yS (.ptr 3 v46) 0 ⟨il _ _ _ _ 16 3 _ underlying109 DH rfl rfl (eE hv46).1 (eE hv46).2 (by decide)⟩ ?_
    refine yk [3] [26,25] ?_
    refine yt (3,.arr 109 (map (int .u32) v47)) 0 ⟨pd _ _ _ _ _ _ DH rfl rfl rfl rfl (CR hv47) (BD (f:=int .u32) hv47)⟩ ?_
    refine ye [0,2,3,7] ?_
    refine bA (ai ?_)
    obtain ⟨v48,hv48,h⟩:=zn h
    refine yx hn 0 ?_
    refine ys 0 ⟨lb hv48⟩ ?_
    refine yw [7] 1 ?_
    refine ye [0,2,3,7] ?_
    exact bF _ (zi h).symm rfl
   ·rintro u167 hl168 hr169 ⟨s157,s158⟩ rr172 h ho170
    refine bi hn 1 [0,2,3,7,4,5,12,13] ?_
    refine ag ?_
    refine aA _ rfl (fun hb173 => ?_) (fun hb173 => ?_)
    ·have h:=aH hb173 h
     refine aB ?_
     refine ai (ag ?_)
     refine aP h (fun (s175:Int)=>[(0,.v (.int .u32 divisor)),(2,.arr 109 (map (int .u32) ((List.replicate 16 (0:Int))))),(3,.arr 109 (map (int .u32) s91)),(7,vi s92),(4,vi s92),(12,vi s158),(5,.v (.int .u32 s175))]) ?_ ?_
     ·rintro s175 h
      refine ai ?_
      obtain ⟨v13,hv13,h⟩:=zn h
      refine yx hn 0 ?_
      refine ys 0 ⟨lb hv13⟩ ?_
      refine yw [12] 1 ?_
      refine ye [0,2,3,7,4,5,12] ?_
      exact bF _ (zi h).symm rfl
     ·intro u176 h hl177 hr178
      refine aS (ag ?_)
      obtain ⟨v4,hv4,h⟩:=zn h
      refine yx hn 1 ?_
      refine ys 1 ⟨lb hv4⟩ ?_
      refine bK [0,2,3,7,4,5,12,6] ?_
      refine ag ?_
      obtain ⟨v5,hv5,h⟩:=zn h
      refine yx hn 1 ?_
      refine ys 0 ⟨lB (qf hv5)⟩ ?_
      refine yw [5] 1 ?_
      refine bK [0,2,3,7,4,12,6,5] ?_
      refine bi hn 2 [0,2,3,7,4,12,5,19] ?_
      refine aA _ rfl (fun hb179 => ?_) (fun hb179 => ?_)
      ·have h:=aH hb179 h
       obtain ⟨v7,hv7,h⟩:=zn h
       refine yx hn 2 ?_
       refine ys 0 ⟨lb hv7⟩ ?_
       refine yw [5] 1 ?_
       refine ye [0,2,3,7,4,12,5] ?_
       refine bA ?_
       exact hl177 _ (zi h).symm
      ·have h:=aG hb179 h
       refine aB (bA ?_)
       refine aC [0,1,2,3,4,5,6] (by kernel_rfl) (es':=[(_,_),(_,_),(_,_),(_,_),(_,_),(_,_),(_,_)]) rfl ?_
       exact hl177 _ (zi h).symm
    ·have h:=aG hb173 h
     refine bx (aE (aE (bu ?_)))
     refine aC [0,1,2,3,4,5] (by kernel_rfl) (es':=[(_,_),(_,_),(_,_),(_,_),(_,_),(_,_)]) rfl ?_
     exact hl168 _ (ho170 _ (zi h).symm).symm
  ·have h:=aG hb140 h
   refine bx (aE (aE (bu ?_)))
   refine aC [1,2] (by kernel_rfl) (es':=[(_,_),(_,_)]) rfl ?_
   exact hl135 _ (ho137 _ (zi h).symm).symm
theorem vK (b:(List Int)) (width:Int) (divisor:Int) (r:Int) (h:Sh.mr b width divisor=some r):co Tryz.prog 52 [.fl .shr 1 (map (int .u8) b),.v (.int .i64 width),.v (.int .u32 divisor)] (.v (.int .i64 r)):=by
 unfold Sh.mr at h
 refine yO 47 func52 fun g0 hn hio => ?_
 refine bi hn 1 [0,1,2] ?_
 refine ag ?_
 obtain ⟨v1,hv1,h⟩:=zn h
 obtain ⟨v2,hv2,h⟩:=zn h
 obtain ⟨v3,hv3,h⟩:=zn h
 refine yx hn 1 ?_
 refine ys 0 ⟨lk call71 (th _ _ hv1)⟩ ?_
 refine yS (.arr 109 (map (int .u32) ((List.replicate 16 (0:Int))))) 0 ⟨oA (ka _ CH)⟩ ?_
 refine yk [7] [13] ?_
 refine yt (7,.arr 109 (map (int .u32) v1)) 0 ⟨nT _ _ _ _ (zL.trans (congrArg some (mI hv3))) rfl rfl (zh (fun _=>rfl) _) ((mI (f:=int .u32) hv2).symm.trans (mI (f:=int .u32) hv3))⟩ ?_
 refine bK [0,1,7] ?_
 refine ag ?_
 obtain ⟨v4,hv4,h⟩:=zn h
 obtain ⟨v5,hv5,h⟩:=zn h
 refine yx hn 1 ?_
 refine ys 0 ⟨lB (uv hv4)⟩ ?_
 refine ys 1 ⟨lb hv5⟩ ?_
 refine bK [0,7,8] ?_
 refine bi hn 2 [0,7,8,9] ?_
 refine ag ?_
 refine bi hn 3 [7,8,9,18,19,20] ?_
 refine bj h (fun ((s25,s26):Int×Int)=>[(7,.arr 109 (map (int .u32) v1)),(8,.v (.int .u32 v5)),(9,.v (.int .u32 s25)),(18,fb b),(19,vi (b.length:Int)),(20,vi s26)]) (fun (s28:Int)=>[(8,.v (.int .u32 v5)),(9,.v (.int .u32 s28))]) ?_ ?_
 ·rintro s28 h
  refine ai (ag ?_)
  obtain ⟨v36,hv36,h⟩:=zn h
  obtain ⟨v37,hv37,h⟩:=zn h
  refine yx hn 2 ?_
  refine ys 0 ⟨lb hv36⟩ ?_
  refine ys 1 ⟨lv hv37⟩ ?_
  refine bK [6] ?_
  refine aD ?_
  obtain rfl:=zi h
  exact aF hio rfl (.tmp _ _ .nil) rfl rfl
 ·rintro u29 hl30 hr31 ⟨s25,s26⟩ rr34 h ho32
  refine bi hn 1 [7,8,9,18,19,20,21] ?_
  refine ag ?_
  refine aA _ rfl (fun hb35 => ?_) (fun hb35 => ?_)
  ·have h:=aH hb35 h
   refine aB ?_
   refine ai (ag ?_)
   refine aS (ag ?_)
   obtain ⟨v7,hv7,h⟩:=zn h
   obtain ⟨v8,hv8,h⟩:=zn h
   refine yx hn 0 ?_
   refine ys 0 ⟨li hv7⟩ ?_
   refine ys 1 ⟨ll hv8⟩ ?_
   refine bK [7,8,9,18,19,20,11] ?_
   refine ag ?_
   obtain ⟨v9,hv9,h⟩:=zn h
   obtain ⟨v10,hv10,h⟩:=zn h
   refine yx hn 2 ?_
   refine ys 0 ⟨lv hv9⟩ ?_
   refine ys 0 ⟨lb hv10⟩ ?_
   refine yw [9] 1 ?_
   refine bK [7,8,18,19,20,9] ?_
   refine ag ?_
   obtain ⟨v11,hv11,h⟩:=zn h
   obtain ⟨v12,hv12,h⟩:=zn h
   obtain ⟨v13,hv13,h⟩:=zn h
   obtain ⟨v14,hv14,h⟩:=zn h
   obtain ⟨v15,hv15,h⟩:=zn h
   refine yx hn 1 ?_
   refine ys 1 ⟨lB (qf hv11)⟩ ?_
   refine ys 0 ⟨lB (uu hv12)⟩ ?_
   refine yS (.ptr 7 v13) 0 ⟨il _ _ _ _ 16 7 _ underlying109 DH rfl rfl (eE hv13).1 (eE hv13).2 (by decide)⟩ ?_
   refine yS (.v (.int .u32 v14)) 0 ⟨ix _ _ _ _ _ _ underlying86 rfl rfl rfl (ku hv14)⟩ ?_
   refine ys 0 ⟨lb hv15⟩ ?_
   refine yw [9] 1 ?_
   refine bK [7,8,18,19,20,9] ?_
   obtain ⟨v16,hv16,h⟩:=zn h
   obtain ⟨v17,hv17,h⟩:=zn h
   obtain ⟨v18,hv18,h⟩:=zn h
   obtain ⟨v19,hv19,h⟩:=zn h
   obtain ⟨v20,hv20,h⟩:=zn h
   refine yx hn 1 ?_
   refine ys 1 ⟨lB (qf hv16)⟩ ?_
   refine ys 0 ⟨lB (uu hv17)⟩ ?_
   refine yS (.ptr 7 v18) 0 ⟨il _ _ _ _ 16 7 _ underlying109 DH rfl rfl (eE hv18).1 (eE hv18).2 (by decide)⟩ ?_
   refine yS (.v (.int .u32 v19)) 0 ⟨ix _ _ _ _ _ _ underlying86 rfl rfl rfl (ku hv19)⟩ ?_
   refine ys 0 ⟨lb hv20⟩ ?_
   refine yw [9] 1 ?_
   refine ye [7,8,18,19,20,9] ?_
   refine bA (ai ?_)
   obtain ⟨v21,hv21,h⟩:=zn h
   refine yx hn 0 ?_
   refine ys 0 ⟨lb hv21⟩ ?_
   refine yw [20] 1 ?_
   refine ye [7,8,18,19,9,20] ?_
   refine aC [0,1,4,2,3,5] (by kernel_rfl) (es':=[(_,_),(_,_),(_,_),(_,_),(_,_),(_,_)]) rfl ?_
   exact bF _ (zi h).symm rfl
  ·have h:=aG hb35 h
   refine bx (aE (aE (bu ?_)))
   refine aC [1,2] (by kernel_rfl) (es':=[(_,_),(_,_)]) rfl ?_
   exact hl30 _ (ho32 _ (zi h).symm).symm
theorem pz (b:(List Int)) (r:Int) (h:Sh.gC b=some r):co Tryz.prog 31 [.fl .shr 1 (map (int .u8) b)] (.v (.int .i64 r)):=by
 unfold Sh.gC at h
 refine yO 5 func31 fun g0 hn hio => ?_
 refine bi hn 1 [0] ?_
 refine ag ?_
 obtain ⟨v1,hv1,h⟩:=zn h
 refine yx hn 1 ?_
 refine ys 1 ⟨lk call52 (vK _ _ _ _ hv1)⟩ ?_
 refine bK [2] ?_
 refine aD ?_
 obtain rfl:=zi h
 exact aF hio rfl (.tmp _ _ .nil) rfl rfl
theorem qQ (mx:Int) (n:Int) (r:Li) (h:Sh.strconv_Itoa n=some r):kF Tryz.prog (GL mx) 32 [.v (.int .i64 n)] (.v (.string r)):=pR (by kernel_rfl) (EO mx) (by rfl) (fun n w h0 h1 ht=>Tryz.strconv_Itoa n h0 h1 w ht) n r h
theorem gP (mx:Int) (b:az) (r:((List Int)×Int)) (h:Sh.bp b=some r):kF Tryz.prog (GL mx) 13 [.agg [.v (.int .i64 b.Lg),.v (.int .i64 b.Lf),.fr .shr true 8 (flatten (map ae.ienc b.Ld))]] (.tup [.mkr 5 (map (int .u8) r.1),.v (.int .i64 r.2)]):=by
 unfold Sh.bp at h
 refine yG 50 func13 fun g0 hn hio => ?_
 refine bi hn 3 [50,1] ?_
 refine ag (ag ?_)
 obtain ⟨v1,hv1,h⟩:=zn h
 refine yx hn 1 ?_
 refine ys 1 ⟨lg call19 (cQ _ _ _ hv1) 50⟩ ?_
 refine bK [50,1,4] ?_
 refine bi hn 2 [50,1,4,13] ?_
 refine aA _ rfl (fun hb46 => ?_) (fun hb46 => ?_)
 ·have h:=aH hb46 h
  refine bi hn 3 [50,2,3] ?_
  refine aD ?_
  refine aC [1,2] (by kernel_rfl) (es':=[(_,_),(_,_)]) rfl ?_
  refine dl (fs:=[(2,.mkr 5 (map (int .u8) [])),(3,vi v1)]) (.sub _ (lP 5) rfl (.same _ .nil)) ?_
  refine am ?_
  obtain rfl:=zi h
  exact aF hio rfl (.tmp _ _ (.tmp _ _ .nil)) rfl rfl
 ·have h:=aG hb46 h
  refine aB ?_
  refine ai (ag ?_)
  obtain ⟨v3,hv3,h⟩:=zn h
  refine yx hn 2 ?_
  refine ys 0 ⟨lg call30 (nW _ _ _ hv3) 50⟩ ?_
  refine ya 0 ?_
  refine bK [50,1,5] ?_
  refine bi hn 1 [50,1,5,6] ?_
  refine ag (ag ?_)
  obtain ⟨v4,hv4,h⟩:=zn h
  refine wb [[1],[18,1],[1],[20,1],[1],[22,1],[23],[5],[25,5],[5]] ?_
  refine wN [27,5] ?_
  refine wo [] ⟨lk call31 (pz _ _ hv4)⟩ ?_
  refine wN [19,21,24,26,28] ?_
  refine wS (.fl (.own 3) 1 (map (int .i64) [b.Lg,b.Lf,(b.Ld.length:Int),(v3.length:Int),v4])) [[29],[]] ⟨ce _ _ 1 (.int .i64 0) (map (int .i64) [b.Lg,b.Lf,(b.Ld.length:Int),(v3.length:Int),v4]) [(0,.int .i64 b.Lg),(1,.int .i64 b.Lf),(2,.int .i64 (b.Ld.length:Int)),(3,.int .i64 (v3.length:Int)),(4,.int .i64 v4)] underlying61 FL IW (fun _ V w o a hv hes=>by have e0:=dN hv hes (x := .tmp 19) rfl; have e1:=dN hv hes (x := .tmp 21) rfl; have e2:=dN hv hes (x := .tmp 24) rfl; have e3:=dN hv hes (x := .tmp 26) rfl; have e4:=dN hv hes (x := .tmp 28) rfl; simp only [List.map_toArray,List.map_cons,List.map_nil,e0,e1,e2,e3,e4]; try rfl) (fy (by simp [Instr.fill,Value.cells]; rfl) (by simp [List.range,List.range.loop] <;> rfl)) (by simp [Value.oneCell']) rfl (by decide) (by decide) (by decide)⟩ ?_
  refine rz hn [50,5,6,29,30,31] ?_
  refine bj h (fun ((s51,s52):Li×Int)=>[(50,.glob (GL mx)),(5,.fl (.own 5) 1 (map (int .u8) v3)),(6,vs s51),(29,.fl (.own 3) 1 (map (int .i64) [b.Lg,b.Lf,(b.Ld.length:Int),(v3.length:Int),v4])),(30,vi ([b.Lg,b.Lf,(b.Ld.length:Int),(v3.length:Int),v4].length:Int)),(31,vi s52)]) (fun (s54:Li)=>[(50,.glob (GL mx)),(5,.fl (.own 5) 1 (map (int .u8) v3)),(6,vs s54)]) ?_ ?_
  ·rintro s54 h
   refine ai (ag ?_)
   obtain ⟨v26,hv26,h⟩:=zn h
   obtain ⟨v27,hv27,h⟩:=zn h
   obtain ⟨v44,hv44,h⟩:=zn h
   refine yx hn 1 ?_
   refine ys 0 ⟨lB (dD hv26)⟩ ?_
   refine ys 0 ⟨lU hv27⟩ ?_
   refine ym 0 ?_
   refine yk [43] [44] ?_
   refine qk (43,.any) (45,.mkr 5 (map (int .u8) v44)) 0 ⟨tY _ _ _ _ _ kE rfl rfl rfl rfl hv44 rfl⟩ ?_
   refine ya 0 ?_
   refine bK [50,9] ?_
   refine ag ?_
   refine gv hn 1 ?_
   refine yS (vi (v44.length:Int)) 1 ⟨qo _ _ _ underlying25 rfl (List.length_map _)⟩ ?_
   refine bK [50,9,48] ?_
   refine aA _ rfl (fun hb62 => ?_) (fun hb62 => ?_)
   ·have h:=aH hb62 h
    refine bi hn 2 [50,2,3] ?_
    refine aD ?_
    refine aC [1,2] (by kernel_rfl) (es':=[(_,_),(_,_)]) rfl ?_
    refine dl (fs:=[(2,.mkr 5 (map (int .u8) [])),(3,vi 2)]) (.sub _ (lP 5) rfl (.same _ .nil)) ?_
    refine am ?_
    obtain rfl:=zi h
    exact aF hio rfl (.tmp _ _ (.tmp _ _ .nil)) rfl rfl
   ·have h:=aG hb62 h
    refine aB (ai ?_)
    refine gv hn 0 ?_
    refine ym 0 ?_
    refine ya 1 ?_
    refine bK [50,2,3] ?_
    refine aD ?_
    refine aC [1,2] (by kernel_rfl) (es':=[(_,_),(_,_)]) rfl ?_
    obtain rfl:=zi h
    exact aF hio rfl (.tmp _ _ (.tmp _ _ .nil)) rfl rfl
  ·rintro u55 hl56 hr57 ⟨s51,s52⟩ rr60 h ho58
   refine bi hn 1 [50,5,6,29,30,31,32] ?_
   refine ag ?_
   refine aA _ rfl (fun hb61 => ?_) (fun hb61 => ?_)
   ·have h:=aH hb61 h
    refine aB ?_
    refine ai (ag ?_)
    refine aS (ag ?_)
    obtain ⟨v6,hv6,h⟩:=zn h
    obtain ⟨v7,hv7,h⟩:=zn h
    refine yx hn 0 ?_
    refine ys 0 ⟨li hv6⟩ ?_
    refine ys 1 ⟨ll hv7⟩ ?_
    refine bK [50,5,6,29,30,31,8] ?_
    obtain ⟨v8,hv8,h⟩:=zn h
    obtain ⟨v9,hv9,h⟩:=zn h
    obtain ⟨v10,hv10,h⟩:=zn h
    refine yx hn 2 ?_
    refine ys 0 ⟨lg call32 (qQ _ _ _ hv8) 50⟩ ?_
    refine ys 0 ⟨lB (dD hv9)⟩ ?_
    refine ys 0 ⟨lB (dD hv10)⟩ ?_
    refine yw [6] 1 ?_
    refine ye [50,5,29,30,31,6] ?_
    refine bA (ai ?_)
    obtain ⟨v11,hv11,h⟩:=zn h
    refine yx hn 0 ?_
    refine ys 0 ⟨lb hv11⟩ ?_
    refine yw [31] 1 ?_
    refine ye [50,5,29,30,6,31] ?_
    refine aC [0,1,4,2,3,5] (by kernel_rfl) (es':=[(_,_),(_,_),(_,_),(_,_),(_,_),(_,_)]) rfl ?_
    exact bF _ (zi h).symm rfl
   ·have h:=aG hb61 h
    refine bx (aE (aE (bu ?_)))
    refine aC [0,1,2] (by kernel_rfl) (es':=[(_,_),(_,_),(_,_)]) rfl ?_
    exact hl56 _ (ho58 _ (zi h).symm).symm
theorem bm (n:Int) (lo:Int) (hi:Int) (r:Bool) (h:Sh.bI n lo hi=some r):co Tryz.prog 43 [.v (.int .i64 n),.v (.int .i64 lo),.v (.int .i64 hi)] (.v (.bool r)):=by
 unfold Sh.bI at h
 refine yO 15 func43 fun g0 hn hio => ?_
 refine bi hn 1 [0,1,2] ?_
 refine ag ?_
 refine aP h (fun (s1:Bool)=>[(6,vb s1)]) ?_ ?_
 ·rintro s1 h
  refine ai (aD ?_)
  obtain rfl:=zi h
  exact aF hio rfl (.tmp _ _ .nil) rfl rfl
 ·intro u2 h hl3 hr4
  refine au h (fun hg1_3 h => ?_) (fun hg1_3 h => ?_)
  ·refine yx hn 4 ?_
   refine yd hg1_3 5 ?_
   refine ye [6] ?_
   exact hl3 _ (zi h).symm
  ·refine yx hn 4 ?_
   refine yd hg1_3 5 ?_
   refine ye [6] ?_
   exact hl3 _ (zi h).symm
end Go.Proofs.YtglabbpbianmnaaGreatDoor
