import Derived.Test.YtglabbpbianmnaaGreatDoorOkc3
set_option linter.unusedVariables false
set_option linter.unusedSimpArgs false
set_option maxHeartbeats 1000000
namespace Go.Proofs.YtglabbpbianmnaaGreatDoor
open Go.Abs Go.Abs.Sh Tryz
open List (map flatten)
open Value (int)
theorem jO (b:(List Int)) (r:Int) (h:Sh.dU b=some r):co Tryz.prog 28 [.fl .shr 1 (map (int .u8) b)] (.v (.int .i64 r)):=by
 unfold Sh.dU at h
 refine yO 5 func28 fun g0 hn hio => ?_
 refine bi hn 1 [0] ?_
 refine ag ?_
 obtain ⟨v1,hv1,h⟩:=zn h
 refine yx hn 1 ?_
 refine ys 1 ⟨lk call48 (mn _ _ _ _ hv1)⟩ ?_
 refine bK [2] ?_
 refine aD ?_
 obtain rfl:=zi h
 exact aF hio rfl (.tmp _ _ .nil) rfl rfl
theorem eS (b:az) (r:((List Int)×Int)) (h:Sh.bo b=some r):co Tryz.prog 14 [.agg [.v (.int .i64 b.Lg),.v (.int .i64 b.Lf),.fr .shr true 8 (flatten (map ae.ienc b.Ld))]] (.tup [.mkr 5 (map (int .u8) r.1),.v (.int .i64 r.2)]):=by
 unfold Sh.bo at h
 refine yO 45 func14 fun g0 hn hio => ?_
 refine bi hn 3 [1] ?_
 refine ag (ag ?_)
 obtain ⟨v1,hv1,h⟩:=zn h
 refine yx hn 1 ?_
 refine ys 1 ⟨lk call20 (bV _ _ hv1)⟩ ?_
 refine bK [1,8] ?_
 refine aA _ rfl (fun hb24 => ?_) (fun hb24 => ?_)
 ·have h:=aH hb24 h
  refine bi hn 2 [2,3] ?_
  refine aD ?_
  refine dl (fs:=[(2,.mkr 5 (map (int .u8) [])),(3,vi 5)]) (.sub _ (lP 5) rfl (.same _ .nil)) ?_
  refine am ?_
  obtain rfl:=zi h
  exact aF hio rfl (.tmp _ _ (.tmp _ _ .nil)) rfl rfl
 ·have h:=aG hb24 h
  refine aB ?_
  refine ai (ag ?_)
  obtain ⟨v3,hv3,h⟩:=zn h
  refine yx hn 1 ?_
  refine ys 0 ⟨lk call33 (lE _ _ hv3)⟩ ?_
  refine ya 0 ?_
  refine bK [1,4] ?_
  refine ag ?_
  obtain ⟨v4,hv4,h⟩:=zn h
  obtain ⟨v5,hv5,h⟩:=zn h
  obtain ⟨v6,hv6,h⟩:=zn h
  obtain ⟨v7,hv7,h⟩:=zn h
  obtain ⟨v8,hv8,h⟩:=zn h
  obtain ⟨v9,hv9,h⟩:=zn h
  obtain ⟨v10,hv10,h⟩:=zn h
  obtain ⟨v11,hv11,h⟩:=zn h
  obtain ⟨v12,hv12,h⟩:=zn h
  obtain ⟨v13,hv13,h⟩:=zn h
  obtain ⟨v14,hv14,h⟩:=zn h
  obtain ⟨v15,hv15,h⟩:=zn h
  obtain ⟨v16,hv16,h⟩:=zn h
  obtain ⟨v17,hv17,h⟩:=zn h
  obtain ⟨v18,hv18,h⟩:=zn h
  obtain ⟨v19,hv19,h⟩:=zn h
  obtain ⟨v20,hv20,h⟩:=zn h
  refine wb [[1],[11,1]] ?_
  refine wN [12] ?_
  refine wo [] ⟨lk call27 (dQ _ _ hv4)⟩ ?_
  refine wN [13] ?_
  refine wo [] ⟨lB (dD hv5)⟩ ?_
  refine wN [14] ?_
  refine wo [[1],[16,1]] ⟨lB (dD hv6)⟩ ?_
  refine wN [17] ?_
  refine wo [] ⟨lk call27 (dQ _ _ hv7)⟩ ?_
  refine wN [15,18] ?_
  refine wo [] ⟨lB (dD hv8)⟩ ?_
  refine wN [19] ?_
  refine wo [[1],[21,1],[22]] ⟨lB (dD hv9)⟩ ?_
  refine wN [23] ?_
  refine wo [] ⟨lk call27 (dQ _ _ hv10)⟩ ?_
  refine wN [20,24] ?_
  refine wo [] ⟨lB (dD hv11)⟩ ?_
  refine wN [25] ?_
  refine wo [[4],[27,4]] ⟨lB (dD hv12)⟩ ?_
  refine wN [28] ?_
  refine wo [] ⟨lk call27 (dQ _ _ hv13)⟩ ?_
  refine wN [26,29] ?_
  refine wo [] ⟨lB (dD hv14)⟩ ?_
  refine wN [30] ?_
  refine wo [[4]] ⟨lB (dD hv15)⟩ ?_
  refine wN [32,4] ?_
  refine wo [] ⟨lk call28 (jO _ _ hv16)⟩ ?_
  refine wN [33] ?_
  refine wo [] ⟨lk call27 (dQ _ _ hv17)⟩ ?_
  refine wN [31,34] ?_
  refine wo [] ⟨lB (dD hv18)⟩ ?_
  refine wN [35] ?_
  refine wo [] ⟨lB (dD hv19)⟩ ?_
  refine wN [36] ?_
  refine wo [] ⟨lU hv20⟩ ?_
  refine wK [37] [] ?_
  refine wt [(5,.mkr 5 (map (int .u8) v20))] [] ⟨gw _ _ _ _ rfl⟩ ?_
  refine rz hn [4,5] ?_
  refine ag ?_
  obtain ⟨v22,hv22,h⟩:=zn h
  refine yx hn 0 ?_
  refine ym 0 ?_
  refine ym 0 ?_
  refine yk [38] [39] ?_
  refine qk (38,.any) (40,.mkr 5 (map (int .u8) v22)) 0 ⟨tY _ _ _ _ _ kE rfl rfl rfl rfl hv22 rfl⟩ ?_
  refine ya 0 ?_
  refine bK [5] ?_
  refine ag ?_
  refine gv hn 1 ?_
  refine yS (vi (v22.length:Int)) 1 ⟨qo _ _ _ underlying25 rfl (List.length_map _)⟩ ?_
  refine bK [5,43] ?_
  refine aA _ rfl (fun hb25 => ?_) (fun hb25 => ?_)
  ·have h:=aH hb25 h
   refine bi hn 2 [2,3] ?_
   refine aD ?_
   refine dl (fs:=[(2,.mkr 5 (map (int .u8) [])),(3,vi 2)]) (.sub _ (lP 5) rfl (.same _ .nil)) ?_
   refine am ?_
   obtain rfl:=zi h
   exact aF hio rfl (.tmp _ _ (.tmp _ _ .nil)) rfl rfl
  ·have h:=aG hb25 h
   refine aB (ai ?_)
   refine gv hn 0 ?_
   refine ym 0 ?_
   refine ya 1 ?_
   refine bK [2,3] ?_
   refine aD ?_
   obtain rfl:=zi h
   exact aF hio rfl (.tmp _ _ (.tmp _ _ .nil)) rfl rfl
theorem pP (s sub:Li) (r:Int) (h:Sh.gI s sub=some r):co Tryz.prog 97 [.v (.string s),.v (.string sub)] (.v (.int .i64 r)):=pE Tryz.strings_Count_one s sub r h
theorem nz (s:Li) (sep:Li) (sepSave:Int) (n:Int) (r:(List Li)) (h:Sh.gE s sep sepSave n=some r):co Tryz.prog 77 [.v (.string s),.v (.string sep),.v (.int .i64 sepSave),.v (.int .i64 n)] (.fl .ro 1 (map Value.string r)):=by
 unfold Sh.gE at h
 refine yO 66 func77 fun g0 hn hio => ?_
 refine bi hn 1 [0,1,2,3] ?_
 refine ag ?_
 refine bi hn 2 [0,1,2,3,13] ?_
 refine aA _ rfl (fun hb50 => ?_) (fun hb50 => ?_)
 ·have h:=aH hb50 h
  refine bi hn 1 [8] ?_
  refine aD ?_
  refine dl (fs:=[(8,.fl (.own 9) 1 (map Value.string []))]) (.sub _ (cg 9 1) rfl .nil) ?_
  refine kP 0 hio (es':=[(8,.fl .ro 1 (map Value.string []))]) rfl ?_
  refine am ?_
  obtain rfl:=zi h
  exact aF hio rfl (.tmp _ _ .nil) rfl rfl
 ·have h:=aG hb50 h
  refine aB ?_
  refine ai (ag ?_)
  refine bi hn 2 [0,1,2,3,15] ?_
  refine aA _ rfl (fun hb51 => ?_) (fun hb51 => ?_)
  ·have h:=aH hb51 h
   cases h
  ·have h:=aG hb51 h
   refine aB ?_
   refine ai (ag ?_)
   refine aP h (fun (s53:Int)=>[(0,vs s),(1,vs sep),(2,vi sepSave),(3,vi s53)]) ?_ ?_
   ·rintro s53 h
    refine ai (ag ?_)
    obtain ⟨v11,hv11,h⟩:=zn h
    obtain ⟨v12,hv12,h⟩:=zn h
    refine yx hn 3 ?_
    refine ys 0 ⟨lb hv11⟩ ?_
    refine yS (vi v12) 0 ⟨(Option.some.inj hv12) ▸ rE _ _ _ _ rfl rfl⟩ ?_
    refine yw [3] 1 ?_
    refine bK [0,1,2,3] ?_
    refine ag ?_
    obtain ⟨v13,hv13,h⟩:=zn h
    refine yx hn 1 ?_
    refine yS (.fl (.own 9) 1 (map Value.string v13)) 0 ⟨It (f:=Value.string) _ _ _ _ HH (by decide) Kj rfl rfl rfl hv13⟩ ?_
    refine ya 0 ?_
    refine bK [0,1,2,3,9] ?_
    refine ag ?_
    obtain ⟨v14,hv14,h⟩:=zn h
    refine yx hn 1 ?_
    refine ys 0 ⟨lb hv14⟩ ?_
    refine yw [3] 1 ?_
    refine bK [0,1,2,9,3] ?_
    refine bi hn 1 [0,1,2,9,3,10] ?_
    refine ag ?_
    refine bj h (fun ((s65,s66,s67):Li×(List Li)×Int)=>[(0,vs s65),(1,vs sep),(2,vi sepSave),(9,.fl (.own 9) 1 (map Value.string s66)),(3,vi v14),(10,vi s67)]) (fun ((s70,s71,s72):Li×(List Li)×Int)=>[(0,vs s70),(9,.fl (.own 9) 1 (map Value.string s71)),(10,vi s72)]) ?_ ?_
    ·rintro ⟨s70,s71,s72⟩ h
     refine ai (ag ?_)
     obtain ⟨v46,hv46,h⟩:=zn h
     obtain ⟨v47,hv47,h⟩:=zn h
     refine yx hn 3 ?_
     refine ys 0 ⟨li hv46⟩ ?_
     refine yk [9] [61,60] ?_
     refine yt (9,.fl (.own 9) 1 (map Value.string v47)) 0 ⟨rF _ _ _ _ _ _ _ _ HV rfl rfl rfl (by decide) (xX (eE hv46).2) ((map_set (f:=Value.string) _ (eE hv46).2).trans (congrArg (map _) (Option.some.inj hv47)))⟩ ?_
     refine bK [9,10] ?_
     refine ag ?_
     refine vy 0 hio (es':=[(9,.fl .ro 1 (map Value.string v47)),(10,.v (.int .i64 s72))]) rfl ?_
     obtain ⟨v48,hv48,h⟩:=zn h
     obtain ⟨v49,hv49,h⟩:=zn h
     refine yx hn 2 ?_
     refine ys 0 ⟨lb hv48⟩ ?_
     refine yS (.fl .ro 1 (map Value.string v49)) 1 ⟨ik _ _ _ 0 v48 _ underlying57 HV rfl rfl rfl ⟨_,rfl⟩ hv49⟩ ?_
     refine bK [8] ?_
     refine aD ?_
     obtain rfl:=zi h
     exact aF hio rfl (.tmp _ _ .nil) rfl rfl
    ·rintro u73 hl74 hr75 ⟨s65,s66,s67⟩ rr78 h ho76
     refine ag ?_
     refine bi hn 3 [0,1,2,9,3,10,36] ?_
     refine aA _ rfl (fun hb79 => ?_) (fun hb79 => ?_)
     ·have h:=aH hb79 h
      refine aB (ai (aS (ag ?_)))
      obtain ⟨v16,hv16,h⟩:=zn h
      refine yx hn 2 ?_
      refine ys 1 ⟨lk call98 (lf _ _ _ hv16)⟩ ?_
      refine bK [0,1,2,9,3,10,11] ?_
      refine ag ?_
      refine bi hn 2 [0,1,2,9,3,10,11,41] ?_
      refine aA _ rfl (fun hb80 => ?_) (fun hb80 => ?_)
      ·have h:=aH hb80 h
       refine bx (aE ?_)
       refine lA (by decide) ?_
       refine aE (bu ?_)
       refine aC [0,3,5] (by kernel_rfl) (es':=[(_,_),(_,_),(_,_)]) rfl ?_
       exact hl74 _ (ho76 _ (zi h).symm).symm
      ·have h:=aG hb80 h
       refine aB ?_
       refine ai (ag ?_)
       obtain ⟨v18,hv18,h⟩:=zn h
       obtain ⟨v19,hv19,h⟩:=zn h
       obtain ⟨v20,hv20,h⟩:=zn h
       obtain ⟨v21,hv21,h⟩:=zn h
       refine yx hn 5 ?_
       refine ys 0 ⟨lb hv18⟩ ?_
       refine yS (vs v19) 0 ⟨cL _ _ _ 0 v18 _ underlying9 rfl rfl ⟨_,rfl⟩ hv19⟩ ?_
       refine ys 0 ⟨li hv20⟩ ?_
       refine yk [9] [49,48] ?_
       refine yt (9,.fl (.own 9) 1 (map Value.string v21)) 0 ⟨rF _ _ _ _ _ _ _ _ HV rfl rfl rfl (by decide) (xX (eE hv20).2) ((map_set (f:=Value.string) _ (eE hv20).2).trans (congrArg (map _) (Option.some.inj hv21)))⟩ ?_
       refine bK [0,1,2,9,3,10,11] ?_
       refine ag ?_
       obtain ⟨v22,hv22,h⟩:=zn h
       obtain ⟨v23,hv23,h⟩:=zn h
       refine yx hn 4 ?_
       refine ys 0 ⟨lb hv22⟩ ?_
       refine yS (vs v23) 0 ⟨cL _ _ _ v22 (s65.size:Int) _ underlying9 rfl ⟨_,rfl⟩ rfl hv23⟩ ?_
       refine yw [0] 1 ?_
       refine bK [1,2,9,3,10,0] ?_
       obtain ⟨v24,hv24,h⟩:=zn h
       refine yx hn 1 ?_
       refine ys 0 ⟨lb hv24⟩ ?_
       refine yw [10] 1 ?_
       refine ye [1,2,9,3,0,10] ?_
       refine bA ?_
       refine aC [4,0,1,2,3,5] (by kernel_rfl) (es':=[(_,_),(_,_),(_,_),(_,_),(_,_),(_,_)]) rfl ?_
       exact bF _ (zi h).symm rfl
     ·have h:=aG hb79 h
      refine bx (aE (aE (bu ?_)))
      refine aC [0,3,5] (by kernel_rfl) (es':=[(_,_),(_,_),(_,_)]) rfl ?_
      exact hl74 _ (ho76 _ (zi h).symm).symm
   ·intro u54 h hl55 hr56
    refine bi hn 2 [0,1,2,3,20] ?_
    refine aA _ rfl (fun hb57 => ?_) (fun hb57 => ?_)
    ·have h:=aH hb57 h
     obtain ⟨v4,hv4,h⟩:=zn h
     obtain ⟨v5,hv5,h⟩:=zn h
     refine yx hn 2 ?_
     refine ys 0 ⟨lk call97 (pP _ _ _ hv4)⟩ ?_
     refine ys 0 ⟨lb hv5⟩ ?_
     refine yw [3] 1 ?_
     refine ye [0,1,2,3] ?_
     exact hl55 _ (zi h).symm
    ·have h:=aG hb57 h
     refine aB ?_
     refine aC [0,1,2,3] (by kernel_rfl) (es':=[(_,_),(_,_),(_,_),(_,_)]) rfl ?_
     exact hl55 _ (zi h).symm
theorem qj (s:Li) (sep:Li) (r:(List Li)) (h:Sh.gJ s sep=some r):co Tryz.prog 57 [.v (.string s),.v (.string sep)] (.fl .ro 1 (map Value.string r)):=by
 unfold Sh.gJ at h
 refine yO 8 func57 fun g0 hn hio => ?_
 refine bi hn 1 [0,1] ?_
 refine ag ?_
 obtain ⟨v1,hv1,h⟩:=zn h
 refine yx hn 2 ?_
 refine ys 1 ⟨lk call77 (nz _ _ _ _ _ hv1)⟩ ?_
 refine bK [4] ?_
 refine aD ?_
 obtain rfl:=zi h
 exact aF hio rfl (.tmp _ _ .nil) rfl rfl
theorem qU (s:Li) (r:Int×Unit) (h:Sh.strconv_Atoi s=some r):co Tryz.prog 78 [.v (.string s)] (.tup [.v (.int .i64 r.1),.v .nilIface]):=pT (fun s n w h1 h2=>Tryz.strconv_Atoi s n h1 h2 w) s r h
theorem qO (s:Li) (digits:Int) (r:(Int×Bool)) (h:Sh.fN s digits=some r):co Tryz.prog 58 [.v (.string s),.v (.int .i64 digits)] (.tup [.v (.int .i64 r.1),.v (.bool r.2)]):=by
 unfold Sh.fN at h
 refine yO 51 func58 fun g0 hn hio => ?_
 refine bi hn 2 [0,1] ?_
 refine ag (ag ?_)
 refine aP h (fun (s3:Bool)=>[(0,vs s),(26,vb s3)]) ?_ ?_
 ·rintro s3 h
  refine ai ?_
  refine aA _ rfl (fun hb7 => ?_) (fun hb7 => ?_)
  ·have h:=aH hb7 h
   refine bi hn 2 [4,5] ?_
   refine aD (am ?_)
   obtain rfl:=zi h
   exact aF hio rfl (.tmp _ _ (.tmp _ _ .nil)) rfl rfl
  ·have h:=aG hb7 h
   refine aB ?_
   refine ai (ag ?_)
   refine bi hn 3 [0,28,29] ?_
   refine bj h (fun (s24:Int)=>[(0,vs s),(28,vi (s.size:Int)),(29,vi s24)]) (fun (():Unit)=>[(0,vs s)]) ?_ ?_
   ·rintro ⟨⟩ h
    refine ai (ag ?_)
    obtain ⟨v43,hv43,h⟩:=zn h
    refine yx hn 1 ?_
    refine ys 0 ⟨lk call78 (qU _ _ hv43)⟩ ?_
    refine ym 4 ?_
    refine bK [7,8] ?_
    refine ag ?_
    refine wb [[7],[8]] ?_
    refine wN [49] ?_
    refine wS (vb true) [[48],[50]] ⟨Cg _ _ false underlying116 rfl⟩ ?_
    refine rz hn [4,5] ?_
    refine aD ?_
    obtain rfl:=zi h
    exact aF hio rfl (.tmp _ _ (.tmp _ _ .nil)) rfl rfl
   ·rintro u31 hl32 hr33 s24 rr36 h ho34
    refine bi hn 1 [0,28,29,30] ?_
    refine ag ?_
    refine aA _ rfl (fun hb37 => ?_) (fun hb37 => ?_)
    ·have h:=aH hb37 h
     refine aB ?_
     refine ai (ag ?_)
     refine aS ?_
     refine bi hn 2 [0,28,29,6] ?_
     refine ag ?_
     refine aP h (fun (s38:Bool)=>[(0,vs s),(28,vi (s.size:Int)),(29,vi s24),(41,vb s38)]) ?_ ?_
     ·rintro s38 h
      refine ai ?_
      refine aA _ rfl (fun hb42 => ?_) (fun hb42 => ?_)
      ·have h:=aH hb42 h
       refine bi hn 2 [4,5] ?_
       refine aD (aY (am (am (aY (am ?_)))))
       have h:=hr33 _ (ho34 _ (zi h).symm).symm
       obtain rfl:=zi h
       exact aF hio rfl (.tmp _ _ (.tmp _ _ .nil)) rfl rfl
      ·have h:=aG hb42 h
       refine aB (bA (ai ?_))
       obtain ⟨v16,hv16,h⟩:=zn h
       refine yx hn 0 ?_
       refine ys 0 ⟨lb hv16⟩ ?_
       refine yw [29] 1 ?_
       refine ye [0,28,29] ?_
       exact bF _ (zi h).symm rfl
     ·intro u39 h hl40 hr41
      obtain ⟨v9,hv9,h⟩:=zn h
      refine au h (fun hg6_4 h => ?_) (fun hg6_4 h => ?_)
      ·refine yx hn 2 ?_
       refine ys 2 ⟨lh hv9⟩ ?_
       refine yd hg6_4 5 ?_
       refine ye [0,28,29,41] ?_
       exact hl40 _ (zi h).symm
      ·obtain ⟨v10,hv10,h⟩:=zn h
       refine yx hn 2 ?_
       refine ys 2 ⟨lh hv9⟩ ?_
       refine yd hg6_4 2 ?_
       refine ys 2 ⟨lh hv10⟩ ?_
       refine ye [0,28,29,41] ?_
       exact hl40 _ (zi h).symm
    ·have h:=aG hb37 h
     refine bx (aE (aE (bu ?_)))
     refine aC [0] (by kernel_rfl) (es':=[(_,_)]) rfl ?_
     exact hl32 _ (ho34 _ (zi h).symm).symm
 ·intro u4 h hl5 hr6
  refine au h (fun hg1_2 h => ?_) (fun hg1_2 h => ?_)
  ·refine yx hn 3 ?_
   refine yd hg1_2 15 ?_
   refine ye [0,26] ?_
   exact hl5 _ (zi h).symm
  ·obtain ⟨v1,hv1,h⟩:=zn h
   refine au h (fun hg1_9 h => ?_) (fun hg1_9 h => ?_)
   ·refine yx hn 3 ?_
    refine yd hg1_2 3 ?_
    refine yS (vi v1) 3 ⟨(Option.some.inj hv1) ▸ rE _ _ _ _ rfl rfl⟩ ?_
    refine yd hg1_9 8 ?_
    refine ye [0,26] ?_
    exact hl5 _ (zi h).symm
   ·obtain ⟨v2,hv2,h⟩:=zn h
    refine au h (fun hg1_13 h => ?_) (fun hg1_13 h => ?_)
    ·refine yx hn 3 ?_
     refine yd hg1_2 3 ?_
     refine yS (vi v1) 3 ⟨(Option.some.inj hv1) ▸ rE _ _ _ _ rfl rfl⟩ ?_
     refine yd hg1_9 1 ?_
     refine ys 2 ⟨lh hv2⟩ ?_
     refine yd hg1_13 4 ?_
     refine ye [0,26] ?_
     exact hl5 _ (zi h).symm
    ·refine yx hn 3 ?_
     refine yd hg1_2 3 ?_
     refine yS (vi v1) 3 ⟨(Option.some.inj hv1) ▸ rE _ _ _ _ rfl rfl⟩ ?_
     refine yd hg1_9 1 ?_
     refine ys 2 ⟨lh hv2⟩ ?_
     refine yd hg1_13 4 ?_
     refine ye [0,26] ?_
     exact hl5 _ (zi h).symm
theorem lV (line:Li) (r:(aX×Bool)) (h:Sh.dS line=some r):co Tryz.prog 35 [.v (.string line)] (.tup [.agg [.v (.int .i64 r.1.origin),.v (.int .i64 r.1.number),.v (.int .i64 r.1.size),.v (.int .i64 r.1.sum)],.v (.bool r.2)]):=by
 unfold Sh.dS at h
 refine yO 56 func35 fun g0 hn hio => ?_
 refine gv hn 0 ?_
 refine yS (.box 66 [vi 0,vi 0,vi 0,vi 0]) 1 ⟨oA (bz _ _ zU)⟩ ?_
 refine bK [0,2] ?_
 refine ag ?_
 obtain ⟨v1,hv1,h⟩:=zn h
 refine yx hn 1 ?_
 refine ys 1 ⟨lk call57 (qj _ _ _ hv1)⟩ ?_
 refine bK [2,4] ?_
 refine ag (ag ?_)
 refine aP h (fun (s4:Bool)=>[(2,.box 66 [vi 0,vi 0,vi 0,vi 0]),(4,.fl .ro 1 (map Value.string v1)),(21,vb s4)]) ?_ ?_
 ·rintro s4 h
  refine ai ?_
  refine aA _ rfl (fun hb8 => ?_) (fun hb8 => ?_)
  ·have h:=aH hb8 h
   refine gv hn 0 ?_
   refine yS (.agg [vi 0,vi 0,vi 0,vi 0]) 0 ⟨bT _ _ _ _ [1,1,1,1] _ _ underlying66 zU (GF _ underlying66) kR.nil rfl rfl rfl⟩ ?_
   refine yk [22,2] [] ?_
   refine yt (2,.box 66 [vi 0,vi 0,vi 0,vi 0]) 1 ⟨bO _ _ _ 22 2 4 zZ rfl rfl rfl rfl rfl (.eq _ (.eq _ (.eq _ (.eq _ (.nil _))))) rfl⟩ ?_
   refine bK [2,3] ?_
   refine aD (am ?_)
   obtain rfl:=zi h
   exact aF hio rfl (.cellA _ _ _ _ underlying66 rfl zZ (.tmp _ _ .nil)) rfl rfl
  ·have h:=aG hb8 h
   refine aB (ai ?_)
   refine gv hn 0 ?_
   refine yS (.arr 90 (map (int .i64) ((List.replicate 5 (0:Int))))) 0 ⟨oA (ka _ Js)⟩ ?_
   refine bK [2,4,5] ?_
   refine ag (ag ?_)
   obtain ⟨v9,hv9,h⟩:=zn h
   refine yx hn 1 ?_
   refine yS (.fl .ro 1 (map Value.string v9)) 2 ⟨ik _ _ _ 1 (v1.length:Int) _ underlying57 HV rfl rfl ⟨_,rfl⟩ rfl hv9⟩ ?_
   refine bK [2,5,24,25,26] ?_
   refine bj h (fun ((s22,s23):(List Int)×Int)=>[(2,.box 66 [vi 0,vi 0,vi 0,vi 0]),(5,.arr 90 (map (int .i64) s22)),(24,.fl .ro 1 (map Value.string v9)),(25,vi (v9.length:Int)),(26,vi s23)]) (fun (s26:(List Int))=>[(2,.box 66 [vi 0,vi 0,vi 0,vi 0]),(5,.arr 90 (map (int .i64) s26))]) ?_ ?_
   ·rintro s26 h
    refine ai (ag ?_)
    obtain ⟨v35,hv35,h⟩:=zn h
    obtain ⟨v36,hv36,h⟩:=zn h
    obtain ⟨v37,hv37,h⟩:=zn h
    obtain ⟨v38,hv38,h⟩:=zn h
    obtain ⟨v39,hv39,h⟩:=zn h
    obtain ⟨v40,hv40,h⟩:=zn h
    obtain ⟨v41,hv41,h⟩:=zn h
    obtain ⟨v42,hv42,h⟩:=zn h
    refine yx hn 0 ?_
    refine yS (.ptr 5 v35) 0 ⟨il _ _ _ _ 5 5 _ underlying90 FL rfl rfl (eE hv35).1 (eE hv35).2 (by decide)⟩ ?_
    refine yS (vi v36) 0 ⟨ix _ _ _ _ _ _ underlying3 rfl rfl rfl (ku hv36)⟩ ?_
    refine yS (.ptr 5 v37) 0 ⟨il _ _ _ _ 5 5 _ underlying90 FL rfl rfl (eE hv37).1 (eE hv37).2 (by decide)⟩ ?_
    refine yS (vi v38) 0 ⟨ix _ _ _ _ _ _ underlying3 rfl rfl rfl (ku hv38)⟩ ?_
    refine yS (.ptr 5 v39) 0 ⟨il _ _ _ _ 5 5 _ underlying90 FL rfl rfl (eE hv39).1 (eE hv39).2 (by decide)⟩ ?_
    refine yS (vi v40) 0 ⟨ix _ _ _ _ _ _ underlying3 rfl rfl rfl (ku hv40)⟩ ?_
    refine yS (.ptr 5 v41) 0 ⟨il _ _ _ _ 5 5 _ underlying90 FL rfl rfl (eE hv41).1 (eE hv41).2 (by decide)⟩ ?_
    refine yS (vi v42) 0 ⟨ix _ _ _ _ _ _ underlying3 rfl rfl rfl (ku hv42)⟩ ?_
    refine yS (.agg [vi v36,vi v38,vi v40,vi v42]) 0 ⟨bT _ _ _ _ [1,1,1,1] _ _ underlying66 zU (GF _ underlying66) (.copy _ (.copy _ (.copy _ (.copy _ kR.nil)))) rfl rfl rfl⟩ ?_
    refine yS (.box 66 [vi 0,vi 0,vi 0,vi 0]) 1 ⟨oA (bz _ _ zU)⟩ ?_
    refine bK [2,10] ?_
    refine ag ?_
    refine wb [[10],[10],[53,10],[54]] ?_
    refine wK [2] [52] ?_
    refine wt [(2,.box 66 [vi v36,vi v38,vi v40,vi v42])] [[55]] ⟨lz _ _ _ _ _ _ _ _ zZ rfl rfl rfl rfl (zl rfl) rfl rfl⟩ ?_
    refine rz hn [2,3] ?_
    refine aD ?_
    obtain rfl:=zi h
    exact aF hio rfl (.cellA _ _ _ _ underlying66 rfl zZ (.tmp _ _ .nil)) rfl rfl
   ·rintro u27 hl28 hr29 ⟨s22,s23⟩ rr32 h ho30
    refine bi hn 1 [2,5,24,25,26,27] ?_
    refine ag ?_
    refine aA _ rfl (fun hb33 => ?_) (fun hb33 => ?_)
    ·have h:=aH hb33 h
     refine aB ?_
     refine ai (ag ?_)
     refine aS (ag ?_)
     obtain ⟨v11,hv11,h⟩:=zn h
     obtain ⟨v12,hv12,h⟩:=zn h
     refine yx hn 1 ?_
     refine ys 0 ⟨li hv11⟩ ?_
     refine ys 2 ⟨ll hv12⟩ ?_
     refine bK [2,5,24,25,26,6,7] ?_
     refine ag ?_
     obtain ⟨v13,hv13,h⟩:=zn h
     refine yx hn 1 ?_
     refine ys 0 ⟨lk call58 (qO _ _ _ hv13)⟩ ?_
     refine ym 4 ?_
     refine bK [2,5,24,25,26,6,8,9] ?_
     refine ag ?_
     refine bi hn 2 [2,5,24,25,26,6,8,37] ?_
     refine aA _ rfl (fun hb34 => ?_) (fun hb34 => ?_)
     ·have h:=aH hb34 h
      refine gv hn 0 ?_
      refine yS (.agg [vi 0,vi 0,vi 0,vi 0]) 0 ⟨bT _ _ _ _ [1,1,1,1] _ _ underlying66 zU (GF _ underlying66) kR.nil rfl rfl rfl⟩ ?_
      refine yk [38,2] [] ?_
      refine yt (2,.box 66 [vi 0,vi 0,vi 0,vi 0]) 1 ⟨bO _ _ _ 38 2 4 zZ rfl rfl rfl rfl rfl (.eq _ (.eq _ (.eq _ (.eq _ (.nil _))))) rfl⟩ ?_
      refine bK [2,3] ?_
      refine aD (am (aY (am (am (aY (am ?_))))))
      have h:=hr29 _ (ho30 _ (zi h).symm).symm
      obtain rfl:=zi h
      exact aF hio rfl (.cellA _ _ _ _ underlying66 rfl zZ (.tmp _ _ .nil)) rfl rfl
     ·have h:=aG hb34 h
      refine aB (ai ?_)
      obtain ⟨v15,hv15,h⟩:=zn h
      obtain ⟨v16,hv16,h⟩:=zn h
      refine yx hn 2 ?_
      refine yS (.ptr 5 v15) 0 ⟨il _ _ _ _ 5 5 _ underlying90 FL rfl rfl (eE hv15).1 (eE hv15).2 (by decide)⟩ ?_
      refine yk [5] [41,40] ?_
      refine yt (5,.arr 90 (map (int .i64) v16)) 0 ⟨pd _ _ _ _ _ _ FL rfl rfl rfl rfl (CR hv16) (BD (f:=int .i64) hv16)⟩ ?_
      refine ye [2,5,24,25,26] ?_
      refine bA (ai ?_)
      obtain ⟨v17,hv17,h⟩:=zn h
      refine yx hn 0 ?_
      refine ys 0 ⟨lb hv17⟩ ?_
      refine yw [26] 1 ?_
      refine ye [2,5,24,25,26] ?_
      exact bF _ (zi h).symm rfl
    ·have h:=aG hb33 h
     refine bx (aE (aE (bu ?_)))
     refine aC [0,1] (by kernel_rfl) (es':=[(_,_),(_,_)]) rfl ?_
     exact hl28 _ (ho30 _ (zi h).symm).symm
 ·intro u5 h hl6 hr7
  refine au h (fun hg2_3 h => ?_) (fun hg2_3 h => ?_)
  ·refine yx hn 4 ?_
   refine yd hg2_3 5 ?_
   refine ye [2,4,21] ?_
   exact hl6 _ (zi h).symm
  ·obtain ⟨v2,hv2,h⟩:=zn h
   obtain ⟨v3,hv3,h⟩:=zn h
   refine yx hn 4 ?_
   refine yd hg2_3 1 ?_
   refine ys 0 ⟨li hv2⟩ ?_
   refine ys 2 ⟨ll hv3⟩ ?_
   refine ye [2,4,21] ?_
   exact hl6 _ (zi h).symm
theorem iC (s:Li) (prefix_:Li) (r:Bool) (h:Sh.ct s prefix_=some r):co Tryz.prog 149 [.v (.string s),.v (.string prefix_)] (.v (.bool r)):=by
 unfold Sh.ct at h
 refine yO 18 func149 fun g0 hn hio => ?_
 refine bi hn 1 [0,1] ?_
 refine ag ?_
 refine aP h (fun (s2:Bool)=>[(4,vb s2)]) ?_ ?_
 ·rintro s2 h
  refine ai (aD ?_)
  obtain rfl:=zi h
  exact aF hio rfl (.tmp _ _ .nil) rfl rfl
 ·intro u3 h hl4 hr5
  refine au h (fun hg1_5 h => ?_) (fun hg1_5 h => ?_)
  ·obtain ⟨v1,hv1,h⟩:=zn h
   refine yx hn 6 ?_
   refine yd hg1_5 3 ?_
   refine yS (vs v1) 4 ⟨cL _ _ _ 0 (prefix_.size:Int) _ underlying9 rfl rfl ⟨_,rfl⟩ hv1⟩ ?_
   refine ye [4] ?_
   exact hl4 _ (zi h).symm
  ·refine yx hn 6 ?_
   refine yd hg1_5 8 ?_
   refine ye [4] ?_
   exact hl4 _ (zi h).symm
theorem iy (s:Li) (prefix_:Li) (r:(Li×Bool)) (h:Sh.cY s prefix_=some r):co Tryz.prog 125 [.v (.string s),.v (.string prefix_)] (.tup [.v (.string r.1),.v (.bool r.2)]):=by
 unfold Sh.cY at h
 refine yO 15 func125 fun g0 hn hio => ?_
 refine bi hn 2 [0,1] ?_
 refine ag (ag ?_)
 obtain ⟨v1,hv1,h⟩:=zn h
 refine yx hn 2 ?_
 refine ys 1 ⟨lk call149 (iC _ _ _ hv1)⟩ ?_
 refine bK [0,1,9] ?_
 refine aA _ rfl (fun hb2 => ?_) (fun hb2 => ?_)
 ·have h:=aH hb2 h
  refine bi hn 3 [4,5] ?_
  refine aD (am ?_)
  obtain rfl:=zi h
  exact aF hio rfl (.tmp _ _ (.tmp _ _ .nil)) rfl rfl
 ·have h:=aG hb2 h
  refine aB ?_
  refine ai (ag ?_)
  obtain ⟨v3,hv3,h⟩:=zn h
  refine yx hn 3 ?_
  refine yS (vs v3) 2 ⟨cL _ _ _ (prefix_.size:Int) (s.size:Int) _ underlying9 rfl ⟨_,rfl⟩ rfl hv3⟩ ?_
  refine bK [4,5] ?_
  refine aD ?_
  obtain rfl:=zi h
  exact aF hio rfl (.tmp _ _ (.tmp _ _ .nil)) rfl rfl
theorem jD (s:Li) (prefix_:Li) (r:(Li×Bool)) (h:Sh.dE s prefix_=some r):co Tryz.prog 101 [.v (.string s),.v (.string prefix_)] (.tup [.v (.string r.1),.v (.bool r.2)]):=by
 unfold Sh.dE at h
 refine yO 11 func101 fun g0 hn hio => ?_
 refine bi hn 2 [0,1] ?_
 refine ag ?_
 obtain ⟨v1,hv1,h⟩:=zn h
 refine yx hn 2 ?_
 refine ys 4 ⟨lk call125 (iy _ _ _ hv1)⟩ ?_
 refine bK [4,5] ?_
 refine aD ?_
 obtain rfl:=zi h
 exact aF hio rfl (.tmp _ _ (.tmp _ _ .nil)) rfl rfl
theorem iA (s:Li) (suffix:Li) (r:Bool) (h:Sh.cx s suffix=some r):co Tryz.prog 159 [.v (.string s),.v (.string suffix)] (.v (.bool r)):=by
 unfold Sh.cx at h
 refine yO 21 func159 fun g0 hn hio => ?_
 refine bi hn 1 [0,1] ?_
 refine ag ?_
 refine aP h (fun (s3:Bool)=>[(4,vb s3)]) ?_ ?_
 ·rintro s3 h
  refine ai (aD ?_)
  obtain rfl:=zi h
  exact aF hio rfl (.tmp _ _ .nil) rfl rfl
 ·intro u4 h hl5 hr6
  refine au h (fun hg1_5 h => ?_) (fun hg1_5 h => ?_)
  ·obtain ⟨v1,hv1,h⟩:=zn h
   obtain ⟨v2,hv2,h⟩:=zn h
   refine yx hn 6 ?_
   refine yd hg1_5 5 ?_
   refine ys 0 ⟨lb hv1⟩ ?_
   refine yS (vs v2) 4 ⟨cL _ _ _ v1 (s.size:Int) _ underlying9 rfl ⟨_,rfl⟩ rfl hv2⟩ ?_
   refine ye [4] ?_
   exact hl5 _ (zi h).symm
  ·refine yx hn 6 ?_
   refine yd hg1_5 11 ?_
   refine ye [4] ?_
   exact hl5 _ (zi h).symm
theorem iB (s:Li) (suffix:Li) (r:(Li×Bool)) (h:Sh.cU s suffix=some r):co Tryz.prog 150 [.v (.string s),.v (.string suffix)] (.tup [.v (.string r.1),.v (.bool r.2)]):=by
 unfold Sh.cU at h
 refine yO 18 func150 fun g0 hn hio => ?_
 refine bi hn 2 [0,1] ?_
 refine ag (ag ?_)
 obtain ⟨v1,hv1,h⟩:=zn h
 refine yx hn 2 ?_
 refine ys 1 ⟨lk call159 (iA _ _ _ hv1)⟩ ?_
 refine bK [0,1,9] ?_
 refine aA _ rfl (fun hb2 => ?_) (fun hb2 => ?_)
 ·have h:=aH hb2 h
  refine bi hn 3 [4,5] ?_
  refine aD (am ?_)
  obtain rfl:=zi h
  exact aF hio rfl (.tmp _ _ (.tmp _ _ .nil)) rfl rfl
 ·have h:=aG hb2 h
  refine aB ?_
  refine ai (ag ?_)
  obtain ⟨v3,hv3,h⟩:=zn h
  obtain ⟨v4,hv4,h⟩:=zn h
  refine yx hn 5 ?_
  refine ys 0 ⟨lb hv3⟩ ?_
  refine yS (vs v4) 2 ⟨cL _ _ _ 0 v3 _ underlying9 rfl rfl ⟨_,rfl⟩ hv4⟩ ?_
  refine bK [4,5] ?_
  refine aD ?_
  obtain rfl:=zi h
  exact aF hio rfl (.tmp _ _ (.tmp _ _ .nil)) rfl rfl
theorem mH (s:Li) (suffix:Li) (r:(Li×Bool)) (h:Sh.ep s suffix=some r):co Tryz.prog 126 [.v (.string s),.v (.string suffix)] (.tup [.v (.string r.1),.v (.bool r.2)]):=by
 unfold Sh.ep at h
 refine yO 11 func126 fun g0 hn hio => ?_
 refine bi hn 2 [0,1] ?_
 refine ag ?_
 obtain ⟨v1,hv1,h⟩:=zn h
 refine yx hn 2 ?_
 refine ys 4 ⟨lk call150 (iB _ _ _ hv1)⟩ ?_
 refine bK [4,5] ?_
 refine aD ?_
 obtain rfl:=zi h
 exact aF hio rfl (.tmp _ _ (.tmp _ _ .nil)) rfl rfl
theorem jz (s sub:Li) (r:Int) (h:Sh.di s sub=some r):co Tryz.prog 119 [.v (.string s),.v (.string sub)] (.v (.int .i64 r)):=kH Tryz.stringslite_Index_one s sub r h
theorem jX (s:Li) (sep:Li) (r:(Li×Li×Bool)) (h:Sh.dY s sep=some r):co Tryz.prog 151 [.v (.string s),.v (.string sep)] (.tup [.v (.string r.1),.v (.string r.2.1),.v (.bool r.2.2)]):=by
 unfold Sh.dY at h
 refine yO 23 func151 fun g0 hn hio => ?_
 refine bi hn 3 [0,1] ?_
 refine ag (ag ?_)
 obtain ⟨v1,hv1,h⟩:=zn h
 refine yx hn 2 ?_
 refine ys 1 ⟨lk call119 (jz _ _ _ hv1)⟩ ?_
 refine bK [0,1,7] ?_
 refine bi hn 2 [0,1,7,12] ?_
 refine aA _ rfl (fun hb2 => ?_) (fun hb2 => ?_)
 ·have h:=aH hb2 h
  refine ag ?_
  obtain ⟨v3,hv3,h⟩:=zn h
  obtain ⟨v4,hv4,h⟩:=zn h
  obtain ⟨v5,hv5,h⟩:=zn h
  refine wb [[0],[7]] ?_
  refine wN [13,14] ?_
  refine wS (vs v3) [[0],[7],[1],[18]] ⟨cL _ _ _ 0 v1 _ underlying9 rfl rfl ⟨_,rfl⟩ hv3⟩ ?_
  refine wN [17,19] ?_
  refine wo [] ⟨lb hv4⟩ ?_
  refine wN [16,20] ?_
  refine wS (vs v5) [[15],[21],[]] ⟨cL _ _ _ v4 (s.size:Int) _ underlying9 rfl ⟨_,rfl⟩ rfl hv5⟩ ?_
  refine rz hn [4,5,6] ?_
  refine aD (am ?_)
  obtain rfl:=zi h
  exact aF hio rfl (.tmp _ _ (.tmp _ _ (.tmp _ _ .nil))) rfl rfl
 ·have h:=aG hb2 h
  refine aB (ai ?_)
  refine bi hn 4 [4,5,6] ?_
  refine aD ?_
  obtain rfl:=zi h
  exact aF hio rfl (.tmp _ _ (.tmp _ _ (.tmp _ _ .nil))) rfl rfl
theorem sQ (s:Li) (sep:Li) (r:(Li×Li×Bool)) (h:Sh.im s sep=some r):co Tryz.prog 127 [.v (.string s),.v (.string sep)] (.tup [.v (.string r.1),.v (.string r.2.1),.v (.bool r.2.2)]):=by
 unfold Sh.im at h
 refine yO 13 func127 fun g0 hn hio => ?_
 refine bi hn 3 [0,1] ?_
 refine ag ?_
 obtain ⟨v1,hv1,h⟩:=zn h
 refine yx hn 2 ?_
 refine ys 6 ⟨lk call151 (jX _ _ _ hv1)⟩ ?_
 refine bK [4,5,6] ?_
 refine aD ?_
 obtain rfl:=zi h
 exact aF hio rfl (.tmp _ _ (.tmp _ _ (.tmp _ _ .nil))) rfl rfl
theorem sZ (mx:Int) (s:Li) (r:(aj×Int)) (h:Sh.jb s=some r):kF Tryz.prog (GL mx) 102 [.v (.string s)] (.tup [.agg [.v (.bool r.1.Le),.v (.string r.1.Lc),.v (.string r.1.KZ)],.v (.int .i64 r.2)]):=by
 unfold Sh.jb at h
 refine yG 50 func102 fun g0 hn hio => ?_
 refine gv hn 0 ?_
 refine yS (.box 43 [vb false,vs z0,vs z0]) 1 ⟨oA (bz _ _ jr)⟩ ?_
 refine bK [0,50,2] ?_
 refine ag ?_
 refine bi hn 2 [0,50,2,12] ?_
 refine aA _ rfl (fun hb1 => ?_) (fun hb1 => ?_)
 ·have h:=aH hb1 h
  refine gv hn 0 ?_
  refine yS (.agg [vb true,vs z0,vs z0]) 2 ⟨bT _ _ _ _ [1,1,1] _ _ underlying43 jr (qW _ underlying43) (.copy _ kR.nil) rfl rfl rfl⟩ ?_
  refine bK [50,2,3] ?_
  refine aD ?_
  refine aC [1,2] (by kernel_rfl) (es':=[(_,_),(_,_)]) rfl ?_
  refine am ?_
  obtain rfl:=zi h
  exact aF hio rfl (.cellA _ _ _ _ underlying43 rfl iJ (.tmp _ _ .nil)) rfl rfl
 ·have h:=aG hb1 h
  refine aB ?_
  refine ai (ag ?_)
  obtain ⟨v2,hv2,h⟩:=zn h
  refine yx hn 1 ?_
  refine ys 0 ⟨lk call101 (jD _ _ _ hv2)⟩ ?_
  refine ym 4 ?_
  refine bK [50,2,4,5] ?_
  refine ag ?_
  obtain ⟨v3,hv3,h⟩:=zn h
  refine yx hn 1 ?_
  refine ys 0 ⟨lk call126 (mH _ _ _ hv3)⟩ ?_
  refine ym 2 ?_
  refine yw [4] 2 ?_
  refine bK [50,2,5,4,6] ?_
  refine ag ?_
  obtain ⟨v4,hv4,h⟩:=zn h
  refine yx hn 1 ?_
  refine ys 0 ⟨lk call127 (sQ _ _ _ hv4)⟩ ?_
  refine ym 6 ?_
  refine bK [50,2,5,6,7,8,9] ?_
  refine gv hn 2 ?_
  refine yS (.agg [vb false,vs v4.1,vs v4.2.1]) 0 ⟨bT _ _ _ _ [1,1,1] _ _ underlying43 jr (qW _ underlying43) (.copy _ (.copy _ kR.nil)) rfl rfl rfl⟩ ?_
  refine yS (.box 43 [vb false,vs z0,vs z0]) 1 ⟨oA (bz _ _ jr)⟩ ?_
  refine bK [50,2,5,6,9,10] ?_
  refine ag (ag ?_)
  refine aP h (fun (s6:Bool)=>[(50,.glob (GL mx)),(2,.box 43 [vb false,vs z0,vs z0]),(10,.box 43 [vb false,vs v4.1,vs v4.2.1]),(47,vb s6)]) ?_ ?_
  ·rintro s6 h
   refine ai ?_
   refine aA _ rfl (fun hb10 => ?_) (fun hb10 => ?_)
   ·have h:=aH hb10 h
    refine gv hn 0 ?_
    refine yS (.agg [vb false,vs z0,vs z0]) 0 ⟨bT _ _ _ _ [1,1,1] _ _ underlying43 jr (qW _ underlying43) kR.nil rfl rfl rfl⟩ ?_
    refine yk [48,2] [] ?_
    refine yt (2,.box 43 [vb false,vs z0,vs z0]) 1 ⟨bO _ _ _ 48 2 3 iJ rfl rfl rfl rfl rfl (.eq _ (.eq _ (.eq _ (.nil _)))) rfl⟩ ?_
    refine bK [50,2,3] ?_
    refine aD ?_
    refine aC [1,2] (by kernel_rfl) (es':=[(_,_),(_,_)]) rfl ?_
    refine am ?_
    obtain rfl:=zi h
    exact aF hio rfl (.cellA _ _ _ _ underlying43 rfl iJ (.tmp _ _ .nil)) rfl rfl
   ·have h:=aG hb10 h
    refine aB (ai ?_)
    refine bi hn 3 [50,2,3] ?_
    refine aD ?_
    refine aC [1,2] (by kernel_rfl) (es':=[(_,_),(_,_)]) rfl ?_
    obtain rfl:=zi h
    exact aF hio rfl (.cellA _ _ _ _ underlying43 rfl iJ (.tmp _ _ .nil)) rfl rfl
  ·intro u7 h hl8 hr9
   refine au h (fun hg7_2 h => ?_) (fun hg7_2 h => ?_)
   ·refine yx hn 3 ?_
    refine yd hg7_2 12 ?_
    refine ye [50,2,10,47] ?_
    exact hl8 _ (zi h).symm
   ·refine au h (fun hg7_6 h => ?_) (fun hg7_6 h => ?_)
    ·refine yx hn 3 ?_
     refine yd hg7_2 4 ?_
     refine yd hg7_6 8 ?_
     refine ye [50,2,10,47] ?_
     exact hl8 _ (zi h).symm
    ·refine au h (fun hg7_10 h => ?_) (fun hg7_10 h => ?_)
     ·refine yx hn 3 ?_
      refine yd hg7_2 4 ?_
      refine yd hg7_6 4 ?_
      refine yd hg7_10 4 ?_
      refine ye [50,2,10,47] ?_
      exact hl8 _ (zi h).symm
     ·obtain ⟨v5,hv5,h⟩:=zn h
      refine yx hn 3 ?_
      refine yd hg7_2 4 ?_
      refine yd hg7_6 4 ?_
      refine yd hg7_10 1 ?_
      refine ys 2 ⟨lg call68 (fq _ _ _ hv5) 50⟩ ?_
      refine ye [50,2,10,47] ?_
      exact hl8 _ (zi h).symm
theorem qg (mx:Int) (b:(List Int)) (r:(Int×Bool)) (h:Sh.cR b=some r):kF Tryz.prog (GL mx) 103 [.fl .shr 1 (map (int .u8) b)] (.tup [.v (.int .i64 r.1),.v (.bool r.2)]):=by
 unfold Sh.cR at h
 refine yG 17 func103 fun g0 hn hio => ?_
 refine gv hn 0 ?_
 refine yS (.box 3 [vi 0]) 0 ⟨oA (bz _ _ IW)⟩ ?_
 refine yS (.box 4 [vb false]) 0 ⟨oA (bz _ _ Jl)⟩ ?_
 refine bK [0,17,2,3] ?_
 refine ag (ag ?_)
 obtain ⟨v1,hv1,h⟩:=zn h
 refine yx hn 1 ?_
 refine yk [] [5] ?_
 refine yt (6,.cloB 89 [.box 25 [fb v1]]) 0 ⟨jA _ _ 69 _ _ rfl call69 rfl rfl (jp b _ hv1) rfl⟩ ?_
 refine bK [17,2,3,6] ?_
 refine aS ?_
 refine jY [3,0,1,2] (by kernel_rfl) (es':=[(6,.cloB 89 [.box 25 [fb v1]]),(17,.glob (GL mx)),(2,.box 3 [vi 0]),(3,.box 4 [vb false])]) rfl ?_
 refine ke h 89 6 7 18 _ [17,2,3] call89 (fun (s8:Int)=>[(17,.glob (GL mx)),(2,.box 3 [.v (.int .i64 s8)]),(3,.box 4 [.v (.bool false)])]) (fun (s10:Int)=>[(17,.glob (GL mx)),(2,.box 3 [.v (.int .i64 s10)]),(3,.box 4 [.v (.bool true)])]) (fun l J Y hY t t' h=>gT mx l J Y hY v1 t t' h) hn rfl (fun _=>rfl) (fun _=>rfl) (fun _=>rfl) rfl rfl (fun _=>⟨rfl,rfl⟩) rfl (kg 17 rfl) ?_ ?_ ?_
 ·rintro kk g0 hn hio x s8 u h
  refine tz (es':=[(7,fb x),(17,.glob (GL mx)),(2,.box 3 [vi s8]),(3,.box 4 [vb false]),(17,.v (kk.tm.getD 17 undef)),(2,.v (kk.tm.getD 2 undef)),(3,.v (kk.tm.getD 3 undef)),(18,.inv kk.ready)]) rfl ?_
  refine yy hn 1 [17,2,3,18,4,17,2,3] ?_
  refine aC [0,1,2,4,5,6,7,3] (by kernel_rfl) (es':=[(17,.glob (GL mx)),(2,.box 3 [vi s8]),(3,.box 4 [vb false]),(4,fb x),(17,.v (kk.tm.getD 17 undef)),(2,.v (kk.tm.getD 2 undef)),(3,.v (kk.tm.getD 3 undef)),(18,.inv kk.ready)]) rfl ?_
  refine kV (es:=[(17,.glob (GL mx)),(2,.box 3 [vi s8]),(3,.box 4 [vb false]),(4,fb x),(17,.v (kk.tm.getD 17 undef)),(2,.v (kk.tm.getD 2 undef)),(3,.v (kk.tm.getD 3 undef))]) 18 rfl ?_
  refine aS (ag (ag ?_))
  obtain ⟨v2,hv2,h⟩:=zn h
  refine yx hn 1 ?_
  refine ys 1 ⟨lS hv2⟩ ?_
  refine bK [17,2,3,4,18,10,17,2,3] ?_
  refine aA _ rfl (fun hb11 => ?_) (fun hb11 => ?_)
  ·have h:=aH hb11 h
   refine bi hn 3 [17,2,3,18,17,2,3] ?_
   refine aD (am (aY ?_))
   refine aC [0,1,2,4,5,6,3] (by kernel_rfl) (es':=[(_,_),(_,_),(_,_),(_,_),(_,_),(_,_),(_,_)]) rfl ?_
   obtain rfl:=zi h
   exact rl 18 [17,2,3] _ rfl rfl (by kernel_rfl)
  ·have h:=aG hb11 h
   refine aB (ai ?_)
   obtain ⟨v4,hv4,h⟩:=zn h
   obtain ⟨v5,hv5,h⟩:=zn h
   refine yx hn 3 ?_
   refine ys 0 ⟨lb hv4⟩ ?_
   refine ys 1 ⟨lb hv5⟩ ?_
   refine ye [17,2,3,18,17,2,3] ?_
   refine bA ?_
   refine aC [0,1,2,4,5,6,3] (by kernel_rfl) (es':=[(_,_),(_,_),(_,_),(_,_),(_,_),(_,_),(_,_)]) rfl ?_
   obtain rfl:=zi h
   exact kX 18 [17,2,3] _ rfl rfl (by kernel_rfl)
 ·rintro D s8 h
  refine bA (ai ?_)
  refine bi hn 2 [17,2,3] ?_
  refine aD ?_
  refine aC [1,2] (by kernel_rfl) (es':=[(_,_),(_,_)]) rfl ?_
  obtain rfl:=zi h
  exact aF hio rfl (.cell1 _ _ _ _ underlying3 rfl (.cell1 _ _ _ _ underlying4 rfl .nil)) rfl rfl
 ·rintro D s10 h
  refine aC [1,2] (by kernel_rfl) (es':=[(_,_),(_,_)]) rfl ?_
  refine aY (am ?_)
  obtain rfl:=zi h
  exact aF hio rfl (.cell1 _ _ _ _ underlying3 rfl (.cell1 _ _ _ _ underlying4 rfl .nil)) rfl rfl
theorem lH (s:(List Int)) (prefix_:(List Int)) (r:(List Int)) (h:Sh.dF s prefix_=some r):co Tryz.prog 104 [.fl .shr 1 (map (int .u8) s),.fl .shr 1 (map (int .u8) prefix_)] (.fl .shr 1 (map (int .u8) r)):=by
 unfold Sh.dF at h
 refine yO 13 func104 fun g0 hn hio => ?_
 refine bi hn 1 [0,1] ?_
 refine ag (ag ?_)
 obtain ⟨v1,hv1,h⟩:=zn h
 refine yx hn 2 ?_
 refine ys 0 ⟨lk call70 (gZ _ _ _ hv1)⟩ ?_
 refine bK [0,1,7] ?_
 refine aA _ rfl (fun hb2 => ?_) (fun hb2 => ?_)
 ·have h:=aH hb2 h
  refine ag ?_
  obtain ⟨v3,hv3,h⟩:=zn h
  refine yx hn 3 ?_
  refine yS (fb v3) 1 ⟨ik _ _ _ (prefix_.length:Int) (s.length:Int) _ underlying25 nV rfl rfl ⟨_,rfl⟩ rfl hv3⟩ ?_
  refine bK [4] ?_
  refine aD (am ?_)
  obtain rfl:=zi h
  exact aF hio rfl (.tmp _ _ .nil) rfl rfl
 ·have h:=aG hb2 h
  refine aB (ai ?_)
  refine bi hn 2 [4] ?_
  refine aD ?_
  obtain rfl:=zi h
  exact aF hio rfl (.tmp _ _ .nil) rfl rfl
theorem sW (mx:Int) (b:(List Int)) (r:((List Int)×Int×Int)) (h:Sh.dz b=some r):kF Tryz.prog (GL mx) 81 [.fl .shr 1 (map (int .u8) b)] (.tup [.fl (.own 5) 1 (map (int .u8) r.1),.v (.int .i64 r.2.1),.v (.int .i64 r.2.2)]):=by
 unfold Sh.dz at h
 refine yG 39 func81 fun g0 hn hio => ?_
 refine gv hn 0 ?_
 refine yS (.box 25 [vz]) 2 ⟨oA (bz _ _ Hb)⟩ ?_
 refine bK [0,39,2] ?_
 refine ag ?_
 obtain ⟨v1,hv1,h⟩:=zn h
 refine yx hn 1 ?_
 refine ys 0 ⟨lg call103 (qg _ _ _ hv1) 39⟩ ?_
 refine ym 4 ?_
 refine bK [0,39,2,5,6] ?_
 refine ag ?_
 refine bi hn 2 [0,39,2,5,15] ?_
 refine aA _ rfl (fun hb2 => ?_) (fun hb2 => ?_)
 ·have h:=aH hb2 h
  refine bi hn 3 [39,2,3,4] ?_
  refine aD ?_
  refine aC [1,2,3] (by kernel_rfl) (es':=[(_,_),(_,_),(_,_)]) rfl ?_
  refine dl (fs:=[(2,.box 25 [.fl (.own 5) 1 (map (int .u8) [])]),(3,vi 0),(4,vi 9)]) (.box _ _ (ay (cg 5 1) (cu)) rfl (.same _ (.same _ .nil))) ?_
  refine am ?_
  obtain rfl:=zi h
  exact aF hio rfl (.cell1 _ _ _ _ underlying25 rfl (.tmp _ _ (.tmp _ _ .nil))) rfl rfl
 ·have h:=aG hb2 h
  refine aB ?_
  refine ai (ag ?_)
  refine ag ?_
  obtain ⟨v3,hv3,h⟩:=zn h
  obtain ⟨v4,hv4,h⟩:=zn h
  refine yx hn 2 ?_
  refine yS (fb v3) 0 ⟨ik _ _ _ 0 v1.1 _ underlying25 nV rfl rfl rfl ⟨_,rfl⟩ hv3⟩ ?_
  refine ys 1 ⟨lg call65 (kN _ _ _ hv4) 39⟩ ?_
  refine bK [0,39,2,5,7] ?_
  refine bi hn 2 [0,39,2,5,7,21] ?_
  refine aA _ rfl (fun hb5 => ?_) (fun hb5 => ?_)
  ·have h:=aH hb5 h
   refine bi hn 4 [39,2,3,4] ?_
   refine aD ?_
   refine aC [1,2,3] (by kernel_rfl) (es':=[(_,_),(_,_),(_,_)]) rfl ?_
   refine dl (fs:=[(2,.box 25 [.fl (.own 5) 1 (map (int .u8) [])]),(3,vi 0),(4,vi v4)]) (.box _ _ (ay (cg 5 1) (cu)) rfl (.same _ (.same _ .nil))) ?_
   refine am ?_
   obtain rfl:=zi h
   exact aF hio rfl (.cell1 _ _ _ _ underlying25 rfl (.tmp _ _ (.tmp _ _ .nil))) rfl rfl
  ·have h:=aG hb5 h
   refine aB ?_
   refine ai (ag ?_)
   refine ag ?_
   obtain ⟨v6,hv6,h⟩:=zn h
   obtain ⟨v7,hv7,h⟩:=zn h
   refine yx hn 2 ?_
   refine yS (fb v6) 0 ⟨ik _ _ _ 0 v1.1 _ underlying25 nV rfl rfl rfl ⟨_,rfl⟩ hv6⟩ ?_
   refine yk [] [25] ?_
   refine yt (26,.cloB 89 [.box 25 [fb v7]]) 0 ⟨jA _ _ 69 _ _ rfl call69 rfl rfl (jp v6 _ hv7) rfl⟩ ?_
   refine bK [39,2,5,26] ?_
   refine aS ?_
   refine jY [3,0,1,2] (by kernel_rfl) (es':=[(26,.cloB 89 [.box 25 [fb v7]]),(39,.glob (GL mx)),(2,.box 25 [vz]),(5,vi v1.1)]) rfl ?_
   refine gV (fs:=[(26,.cloB 89 [.box 25 [fb v7]]),(39,.glob (GL mx)),(2,.box 25 [.fl (.own 5) 1 (map (int .u8) [])]),(5,vi v1.1)]) (.same _ (.same _ (.box _ _ (ay (cg 5 1) (cu)) rfl (.same _ .nil)))) ?_
   refine ke h 89 26 27 40 _ [39,2,5] call89 (fun (s12:(List Int))=>[(39,.glob (GL mx)),(2,.box 25 [.fl (.own 5) 1 (map (int .u8) s12)]),(5,.v (.int .i64 v1.1))]) (fun (():Unit)=>[]) (fun l J Y hY t t' h=>gT mx l J Y hY v7 t t' h) hn rfl (fun _=>rfl) (fun _=>rfl) (fun _=>rfl) rfl rfl (fun _=>⟨rfl,rfl⟩) rfl (kg 39 rfl) ?_ ?_ ?_
   ·rintro kk g0 hn hio x s12 u h
    refine tz (es':=[(27,fb x),(39,.glob (GL mx)),(2,.box 25 [.fl (.own 5) 1 (map (int .u8) s12)]),(5,vi v1.1),(39,.v (kk.tm.getD 39 undef)),(2,.v (kk.tm.getD 2 undef)),(5,.v (kk.tm.getD 5 undef)),(40,.inv kk.ready)]) rfl ?_
    refine yy hn 1 [39,2,5,40,8,39,2,5] ?_
    refine aC [0,1,2,4,5,6,7,3] (by kernel_rfl) (es':=[(39,.glob (GL mx)),(2,.box 25 [.fl (.own 5) 1 (map (int .u8) s12)]),(5,vi v1.1),(8,fb x),(39,.v (kk.tm.getD 39 undef)),(2,.v (kk.tm.getD 2 undef)),(5,.v (kk.tm.getD 5 undef)),(40,.inv kk.ready)]) rfl ?_
    refine kV (es:=[(39,.glob (GL mx)),(2,.box 25 [.fl (.own 5) 1 (map (int .u8) s12)]),(5,vi v1.1),(8,fb x),(39,.v (kk.tm.getD 39 undef)),(2,.v (kk.tm.getD 2 undef)),(5,.v (kk.tm.getD 5 undef))]) 40 rfl ?_
    refine aS (ag ?_)
    obtain ⟨v8,hv8,h⟩:=zn h
    obtain ⟨v9,hv9,h⟩:=zn h
    refine wb [[2],[8]] ?_
    refine wN [] ?_
    refine wS (.fl (.own 5) 1 (map (int .u8) [46])) [] ⟨ce _ _ 1 (.int .u8 0) (map (int .u8) [46]) [(0,.int .u8 46)] underlying25 nV tq (fun _ V w o a hv hes=>by simp only [List.map_toArray,List.map_cons,List.map_nil]; try rfl) (fy (by simp [Instr.fill,Value.cells]; rfl) (by simp [List.range,List.range.loop] <;> rfl)) (by simp [Value.oneCell']) rfl (by decide) (by decide) (by decide)⟩ ?_
    refine wK [30] [] ?_
    refine wt [(31,.fl .ro 1 (map (int .u8) [46]))] [] ⟨gB _ _ _ underlying25 underlying5 (by intro h; cases h)⟩ ?_
    refine wN [29,31] ?_
    refine wS (fb v8) [] ⟨jA _ _ 104 _ _ rfl call104 rfl rfl (lH x [46] _ hv8) rfl⟩ ?_
    refine wK [2] [28,32] ?_
    refine wt [(2,.box 25 [.any]),(33,.fl (.own 5) 1 (map (int .u8) v9))] [] ⟨jt _ _ _ _ _ _ kE rfl rfl (zl rfl) rfl (gR _) (gR _) hv9 ((List.map_append).symm.trans (congrArg (map _) (jh hv9))) (Nat.ne_of_beq_eq_false rfl) rfl rfl⟩ ?_
    refine wK [28,33,2] [] ?_
    refine wt [(2,.box 25 [.fl (.own 5) 1 (map (int .u8) v9)])] [] ⟨bG.drop [_] (aU _ _ _ _ _ _ _ _ qP rfl rfl rfl (zl rfl) rfl rfl)⟩ ?_
    refine rz hn [39,2,5,40,39,2,5] ?_
    obtain ⟨v10,hv10,h⟩:=zn h
    refine yx hn 1 ?_
    refine yk [2] [34] ?_
    refine qk (2,.box 25 [.any]) (35,.fl (.own 5) 1 (map (int .u8) v10)) 0 ⟨fP _ _ _ _ _ _ kE tq underlying9 rfl rfl (zl rfl) rfl rfl hv10 rfl (Nat.ne_of_beq_eq_false rfl) rfl rfl⟩ ?_
    refine yw [34] 0 ?_
    refine yk [35,2] [] ?_
    refine yt (2,.box 25 [.fl (.own 5) 1 (map (int .u8) v10)]) 0 ⟨aU _ _ _ _ _ _ _ _ qP rfl rfl rfl (zl rfl) rfl rfl⟩ ?_
    refine ye [39,2,5,40,39,2,5] ?_
    refine bA ?_
    refine aC [0,1,2,4,5,6,3] (by kernel_rfl) (es':=[(_,_),(_,_),(_,_),(_,_),(_,_),(_,_),(_,_)]) rfl ?_
    obtain rfl:=zi h
    exact kX 40 [39,2,5] _ rfl rfl (by kernel_rfl)
   ·rintro D s12 h
    refine bA ?_
    refine ai (ag ?_)
    obtain ⟨v13,hv13,h⟩:=zn h
    refine yx hn 2 ?_
    refine ys 0 ⟨lb hv13⟩ ?_
    refine yk [2] [36] ?_
    refine yt (2,.box 25 [.fl (.own 5) 1 (map (int .u8) s12)]) 2 ⟨rL _ _ _ 2 0 qP rfl rfl rfl (zl rfl)⟩ ?_
    refine bK [39,2,3,4] ?_
    refine aD ?_
    refine aC [1,2,3] (by kernel_rfl) (es':=[(_,_),(_,_),(_,_)]) rfl ?_
    obtain rfl:=zi h
    exact aF hio rfl (.cell1 _ _ _ _ underlying25 rfl (.tmp _ _ (.tmp _ _ .nil))) rfl rfl
   ·rintro D ⟨⟩ h
    cases h
end Go.Proofs.YtglabbpbianmnaaGreatDoor
