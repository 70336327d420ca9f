/-
  The model's runs are what is told in Lean.
-/
import Derived.Test.YtjnnkhmhjcjhdaaGreatDoorProg
import Derived.KernelRfl
import Derived.Test.YtjnnkhmhjcjhdaaGreatDoorShelf
import Derived.Test.YtjnnkhmhjcjhdaaGreatDoorIdx
import Derived.Test.YtjnnkhmhjcjhdaaGreatDoorB3
import Derived.Test.YtjnnkhmhjcjhdaaGreatDoorC1
import Derived.Test.YtjnnkhmhjcjhdaaGreatDoorBC
import Derived.Test.YtjnnkhmhjcjhdaaGreatDoorOkc5
set_option linter.unusedVariables false
set_option linter.unusedSimpArgs false
set_option maxHeartbeats 1000000
namespace Go.Proofs.YtjnnkhmhjcjhdaaGreatDoor
open Go.Abs Go.Abs.Sh Tryz
open List (map flatten)
open Value (int)
theorem uN (mx:Int×Nat×Value) (b:(List Int)) (r:(List Int)) (h:Sh.ql b=some r):qT Tryz.prog (GL mx) 183 [.fl .shr 1 (map (int .u8) b)] (.v (.agg (map (int .u8) r).toArray)):=by
  unfold Sh.ql at h
  refine yG 62 func183 fun g0 hn hio => ?_
  refine oh hn 0 ?_
  refine yS (.arr 91 (map (int .u8) ((List.replicate 16 (0:Int))))) 0 ⟨oA (fK _ EN)⟩ ?_
  refine eS [0,62,2] ?_
  refine bq ?_
  obtain ⟨v1, hv1, h⟩:=zn h
  obtain ⟨v2, hv2, h⟩:=zn h
  refine yx hn 0 ?_
  refine yS (.v (.agg (map (int .u32) ([1732584193,4023233417,2562383102,271733878]:List Int)).toArray)) 0 ⟨BB _ _ (.agg #[.int .u32 0,.int .u32 0,.int .u32 0,.int .u32 0]) (map (int .u32) ([1732584193,4023233417,2562383102,271733878]:List Int)) [(0,.int .u32 1732584193),(1,.int .u32 4023233417),(2,.int .u32 2562383102),(3,.int .u32 271733878)] underlying225 mQ TG (fun _ V w o a hv hes=>by simp only [List.map_toArray,List.map_cons,List.map_nil]; try rfl) (iw (by simp [Instr.fill,Value.cells]; rfl) (by simp))⟩ ?_
  refine yS (.arr 225 (map (int .u32) ((List.replicate 4 (0:Int))))) 0 ⟨oA (fK _ TI)⟩ ?_
  refine yk [3] [10] ?_
  refine yt (3,.arr 225 (map (int .u32) ([1732584193,4023233417,2562383102,271733878]:List Int))) 0 ⟨fQ _ _ _ _ (Gt.trans (congrArg some (fa hv2))) rfl rfl (jN (fun _=>rfl) _) ((fa (f:=int .u32) hv1).symm.trans (fa (f:=int .u32) hv2))⟩ ?_
  refine eS [0,62,2,3] ?_
  refine bq ?_
  obtain ⟨v3, hv3, h⟩:=zn h
  obtain ⟨v4, hv4, h⟩:=zn h
  refine yx hn 2 ?_
  refine ys 0 ⟨lB (xt hv3)⟩ ?_
  refine ys 1 ⟨lb hv4⟩ ?_
  refine eS [0,62,2,3,4] ?_
  refine bq ?_
  refine eo hn 1 [0,62,2,3,4,5] ?_
  refine eR h (fun ((s16,s17):(List Int)×Int)=>[(0,fb b),(62,.glob (GL mx)),(2,.arr 91 (map (int .u8) ((List.replicate 16 (0:Int))))),(3,.arr 225 (map (int .u32) s16)),(4,vi v4),(5,vi s17)]) (fun (s19:(List Int))=>[(0,fb b),(62,.glob (GL mx)),(2,.arr 91 (map (int .u8) ((List.replicate 16 (0:Int))))),(3,.arr 225 (map (int .u32) s19)),(4,vi v4)]) ?_ ?_
  ·rintro s19 h
   refine cr (bq ?_)
   obtain ⟨v27, hv27, h⟩:=zn h
   obtain ⟨v28, hv28, h⟩:=zn h
   refine yx hn 2 ?_
   refine yS (fb v27) 2 ⟨xo _ _ _ v4 (b.length:Int) _ underlying28 tq rfl rfl ⟨_,rfl⟩ rfl hv27⟩ ?_
   refine ys 0 ⟨lk call204 (CR _ _ _ hv28)⟩ ?_
   refine ya 0 ?_
   refine eS [62,2,3,6] ?_
   refine bq ?_
   refine eo hn 1 [62,2,3,6,7] ?_
   refine KB 3 hio (es':=[(62, .glob (GL mx)), (2, .arr 91 (map (int .u8) ((List.replicate 16 (0:Int))))), (3, .arr 225 (map (int .u32) s19)), (6, .fl .ro 1 (map (int .u8) v28)), (7, .v (.int .i64 0))]) rfl ?_
   refine eR h (fun ((s41,s42,s43):(List Int)×(List Int)×Int)=>[(62,.glob (GL mx)),(2,.arr 91 (map (int .u8) ((List.replicate 16 (0:Int))))),(3,.arr 225 (map (int .u32) s41)),(6,.fl .ro 1 (map (int .u8) s42)),(7,vi s43)]) (fun (s45:(List Int))=>[(62,.glob (GL mx)),(2,.arr 91 (map (int .u8) ((List.replicate 16 (0:Int))))),(3,.arr 225 (map (int .u32) s45))]) ?_ ?_
   ·rintro s45 h
    refine cr ?_
    refine oh hn 0 ?_
    refine yS (.arr 91 (map (int .u8) ((List.replicate 16 (0:Int))))) 0 ⟨oA (fK _ EN)⟩ ?_
    refine eS [62,2,3,8] ?_
    refine bq ?_
    refine eo hn 1 [62,2,3,8,46] ?_
    refine eR h (fun ((s67,s68):(List Int)×Int)=>[(62,.glob (GL mx)),(2,.arr 91 (map (int .u8) ((List.replicate 16 (0:Int))))),(3,.arr 225 (map (int .u32) s45)),(8,.arr 91 (map (int .u8) s67)),(46,vi s68)]) (fun (s70:(List Int))=>[(62,.glob (GL mx)),(2,.arr 91 (map (int .u8) ((List.replicate 16 (0:Int))))),(8,.arr 91 (map (int .u8) s70))]) ?_ ?_
    ·rintro s70 h
     refine cr (bq ?_)
     obtain ⟨v78, hv78, h⟩:=zn h
     obtain ⟨v79, hv79, h⟩:=zn h
     obtain ⟨v80, hv80, h⟩:=zn h
     refine yx hn 0 ?_
     refine yS (.v (.agg (map (int .u8) s70).toArray)) 0 ⟨pb _ _ _ _ underlying91 rfl (zx.trans (congrArg some (fa hv78))) rfl rfl⟩ ?_
     refine yk [2] [61] ?_
     refine yt (2,.arr 91 (map (int .u8) s70)) 0 ⟨fQ _ _ _ _ (zx.trans (congrArg some (fa hv80))) rfl rfl (jN (fun _=>rfl) _) ((fa (f:=int .u8) hv79).symm.trans (fa (f:=int .u8) hv80))⟩ ?_
     refine eS [62,2] ?_
     refine cY ?_
     obtain ⟨v81, hv81, h⟩:=zn h
     refine cw [1] (by kernel_rfl) (es':=[(_,_)]) rfl ?_
     obtain rfl:=zi h
     exact dq hio rfl (.cellR _ _ _ _ underlying91 rfl (zx.trans (congrArg some (fa hv81))) .nil) rfl rfl
    ·rintro u71 hl72 hr73 ⟨s67, s68⟩ rr76 h ho74
     refine eo hn 1 [62,2,3,8,46,47] ?_
     refine bq ?_
     refine cU _ rfl (fun hb77 => ?_) (fun hb77 => ?_)
     ·have h:=dn hb77 h
      refine dw ?_
      refine cr (bq ?_)
      refine dY ?_
      refine eo hn 2 [62,2,3,8,46,9] ?_
      obtain ⟨v54, hv54, h⟩:=zn h
      obtain ⟨v55, hv55, h⟩:=zn h
      obtain ⟨v56, hv56, h⟩:=zn h
      obtain ⟨v57, hv57, h⟩:=zn h
      obtain ⟨v58, hv58, h⟩:=zn h
      obtain ⟨v59, hv59, h⟩:=zn h
      obtain ⟨v60, hv60, h⟩:=zn h
      obtain ⟨v61, hv61, h⟩:=zn h
      obtain ⟨v62, hv62, h⟩:=zn h
      refine yx hn 2 ?_
      refine ys 0 ⟨lB (xt hv54)⟩ ?_
      refine yS (.ptr 3 v55) 0 ⟨ji _ _ _ _ 4 3 _ underlying225 mQ rfl rfl (fH hv55).1 (fH hv55).2 (by decide)⟩ ?_
      refine yS (.v (.int .u32 v56)) 1 ⟨jf _ _ _ _ _ _ underlying106 rfl rfl rfl (kr hv56)⟩ ?_
      refine ys 0 ⟨lB (qh hv57)⟩ ?_
      refine ys 0 ⟨lb hv58⟩ ?_
      refine ys 0 ⟨lB (qc hv59)⟩ ?_
      refine ys 0 ⟨lv hv60⟩ ?_
      refine yS (.ptr 8 v61) 0 ⟨ji _ _ _ _ 16 8 _ underlying91 tq rfl rfl (fH hv61).1 (fH hv61).2 (by decide)⟩ ?_
      refine yk [8] [59,58] ?_
      refine yt (8,.arr 91 (map (int .u8) v62)) 0 ⟨tF _ _ _ _ _ _ tq rfl rfl rfl rfl (Kd hv62) (Ko (f:=int .u8) hv62)⟩ ?_
      refine ye [62,2,3,8,46] ?_
      refine ep ?_
      refine cr ?_
      obtain ⟨v63, hv63, h⟩:=zn h
      refine yx hn 0 ?_
      refine ys 0 ⟨lb hv63⟩ ?_
      refine yw [46] 1 ?_
      refine ye [62,2,3,8,46] ?_
      exact fx _ (zi h).symm rfl
     ·have h:=dj hb77 h
      refine fp ?_
      refine dB ?_
      refine dB ?_
      refine fq ?_
      refine cw [0,1,3] (by kernel_rfl) (es':=[(_,_),(_,_),(_,_)]) rfl ?_
      exact hl72 _ (ho74 _ (zi h).symm).symm
   ·rintro u46 hl47 hr48 ⟨s41, s42, s43⟩ rr51 h ho49
    refine bq ?_
    refine eo hn 4 [62,2,3,6,7,36] ?_
    refine cU _ rfl (fun hb52 => ?_) (fun hb52 => ?_)
    ·have h:=dn hb52 h
     refine dw ?_
     refine cr (bq ?_)
     refine dY ?_
     obtain ⟨v30, hv30, h⟩:=zn h
     obtain ⟨v31, hv31, h⟩:=zn h
     obtain ⟨v32, hv32, h⟩:=zn h
     obtain ⟨v33, hv33, h⟩:=zn h
     obtain ⟨v34, hv34, h⟩:=zn h
     obtain ⟨v35, hv35, h⟩:=zn h
     refine wb [] ?_
     refine wN [3] ?_
     refine wS (.v (.agg (map (int .u32) s41).toArray)) [[6],[7],[7]] ⟨pb _ _ _ _ underlying225 rfl (Gt.trans (congrArg some (fa hv30))) rfl rfl⟩ ?_
     refine wN [42] ?_
     refine wo [] ⟨lb hv31⟩ ?_
     refine wN [40,41,43] ?_
     refine wS (.fl .ro 1 (map (int .u8) v32)) [] ⟨xo _ _ _ s43 v31 _ underlying28 tq rfl rfl ⟨_,rfl⟩ ⟨_,rfl⟩ hv32⟩ ?_
     refine wN [39,44,62] ?_
     refine wo [] ⟨lg call203 (rY _ _ _ _ hv33) 62⟩ ?_
     refine wK [3] [45] ?_
     refine wt [(3,.arr 225 (map (int .u32) v33))] [] ⟨fQ _ _ _ _ (Gt.trans (congrArg some (fa hv35))) rfl rfl (jN (fun _=>rfl) _) ((fa (f:=int .u32) hv34).symm.trans (fa (f:=int .u32) hv35))⟩ ?_
     refine we hn [62,2,3,6,7] ?_
     refine ep ?_
     refine cr ?_
     obtain ⟨v36, hv36, h⟩:=zn h
     refine yx hn 1 ?_
     refine ys 0 ⟨lb hv36⟩ ?_
     refine yw [7] 1 ?_
     refine ye [62,2,3,6,7] ?_
     exact fx _ (zi h).symm rfl
    ·have h:=dj hb52 h
     refine fp ?_
     refine dB ?_
     refine dB ?_
     refine fq ?_
     refine cw [0,1,2] (by kernel_rfl) (es':=[(_,_),(_,_),(_,_)]) rfl ?_
     exact hl47 _ (ho49 _ (zi h).symm).symm
  ·rintro u20 hl21 hr22 ⟨s16, s17⟩ rr25 h ho23
   refine bq ?_
   refine eo hn 3 [0,62,2,3,4,5,17] ?_
   refine cU _ rfl (fun hb26 => ?_) (fun hb26 => ?_)
   ·have h:=dn hb26 h
    refine dw ?_
    refine cr (bq ?_)
    refine dY ?_
    obtain ⟨v6, hv6, h⟩:=zn h
    obtain ⟨v7, hv7, h⟩:=zn h
    obtain ⟨v8, hv8, h⟩:=zn h
    obtain ⟨v9, hv9, h⟩:=zn h
    obtain ⟨v10, hv10, h⟩:=zn h
    obtain ⟨v11, hv11, h⟩:=zn h
    refine wb [] ?_
    refine wN [3] ?_
    refine wS (.v (.agg (map (int .u32) s16).toArray)) [[0],[5],[5]] ⟨pb _ _ _ _ underlying225 rfl (Gt.trans (congrArg some (fa hv6))) rfl rfl⟩ ?_
    refine wN [23] ?_
    refine wo [] ⟨lb hv7⟩ ?_
    refine wN [21,22,24] ?_
    refine wS (fb v8) [] ⟨xo _ _ _ s17 v7 _ underlying28 tq rfl rfl ⟨_,rfl⟩ ⟨_,rfl⟩ hv8⟩ ?_
    refine wN [20,25,62] ?_
    refine wo [] ⟨lg call203 (rY _ _ _ _ hv9) 62⟩ ?_
    refine wK [3] [26] ?_
    refine wt [(3,.arr 225 (map (int .u32) v9))] [] ⟨fQ _ _ _ _ (Gt.trans (congrArg some (fa hv11))) rfl rfl (jN (fun _=>rfl) _) ((fa (f:=int .u32) hv10).symm.trans (fa (f:=int .u32) hv11))⟩ ?_
    refine we hn [0,62,2,3,4,5] ?_
    refine ep ?_
    refine cr ?_
    obtain ⟨v12, hv12, h⟩:=zn h
    refine yx hn 1 ?_
    refine ys 0 ⟨lb hv12⟩ ?_
    refine yw [5] 1 ?_
    refine ye [0,62,2,3,4,5] ?_
    exact fx _ (zi h).symm rfl
   ·have h:=dj hb26 h
    refine fp ?_
    refine dB ?_
    refine dB ?_
    refine fq ?_
    refine cw [0,1,2,3,4] (by kernel_rfl) (es':=[(_,_),(_,_),(_,_),(_,_),(_,_)]) rfl ?_
    exact hl21 _ (ho23 _ (zi h).symm).symm
theorem Et (mx:Int×Nat×Value) (key:(List Int)) (text:(List Int)) (r:(List Int)) (h:Sh.rM key text=some r):qT Tryz.prog (GL mx) 154 [.fl .shr 1 (map (int .u8) key), .fl .shr 1 (map (int .u8) text)] (.v (.agg (map (int .u8) r).toArray)):=by
  unfold Sh.rM at h
  refine yG 51 func154 fun g0 hn hio => ?_
  refine oh hn 0 ?_
  refine yS (.arr 91 (map (int .u8) ((List.replicate 16 (0:Int))))) 0 ⟨oA (fK _ EN)⟩ ?_
  refine eS [0,1,51,4] ?_
  refine oh hn 0 ?_
  refine yS (.arr 205 (map (int .u8) ((List.replicate 64 (0:Int))))) 0 ⟨oA (fK _ Vc)⟩ ?_
  refine eS [0,1,51,4,5] ?_
  refine bq ?_
  refine dO h (fun (s8:(List Int))=>[(1,fb text),(51,.glob (GL mx)),(4,.arr 91 (map (int .u8) ((List.replicate 16 (0:Int))))),(5,.arr 205 (map (int .u8) s8))]) ?_ ?_
  ·rintro s8 h
   refine cr (bq ?_)
   obtain ⟨v13, hv13, h⟩:=zn h
   obtain ⟨v14, hv14, h⟩:=zn h
   refine yx hn 2 ?_
   refine ys 0 ⟨lb hv13⟩ ?_
   refine yS (.fl (.own 5) 1 (map (int .u8) ([]:List Int))) 0 ⟨Qu _ _ _ _ pF (by decide) rfl rfl hv14⟩ ?_
   refine ya 0 ?_
   refine eS [1,51,4,5,7] ?_
   refine bq ?_
   obtain ⟨v15, hv15, h⟩:=zn h
   refine yx hn 0 ?_
   refine yS (.fl (.own 5) 1 (map (int .u8) ([]:List Int))) 0 ⟨Qu _ _ _ _ pF (by decide) rfl rfl hv15⟩ ?_
   refine ya 0 ?_
   refine eS [1,51,4,5,7,8] ?_
   refine bq ?_
   refine bq ?_
   obtain ⟨v16, hv16, h⟩:=zn h
   refine yx hn 0 ?_
   refine yS (.v (.agg (map (int .u8) s8).toArray)) 1 ⟨pb _ _ _ _ underlying205 rfl (UX.trans (congrArg some (fa hv16))) rfl rfl⟩ ?_
   refine eS [1,51,4,7,8,28,29] ?_
   refine eR h (fun ((s29,s30,s31):(List Int)×(List Int)×Int)=>[(1,fb text),(51,.glob (GL mx)),(4,.arr 91 (map (int .u8) ((List.replicate 16 (0:Int))))),(7,.fl (.own 5) 1 (map (int .u8) s29)),(8,.fl (.own 5) 1 (map (int .u8) s30)),(28,.v (.agg (map (int .u8) s8).toArray)),(29,vi s31)]) (fun ((s33,s34):(List Int)×(List Int))=>[(1,fb text),(51,.glob (GL mx)),(4,.arr 91 (map (int .u8) ((List.replicate 16 (0:Int))))),(7,.fl (.own 5) 1 (map (int .u8) s33)),(8,.fl (.own 5) 1 (map (int .u8) s34))]) ?_ ?_
   ·rintro ⟨s33, s34⟩ h
    refine cr (bq ?_)
    obtain ⟨v42, hv42, h⟩:=zn h
    obtain ⟨v43, hv43, h⟩:=zn h
    obtain ⟨v44, hv44, h⟩:=zn h
    obtain ⟨v45, hv45, h⟩:=zn h
    refine yx hn 0 ?_
    refine ym 1 ?_
    refine yp pF hv42 0 ?_
    refine ys 0 ⟨lg call183 (uN _ _ _ hv43) 51⟩ ?_
    refine yS (.arr 91 (map (int .u8) ((List.replicate 16 (0:Int))))) 0 ⟨oA (fK _ EN)⟩ ?_
    refine yk [11] [46] ?_
    refine yt (11,.arr 91 (map (int .u8) v43)) 0 ⟨fQ _ _ _ _ (zx.trans (congrArg some (fa hv45))) rfl rfl (jN (fun _=>rfl) _) ((fa (f:=int .u8) hv44).symm.trans (fa (f:=int .u8) hv45))⟩ ?_
    refine eS [51,4,8,11] ?_
    refine bq ?_
    obtain ⟨v46, hv46, h⟩:=zn h
    obtain ⟨v47, hv47, h⟩:=zn h
    obtain ⟨v48, hv48, h⟩:=zn h
    obtain ⟨v49, hv49, h⟩:=zn h
    obtain ⟨v50, hv50, h⟩:=zn h
    refine yx hn 0 ?_
    refine ym 0 ?_
    refine yk [11] [] ?_
    refine wX (11,.any) (48,.fl .ro 1 (map (int .u8) v43)) 0 ⟨pt _ _ 11 16 _ underlying91 tq rfl (fa hv46).symm (jN (fun _=>rfl) _)⟩ ?_
    refine yp pF hv47 0 ?_
    refine ys 0 ⟨lg call183 (uN _ _ _ hv48) 51⟩ ?_
    refine yk [4] [50] ?_
    refine yt (4,.arr 91 (map (int .u8) v48)) 0 ⟨fQ _ _ _ _ (zx.trans (congrArg some (fa hv50))) rfl rfl (jN (fun _=>rfl) _) ((fa (f:=int .u8) hv49).symm.trans (fa (f:=int .u8) hv50))⟩ ?_
    refine eS [51,4] ?_
    refine cY ?_
    obtain ⟨v51, hv51, h⟩:=zn h
    refine cw [1] (by kernel_rfl) (es':=[(_,_)]) rfl ?_
    obtain rfl:=zi h
    exact dq hio rfl (.cellR _ _ _ _ underlying91 rfl (zx.trans (congrArg some (fa hv51))) .nil) rfl rfl
   ·rintro u35 hl36 hr37 ⟨s29, s30, s31⟩ rr40 h ho38
    refine eo hn 1 [1,51,4,7,8,28,29,30] ?_
    refine bq ?_
    refine cU _ rfl (fun hb41 => ?_) (fun hb41 => ?_)
    ·have h:=dn hb41 h
     refine dw ?_
     refine cr (bq ?_)
     refine dY ?_
     refine bq ?_
     obtain ⟨v18, hv18, h⟩:=zn h
     obtain ⟨v19, hv19, h⟩:=zn h
     refine yx hn 0 ?_
     refine yS (.v (.int .u8 v19)) 1 ⟨Ca _ _ _ _ 64 v18 underlying205 tq rfl (congrArg (fun j=>AV.v (int .i64 j)) (fH hv18).1) (fH hv18).2 (kr hv19) ⟨_,underlying5,rfl⟩⟩ ?_
     refine eS [1,51,4,7,8,28,29,10] ?_
     refine bq ?_
     obtain ⟨v20, hv20, h⟩:=zn h
     obtain ⟨v21, hv21, h⟩:=zn h
     refine yx hn 0 ?_
     refine ym 1 ?_
     refine ys 0 ⟨lb hv20⟩ ?_
     refine yS (.fl (.own 5) 1 (map (int .u8) [v20])) 0 ⟨eN _ _ 1 (.int .u8 0) (map (int .u8) [v20]) [(0,.int .u8 v20)] underlying28 tq EP (fun _ V w o a hv hes=>by have e0:=gJ hv hes (x := .tmp 34) rfl; simp only [List.map_toArray,List.map_cons,List.map_nil,e0]; try rfl) (iw (by simp [Instr.fill,Value.cells]; rfl) (by simp [List.range,List.range.loop] <;> rfl)) (by simp [Value.oneCell']) rfl (by decide) (by decide) (by decide)⟩ ?_
     refine yp pF hv21 0 ?_
     refine ya 0 ?_
     refine eS [1,51,4,8,28,29,10,7] ?_
     obtain ⟨v22, hv22, h⟩:=zn h
     obtain ⟨v23, hv23, h⟩:=zn h
     refine yx hn 0 ?_
     refine ym 1 ?_
     refine ys 0 ⟨lb hv22⟩ ?_
     refine yS (.fl (.own 5) 1 (map (int .u8) [v22])) 0 ⟨eN _ _ 1 (.int .u8 0) (map (int .u8) [v22]) [(0,.int .u8 v22)] underlying28 tq EP (fun _ V w o a hv hes=>by have e0:=gJ hv hes (x := .tmp 39) rfl; simp only [List.map_toArray,List.map_cons,List.map_nil,e0]; try rfl) (iw (by simp [Instr.fill,Value.cells]; rfl) (by simp [List.range,List.range.loop] <;> rfl)) (by simp [Value.oneCell']) rfl (by decide) (by decide) (by decide)⟩ ?_
     refine yp pF hv23 0 ?_
     refine ya 0 ?_
     refine ye [1,51,4,28,29,7,8] ?_
     refine ep ?_
     refine cr ?_
     obtain ⟨v24, hv24, h⟩:=zn h
     refine yx hn 0 ?_
     refine ys 0 ⟨lb hv24⟩ ?_
     refine yw [29] 1 ?_
     refine ye [1,51,4,28,7,8,29] ?_
     refine cw [0,1,2,4,5,3,6] (by kernel_rfl) (es':=[(_,_),(_,_),(_,_),(_,_),(_,_),(_,_),(_,_)]) rfl ?_
     exact fx _ (zi h).symm rfl
    ·have h:=dj hb41 h
     refine fp ?_
     refine dB ?_
     refine dB ?_
     refine fq ?_
     refine cw [0,1,2,3,4] (by kernel_rfl) (es':=[(_,_),(_,_),(_,_),(_,_),(_,_)]) rfl ?_
     exact hl36 _ (ho38 _ (zi h).symm).symm
  ·intro u9 h hl10 hr11
   refine eo hn 3 [0,1,51,4,5,14] ?_
   refine cU _ rfl (fun hb12 => ?_) (fun hb12 => ?_)
   ·have h:=dn hb12 h
    refine bq ?_
    obtain ⟨v2, hv2, h⟩:=zn h
    obtain ⟨v3, hv3, h⟩:=zn h
    obtain ⟨v4, hv4, h⟩:=zn h
    refine yx hn 1 ?_
    refine ys 0 ⟨lg call183 (uN _ _ _ hv2) 51⟩ ?_
    refine yS (.arr 91 (map (int .u8) ((List.replicate 16 (0:Int))))) 0 ⟨oA (fK _ EN)⟩ ?_
    refine yk [6] [16] ?_
    refine yt (6,.arr 91 (map (int .u8) v2)) 0 ⟨fQ _ _ _ _ (zx.trans (congrArg some (fa hv4))) rfl rfl (jN (fun _=>rfl) _) ((fa (f:=int .u8) hv3).symm.trans (fa (f:=int .u8) hv4))⟩ ?_
    refine eS [1,51,4,5,6] ?_
    obtain ⟨v5, hv5, h⟩:=zn h
    obtain ⟨v6, hv6, h⟩:=zn h
    refine wb [] ?_
    refine wN [5] ?_
    refine wS (.asl 5 64) [] ⟨BO _ _ 5 64 _ underlying205 tq rfl (by decide)⟩ ?_
    refine wK [6] [] ?_
    refine wt [(6,.any),(18,.fl .ro 1 (map (int .u8) v2))] [] ⟨pt _ _ 6 16 _ underlying91 tq rfl (fa hv5).symm (jN (fun _=>rfl) _)⟩ ?_
    refine wK [5] [17,18] ?_
    refine wt [(5,.arr 205 (map (int .u8) (uz ((List.replicate 64 (0:Int))) v2))),(19,vi (Gn ((List.replicate 64 (0:Int))) v2))] [] ⟨Jn _ _ _ _ _ _ _ _ underlying28 tq rfl (UV hv6) rfl (by decide)⟩ ?_
    refine we hn [1,51,4,5] ?_
    exact hl10 _ (zi h).symm
   ·have h:=dj hb12 h
    obtain ⟨v7, hv7, h⟩:=zn h
    refine yx hn 0 ?_
    refine yS (.asl 5 64) 1 ⟨BO _ _ 5 64 _ underlying205 tq rfl (by decide)⟩ ?_
    refine yk [5] [20,21] ?_
    refine wX (5,.arr 205 (map (int .u8) (uz ((List.replicate 64 (0:Int))) key))) (22,vi (Gn ((List.replicate 64 (0:Int))) key)) 0 ⟨Jn _ _ _ _ _ _ _ _ underlying28 tq rfl (UV hv7) rfl (by decide)⟩ ?_
    refine ye [1,51,4,5] ?_
    exact hl10 _ (zi h).symm
theorem Mt (b:(List Int)) (r:ByteArray) (h:Sh.xl b=some r):gN Tryz.prog 155 [.fl .shr 1 (map (int .u8) b)] (.v (.string r)):=by
  unfold Sh.xl at h
  refine yO 22 func155 fun g0 hn hio => ?_
  refine eo hn 1 [0] ?_
  refine oh hn 0 ?_
  refine yS (.hid (qw 153 5 false (map (int .u8) ([]:List Int)))) 0 ⟨oA (eC.bld0 (fj _ _ TK))⟩ ?_
  refine eS [0,3] ?_
  refine bq ?_
  refine eo hn 3 [3,6,7,8] ?_
  refine eR h (fun ((s14,s15):(List Int)×Int)=>[(3,.hid (qw 153 5 false (map (int .u8) s14))),(6,fb b),(7,vi (b.length:Int)),(8,vi s15)]) (fun (s17:(List Int))=>[(3,.hid (qw 153 5 false (map (int .u8) s17)))]) ?_ ?_
  ·rintro s17 h
   refine cr (bq ?_)
   obtain ⟨v25, hv25, h⟩:=zn h
   refine yx hn 0 ?_
   refine yk [3] [] ?_
   refine yt (21,vs v25) 1 ⟨vj _ _ _ _ 21 128 [.tmp 3] [] _ _ _ rfl call128 rfl rfl rfl (py s17 _ hv25) (zl rfl) rfl rfl rfl rfl rfl rfl rfl⟩ ?_
   refine eS [2] ?_
   refine cY ?_
   obtain rfl:=zi h
   exact dq hio rfl (.tmp _ _ .nil) rfl rfl
  ·rintro u18 hl19 hr20 ⟨s14, s15⟩ rr23 h ho21
   refine eo hn 1 [3,6,7,8,9] ?_
   refine bq ?_
   refine cU _ rfl (fun hb24 => ?_) (fun hb24 => ?_)
   ·have h:=dn hb24 h
    refine dw ?_
    refine cr (bq ?_)
    refine dY ?_
    refine bq ?_
    obtain ⟨v2, hv2, h⟩:=zn h
    obtain ⟨v3, hv3, h⟩:=zn h
    refine yx hn 0 ?_
    refine ys 0 ⟨li hv2⟩ ?_
    refine ys 1 ⟨ll hv3⟩ ?_
    refine eS [3,6,7,8,5] ?_
    refine bq ?_
    obtain ⟨v4, hv4, h⟩:=zn h
    obtain ⟨v5, hv5, h⟩:=zn h
    obtain ⟨v6, hv6, h⟩:=zn h
    refine yx hn 1 ?_
    refine ys 0 ⟨lB (qc hv4)⟩ ?_
    refine ys 0 ⟨lh hv5⟩ ?_
    refine yq call125 (kA _ _ _ hv6) 3 [14] 0 ?_
    refine eS [3,6,7,8,5] ?_
    obtain ⟨v7, hv7, h⟩:=zn h
    obtain ⟨v8, hv8, h⟩:=zn h
    obtain ⟨v9, hv9, h⟩:=zn h
    refine yx hn 1 ?_
    refine ys 0 ⟨lb hv7⟩ ?_
    refine ys 0 ⟨lh hv8⟩ ?_
    refine yq call125 (kA _ _ _ hv9) 3 [18] 0 ?_
    refine ye [3,6,7,8] ?_
    refine ep ?_
    refine cr ?_
    obtain ⟨v10, hv10, h⟩:=zn h
    refine yx hn 0 ?_
    refine ys 0 ⟨lb hv10⟩ ?_
    refine yw [8] 1 ?_
    refine ye [3,6,7,8] ?_
    exact fx _ (zi h).symm rfl
   ·have h:=dj hb24 h
    refine fp ?_
    refine dB ?_
    refine dB ?_
    refine fq ?_
    refine cw [0] (by kernel_rfl) (es':=[(_,_)]) rfl ?_
    exact hl19 _ (ho21 _ (zi h).symm).symm
theorem FK (mx:Int×Nat×Value) (user:ByteArray) (secret:ByteArray) (challenge:ByteArray) (r:ByteArray) (h:Sh.sM user secret challenge=some r):qT Tryz.prog (GL mx) 133 [.v (.string user), .v (.string secret), .v (.string challenge)] (.v (.string r)):=by
  unfold Sh.sM at h
  refine yG 20 func133 fun g0 hn hio => ?_
  refine eo hn 1 [0,1,2,20] ?_
  refine bq ?_
  obtain ⟨v1, hv1, h⟩:=zn h
  obtain ⟨v2, hv2, h⟩:=zn h
  obtain ⟨v3, hv3, h⟩:=zn h
  obtain ⟨v4, hv4, h⟩:=zn h
  obtain ⟨v5, hv5, h⟩:=zn h
  refine yx hn 1 ?_
  refine ys 1 ⟨lT hv1⟩ ?_
  refine ys 0 ⟨lT hv2⟩ ?_
  refine ys 0 ⟨lg call154 (Et _ _ _ _ hv3) 20⟩ ?_
  refine yS (.arr 91 (map (int .u8) ((List.replicate 16 (0:Int))))) 0 ⟨oA (fK _ EN)⟩ ?_
  refine yk [7] [12] ?_
  refine yt (7,.arr 91 (map (int .u8) v3)) 0 ⟨fQ _ _ _ _ (zx.trans (congrArg some (fa hv5))) rfl rfl (jN (fun _=>rfl) _) ((fa (f:=int .u8) hv4).symm.trans (fa (f:=int .u8) hv5))⟩ ?_
  refine eS [0,20,7] ?_
  refine bq ?_
  obtain ⟨v6, hv6, h⟩:=zn h
  obtain ⟨v7, hv7, h⟩:=zn h
  obtain ⟨v8, hv8, h⟩:=zn h
  obtain ⟨v9, hv9, h⟩:=zn h
  obtain ⟨v10, hv10, h⟩:=zn h
  obtain ⟨v11, hv11, h⟩:=zn h
  refine yx hn 1 ?_
  refine ys 0 ⟨lB (kF hv6)⟩ ?_
  refine yk [7] [] ?_
  refine wX (7,.any) (15,.fl .ro 1 (map (int .u8) v3)) 0 ⟨pt _ _ 7 16 _ underlying91 tq rfl (fa hv7).symm (jN (fun _=>rfl) _)⟩ ?_
  refine ys 0 ⟨lk call155 (Mt _ _ hv8)⟩ ?_
  refine ys 0 ⟨lB (kF hv9)⟩ ?_
  refine ys 0 ⟨lT hv10⟩ ?_
  refine ys 1 ⟨lk call98 (tQ _ _ hv11)⟩ ?_
  refine eS [20,6] ?_
  refine cY ?_
  refine cw [1] (by kernel_rfl) (es':=[(_,_)]) rfl ?_
  obtain rfl:=zi h
  exact dq hio rfl (.tmp _ _ .nil) rfl rfl
theorem GU (mx:Int×Nat×Value) (user:ByteArray) (secret:ByteArray) (challenge:ByteArray) (line:ByteArray) (r:Bool) (h:Sh.qL user secret challenge line=some r):qT Tryz.prog (GL mx) 107 [.v (.string user), .v (.string secret), .v (.string challenge), .v (.string line)] (.v (.bool r)):=by
  unfold Sh.qL at h
  refine yG 15 func107 fun g0 hn hio => ?_
  refine eo hn 1 [0,1,2,3,15] ?_
  refine bq ?_
  obtain ⟨v1, hv1, h⟩:=zn h
  refine yx hn 4 ?_
  refine ys 2 ⟨lg call133 (FK _ _ _ _ _ hv1) 15⟩ ?_
  refine eS [15,8] ?_
  refine cY ?_
  refine cw [1] (by kernel_rfl) (es':=[(_,_)]) rfl ?_
  obtain rfl:=zi h
  exact dq hio rfl (.tmp _ _ .nil) rfl rfl
theorem om (u:Nat→Value) (s:aa) (code:Int) (r:jl) (h:Sh.iF s code=some r):Bt Tryz.prog 85 [.box 80 [.v (.int .i64 s.Gate.Phase), .v (.string s.Gate.Helo), .v (.bool s.Gate.From.Null), .v (.string s.Gate.From.Local), .v (.string s.Gate.From.Domain), .v (u 5), .v (.bool s.Gate.Quiet), .v (u 7), .v (.string s.Gate.Challenge), .v (.bool s.Gate.Proved), .v (.string ((s.config.Domains.getD 0 (⟨#[]⟩:ByteArray)))), .v (.string ((s.config.Domains.getD 1 (⟨#[]⟩:ByteArray)))), .v (.int .i64 s.config.Expiry), .v (.string s.config.User), .v (.string s.config.Secret), .v (.int .i64 s.config.Log), .v (.bool s.config.Held), .v (.int .i64 s.site), .v (.int .i64 s.at_), .v (u 19)], .v (.int .i64 code)] [.box 80 [.v (.int .i64 s.Gate.Phase), .v (.string s.Gate.Helo), .v (.bool s.Gate.From.Null), .v (.string s.Gate.From.Local), .v (.string s.Gate.From.Domain), .v (u 5), .v (.bool s.Gate.Quiet), .v (u 7), .v (.string s.Gate.Challenge), .v (.bool s.Gate.Proved), .v (.string ((s.config.Domains.getD 0 (⟨#[]⟩:ByteArray)))), .v (.string ((s.config.Domains.getD 1 (⟨#[]⟩:ByteArray)))), .v (.int .i64 s.config.Expiry), .v (.string s.config.User), .v (.string s.config.Secret), .v (.int .i64 s.config.Log), .v (.bool s.config.Held), .v (.int .i64 s.site), .v (.int .i64 s.at_), .v (u 19)]] (.agg [.v (.int .i64 r.Code), .fl (.own 9) 1 (map Value.string r.Lines)]):=by
  unfold Sh.iF at h
  refine yP 24 func85 fun args0 hargs0 g0 hn hio => ?_
  refine oh hn 0 ?_
  refine yS (.box 51 [vi 0,vz]) 0 ⟨oA (fj _ _ Sy)⟩ ?_
  refine eS [0,1,4,0] ?_
  refine eo hn 1 [0,1,4,5,0] ?_
  refine bq ?_
  refine dO h (fun (s6:ByteArray)=>[(0,.box 80 (vi s.Gate.Phase::vs s.Gate.Helo::vb s.Gate.From.Null::vs s.Gate.From.Local::vs s.Gate.From.Domain::.v (u 5)::vb s.Gate.Quiet::.v (u 7)::vs s.Gate.Challenge::vb s.Gate.Proved::dQ.c s.config [vi s.site,vi s.at_,.v (u 19)])),(1,vi code),(4,.box 51 [vi 0,vz]),(5,vs s6),(0,.v (List.getD args0 0 undef))]) ?_ ?_
  ·rintro s6 h
   refine cr ?_
   refine oh hn 2 ?_
   refine yS (.fl (.own 9) 1 (map Value.string [s6])) 0 ⟨eN _ _ 1 (.string ByteArray.empty) (map Value.string [s6]) [(0,.string s6)] underlying49 FZ Vg (fun _ V w o a hv hes=>by have e0:=gJ hv hes (x := .tmp 21) rfl; simp only [List.map_toArray,List.map_cons,List.map_nil,e0]; try rfl) (iw (by simp [Instr.fill,Value.cells]; rfl) (by simp [List.range,List.range.loop] <;> rfl)) (by simp [Value.oneCell']) rfl (by decide) (by decide) (by decide)⟩ ?_
   refine yk [22] [20] ?_
   refine yt (23,.agg [vi code,.fl (.own 9) 1 (map Value.string [s6])]) 0 ⟨fJ _ _ _ _ [1,1] _ _ underlying51 Sy (VJ _ underlying51) (.copy _ (.take _ _ uY.nil)) rfl rfl rfl⟩ ?_
   refine yk [23,4] [] ?_
   refine yt (4,.box 51 [vi code,.fl (.own 9) 1 (map Value.string [s6])]) 0 ⟨eD _ _ _ _ _ _ _ _ RO rfl rfl rfl (zl rfl) rfl rfl⟩ ?_
   refine eS [0,4,0] ?_
   refine cY ?_
   refine cw [1,0,2] (by kernel_rfl) (es':=[(_,_),(_,_),(_,_)]) rfl ?_
   obtain rfl:=zi h
   exact fR (es:=[(4, .box 51 [.v (.int .i64 code),.fl (.own 9) 1 (map Value.string [s6])])]) (posts:=[.box 80 [.v (.int .i64 s.Gate.Phase),.v (.string s.Gate.Helo),.v (.bool s.Gate.From.Null),.v (.string s.Gate.From.Local),.v (.string s.Gate.From.Domain),.v (u 5),.v (.bool s.Gate.Quiet),.v (u 7),.v (.string s.Gate.Challenge),.v (.bool s.Gate.Proved),.v (.string ((s.config.Domains.getD 0 (⟨#[]⟩:ByteArray)))),.v (.string ((s.config.Domains.getD 1 (⟨#[]⟩:ByteArray)))),.v (.int .i64 s.config.Expiry),.v (.string s.config.User),.v (.string s.config.Secret),.v (.int .i64 s.config.Log),.v (.bool s.config.Held),.v (.int .i64 s.site),.v (.int .i64 s.at_),.v (u 19)]]) hio rfl rfl (.cellA _ _ _ _ underlying51 rfl RO .nil) rfl rfl hargs0 rfl
  ·intro u7 h hl8 hr9
   refine dY ?_
   refine eo hn 3 [0,1,4,5,6,0] ?_
   refine cU _ rfl (fun hb10 => ?_) (fun hb10 => ?_)
   ·have h:=dn hb10 h
    obtain ⟨v2, hv2, h⟩:=zn h
    obtain ⟨v3, hv3, h⟩:=zn h
    refine yx hn 5 ?_
    refine ys 0 ⟨lT hv2⟩ ?_
    refine ys 0 ⟨lk call98 (tQ _ _ hv3)⟩ ?_
    refine yw [5] 1 ?_
    refine ye [0,1,4,5,0] ?_
    refine ep ?_
    exact hl8 _ (zi h).symm
   ·have h:=dj hb10 h
    refine bq ?_
    obtain ⟨v4, hv4, h⟩:=zn h
    refine yx hn 1 ?_
    refine ys 2 ⟨lk call99 (xw _ _ hv4)⟩ ?_
    refine eS [0,1,4,5,16,0] ?_
    refine cU _ rfl (fun hb11 => ?_) (fun hb11 => ?_)
    ·have h:=dn hb11 h
     refine yx hn 0 ?_
     refine yw [5] 1 ?_
     refine ye [0,1,4,5,0] ?_
     refine ep ?_
     exact hl8 _ (zi h).symm
    ·have h:=dj hb11 h
     refine dw ?_
     refine ep ?_
     refine cw [0,1,2,3,5] (by kernel_rfl) (es':=[(_,_),(_,_),(_,_),(_,_),(_,_)]) rfl ?_
     exact hl8 _ (zi h).symm
theorem ff (s:aa) (code:Int) (r:aa) (h:Sh.eB s code=some r):Bt Tryz.prog 76 [.box 80 (aa.b s), .v (.int .i64 code)] [.box 80 (aa.b r)] (.tup []):=by
  unfold Sh.eB at h
  refine yP 17 func76 fun args0 hargs0 g0 hn hio => ?_
  obtain ⟨v1, hv1, h⟩:=zn h
  obtain ⟨v2, hv2, h⟩:=zn h
  refine wb [[],[],[5,0],[6,0],[7,0],[0],[1]] ?_
  refine wN [9,0,10] ?_
  refine wS (.agg [vi v1.Code,.fl (.own 9) 1 (map Value.string v1.Lines)]) [] ⟨Le _ 11 0 85 [.int .i64 code] _ rfl call85 rfl rfl rfl rfl (fun u=>om u ((aa.r s)) code _ hv1) rfl rfl rfl⟩ ?_
  refine wK [11] [] ?_
  refine wt [(12,.agg [vi v1.Code,.fl (.own 9) 1 (map Value.string v1.Lines),vb false,vb false,vs z0,vs z0,vz,vz,vb false,vs z0,vi 0,vb false])] [] ⟨fJ _ _ _ _ [2,1,8,1] _ _ underlying55 HK (Ql _ underlying55) (.take _ _ uY.nil) rfl rfl rfl⟩ ?_
  refine wK [12] [] ?_
  refine wt [(13,.fr (.own 55) false 12 (flatten (map dG.ienc ([(dG.mk v1 false ((fe.mk ((cz.mk false z0 z0)) [] [] false z0 0)) false)]))))] [] ⟨uq _ _ _ 12 (.agg #[.int .i64 0,.slice none 0 0,.bool false,.bool false,.string ByteArray.empty,.string ByteArray.empty,.slice none 0 0,.slice none 0 0,.bool false,.string ByteArray.empty,.int .i64 0,.bool false]) false _ _ underlying34 Lz HK rfl (.cons (.v _) (.cons (.ro _ _ rfl) (.cons (.v _) (.cons (.v _) (.cons (.v _) (.cons (.v _) (.cons (.nil 3) (.cons (.nil 1) (.cons (.v _) (.cons (.v _) (.cons (.v _) (.cons (.v _) (.nil))))))))))))) rfl (by decide) (by decide)⟩ ?_
  refine wK [0] [8,13] ?_
  refine wt [(0,.box 80 (vi s.Gate.Phase::vs s.Gate.Helo::vb s.Gate.From.Null::vs s.Gate.From.Local::vs s.Gate.From.Domain::.fl (.own 26) 3 (flatten (map cz.enc s.Gate.To))::vb s.Gate.Quiet::.mkr 5 (map (int .u8) s.Gate.Buf)::vs s.Gate.Challenge::vb s.Gate.Proved::dQ.c s.config [vi s.site,vi s.at_,.any])),(14,.fr (.own 55) false 12 (flatten (map dG.ienc v2)))] [[4,0],[15,0]] ⟨rT _ 14 0 19 _ _ Uc rfl rfl (zl rfl) rfl (nN dG.ilen _) (nN dG.ilen _) hv2 (zh (rv hv2)) (by decide) (by decide) (by decide) rfl rfl⟩ ?_
  refine wK [8,14,0] [16] ?_
  refine wt [(0,.box 80 (vi s.Gate.Phase::vs s.Gate.Helo::vb s.Gate.From.Null::vs s.Gate.From.Local::vs s.Gate.From.Domain::.fl (.own 26) 3 (flatten (map cz.enc s.Gate.To))::vb s.Gate.Quiet::.mkr 5 (map (int .u8) s.Gate.Buf)::vs s.Gate.Challenge::vb s.Gate.Proved::dQ.c s.config [vi s.site,vi s.at_,.fr (.own 55) false 12 (flatten (map dG.ienc v2))]))] [] ⟨eC.drop [_] (eD _ _ _ _ _ _ _ _ Ui rfl rfl rfl (zl rfl) rfl rfl)⟩ ?_
  refine we hn [0,0] ?_
  obtain rfl:=zi h
  exact up (es:=[]) (posts:=[.box 80 [.v (.int .i64 s.Gate.Phase),.v (.string s.Gate.Helo),.v (.bool s.Gate.From.Null),.v (.string s.Gate.From.Local),.v (.string s.Gate.From.Domain),.fl (.own 26) 3 (flatten (map cz.enc s.Gate.To)),.v (.bool s.Gate.Quiet),.mkr 5 (map (int .u8) s.Gate.Buf),.v (.string s.Gate.Challenge),.v (.bool s.Gate.Proved),.v (.string ((s.config.Domains.getD 0 (⟨#[]⟩:ByteArray)))),.v (.string ((s.config.Domains.getD 1 (⟨#[]⟩:ByteArray)))),.v (.int .i64 s.config.Expiry),.v (.string s.config.User),.v (.string s.config.Secret),.v (.int .i64 s.config.Log),.v (.bool s.config.Held),.v (.int .i64 s.site),.v (.int .i64 s.at_),.fr (.own 55) false 12 (flatten (map dG.ienc v2))]]) hio rfl rfl .nil rfl rfl hargs0 rfl
theorem wP (mx:Int×Nat×Value) (s:aa) (line:ByteArray) (r:aa) (h:Sh.kY s line=some r):xD Tryz.prog (GL mx) 90 [.box 80 (aa.b s), .v (.string line)] [.box 80 (aa.b r)] (.tup []):=by
  unfold Sh.kY at h
  refine RA 34 func90 fun args0 hargs0 g0 hn hio => ?_
  refine eo hn 5 [0,1,34,0] ?_
  refine bq ?_
  refine bq ?_
  obtain ⟨v1, hv1, h⟩:=zn h
  refine wb [[],[8,0],[9,0],[10,0],[11,0],[],[13,0],[14,0],[15,0],[16,0],[],[18,0],[19,0],[20,0],[21,0],[1]] ?_
  refine wN [12,17,22,23,34] ?_
  refine wo [[24]] ⟨lg call107 (GU _ _ _ _ _ _ hv1) 34⟩ ?_
  refine Ht hn [0,34,25,0] ?_
  refine cU _ rfl (fun hb2 => ?_) (fun hb2 => ?_)
  ·have h:=dn hb2 h
   refine bq ?_
   obtain ⟨v3, hv3, h⟩:=zn h
   refine yx hn 1 ?_
   refine yQ call76 (ff _ _ _ hv3) 0 [26] 0 ?_
   refine eS [0,34,0] ?_
   refine cY ?_
   refine cw [0,2] (by kernel_rfl) (es':=[(_,_),(_,_)]) rfl ?_
   refine cT ?_
   obtain rfl:=zi h
   exact fR (es:=[]) (posts:=[.box 80 (aa.b v3)]) hio rfl rfl .nil rfl rfl hargs0 rfl
  ·have h:=dj hb2 h
   refine dw ?_
   refine cr ?_
   refine eo hn 5 [0,34,0] ?_
   obtain ⟨v4, hv4, h⟩:=zn h
   refine yx hn 1 ?_
   refine yQ call76 (ff _ _ _ hv4) 0 [32] 0 ?_
   refine ye [0,34,0] ?_
   refine cw [0,2] (by kernel_rfl) (es':=[(_,_),(_,_)]) rfl ?_
   obtain rfl:=zi h
   exact up (es:=[]) (posts:=[.box 80 (aa.b v4)]) hio rfl rfl .nil rfl rfl hargs0 rfl
theorem uv (line:ByteArray) (r:Bool) (h:Sh.tH line=some r):gN Tryz.prog 108 [.v (.string line)] (.v (.bool r)):=by
  unfold Sh.tH at h
  refine yO 20 func108 fun g0 hn hio => ?_
  refine eo hn 1 [0] ?_
  refine bq ?_
  refine eo hn 3 [0,5,6] ?_
  refine eR h (fun (s17:Int)=>[(0,vs line),(5,vi (line.size:Int)),(6,vi s17)]) (fun (():Unit)=>[]) ?_ ?_
  ·rintro ⟨⟩ h
   refine cr ?_
   refine eo hn 1 [2] ?_
   refine cY ?_
   obtain rfl:=zi h
   exact dq hio rfl (.tmp _ _ .nil) rfl rfl
  ·rintro u24 hl25 hr26 s17 rr29 h ho27
   refine eo hn 1 [0,5,6,7] ?_
   refine bq ?_
   refine cU _ rfl (fun hb30 => ?_) (fun hb30 => ?_)
   ·have h:=dn hb30 h
    refine dw ?_
    refine cr (bq ?_)
    refine dY ?_
    refine eo hn 2 [0,5,6,3] ?_
    refine bq ?_
    refine dO h (fun (s31:Bool)=>[(0,vs line),(5,vi (line.size:Int)),(6,vi s17),(18,vb s31)]) ?_ ?_
    ·rintro s31 h
     refine cr ?_
     refine cU _ rfl (fun hb35 => ?_) (fun hb35 => ?_)
     ·have h:=dn hb35 h
      refine eo hn 1 [2] ?_
      refine cY ?_
      refine eA ?_
      refine cT ?_
      refine cT ?_
      refine eA ?_
      refine cT ?_
      have h:=hr26 _ (ho27 _ (zi h).symm).symm
      obtain rfl:=zi h
      exact dq hio rfl (.tmp _ _ .nil) rfl rfl
     ·have h:=dj hb35 h
      refine dw ?_
      refine ep ?_
      refine cr ?_
      obtain ⟨v9, hv9, h⟩:=zn h
      refine yx hn 0 ?_
      refine ys 0 ⟨lb hv9⟩ ?_
      refine yw [6] 1 ?_
      refine ye [0,5,6] ?_
      exact fx _ (zi h).symm rfl
    ·intro u32 h hl33 hr34
     obtain ⟨v2, hv2, h⟩:=zn h
     refine cZ h (fun hg4_4 h => ?_) (fun hg4_4 h => ?_)
     ·refine yx hn 2 ?_
      refine ys 2 ⟨lh hv2⟩ ?_
      refine yd hg4_4 5 ?_
      refine ye [0,5,6,18] ?_
      exact hl33 _ (zi h).symm
     ·obtain ⟨v3, hv3, h⟩:=zn h
      refine yx hn 2 ?_
      refine ys 2 ⟨lh hv2⟩ ?_
      refine yd hg4_4 2 ?_
      refine ys 2 ⟨lh hv3⟩ ?_
      refine ye [0,5,6,18] ?_
      exact hl33 _ (zi h).symm
   ·have h:=dj hb30 h
    refine fp ?_
    refine dB ?_
    refine dB ?_
    refine fq ?_
    refine cw [] (by kernel_rfl) (es':=[]) rfl ?_
    exact hl25 _ (ho27 _ (zi h).symm).symm
theorem sJ (s sub:ByteArray) (r:Int) (h:Sh.mw s sub=some r):gN Tryz.prog 143 [.v (.string s), .v (.string sub)] (.v (.int .i64 r)):=uy Tryz.stringslite_Index_one s sub r h
theorem tD (s:ByteArray) (sep:ByteArray) (r:(ByteArray×ByteArray×Bool)) (h:Sh.mp s sep=some r):gN Tryz.prog 156 [.v (.string s), .v (.string sep)] (.tup [.v (.string r.1), .v (.string r.2.1), .v (.bool r.2.2)]):=by
  unfold Sh.mp at h
  refine yO 23 func156 fun g0 hn hio => ?_
  refine eo hn 3 [0,1] ?_
  refine bq ?_
  refine bq ?_
  obtain ⟨v1, hv1, h⟩:=zn h
  refine yx hn 2 ?_
  refine ys 1 ⟨lk call143 (sJ _ _ _ hv1)⟩ ?_
  refine eS [0,1,7] ?_
  refine eo hn 2 [0,1,7,12] ?_
  refine cU _ rfl (fun hb2 => ?_) (fun hb2 => ?_)
  ·have h:=dn hb2 h
   refine bq ?_
   obtain ⟨v3, hv3, h⟩:=zn h
   obtain ⟨v4, hv4, h⟩:=zn h
   obtain ⟨v5, hv5, h⟩:=zn h
   refine wb [[0],[7]] ?_
   refine wN [13,14] ?_
   refine wS (vs v3) [[0],[7],[1],[18]] ⟨iT _ _ _ 0 v1 _ underlying9 rfl rfl ⟨_,rfl⟩ hv3⟩ ?_
   refine wN [17,19] ?_
   refine wo [] ⟨lb hv4⟩ ?_
   refine wN [16,20] ?_
   refine wS (vs v5) [[15],[21],[]] ⟨iT _ _ _ v4 (s.size:Int) _ underlying9 rfl ⟨_,rfl⟩ rfl hv5⟩ ?_
   refine Ht hn [4,5,6] ?_
   refine cY ?_
   refine cT ?_
   obtain rfl:=zi h
   exact dq hio rfl (.tmp _ _ (.tmp _ _ (.tmp _ _ .nil))) rfl rfl
  ·have h:=dj hb2 h
   refine dw ?_
   refine cr ?_
   refine eo hn 4 [4,5,6] ?_
   refine cY ?_
   obtain rfl:=zi h
   exact dq hio rfl (.tmp _ _ (.tmp _ _ (.tmp _ _ .nil))) rfl rfl
theorem rR (s:ByteArray) (sep:ByteArray) (r:(ByteArray×ByteArray×Bool)) (h:Sh.ra s sep=some r):gN Tryz.prog 134 [.v (.string s), .v (.string sep)] (.tup [.v (.string r.1), .v (.string r.2.1), .v (.bool r.2.2)]):=by
  unfold Sh.ra at h
  refine yO 13 func134 fun g0 hn hio => ?_
  refine eo hn 3 [0,1] ?_
  refine bq ?_
  obtain ⟨v1, hv1, h⟩:=zn h
  refine yx hn 2 ?_
  refine ys 6 ⟨lk call156 (tD _ _ _ hv1)⟩ ?_
  refine eS [4,5,6] ?_
  refine cY ?_
  obtain rfl:=zi h
  exact dq hio rfl (.tmp _ _ (.tmp _ _ (.tmp _ _ .nil))) rfl rfl
theorem yH (line:ByteArray) (r:Int) (h:Sh.un line=some r):gN Tryz.prog 109 [.v (.string line)] (.v (.int .i64 r)):=by
  unfold Sh.un at h
  refine yO 37 func109 fun g0 hn hio => ?_
  refine eo hn 1 [0] ?_
  refine bq ?_
  obtain ⟨v1, hv1, h⟩:=zn h
  refine yx hn 1 ?_
  refine ys 0 ⟨lk call134 (rR _ _ _ hv1)⟩ ?_
  refine ym 6 ?_
  refine eS [3] ?_
  refine bq ?_
  refine bq ?_
  obtain ⟨v2, hv2, h⟩:=zn h
  refine yx hn 1 ?_
  refine ys 0 ⟨lk call71 (mj _ _ hv2)⟩ ?_
  refine eS [13] ?_
  refine dY ?_
  refine bq ?_
  refine dO h (fun (s4:Bool)=>[(13,vs v2),(14,vb s4)]) ?_ ?_
  ·rintro s4 h
   refine cr ?_
   refine cU _ rfl (fun hb9 => ?_) (fun hb9 => ?_)
   ·have h:=dn hb9 h
    refine eo hn 1 [2] ?_
    refine cY ?_
    refine eA ?_
    refine cT ?_
    obtain rfl:=zi h
    exact dq hio rfl (.tmp _ _ .nil) rfl rfl
   ·have h:=dj hb9 h
    refine eo hn 2 [13,17] ?_
    refine cU _ rfl (fun hb10 => ?_) (fun hb10 => ?_)
    ·have h:=dn hb10 h
     refine eo hn 1 [2] ?_
     refine cY ?_
     refine eA ?_
     refine cT ?_
     obtain rfl:=zi h
     exact dq hio rfl (.tmp _ _ .nil) rfl rfl
    ·have h:=dj hb10 h
     refine eo hn 2 [13,19] ?_
     refine cU _ rfl (fun hb11 => ?_) (fun hb11 => ?_)
     ·have h:=dn hb11 h
      refine eo hn 1 [2] ?_
      refine cY ?_
      refine eA ?_
      refine cT ?_
      obtain rfl:=zi h
      exact dq hio rfl (.tmp _ _ .nil) rfl rfl
     ·have h:=dj hb11 h
      refine eo hn 2 [13,21] ?_
      refine cU _ rfl (fun hb12 => ?_) (fun hb12 => ?_)
      ·have h:=dn hb12 h
       refine eo hn 1 [2] ?_
       refine cY ?_
       refine eA ?_
       refine cT ?_
       obtain rfl:=zi h
       exact dq hio rfl (.tmp _ _ .nil) rfl rfl
      ·have h:=dj hb12 h
       refine eo hn 2 [13,23] ?_
       refine cU _ rfl (fun hb13 => ?_) (fun hb13 => ?_)
       ·have h:=dn hb13 h
        refine eo hn 1 [2] ?_
        refine cY ?_
        refine eA ?_
        refine cT ?_
        obtain rfl:=zi h
        exact dq hio rfl (.tmp _ _ .nil) rfl rfl
       ·have h:=dj hb13 h
        refine eo hn 2 [13,25] ?_
        refine cU _ rfl (fun hb14 => ?_) (fun hb14 => ?_)
        ·have h:=dn hb14 h
         refine eo hn 1 [2] ?_
         refine cY ?_
         refine eA ?_
         refine cT ?_
         obtain rfl:=zi h
         exact dq hio rfl (.tmp _ _ .nil) rfl rfl
        ·have h:=dj hb14 h
         refine eo hn 2 [13,27] ?_
         refine cU _ rfl (fun hb15 => ?_) (fun hb15 => ?_)
         ·have h:=dn hb15 h
          refine eo hn 1 [2] ?_
          refine cY ?_
          refine eA ?_
          refine cT ?_
          obtain rfl:=zi h
          exact dq hio rfl (.tmp _ _ .nil) rfl rfl
         ·have h:=dj hb15 h
          refine eo hn 2 [13,29] ?_
          refine cU _ rfl (fun hb16 => ?_) (fun hb16 => ?_)
          ·have h:=dn hb16 h
           refine eo hn 1 [2] ?_
           refine cY ?_
           refine eA ?_
           refine cT ?_
           obtain rfl:=zi h
           exact dq hio rfl (.tmp _ _ .nil) rfl rfl
          ·have h:=dj hb16 h
           refine eo hn 2 [13,31] ?_
           refine cU _ rfl (fun hb17 => ?_) (fun hb17 => ?_)
           ·have h:=dn hb17 h
            refine eo hn 1 [2] ?_
            refine cY ?_
            refine eA ?_
            refine cT ?_
            obtain rfl:=zi h
            exact dq hio rfl (.tmp _ _ .nil) rfl rfl
           ·have h:=dj hb17 h
            refine eo hn 2 [13,33] ?_
            refine cU _ rfl (fun hb18 => ?_) (fun hb18 => ?_)
            ·have h:=dn hb18 h
             refine eo hn 1 [2] ?_
             refine cY ?_
             refine eA ?_
             refine cT ?_
             obtain rfl:=zi h
             exact dq hio rfl (.tmp _ _ .nil) rfl rfl
            ·have h:=dj hb18 h
             refine eo hn 2 [35] ?_
             refine cU _ rfl (fun hb19 => ?_) (fun hb19 => ?_)
             ·have h:=dn hb19 h
              refine eo hn 1 [2] ?_
              refine cY ?_
              refine eA ?_
              refine cT ?_
              obtain rfl:=zi h
              exact dq hio rfl (.tmp _ _ .nil) rfl rfl
             ·have h:=dj hb19 h
              refine dw ?_
              refine ep ?_
              refine cr ?_
              refine eo hn 1 [2] ?_
              refine cY ?_
              obtain rfl:=zi h
              exact dq hio rfl (.tmp _ _ .nil) rfl rfl
  ·intro u5 h hl6 hr7
   refine eo hn 2 [13,14] ?_
   refine cU _ rfl (fun hb8 => ?_) (fun hb8 => ?_)
   ·have h:=dn hb8 h
    refine dw ?_
    exact hl6 _ (zi h).symm
   ·have h:=dj hb8 h
    refine yx hn 1 ?_
    refine yw [14] 1 ?_
    refine ye [13,14] ?_
    exact hl6 _ (zi h).symm
theorem nU (a:ByteArray) (b:ByteArray) (r:Bool) (h:Sh.mK a b=some r):gN Tryz.prog 136 [.v (.string a), .v (.string b)] (.v (.bool r)):=by
  unfold Sh.mK at h
  refine yO 10 func136 fun g0 hn hio => ?_
  refine eo hn 1 [0,1] ?_
  refine bq ?_
  obtain ⟨v1, hv1, h⟩:=zn h
  obtain ⟨v2, hv2, h⟩:=zn h
  refine yx hn 1 ?_
  refine ys 1 ⟨lk call71 (mj _ _ hv1)⟩ ?_
  refine ys 2 ⟨lk call71 (mj _ _ hv2)⟩ ?_
  refine eS [4] ?_
  refine cY ?_
  obtain rfl:=zi h
  exact dq hio rfl (.tmp _ _ .nil) rfl rfl
theorem wI (s:ByteArray) (prefix_:ByteArray) (r:(ByteArray×Bool)) (h:Sh.tu s prefix_=some r):gN Tryz.prog 135 [.v (.string s), .v (.string prefix_)] (.tup [.v (.string r.1), .v (.bool r.2)]):=by
  unfold Sh.tu at h
  refine yO 24 func135 fun g0 hn hio => ?_
  refine eo hn 2 [0,1] ?_
  refine bq ?_
  refine bq ?_
  refine dO h (fun (s3:Bool)=>[(0,vs s),(1,vs prefix_),(19,vb s3)]) ?_ ?_
  ·rintro s3 h
   refine cr ?_
   refine cU _ rfl (fun hb7 => ?_) (fun hb7 => ?_)
   ·have h:=dn hb7 h
    refine eo hn 2 [4,5] ?_
    refine cY ?_
    refine cT ?_
    obtain rfl:=zi h
    exact dq hio rfl (.tmp _ _ (.tmp _ _ .nil)) rfl rfl
   ·have h:=dj hb7 h
    refine dw ?_
    refine cr (bq ?_)
    obtain ⟨v8, hv8, h⟩:=zn h
    refine yx hn 3 ?_
    refine yS (vs v8) 2 ⟨iT _ _ _ (prefix_.size:Int) (s.size:Int) _ underlying9 rfl ⟨_,rfl⟩ rfl hv8⟩ ?_
    refine eS [4,5] ?_
    refine cY ?_
    obtain rfl:=zi h
    exact dq hio rfl (.tmp _ _ (.tmp _ _ .nil)) rfl rfl
  ·intro u4 h hl5 hr6
   refine cZ h (fun hg1_5 h => ?_) (fun hg1_5 h => ?_)
   ·refine yx hn 6 ?_
    refine yd hg1_5 8 ?_
    refine ye [0,1,19] ?_
    exact hl5 _ (zi h).symm
   ·obtain ⟨v1, hv1, h⟩:=zn h
    obtain ⟨v2, hv2, h⟩:=zn h
    refine yx hn 6 ?_
    refine yd hg1_5 3 ?_
    refine yS (vs v1) 1 ⟨iT _ _ _ 0 (prefix_.size:Int) _ underlying9 rfl rfl ⟨_,rfl⟩ hv1⟩ ?_
    refine ys 2 ⟨lk call136 (nU _ _ _ hv2)⟩ ?_
    refine ye [0,1,19] ?_
    exact hl5 _ (zi h).symm
theorem vH (mx:Int×Nat×Value) (line:ByteArray) (r:Bool) (h:Sh.pC line=some r):qT Tryz.prog (GL mx) 110 [.v (.string line)] (.v (.bool r)):=by
  unfold Sh.pC at h
  refine yG 40 func110 fun g0 hn hio => ?_
  refine eo hn 1 [0,40] ?_
  refine bq ?_
  obtain ⟨v1, hv1, h⟩:=zn h
  refine yx hn 1 ?_
  refine ys 0 ⟨lk call135 (wI _ _ _ hv1)⟩ ?_
  refine ym 4 ?_
  refine eS [40,3,4] ?_
  refine bq ?_
  refine bq ?_
  refine dO h (fun (s3:Bool)=>[(40,.glob (GL mx)),(3,vs v1.1),(20,vb s3)]) ?_ ?_
  ·rintro s3 h
   refine cr ?_
   refine cU _ rfl (fun hb7 => ?_) (fun hb7 => ?_)
   ·have h:=dn hb7 h
    refine eo hn 1 [40,2] ?_
    refine cY ?_
    refine cw [1] (by kernel_rfl) (es':=[(_,_)]) rfl ?_
    refine cT ?_
    obtain rfl:=zi h
    exact dq hio rfl (.tmp _ _ .nil) rfl rfl
   ·have h:=dj hb7 h
    refine dw ?_
    refine cr (bq ?_)
    refine eo hn 3 [40,3,22,23] ?_
    refine eR h (fun (s26:Int)=>[(40,.glob (GL mx)),(3,vs v1.1),(22,vi (v1.1.size:Int)),(23,vi s26)]) (fun (():Unit)=>[(40,.glob (GL mx))]) ?_ ?_
    ·rintro ⟨⟩ h
     refine cr ?_
     refine eo hn 1 [40,2] ?_
     refine cY ?_
     refine cw [1] (by kernel_rfl) (es':=[(_,_)]) rfl ?_
     obtain rfl:=zi h
     exact dq hio rfl (.tmp _ _ .nil) rfl rfl
    ·rintro u33 hl34 hr35 s26 rr38 h ho36
     refine eo hn 1 [40,3,22,23,24] ?_
     refine bq ?_
     refine cU _ rfl (fun hb39 => ?_) (fun hb39 => ?_)
     ·have h:=dn hb39 h
      refine dw ?_
      refine cr (bq ?_)
      refine dY ?_
      refine eo hn 2 [40,3,22,23,5] ?_
      refine bq ?_
      refine dO h (fun (s40:Bool)=>[(40,.glob (GL mx)),(3,vs v1.1),(22,vi (v1.1.size:Int)),(23,vi s26),(38,vb s40)]) ?_ ?_
      ·rintro s40 h
       refine cr ?_
       refine cU _ rfl (fun hb44 => ?_) (fun hb44 => ?_)
       ·have h:=dn hb44 h
        refine eo hn 1 [40,2] ?_
        refine cY ?_
        refine cw [1] (by kernel_rfl) (es':=[(_,_)]) rfl ?_
        refine eA ?_
        refine cT ?_
        refine cT ?_
        refine eA ?_
        refine cT ?_
        have h:=hr35 _ (ho36 _ (zi h).symm).symm
        obtain rfl:=zi h
        exact dq hio rfl (.tmp _ _ .nil) rfl rfl
       ·have h:=dj hb44 h
        refine dw ?_
        refine ep ?_
        refine cr ?_
        obtain ⟨v18, hv18, h⟩:=zn h
        refine yx hn 0 ?_
        refine ys 0 ⟨lb hv18⟩ ?_
        refine yw [23] 1 ?_
        refine ye [40,3,22,23] ?_
        exact fx _ (zi h).symm rfl
      ·intro u41 h hl42 hr43
       obtain ⟨v9, hv9, h⟩:=zn h
       refine cZ h (fun hg7_4 h => ?_) (fun hg7_4 h => ?_)
       ·obtain ⟨v10, hv10, h⟩:=zn h
        obtain ⟨v11, hv11, h⟩:=zn h
        obtain ⟨v12, hv12, h⟩:=zn h
        refine yx hn 2 ?_
        refine ys 2 ⟨lh hv9⟩ ?_
        refine yd hg7_4 3 ?_
        refine ys 0 ⟨lb hv10⟩ ?_
        refine yS (vs v11) 0 ⟨iT _ _ _ s26 v10 _ underlying9 rfl ⟨_,rfl⟩ ⟨_,rfl⟩ hv11⟩ ?_
        refine ys 2 ⟨lg call55 (ib _ _ _ hv12) 40⟩ ?_
        refine ye [40,3,22,23,38] ?_
        exact hl42 _ (zi h).symm
       ·refine yx hn 2 ?_
        refine ys 2 ⟨lh hv9⟩ ?_
        refine yd hg7_4 8 ?_
        refine ye [40,3,22,23,38] ?_
        exact hl42 _ (zi h).symm
     ·have h:=dj hb39 h
      refine fp ?_
      refine dB ?_
      refine dB ?_
      refine fq ?_
      refine cw [0] (by kernel_rfl) (es':=[(_,_)]) rfl ?_
      exact hl34 _ (ho36 _ (zi h).symm).symm
  ·intro u4 h hl5 hr6
   refine cZ h (fun hg2_2 h => ?_) (fun hg2_2 h => ?_)
   ·refine yx hn 3 ?_
    refine yd hg2_2 7 ?_
    refine ye [40,3,20] ?_
    exact hl5 _ (zi h).symm
   ·refine cZ h (fun hg2_6 h => ?_) (fun hg2_6 h => ?_)
    ·refine yx hn 3 ?_
     refine yd hg2_2 4 ?_
     refine yd hg2_6 3 ?_
     refine ye [40,3,20] ?_
     exact hl5 _ (zi h).symm
    ·obtain ⟨v2, hv2, h⟩:=zn h
     refine yx hn 3 ?_
     refine yd hg2_2 4 ?_
     refine yd hg2_6 1 ?_
     refine ys 1 ⟨lk call136 (nU _ _ _ hv2)⟩ ?_
     refine ye [40,3,20] ?_
     exact hl5 _ (zi h).symm
theorem EI (kind:Int) (r:ByteArray) (h:Sh.vC kind=some r):gN Tryz.prog 157 [.v (.int .i64 kind)] (.v (.string r)):=by
  unfold Sh.vC at h
  refine yO 5 func157 fun g0 hn hio => ?_
  refine eo hn 1 [0] ?_
  refine bq ?_
  refine eo hn 2 [4] ?_
  refine cU _ rfl (fun hb1 => ?_) (fun hb1 => ?_)
  ·have h:=dn hb1 h
   refine eo hn 1 [2] ?_
   refine cY ?_
   refine cT ?_
   obtain rfl:=zi h
   exact dq hio rfl (.tmp _ _ .nil) rfl rfl
  ·have h:=dj hb1 h
   refine dw ?_
   refine cr ?_
   refine eo hn 1 [2] ?_
   refine cY ?_
   obtain rfl:=zi h
   exact dq hio rfl (.tmp _ _ .nil) rfl rfl
theorem rh (s:ByteArray) (prefix_:ByteArray) (r:Bool) (h:Sh.jU s prefix_=some r):gN Tryz.prog 175 [.v (.string s), .v (.string prefix_)] (.v (.bool r)):=by
  unfold Sh.jU at h
  refine yO 18 func175 fun g0 hn hio => ?_
  refine eo hn 1 [0,1] ?_
  refine bq ?_
  refine dO h (fun (s2:Bool)=>[(4,vb s2)]) ?_ ?_
  ·rintro s2 h
   refine cr (cY ?_)
   obtain rfl:=zi h
   exact dq hio rfl (.tmp _ _ .nil) rfl rfl
  ·intro u3 h hl4 hr5
   refine cZ h (fun hg1_5 h => ?_) (fun hg1_5 h => ?_)
   ·obtain ⟨v1, hv1, h⟩:=zn h
    refine yx hn 6 ?_
    refine yd hg1_5 3 ?_
    refine yS (vs v1) 4 ⟨iT _ _ _ 0 (prefix_.size:Int) _ underlying9 rfl rfl ⟨_,rfl⟩ hv1⟩ ?_
    refine ye [4] ?_
    exact hl4 _ (zi h).symm
   ·refine yx hn 6 ?_
    refine yd hg1_5 8 ?_
    refine ye [4] ?_
    exact hl4 _ (zi h).symm
theorem rj (s:ByteArray) (prefix_:ByteArray) (r:(ByteArray×Bool)) (h:Sh.jV s prefix_=some r):gN Tryz.prog 205 [.v (.string s), .v (.string prefix_)] (.tup [.v (.string r.1), .v (.bool r.2)]):=by
  unfold Sh.jV at h
  refine yO 15 func205 fun g0 hn hio => ?_
  refine eo hn 2 [0,1] ?_
  refine bq ?_
  refine bq ?_
  obtain ⟨v1, hv1, h⟩:=zn h
  refine yx hn 2 ?_
  refine ys 1 ⟨lk call175 (rh _ _ _ hv1)⟩ ?_
  refine eS [0,1,9] ?_
  refine cU _ rfl (fun hb2 => ?_) (fun hb2 => ?_)
  ·have h:=dn hb2 h
   refine eo hn 3 [4,5] ?_
   refine cY ?_
   refine cT ?_
   obtain rfl:=zi h
   exact dq hio rfl (.tmp _ _ (.tmp _ _ .nil)) rfl rfl
  ·have h:=dj hb2 h
   refine dw ?_
   refine cr (bq ?_)
   obtain ⟨v3, hv3, h⟩:=zn h
   refine yx hn 3 ?_
   refine yS (vs v3) 2 ⟨iT _ _ _ (prefix_.size:Int) (s.size:Int) _ underlying9 rfl ⟨_,rfl⟩ rfl hv3⟩ ?_
   refine eS [4,5] ?_
   refine cY ?_
   obtain rfl:=zi h
   exact dq hio rfl (.tmp _ _ (.tmp _ _ .nil)) rfl rfl
theorem sN (s:ByteArray) (prefix_:ByteArray) (r:(ByteArray×Bool)) (h:Sh.nV s prefix_=some r):gN Tryz.prog 184 [.v (.string s), .v (.string prefix_)] (.tup [.v (.string r.1), .v (.bool r.2)]):=by
  unfold Sh.nV at h
  refine yO 11 func184 fun g0 hn hio => ?_
  refine eo hn 2 [0,1] ?_
  refine bq ?_
  obtain ⟨v1, hv1, h⟩:=zn h
  refine yx hn 2 ?_
  refine ys 4 ⟨lk call205 (rj _ _ _ hv1)⟩ ?_
  refine eS [4,5] ?_
  refine cY ?_
  obtain rfl:=zi h
  exact dq hio rfl (.tmp _ _ (.tmp _ _ .nil)) rfl rfl
theorem rf (s:ByteArray) (suffix:ByteArray) (r:Bool) (h:Sh.jT s suffix=some r):gN Tryz.prog 220 [.v (.string s), .v (.string suffix)] (.v (.bool r)):=by
  unfold Sh.jT at h
  refine yO 21 func220 fun g0 hn hio => ?_
  refine eo hn 1 [0,1] ?_
  refine bq ?_
  refine dO h (fun (s3:Bool)=>[(4,vb s3)]) ?_ ?_
  ·rintro s3 h
   refine cr (cY ?_)
   obtain rfl:=zi h
   exact dq hio rfl (.tmp _ _ .nil) rfl rfl
  ·intro u4 h hl5 hr6
   refine cZ h (fun hg1_5 h => ?_) (fun hg1_5 h => ?_)
   ·obtain ⟨v1, hv1, h⟩:=zn h
    obtain ⟨v2, hv2, h⟩:=zn h
    refine yx hn 6 ?_
    refine yd hg1_5 5 ?_
    refine ys 0 ⟨lb hv1⟩ ?_
    refine yS (vs v2) 4 ⟨iT _ _ _ v1 (s.size:Int) _ underlying9 rfl ⟨_,rfl⟩ rfl hv2⟩ ?_
    refine ye [4] ?_
    exact hl5 _ (zi h).symm
   ·refine yx hn 6 ?_
    refine yd hg1_5 11 ?_
    refine ye [4] ?_
    exact hl5 _ (zi h).symm
end Go.Proofs.YtjnnkhmhjcjhdaaGreatDoor
