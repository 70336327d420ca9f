/-
 The model's runs are what is told in Lean.
-/
import Derived.Test.YtjnnkhmhjcjhdaaGreatDoorOkc4
set_option linter.unusedVariables false
set_option linter.unusedSimpArgs false
set_option maxHeartbeats 1000000
namespace Go.Proofs.YtjnnkhmhjcjhdaaGreatDoor
open Go.Abs Go.Abs.Sh Tryz
open List (map flatten)
open Value (int)
theorem je (mx:Int×Nat×Value) (b:(List Int)) (r:(List Int)) (h:Sh.iB b=some r):fk Tryz.prog (GL mx) 183 [.fl .shr 1 (map (int .u8) b)] (.v (.agg (map (int .u8) r).toArray)):=by
 unfold Sh.iB at h
 refine yG 62 func183 fun g0 hn hio => ?_
 refine eC hn 0 ?_
 refine yS (.arr 91 (map (int .u8) ((List.replicate 16 (0:Int))))) 0 ⟨oA (bN _ wB)⟩ ?_
 refine aT [0,62,2] ?_
 refine ab ?_
 obtain ⟨v1,hv1,h⟩:=zn h
 obtain ⟨v2,hv2,h⟩:=zn h
 refine yx hn 0 ?_
 refine yS (.v (.agg (map (int .u32) ([1732584193,4023233417,2562383102,271733878]:List Int)).toArray)) 0 ⟨mQ _ _ (.agg #[.int .u32 0,.int .u32 0,.int .u32 0,.int .u32 0]) (map (int .u32) ([1732584193,4023233417,2562383102,271733878]:List Int)) [(0,.int .u32 1732584193),(1,.int .u32 4023233417),(2,.int .u32 2562383102),(3,.int .u32 271733878)] underlying225 fA zL (fun _ V w o a hv hes=>by simp only [List.map_toArray,List.map_cons,List.map_nil]; try rfl) (cn (by simp [Instr.fill,Value.cells]; rfl) (by simp))⟩ ?_
 refine yS (.arr 225 (map (int .u32) ((List.replicate 4 (0:Int))))) 0 ⟨oA (bN _ zU)⟩ ?_
 refine yk [3] [10] ?_
 refine yt (3,.arr 225 (map (int .u32) ([1732584193,4023233417,2562383102,271733878]:List Int))) 0 ⟨bQ _ _ _ _ (qs.trans (congrArg some (bq hv2))) rfl rfl (ef (fun _=>rfl) _) ((bq (f:=int .u32) hv1).symm.trans (bq (f:=int .u32) hv2))⟩ ?_
 refine aT [0,62,2,3] ?_
 refine ab ?_
 obtain ⟨v3,hv3,h⟩:=zn h
 obtain ⟨v4,hv4,h⟩:=zn h
 refine yx hn 2 ?_
 refine ys 0 ⟨lB (pJ hv3)⟩ ?_
 refine ys 1 ⟨lb hv4⟩ ?_
 refine aT [0,62,2,3,4] ?_
 refine ab ?_
 refine aI hn 1 [0,62,2,3,4,5] ?_
 refine aX h (fun ((s16,s17):(List Int)×Int)=>[(0,fb b),(62,.glob (GL mx)),(2,.arr 91 (map (int .u8) ((List.replicate 16 (0:Int))))),(3,.arr 225 (map (int .u32) s16)),(4,vi v4),(5,vi s17)]) (fun (s19:(List Int))=>[(0,fb b),(62,.glob (GL mx)),(2,.arr 91 (map (int .u8) ((List.replicate 16 (0:Int))))),(3,.arr 225 (map (int .u32) s19)),(4,vi v4)]) ?_ ?_
 ·rintro s19 h
  refine ag (ab ?_)
  obtain ⟨v27,hv27,h⟩:=zn h
  obtain ⟨v28,hv28,h⟩:=zn h
  refine yx hn 2 ?_
  refine yS (fb v27) 2 ⟨kK _ _ _ v4 (b.length:Int) _ underlying28 jA rfl rfl ⟨_,rfl⟩ rfl hv27⟩ ?_
  refine ys 0 ⟨lk call204 (nM _ _ _ hv28)⟩ ?_
  refine ya 0 ?_
  refine aT [62,2,3,6] ?_
  refine ab ?_
  refine aI hn 1 [62,2,3,6,7] ?_
  refine pT 3 hio (es':=[(62,.glob (GL mx)),(2,.arr 91 (map (int .u8) ((List.replicate 16 (0:Int))))),(3,.arr 225 (map (int .u32) s19)),(6,.fl .ro 1 (map (int .u8) v28)),(7,.v (.int .i64 0))]) rfl ?_
  refine aX h (fun ((s41,s42,s43):(List Int)×(List Int)×Int)=>[(62,.glob (GL mx)),(2,.arr 91 (map (int .u8) ((List.replicate 16 (0:Int))))),(3,.arr 225 (map (int .u32) s41)),(6,.fl .ro 1 (map (int .u8) s42)),(7,vi s43)]) (fun (s45:(List Int))=>[(62,.glob (GL mx)),(2,.arr 91 (map (int .u8) ((List.replicate 16 (0:Int))))),(3,.arr 225 (map (int .u32) s45))]) ?_ ?_
  ·rintro s45 h
   refine ag ?_
   refine eC hn 0 ?_
   refine yS (.arr 91 (map (int .u8) ((List.replicate 16 (0:Int))))) 0 ⟨oA (bN _ wB)⟩ ?_
   refine aT [62,2,3,8] ?_
   refine ab ?_
   refine aI hn 1 [62,2,3,8,46] ?_
   refine aX h (fun ((s67,s68):(List Int)×Int)=>[(62,.glob (GL mx)),(2,.arr 91 (map (int .u8) ((List.replicate 16 (0:Int))))),(3,.arr 225 (map (int .u32) s45)),(8,.arr 91 (map (int .u8) s67)),(46,vi s68)]) (fun (s70:(List Int))=>[(62,.glob (GL mx)),(2,.arr 91 (map (int .u8) ((List.replicate 16 (0:Int))))),(8,.arr 91 (map (int .u8) s70))]) ?_ ?_
   ·rintro s70 h
    refine ag (ab ?_)
    obtain ⟨v78,hv78,h⟩:=zn h
    obtain ⟨v79,hv79,h⟩:=zn h
    obtain ⟨v80,hv80,h⟩:=zn h
    refine yx hn 0 ?_
    refine yS (.v (.agg (map (int .u8) s70).toArray)) 0 ⟨fS _ _ _ _ underlying91 rfl (sK.trans (congrArg some (bq hv78))) rfl rfl⟩ ?_
    refine yk [2] [61] ?_
    refine yt (2,.arr 91 (map (int .u8) s70)) 0 ⟨bQ _ _ _ _ (sK.trans (congrArg some (bq hv80))) rfl rfl (ef (fun _=>rfl) _) ((bq (f:=int .u8) hv79).symm.trans (bq (f:=int .u8) hv80))⟩ ?_
    refine aT [62,2] ?_
    refine am ?_
    obtain ⟨v81,hv81,h⟩:=zn h
    refine ah [1] (by kernel_rfl) (es':=[(_,_)]) rfl ?_
    obtain rfl:=zi h
    exact ao hio rfl (.cellR _ _ _ _ underlying91 rfl (sK.trans (congrArg some (bq hv81))) .nil) rfl rfl
   ·rintro u71 hl72 hr73 ⟨s67,s68⟩ rr76 h ho74
    refine aI hn 1 [62,2,3,8,46,47] ?_
    refine ab ?_
    refine al _ rfl (fun hb77 => ?_) (fun hb77 => ?_)
    ·have h:=ap hb77 h
     refine ar ?_
     refine ag (ab ?_)
     refine aH ?_
     refine aI hn 2 [62,2,3,8,46,9] ?_
     obtain ⟨v54,hv54,h⟩:=zn h
     obtain ⟨v55,hv55,h⟩:=zn h
     obtain ⟨v56,hv56,h⟩:=zn h
     obtain ⟨v57,hv57,h⟩:=zn h
     obtain ⟨v58,hv58,h⟩:=zn h
     obtain ⟨v59,hv59,h⟩:=zn h
     obtain ⟨v60,hv60,h⟩:=zn h
     obtain ⟨v61,hv61,h⟩:=zn h
     obtain ⟨v62,hv62,h⟩:=zn h
     refine yx hn 2 ?_
     refine ys 0 ⟨lB (pJ hv54)⟩ ?_
     refine yS (.ptr 3 v55) 0 ⟨cg _ _ _ _ 4 3 _ underlying225 fA rfl rfl (bk hv55).1 (bk hv55).2 (by decide)⟩ ?_
     refine yS (.v (.int .u32 v56)) 1 ⟨bV _ _ _ _ _ _ underlying106 rfl rfl rfl (cC hv56)⟩ ?_
     refine ys 0 ⟨lB (jK hv57)⟩ ?_
     refine ys 0 ⟨lb hv58⟩ ?_
     refine ys 0 ⟨lB (jN hv59)⟩ ?_
     refine ys 0 ⟨lv hv60⟩ ?_
     refine yS (.ptr 8 v61) 0 ⟨cg _ _ _ _ 16 8 _ underlying91 jA rfl rfl (bk hv61).1 (bk hv61).2 (by decide)⟩ ?_
     refine yk [8] [59,58] ?_
     refine yt (8,.arr 91 (map (int .u8) v62)) 0 ⟨jE _ _ _ _ _ _ jA rfl rfl rfl rfl (uE hv62) (uz (f:=int .u8) hv62)⟩ ?_
     refine ye [62,2,3,8,46] ?_
     refine aJ (ag ?_)
     obtain ⟨v63,hv63,h⟩:=zn h
     refine yx hn 0 ?_
     refine ys 0 ⟨lb hv63⟩ ?_
     refine yw [46] 1 ?_
     refine ye [62,2,3,8,46] ?_
     exact bi _ (zi h).symm rfl
    ·have h:=aq hb77 h
     refine bh (aB (aB (bf ?_)))
     refine ah [0,1,3] (by kernel_rfl) (es':=[(_,_),(_,_),(_,_)]) rfl ?_
     exact hl72 _ (ho74 _ (zi h).symm).symm
  ·rintro u46 hl47 hr48 ⟨s41,s42,s43⟩ rr51 h ho49
   refine ab ?_
   refine aI hn 4 [62,2,3,6,7,36] ?_
   refine al _ rfl (fun hb52 => ?_) (fun hb52 => ?_)
   ·have h:=ap hb52 h
    refine ar ?_
    refine ag (ab ?_)
    refine aH ?_
    obtain ⟨v30,hv30,h⟩:=zn h
    obtain ⟨v31,hv31,h⟩:=zn h
    obtain ⟨v32,hv32,h⟩:=zn h
    obtain ⟨v33,hv33,h⟩:=zn h
    obtain ⟨v34,hv34,h⟩:=zn h
    obtain ⟨v35,hv35,h⟩:=zn h
    refine wb [] ?_
    refine wN [3] ?_
    refine wS (.v (.agg (map (int .u32) s41).toArray)) [[6],[7],[7]] ⟨fS _ _ _ _ underlying225 rfl (qs.trans (congrArg some (bq hv30))) rfl rfl⟩ ?_
    refine wN [42] ?_
    refine wo [] ⟨lb hv31⟩ ?_
    refine wN [40,41,43] ?_
    refine wS (.fl .ro 1 (map (int .u8) v32)) [] ⟨kK _ _ _ s43 v31 _ underlying28 jA rfl rfl ⟨_,rfl⟩ ⟨_,rfl⟩ hv32⟩ ?_
    refine wN [39,44,62] ?_
    refine wo [] ⟨lg call203 (gn _ _ _ _ hv33) 62⟩ ?_
    refine wK [3] [45] ?_
    refine wt [(3,.arr 225 (map (int .u32) v33))] [] ⟨bQ _ _ _ _ (qs.trans (congrArg some (bq hv35))) rfl rfl (ef (fun _=>rfl) _) ((bq (f:=int .u32) hv34).symm.trans (bq (f:=int .u32) hv35))⟩ ?_
    refine we hn [62,2,3,6,7] ?_
    refine aJ (ag ?_)
    obtain ⟨v36,hv36,h⟩:=zn h
    refine yx hn 1 ?_
    refine ys 0 ⟨lb hv36⟩ ?_
    refine yw [7] 1 ?_
    refine ye [62,2,3,6,7] ?_
    exact bi _ (zi h).symm rfl
   ·have h:=aq hb52 h
    refine bh (aB (aB (bf ?_)))
    refine ah [0,1,2] (by kernel_rfl) (es':=[(_,_),(_,_),(_,_)]) rfl ?_
    exact hl47 _ (ho49 _ (zi h).symm).symm
 ·rintro u20 hl21 hr22 ⟨s16,s17⟩ rr25 h ho23
  refine ab ?_
  refine aI hn 3 [0,62,2,3,4,5,17] ?_
  refine al _ rfl (fun hb26 => ?_) (fun hb26 => ?_)
  ·have h:=ap hb26 h
   refine ar ?_
   refine ag (ab ?_)
   refine aH ?_
   obtain ⟨v6,hv6,h⟩:=zn h
   obtain ⟨v7,hv7,h⟩:=zn h
   obtain ⟨v8,hv8,h⟩:=zn h
   obtain ⟨v9,hv9,h⟩:=zn h
   obtain ⟨v10,hv10,h⟩:=zn h
   obtain ⟨v11,hv11,h⟩:=zn h
   refine wb [] ?_
   refine wN [3] ?_
   refine wS (.v (.agg (map (int .u32) s16).toArray)) [[0],[5],[5]] ⟨fS _ _ _ _ underlying225 rfl (qs.trans (congrArg some (bq hv6))) rfl rfl⟩ ?_
   refine wN [23] ?_
   refine wo [] ⟨lb hv7⟩ ?_
   refine wN [21,22,24] ?_
   refine wS (fb v8) [] ⟨kK _ _ _ s17 v7 _ underlying28 jA rfl rfl ⟨_,rfl⟩ ⟨_,rfl⟩ hv8⟩ ?_
   refine wN [20,25,62] ?_
   refine wo [] ⟨lg call203 (gn _ _ _ _ hv9) 62⟩ ?_
   refine wK [3] [26] ?_
   refine wt [(3,.arr 225 (map (int .u32) v9))] [] ⟨bQ _ _ _ _ (qs.trans (congrArg some (bq hv11))) rfl rfl (ef (fun _=>rfl) _) ((bq (f:=int .u32) hv10).symm.trans (bq (f:=int .u32) hv11))⟩ ?_
   refine we hn [0,62,2,3,4,5] ?_
   refine aJ (ag ?_)
   obtain ⟨v12,hv12,h⟩:=zn h
   refine yx hn 1 ?_
   refine ys 0 ⟨lb hv12⟩ ?_
   refine yw [5] 1 ?_
   refine ye [0,62,2,3,4,5] ?_
   exact bi _ (zi h).symm rfl
  ·have h:=aq hb26 h
   refine bh (aB (aB (bf ?_)))
   refine ah [0,1,2,3,4] (by kernel_rfl) (es':=[(_,_),(_,_),(_,_),(_,_),(_,_)]) rfl ?_
   exact hl21 _ (ho23 _ (zi h).symm).symm
theorem pn (mx:Int×Nat×Value) (key:(List Int)) (text:(List Int)) (r:(List Int)) (h:Sh.jM key text=some r):fk Tryz.prog (GL mx) 154 [.fl .shr 1 (map (int .u8) key),.fl .shr 1 (map (int .u8) text)] (.v (.agg (map (int .u8) r).toArray)):=by
 unfold Sh.jM at h
 refine yG 51 func154 fun g0 hn hio => ?_
 refine eC hn 0 ?_
 refine yS (.arr 91 (map (int .u8) ((List.replicate 16 (0:Int))))) 0 ⟨oA (bN _ wB)⟩ ?_
 refine aT [0,1,51,4] ?_
 refine eC hn 0 ?_
 refine yS (.arr 205 (map (int .u8) ((List.replicate 64 (0:Int))))) 0 ⟨oA (bN _ Cj)⟩ ?_
 refine aT [0,1,51,4,5] ?_
 refine ab ?_
 refine aD h (fun (s8:(List Int))=>[(1,fb text),(51,.glob (GL mx)),(4,.arr 91 (map (int .u8) ((List.replicate 16 (0:Int))))),(5,.arr 205 (map (int .u8) s8))]) ?_ ?_
 ·rintro s8 h
  refine ag (ab ?_)
  obtain ⟨v13,hv13,h⟩:=zn h
  obtain ⟨v14,hv14,h⟩:=zn h
  refine yx hn 2 ?_
  refine ys 0 ⟨lb hv13⟩ ?_
  refine yS (.fl (.own 5) 1 (map (int .u8) ([]:List Int))) 0 ⟨xV _ _ _ _ ia (by decide) rfl rfl hv14⟩ ?_
  refine ya 0 ?_
  refine aT [1,51,4,5,7] ?_
  refine ab ?_
  obtain ⟨v15,hv15,h⟩:=zn h
  refine yx hn 0 ?_
  refine yS (.fl (.own 5) 1 (map (int .u8) ([]:List Int))) 0 ⟨xV _ _ _ _ ia (by decide) rfl rfl hv15⟩ ?_
  refine ya 0 ?_
  refine aT [1,51,4,5,7,8] ?_
  refine ab (ab ?_)
  obtain ⟨v16,hv16,h⟩:=zn h
  refine yx hn 0 ?_
  refine yS (.v (.agg (map (int .u8) s8).toArray)) 1 ⟨fS _ _ _ _ underlying205 rfl (Cm.trans (congrArg some (bq hv16))) rfl rfl⟩ ?_
  refine aT [1,51,4,7,8,28,29] ?_
  refine aX h (fun ((s29,s30,s31):(List Int)×(List Int)×Int)=>[(1,fb text),(51,.glob (GL mx)),(4,.arr 91 (map (int .u8) ((List.replicate 16 (0:Int))))),(7,.fl (.own 5) 1 (map (int .u8) s29)),(8,.fl (.own 5) 1 (map (int .u8) s30)),(28,.v (.agg (map (int .u8) s8).toArray)),(29,vi s31)]) (fun ((s33,s34):(List Int)×(List Int))=>[(1,fb text),(51,.glob (GL mx)),(4,.arr 91 (map (int .u8) ((List.replicate 16 (0:Int))))),(7,.fl (.own 5) 1 (map (int .u8) s33)),(8,.fl (.own 5) 1 (map (int .u8) s34))]) ?_ ?_
  ·rintro ⟨s33,s34⟩ h
   refine ag (ab ?_)
   obtain ⟨v42,hv42,h⟩:=zn h
   obtain ⟨v43,hv43,h⟩:=zn h
   obtain ⟨v44,hv44,h⟩:=zn h
   obtain ⟨v45,hv45,h⟩:=zn h
   refine yx hn 0 ?_
   refine ym 1 ?_
   refine yp ia hv42 0 ?_
   refine ys 0 ⟨lg call183 (je _ _ _ hv43) 51⟩ ?_
   refine yS (.arr 91 (map (int .u8) ((List.replicate 16 (0:Int))))) 0 ⟨oA (bN _ wB)⟩ ?_
   refine yk [11] [46] ?_
   refine yt (11,.arr 91 (map (int .u8) v43)) 0 ⟨bQ _ _ _ _ (sK.trans (congrArg some (bq hv45))) rfl rfl (ef (fun _=>rfl) _) ((bq (f:=int .u8) hv44).symm.trans (bq (f:=int .u8) hv45))⟩ ?_
   refine aT [51,4,8,11] ?_
   refine ab ?_
   obtain ⟨v46,hv46,h⟩:=zn h
   obtain ⟨v47,hv47,h⟩:=zn h
   obtain ⟨v48,hv48,h⟩:=zn h
   obtain ⟨v49,hv49,h⟩:=zn h
   obtain ⟨v50,hv50,h⟩:=zn h
   refine yx hn 0 ?_
   refine ym 0 ?_
   refine yk [11] [] ?_
   refine kU (11,.any) (48,.fl .ro 1 (map (int .u8) v43)) 0 ⟨jD _ _ 11 16 _ underlying91 jA rfl (bq hv46).symm (ef (fun _=>rfl) _)⟩ ?_
   refine yp ia hv47 0 ?_
   refine ys 0 ⟨lg call183 (je _ _ _ hv48) 51⟩ ?_
   refine yk [4] [50] ?_
   refine yt (4,.arr 91 (map (int .u8) v48)) 0 ⟨bQ _ _ _ _ (sK.trans (congrArg some (bq hv50))) rfl rfl (ef (fun _=>rfl) _) ((bq (f:=int .u8) hv49).symm.trans (bq (f:=int .u8) hv50))⟩ ?_
   refine aT [51,4] ?_
   refine am ?_
   obtain ⟨v51,hv51,h⟩:=zn h
   refine ah [1] (by kernel_rfl) (es':=[(_,_)]) rfl ?_
   obtain rfl:=zi h
   exact ao hio rfl (.cellR _ _ _ _ underlying91 rfl (sK.trans (congrArg some (bq hv51))) .nil) rfl rfl
  ·rintro u35 hl36 hr37 ⟨s29,s30,s31⟩ rr40 h ho38
   refine aI hn 1 [1,51,4,7,8,28,29,30] ?_
   refine ab ?_
   refine al _ rfl (fun hb41 => ?_) (fun hb41 => ?_)
   ·have h:=ap hb41 h
    refine ar ?_
    refine ag (ab ?_)
    refine aH (ab ?_)
    obtain ⟨v18,hv18,h⟩:=zn h
    obtain ⟨v19,hv19,h⟩:=zn h
    refine yx hn 0 ?_
    refine yS (.v (.int .u8 v19)) 1 ⟨mV _ _ _ _ 64 v18 underlying205 jA rfl (congrArg (fun j=>AV.v (int .i64 j)) (bk hv18).1) (bk hv18).2 (cC hv19) ⟨_,underlying5,rfl⟩⟩ ?_
    refine aT [1,51,4,7,8,28,29,10] ?_
    refine ab ?_
    obtain ⟨v20,hv20,h⟩:=zn h
    obtain ⟨v21,hv21,h⟩:=zn h
    refine yx hn 0 ?_
    refine ym 1 ?_
    refine ys 0 ⟨lb hv20⟩ ?_
    refine yS (.fl (.own 5) 1 (map (int .u8) [v20])) 0 ⟨bb _ _ 1 (.int .u8 0) (map (int .u8) [v20]) [(0,.int .u8 v20)] underlying28 jA rb (fun _ V w o a hv hes=>by have e0:=bK hv hes (x := .tmp 34) rfl; simp only [List.map_toArray,List.map_cons,List.map_nil,e0]; try rfl) (cn (by simp [Instr.fill,Value.cells]; rfl) (by simp [List.range,List.range.loop] <;> rfl)) (by simp [Value.oneCell']) rfl (by decide) (by decide) (by decide)⟩ ?_
    refine yp ia hv21 0 ?_
    refine ya 0 ?_
    refine aT [1,51,4,8,28,29,10,7] ?_
    obtain ⟨v22,hv22,h⟩:=zn h
    obtain ⟨v23,hv23,h⟩:=zn h
    refine yx hn 0 ?_
    refine ym 1 ?_
    refine ys 0 ⟨lb hv22⟩ ?_
    refine yS (.fl (.own 5) 1 (map (int .u8) [v22])) 0 ⟨bb _ _ 1 (.int .u8 0) (map (int .u8) [v22]) [(0,.int .u8 v22)] underlying28 jA rb (fun _ V w o a hv hes=>by have e0:=bK hv hes (x := .tmp 39) rfl; simp only [List.map_toArray,List.map_cons,List.map_nil,e0]; try rfl) (cn (by simp [Instr.fill,Value.cells]; rfl) (by simp [List.range,List.range.loop] <;> rfl)) (by simp [Value.oneCell']) rfl (by decide) (by decide) (by decide)⟩ ?_
    refine yp ia hv23 0 ?_
    refine ya 0 ?_
    refine ye [1,51,4,28,29,7,8] ?_
    refine aJ (ag ?_)
    obtain ⟨v24,hv24,h⟩:=zn h
    refine yx hn 0 ?_
    refine ys 0 ⟨lb hv24⟩ ?_
    refine yw [29] 1 ?_
    refine ye [1,51,4,28,7,8,29] ?_
    refine ah [0,1,2,4,5,3,6] (by kernel_rfl) (es':=[(_,_),(_,_),(_,_),(_,_),(_,_),(_,_),(_,_)]) rfl ?_
    exact bi _ (zi h).symm rfl
   ·have h:=aq hb41 h
    refine bh (aB (aB (bf ?_)))
    refine ah [0,1,2,3,4] (by kernel_rfl) (es':=[(_,_),(_,_),(_,_),(_,_),(_,_)]) rfl ?_
    exact hl36 _ (ho38 _ (zi h).symm).symm
 ·intro u9 h hl10 hr11
  refine aI hn 3 [0,1,51,4,5,14] ?_
  refine al _ rfl (fun hb12 => ?_) (fun hb12 => ?_)
  ·have h:=ap hb12 h
   refine ab ?_
   obtain ⟨v2,hv2,h⟩:=zn h
   obtain ⟨v3,hv3,h⟩:=zn h
   obtain ⟨v4,hv4,h⟩:=zn h
   refine yx hn 1 ?_
   refine ys 0 ⟨lg call183 (je _ _ _ hv2) 51⟩ ?_
   refine yS (.arr 91 (map (int .u8) ((List.replicate 16 (0:Int))))) 0 ⟨oA (bN _ wB)⟩ ?_
   refine yk [6] [16] ?_
   refine yt (6,.arr 91 (map (int .u8) v2)) 0 ⟨bQ _ _ _ _ (sK.trans (congrArg some (bq hv4))) rfl rfl (ef (fun _=>rfl) _) ((bq (f:=int .u8) hv3).symm.trans (bq (f:=int .u8) hv4))⟩ ?_
   refine aT [1,51,4,5,6] ?_
   obtain ⟨v5,hv5,h⟩:=zn h
   obtain ⟨v6,hv6,h⟩:=zn h
   refine wb [] ?_
   refine wN [5] ?_
   refine wS (.asl 5 64) [] ⟨ny _ _ 5 64 _ underlying205 jA rfl (by decide)⟩ ?_
   refine wK [6] [] ?_
   refine wt [(6,.any),(18,.fl .ro 1 (map (int .u8) v2))] [] ⟨jD _ _ 6 16 _ underlying91 jA rfl (bq hv5).symm (ef (fun _=>rfl) _)⟩ ?_
   refine wK [5] [17,18] ?_
   refine wt [(5,.arr 205 (map (int .u8) (nb ((List.replicate 64 (0:Int))) v2))),(19,vi (pP ((List.replicate 64 (0:Int))) v2))] [] ⟨rf _ _ _ _ _ _ _ _ underlying28 jA rfl (Ct hv6) rfl (by decide)⟩ ?_
   refine we hn [1,51,4,5] ?_
   exact hl10 _ (zi h).symm
  ·have h:=aq hb12 h
   obtain ⟨v7,hv7,h⟩:=zn h
   refine yx hn 0 ?_
   refine yS (.asl 5 64) 1 ⟨ny _ _ 5 64 _ underlying205 jA rfl (by decide)⟩ ?_
   refine yk [5] [20,21] ?_
   refine kU (5,.arr 205 (map (int .u8) (nb ((List.replicate 64 (0:Int))) key))) (22,vi (pP ((List.replicate 64 (0:Int))) key)) 0 ⟨rf _ _ _ _ _ _ _ _ underlying28 jA rfl (Ct hv7) rfl (by decide)⟩ ?_
   refine ye [1,51,4,5] ?_
   exact hl10 _ (zi h).symm
theorem tv (b:(List Int)) (r:Fa) (h:Sh.pC b=some r):bL Tryz.prog 155 [.fl .shr 1 (map (int .u8) b)] (.v (.string r)):=by
 unfold Sh.pC at h
 refine yO 22 func155 fun g0 hn hio => ?_
 refine aI hn 1 [0] ?_
 refine eC hn 0 ?_
 refine yS (.hid (fh 153 5 false (map (int .u8) ([]:List Int)))) 0 ⟨oA (aL.bld0 (aP _ _ zZ))⟩ ?_
 refine aT [0,3] ?_
 refine ab ?_
 refine aI hn 3 [3,6,7,8] ?_
 refine aX h (fun ((s14,s15):(List Int)×Int)=>[(3,.hid (fh 153 5 false (map (int .u8) s14))),(6,fb b),(7,vi (b.length:Int)),(8,vi s15)]) (fun (s17:(List Int))=>[(3,.hid (fh 153 5 false (map (int .u8) s17)))]) ?_ ?_
 ·rintro s17 h
  refine ag (ab ?_)
  obtain ⟨v25,hv25,h⟩:=zn h
  refine yx hn 0 ?_
  refine yk [3] [] ?_
  refine yt (21,vs v25) 1 ⟨jw _ _ _ _ 21 128 [.tmp 3] [] _ _ _ rfl call128 rfl rfl rfl (eG s17 _ hv25) (zl rfl) rfl rfl rfl rfl rfl rfl rfl⟩ ?_
  refine aT [2] ?_
  refine am ?_
  obtain rfl:=zi h
  exact ao hio rfl (.tmp _ _ .nil) rfl rfl
 ·rintro u18 hl19 hr20 ⟨s14,s15⟩ rr23 h ho21
  refine aI hn 1 [3,6,7,8,9] ?_
  refine ab ?_
  refine al _ rfl (fun hb24 => ?_) (fun hb24 => ?_)
  ·have h:=ap hb24 h
   refine ar ?_
   refine ag (ab ?_)
   refine aH (ab ?_)
   obtain ⟨v2,hv2,h⟩:=zn h
   obtain ⟨v3,hv3,h⟩:=zn h
   refine yx hn 0 ?_
   refine ys 0 ⟨li hv2⟩ ?_
   refine ys 1 ⟨ll hv3⟩ ?_
   refine aT [3,6,7,8,5] ?_
   refine ab ?_
   obtain ⟨v4,hv4,h⟩:=zn h
   obtain ⟨v5,hv5,h⟩:=zn h
   obtain ⟨v6,hv6,h⟩:=zn h
   refine yx hn 1 ?_
   refine ys 0 ⟨lB (jN hv4)⟩ ?_
   refine ys 0 ⟨lh hv5⟩ ?_
   refine yq call125 (cH _ _ _ hv6) 3 [14] 0 ?_
   refine aT [3,6,7,8,5] ?_
   obtain ⟨v7,hv7,h⟩:=zn h
   obtain ⟨v8,hv8,h⟩:=zn h
   obtain ⟨v9,hv9,h⟩:=zn h
   refine yx hn 1 ?_
   refine ys 0 ⟨lb hv7⟩ ?_
   refine ys 0 ⟨lh hv8⟩ ?_
   refine yq call125 (cH _ _ _ hv9) 3 [18] 0 ?_
   refine ye [3,6,7,8] ?_
   refine aJ (ag ?_)
   obtain ⟨v10,hv10,h⟩:=zn h
   refine yx hn 0 ?_
   refine ys 0 ⟨lb hv10⟩ ?_
   refine yw [8] 1 ?_
   refine ye [3,6,7,8] ?_
   exact bi _ (zi h).symm rfl
  ·have h:=aq hb24 h
   refine bh (aB (aB (bf ?_)))
   refine ah [0] (by kernel_rfl) (es':=[(_,_)]) rfl ?_
   exact hl19 _ (ho21 _ (zi h).symm).symm
theorem pK (mx:Int×Nat×Value) (user:Fa) (secret:Fa) (challenge:Fa) (r:Fa) (h:Sh.kM user secret challenge=some r):fk Tryz.prog (GL mx) 133 [.v (.string user),.v (.string secret),.v (.string challenge)] (.v (.string r)):=by
 unfold Sh.kM at h
 refine yG 20 func133 fun g0 hn hio => ?_
 refine aI hn 1 [0,1,2,20] ?_
 refine ab ?_
 obtain ⟨v1,hv1,h⟩:=zn h
 obtain ⟨v2,hv2,h⟩:=zn h
 obtain ⟨v3,hv3,h⟩:=zn h
 obtain ⟨v4,hv4,h⟩:=zn h
 obtain ⟨v5,hv5,h⟩:=zn h
 refine yx hn 1 ?_
 refine ys 1 ⟨lT hv1⟩ ?_
 refine ys 0 ⟨lT hv2⟩ ?_
 refine ys 0 ⟨lg call154 (pn _ _ _ _ hv3) 20⟩ ?_
 refine yS (.arr 91 (map (int .u8) ((List.replicate 16 (0:Int))))) 0 ⟨oA (bN _ wB)⟩ ?_
 refine yk [7] [12] ?_
 refine yt (7,.arr 91 (map (int .u8) v3)) 0 ⟨bQ _ _ _ _ (sK.trans (congrArg some (bq hv5))) rfl rfl (ef (fun _=>rfl) _) ((bq (f:=int .u8) hv4).symm.trans (bq (f:=int .u8) hv5))⟩ ?_
 refine aT [0,20,7] ?_
 refine ab ?_
 obtain ⟨v6,hv6,h⟩:=zn h
 obtain ⟨v7,hv7,h⟩:=zn h
 obtain ⟨v8,hv8,h⟩:=zn h
 obtain ⟨v9,hv9,h⟩:=zn h
 obtain ⟨v10,hv10,h⟩:=zn h
 obtain ⟨v11,hv11,h⟩:=zn h
 refine yx hn 1 ?_
 refine ys 0 ⟨lB (dW hv6)⟩ ?_
 refine yk [7] [] ?_
 refine kU (7,.any) (15,.fl .ro 1 (map (int .u8) v3)) 0 ⟨jD _ _ 7 16 _ underlying91 jA rfl (bq hv7).symm (ef (fun _=>rfl) _)⟩ ?_
 refine ys 0 ⟨lk call155 (tv _ _ hv8)⟩ ?_
 refine ys 0 ⟨lB (dW hv9)⟩ ?_
 refine ys 0 ⟨lT hv10⟩ ?_
 refine ys 1 ⟨lk call98 (iF _ _ hv11)⟩ ?_
 refine aT [20,6] ?_
 refine am ?_
 refine ah [1] (by kernel_rfl) (es':=[(_,_)]) rfl ?_
 obtain rfl:=zi h
 exact ao hio rfl (.tmp _ _ .nil) rfl rfl
theorem qm (mx:Int×Nat×Value) (user:Fa) (secret:Fa) (challenge:Fa) (line:Fa) (r:Bool) (h:Sh.kB user secret challenge line=some r):fk Tryz.prog (GL mx) 107 [.v (.string user),.v (.string secret),.v (.string challenge),.v (.string line)] (.v (.bool r)):=by
 unfold Sh.kB at h
 refine yG 15 func107 fun g0 hn hio => ?_
 refine aI hn 1 [0,1,2,3,15] ?_
 refine ab ?_
 obtain ⟨v1,hv1,h⟩:=zn h
 refine yx hn 4 ?_
 refine ys 2 ⟨lg call133 (pK _ _ _ _ _ hv1) 15⟩ ?_
 refine aT [15,8] ?_
 refine am ?_
 refine ah [1] (by kernel_rfl) (es':=[(_,_)]) rfl ?_
 obtain rfl:=zi h
 exact ao hio rfl (.tmp _ _ .nil) rfl rfl
theorem ez (u:Nat→Value) (s:aa) (code:Int) (r:cd) (h:Sh.cG s code=some r):mr Tryz.prog 85 [.box 80 [.v (.int .i64 s.EB.ES),.v (.string s.EB.EE),.v (.bool s.EB.EA.EM),.v (.string s.EB.EA.EI),.v (.string s.EB.EA.Ex),.v (u 5),.v (.bool s.EB.EU),.v (u 7),.v (.string s.EB.Ev),.v (.bool s.EB.ET),.v (.string ((s.config.Ey.getD 0 (⟨#[]⟩:Fa)))),.v (.string ((s.config.Ey.getD 1 (⟨#[]⟩:Fa)))),.v (.int .i64 s.config.Ez),.v (.string s.config.EY),.v (.string s.config.EW),.v (.int .i64 s.config.EJ),.v (.bool s.config.ED),.v (.int .i64 s.site),.v (.int .i64 s.at_),.v (u 19)],.v (.int .i64 code)] [.box 80 [.v (.int .i64 s.EB.ES),.v (.string s.EB.EE),.v (.bool s.EB.EA.EM),.v (.string s.EB.EA.EI),.v (.string s.EB.EA.Ex),.v (u 5),.v (.bool s.EB.EU),.v (u 7),.v (.string s.EB.Ev),.v (.bool s.EB.ET),.v (.string ((s.config.Ey.getD 0 (⟨#[]⟩:Fa)))),.v (.string ((s.config.Ey.getD 1 (⟨#[]⟩:Fa)))),.v (.int .i64 s.config.Ez),.v (.string s.config.EY),.v (.string s.config.EW),.v (.int .i64 s.config.EJ),.v (.bool s.config.ED),.v (.int .i64 s.site),.v (.int .i64 s.at_),.v (u 19)]] (.agg [.v (.int .i64 r.Ew),.fl (.own 9) 1 (map Value.string r.EH)]):=by
 unfold Sh.cG at h
 refine yP 24 func85 fun args0 hargs0 g0 hn hio => ?_
 refine eC hn 0 ?_
 refine yS (.box 51 [vi 0,vz]) 0 ⟨oA (aP _ _ zx)⟩ ?_
 refine aT [0,1,4,0] ?_
 refine aI hn 1 [0,1,4,5,0] ?_
 refine ab ?_
 refine aD h (fun (s6:Fa)=>[(0,.box 80 (vi s.EB.ES::vs s.EB.EE::vb s.EB.EA.EM::vs s.EB.EA.EI::vs s.EB.EA.Ex::.v (u 5)::vb s.EB.EU::.v (u 7)::vs s.EB.Ev::vb s.EB.ET::aC.c s.config [vi s.site,vi s.at_,.v (u 19)])),(1,vi code),(4,.box 51 [vi 0,vz]),(5,vs s6),(0,.v (List.getD args0 0 undef))]) ?_ ?_
 ·rintro s6 h
  refine ag ?_
  refine eC hn 2 ?_
  refine yS (.fl (.own 9) 1 (map Value.string [s6])) 0 ⟨bb _ _ 1 (.string ByteArray.empty) (map Value.string [s6]) [(0,.string s6)] underlying49 pW Cf (fun _ V w o a hv hes=>by have e0:=bK hv hes (x := .tmp 21) rfl; simp only [List.map_toArray,List.map_cons,List.map_nil,e0]; try rfl) (cn (by simp [Instr.fill,Value.cells]; rfl) (by simp [List.range,List.range.loop] <;> rfl)) (by simp [Value.oneCell']) rfl (by decide) (by decide) (by decide)⟩ ?_
  refine yk [22] [20] ?_
  refine yt (23,.agg [vi code,.fl (.own 9) 1 (map Value.string [s6])]) 0 ⟨bn _ _ _ _ [1,1] _ _ underlying51 zx (Cd _ underlying51) (.copy _ (.take _ _ km.nil)) rfl rfl rfl⟩ ?_
  refine yk [23,4] [] ?_
  refine yt (4,.box 51 [vi code,.fl (.own 9) 1 (map Value.string [s6])]) 0 ⟨aK _ _ _ _ _ _ _ _ zb rfl rfl rfl (zl rfl) rfl rfl⟩ ?_
  refine aT [0,4,0] ?_
  refine am ?_
  refine ah [1,0,2] (by kernel_rfl) (es':=[(_,_),(_,_),(_,_)]) rfl ?_
  obtain rfl:=zi h
  exact bo (es:=[(4,.box 51 [.v (.int .i64 code),.fl (.own 9) 1 (map Value.string [s6])])]) (posts:=[.box 80 [.v (.int .i64 s.EB.ES),.v (.string s.EB.EE),.v (.bool s.EB.EA.EM),.v (.string s.EB.EA.EI),.v (.string s.EB.EA.Ex),.v (u 5),.v (.bool s.EB.EU),.v (u 7),.v (.string s.EB.Ev),.v (.bool s.EB.ET),.v (.string ((s.config.Ey.getD 0 (⟨#[]⟩:Fa)))),.v (.string ((s.config.Ey.getD 1 (⟨#[]⟩:Fa)))),.v (.int .i64 s.config.Ez),.v (.string s.config.EY),.v (.string s.config.EW),.v (.int .i64 s.config.EJ),.v (.bool s.config.ED),.v (.int .i64 s.site),.v (.int .i64 s.at_),.v (u 19)]]) hio rfl rfl (.cellA _ _ _ _ underlying51 rfl zb .nil) rfl rfl hargs0 rfl
 ·intro u7 h hl8 hr9
  refine aH ?_
  refine aI hn 3 [0,1,4,5,6,0] ?_
  refine al _ rfl (fun hb10 => ?_) (fun hb10 => ?_)
  ·have h:=ap hb10 h
   obtain ⟨v2,hv2,h⟩:=zn h
   obtain ⟨v3,hv3,h⟩:=zn h
   refine yx hn 5 ?_
   refine ys 0 ⟨lT hv2⟩ ?_
   refine ys 0 ⟨lk call98 (iF _ _ hv3)⟩ ?_
   refine yw [5] 1 ?_
   refine ye [0,1,4,5,0] ?_
   refine aJ ?_
   exact hl8 _ (zi h).symm
  ·have h:=aq hb10 h
   refine ab ?_
   obtain ⟨v4,hv4,h⟩:=zn h
   refine yx hn 1 ?_
   refine ys 2 ⟨lk call99 (ku _ _ hv4)⟩ ?_
   refine aT [0,1,4,5,16,0] ?_
   refine al _ rfl (fun hb11 => ?_) (fun hb11 => ?_)
   ·have h:=ap hb11 h
    refine yx hn 0 ?_
    refine yw [5] 1 ?_
    refine ye [0,1,4,5,0] ?_
    refine aJ ?_
    exact hl8 _ (zi h).symm
   ·have h:=aq hb11 h
    refine ar (aJ ?_)
    refine ah [0,1,2,3,5] (by kernel_rfl) (es':=[(_,_),(_,_),(_,_),(_,_),(_,_)]) rfl ?_
    exact hl8 _ (zi h).symm
theorem aQ (s:aa) (code:Int) (r:aa) (h:Sh.aS s code=some r):mr Tryz.prog 76 [.box 80 (aa.b s),.v (.int .i64 code)] [.box 80 (aa.b r)] (.tup []):=by
 unfold Sh.aS at h
 refine yP 17 func76 fun args0 hargs0 g0 hn hio => ?_
 obtain ⟨v1,hv1,h⟩:=zn h
 obtain ⟨v2,hv2,h⟩:=zn h
 refine wb [[],[],[5,0],[6,0],[7,0],[0],[1]] ?_
 refine wN [9,0,10] ?_
 refine wS (.agg [vi v1.Ew,.fl (.own 9) 1 (map Value.string v1.EH)]) [] ⟨tZ _ 11 0 85 [.int .i64 code] _ rfl call85 rfl rfl rfl rfl (fun u=>ez u ((aa.r s)) code _ hv1) rfl rfl rfl⟩ ?_
 refine wK [11] [] ?_
 refine wt [(12,.agg [vi v1.Ew,.fl (.own 9) 1 (map Value.string v1.EH),vb false,vb false,vs z0,vs z0,vz,vz,vb false,vs z0,vi 0,vb false])] [] ⟨bn _ _ _ _ [2,1,8,1] _ _ underlying55 qO (xF _ underlying55) (.take _ _ km.nil) rfl rfl rfl⟩ ?_
 refine wK [12] [] ?_
 refine wt [(13,.fr (.own 55) false 12 (flatten (map au.ienc ([(au.mk v1 false ((aU.mk ((ae.mk false z0 z0)) [] [] false z0 0)) false)]))))] [] ⟨iW _ _ _ 12 (.agg #[.int .i64 0,.slice none 0 0,.bool false,.bool false,.string ByteArray.empty,.string ByteArray.empty,.slice none 0 0,.slice none 0 0,.bool false,.string ByteArray.empty,.int .i64 0,.bool false]) false _ _ underlying34 tT qO rfl (.cons (.v _) (.cons (.ro _ _ rfl) (.cons (.v _) (.cons (.v _) (.cons (.v _) (.cons (.v _) (.cons (.nil 3) (.cons (.nil 1) (.cons (.v _) (.cons (.v _) (.cons (.v _) (.cons (.v _) (.nil))))))))))))) rfl (by decide) (by decide)⟩ ?_
 refine wK [0] [8,13] ?_
 refine wt [(0,.box 80 (vi s.EB.ES::vs s.EB.EE::vb s.EB.EA.EM::vs s.EB.EA.EI::vs s.EB.EA.Ex::.fl (.own 26) 3 (flatten (map ae.enc s.EB.To))::vb s.EB.EU::.mkr 5 (map (int .u8) s.EB.Eu)::vs s.EB.Ev::vb s.EB.ET::aC.c s.config [vi s.site,vi s.at_,.any])),(14,.fr (.own 55) false 12 (flatten (map au.ienc v2)))] [[4,0],[15,0]] ⟨fQ _ 14 0 19 _ _ Az rfl rfl (zl rfl) rfl (dS au.ilen _) (dS au.ilen _) hv2 (lN (im hv2)) (by decide) (by decide) (by decide) rfl rfl⟩ ?_
 refine wK [8,14,0] [16] ?_
 refine wt [(0,.box 80 (vi s.EB.ES::vs s.EB.EE::vb s.EB.EA.EM::vs s.EB.EA.EI::vs s.EB.EA.Ex::.fl (.own 26) 3 (flatten (map ae.enc s.EB.To))::vb s.EB.EU::.mkr 5 (map (int .u8) s.EB.Eu)::vs s.EB.Ev::vb s.EB.ET::aC.c s.config [vi s.site,vi s.at_,.fr (.own 55) false 12 (flatten (map au.ienc v2))]))] [] ⟨aL.drop [_] (aK _ _ _ _ _ _ _ _ Ay rfl rfl rfl (zl rfl) rfl rfl)⟩ ?_
 refine we hn [0,0] ?_
 obtain rfl:=zi h
 exact jb (es:=[]) (posts:=[.box 80 [.v (.int .i64 s.EB.ES),.v (.string s.EB.EE),.v (.bool s.EB.EA.EM),.v (.string s.EB.EA.EI),.v (.string s.EB.EA.Ex),.fl (.own 26) 3 (flatten (map ae.enc s.EB.To)),.v (.bool s.EB.EU),.mkr 5 (map (int .u8) s.EB.Eu),.v (.string s.EB.Ev),.v (.bool s.EB.ET),.v (.string ((s.config.Ey.getD 0 (⟨#[]⟩:Fa)))),.v (.string ((s.config.Ey.getD 1 (⟨#[]⟩:Fa)))),.v (.int .i64 s.config.Ez),.v (.string s.config.EY),.v (.string s.config.EW),.v (.int .i64 s.config.EJ),.v (.bool s.config.ED),.v (.int .i64 s.site),.v (.int .i64 s.at_),.fr (.own 55) false 12 (flatten (map au.ienc v2))]]) hio rfl rfl .nil rfl rfl hargs0 rfl
theorem kq (mx:Int×Nat×Value) (s:aa) (line:Fa) (r:aa) (h:Sh.fg s line=some r):kZ Tryz.prog (GL mx) 90 [.box 80 (aa.b s),.v (.string line)] [.box 80 (aa.b r)] (.tup []):=by
 unfold Sh.fg at h
 refine yc 34 func90 fun args0 hargs0 g0 hn hio => ?_
 refine aI hn 5 [0,1,34,0] ?_
 refine ab (ab ?_)
 obtain ⟨v1,hv1,h⟩:=zn h
 refine wb [[],[8,0],[9,0],[10,0],[11,0],[],[13,0],[14,0],[15,0],[16,0],[],[18,0],[19,0],[20,0],[21,0],[1]] ?_
 refine wN [12,17,22,23,34] ?_
 refine wo [[24]] ⟨lg call107 (qm _ _ _ _ _ _ hv1) 34⟩ ?_
 refine qR hn [0,34,25,0] ?_
 refine al _ rfl (fun hb2 => ?_) (fun hb2 => ?_)
 ·have h:=ap hb2 h
  refine ab ?_
  obtain ⟨v3,hv3,h⟩:=zn h
  refine yx hn 1 ?_
  refine yQ call76 (aQ _ _ _ hv3) 0 [26] 0 ?_
  refine aT [0,34,0] ?_
  refine am ?_
  refine ah [0,2] (by kernel_rfl) (es':=[(_,_),(_,_)]) rfl ?_
  refine ai ?_
  obtain rfl:=zi h
  exact bo (es:=[]) (posts:=[.box 80 (aa.b v3)]) hio rfl rfl .nil rfl rfl hargs0 rfl
 ·have h:=aq hb2 h
  refine ar (ag ?_)
  refine aI hn 5 [0,34,0] ?_
  obtain ⟨v4,hv4,h⟩:=zn h
  refine yx hn 1 ?_
  refine yQ call76 (aQ _ _ _ hv4) 0 [32] 0 ?_
  refine ye [0,34,0] ?_
  refine ah [0,2] (by kernel_rfl) (es':=[(_,_),(_,_)]) rfl ?_
  obtain rfl:=zi h
  exact jb (es:=[]) (posts:=[.box 80 (aa.b v4)]) hio rfl rfl .nil rfl rfl hargs0 rfl
theorem iX (line:Fa) (r:Bool) (h:Sh.iD line=some r):bL Tryz.prog 108 [.v (.string line)] (.v (.bool r)):=by
 unfold Sh.iD at h
 refine yO 20 func108 fun g0 hn hio => ?_
 refine aI hn 1 [0] ?_
 refine ab ?_
 refine aI hn 3 [0,5,6] ?_
 refine aX h (fun (s17:Int)=>[(0,vs line),(5,vi (line.size:Int)),(6,vi s17)]) (fun (():Unit)=>[]) ?_ ?_
 ·rintro ⟨⟩ h
  refine ag ?_
  refine aI hn 1 [2] ?_
  refine am ?_
  obtain rfl:=zi h
  exact ao hio rfl (.tmp _ _ .nil) rfl rfl
 ·rintro u24 hl25 hr26 s17 rr29 h ho27
  refine aI hn 1 [0,5,6,7] ?_
  refine ab ?_
  refine al _ rfl (fun hb30 => ?_) (fun hb30 => ?_)
  ·have h:=ap hb30 h
   refine ar ?_
   refine ag (ab ?_)
   refine aH ?_
   refine aI hn 2 [0,5,6,3] ?_
   refine ab ?_
   refine aD h (fun (s31:Bool)=>[(0,vs line),(5,vi (line.size:Int)),(6,vi s17),(18,vb s31)]) ?_ ?_
   ·rintro s31 h
    refine ag ?_
    refine al _ rfl (fun hb35 => ?_) (fun hb35 => ?_)
    ·have h:=ap hb35 h
     refine aI hn 1 [2] ?_
     refine am (aG (ai (ai (aG (ai ?_)))))
     have h:=hr26 _ (ho27 _ (zi h).symm).symm
     obtain rfl:=zi h
     exact ao hio rfl (.tmp _ _ .nil) rfl rfl
    ·have h:=aq hb35 h
     refine ar (aJ (ag ?_))
     obtain ⟨v9,hv9,h⟩:=zn h
     refine yx hn 0 ?_
     refine ys 0 ⟨lb hv9⟩ ?_
     refine yw [6] 1 ?_
     refine ye [0,5,6] ?_
     exact bi _ (zi h).symm rfl
   ·intro u32 h hl33 hr34
    obtain ⟨v2,hv2,h⟩:=zn h
    refine ak h (fun hg4_4 h => ?_) (fun hg4_4 h => ?_)
    ·refine yx hn 2 ?_
     refine ys 2 ⟨lh hv2⟩ ?_
     refine yd hg4_4 5 ?_
     refine ye [0,5,6,18] ?_
     exact hl33 _ (zi h).symm
    ·obtain ⟨v3,hv3,h⟩:=zn h
     refine yx hn 2 ?_
     refine ys 2 ⟨lh hv2⟩ ?_
     refine yd hg4_4 2 ?_
     refine ys 2 ⟨lh hv3⟩ ?_
     refine ye [0,5,6,18] ?_
     exact hl33 _ (zi h).symm
  ·have h:=aq hb30 h
   refine bh (aB (aB (bf ?_)))
   refine ah [] (by kernel_rfl) (es':=[]) rfl ?_
   exact hl25 _ (ho27 _ (zi h).symm).symm
theorem gW (s sub:Fa) (r:Int) (h:Sh.dn s sub=some r):bL Tryz.prog 143 [.v (.string s),.v (.string sub)] (.v (.int .i64 r)):=iU Tryz.stringslite_Index_one s sub r h
theorem iw (s:Fa) (sep:Fa) (r:(Fa×Fa×Bool)) (h:Sh.dm s sep=some r):bL Tryz.prog 156 [.v (.string s),.v (.string sep)] (.tup [.v (.string r.1),.v (.string r.2.1),.v (.bool r.2.2)]):=by
 unfold Sh.dm at h
 refine yO 23 func156 fun g0 hn hio => ?_
 refine aI hn 3 [0,1] ?_
 refine ab (ab ?_)
 obtain ⟨v1,hv1,h⟩:=zn h
 refine yx hn 2 ?_
 refine ys 1 ⟨lk call143 (gW _ _ _ hv1)⟩ ?_
 refine aT [0,1,7] ?_
 refine aI hn 2 [0,1,7,12] ?_
 refine al _ rfl (fun hb2 => ?_) (fun hb2 => ?_)
 ·have h:=ap hb2 h
  refine ab ?_
  obtain ⟨v3,hv3,h⟩:=zn h
  obtain ⟨v4,hv4,h⟩:=zn h
  obtain ⟨v5,hv5,h⟩:=zn h
  refine wb [[0],[7]] ?_
  refine wN [13,14] ?_
  refine wS (vs v3) [[0],[7],[1],[18]] ⟨cr _ _ _ 0 v1 _ underlying9 rfl rfl ⟨_,rfl⟩ hv3⟩ ?_
  refine wN [17,19] ?_
  refine wo [] ⟨lb hv4⟩ ?_
  refine wN [16,20] ?_
  refine wS (vs v5) [[15],[21],[]] ⟨cr _ _ _ v4 (s.size:Int) _ underlying9 rfl ⟨_,rfl⟩ rfl hv5⟩ ?_
  refine qR hn [4,5,6] ?_
  refine am (ai ?_)
  obtain rfl:=zi h
  exact ao hio rfl (.tmp _ _ (.tmp _ _ (.tmp _ _ .nil))) rfl rfl
 ·have h:=aq hb2 h
  refine ar (ag ?_)
  refine aI hn 4 [4,5,6] ?_
  refine am ?_
  obtain rfl:=zi h
  exact ao hio rfl (.tmp _ _ (.tmp _ _ (.tmp _ _ .nil))) rfl rfl
theorem fW (s:Fa) (sep:Fa) (r:(Fa×Fa×Bool)) (h:Sh.fC s sep=some r):bL Tryz.prog 134 [.v (.string s),.v (.string sep)] (.tup [.v (.string r.1),.v (.string r.2.1),.v (.bool r.2.2)]):=by
 unfold Sh.fC at h
 refine yO 13 func134 fun g0 hn hio => ?_
 refine aI hn 3 [0,1] ?_
 refine ab ?_
 obtain ⟨v1,hv1,h⟩:=zn h
 refine yx hn 2 ?_
 refine ys 6 ⟨lk call156 (iw _ _ _ hv1)⟩ ?_
 refine aT [4,5,6] ?_
 refine am ?_
 obtain rfl:=zi h
 exact ao hio rfl (.tmp _ _ (.tmp _ _ (.tmp _ _ .nil))) rfl rfl
theorem kG (line:Fa) (r:Int) (h:Sh.iZ line=some r):bL Tryz.prog 109 [.v (.string line)] (.v (.int .i64 r)):=by
 unfold Sh.iZ at h
 refine yO 37 func109 fun g0 hn hio => ?_
 refine aI hn 1 [0] ?_
 refine ab ?_
 obtain ⟨v1,hv1,h⟩:=zn h
 refine yx hn 1 ?_
 refine ys 0 ⟨lk call134 (fW _ _ _ hv1)⟩ ?_
 refine ym 6 ?_
 refine aT [3] ?_
 refine ab (ab ?_)
 obtain ⟨v2,hv2,h⟩:=zn h
 refine yx hn 1 ?_
 refine ys 0 ⟨lk call71 (dh _ _ hv2)⟩ ?_
 refine aT [13] ?_
 refine aH (ab ?_)
 refine aD h (fun (s4:Bool)=>[(13,vs v2),(14,vb s4)]) ?_ ?_
 ·rintro s4 h
  refine ag ?_
  refine al _ rfl (fun hb9 => ?_) (fun hb9 => ?_)
  ·have h:=ap hb9 h
   refine aI hn 1 [2] ?_
   refine am (aG (ai ?_))
   obtain rfl:=zi h
   exact ao hio rfl (.tmp _ _ .nil) rfl rfl
  ·have h:=aq hb9 h
   refine aI hn 2 [13,17] ?_
   refine al _ rfl (fun hb10 => ?_) (fun hb10 => ?_)
   ·have h:=ap hb10 h
    refine aI hn 1 [2] ?_
    refine am (aG (ai ?_))
    obtain rfl:=zi h
    exact ao hio rfl (.tmp _ _ .nil) rfl rfl
   ·have h:=aq hb10 h
    refine aI hn 2 [13,19] ?_
    refine al _ rfl (fun hb11 => ?_) (fun hb11 => ?_)
    ·have h:=ap hb11 h
     refine aI hn 1 [2] ?_
     refine am (aG (ai ?_))
     obtain rfl:=zi h
     exact ao hio rfl (.tmp _ _ .nil) rfl rfl
    ·have h:=aq hb11 h
     refine aI hn 2 [13,21] ?_
     refine al _ rfl (fun hb12 => ?_) (fun hb12 => ?_)
     ·have h:=ap hb12 h
      refine aI hn 1 [2] ?_
      refine am (aG (ai ?_))
      obtain rfl:=zi h
      exact ao hio rfl (.tmp _ _ .nil) rfl rfl
     ·have h:=aq hb12 h
      refine aI hn 2 [13,23] ?_
      refine al _ rfl (fun hb13 => ?_) (fun hb13 => ?_)
      ·have h:=ap hb13 h
       refine aI hn 1 [2] ?_
       refine am (aG (ai ?_))
       obtain rfl:=zi h
       exact ao hio rfl (.tmp _ _ .nil) rfl rfl
      ·have h:=aq hb13 h
       refine aI hn 2 [13,25] ?_
       refine al _ rfl (fun hb14 => ?_) (fun hb14 => ?_)
       ·have h:=ap hb14 h
        refine aI hn 1 [2] ?_
        refine am (aG (ai ?_))
        obtain rfl:=zi h
        exact ao hio rfl (.tmp _ _ .nil) rfl rfl
       ·have h:=aq hb14 h
        refine aI hn 2 [13,27] ?_
        refine al _ rfl (fun hb15 => ?_) (fun hb15 => ?_)
        ·have h:=ap hb15 h
         refine aI hn 1 [2] ?_
         refine am (aG (ai ?_))
         obtain rfl:=zi h
         exact ao hio rfl (.tmp _ _ .nil) rfl rfl
        ·have h:=aq hb15 h
         refine aI hn 2 [13,29] ?_
         refine al _ rfl (fun hb16 => ?_) (fun hb16 => ?_)
         ·have h:=ap hb16 h
          refine aI hn 1 [2] ?_
          refine am (aG (ai ?_))
          obtain rfl:=zi h
          exact ao hio rfl (.tmp _ _ .nil) rfl rfl
         ·have h:=aq hb16 h
          refine aI hn 2 [13,31] ?_
          refine al _ rfl (fun hb17 => ?_) (fun hb17 => ?_)
          ·have h:=ap hb17 h
           refine aI hn 1 [2] ?_
           refine am (aG (ai ?_))
           obtain rfl:=zi h
           exact ao hio rfl (.tmp _ _ .nil) rfl rfl
          ·have h:=aq hb17 h
           refine aI hn 2 [13,33] ?_
           refine al _ rfl (fun hb18 => ?_) (fun hb18 => ?_)
           ·have h:=ap hb18 h
            refine aI hn 1 [2] ?_
            refine am (aG (ai ?_))
            obtain rfl:=zi h
            exact ao hio rfl (.tmp _ _ .nil) rfl rfl
           ·have h:=aq hb18 h
            refine aI hn 2 [35] ?_
            refine al _ rfl (fun hb19 => ?_) (fun hb19 => ?_)
            ·have h:=ap hb19 h
             refine aI hn 1 [2] ?_
             refine am (aG (ai ?_))
             obtain rfl:=zi h
             exact ao hio rfl (.tmp _ _ .nil) rfl rfl
            ·have h:=aq hb19 h
             refine ar (aJ (ag ?_))
             refine aI hn 1 [2] ?_
             refine am ?_
             obtain rfl:=zi h
             exact ao hio rfl (.tmp _ _ .nil) rfl rfl
 ·intro u5 h hl6 hr7
  refine aI hn 2 [13,14] ?_
  refine al _ rfl (fun hb8 => ?_) (fun hb8 => ?_)
  ·have h:=ap hb8 h
   refine ar ?_
   exact hl6 _ (zi h).symm
  ·have h:=aq hb8 h
   refine yx hn 1 ?_
   refine yw [14] 1 ?_
   refine ye [13,14] ?_
   exact hl6 _ (zi h).symm
theorem ed (a:Fa) (b:Fa) (r:Bool) (h:Sh.dA a b=some r):bL Tryz.prog 136 [.v (.string a),.v (.string b)] (.v (.bool r)):=by
 unfold Sh.dA at h
 refine yO 10 func136 fun g0 hn hio => ?_
 refine aI hn 1 [0,1] ?_
 refine ab ?_
 obtain ⟨v1,hv1,h⟩:=zn h
 obtain ⟨v2,hv2,h⟩:=zn h
 refine yx hn 1 ?_
 refine ys 1 ⟨lk call71 (dh _ _ hv1)⟩ ?_
 refine ys 2 ⟨lk call71 (dh _ _ hv2)⟩ ?_
 refine aT [4] ?_
 refine am ?_
 obtain rfl:=zi h
 exact ao hio rfl (.tmp _ _ .nil) rfl rfl
theorem kf (s:Fa) (prefix_:Fa) (r:(Fa×Bool)) (h:Sh.iu s prefix_=some r):bL Tryz.prog 135 [.v (.string s),.v (.string prefix_)] (.tup [.v (.string r.1),.v (.bool r.2)]):=by
 unfold Sh.iu at h
 refine yO 24 func135 fun g0 hn hio => ?_
 refine aI hn 2 [0,1] ?_
 refine ab (ab ?_)
 refine aD h (fun (s3:Bool)=>[(0,vs s),(1,vs prefix_),(19,vb s3)]) ?_ ?_
 ·rintro s3 h
  refine ag ?_
  refine al _ rfl (fun hb7 => ?_) (fun hb7 => ?_)
  ·have h:=ap hb7 h
   refine aI hn 2 [4,5] ?_
   refine am (ai ?_)
   obtain rfl:=zi h
   exact ao hio rfl (.tmp _ _ (.tmp _ _ .nil)) rfl rfl
  ·have h:=aq hb7 h
   refine ar ?_
   refine ag (ab ?_)
   obtain ⟨v8,hv8,h⟩:=zn h
   refine yx hn 3 ?_
   refine yS (vs v8) 2 ⟨cr _ _ _ (prefix_.size:Int) (s.size:Int) _ underlying9 rfl ⟨_,rfl⟩ rfl hv8⟩ ?_
   refine aT [4,5] ?_
   refine am ?_
   obtain rfl:=zi h
   exact ao hio rfl (.tmp _ _ (.tmp _ _ .nil)) rfl rfl
 ·intro u4 h hl5 hr6
  refine ak h (fun hg1_5 h => ?_) (fun hg1_5 h => ?_)
  ·refine yx hn 6 ?_
   refine yd hg1_5 8 ?_
   refine ye [0,1,19] ?_
   exact hl5 _ (zi h).symm
  ·obtain ⟨v1,hv1,h⟩:=zn h
   obtain ⟨v2,hv2,h⟩:=zn h
   refine yx hn 6 ?_
   refine yd hg1_5 3 ?_
   refine yS (vs v1) 1 ⟨cr _ _ _ 0 (prefix_.size:Int) _ underlying9 rfl rfl ⟨_,rfl⟩ hv1⟩ ?_
   refine ys 2 ⟨lk call136 (ed _ _ _ hv2)⟩ ?_
   refine ye [0,1,19] ?_
   exact hl5 _ (zi h).symm
theorem jQ (mx:Int×Nat×Value) (line:Fa) (r:Bool) (h:Sh.eL line=some r):fk Tryz.prog (GL mx) 110 [.v (.string line)] (.v (.bool r)):=by
 unfold Sh.eL at h
 refine yG 40 func110 fun g0 hn hio => ?_
 refine aI hn 1 [0,40] ?_
 refine ab ?_
 obtain ⟨v1,hv1,h⟩:=zn h
 refine yx hn 1 ?_
 refine ys 0 ⟨lk call135 (kf _ _ _ hv1)⟩ ?_
 refine ym 4 ?_
 refine aT [40,3,4] ?_
 refine ab (ab ?_)
 refine aD h (fun (s3:Bool)=>[(40,.glob (GL mx)),(3,vs v1.1),(20,vb s3)]) ?_ ?_
 ·rintro s3 h
  refine ag ?_
  refine al _ rfl (fun hb7 => ?_) (fun hb7 => ?_)
  ·have h:=ap hb7 h
   refine aI hn 1 [40,2] ?_
   refine am ?_
   refine ah [1] (by kernel_rfl) (es':=[(_,_)]) rfl ?_
   refine ai ?_
   obtain rfl:=zi h
   exact ao hio rfl (.tmp _ _ .nil) rfl rfl
  ·have h:=aq hb7 h
   refine ar ?_
   refine ag (ab ?_)
   refine aI hn 3 [40,3,22,23] ?_
   refine aX h (fun (s26:Int)=>[(40,.glob (GL mx)),(3,vs v1.1),(22,vi (v1.1.size:Int)),(23,vi s26)]) (fun (():Unit)=>[(40,.glob (GL mx))]) ?_ ?_
   ·rintro ⟨⟩ h
    refine ag ?_
    refine aI hn 1 [40,2] ?_
    refine am ?_
    refine ah [1] (by kernel_rfl) (es':=[(_,_)]) rfl ?_
    obtain rfl:=zi h
    exact ao hio rfl (.tmp _ _ .nil) rfl rfl
   ·rintro u33 hl34 hr35 s26 rr38 h ho36
    refine aI hn 1 [40,3,22,23,24] ?_
    refine ab ?_
    refine al _ rfl (fun hb39 => ?_) (fun hb39 => ?_)
    ·have h:=ap hb39 h
     refine ar ?_
     refine ag (ab ?_)
     refine aH ?_
     refine aI hn 2 [40,3,22,23,5] ?_
     refine ab ?_
     refine aD h (fun (s40:Bool)=>[(40,.glob (GL mx)),(3,vs v1.1),(22,vi (v1.1.size:Int)),(23,vi s26),(38,vb s40)]) ?_ ?_
     ·rintro s40 h
      refine ag ?_
      refine al _ rfl (fun hb44 => ?_) (fun hb44 => ?_)
      ·have h:=ap hb44 h
       refine aI hn 1 [40,2] ?_
       refine am ?_
       refine ah [1] (by kernel_rfl) (es':=[(_,_)]) rfl ?_
       refine aG (ai (ai (aG (ai ?_))))
       have h:=hr35 _ (ho36 _ (zi h).symm).symm
       obtain rfl:=zi h
       exact ao hio rfl (.tmp _ _ .nil) rfl rfl
      ·have h:=aq hb44 h
       refine ar (aJ (ag ?_))
       obtain ⟨v18,hv18,h⟩:=zn h
       refine yx hn 0 ?_
       refine ys 0 ⟨lb hv18⟩ ?_
       refine yw [23] 1 ?_
       refine ye [40,3,22,23] ?_
       exact bi _ (zi h).symm rfl
     ·intro u41 h hl42 hr43
      obtain ⟨v9,hv9,h⟩:=zn h
      refine ak h (fun hg7_4 h => ?_) (fun hg7_4 h => ?_)
      ·obtain ⟨v10,hv10,h⟩:=zn h
       obtain ⟨v11,hv11,h⟩:=zn h
       obtain ⟨v12,hv12,h⟩:=zn h
       refine yx hn 2 ?_
       refine ys 2 ⟨lh hv9⟩ ?_
       refine yd hg7_4 3 ?_
       refine ys 0 ⟨lb hv10⟩ ?_
       refine yS (vs v11) 0 ⟨cr _ _ _ s26 v10 _ underlying9 rfl ⟨_,rfl⟩ ⟨_,rfl⟩ hv11⟩ ?_
       refine ys 2 ⟨lg call55 (bG _ _ _ hv12) 40⟩ ?_
       refine ye [40,3,22,23,38] ?_
       exact hl42 _ (zi h).symm
      ·refine yx hn 2 ?_
       refine ys 2 ⟨lh hv9⟩ ?_
       refine yd hg7_4 8 ?_
       refine ye [40,3,22,23,38] ?_
       exact hl42 _ (zi h).symm
    ·have h:=aq hb39 h
     refine bh (aB (aB (bf ?_)))
     refine ah [0] (by kernel_rfl) (es':=[(_,_)]) rfl ?_
     exact hl34 _ (ho36 _ (zi h).symm).symm
 ·intro u4 h hl5 hr6
  refine ak h (fun hg2_2 h => ?_) (fun hg2_2 h => ?_)
  ·refine yx hn 3 ?_
   refine yd hg2_2 7 ?_
   refine ye [40,3,20] ?_
   exact hl5 _ (zi h).symm
  ·refine ak h (fun hg2_6 h => ?_) (fun hg2_6 h => ?_)
   ·refine yx hn 3 ?_
    refine yd hg2_2 4 ?_
    refine yd hg2_6 3 ?_
    refine ye [40,3,20] ?_
    exact hl5 _ (zi h).symm
   ·obtain ⟨v2,hv2,h⟩:=zn h
    refine yx hn 3 ?_
    refine yd hg2_2 4 ?_
    refine yd hg2_6 1 ?_
    refine ys 1 ⟨lk call136 (ed _ _ _ hv2)⟩ ?_
    refine ye [40,3,20] ?_
    exact hl5 _ (zi h).symm
theorem po (kind:Int) (r:Fa) (h:Sh.jI kind=some r):bL Tryz.prog 157 [.v (.int .i64 kind)] (.v (.string r)):=by
 unfold Sh.jI at h
 refine yO 5 func157 fun g0 hn hio => ?_
 refine aI hn 1 [0] ?_
 refine ab ?_
 refine aI hn 2 [4] ?_
 refine al _ rfl (fun hb1 => ?_) (fun hb1 => ?_)
 ·have h:=ap hb1 h
  refine aI hn 1 [2] ?_
  refine am (ai ?_)
  obtain rfl:=zi h
  exact ao hio rfl (.tmp _ _ .nil) rfl rfl
 ·have h:=aq hb1 h
  refine ar (ag ?_)
  refine aI hn 1 [2] ?_
  refine am ?_
  obtain rfl:=zi h
  exact ao hio rfl (.tmp _ _ .nil) rfl rfl
theorem fG (s:Fa) (prefix_:Fa) (r:Bool) (h:Sh.cq s prefix_=some r):bL Tryz.prog 175 [.v (.string s),.v (.string prefix_)] (.v (.bool r)):=by
 unfold Sh.cq at h
 refine yO 18 func175 fun g0 hn hio => ?_
 refine aI hn 1 [0,1] ?_
 refine ab ?_
 refine aD h (fun (s2:Bool)=>[(4,vb s2)]) ?_ ?_
 ·rintro s2 h
  refine ag (am ?_)
  obtain rfl:=zi h
  exact ao hio rfl (.tmp _ _ .nil) rfl rfl
 ·intro u3 h hl4 hr5
  refine ak h (fun hg1_5 h => ?_) (fun hg1_5 h => ?_)
  ·obtain ⟨v1,hv1,h⟩:=zn h
   refine yx hn 6 ?_
   refine yd hg1_5 3 ?_
   refine yS (vs v1) 4 ⟨cr _ _ _ 0 (prefix_.size:Int) _ underlying9 rfl rfl ⟨_,rfl⟩ hv1⟩ ?_
   refine ye [4] ?_
   exact hl4 _ (zi h).symm
  ·refine yx hn 6 ?_
   refine yd hg1_5 8 ?_
   refine ye [4] ?_
   exact hl4 _ (zi h).symm
theorem fD (s:Fa) (prefix_:Fa) (r:(Fa×Bool)) (h:Sh.cx s prefix_=some r):bL Tryz.prog 205 [.v (.string s),.v (.string prefix_)] (.tup [.v (.string r.1),.v (.bool r.2)]):=by
 unfold Sh.cx at h
 refine yO 15 func205 fun g0 hn hio => ?_
 refine aI hn 2 [0,1] ?_
 refine ab (ab ?_)
 obtain ⟨v1,hv1,h⟩:=zn h
 refine yx hn 2 ?_
 refine ys 1 ⟨lk call175 (fG _ _ _ hv1)⟩ ?_
 refine aT [0,1,9] ?_
 refine al _ rfl (fun hb2 => ?_) (fun hb2 => ?_)
 ·have h:=ap hb2 h
  refine aI hn 3 [4,5] ?_
  refine am (ai ?_)
  obtain rfl:=zi h
  exact ao hio rfl (.tmp _ _ (.tmp _ _ .nil)) rfl rfl
 ·have h:=aq hb2 h
  refine ar ?_
  refine ag (ab ?_)
  obtain ⟨v3,hv3,h⟩:=zn h
  refine yx hn 3 ?_
  refine yS (vs v3) 2 ⟨cr _ _ _ (prefix_.size:Int) (s.size:Int) _ underlying9 rfl ⟨_,rfl⟩ rfl hv3⟩ ?_
  refine aT [4,5] ?_
  refine am ?_
  obtain rfl:=zi h
  exact ao hio rfl (.tmp _ _ (.tmp _ _ .nil)) rfl rfl
theorem gN (s:Fa) (prefix_:Fa) (r:(Fa×Bool)) (h:Sh.dZ s prefix_=some r):bL Tryz.prog 184 [.v (.string s),.v (.string prefix_)] (.tup [.v (.string r.1),.v (.bool r.2)]):=by
 unfold Sh.dZ at h
 refine yO 11 func184 fun g0 hn hio => ?_
 refine aI hn 2 [0,1] ?_
 refine ab ?_
 obtain ⟨v1,hv1,h⟩:=zn h
 refine yx hn 2 ?_
 refine ys 4 ⟨lk call205 (fD _ _ _ hv1)⟩ ?_
 refine aT [4,5] ?_
 refine am ?_
 obtain rfl:=zi h
 exact ao hio rfl (.tmp _ _ (.tmp _ _ .nil)) rfl rfl
theorem fE (s:Fa) (suffix:Fa) (r:Bool) (h:Sh.cu s suffix=some r):bL Tryz.prog 220 [.v (.string s),.v (.string suffix)] (.v (.bool r)):=by
 unfold Sh.cu at h
 refine yO 21 func220 fun g0 hn hio => ?_
 refine aI hn 1 [0,1] ?_
 refine ab ?_
 refine aD h (fun (s3:Bool)=>[(4,vb s3)]) ?_ ?_
 ·rintro s3 h
  refine ag (am ?_)
  obtain rfl:=zi h
  exact ao hio rfl (.tmp _ _ .nil) rfl rfl
 ·intro u4 h hl5 hr6
  refine ak h (fun hg1_5 h => ?_) (fun hg1_5 h => ?_)
  ·obtain ⟨v1,hv1,h⟩:=zn h
   obtain ⟨v2,hv2,h⟩:=zn h
   refine yx hn 6 ?_
   refine yd hg1_5 5 ?_
   refine ys 0 ⟨lb hv1⟩ ?_
   refine yS (vs v2) 4 ⟨cr _ _ _ v1 (s.size:Int) _ underlying9 rfl ⟨_,rfl⟩ rfl hv2⟩ ?_
   refine ye [4] ?_
   exact hl5 _ (zi h).symm
  ·refine yx hn 6 ?_
   refine yd hg1_5 11 ?_
   refine ye [4] ?_
   exact hl5 _ (zi h).symm
theorem fH (s:Fa) (suffix:Fa) (r:(Fa×Bool)) (h:Sh.cw s suffix=some r):bL Tryz.prog 206 [.v (.string s),.v (.string suffix)] (.tup [.v (.string r.1),.v (.bool r.2)]):=by
 unfold Sh.cw at h
 refine yO 18 func206 fun g0 hn hio => ?_
 refine aI hn 2 [0,1] ?_
 refine ab (ab ?_)
 obtain ⟨v1,hv1,h⟩:=zn h
 refine yx hn 2 ?_
 refine ys 1 ⟨lk call220 (fE _ _ _ hv1)⟩ ?_
 refine aT [0,1,9] ?_
 refine al _ rfl (fun hb2 => ?_) (fun hb2 => ?_)
 ·have h:=ap hb2 h
  refine aI hn 3 [4,5] ?_
  refine am (ai ?_)
  obtain rfl:=zi h
  exact ao hio rfl (.tmp _ _ (.tmp _ _ .nil)) rfl rfl
 ·have h:=aq hb2 h
  refine ar ?_
  refine ag (ab ?_)
  obtain ⟨v3,hv3,h⟩:=zn h
  obtain ⟨v4,hv4,h⟩:=zn h
  refine yx hn 5 ?_
  refine ys 0 ⟨lb hv3⟩ ?_
  refine yS (vs v4) 2 ⟨cr _ _ _ 0 v3 _ underlying9 rfl rfl ⟨_,rfl⟩ hv4⟩ ?_
  refine aT [4,5] ?_
  refine am ?_
  obtain rfl:=zi h
  exact ao hio rfl (.tmp _ _ (.tmp _ _ .nil)) rfl rfl
end Go.Proofs.YtjnnkhmhjcjhdaaGreatDoor
