import Derived.Test.YtjnnkhmhjcjhdaaGreatDoorOkc5
set_option linter.unusedVariables false
set_option linter.unusedSimpArgs false
set_option maxHeartbeats 1000000
namespace Go.Proofs.YtjnnkhmhjcjhdaaGreatDoor
open Go.Abs Go.Abs.Sh Tryz
open List (map flatten)
open Value (int)
theorem qa (rest:(List Int)) (n:Int) (r:(List Int)) (h:Sh.ga rest n=some r):bQ Tryz.prog 204 [.fl .shr 1 (map (int .u8) rest),.v (.int .i64 n)] (.fl (.own 5) 1 (map (int .u8) r)):=by
 unfold Sh.ga at h
 refine yO 42 func204 fun g0 hn hio => ?_
 refine aL hn 1 [0,1] ?_
 refine aL hn 1 [0,1,5] ?_
 refine ab ?_
 refine aC h (fun (s4:Int)=>[(0,fb rest),(1,vi n),(5,vi s4)]) ?_ ?_
 ·rintro s4 h
  refine ae (ab ?_)
  obtain ⟨v9,hv9,h⟩:=zn h
  refine yx hn 1 ?_
  refine yS (.fl (.own 5) 1 (map (int .u8) v9)) 0 ⟨Gk (f:=int .u8) _ _ _ _ fQ (by decide) qD rfl rfl rfl hv9⟩ ?_
  refine ya 0 ?_
  refine ba [0,1,5,6] ?_
  refine ab ?_
  obtain ⟨v10,hv10,h⟩:=zn h
  refine yx hn 2 ?_
  refine yk [6] [16,17] ?_
  refine mo (6,.fl (.own 5) 1 (map (int .u8) v10)) (18,vi (sF v9 rest)) 0 ⟨(Option.some.inj hv10) ▸ FY _ _ _ _ _ _ _ underlying28 jx rfl rfl (by decide)⟩ ?_
  refine ba [0,1,5,6] ?_
  refine ab ?_
  obtain ⟨v11,hv11,h⟩:=zn h
  obtain ⟨v12,hv12,h⟩:=zn h
  refine yx hn 3 ?_
  refine ys 0 ⟨li hv11⟩ ?_
  refine yk [6] [22] ?_
  refine yt (6,.fl (.own 5) 1 (map (int .u8) v12)) 0 ⟨iQ _ _ _ _ _ _ _ _ jx rfl rfl rfl (by decide) (oo (bz hv11).2) ((map_set (f:=int .u8) _ (bz hv11).2).trans (congrArg (map _) (Option.some.inj hv12)))⟩ ?_
  refine ba [1,5,6] ?_
  refine ab ?_
  obtain ⟨v13,hv13,h⟩:=zn h
  obtain ⟨v14,hv14,h⟩:=zn h
  refine yx hn 1 ?_
  refine ys 0 ⟨lv hv13⟩ ?_
  refine ys 1 ⟨lB (jK hv14)⟩ ?_
  refine ba [5,6,7] ?_
  refine ab ?_
  refine aL hn 1 [5,6,7,26] ?_
  refine aZ h (fun ((s27,s28):(List Int)×Int)=>[(5,vi s4),(6,.fl (.own 5) 1 (map (int .u8) s27)),(7,.v (.int .u64 v14)),(26,vi s28)]) (fun (s30:(List Int))=>[(6,.fl (.own 5) 1 (map (int .u8) s30))]) ?_ ?_
  ·rintro s30 h
   refine ae ?_
   refine fu hn 0 ?_
   refine ym 0 ?_
   refine ya 0 ?_
   refine ba [4] ?_
   refine ao ?_
   obtain rfl:=zi h
   exact ay hio rfl (.tmp _ _ .nil) rfl rfl
  ·rintro u31 hl32 hr33 ⟨s27,s28⟩ rr36 h ho34
   refine aL hn 1 [5,6,7,26,27] ?_
   refine ab ?_
   refine al _ rfl (fun hb37 => ?_) (fun hb37 => ?_)
   ·have h:=ar hb37 h
    refine au ?_
    refine ae (ab ?_)
    refine aJ ?_
    refine aL hn 2 [5,6,7,26,8] ?_
    obtain ⟨v16,hv16,h⟩:=zn h
    obtain ⟨v17,hv17,h⟩:=zn h
    obtain ⟨v18,hv18,h⟩:=zn h
    obtain ⟨v19,hv19,h⟩:=zn h
    obtain ⟨v20,hv20,h⟩:=zn h
    obtain ⟨v21,hv21,h⟩:=zn h
    obtain ⟨v22,hv22,h⟩:=zn h
    refine yx hn 2 ?_
    refine ys 1 ⟨lb hv16⟩ ?_
    refine ys 2 ⟨lb hv17⟩ ?_
    refine ys 0 ⟨lb hv18⟩ ?_
    refine ys 0 ⟨lB (gF hv19)⟩ ?_
    refine ys 0 ⟨lv hv20⟩ ?_
    refine ys 0 ⟨li hv21⟩ ?_
    refine yk [6] [39,38] ?_
    refine yt (6,.fl (.own 5) 1 (map (int .u8) v22)) 0 ⟨iQ _ _ _ _ _ _ _ _ jx rfl rfl rfl (by decide) (oo (bz hv21).2) ((map_set (f:=int .u8) _ (bz hv21).2).trans (congrArg (map _) (Option.some.inj hv22)))⟩ ?_
    refine ye [5,6,7,26] ?_
    refine aP (ae ?_)
    obtain ⟨v23,hv23,h⟩:=zn h
    refine yx hn 0 ?_
    refine ys 0 ⟨lb hv23⟩ ?_
    refine yw [26] 1 ?_
    refine ye [5,6,7,26] ?_
    exact bn _ (zi h).symm rfl
   ·have h:=aq hb37 h
    refine bl (az (az (bm ?_)))
    refine ag [1] (by kernel_rfl) (es':=[(_,_)]) rfl ?_
    exact hl32 _ (ho34 _ (zi h).symm).symm
 ·intro u5 h hl6 hr7
  refine ab ?_
  obtain ⟨v1,hv1,h⟩:=zn h
  obtain ⟨v2,hv2,h⟩:=zn h
  refine yx hn 2 ?_
  refine ys 0 ⟨lb hv1⟩ ?_
  refine ys 1 ⟨lb hv2⟩ ?_
  refine ba [0,1,5,13] ?_
  refine al _ rfl (fun hb8 => ?_) (fun hb8 => ?_)
  ·have h:=ar hb8 h
   refine yx hn 0 ?_
   refine yw [5] 1 ?_
   refine ye [0,1,5] ?_
   exact hl6 _ (zi h).symm
  ·have h:=aq hb8 h
   refine au ?_
   refine ag [0,1,2] (by kernel_rfl) (es':=[(_,_),(_,_),(_,_)]) rfl ?_
   exact hl6 _ (zi h).symm
theorem kJ (mx:Int×Nat×Value) (b:(List Int)) (r:(List Int)) (h:Sh.gH b=some r):gW Tryz.prog (GL mx) 183 [.fl .shr 1 (map (int .u8) b)] (.v (.agg (map (int .u8) r).toArray)):=by
 unfold Sh.gH at h
 refine yG 62 func183 fun g0 hn hio => ?_
 refine fu hn 0 ?_
 refine yS (.arr 91 (map (int .u8) ((List.replicate 16 (0:Int))))) 0 ⟨oA (bE _ qT)⟩ ?_
 refine ba [0,62,2] ?_
 refine ab ?_
 obtain ⟨v1,hv1,h⟩:=zn h
 obtain ⟨v2,hv2,h⟩:=zn h
 refine yx hn 0 ?_
 refine yS (.v (.agg (map (int .u32) ([1732584193,4023233417,2562383102,271733878]:List Int)).toArray)) 0 ⟨pD _ _ (.agg #[.int .u32 0,.int .u32 0,.int .u32 0,.int .u32 0]) (map (int .u32) ([1732584193,4023233417,2562383102,271733878]:List Int)) [(0,.int .u32 1732584193),(1,.int .u32 4023233417),(2,.int .u32 2562383102),(3,.int .u32 271733878)] underlying225 eH EI (fun _ V w o a hv hes=>by simp only [List.map_toArray,List.map_cons,List.map_nil]; try rfl) (cd (by simp [Instr.fill,Value.cells]; rfl) (by simp))⟩ ?_
 refine yS (.arr 225 (map (int .u32) ((List.replicate 4 (0:Int))))) 0 ⟨oA (bE _ Ei)⟩ ?_
 refine yk [3] [10] ?_
 refine yt (3,.arr 225 (map (int .u32) ([1732584193,4023233417,2562383102,271733878]:List Int))) 0 ⟨bH _ _ _ _ (rL.trans (congrArg some (bh hv2))) rfl rfl (cX (fun _=>rfl) _) ((bh (f:=int .u32) hv1).symm.trans (bh (f:=int .u32) hv2))⟩ ?_
 refine ba [0,62,2,3] ?_
 refine ab ?_
 obtain ⟨v3,hv3,h⟩:=zn h
 obtain ⟨v4,hv4,h⟩:=zn h
 refine yx hn 2 ?_
 refine ys 0 ⟨lB (mY hv3)⟩ ?_
 refine ys 1 ⟨lb hv4⟩ ?_
 refine ba [0,62,2,3,4] ?_
 refine ab ?_
 refine aL hn 1 [0,62,2,3,4,5] ?_
 refine aZ h (fun ((s16,s17):(List Int)×Int)=>[(0,fb b),(62,.glob (GL mx)),(2,.arr 91 (map (int .u8) ((List.replicate 16 (0:Int))))),(3,.arr 225 (map (int .u32) s16)),(4,vi v4),(5,vi s17)]) (fun (s19:(List Int))=>[(0,fb b),(62,.glob (GL mx)),(2,.arr 91 (map (int .u8) ((List.replicate 16 (0:Int))))),(3,.arr 225 (map (int .u32) s19)),(4,vi v4)]) ?_ ?_
 ·rintro s19 h
  refine ae (ab ?_)
  obtain ⟨v27,hv27,h⟩:=zn h
  obtain ⟨v28,hv28,h⟩:=zn h
  refine yx hn 2 ?_
  refine yS (fb v27) 2 ⟨nq _ _ _ v4 (b.length:Int) _ underlying28 jx rfl rfl ⟨_,rfl⟩ rfl hv27⟩ ?_
  refine ys 0 ⟨lk call204 (qa _ _ _ hv28)⟩ ?_
  refine ya 0 ?_
  refine ba [62,2,3,6] ?_
  refine ab ?_
  refine aL hn 1 [62,2,3,6,7] ?_
  refine uL 3 hio (es':=[(62,.glob (GL mx)),(2,.arr 91 (map (int .u8) ((List.replicate 16 (0:Int))))),(3,.arr 225 (map (int .u32) s19)),(6,.fl .ro 1 (map (int .u8) v28)),(7,.v (.int .i64 0))]) rfl ?_
  refine aZ h (fun ((s41,s42,s43):(List Int)×(List Int)×Int)=>[(62,.glob (GL mx)),(2,.arr 91 (map (int .u8) ((List.replicate 16 (0:Int))))),(3,.arr 225 (map (int .u32) s41)),(6,.fl .ro 1 (map (int .u8) s42)),(7,vi s43)]) (fun (s45:(List Int))=>[(62,.glob (GL mx)),(2,.arr 91 (map (int .u8) ((List.replicate 16 (0:Int))))),(3,.arr 225 (map (int .u32) s45))]) ?_ ?_
  ·rintro s45 h
   refine ae ?_
   refine fu hn 0 ?_
   refine yS (.arr 91 (map (int .u8) ((List.replicate 16 (0:Int))))) 0 ⟨oA (bE _ qT)⟩ ?_
   refine ba [62,2,3,8] ?_
   refine ab ?_
   refine aL hn 1 [62,2,3,8,46] ?_
   refine aZ h (fun ((s67,s68):(List Int)×Int)=>[(62,.glob (GL mx)),(2,.arr 91 (map (int .u8) ((List.replicate 16 (0:Int))))),(3,.arr 225 (map (int .u32) s45)),(8,.arr 91 (map (int .u8) s67)),(46,vi s68)]) (fun (s70:(List Int))=>[(62,.glob (GL mx)),(2,.arr 91 (map (int .u8) ((List.replicate 16 (0:Int))))),(8,.arr 91 (map (int .u8) s70))]) ?_ ?_
   ·rintro s70 h
    refine ae (ab ?_)
    obtain ⟨v78,hv78,h⟩:=zn h
    obtain ⟨v79,hv79,h⟩:=zn h
    obtain ⟨v80,hv80,h⟩:=zn h
    refine yx hn 0 ?_
    refine yS (.v (.agg (map (int .u8) s70).toArray)) 0 ⟨fN _ _ _ _ underlying91 rfl (nH.trans (congrArg some (bh hv78))) rfl rfl⟩ ?_
    refine yk [2] [61] ?_
    refine yt (2,.arr 91 (map (int .u8) s70)) 0 ⟨bH _ _ _ _ (nH.trans (congrArg some (bh hv80))) rfl rfl (cX (fun _=>rfl) _) ((bh (f:=int .u8) hv79).symm.trans (bh (f:=int .u8) hv80))⟩ ?_
    refine ba [62,2] ?_
    refine ao ?_
    obtain ⟨v81,hv81,h⟩:=zn h
    refine ag [1] (by kernel_rfl) (es':=[(_,_)]) rfl ?_
    obtain rfl:=zi h
    exact ay hio rfl (.cellR _ _ _ _ underlying91 rfl (nH.trans (congrArg some (bh hv81))) .nil) rfl rfl
   ·rintro u71 hl72 hr73 ⟨s67,s68⟩ rr76 h ho74
    refine aL hn 1 [62,2,3,8,46,47] ?_
    refine ab ?_
    refine al _ rfl (fun hb77 => ?_) (fun hb77 => ?_)
    ·have h:=ar hb77 h
     refine au ?_
     refine ae (ab ?_)
     refine aJ ?_
     refine aL hn 2 [62,2,3,8,46,9] ?_
     obtain ⟨v54,hv54,h⟩:=zn h
     obtain ⟨v55,hv55,h⟩:=zn h
     obtain ⟨v56,hv56,h⟩:=zn h
     obtain ⟨v57,hv57,h⟩:=zn h
     obtain ⟨v58,hv58,h⟩:=zn h
     obtain ⟨v59,hv59,h⟩:=zn h
     obtain ⟨v60,hv60,h⟩:=zn h
     obtain ⟨v61,hv61,h⟩:=zn h
     obtain ⟨v62,hv62,h⟩:=zn h
     refine yx hn 2 ?_
     refine ys 0 ⟨lB (mY hv54)⟩ ?_
     refine yS (.ptr 3 v55) 0 ⟨cz _ _ _ _ 4 3 _ underlying225 eH rfl rfl (bz hv55).1 (bz hv55).2 (by decide)⟩ ?_
     refine yS (.v (.int .u32 v56)) 1 ⟨cx _ _ _ _ _ _ underlying106 rfl rfl rfl (cY hv56)⟩ ?_
     refine ys 0 ⟨lB (gC hv57)⟩ ?_
     refine ys 0 ⟨lb hv58⟩ ?_
     refine ys 0 ⟨lB (gF hv59)⟩ ?_
     refine ys 0 ⟨lv hv60⟩ ?_
     refine yS (.ptr 8 v61) 0 ⟨cz _ _ _ _ 16 8 _ underlying91 jx rfl rfl (bz hv61).1 (bz hv61).2 (by decide)⟩ ?_
     refine yk [8] [59,58] ?_
     refine yt (8,.arr 91 (map (int .u8) v62)) 0 ⟨jC _ _ _ _ _ _ jx rfl rfl rfl rfl (uT hv62) (uN (f:=int .u8) hv62)⟩ ?_
     refine ye [62,2,3,8,46] ?_
     refine aP (ae ?_)
     obtain ⟨v63,hv63,h⟩:=zn h
     refine yx hn 0 ?_
     refine ys 0 ⟨lb hv63⟩ ?_
     refine yw [46] 1 ?_
     refine ye [62,2,3,8,46] ?_
     exact bn _ (zi h).symm rfl
    ·have h:=aq hb77 h
     refine bl (az (az (bm ?_)))
     refine ag [0,1,3] (by kernel_rfl) (es':=[(_,_),(_,_),(_,_)]) rfl ?_
     exact hl72 _ (ho74 _ (zi h).symm).symm
  ·rintro u46 hl47 hr48 ⟨s41,s42,s43⟩ rr51 h ho49
   refine ab ?_
   refine aL hn 4 [62,2,3,6,7,36] ?_
   refine al _ rfl (fun hb52 => ?_) (fun hb52 => ?_)
   ·have h:=ar hb52 h
    refine au ?_
    refine ae (ab ?_)
    refine aJ ?_
    obtain ⟨v30,hv30,h⟩:=zn h
    obtain ⟨v31,hv31,h⟩:=zn h
    obtain ⟨v32,hv32,h⟩:=zn h
    obtain ⟨v33,hv33,h⟩:=zn h
    obtain ⟨v34,hv34,h⟩:=zn h
    obtain ⟨v35,hv35,h⟩:=zn h
    refine wb [] ?_
    refine wN [3] ?_
    refine wS (.v (.agg (map (int .u32) s41).toArray)) [[6],[7],[7]] ⟨fN _ _ _ _ underlying225 rfl (rL.trans (congrArg some (bh hv30))) rfl rfl⟩ ?_
    refine wN [42] ?_
    refine wo [] ⟨lb hv31⟩ ?_
    refine wN [40,41,43] ?_
    refine wS (.fl .ro 1 (map (int .u8) v32)) [] ⟨nq _ _ _ s43 v31 _ underlying28 jx rfl rfl ⟨_,rfl⟩ ⟨_,rfl⟩ hv32⟩ ?_
    refine wN [39,44,62] ?_
    refine wo [] ⟨lg call203 (iH _ _ _ _ hv33) 62⟩ ?_
    refine wK [3] [45] ?_
    refine wt [(3,.arr 225 (map (int .u32) v33))] [] ⟨bH _ _ _ _ (rL.trans (congrArg some (bh hv35))) rfl rfl (cX (fun _=>rfl) _) ((bh (f:=int .u32) hv34).symm.trans (bh (f:=int .u32) hv35))⟩ ?_
    refine we hn [62,2,3,6,7] ?_
    refine aP (ae ?_)
    obtain ⟨v36,hv36,h⟩:=zn h
    refine yx hn 1 ?_
    refine ys 0 ⟨lb hv36⟩ ?_
    refine yw [7] 1 ?_
    refine ye [62,2,3,6,7] ?_
    exact bn _ (zi h).symm rfl
   ·have h:=aq hb52 h
    refine bl (az (az (bm ?_)))
    refine ag [0,1,2] (by kernel_rfl) (es':=[(_,_),(_,_),(_,_)]) rfl ?_
    exact hl47 _ (ho49 _ (zi h).symm).symm
 ·rintro u20 hl21 hr22 ⟨s16,s17⟩ rr25 h ho23
  refine ab ?_
  refine aL hn 3 [0,62,2,3,4,5,17] ?_
  refine al _ rfl (fun hb26 => ?_) (fun hb26 => ?_)
  ·have h:=ar hb26 h
   refine au ?_
   refine ae (ab ?_)
   refine aJ ?_
   obtain ⟨v6,hv6,h⟩:=zn h
   obtain ⟨v7,hv7,h⟩:=zn h
   obtain ⟨v8,hv8,h⟩:=zn h
   obtain ⟨v9,hv9,h⟩:=zn h
   obtain ⟨v10,hv10,h⟩:=zn h
   obtain ⟨v11,hv11,h⟩:=zn h
   refine wb [] ?_
   refine wN [3] ?_
   refine wS (.v (.agg (map (int .u32) s16).toArray)) [[0],[5],[5]] ⟨fN _ _ _ _ underlying225 rfl (rL.trans (congrArg some (bh hv6))) rfl rfl⟩ ?_
   refine wN [23] ?_
   refine wo [] ⟨lb hv7⟩ ?_
   refine wN [21,22,24] ?_
   refine wS (fb v8) [] ⟨nq _ _ _ s17 v7 _ underlying28 jx rfl rfl ⟨_,rfl⟩ ⟨_,rfl⟩ hv8⟩ ?_
   refine wN [20,25,62] ?_
   refine wo [] ⟨lg call203 (iH _ _ _ _ hv9) 62⟩ ?_
   refine wK [3] [26] ?_
   refine wt [(3,.arr 225 (map (int .u32) v9))] [] ⟨bH _ _ _ _ (rL.trans (congrArg some (bh hv11))) rfl rfl (cX (fun _=>rfl) _) ((bh (f:=int .u32) hv10).symm.trans (bh (f:=int .u32) hv11))⟩ ?_
   refine we hn [0,62,2,3,4,5] ?_
   refine aP (ae ?_)
   obtain ⟨v12,hv12,h⟩:=zn h
   refine yx hn 1 ?_
   refine ys 0 ⟨lb hv12⟩ ?_
   refine yw [5] 1 ?_
   refine ye [0,62,2,3,4,5] ?_
   exact bn _ (zi h).symm rfl
  ·have h:=aq hb26 h
   refine bl (az (az (bm ?_)))
   refine ag [0,1,2,3,4] (by kernel_rfl) (es':=[(_,_),(_,_),(_,_),(_,_),(_,_)]) rfl ?_
   exact hl21 _ (ho23 _ (zi h).symm).symm
theorem rf (mx:Int×Nat×Value) (key:(List Int)) (text:(List Int)) (r:(List Int)) (h:Sh.ii key text=some r):gW Tryz.prog (GL mx) 154 [.fl .shr 1 (map (int .u8) key),.fl .shr 1 (map (int .u8) text)] (.v (.agg (map (int .u8) r).toArray)):=by
 unfold Sh.ii at h
 refine yG 51 func154 fun g0 hn hio => ?_
 refine fu hn 0 ?_
 refine yS (.arr 91 (map (int .u8) ((List.replicate 16 (0:Int))))) 0 ⟨oA (bE _ qT)⟩ ?_
 refine ba [0,1,51,4] ?_
 refine fu hn 0 ?_
 refine yS (.arr 205 (map (int .u8) ((List.replicate 64 (0:Int))))) 0 ⟨oA (bE _ Gb)⟩ ?_
 refine ba [0,1,51,4,5] ?_
 refine ab ?_
 refine aC h (fun (s8:(List Int))=>[(1,fb text),(51,.glob (GL mx)),(4,.arr 91 (map (int .u8) ((List.replicate 16 (0:Int))))),(5,.arr 205 (map (int .u8) s8))]) ?_ ?_
 ·rintro s8 h
  refine ae (ab ?_)
  obtain ⟨v13,hv13,h⟩:=zn h
  obtain ⟨v14,hv14,h⟩:=zn h
  refine yx hn 2 ?_
  refine ys 0 ⟨lb hv13⟩ ?_
  refine yS (.fl (.own 5) 1 (map (int .u8) ([]:List Int))) 0 ⟨Bo _ _ _ _ fQ (by decide) rfl rfl hv14⟩ ?_
  refine ya 0 ?_
  refine ba [1,51,4,5,7] ?_
  refine ab ?_
  obtain ⟨v15,hv15,h⟩:=zn h
  refine yx hn 0 ?_
  refine yS (.fl (.own 5) 1 (map (int .u8) ([]:List Int))) 0 ⟨Bo _ _ _ _ fQ (by decide) rfl rfl hv15⟩ ?_
  refine ya 0 ?_
  refine ba [1,51,4,5,7,8] ?_
  refine ab (ab ?_)
  obtain ⟨v16,hv16,h⟩:=zn h
  refine yx hn 0 ?_
  refine yS (.v (.agg (map (int .u8) s8).toArray)) 1 ⟨fN _ _ _ _ underlying205 rfl (Gz.trans (congrArg some (bh hv16))) rfl rfl⟩ ?_
  refine ba [1,51,4,7,8,28,29] ?_
  refine aZ h (fun ((s29,s30,s31):(List Int)×(List Int)×Int)=>[(1,fb text),(51,.glob (GL mx)),(4,.arr 91 (map (int .u8) ((List.replicate 16 (0:Int))))),(7,.fl (.own 5) 1 (map (int .u8) s29)),(8,.fl (.own 5) 1 (map (int .u8) s30)),(28,.v (.agg (map (int .u8) s8).toArray)),(29,vi s31)]) (fun ((s33,s34):(List Int)×(List Int))=>[(1,fb text),(51,.glob (GL mx)),(4,.arr 91 (map (int .u8) ((List.replicate 16 (0:Int))))),(7,.fl (.own 5) 1 (map (int .u8) s33)),(8,.fl (.own 5) 1 (map (int .u8) s34))]) ?_ ?_
  ·rintro ⟨s33,s34⟩ h
   refine ae (ab ?_)
   obtain ⟨v42,hv42,h⟩:=zn h
   obtain ⟨v43,hv43,h⟩:=zn h
   obtain ⟨v44,hv44,h⟩:=zn h
   obtain ⟨v45,hv45,h⟩:=zn h
   refine yx hn 0 ?_
   refine ym 1 ?_
   refine yp fQ hv42 0 ?_
   refine ys 0 ⟨lg call183 (kJ _ _ _ hv43) 51⟩ ?_
   refine yS (.arr 91 (map (int .u8) ((List.replicate 16 (0:Int))))) 0 ⟨oA (bE _ qT)⟩ ?_
   refine yk [11] [46] ?_
   refine yt (11,.arr 91 (map (int .u8) v43)) 0 ⟨bH _ _ _ _ (nH.trans (congrArg some (bh hv45))) rfl rfl (cX (fun _=>rfl) _) ((bh (f:=int .u8) hv44).symm.trans (bh (f:=int .u8) hv45))⟩ ?_
   refine ba [51,4,8,11] ?_
   refine ab ?_
   obtain ⟨v46,hv46,h⟩:=zn h
   obtain ⟨v47,hv47,h⟩:=zn h
   obtain ⟨v48,hv48,h⟩:=zn h
   obtain ⟨v49,hv49,h⟩:=zn h
   obtain ⟨v50,hv50,h⟩:=zn h
   refine yx hn 0 ?_
   refine ym 0 ?_
   refine yk [11] [] ?_
   refine mo (11,.any) (48,.fl .ro 1 (map (int .u8) v43)) 0 ⟨fM _ _ 11 16 _ underlying91 jx rfl (bh hv46).symm (cX (fun _=>rfl) _)⟩ ?_
   refine yp fQ hv47 0 ?_
   refine ys 0 ⟨lg call183 (kJ _ _ _ hv48) 51⟩ ?_
   refine yk [4] [50] ?_
   refine yt (4,.arr 91 (map (int .u8) v48)) 0 ⟨bH _ _ _ _ (nH.trans (congrArg some (bh hv50))) rfl rfl (cX (fun _=>rfl) _) ((bh (f:=int .u8) hv49).symm.trans (bh (f:=int .u8) hv50))⟩ ?_
   refine ba [51,4] ?_
   refine ao ?_
   obtain ⟨v51,hv51,h⟩:=zn h
   refine ag [1] (by kernel_rfl) (es':=[(_,_)]) rfl ?_
   obtain rfl:=zi h
   exact ay hio rfl (.cellR _ _ _ _ underlying91 rfl (nH.trans (congrArg some (bh hv51))) .nil) rfl rfl
  ·rintro u35 hl36 hr37 ⟨s29,s30,s31⟩ rr40 h ho38
   refine aL hn 1 [1,51,4,7,8,28,29,30] ?_
   refine ab ?_
   refine al _ rfl (fun hb41 => ?_) (fun hb41 => ?_)
   ·have h:=ar hb41 h
    refine au ?_
    refine ae (ab ?_)
    refine aJ (ab ?_)
    obtain ⟨v18,hv18,h⟩:=zn h
    obtain ⟨v19,hv19,h⟩:=zn h
    refine yx hn 0 ?_
    refine yS (.v (.int .u8 v19)) 1 ⟨lG _ _ _ _ 64 v18 underlying205 jx rfl (congrArg (fun j=>AV.v (int .i64 j)) (bz hv18).1) (bz hv18).2 (cY hv19) ⟨_,underlying5,rfl⟩⟩ ?_
    refine ba [1,51,4,7,8,28,29,10] ?_
    refine ab ?_
    obtain ⟨v20,hv20,h⟩:=zn h
    obtain ⟨v21,hv21,h⟩:=zn h
    refine yx hn 0 ?_
    refine ym 1 ?_
    refine ys 0 ⟨lb hv20⟩ ?_
    refine yS (.fl (.own 5) 1 (map (int .u8) [v20])) 0 ⟨aY _ _ 1 (.int .u8 0) (map (int .u8) [v20]) [(0,.int .u8 v20)] underlying28 jx qD (fun _ V w o a hv hes=>by have e0:=bU hv hes (x := .tmp 34) rfl; simp only [List.map_toArray,List.map_cons,List.map_nil,e0]; try rfl) (cd (by simp [Instr.fill,Value.cells]; rfl) (by simp [List.range,List.range.loop] <;> rfl)) (by simp [Value.oneCell']) rfl (by decide) (by decide) (by decide)⟩ ?_
    refine yp fQ hv21 0 ?_
    refine ya 0 ?_
    refine ba [1,51,4,8,28,29,10,7] ?_
    obtain ⟨v22,hv22,h⟩:=zn h
    obtain ⟨v23,hv23,h⟩:=zn h
    refine yx hn 0 ?_
    refine ym 1 ?_
    refine ys 0 ⟨lb hv22⟩ ?_
    refine yS (.fl (.own 5) 1 (map (int .u8) [v22])) 0 ⟨aY _ _ 1 (.int .u8 0) (map (int .u8) [v22]) [(0,.int .u8 v22)] underlying28 jx qD (fun _ V w o a hv hes=>by have e0:=bU hv hes (x := .tmp 39) rfl; simp only [List.map_toArray,List.map_cons,List.map_nil,e0]; try rfl) (cd (by simp [Instr.fill,Value.cells]; rfl) (by simp [List.range,List.range.loop] <;> rfl)) (by simp [Value.oneCell']) rfl (by decide) (by decide) (by decide)⟩ ?_
    refine yp fQ hv23 0 ?_
    refine ya 0 ?_
    refine ye [1,51,4,28,29,7,8] ?_
    refine aP (ae ?_)
    obtain ⟨v24,hv24,h⟩:=zn h
    refine yx hn 0 ?_
    refine ys 0 ⟨lb hv24⟩ ?_
    refine yw [29] 1 ?_
    refine ye [1,51,4,28,7,8,29] ?_
    refine ag [0,1,2,4,5,3,6] (by kernel_rfl) (es':=[(_,_),(_,_),(_,_),(_,_),(_,_),(_,_),(_,_)]) rfl ?_
    exact bn _ (zi h).symm rfl
   ·have h:=aq hb41 h
    refine bl (az (az (bm ?_)))
    refine ag [0,1,2,3,4] (by kernel_rfl) (es':=[(_,_),(_,_),(_,_),(_,_),(_,_)]) rfl ?_
    exact hl36 _ (ho38 _ (zi h).symm).symm
 ·intro u9 h hl10 hr11
  refine aL hn 3 [0,1,51,4,5,14] ?_
  refine al _ rfl (fun hb12 => ?_) (fun hb12 => ?_)
  ·have h:=ar hb12 h
   refine ab ?_
   obtain ⟨v2,hv2,h⟩:=zn h
   obtain ⟨v3,hv3,h⟩:=zn h
   obtain ⟨v4,hv4,h⟩:=zn h
   refine yx hn 1 ?_
   refine ys 0 ⟨lg call183 (kJ _ _ _ hv2) 51⟩ ?_
   refine yS (.arr 91 (map (int .u8) ((List.replicate 16 (0:Int))))) 0 ⟨oA (bE _ qT)⟩ ?_
   refine yk [6] [16] ?_
   refine yt (6,.arr 91 (map (int .u8) v2)) 0 ⟨bH _ _ _ _ (nH.trans (congrArg some (bh hv4))) rfl rfl (cX (fun _=>rfl) _) ((bh (f:=int .u8) hv3).symm.trans (bh (f:=int .u8) hv4))⟩ ?_
   refine ba [1,51,4,5,6] ?_
   obtain ⟨v5,hv5,h⟩:=zn h
   obtain ⟨v6,hv6,h⟩:=zn h
   refine wb [] ?_
   refine wN [5] ?_
   refine wS (.asl 5 64) [] ⟨pF _ _ 5 64 _ underlying205 jx rfl (by decide)⟩ ?_
   refine wK [6] [] ?_
   refine wt [(6,.any),(18,.fl .ro 1 (map (int .u8) v2))] [] ⟨fM _ _ 6 16 _ underlying91 jx rfl (bh hv5).symm (cX (fun _=>rfl) _)⟩ ?_
   refine wK [5] [17,18] ?_
   refine wt [(5,.arr 205 (map (int .u8) (kv ((List.replicate 64 (0:Int))) v2))),(19,vi (sF ((List.replicate 64 (0:Int))) v2))] [] ⟨ud _ _ _ _ _ _ _ _ underlying28 jx rfl (Gx hv6) rfl (by decide)⟩ ?_
   refine we hn [1,51,4,5] ?_
   exact hl10 _ (zi h).symm
  ·have h:=aq hb12 h
   obtain ⟨v7,hv7,h⟩:=zn h
   refine yx hn 0 ?_
   refine yS (.asl 5 64) 1 ⟨pF _ _ 5 64 _ underlying205 jx rfl (by decide)⟩ ?_
   refine yk [5] [20,21] ?_
   refine mo (5,.arr 205 (map (int .u8) (kv ((List.replicate 64 (0:Int))) key))) (22,vi (sF ((List.replicate 64 (0:Int))) key)) 0 ⟨ud _ _ _ _ _ _ _ _ underlying28 jx rfl (Gx hv7) rfl (by decide)⟩ ?_
   refine ye [1,51,4,5] ?_
   exact hl10 _ (zi h).symm
theorem vV (b:(List Int)) (r:JH) (h:Sh.mJ b=some r):bQ Tryz.prog 155 [.fl .shr 1 (map (int .u8) b)] (.v (.string r)):=by
 unfold Sh.mJ at h
 refine yO 22 func155 fun g0 hn hio => ?_
 refine aL hn 1 [0] ?_
 refine fu hn 0 ?_
 refine yS (.hid (gz 153 5 false (map (int .u8) ([]:List Int)))) 0 ⟨oA (aU.bld0 (bj _ _ En))⟩ ?_
 refine ba [0,3] ?_
 refine ab ?_
 refine aL hn 3 [3,6,7,8] ?_
 refine aZ h (fun ((s14,s15):(List Int)×Int)=>[(3,.hid (gz 153 5 false (map (int .u8) s14))),(6,fb b),(7,vi (b.length:Int)),(8,vi s15)]) (fun (s17:(List Int))=>[(3,.hid (gz 153 5 false (map (int .u8) s17)))]) ?_ ?_
 ·rintro s17 h
  refine ae (ab ?_)
  obtain ⟨v25,hv25,h⟩:=zn h
  refine yx hn 0 ?_
  refine yk [3] [] ?_
  refine yt (21,vs v25) 1 ⟨kV _ _ _ _ 21 128 [.tmp 3] [] _ _ _ rfl call128 rfl rfl rfl (fR s17 _ hv25) (zl rfl) rfl rfl rfl rfl rfl rfl rfl⟩ ?_
  refine ba [2] ?_
  refine ao ?_
  obtain rfl:=zi h
  exact ay hio rfl (.tmp _ _ .nil) rfl rfl
 ·rintro u18 hl19 hr20 ⟨s14,s15⟩ rr23 h ho21
  refine aL hn 1 [3,6,7,8,9] ?_
  refine ab ?_
  refine al _ rfl (fun hb24 => ?_) (fun hb24 => ?_)
  ·have h:=ar hb24 h
   refine au ?_
   refine ae (ab ?_)
   refine aJ (ab ?_)
   obtain ⟨v2,hv2,h⟩:=zn h
   obtain ⟨v3,hv3,h⟩:=zn h
   refine yx hn 0 ?_
   refine ys 0 ⟨li hv2⟩ ?_
   refine ys 1 ⟨ll hv3⟩ ?_
   refine ba [3,6,7,8,5] ?_
   refine ab ?_
   obtain ⟨v4,hv4,h⟩:=zn h
   obtain ⟨v5,hv5,h⟩:=zn h
   obtain ⟨v6,hv6,h⟩:=zn h
   refine yx hn 1 ?_
   refine ys 0 ⟨lB (gF hv4)⟩ ?_
   refine ys 0 ⟨lh hv5⟩ ?_
   refine yq call125 (dt _ _ _ hv6) 3 [14] 0 ?_
   refine ba [3,6,7,8,5] ?_
   obtain ⟨v7,hv7,h⟩:=zn h
   obtain ⟨v8,hv8,h⟩:=zn h
   obtain ⟨v9,hv9,h⟩:=zn h
   refine yx hn 1 ?_
   refine ys 0 ⟨lb hv7⟩ ?_
   refine ys 0 ⟨lh hv8⟩ ?_
   refine yq call125 (dt _ _ _ hv9) 3 [18] 0 ?_
   refine ye [3,6,7,8] ?_
   refine aP (ae ?_)
   obtain ⟨v10,hv10,h⟩:=zn h
   refine yx hn 0 ?_
   refine ys 0 ⟨lb hv10⟩ ?_
   refine yw [8] 1 ?_
   refine ye [3,6,7,8] ?_
   exact bn _ (zi h).symm rfl
  ·have h:=aq hb24 h
   refine bl (az (az (bm ?_)))
   refine ag [0] (by kernel_rfl) (es':=[(_,_)]) rfl ?_
   exact hl19 _ (ho21 _ (zi h).symm).symm
theorem rS (mx:Int×Nat×Value) (user:JH) (secret:JH) (challenge:JH) (r:JH) (h:Sh.ja user secret challenge=some r):gW Tryz.prog (GL mx) 133 [.v (.string user),.v (.string secret),.v (.string challenge)] (.v (.string r)):=by
 unfold Sh.ja at h
 refine yG 20 func133 fun g0 hn hio => ?_
 refine aL hn 1 [0,1,2,20] ?_
 refine ab ?_
 obtain ⟨v1,hv1,h⟩:=zn h
 obtain ⟨v2,hv2,h⟩:=zn h
 obtain ⟨v3,hv3,h⟩:=zn h
 obtain ⟨v4,hv4,h⟩:=zn h
 obtain ⟨v5,hv5,h⟩:=zn h
 refine yx hn 1 ?_
 refine ys 1 ⟨lT hv1⟩ ?_
 refine ys 0 ⟨lT hv2⟩ ?_
 refine ys 0 ⟨lg call154 (rf _ _ _ _ hv3) 20⟩ ?_
 refine yS (.arr 91 (map (int .u8) ((List.replicate 16 (0:Int))))) 0 ⟨oA (bE _ qT)⟩ ?_
 refine yk [7] [12] ?_
 refine yt (7,.arr 91 (map (int .u8) v3)) 0 ⟨bH _ _ _ _ (nH.trans (congrArg some (bh hv5))) rfl rfl (cX (fun _=>rfl) _) ((bh (f:=int .u8) hv4).symm.trans (bh (f:=int .u8) hv5))⟩ ?_
 refine ba [0,20,7] ?_
 refine ab ?_
 obtain ⟨v6,hv6,h⟩:=zn h
 obtain ⟨v7,hv7,h⟩:=zn h
 obtain ⟨v8,hv8,h⟩:=zn h
 obtain ⟨v9,hv9,h⟩:=zn h
 obtain ⟨v10,hv10,h⟩:=zn h
 obtain ⟨v11,hv11,h⟩:=zn h
 refine yx hn 1 ?_
 refine ys 0 ⟨lB (cK hv6)⟩ ?_
 refine yk [7] [] ?_
 refine mo (7,.any) (15,.fl .ro 1 (map (int .u8) v3)) 0 ⟨fM _ _ 7 16 _ underlying91 jx rfl (bh hv7).symm (cX (fun _=>rfl) _)⟩ ?_
 refine ys 0 ⟨lk call155 (vV _ _ hv8)⟩ ?_
 refine ys 0 ⟨lB (cK hv9)⟩ ?_
 refine ys 0 ⟨lT hv10⟩ ?_
 refine ys 1 ⟨lk call98 (jW _ _ hv11)⟩ ?_
 refine ba [20,6] ?_
 refine ao ?_
 refine ag [1] (by kernel_rfl) (es':=[(_,_)]) rfl ?_
 obtain rfl:=zi h
 exact ay hio rfl (.tmp _ _ .nil) rfl rfl
theorem sX (mx:Int×Nat×Value) (user:JH) (secret:JH) (challenge:JH) (line:JH) (r:Bool) (h:Sh.gP user secret challenge line=some r):gW Tryz.prog (GL mx) 107 [.v (.string user),.v (.string secret),.v (.string challenge),.v (.string line)] (.v (.bool r)):=by
 unfold Sh.gP at h
 refine yG 15 func107 fun g0 hn hio => ?_
 refine aL hn 1 [0,1,2,3,15] ?_
 refine ab ?_
 obtain ⟨v1,hv1,h⟩:=zn h
 refine yx hn 4 ?_
 refine ys 2 ⟨lg call133 (rS _ _ _ _ _ hv1) 15⟩ ?_
 refine ba [15,8] ?_
 refine ao ?_
 refine ag [1] (by kernel_rfl) (es':=[(_,_)]) rfl ?_
 obtain rfl:=zi h
 exact ay hio rfl (.tmp _ _ .nil) rfl rfl
theorem fD (u:Nat→Value) (s:aa) (code:Int) (r:cC) (h:Sh.cg s code=some r):oa Tryz.prog 85 [.box 80 [.v (.int .i64 s.Jj.Jz),.v (.string s.Jj.Jm),.v (.bool s.Jj.Ji.Ju),.v (.string s.Jj.Ji.Jq),.v (.string s.Jj.Ji.Jf),.v (u 5),.v (.bool s.Jj.JB),.v (u 7),.v (.string s.Jj.Jd),.v (.bool s.Jj.JA),.v (.string ((s.config.Jg.getD 0 (⟨#[]⟩:JH)))),.v (.string ((s.config.Jg.getD 1 (⟨#[]⟩:JH)))),.v (.int .i64 s.config.Jh),.v (.string s.config.JF),.v (.string s.config.JD),.v (.int .i64 s.config.Jr),.v (.bool s.config.Jl),.v (.int .i64 s.site),.v (.int .i64 s.at_),.v (u 19)],.v (.int .i64 code)] [.box 80 [.v (.int .i64 s.Jj.Jz),.v (.string s.Jj.Jm),.v (.bool s.Jj.Ji.Ju),.v (.string s.Jj.Ji.Jq),.v (.string s.Jj.Ji.Jf),.v (u 5),.v (.bool s.Jj.JB),.v (u 7),.v (.string s.Jj.Jd),.v (.bool s.Jj.JA),.v (.string ((s.config.Jg.getD 0 (⟨#[]⟩:JH)))),.v (.string ((s.config.Jg.getD 1 (⟨#[]⟩:JH)))),.v (.int .i64 s.config.Jh),.v (.string s.config.JF),.v (.string s.config.JD),.v (.int .i64 s.config.Jr),.v (.bool s.config.Jl),.v (.int .i64 s.site),.v (.int .i64 s.at_),.v (u 19)]] (.agg [.v (.int .i64 r.Je),.fl (.own 9) 1 (map Value.string r.Jp)]):=by
 unfold Sh.cg at h
 refine yP 24 func85 fun args0 hargs0 g0 hn hio => ?_
 refine fu hn 0 ?_
 refine yS (.box 51 [vi 0,vz]) 0 ⟨oA (bj _ _ Dm)⟩ ?_
 refine ba [0,1,4,0] ?_
 refine aL hn 1 [0,1,4,5,0] ?_
 refine ab ?_
 refine aC h (fun (s6:JH)=>[(0,.box 80 (vi s.Jj.Jz::vs s.Jj.Jm::vb s.Jj.Ji.Ju::vs s.Jj.Ji.Jq::vs s.Jj.Ji.Jf::.v (u 5)::vb s.Jj.JB::.v (u 7)::vs s.Jj.Jd::vb s.Jj.JA::aH.c s.config [vi s.site,vi s.at_,.v (u 19)])),(1,vi code),(4,.box 51 [vi 0,vz]),(5,vs s6),(0,.v (List.getD args0 0 undef))]) ?_ ?_
 ·rintro s6 h
  refine ae ?_
  refine fu hn 2 ?_
  refine yS (.fl (.own 9) 1 (map Value.string [s6])) 0 ⟨aY _ _ 1 (.string ByteArray.empty) (map Value.string [s6]) [(0,.string s6)] underlying49 tb GT (fun _ V w o a hv hes=>by have e0:=bU hv hes (x := .tmp 21) rfl; simp only [List.map_toArray,List.map_cons,List.map_nil,e0]; try rfl) (cd (by simp [Instr.fill,Value.cells]; rfl) (by simp [List.range,List.range.loop] <;> rfl)) (by simp [Value.oneCell']) rfl (by decide) (by decide) (by decide)⟩ ?_
  refine yk [22] [20] ?_
  refine yt (23,.agg [vi code,.fl (.own 9) 1 (map Value.string [s6])]) 0 ⟨bI _ _ _ _ [1,1] _ _ underlying51 Dm (Gw _ underlying51) (.copy _ (.take _ _ mn.nil)) rfl rfl rfl⟩ ?_
  refine yk [23,4] [] ?_
  refine yt (4,.box 51 [vi code,.fl (.own 9) 1 (map Value.string [s6])]) 0 ⟨aV _ _ _ _ _ _ _ _ Dc rfl rfl rfl (zl rfl) rfl rfl⟩ ?_
  refine ba [0,4,0] ?_
  refine ao ?_
  refine ag [1,0,2] (by kernel_rfl) (es':=[(_,_),(_,_),(_,_)]) rfl ?_
  obtain rfl:=zi h
  exact bJ (es:=[(4,.box 51 [.v (.int .i64 code),.fl (.own 9) 1 (map Value.string [s6])])]) (posts:=[.box 80 [.v (.int .i64 s.Jj.Jz),.v (.string s.Jj.Jm),.v (.bool s.Jj.Ji.Ju),.v (.string s.Jj.Ji.Jq),.v (.string s.Jj.Ji.Jf),.v (u 5),.v (.bool s.Jj.JB),.v (u 7),.v (.string s.Jj.Jd),.v (.bool s.Jj.JA),.v (.string ((s.config.Jg.getD 0 (⟨#[]⟩:JH)))),.v (.string ((s.config.Jg.getD 1 (⟨#[]⟩:JH)))),.v (.int .i64 s.config.Jh),.v (.string s.config.JF),.v (.string s.config.JD),.v (.int .i64 s.config.Jr),.v (.bool s.config.Jl),.v (.int .i64 s.site),.v (.int .i64 s.at_),.v (u 19)]]) hio rfl rfl (.cellA _ _ _ _ underlying51 rfl Dc .nil) rfl rfl hargs0 rfl
 ·intro u7 h hl8 hr9
  refine aJ ?_
  refine aL hn 3 [0,1,4,5,6,0] ?_
  refine al _ rfl (fun hb10 => ?_) (fun hb10 => ?_)
  ·have h:=ar hb10 h
   obtain ⟨v2,hv2,h⟩:=zn h
   obtain ⟨v3,hv3,h⟩:=zn h
   refine yx hn 5 ?_
   refine ys 0 ⟨lT hv2⟩ ?_
   refine ys 0 ⟨lk call98 (jW _ _ hv3)⟩ ?_
   refine yw [5] 1 ?_
   refine ye [0,1,4,5,0] ?_
   refine aP ?_
   exact hl8 _ (zi h).symm
  ·have h:=aq hb10 h
   refine ab ?_
   obtain ⟨v4,hv4,h⟩:=zn h
   refine yx hn 1 ?_
   refine ys 2 ⟨lk call99 (mB _ _ hv4)⟩ ?_
   refine ba [0,1,4,5,16,0] ?_
   refine al _ rfl (fun hb11 => ?_) (fun hb11 => ?_)
   ·have h:=ar hb11 h
    refine yx hn 0 ?_
    refine yw [5] 1 ?_
    refine ye [0,1,4,5,0] ?_
    refine aP ?_
    exact hl8 _ (zi h).symm
   ·have h:=aq hb11 h
    refine au (aP ?_)
    refine ag [0,1,2,3,5] (by kernel_rfl) (es':=[(_,_),(_,_),(_,_),(_,_),(_,_)]) rfl ?_
    exact hl8 _ (zi h).symm
theorem bi (s:aa) (code:Int) (r:aa) (h:Sh.aT s code=some r):oa Tryz.prog 76 [.box 80 (aa.b s),.v (.int .i64 code)] [.box 80 (aa.b r)] (.tup []):=by
 unfold Sh.aT at h
 refine yP 17 func76 fun args0 hargs0 g0 hn hio => ?_
 obtain ⟨v1,hv1,h⟩:=zn h
 obtain ⟨v2,hv2,h⟩:=zn h
 refine wb [[],[],[5,0],[6,0],[7,0],[0],[1]] ?_
 refine wN [9,0,10] ?_
 refine wS (.agg [vi v1.Je,.fl (.own 9) 1 (map Value.string v1.Jp)]) [] ⟨wF _ 11 0 85 [.int .i64 code] _ rfl call85 rfl rfl rfl rfl (fun u=>fD u ((aa.r s)) code _ hv1) rfl rfl rfl⟩ ?_
 refine wK [11] [] ?_
 refine wt [(12,.agg [vi v1.Je,.fl (.own 9) 1 (map Value.string v1.Jp),vb false,vb false,vs z0,vs z0,vz,vz,vb false,vs z0,vi 0,vb false])] [] ⟨bI _ _ _ _ [2,1,8,1] _ _ underlying55 tn (BN _ underlying55) (.take _ _ mn.nil) rfl rfl rfl⟩ ?_
 refine wK [12] [] ?_
 refine wt [(13,.fr (.own 55) false 12 (flatten (map aA.ienc ([(aA.mk v1 false ((bf.mk ((ah.mk false z0 z0)) [] [] false z0 0)) false)]))))] [] ⟨kh _ _ _ 12 (.agg #[.int .i64 0,.slice none 0 0,.bool false,.bool false,.string ByteArray.empty,.string ByteArray.empty,.slice none 0 0,.slice none 0 0,.bool false,.string ByteArray.empty,.int .i64 0,.bool false]) false _ _ underlying34 wG tn rfl (.cons (.v _) (.cons (.ro _ _ rfl) (.cons (.v _) (.cons (.v _) (.cons (.v _) (.cons (.v _) (.cons (.nil 3) (.cons (.nil 1) (.cons (.v _) (.cons (.v _) (.cons (.v _) (.cons (.v _) (.nil))))))))))))) rfl (by decide) (by decide)⟩ ?_
 refine wK [0] [8,13] ?_
 refine wt [(0,.box 80 (vi s.Jj.Jz::vs s.Jj.Jm::vb s.Jj.Ji.Ju::vs s.Jj.Ji.Jq::vs s.Jj.Ji.Jf::.fl (.own 26) 3 (flatten (map ah.enc s.Jj.To))::vb s.Jj.JB::.mkr 5 (map (int .u8) s.Jj.Jc)::vs s.Jj.Jd::vb s.Jj.JA::aH.c s.config [vi s.site,vi s.at_,.any])),(14,.fr (.own 55) false 12 (flatten (map aA.ienc v2)))] [[4,0],[15,0]] ⟨ij _ 14 0 19 _ _ EU rfl rfl (zl rfl) rfl (eY aA.ilen _) (eY aA.ilen _) hv2 (nz (ib hv2)) (by decide) (by decide) (by decide) rfl rfl⟩ ?_
 refine wK [8,14,0] [16] ?_
 refine wt [(0,.box 80 (vi s.Jj.Jz::vs s.Jj.Jm::vb s.Jj.Ji.Ju::vs s.Jj.Ji.Jq::vs s.Jj.Ji.Jf::.fl (.own 26) 3 (flatten (map ah.enc s.Jj.To))::vb s.Jj.JB::.mkr 5 (map (int .u8) s.Jj.Jc)::vs s.Jj.Jd::vb s.Jj.JA::aH.c s.config [vi s.site,vi s.at_,.fr (.own 55) false 12 (flatten (map aA.ienc v2))]))] [] ⟨aU.drop [_] (aV _ _ _ _ _ _ _ _ Fw rfl rfl rfl (zl rfl) rfl rfl)⟩ ?_
 refine we hn [0,0] ?_
 obtain rfl:=zi h
 exact ki (es:=[]) (posts:=[.box 80 [.v (.int .i64 s.Jj.Jz),.v (.string s.Jj.Jm),.v (.bool s.Jj.Ji.Ju),.v (.string s.Jj.Ji.Jq),.v (.string s.Jj.Ji.Jf),.fl (.own 26) 3 (flatten (map ah.enc s.Jj.To)),.v (.bool s.Jj.JB),.mkr 5 (map (int .u8) s.Jj.Jc),.v (.string s.Jj.Jd),.v (.bool s.Jj.JA),.v (.string ((s.config.Jg.getD 0 (⟨#[]⟩:JH)))),.v (.string ((s.config.Jg.getD 1 (⟨#[]⟩:JH)))),.v (.int .i64 s.config.Jh),.v (.string s.config.JF),.v (.string s.config.JD),.v (.int .i64 s.config.Jr),.v (.bool s.config.Jl),.v (.int .i64 s.site),.v (.int .i64 s.at_),.fr (.own 55) false 12 (flatten (map aA.ienc v2))]]) hio rfl rfl .nil rfl rfl hargs0 rfl
theorem me (mx:Int×Nat×Value) (s:aa) (line:JH) (r:aa) (h:Sh.dP s line=some r):mE Tryz.prog (GL mx) 90 [.box 80 (aa.b s),.v (.string line)] [.box 80 (aa.b r)] (.tup []):=by
 unfold Sh.dP at h
 refine CD 34 func90 fun args0 hargs0 g0 hn hio => ?_
 refine aL hn 5 [0,1,34,0] ?_
 refine ab (ab ?_)
 obtain ⟨v1,hv1,h⟩:=zn h
 refine wb [[],[8,0],[9,0],[10,0],[11,0],[],[13,0],[14,0],[15,0],[16,0],[],[18,0],[19,0],[20,0],[21,0],[1]] ?_
 refine wN [12,17,22,23,34] ?_
 refine wo [[24]] ⟨lg call107 (sX _ _ _ _ _ _ hv1) 34⟩ ?_
 refine tg hn [0,34,25,0] ?_
 refine al _ rfl (fun hb2 => ?_) (fun hb2 => ?_)
 ·have h:=ar hb2 h
  refine ab ?_
  obtain ⟨v3,hv3,h⟩:=zn h
  refine yx hn 1 ?_
  refine yQ call76 (bi _ _ _ hv3) 0 [26] 0 ?_
  refine ba [0,34,0] ?_
  refine ao ?_
  refine ag [0,2] (by kernel_rfl) (es':=[(_,_),(_,_)]) rfl ?_
  refine ai ?_
  obtain rfl:=zi h
  exact bJ (es:=[]) (posts:=[.box 80 (aa.b v3)]) hio rfl rfl .nil rfl rfl hargs0 rfl
 ·have h:=aq hb2 h
  refine au (ae ?_)
  refine aL hn 5 [0,34,0] ?_
  obtain ⟨v4,hv4,h⟩:=zn h
  refine yx hn 1 ?_
  refine yQ call76 (bi _ _ _ hv4) 0 [32] 0 ?_
  refine ye [0,34,0] ?_
  refine ag [0,2] (by kernel_rfl) (es':=[(_,_),(_,_)]) rfl ?_
  obtain rfl:=zi h
  exact ki (es:=[]) (posts:=[.box 80 (aa.b v4)]) hio rfl rfl .nil rfl rfl hargs0 rfl
theorem kg (line:JH) (r:Bool) (h:Sh.fv line=some r):bQ Tryz.prog 108 [.v (.string line)] (.v (.bool r)):=by
 unfold Sh.fv at h
 refine yO 20 func108 fun g0 hn hio => ?_
 refine aL hn 1 [0] ?_
 refine ab ?_
 refine aL hn 3 [0,5,6] ?_
 refine aZ h (fun (s17:Int)=>[(0,vs line),(5,vi (line.size:Int)),(6,vi s17)]) (fun (():Unit)=>[]) ?_ ?_
 ·rintro ⟨⟩ h
  refine ae ?_
  refine aL hn 1 [2] ?_
  refine ao ?_
  obtain rfl:=zi h
  exact ay hio rfl (.tmp _ _ .nil) rfl rfl
 ·rintro u24 hl25 hr26 s17 rr29 h ho27
  refine aL hn 1 [0,5,6,7] ?_
  refine ab ?_
  refine al _ rfl (fun hb30 => ?_) (fun hb30 => ?_)
  ·have h:=ar hb30 h
   refine au ?_
   refine ae (ab ?_)
   refine aJ ?_
   refine aL hn 2 [0,5,6,3] ?_
   refine ab ?_
   refine aC h (fun (s31:Bool)=>[(0,vs line),(5,vi (line.size:Int)),(6,vi s17),(18,vb s31)]) ?_ ?_
   ·rintro s31 h
    refine ae ?_
    refine al _ rfl (fun hb35 => ?_) (fun hb35 => ?_)
    ·have h:=ar hb35 h
     refine aL hn 1 [2] ?_
     refine ao (aR (ai (ai (aR (ai ?_)))))
     have h:=hr26 _ (ho27 _ (zi h).symm).symm
     obtain rfl:=zi h
     exact ay hio rfl (.tmp _ _ .nil) rfl rfl
    ·have h:=aq hb35 h
     refine au (aP (ae ?_))
     obtain ⟨v9,hv9,h⟩:=zn h
     refine yx hn 0 ?_
     refine ys 0 ⟨lb hv9⟩ ?_
     refine yw [6] 1 ?_
     refine ye [0,5,6] ?_
     exact bn _ (zi h).symm rfl
   ·intro u32 h hl33 hr34
    obtain ⟨v2,hv2,h⟩:=zn h
    refine am h (fun hg4_4 h => ?_) (fun hg4_4 h => ?_)
    ·refine yx hn 2 ?_
     refine ys 2 ⟨lh hv2⟩ ?_
     refine yd hg4_4 5 ?_
     refine ye [0,5,6,18] ?_
     exact hl33 _ (zi h).symm
    ·obtain ⟨v3,hv3,h⟩:=zn h
     refine yx hn 2 ?_
     refine ys 2 ⟨lh hv2⟩ ?_
     refine yd hg4_4 2 ?_
     refine ys 2 ⟨lh hv3⟩ ?_
     refine ye [0,5,6,18] ?_
     exact hl33 _ (zi h).symm
  ·have h:=aq hb30 h
   refine bl (az (az (bm ?_)))
   refine ag [] (by kernel_rfl) (es':=[]) rfl ?_
   exact hl25 _ (ho27 _ (zi h).symm).symm
theorem jl (s sub:JH) (r:Int) (h:Sh.cG s sub=some r):bQ Tryz.prog 143 [.v (.string s),.v (.string sub)] (.v (.int .i64 r)):=kn Tryz.stringslite_Index_one s sub r h
theorem jG (s:JH) (sep:JH) (r:(JH×JH×Bool)) (h:Sh.dl s sep=some r):bQ Tryz.prog 156 [.v (.string s),.v (.string sep)] (.tup [.v (.string r.1),.v (.string r.2.1),.v (.bool r.2.2)]):=by
 unfold Sh.dl at h
 refine yO 23 func156 fun g0 hn hio => ?_
 refine aL hn 3 [0,1] ?_
 refine ab (ab ?_)
 obtain ⟨v1,hv1,h⟩:=zn h
 refine yx hn 2 ?_
 refine ys 1 ⟨lk call143 (jl _ _ _ hv1)⟩ ?_
 refine ba [0,1,7] ?_
 refine aL hn 2 [0,1,7,12] ?_
 refine al _ rfl (fun hb2 => ?_) (fun hb2 => ?_)
 ·have h:=ar hb2 h
  refine ab ?_
  obtain ⟨v3,hv3,h⟩:=zn h
  obtain ⟨v4,hv4,h⟩:=zn h
  obtain ⟨v5,hv5,h⟩:=zn h
  refine wb [[0],[7]] ?_
  refine wN [13,14] ?_
  refine wS (vs v3) [[0],[7],[1],[18]] ⟨co _ _ _ 0 v1 _ underlying9 rfl rfl ⟨_,rfl⟩ hv3⟩ ?_
  refine wN [17,19] ?_
  refine wo [] ⟨lb hv4⟩ ?_
  refine wN [16,20] ?_
  refine wS (vs v5) [[15],[21],[]] ⟨co _ _ _ v4 (s.size:Int) _ underlying9 rfl ⟨_,rfl⟩ rfl hv5⟩ ?_
  refine tg hn [4,5,6] ?_
  refine ao (ai ?_)
  obtain rfl:=zi h
  exact ay hio rfl (.tmp _ _ (.tmp _ _ (.tmp _ _ .nil))) rfl rfl
 ·have h:=aq hb2 h
  refine au (ae ?_)
  refine aL hn 4 [4,5,6] ?_
  refine ao ?_
  obtain rfl:=zi h
  exact ay hio rfl (.tmp _ _ (.tmp _ _ (.tmp _ _ .nil))) rfl rfl
theorem iE (s:JH) (sep:JH) (r:(JH×JH×Bool)) (h:Sh.dC s sep=some r):bQ Tryz.prog 134 [.v (.string s),.v (.string sep)] (.tup [.v (.string r.1),.v (.string r.2.1),.v (.bool r.2.2)]):=by
 unfold Sh.dC at h
 refine yO 13 func134 fun g0 hn hio => ?_
 refine aL hn 3 [0,1] ?_
 refine ab ?_
 obtain ⟨v1,hv1,h⟩:=zn h
 refine yx hn 2 ?_
 refine ys 6 ⟨lk call156 (jG _ _ _ hv1)⟩ ?_
 refine ba [4,5,6] ?_
 refine ao ?_
 obtain rfl:=zi h
 exact ay hio rfl (.tmp _ _ (.tmp _ _ (.tmp _ _ .nil))) rfl rfl
theorem mS (line:JH) (r:Int) (h:Sh.fI line=some r):bQ Tryz.prog 109 [.v (.string line)] (.v (.int .i64 r)):=by
 unfold Sh.fI at h
 refine yO 37 func109 fun g0 hn hio => ?_
 refine aL hn 1 [0] ?_
 refine ab ?_
 obtain ⟨v1,hv1,h⟩:=zn h
 refine yx hn 1 ?_
 refine ys 0 ⟨lk call134 (iE _ _ _ hv1)⟩ ?_
 refine ym 6 ?_
 refine ba [3] ?_
 refine ab (ab ?_)
 obtain ⟨v2,hv2,h⟩:=zn h
 refine yx hn 1 ?_
 refine ys 0 ⟨lk call71 (ed _ _ hv2)⟩ ?_
 refine ba [13] ?_
 refine aJ (ab ?_)
 refine aC h (fun (s4:Bool)=>[(13,vs v2),(14,vb s4)]) ?_ ?_
 ·rintro s4 h
  refine ae ?_
  refine al _ rfl (fun hb9 => ?_) (fun hb9 => ?_)
  ·have h:=ar hb9 h
   refine aL hn 1 [2] ?_
   refine ao (aR (ai ?_))
   obtain rfl:=zi h
   exact ay hio rfl (.tmp _ _ .nil) rfl rfl
  ·have h:=aq hb9 h
   refine aL hn 2 [13,17] ?_
   refine al _ rfl (fun hb10 => ?_) (fun hb10 => ?_)
   ·have h:=ar hb10 h
    refine aL hn 1 [2] ?_
    refine ao (aR (ai ?_))
    obtain rfl:=zi h
    exact ay hio rfl (.tmp _ _ .nil) rfl rfl
   ·have h:=aq hb10 h
    refine aL hn 2 [13,19] ?_
    refine al _ rfl (fun hb11 => ?_) (fun hb11 => ?_)
    ·have h:=ar hb11 h
     refine aL hn 1 [2] ?_
     refine ao (aR (ai ?_))
     obtain rfl:=zi h
     exact ay hio rfl (.tmp _ _ .nil) rfl rfl
    ·have h:=aq hb11 h
     refine aL hn 2 [13,21] ?_
     refine al _ rfl (fun hb12 => ?_) (fun hb12 => ?_)
     ·have h:=ar hb12 h
      refine aL hn 1 [2] ?_
      refine ao (aR (ai ?_))
      obtain rfl:=zi h
      exact ay hio rfl (.tmp _ _ .nil) rfl rfl
     ·have h:=aq hb12 h
      refine aL hn 2 [13,23] ?_
      refine al _ rfl (fun hb13 => ?_) (fun hb13 => ?_)
      ·have h:=ar hb13 h
       refine aL hn 1 [2] ?_
       refine ao (aR (ai ?_))
       obtain rfl:=zi h
       exact ay hio rfl (.tmp _ _ .nil) rfl rfl
      ·have h:=aq hb13 h
       refine aL hn 2 [13,25] ?_
       refine al _ rfl (fun hb14 => ?_) (fun hb14 => ?_)
       ·have h:=ar hb14 h
        refine aL hn 1 [2] ?_
        refine ao (aR (ai ?_))
        obtain rfl:=zi h
        exact ay hio rfl (.tmp _ _ .nil) rfl rfl
       ·have h:=aq hb14 h
        refine aL hn 2 [13,27] ?_
        refine al _ rfl (fun hb15 => ?_) (fun hb15 => ?_)
        ·have h:=ar hb15 h
         refine aL hn 1 [2] ?_
         refine ao (aR (ai ?_))
         obtain rfl:=zi h
         exact ay hio rfl (.tmp _ _ .nil) rfl rfl
        ·have h:=aq hb15 h
         refine aL hn 2 [13,29] ?_
         refine al _ rfl (fun hb16 => ?_) (fun hb16 => ?_)
         ·have h:=ar hb16 h
          refine aL hn 1 [2] ?_
          refine ao (aR (ai ?_))
          obtain rfl:=zi h
          exact ay hio rfl (.tmp _ _ .nil) rfl rfl
         ·have h:=aq hb16 h
          refine aL hn 2 [13,31] ?_
          refine al _ rfl (fun hb17 => ?_) (fun hb17 => ?_)
          ·have h:=ar hb17 h
           refine aL hn 1 [2] ?_
           refine ao (aR (ai ?_))
           obtain rfl:=zi h
           exact ay hio rfl (.tmp _ _ .nil) rfl rfl
          ·have h:=aq hb17 h
           refine aL hn 2 [13,33] ?_
           refine al _ rfl (fun hb18 => ?_) (fun hb18 => ?_)
           ·have h:=ar hb18 h
            refine aL hn 1 [2] ?_
            refine ao (aR (ai ?_))
            obtain rfl:=zi h
            exact ay hio rfl (.tmp _ _ .nil) rfl rfl
           ·have h:=aq hb18 h
            refine aL hn 2 [35] ?_
            refine al _ rfl (fun hb19 => ?_) (fun hb19 => ?_)
            ·have h:=ar hb19 h
             refine aL hn 1 [2] ?_
             refine ao (aR (ai ?_))
             obtain rfl:=zi h
             exact ay hio rfl (.tmp _ _ .nil) rfl rfl
            ·have h:=aq hb19 h
             refine au (aP (ae ?_))
             refine aL hn 1 [2] ?_
             refine ao ?_
             obtain rfl:=zi h
             exact ay hio rfl (.tmp _ _ .nil) rfl rfl
 ·intro u5 h hl6 hr7
  refine aL hn 2 [13,14] ?_
  refine al _ rfl (fun hb8 => ?_) (fun hb8 => ?_)
  ·have h:=ar hb8 h
   refine au ?_
   exact hl6 _ (zi h).symm
  ·have h:=aq hb8 h
   refine yx hn 1 ?_
   refine yw [14] 1 ?_
   refine ye [13,14] ?_
   exact hl6 _ (zi h).symm
theorem fk (a:JH) (b:JH) (r:Bool) (h:Sh.dO a b=some r):bQ Tryz.prog 136 [.v (.string a),.v (.string b)] (.v (.bool r)):=by
 unfold Sh.dO at h
 refine yO 10 func136 fun g0 hn hio => ?_
 refine aL hn 1 [0,1] ?_
 refine ab ?_
 obtain ⟨v1,hv1,h⟩:=zn h
 obtain ⟨v2,hv2,h⟩:=zn h
 refine yx hn 1 ?_
 refine ys 1 ⟨lk call71 (ed _ _ hv1)⟩ ?_
 refine ys 2 ⟨lk call71 (ed _ _ hv2)⟩ ?_
 refine ba [4] ?_
 refine ao ?_
 obtain rfl:=zi h
 exact ay hio rfl (.tmp _ _ .nil) rfl rfl
theorem mc (s:JH) (prefix_:JH) (r:(JH×Bool)) (h:Sh.fL s prefix_=some r):bQ Tryz.prog 135 [.v (.string s),.v (.string prefix_)] (.tup [.v (.string r.1),.v (.bool r.2)]):=by
 unfold Sh.fL at h
 refine yO 24 func135 fun g0 hn hio => ?_
 refine aL hn 2 [0,1] ?_
 refine ab (ab ?_)
 refine aC h (fun (s3:Bool)=>[(0,vs s),(1,vs prefix_),(19,vb s3)]) ?_ ?_
 ·rintro s3 h
  refine ae ?_
  refine al _ rfl (fun hb7 => ?_) (fun hb7 => ?_)
  ·have h:=ar hb7 h
   refine aL hn 2 [4,5] ?_
   refine ao (ai ?_)
   obtain rfl:=zi h
   exact ay hio rfl (.tmp _ _ (.tmp _ _ .nil)) rfl rfl
  ·have h:=aq hb7 h
   refine au ?_
   refine ae (ab ?_)
   obtain ⟨v8,hv8,h⟩:=zn h
   refine yx hn 3 ?_
   refine yS (vs v8) 2 ⟨co _ _ _ (prefix_.size:Int) (s.size:Int) _ underlying9 rfl ⟨_,rfl⟩ rfl hv8⟩ ?_
   refine ba [4,5] ?_
   refine ao ?_
   obtain rfl:=zi h
   exact ay hio rfl (.tmp _ _ (.tmp _ _ .nil)) rfl rfl
 ·intro u4 h hl5 hr6
  refine am h (fun hg1_5 h => ?_) (fun hg1_5 h => ?_)
  ·refine yx hn 6 ?_
   refine yd hg1_5 8 ?_
   refine ye [0,1,19] ?_
   exact hl5 _ (zi h).symm
  ·obtain ⟨v1,hv1,h⟩:=zn h
   obtain ⟨v2,hv2,h⟩:=zn h
   refine yx hn 6 ?_
   refine yd hg1_5 3 ?_
   refine yS (vs v1) 1 ⟨co _ _ _ 0 (prefix_.size:Int) _ underlying9 rfl rfl ⟨_,rfl⟩ hv1⟩ ?_
   refine ys 2 ⟨lk call136 (fk _ _ _ hv2)⟩ ?_
   refine ye [0,1,19] ?_
   exact hl5 _ (zi h).symm
theorem ly (mx:Int×Nat×Value) (line:JH) (r:Bool) (h:Sh.dz line=some r):gW Tryz.prog (GL mx) 110 [.v (.string line)] (.v (.bool r)):=by
 unfold Sh.dz at h
 refine yG 40 func110 fun g0 hn hio => ?_
 refine aL hn 1 [0,40] ?_
 refine ab ?_
 obtain ⟨v1,hv1,h⟩:=zn h
 refine yx hn 1 ?_
 refine ys 0 ⟨lk call135 (mc _ _ _ hv1)⟩ ?_
 refine ym 4 ?_
 refine ba [40,3,4] ?_
 refine ab (ab ?_)
 refine aC h (fun (s3:Bool)=>[(40,.glob (GL mx)),(3,vs v1.1),(20,vb s3)]) ?_ ?_
 ·rintro s3 h
  refine ae ?_
  refine al _ rfl (fun hb7 => ?_) (fun hb7 => ?_)
  ·have h:=ar hb7 h
   refine aL hn 1 [40,2] ?_
   refine ao ?_
   refine ag [1] (by kernel_rfl) (es':=[(_,_)]) rfl ?_
   refine ai ?_
   obtain rfl:=zi h
   exact ay hio rfl (.tmp _ _ .nil) rfl rfl
  ·have h:=aq hb7 h
   refine au ?_
   refine ae (ab ?_)
   refine aL hn 3 [40,3,22,23] ?_
   refine aZ h (fun (s26:Int)=>[(40,.glob (GL mx)),(3,vs v1.1),(22,vi (v1.1.size:Int)),(23,vi s26)]) (fun (():Unit)=>[(40,.glob (GL mx))]) ?_ ?_
   ·rintro ⟨⟩ h
    refine ae ?_
    refine aL hn 1 [40,2] ?_
    refine ao ?_
    refine ag [1] (by kernel_rfl) (es':=[(_,_)]) rfl ?_
    obtain rfl:=zi h
    exact ay hio rfl (.tmp _ _ .nil) rfl rfl
   ·rintro u33 hl34 hr35 s26 rr38 h ho36
    refine aL hn 1 [40,3,22,23,24] ?_
    refine ab ?_
    refine al _ rfl (fun hb39 => ?_) (fun hb39 => ?_)
    ·have h:=ar hb39 h
     refine au ?_
     refine ae (ab ?_)
     refine aJ ?_
     refine aL hn 2 [40,3,22,23,5] ?_
     refine ab ?_
     refine aC h (fun (s40:Bool)=>[(40,.glob (GL mx)),(3,vs v1.1),(22,vi (v1.1.size:Int)),(23,vi s26),(38,vb s40)]) ?_ ?_
     ·rintro s40 h
      refine ae ?_
      refine al _ rfl (fun hb44 => ?_) (fun hb44 => ?_)
      ·have h:=ar hb44 h
       refine aL hn 1 [40,2] ?_
       refine ao ?_
       refine ag [1] (by kernel_rfl) (es':=[(_,_)]) rfl ?_
       refine aR (ai (ai (aR (ai ?_))))
       have h:=hr35 _ (ho36 _ (zi h).symm).symm
       obtain rfl:=zi h
       exact ay hio rfl (.tmp _ _ .nil) rfl rfl
      ·have h:=aq hb44 h
       refine au (aP (ae ?_))
       obtain ⟨v18,hv18,h⟩:=zn h
       refine yx hn 0 ?_
       refine ys 0 ⟨lb hv18⟩ ?_
       refine yw [23] 1 ?_
       refine ye [40,3,22,23] ?_
       exact bn _ (zi h).symm rfl
     ·intro u41 h hl42 hr43
      obtain ⟨v9,hv9,h⟩:=zn h
      refine am h (fun hg7_4 h => ?_) (fun hg7_4 h => ?_)
      ·obtain ⟨v10,hv10,h⟩:=zn h
       obtain ⟨v11,hv11,h⟩:=zn h
       obtain ⟨v12,hv12,h⟩:=zn h
       refine yx hn 2 ?_
       refine ys 2 ⟨lh hv9⟩ ?_
       refine yd hg7_4 3 ?_
       refine ys 0 ⟨lb hv10⟩ ?_
       refine yS (vs v11) 0 ⟨co _ _ _ s26 v10 _ underlying9 rfl ⟨_,rfl⟩ ⟨_,rfl⟩ hv11⟩ ?_
       refine ys 2 ⟨lg call55 (bX _ _ _ hv12) 40⟩ ?_
       refine ye [40,3,22,23,38] ?_
       exact hl42 _ (zi h).symm
      ·refine yx hn 2 ?_
       refine ys 2 ⟨lh hv9⟩ ?_
       refine yd hg7_4 8 ?_
       refine ye [40,3,22,23,38] ?_
       exact hl42 _ (zi h).symm
    ·have h:=aq hb39 h
     refine bl (az (az (bm ?_)))
     refine ag [0] (by kernel_rfl) (es':=[(_,_)]) rfl ?_
     exact hl34 _ (ho36 _ (zi h).symm).symm
 ·intro u4 h hl5 hr6
  refine am h (fun hg2_2 h => ?_) (fun hg2_2 h => ?_)
  ·refine yx hn 3 ?_
   refine yd hg2_2 7 ?_
   refine ye [40,3,20] ?_
   exact hl5 _ (zi h).symm
  ·refine am h (fun hg2_6 h => ?_) (fun hg2_6 h => ?_)
   ·refine yx hn 3 ?_
    refine yd hg2_2 4 ?_
    refine yd hg2_6 3 ?_
    refine ye [40,3,20] ?_
    exact hl5 _ (zi h).symm
   ·obtain ⟨v2,hv2,h⟩:=zn h
    refine yx hn 3 ?_
    refine yd hg2_2 4 ?_
    refine yd hg2_6 1 ?_
    refine ys 1 ⟨lk call136 (fk _ _ _ hv2)⟩ ?_
    refine ye [40,3,20] ?_
    exact hl5 _ (zi h).symm
theorem qY (kind:Int) (r:JH) (h:Sh.lA kind=some r):bQ Tryz.prog 157 [.v (.int .i64 kind)] (.v (.string r)):=by
 unfold Sh.lA at h
 refine yO 5 func157 fun g0 hn hio => ?_
 refine aL hn 1 [0] ?_
 refine ab ?_
 refine aL hn 2 [4] ?_
 refine al _ rfl (fun hb1 => ?_) (fun hb1 => ?_)
 ·have h:=ar hb1 h
  refine aL hn 1 [2] ?_
  refine ao (ai ?_)
  obtain rfl:=zi h
  exact ay hio rfl (.tmp _ _ .nil) rfl rfl
 ·have h:=aq hb1 h
  refine au (ae ?_)
  refine aL hn 1 [2] ?_
  refine ao ?_
  obtain rfl:=zi h
  exact ay hio rfl (.tmp _ _ .nil) rfl rfl
end Go.Proofs.YtjnnkhmhjcjhdaaGreatDoor
