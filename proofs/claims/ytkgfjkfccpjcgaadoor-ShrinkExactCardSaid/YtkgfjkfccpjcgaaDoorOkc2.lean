import Derived.Test.YtkgfjkfccpjcgaaDoorOkc1
set_option linter.unusedVariables false
set_option linter.unusedSimpArgs false
set_option maxHeartbeats 1000000
namespace Go.Proofs.YtkgfjkfccpjcgaaDoor
open Go.Abs Go.Abs.Sh Tryd
open List (map flatten)
open Value (int)
theorem rY (c:(List Int)) (r:Bool) (h:Sh.iN c=some r):bZ Tryd.prog 117 [.v (.agg (map (int .i64) c).toArray)] (.v (.bool r)):=by
 unfold Sh.iN at h
 refine yO 18 func117 fun g0 hn hio => ?_
 refine gG hn 0 ?_
 refine yS (.arr 124 (map (int .i64) c)) 1 ⟨nB _ _ _ rfl⟩ ?_
 refine bi [1] ?_
 refine aa ?_
 obtain ⟨v1,hv1,v2,hv2,h⟩:=eY h
 refine yx hn 0 ?_
 refine yS (.v (.agg (map (int .i64) (([(0:Int),1,(0:Int),(0:Int),(0:Int),(0:Int),(0:Int),(0:Int),(0:Int),(0:Int),(0:Int),(0:Int),(0:Int),(0:Int),(0:Int),(0:Int)]:List Int))).toArray)) 0 ⟨gP _ _ (.agg #[.int .i64 0,.int .i64 0,.int .i64 0,.int .i64 0,.int .i64 0,.int .i64 0,.int .i64 0,.int .i64 0,.int .i64 0,.int .i64 0,.int .i64 0,.int .i64 0,.int .i64 0,.int .i64 0,.int .i64 0,.int .i64 0]) (map (int .i64) (([(0:Int),1,(0:Int),(0:Int),(0:Int),(0:Int),(0:Int),(0:Int),(0:Int),(0:Int),(0:Int),(0:Int),(0:Int),(0:Int),(0:Int),(0:Int)]:List Int))) [(1,.int .i64 1)] underlying124 fN Aq (fun _ V w o a hv hes=>by simp only [List.map_toArray,List.map_cons,List.map_nil]; try rfl) (bC (by simp [Instr.fill,Value.cells]; rfl) (by simp))⟩ ?_
 refine yS (.arr 124 (map (int .i64) ((List.replicate 16 (0:Int))))) 0 ⟨oA (dP _ tF)⟩ ?_
 refine yk [3] [4] ?_
 refine yt (3,.arr 124 (map (int .i64) (([(0:Int),1,(0:Int),(0:Int),(0:Int),(0:Int),(0:Int),(0:Int),(0:Int),(0:Int),(0:Int),(0:Int),(0:Int),(0:Int),(0:Int),(0:Int)]:List Int)))) 0 ⟨dS _ _ _ _ (iD.trans (congrArg some (bY hv2))) rfl rfl (jP (fun _=>rfl) _) ((bY (f:=int .i64) hv1).symm.trans (bY (f:=int .i64) hv2))⟩ ?_
 refine bi [1,3] ?_
 refine aa ?_
 refine aL h (fun (s12:Bool)=>[(2,vb s12)]) ?_ ?_
 rintro s12 h
 refine ae (au ?_)
 obtain rfl:=zi h
 exact ay hio rfl (.tmp _ _ .nil) rfl rfl
 intro u13 h hl14 hr15
 obtain ⟨v3,hv3,v4,hv4,v5,hv5,h⟩:=kg h
 refine aE h (fun hg2_3 h => ?_) (fun hg2_3 h => ?_)
 refine yx hn 0 ?_
 refine yS (.v (.agg (map (int .i64) c).toArray)) 0 ⟨cC _ _ _ _ underlying124 rfl (iD.trans (congrArg some (bY hv3))) rfl rfl⟩ ?_
 refine yS (.v (.agg (map (int .i64) (([(0:Int),(0:Int),(0:Int),(0:Int),(0:Int),(0:Int),(0:Int),(0:Int),(0:Int),(0:Int),(0:Int),(0:Int),(0:Int),(0:Int),(0:Int),(0:Int)]:List Int))).toArray)) 0 ⟨gP _ _ (.agg #[.int .i64 0,.int .i64 0,.int .i64 0,.int .i64 0,.int .i64 0,.int .i64 0,.int .i64 0,.int .i64 0,.int .i64 0,.int .i64 0,.int .i64 0,.int .i64 0,.int .i64 0,.int .i64 0,.int .i64 0,.int .i64 0]) (map (int .i64) (([(0:Int),(0:Int),(0:Int),(0:Int),(0:Int),(0:Int),(0:Int),(0:Int),(0:Int),(0:Int),(0:Int),(0:Int),(0:Int),(0:Int),(0:Int),(0:Int)]:List Int))) [] underlying124 fN Aq (fun _ V w o a hv hes=>by simp only [List.map_toArray,List.map_cons,List.map_nil]; try rfl) (bC (by simp [Instr.fill,Value.cells]; rfl) (by simp))⟩ ?_
 refine yS (vb (c==(([(0:Int),(0:Int),(0:Int),(0:Int),(0:Int),(0:Int),(0:Int),(0:Int),(0:Int),(0:Int),(0:Int),(0:Int),(0:Int),(0:Int),(0:Int),(0:Int)]:List Int)))) 1 ⟨kB _ _ _ underlying124 underlying3 (i:=Tryd.t3) (by kernel_rfl) (by kernel_rfl) (by kernel_rfl) rfl rfl (sP hv4) (sP hv5) rfl⟩ ?_
 refine yd hg2_3 10 ?_
 refine ye [2] ?_
 exact hl14 _ (zi h).symm
 obtain ⟨v6,hv6,v7,hv7,v8,hv8,v9,hv9,h⟩:=gZ h
 refine aE h (fun hg2_8 h => ?_) (fun hg2_8 h => ?_)
 refine yx hn 0 ?_
 refine yS (.v (.agg (map (int .i64) c).toArray)) 0 ⟨cC _ _ _ _ underlying124 rfl (iD.trans (congrArg some (bY hv3))) rfl rfl⟩ ?_
 refine yS (.v (.agg (map (int .i64) (([(0:Int),(0:Int),(0:Int),(0:Int),(0:Int),(0:Int),(0:Int),(0:Int),(0:Int),(0:Int),(0:Int),(0:Int),(0:Int),(0:Int),(0:Int),(0:Int)]:List Int))).toArray)) 0 ⟨gP _ _ (.agg #[.int .i64 0,.int .i64 0,.int .i64 0,.int .i64 0,.int .i64 0,.int .i64 0,.int .i64 0,.int .i64 0,.int .i64 0,.int .i64 0,.int .i64 0,.int .i64 0,.int .i64 0,.int .i64 0,.int .i64 0,.int .i64 0]) (map (int .i64) (([(0:Int),(0:Int),(0:Int),(0:Int),(0:Int),(0:Int),(0:Int),(0:Int),(0:Int),(0:Int),(0:Int),(0:Int),(0:Int),(0:Int),(0:Int),(0:Int)]:List Int))) [] underlying124 fN Aq (fun _ V w o a hv hes=>by simp only [List.map_toArray,List.map_cons,List.map_nil]; try rfl) (bC (by simp [Instr.fill,Value.cells]; rfl) (by simp))⟩ ?_
 refine yS (vb (c==(([(0:Int),(0:Int),(0:Int),(0:Int),(0:Int),(0:Int),(0:Int),(0:Int),(0:Int),(0:Int),(0:Int),(0:Int),(0:Int),(0:Int),(0:Int),(0:Int)]:List Int)))) 1 ⟨kB _ _ _ underlying124 underlying3 (i:=Tryd.t3) (by kernel_rfl) (by kernel_rfl) (by kernel_rfl) rfl rfl (sP hv4) (sP hv5) rfl⟩ ?_
 refine yd hg2_3 0 ?_
 refine yS (.v (.agg (map (int .i64) c).toArray)) 0 ⟨cC _ _ _ _ underlying124 rfl (iD.trans (congrArg some (bY hv6))) rfl rfl⟩ ?_
 refine yS (.v (.agg (map (int .i64) (([(0:Int),1,(0:Int),(0:Int),(0:Int),(0:Int),(0:Int),(0:Int),(0:Int),(0:Int),(0:Int),(0:Int),(0:Int),(0:Int),(0:Int),(0:Int)]:List Int))).toArray)) 0 ⟨cC _ _ _ _ underlying124 rfl (iD.trans (congrArg some (bY hv7))) rfl rfl⟩ ?_
 refine yS (vb (c==(([(0:Int),1,(0:Int),(0:Int),(0:Int),(0:Int),(0:Int),(0:Int),(0:Int),(0:Int),(0:Int),(0:Int),(0:Int),(0:Int),(0:Int),(0:Int)]:List Int)))) 2 ⟨kB _ _ _ underlying124 underlying3 (i:=Tryd.t3) (by kernel_rfl) (by kernel_rfl) (by kernel_rfl) rfl rfl (sP hv8) (sP hv9) rfl⟩ ?_
 refine yd hg2_8 5 ?_
 refine ye [2] ?_
 exact hl14 _ (zi h).symm
 obtain ⟨v10,hv10,v11,hv11,h⟩:=eY h
 refine yx hn 0 ?_
 refine yS (.v (.agg (map (int .i64) c).toArray)) 0 ⟨cC _ _ _ _ underlying124 rfl (iD.trans (congrArg some (bY hv3))) rfl rfl⟩ ?_
 refine yS (.v (.agg (map (int .i64) (([(0:Int),(0:Int),(0:Int),(0:Int),(0:Int),(0:Int),(0:Int),(0:Int),(0:Int),(0:Int),(0:Int),(0:Int),(0:Int),(0:Int),(0:Int),(0:Int)]:List Int))).toArray)) 0 ⟨gP _ _ (.agg #[.int .i64 0,.int .i64 0,.int .i64 0,.int .i64 0,.int .i64 0,.int .i64 0,.int .i64 0,.int .i64 0,.int .i64 0,.int .i64 0,.int .i64 0,.int .i64 0,.int .i64 0,.int .i64 0,.int .i64 0,.int .i64 0]) (map (int .i64) (([(0:Int),(0:Int),(0:Int),(0:Int),(0:Int),(0:Int),(0:Int),(0:Int),(0:Int),(0:Int),(0:Int),(0:Int),(0:Int),(0:Int),(0:Int),(0:Int)]:List Int))) [] underlying124 fN Aq (fun _ V w o a hv hes=>by simp only [List.map_toArray,List.map_cons,List.map_nil]; try rfl) (bC (by simp [Instr.fill,Value.cells]; rfl) (by simp))⟩ ?_
 refine yS (vb (c==(([(0:Int),(0:Int),(0:Int),(0:Int),(0:Int),(0:Int),(0:Int),(0:Int),(0:Int),(0:Int),(0:Int),(0:Int),(0:Int),(0:Int),(0:Int),(0:Int)]:List Int)))) 1 ⟨kB _ _ _ underlying124 underlying3 (i:=Tryd.t3) (by kernel_rfl) (by kernel_rfl) (by kernel_rfl) rfl rfl (sP hv4) (sP hv5) rfl⟩ ?_
 refine yd hg2_3 0 ?_
 refine yS (.v (.agg (map (int .i64) c).toArray)) 0 ⟨cC _ _ _ _ underlying124 rfl (iD.trans (congrArg some (bY hv6))) rfl rfl⟩ ?_
 refine yS (.v (.agg (map (int .i64) (([(0:Int),1,(0:Int),(0:Int),(0:Int),(0:Int),(0:Int),(0:Int),(0:Int),(0:Int),(0:Int),(0:Int),(0:Int),(0:Int),(0:Int),(0:Int)]:List Int))).toArray)) 0 ⟨cC _ _ _ _ underlying124 rfl (iD.trans (congrArg some (bY hv7))) rfl rfl⟩ ?_
 refine yS (vb (c==(([(0:Int),1,(0:Int),(0:Int),(0:Int),(0:Int),(0:Int),(0:Int),(0:Int),(0:Int),(0:Int),(0:Int),(0:Int),(0:Int),(0:Int),(0:Int)]:List Int)))) 2 ⟨kB _ _ _ underlying124 underlying3 (i:=Tryd.t3) (by kernel_rfl) (by kernel_rfl) (by kernel_rfl) rfl rfl (sP hv8) (sP hv9) rfl⟩ ?_
 refine yd hg2_8 0 ?_
 refine yS (.v (.agg (map (int .i64) c).toArray)) 0 ⟨cC _ _ _ _ underlying124 rfl (iD.trans (congrArg some (bY hv10))) rfl rfl⟩ ?_
 refine ys 3 ⟨lk call120 (lu _ _ hv11)⟩ ?_
 refine ye [2] ?_
 exact hl14 _ (zi h).symm
theorem qM (lengths:(List Int)) (r:Int) (h:Sh.gv lengths=some r):bZ Tryd.prog 103 [.fl .shr 1 (map (int .i64) lengths)] (.v (.int .i64 r)):=by
 unfold Sh.gv at h
 refine yO 10 func103 fun g0 hn hio => ?_
 refine aX hn 1 [0] ?_
 refine aa (aa ?_)
 obtain ⟨v1,hv1,h⟩:=zn h
 refine yx hn 1 ?_
 refine ys 1 ⟨lk call116 (qW _ _ hv1)⟩ ?_
 refine bi [0,5] ?_
 refine zc h rfl (fun h => ?_) (fun h => ?_)
 refine aX hn 1 [2] ?_
 refine au (ap ?_)
 obtain rfl:=zi h
 exact ay hio rfl (.tmp _ _ .nil) rfl rfl
 refine ak ?_
 refine ae (aa ?_)
 refine aa ?_
 obtain ⟨v3,hv3,v4,hv4,h⟩:=eY h
 refine yx hn 1 ?_
 refine ys 0 ⟨lk call105 (mj _ _ hv3)⟩ ?_
 refine ys 1 ⟨lk call117 (rY _ _ hv4)⟩ ?_
 refine bi [9] ?_
 refine zc h rfl (fun h => ?_) (fun h => ?_)
 refine aX hn 1 [2] ?_
 refine au (ap ?_)
 obtain rfl:=zi h
 exact ay hio rfl (.tmp _ _ .nil) rfl rfl
 refine ak (ae ?_)
 refine aX hn 1 [2] ?_
 refine au ?_
 obtain rfl:=zi h
 exact ay hio rfl (.tmp _ _ .nil) rfl rfl
theorem qe (c:(List Int)) (r:(List Int)) (h:Sh.gX c=some r):bZ Tryd.prog 104 [.v (.agg (map (int .i64) c).toArray)] (.v (.agg (map (int .i64) r).toArray)):=by
 unfold Sh.gX at h
 refine yO 22 func104 fun g0 hn hio => ?_
 refine gG hn 0 ?_
 refine yS (.arr 124 (map (int .i64) c)) 0 ⟨nB _ _ _ rfl⟩ ?_
 refine yS (.arr 124 (map (int .i64) ((List.replicate 16 (0:Int))))) 0 ⟨oA (dP _ tF)⟩ ?_
 refine bi [1,2] ?_
 refine gG hn 0 ?_
 refine yS (.arr 124 (map (int .i64) ((List.replicate 16 (0:Int))))) 0 ⟨oA (dP _ tF)⟩ ?_
 refine bi [1,2,3] ?_
 refine aa ?_
 refine aX hn 1 [1,2,3,4] ?_
 refine aH h (fun ((s16,s17):(List Int)×Int)=>[(1,.arr 124 (map (int .i64) c)),(2,.arr 124 (map (int .i64) ((List.replicate 16 (0:Int))))),(3,.arr 124 (map (int .i64) s16)),(4,vi s17)]) (fun (s19:(List Int))=>[(2,.arr 124 (map (int .i64) ((List.replicate 16 (0:Int))))),(3,.arr 124 (map (int .i64) s19))]) ?_ ?_
 rintro s19 h
 refine ae (aa ?_)
 obtain ⟨v27,hv27,v28,hv28,v29,hv29,h⟩:=kg h
 refine yx hn 0 ?_
 refine yS (.v (.agg (map (int .i64) s19).toArray)) 0 ⟨cC _ _ _ _ underlying124 rfl (iD.trans (congrArg some (bY hv27))) rfl rfl⟩ ?_
 refine yk [2] [21] ?_
 refine yt (2,.arr 124 (map (int .i64) s19)) 0 ⟨dS _ _ _ _ (iD.trans (congrArg some (bY hv29))) rfl rfl (jP (fun _=>rfl) _) ((bY (f:=int .i64) hv28).symm.trans (bY (f:=int .i64) hv29))⟩ ?_
 refine bi [2] ?_
 refine au ?_
 obtain ⟨v30,hv30,h⟩:=zn h
 obtain rfl:=zi h
 exact ay hio rfl (.cellR _ _ _ _ underlying124 rfl (iD.trans (congrArg some (bY hv30))) .nil) rfl rfl
 rintro u20 hl21 hr22 ⟨s16,s17⟩ rr25 h ho23
 refine aa ?_
 refine aX hn 2 [1,2,3,4,6] ?_
 refine zc h rfl (fun h => ?_) (fun h => ?_)
 refine ak ?_
 refine ae (aa ?_)
 refine aC ?_
 obtain ⟨v2,hv2,v3,hv3,v4,hv4,v5,hv5,h⟩:=gZ h
 obtain ⟨v6,hv6,v7,hv7,v8,hv8,v9,hv9,h⟩:=gZ h
 obtain ⟨v10,hv10,v11,hv11,h⟩:=eY h
 refine wb [[4],[4]] ?_
 refine wN [10] ?_
 refine wo [] ⟨lb hv2⟩ ?_
 refine wN [3,11] ?_
 refine wS (.ptr 3 v3) [] ⟨gz _ _ _ _ 16 3 _ underlying124 fN rfl rfl (bA hv3).1 (bA hv3).2 (by decide)⟩ ?_
 refine wN [12,3] ?_
 refine wS (vi v4) [[4]] ⟨iz _ _ _ _ _ _ underlying3 rfl rfl rfl (jw hv4)⟩ ?_
 refine wN [14] ?_
 refine wo [] ⟨lb hv5⟩ ?_
 refine wN [1,15] ?_
 refine wS (.ptr 1 v6) [] ⟨gz _ _ _ _ 16 1 _ underlying124 fN rfl rfl (bA hv6).1 (bA hv6).2 (by decide)⟩ ?_
 refine wN [16,1] ?_
 refine wS (vi v7) [] ⟨iz _ _ _ _ _ _ underlying3 rfl rfl rfl (jw hv7)⟩ ?_
 refine wN [13,17] ?_
 refine wo [] ⟨lb hv8⟩ ?_
 refine wN [18] ?_
 refine wo [] ⟨lb hv9⟩ ?_
 refine wN [3,9] ?_
 refine wS (.ptr 3 v10) [] ⟨gz _ _ _ _ 16 3 _ underlying124 fN rfl rfl (bA hv10).1 (bA hv10).2 (by decide)⟩ ?_
 refine wK [3] [20,19] ?_
 refine wt [(3,.arr 124 (map (int .i64) v11))] [] ⟨kQ _ _ _ _ _ _ fN rfl rfl rfl rfl (xR hv11) (yb (f:=int .i64) hv11)⟩ ?_
 refine we hn [1,2,3,4] ?_
 refine aM (ae ?_)
 obtain ⟨v12,hv12,h⟩:=zn h
 refine yx hn 1 ?_
 refine ys 0 ⟨lb hv12⟩ ?_
 refine yw [4] 1 ?_
 refine ye [1,2,3,4] ?_
 exact aS _ (zi h).symm rfl
 refine aO (ag (ag (aP ?_)))
 refine ar [1,2] (by kernel_rfl) (es':=[(_,_),(_,_)]) rfl ?_
 exact hl21 _ (ho23 _ (zi h).symm).symm
theorem sj (lengths:(List Int)) (r:((List Int)×Int)) (h:Sh.iG lengths=some r):bZ Tryd.prog 85 [.fl .shr 1 (map (int .i64) lengths)] (.tup [.fl (.own 3) 1 (map (int .i64) r.1),.v (.int .i64 r.2)]):=by
 unfold Sh.iG at h
 refine yO 42 func85 fun g0 hn hio => ?_
 refine aX hn 2 [0] ?_
 refine aa (aa ?_)
 obtain ⟨v1,hv1,h⟩:=zn h
 refine yx hn 1 ?_
 refine ys 1 ⟨lk call103 (qM _ _ hv1)⟩ ?_
 refine bi [0,4] ?_
 refine aX hn 2 [0,4,12] ?_
 refine zc h rfl (fun h => ?_) (fun h => ?_)
 refine aX hn 3 [2,3] ?_
 refine au ?_
 refine fM (fs:=[(2,.fl (.own 3) 1 (map (int .i64) [])),(3,vi v1)]) (.sub _ (bV 3 1) rfl (.same _ .nil)) ?_
 refine ap ?_
 obtain rfl:=zi h
 exact ay hio rfl (.tmp _ _ (.tmp _ _ .nil)) rfl rfl
 refine ak ?_
 refine ae (aa ?_)
 obtain ⟨v3,hv3,v4,hv4,v5,hv5,v6,hv6,h⟩:=gZ h
 refine yx hn 1 ?_
 refine ys 0 ⟨lk call105 (mj _ _ hv3)⟩ ?_
 refine ys 0 ⟨lk call104 (qe _ _ hv4)⟩ ?_
 refine yS (.arr 124 (map (int .i64) ((List.replicate 16 (0:Int))))) 0 ⟨oA (dP _ tF)⟩ ?_
 refine yk [5] [16] ?_
 refine yt (5,.arr 124 (map (int .i64) v4)) 0 ⟨dS _ _ _ _ (iD.trans (congrArg some (bY hv6))) rfl rfl (jP (fun _=>rfl) _) ((bY (f:=int .i64) hv5).symm.trans (bY (f:=int .i64) hv6))⟩ ?_
 refine bi [0,5] ?_
 refine aa ?_
 obtain ⟨v7,hv7,h⟩:=zn h
 refine yx hn 2 ?_
 refine yS (.fl (.own 3) 1 (map (int .i64) v7)) 0 ⟨kY (f:=int .i64) _ _ _ _ fg (by decide) kf rfl rfl rfl hv7⟩ ?_
 refine ya 0 ?_
 refine bi [0,5,6] ?_
 refine aa ?_
 refine aX hn 3 [5,6,20,21,22] ?_
 refine aH h (fun ((s39,s40,s41):(List Int)×(List Int)×Int)=>[(5,.arr 124 (map (int .i64) s39)),(6,.fl (.own 3) 1 (map (int .i64) s40)),(20,fi lengths),(21,vi (lengths.length:Int)),(22,vi s41)]) (fun (s50:(List Int))=>[(6,.fl (.own 3) 1 (map (int .i64) s50))]) ?_ ?_
 rintro s50 h
 refine ae ?_
 refine gG hn 0 ?_
 refine ym 0 ?_
 refine ya 1 ?_
 refine bi [2,3] ?_
 refine au ?_
 obtain rfl:=zi h
 exact ay hio rfl (.tmp _ _ (.tmp _ _ .nil)) rfl rfl
 rintro u51 hl52 hr53 ⟨s39,s40,s41⟩ rr56 h ho54
 refine aX hn 1 [5,6,20,21,22,23] ?_
 refine aa ?_
 refine zc h rfl (fun h => ?_) (fun h => ?_)
 refine ak ?_
 refine ae (aa ?_)
 refine aL h (fun ((s59,s60):(List Int)×(List Int))=>[(5,.arr 124 (map (int .i64) s59)),(6,.fl (.own 3) 1 (map (int .i64) s60)),(20,fi lengths),(21,vi (lengths.length:Int)),(22,vi s41)]) ?_ ?_
 rintro ⟨s59,s60⟩ h
 refine ae ?_
 obtain ⟨v27,hv27,h⟩:=zn h
 refine yx hn 0 ?_
 refine ys 0 ⟨lb hv27⟩ ?_
 refine yw [22] 1 ?_
 refine ye [5,6,20,21,22] ?_
 exact aS _ (zi h).symm rfl
 intro u61 h hl62 hr63
 refine aC (aa ?_)
 obtain ⟨v9,hv9,v10,hv10,h⟩:=eY h
 refine yx hn 1 ?_
 refine ys 0 ⟨li hv9⟩ ?_
 refine ys 2 ⟨ll hv10⟩ ?_
 refine bi [5,6,20,21,22,7,8] ?_
 refine aX hn 2 [5,6,20,21,22,7,8,28] ?_
 refine zc h rfl (fun h => ?_) (fun h => ?_)
 refine aa ?_
 obtain ⟨v12,hv12,v13,hv13,v14,hv14,v15,hv15,h⟩:=gZ h
 refine yx hn 3 ?_
 refine yS (.ptr 5 v12) 0 ⟨gz _ _ _ _ 16 5 _ underlying124 fN rfl rfl (bA hv12).1 (bA hv12).2 (by decide)⟩ ?_
 refine yS (vi v13) 0 ⟨iz _ _ _ _ _ _ underlying3 rfl rfl rfl (jw hv13)⟩ ?_
 refine ys 0 ⟨li hv14⟩ ?_
 refine yk [6] [34,33] ?_
 refine yt (6,.fl (.own 3) 1 (map (int .i64) v15)) 0 ⟨bU _ _ _ _ _ _ _ _ fN rfl rfl rfl (by decide) (dO (bA hv14).2) ((map_set (f:=int .i64) _ (bA hv14).2).trans (congrArg (map _) (Option.some.inj hv15)))⟩ ?_
 refine bi [5,6,20,21,22,8] ?_
 obtain ⟨v16,hv16,v17,hv17,v18,hv18,v19,hv19,h⟩:=gZ h
 obtain ⟨v20,hv20,h⟩:=zn h
 refine yx hn 1 ?_
 refine yS (.ptr 5 v16) 0 ⟨gz _ _ _ _ 16 5 _ underlying124 fN rfl rfl (bA hv16).1 (bA hv16).2 (by decide)⟩ ?_
 refine yS (vi v17) 0 ⟨iz _ _ _ _ _ _ underlying3 rfl rfl rfl (jw hv17)⟩ ?_
 refine ys 0 ⟨lb hv18⟩ ?_
 refine yS (.ptr 5 v19) 0 ⟨gz _ _ _ _ 16 5 _ underlying124 fN rfl rfl (bA hv19).1 (bA hv19).2 (by decide)⟩ ?_
 refine yk [5] [39,38] ?_
 refine yt (5,.arr 124 (map (int .i64) v20)) 0 ⟨kQ _ _ _ _ _ _ fN rfl rfl rfl rfl (xR hv20) (yb (f:=int .i64) hv20)⟩ ?_
 refine ye [5,6,20,21,22] ?_
 refine aM ?_
 exact hl62 _ (zi h).symm
 refine ak (aM ?_)
 refine ar [0,1,2,3,4] (by kernel_rfl) (es':=[(_,_),(_,_),(_,_),(_,_),(_,_)]) rfl ?_
 exact hl62 _ (zi h).symm
 refine aO (ag (ag (aP ?_)))
 refine ar [1] (by kernel_rfl) (es':=[(_,_)]) rfl ?_
 exact hl52 _ (ho54 _ (zi h).symm).symm
theorem dx (lengths:(List Int)) (r:bt) (h:Sh.cz lengths=some r):bZ Tryd.prog 61 [.fl .ro 1 (map (int .i64) lengths)] (.agg [.fl .ro 1 (map (int .i64) r.lengths),.fl .ro 1 (map (int .i64) r.codes)]):=by
 unfold Sh.cz at h
 refine yO 13 func61 fun g0 hn hio => ?_
 refine gG hn 0 ?_
 refine yS (.box 87 [vz,vz]) 0 ⟨oA (cG _ _ GX)⟩ ?_
 refine bi [0,2] ?_
 refine aa ?_
 obtain ⟨v1,hv1,h⟩:=zn h
 refine yx hn 1 ?_
 refine ys 0 ⟨lk call85 (sj _ _ hv1)⟩ ?_
 refine ym 0 ?_
 refine nX 1 ?_
 refine ya 1 ?_
 refine bi [0,2,3] ?_
 refine gG hn 1 ?_
 refine ym 0 ?_
 refine yk [11] [10] ?_
 refine yt (12,.agg [.fl .ro 1 (map (int .i64) lengths),.fl (.own 3) 1 (map (int .i64) v1.1)]) 0 ⟨ec _ _ _ _ [1,1] _ _ underlying87 GX (KP _ underlying87) (.copy _ (.take _ _ sr.nil)) rfl rfl rfl⟩ ?_
 refine yk [12,2] [] ?_
 refine yt (2,.box 87 [.fl .ro 1 (map (int .i64) lengths),.fl (.own 3) 1 (map (int .i64) v1.1)]) 0 ⟨aY _ _ _ _ _ _ _ _ Jj rfl rfl rfl (zl rfl) rfl rfl⟩ ?_
 refine bi [2] ?_
 refine au ?_
 refine HZ 0 hio (es':=[(2,.box 87 [.fl .ro 1 (map (int .i64) lengths),.fl .ro 1 (map (int .i64) v1.1)])]) rfl ?_
 obtain rfl:=zi h
 exact ay hio rfl (.cellA _ _ _ _ underlying87 rfl Jj .nil) rfl rfl
theorem ug (v:Int) (n:Int) (r:Bool) (h:Sh.kn v n=some r):bZ Tryd.prog 114 [.v (.int .i64 v),.v (.int .i64 n)] (.v (.bool r)):=by
 unfold Sh.kn at h
 refine yO 21 func114 fun g0 hn hio => ?_
 refine aX hn 1 [0,1] ?_
 refine aa ?_
 refine aL h (fun (s2:Bool)=>[(4,vb s2)]) ?_ ?_
 rintro s2 h
 refine ae (au ?_)
 obtain rfl:=zi h
 exact ay hio rfl (.tmp _ _ .nil) rfl rfl
 intro u3 h hl4 hr5
 refine aE h (fun hg1_2 h => ?_) (fun hg1_2 h => ?_)
 refine aE h (fun hg1_6 h => ?_) (fun hg1_6 h => ?_)
 refine aE h (fun hg1_10 h => ?_) (fun hg1_10 h => ?_)
 obtain ⟨v1,hv1,h⟩:=zn h
 refine yx hn 3 ?_
 refine yd hg1_2 4 ?_
 refine yd hg1_6 4 ?_
 refine yd hg1_10 2 ?_
 refine ys 3 ⟨lB (jy hv1)⟩ ?_
 refine ye [4] ?_
 exact hl4 _ (zi h).symm
 refine yx hn 3 ?_
 refine yd hg1_2 4 ?_
 refine yd hg1_6 4 ?_
 refine yd hg1_10 6 ?_
 refine ye [4] ?_
 exact hl4 _ (zi h).symm
 refine yx hn 3 ?_
 refine yd hg1_2 4 ?_
 refine yd hg1_6 10 ?_
 refine ye [4] ?_
 exact hl4 _ (zi h).symm
 refine yx hn 3 ?_
 refine yd hg1_2 14 ?_
 refine ye [4] ?_
 exact hl4 _ (zi h).symm
theorem tP (v:Int) (n:Int) (r:(Int×Int)) (h:Sh.jg v n=some r):bZ Tryd.prog 99 [.v (.int .i64 v),.v (.int .i64 n)] (.tup [.v (.int .i64 r.1),.v (.int .i64 r.2)]):=by
 unfold Sh.jg at h
 refine yO 27 func99 fun g0 hn hio => ?_
 refine aX hn 2 [0,1] ?_
 refine aa (aa ?_)
 obtain ⟨v1,hv1,h⟩:=zn h
 refine yx hn 2 ?_
 refine ys 1 ⟨lk call114 (ug _ _ _ hv1)⟩ ?_
 refine bi [0,1,11] ?_
 refine zc h rfl (fun h => ?_) (fun h => ?_)
 refine aX hn 2 [4,5] ?_
 refine au (ap ?_)
 obtain rfl:=zi h
 exact ay hio rfl (.tmp _ _ (.tmp _ _ .nil)) rfl rfl
 refine ak (ae ?_)
 refine aX hn 1 [0,1,6] ?_
 refine aa (aa ?_)
 obtain ⟨v3,hv3,h⟩:=zn h
 refine yx hn 1 ?_
 refine ys 1 ⟨lv hv3⟩ ?_
 refine bi [1,6,7] ?_
 refine aH h (fun ((s14,s15,s16):Int×Int×Int)=>[(1,vi s14),(6,.v (.int .u32 s15)),(7,.v (.int .u32 s16))]) (fun (s18:Int)=>[(6,.v (.int .u32 s18))]) ?_ ?_
 rintro s18 h
 refine ae (aa ?_)
 obtain ⟨v26,hv26,h⟩:=zn h
 refine yx hn 1 ?_
 refine ys 2 ⟨lv hv26⟩ ?_
 refine bi [4,5] ?_
 refine au ?_
 obtain rfl:=zi h
 exact ay hio rfl (.tmp _ _ (.tmp _ _ .nil)) rfl rfl
 rintro u19 hl20 hr21 ⟨s14,s15,s16⟩ rr24 h ho22
 refine aa ?_
 refine aX hn 2 [1,6,7,15] ?_
 refine zc h rfl (fun h => ?_) (fun h => ?_)
 refine ak ?_
 refine ae (aa ?_)
 refine aC (aa ?_)
 obtain ⟨v5,hv5,v6,hv6,v7,hv7,h⟩:=kg h
 refine yx hn 1 ?_
 refine ys 1 ⟨lB (jy hv5)⟩ ?_
 refine ys 0 ⟨lb hv6⟩ ?_
 refine ys 0 ⟨lb hv7⟩ ?_
 refine yw [6] 1 ?_
 refine bi [1,7,6] ?_
 obtain ⟨v8,hv8,h⟩:=zn h
 refine yx hn 1 ?_
 refine ys 0 ⟨lB (uJ hv8)⟩ ?_
 refine yw [7] 1 ?_
 refine ye [1,6,7] ?_
 refine aM (ae ?_)
 obtain ⟨v9,hv9,h⟩:=zn h
 refine yx hn 1 ?_
 refine ys 0 ⟨lb hv9⟩ ?_
 refine yw [1] 1 ?_
 refine ye [6,7,1] ?_
 refine ar [2,0,1] (by kernel_rfl) (es':=[(_,_),(_,_),(_,_)]) rfl ?_
 exact aS _ (zi h).symm rfl
 refine aO (ag (ag (aP ?_)))
 refine ar [1] (by kernel_rfl) (es':=[(_,_)]) rfl ?_
 exact hl20 _ (ho22 _ (zi h).symm).symm
theorem cW (w:af) (c:bt) (s:Int) (r:af) (h:Sh.bo w c s=some r):sv Tryd.prog 82 [.box 57 [.fl (.own 5) 1 (map (int .u8) w.b),.v (.int .i64 w.n)],.agg [.fl .shr 1 (map (int .i64) c.lengths),.fl .shr 1 (map (int .i64) c.codes)],.v (.int .i64 s)] [.box 57 [.fl (.own 5) 1 (map (int .u8) r.b),.v (.int .i64 r.n)]] (.tup []):=by
 unfold Sh.bo at h
 refine yP 30 func82 fun args0 hargs0 g0 hn hio => ?_
 refine aX hn 1 [0,2,4,0] ?_
 refine aa ?_
 obtain ⟨v1,hv1,v2,hv2,v3,hv3,v4,hv4,h⟩:=gZ h
 obtain ⟨v5,hv5,h⟩:=zn h
 refine wb [[4],[9,4],[2]] ?_
 refine wN [10,11] ?_
 refine wo [] ⟨li hv1⟩ ?_
 refine wN [12,10] ?_
 refine wo [[4],[14,4],[2]] ⟨ll hv2⟩ ?_
 refine wN [15,16] ?_
 refine wo [] ⟨li hv3⟩ ?_
 refine wN [17,15] ?_
 refine wo [] ⟨ll hv4⟩ ?_
 refine wN [13,18] ?_
 refine wo [] ⟨lk call99 (tP _ _ _ hv5)⟩ ?_
 refine wK [19] [] ?_
 refine wt [(8,.tup [vi v5.1,vi v5.2])] [[8],[8],[20],[21]] ⟨oC _ _ _ _ rfl⟩ ?_
 refine zP hn [0,2,4,6,0] ?_
 obtain ⟨v6,hv6,v7,hv7,v8,hv8,h⟩:=kg h
 refine yx hn 5 ?_
 refine ys 0 ⟨li hv6⟩ ?_
 refine ys 0 ⟨ll hv7⟩ ?_
 refine yQ call55 (bp _ _ _ _ hv8) 0 [22,23,28] 0 ?_
 refine ye [0,0] ?_
 obtain rfl:=zi h
 exact oO (es:=[]) (posts:=[.box 57 [.fl (.own 5) 1 (map (int .u8) v8.b),.v (.int .i64 v8.n)]]) hio rfl rfl .nil rfl rfl hargs0 rfl
theorem wB (r:bF) (h:Sh.rq  = some r):bZ Tryd.prog 100 [] (.agg [.v (.int .i64 r.least),.v (.int .i64 r.singles),.v (.int .i64 r.group)]):=by
 unfold Sh.rq at h
 refine yO 2 func100 fun g0 hn hio => ?_
 refine gG hn 0 ?_
 refine yS (.box 119 [vi 0,vi 0,vi 0]) 0 ⟨oA (cG _ _ zC)⟩ ?_
 refine bi [0] ?_
 refine gG hn 0 ?_
 refine yS (.agg [vi 3,vi 8,vi 4]) 1 ⟨ec _ _ _ _ [1,1,1] _ _ underlying119 zC (GP _ underlying119) (.copy _ (.copy _ (.copy _ sr.nil))) rfl rfl rfl⟩ ?_
 refine bi [0] ?_
 refine au ?_
 obtain rfl:=zi h
 exact ay hio rfl (.cellA _ _ _ _ underlying119 rfl GU .nil) rfl rfl
theorem mW (s:bF) (sym:Int) (r:(Int×Int)) (h:Sh.eR s sym=some r):bZ Tryd.prog 115 [.agg [.v (.int .i64 s.least),.v (.int .i64 s.singles),.v (.int .i64 s.group)],.v (.int .i64 sym)] (.tup [.v (.int .i64 r.1),.v (.int .i64 r.2)]):=by
 unfold Sh.eR at h
 refine yO 46 func115 fun g0 hn hio => ?_
 refine aX hn 3 [1,2] ?_
 refine aa ?_
 refine aX hn 4 [1,2,10] ?_
 refine zc h rfl (fun h => ?_) (fun h => ?_)
 refine aa ?_
 obtain ⟨v2,hv2,h⟩:=zn h
 refine yx hn 3 ?_
 refine ys 2 ⟨lb hv2⟩ ?_
 refine bi [4,5] ?_
 refine au (ap ?_)
 obtain rfl:=zi h
 exact ay hio rfl (.tmp _ _ (.tmp _ _ .nil)) rfl rfl
 refine ak ?_
 refine ae (aa ?_)
 obtain ⟨v3,hv3,h⟩:=zn h
 refine yx hn 4 ?_
 refine ys 1 ⟨lb hv3⟩ ?_
 refine bi [1,2,4] ?_
 refine aX hn 1 [1,2,4,6] ?_
 refine aa (aa ?_)
 obtain ⟨v4,hv4,h⟩:=zn h
 refine yx hn 3 ?_
 refine ys 0 ⟨lb hv4⟩ ?_
 refine yw [1] 1 ?_
 refine bi [2,4,6,1] ?_
 refine aH h (fun ((s14,s15,s16):Int×Int×Int)=>[(2,.box 119 [vi s.least,vi s.singles,vi s.group]),(4,vi s14),(6,vi s15),(1,vi s16)]) (fun ((s18,s19,s20):Int×Int×Int)=>[(4,vi s18),(6,vi s19),(1,vi s20)]) ?_ ?_
 rintro ⟨s18,s19,s20⟩ h
 refine ae (aa ?_)
 obtain ⟨v28,hv28,v29,hv29,h⟩:=eY h
 refine yx hn 3 ?_
 refine ys 0 ⟨lB (jy hv28)⟩ ?_
 refine ys 1 ⟨lb hv29⟩ ?_
 refine yw [4] 2 ?_
 refine bi [4,5] ?_
 refine au ?_
 obtain rfl:=zi h
 exact ay hio rfl (.tmp _ _ (.tmp _ _ .nil)) rfl rfl
 rintro u21 hl22 hr23 ⟨s14,s15,s16⟩ rr26 h ho24
 refine aa ?_
 refine aX hn 4 [2,4,6,1,27] ?_
 refine zc h rfl (fun h => ?_) (fun h => ?_)
 refine ak ?_
 refine ae (aa ?_)
 refine aC (aa ?_)
 obtain ⟨v6,hv6,v7,hv7,h⟩:=eY h
 refine yx hn 4 ?_
 refine ys 0 ⟨lB (jy hv6)⟩ ?_
 refine ys 0 ⟨lb hv7⟩ ?_
 refine yw [4] 1 ?_
 refine bi [2,6,1,4] ?_
 obtain ⟨v8,hv8,h⟩:=zn h
 refine yx hn 1 ?_
 refine ys 0 ⟨lb hv8⟩ ?_
 refine yw [6] 1 ?_
 refine ye [2,1,4,6] ?_
 refine aM (ae ?_)
 obtain ⟨v9,hv9,h⟩:=zn h
 refine yx hn 3 ?_
 refine ys 0 ⟨lb hv9⟩ ?_
 refine yw [1] 1 ?_
 refine ye [2,4,6,1] ?_
 exact aS _ (zi h).symm rfl
 refine aO (ag (ag (aP ?_)))
 refine ar [1,2,3] (by kernel_rfl) (es':=[(_,_),(_,_),(_,_)]) rfl ?_
 exact hl22 _ (ho24 _ (zi h).symm).symm
theorem jQ (s:bF) (n:Int) (r:(Int×Int×Int)) (h:Sh.fG s n=some r):bZ Tryd.prog 101 [.agg [.v (.int .i64 s.least),.v (.int .i64 s.singles),.v (.int .i64 s.group)],.v (.int .i64 n)] (.tup [.v (.int .i64 r.1),.v (.int .i64 r.2.1),.v (.int .i64 r.2.2)]):=by
 unfold Sh.fG at h
 refine yO 28 func101 fun g0 hn hio => ?_
 refine aX hn 4 [1,2,4] ?_
 refine aH h (fun (s9:Int)=>[(1,vi n),(2,.box 119 [vi s.least,vi s.singles,vi s.group]),(4,vi s9)]) (fun (():Unit)=>[]) ?_ ?_
 rintro ⟨⟩ h
 cases h
 rintro u11 hl12 hr13 s9 rr16 h ho14
 refine aC (aa ?_)
 obtain ⟨v1,hv1,h⟩:=zn h
 refine yx hn 2 ?_
 refine ys 0 ⟨lk call115 (mW _ _ _ hv1)⟩ ?_
 refine ym 4 ?_
 refine bi [1,2,4,7,8] ?_
 refine aa (aa ?_)
 obtain ⟨v2,hv2,v3,hv3,h⟩:=eY h
 refine yx hn 2 ?_
 refine ys 1 ⟨lb hv2⟩ ?_
 refine ys 1 ⟨lB (jy hv3)⟩ ?_
 refine bi [1,2,4,7,8,20] ?_
 refine zc h rfl (fun h => ?_) (fun h => ?_)
 refine aa ?_
 obtain ⟨v5,hv5,h⟩:=zn h
 refine yx hn 4 ?_
 refine ys 0 ⟨lb hv5⟩ ?_
 refine yw [4] 3 ?_
 refine bi [4,5,6] ?_
 refine au (ap (bI (ap (bI ?_))))
 have h:=hr13 _ (ho14 _ (zi h).symm).symm
 obtain rfl:=zi h
 exact ay hio rfl (.tmp _ _ (.tmp _ _ (.tmp _ _ .nil))) rfl rfl
 refine ak (ae ?_)
 obtain ⟨v6,hv6,h⟩:=zn h
 refine yx hn 1 ?_
 refine ys 0 ⟨lb hv6⟩ ?_
 refine yw [4] 1 ?_
 refine ye [1,2,4] ?_
 refine aM ?_
 exact aS _ (zi h).symm rfl
theorem rI (n:Int) (r:(Int×Int×Int×Int)) (h:Sh.fy n=some r):bZ Tryd.prog 83 [.v (.int .i64 n)] (.tup [.v (.int .i64 r.1),.v (.int .i64 r.2.1),.v (.int .i64 r.2.2.1),.v (.int .i64 r.2.2.2)]):=by
 unfold Sh.fy at h
 refine yO 25 func83 fun g0 hn hio => ?_
 refine aX hn 4 [0] ?_
 refine aa (aa ?_)
 refine aL h (fun (s1:Bool)=>[(0,vi n),(11,vb s1)]) ?_ ?_
 rintro s1 h
 refine ae ?_
 refine zc h rfl (fun h => ?_) (fun h => ?_)
 refine aX hn 4 [2,3,4,5] ?_
 refine au (ap ?_)
 obtain rfl:=zi h
 exact ay hio rfl (.tmp _ _ (.tmp _ _ (.tmp _ _ (.tmp _ _ .nil)))) rfl rfl
 refine ak ?_
 refine ae (aa ?_)
 refine aX hn 2 [0,13] ?_
 refine zc h rfl (fun h => ?_) (fun h => ?_)
 refine aX hn 4 [2,3,4,5] ?_
 refine au (ap ?_)
 obtain rfl:=zi h
 exact ay hio rfl (.tmp _ _ (.tmp _ _ (.tmp _ _ (.tmp _ _ .nil)))) rfl rfl
 refine ak ?_
 refine ae (aa ?_)
 obtain ⟨v7,hv7,v8,hv8,h⟩:=eY h
 refine yx hn 0 ?_
 refine ys 1 ⟨lk call100 (wB _ hv7)⟩ ?_
 refine ys 0 ⟨lk call101 (jQ _ _ _ hv8)⟩ ?_
 refine ym 6 ?_
 refine bi [2,3,4] ?_
 refine aa ?_
 obtain ⟨v9,hv9,h⟩:=zn h
 refine yx hn 1 ?_
 refine ys 2 ⟨lb hv9⟩ ?_
 refine yw [2] 1 ?_
 refine yw [3] 1 ?_
 refine yw [4] 2 ?_
 refine bi [2,3,4,5] ?_
 refine au ?_
 obtain rfl:=zi h
 exact ay hio rfl (.tmp _ _ (.tmp _ _ (.tmp _ _ (.tmp _ _ .nil)))) rfl rfl
 intro u2 h hl3 hr4
 refine aE h (fun hg1_2 h => ?_) (fun hg1_2 h => ?_)
 refine yx hn 3 ?_
 refine yd hg1_2 3 ?_
 refine ye [0,11] ?_
 exact hl3 _ (zi h).symm
 refine yx hn 3 ?_
 refine yd hg1_2 3 ?_
 refine ye [0,11] ?_
 exact hl3 _ (zi h).symm
theorem tV (r:bF) (h:Sh.pB  = some r):bZ Tryd.prog 102 [] (.agg [.v (.int .i64 r.least),.v (.int .i64 r.singles),.v (.int .i64 r.group)]):=by
 unfold Sh.pB at h
 refine yO 2 func102 fun g0 hn hio => ?_
 refine gG hn 0 ?_
 refine yS (.box 119 [vi 0,vi 0,vi 0]) 0 ⟨oA (cG _ _ zC)⟩ ?_
 refine bi [0] ?_
 refine gG hn 0 ?_
 refine yS (.agg [vi 1,vi 4,vi 2]) 1 ⟨ec _ _ _ _ [1,1,1] _ _ underlying119 zC (GP _ underlying119) (.copy _ (.copy _ (.copy _ sr.nil))) rfl rfl rfl⟩ ?_
 refine bi [0] ?_
 refine au ?_
 obtain rfl:=zi h
 exact ay hio rfl (.cellA _ _ _ _ underlying119 rfl GU .nil) rfl rfl
theorem pY (n:Int) (r:(Int×Int×Int×Int)) (h:Sh.eP n=some r):bZ Tryd.prog 84 [.v (.int .i64 n)] (.tup [.v (.int .i64 r.1),.v (.int .i64 r.2.1),.v (.int .i64 r.2.2.1),.v (.int .i64 r.2.2.2)]):=by
 unfold Sh.eP at h
 refine yO 22 func84 fun g0 hn hio => ?_
 refine aX hn 4 [0] ?_
 refine aa (aa ?_)
 refine aL h (fun (s1:Bool)=>[(0,vi n),(11,vb s1)]) ?_ ?_
 rintro s1 h
 refine ae ?_
 refine zc h rfl (fun h => ?_) (fun h => ?_)
 refine aX hn 4 [2,3,4,5] ?_
 refine au (ap ?_)
 obtain rfl:=zi h
 exact ay hio rfl (.tmp _ _ (.tmp _ _ (.tmp _ _ (.tmp _ _ .nil)))) rfl rfl
 refine ak ?_
 refine ae (aa ?_)
 obtain ⟨v6,hv6,v7,hv7,h⟩:=eY h
 refine yx hn 0 ?_
 refine ys 1 ⟨lk call102 (tV _ hv6)⟩ ?_
 refine ys 0 ⟨lk call101 (jQ _ _ _ hv7)⟩ ?_
 refine ym 6 ?_
 refine bi [2,3,4] ?_
 refine gG hn 3 ?_
 refine yw [2] 1 ?_
 refine yw [3] 1 ?_
 refine yw [4] 2 ?_
 refine bi [2,3,4,5] ?_
 refine au ?_
 obtain rfl:=zi h
 exact ay hio rfl (.tmp _ _ (.tmp _ _ (.tmp _ _ (.tmp _ _ .nil)))) rfl rfl
 intro u2 h hl3 hr4
 refine aE h (fun hg1_2 h => ?_) (fun hg1_2 h => ?_)
 refine yx hn 3 ?_
 refine yd hg1_2 3 ?_
 refine ye [0,11] ?_
 exact hl3 _ (zi h).symm
 refine yx hn 3 ?_
 refine yd hg1_2 3 ?_
 refine ye [0,11] ?_
 exact hl3 _ (zi h).symm
theorem fI (w:af) (l:(List al)) (lits:bt) (dists:bt) (r:af) (h:Sh.cD w l lits dists=some r):sv Tryd.prog 60 [.box 57 [.fl (.own 5) 1 (map (int .u8) w.b),.v (.int .i64 w.n)],.fl .shr 3 (flatten (map al.enc l)),.agg [.fl .shr 1 (map (int .i64) lits.lengths),.fl .shr 1 (map (int .i64) lits.codes)],.agg [.fl .shr 1 (map (int .i64) dists.lengths),.fl .shr 1 (map (int .i64) dists.codes)]] [.box 57 [.fl (.own 5) 1 (map (int .u8) r.b),.v (.int .i64 r.n)]] (.tup []):=by
 unfold Sh.cD at h
 refine yP 65 func60 fun args0 hargs0 g0 hn hio => ?_
 refine aX hn 2 [0,1,6,7,0] ?_
 refine aa ?_
 refine aX hn 3 [0,6,7,14,15,16,0] ?_
 refine aH h (fun ((s31,s32,s33):(List Int)×Int×Int)=>[(0,.box 57 [.fl (.own 5) 1 (map (int .u8) s31),vi s32]),(6,.box 87 [fi lits.lengths,fi lits.codes]),(7,.box 87 [fi dists.lengths,fi dists.codes]),(14,.fl .shr 3 (flatten (map al.enc l))),(15,vi (l.length:Int)),(16,vi s33),(0,.v (List.getD args0 0 undef))]) (fun ((s42,s43):(List Int)×Int)=>[(0,.box 57 [.fl (.own 5) 1 (map (int .u8) s42),vi s43]),(6,.box 87 [fi lits.lengths,fi lits.codes]),(0,.v (List.getD args0 0 undef))]) ?_ ?_
 rintro ⟨s42,s43⟩ h
 refine ae ?_
 obtain ⟨v58,hv58,h⟩:=zn h
 refine yx hn 2 ?_
 refine yQ call82 (cW _ _ _ _ hv58) 0 [62,63] 0 ?_
 refine ye [0,0] ?_
 obtain rfl:=zi h
 exact oO (es:=[]) (posts:=[.box 57 [.fl (.own 5) 1 (map (int .u8) v58.b),.v (.int .i64 v58.n)]]) hio rfl rfl .nil rfl rfl hargs0 rfl
 rintro u44 hl45 hr46 ⟨s31,s32,s33⟩ rr49 h ho47
 refine aX hn 1 [0,6,7,14,15,16,17,0] ?_
 refine aa ?_
 refine zc h rfl (fun h => ?_) (fun h => ?_)
 refine ak ?_
 refine ae (aa ?_)
 refine aL h (fun ((s52,s53):(List Int)×Int)=>[(0,.box 57 [.fl (.own 5) 1 (map (int .u8) s52),vi s53]),(6,.box 87 [fi lits.lengths,fi lits.codes]),(7,.box 87 [fi dists.lengths,fi dists.codes]),(14,.fl .shr 3 (flatten (map al.enc l))),(15,vi (l.length:Int)),(16,vi s33),(0,.v (List.getD args0 0 undef))]) ?_ ?_
 rintro ⟨s52,s53⟩ h
 refine ae ?_
 obtain ⟨v19,hv19,h⟩:=zn h
 refine yx hn 0 ?_
 refine ys 0 ⟨lb hv19⟩ ?_
 refine yw [16] 1 ?_
 refine ye [0,6,7,14,15,16,0] ?_
 exact aS _ (zi h).symm rfl
 intro u54 h hl55 hr56
 refine aC (aa ?_)
 obtain ⟨v2,hv2,v3,hv3,h⟩:=eY h
 refine yx hn 0 ?_
 refine ys 0 ⟨lj hv2⟩ ?_
 refine yS (.agg [.v (.int .u8 v3.LG),vi v3.LI,vi v3.LH]) 0 ⟨nu _ _ _ _ _ _ _ underlying53 rfl Bm rfl rfl (nJ al.len hv3) rfl (by decide)⟩ ?_
 refine yS (.box 53 [.v (.int .u8 0),vi 0,vi 0]) 1 ⟨oA (cG _ _ sw)⟩ ?_
 refine bi [0,6,7,14,15,16,9,0] ?_
 refine aa ?_
 refine aX hn 3 [0,6,7,14,15,16,9,22,0] ?_
 refine zc h rfl (fun h => ?_) (fun h => ?_)
 refine aa ?_
 obtain ⟨v5,hv5,v6,hv6,h⟩:=eY h
 refine yx hn 4 ?_
 refine ys 0 ⟨lv hv5⟩ ?_
 refine yQ call82 (cW _ _ _ _ hv6) 0 [23,24,27] 0 ?_
 refine bi [0,6,7,14,15,16,0] ?_
 refine aO (ag (aP ?_))
 exact hl55 _ (zi h).symm
 refine ak ?_
 refine ae (aa ?_)
 obtain ⟨v7,hv7,h⟩:=zn h
 refine yx hn 2 ?_
 refine ys 0 ⟨lk call83 (rI _ _ hv7)⟩ ?_
 refine ym 8 ?_
 refine bi [0,6,7,14,15,16,9,10,11,12,0] ?_
 refine aa ?_
 obtain ⟨v8,hv8,h⟩:=zn h
 refine yx hn 3 ?_
 refine yQ call82 (cW _ _ _ _ hv8) 0 [37,38,39] 0 ?_
 refine bi [0,6,7,14,15,16,9,11,12,0] ?_
 refine aa ?_
 obtain ⟨v9,hv9,h⟩:=zn h
 refine yx hn 3 ?_
 refine yQ call55 (bp _ _ _ _ hv9) 0 [41,42,43] 0 ?_
 refine bi [0,6,7,14,15,16,9,0] ?_
 refine aa ?_
 obtain ⟨v10,hv10,h⟩:=zn h
 refine yx hn 2 ?_
 refine ys 0 ⟨lk call84 (pY _ _ hv10)⟩ ?_
 refine ym 7 ?_
 refine bi [0,6,7,14,15,16,10,11,12,0] ?_
 refine aa ?_
 obtain ⟨v11,hv11,h⟩:=zn h
 refine yx hn 3 ?_
 refine yQ call82 (cW _ _ _ _ hv11) 0 [53,54,55] 0 ?_
 refine bi [0,6,7,14,15,16,11,12,0] ?_
 obtain ⟨v12,hv12,h⟩:=zn h
 refine yx hn 3 ?_
 refine yQ call55 (bp _ _ _ _ hv12) 0 [57,58,59] 0 ?_
 refine ye [0,6,7,14,15,16,0] ?_
 refine aM ?_
 exact hl55 _ (zi h).symm
 refine aO (ag (ag (aP ?_)))
 refine ar [0,1,7] (by kernel_rfl) (es':=[(_,_),(_,_),(_,_)]) rfl ?_
 exact hl45 _ (ho47 _ (zi h).symm).symm
theorem iA (l:(List al)) (r:(Option af)) (h:Sh.da l=some r):bZ Tryd.prog 35 [.fl .shr 3 (flatten (map al.enc l))] (.obox (Option.isSome r) 57 [.fl (.own 5) 1 (map (int .u8) (((Option.getD r (default:af))).b)),.v (.int .i64 (((Option.getD r (default:af))).n))]):=by
 unfold Sh.da at h
 refine yO 19 func35 fun g0 hn hio => ?_
 refine aX hn 1 [0] ?_
 refine aa ?_
 obtain ⟨v1,hv1,h⟩:=zn h
 refine yx hn 0 ?_
 refine ys 0 ⟨lk call54 (gu _ _ hv1)⟩ ?_
 refine ya 0 ?_
 refine ye [0,3] ?_
 refine Av (d:=default) (f:=fun (v2:af)=>[.fl (.own 5) 1 (map (int .u8) v2.b),.v (.int .i64 v2.n)]) 1 2 3 57 h (es1:=fun v2=>[(0,.fl .shr 3 (flatten (map al.enc l))),(3,.box 57 [.fl (.own 5) 1 (map (int .u8) v2.b),.v (.int .i64 v2.n)])]) (es0:=[(0,.fl .shr 3 (flatten (map al.enc l))),(3,.v (.pointer none))]) rfl (fun _=>rfl) (by kernel_rfl) (fun _=>rfl) (fun _=>rfl) rfl (fun v2 hv3 h => ?_) (fun hv3 h => ?_)
 refine ae (aa ?_)
 obtain ⟨v4,hv4,h⟩:=zn h
 refine yx hn 0 ?_
 refine ys 0 ⟨lk call59 (uO _ hv4)⟩ ?_
 refine ym 0 ?_
 refine nX 0 ?_
 refine nX 0 ?_
 refine ya 0 ?_
 refine ya 0 ?_
 refine bi [0,3,4,5] ?_
 refine aa ?_
 refine mi 2 hio (es':=[(0,.fl .shr 3 (flatten (map al.enc l))),(3,.box 57 [.fl (.own 5) 1 (map (int .u8) v2.b),.v (.int .i64 v2.n)]),(4,.fl .ro 1 (map (int .i64) v4.1)),(5,.fl (.own 3) 1 (map (int .i64) v4.2))]) rfl ?_
 refine mi 3 hio (es':=[(0,.fl .shr 3 (flatten (map al.enc l))),(3,.box 57 [.fl (.own 5) 1 (map (int .u8) v2.b),.v (.int .i64 v2.n)]),(4,.fl .ro 1 (map (int .i64) v4.1)),(5,.fl .ro 1 (map (int .i64) v4.2))]) rfl ?_
 obtain ⟨v5,hv5,v6,hv6,v7,hv7,h⟩:=kg h
 refine yx hn 3 ?_
 refine ys 1 ⟨lr call61 (dx _ _ hv5)⟩ ?_
 refine ys 0 ⟨lr call61 (dx _ _ hv6)⟩ ?_
 refine yQ call60 (fI _ _ _ _ _ hv7) 3 [11,12,14,16] 0 ?_
 refine bi [3] ?_
 refine gG hn 0 ?_
 refine ym 0 ?_
 refine ya 0 ?_
 refine bi [2] ?_
 refine au ?_
 refine fM (fs:=[(2,.obox true 57 [.fl (.own 5) 1 (map (int .u8) v7.b),vi v7.n])]) (.sub _ (jG 57 (mE _)) rfl .nil) ?_
 obtain rfl:=zi h
 exact ay hio rfl (.tmp _ _ .nil) rfl rfl
 cases h
theorem qg (b:(List Int)) (r:((List Int)×Int)) (h:Sh.fP b=some r):bZ Tryd.prog 14 [.fl .shr 1 (map (int .u8) b)] (.tup [.fl (.own 5) 1 (map (int .u8) r.1),.v (.int .i64 r.2)]):=by
 unfold Sh.fP at h
 refine yO 19 func14 fun g0 hn hio => ?_
 refine aX hn 2 [0] ?_
 refine aa ?_
 obtain ⟨v1,hv1,h⟩:=zn h
 refine yx hn 1 ?_
 refine ys 0 ⟨lk call34 (iV _ _ hv1)⟩ ?_
 refine ym 0 ?_
 refine nX 1 ?_
 refine ya 1 ?_
 refine bi [4,5] ?_
 refine aa ?_
 refine aX hn 2 [4,5,12] ?_
 refine zc h rfl (fun h => ?_) (fun h => ?_)
 refine aX hn 3 [2,3] ?_
 refine au ?_
 refine fM (fs:=[(2,.fl (.own 5) 1 (map (int .u8) [])),(3,vi v1.2)]) (.sub _ (bV 5 1) rfl (.same _ .nil)) ?_
 refine ap ?_
 obtain rfl:=zi h
 exact ay hio rfl (.tmp _ _ (.tmp _ _ .nil)) rfl rfl
 refine ak ?_
 refine ae (aa ?_)
 obtain ⟨v3,hv3,v4,hv4,h⟩:=eY h
 refine yx hn 0 ?_
 refine ym 0 ?_
 refine ys 0 ⟨lk call35 (iA _ _ hv3)⟩ ?_
 refine yk [15] [] ?_
 refine qk (15,.box 57 [.fl (.own 5) 1 (map (int .u8) v4.b),vi v4.n]) (16,.ptr 15 0) 2 ⟨jE _ 16 15 2 (by rw [hv4]; rfl) (by rw [hv4]; rfl) rfl (by decide) rfl rfl⟩ ?_
 refine yk [15] [18] ?_
 refine qk (15,.box 57 [.any,vi v4.n]) (2,.fl (.own 5) 1 (map (int .u8) v4.b)) 1 ⟨jq _ 2 15 0 rfl rfl (zl rfl) rfl (by decide) rfl⟩ ?_
 refine bi [2,3] ?_
 refine au ?_
 obtain rfl:=zi h
 exact ay hio rfl (.tmp _ _ (.tmp _ _ .nil)) rfl rfl
theorem iZ (t:al) (r:Bool) (h:Sh.dT t=some r):bZ Tryd.prog 106 [.agg [.v (.int .u8 t.LG),.v (.int .i64 t.LI),.v (.int .i64 t.LH)]] (.v (.bool r)):=by
 unfold Sh.dT at h
 refine yO 26 func106 fun g0 hn hio => ?_
 refine aX hn 2 [1] ?_
 refine aa ?_
 refine aL h (fun (s1:Bool)=>[(2,vb s1)]) ?_ ?_
 rintro s1 h
 refine ae (au ?_)
 obtain rfl:=zi h
 exact ay hio rfl (.tmp _ _ .nil) rfl rfl
 intro u2 h hl3 hr4
 refine aE h (fun hg1_3 h => ?_) (fun hg1_3 h => ?_)
 refine aE h (fun hg1_8 h => ?_) (fun hg1_8 h => ?_)
 refine aE h (fun hg1_13 h => ?_) (fun hg1_13 h => ?_)
 refine aE h (fun hg1_18 h => ?_) (fun hg1_18 h => ?_)
 refine yx hn 4 ?_
 refine yd hg1_3 5 ?_
 refine yd hg1_8 5 ?_
 refine yd hg1_13 5 ?_
 refine yd hg1_18 5 ?_
 refine ye [2] ?_
 exact hl3 _ (zi h).symm
 refine yx hn 4 ?_
 refine yd hg1_3 5 ?_
 refine yd hg1_8 5 ?_
 refine yd hg1_13 5 ?_
 refine yd hg1_18 5 ?_
 refine ye [2] ?_
 exact hl3 _ (zi h).symm
 refine yx hn 4 ?_
 refine yd hg1_3 5 ?_
 refine yd hg1_8 5 ?_
 refine yd hg1_13 10 ?_
 refine ye [2] ?_
 exact hl3 _ (zi h).symm
 refine yx hn 4 ?_
 refine yd hg1_3 5 ?_
 refine yd hg1_8 15 ?_
 refine ye [2] ?_
 exact hl3 _ (zi h).symm
 refine yx hn 4 ?_
 refine yd hg1_3 20 ?_
 refine ye [2] ?_
 exact hl3 _ (zi h).symm
theorem qB (l:(List al)) (r:Int) (h:Sh.eV l=some r):bZ Tryd.prog 86 [.fl .shr 3 (flatten (map al.enc l))] (.v (.int .i64 r)):=by
 unfold Sh.eV at h
 refine yO 39 func86 fun g0 hn hio => ?_
 refine aX hn 1 [0] ?_
 refine aX hn 1 [0,3] ?_
 refine aa ?_
 refine aX hn 3 [3,6,7,8] ?_
 refine aH h (fun ((s115,s116):Int×Int)=>[(3,vi s115),(6,.fl .shr 3 (flatten (map al.enc l))),(7,vi (l.length:Int)),(8,vi s116)]) (fun (s170:Int)=>[(3,vi s170)]) ?_ ?_
 rintro s170 h
 refine ae (aa ?_)
 refine aX hn 2 [38] ?_
 refine zc h rfl (fun h => ?_) (fun h => ?_)
 refine aX hn 1 [2] ?_
 refine au (ap ?_)
 obtain rfl:=zi h
 exact ay hio rfl (.tmp _ _ .nil) rfl rfl
 refine ak (ae ?_)
 refine aX hn 1 [2] ?_
 refine au ?_
 obtain rfl:=zi h
 exact ay hio rfl (.tmp _ _ .nil) rfl rfl
 rintro u171 hl172 hr173 ⟨s115,s116⟩ rr176 h ho174
 refine aX hn 1 [3,6,7,8,9] ?_
 refine aa ?_
 refine zc h rfl (fun h => ?_) (fun h => ?_)
 refine ak ?_
 refine ae (aa ?_)
 refine aL h (fun (s202:Int)=>[(6,.fl .shr 3 (flatten (map al.enc l))),(7,vi (l.length:Int)),(8,vi s116),(3,vi s202)]) ?_ ?_
 rintro s202 h
 refine ae ?_
 obtain ⟨v59,hv59,h⟩:=zn h
 refine yx hn 0 ?_
 refine ys 0 ⟨lb hv59⟩ ?_
 refine yw [8] 1 ?_
 refine ye [6,7,3,8] ?_
 refine ar [2,0,1,3] (by kernel_rfl) (es':=[(_,_),(_,_),(_,_),(_,_)]) rfl ?_
 exact aS _ (zi h).symm rfl
 intro u203 h hl204 hr205
 refine aC (aa ?_)
 obtain ⟨v2,hv2,v3,hv3,h⟩:=eY h
 refine yx hn 0 ?_
 refine ys 0 ⟨lj hv2⟩ ?_
 refine yS (.agg [.v (.int .u8 v3.LG),vi v3.LI,vi v3.LH]) 0 ⟨nu _ _ _ _ _ _ _ underlying53 rfl Bm rfl rfl (nJ al.len hv3) rfl (by decide)⟩ ?_
 refine yS (.box 53 [.v (.int .u8 0),vi 0,vi 0]) 1 ⟨oA (cG _ _ sw)⟩ ?_
 refine bi [3,6,7,8,5] ?_
 refine aL h (fun (s216:Int)=>[(6,.fl .shr 3 (flatten (map al.enc l))),(7,vi (l.length:Int)),(8,vi s116),(3,vi s216)]) ?_ ?_
 rintro s216 h
 refine aM ?_
 exact hl204 _ (zi h).symm
 intro u217 h hl218 hr219
 refine aC (aa ?_)
 refine aL h (fun (s220:Bool)=>[(3,vi s115),(6,.fl .shr 3 (flatten (map al.enc l))),(7,vi (l.length:Int)),(8,vi s116),(5,.box 53 [.v (.int .u8 v3.LG),vi v3.LI,vi v3.LH]),(12,vb s220)]) ?_ ?_
 rintro s220 h
 refine ae ?_
 refine zc h rfl (fun h => ?_) (fun h => ?_)
 obtain ⟨v9,hv9,h⟩:=zn h
 refine yx hn 1 ?_
 refine ys 0 ⟨lb hv9⟩ ?_
 refine yw [3] 1 ?_
 refine ye [6,7,8,3] ?_
 refine aM ?_
 exact hl218 _ (zi h).symm
 refine aa ?_
 refine aL h (fun (s225:Bool)=>[(3,vi s115),(6,.fl .shr 3 (flatten (map al.enc l))),(7,vi (l.length:Int)),(8,vi s116),(5,.box 53 [.v (.int .u8 v3.LG),vi v3.LI,vi v3.LH]),(23,vb s225)]) ?_ ?_
 rintro s225 h
 refine ae ?_
 refine zc h rfl (fun h => ?_) (fun h => ?_)
 obtain ⟨v16,hv16,h⟩:=zn h
 refine yx hn 3 ?_
 refine ys 0 ⟨lb hv16⟩ ?_
 refine yw [3] 1 ?_
 refine ye [6,7,8,3] ?_
 refine aM ?_
 exact hl218 _ (zi h).symm
 refine aX hn 1 [2] ?_
 refine au (bI (bI (ap (ap (bI (ap ?_))))))
 have h:=hr219 _ (zi h).symm
 have h:=hr205 _ (zi h).symm
 have h:=hr173 _ (ho174 _ (zi h).symm).symm
 obtain rfl:=zi h
 exact ay hio rfl (.tmp _ _ .nil) rfl rfl
 intro u226 h hl227 hr228
 obtain ⟨v10,hv10,h⟩:=zn h
 refine aE h (fun hg8_2 h => ?_) (fun hg8_2 h => ?_)
 refine yx hn 1 ?_
 refine ys 1 ⟨lk call106 (iZ _ _ hv10)⟩ ?_
 refine yd hg8_2 6 ?_
 refine ye [3,6,7,8,5,23] ?_
 exact hl227 _ (zi h).symm
 refine yx hn 1 ?_
 refine ys 1 ⟨lk call106 (iZ _ _ hv10)⟩ ?_
 refine yd hg8_2 6 ?_
 refine ye [3,6,7,8,5,23] ?_
 exact hl227 _ (zi h).symm
 intro u221 h hl222 hr223
 refine aE h (fun hg6_3 h => ?_) (fun hg6_3 h => ?_)
 refine yx hn 4 ?_
 refine yd hg6_3 5 ?_
 refine ye [3,6,7,8,5,12] ?_
 exact hl222 _ (zi h).symm
 refine yx hn 4 ?_
 refine yd hg6_3 5 ?_
 refine ye [3,6,7,8,5,12] ?_
 exact hl222 _ (zi h).symm
 refine aO (ag (ag (aP ?_)))
 refine ar [0] (by kernel_rfl) (es':=[(_,_)]) rfl ?_
 exact hl172 _ (ho174 _ (zi h).symm).symm
theorem rk (l:(List al)) (r:((List Int)×(List Int)×Int)) (h:Sh.iQ l=some r):bZ Tryd.prog 62 [.fl .shr 3 (flatten (map al.enc l))] (.tup [.fl (.own 3) 1 (map (int .i64) r.1),.fl (.own 3) 1 (map (int .i64) r.2.1),.v (.int .i64 r.2.2)]):=by
 unfold Sh.iQ at h
 refine yO 72 func62 fun g0 hn hio => ?_
 refine aX hn 3 [0] ?_
 refine aa (aa ?_)
 obtain ⟨v1,hv1,h⟩:=zn h
 refine yx hn 1 ?_
 refine ys 1 ⟨lk call86 (qB _ _ hv1)⟩ ?_
 refine bi [0,5] ?_
 refine aX hn 2 [0,5,19] ?_
 refine zc h rfl (fun h => ?_) (fun h => ?_)
 refine aX hn 4 [2,3,4] ?_
 refine au ?_
 refine fM (fs:=[(2,.fl (.own 3) 1 (map (int .i64) [])),(3,.fl (.own 3) 1 (map (int .i64) [])),(4,vi v1)]) (.sub _ (bV 3 1) rfl (.sub _ (bV 3 1) rfl (.same _ .nil))) ?_
 refine ap ?_
 obtain rfl:=zi h
 exact ay hio rfl (.tmp _ _ (.tmp _ _ (.tmp _ _ .nil))) rfl rfl
 refine ak ?_
 refine ae (aa ?_)
 obtain ⟨v3,hv3,v4,hv4,h⟩:=eY h
 refine wb [] ?_
 refine wN [] ?_
 refine wS (.fl (.own 3) 1 (map (int .i64) v3)) [] ⟨kY (f:=int .i64) _ _ _ _ fg (by decide) kf rfl rfl rfl hv3⟩ ?_
 refine wN [] ?_
 refine wS (.fl (.own 3) 1 (map (int .i64) v4)) [] ⟨kY (f:=int .i64) _ _ _ _ fg (by decide) kf rfl rfl rfl hv4⟩ ?_
 refine wK [21] [] ?_
 refine wt [(2,.fl (.own 3) 1 (map (int .i64) v3))] [] ⟨fL _ _ _ _ rfl⟩ ?_
 refine wK [22] [] ?_
 refine wt [(3,.fl (.own 3) 1 (map (int .i64) v4))] [] ⟨fL _ _ _ _ rfl⟩ ?_
 refine zP hn [0,2,3] ?_
 refine aa ?_
 obtain ⟨v5,hv5,v6,hv6,h⟩:=eY h
 refine yx hn 1 ?_
 refine ys 0 ⟨li hv5⟩ ?_
 refine yk [2] [24] ?_
 refine yt (2,.fl (.own 3) 1 (map (int .i64) v6)) 0 ⟨bU _ _ _ _ _ _ _ _ fN rfl rfl rfl (by decide) (dO (bA hv5).2) ((map_set (f:=int .i64) _ (bA hv5).2).trans (congrArg (map _) (Option.some.inj hv6)))⟩ ?_
 refine bi [0,2,3] ?_
 refine aa ?_
 refine aX hn 3 [2,3,25,26,27] ?_
 refine aH h (fun ((s46,s47,s48):(List Int)×(List Int)×Int)=>[(2,.fl (.own 3) 1 (map (int .i64) s46)),(3,.fl (.own 3) 1 (map (int .i64) s47)),(25,.fl .shr 3 (flatten (map al.enc l))),(26,vi (l.length:Int)),(27,vi s48)]) (fun ((s57,s58):(List Int)×(List Int))=>[(2,.fl (.own 3) 1 (map (int .i64) s57)),(3,.fl (.own 3) 1 (map (int .i64) s58))]) ?_ ?_
 rintro ⟨s57,s58⟩ h
 refine ae ?_
 refine gG hn 0 ?_
 refine ym 0 ?_
 refine ym 0 ?_
 refine ya 0 ?_
 refine ya 1 ?_
 refine bi [2,3,4] ?_
 refine au ?_
 obtain rfl:=zi h
 exact ay hio rfl (.tmp _ _ (.tmp _ _ (.tmp _ _ .nil))) rfl rfl
 rintro u59 hl60 hr61 ⟨s46,s47,s48⟩ rr64 h ho62
 refine aX hn 1 [2,3,25,26,27,28] ?_
 refine aa ?_
 refine zc h rfl (fun h => ?_) (fun h => ?_)
 refine ak ?_
 refine ae (aa ?_)
 refine aL h (fun ((s67,s68):(List Int)×(List Int))=>[(2,.fl (.own 3) 1 (map (int .i64) s67)),(3,.fl (.own 3) 1 (map (int .i64) s68)),(25,.fl .shr 3 (flatten (map al.enc l))),(26,vi (l.length:Int)),(27,vi s48)]) ?_ ?_
 rintro ⟨s67,s68⟩ h
 refine ae ?_
 obtain ⟨v34,hv34,h⟩:=zn h
 refine yx hn 0 ?_
 refine ys 0 ⟨lb hv34⟩ ?_
 refine yw [27] 1 ?_
 refine ye [2,3,25,26,27] ?_
 exact aS _ (zi h).symm rfl
 intro u69 h hl70 hr71
 refine aC (aa ?_)
 obtain ⟨v8,hv8,v9,hv9,h⟩:=eY h
 refine yx hn 0 ?_
 refine ys 0 ⟨lj hv8⟩ ?_
 refine yS (.agg [.v (.int .u8 v9.LG),vi v9.LI,vi v9.LH]) 0 ⟨nu _ _ _ _ _ _ _ underlying53 rfl Bm rfl rfl (nJ al.len hv9) rfl (by decide)⟩ ?_
 refine yS (.box 53 [.v (.int .u8 0),vi 0,vi 0]) 1 ⟨oA (cG _ _ sw)⟩ ?_
 refine bi [2,3,25,26,27,7] ?_
 refine aa ?_
 refine aX hn 3 [2,3,25,26,27,7,33] ?_
 refine zc h rfl (fun h => ?_) (fun h => ?_)
 refine aa ?_
 obtain ⟨v11,hv11,v12,hv12,v13,hv13,v14,hv14,h⟩:=gZ h
 obtain ⟨v15,hv15,h⟩:=zn h
 refine yx hn 3 ?_
 refine ys 0 ⟨li hv11⟩ ?_
 refine ys 0 ⟨ll hv12⟩ ?_
 refine ys 0 ⟨lb hv13⟩ ?_
 refine ys 0 ⟨li hv14⟩ ?_
 refine yk [2] [40,39] ?_
 refine yt (2,.fl (.own 3) 1 (map (int .i64) v15)) 0 ⟨bU _ _ _ _ _ _ _ _ fN rfl rfl rfl (by decide) (dO (bA hv14).2) ((map_set (f:=int .i64) _ (bA hv14).2).trans (congrArg (map _) (Option.some.inj hv15)))⟩ ?_
 refine bi [2,3,25,26,27] ?_
 refine aO (ag (aP ?_))
 exact hl70 _ (zi h).symm
 refine ak ?_
 refine ae (aa ?_)
 obtain ⟨v16,hv16,h⟩:=zn h
 refine yx hn 2 ?_
 refine ys 0 ⟨lk call83 (rI _ _ hv16)⟩ ?_
 refine ym 8 ?_
 refine bi [2,3,25,26,27,7,8] ?_
 refine aa ?_
 obtain ⟨v17,hv17,h⟩:=zn h
 refine yx hn 2 ?_
 refine ys 0 ⟨lk call84 (pY _ _ hv17)⟩ ?_
 refine ym 8 ?_
 refine bi [2,3,25,26,27,8,12] ?_
 refine aa ?_
 obtain ⟨v18,hv18,v19,hv19,v20,hv20,v21,hv21,h⟩:=gZ h
 obtain ⟨v22,hv22,h⟩:=zn h
 refine yx hn 2 ?_
 refine ys 0 ⟨li hv18⟩ ?_
 refine ys 0 ⟨ll hv19⟩ ?_
 refine ys 0 ⟨lb hv20⟩ ?_
 refine ys 0 ⟨li hv21⟩ ?_
 refine yk [2] [62,61] ?_
 refine yt (2,.fl (.own 3) 1 (map (int .i64) v22)) 0 ⟨bU _ _ _ _ _ _ _ _ fN rfl rfl rfl (by decide) (dO (bA hv21).2) ((map_set (f:=int .i64) _ (bA hv21).2).trans (congrArg (map _) (Option.some.inj hv22)))⟩ ?_
 refine bi [2,3,25,26,27,12] ?_
 obtain ⟨v23,hv23,v24,hv24,v25,hv25,v26,hv26,h⟩:=gZ h
 obtain ⟨v27,hv27,h⟩:=zn h
 refine yx hn 2 ?_
 refine ys 0 ⟨li hv23⟩ ?_
 refine ys 0 ⟨ll hv24⟩ ?_
 refine ys 0 ⟨lb hv25⟩ ?_
 refine ys 0 ⟨li hv26⟩ ?_
 refine yk [3] [68,67] ?_
 refine yt (3,.fl (.own 3) 1 (map (int .i64) v27)) 0 ⟨bU _ _ _ _ _ _ _ _ fN rfl rfl rfl (by decide) (dO (bA hv26).2) ((map_set (f:=int .i64) _ (bA hv26).2).trans (congrArg (map _) (Option.some.inj hv27)))⟩ ?_
 refine ye [2,3,25,26,27] ?_
 refine aM ?_
 exact hl70 _ (zi h).symm
 refine aO (ag (ag (aP ?_)))
 refine ar [0,1] (by kernel_rfl) (es':=[(_,_),(_,_)]) rfl ?_
 exact hl60 _ (ho62 _ (zi h).symm).symm
theorem iH (weights:(List Int)) (r:Bool) (h:Sh.cw weights=some r):bZ Tryd.prog 49 [.fl .shr 1 (map (int .i64) weights)] (.v (.bool r)):=by
 unfold Sh.cw at h
 refine yO 21 func49 fun g0 hn hio => ?_
 refine aX hn 1 [0] ?_
 refine aa ?_
 refine aX hn 3 [0,7] ?_
 refine zc h rfl (fun h => ?_) (fun h => ?_)
 refine aX hn 1 [2] ?_
 refine au (ap ?_)
 obtain rfl:=zi h
 exact ay hio rfl (.tmp _ _ .nil) rfl rfl
 refine ak ?_
 refine ae (aa ?_)
 refine aX hn 3 [8,9,10] ?_
 refine aH h (fun (s18:Int)=>[(8,fi weights),(9,vi (weights.length:Int)),(10,vi s18)]) (fun (():Unit)=>[]) ?_ ?_
 rintro ⟨⟩ h
 refine ae ?_
 refine aX hn 1 [2] ?_
 refine au ?_
 obtain rfl:=zi h
 exact ay hio rfl (.tmp _ _ .nil) rfl rfl
 rintro u25 hl26 hr27 s18 rr30 h ho28
 refine aX hn 1 [8,9,10,11] ?_
 refine aa ?_
 refine zc h rfl (fun h => ?_) (fun h => ?_)
 refine ak ?_
 refine ae (aa ?_)
 refine aC (aa ?_)
 obtain ⟨v3,hv3,v4,hv4,h⟩:=eY h
 refine yx hn 0 ?_
 refine ys 0 ⟨li hv3⟩ ?_
 refine ys 1 ⟨ll hv4⟩ ?_
 refine bi [8,9,10,4] ?_
 refine aa ?_
 refine aL h (fun (s32:Bool)=>[(8,fi weights),(9,vi (weights.length:Int)),(10,vi s18),(19,vb s32)]) ?_ ?_
 rintro s32 h
 refine ae ?_
 refine zc h rfl (fun h => ?_) (fun h => ?_)
 refine aX hn 1 [2] ?_
 refine au (bI (ap (ap (bI (ap ?_)))))
 have h:=hr27 _ (ho28 _ (zi h).symm).symm
 obtain rfl:=zi h
 exact ay hio rfl (.tmp _ _ .nil) rfl rfl
 refine ak (aM (ae ?_))
 obtain ⟨v10,hv10,h⟩:=zn h
 refine yx hn 0 ?_
 refine ys 0 ⟨lb hv10⟩ ?_
 refine yw [10] 1 ?_
 refine ye [8,9,10] ?_
 exact aS _ (zi h).symm rfl
 intro u33 h hl34 hr35
 refine aE h (fun hg6_2 h => ?_) (fun hg6_2 h => ?_)
 refine yx hn 3 ?_
 refine yd hg6_2 3 ?_
 refine ye [8,9,10,19] ?_
 exact hl34 _ (zi h).symm
 refine yx hn 3 ?_
 refine yd hg6_2 3 ?_
 refine ye [8,9,10,19] ?_
 exact hl34 _ (zi h).symm
 refine aO (ag (ag (aP ?_)))
 refine ar [] (by kernel_rfl) (es':=[]) rfl ?_
 exact hl26 _ (ho28 _ (zi h).symm).symm
end Go.Proofs.YtkgfjkfccpjcgaaDoor
