import Derived.Test.YtkgfjkfccpjcgaaDoorOkc3
set_option linter.unusedVariables false
set_option linter.unusedSimpArgs false
set_option maxHeartbeats 1000000
namespace Go.Proofs.YtkgfjkfccpjcgaaDoor
open Go.Abs Go.Abs.Sh Tryd
open List (map flatten)
open Value (int)
theorem jb (mx:Int) (w:af) (lits:(List Int)) (dists:(List Int)) (r:af) (h:Sh.cP w lits dists=some r):xD Tryd.prog (GL mx) 64 [.box 57 [.fl (.own 5) 1 (map (int .u8) w.b),.v (.int .i64 w.n)],.fl .shr 1 (map (int .i64) lits),.fl .shr 1 (map (int .i64) dists)] [.box 57 [.fl (.own 5) 1 (map (int .u8) r.b),.v (.int .i64 r.n)]] (.tup []):=by
 unfold Sh.cP at h
 refine Lt 113 func64 fun args0 hargs0 g0 hn hio => ?_
 refine aa ?_
 obtain ⟨v1,hv1,v2,hv2,v3,hv3,h⟩:=kg h
 refine yx hn 1 ?_
 refine yS (.fl (.own 3) 1 (map (int .i64) v1)) 1 ⟨kH _ _ _ _ fg rfl rfl (fe _) hv1 (congrArg (map _) (kU hv1))⟩ ?_
 refine yp fg hv2 0 ?_
 refine ys 0 ⟨lk call24 (ni _ _ hv3)⟩ ?_
 refine ym 0 ?_
 refine nX 0 ?_
 refine nX 1 ?_
 refine ya 0 ?_
 refine ya 1 ?_
 refine bi [0,1,2,113,6,7,0] ?_
 refine aa ?_
 obtain ⟨v4,hv4,h⟩:=zn h
 refine yx hn 0 ?_
 refine yS (.fl (.own 3) 1 (map (int .i64) v4)) 0 ⟨kY (f:=int .i64) _ _ _ _ fg (by decide) kf rfl rfl rfl hv4⟩ ?_
 refine ya 0 ?_
 refine bi [0,1,2,113,6,7,9,0] ?_
 refine aa ?_
 refine aX hn 3 [0,1,2,113,6,7,9,32,33,34,0] ?_
 refine aH h (fun ((s17,s18):(List Int)×Int)=>[(0,.box 57 [.fl (.own 5) 1 (map (int .u8) w.b),vi w.n]),(1,fi lits),(2,fi dists),(113,.glob (GL mx)),(6,.fl (.own 3) 1 (map (int .i64) v3.1)),(7,.fl (.own 3) 1 (map (int .i64) v3.2.1)),(9,.fl (.own 3) 1 (map (int .i64) s17)),(32,.same (.slot 6)),(33,vi (v3.1.length:Int)),(34,vi s18),(0,.v (List.getD args0 0 undef))]) (fun (s20:(List Int))=>[(0,.box 57 [.fl (.own 5) 1 (map (int .u8) w.b),vi w.n]),(1,fi lits),(2,fi dists),(113,.glob (GL mx)),(6,.fl (.own 3) 1 (map (int .i64) v3.1)),(7,.fl (.own 3) 1 (map (int .i64) v3.2.1)),(9,.fl (.own 3) 1 (map (int .i64) s20)),(0,.v (List.getD args0 0 undef))]) ?_ ?_
 rintro s20 h
 refine ae (aa ?_)
 obtain ⟨v28,hv28,h⟩:=zn h
 refine yx hn 0 ?_
 refine ym 0 ?_
 refine ys 0 ⟨lk call63 (iU _ _ _ hv28)⟩ ?_
 refine ym 0 ?_
 refine nX 1 ?_
 refine ya 1 ?_
 refine bi [0,1,2,113,6,7,12,0] ?_
 refine aa ?_
 obtain ⟨v29,hv29,h⟩:=zn h
 refine yx hn 0 ?_
 refine yS (.fl (.own 3) 1 (map (int .i64) v29)) 0 ⟨kY (f:=int .i64) _ _ _ _ fg (by decide) kf rfl rfl rfl hv29⟩ ?_
 refine ya 0 ?_
 refine bi [0,1,2,113,6,7,12,14,0] ?_
 refine aa ?_
 refine gG hn 0 ?_
 refine yS (.v (.agg (map (int .i64) ck).toArray)) 1 ⟨sx _ _ 113 0 (map (int .i64) ck) underlying113 rfl JL rfl rfl (Fm mx)⟩ ?_
 refine bi [0,1,2,113,6,7,12,14,51,52,0] ?_
 refine aH h (fun ((s41,s42):(List Int)×Int)=>[(0,.box 57 [.fl (.own 5) 1 (map (int .u8) w.b),vi w.n]),(1,fi lits),(2,fi dists),(113,.glob (GL mx)),(6,.fl (.own 3) 1 (map (int .i64) v3.1)),(7,.fl (.own 3) 1 (map (int .i64) v3.2.1)),(12,.fl (.own 3) 1 (map (int .i64) v28.1)),(14,.fl (.own 3) 1 (map (int .i64) s41)),(51,.v (.agg (map (int .i64) ck).toArray)),(52,vi s42),(0,.v (List.getD args0 0 undef))]) (fun (s44:(List Int))=>[(0,.box 57 [.fl (.own 5) 1 (map (int .u8) w.b),vi w.n]),(1,fi lits),(2,fi dists),(113,.glob (GL mx)),(6,.fl (.own 3) 1 (map (int .i64) v3.1)),(7,.fl (.own 3) 1 (map (int .i64) v3.2.1)),(12,.fl (.own 3) 1 (map (int .i64) v28.1)),(14,.fl (.own 3) 1 (map (int .i64) s44)),(0,.v (List.getD args0 0 undef))]) ?_ ?_
 rintro s44 h
 refine ae (aa ?_)
 refine uh 7 hio (es':=[(0,.box 57 [.fl (.own 5) 1 (map (int .u8) w.b),.v (.int .i64 w.n)]),(1,fi lits),(2,fi dists),(113,.glob (GL mx)),(6,.fl (.own 3) 1 (map (int .i64) v3.1)),(7,.fl (.own 3) 1 (map (int .i64) v3.2.1)),(12,.fl (.own 3) 1 (map (int .i64) v28.1)),(14,.fl .ro 1 (map (int .i64) s44)),(0,.v (List.getD args0 0 undef))]) rfl ?_
 obtain ⟨v52,hv52,h⟩:=zn h
 refine yx hn 1 ?_
 refine ys 0 ⟨lr call65 (gJ _ _ _ hv52)⟩ ?_
 refine yw [14] 1 ?_
 refine bi [0,1,2,113,6,7,12,14,0] ?_
 refine aa ?_
 obtain ⟨v53,hv53,v54,hv54,h⟩:=eY h
 refine yx hn 3 ?_
 refine ys 0 ⟨lb hv53⟩ ?_
 refine yQ call55 (bp _ _ _ _ hv54) 0 [66,69] 0 ?_
 refine bi [0,2,113,6,7,12,14,0] ?_
 refine aa ?_
 obtain ⟨v55,hv55,v56,hv56,h⟩:=eY h
 refine yx hn 3 ?_
 refine ys 0 ⟨lb hv55⟩ ?_
 refine yQ call55 (bp _ _ _ _ hv56) 0 [71,74] 0 ?_
 refine bi [0,113,6,7,12,14,0] ?_
 refine aa ?_
 obtain ⟨v57,hv57,v58,hv58,h⟩:=eY h
 refine yx hn 3 ?_
 refine ys 0 ⟨lb hv57⟩ ?_
 refine yQ call55 (bp _ _ _ _ hv58) 0 [76,79] 0 ?_
 refine bi [0,113,6,7,12,14,0] ?_
 refine aa ?_
 refine aX hn 3 [0,113,6,7,12,81,82,83,0] ?_
 refine aH h (fun ((s68,s69,s70):(List Int)×Int×Int)=>[(0,.box 57 [.fl (.own 5) 1 (map (int .u8) s68),vi s69]),(113,.glob (GL mx)),(6,.fl (.own 3) 1 (map (int .i64) v3.1)),(7,.fl (.own 3) 1 (map (int .i64) v3.2.1)),(12,.fl (.own 3) 1 (map (int .i64) v28.1)),(81,.fl .ro 1 (map (int .i64) v52)),(82,vi (v52.length:Int)),(83,vi s70),(0,.v (List.getD args0 0 undef))]) (fun ((s72,s73):(List Int)×Int)=>[(0,.box 57 [.fl (.own 5) 1 (map (int .u8) s72),vi s73]),(113,.glob (GL mx)),(6,.fl (.own 3) 1 (map (int .i64) v3.1)),(7,.fl (.own 3) 1 (map (int .i64) v3.2.1)),(12,.fl (.own 3) 1 (map (int .i64) v28.1)),(0,.v (List.getD args0 0 undef))]) ?_ ?_
 rintro ⟨s72,s73⟩ h
 refine ae (aa ?_)
 refine uh 4 hio (es':=[(0,.box 57 [.fl (.own 5) 1 (map (int .u8) s72),.v (.int .i64 s73)]),(113,.glob (GL mx)),(6,.fl (.own 3) 1 (map (int .i64) v3.1)),(7,.fl (.own 3) 1 (map (int .i64) v3.2.1)),(12,.fl .ro 1 (map (int .i64) v28.1)),(0,.v (List.getD args0 0 undef))]) rfl ?_
 obtain ⟨v81,hv81,h⟩:=zn h
 refine yx hn 1 ?_
 refine ys 0 ⟨lr call61 (dx _ _ hv81)⟩ ?_
 refine yS (.box 87 [vz,vz]) 1 ⟨oA (cG _ _ GX)⟩ ?_
 refine bi [0,113,6,7,19,0] ?_
 refine gG hn 0 ?_
 refine ym 2 ?_
 refine bi [0,113,7,19,93,94,95,0] ?_
 refine aH h (fun ((s95,s96,s97):(List Int)×Int×Int)=>[(0,.box 57 [.fl (.own 5) 1 (map (int .u8) s95),vi s96]),(113,.glob (GL mx)),(7,.fl (.own 3) 1 (map (int .i64) v3.2.1)),(19,.box 87 [.fl .ro 1 (map (int .i64) v81.lengths),.fl .ro 1 (map (int .i64) v81.codes)]),(93,.fl (.own 3) 1 (map (int .i64) v3.1)),(94,vi (v3.1.length:Int)),(95,vi s97),(0,.v (List.getD args0 0 undef))]) (fun ((s99,s100):(List Int)×Int)=>[(0,.box 57 [.fl (.own 5) 1 (map (int .u8) s99),vi s100]),(113,.glob (GL mx)),(0,.v (List.getD args0 0 undef))]) ?_ ?_
 rintro ⟨s99,s100⟩ h
 refine ar [0,2] (by kernel_rfl) (es':=[(_,_),(_,_)]) rfl ?_
 obtain rfl:=zi h
 exact oO (es:=[]) (posts:=[.box 57 [.fl (.own 5) 1 (map (int .u8) s99),.v (.int .i64 s100)]]) hio rfl rfl .nil rfl rfl hargs0 rfl
 rintro u101 hl102 hr103 ⟨s95,s96,s97⟩ rr106 h ho104
 refine aX hn 1 [0,113,7,19,93,94,95,96,0] ?_
 refine aa ?_
 refine zc h rfl (fun h => ?_) (fun h => ?_)
 refine ak ?_
 refine ae (aa ?_)
 refine aC (aa ?_)
 obtain ⟨v83,hv83,v84,hv84,h⟩:=eY h
 refine yx hn 1 ?_
 refine ys 0 ⟨li hv83⟩ ?_
 refine ys 2 ⟨ll hv84⟩ ?_
 refine bi [0,113,7,19,93,94,95,20,21,0] ?_
 refine aa ?_
 obtain ⟨v85,hv85,h⟩:=zn h
 refine yx hn 3 ?_
 refine yQ call82 (cW _ _ _ _ hv85) 0 [100,101,102] 0 ?_
 refine bi [0,113,7,19,93,94,95,20,21,0] ?_
 obtain ⟨v86,hv86,v87,hv87,v88,hv88,v89,hv89,h⟩:=gZ h
 refine wb [[0],[7],[20]] ?_
 refine wN [105,7,106] ?_
 refine wo [] ⟨li hv86⟩ ?_
 refine wN [107,7] ?_
 refine wo [[21]] ⟨ll hv87⟩ ?_
 refine wN [109] ?_
 refine wo [] ⟨lk call92 (nZ _ _ hv88)⟩ ?_
 refine wK [0] [104,108,110] ?_
 refine wt [(0,.box 57 [.fl (.own 5) 1 (map (int .u8) v89.b),vi v89.n]),(111,.tup [])] [] ⟨cv _ _ _ _ 111 55 [.tmp 104] [.tmp 108,.tmp 110] _ _ _ rfl call55 rfl rfl rfl (bp v85 v87 v88 _ hv89) (zl rfl) rfl rfl rfl rfl rfl rfl rfl rfl⟩ ?_
 refine we hn [0,113,7,19,93,94,95,0] ?_
 refine aM (ae ?_)
 obtain ⟨v90,hv90,h⟩:=zn h
 refine yx hn 0 ?_
 refine ys 0 ⟨lb hv90⟩ ?_
 refine yw [95] 1 ?_
 refine ye [0,113,7,19,93,94,95,0] ?_
 exact aS _ (zi h).symm rfl
 refine aO (ag (ag (aP ?_)))
 refine ar [0,1,8] (by kernel_rfl) (es':=[(_,_),(_,_),(_,_)]) rfl ?_
 exact hl102 _ (ho104 _ (zi h).symm).symm
 rintro u74 hl75 hr76 ⟨s68,s69,s70⟩ rr79 h ho77
 refine aX hn 1 [0,113,6,7,12,81,82,83,84,0] ?_
 refine aa ?_
 refine zc h rfl (fun h => ?_) (fun h => ?_)
 refine ak ?_
 refine ae (aa ?_)
 refine aC (aa ?_)
 obtain ⟨v60,hv60,v61,hv61,h⟩:=eY h
 refine yx hn 0 ?_
 refine ys 0 ⟨li hv60⟩ ?_
 refine ys 1 ⟨ll hv61⟩ ?_
 refine bi [0,113,6,7,12,81,82,83,18,0] ?_
 obtain ⟨v62,hv62,h⟩:=zn h
 refine yx hn 2 ?_
 refine yQ call55 (bp _ _ _ _ hv62) 0 [87,88] 0 ?_
 refine ye [0,113,6,7,12,81,82,83,0] ?_
 refine aM (ae ?_)
 obtain ⟨v63,hv63,h⟩:=zn h
 refine yx hn 0 ?_
 refine ys 0 ⟨lb hv63⟩ ?_
 refine yw [83] 1 ?_
 refine ye [0,113,6,7,12,81,82,83,0] ?_
 exact aS _ (zi h).symm rfl
 refine aO (ag (ag (aP ?_)))
 refine ar [0,1,2,3,4,9] (by kernel_rfl) (es':=[(_,_),(_,_),(_,_),(_,_),(_,_),(_,_)]) rfl ?_
 exact hl75 _ (ho77 _ (zi h).symm).symm
 rintro u45 hl46 hr47 ⟨s41,s42⟩ rr50 h ho48
 refine aX hn 1 [0,1,2,113,6,7,12,14,51,52,53,0] ?_
 refine aa ?_
 refine zc h rfl (fun h => ?_) (fun h => ?_)
 refine ak ?_
 refine ae (aa ?_)
 refine aC (aa ?_)
 obtain ⟨v31,hv31,v32,hv32,h⟩:=eY h
 refine yx hn 1 ?_
 refine yS (vi v32) 2 ⟨oI _ _ _ _ 19 v31 underlying113 fN rfl (congrArg (fun j=>AV.v (int .i64 j)) (bA hv31).1) (bA hv31).2 (jw hv32) ⟨_,underlying3,rfl⟩⟩ ?_
 refine bi [0,1,2,113,6,7,12,14,51,52,15,16,0] ?_
 obtain ⟨v33,hv33,v34,hv34,v35,hv35,v36,hv36,h⟩:=gZ h
 refine yx hn 4 ?_
 refine ys 0 ⟨li hv33⟩ ?_
 refine ys 0 ⟨ll hv34⟩ ?_
 refine ys 0 ⟨li hv35⟩ ?_
 refine yk [14] [62,61] ?_
 refine yt (14,.fl (.own 3) 1 (map (int .i64) v36)) 0 ⟨bU _ _ _ _ _ _ _ _ fN rfl rfl rfl (by decide) (dO (bA hv35).2) ((map_set (f:=int .i64) _ (bA hv35).2).trans (congrArg (map _) (Option.some.inj hv36)))⟩ ?_
 refine ye [0,1,2,113,6,7,12,14,51,52,0] ?_
 refine aM (ae ?_)
 obtain ⟨v37,hv37,h⟩:=zn h
 refine yx hn 0 ?_
 refine ys 0 ⟨lb hv37⟩ ?_
 refine yw [52] 1 ?_
 refine ye [0,1,2,113,6,7,12,14,51,52,0] ?_
 exact aS _ (zi h).symm rfl
 refine aO (ag (ag (aP ?_)))
 refine ar [0,1,2,3,4,5,6,7,11] (by kernel_rfl) (es':=[(_,_),(_,_),(_,_),(_,_),(_,_),(_,_),(_,_),(_,_),(_,_)]) rfl ?_
 exact hl46 _ (ho48 _ (zi h).symm).symm
 rintro u21 hl22 hr23 ⟨s17,s18⟩ rr26 h ho24
 refine aX hn 1 [0,1,2,113,6,7,9,32,33,34,35,0] ?_
 refine aa ?_
 refine zc h rfl (fun h => ?_) (fun h => ?_)
 refine ak ?_
 refine ae (aa ?_)
 refine aC (aa ?_)
 obtain ⟨v6,hv6,v7,hv7,h⟩:=eY h
 refine yx hn 0 ?_
 refine ys 0 ⟨li hv6⟩ ?_
 refine ys 1 ⟨ll hv7⟩ ?_
 refine bi [0,1,2,113,6,7,9,32,33,34,11,0] ?_
 obtain ⟨v8,hv8,v9,hv9,v10,hv10,v11,hv11,h⟩:=gZ h
 obtain ⟨v12,hv12,h⟩:=zn h
 refine yx hn 2 ?_
 refine ys 0 ⟨li hv8⟩ ?_
 refine ys 0 ⟨ll hv9⟩ ?_
 refine ys 0 ⟨lb hv10⟩ ?_
 refine ys 0 ⟨li hv11⟩ ?_
 refine yk [9] [43,42] ?_
 refine yt (9,.fl (.own 3) 1 (map (int .i64) v12)) 0 ⟨bU _ _ _ _ _ _ _ _ fN rfl rfl rfl (by decide) (dO (bA hv11).2) ((map_set (f:=int .i64) _ (bA hv11).2).trans (congrArg (map _) (Option.some.inj hv12)))⟩ ?_
 refine ye [0,1,2,113,6,7,9,32,33,34,0] ?_
 refine aM (ae ?_)
 obtain ⟨v13,hv13,h⟩:=zn h
 refine yx hn 0 ?_
 refine ys 0 ⟨lb hv13⟩ ?_
 refine yw [34] 1 ?_
 refine ye [0,1,2,113,6,7,9,32,33,34,0] ?_
 exact aS _ (zi h).symm rfl
 refine aO (ag (ag (aP ?_)))
 refine ar [0,1,2,3,4,5,6,11] (by kernel_rfl) (es':=[(_,_),(_,_),(_,_),(_,_),(_,_),(_,_),(_,_),(_,_)]) rfl ?_
 exact hl22 _ (ho24 _ (zi h).symm).symm
theorem gL (mx:Int) (l:(List al)) (r:(Option af)) (h:Sh.cM l=some r):pp Tryd.prog (GL mx) 36 [.fl .shr 3 (flatten (map al.enc l))] (.obox (Option.isSome r) 57 [.fl (.own 5) 1 (map (int .u8) (((Option.getD r (default:af))).b)),.v (.int .i64 (((Option.getD r (default:af))).n))]):=by
 unfold Sh.cM at h
 refine yG 42 func36 fun g0 hn hio => ?_
 refine aX hn 1 [0,42] ?_
 refine aa ?_
 obtain ⟨v1,hv1,h⟩:=zn h
 refine yx hn 1 ?_
 refine ys 0 ⟨lk call62 (rk _ _ hv1)⟩ ?_
 refine ym 0 ?_
 refine nX 0 ?_
 refine nX 1 ?_
 refine ya 0 ?_
 refine ya 1 ?_
 refine bi [0,42,3,4] ?_
 refine aa ?_
 obtain ⟨v2,hv2,h⟩:=zn h
 refine yx hn 0 ?_
 refine ym 0 ?_
 refine ys 0 ⟨lk call63 (iU _ _ _ hv2)⟩ ?_
 refine ym 0 ?_
 refine nX 1 ?_
 refine ya 1 ?_
 refine bi [0,42,4,6] ?_
 refine aa ?_
 obtain ⟨v3,hv3,h⟩:=zn h
 refine yx hn 0 ?_
 refine ym 0 ?_
 refine ys 0 ⟨lk call63 (iU _ _ _ hv3)⟩ ?_
 refine ym 0 ?_
 refine nX 1 ?_
 refine ya 1 ?_
 refine bi [0,42,6,8] ?_
 refine aa ?_
 obtain ⟨v4,hv4,h⟩:=zn h
 refine yx hn 0 ?_
 refine ys 0 ⟨lk call54 (gu _ _ hv4)⟩ ?_
 refine ya 0 ?_
 refine ye [0,42,6,8,10] ?_
 refine Av (d:=default) (f:=fun (v5:af)=>[.fl (.own 5) 1 (map (int .u8) v5.b),.v (.int .i64 v5.n)]) 4 2 10 57 h (es1:=fun v5=>[(0,.fl .shr 3 (flatten (map al.enc l))),(42,.glob (GL mx)),(6,.fl (.own 3) 1 (map (int .i64) v2.1)),(8,.fl (.own 3) 1 (map (int .i64) v3.1)),(10,.box 57 [.fl (.own 5) 1 (map (int .u8) v5.b),.v (.int .i64 v5.n)])]) (es0:=[(0,.fl .shr 3 (flatten (map al.enc l))),(42,.glob (GL mx)),(6,.fl (.own 3) 1 (map (int .i64) v2.1)),(8,.fl (.own 3) 1 (map (int .i64) v3.1)),(10,.v (.pointer none))]) rfl (fun _=>rfl) (by kernel_rfl) (fun _=>rfl) (fun _=>rfl) rfl (fun v5 hv6 h => ?_) (fun hv6 h => ?_)
 refine ae (aa ?_)
 refine mi 2 hio (es':=[(0,.fl .shr 3 (flatten (map al.enc l))),(42,.glob (GL mx)),(6,.fl .ro 1 (map (int .i64) v2.1)),(8,.fl (.own 3) 1 (map (int .i64) v3.1)),(10,.box 57 [.fl (.own 5) 1 (map (int .u8) v5.b),.v (.int .i64 v5.n)])]) rfl ?_
 refine mi 3 hio (es':=[(0,.fl .shr 3 (flatten (map al.enc l))),(42,.glob (GL mx)),(6,.fl .ro 1 (map (int .i64) v2.1)),(8,.fl .ro 1 (map (int .i64) v3.1)),(10,.box 57 [.fl (.own 5) 1 (map (int .u8) v5.b),.v (.int .i64 v5.n)])]) rfl ?_
 obtain ⟨v7,hv7,v8,hv8,v9,hv9,h⟩:=kg h
 refine yx hn 2 ?_
 refine ys 1 ⟨lr call65 (gJ _ _ _ hv7)⟩ ?_
 refine ys 0 ⟨lr call65 (gJ _ _ _ hv8)⟩ ?_
 refine yk [10] [28,30,32,42] ?_
 refine qk (10,.box 57 [.fl (.own 5) 1 (map (int .u8) v9.b),vi v9.n]) (33,.tup []) 0 ⟨xy _ _ _ _ 33 42 64 [.tmp 28] [.tmp 30,.tmp 32] _ _ _ rfl call64 rfl rfl rfl rfl (fun _ h=>h) (jb mx v5 v7 v8 _ hv9) (zl rfl) rfl rfl rfl rfl rfl rfl rfl⟩ ?_
 refine bi [0,42,6,8,10] ?_
 refine aa ?_
 obtain ⟨v10,hv10,v11,hv11,v12,hv12,h⟩:=kg h
 refine yx hn 3 ?_
 refine ys 1 ⟨lr call61 (dx _ _ hv10)⟩ ?_
 refine ys 0 ⟨lr call61 (dx _ _ hv11)⟩ ?_
 refine yQ call60 (fI _ _ _ _ _ hv12) 10 [34,35,37,39] 0 ?_
 refine bi [42,10] ?_
 refine gG hn 0 ?_
 refine ym 0 ?_
 refine ya 0 ?_
 refine bi [42,2] ?_
 refine au ?_
 refine ar [1] (by kernel_rfl) (es':=[(_,_)]) rfl ?_
 refine fM (fs:=[(2,.obox true 57 [.fl (.own 5) 1 (map (int .u8) v12.b),vi v12.n])]) (.sub _ (jG 57 (mE _)) rfl .nil) ?_
 obtain rfl:=zi h
 exact ay hio rfl (.tmp _ _ .nil) rfl rfl
 cases h
theorem nR (mx:Int) (b:(List Int)) (r:((List Int)×Int)) (h:Sh.eN b=some r):pp Tryd.prog (GL mx) 15 [.fl .shr 1 (map (int .u8) b)] (.tup [.fl (.own 5) 1 (map (int .u8) r.1),.v (.int .i64 r.2)]):=by
 unfold Sh.eN at h
 refine yG 19 func15 fun g0 hn hio => ?_
 refine aX hn 2 [0,19] ?_
 refine aa ?_
 obtain ⟨v1,hv1,h⟩:=zn h
 refine yx hn 1 ?_
 refine ys 0 ⟨lk call34 (iV _ _ hv1)⟩ ?_
 refine ym 0 ?_
 refine nX 1 ?_
 refine ya 1 ?_
 refine bi [19,4,5] ?_
 refine aa ?_
 refine aX hn 2 [19,4,5,12] ?_
 refine zc h rfl (fun h => ?_) (fun h => ?_)
 refine aX hn 3 [19,2,3] ?_
 refine au ?_
 refine ar [1,2] (by kernel_rfl) (es':=[(_,_),(_,_)]) rfl ?_
 refine fM (fs:=[(2,.fl (.own 5) 1 (map (int .u8) [])),(3,vi v1.2)]) (.sub _ (bV 5 1) rfl (.same _ .nil)) ?_
 refine ap ?_
 obtain rfl:=zi h
 exact ay hio rfl (.tmp _ _ (.tmp _ _ .nil)) rfl rfl
 refine ak ?_
 refine ae (aa ?_)
 obtain ⟨v3,hv3,v4,hv4,h⟩:=eY h
 refine yx hn 0 ?_
 refine ym 0 ?_
 refine ys 0 ⟨lg call36 (gL _ _ _ hv3) 19⟩ ?_
 refine yk [15] [] ?_
 refine qk (15,.box 57 [.fl (.own 5) 1 (map (int .u8) v4.b),vi v4.n]) (16,.ptr 15 0) 2 ⟨jE _ 16 15 2 (by rw [hv4]; rfl) (by rw [hv4]; rfl) rfl (by decide) rfl rfl⟩ ?_
 refine yk [15] [18] ?_
 refine qk (15,.box 57 [.any,vi v4.n]) (2,.fl (.own 5) 1 (map (int .u8) v4.b)) 1 ⟨jq _ 2 15 0 rfl rfl (zl rfl) rfl (by decide) rfl⟩ ?_
 refine bi [19,2,3] ?_
 refine au ?_
 refine ar [1,2] (by kernel_rfl) (es':=[(_,_),(_,_)]) rfl ?_
 obtain rfl:=zi h
 exact ay hio rfl (.tmp _ _ (.tmp _ _ .nil)) rfl rfl
theorem kz (mx:Int) (b:(List Int)) (r:((List Int)×Int)) (h:Sh.fj b=some r):pp Tryd.prog (GL mx) 16 [.fl .shr 1 (map (int .u8) b)] (.tup [.fl (.own 5) 1 (map (int .u8) r.1),.v (.int .i64 r.2)]):=by
 unfold Sh.fj at h
 obtain ⟨v1,hv1,h⟩:=zn h
 have hT:=(bZ.toG (gl:=GL mx) (iV b v1 hv1))
 by_cases e:v1.2=0
 · rw [show (v1.2 != 0)=false by simp [e],cond_false] at h
   rw [e] at hT
   obtain ⟨v2,hv2,h⟩:=zn h
   obtain ⟨v3,hv3,h⟩:=zn h
   obtain ⟨v4,hv4,h⟩:=zn h
   cases v2 with
   | none=>cases h
   | some s =>
    cases v3 with
    | none=>cases h
    | some f =>
     cases v4 with
     | none=>cases h
     | some d =>
      have hr:r=(_,0):=(Option.some.inj (show some _=some r from h)).symm
      subst hr
      have hq:=HW (gl:=GL mx) Tryd.shr_walk hT (bZ.toG (gl:=GL mx) (ij b _ hv2)) (bZ.toG (gl:=GL mx) (iA _ _ hv3)) (gL mx _ _ hv4)
      have hm:∀ (p:Prop) [Decidable p] (x y:List Int),(if p then map (int .u8) x else map (int .u8) y)=map (int .u8) (if p then x else y):=by intro p _ x y; split <;> rfl
      simp only [Option.getD_some] at hq
      rw [hm,hm] at hq
      exact hq
 · rw [show (v1.2 != 0)=true by simp [e],cond_true] at h
   have hr:r=_:=(zi h).symm
   subst hr
   exact EK (gl:=GL mx) Tryd.shr_walk e hT
theorem bw (s:aN) (v:Int) (n:Int) (r:aN) (h:Sh.aQ s v n=some r):sv Tryd.prog 66 [.agg [.fl (.own 5) 1 (map (int .u8) s.B),.v (.int .i64 s.N)],.v (.int .i64 v),.v (.int .i64 n)] [] (.agg [.fl (.own 5) 1 (map (int .u8) r.B),.v (.int .i64 r.N)]):=by
 unfold Sh.aQ at h
 refine yP 52 func66 fun args0 hargs0 g0 hn hio => ?_
 refine gG hn 0 ?_
 refine yk [0] [] ?_
 refine yt (3,.box 63 [.fl (.own 5) 1 (map (int .u8) s.B),vi s.N]) 0 ⟨iB _ _ _ _ _ rfl rfl rfl⟩ ?_
 refine yS (.box 63 [vz,vi 0]) 0 ⟨oA (cG _ _ ox)⟩ ?_
 refine bi [1,2,3,6] ?_
 refine aa ?_
 refine aX hn 1 [1,2,3,6,7] ?_
 refine aH h (fun ((s36,s37,s38):(List Int)×Int×Int)=>[(1,vi v),(2,vi n),(3,.box 63 [.fl (.own 5) 1 (map (int .u8) s36),vi s37]),(6,.box 63 [vz,vi 0]),(7,vi s38)]) (fun ((s46,s47):(List Int)×Int)=>[(3,.box 63 [.fl (.own 5) 1 (map (int .u8) s46),vi s47]),(6,.box 63 [vz,vi 0])]) ?_ ?_
 rintro ⟨s46,s47⟩ h
 refine ae ?_
 refine gG hn 0 ?_
 refine yk [3] [] ?_
 refine yt (51,.agg [.fl (.own 5) 1 (map (int .u8) s46),vi s47]) 0 ⟨dR _ _ _ _ underlying63 rfl eJ rfl rfl⟩ ?_
 refine yk [51,6] [] ?_
 refine yt (6,.box 63 [.fl (.own 5) 1 (map (int .u8) s46),vi s47]) 0 ⟨aY _ _ _ _ _ _ _ _ eJ rfl rfl rfl (zl rfl) rfl rfl⟩ ?_
 refine bi [6] ?_
 refine au ?_
 obtain rfl:=zi h
 exact gR (es:=[(6,.box 63 [.fl (.own 5) 1 (map (int .u8) s46),.v (.int .i64 s47)])]) (posts:=[]) hio rfl rfl (.cellA _ _ _ _ underlying63 rfl eJ .nil) rfl rfl hargs0 rfl
 rintro u48 hl49 hr50 ⟨s36,s37,s38⟩ rr53 h ho51
 refine aa ?_
 refine aX hn 3 [1,2,3,6,7,10] ?_
 refine zc h rfl (fun h => ?_) (fun h => ?_)
 refine ak ?_
 refine ae (aa ?_)
 refine aC (aa ?_)
 refine aL h (fun (s56:(List Int))=>[(1,vi v),(2,vi n),(3,.box 63 [.fl (.own 5) 1 (map (int .u8) s56),vi s37]),(6,.box 63 [vz,vi 0]),(7,vi s38)]) ?_ ?_
 rintro s56 h
 refine ae (aa ?_)
 obtain ⟨v10,hv10,v11,hv11,v12,hv12,v13,hv13,h⟩:=gZ h
 obtain ⟨v14,hv14,v15,hv15,v16,hv16,v17,hv17,h⟩:=gZ h
 obtain ⟨v18,hv18,v19,hv19,v20,hv20,v21,hv21,h⟩:=gZ h
 obtain ⟨v22,hv22,v23,hv23,h⟩:=eY h
 refine wb [[3],[22,3],[3],[24,3]] ?_
 refine wN [25] ?_
 refine wo [[3],[27,3],[3],[29,3]] ⟨lB (pk hv10)⟩ ?_
 refine wN [30] ?_
 refine wo [] ⟨lB (pk hv11)⟩ ?_
 refine wN [28,3,31] ?_
 refine wo [] ⟨li hv12⟩ ?_
 refine wN [32,3] ?_
 refine wo [[1],[7]] ⟨ll hv13⟩ ?_
 refine wN [35] ?_
 refine wo [] ⟨lv hv14⟩ ?_
 refine wN [34,36] ?_
 refine wo [] ⟨lB (uJ hv15)⟩ ?_
 refine wN [37] ?_
 refine wo [] ⟨lb hv16⟩ ?_
 refine wN [38] ?_
 refine wo [[3],[40,3]] ⟨lv hv17⟩ ?_
 refine wN [41] ?_
 refine wo [] ⟨lB (sq hv18)⟩ ?_
 refine wN [42] ?_
 refine wo [] ⟨lv hv19⟩ ?_
 refine wN [39,43] ?_
 refine wo [] ⟨lB (jy hv20)⟩ ?_
 refine wN [33,44] ?_
 refine wo [] ⟨lb hv21⟩ ?_
 refine wN [23,3,26] ?_
 refine wo [] ⟨li hv22⟩ ?_
 refine wK [3] [46,45] ?_
 refine wt [(3,.box 63 [.fl (.own 5) 1 (map (int .u8) v23),vi s37])] [] ⟨ln _ _ _ 3 0 _ _ _ _ xP rfl rfl (zl rfl) rfl rfl (by decide) (dO (bA hv22).2) ((map_set (f:=int .u8) _ (bA hv22).2).trans (congrArg (map _) (Option.some.inj hv23))) rfl⟩ ?_
 refine zP hn [1,2,3,6,7] ?_
 obtain ⟨v24,hv24,h⟩:=zn h
 refine yx hn 2 ?_
 refine ys 2 ⟨lb hv24⟩ ?_
 refine ye [1,2,3,6,7] ?_
 refine aM (ae ?_)
 obtain ⟨v25,hv25,h⟩:=zn h
 refine yx hn 1 ?_
 refine ys 0 ⟨lb hv25⟩ ?_
 refine yw [7] 1 ?_
 refine ye [1,2,3,6,7] ?_
 exact aS _ (zi h).symm rfl
 intro u57 h hl58 hr59
 refine aa ?_
 obtain ⟨v2,hv2,h⟩:=zn h
 refine yx hn 2 ?_
 refine ys 1 ⟨lB (sq hv2)⟩ ?_
 refine bi [1,2,3,6,7,16] ?_
 refine zc h rfl (fun h => ?_) (fun h => ?_)
 obtain ⟨v4,hv4,h⟩:=zn h
 refine yx hn 2 ?_
 refine yS (.fl (.own 5) 1 (map (int .u8) [0])) 0 ⟨aF _ _ 1 (.int .u8 0) (map (int .u8) [0]) [(0,.int .u8 0)] underlying22 xP ED (fun _ V w o a hv hes=>by simp only [List.map_toArray,List.map_cons,List.map_nil]; try rfl) (bC (by simp [Instr.fill,Value.cells]; rfl) (by simp [List.range,List.range.loop] <;> rfl)) (by simp [Value.oneCell']) rfl (by decide) (by decide) (by decide)⟩ ?_
 refine yk [3] [18,19] ?_
 refine qk (3,.box 63 [.any,vi s37]) (20,.fl (.own 5) 1 (map (int .u8) v4)) 1 ⟨lJ _ _ _ _ _ _ HH rfl rfl (zl rfl) rfl (fe _) (fe _) hv4 ((List.map_append).symm.trans (congrArg (map _) (iT hv4))) (Nat.ne_of_beq_eq_false rfl) rfl rfl⟩ ?_
 refine yw [18] 0 ?_
 refine yk [20,3] [21] ?_
 refine yt (3,.box 63 [.fl (.own 5) 1 (map (int .u8) v4),vi s37]) 0 ⟨aY _ _ _ _ _ _ _ _ Ja rfl rfl rfl (zl rfl) rfl rfl⟩ ?_
 refine ye [1,2,3,6,7] ?_
 exact hl58 _ (zi h).symm
 refine ak ?_
 refine ar [0,1,2,3,4] (by kernel_rfl) (es':=[(_,_),(_,_),(_,_),(_,_),(_,_)]) rfl ?_
 exact hl58 _ (zi h).symm
 refine aO (ag (ag (aP ?_)))
 refine ar [2,3] (by kernel_rfl) (es':=[(_,_),(_,_)]) rfl ?_
 exact hl49 _ (ho51 _ (zi h).symm).symm
theorem il (b:(List Int)) (r:aN) (h:Sh.dt b=some r):bZ Tryd.prog 37 [.fl .shr 1 (map (int .u8) b)] (.agg [.fl (.own 5) 1 (map (int .u8) r.B),.v (.int .i64 r.N)]):=by
 unfold Sh.dt at h
 refine yO 29 func37 fun g0 hn hio => ?_
 refine gG hn 0 ?_
 refine yS (.box 63 [vz,vi 0]) 0 ⟨oA (cG _ _ ox)⟩ ?_
 refine bi [0,2] ?_
 refine aa ?_
 obtain ⟨v1,hv1,h⟩:=zn h
 refine yx hn 0 ?_
 refine yS (.agg [vz,vi 0]) 0 ⟨ec _ _ _ _ [1,1] _ _ underlying63 ox (He _ underlying63) sr.nil rfl rfl rfl⟩ ?_
 refine yk [5] [] ?_
 refine yt (6,.agg [.fl (.own 5) 1 (map (int .u8) v1.B),vi v1.N]) 0 ⟨cv _ _ _ _ 6 66 [.tmp 5] [_,_] _ _ _ rfl call66 rfl rfl rfl ((bw (aN.mk [] 0) 1 8 _ hv1).args (bO (tT (bO (bV 5 1) (bO (ei _) (fY)))) (bO (ei _) (bO (ei _) (fY))))) (zl rfl) rfl rfl rfl rfl rfl rfl rfl rfl⟩ ?_
 refine yS (.box 63 [vz,vi 0]) 0 ⟨oA (cG _ _ ox)⟩ ?_
 refine yk [6,3] [] ?_
 refine yt (3,.box 63 [.fl (.own 5) 1 (map (int .u8) v1.B),vi v1.N]) 0 ⟨aY _ _ _ _ _ _ _ _ eJ rfl rfl rfl (zl rfl) rfl rfl⟩ ?_
 refine bi [0,2,3] ?_
 refine aa ?_
 obtain ⟨v2,hv2,v3,hv3,v4,hv4,h⟩:=kg h
 refine yx hn 0 ?_
 refine yk [3] [] ?_
 refine qk (3,.box 63 [.any,.any]) (7,.agg [.fl (.own 5) 1 (map (int .u8) v1.B),vi v1.N]) 2 ⟨eD _ _ 3 _ underlying63 rfl eJ rfl rfl (by decide) rfl⟩ ?_
 refine yk [7] [9] ?_
 refine yt (10,.agg [.fl (.own 5) 1 (map (int .u8) v2.B),vi v2.N]) 2 ⟨cv _ _ _ _ 10 66 [.tmp 7] [.tmp 9,_] _ _ _ rfl call66 rfl rfl rfl (bw v1 (b.length:Int) 16 _ hv2) (zl rfl) rfl rfl rfl rfl rfl rfl rfl rfl⟩ ?_
 refine ys 0 ⟨lb hv3⟩ ?_
 refine yk [10] [13] ?_
 refine yt (14,.agg [.fl (.own 5) 1 (map (int .u8) v4.B),vi v4.N]) 0 ⟨cv _ _ _ _ 14 66 [.tmp 10] [.tmp 13,_] _ _ _ rfl call66 rfl rfl rfl (bw v2 v3 16 _ hv4) (zl rfl) rfl rfl rfl rfl rfl rfl rfl rfl⟩ ?_
 refine yk [14,3] [] ?_
 refine yt (3,.box 63 [.fl (.own 5) 1 (map (int .u8) v4.B),vi v4.N]) 0 ⟨aY _ _ _ _ _ _ _ _ eJ rfl rfl rfl (zl rfl) rfl rfl⟩ ?_
 refine bi [0,2,3] ?_
 refine aa ?_
 refine aX hn 1 [0,2,3,4] ?_
 refine aH h (fun ((s15,s16,s17):(List Int)×Int×Int)=>[(0,fb b),(2,.box 63 [vz,vi 0]),(3,.box 63 [.fl (.own 5) 1 (map (int .u8) s15),vi s16]),(4,vi s17)]) (fun ((s19,s20):(List Int)×Int)=>[(2,.box 63 [vz,vi 0]),(3,.box 63 [.fl (.own 5) 1 (map (int .u8) s19),vi s20])]) ?_ ?_
 rintro ⟨s19,s20⟩ h
 refine ae ?_
 refine gG hn 0 ?_
 refine yk [3] [] ?_
 refine yt (28,.agg [.fl (.own 5) 1 (map (int .u8) s19),vi s20]) 0 ⟨dR _ _ _ _ underlying63 rfl eJ rfl rfl⟩ ?_
 refine yk [28,2] [] ?_
 refine yt (2,.box 63 [.fl (.own 5) 1 (map (int .u8) s19),vi s20]) 0 ⟨aY _ _ _ _ _ _ _ _ eJ rfl rfl rfl (zl rfl) rfl rfl⟩ ?_
 refine bi [2] ?_
 refine au ?_
 obtain rfl:=zi h
 exact ay hio rfl (.cellA _ _ _ _ underlying63 rfl eJ .nil) rfl rfl
 rintro u21 hl22 hr23 ⟨s15,s16,s17⟩ rr26 h ho24
 refine aa ?_
 refine aX hn 4 [0,2,3,4,18] ?_
 refine zc h rfl (fun h => ?_) (fun h => ?_)
 refine ak ?_
 refine ae (aa ?_)
 refine aC ?_
 obtain ⟨v6,hv6,v7,hv7,v8,hv8,v9,hv9,h⟩:=gZ h
 refine wb [] ?_
 refine wK [3] [] ?_
 refine wt [(3,.box 63 [.any,.any]),(21,.agg [.fl (.own 5) 1 (map (int .u8) s15),vi s16])] [[0],[4]] ⟨eD _ _ 3 _ underlying63 rfl eJ rfl rfl (by decide) rfl⟩ ?_
 refine wN [22,23] ?_
 refine wo [] ⟨li hv6⟩ ?_
 refine wN [24,22] ?_
 refine wo [] ⟨ll hv7⟩ ?_
 refine wN [25] ?_
 refine wo [] ⟨lv hv8⟩ ?_
 refine wK [21] [26] ?_
 refine wt [(27,.agg [.fl (.own 5) 1 (map (int .u8) v9.B),vi v9.N])] [] ⟨cv _ _ _ _ 27 66 [.tmp 21] [.tmp 26,_] _ _ _ rfl call66 rfl rfl rfl (bw (aN.mk s15 s16) v8 8 _ hv9) (zl rfl) rfl rfl rfl rfl rfl rfl rfl rfl⟩ ?_
 refine wK [27,3] [] ?_
 refine wt [(3,.box 63 [.fl (.own 5) 1 (map (int .u8) v9.B),vi v9.N])] [] ⟨aY _ _ _ _ _ _ _ _ eJ rfl rfl rfl (zl rfl) rfl rfl⟩ ?_
 refine we hn [0,2,3,4] ?_
 refine aM (ae ?_)
 obtain ⟨v10,hv10,h⟩:=zn h
 refine yx hn 1 ?_
 refine ys 0 ⟨lb hv10⟩ ?_
 refine yw [4] 1 ?_
 refine ye [0,2,3,4] ?_
 exact aS _ (zi h).symm rfl
 refine aO (ag (ag (aP ?_)))
 refine ar [1,2] (by kernel_rfl) (es':=[(_,_),(_,_)]) rfl ?_
 exact hl22 _ (ho24 _ (zi h).symm).symm
theorem lY (r:((List Int)×(List Int))) (h:Sh.fx  = some r):bZ Tryd.prog 29 [] (.tup [.fl (.own 3) 1 (map (int .i64) r.1),.fl (.own 3) 1 (map (int .i64) r.2)]):=by
 unfold Sh.fx at h
 refine yO 40 func29 fun g0 hn hio => ?_
 refine aX hn 2 [] ?_
 refine aX hn 2 [2,3] ?_
 refine aa ?_
 refine aX hn 1 [2,3,4] ?_
 refine iS (fs:=[(2,.fl (.own 3) 1 (map (int .i64) [])),(3,vz),(4,vi 0)]) (.sub _ (bV 3 1) rfl (.same _ (.same _ .nil))) ?_
 refine aH h (fun ((s58,s59):(List Int)×Int)=>[(2,.fl (.own 3) 1 (map (int .i64) s58)),(3,vz),(4,vi s59)]) (fun (s85:(List Int))=>[(2,.fl (.own 3) 1 (map (int .i64) s85)),(3,vz)]) ?_ ?_
 rintro s85 h
 refine ae (aa ?_)
 refine aX hn 1 [2,3,5] ?_
 refine iS (fs:=[(2,.fl (.own 3) 1 (map (int .i64) s85)),(3,.fl (.own 3) 1 (map (int .i64) [])),(5,vi 0)]) (.same _ (.sub _ (bV 3 1) rfl (.same _ .nil))) ?_
 refine aH h (fun ((s123,s124):(List Int)×Int)=>[(2,.fl (.own 3) 1 (map (int .i64) s85)),(3,.fl (.own 3) 1 (map (int .i64) s123)),(5,vi s124)]) (fun (s126:(List Int))=>[(2,.fl (.own 3) 1 (map (int .i64) s85)),(3,.fl (.own 3) 1 (map (int .i64) s126))]) ?_ ?_
 rintro s126 h
 refine ae ?_
 refine gG hn 0 ?_
 refine ym 0 ?_
 refine ym 0 ?_
 refine ya 0 ?_
 refine ya 0 ?_
 refine bi [0,1] ?_
 refine au ?_
 obtain rfl:=zi h
 exact ay hio rfl (.tmp _ _ (.tmp _ _ .nil)) rfl rfl
 rintro u127 hl128 hr129 ⟨s123,s124⟩ rr132 h ho130
 refine aa ?_
 refine aX hn 2 [2,3,5,32] ?_
 refine zc h rfl (fun h => ?_) (fun h => ?_)
 refine ak ?_
 refine ae (aa ?_)
 refine aC ?_
 obtain ⟨v118,hv118,h⟩:=zn h
 refine yx hn 0 ?_
 refine ym 0 ?_
 refine yS (.fl (.own 3) 1 (map (int .i64) [5])) 0 ⟨aF _ _ 1 (.int .i64 0) (map (int .i64) [5]) [(0,.int .i64 5)] underlying37 fN kf (fun _ V w o a hv hes=>by simp only [List.map_toArray,List.map_cons,List.map_nil]; try rfl) (bC (by simp [Instr.fill,Value.cells]; rfl) (by simp [List.range,List.range.loop] <;> rfl)) (by simp [Value.oneCell']) rfl (by decide) (by decide) (by decide)⟩ ?_
 refine yp fg hv118 0 ?_
 refine ya 0 ?_
 refine ye [2,5,3] ?_
 refine aM (ae ?_)
 obtain ⟨v119,hv119,h⟩:=zn h
 refine yx hn 1 ?_
 refine ys 0 ⟨lb hv119⟩ ?_
 refine yw [5] 1 ?_
 refine ye [2,3,5] ?_
 exact aS _ (zi h).symm rfl
 refine aO (ag (ag (aP ?_)))
 refine ar [0,1] (by kernel_rfl) (es':=[(_,_),(_,_)]) rfl ?_
 exact hl128 _ (ho130 _ (zi h).symm).symm
 rintro u86 hl87 hr88 ⟨s58,s59⟩ rr91 h ho89
 refine aa ?_
 refine aX hn 2 [2,3,4,7] ?_
 refine zc h rfl (fun h => ?_) (fun h => ?_)
 refine ak ?_
 refine ae (aa ?_)
 refine aL h (fun (s103:(List Int))=>[(3,vz),(4,vi s59),(2,.fl (.own 3) 1 (map (int .i64) s103))]) ?_ ?_
 rintro s103 h
 refine ae ?_
 obtain ⟨v30,hv30,h⟩:=zn h
 refine yx hn 1 ?_
 refine ys 0 ⟨lb hv30⟩ ?_
 refine yw [4] 1 ?_
 refine ye [3,2,4] ?_
 refine ar [1,0,2] (by kernel_rfl) (es':=[(_,_),(_,_),(_,_)]) rfl ?_
 exact aS _ (zi h).symm rfl
 intro u104 h hl105 hr106
 refine aC ?_
 refine aL h (fun (s110:(List Int))=>[(3,vz),(4,vi s59),(2,.fl (.own 3) 1 (map (int .i64) s110))]) ?_ ?_
 rintro s110 h
 refine aM ?_
 exact hl105 _ (zi h).symm
 intro u111 h hl112 hr113
 refine aC ?_
 refine aX hn 3 [2,3,4,13] ?_
 refine zc h rfl (fun h => ?_) (fun h => ?_)
 obtain ⟨v3,hv3,h⟩:=zn h
 refine yx hn 0 ?_
 refine ym 0 ?_
 refine yS (.fl (.own 3) 1 (map (int .i64) [8])) 0 ⟨aF _ _ 1 (.int .i64 0) (map (int .i64) [8]) [(0,.int .i64 8)] underlying37 fN kf (fun _ V w o a hv hes=>by simp only [List.map_toArray,List.map_cons,List.map_nil]; try rfl) (bC (by simp [Instr.fill,Value.cells]; rfl) (by simp [List.range,List.range.loop] <;> rfl)) (by simp [Value.oneCell']) rfl (by decide) (by decide) (by decide)⟩ ?_
 refine yp fg hv3 0 ?_
 refine ya 0 ?_
 refine ye [3,4,2] ?_
 refine aM ?_
 exact hl112 _ (zi h).symm
 refine aX hn 3 [2,3,4,19] ?_
 refine zc h rfl (fun h => ?_) (fun h => ?_)
 obtain ⟨v5,hv5,h⟩:=zn h
 refine yx hn 0 ?_
 refine ym 0 ?_
 refine yS (.fl (.own 3) 1 (map (int .i64) [9])) 0 ⟨aF _ _ 1 (.int .i64 0) (map (int .i64) [9]) [(0,.int .i64 9)] underlying37 fN kf (fun _ V w o a hv hes=>by simp only [List.map_toArray,List.map_cons,List.map_nil]; try rfl) (bC (by simp [Instr.fill,Value.cells]; rfl) (by simp [List.range,List.range.loop] <;> rfl)) (by simp [Value.oneCell']) rfl (by decide) (by decide) (by decide)⟩ ?_
 refine yp fg hv5 0 ?_
 refine ya 0 ?_
 refine ye [3,4,2] ?_
 refine aM ?_
 exact hl112 _ (zi h).symm
 refine aX hn 3 [2,3,4,25] ?_
 refine zc h rfl (fun h => ?_) (fun h => ?_)
 obtain ⟨v7,hv7,h⟩:=zn h
 refine yx hn 0 ?_
 refine ym 0 ?_
 refine yS (.fl (.own 3) 1 (map (int .i64) [7])) 0 ⟨aF _ _ 1 (.int .i64 0) (map (int .i64) [7]) [(0,.int .i64 7)] underlying37 fN kf (fun _ V w o a hv hes=>by simp only [List.map_toArray,List.map_cons,List.map_nil]; try rfl) (bC (by simp [Instr.fill,Value.cells]; rfl) (by simp [List.range,List.range.loop] <;> rfl)) (by simp [Value.oneCell']) rfl (by decide) (by decide) (by decide)⟩ ?_
 refine yp fg hv7 0 ?_
 refine ya 0 ?_
 refine ye [3,4,2] ?_
 refine aM ?_
 exact hl112 _ (zi h).symm
 obtain ⟨v8,hv8,h⟩:=zn h
 refine yx hn 0 ?_
 refine ym 0 ?_
 refine yS (.fl (.own 3) 1 (map (int .i64) [8])) 0 ⟨aF _ _ 1 (.int .i64 0) (map (int .i64) [8]) [(0,.int .i64 8)] underlying37 fN kf (fun _ V w o a hv hes=>by simp only [List.map_toArray,List.map_cons,List.map_nil]; try rfl) (bC (by simp [Instr.fill,Value.cells]; rfl) (by simp [List.range,List.range.loop] <;> rfl)) (by simp [Value.oneCell']) rfl (by decide) (by decide) (by decide)⟩ ?_
 refine yp fg hv8 0 ?_
 refine ya 0 ?_
 refine ye [3,4,2] ?_
 refine aM ?_
 exact hl112 _ (zi h).symm
 refine aO (ag (ag (aP ?_)))
 refine ar [0,1] (by kernel_rfl) (es':=[(_,_),(_,_)]) rfl ?_
 exact hl87 _ (ho89 _ (zi h).symm).symm
theorem bR (n:Int) (lo:Int) (hi:Int) (r:Bool) (h:Sh.bB n lo hi=some r):bZ Tryd.prog 50 [.v (.int .i64 n),.v (.int .i64 lo),.v (.int .i64 hi)] (.v (.bool r)):=by
 unfold Sh.bB at h
 refine yO 15 func50 fun g0 hn hio => ?_
 refine aX hn 1 [0,1,2] ?_
 refine aa ?_
 refine aL h (fun (s1:Bool)=>[(6,vb s1)]) ?_ ?_
 rintro s1 h
 refine ae (au ?_)
 obtain rfl:=zi h
 exact ay hio rfl (.tmp _ _ .nil) rfl rfl
 intro u2 h hl3 hr4
 refine aE h (fun hg1_3 h => ?_) (fun hg1_3 h => ?_)
 refine yx hn 4 ?_
 refine yd hg1_3 5 ?_
 refine ye [6] ?_
 exact hl3 _ (zi h).symm
 refine yx hn 4 ?_
 refine yd hg1_3 5 ?_
 refine ye [6] ?_
 exact hl3 _ (zi h).symm
theorem mU (b:(List Int)) (at_:Int) (r:(Int×Int)) (h:Sh.dU b at_=some r):bZ Tryd.prog 78 [.fl .shr 1 (map (int .u8) b),.v (.int .i64 at_)] (.tup [.v (.int .i64 r.1),.v (.int .i64 r.2)]):=by
 unfold Sh.dU at h
 refine yO 68 func78 fun g0 hn hio => ?_
 refine aX hn 2 [0,1] ?_
 refine aa (aa ?_)
 refine aL h (fun (s3:Bool)=>[(0,fb b),(1,vi at_),(20,vb s3)]) ?_ ?_
 rintro s3 h
 refine ae ?_
 refine zc h rfl (fun h => ?_) (fun h => ?_)
 refine aX hn 2 [4,5] ?_
 refine au (ap ?_)
 obtain rfl:=zi h
 exact ay hio rfl (.tmp _ _ (.tmp _ _ .nil)) rfl rfl
 refine ak (ae ?_)
 refine aX hn 2 [0,1,6,7] ?_
 refine aa ?_
 refine aX hn 1 [0,1,6,7,8] ?_
 refine aH h (fun ((s161,s162,s163):Int×Int×Int)=>[(0,fb b),(1,vi at_),(6,vi s161),(7,vi s162),(8,vi s163)]) (fun ((s234,s235):Int×Int)=>[(6,vi s234),(7,vi s235)]) ?_ ?_
 rintro ⟨s234,s235⟩ h
 refine ae (aa ?_)
 refine aX hn 2 [6,7,65] ?_
 refine zc h rfl (fun h => ?_) (fun h => ?_)
 refine aX hn 2 [4,5] ?_
 refine au (ap ?_)
 obtain rfl:=zi h
 exact ay hio rfl (.tmp _ _ (.tmp _ _ .nil)) rfl rfl
 refine ak (ae ?_)
 refine aX hn 4 [4,5] ?_
 refine au ?_
 obtain rfl:=zi h
 exact ay hio rfl (.tmp _ _ (.tmp _ _ .nil)) rfl rfl
 rintro u236 hl237 hr238 ⟨s161,s162,s163⟩ rr241 h ho239
 refine aa (aa ?_)
 refine aL h (fun (s242:Bool)=>[(0,fb b),(1,vi at_),(6,vi s161),(7,vi s162),(8,vi s163),(27,vb s242)]) ?_ ?_
 rintro s242 h
 refine ae ?_
 refine zc h rfl (fun h => ?_) (fun h => ?_)
 refine ak ?_
 refine ae (aa ?_)
 refine aL h (fun ((s277,s278):Int×Int)=>[(0,fb b),(1,vi at_),(8,vi s163),(6,vi s277),(7,vi s278)]) ?_ ?_
 rintro ⟨s277,s278⟩ h
 refine ae ?_
 obtain ⟨v87,hv87,h⟩:=zn h
 refine yx hn 1 ?_
 refine ys 0 ⟨lb hv87⟩ ?_
 refine yw [8] 1 ?_
 refine ye [0,1,6,7,8] ?_
 exact aS _ (zi h).symm rfl
 intro u279 h hl280 hr281
 refine aC ?_
 refine aX hn 1 [0,1,6,7,8,9] ?_
 refine aa ?_
 refine aH h (fun (s293:Int)=>[(0,fb b),(1,vi at_),(6,vi s161),(7,vi s162),(8,vi s163),(9,vi s293)]) (fun (s299:Int)=>[(0,fb b),(1,vi at_),(6,vi s161),(7,vi s162),(8,vi s163),(9,vi s299)]) ?_ ?_
 rintro s299 h
 refine ae ?_
 refine aX hn 3 [0,1,6,7,8,9,61] ?_
 refine zc h rfl (fun h => ?_) (fun h => ?_)
 refine yx hn 2 ?_
 refine yw [6] 1 ?_
 refine yw [7] 1 ?_
 refine ye [0,1,8,6,7] ?_
 refine aM ?_
 exact hl280 _ (zi h).symm
 refine ak (aM ?_)
 refine ar [0,1,4,2,3] (by kernel_rfl) (es':=[(_,_),(_,_),(_,_),(_,_),(_,_)]) rfl ?_
 exact hl280 _ (zi h).symm
 rintro u300 hl301 hr302 s293 rr305 h ho303
 refine aa (aa ?_)
 refine aL h (fun (s306:Bool)=>[(0,fb b),(1,vi at_),(6,vi s161),(7,vi s162),(8,vi s163),(9,vi s293),(56,vb s306)]) ?_ ?_
 rintro s306 h
 refine ae ?_
 refine zc h rfl (fun h => ?_) (fun h => ?_)
 refine ak (ae (aC ?_))
 obtain ⟨v26,hv26,h⟩:=zn h
 refine yx hn 1 ?_
 refine ys 0 ⟨lb hv26⟩ ?_
 refine yw [9] 1 ?_
 refine ye [0,1,6,7,8,9] ?_
 refine aM ?_
 exact aS _ (zi h).symm rfl
 refine aO (ag (ag (aP ?_)))
 refine ar [0,1,2,3,4,5] (by kernel_rfl) (es':=[(_,_),(_,_),(_,_),(_,_),(_,_),(_,_)]) rfl ?_
 exact hl301 _ (ho303 _ (zi h).symm).symm
 intro u307 h hl308 hr309
 refine aE h (fun hg8_2 h => ?_) (fun hg8_2 h => ?_)
 obtain ⟨v13,hv13,h⟩:=zn h
 refine aE h (fun hg8_10 h => ?_) (fun hg8_10 h => ?_)
 obtain ⟨v14,hv14,v15,hv15,v16,hv16,v17,hv17,h⟩:=gZ h
 obtain ⟨v18,hv18,v19,hv19,v20,hv20,h⟩:=kg h
 refine wb [[9],[30],[31]] ?_
 refine wd hg8_2 [[32,1],[32,9]] ?_
 refine wN [32,33,34] ?_
 refine wo [[32,0],[32,36],[32,35,37],[32,38],[39]] ⟨lb hv13⟩ ?_
 refine wd hg8_10 [[40,0],[40,1],[40,9]] ?_
 refine wN [40,42,43] ?_
 refine wo [] ⟨lb hv14⟩ ?_
 refine wN [40,41,44] ?_
 refine wo [] ⟨li hv15⟩ ?_
 refine wN [40,45,41] ?_
 refine wo [[40,0],[40,1],[40,9]] ⟨ll hv16⟩ ?_
 refine wN [40,48,49] ?_
 refine wo [[40,8]] ⟨lb hv17⟩ ?_
 refine wN [40,50,51] ?_
 refine wo [] ⟨lb hv18⟩ ?_
 refine wN [40,47,52] ?_
 refine wo [] ⟨li hv19⟩ ?_
 refine wN [40,53,47] ?_
 refine wo [[40,46,54],[40,55]] ⟨ll hv20⟩ ?_
 refine we hn [0,1,6,7,8,9,56] ?_
 exact hl308 _ (zi h).symm
 refine wb [[9],[30],[31]] ?_
 refine wd hg8_2 [[32,1],[32,9]] ?_
 refine wN [32,33,34] ?_
 refine wo [[32,0],[32,36],[32,35,37],[32,38],[39]] ⟨lb hv13⟩ ?_
 refine wd hg8_10 [[40],[40],[40],[40],[40],[40],[40],[40],[40],[40],[40],[40],[40],[40],[40],[40]] ?_
 refine we hn [0,1,6,7,8,9,56] ?_
 exact hl308 _ (zi h).symm
 refine wb [[9],[30],[31]] ?_
 refine wd hg8_2 [[32],[32],[32],[32],[32],[32],[32],[39],[40],[40],[40],[40],[40],[40],[40],[40],[40],[40],[40],[40],[40],[40],[40],[40]] ?_
 refine we hn [0,1,6,7,8,9,56] ?_
 exact hl308 _ (zi h).symm
 refine aO (ag (ag (aP ?_)))
 refine ar [2,3] (by kernel_rfl) (es':=[(_,_),(_,_)]) rfl ?_
 exact hl237 _ (ho239 _ (zi h).symm).symm
 intro u243 h hl244 hr245
 refine aE h (fun hg5_3 h => ?_) (fun hg5_3 h => ?_)
 refine yx hn 4 ?_
 refine yd hg5_3 3 ?_
 refine ye [0,1,6,7,8,27] ?_
 exact hl244 _ (zi h).symm
 refine yx hn 4 ?_
 refine yd hg5_3 3 ?_
 refine ye [0,1,6,7,8,27] ?_
 exact hl244 _ (zi h).symm
 intro u4 h hl5 hr6
 refine aE h (fun hg1_3 h => ?_) (fun hg1_3 h => ?_)
 refine yx hn 4 ?_
 refine yd hg1_3 7 ?_
 refine ye [0,1,20] ?_
 exact hl5 _ (zi h).symm
 obtain ⟨v1,hv1,v2,hv2,h⟩:=eY h
 refine yx hn 4 ?_
 refine yd hg1_3 3 ?_
 refine ys 0 ⟨lb hv1⟩ ?_
 refine ys 2 ⟨lk call50 (bR _ _ _ _ hv2)⟩ ?_
 refine ye [0,1,20] ?_
 exact hl5 _ (zi h).symm
theorem ik (b:(List Int)) (r:(List al)) (h:Sh.cT b=some r):bZ Tryd.prog 46 [.fl .shr 1 (map (int .u8) b)] (.fl (.own 53) 3 (flatten (map al.enc r))):=by
 unfold Sh.cT at h
 refine yO 39 func46 fun g0 hn hio => ?_
 refine aX hn 1 [0] ?_
 refine aX hn 1 [0,3] ?_
 refine aa ?_
 refine aX hn 1 [0,3,4] ?_
 refine iS (fs:=[(0,fb b),(3,.fl (.own 53) 3 (flatten (map al.enc []))),(4,vi 0)]) (.same _ (.sub _ (bV 53 3) rfl (.same _ .nil))) ?_
 refine aH h (fun ((s26,s27):(List al)×Int)=>[(0,fb b),(3,.fl (.own 53) 3 (flatten (map al.enc s26))),(4,vi s27)]) (fun (s36:(List al))=>[(3,.fl (.own 53) 3 (flatten (map al.enc s36)))]) ?_ ?_
 rintro s36 h
 refine ae ?_
 refine gG hn 0 ?_
 refine ym 0 ?_
 refine ya 0 ?_
 refine bi [2] ?_
 refine au ?_
 obtain rfl:=zi h
 exact ay hio rfl (.tmp _ _ .nil) rfl rfl
 rintro u37 hl38 hr39 ⟨s26,s27⟩ rr42 h ho40
 refine aa ?_
 refine aX hn 4 [0,3,4,10] ?_
 refine zc h rfl (fun h => ?_) (fun h => ?_)
 refine ak (ae ?_)
 refine aL h (fun ((s45,s46):(List al)×Int)=>[(0,fb b),(3,.fl (.own 53) 3 (flatten (map al.enc s45))),(4,vi s46)]) ?_ ?_
 rintro ⟨s45,s46⟩ h
 exact aS _ (zi h).symm rfl
 intro u47 h hl48 hr49
 refine aC (aa ?_)
 obtain ⟨v2,hv2,h⟩:=zn h
 refine yx hn 2 ?_
 refine ys 0 ⟨lk call78 (mU _ _ _ hv2)⟩ ?_
 refine ym 4 ?_
 refine bi [0,3,4,5,6] ?_
 refine aX hn 2 [0,3,4,5,6,18] ?_
 refine zc h rfl (fun h => ?_) (fun h => ?_)
 refine aa ?_
 obtain ⟨v4,hv4,v5,hv5,v6,hv6,h⟩:=kg h
 refine yx hn 0 ?_
 refine ym 2 ?_
 refine ys 0 ⟨li hv4⟩ ?_
 refine ys 0 ⟨ll hv5⟩ ?_
 refine yS (.agg [.v (.int .u8 v5),vi 0,vi 0]) 0 ⟨ec _ _ _ _ [1,1,1] _ _ underlying53 sw (Hf _ underlying53) (.copy _ sr.nil) rfl rfl rfl⟩ ?_
 refine yS (.fl (.own 53) 3 (flatten (map al.enc [(al.mk v5 0 0)]))) 0 ⟨aF _ _ 3 (.agg #[.int .u8 0,.int .i64 0,.int .i64 0]) (flatten (map al.enc [(al.mk v5 0 0)])) [(0,.agg #[.int .u8 v5,.int .i64 0,.int .i64 0])] underlying45 Bm sw (fun _ V w o a hv hes=>by have e0:=Dp (ys:=[.int .u8 v5,.int .i64 0,.int .i64 0]) hv hes (x := .tmp 24) rfl; simp only [List.map_toArray,List.map_cons,List.map_nil,e0]; try rfl) (bC (by simp [Instr.fill,Value.cells]; rfl) (by simp [List.range,List.range.loop,al.enc] <;> rfl)) (by simp [Value.oneCell',al.enc]) rfl (by decide) (by decide) (by decide)⟩ ?_
 refine Kf Hs hv6 0 ?_
 refine ya 0 ?_
 refine bi [0,4,3] ?_
 obtain ⟨v7,hv7,h⟩:=zn h
 refine yx hn 1 ?_
 refine ys 0 ⟨lb hv7⟩ ?_
 refine yw [4] 1 ?_
 refine ye [0,3,4] ?_
 refine aM ?_
 exact hl48 _ (zi h).symm
 refine aa ?_
 obtain ⟨v8,hv8,h⟩:=zn h
 refine yx hn 0 ?_
 refine ym 2 ?_
 refine yS (.agg [.v (.int .u8 0),vi v2.1,vi v2.2]) 0 ⟨ec _ _ _ _ [1,1,1] _ _ underlying53 sw (Hf _ underlying53) (.copy _ (.copy _ sr.nil)) rfl rfl rfl⟩ ?_
 refine yS (.fl (.own 53) 3 (flatten (map al.enc [(al.mk 0 v2.1 v2.2)]))) 0 ⟨aF _ _ 3 (.agg #[.int .u8 0,.int .i64 0,.int .i64 0]) (flatten (map al.enc [(al.mk 0 v2.1 v2.2)])) [(0,.agg #[.int .u8 0,.int .i64 v2.1,.int .i64 v2.2])] underlying45 Bm sw (fun _ V w o a hv hes=>by have e0:=Dp (ys:=[.int .u8 0,.int .i64 v2.1,.int .i64 v2.2]) hv hes (x := .tmp 32) rfl; simp only [List.map_toArray,List.map_cons,List.map_nil,e0]; try rfl) (bC (by simp [Instr.fill,Value.cells]; rfl) (by simp [List.range,List.range.loop,al.enc] <;> rfl)) (by simp [Value.oneCell',al.enc]) rfl (by decide) (by decide) (by decide)⟩ ?_
 refine Kf Hs hv8 0 ?_
 refine ya 0 ?_
 refine bi [0,4,5,3] ?_
 obtain ⟨v9,hv9,h⟩:=zn h
 refine yx hn 2 ?_
 refine ys 0 ⟨lb hv9⟩ ?_
 refine yw [4] 1 ?_
 refine ye [0,3,4] ?_
 refine aM ?_
 exact hl48 _ (zi h).symm
 refine aO (ag (ag (aP ?_)))
 refine ar [1] (by kernel_rfl) (es':=[(_,_)]) rfl ?_
 exact hl38 _ (ho40 _ (zi h).symm).symm
theorem fC (l:(List Int)) (r:(List Int)) (h:Sh.cN l=some r):bZ Tryd.prog 71 [.fl .shr 1 (map (int .i64) l)] (.fl (.own 3) 1 (map (int .i64) r)):=by
 unfold Sh.cN at h
 refine yO 35 func71 fun g0 hn hio => ?_
 refine aX hn 1 [0] ?_
 refine aa ?_
 obtain ⟨v1,hv1,h⟩:=zn h
 refine yx hn 2 ?_
 refine yS (.fl (.own 3) 1 (map (int .i64) v1)) 0 ⟨kY (f:=int .i64) _ _ _ _ fg (by decide) kf rfl rfl rfl hv1⟩ ?_
 refine ya 0 ?_
 refine bi [0,3] ?_
 refine aX hn 1 [0,3,4] ?_
 refine aa ?_
 refine aX hn 1 [0,3,4,5] ?_
 refine aH h (fun ((s107,s108,s109):(List Int)×Int×Int)=>[(0,fi l),(3,.fl (.own 3) 1 (map (int .i64) s107)),(4,vi s108),(5,vi s109)]) (fun (s157:(List Int))=>[(3,.fl (.own 3) 1 (map (int .i64) s157))]) ?_ ?_
 rintro s157 h
 refine ae ?_
 refine gG hn 0 ?_
 refine ym 0 ?_
 refine ya 0 ?_
 refine bi [2] ?_
 refine au ?_
 obtain rfl:=zi h
 exact ay hio rfl (.tmp _ _ .nil) rfl rfl
 rintro u158 hl159 hr160 ⟨s107,s108,s109⟩ rr163 h ho161
 refine aa ?_
 refine aX hn 2 [0,3,4,5,11] ?_
 refine zc h rfl (fun h => ?_) (fun h => ?_)
 refine ak ?_
 refine ae (aa ?_)
 refine aC (aa ?_)
 obtain ⟨v3,hv3,h⟩:=zn h
 refine yx hn 1 ?_
 refine ys 0 ⟨lb hv3⟩ ?_
 refine yw [4] 1 ?_
 refine bi [0,3,5,4] ?_
 refine aX hn 1 [0,3,5,4,6] ?_
 refine aH h (fun ((s184,s185,s186):(List Int)×Int×Int)=>[(0,fi l),(3,.fl (.own 3) 1 (map (int .i64) s184)),(5,vi s109),(4,vi s185),(6,vi s186)]) (fun ((s195,s196):(List Int)×Int)=>[(0,fi l),(3,.fl (.own 3) 1 (map (int .i64) s195)),(5,vi s109),(4,vi s196)]) ?_ ?_
 rintro ⟨s195,s196⟩ h
 refine aM (ae ?_)
 obtain ⟨v56,hv56,h⟩:=zn h
 refine yx hn 1 ?_
 refine ys 0 ⟨lb hv56⟩ ?_
 refine yw [5] 1 ?_
 refine ye [0,3,4,5] ?_
 exact aS _ (zi h).symm rfl
 rintro u197 hl198 hr199 ⟨s184,s185,s186⟩ rr202 h ho200
 refine aa ?_
 refine aX hn 4 [0,3,5,4,6,19] ?_
 refine zc h rfl (fun h => ?_) (fun h => ?_)
 refine ak ?_
 refine ae (aa ?_)
 refine aL h (fun ((s205,s206):(List Int)×Int)=>[(0,fi l),(3,.fl (.own 3) 1 (map (int .i64) s205)),(5,vi s109),(6,vi s186),(4,vi s206)]) ?_ ?_
 rintro ⟨s205,s206⟩ h
 refine ae ?_
 obtain ⟨v17,hv17,h⟩:=zn h
 refine yx hn 1 ?_
 refine ys 0 ⟨lb hv17⟩ ?_
 refine yw [6] 1 ?_
 refine ye [0,3,5,4,6] ?_
 exact aS _ (zi h).symm rfl
 intro u207 h hl208 hr209
 refine aC (aa ?_)
 obtain ⟨v5,hv5,v6,hv6,h⟩:=eY h
 refine yx hn 2 ?_
 refine ys 0 ⟨li hv5⟩ ?_
 refine ys 2 ⟨ll hv6⟩ ?_
 refine bi [0,3,5,4,6,27] ?_
 refine zc h rfl (fun h => ?_) (fun h => ?_)
 refine aa ?_
 obtain ⟨v8,hv8,v9,hv9,h⟩:=eY h
 refine yx hn 3 ?_
 refine ys 0 ⟨li hv8⟩ ?_
 refine yk [3] [31,30] ?_
 refine yt (3,.fl (.own 3) 1 (map (int .i64) v9)) 0 ⟨bU _ _ _ _ _ _ _ _ fN rfl rfl rfl (by decide) (dO (bA hv8).2) ((map_set (f:=int .i64) _ (bA hv8).2).trans (congrArg (map _) (Option.some.inj hv9)))⟩ ?_
 refine bi [0,3,5,4,6] ?_
 obtain ⟨v10,hv10,h⟩:=zn h
 refine yx hn 1 ?_
 refine ys 0 ⟨lb hv10⟩ ?_
 refine yw [4] 1 ?_
 refine ye [0,3,5,6,4] ?_
 refine aM ?_
 exact hl208 _ (zi h).symm
 refine ak (aM ?_)
 refine ar [0,1,2,4,3] (by kernel_rfl) (es':=[(_,_),(_,_),(_,_),(_,_),(_,_)]) rfl ?_
 exact hl208 _ (zi h).symm
 refine aO (ag (ag (aP ?_)))
 refine ar [0,1,2,3] (by kernel_rfl) (es':=[(_,_),(_,_),(_,_),(_,_)]) rfl ?_
 exact hl198 _ (ho200 _ (zi h).symm).symm
 refine aO (ag (ag (aP ?_)))
 refine ar [1] (by kernel_rfl) (es':=[(_,_)]) rfl ?_
 exact hl159 _ (ho161 _ (zi h).symm).symm
theorem mT (v:Int) (n:Int) (r:Int) (h:Sh.eQ v n=some r):bZ Tryd.prog 95 [.v (.int .i64 v),.v (.int .i64 n)] (.v (.int .i64 r)):=by
 unfold Sh.eQ at h
 refine yO 21 func95 fun g0 hn hio => ?_
 refine aX hn 1 [0,1] ?_
 refine aX hn 1 [0,1,5] ?_
 refine aa ?_
 refine aX hn 1 [0,1,5,6] ?_
 refine aH h (fun ((s11,s12):Int×Int)=>[(0,vi v),(1,vi n),(5,vi s11),(6,vi s12)]) (fun (s14:Int)=>[(5,vi s14)]) ?_ ?_
 rintro s14 h
 refine ae ?_
 refine aX hn 2 [4] ?_
 refine au ?_
 obtain rfl:=zi h
 exact ay hio rfl (.tmp _ _ .nil) rfl rfl
 rintro u15 hl16 hr17 ⟨s11,s12⟩ rr20 h ho18
 refine aa ?_
 refine aX hn 3 [0,1,5,6,9] ?_
 refine zc h rfl (fun h => ?_) (fun h => ?_)
 refine ak ?_
 refine ae (aa ?_)
 refine aC ?_
 obtain ⟨v2,hv2,v3,hv3,v4,hv4,v5,hv5,h⟩:=gZ h
 obtain ⟨v6,hv6,h⟩:=zn h
 refine yx hn 1 ?_
 refine ys 2 ⟨lB (jy hv2)⟩ ?_
 refine ys 0 ⟨lv hv3⟩ ?_
 refine ys 0 ⟨lB (uJ hv4)⟩ ?_
 refine ys 0 ⟨lb hv5⟩ ?_
 refine ys 0 ⟨lb hv6⟩ ?_
 refine yw [5] 1 ?_
 refine ye [0,1,6,5] ?_
 refine aM (ae ?_)
 obtain ⟨v7,hv7,h⟩:=zn h
 refine yx hn 1 ?_
 refine ys 0 ⟨lb hv7⟩ ?_
 refine yw [6] 1 ?_
 refine ye [0,1,5,6] ?_
 exact aS _ (zi h).symm rfl
 refine aO (ag (ag (aP ?_)))
 refine ar [2] (by kernel_rfl) (es':=[(_,_)]) rfl ?_
 exact hl16 _ (ho18 _ (zi h).symm).symm
theorem dM (s:aN) (l:(List Int)) (c:(List Int)) (sym:Int) (r:aN) (h:Sh.bL s l c sym=some r):sv Tryd.prog 72 [.agg [.fl (.own 5) 1 (map (int .u8) s.B),.v (.int .i64 s.N)],.fl .shr 1 (map (int .i64) l),.fl .shr 1 (map (int .i64) c),.v (.int .i64 sym)] [] (.agg [.fl (.own 5) 1 (map (int .u8) r.B),.v (.int .i64 r.N)]):=by
 unfold Sh.bL at h
 refine yP 24 func72 fun args0 hargs0 g0 hn hio => ?_
 refine gG hn 0 ?_
 refine yk [0] [] ?_
 refine yt (4,.box 63 [.fl (.own 5) 1 (map (int .u8) s.B),vi s.N]) 0 ⟨iB _ _ _ _ _ rfl rfl rfl⟩ ?_
 refine yS (.box 63 [vz,vi 0]) 0 ⟨oA (cG _ _ ox)⟩ ?_
 refine bi [1,2,3,4,8] ?_
 refine aa ?_
 obtain ⟨v1,hv1,v2,hv2,v3,hv3,v4,hv4,h⟩:=gZ h
 obtain ⟨v5,hv5,v6,hv6,v7,hv7,v8,hv8,h⟩:=gZ h
 refine wb [] ?_
 refine wK [4] [] ?_
 refine wt [(9,.agg [.fl (.own 5) 1 (map (int .u8) s.B),vi s.N])] [[2],[3]] ⟨dR _ _ _ _ underlying63 rfl eJ rfl rfl⟩ ?_
 refine wN [10,11] ?_
 refine wo [] ⟨li hv1⟩ ?_
 refine wN [12,10] ?_
 refine wo [[1],[3]] ⟨ll hv2⟩ ?_
 refine wN [14,15] ?_
 refine wo [] ⟨li hv3⟩ ?_
 refine wN [16,14] ?_
 refine wo [] ⟨ll hv4⟩ ?_
 refine wN [13,17] ?_
 refine wo [[1],[3]] ⟨lk call95 (mT _ _ _ hv5)⟩ ?_
 refine wN [19,20] ?_
 refine wo [] ⟨li hv6⟩ ?_
 refine wN [21,19] ?_
 refine wo [] ⟨ll hv7⟩ ?_
 refine wK [9] [18,22] ?_
 refine wt [(23,.agg [.fl (.own 5) 1 (map (int .u8) v8.B),vi v8.N])] [] ⟨cv _ _ _ _ 23 66 [.tmp 9] [.tmp 18,.tmp 22] _ _ _ rfl call66 rfl rfl rfl (bw s v5 v7 _ hv8) (zl rfl) rfl rfl rfl rfl rfl rfl rfl rfl⟩ ?_
 refine wK [23,8] [] ?_
 refine wt [(8,.box 63 [.fl (.own 5) 1 (map (int .u8) v8.B),vi v8.N])] [] ⟨aY _ _ _ _ _ _ _ _ eJ rfl rfl rfl (zl rfl) rfl rfl⟩ ?_
 refine zP hn [8] ?_
 refine au ?_
 obtain rfl:=zi h
 exact gR (es:=[(8,.box 63 [.fl (.own 5) 1 (map (int .u8) v8.B),.v (.int .i64 v8.N)])]) (posts:=[]) hio rfl rfl (.cellA _ _ _ _ underlying63 rfl eJ .nil) rfl rfl hargs0 rfl
theorem iI (sym:Int) (r:(Int×Int×Int)) (h:Sh.fv sym=some r):bZ Tryd.prog 52 [.v (.int .i64 sym)] (.tup [.v (.int .i64 r.1),.v (.int .i64 r.2.1),.v (.int .i64 r.2.2)]):=by
 unfold Sh.fv at h
 refine yO 27 func52 fun g0 hn hio => ?_
 refine aX hn 3 [0] ?_
 refine aa (aa ?_)
 obtain ⟨v1,hv1,h⟩:=zn h
 refine yx hn 1 ?_
 refine ys 1 ⟨lk call50 (bR _ _ _ _ hv1)⟩ ?_
 refine bi [0,8] ?_
 refine zc h rfl (fun h => ?_) (fun h => ?_)
 refine aX hn 3 [2,3,4] ?_
 refine au (ap ?_)
 obtain rfl:=zi h
 exact ay hio rfl (.tmp _ _ (.tmp _ _ (.tmp _ _ .nil))) rfl rfl
 refine ak ?_
 refine ae (aa ?_)
 refine aX hn 2 [0,10] ?_
 refine zc h rfl (fun h => ?_) (fun h => ?_)
 refine aa ?_
 obtain ⟨v4,hv4,h⟩:=zn h
 refine yx hn 1 ?_
 refine ys 3 ⟨lb hv4⟩ ?_
 refine bi [2,3,4] ?_
 refine au (ap ?_)
 obtain rfl:=zi h
 exact ay hio rfl (.tmp _ _ (.tmp _ _ (.tmp _ _ .nil))) rfl rfl
 refine ak ?_
 refine ae (aa ?_)
 refine aX hn 2 [0,14] ?_
 refine zc h rfl (fun h => ?_) (fun h => ?_)
 refine aX hn 3 [2,3,4] ?_
 refine au (ap ?_)
 obtain rfl:=zi h
 exact ay hio rfl (.tmp _ _ (.tmp _ _ (.tmp _ _ .nil))) rfl rfl
 refine ak ?_
 refine ae (aa ?_)
 obtain ⟨v6,hv6,v7,hv7,h⟩:=eY h
 refine yx hn 1 ?_
 refine ys 0 ⟨lb hv6⟩ ?_
 refine ys 1 ⟨lB (pk hv7)⟩ ?_
 refine bi [0,5] ?_
 refine aa ?_
 obtain ⟨v8,hv8,v9,hv9,v10,hv10,v11,hv11,h⟩:=gZ h
 obtain ⟨v12,hv12,v13,hv13,h⟩:=eY h
 refine yx hn 1 ?_
 refine ys 0 ⟨lb hv8⟩ ?_
 refine ys 0 ⟨lB (sq hv9)⟩ ?_
 refine ys 1 ⟨lb hv10⟩ ?_
 refine ys 0 ⟨lv hv11⟩ ?_
 refine ys 0 ⟨lB (jy hv12)⟩ ?_
 refine ys 4 ⟨lb hv13⟩ ?_
 refine bi [2,3,4] ?_
 refine au ?_
 obtain rfl:=zi h
 exact ay hio rfl (.tmp _ _ (.tmp _ _ (.tmp _ _ .nil))) rfl rfl
theorem gA (sym:Int) (r:Int) (h:Sh.eB sym=some r):bZ Tryd.prog 51 [.v (.int .i64 sym)] (.v (.int .i64 r)):=by
 unfold Sh.eB at h
 refine yO 13 func51 fun g0 hn hio => ?_
 refine aX hn 1 [0] ?_
 refine aa ?_
 obtain ⟨v1,hv1,h⟩:=zn h
 refine yx hn 1 ?_
 refine ys 0 ⟨lk call52 (iI _ _ hv1)⟩ ?_
 refine ym 6 ?_
 refine bi [3] ?_
 refine aX hn 2 [2] ?_
 refine au ?_
 obtain rfl:=zi h
 exact ay hio rfl (.tmp _ _ .nil) rfl rfl
end Go.Proofs.YtkgfjkfccpjcgaaDoor
