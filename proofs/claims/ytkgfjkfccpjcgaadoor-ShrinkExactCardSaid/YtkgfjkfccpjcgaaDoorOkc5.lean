import Derived.Test.YtkgfjkfccpjcgaaDoorOkc4
set_option linter.unusedVariables false
set_option linter.unusedSimpArgs false
set_option maxHeartbeats 1000000
namespace Go.Proofs.YtkgfjkfccpjcgaaDoor
open Go.Abs Go.Abs.Sh Tryd
open List (map flatten)
open Value (int)
theorem jz (n:Int) (r:(Int×Int×Int×Int)) (h:Sh.cg n=some r):bZ Tryd.prog 31 [.v (.int .i64 n)] (.tup [.v (.int .i64 r.1),.v (.int .i64 r.2.1),.v (.int .i64 r.2.2.1),.v (.int .i64 r.2.2.2)]):=by
 unfold Sh.cg at h
 refine yO 42 func31 fun g0 hn hio => ?_
 refine aX hn 4 [0] ?_
 refine aa (aa ?_)
 obtain ⟨v1,hv1,h⟩:=zn h
 refine yx hn 1 ?_
 refine ys 1 ⟨lk call50 (bR _ _ _ _ hv1)⟩ ?_
 refine bi [0,12] ?_
 refine zc h rfl (fun h => ?_) (fun h => ?_)
 refine aX hn 4 [2,3,4,5] ?_
 refine au (ap ?_)
 obtain rfl:=zi h
 exact ay hio rfl (.tmp _ _ (.tmp _ _ (.tmp _ _ (.tmp _ _ .nil)))) rfl rfl
 refine ak (ae ?_)
 refine aX hn 1 [0,6] ?_
 refine aa ?_
 refine aH h (fun (s17:Int)=>[(0,vi n),(6,vi s17)]) (fun (s23:Int)=>[(0,vi n),(6,vi s23)]) ?_ ?_
 rintro s23 h
 refine ae (aa ?_)
 obtain ⟨v35,hv35,h⟩:=zn h
 refine yx hn 1 ?_
 refine ys 0 ⟨lk call52 (iI _ _ hv35)⟩ ?_
 refine ym 6 ?_
 refine bi [0,6,7,8] ?_
 refine aa ?_
 obtain ⟨v36,hv36,h⟩:=zn h
 refine yx hn 4 ?_
 refine ys 4 ⟨lb hv36⟩ ?_
 refine bi [2,3,4,5] ?_
 refine au ?_
 obtain rfl:=zi h
 exact ay hio rfl (.tmp _ _ (.tmp _ _ (.tmp _ _ (.tmp _ _ .nil)))) rfl rfl
 rintro u24 hl25 hr26 s17 rr29 h ho27
 refine aa (aa ?_)
 refine aL h (fun (s30:Bool)=>[(0,vi n),(6,vi s17),(28,vb s30)]) ?_ ?_
 rintro s30 h
 refine ae ?_
 refine zc h rfl (fun h => ?_) (fun h => ?_)
 refine ak (ae (aC ?_))
 obtain ⟨v10,hv10,h⟩:=zn h
 refine yx hn 1 ?_
 refine ys 0 ⟨lb hv10⟩ ?_
 refine yw [6] 1 ?_
 refine ye [0,6] ?_
 refine aM ?_
 exact aS _ (zi h).symm rfl
 refine aO (ag (ag (aP ?_)))
 refine ar [0,1] (by kernel_rfl) (es':=[(_,_),(_,_)]) rfl ?_
 exact hl25 _ (ho27 _ (zi h).symm).symm
 intro u31 h hl32 hr33
 refine aE h (fun hg4_2 h => ?_) (fun hg4_2 h => ?_)
 refine aE h (fun hg4_6 h => ?_) (fun hg4_6 h => ?_)
 refine yx hn 3 ?_
 refine yd hg4_2 4 ?_
 refine yd hg4_6 9 ?_
 refine ye [0,6,28] ?_
 exact hl32 _ (zi h).symm
 refine aE h (fun hg4_9 h => ?_) (fun hg4_9 h => ?_)
 obtain ⟨v3,hv3,h⟩:=zn h
 refine yx hn 3 ?_
 refine yd hg4_2 4 ?_
 refine yd hg4_6 3 ?_
 refine yd hg4_9 1 ?_
 refine ys 4 ⟨lk call51 (gA _ _ hv3)⟩ ?_
 refine ye [0,6,28] ?_
 exact hl32 _ (zi h).symm
 refine yx hn 3 ?_
 refine yd hg4_2 4 ?_
 refine yd hg4_6 3 ?_
 refine yd hg4_9 6 ?_
 refine ye [0,6,28] ?_
 exact hl32 _ (zi h).symm
 refine aE h (fun hg4_9 h => ?_) (fun hg4_9 h => ?_)
 obtain ⟨v4,hv4,h⟩:=zn h
 refine yx hn 3 ?_
 refine yd hg4_2 7 ?_
 refine yd hg4_9 1 ?_
 refine ys 4 ⟨lk call51 (gA _ _ hv4)⟩ ?_
 refine ye [0,6,28] ?_
 exact hl32 _ (zi h).symm
 refine yx hn 3 ?_
 refine yd hg4_2 7 ?_
 refine yd hg4_9 6 ?_
 refine ye [0,6,28] ?_
 exact hl32 _ (zi h).symm
theorem lE (sym:Int) (r:(Int×Int×Int)) (h:Sh.dY sym=some r):bZ Tryd.prog 53 [.v (.int .i64 sym)] (.tup [.v (.int .i64 r.1),.v (.int .i64 r.2.1),.v (.int .i64 r.2.2)]):=by
 unfold Sh.dY at h
 refine yO 24 func53 fun g0 hn hio => ?_
 refine aX hn 3 [0] ?_
 refine aa (aa ?_)
 obtain ⟨v1,hv1,h⟩:=zn h
 refine yx hn 1 ?_
 refine ys 1 ⟨lk call50 (bR _ _ _ _ hv1)⟩ ?_
 refine bi [0,8] ?_
 refine zc h rfl (fun h => ?_) (fun h => ?_)
 refine aX hn 3 [2,3,4] ?_
 refine au (ap ?_)
 obtain rfl:=zi h
 exact ay hio rfl (.tmp _ _ (.tmp _ _ (.tmp _ _ .nil))) rfl rfl
 refine ak ?_
 refine ae (aa ?_)
 refine aX hn 2 [0,10] ?_
 refine zc h rfl (fun h => ?_) (fun h => ?_)
 refine aa ?_
 obtain ⟨v4,hv4,h⟩:=zn h
 refine yx hn 1 ?_
 refine ys 3 ⟨lb hv4⟩ ?_
 refine bi [2,3,4] ?_
 refine au (ap ?_)
 obtain rfl:=zi h
 exact ay hio rfl (.tmp _ _ (.tmp _ _ (.tmp _ _ .nil))) rfl rfl
 refine ak ?_
 refine ae (aa ?_)
 obtain ⟨v5,hv5,v6,hv6,h⟩:=eY h
 refine yx hn 1 ?_
 refine ys 0 ⟨lb hv5⟩ ?_
 refine ys 1 ⟨lB (pk hv6)⟩ ?_
 refine bi [0,5] ?_
 refine aa ?_
 obtain ⟨v7,hv7,v8,hv8,v9,hv9,v10,hv10,h⟩:=gZ h
 obtain ⟨v11,hv11,h⟩:=zn h
 refine yx hn 1 ?_
 refine ys 0 ⟨lB (sq hv7)⟩ ?_
 refine ys 1 ⟨lb hv8⟩ ?_
 refine ys 0 ⟨lv hv9⟩ ?_
 refine ys 0 ⟨lB (jy hv10)⟩ ?_
 refine ys 4 ⟨lb hv11⟩ ?_
 refine bi [2,3,4] ?_
 refine au ?_
 obtain rfl:=zi h
 exact ay hio rfl (.tmp _ _ (.tmp _ _ (.tmp _ _ .nil))) rfl rfl
theorem iX (n:Int) (r:(Int×Int×Int×Int)) (h:Sh.cn n=some r):bZ Tryd.prog 32 [.v (.int .i64 n)] (.tup [.v (.int .i64 r.1),.v (.int .i64 r.2.1),.v (.int .i64 r.2.2.1),.v (.int .i64 r.2.2.2)]):=by
 unfold Sh.cn at h
 refine yO 31 func32 fun g0 hn hio => ?_
 refine aX hn 4 [0] ?_
 refine aa (aa ?_)
 obtain ⟨v1,hv1,h⟩:=zn h
 refine yx hn 1 ?_
 refine ys 1 ⟨lk call50 (bR _ _ _ _ hv1)⟩ ?_
 refine bi [0,12] ?_
 refine zc h rfl (fun h => ?_) (fun h => ?_)
 refine aX hn 4 [2,3,4,5] ?_
 refine au (ap ?_)
 obtain rfl:=zi h
 exact ay hio rfl (.tmp _ _ (.tmp _ _ (.tmp _ _ (.tmp _ _ .nil)))) rfl rfl
 refine ak ?_
 refine ae (aa ?_)
 refine aX hn 1 [0,6] ?_
 refine aH h (fun (s11:Int)=>[(0,vi n),(6,vi s11)]) (fun (():Unit)=>[]) ?_ ?_
 rintro ⟨⟩ h
 refine ae ?_
 refine aX hn 4 [2,3,4,5] ?_
 refine au ?_
 obtain rfl:=zi h
 exact ay hio rfl (.tmp _ _ (.tmp _ _ (.tmp _ _ (.tmp _ _ .nil)))) rfl rfl
 rintro u14 hl15 hr16 s11 rr19 h ho17
 refine aa ?_
 refine aX hn 2 [0,6,14] ?_
 refine zc h rfl (fun h => ?_) (fun h => ?_)
 refine ak ?_
 refine ae (aa ?_)
 refine aC (aa ?_)
 obtain ⟨v4,hv4,h⟩:=zn h
 refine yx hn 1 ?_
 refine ys 0 ⟨lk call53 (lE _ _ hv4)⟩ ?_
 refine ym 6 ?_
 refine bi [0,6,7,8] ?_
 refine aX hn 3 [0,6,7,8,25] ?_
 refine zc h rfl (fun h => ?_) (fun h => ?_)
 refine aa ?_
 obtain ⟨v6,hv6,h⟩:=zn h
 refine yx hn 4 ?_
 refine ys 4 ⟨lb hv6⟩ ?_
 refine bi [2,3,4,5] ?_
 refine au (bI (ap (ap (bI (ap ?_)))))
 have h:=hr16 _ (ho17 _ (zi h).symm).symm
 obtain rfl:=zi h
 exact ay hio rfl (.tmp _ _ (.tmp _ _ (.tmp _ _ (.tmp _ _ .nil)))) rfl rfl
 refine ak (aM (ae ?_))
 obtain ⟨v7,hv7,h⟩:=zn h
 refine yx hn 1 ?_
 refine ys 0 ⟨lb hv7⟩ ?_
 refine yw [6] 1 ?_
 refine ye [0,6] ?_
 exact aS _ (zi h).symm rfl
 refine aO (ag (ag (aP ?_)))
 refine ar [] (by kernel_rfl) (es':=[]) rfl ?_
 exact hl15 _ (ho17 _ (zi h).symm).symm
theorem iW (s:aN) (t:(List al)) (l:(List Int)) (d:(List Int)) (r:aN) (h:Sh.dV s t l d=some r):sv Tryd.prog 67 [.agg [.fl (.own 5) 1 (map (int .u8) s.B),.v (.int .i64 s.N)],.fl .shr 3 (flatten (map al.enc t)),.fl .shr 1 (map (int .i64) l),.fl .shr 1 (map (int .i64) d)] [] (.agg [.fl (.own 5) 1 (map (int .u8) r.B),.v (.int .i64 r.N)]):=by
 unfold Sh.dV at h
 refine yP 84 func67 fun args0 hargs0 g0 hn hio => ?_
 refine gG hn 0 ?_
 refine yk [0] [] ?_
 refine yt (4,.box 63 [.fl (.own 5) 1 (map (int .u8) s.B),vi s.N]) 0 ⟨iB _ _ _ _ _ rfl rfl rfl⟩ ?_
 refine yS (.box 63 [vz,vi 0]) 0 ⟨oA (cG _ _ ox)⟩ ?_
 refine bi [1,2,3,4,8] ?_
 refine aa ?_
 obtain ⟨v1,hv1,v2,hv2,h⟩:=eY h
 refine yx hn 1 ?_
 refine ys 1 ⟨lk call71 (fC _ _ hv1)⟩ ?_
 refine ys 0 ⟨lk call71 (fC _ _ hv2)⟩ ?_
 refine ya 0 ?_
 refine ya 0 ?_
 refine bi [1,2,3,4,8,9,10] ?_
 refine aa ?_
 refine aX hn 1 [1,2,3,4,8,9,10,11] ?_
 refine aH h (fun ((s39,s40,s41):(List Int)×Int×Int)=>[(1,.fl .shr 3 (flatten (map al.enc t))),(2,fi l),(3,fi d),(4,.box 63 [.fl (.own 5) 1 (map (int .u8) s39),vi s40]),(8,.box 63 [vz,vi 0]),(9,.fl (.own 3) 1 (map (int .i64) v1)),(10,.fl (.own 3) 1 (map (int .i64) v2)),(11,vi s41)]) (fun ((s50,s51):(List Int)×Int)=>[(2,fi l),(4,.box 63 [.fl (.own 5) 1 (map (int .u8) s50),vi s51]),(8,.box 63 [vz,vi 0]),(9,.fl (.own 3) 1 (map (int .i64) v1))]) ?_ ?_
 rintro ⟨s50,s51⟩ h
 refine ae (aa ?_)
 obtain ⟨v66,hv66,h⟩:=zn h
 refine yx hn 0 ?_
 refine yk [4] [] ?_
 refine yt (80,.agg [.fl (.own 5) 1 (map (int .u8) s50),vi s51]) 1 ⟨dR _ _ _ _ underlying63 rfl eJ rfl rfl⟩ ?_
 refine ym 0 ?_
 refine yk [80] [81,82] ?_
 refine yt (83,.agg [.fl (.own 5) 1 (map (int .u8) v66.B),vi v66.N]) 0 ⟨cv _ _ _ _ 83 72 [.tmp 80] [.tmp 81,.tmp 82,_] _ _ _ rfl call72 rfl rfl rfl (dM (aN.mk s50 s51) l v1 256 _ hv66) (zl rfl) rfl rfl rfl rfl rfl rfl rfl rfl⟩ ?_
 refine yk [83,8] [] ?_
 refine yt (8,.box 63 [.fl (.own 5) 1 (map (int .u8) v66.B),vi v66.N]) 0 ⟨aY _ _ _ _ _ _ _ _ eJ rfl rfl rfl (zl rfl) rfl rfl⟩ ?_
 refine bi [8] ?_
 refine au ?_
 obtain rfl:=zi h
 exact gR (es:=[(8,.box 63 [.fl (.own 5) 1 (map (int .u8) v66.B),.v (.int .i64 v66.N)])]) (posts:=[]) hio rfl rfl (.cellA _ _ _ _ underlying63 rfl eJ .nil) rfl rfl hargs0 rfl
 rintro u52 hl53 hr54 ⟨s39,s40,s41⟩ rr57 h ho55
 refine aa ?_
 refine aX hn 4 [1,2,3,4,8,9,10,11,23] ?_
 refine zc h rfl (fun h => ?_) (fun h => ?_)
 refine ak ?_
 refine ae (aa ?_)
 refine aL h (fun ((s60,s61):(List Int)×Int)=>[(1,.fl .shr 3 (flatten (map al.enc t))),(2,fi l),(3,fi d),(4,.box 63 [.fl (.own 5) 1 (map (int .u8) s60),vi s61]),(8,.box 63 [vz,vi 0]),(9,.fl (.own 3) 1 (map (int .i64) v1)),(10,.fl (.own 3) 1 (map (int .i64) v2)),(11,vi s41)]) ?_ ?_
 rintro ⟨s60,s61⟩ h
 refine ae ?_
 obtain ⟨v27,hv27,h⟩:=zn h
 refine yx hn 1 ?_
 refine ys 0 ⟨lb hv27⟩ ?_
 refine yw [11] 1 ?_
 refine ye [1,2,3,4,8,9,10,11] ?_
 exact aS _ (zi h).symm rfl
 intro u62 h hl63 hr64
 refine aC (aa (aa ?_))
 obtain ⟨v4,hv4,v5,hv5,h⟩:=eY h
 refine yx hn 2 ?_
 refine ys 1 ⟨lj hv4⟩ ?_
 refine ys 1 ⟨lL hv5⟩ ?_
 refine bi [1,2,3,4,8,9,10,11,31] ?_
 refine zc h rfl (fun h => ?_) (fun h => ?_)
 refine aa ?_
 obtain ⟨v7,hv7,v8,hv8,v9,hv9,v10,hv10,h⟩:=gZ h
 refine wb [] ?_
 refine wK [4] [] ?_
 refine wt [(4,.box 63 [.any,.any]),(32,.agg [.fl (.own 5) 1 (map (int .u8) s39),vi s40])] [[2],[9],[1],[11]] ⟨eD _ _ 4 _ underlying63 rfl eJ rfl rfl (by decide) rfl⟩ ?_
 refine wN [35,36] ?_
 refine wo [[37,35]] ⟨lj hv7⟩ ?_
 refine wN [38,35] ?_
 refine wo [] ⟨lL hv8⟩ ?_
 refine wN [39] ?_
 refine wo [] ⟨lv hv9⟩ ?_
 refine wK [32] [33,34,9,40] ?_
 refine wt [(41,.agg [.fl (.own 5) 1 (map (int .u8) v10.B),vi v10.N])] [] ⟨cv _ _ _ _ 41 72 [.tmp 32] [.tmp 33,.tmp 34,.tmp 40] _ _ _ rfl call72 rfl rfl rfl (dM (aN.mk s39 s40) l v1 v9 _ hv10) (zl rfl) rfl rfl rfl rfl rfl rfl rfl rfl⟩ ?_
 refine wK [41,4] [] ?_
 refine wt [(4,.box 63 [.fl (.own 5) 1 (map (int .u8) v10.B),vi v10.N])] [] ⟨aY _ _ _ _ _ _ _ _ eJ rfl rfl rfl (zl rfl) rfl rfl⟩ ?_
 refine zP hn [1,2,3,4,8,9,10,11] ?_
 refine aO (ag (aP ?_))
 exact hl63 _ (zi h).symm
 refine ak ?_
 refine ae (aa ?_)
 obtain ⟨v11,hv11,v12,hv12,v13,hv13,h⟩:=kg h
 refine yx hn 2 ?_
 refine ys 1 ⟨lj hv11⟩ ?_
 refine ys 0 ⟨lL hv12⟩ ?_
 refine ys 0 ⟨lk call31 (jz _ _ hv13)⟩ ?_
 refine ym 8 ?_
 refine bi [1,2,3,4,8,9,10,11,12,13,14] ?_
 refine aa ?_
 obtain ⟨v14,hv14,v15,hv15,h⟩:=eY h
 refine yx hn 0 ?_
 refine yk [4] [] ?_
 refine qk (4,.box 63 [.any,.any]) (53,.agg [.fl (.own 5) 1 (map (int .u8) s39),vi s40]) 3 ⟨eD _ _ 4 _ underlying63 rfl eJ rfl rfl (by decide) rfl⟩ ?_
 refine yk [53] [54,55,9,56] ?_
 refine yt (57,.agg [.fl (.own 5) 1 (map (int .u8) v14.B),vi v14.N]) 2 ⟨cv _ _ _ _ 57 72 [.tmp 53] [.tmp 54,.tmp 55,.tmp 56] _ _ _ rfl call72 rfl rfl rfl (dM (aN.mk s39 s40) l v1 v13.1 _ hv14) (zl rfl) rfl rfl rfl rfl rfl rfl rfl rfl⟩ ?_
 refine yk [57] [58,59] ?_
 refine yt (60,.agg [.fl (.own 5) 1 (map (int .u8) v15.B),vi v15.N]) 0 ⟨cv _ _ _ _ 60 66 [.tmp 57] [.tmp 58,.tmp 59] _ _ _ rfl call66 rfl rfl rfl (bw v14 v13.2.2.1 v13.2.1 _ hv15) (zl rfl) rfl rfl rfl rfl rfl rfl rfl rfl⟩ ?_
 refine yk [60,4] [] ?_
 refine yt (4,.box 63 [.fl (.own 5) 1 (map (int .u8) v15.B),vi v15.N]) 0 ⟨aY _ _ _ _ _ _ _ _ eJ rfl rfl rfl (zl rfl) rfl rfl⟩ ?_
 refine bi [1,2,3,4,8,9,10,11] ?_
 refine aa ?_
 obtain ⟨v16,hv16,v17,hv17,v18,hv18,h⟩:=kg h
 refine yx hn 2 ?_
 refine ys 1 ⟨lj hv16⟩ ?_
 refine ys 0 ⟨lL hv17⟩ ?_
 refine ys 0 ⟨lk call32 (iX _ _ hv18)⟩ ?_
 refine ym 7 ?_
 refine bi [1,2,3,4,8,9,10,11,12,13,14] ?_
 obtain ⟨v19,hv19,v20,hv20,h⟩:=eY h
 refine yx hn 0 ?_
 refine yk [4] [] ?_
 refine qk (4,.box 63 [.any,.any]) (72,.agg [.fl (.own 5) 1 (map (int .u8) v15.B),vi v15.N]) 3 ⟨eD _ _ 4 _ underlying63 rfl eJ rfl rfl (by decide) rfl⟩ ?_
 refine yk [72] [73,74,10,75] ?_
 refine yt (76,.agg [.fl (.own 5) 1 (map (int .u8) v19.B),vi v19.N]) 2 ⟨cv _ _ _ _ 76 72 [.tmp 72] [.tmp 73,.tmp 74,.tmp 75] _ _ _ rfl call72 rfl rfl rfl (dM v15 d v2 v18.1 _ hv19) (zl rfl) rfl rfl rfl rfl rfl rfl rfl rfl⟩ ?_
 refine yk [76] [77,78] ?_
 refine yt (79,.agg [.fl (.own 5) 1 (map (int .u8) v20.B),vi v20.N]) 0 ⟨cv _ _ _ _ 79 66 [.tmp 76] [.tmp 77,.tmp 78] _ _ _ rfl call66 rfl rfl rfl (bw v19 v18.2.2.1 v18.2.1 _ hv20) (zl rfl) rfl rfl rfl rfl rfl rfl rfl rfl⟩ ?_
 refine yk [79,4] [] ?_
 refine yt (4,.box 63 [.fl (.own 5) 1 (map (int .u8) v20.B),vi v20.N]) 0 ⟨aY _ _ _ _ _ _ _ _ eJ rfl rfl rfl (zl rfl) rfl rfl⟩ ?_
 refine ye [1,2,3,4,8,9,10,11] ?_
 refine aM ?_
 exact hl63 _ (zi h).symm
 refine aO (ag (ag (aP ?_)))
 refine ar [1,3,4,5] (by kernel_rfl) (es':=[(_,_),(_,_),(_,_),(_,_)]) rfl ?_
 exact hl53 _ (ho55 _ (zi h).symm).symm
theorem iK (b:(List Int)) (r:aN) (h:Sh.dA b=some r):bZ Tryd.prog 38 [.fl .shr 1 (map (int .u8) b)] (.agg [.fl (.own 5) 1 (map (int .u8) r.B),.v (.int .i64 r.N)]):=by
 unfold Sh.dA at h
 refine yO 16 func38 fun g0 hn hio => ?_
 refine gG hn 0 ?_
 refine yS (.box 63 [vz,vi 0]) 0 ⟨oA (cG _ _ ox)⟩ ?_
 refine bi [0,2] ?_
 refine aa ?_
 obtain ⟨v1,hv1,h⟩:=zn h
 refine yx hn 0 ?_
 refine ys 0 ⟨lk call29 (lY _ hv1)⟩ ?_
 refine ym 0 ?_
 refine nX 0 ?_
 refine nX 0 ?_
 refine ya 0 ?_
 refine ya 0 ?_
 refine bi [0,2,3,4] ?_
 refine aa ?_
 obtain ⟨v2,hv2,v3,hv3,v4,hv4,h⟩:=kg h
 refine yx hn 0 ?_
 refine yS (.agg [vz,vi 0]) 0 ⟨ec _ _ _ _ [1,1] _ _ underlying63 ox (He _ underlying63) sr.nil rfl rfl rfl⟩ ?_
 refine yk [9] [] ?_
 refine yt (10,.agg [.fl (.own 5) 1 (map (int .u8) v2.B),vi v2.N]) 1 ⟨cv _ _ _ _ 10 66 [.tmp 9] [_,_] _ _ _ rfl call66 rfl rfl rfl ((bw (aN.mk [] 0) 3 3 _ hv2).args (bO (tT (bO (bV 5 1) (bO (ei _) (fY)))) (bO (ei _) (bO (ei _) (fY))))) (zl rfl) rfl rfl rfl rfl rfl rfl rfl rfl⟩ ?_
 refine ys 0 ⟨lk call46 (ik _ _ hv3)⟩ ?_
 refine ym 0 ?_
 refine ym 0 ?_
 refine yk [10] [12,13,14] ?_
 refine yt (15,.agg [.fl (.own 5) 1 (map (int .u8) v4.B),vi v4.N]) 0 ⟨cv _ _ _ _ 15 67 [.tmp 10] [.tmp 12,.tmp 13,.tmp 14] _ _ _ rfl call67 rfl rfl rfl (iW (aN.mk v2.B v2.N) v3 v1.1 v1.2 _ hv4) (zl rfl) rfl rfl rfl rfl rfl rfl rfl rfl⟩ ?_
 refine yk [15,2] [] ?_
 refine yt (2,.box 63 [.fl (.own 5) 1 (map (int .u8) v4.B),vi v4.N]) 0 ⟨aY _ _ _ _ _ _ _ _ eJ rfl rfl rfl (zl rfl) rfl rfl⟩ ?_
 refine bi [2] ?_
 refine au ?_
 obtain rfl:=zi h
 exact ay hio rfl (.cellA _ _ _ _ underlying63 rfl eJ .nil) rfl rfl
theorem kV (l:(List al)) (r:((List Int)×(List Int))) (h:Sh.dN l=some r):bZ Tryd.prog 48 [.fl .shr 3 (flatten (map al.enc l))] (.tup [.fl (.own 3) 1 (map (int .i64) r.1),.fl (.own 3) 1 (map (int .i64) r.2)]):=by
 unfold Sh.dN at h
 refine yO 78 func48 fun g0 hn hio => ?_
 refine aX hn 2 [0] ?_
 refine aa ?_
 obtain ⟨v1,hv1,v2,hv2,h⟩:=eY h
 refine wb [] ?_
 refine wN [] ?_
 refine wS (.fl (.own 3) 1 (map (int .i64) v1)) [] ⟨kY (f:=int .i64) _ _ _ _ fg (by decide) kf rfl rfl rfl hv1⟩ ?_
 refine wN [] ?_
 refine wS (.fl (.own 3) 1 (map (int .i64) v2)) [] ⟨kY (f:=int .i64) _ _ _ _ fg (by decide) kf rfl rfl rfl hv2⟩ ?_
 refine wK [15] [] ?_
 refine wt [(4,.fl (.own 3) 1 (map (int .i64) v1))] [] ⟨fL _ _ _ _ rfl⟩ ?_
 refine wK [16] [] ?_
 refine wt [(5,.fl (.own 3) 1 (map (int .i64) v2))] [] ⟨fL _ _ _ _ rfl⟩ ?_
 refine zP hn [0,4,5] ?_
 refine aa ?_
 obtain ⟨v3,hv3,v4,hv4,h⟩:=eY h
 refine yx hn 1 ?_
 refine ys 0 ⟨li hv3⟩ ?_
 refine yk [4] [18] ?_
 refine yt (4,.fl (.own 3) 1 (map (int .i64) v4)) 0 ⟨bU _ _ _ _ _ _ _ _ fN rfl rfl rfl (by decide) (dO (bA hv3).2) ((map_set (f:=int .i64) _ (bA hv3).2).trans (congrArg (map _) (Option.some.inj hv4)))⟩ ?_
 refine bi [0,4,5] ?_
 refine aa ?_
 refine aX hn 1 [0,4,5,6] ?_
 refine aH h (fun ((s51,s52,s53):(List Int)×(List Int)×Int)=>[(0,.fl .shr 3 (flatten (map al.enc l))),(4,.fl (.own 3) 1 (map (int .i64) s51)),(5,.fl (.own 3) 1 (map (int .i64) s52)),(6,vi s53)]) (fun ((s62,s63):(List Int)×(List Int))=>[(4,.fl (.own 3) 1 (map (int .i64) s62)),(5,.fl (.own 3) 1 (map (int .i64) s63))]) ?_ ?_
 rintro ⟨s62,s63⟩ h
 refine ae ?_
 refine gG hn 0 ?_
 refine ym 0 ?_
 refine ym 0 ?_
 refine ya 0 ?_
 refine ya 0 ?_
 refine bi [2,3] ?_
 refine au ?_
 obtain rfl:=zi h
 exact ay hio rfl (.tmp _ _ (.tmp _ _ .nil)) rfl rfl
 rintro u64 hl65 hr66 ⟨s51,s52,s53⟩ rr69 h ho67
 refine aa ?_
 refine aX hn 4 [0,4,5,6,22] ?_
 refine zc h rfl (fun h => ?_) (fun h => ?_)
 refine ak ?_
 refine ae (aa ?_)
 refine aL h (fun ((s72,s73):(List Int)×(List Int))=>[(0,.fl .shr 3 (flatten (map al.enc l))),(4,.fl (.own 3) 1 (map (int .i64) s72)),(5,.fl (.own 3) 1 (map (int .i64) s73)),(6,vi s53)]) ?_ ?_
 rintro ⟨s72,s73⟩ h
 refine ae ?_
 obtain ⟨v39,hv39,h⟩:=zn h
 refine yx hn 1 ?_
 refine ys 0 ⟨lb hv39⟩ ?_
 refine yw [6] 1 ?_
 refine ye [0,4,5,6] ?_
 exact aS _ (zi h).symm rfl
 intro u74 h hl75 hr76
 refine aC (aa (aa ?_))
 obtain ⟨v6,hv6,v7,hv7,h⟩:=eY h
 refine yx hn 2 ?_
 refine ys 1 ⟨lj hv6⟩ ?_
 refine ys 1 ⟨lL hv7⟩ ?_
 refine bi [0,4,5,6,30] ?_
 refine zc h rfl (fun h => ?_) (fun h => ?_)
 refine aa ?_
 obtain ⟨v9,hv9,v10,hv10,v11,hv11,v12,hv12,h⟩:=gZ h
 obtain ⟨v13,hv13,v14,hv14,v15,hv15,v16,hv16,h⟩:=gZ h
 refine yx hn 3 ?_
 refine ys 1 ⟨lj hv9⟩ ?_
 refine ys 0 ⟨lL hv10⟩ ?_
 refine ys 0 ⟨lv hv11⟩ ?_
 refine ys 0 ⟨li hv12⟩ ?_
 refine ys 0 ⟨ll hv13⟩ ?_
 refine ys 0 ⟨lb hv14⟩ ?_
 refine ys 0 ⟨li hv15⟩ ?_
 refine yk [4] [41,40] ?_
 refine yt (4,.fl (.own 3) 1 (map (int .i64) v16)) 0 ⟨bU _ _ _ _ _ _ _ _ fN rfl rfl rfl (by decide) (dO (bA hv15).2) ((map_set (f:=int .i64) _ (bA hv15).2).trans (congrArg (map _) (Option.some.inj hv16)))⟩ ?_
 refine bi [0,4,5,6] ?_
 refine aO (ag (aP ?_))
 exact hl75 _ (zi h).symm
 refine ak ?_
 refine ae (aa ?_)
 obtain ⟨v17,hv17,v18,hv18,v19,hv19,h⟩:=kg h
 refine yx hn 2 ?_
 refine ys 1 ⟨lj hv17⟩ ?_
 refine ys 0 ⟨lL hv18⟩ ?_
 refine ys 0 ⟨lk call31 (jz _ _ hv19)⟩ ?_
 refine ym 8 ?_
 refine bi [0,4,5,6,7] ?_
 refine aa ?_
 obtain ⟨v20,hv20,v21,hv21,v22,hv22,h⟩:=kg h
 refine yx hn 2 ?_
 refine ys 1 ⟨lj hv20⟩ ?_
 refine ys 0 ⟨lL hv21⟩ ?_
 refine ys 0 ⟨lk call32 (iX _ _ hv22)⟩ ?_
 refine ym 8 ?_
 refine bi [0,4,5,6,7,11] ?_
 refine aa ?_
 obtain ⟨v23,hv23,v24,hv24,v25,hv25,v26,hv26,h⟩:=gZ h
 obtain ⟨v27,hv27,h⟩:=zn h
 refine yx hn 2 ?_
 refine ys 0 ⟨li hv23⟩ ?_
 refine ys 0 ⟨ll hv24⟩ ?_
 refine ys 0 ⟨lb hv25⟩ ?_
 refine ys 0 ⟨li hv26⟩ ?_
 refine yk [4] [69,68] ?_
 refine yt (4,.fl (.own 3) 1 (map (int .i64) v27)) 0 ⟨bU _ _ _ _ _ _ _ _ fN rfl rfl rfl (by decide) (dO (bA hv26).2) ((map_set (f:=int .i64) _ (bA hv26).2).trans (congrArg (map _) (Option.some.inj hv27)))⟩ ?_
 refine bi [0,4,5,6,11] ?_
 obtain ⟨v28,hv28,v29,hv29,v30,hv30,v31,hv31,h⟩:=gZ h
 obtain ⟨v32,hv32,h⟩:=zn h
 refine yx hn 2 ?_
 refine ys 0 ⟨li hv28⟩ ?_
 refine ys 0 ⟨ll hv29⟩ ?_
 refine ys 0 ⟨lb hv30⟩ ?_
 refine ys 0 ⟨li hv31⟩ ?_
 refine yk [5] [75,74] ?_
 refine yt (5,.fl (.own 3) 1 (map (int .i64) v32)) 0 ⟨bU _ _ _ _ _ _ _ _ fN rfl rfl rfl (by decide) (dO (bA hv31).2) ((map_set (f:=int .i64) _ (bA hv31).2).trans (congrArg (map _) (Option.some.inj hv32)))⟩ ?_
 refine ye [0,4,5,6] ?_
 refine aM ?_
 exact hl75 _ (zi h).symm
 refine aO (ag (ag (aP ?_)))
 refine ar [1,2] (by kernel_rfl) (es':=[(_,_),(_,_)]) rfl ?_
 exact hl65 _ (ho67 _ (zi h).symm).symm
theorem jf (w:(List Int)) (r:Bool) (h:Sh.bK w=some r):bZ Tryd.prog 93 [.fl .shr 1 (map (int .i64) w)] (.v (.bool r)):=by
 unfold Sh.bK at h
 refine yO 19 func93 fun g0 hn hio => ?_
 refine aX hn 1 [0] ?_
 refine aa ?_
 refine aX hn 3 [0,6] ?_
 refine zc h rfl (fun h => ?_) (fun h => ?_)
 refine aX hn 1 [2] ?_
 refine au (ap ?_)
 obtain rfl:=zi h
 exact ay hio rfl (.tmp _ _ .nil) rfl rfl
 refine ak ?_
 refine ae (aa ?_)
 refine aX hn 1 [0,3] ?_
 refine aH h (fun (s11:Int)=>[(0,fi w),(3,vi s11)]) (fun (():Unit)=>[]) ?_ ?_
 rintro ⟨⟩ h
 refine ae ?_
 refine aX hn 1 [2] ?_
 refine au ?_
 obtain rfl:=zi h
 exact ay hio rfl (.tmp _ _ .nil) rfl rfl
 rintro u14 hl15 hr16 s11 rr19 h ho17
 refine aa ?_
 refine aX hn 4 [0,3,10] ?_
 refine zc h rfl (fun h => ?_) (fun h => ?_)
 refine ak ?_
 refine ae (aa ?_)
 refine aC (aa ?_)
 obtain ⟨v3,hv3,v4,hv4,v5,hv5,h⟩:=kg h
 refine yx hn 2 ?_
 refine ys 0 ⟨li hv3⟩ ?_
 refine ys 0 ⟨ll hv4⟩ ?_
 refine ys 1 ⟨lk call50 (bR _ _ _ _ hv5)⟩ ?_
 refine bi [0,3,18] ?_
 refine zc h rfl (fun h => ?_) (fun h => ?_)
 refine aX hn 1 [2] ?_
 refine au (bI (ap (ap (bI (ap ?_)))))
 have h:=hr16 _ (ho17 _ (zi h).symm).symm
 obtain rfl:=zi h
 exact ay hio rfl (.tmp _ _ .nil) rfl rfl
 refine ak (aM (ae ?_))
 obtain ⟨v7,hv7,h⟩:=zn h
 refine yx hn 1 ?_
 refine ys 0 ⟨lb hv7⟩ ?_
 refine yw [3] 1 ?_
 refine ye [0,3] ?_
 exact aS _ (zi h).symm rfl
 refine aO (ag (ag (aP ?_)))
 refine ar [] (by kernel_rfl) (es':=[]) rfl ?_
 exact hl15 _ (ho17 _ (zi h).symm).symm
theorem gK (l:(List Int)) (r:(List Int)) (h:Sh.dh l=some r):bZ Tryd.prog 23 [.fl .shr 1 (map (int .i64) l)] (.fl (.own 3) 1 (map (int .i64) r)):=by
 unfold Sh.dh at h
 refine yO 7 func23 fun g0 hn hio => ?_
 refine aX hn 1 [0] ?_
 refine aX hn 1 [0,3] ?_
 refine aa ?_
 obtain ⟨v1,hv1,h⟩:=zn h
 refine yx hn 2 ?_
 refine yS (.fl (.own 3) 1 (map (int .i64) v1)) 0 ⟨kH _ _ _ _ fg rfl rfl (fe _) hv1 (congrArg (map _) (kU hv1))⟩ ?_
 refine ya 0 ?_
 refine bi [2] ?_
 refine au ?_
 obtain rfl:=zi h
 exact ay hio rfl (.tmp _ _ .nil) rfl rfl
theorem iO (l:(List ab)) (but:Int) (r:Int) (h:Sh.cA l but=some r):bZ Tryd.prog 112 [.fr .shr true 2 (flatten (map ab.ienc l)),.v (.int .i64 but)] (.v (.int .i64 r)):=by
 unfold Sh.cA at h
 refine yO 35 func112 fun g0 hn hio => ?_
 refine aX hn 1 [0,1] ?_
 refine aX hn 1 [0,1,5] ?_
 refine aa ?_
 refine aX hn 1 [0,1,5,6] ?_
 refine aH h (fun ((s38,s39):Int×Int)=>[(0,.fr .shr true 2 (flatten (map ab.ienc l))),(1,vi but),(5,vi s38),(6,vi s39)]) (fun (s55:Int)=>[(5,vi s55)]) ?_ ?_
 rintro s55 h
 refine ae ?_
 refine aX hn 2 [4] ?_
 refine au ?_
 obtain rfl:=zi h
 exact ay hio rfl (.tmp _ _ .nil) rfl rfl
 rintro u56 hl57 hr58 ⟨s38,s39⟩ rr61 h ho59
 refine aa ?_
 refine aX hn 4 [0,1,5,6,10] ?_
 refine zc h rfl (fun h => ?_) (fun h => ?_)
 refine ak ?_
 refine ae (aa ?_)
 refine aL h (fun (s68:Int)=>[(0,.fr .shr true 2 (flatten (map ab.ienc l))),(1,vi but),(6,vi s39),(5,vi s68)]) ?_ ?_
 rintro s68 h
 refine ae ?_
 obtain ⟨v20,hv20,h⟩:=zn h
 refine yx hn 1 ?_
 refine ys 0 ⟨lb hv20⟩ ?_
 refine yw [6] 1 ?_
 refine ye [0,1,5,6] ?_
 exact aS _ (zi h).symm rfl
 intro u69 h hl70 hr71
 refine aC (aa ?_)
 refine aL h (fun (s72:Bool)=>[(0,.fr .shr true 2 (flatten (map ab.ienc l))),(1,vi but),(5,vi s38),(6,vi s39),(32,vb s72)]) ?_ ?_
 rintro s72 h
 refine ae ?_
 refine zc h rfl (fun h => ?_) (fun h => ?_)
 refine yx hn 1 ?_
 refine yw [5] 1 ?_
 refine ye [0,1,6,5] ?_
 refine aM ?_
 exact hl70 _ (zi h).symm
 refine ak (aM ?_)
 refine ar [0,1,3,2] (by kernel_rfl) (es':=[(_,_),(_,_),(_,_),(_,_)]) rfl ?_
 exact hl70 _ (zi h).symm
 intro u73 h hl74 hr75
 refine aE h (fun hg5_3 h => ?_) (fun hg5_3 h => ?_)
 refine aE h (fun hg5_6 h => ?_) (fun hg5_6 h => ?_)
 refine wb [[6],[1],[13,14],[15]] ?_
 refine wd hg5_3 [[16,5],[16,17],[16,18]] ?_
 refine wd hg5_6 [[19],[19],[19],[19],[19],[19],[19],[19],[19],[19],[19],[16,19],[16,31]] ?_
 refine we hn [0,1,5,6,32] ?_
 exact hl74 _ (zi h).symm
 obtain ⟨v2,hv2,v3,hv3,v4,hv4,v5,hv5,h⟩:=gZ h
 refine wb [[6],[1],[13,14],[15]] ?_
 refine wd hg5_3 [[16,5],[16,17],[16,18]] ?_
 refine wd hg5_6 [[19,0],[19,6]] ?_
 refine wN [19,20,21] ?_
 refine wo [[19,22,20]] ⟨lI hv2⟩ ?_
 refine wN [19,23,20] ?_
 refine wS (vi v3.w) [[19,0],[19,5]] ⟨dD _ _ _ _ _ _ _ underlying3 rfl rfl rfl (dC ab.ilen hv3 rfl) (.v _)⟩ ?_
 refine wN [19,25,26] ?_
 refine wo [[19,27,25]] ⟨lI hv4⟩ ?_
 refine wN [19,28,25] ?_
 refine wS (vi v5.w) [[19,24,29],[16,19,30],[16,31]] ⟨dD _ _ _ _ _ _ _ underlying3 rfl rfl rfl (dC ab.ilen hv5 rfl) (.v _)⟩ ?_
 refine we hn [0,1,5,6,32] ?_
 exact hl74 _ (zi h).symm
 refine wb [[6],[1],[13,14],[15]] ?_
 refine wd hg5_3 [[16],[16],[16],[19],[19],[19],[19],[19],[19],[19],[19],[19],[19],[19],[16],[16]] ?_
 refine we hn [0,1,5,6,32] ?_
 exact hl74 _ (zi h).symm
 refine aO (ag (ag (aP ?_)))
 refine ar [2] (by kernel_rfl) (es':=[(_,_)]) rfl ?_
 exact hl57 _ (ho59 _ (zi h).symm).symm
theorem kT (w:(List Int)) (r:(List Int)) (h:Sh.dJ w=some r):bZ Tryd.prog 94 [.fl .shr 1 (map (int .i64) w)] (.fl (.own 3) 1 (map (int .i64) r)):=by
 unfold Sh.dJ at h
 refine yO 125 func94 fun g0 hn hio => ?_
 refine aX hn 1 [0] ?_
 refine aa ?_
 obtain ⟨v1,hv1,h⟩:=zn h
 refine yx hn 2 ?_
 refine yS (.fl (.own 3) 1 (map (int .i64) v1)) 0 ⟨kY (f:=int .i64) _ _ _ _ fg (by decide) kf rfl rfl rfl hv1⟩ ?_
 refine ya 0 ?_
 refine bi [0,3] ?_
 refine aX hn 1 [0,3,4] ?_
 refine aa ?_
 refine aX hn 1 [0,3,4,5] ?_
 refine iS (fs:=[(0,fi w),(3,.fl (.own 3) 1 (map (int .i64) v1)),(4,.fr (.own 136) false 2 (flatten (map ab.ienc []))),(5,vi 0)]) (.same _ (.same _ (.sub _ (rQ 136 false 2) rfl (.same _ .nil)))) ?_
 refine aH h (fun ((s24,s25):(List ab)×Int)=>[(0,fi w),(3,.fl (.own 3) 1 (map (int .i64) v1)),(4,.fr (.own 136) false 2 (flatten (map ab.ienc s24))),(5,vi s25)]) (fun (s33:(List ab))=>[(3,.fl (.own 3) 1 (map (int .i64) v1)),(4,.fr (.own 136) false 2 (flatten (map ab.ienc s33)))]) ?_ ?_
 rintro s33 h
 refine ae (aa ?_)
 refine aL h (fun (s54:(List Int))=>[(3,.fl (.own 3) 1 (map (int .i64) s54)),(4,.fr (.own 136) false 2 (flatten (map ab.ienc s33)))]) ?_ ?_
 rintro s54 h
 refine ae (aa ?_)
 refine aH h (fun ((s261,s262):(List Int)×(List ab))=>[(3,.fl (.own 3) 1 (map (int .i64) s261)),(4,.fr (.own 136) false 2 (flatten (map ab.ienc s262)))]) (fun (s350:(List Int))=>[(3,.fl (.own 3) 1 (map (int .i64) s350))]) ?_ ?_
 rintro s350 h
 refine ae ?_
 refine gG hn 0 ?_
 refine ym 0 ?_
 refine ya 0 ?_
 refine bi [2] ?_
 refine au ?_
 obtain rfl:=zi h
 exact ay hio rfl (.tmp _ _ .nil) rfl rfl
 rintro u351 hl352 hr353 ⟨s261,s262⟩ rr356 h ho354
 refine aa ?_
 refine aX hn 3 [3,4,49] ?_
 refine zc h rfl (fun h => ?_) (fun h => ?_)
 refine ak (ae (aC (aa ?_)))
 obtain ⟨v60,hv60,h⟩:=zn h
 refine yx hn 1 ?_
 refine ys 1 ⟨lk call112 (iO _ _ _ hv60)⟩ ?_
 refine bi [3,4,6] ?_
 refine aa ?_
 obtain ⟨v61,hv61,h⟩:=zn h
 refine yx hn 2 ?_
 refine ys 1 ⟨lk call112 (iO _ _ _ hv61)⟩ ?_
 refine bi [3,4,6,7] ?_
 refine aa ?_
 obtain ⟨v62,hv62,v63,hv63,v64,hv64,v65,hv65,h⟩:=gZ h
 obtain ⟨v66,hv66,h⟩:=zn h
 refine wb [[4],[6]] ?_
 refine wN [55,4,56] ?_
 refine wo [[57,4]] ⟨lI hv62⟩ ?_
 refine wN [58,4] ?_
 refine wS (vi v63.w) [[4],[7]] ⟨dD _ _ _ _ _ _ _ underlying3 rfl rfl rfl (dC ab.ilen hv63 rfl) (.v _)⟩ ?_
 refine wN [60,4,61] ?_
 refine wo [[62,4]] ⟨lI hv64⟩ ?_
 refine wN [63,4] ?_
 refine wS (vi v65.w) [] ⟨dD _ _ _ _ _ _ _ underlying3 rfl rfl rfl (dC ab.ilen hv65 rfl) (.v _)⟩ ?_
 refine wN [59,64] ?_
 refine wo [] ⟨lb hv66⟩ ?_
 refine wN [65] ?_
 refine wS (.agg [vi v66,vz]) [] ⟨ec _ _ _ _ [1,1] _ _ underlying136 sY (GD _ underlying136) (.copy _ sr.nil) rfl rfl rfl⟩ ?_
 refine wN [] ?_
 refine wS (.box 136 [vi 0,vz]) [] ⟨oA (cG _ _ sY)⟩ ?_
 refine wK [8] [66] ?_
 refine wt [(8,.box 136 [vi v66,vz])] [] ⟨lK _ _ _ _ _ _ _ _ tI rfl rfl rfl rfl (zl rfl) rfl rfl⟩ ?_
 refine zP hn [3,4,6,7,8] ?_
 refine aa ?_
 obtain ⟨v67,hv67,v68,hv68,v69,hv69,v70,hv70,h⟩:=gZ h
 obtain ⟨v71,hv71,v72,hv72,h⟩:=eY h
 refine wb [[8],[67,8],[4],[6]] ?_
 refine wN [69,4,70] ?_
 refine wo [[71,4]] ⟨lI hv67⟩ ?_
 refine wN [72,4] ?_
 refine wS (.fl .ro 1 (map (int .i64) v68.who)) [] ⟨dD _ _ _ _ _ _ _ underlying37 rfl rfl rfl (dC ab.ilen hv68 rfl) (.fl _ _ rfl)⟩ ?_
 refine wN [68,73] ?_
 refine wS (.fl (.own 3) 1 (map (int .i64) v69)) [[4],[7]] ⟨kH _ _ _ _ fg rfl rfl (fe _) hv69 (congrArg (map _) (kU hv69))⟩ ?_
 refine wN [75,4,76] ?_
 refine wo [[77,4]] ⟨lI hv70⟩ ?_
 refine wN [78,4] ?_
 refine wS (.fl .ro 1 (map (int .i64) v71.who)) [] ⟨dD _ _ _ _ _ _ _ underlying37 rfl rfl rfl (dC ab.ilen hv71 rfl) (.fl _ _ rfl)⟩ ?_
 refine wK [74] [79] ?_
 refine wt [(74,.any),(80,.fl (.own 3) 1 (map (int .i64) v72))] [[8]] ⟨yg _ _ _ _ _ fg rfl rfl (fe _) (fe _) hv72 ((List.map_append).symm.trans (congrArg (map _) (iT hv72)))⟩ ?_
 refine wK [80,8] [81] ?_
 refine wt [(8,.box 136 [vi v66,.fl (.own 3) 1 (map (int .i64) v72)])] [] ⟨aY _ _ _ _ _ _ _ _ JI rfl rfl rfl (zl rfl) rfl rfl⟩ ?_
 refine zP hn [3,4,6,7,8] ?_
 refine aa ?_
 refine aX hn 1 [3,4,6,7,8,9] ?_
 refine aH h (fun ((s362,s363):(List Int)×Int)=>[(3,.fl (.own 3) 1 (map (int .i64) s362)),(4,.fr (.own 136) false 2 (flatten (map ab.ienc s262))),(6,vi v60),(7,vi v61),(8,.box 136 [vi v66,.fl (.own 3) 1 (map (int .i64) v72)]),(9,vi s363)]) (fun (s365:(List Int))=>[(3,.fl (.own 3) 1 (map (int .i64) s365)),(4,.fr (.own 136) false 2 (flatten (map ab.ienc s262))),(6,vi v60),(7,vi v61),(8,.box 136 [vi v66,.fl (.own 3) 1 (map (int .i64) v72)])]) ?_ ?_
 rintro s365 h
 refine ae ?_
 refine aX hn 1 [3,4,6,7,8,10] ?_
 refine aa ?_
 refine aX hn 1 [3,4,6,7,8,10,11] ?_
 refine iS (fs:=[(3,.fl (.own 3) 1 (map (int .i64) s365)),(4,.fr (.own 136) false 2 (flatten (map ab.ienc s262))),(6,vi v60),(7,vi v61),(8,.box 136 [vi v66,.fl (.own 3) 1 (map (int .i64) v72)]),(10,.fr (.own 136) false 2 (flatten (map ab.ienc []))),(11,vi 0)]) (.same _ (.same _ (.same _ (.same _ (.same _ (.sub _ (rQ 136 false 2) rfl (.same _ .nil))))))) ?_
 refine aH h (fun ((s405,s406):(List ab)×Int)=>[(3,.fl (.own 3) 1 (map (int .i64) s365)),(4,.fr (.own 136) false 2 (flatten (map ab.ienc s262))),(6,vi v60),(7,vi v61),(8,.box 136 [vi v66,.fl (.own 3) 1 (map (int .i64) v72)]),(10,.fr (.own 136) false 2 (flatten (map ab.ienc s405))),(11,vi s406)]) (fun (s422:(List ab))=>[(3,.fl (.own 3) 1 (map (int .i64) s365)),(8,.box 136 [vi v66,.fl (.own 3) 1 (map (int .i64) v72)]),(10,.fr (.own 136) false 2 (flatten (map ab.ienc s422)))]) ?_ ?_
 rintro s422 h
 refine ae ?_
 obtain ⟨v171,hv171,h⟩:=zn h
 refine yx hn 0 ?_
 refine ym 0 ?_
 refine yk [8] [] ?_
 refine yt (121,.agg [vi v66,.fl (.own 3) 1 (map (int .i64) v72)]) 0 ⟨dR _ _ _ _ underlying136 rfl tI rfl rfl⟩ ?_
 refine yk [121] [] ?_
 refine yt (122,.fr (.own 136) false 2 (flatten (map ab.ienc [(ab.mk v66 v72)]))) 0 ⟨jU _ _ _ 2 (.agg #[.int .i64 0,.slice none 0 0]) false _ _ underlying134 tI sY rfl (.cons (.v _) (.cons (.ro _ _ rfl) (.nil))) rfl (by decide) (by decide)⟩ ?_
 refine yk [120] [122] ?_
 refine qk (120,.any) (123,.fr (.own 136) false 2 (flatten (map ab.ienc v171))) 0 ⟨mv _ _ _ _ _ DB rfl rfl (cO ab.ilen _) (cO ab.ilen _) hv171 (ji (iT hv171)) (by decide) (by decide)⟩ ?_
 refine ya 0 ?_
 refine ye [3,4] ?_
 refine aM ?_
 exact aS _ (zi h).symm rfl
 rintro u423 hl424 hr425 ⟨s405,s406⟩ rr428 h ho426
 refine aa ?_
 refine aX hn 4 [3,4,6,7,8,10,11,102] ?_
 refine zc h rfl (fun h => ?_) (fun h => ?_)
 refine ak ?_
 refine ae (aa ?_)
 refine aL h (fun (s435:(List ab))=>[(3,.fl (.own 3) 1 (map (int .i64) s365)),(4,.fr (.own 136) false 2 (flatten (map ab.ienc s262))),(6,vi v60),(7,vi v61),(8,.box 136 [vi v66,.fl (.own 3) 1 (map (int .i64) v72)]),(11,vi s406),(10,.fr (.own 136) false 2 (flatten (map ab.ienc s435)))]) ?_ ?_
 rintro s435 h
 refine ae ?_
 obtain ⟨v114,hv114,h⟩:=zn h
 refine yx hn 1 ?_
 refine ys 0 ⟨lb hv114⟩ ?_
 refine yw [11] 1 ?_
 refine ye [3,4,6,7,8,10,11] ?_
 exact aS _ (zi h).symm rfl
 intro u436 h hl437 hr438
 refine aC (aa ?_)
 refine aL h (fun (s439:Bool)=>[(3,.fl (.own 3) 1 (map (int .i64) s365)),(4,.fr (.own 136) false 2 (flatten (map ab.ienc s262))),(6,vi v60),(7,vi v61),(8,.box 136 [vi v66,.fl (.own 3) 1 (map (int .i64) v72)]),(10,.fr (.own 136) false 2 (flatten (map ab.ienc s405))),(11,vi s406),(112,vb s439)]) ?_ ?_
 rintro s439 h
 refine ae ?_
 refine zc h rfl (fun h => ?_) (fun h => ?_)
 obtain ⟨v102,hv102,v103,hv103,v104,hv104,h⟩:=kg h
 refine yx hn 0 ?_
 refine ym 2 ?_
 refine ys 0 ⟨lI hv102⟩ ?_
 refine yS (.agg [vi v103.w,.fl .ro 1 (map (int .i64) v103.who)]) 0 ⟨wk _ _ _ _ _ _ _ _ underlying136 rfl tI rfl rfl (tD ab.ilen hv103) (.cons (.v _) (.cons (.fl _ _ rfl) (.nil))) rfl (by decide)⟩ ?_
 refine yS (.fr (.own 136) false 2 (flatten (map ab.ienc [v103]))) 0 ⟨kP _ _ _ 2 (.agg #[.int .i64 0,.slice none 0 0]) false _ _ underlying134 tI sY rfl rfl (.cons (.v _) (.cons (.ro _ _ rfl) (.nil))) rfl (by decide) (by decide)⟩ ?_
 refine yk [113] [118] ?_
 refine qk (113,.any) (119,.fr (.own 136) false 2 (flatten (map ab.ienc v104))) 0 ⟨mv _ _ _ _ _ DB rfl rfl (cO ab.ilen _) (cO ab.ilen _) hv104 (ji (iT hv104)) (by decide) (by decide)⟩ ?_
 refine ya 0 ?_
 refine ye [3,4,6,7,8,11,10] ?_
 refine aM ?_
 exact hl437 _ (zi h).symm
 refine ak (aM ?_)
 refine ar [0,1,2,3,4,6,5] (by kernel_rfl) (es':=[(_,_),(_,_),(_,_),(_,_),(_,_),(_,_),(_,_)]) rfl ?_
 exact hl437 _ (zi h).symm
 intro u440 h hl441 hr442
 refine aE h (fun hg23_3 h => ?_) (fun hg23_3 h => ?_)
 refine yx hn 4 ?_
 refine yd hg23_3 4 ?_
 refine ye [3,4,6,7,8,10,11,112] ?_
 exact hl441 _ (zi h).symm
 refine yx hn 4 ?_
 refine yd hg23_3 4 ?_
 refine ye [3,4,6,7,8,10,11,112] ?_
 exact hl441 _ (zi h).symm
 refine aO (ag (ag (aP ?_)))
 refine ar [0,4,5] (by kernel_rfl) (es':=[(_,_),(_,_),(_,_)]) rfl ?_
 exact hl424 _ (ho426 _ (zi h).symm).symm
 rintro u366 hl367 hr368 ⟨s362,s363⟩ rr371 h ho369
 refine aa ?_
 refine aX hn 5 [3,4,6,7,8,9,86] ?_
 refine zc h rfl (fun h => ?_) (fun h => ?_)
 refine ak ?_
 refine ae (aa ?_)
 refine aC ?_
 obtain ⟨v74,hv74,v75,hv75,v76,hv76,v77,hv77,h⟩:=gZ h
 obtain ⟨v78,hv78,v79,hv79,v80,hv80,h⟩:=kg h
 refine yx hn 4 ?_
 refine ys 0 ⟨li hv74⟩ ?_
 refine ys 0 ⟨ll hv75⟩ ?_
 refine ys 0 ⟨li hv76⟩ ?_
 refine ys 0 ⟨ll hv77⟩ ?_
 refine ys 0 ⟨lb hv78⟩ ?_
 refine ys 0 ⟨li hv79⟩ ?_
 refine yk [3] [98,97] ?_
 refine yt (3,.fl (.own 3) 1 (map (int .i64) v80)) 0 ⟨bU _ _ _ _ _ _ _ _ fN rfl rfl rfl (by decide) (dO (bA hv79).2) ((map_set (f:=int .i64) _ (bA hv79).2).trans (congrArg (map _) (Option.some.inj hv80)))⟩ ?_
 refine ye [3,4,6,7,8,9] ?_
 refine aM (ae ?_)
 obtain ⟨v81,hv81,h⟩:=zn h
 refine yx hn 1 ?_
 refine ys 0 ⟨lb hv81⟩ ?_
 refine yw [9] 1 ?_
 refine ye [3,4,6,7,8,9] ?_
 exact aS _ (zi h).symm rfl
 refine aO (ag (ag (aP ?_)))
 refine ar [0,1,2,3,4] (by kernel_rfl) (es':=[(_,_),(_,_),(_,_),(_,_),(_,_)]) rfl ?_
 exact hl367 _ (ho369 _ (zi h).symm).symm
 refine aO (ag (ag (aP ?_)))
 refine ar [0] (by kernel_rfl) (es':=[(_,_)]) rfl ?_
 exact hl352 _ (ho354 _ (zi h).symm).symm
 intro u55 h hl56 hr57
 refine aX hn 3 [3,4,38] ?_
 refine zc h rfl (fun h => ?_) (fun h => ?_)
 obtain ⟨v48,hv48,v49,hv49,v50,hv50,v51,hv51,h⟩:=gZ h
 obtain ⟨v52,hv52,v53,hv53,h⟩:=eY h
 refine yx hn 2 ?_
 refine ys 1 ⟨lI hv48⟩ ?_
 refine yS (.fl .ro 1 (map (int .i64) v49.who)) 0 ⟨dD _ _ _ _ _ _ _ underlying37 rfl rfl rfl (dC ab.ilen hv49 rfl) (.fl _ _ rfl)⟩ ?_
 refine ys 0 ⟨li hv50⟩ ?_
 refine ys 0 ⟨ll hv51⟩ ?_
 refine ys 0 ⟨li hv52⟩ ?_
 refine yk [3] [46] ?_
 refine yt (3,.fl (.own 3) 1 (map (int .i64) v53)) 0 ⟨bU _ _ _ _ _ _ _ _ fN rfl rfl rfl (by decide) (dO (bA hv52).2) ((map_set (f:=int .i64) _ (bA hv52).2).trans (congrArg (map _) (Option.some.inj hv53)))⟩ ?_
 refine ye [3,4] ?_
 exact hl56 _ (zi h).symm
 refine ak ?_
 refine ar [0,1] (by kernel_rfl) (es':=[(_,_),(_,_)]) rfl ?_
 exact hl56 _ (zi h).symm
 rintro u34 hl35 hr36 ⟨s24,s25⟩ rr39 h ho37
 refine aa ?_
 refine aX hn 4 [0,3,4,5,18] ?_
 refine zc h rfl (fun h => ?_) (fun h => ?_)
 refine ak ?_
 refine ae (aa ?_)
 refine aL h (fun (s42:(List ab))=>[(0,fi w),(3,.fl (.own 3) 1 (map (int .i64) v1)),(5,vi s25),(4,.fr (.own 136) false 2 (flatten (map ab.ienc s42)))]) ?_ ?_
 rintro s42 h
 refine ae ?_
 obtain ⟨v14,hv14,h⟩:=zn h
 refine yx hn 1 ?_
 refine ys 0 ⟨lb hv14⟩ ?_
 refine yw [5] 1 ?_
 refine ye [0,3,4,5] ?_
 exact aS _ (zi h).symm rfl
 intro u43 h hl44 hr45
 refine aC (aa ?_)
 obtain ⟨v3,hv3,v4,hv4,h⟩:=eY h
 refine yx hn 2 ?_
 refine ys 0 ⟨li hv3⟩ ?_
 refine ys 1 ⟨ll hv4⟩ ?_
 refine bi [0,3,4,5,25] ?_
 refine zc h rfl (fun h => ?_) (fun h => ?_)
 obtain ⟨v6,hv6,v7,hv7,v8,hv8,h⟩:=kg h
 refine yx hn 0 ?_
 refine ym 2 ?_
 refine ys 0 ⟨li hv6⟩ ?_
 refine ys 1 ⟨ll hv7⟩ ?_
 refine yS (.fl (.own 3) 1 (map (int .i64) [s25])) 0 ⟨aF _ _ 1 (.int .i64 0) (map (int .i64) [s25]) [(0,.int .i64 s25)] underlying37 fN kf (fun _ V w o a hv hes=>by have e0:=cX hv hes (x := .tmp 31) rfl; simp only [List.map_toArray,List.map_cons,List.map_nil,e0]; try rfl) (bC (by simp [Instr.fill,Value.cells]; rfl) (by simp [List.range,List.range.loop] <;> rfl)) (by simp [Value.oneCell']) rfl (by decide) (by decide) (by decide)⟩ ?_
 refine yk [32] [30] ?_
 refine yt (33,.agg [vi v7,.fl (.own 3) 1 (map (int .i64) [s25])]) 0 ⟨ec _ _ _ _ [1,1] _ _ underlying136 sY (GD _ underlying136) (.copy _ (.take _ _ sr.nil)) rfl rfl rfl⟩ ?_
 refine yk [33] [] ?_
 refine yt (34,.fr (.own 136) false 2 (flatten (map ab.ienc ([(ab.mk v7 [s25])])))) 0 ⟨jU _ _ _ 2 (.agg #[.int .i64 0,.slice none 0 0]) false _ _ underlying134 tI sY rfl (.cons (.v _) (.cons (.ro _ _ rfl) (.nil))) rfl (by decide) (by decide)⟩ ?_
 refine yk [26] [34] ?_
 refine qk (26,.any) (35,.fr (.own 136) false 2 (flatten (map ab.ienc v8))) 0 ⟨mv _ _ _ _ _ DB rfl rfl (cO ab.ilen _) (cO ab.ilen _) hv8 (ji (iT hv8)) (by decide) (by decide)⟩ ?_
 refine ya 0 ?_
 refine ye [0,3,5,4] ?_
 refine aM ?_
 exact hl44 _ (zi h).symm
 refine ak (aM ?_)
 refine ar [0,1,3,2] (by kernel_rfl) (es':=[(_,_),(_,_),(_,_),(_,_)]) rfl ?_
 exact hl44 _ (zi h).symm
 refine aO (ag (ag (aP ?_)))
 refine ar [1,2] (by kernel_rfl) (es':=[(_,_),(_,_)]) rfl ?_
 exact hl35 _ (ho37 _ (zi h).symm).symm
theorem eW (w:(List Int)) (limit:Int) (r:((List Int)×Int)) (h:Sh.bG w limit=some r):bZ Tryd.prog 68 [.fl .shr 1 (map (int .i64) w),.v (.int .i64 limit)] (.tup [.fl (.own 3) 1 (map (int .i64) r.1),.v (.int .i64 r.2)]):=by
 unfold Sh.bG at h
 refine yO 76 func68 fun g0 hn hio => ?_
 refine aX hn 2 [0,1] ?_
 refine aa (aa ?_)
 obtain ⟨v1,hv1,h⟩:=zn h
 refine yx hn 1 ?_
 refine ys 1 ⟨lk call93 (jf _ _ hv1)⟩ ?_
 refine bi [0,1,15] ?_
 refine zc h rfl (fun h => ?_) (fun h => ?_)
 refine aX hn 2 [4,5] ?_
 refine au ?_
 refine fM (fs:=[(4,.fl (.own 3) 1 (map (int .i64) [])),(5,vi 1)]) (.sub _ (bV 3 1) rfl (.same _ .nil)) ?_
 refine ap ?_
 obtain rfl:=zi h
 exact ay hio rfl (.tmp _ _ (.tmp _ _ .nil)) rfl rfl
 refine ak (ae ?_)
 refine aX hn 1 [0,1,6] ?_
 refine aa ?_
 refine aX hn 1 [0,1,6,7] ?_
 refine aH h (fun ((s23,s24):Int×Int)=>[(0,fi w),(1,vi limit),(6,vi s23),(7,vi s24)]) (fun (s32:Int)=>[(0,fi w),(1,vi limit),(6,vi s32)]) ?_ ?_
 rintro s32 h
 refine ae (aa ?_)
 refine aa ?_
 refine aL h (fun (s48:Bool)=>[(0,fi w),(1,vi limit),(40,vb s48)]) ?_ ?_
 rintro s48 h
 refine ae ?_
 refine zc h rfl (fun h => ?_) (fun h => ?_)
 refine aX hn 2 [4,5] ?_
 refine au ?_
 refine fM (fs:=[(4,.fl (.own 3) 1 (map (int .i64) [])),(5,vi 1)]) (.sub _ (bV 3 1) rfl (.same _ .nil)) ?_
 refine ap ?_
 obtain rfl:=zi h
 exact ay hio rfl (.tmp _ _ (.tmp _ _ .nil)) rfl rfl
 refine ak ?_
 refine ae (aa ?_)
 obtain ⟨v53,hv53,h⟩:=zn h
 refine yx hn 1 ?_
 refine ys 0 ⟨lk call23 (gK _ _ hv53)⟩ ?_
 refine ya 0 ?_
 refine bi [1,8] ?_
 refine aH h (fun (s129:(List Int))=>[(1,vi limit),(8,.fl (.own 3) 1 (map (int .i64) s129))]) (fun (():Unit)=>[]) ?_ ?_
 rintro ⟨⟩ h
 cases h
 rintro u161 hl162 hr163 s129 rr166 h ho164
 refine aC (aa ?_)
 obtain ⟨v54,hv54,h⟩:=zn h
 refine yx hn 1 ?_
 refine ys 0 ⟨lk call94 (kT _ _ hv54)⟩ ?_
 refine ya 0 ?_
 refine bi [1,8,9] ?_
 refine aX hn 1 [1,8,9,10] ?_
 refine aa ?_
 refine aX hn 1 [1,8,9,10,11] ?_
 refine aH h (fun ((s171,s172):Int×Int)=>[(1,vi limit),(8,.fl (.own 3) 1 (map (int .i64) s129)),(9,.fl (.own 3) 1 (map (int .i64) v54)),(10,vi s171),(11,vi s172)]) (fun (s174:Int)=>[(1,vi limit),(8,.fl (.own 3) 1 (map (int .i64) s129)),(9,.fl (.own 3) 1 (map (int .i64) v54)),(10,vi s174)]) ?_ ?_
 rintro s174 h
 refine ae (aa ?_)
 refine aX hn 3 [1,8,9,59] ?_
 refine zc h rfl (fun h => ?_) (fun h => ?_)
 refine gG hn 0 ?_
 refine ym 0 ?_
 refine ya 1 ?_
 refine bi [4,5] ?_
 refine au (ap (bI (ap (bI ?_))))
 have h:=hr163 _ (ho164 _ (zi h).symm).symm
 obtain rfl:=zi h
 exact ay hio rfl (.tmp _ _ (.tmp _ _ .nil)) rfl rfl
 refine ak (ae ?_)
 refine aX hn 1 [1,8,12] ?_
 refine aH h (fun ((s187,s188):(List Int)×Int)=>[(1,vi limit),(8,.fl (.own 3) 1 (map (int .i64) s187)),(12,vi s188)]) (fun (s190:(List Int))=>[(1,vi limit),(8,.fl (.own 3) 1 (map (int .i64) s190))]) ?_ ?_
 rintro s190 h
 refine aM ?_
 exact aS _ (zi h).symm rfl
 rintro u191 hl192 hr193 ⟨s187,s188⟩ rr196 h ho194
 refine aa ?_
 refine aX hn 4 [1,8,12,64] ?_
 refine zc h rfl (fun h => ?_) (fun h => ?_)
 refine ak ?_
 refine ae (aa ?_)
 refine aC ?_
 obtain ⟨v76,hv76,v77,hv77,v78,hv78,v79,hv79,h⟩:=gZ h
 obtain ⟨v80,hv80,v81,hv81,h⟩:=eY h
 refine yx hn 4 ?_
 refine ys 0 ⟨li hv76⟩ ?_
 refine ys 0 ⟨ll hv77⟩ ?_
 refine ys 0 ⟨lb hv78⟩ ?_
 refine ys 0 ⟨lB (pk hv79)⟩ ?_
 refine ys 0 ⟨li hv80⟩ ?_
 refine yk [8] [75,74] ?_
 refine yt (8,.fl (.own 3) 1 (map (int .i64) v81)) 0 ⟨bU _ _ _ _ _ _ _ _ fN rfl rfl rfl (by decide) (dO (bA hv80).2) ((map_set (f:=int .i64) _ (bA hv80).2).trans (congrArg (map _) (Option.some.inj hv81)))⟩ ?_
 refine ye [1,8,12] ?_
 refine aM (ae ?_)
 obtain ⟨v82,hv82,h⟩:=zn h
 refine yx hn 1 ?_
 refine ys 0 ⟨lb hv82⟩ ?_
 refine yw [12] 1 ?_
 refine ye [1,8,12] ?_
 exact aS _ (zi h).symm rfl
 refine aO (ag (ag (aP ?_)))
 refine ar [0,1] (by kernel_rfl) (es':=[(_,_),(_,_)]) rfl ?_
 exact hl192 _ (ho194 _ (zi h).symm).symm
 rintro u175 hl176 hr177 ⟨s171,s172⟩ rr180 h ho178
 refine aa ?_
 refine aX hn 4 [1,8,9,10,11,48] ?_
 refine zc h rfl (fun h => ?_) (fun h => ?_)
 refine ak ?_
 refine ae (aa ?_)
 refine aC ?_
 obtain ⟨v56,hv56,v57,hv57,v58,hv58,h⟩:=kg h
 refine yx hn 3 ?_
 refine ys 0 ⟨li hv56⟩ ?_
 refine ys 0 ⟨ll hv57⟩ ?_
 refine yS (vi v58) 0 ⟨(Option.some.inj hv58) ▸ HV _ _ _ _ rfl rfl⟩ ?_
 refine yw [10] 1 ?_
 refine ye [1,8,9,11,10] ?_
 refine aM (ae ?_)
 obtain ⟨v59,hv59,h⟩:=zn h
 refine yx hn 1 ?_
 refine ys 0 ⟨lb hv59⟩ ?_
 refine yw [11] 1 ?_
 refine ye [1,8,9,10,11] ?_
 exact aS _ (zi h).symm rfl
 refine aO (ag (ag (aP ?_)))
 refine ar [0,1,2,3] (by kernel_rfl) (es':=[(_,_),(_,_),(_,_),(_,_)]) rfl ?_
 exact hl176 _ (ho178 _ (zi h).symm).symm
 intro u49 h hl50 hr51
 obtain ⟨v46,hv46,h⟩:=zn h
 refine aE h (fun hg9_3 h => ?_) (fun hg9_3 h => ?_)
 obtain ⟨v47,hv47,h⟩:=zn h
 refine aE h (fun hg9_6 h => ?_) (fun hg9_6 h => ?_)
 refine yx hn 1 ?_
 refine ys 2 ⟨lk call50 (bR _ _ _ _ hv46)⟩ ?_
 refine yd hg9_3 1 ?_
 refine ys 1 ⟨lk call50 (bR _ _ _ _ hv47)⟩ ?_
 refine yd hg9_6 5 ?_
 refine ye [0,1,40] ?_
 exact hl50 _ (zi h).symm
 refine yx hn 1 ?_
 refine ys 2 ⟨lk call50 (bR _ _ _ _ hv46)⟩ ?_
 refine yd hg9_3 1 ?_
 refine ys 1 ⟨lk call50 (bR _ _ _ _ hv47)⟩ ?_
 refine yd hg9_6 5 ?_
 refine ye [0,1,40] ?_
 exact hl50 _ (zi h).symm
 refine yx hn 1 ?_
 refine ys 2 ⟨lk call50 (bR _ _ _ _ hv46)⟩ ?_
 refine yd hg9_3 8 ?_
 refine ye [0,1,40] ?_
 exact hl50 _ (zi h).symm
 rintro u33 hl34 hr35 ⟨s23,s24⟩ rr38 h ho36
 refine aa ?_
 refine aX hn 4 [0,1,6,7,19] ?_
 refine zc h rfl (fun h => ?_) (fun h => ?_)
 refine ak ?_
 refine ae (aa ?_)
 refine aL h (fun (s41:Int)=>[(0,fi w),(1,vi limit),(7,vi s24),(6,vi s41)]) ?_ ?_
 rintro s41 h
 refine ae ?_
 obtain ⟨v13,hv13,h⟩:=zn h
 refine yx hn 1 ?_
 refine ys 0 ⟨lb hv13⟩ ?_
 refine yw [7] 1 ?_
 refine ye [0,1,6,7] ?_
 exact aS _ (zi h).symm rfl
 intro u42 h hl43 hr44
 refine aC (aa ?_)
 obtain ⟨v4,hv4,v5,hv5,h⟩:=eY h
 refine yx hn 2 ?_
 refine ys 0 ⟨li hv4⟩ ?_
 refine ys 1 ⟨ll hv5⟩ ?_
 refine bi [0,1,6,7,26] ?_
 refine zc h rfl (fun h => ?_) (fun h => ?_)
 obtain ⟨v7,hv7,h⟩:=zn h
 refine yx hn 1 ?_
 refine ys 0 ⟨lb hv7⟩ ?_
 refine yw [6] 1 ?_
 refine ye [0,1,7,6] ?_
 refine aM ?_
 exact hl43 _ (zi h).symm
 refine ak (aM ?_)
 refine ar [0,1,3,2] (by kernel_rfl) (es':=[(_,_),(_,_),(_,_),(_,_)]) rfl ?_
 exact hl43 _ (zi h).symm
 refine aO (ag (ag (aP ?_)))
 refine ar [0,1,2] (by kernel_rfl) (es':=[(_,_),(_,_),(_,_)]) rfl ?_
 exact hl34 _ (ho36 _ (zi h).symm).symm
theorem fp (l:(List Int)) (least:Int) (r:(List Int)) (h:Sh.dr l least=some r):bZ Tryd.prog 69 [.fl .ro 1 (map (int .i64) l),.v (.int .i64 least)] (.fl .ro 1 (map (int .i64) r)):=by
 unfold Sh.dr at h
 refine yO 24 func69 fun g0 hn hio => ?_
 refine aX hn 1 [0,1] ?_
 refine aX hn 3 [0,1,5] ?_
 refine aa ?_
 refine aH h (fun (s46:Int)=>[(0,.fl .ro 1 (map (int .i64) l)),(1,vi least),(5,vi s46)]) (fun (s52:Int)=>[(0,.fl .ro 1 (map (int .i64) l)),(5,vi s52)]) ?_ ?_
 rintro s52 h
 refine ae (aa ?_)
 obtain ⟨v34,hv34,h⟩:=zn h
 refine yx hn 2 ?_
 refine yS (.fl .ro 1 (map (int .i64) v34)) 1 ⟨Ck _ _ _ 0 s52 _ underlying37 fN rfl rfl rfl ⟨_,rfl⟩ hv34⟩ ?_
 refine bi [4] ?_
 refine au ?_
 obtain rfl:=zi h
 exact ay hio rfl (.tmp _ _ .nil) rfl rfl
 rintro u53 hl54 hr55 s46 rr58 h ho56
 refine aa (aa ?_)
 refine aL h (fun (s59:Bool)=>[(0,.fl .ro 1 (map (int .i64) l)),(1,vi least),(5,vi s46),(18,vb s59)]) ?_ ?_
 rintro s59 h
 refine ae ?_
 refine zc h rfl (fun h => ?_) (fun h => ?_)
 refine ak (ae (aC ?_))
 obtain ⟨v9,hv9,h⟩:=zn h
 refine yx hn 1 ?_
 refine ys 0 ⟨lb hv9⟩ ?_
 refine yw [5] 1 ?_
 refine ye [0,1,5] ?_
 refine aM ?_
 exact aS _ (zi h).symm rfl
 refine aO (ag (ag (aP ?_)))
 refine ar [0,2] (by kernel_rfl) (es':=[(_,_),(_,_)]) rfl ?_
 exact hl54 _ (ho56 _ (zi h).symm).symm
 intro u60 h hl61 hr62
 refine aE h (fun hg2_3 h => ?_) (fun hg2_3 h => ?_)
 obtain ⟨v1,hv1,v2,hv2,v3,hv3,h⟩:=kg h
 refine yx hn 4 ?_
 refine yd hg2_3 2 ?_
 refine ys 0 ⟨lb hv1⟩ ?_
 refine ys 0 ⟨li hv2⟩ ?_
 refine ys 2 ⟨ll hv3⟩ ?_
 refine ye [0,1,5,18] ?_
 exact hl61 _ (zi h).symm
 refine yx hn 4 ?_
 refine yd hg2_3 7 ?_
 refine ye [0,1,5,18] ?_
 exact hl61 _ (zi h).symm
end Go.Proofs.YtkgfjkfccpjcgaaDoor
