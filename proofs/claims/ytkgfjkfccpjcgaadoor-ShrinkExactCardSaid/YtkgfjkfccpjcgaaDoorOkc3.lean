import Derived.Test.YtkgfjkfccpjcgaaDoorOkc2
set_option linter.unusedVariables false
set_option linter.unusedSimpArgs false
set_option maxHeartbeats 1000000
namespace Go.Proofs.YtkgfjkfccpjcgaaDoor
open Go.Abs Go.Abs.Sh Tryd
open List (map flatten)
open Value (int)
theorem ki (weights:(List Int)) (r:(List Int)) (h:Sh.fk weights=some r):bZ Tryd.prog 107 [.fl .shr 1 (map (int .i64) weights)] (.fl (.own 3) 1 (map (int .i64) r)):=by
 unfold Sh.fk at h
 refine yO 21 func107 fun g0 hn hio => ?_
 refine aX hn 1 [0] ?_
 refine aX hn 1 [0,3] ?_
 refine aa ?_
 refine aX hn 3 [3,6,7,8] ?_
 refine iS (fs:=[(3,.fl (.own 3) 1 (map (int .i64) [])),(6,fi weights),(7,vi (weights.length:Int)),(8,vi 0)]) (.sub _ (bV 3 1) rfl (.same _ (.same _ (.same _ .nil)))) ?_
 refine aH h (fun ((s21,s22):(List Int)×Int)=>[(3,.fl (.own 3) 1 (map (int .i64) s21)),(6,fi weights),(7,vi (weights.length:Int)),(8,vi s22)]) (fun (s30:(List Int))=>[(3,.fl (.own 3) 1 (map (int .i64) s30))]) ?_ ?_
 rintro s30 h
 refine ae ?_
 refine gG hn 0 ?_
 refine ym 0 ?_
 refine ya 0 ?_
 refine bi [2] ?_
 refine au ?_
 obtain rfl:=zi h
 exact ay hio rfl (.tmp _ _ .nil) rfl rfl
 rintro u31 hl32 hr33 ⟨s21,s22⟩ rr36 h ho34
 refine aX hn 1 [3,6,7,8,9] ?_
 refine aa ?_
 refine zc h rfl (fun h => ?_) (fun h => ?_)
 refine ak ?_
 refine ae (aa ?_)
 refine aL h (fun (s39:(List Int))=>[(6,fi weights),(7,vi (weights.length:Int)),(8,vi s22),(3,.fl (.own 3) 1 (map (int .i64) s39))]) ?_ ?_
 rintro s39 h
 refine ae ?_
 obtain ⟨v11,hv11,h⟩:=zn h
 refine yx hn 0 ?_
 refine ys 0 ⟨lb hv11⟩ ?_
 refine yw [8] 1 ?_
 refine ye [6,7,3,8] ?_
 refine ar [2,0,1,3] (by kernel_rfl) (es':=[(_,_),(_,_),(_,_),(_,_)]) rfl ?_
 exact aS _ (zi h).symm rfl
 intro u40 h hl41 hr42
 refine aC (aa ?_)
 obtain ⟨v2,hv2,v3,hv3,h⟩:=eY h
 refine yx hn 1 ?_
 refine ys 0 ⟨li hv2⟩ ?_
 refine ys 2 ⟨ll hv3⟩ ?_
 refine bi [3,6,7,8,4,5] ?_
 refine aX hn 2 [3,6,7,8,4,14] ?_
 refine zc h rfl (fun h => ?_) (fun h => ?_)
 obtain ⟨v5,hv5,h⟩:=zn h
 refine yx hn 0 ?_
 refine ym 1 ?_
 refine yS (.fl (.own 3) 1 (map (int .i64) [s22])) 0 ⟨aF _ _ 1 (.int .i64 0) (map (int .i64) [s22]) [(0,.int .i64 s22)] underlying37 fN kf (fun _ V w o a hv hes=>by have e0:=cX hv hes (x := .tmp 16) rfl; simp only [List.map_toArray,List.map_cons,List.map_nil,e0]; try rfl) (bC (by simp [Instr.fill,Value.cells]; rfl) (by simp [List.range,List.range.loop] <;> rfl)) (by simp [Value.oneCell']) rfl (by decide) (by decide) (by decide)⟩ ?_
 refine yp fg hv5 0 ?_
 refine ya 0 ?_
 refine ye [6,7,8,3] ?_
 refine aM ?_
 exact hl41 _ (zi h).symm
 refine ak (aM ?_)
 refine ar [1,2,3,0] (by kernel_rfl) (es':=[(_,_),(_,_),(_,_),(_,_)]) rfl ?_
 exact hl41 _ (zi h).symm
 refine aO (ag (ag (aP ?_)))
 refine ar [0] (by kernel_rfl) (es':=[(_,_)]) rfl ?_
 exact hl32 _ (ho34 _ (zi h).symm).symm
theorem nD (weights:(List Int)) (limit:Int) (r:Bool) (h:Sh.dI weights limit=some r):bZ Tryd.prog 87 [.fl .shr 1 (map (int .i64) weights),.v (.int .i64 limit)] (.v (.bool r)):=by
 unfold Sh.dI at h
 refine yO 17 func87 fun g0 hn hio => ?_
 refine aX hn 1 [0,1] ?_
 refine aX hn 1 [0,1,5] ?_
 refine aa ?_
 refine aL h (fun (s3:Int)=>[(1,vi limit),(5,vi s3)]) ?_ ?_
 rintro s3 h
 refine ae (aa ?_)
 refine aL h (fun (s8:Bool)=>[(4,vb s8)]) ?_ ?_
 rintro s8 h
 refine ae (au ?_)
 obtain rfl:=zi h
 exact ay hio rfl (.tmp _ _ .nil) rfl rfl
 intro u9 h hl10 hr11
 refine aE h (fun hg4_3 h => ?_) (fun hg4_3 h => ?_)
 refine yx hn 4 ?_
 refine yd hg4_3 4 ?_
 refine ye [4] ?_
 exact hl10 _ (zi h).symm
 refine yx hn 4 ?_
 refine yd hg4_3 4 ?_
 refine ye [4] ?_
 exact hl10 _ (zi h).symm
 intro u4 h hl5 hr6
 refine aa ?_
 obtain ⟨v1,hv1,h⟩:=zn h
 refine yx hn 1 ?_
 refine ys 2 ⟨lk call107 (ki _ _ hv1)⟩ ?_
 refine bi [1,5,9] ?_
 refine zc h rfl (fun h => ?_) (fun h => ?_)
 refine yx hn 0 ?_
 refine yw [5] 1 ?_
 refine ye [1,5] ?_
 exact hl5 _ (zi h).symm
 refine ak ?_
 refine ar [0,1] (by kernel_rfl) (es':=[(_,_),(_,_)]) rfl ?_
 exact hl5 _ (zi h).symm
theorem kr (l r:List Int) (h:Sh.cV l=some r):bZ Tryd.prog 88 [.fl .shr 1 (map (int .i64) l)] (.fl (.own 3) 1 (map (int .i64) r)):=pL Tryd.slices_Clone_int_nil Tryd.slices_Clone_int Tryd.slices_Clone_int_zero l r h
theorem iY (cap0:Int) (cap1:Int) (cap2:Int) (cap3:(List ah)) (r:(Int×Int×Int×Int×(List ah))) (h:Sh.dX cap0 cap1 cap2 cap3=some r):sv Tryd.prog 119 [.box 3 [.v (.int .i64 cap0)],.box 3 [.v (.int .i64 cap1)],.box 3 [.v (.int .i64 cap2)],.box 129 [.fr (.own 131) false 2 (flatten (map ah.ienc cap3))]] [.box 3 [.v (.int .i64 r.2.1)],.box 3 [.v (.int .i64 r.2.2.1)],.box 3 [.v (.int .i64 r.2.2.2.1)],.box 129 [.fr (.own 131) false 2 (flatten (map ah.ienc r.2.2.2.2))]] (.v (.int .i64 r.1)):=by
 unfold Sh.dX at h
 refine yP 35 func119 fun args0 hargs0 g0 hn hio => ?_
 refine aX hn 1 [0,1,2,3,0,1,2,3] ?_
 refine aa (aa ?_)
 refine aL h (fun (s5:Bool)=>[(0,.box 3 [vi cap0]),(1,.box 3 [vi cap1]),(2,.box 3 [vi cap2]),(3,.box 129 [.fr (.own 131) false 2 (flatten (map ah.ienc cap3))]),(26,vb s5),(0,.v (List.getD args0 0 undef)),(1,.v (List.getD args0 1 undef)),(2,.v (List.getD args0 2 undef)),(3,.v (List.getD args0 3 undef))]) ?_ ?_
 rintro s5 h
 refine ae ?_
 refine zc h rfl (fun h => ?_) (fun h => ?_)
 refine aa ?_
 obtain ⟨v10,hv10,h⟩:=zn h
 refine yx hn 1 ?_
 refine ys 1 ⟨lb hv10⟩ ?_
 refine bi [0,1,2,3,0,1,2,3] ?_
 refine aa ?_
 obtain ⟨v11,hv11,h⟩:=zn h
 refine yx hn 1 ?_
 refine ys 1 ⟨lb hv11⟩ ?_
 refine bi [0,1,2,3,4,0,1,2,3] ?_
 refine au ?_
 refine ar [4,0,1,2,3,5,6,7,8] (by kernel_rfl) (es':=[(_,_),(_,_),(_,_),(_,_),(_,_),(_,_),(_,_),(_,_),(_,_)]) rfl ?_
 refine ap ?_
 obtain rfl:=zi h
 exact gR (es:=[(4,.v (.int .i64 v11))]) (posts:=[.box 3 [.v (.int .i64 v10)],.box 3 [.v (.int .i64 cap1)],.box 3 [.v (.int .i64 cap2)],.box 129 [.fr (.own 131) false 2 (flatten (map ah.ienc cap3))]]) hio rfl rfl (.tmp _ _ .nil) rfl rfl hargs0 rfl
 refine ak ?_
 refine ae (aa ?_)
 obtain ⟨v12,hv12,h⟩:=zn h
 refine yx hn 1 ?_
 refine ys 1 ⟨lb hv12⟩ ?_
 refine bi [0,1,2,3,0,1,2,3] ?_
 refine aa ?_
 obtain ⟨v13,hv13,h⟩:=zn h
 refine yx hn 1 ?_
 refine ys 1 ⟨lb hv13⟩ ?_
 refine bi [0,1,2,3,4,0,1,2,3] ?_
 refine au ?_
 refine ar [4,0,1,2,3,5,6,7,8] (by kernel_rfl) (es':=[(_,_),(_,_),(_,_),(_,_),(_,_),(_,_),(_,_),(_,_),(_,_)]) rfl ?_
 obtain rfl:=zi h
 exact gR (es:=[(4,.v (.int .i64 v13))]) (posts:=[.box 3 [.v (.int .i64 cap0)],.box 3 [.v (.int .i64 cap1)],.box 3 [.v (.int .i64 v12)],.box 129 [.fr (.own 131) false 2 (flatten (map ah.ienc cap3))]]) hio rfl rfl (.tmp _ _ .nil) rfl rfl hargs0 rfl
 intro u6 h hl7 hr8
 refine aE h (fun hg1_3 h => ?_) (fun hg1_3 h => ?_)
 refine aE h (fun hg1_8 h => ?_) (fun hg1_8 h => ?_)
 refine wb [[0],[1],[5,6],[7]] ?_
 refine wd hg1_3 [[8,2],[8,3],[8,10,3],[8,9,11],[8,12]] ?_
 refine wd hg1_8 [[13],[13],[13],[13],[13],[13],[13],[13],[13],[13],[13],[8,13],[8,25]] ?_
 refine we hn [0,1,2,3,26,0,1,2,3] ?_
 exact hl7 _ (zi h).symm
 obtain ⟨v1,hv1,v2,hv2,v3,hv3,v4,hv4,h⟩:=gZ h
 refine wb [[0],[1],[5,6],[7]] ?_
 refine wd hg1_3 [[8,2],[8,3],[8,10,3],[8,9,11],[8,12]] ?_
 refine wd hg1_8 [[13,3],[13,0]] ?_
 refine wN [13,14,3,15] ?_
 refine wo [[13,16,3]] ⟨lI hv1⟩ ?_
 refine wN [13,17,3] ?_
 refine wS (vi v2.weight) [[13,3],[13,2]] ⟨dD _ _ _ _ _ _ _ underlying3 rfl rfl rfl (dC ah.ilen hv2 rfl) (.v _)⟩ ?_
 refine wN [13,19,3,20] ?_
 refine wo [[13,21,3]] ⟨lI hv3⟩ ?_
 refine wN [13,22,3] ?_
 refine wS (vi v4.weight) [[13,18,23],[8,13,24],[8,25]] ⟨dD _ _ _ _ _ _ _ underlying3 rfl rfl rfl (dC ah.ilen hv4 rfl) (.v _)⟩ ?_
 refine we hn [0,1,2,3,26,0,1,2,3] ?_
 exact hl7 _ (zi h).symm
 refine wb [[0],[1],[5,6],[7]] ?_
 refine wd hg1_3 [[8],[8],[8],[8],[8],[13],[13],[13],[13],[13],[13],[13],[13],[13],[13],[13],[8],[8]] ?_
 refine we hn [0,1,2,3,26,0,1,2,3] ?_
 exact hl7 _ (zi h).symm
theorem sE (nodes:(List ah)) (r:(List ah)) (h:Sh.jD nodes=some r):ET Tryd.prog 110 [.fr (.own 131) false 2 (flatten (map ah.ienc nodes))] (.fr .ro false 2 (flatten (map ah.ienc r))):=by
 unfold Sh.jD at h
 refine yE 51 func110 fun g0 hn hio => ?_
 refine gG hn 0 ?_
 refine yk [0] [] ?_
 refine yt (1,.box 129 [.fr (.own 131) false 2 (flatten (map ah.ienc nodes))]) 1 ⟨iB _ _ _ _ _ rfl rfl rfl⟩ ?_
 refine bi [1] ?_
 refine gG hn 2 ?_
 refine yS (.box 3 [vi 0]) 1 ⟨oA (cG _ _ kf)⟩ ?_
 refine bi [1,3] ?_
 refine aa ?_
 refine wb [[3]] ?_
 refine wN [] ?_
 refine wS (.box 3 [vi 0]) [] ⟨oA (cG _ _ kf)⟩ ?_
 refine wN [] ?_
 refine wS (.box 3 [vi 0]) [] ⟨oA (cG _ _ kf)⟩ ?_
 refine wK [4] [] ?_
 refine wt [(4,.box 3 [vi 0])] [] ⟨lK _ _ _ _ _ _ _ _ fN rfl rfl rfl rfl (zl rfl) rfl rfl⟩ ?_
 refine wK [5] [11] ?_
 refine wt [(5,.box 3 [vi (nodes.length:Int)])] [] ⟨lK _ _ _ _ _ _ _ _ fN rfl rfl rfl rfl (zl rfl) rfl rfl⟩ ?_
 refine zP hn [1,3,4,5] ?_
 refine gG hn 0 ?_
 refine yS (.clo 119 [4,3,5,1]) 1 ⟨nY _ _ _ [4,3,5,1] rfl rfl⟩ ?_
 refine bi [1,3,4,5,6] ?_
 refine aa ?_
 refine aH h (fun ((s42,s43,s44,s45):(List ah)×Int×Int×Int)=>[(1,.box 129 [.fr (.own 131) false 2 (flatten (map ah.ienc s42))]),(3,.box 3 [vi s43]),(4,.box 3 [vi s44]),(5,.box 3 [vi s45]),(6,.clo 119 [4,3,5,1])]) (fun (s47:(List ah))=>[(1,.box 129 [.fr (.own 131) false 2 (flatten (map ah.ienc s47))])]) ?_ ?_
 rintro s47 h
 refine ae (aa ?_)
 refine uh 0 hio (es':=[(1,.box 129 [.fr .ro false 2 (flatten (map ah.ienc s47))])]) rfl ?_
 refine yy hn 2 [2] ?_
 refine ae (au ?_)
 obtain rfl:=zi h
 exact EX hio rfl (.tmp _ _ .nil) rfl rfl
 rintro u48 hl49 hr50 ⟨s42,s43,s44,s45⟩ rr53 h ho51
 refine aa (aa ?_)
 obtain ⟨v1,hv1,v2,hv2,h⟩:=eY h
 refine yx hn 3 ?_
 refine ys 0 ⟨lb hv1⟩ ?_
 refine ys 1 ⟨lb hv2⟩ ?_
 refine bi [1,3,4,5,6,18] ?_
 refine zc h rfl (fun h => ?_) (fun h => ?_)
 refine ak (ae (aC (aa ?_)))
 obtain ⟨v4,hv4,v5,hv5,h⟩:=eY h
 refine yx hn 1 ?_
 refine yk [4,3,5,1] [19] ?_
 refine yn [(4,.box 3 [vi v4.2.1]),(3,.box 3 [vi v4.2.2.1]),(5,.box 3 [vi v4.2.2.2.1]),(1,.box 129 [.fr (.own 131) false 2 (flatten (map ah.ienc v4.2.2.2.2))]),(20,vi v4.1)] 1 ⟨tt _ _ _ _ 20 19 119 [] [4,3,5,1] _ _ _ rfl rfl rfl call119 rfl rfl (iY s44 s43 s45 s42 _ hv4) rfl rfl rfl rfl rfl rfl rfl rfl rfl⟩ ?_
 refine yk [4,3,5,1] [21] ?_
 refine yn [(4,.box 3 [vi v5.2.1]),(3,.box 3 [vi v5.2.2.1]),(5,.box 3 [vi v5.2.2.2.1]),(1,.box 129 [.fr (.own 131) false 2 (flatten (map ah.ienc v5.2.2.2.2))]),(22,vi v5.1)] 2 ⟨tt _ _ _ _ 22 21 119 [] [4,3,5,1] _ _ _ rfl rfl rfl call119 rfl rfl (iY v4.2.1 v4.2.2.1 v4.2.2.2.1 v4.2.2.2.2 _ hv5) rfl rfl rfl rfl rfl rfl rfl rfl rfl⟩ ?_
 refine bi [1,3,4,5,6,7,8] ?_
 refine aa ?_
 obtain ⟨v6,hv6,v7,hv7,v8,hv8,v9,hv9,h⟩:=gZ h
 obtain ⟨v10,hv10,v11,hv11,h⟩:=eY h
 refine Gj [0,1,2,3,4,5,6] rfl rfl ?_
 refine FQ 58 0 (fun rb6 rn6 rc6=>[.v (.slice (some ⟨rb6,0,none⟩) rn6 rc6)]) (zl rfl) rfl (fun _ _ _=>rfl) (Fj ah.ilen (by decide) hv7) fun rb6 rn6 rc6 rl6 => ?_
 refine zo (by kernel_rfl) hn (El:=(_::_::_::_::_::_::_::_::(23,.v (.slice (some ⟨rb6,0,none⟩) rn6 rc6))::(24,vi v4.1)::(25,.v (.slice (some ⟨rb6,0,none⟩) rn6 rc6))::(26,vi v5.1)::(27,.v (.slice (some ⟨rb6,0,none⟩) rn6 rc6))::(28,vi (v5.2.2.2.2.length:Int))::(29,.v (.slice (some ⟨rb6,0,none⟩) rn6 rc6))::(30,vi (v5.2.2.2.2.length:Int))::(31,.v (.pointer (some ⟨rb6,(v6 * 2),none⟩)))::(32,.v (.pointer (some ⟨rb6,(v6 * 2+1),none⟩)))::(58,.inv (um 131 false 2 (flatten (map ah.ienc v8)) rb6 rn6 rc6))::(33,.v (.pointer (some ⟨rb6,(v9 * 2),none⟩)))::(34,.v (.pointer (some ⟨rb6,(v9 * 2+1),none⟩)))::(58,.inv (um 131 false 2 (flatten (map ah.ienc v11)) rb6 rn6 rc6))::[])) (init:=[0,1,2,3,4,5,6,7]) (fin:=[0,21,2,3,4,5,6,7]) (sps:=[zq [0] 8 23,zq [6] 9 24,zq [0] 10 25,zq [7] 11 26,zq [0] 12 27,zq [12] 13 28,zq [0] 14 29,zq [14] 15 30,zq [8,9] 16 31,zq [16] 17 32,⟨[17,13],[1],[18],[]⟩,zq [10,11] 19 33,zq [19] 20 34,⟨[20,15],[18],[21],[]⟩]) (es':=[(_,_),(58,.inv (um 131 false 2 (flatten (map ah.ienc v11)) rb6 rn6 rc6)),(_,_),(_,_),(_,_),(_,_),(_,_),(_,_)]) (by kernel_rfl) rfl rfl ⟨zp rfl (oL underlying129 rfl),z1 rfl,zp rfl (oL underlying129 rfl),z1 rfl,zp rfl (oL underlying129 rfl),zp rfl (qS _ _ rb6 rn6 rc6 _ underlying129 rfl (DG rl6 (cO ah.ilen _) (by decide))),zp rfl (oL underlying129 rfl),zp rfl (qS _ _ rb6 rn6 rc6 _ underlying129 rfl (DG rl6 (cO ah.ilen _) (by decide))),zp rfl (ta _ _ _ _ _ rb6 rn6 rc6 _ _ underlying129 yY rfl rfl (bA hv6).1 (DM rl6 (cO ah.ilen _) (by decide) (bA hv6).2)),zp rfl (mb _ _ _ _ rb6 (v6 * 2) _ underlying131 rfl fN rfl rfl),zp rfl (ol _ _ _ 58 rb6 rn6 rc6 _ 1 _ fN rfl rfl rfl (by decide) (tu (q:=1) (s:=1) ah.ilen hv7 (by decide)) ((ri (q:=1) (s:=1) (y:=(ah.mk v7.weight (v5.2.2.2.2.length:Int))) ah.ilen hv7 rfl (by decide)).trans (congrArg (fun l=>flatten (map ah.ienc l)) (Option.some.inj hv8)))),zp rfl (ta _ _ _ _ _ rb6 rn6 rc6 _ _ underlying129 yY rfl rfl (bA hv9).1 (DM rl6 (cO ah.ilen _) (by decide) (bA hv9).2)),zp rfl (mb _ _ _ _ rb6 (v9 * 2) _ underlying131 rfl fN rfl rfl),zp rfl (ol _ _ _ 58 rb6 rn6 rc6 _ 1 _ fN rfl rfl rfl (by decide) (tu (q:=1) (s:=1) ah.ilen hv10 (by decide)) ((ri (q:=1) (s:=1) (y:=(ah.mk v10.weight (v5.2.2.2.2.length:Int))) ah.ilen hv10 rfl (by decide)).trans (congrArg (fun l=>flatten (map ah.ienc l)) (Option.some.inj hv11)))),zz⟩ ?_
 refine DQ 0 [.fr (.own 131) false 2 (flatten (map ah.ienc v11))] (zl rfl) rfl rfl ?_
 refine ae ?_
 obtain ⟨v12,hv12,v13,hv13,v14,hv14,v15,hv15,h⟩:=gZ h
 obtain ⟨v16,hv16,v17,hv17,h⟩:=eY h
 refine wb [[1],[1],[7]] ?_
 refine wN [36,1,37] ?_
 refine wo [[38,1]] ⟨lI hv12⟩ ?_
 refine wN [39,1] ?_
 refine wS (vi v13.weight) [[1],[8]] ⟨dD _ _ _ _ _ _ _ underlying3 rfl rfl rfl (dC ah.ilen hv13 rfl) (.v _)⟩ ?_
 refine wN [41,1,42] ?_
 refine wo [[43,1]] ⟨lI hv14⟩ ?_
 refine wN [44,1] ?_
 refine wS (vi v15.weight) [] ⟨dD _ _ _ _ _ _ _ underlying3 rfl rfl rfl (dC ah.ilen hv15 rfl) (.v _)⟩ ?_
 refine wN [40,45] ?_
 refine wo [] ⟨lb hv16⟩ ?_
 refine wN [46] ?_
 refine wS (.agg [vi v16,vi 0]) [] ⟨ec _ _ _ _ [1,1] _ _ underlying131 zF (GS _ underlying131) (.copy _ sr.nil) rfl rfl rfl⟩ ?_
 refine wN [47] ?_
 refine wS (.fr (.own 131) false 2 (flatten (map ah.ienc [(ah.mk v16 0)]))) [] ⟨kP _ _ _ 2 (.agg #[.int .i64 0,.int .i64 0]) false _ _ underlying129 yY zF rfl rfl (.cons (.v _) (.cons (.v _) (.nil))) rfl (by decide) (by decide)⟩ ?_
 refine wK [1] [35,48] ?_
 refine wt [(1,.box 129 [.any]),(49,.fr (.own 131) false 2 (flatten (map ah.ienc v17)))] [] ⟨rC _ 49 1 0 _ _ DF rfl rfl (zl rfl) rfl (cO ah.ilen _) (cO ah.ilen _) hv17 (ji (iT hv17)) (by decide) (by decide) (by decide) rfl rfl⟩ ?_
 refine wK [35,36,38,39,41,43,44,49,1] [] ?_
 refine wt [(1,.box 129 [.fr (.own 131) false 2 (flatten (map ah.ienc v17))])] [] ⟨bm.drop [_] (bm.drop [_] (bm.drop [_] (bm.drop [_] (bm.drop [_] (bm.drop [_] (bm.drop [_] (aY _ _ _ _ _ _ _ _ JA rfl rfl rfl (zl rfl) rfl rfl)))))))⟩ ?_
 refine we hn [1,3,4,5,6] ?_
 refine aM ?_
 exact aS _ (zi h).symm rfl
 refine aO (ag (ag (aP ?_)))
 refine ar [0] (by kernel_rfl) (es':=[(_,_)]) rfl ?_
 exact hl49 _ (ho51 _ (zi h).symm).symm
theorem qC (weights:(List Int)) (r:(List Int)) (h:Sh.iJ weights=some r):bZ Tryd.prog 89 [.fl .shr 1 (map (int .i64) weights)] (.fl (.own 3) 1 (map (int .i64) r)):=by
 unfold Sh.iJ at h
 refine yO 92 func89 fun g0 hn hio => ?_
 refine aX hn 2 [1] ?_
 refine aa ?_
 obtain ⟨v1,hv1,h⟩:=zn h
 refine yx hn 2 ?_
 refine yS (.fl (.own 3) 1 (map (int .i64) v1)) 0 ⟨kY (f:=int .i64) _ _ _ _ fg (by decide) kf rfl rfl rfl hv1⟩ ?_
 refine ya 0 ?_
 refine bi [1,3] ?_
 refine aa ?_
 obtain ⟨v2,hv2,h⟩:=zn h
 refine yx hn 1 ?_
 refine ys 0 ⟨lk call107 (ki _ _ hv2)⟩ ?_
 refine ya 0 ?_
 refine bi [1,3,4] ?_
 refine aa ?_
 refine aX hn 3 [1,3,4,19] ?_
 refine zc h rfl (fun h => ?_) (fun h => ?_)
 refine gG hn 0 ?_
 refine ym 0 ?_
 refine ya 0 ?_
 refine bi [2] ?_
 refine au (ap ?_)
 obtain rfl:=zi h
 exact ay hio rfl (.tmp _ _ .nil) rfl rfl
 refine ak ?_
 refine ae (aa ?_)
 refine aX hn 3 [1,3,4,23] ?_
 refine zc h rfl (fun h => ?_) (fun h => ?_)
 refine aa ?_
 obtain ⟨v5,hv5,v6,hv6,v7,hv7,v8,hv8,h⟩:=gZ h
 refine yx hn 1 ?_
 refine ym 0 ?_
 refine ys 0 ⟨li hv5⟩ ?_
 refine ys 0 ⟨ll hv6⟩ ?_
 refine ys 0 ⟨li hv7⟩ ?_
 refine yk [3] [28] ?_
 refine yt (3,.fl (.own 3) 1 (map (int .i64) v8)) 0 ⟨bU _ _ _ _ _ _ _ _ fN rfl rfl rfl (by decide) (dO (bA hv7).2) ((map_set (f:=int .i64) _ (bA hv7).2).trans (congrArg (map _) (Option.some.inj hv8)))⟩ ?_
 refine bi [3] ?_
 refine gG hn 0 ?_
 refine ym 0 ?_
 refine ya 0 ?_
 refine bi [2] ?_
 refine au (ap ?_)
 obtain rfl:=zi h
 exact ay hio rfl (.tmp _ _ .nil) rfl rfl
 refine ak ?_
 refine ae (aa ?_)
 obtain ⟨v9,hv9,h⟩:=zn h
 refine yx hn 1 ?_
 refine yS (.clo 109 [1]) 0 ⟨kq _ _ _ 1 (by decide)⟩ ?_
 refine yk [4] [30,31,1] ?_
 refine qk (4,.fl (.own 3) 1 (map (int .i64) v9)) (32,.tup []) 0 ⟨FR _ 32 4 31 1 _ _ weights v2 v9 rfl call108 Tryd.sort_ok rfl rfl rfl rfl rfl hv9 rfl (by decide)⟩ ?_
 refine bi [1,3,4] ?_
 refine aa ?_
 obtain ⟨v10,hv10,v11,hv11,h⟩:=eY h
 refine yx hn 2 ?_
 refine ys 0 ⟨lb hv10⟩ ?_
 refine yS (.fr (.own 131) false 2 (flatten (map ah.ienc ([]:List ah)))) 0 ⟨EP _ _ 2 false _ _ DF (by decide) rfl rfl hv11⟩ ?_
 refine ya 0 ?_
 refine bi [1,3,4,5] ?_
 refine aa ?_
 refine aX hn 3 [1,3,4,5,37,38,39] ?_
 refine aH h (fun ((s22,s23):(List ah)×Int)=>[(1,.box 37 [fi weights]),(3,.fl (.own 3) 1 (map (int .i64) v1)),(4,.fl (.own 3) 1 (map (int .i64) v9)),(5,.fr (.own 131) false 2 (flatten (map ah.ienc s22))),(37,.same (.slot 4)),(38,vi (v9.length:Int)),(39,vi s23)]) (fun (s25:(List ah))=>[(3,.fl (.own 3) 1 (map (int .i64) v1)),(4,.fl (.own 3) 1 (map (int .i64) v9)),(5,.fr (.own 131) false 2 (flatten (map ah.ienc s25)))]) ?_ ?_
 rintro s25 h
 refine ae (aa ?_)
 obtain ⟨v33,hv33,h⟩:=zn h
 refine yx hn 0 ?_
 refine ym 0 ?_
 refine yk [52] [] ?_
 refine qk (52,.any) (53,.fr .ro false 2 (flatten (map ah.ienc v33))) 1 ⟨Bf _ _ 52 110 _ _ rfl call110 rfl rfl (sE s25 _ hv33) rfl rfl rfl⟩ ?_
 refine bi [3,4,5] ?_
 refine aa ?_
 obtain ⟨v34,hv34,h⟩:=zn h
 refine yx hn 2 ?_
 refine yS (.fl (.own 3) 1 (map (int .i64) v34)) 0 ⟨kY (f:=int .i64) _ _ _ _ fg (by decide) kf rfl rfl rfl hv34⟩ ?_
 refine ya 0 ?_
 refine bi [3,4,5,8] ?_
 refine aa (aa ?_)
 obtain ⟨v35,hv35,h⟩:=zn h
 refine yx hn 2 ?_
 refine ys 1 ⟨lb hv35⟩ ?_
 refine bi [3,4,5,8,9] ?_
 refine aH h (fun ((s48,s49):(List Int)×Int)=>[(3,.fl (.own 3) 1 (map (int .i64) v1)),(4,.fl (.own 3) 1 (map (int .i64) v9)),(5,.fr .ro false 2 (flatten (map ah.ienc v33))),(8,.fl (.own 3) 1 (map (int .i64) s48)),(9,vi s49)]) (fun (s51:(List Int))=>[(3,.fl (.own 3) 1 (map (int .i64) v1)),(4,.fl (.own 3) 1 (map (int .i64) v9)),(8,.fl (.own 3) 1 (map (int .i64) s51))]) ?_ ?_
 rintro s51 h
 refine ae (aa ?_)
 refine gG hn 0 ?_
 refine ym 2 ?_
 refine bi [3,8,76,77,78] ?_
 refine aH h (fun ((s70,s71):(List Int)×Int)=>[(3,.fl (.own 3) 1 (map (int .i64) s70)),(8,.fl (.own 3) 1 (map (int .i64) s51)),(76,.fl (.own 3) 1 (map (int .i64) v9)),(77,vi (v9.length:Int)),(78,vi s71)]) (fun (s73:(List Int))=>[(3,.fl (.own 3) 1 (map (int .i64) s73))]) ?_ ?_
 rintro s73 h
 refine ae ?_
 refine gG hn 0 ?_
 refine ym 0 ?_
 refine ya 0 ?_
 refine bi [2] ?_
 refine au ?_
 obtain rfl:=zi h
 exact ay hio rfl (.tmp _ _ .nil) rfl rfl
 rintro u74 hl75 hr76 ⟨s70,s71⟩ rr79 h ho77
 refine aX hn 1 [3,8,76,77,78,79] ?_
 refine aa ?_
 refine zc h rfl (fun h => ?_) (fun h => ?_)
 refine ak ?_
 refine ae (aa ?_)
 refine aC (aa ?_)
 obtain ⟨v60,hv60,v61,hv61,h⟩:=eY h
 refine yx hn 1 ?_
 refine ys 0 ⟨li hv60⟩ ?_
 refine ys 2 ⟨ll hv61⟩ ?_
 refine bi [3,8,76,77,78,10,11] ?_
 obtain ⟨v62,hv62,v63,hv63,v64,hv64,v65,hv65,h⟩:=gZ h
 refine yx hn 4 ?_
 refine ys 0 ⟨li hv62⟩ ?_
 refine ys 0 ⟨ll hv63⟩ ?_
 refine ys 0 ⟨li hv64⟩ ?_
 refine yk [3] [89,88] ?_
 refine yt (3,.fl (.own 3) 1 (map (int .i64) v65)) 0 ⟨bU _ _ _ _ _ _ _ _ fN rfl rfl rfl (by decide) (dO (bA hv64).2) ((map_set (f:=int .i64) _ (bA hv64).2).trans (congrArg (map _) (Option.some.inj hv65)))⟩ ?_
 refine ye [3,8,76,77,78] ?_
 refine aM (ae ?_)
 obtain ⟨v66,hv66,h⟩:=zn h
 refine yx hn 0 ?_
 refine ys 0 ⟨lb hv66⟩ ?_
 refine yw [78] 1 ?_
 refine ye [3,8,76,77,78] ?_
 exact aS _ (zi h).symm rfl
 refine aO (ag (ag (aP ?_)))
 refine ar [0] (by kernel_rfl) (es':=[(_,_)]) rfl ?_
 exact hl75 _ (ho77 _ (zi h).symm).symm
 rintro u52 hl53 hr54 ⟨s48,s49⟩ rr57 h ho55
 refine aa ?_
 refine aX hn 2 [3,4,5,8,9,61] ?_
 refine zc h rfl (fun h => ?_) (fun h => ?_)
 refine ak ?_
 refine ae (aa ?_)
 refine aC ?_
 obtain ⟨v37,hv37,v38,hv38,v39,hv39,v40,hv40,h⟩:=gZ h
 obtain ⟨v41,hv41,v42,hv42,v43,hv43,h⟩:=kg h
 refine yx hn 5 ?_
 refine ys 1 ⟨lI hv37⟩ ?_
 refine yS (vi v38.parent) 0 ⟨dD _ _ _ _ _ _ _ underlying3 rfl rfl rfl (dC ah.ilen hv38 rfl) (.v _)⟩ ?_
 refine ys 0 ⟨li hv39⟩ ?_
 refine ys 0 ⟨ll hv40⟩ ?_
 refine ys 0 ⟨lb hv41⟩ ?_
 refine ys 0 ⟨li hv42⟩ ?_
 refine yk [8] [75,74] ?_
 refine yt (8,.fl (.own 3) 1 (map (int .i64) v43)) 0 ⟨bU _ _ _ _ _ _ _ _ fN rfl rfl rfl (by decide) (dO (bA hv42).2) ((map_set (f:=int .i64) _ (bA hv42).2).trans (congrArg (map _) (Option.some.inj hv43)))⟩ ?_
 refine ye [3,4,5,8,9] ?_
 refine aM (ae ?_)
 obtain ⟨v44,hv44,h⟩:=zn h
 refine yx hn 1 ?_
 refine ys 0 ⟨lb hv44⟩ ?_
 refine yw [9] 1 ?_
 refine ye [3,4,5,8,9] ?_
 exact aS _ (zi h).symm rfl
 refine aO (ag (ag (aP ?_)))
 refine ar [0,1,3] (by kernel_rfl) (es':=[(_,_),(_,_),(_,_)]) rfl ?_
 exact hl53 _ (ho55 _ (zi h).symm).symm
 rintro u26 hl27 hr28 ⟨s22,s23⟩ rr31 h ho29
 refine aX hn 1 [1,3,4,5,37,38,39,40] ?_
 refine aa ?_
 refine zc h rfl (fun h => ?_) (fun h => ?_)
 refine ak ?_
 refine ae (aa ?_)
 refine aC (aa ?_)
 obtain ⟨v13,hv13,v14,hv14,h⟩:=eY h
 refine yx hn 0 ?_
 refine ys 0 ⟨li hv13⟩ ?_
 refine ys 1 ⟨ll hv14⟩ ?_
 refine bi [1,3,4,5,37,38,39,7] ?_
 obtain ⟨v15,hv15,v16,hv16,v17,hv17,h⟩:=kg h
 refine yx hn 0 ?_
 refine ym 2 ?_
 refine ys 0 ⟨li hv15⟩ ?_
 refine ys 0 ⟨ll hv16⟩ ?_
 refine yS (.agg [vi v16,vi 0]) 0 ⟨ec _ _ _ _ [1,1] _ _ underlying131 zF (GS _ underlying131) (.copy _ sr.nil) rfl rfl rfl⟩ ?_
 refine yS (.fr (.own 131) false 2 (flatten (map ah.ienc [(ah.mk v16 0)]))) 0 ⟨kP _ _ _ 2 (.agg #[.int .i64 0,.int .i64 0]) false _ _ underlying129 yY zF rfl rfl (.cons (.v _) (.cons (.v _) (.nil))) rfl (by decide) (by decide)⟩ ?_
 refine yk [43] [49] ?_
 refine qk (43,.any) (50,.fr (.own 131) false 2 (flatten (map ah.ienc v17))) 0 ⟨mv _ _ _ _ _ DF rfl rfl (cO ah.ilen _) (cO ah.ilen _) hv17 (ji (iT hv17)) (by decide) (by decide)⟩ ?_
 refine ya 0 ?_
 refine ye [1,3,4,37,38,39,5] ?_
 refine aM (ae ?_)
 obtain ⟨v18,hv18,h⟩:=zn h
 refine yx hn 0 ?_
 refine ys 0 ⟨lb hv18⟩ ?_
 refine yw [39] 1 ?_
 refine ye [1,3,4,37,38,5,39] ?_
 refine ar [0,1,2,5,3,4,6] (by kernel_rfl) (es':=[(_,_),(_,_),(_,_),(_,_),(_,_),(_,_),(_,_)]) rfl ?_
 exact aS _ (zi h).symm rfl
 refine aO (ag (ag (aP ?_)))
 refine ar [1,2,3] (by kernel_rfl) (es':=[(_,_),(_,_),(_,_)]) rfl ?_
 exact hl27 _ (ho29 _ (zi h).symm).symm
theorem lA (bx:Nat) (n:Int) (cap:Int) (r:Bool) (h:Sh.dq n cap=some r):pp Tryd.prog [(bx,[.int .i64 cap])] 91 [.v (.int .i64 n),.v (.pointer (some ⟨bx,0,none⟩))] (.v (.bool r)):=by
 unfold Sh.dq at h
 refine yG 7 func91 fun g0 hn hio => ?_
 refine aX hn 1 [0,1,7] ?_
 refine gG hn 1 ?_
 refine yS (vi cap) 2 ⟨tX _ _ 7 bx 0 _ _ underlying3 rfl rfl rfl (.head _) rfl⟩ ?_
 refine bi [7,3] ?_
 refine au ?_
 refine ar [1] (by kernel_rfl) (es':=[(_,_)]) rfl ?_
 obtain rfl:=zi h
 exact ay hio rfl (.tmp _ _ .nil) rfl rfl
theorem eI (bx:Nat) (s:(List Int)) (cap:Int) (r:Int) (h:Sh.bu s cap=some r):pp Tryd.prog [(bx,[.int .i64 cap])] 111 [.fl .shr 1 (map (int .i64) s),.v (.func (.func 91) #[] #[.pointer (some ⟨bx,0,none⟩)])] (.v (.int .i64 r)):=by
 unfold Sh.bu at h
 refine yG 19 func111 fun g0 hn hio => ?_
 refine aX hn 1 [0,1,19] ?_
 refine aa ?_
 refine aX hn 3 [0,1,19,7,8] ?_
 refine aH h (fun (s10:Int)=>[(0,fi s),(1,.v (.func (.func 91) #[] #[.pointer (some ⟨bx,0,none⟩)])),(19,.glob [(bx,[.int .i64 cap])]),(7,vi (s.length:Int)),(8,vi s10)]) (fun (():Unit)=>[(19,.glob [(bx,[.int .i64 cap])])]) ?_ ?_
 rintro ⟨⟩ h
 refine ae ?_
 refine aX hn 1 [19,4] ?_
 refine au ?_
 refine ar [1] (by kernel_rfl) (es':=[(_,_)]) rfl ?_
 obtain rfl:=zi h
 exact ay hio rfl (.tmp _ _ .nil) rfl rfl
 rintro u13 hl14 hr15 s10 rr18 h ho16
 refine aX hn 1 [0,1,19,7,8,9] ?_
 refine aa ?_
 refine zc h rfl (fun h => ?_) (fun h => ?_)
 refine ak ?_
 refine ae (aa ?_)
 refine aC ?_
 refine aX hn 2 [0,1,19,7,8,5] ?_
 refine aa ?_
 obtain ⟨v2,hv2,v3,hv3,v4,hv4,h⟩:=kg h
 refine yx hn 3 ?_
 refine ys 0 ⟨li hv2⟩ ?_
 refine ys 0 ⟨ll hv3⟩ ?_
 refine yS (vb v4) 0 ⟨CB _ _ 19 91 (.pointer (some ⟨bx,0,none⟩)) _ _ rfl call91 rfl rfl (fun _ h=>h) (lA bx v3 cap _ hv4) rfl rfl⟩ ?_
 refine bi [0,1,19,7,8,5,16] ?_
 refine zc h rfl (fun h => ?_) (fun h => ?_)
 refine aX hn 2 [19,4] ?_
 refine au ?_
 refine ar [1] (by kernel_rfl) (es':=[(_,_)]) rfl ?_
 refine bI (ap (ap (bI (ap ?_))))
 have h:=hr15 _ (ho16 _ (zi h).symm).symm
 obtain rfl:=zi h
 exact ay hio rfl (.tmp _ _ .nil) rfl rfl
 refine ak (aM (ae ?_))
 obtain ⟨v6,hv6,h⟩:=zn h
 refine yx hn 0 ?_
 refine ys 0 ⟨lb hv6⟩ ?_
 refine yw [8] 1 ?_
 refine ye [0,1,19,7,8] ?_
 exact aS _ (zi h).symm rfl
 refine aO (ag (ag (aP ?_)))
 refine ar [2] (by kernel_rfl) (es':=[(_,_)]) rfl ?_
 exact hl14 _ (ho16 _ (zi h).symm).symm
theorem ew (bx:Nat) (s:(List Int)) (cap:Int) (r:Bool) (h:Sh.aT s cap=some r):pp Tryd.prog [(bx,[.int .i64 cap])] 90 [.fl .shr 1 (map (int .i64) s),.v (.func (.func 91) #[] #[.pointer (some ⟨bx,0,none⟩)])] (.v (.bool r)):=by
 unfold Sh.aT at h
 refine yG 9 func90 fun g0 hn hio => ?_
 refine aX hn 1 [0,1,9] ?_
 refine aa ?_
 obtain ⟨v1,hv1,h⟩:=zn h
 refine yx hn 2 ?_
 refine ys 2 ⟨lg call111 (eI _ _ _ _ hv1) 9⟩ ?_
 refine bi [9,4] ?_
 refine au ?_
 refine ar [1] (by kernel_rfl) (es':=[(_,_)]) rfl ?_
 obtain rfl:=zi h
 exact ay hio rfl (.tmp _ _ .nil) rfl rfl
theorem iU (weights:(List Int)) (limit:Int) (r:((List Int)×Int)) (h:Sh.bP weights limit=some r):bZ Tryd.prog 63 [.fl .shr 1 (map (int .i64) weights),.v (.int .i64 limit)] (.tup [.fl (.own 3) 1 (map (int .i64) r.1),.v (.int .i64 r.2)]):=by
 unfold Sh.bP at h
 refine yO 42 func63 fun g0 hn hio => ?_
 refine aX hn 3 [0,3] ?_
 refine aa (aa ?_)
 refine aL h (fun (s3:Bool)=>[(0,fi weights),(3,.box 3 [vi limit]),(18,vb s3)]) ?_ ?_
 rintro s3 h
 refine ae ?_
 refine zc h rfl (fun h => ?_) (fun h => ?_)
 refine aX hn 2 [4,5] ?_
 refine au ?_
 refine fM (fs:=[(4,.fl (.own 3) 1 (map (int .i64) [])),(5,vi 1)]) (.sub _ (bV 3 1) rfl (.same _ .nil)) ?_
 refine ap ?_
 obtain rfl:=zi h
 exact ay hio rfl (.tmp _ _ (.tmp _ _ .nil)) rfl rfl
 refine ak ?_
 refine ae (aa ?_)
 obtain ⟨v8,hv8,h⟩:=zn h
 refine yx hn 1 ?_
 refine ys 0 ⟨lk call88 (kr _ _ hv8)⟩ ?_
 refine ya 0 ?_
 refine bi [3,6] ?_
 refine aH h (fun (s51:(List Int))=>[(3,.box 3 [vi limit]),(6,.fl (.own 3) 1 (map (int .i64) s51))]) (fun (():Unit)=>[]) ?_ ?_
 rintro ⟨⟩ h
 cases h
 rintro u68 hl69 hr70 s51 rr73 h ho71
 refine aC (aa ?_)
 obtain ⟨v9,hv9,h⟩:=zn h
 refine yx hn 1 ?_
 refine ys 0 ⟨lk call89 (qC _ _ hv9)⟩ ?_
 refine ya 0 ?_
 refine bi [3,6,7] ?_
 refine aa (aa ?_)
 obtain ⟨v10,hv10,h⟩:=zn h
 refine yx hn 1 ?_
 refine yS (.clo 91 [3]) 0 ⟨kq _ _ _ 3 (by decide)⟩ ?_
 refine yS (vb v10) 1 ⟨Eg _ 25 3 24 90 91 [.int .i64 limit] [.tmp 23] _ _ rfl call90 rfl rfl rfl rfl (fun bx=>ew bx v9 limit _ hv10) rfl rfl⟩ ?_
 refine bi [3,6,7,26] ?_
 refine zc h rfl (fun h => ?_) (fun h => ?_)
 refine gG hn 0 ?_
 refine ym 0 ?_
 refine ya 1 ?_
 refine bi [4,5] ?_
 refine au (ap (bI (ap (bI ?_))))
 have h:=hr70 _ (ho71 _ (zi h).symm).symm
 obtain rfl:=zi h
 exact ay hio rfl (.tmp _ _ (.tmp _ _ .nil)) rfl rfl
 refine ak (ae ?_)
 refine aX hn 3 [3,6,28,29,30] ?_
 refine aH h (fun ((s79,s80):(List Int)×Int)=>[(3,.box 3 [vi limit]),(6,.fl (.own 3) 1 (map (int .i64) s79)),(28,.same (.slot 6)),(29,vi (s51.length:Int)),(30,vi s80)]) (fun (s82:(List Int))=>[(3,.box 3 [vi limit]),(6,.fl (.own 3) 1 (map (int .i64) s82))]) ?_ ?_
 rintro s82 h
 refine aM ?_
 exact aS _ (zi h).symm rfl
 rintro u83 hl84 hr85 ⟨s79,s80⟩ rr88 h ho86
 refine aX hn 1 [3,6,28,29,30,31] ?_
 refine aa ?_
 refine zc h rfl (fun h => ?_) (fun h => ?_)
 refine ak ?_
 refine ae (aa ?_)
 refine aC (aa ?_)
 obtain ⟨v13,hv13,v14,hv14,h⟩:=eY h
 refine yx hn 1 ?_
 refine ys 0 ⟨li hv13⟩ ?_
 refine ys 2 ⟨ll hv14⟩ ?_
 refine bi [3,6,28,29,30,8,9] ?_
 obtain ⟨v15,hv15,v16,hv16,v17,hv17,v18,hv18,h⟩:=gZ h
 refine yx hn 3 ?_
 refine ys 0 ⟨lb hv15⟩ ?_
 refine ys 0 ⟨lB (pk hv16)⟩ ?_
 refine ys 0 ⟨li hv17⟩ ?_
 refine yk [6] [40,39] ?_
 refine yt (6,.fl (.own 3) 1 (map (int .i64) v18)) 0 ⟨bU _ _ _ _ _ _ _ _ fN rfl rfl rfl (by decide) (dO (bA hv17).2) ((map_set (f:=int .i64) _ (bA hv17).2).trans (congrArg (map _) (Option.some.inj hv18)))⟩ ?_
 refine ye [3,6,28,29,30] ?_
 refine aM (ae ?_)
 obtain ⟨v19,hv19,h⟩:=zn h
 refine yx hn 0 ?_
 refine ys 0 ⟨lb hv19⟩ ?_
 refine yw [30] 1 ?_
 refine ye [3,6,28,29,30] ?_
 exact aS _ (zi h).symm rfl
 refine aO (ag (ag (aP ?_)))
 refine ar [0,1] (by kernel_rfl) (es':=[(_,_),(_,_)]) rfl ?_
 exact hl84 _ (ho86 _ (zi h).symm).symm
 intro u4 h hl5 hr6
 obtain ⟨v1,hv1,h⟩:=zn h
 refine aE h (fun hg1_3 h => ?_) (fun hg1_3 h => ?_)
 refine yx hn 1 ?_
 refine ys 2 ⟨lk call49 (iH _ _ hv1)⟩ ?_
 refine yd hg1_3 5 ?_
 refine ye [0,3,18] ?_
 exact hl5 _ (zi h).symm
 obtain ⟨v2,hv2,h⟩:=zn h
 refine yx hn 1 ?_
 refine ys 2 ⟨lk call49 (iH _ _ hv1)⟩ ?_
 refine yd hg1_3 2 ?_
 refine ys 2 ⟨lk call87 (nD _ _ _ hv2)⟩ ?_
 refine ye [0,3,18] ?_
 exact hl5 _ (zi h).symm
theorem gJ (l:(List Int)) (least:Int) (r:(List Int)) (h:Sh.ej l least=some r):bZ Tryd.prog 65 [.fl .ro 1 (map (int .i64) l),.v (.int .i64 least)] (.fl .ro 1 (map (int .i64) r)):=by
 unfold Sh.ej at h
 refine yO 24 func65 fun g0 hn hio => ?_
 refine aX hn 1 [0,1] ?_
 refine aX hn 3 [0,1,5] ?_
 refine aa ?_
 refine aH h (fun (s46:Int)=>[(0,.fl .ro 1 (map (int .i64) l)),(1,vi least),(5,vi s46)]) (fun (s52:Int)=>[(0,.fl .ro 1 (map (int .i64) l)),(5,vi s52)]) ?_ ?_
 rintro s52 h
 refine ae (aa ?_)
 obtain ⟨v34,hv34,h⟩:=zn h
 refine yx hn 2 ?_
 refine yS (.fl .ro 1 (map (int .i64) v34)) 1 ⟨Ck _ _ _ 0 s52 _ underlying37 fN rfl rfl rfl ⟨_,rfl⟩ hv34⟩ ?_
 refine bi [4] ?_
 refine au ?_
 obtain rfl:=zi h
 exact ay hio rfl (.tmp _ _ .nil) rfl rfl
 rintro u53 hl54 hr55 s46 rr58 h ho56
 refine aa (aa ?_)
 refine aL h (fun (s59:Bool)=>[(0,.fl .ro 1 (map (int .i64) l)),(1,vi least),(5,vi s46),(18,vb s59)]) ?_ ?_
 rintro s59 h
 refine ae ?_
 refine zc h rfl (fun h => ?_) (fun h => ?_)
 refine ak (ae (aC ?_))
 obtain ⟨v9,hv9,h⟩:=zn h
 refine yx hn 1 ?_
 refine ys 0 ⟨lb hv9⟩ ?_
 refine yw [5] 1 ?_
 refine ye [0,1,5] ?_
 refine aM ?_
 exact aS _ (zi h).symm rfl
 refine aO (ag (ag (aP ?_)))
 refine ar [0,2] (by kernel_rfl) (es':=[(_,_),(_,_)]) rfl ?_
 exact hl54 _ (ho56 _ (zi h).symm).symm
 intro u60 h hl61 hr62
 refine aE h (fun hg2_3 h => ?_) (fun hg2_3 h => ?_)
 obtain ⟨v1,hv1,v2,hv2,v3,hv3,h⟩:=kg h
 refine yx hn 4 ?_
 refine yd hg2_3 2 ?_
 refine ys 0 ⟨lb hv1⟩ ?_
 refine ys 0 ⟨li hv2⟩ ?_
 refine ys 2 ⟨ll hv3⟩ ?_
 refine ye [0,1,5,18] ?_
 exact hl61 _ (zi h).symm
 refine yx hn 4 ?_
 refine yd hg2_3 7 ?_
 refine ye [0,1,5,18] ?_
 exact hl61 _ (zi h).symm
theorem nQ (lengths:(List Int)) (at_:Int) (r:(Int×Int×Int)) (h:Sh.eM lengths at_=some r):bZ Tryd.prog 45 [.fl .shr 1 (map (int .i64) lengths),.v (.int .i64 at_)] (.tup [.v (.int .i64 r.1),.v (.int .i64 r.2.1),.v (.int .i64 r.2.2)]):=by
 unfold Sh.eM at h
 refine yO 79 func45 fun g0 hn hio => ?_
 refine aX hn 3 [0,1] ?_
 refine aa ?_
 obtain ⟨v1,hv1,v2,hv2,h⟩:=eY h
 refine yx hn 2 ?_
 refine ys 0 ⟨li hv1⟩ ?_
 refine ys 1 ⟨ll hv2⟩ ?_
 refine bi [0,1,7] ?_
 refine aX hn 1 [0,1,7,8] ?_
 refine aa ?_
 refine aH h (fun (s19:Int)=>[(0,fi lengths),(1,vi at_),(7,vi v2),(8,vi s19)]) (fun (s25:Int)=>[(0,fi lengths),(1,vi at_),(7,vi v2),(8,vi s25)]) ?_ ?_
 rintro s25 h
 refine ae (aa ?_)
 refine aC (aa ?_)
 refine aL h (fun (s37:Bool)=>[(0,fi lengths),(1,vi at_),(7,vi v2),(8,vi s25),(31,vb s37)]) ?_ ?_
 rintro s37 h
 refine ae ?_
 refine zc h rfl (fun h => ?_) (fun h => ?_)
 refine aa ?_
 obtain ⟨v42,hv42,h⟩:=zn h
 refine yx hn 1 ?_
 refine yS (vi v42) 1 ⟨(Option.some.inj hv42) ▸ pj _ _ _ _ rfl rfl⟩ ?_
 refine bi [6] ?_
 refine aa ?_
 obtain ⟨v43,hv43,h⟩:=zn h
 refine yx hn 1 ?_
 refine ys 3 ⟨lb hv43⟩ ?_
 refine yw [6] 1 ?_
 refine bi [4,5,6] ?_
 refine au (bI (ap ?_))
 obtain rfl:=zi h
 exact ay hio rfl (.tmp _ _ (.tmp _ _ (.tmp _ _ .nil))) rfl rfl
 refine aa ?_
 refine aL h (fun (s44:Bool)=>[(0,fi lengths),(1,vi at_),(7,vi v2),(8,vi s25),(43,vb s44)]) ?_ ?_
 rintro s44 h
 refine ae ?_
 refine zc h rfl (fun h => ?_) (fun h => ?_)
 refine aa ?_
 obtain ⟨v49,hv49,h⟩:=zn h
 refine yx hn 1 ?_
 refine ys 4 ⟨lb hv49⟩ ?_
 refine bi [4,5,6] ?_
 refine au (bI (ap ?_))
 obtain rfl:=zi h
 exact ay hio rfl (.tmp _ _ (.tmp _ _ (.tmp _ _ .nil))) rfl rfl
 refine aa ?_
 refine aL h (fun (s53:Bool)=>[(7,vi v2),(8,vi s25),(53,vb s53)]) ?_ ?_
 rintro s53 h
 refine ae ?_
 refine zc h rfl (fun h => ?_) (fun h => ?_)
 refine aa ?_
 obtain ⟨v58,hv58,h⟩:=zn h
 refine yx hn 1 ?_
 refine yS (vi v58) 1 ⟨(Option.some.inj hv58) ▸ pj _ _ _ _ rfl rfl⟩ ?_
 refine bi [6] ?_
 refine aa ?_
 obtain ⟨v59,hv59,h⟩:=zn h
 refine yx hn 1 ?_
 refine ys 3 ⟨lb hv59⟩ ?_
 refine yw [6] 1 ?_
 refine bi [4,5,6] ?_
 refine au (bI (ap ?_))
 obtain rfl:=zi h
 exact ay hio rfl (.tmp _ _ (.tmp _ _ (.tmp _ _ .nil))) rfl rfl
 refine ak (aM (ae ?_))
 refine aX hn 4 [4,5,6] ?_
 refine au ?_
 obtain rfl:=zi h
 exact ay hio rfl (.tmp _ _ (.tmp _ _ (.tmp _ _ .nil))) rfl rfl
 intro u54 h hl55 hr56
 refine aE h (fun hg10_2 h => ?_) (fun hg10_2 h => ?_)
 refine aE h (fun hg10_6 h => ?_) (fun hg10_6 h => ?_)
 refine aE h (fun hg10_10 h => ?_) (fun hg10_10 h => ?_)
 obtain ⟨v50,hv50,v51,hv51,v52,hv52,h⟩:=kg h
 refine yx hn 3 ?_
 refine yd hg10_2 4 ?_
 refine yd hg10_6 4 ?_
 refine yd hg10_10 2 ?_
 refine ys 0 ⟨lb hv50⟩ ?_
 refine ys 0 ⟨li hv51⟩ ?_
 refine ys 4 ⟨ll hv52⟩ ?_
 refine ye [7,8,53] ?_
 exact hl55 _ (zi h).symm
 refine yx hn 3 ?_
 refine yd hg10_2 4 ?_
 refine yd hg10_6 4 ?_
 refine yd hg10_10 9 ?_
 refine ye [7,8,53] ?_
 exact hl55 _ (zi h).symm
 refine yx hn 3 ?_
 refine yd hg10_2 4 ?_
 refine yd hg10_6 13 ?_
 refine ye [7,8,53] ?_
 exact hl55 _ (zi h).symm
 refine yx hn 3 ?_
 refine yd hg10_2 17 ?_
 refine ye [7,8,53] ?_
 exact hl55 _ (zi h).symm
 intro u45 h hl46 hr47
 refine aE h (fun hg8_2 h => ?_) (fun hg8_2 h => ?_)
 refine yx hn 3 ?_
 refine yd hg8_2 4 ?_
 refine ye [0,1,7,8,43] ?_
 exact hl46 _ (zi h).symm
 refine yx hn 3 ?_
 refine yd hg8_2 4 ?_
 refine ye [0,1,7,8,43] ?_
 exact hl46 _ (zi h).symm
 intro u38 h hl39 hr40
 refine aE h (fun hg5_2 h => ?_) (fun hg5_2 h => ?_)
 refine yx hn 3 ?_
 refine yd hg5_2 4 ?_
 refine ye [0,1,7,8,31] ?_
 exact hl39 _ (zi h).symm
 refine yx hn 3 ?_
 refine yd hg5_2 4 ?_
 refine ye [0,1,7,8,31] ?_
 exact hl39 _ (zi h).symm
 rintro u26 hl27 hr28 s19 rr31 h ho29
 refine aa (aa ?_)
 refine aL h (fun (s32:Bool)=>[(0,fi lengths),(1,vi at_),(7,vi v2),(8,vi s19),(28,vb s32)]) ?_ ?_
 rintro s32 h
 refine ae ?_
 refine zc h rfl (fun h => ?_) (fun h => ?_)
 refine ak (ae (aC ?_))
 obtain ⟨v12,hv12,h⟩:=zn h
 refine yx hn 1 ?_
 refine ys 0 ⟨lb hv12⟩ ?_
 refine yw [8] 1 ?_
 refine ye [0,1,7,8] ?_
 refine aM ?_
 exact aS _ (zi h).symm rfl
 refine aO (ag (ag (aP ?_)))
 refine ar [0,1,2,3] (by kernel_rfl) (es':=[(_,_),(_,_),(_,_),(_,_)]) rfl ?_
 exact hl27 _ (ho29 _ (zi h).symm).symm
 intro u33 h hl34 hr35
 obtain ⟨v3,hv3,h⟩:=zn h
 refine aE h (fun hg3_6 h => ?_) (fun hg3_6 h => ?_)
 obtain ⟨v4,hv4,v5,hv5,v6,hv6,h⟩:=kg h
 refine yx hn 2 ?_
 refine ys 4 ⟨lb hv3⟩ ?_
 refine yd hg3_6 3 ?_
 refine ys 0 ⟨lb hv4⟩ ?_
 refine ys 0 ⟨li hv5⟩ ?_
 refine ys 3 ⟨ll hv6⟩ ?_
 refine ye [0,1,7,8,28] ?_
 exact hl34 _ (zi h).symm
 refine yx hn 2 ?_
 refine ys 4 ⟨lb hv3⟩ ?_
 refine yd hg3_6 9 ?_
 refine ye [0,1,7,8,28] ?_
 exact hl34 _ (zi h).symm
theorem ni (lengths:(List Int)) (r:((List Int)×(List Int)×Int)) (h:Sh.gq lengths=some r):bZ Tryd.prog 24 [.fl .shr 1 (map (int .i64) lengths)] (.tup [.fl (.own 3) 1 (map (int .i64) r.1),.fl (.own 3) 1 (map (int .i64) r.2.1),.v (.int .i64 r.2.2)]):=by
 unfold Sh.gq at h
 refine yO 51 func24 fun g0 hn hio => ?_
 refine aX hn 3 [0,2,3] ?_
 refine aa ?_
 refine aX hn 3 [0,2,3,13] ?_
 refine zc h rfl (fun h => ?_) (fun h => ?_)
 refine gG hn 0 ?_
 refine yw [2] 1 ?_
 refine yw [3] 2 ?_
 refine bi [2,3,4] ?_
 refine au ?_
 refine fM (fs:=[(2,.fl (.own 3) 1 (map (int .i64) [])),(3,.fl (.own 3) 1 (map (int .i64) [])),(4,vi 1)]) (.sub _ (bV 3 1) rfl (.sub _ (bV 3 1) rfl (.same _ .nil))) ?_
 refine ap ?_
 obtain rfl:=zi h
 exact ay hio rfl (.tmp _ _ (.tmp _ _ (.tmp _ _ .nil))) rfl rfl
 refine ak ?_
 refine ae (aa ?_)
 refine aX hn 3 [0,2,3,14,15,16] ?_
 refine aH h (fun (s18:Int)=>[(0,fi lengths),(2,vz),(3,vz),(14,fi lengths),(15,vi (lengths.length:Int)),(16,vi s18)]) (fun (():Unit)=>[(0,fi lengths),(2,vz),(3,vz)]) ?_ ?_
 rintro ⟨⟩ h
 refine ae (aa ?_)
 refine aX hn 1 [0,2,3,7] ?_
 refine iS (fs:=[(0,fi lengths),(2,.fl (.own 3) 1 (map (int .i64) [])),(3,.fl (.own 3) 1 (map (int .i64) [])),(7,vi 0)]) (.same _ (.sub _ (bV 3 1) rfl (.sub _ (bV 3 1) rfl (.same _ .nil)))) ?_
 refine aH h (fun ((s46,s47,s48):(List Int)×(List Int)×Int)=>[(0,fi lengths),(2,.fl (.own 3) 1 (map (int .i64) s46)),(3,.fl (.own 3) 1 (map (int .i64) s47)),(7,vi s48)]) (fun ((s50,s51):(List Int)×(List Int))=>[(2,.fl (.own 3) 1 (map (int .i64) s50)),(3,.fl (.own 3) 1 (map (int .i64) s51))]) ?_ ?_
 rintro ⟨s50,s51⟩ h
 refine ae ?_
 refine gG hn 0 ?_
 refine ym 0 ?_
 refine ym 0 ?_
 refine ya 0 ?_
 refine ya 1 ?_
 refine bi [2,3,4] ?_
 refine au ?_
 obtain rfl:=zi h
 exact ay hio rfl (.tmp _ _ (.tmp _ _ (.tmp _ _ .nil))) rfl rfl
 rintro u52 hl53 hr54 ⟨s46,s47,s48⟩ rr57 h ho55
 refine aa ?_
 refine aX hn 4 [0,2,3,7,30] ?_
 refine zc h rfl (fun h => ?_) (fun h => ?_)
 refine ak (ae (aC (aa ?_)))
 obtain ⟨v38,hv38,h⟩:=zn h
 refine yx hn 2 ?_
 refine ys 0 ⟨lk call45 (nQ _ _ _ hv38)⟩ ?_
 refine ym 6 ?_
 refine bi [0,2,3,7,8,9,10] ?_
 refine aa ?_
 obtain ⟨v39,hv39,h⟩:=zn h
 refine yx hn 0 ?_
 refine ym 1 ?_
 refine yS (.fl (.own 3) 1 (map (int .i64) [v38.1])) 0 ⟨aF _ _ 1 (.int .i64 0) (map (int .i64) [v38.1]) [(0,.int .i64 v38.1)] underlying37 fN kf (fun _ V w o a hv hes=>by have e0:=cX hv hes (x := .tmp 39) rfl; simp only [List.map_toArray,List.map_cons,List.map_nil,e0]; try rfl) (bC (by simp [Instr.fill,Value.cells]; rfl) (by simp [List.range,List.range.loop] <;> rfl)) (by simp [Value.oneCell']) rfl (by decide) (by decide) (by decide)⟩ ?_
 refine yp fg hv39 0 ?_
 refine ya 0 ?_
 refine bi [0,3,7,9,10,2] ?_
 refine aa ?_
 obtain ⟨v40,hv40,h⟩:=zn h
 refine yx hn 0 ?_
 refine ym 1 ?_
 refine yS (.fl (.own 3) 1 (map (int .i64) [v38.2.1])) 0 ⟨aF _ _ 1 (.int .i64 0) (map (int .i64) [v38.2.1]) [(0,.int .i64 v38.2.1)] underlying37 fN kf (fun _ V w o a hv hes=>by have e0:=cX hv hes (x := .tmp 43) rfl; simp only [List.map_toArray,List.map_cons,List.map_nil,e0]; try rfl) (bC (by simp [Instr.fill,Value.cells]; rfl) (by simp [List.range,List.range.loop] <;> rfl)) (by simp [Value.oneCell']) rfl (by decide) (by decide) (by decide)⟩ ?_
 refine yp fg hv40 0 ?_
 refine ya 0 ?_
 refine bi [0,7,10,2,3] ?_
 obtain ⟨v41,hv41,h⟩:=zn h
 refine yx hn 2 ?_
 refine ys 0 ⟨lb hv41⟩ ?_
 refine yw [7] 1 ?_
 refine ye [0,2,3,7] ?_
 refine aM ?_
 exact aS _ (zi h).symm rfl
 refine aO (ag (ag (aP ?_)))
 refine ar [1,2] (by kernel_rfl) (es':=[(_,_),(_,_)]) rfl ?_
 exact hl53 _ (ho55 _ (zi h).symm).symm
 rintro u25 hl26 hr27 s18 rr30 h ho28
 refine aX hn 1 [0,2,3,14,15,16,17] ?_
 refine aa ?_
 refine zc h rfl (fun h => ?_) (fun h => ?_)
 refine ak ?_
 refine ae (aa ?_)
 refine aC (aa ?_)
 obtain ⟨v3,hv3,v4,hv4,h⟩:=eY h
 refine yx hn 0 ?_
 refine ys 0 ⟨li hv3⟩ ?_
 refine ys 1 ⟨ll hv4⟩ ?_
 refine bi [0,2,3,14,15,16,6] ?_
 refine aa ?_
 refine aL h (fun (s32:Bool)=>[(0,fi lengths),(2,vz),(3,vz),(14,fi lengths),(15,vi (lengths.length:Int)),(16,vi s18),(25,vb s32)]) ?_ ?_
 rintro s32 h
 refine ae ?_
 refine zc h rfl (fun h => ?_) (fun h => ?_)
 refine gG hn 0 ?_
 refine yw [2] 1 ?_
 refine yw [3] 2 ?_
 refine bi [2,3,4] ?_
 refine au ?_
 refine fM (fs:=[(2,.fl (.own 3) 1 (map (int .i64) [])),(3,.fl (.own 3) 1 (map (int .i64) [])),(4,vi 1)]) (.sub _ (bV 3 1) rfl (.sub _ (bV 3 1) rfl (.same _ .nil))) ?_
 refine bI (ap (ap (bI (ap ?_))))
 have h:=hr27 _ (ho28 _ (zi h).symm).symm
 obtain rfl:=zi h
 exact ay hio rfl (.tmp _ _ (.tmp _ _ (.tmp _ _ .nil))) rfl rfl
 refine ak (aM (ae ?_))
 obtain ⟨v10,hv10,h⟩:=zn h
 refine yx hn 0 ?_
 refine ys 0 ⟨lb hv10⟩ ?_
 refine yw [16] 1 ?_
 refine ye [0,2,3,14,15,16] ?_
 exact aS _ (zi h).symm rfl
 intro u33 h hl34 hr35
 refine aE h (fun hg6_2 h => ?_) (fun hg6_2 h => ?_)
 refine yx hn 3 ?_
 refine yd hg6_2 3 ?_
 refine ye [0,2,3,14,15,16,25] ?_
 exact hl34 _ (zi h).symm
 refine yx hn 3 ?_
 refine yd hg6_2 3 ?_
 refine ye [0,2,3,14,15,16,25] ?_
 exact hl34 _ (zi h).symm
 refine aO (ag (ag (aP ?_)))
 refine ar [0,1,2] (by kernel_rfl) (es':=[(_,_),(_,_),(_,_)]) rfl ?_
 exact hl26 _ (ho28 _ (zi h).symm).symm
theorem nZ (s:Int) (r:Int) (h:Sh.eL s=some r):bZ Tryd.prog 92 [.v (.int .i64 s)] (.v (.int .i64 r)):=by
 unfold Sh.eL at h
 refine yO 10 func92 fun g0 hn hio => ?_
 refine aX hn 1 [0] ?_
 refine aa ?_
 refine aX hn 1 [3] ?_
 refine aC ?_
 refine aX hn 2 [3,4] ?_
 refine zc h rfl (fun h => ?_) (fun h => ?_)
 refine aX hn 1 [2] ?_
 refine au (bI (ap ?_))
 obtain rfl:=zi h
 exact ay hio rfl (.tmp _ _ .nil) rfl rfl
 refine aX hn 2 [3,6] ?_
 refine zc h rfl (fun h => ?_) (fun h => ?_)
 refine aX hn 1 [2] ?_
 refine au (bI (ap ?_))
 obtain rfl:=zi h
 exact ay hio rfl (.tmp _ _ .nil) rfl rfl
 refine aX hn 2 [8] ?_
 refine zc h rfl (fun h => ?_) (fun h => ?_)
 refine aX hn 1 [2] ?_
 refine au (bI (ap ?_))
 obtain rfl:=zi h
 exact ay hio rfl (.tmp _ _ .nil) rfl rfl
 refine ak (aM (ae ?_))
 refine aX hn 1 [2] ?_
 refine au ?_
 obtain rfl:=zi h
 exact ay hio rfl (.tmp _ _ .nil) rfl rfl
end Go.Proofs.YtkgfjkfccpjcgaaDoor
