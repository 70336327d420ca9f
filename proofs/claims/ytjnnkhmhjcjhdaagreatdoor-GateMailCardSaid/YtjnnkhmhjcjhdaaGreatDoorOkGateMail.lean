import Derived.Test.YtjnnkhmhjcjhdaaGreatDoorOkc9
set_option linter.unusedVariables false
set_option linter.unusedSimpArgs false
set_option maxHeartbeats 1000000
namespace Go.Proofs.YtjnnkhmhjcjhdaaGreatDoor
open Go.Abs Go.Abs.Sh Tryz
open List (map flatten)
open Value (int)

theorem mm (mx:Int×Nat×Value) (from_:T_Path) (to_:(List T_Path)) (body:(List Int)) (i:Int) (at_:Int) (quiet:Bool) (r:Bool) (h:Sh.dx from_ to_ body i at_ quiet=some r):iq Tryz.prog (GL mx) 4 [.agg [.v (.bool from_.LQ),.v (.string from_.LM),.v (.string from_.LA)],.fl .shr 3 (flatten (map T_Path.enc to_)),.fl .shr 1 (map (int .u8) body),.v (.int .i64 i),.v (.int .i64 at_),.v (.bool quiet)] (.v (.bool r)):=by
 unfold Sh.dx at h
 refine yG 246 func4 fun g0 hn hio => ?_
 refine aG hn 2 [1,2,3,4,5,246,6] ?_
 refine ab (ab ?_)
 refine aq h (fun (s272:Bool)=>[(1,.fl .shr 3 (flatten (map T_Path.enc to_))),(2,fb body),(3,vi i),(4,vi at_),(5,vb quiet),(246,.glob (GL mx)),(6,.box 26 [vb from_.LQ,vs from_.LM,vs from_.LA]),(56,vb s272)]) ?_ ?_
 rintro s272 h
 refine ae ?_
 refine zc h rfl (fun h => ?_) (fun h => ?_)
 refine aG hn 1 [246,12] ?_
 refine ak ?_
 refine ah [1] (by kernel_rfl) (es':=[(_,_)]) rfl ?_
 refine ag ?_
 obtain rfl:=zi h
 exact al hio rfl (.tmp _ _ .nil) rfl rfl
 refine am ?_
 refine ae (ab ?_)
 obtain ⟨v9,hv9,v10,hv10,v11,hv11,v12,hv12,h⟩:=jX h
 obtain ⟨v13,hv13,v14,hv14,h⟩:=dM h
 refine yx hn 1 ?_
 refine ys 0 ⟨lv hv9⟩ ?_
 refine ys 0 ⟨lB (jx hv10)⟩ ?_
 refine ys 1 ⟨lv hv11⟩ ?_
 refine ys 0 ⟨lv hv12⟩ ?_
 refine ys 0 ⟨lB (jx hv13)⟩ ?_
 refine ys 0 ⟨lv hv14⟩ ?_
 refine yw [3] 1 ?_
 refine yw [4] 1 ?_
 refine aV [1,2,5,246,6,3,4] ?_
 refine aG hn 1 [1,2,5,246,6,3,4,13] ?_
 refine ab ?_
 obtain ⟨v15,hv15,v16,hv16,v17,hv17,h⟩:=ng h
 refine yx hn 1 ?_
 refine ys 0 ⟨lk call19 (eY _ _ hv15)⟩ ?_
 refine ys 0 ⟨lB (bu hv16)⟩ ?_
 refine ys 1 ⟨lB (bu hv17)⟩ ?_
 refine aV [1,2,5,246,6,3,4,13,14] ?_
 refine ab ?_
 refine aG hn 1 [1,2,5,246,6,3,4,13,14,15] ?_
 refine mK (fs:=[(1,.fl .shr 3 (flatten (map T_Path.enc to_))),(2,fb body),(5,vb quiet),(246,.glob (GL mx)),(6,.box 26 [vb from_.LQ,vs from_.LM,vs from_.LA]),(3,vi v11),(4,vi v14),(13,.fl (.own 26) 3 (flatten (map T_Path.enc []))),(14,vs v17),(15,vi 0)]) (.same _ (.same _ (.same _ (.same _ (.same _ (.same _ (.same _ (.sub _ (bL 26 3) rfl (.same _ (.same _ .nil)))))))))) ?_
 refine aS h (fun ((s320,s321,s322):(List T_Path)×Mf×Int)=>[(1,.fl .shr 3 (flatten (map T_Path.enc to_))),(2,fb body),(5,vb quiet),(246,.glob (GL mx)),(6,.box 26 [vb from_.LQ,vs from_.LM,vs from_.LA]),(3,vi v11),(4,vi v14),(13,.fl (.own 26) 3 (flatten (map T_Path.enc s320))),(14,vs s321),(15,vi s322)]) (fun ((s343,s344):(List T_Path)×Mf)=>[(2,fb body),(5,vb quiet),(246,.glob (GL mx)),(6,.box 26 [vb from_.LQ,vs from_.LM,vs from_.LA]),(3,vi v11),(4,vi v14),(13,.fl (.own 26) 3 (flatten (map T_Path.enc s343))),(14,vs s344)]) ?_ ?_
 rintro ⟨s343,s344⟩ h
 refine ae (ab ?_)
 obtain ⟨v128,hv128,v129,hv129,v130,hv130,v131,hv131,h⟩:=jX h
 obtain ⟨v132,hv132,h⟩:=zn h
 refine yx hn 1 ?_
 refine ys 1 ⟨lB (bu hv128)⟩ ?_
 refine ys 0 ⟨lk call21 (jU _ _ hv129)⟩ ?_
 refine ys 0 ⟨lS hv130⟩ ?_
 refine ys 0 ⟨lB (bu hv131)⟩ ?_
 refine ys 0 ⟨lB (bu hv132)⟩ ?_
 refine yw [14] 1 ?_
 refine aV [2,5,246,6,3,4,13,14] ?_
 refine ab ?_
 obtain ⟨v133,hv133,v134,hv134,v135,hv135,v136,hv136,h⟩:=jX h
 refine yx hn 0 ?_
 refine ys 2 ⟨lk call20 (dO _ hv133)⟩ ?_
 refine ys 1 ⟨lk call22 (ry _ _ hv134)⟩ ?_
 refine ys 0 ⟨lT hv135⟩ ?_
 refine ys 0 ⟨lg call13 (qd _ _ _ _ _ _ _ hv136) 246⟩ ?_
 refine ym 0 ?_
 refine yS (.agg [vi v136.1.LW,vs v136.1.LI,vb v136.1.LD.LQ,vs v136.1.LD.LM,vs v136.1.LD.LA,.fl .ro 3 (flatten (map T_Path.enc v136.1.To)),vb v136.1.LY,.fl .ro 1 (map (int .u8) v136.1.Lx),vs v136.1.Ly,vb v136.1.LX]) 2 ⟨fN _ _ _ _ _ _ rfl rfl (zl rfl) rfl rfl⟩ ?_
 refine yS (.box 30 [vi 0,vs z0,vb false,vs z0,vs z0,vz,vb false,vz,vs z0,vb false]) 3 ⟨oA (aT _ _ xf)⟩ ?_
 refine aV [2,5,246,6,3,4,13,17,18,19] ?_
 refine ab (ab ?_)
 refine aq h (fun (s371:Bool)=>[(2,fb body),(5,vb quiet),(246,.glob (GL mx)),(6,.box 26 [vb from_.LQ,vs from_.LM,vs from_.LA]),(3,vi v11),(4,vi v14),(13,.fl (.own 26) 3 (flatten (map T_Path.enc s343))),(18,.fr .ro false 12 (flatten (map ay.ienc v136.2.1))),(172,vb s371)]) ?_ ?_
 rintro s371 h
 refine ae ?_
 refine zc h rfl (fun h => ?_) (fun h => ?_)
 refine aG hn 1 [246,12] ?_
 refine ak ?_
 refine ah [1] (by kernel_rfl) (es':=[(_,_)]) rfl ?_
 refine ag ?_
 obtain rfl:=zi h
 exact al hio rfl (.tmp _ _ .nil) rfl rfl
 refine am ?_
 refine ae (ab ?_)
 obtain ⟨v149,hv149,v150,hv150,v151,hv151,h⟩:=ng h
 refine yx hn 3 ?_
 refine ys 0 ⟨lb hv149⟩ ?_
 refine ys 0 ⟨lI hv150⟩ ?_
 refine yS (.agg [vi v151.LZ.Lz,.fl .ro 1 (map Value.string v151.LZ.LL),vb v151.LG,vb v151.LO.LD.LQ,vs v151.LO.LD.LM,vs v151.LO.LD.LA,.fl .ro 3 (flatten (map T_Path.enc v151.LO.To)),.fl .ro 1 (map (int .u8) v151.LO.Lw),vb v151.LO.LY,vs v151.LO.LI,vi v151.LO.At,vb v151.Lv]) 0 ⟨jF _ _ _ _ _ _ _ _ underlying55 rfl vZ rfl rfl (kt ay.ilen hv151) (.cons (.v _) (.cons (.fl _ _ rfl) (.cons (.v _) (.cons (.v _) (.cons (.v _) (.cons (.v _) (.cons (.fl _ _ rfl) (.cons (.fl _ _ rfl) (.cons (.v _) (.cons (.v _) (.cons (.v _) (.cons (.v _) (.nil))))))))))))) rfl (by decide)⟩ ?_
 refine yS (.box 55 [vi 0,vz,vb false,vb false,vs z0,vs z0,vz,vz,vb false,vs z0,vi 0,vb false]) 1 ⟨oA (aT _ _ tY)⟩ ?_
 refine aV [2,5,246,6,3,4,13,20] ?_
 refine ab ?_
 refine aG hn 3 [2,5,246,6,3,4,13,20,181] ?_
 refine zc h rfl (fun h => ?_) (fun h => ?_)
 refine ab ?_
 refine aq h (fun (s377:Bool)=>[(246,.glob (GL mx)),(12,vb s377)]) ?_ ?_
 rintro s377 h
 refine ae (ak ?_)
 refine ah [1] (by kernel_rfl) (es':=[(_,_)]) rfl ?_
 refine ag ?_
 obtain rfl:=zi h
 exact al hio rfl (.tmp _ _ .nil) rfl rfl
 intro u378 h hl379 hr380
 refine ai h (fun hg23_4 h => ?_) (fun hg23_4 h => ?_)
 refine ai h (fun hg23_9 h => ?_) (fun hg23_9 h => ?_)
 obtain ⟨v153,hv153,h⟩:=zn h
 refine yx hn 5 ?_
 refine yd hg23_4 5 ?_
 refine yd hg23_9 0 ?_
 refine ys 2 ⟨lg call14 (fY _ _ hv153) 246⟩ ?_
 refine ye [246,12] ?_
 exact hl379 _ (zi h).symm
 refine yx hn 5 ?_
 refine yd hg23_4 5 ?_
 refine yd hg23_9 3 ?_
 refine ye [246,12] ?_
 exact hl379 _ (zi h).symm
 refine yx hn 5 ?_
 refine yd hg23_4 8 ?_
 refine ye [246,12] ?_
 exact hl379 _ (zi h).symm
 refine am ?_
 refine ae (ab ?_)
 obtain ⟨v158,hv158,v159,hv159,v160,hv160,v161,hv161,h⟩:=jX h
 obtain ⟨v162,hv162,h⟩:=zn h
 refine wb [[6]] ?_
 refine wK [13] [] ?_
 refine wt [(195,.fl (.own 26) 3 (flatten (map T_Path.enc s343)))] [] ⟨jd _ _ _ _ rfl⟩ ?_
 refine wN [] ?_
 refine wo [] ⟨lk call20 (dO _ hv158)⟩ ?_
 refine wN [196] ?_
 refine wS (.v (.agg (map Value.string (([(v158.LB.getD 0 z0),(v158.LB.getD 1 z0)]:List Mf))).toArray)) [[3]] ⟨uS _ 197 196 0 (map Value.string ([(v158.LB.getD 0 z0),(v158.LB.getD 1 z0)]:List Mf)) underlying24 rfl underlying22 rfl Hv rfl rfl⟩ ?_
 refine wN [197,198] ?_
 refine wS (vs v160) [[4]] ⟨kj _ _ _ _ 2 v159 underlying22 sP rfl (congrArg (fun j=>AV.v (int .i64 j)) (bA hv159).1) (bA hv159).2 (cY hv160) ⟨_,underlying9,rfl⟩⟩ ?_
 refine wN [199,200] ?_
 refine wo [[2]] ⟨lk call23 (nr _ _ _ _ hv161)⟩ ?_
 refine wK [201] [202] ?_
 refine wt [(201,.any),(203,.fl .ro 1 (map (int .u8) v162))] [[5],[4]] ⟨aN.frzG 1 (oZ _ _ _ _ _ fZ rfl rfl rfl rfl hv162 rfl) (zl rfl) rfl⟩ ?_
 refine wK [195] [194,203,204,205] ?_
 refine wt [(206,.agg [vb from_.LQ,vs from_.LM,vs from_.LA,.fl (.own 26) 3 (flatten (map T_Path.enc s343)),.fl .ro 1 (map (int .u8) v162),vb quiet,vs (⟨#[104,46,120]⟩:Mf),vi v14])] [] ⟨bw _ _ _ _ [3,1,1,1,1,1] _ _ underlying53 rU (Hl _ underlying53) (.copy _ (.take _ _ (.copy _ (.copy _ (.copy _ (.copy _ mb.nil)))))) rfl rfl rfl⟩ ?_
 refine wN [] ?_
 refine wS (.box 53 [vb false,vs z0,vs z0,vz,vz,vb false,vs z0,vi 0]) [] ⟨oA (aT _ _ rU)⟩ ?_
 refine wK [206,21] [] ?_
 refine wt [(21,.box 53 [vb from_.LQ,vs from_.LM,vs from_.LA,.fl (.own 26) 3 (flatten (map T_Path.enc s343)),.fl .ro 1 (map (int .u8) v162),vb quiet,vs (⟨#[104,46,120]⟩:Mf),vi v14])] [] ⟨aM _ _ _ _ _ _ _ _ qW rfl rfl rfl (zl rfl) rfl rfl⟩ ?_
 refine sf hn [246,20,21] ?_
 refine ab (ab ?_)
 obtain ⟨v381,hv381,v382,hv382,h⟩:=dM h
 refine yx hn 1 ?_
 refine ys 0 ⟨lk call25 (nV _ _ hv381)⟩ ?_
 refine yk [209] [] ?_
 refine yt (210,.fr (.own 53) false 8 (flatten (map az.ienc [(az.mk (T_Path.mk v381.LD.LQ v381.LD.LM v381.LD.LA) v381.To v381.Lw v381.LY v381.LI v381.At)]))) 0 ⟨iU _ _ _ 8 (.agg #[.bool false,.string ByteArray.empty,.string ByteArray.empty,.slice none 0 0,.slice none 0 0,.bool false,.string ByteArray.empty,.int .i64 0]) false _ _ underlying60 qW rU rfl (.cons (.v _) (.cons (.v _) (.cons (.v _) (.cons (.ro _ _ rfl) (.cons (.ro _ _ rfl) (.cons (.v _) (.cons (.v _) (.cons (.v _) (.nil))))))))) rfl (by decide) (by decide)⟩ ?_
 refine yk [210] [] ?_
 refine yt (211,.agg [vi 0,vi 65535,.fr (.own 53) false 8 (flatten (map az.ienc [(az.mk (T_Path.mk v381.LD.LQ v381.LD.LM v381.LD.LA) v381.To v381.Lw v381.LY v381.LI v381.At)]))]) 0 ⟨bw _ _ _ _ [1,1,1] _ _ underlying62 Jo (Jr _ underlying62) (.copy _ (.take _ _ mb.nil)) rfl rfl rfl⟩ ?_
 refine ys 0 ⟨lk call24 (kR _ _ hv382)⟩ ?_
 refine ym 0 ?_
 refine Jt 1 ?_
 refine ya 1 ?_
 refine aV [246,20,21,23] ?_
 refine aG hn 2 [246,20,21,216] ?_
 refine zc h rfl (fun h => ?_) (fun h => ?_)
 refine ab ?_
 refine aq h (fun (s385:Bool)=>[(246,.glob (GL mx)),(12,vb s385)]) ?_ ?_
 rintro s385 h
 refine ae (ak ?_)
 refine ah [1] (by kernel_rfl) (es':=[(_,_)]) rfl ?_
 refine ag ?_
 obtain rfl:=zi h
 exact al hio rfl (.tmp _ _ .nil) rfl rfl
 intro u386 h hl387 hr388
 refine ai h (fun hg27_4 h => ?_) (fun hg27_4 h => ?_)
 refine ai h (fun hg27_9 h => ?_) (fun hg27_9 h => ?_)
 obtain ⟨v384,hv384,h⟩:=zn h
 refine yx hn 5 ?_
 refine yd hg27_4 5 ?_
 refine yd hg27_9 0 ?_
 refine ys 2 ⟨lg call14 (fY _ _ hv384) 246⟩ ?_
 refine ye [246,12] ?_
 exact hl387 _ (zi h).symm
 refine yx hn 5 ?_
 refine yd hg27_4 5 ?_
 refine yd hg27_9 3 ?_
 refine ye [246,12] ?_
 exact hl387 _ (zi h).symm
 refine yx hn 5 ?_
 refine yd hg27_4 8 ?_
 refine ye [246,12] ?_
 exact hl387 _ (zi h).symm
 refine am ?_
 refine ae (ab ?_)
 refine aq h (fun (s391:Bool)=>[(246,.glob (GL mx)),(12,vb s391)]) ?_ ?_
 rintro s391 h
 refine ae (ak ?_)
 refine ah [1] (by kernel_rfl) (es':=[(_,_)]) rfl ?_
 obtain rfl:=zi h
 exact al hio rfl (.tmp _ _ .nil) rfl rfl
 intro u392 h hl393 hr394
 refine ai h (fun hg28_4 h => ?_) (fun hg28_4 h => ?_)
 refine ai h (fun hg28_8 h => ?_) (fun hg28_8 h => ?_)
 obtain ⟨v389,hv389,h⟩:=zn h
 refine ai h (fun hg28_14 h => ?_) (fun hg28_14 h => ?_)
 obtain ⟨v390,hv390,h⟩:=zn h
 refine yx hn 5 ?_
 refine yd hg28_4 4 ?_
 refine yd hg28_8 2 ?_
 refine yk [21] [] ?_
 refine yt (240,.agg [vb from_.LQ,vs from_.LM,vs from_.LA,.fl (.own 26) 3 (flatten (map T_Path.enc s343)),.fl .ro 1 (map (int .u8) v162),vb quiet,vs (⟨#[104,46,120]⟩:Mf),vi v14]) 0 ⟨jA _ _ _ _ underlying53 rfl qW rfl rfl⟩ ?_
 refine ys 2 ⟨lk call26 (kA _ _ _ hv389)⟩ ?_
 refine yd hg28_14 0 ?_
 refine ys 2 ⟨lg call14 (fY _ _ hv390) 246⟩ ?_
 refine ye [246,12] ?_
 exact hl393 _ (zi h).symm
 refine yx hn 5 ?_
 refine yd hg28_4 4 ?_
 refine yd hg28_8 2 ?_
 refine yk [21] [] ?_
 refine yt (240,.agg [vb from_.LQ,vs from_.LM,vs from_.LA,.fl (.own 26) 3 (flatten (map T_Path.enc s343)),.fl .ro 1 (map (int .u8) v162),vb quiet,vs (⟨#[104,46,120]⟩:Mf),vi v14]) 0 ⟨jA _ _ _ _ underlying53 rfl qW rfl rfl⟩ ?_
 refine ys 2 ⟨lk call26 (kA _ _ _ hv389)⟩ ?_
 refine yd hg28_14 3 ?_
 refine ye [246,12] ?_
 exact hl393 _ (zi h).symm
 refine yx hn 5 ?_
 refine yd hg28_4 4 ?_
 refine yd hg28_8 9 ?_
 refine ye [246,12] ?_
 exact hl393 _ (zi h).symm
 refine yx hn 5 ?_
 refine yd hg28_4 13 ?_
 refine ye [246,12] ?_
 exact hl393 _ (zi h).symm
 intro u372 h hl373 hr374
 refine ai h (fun hg19_2 h => ?_) (fun hg19_2 h => ?_)
 refine yx hn 3 ?_
 refine yd hg19_2 34 ?_
 refine ye [2,5,246,6,3,4,13,18,172] ?_
 exact hl373 _ (zi h).symm
 obtain ⟨v137,hv137,h⟩:=zn h
 refine ai h (fun hg19_10 h => ?_) (fun hg19_10 h => ?_)
 refine yx hn 3 ?_
 refine yd hg19_2 4 ?_
 refine ys 3 ⟨lb hv137⟩ ?_
 refine yd hg19_10 26 ?_
 refine ye [2,5,246,6,3,4,13,18,172] ?_
 exact hl373 _ (zi h).symm
 refine ai h (fun hg19_15 h => ?_) (fun hg19_15 h => ?_)
 refine yx hn 3 ?_
 refine yd hg19_2 4 ?_
 refine ys 3 ⟨lb hv137⟩ ?_
 refine yd hg19_10 5 ?_
 refine yd hg19_15 21 ?_
 refine ye [2,5,246,6,3,4,13,18,172] ?_
 exact hl373 _ (zi h).symm
 obtain ⟨v138,hv138,v139,hv139,v140,hv140,h⟩:=ng h
 refine ai h (fun hg19_26 h => ?_) (fun hg19_26 h => ?_)
 refine yx hn 3 ?_
 refine yd hg19_2 4 ?_
 refine ys 3 ⟨lb hv137⟩ ?_
 refine yd hg19_10 5 ?_
 refine yd hg19_15 3 ?_
 refine ys 0 ⟨lb hv138⟩ ?_
 refine ys 2 ⟨lI hv139⟩ ?_
 refine yS (vi v140.LZ.Lz) 3 ⟨dq _ _ _ _ _ _ _ underlying3 rfl rfl rfl (dn (j:=0) ay.ilen hv140 rfl) (.v _)⟩ ?_
 refine yd hg19_26 10 ?_
 refine ye [2,5,246,6,3,4,13,18,172] ?_
 exact hl373 _ (zi h).symm
 obtain ⟨v141,hv141,v142,hv142,v143,hv143,h⟩:=ng h
 refine yx hn 3 ?_
 refine yd hg19_2 4 ?_
 refine ys 3 ⟨lb hv137⟩ ?_
 refine yd hg19_10 5 ?_
 refine yd hg19_15 3 ?_
 refine ys 0 ⟨lb hv138⟩ ?_
 refine ys 2 ⟨lI hv139⟩ ?_
 refine yS (vi v140.LZ.Lz) 3 ⟨dq _ _ _ _ _ _ _ underlying3 rfl rfl rfl (dn (j:=0) ay.ilen hv140 rfl) (.v _)⟩ ?_
 refine yd hg19_26 3 ?_
 refine ys 0 ⟨lb hv141⟩ ?_
 refine ys 2 ⟨lI hv142⟩ ?_
 refine yS (vi v143.LZ.Lz) 2 ⟨dq _ _ _ _ _ _ _ underlying3 rfl rfl rfl (dn (j:=0) ay.ilen hv143 rfl) (.v _)⟩ ?_
 refine ye [2,5,246,6,3,4,13,18,172] ?_
 exact hl373 _ (zi h).symm
 rintro u345 hl346 hr347 ⟨s320,s321,s322⟩ rr350 h ho348
 refine ab ?_
 refine aG hn 4 [1,2,5,246,6,3,4,13,14,15,72] ?_
 refine zc h rfl (fun h => ?_) (fun h => ?_)
 refine am ?_
 refine ae (ab ?_)
 refine aC (ab ?_)
 obtain ⟨v19,hv19,v20,hv20,v21,hv21,v22,hv22,h⟩:=jX h
 obtain ⟨v23,hv23,v24,hv24,v25,hv25,v26,hv26,h⟩:=jX h
 refine wb [[1],[15]] ?_
 refine wN [75,76] ?_
 refine wo [[77,75]] ⟨lj hv19⟩ ?_
 refine wN [78,75] ?_
 refine wo [] ⟨lL hv20⟩ ?_
 refine wN [] ?_
 refine wo [] ⟨lk call20 (dO _ hv21)⟩ ?_
 refine wN [80] ?_
 refine wS (.v (.agg (map Value.string (([(v21.LB.getD 0 z0),(v21.LB.getD 1 z0)]:List Mf))).toArray)) [[1],[15]] ⟨uS _ 81 80 0 (map Value.string ([(v21.LB.getD 0 z0),(v21.LB.getD 1 z0)]:List Mf)) underlying24 rfl underlying22 rfl Hv rfl rfl⟩ ?_
 refine wN [82,83] ?_
 refine wo [[84,82]] ⟨lj hv22⟩ ?_
 refine wN [85,82] ?_
 refine wo [[86]] ⟨lL hv23⟩ ?_
 refine wN [87] ?_
 refine wo [] ⟨lB (jx hv24)⟩ ?_
 refine wN [81,88] ?_
 refine wS (vs v26) [] ⟨kj _ _ _ _ 2 v25 underlying22 sP rfl (congrArg (fun j=>AV.v (int .i64 j)) (bA hv25).1) (bA hv25).2 (cY hv26) ⟨_,underlying9,rfl⟩⟩ ?_
 refine wN [79,89] ?_
 refine wS (.agg [vb false,vs v20.LM,vs v26]) [] ⟨bw _ _ _ _ [1,1,1] _ _ underlying26 qk (BY _ underlying26) (.copy _ (.copy _ mb.nil)) rfl rfl rfl⟩ ?_
 refine wN [] ?_
 refine wS (.box 26 [vb false,vs z0,vs z0]) [] ⟨oA (aT _ _ qk)⟩ ?_
 refine wK [16] [90] ?_
 refine wt [(16,.box 26 [vb false,vs v20.LM,vs v26])] [] ⟨dZ _ _ _ _ _ _ _ _ pD rfl rfl rfl rfl (zl rfl) rfl rfl⟩ ?_
 refine sf hn [1,2,5,246,6,3,4,13,14,15,16] ?_
 refine ab (ab ?_)
 refine aq h (fun (s352:Bool)=>[(1,.fl .shr 3 (flatten (map T_Path.enc to_))),(2,fb body),(5,vb quiet),(246,.glob (GL mx)),(6,.box 26 [vb from_.LQ,vs from_.LM,vs from_.LA]),(3,vi v11),(4,vi v14),(13,.fl (.own 26) 3 (flatten (map T_Path.enc s320))),(14,vs s321),(15,vi s322),(16,.box 26 [vb false,vs v20.LM,vs v26]),(99,vb s352)]) ?_ ?_
 rintro s352 h
 refine ae ?_
 refine zc h rfl (fun h => ?_) (fun h => ?_)
 refine aG hn 1 [246,12] ?_
 refine ak ?_
 refine ah [1] (by kernel_rfl) (es':=[(_,_)]) rfl ?_
 refine ag (aF (ag (ag (aF (ag ?_)))))
 have h:=hr347 _ (ho348 _ (zi h).symm).symm
 obtain rfl:=zi h
 exact al hio rfl (.tmp _ _ .nil) rfl rfl
 refine am ?_
 refine ae (ab ?_)
 obtain ⟨v33,hv33,h⟩:=zn h
 refine yx hn 0 ?_
 refine ym 1 ?_
 refine yS (.fl (.own 26) 3 (flatten (map T_Path.enc [(T_Path.mk false v20.LM v26)]))) 0 ⟨bf _ _ 3 (.agg #[.bool false,.string ByteArray.empty,.string ByteArray.empty]) (flatten (map T_Path.enc [(T_Path.mk false v20.LM v26)])) [(0,.agg #[.bool false,.string v20.LM,.string v26])] underlying27 pD qk (fun _ V w o a hv hes=>by have e0:=Cp (ys:=[.bool false,.string v20.LM,.string v26]) hv hes (x := .tmp 101) rfl; simp only [List.map_toArray,List.map_cons,List.map_nil,e0]; try rfl) (cN (by simp [Instr.fill,Value.cells]; rfl) (by simp [List.range,List.range.loop,T_Path.enc] <;> rfl)) (by simp [Value.oneCell',T_Path.enc]) rfl (by decide) (by decide) (by decide)⟩ ?_
 refine Lq EH hv33 0 ?_
 refine ya 0 ?_
 refine aV [1,2,5,246,6,3,4,14,15,16,13] ?_
 refine ab ?_
 obtain ⟨v34,hv34,v35,hv35,v36,hv36,h⟩:=ng h
 refine yx hn 1 ?_
 refine ys 1 ⟨lB (bu hv34)⟩ ?_
 refine ys 0 ⟨lk call19 (eY _ _ hv35)⟩ ?_
 refine ys 0 ⟨lB (bu hv36)⟩ ?_
 refine yw [14] 1 ?_
 refine aV [1,2,5,246,6,3,4,15,13,14] ?_
 refine ab ?_
 refine aq h (fun (s362:Mf)=>[(1,.fl .shr 3 (flatten (map T_Path.enc to_))),(2,fb body),(5,vb quiet),(246,.glob (GL mx)),(6,.box 26 [vb from_.LQ,vs from_.LM,vs from_.LA]),(3,vi v11),(4,vi v14),(15,vi s322),(13,.fl (.own 26) 3 (flatten (map T_Path.enc v33))),(14,vs s362)]) ?_ ?_
 rintro s362 h
 refine ae ?_
 obtain ⟨v52,hv52,h⟩:=zn h
 refine yx hn 1 ?_
 refine ys 0 ⟨lB (bu hv52)⟩ ?_
 refine yw [14] 1 ?_
 refine ye [1,2,5,246,6,3,4,15,13,14] ?_
 refine aI (ae ?_)
 obtain ⟨v53,hv53,h⟩:=zn h
 refine yx hn 1 ?_
 refine ys 0 ⟨lb hv53⟩ ?_
 refine yw [15] 1 ?_
 refine ye [1,2,5,246,6,3,4,13,14,15] ?_
 exact bb _ (zi h).symm rfl
 intro u363 h hl364 hr365
 refine ab ?_
 refine aq h (fun (s366:Bool)=>[(1,.fl .shr 3 (flatten (map T_Path.enc to_))),(2,fb body),(5,vb quiet),(246,.glob (GL mx)),(6,.box 26 [vb from_.LQ,vs from_.LM,vs from_.LA]),(3,vi v11),(4,vi v14),(15,vi s322),(13,.fl (.own 26) 3 (flatten (map T_Path.enc v33))),(14,vs v36),(113,vb s366)]) ?_ ?_
 rintro s366 h
 refine ae ?_
 refine zc h rfl (fun h => ?_) (fun h => ?_)
 obtain ⟨v42,hv42,h⟩:=zn h
 refine yx hn 1 ?_
 refine ys 0 ⟨lB (bu hv42)⟩ ?_
 refine yw [14] 1 ?_
 refine ye [1,2,5,246,6,3,4,15,13,14] ?_
 exact hl364 _ (zi h).symm
 refine am ?_
 refine ah [0,1,2,3,4,5,6,7,8,9] (by kernel_rfl) (es':=[(_,_),(_,_),(_,_),(_,_),(_,_),(_,_),(_,_),(_,_),(_,_),(_,_)]) rfl ?_
 exact hl364 _ (zi h).symm
 intro u367 h hl368 hr369
 refine ai h (fun hg14_1 h => ?_) (fun hg14_1 h => ?_)
 refine yx hn 2 ?_
 refine yd hg14_1 3 ?_
 refine ye [1,2,5,246,6,3,4,15,13,14,113] ?_
 exact hl368 _ (zi h).symm
 refine yx hn 2 ?_
 refine yd hg14_1 3 ?_
 refine ye [1,2,5,246,6,3,4,15,13,14,113] ?_
 exact hl368 _ (zi h).symm
 intro u353 h hl354 hr355
 obtain ⟨v27,hv27,h⟩:=zn h
 refine ai h (fun hg10_3 h => ?_) (fun hg10_3 h => ?_)
 refine yx hn 1 ?_
 refine ys 2 ⟨lk call17 (bz _ _ hv27)⟩ ?_
 refine yd hg10_3 5 ?_
 refine ye [1,2,5,246,6,3,4,13,14,15,16,99] ?_
 exact hl354 _ (zi h).symm
 refine yx hn 1 ?_
 refine ys 2 ⟨lk call17 (bz _ _ hv27)⟩ ?_
 refine yd hg10_3 5 ?_
 refine ye [1,2,5,246,6,3,4,13,14,15,16,99] ?_
 exact hl354 _ (zi h).symm
 refine ba (ap (ap (aZ ?_)))
 refine ah [1,2,3,4,5,6,7,8] (by kernel_rfl) (es':=[(_,_),(_,_),(_,_),(_,_),(_,_),(_,_),(_,_),(_,_)]) rfl ?_
 exact hl346 _ (ho348 _ (zi h).symm).symm
 intro u273 h hl274 hr275
 refine ai h (fun hg1_3 h => ?_) (fun hg1_3 h => ?_)
 refine yx hn 4 ?_
 refine yd hg1_3 29 ?_
 refine ye [1,2,3,4,5,246,6,56] ?_
 exact hl274 _ (zi h).symm
 refine ai h (fun hg1_8 h => ?_) (fun hg1_8 h => ?_)
 refine yx hn 4 ?_
 refine yd hg1_3 5 ?_
 refine yd hg1_8 24 ?_
 refine ye [1,2,3,4,5,246,6,56] ?_
 exact hl274 _ (zi h).symm
 refine ai h (fun hg1_13 h => ?_) (fun hg1_13 h => ?_)
 refine yx hn 4 ?_
 refine yd hg1_3 5 ?_
 refine yd hg1_8 5 ?_
 refine yd hg1_13 19 ?_
 refine ye [1,2,3,4,5,246,6,56] ?_
 exact hl274 _ (zi h).symm
 obtain ⟨v1,hv1,h⟩:=zn h
 refine ai h (fun hg1_18 h => ?_) (fun hg1_18 h => ?_)
 refine yx hn 4 ?_
 refine yd hg1_3 5 ?_
 refine yd hg1_8 5 ?_
 refine yd hg1_13 1 ?_
 refine ys 3 ⟨lk call17 (bz _ _ hv1)⟩ ?_
 refine yd hg1_18 14 ?_
 refine ye [1,2,3,4,5,246,6,56] ?_
 exact hl274 _ (zi h).symm
 obtain ⟨v2,hv2,h⟩:=zn h
 refine ai h (fun hg1_23 h => ?_) (fun hg1_23 h => ?_)
 refine yx hn 4 ?_
 refine yd hg1_3 5 ?_
 refine yd hg1_8 5 ?_
 refine yd hg1_13 1 ?_
 refine ys 3 ⟨lk call17 (bz _ _ hv1)⟩ ?_
 refine yd hg1_18 1 ?_
 refine ys 3 ⟨lk call18 (eV _ _ hv2)⟩ ?_
 refine yd hg1_23 9 ?_
 refine ye [1,2,3,4,5,246,6,56] ?_
 exact hl274 _ (zi h).symm
 obtain ⟨v3,hv3,h⟩:=zn h
 refine yx hn 4 ?_
 refine yd hg1_3 5 ?_
 refine yd hg1_8 5 ?_
 refine yd hg1_13 1 ?_
 refine ys 3 ⟨lk call17 (bz _ _ hv1)⟩ ?_
 refine yd hg1_18 1 ?_
 refine ys 3 ⟨lk call18 (eV _ _ hv2)⟩ ?_
 refine yd hg1_23 6 ?_
 refine ys 2 ⟨lb hv3⟩ ?_
 refine ye [1,2,3,4,5,246,6,56] ?_
 exact hl274 _ (zi h).symm

end Go.Proofs.YtjnnkhmhjcjhdaaGreatDoor
