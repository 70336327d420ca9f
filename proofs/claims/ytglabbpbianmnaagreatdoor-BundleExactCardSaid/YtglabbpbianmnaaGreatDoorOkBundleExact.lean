import Derived.Test.YtglabbpbianmnaaGreatDoorOkc7
set_option linter.unusedVariables false
set_option linter.unusedSimpArgs false
set_option maxHeartbeats 1000000
namespace Go.Proofs.YtglabbpbianmnaaGreatDoor
open Go.Abs Go.Abs.Sh Tryz
open List (map flatten)
open Value (int)

theorem ki (mx:Int) (b:az) (t:(List Int)) (l:(List ae)) (origin:Int) (number:Int) (r:Bool) (h:Sh.ek b t l origin number=some r):kF Tryz.prog (GL mx) 3 [.agg [.v (.int .i64 b.Lj),.v (.int .i64 b.Li),.fr .shr true 8 (flatten (map ae.ienc b.Lg))],.fl .shr 1 (map (int .u8) t),.fr .shr true 8 (flatten (map ae.ienc l)),.v (.int .i64 origin),.v (.int .i64 number)] (.v (.bool r)):=by
 unfold Sh.ek at h
 refine yG 158 func3 fun g0 hn hio => ?_
 refine aX hn 2 [1,2,3,4,158,5] ?_
 refine ag (ag ?_)
 refine aM h (fun (s3:Bool)=>[(1,fb t),(2,.fr .shr true 8 (flatten (map ae.ienc l))),(3,vi origin),(4,vi number),(158,.glob (GL mx)),(5,.box 24 [vi b.Lj,vi b.Li,.fr .shr true 8 (flatten (map ae.ienc b.Lg))]),(37,vb s3)]) ?_ ?_
 rintro s3 h
 refine ai ?_
 refine zc h rfl (fun h => ?_) (fun h => ?_)
 refine aX hn 1 [158,10] ?_
 refine aC ?_
 refine aB [1] (by kernel_rfl) (es':=[(_,_)]) rfl ?_
 refine am ?_
 obtain rfl:=zi h
 exact aE hio rfl (.tmp _ _ .nil) rfl rfl
 refine aA ?_
 refine ai (ag ?_)
 obtain ⟨v8,hv8,v9,hv9,v10,hv10,h⟩:=mh h
 refine wb [[5],[38,5],[5],[40,5],[5],[42,5]] ?_
 refine wN [43] ?_
 refine wo [] ⟨lk call11 (ii _ _ hv8)⟩ ?_
 refine wK [44] [39,41] ?_
 refine wt [(45,.agg [vi b.Lj,vi b.Li,.fr (.own 46) false 8 (flatten (map ae.ienc v8))])] [[1]] ⟨bQ _ _ _ _ [1,1,1] _ _ underlying24 jD (oH _ underlying24) (.copy _ (.copy _ (.take _ _ kP.nil))) rfl rfl rfl⟩ ?_
 refine wN [46] ?_
 refine wo [[2]] ⟨lk call12 (gU _ _ hv9)⟩ ?_
 refine wN [48] ?_
 refine wo [] ⟨lk call11 (ii _ _ hv10)⟩ ?_
 refine wN [] ?_
 refine wS (.box 24 [vi 0,vi 0,vz]) [] ⟨oA (bu _ _ jD)⟩ ?_
 refine wK [45,11] [] ?_
 refine wt [(11,.box 24 [vi b.Lj,vi b.Li,.fr (.own 46) false 8 (flatten (map ae.ienc v8))])] [] ⟨aR _ _ _ _ _ _ _ _ ed rfl rfl rfl (zl rfl) rfl rfl⟩ ?_
 refine wK [47] [] ?_
 refine wt [(12,.fl (.own 5) 1 (map (int .u8) v9))] [] ⟨gr _ _ _ _ rfl⟩ ?_
 refine wK [49] [] ?_
 refine wt [(13,.fr (.own 46) false 8 (flatten (map ae.ienc v10)))] [] ⟨gr _ _ _ _ rfl⟩ ?_
 refine sI hn [1,2,3,4,158,5,11,12,13] ?_
 refine ag ?_
 obtain ⟨v11,hv11,h⟩:=zn h
 refine yx hn 1 ?_
 refine ys 0 ⟨lg call13 (gQ _ _ _ hv11) 158⟩ ?_
 refine ym 0 ?_
 refine zC 1 ?_
 refine ya 1 ?_
 refine bH [1,2,3,4,158,5,11,12,13,14,15] ?_
 refine ag ?_
 obtain ⟨v12,hv12,h⟩:=zn h
 refine yx hn 1 ?_
 refine ys 0 ⟨lk call14 (eQ _ _ hv12)⟩ ?_
 refine ym 0 ?_
 refine zC 1 ?_
 refine ya 1 ?_
 refine bH [1,2,3,4,158,5,11,12,13,14,15,16,17] ?_
 refine ag ?_
 refine vg 7 hio (es':=[(1,fb t),(2,.fr .shr true 8 (flatten (map ae.ienc l))),(3,.v (.int .i64 origin)),(4,.v (.int .i64 number)),(158,.glob (GL mx)),(5,.box 24 [.v (.int .i64 b.Lj),.v (.int .i64 b.Li),.fr .shr true 8 (flatten (map ae.ienc b.Lg))]),(11,.box 24 [.v (.int .i64 b.Lj),.v (.int .i64 b.Li),.fr (.own 46) false 8 (flatten (map ae.ienc v8))]),(12,.fl .ro 1 (map (int .u8) v9)),(13,.fr (.own 46) false 8 (flatten (map ae.ienc v10))),(14,.mkr 5 (map (int .u8) v11.1)),(15,.v (.int .i64 v11.2)),(16,.mkr 5 (map (int .u8) v12.1)),(17,.v (.int .i64 v12.2))]) rfl ?_
 obtain ⟨v13,hv13,h⟩:=zn h
 refine yx hn 1 ?_
 refine yS (.tup [.agg [vi v13.1.Lj,vi v13.1.Li,.fr (.own 46) false 8 (flatten (map ae.ienc v13.1.Lg))],vi v13.2]) 0 ⟨ig _ _ 158 15 _ _ rfl call15 rfl rfl (fun _ h=>h) (kG mx v9 _ hv13) rfl rfl⟩ ?_
 refine ym 0 ?_
 refine zC 1 ?_
 refine yS (.box 24 [vi 0,vi 0,vz]) 0 ⟨oA (bu _ _ jD)⟩ ?_
 refine yk [63,18] [] ?_
 refine yt (18,.box 24 [vi v13.1.Lj,vi v13.1.Li,.fr (.own 46) false 8 (flatten (map ae.ienc v13.1.Lg))]) 1 ⟨aR _ _ _ _ _ _ _ _ ed rfl rfl rfl (zl rfl) rfl rfl⟩ ?_
 refine bH [1,2,3,4,158,5,11,12,13,14,15,16,17,18,19] ?_
 refine ag ?_
 obtain ⟨v14,hv14,h⟩:=zn h
 refine yx hn 1 ?_
 refine ys 0 ⟨lk call16 (kB _ _ hv14)⟩ ?_
 refine ym 0 ?_
 refine zC 1 ?_
 refine yS (.box 24 [vi 0,vi 0,vz]) 0 ⟨oA (bu _ _ jD)⟩ ?_
 refine yk [68,20] [] ?_
 refine yt (20,.box 24 [vi v14.1.Lj,vi v14.1.Li,.fr (.own 46) false 8 (flatten (map ae.ienc v14.1.Lg))]) 1 ⟨aR _ _ _ _ _ _ _ _ ed rfl rfl rfl (zl rfl) rfl rfl⟩ ?_
 refine bH [1,2,3,4,158,5,11,12,13,14,15,16,17,18,19,20,21] ?_
 refine ag ?_
 obtain ⟨v15,hv15,h⟩:=zn h
 refine yx hn 3 ?_
 refine ys 0 ⟨lg call17 (mC _ _ _ _ _ hv15) 158⟩ ?_
 refine ym 4 ?_
 refine bH [1,2,3,4,158,5,11,12,13,14,15,16,17,18,19,20,21,22,23] ?_
 refine ag ?_
 obtain ⟨v16,hv16,h⟩:=zn h
 refine yx hn 3 ?_
 refine ys 1 ⟨lk call18 (nH _ _ _ _ hv16)⟩ ?_
 refine bH [1,2,158,5,11,12,13,14,15,16,17,18,19,20,21,22,23,24] ?_
 refine ag (ag ?_)
 refine aM h (fun (s23:Bool)=>[(1,fb t),(2,.fr .shr true 8 (flatten (map ae.ienc l))),(158,.glob (GL mx)),(5,.box 24 [vi b.Lj,vi b.Li,.fr .shr true 8 (flatten (map ae.ienc b.Lg))]),(11,.box 24 [vi b.Lj,vi b.Li,.fr (.own 46) false 8 (flatten (map ae.ienc v8))]),(12,.fl .ro 1 (map (int .u8) v9)),(13,.fr (.own 46) false 8 (flatten (map ae.ienc v10))),(14,.mkr 5 (map (int .u8) v11.1)),(128,vb s23)]) ?_ ?_
 rintro s23 h
 refine ai ?_
 refine zc h rfl (fun h => ?_) (fun h => ?_)
 refine aX hn 1 [158,10] ?_
 refine aC ?_
 refine aB [1] (by kernel_rfl) (es':=[(_,_)]) rfl ?_
 refine am ?_
 obtain rfl:=zi h
 exact aE hio rfl (.tmp _ _ .nil) rfl rfl
 refine aA ?_
 refine ai (ag ?_)
 refine aX hn 1 [1,2,158,5,11,12,13,14,25] ?_
 refine aY h (fun (s39:Int)=>[(1,fb t),(2,.fr .shr true 8 (flatten (map ae.ienc l))),(158,.glob (GL mx)),(5,.box 24 [vi b.Lj,vi b.Li,.fr .shr true 8 (flatten (map ae.ienc b.Lg))]),(11,.box 24 [vi b.Lj,vi b.Li,.fr (.own 46) false 8 (flatten (map ae.ienc v8))]),(12,.fl .ro 1 (map (int .u8) v9)),(13,.fr (.own 46) false 8 (flatten (map ae.ienc v10))),(14,.mkr 5 (map (int .u8) v11.1)),(25,vi s39)]) (fun (():Unit)=>[(1,fb t),(158,.glob (GL mx)),(5,.box 24 [vi b.Lj,vi b.Li,.fr .shr true 8 (flatten (map ae.ienc b.Lg))]),(11,.box 24 [vi b.Lj,vi b.Li,.fr (.own 46) false 8 (flatten (map ae.ienc v8))]),(12,.fl .ro 1 (map (int .u8) v9)),(14,.mkr 5 (map (int .u8) v11.1))]) ?_ ?_
 rintro ⟨⟩ h
 refine ai (ag ?_)
 obtain ⟨v50,hv50,h⟩:=zn h
 refine yx hn 0 ?_
 refine ym 0 ?_
 refine yk [145] [] ?_
 refine pX (145,.any) (146,.tup []) 0 ⟨zY _ _ 145 24 _ _ rfl call24 rfl rfl (ma v11.1 _ hv50) rfl rfl rfl⟩ ?_
 refine bH [1,158,5,11,12] ?_
 refine ag ?_
 refine aM h (fun (s54:Bool)=>[(158,.glob (GL mx)),(10,vb s54)]) ?_ ?_
 rintro s54 h
 refine ai (aC ?_)
 refine aB [1] (by kernel_rfl) (es':=[(_,_)]) rfl ?_
 obtain rfl:=zi h
 exact aE hio rfl (.tmp _ _ .nil) rfl rfl
 intro u55 h hl56 hr57
 obtain ⟨v51,hv51,h⟩:=zn h
 refine au h (fun hg18_3 h => ?_) (fun hg18_3 h => ?_)
 obtain ⟨v52,hv52,h⟩:=zn h
 refine au h (fun hg18_8 h => ?_) (fun hg18_8 h => ?_)
 obtain ⟨v53,hv53,h⟩:=zn h
 refine yx hn 0 ?_
 refine yk [11] [] ?_
 refine yt (147,.agg [vi b.Lj,vi b.Li,.fr (.own 46) false 8 (flatten (map ae.ienc v8))]) 1 ⟨aT _ _ _ _ underlying24 rfl ed rfl rfl⟩ ?_
 refine ys 1 ⟨lk call22 (bK _ _ _ hv51)⟩ ?_
 refine yd hg18_3 2 ?_
 refine ys 2 ⟨lk call21 (bE _ _ _ hv52)⟩ ?_
 refine yd hg18_8 0 ?_
 refine ys 2 ⟨lg call25 (mU _ _ hv53) 158⟩ ?_
 refine ye [158,10] ?_
 exact hl56 _ (zi h).symm
 refine yx hn 0 ?_
 refine yk [11] [] ?_
 refine yt (147,.agg [vi b.Lj,vi b.Li,.fr (.own 46) false 8 (flatten (map ae.ienc v8))]) 1 ⟨aT _ _ _ _ underlying24 rfl ed rfl rfl⟩ ?_
 refine ys 1 ⟨lk call22 (bK _ _ _ hv51)⟩ ?_
 refine yd hg18_3 2 ?_
 refine ys 2 ⟨lk call21 (bE _ _ _ hv52)⟩ ?_
 refine yd hg18_8 3 ?_
 refine ye [158,10] ?_
 exact hl56 _ (zi h).symm
 refine yx hn 0 ?_
 refine yk [11] [] ?_
 refine yt (147,.agg [vi b.Lj,vi b.Li,.fr (.own 46) false 8 (flatten (map ae.ienc v8))]) 1 ⟨aT _ _ _ _ underlying24 rfl ed rfl rfl⟩ ?_
 refine ys 1 ⟨lk call22 (bK _ _ _ hv51)⟩ ?_
 refine yd hg18_3 8 ?_
 refine ye [158,10] ?_
 exact hl56 _ (zi h).symm
 rintro u42 hl43 hr44 s39 rr47 h ho45
 refine ag ?_
 refine aX hn 4 [1,2,158,5,11,12,13,14,25,132] ?_
 refine zc h rfl (fun h => ?_) (fun h => ?_)
 refine aA ?_
 refine ai (ag ?_)
 refine aP (ag ?_)
 obtain ⟨v29,hv29,v30,hv30,v31,hv31,v32,hv32,h⟩:=ov h
 obtain ⟨v33,hv33,h⟩:=zn h
 refine wb [[13],[25]] ?_
 refine wN [135,13,136] ?_
 refine wo [] ⟨lI hv29⟩ ?_
 refine wN [137,13] ?_
 refine wS (.agg [vb v30.Ld.Lh,vs v30.Ld.Lf,vs v30.Ld.Lc,.fl .ro 3 (flatten (map aj.enc v30.To)),.fl .ro 1 (map (int .u8) v30.Lb),vb v30.Lk,vs v30.Le,vi v30.At]) [[2],[25]] ⟨dX _ _ _ _ _ _ _ _ underlying46 rfl eC rfl rfl (eY ae.ilen hv30) (.cons (.v _) (.cons (.v _) (.cons (.v _) (.cons (.fl _ _ rfl) (.cons (.fl _ _ rfl) (.cons (.v _) (.cons (.v _) (.cons (.v _) (.nil))))))))) rfl (by decide)⟩ ?_
 refine wN [139,140] ?_
 refine wo [] ⟨lI hv31⟩ ?_
 refine wN [141,139] ?_
 refine wS (.agg (ae.c v32 [])) [] ⟨dX _ _ _ _ _ _ _ _ underlying46 rfl eC rfl rfl (eY ae.ilen hv32) (.cons (.v _) (.cons (.v _) (.cons (.v _) (.cons (.fl _ _ rfl) (.cons (.fl _ _ rfl) (.cons (.v _) (.cons (.v _) (.cons (.v _) (.nil))))))))) rfl (by decide)⟩ ?_
 refine wN [138,142] ?_
 refine wo [[143]] ⟨lk call23 (km _ _ _ hv33)⟩ ?_
 refine sI hn [1,2,158,5,11,12,13,14,25,144] ?_
 refine zc h rfl (fun h => ?_) (fun h => ?_)
 refine aX hn 1 [158,10] ?_
 refine aC ?_
 refine aB [1] (by kernel_rfl) (es':=[(_,_)]) rfl ?_
 refine aV (am (am (aV (am ?_))))
 have h:=hr44 _ (ho45 _ (zi h).symm).symm
 obtain rfl:=zi h
 exact aE hio rfl (.tmp _ _ .nil) rfl rfl
 refine aA (br (ai ?_))
 obtain ⟨v35,hv35,h⟩:=zn h
 refine yx hn 1 ?_
 refine ys 0 ⟨lb hv35⟩ ?_
 refine yw [25] 1 ?_
 refine ye [1,2,158,5,11,12,13,14,25] ?_
 exact bC _ (zi h).symm rfl
 refine bk (aD (aD (bo ?_)))
 refine aB [0,2,3,4,5,7] (by kernel_rfl) (es':=[(_,_),(_,_),(_,_),(_,_),(_,_),(_,_)]) rfl ?_
 exact hl43 _ (ho45 _ (zi h).symm).symm
 intro u24 h hl25 hr26
 obtain ⟨v17,hv17,v18,hv18,v19,hv19,h⟩:=mh h
 refine au h (fun hg10_6 h => ?_) (fun hg10_6 h => ?_)
 refine wb [[11]] ?_
 refine wN [81,11,158] ?_
 refine wo [[82],[5]] ⟨lg call19 (cN _ _ _ hv17) 158⟩ ?_
 refine wN [84] ?_
 refine wo [] ⟨lk call20 (bS _ _ hv18)⟩ ?_
 refine wN [83,85] ?_
 refine wS (vb (!((v17==0)==v18))) [[86]] ⟨jF _ _ _ _ underlying4 rfl rfl⟩ ?_
 refine wd hg10_6 [[87],[87],[87],[87],[91],[92],[92],[92],[92],[92],[97],[98],[98],[98],[98],[102],[103],[103],[103],[103],[103],[108],[109],[109],[109],[109],[113],[114],[114],[114],[114],[114],[114],[120],[121],[121],[121],[124],[124],[121],[121]] ?_
 refine we hn [1,2,158,5,11,12,13,14,128] ?_
 exact hl25 _ (zi h).symm
 refine au h (fun hg10_11 h => ?_) (fun hg10_11 h => ?_)
 refine wb [[11]] ?_
 refine wN [81,11,158] ?_
 refine wo [[82],[5]] ⟨lg call19 (cN _ _ _ hv17) 158⟩ ?_
 refine wN [84] ?_
 refine wo [] ⟨lk call20 (bS _ _ hv18)⟩ ?_
 refine wN [83,85] ?_
 refine wS (vb (!((v17==0)==v18))) [[86]] ⟨jF _ _ _ _ underlying4 rfl rfl⟩ ?_
 refine wd hg10_6 [[87,15],[87,17],[87,88,89],[87,90],[91]] ?_
 refine wd hg10_11 [[92],[92],[92],[92],[92],[97],[98],[98],[98],[98],[102],[103],[103],[103],[103],[103],[108],[109],[109],[109],[109],[113],[114],[114],[114],[114],[114],[114],[120],[121],[121],[121],[124],[124],[121],[121]] ?_
 refine we hn [1,2,158,5,11,12,13,14,128] ?_
 exact hl25 _ (zi h).symm
 obtain ⟨v20,hv20,h⟩:=zn h
 refine au h (fun hg10_17 h => ?_) (fun hg10_17 h => ?_)
 refine wb [[11]] ?_
 refine wN [81,11,158] ?_
 refine wo [[82],[5]] ⟨lg call19 (cN _ _ _ hv17) 158⟩ ?_
 refine wN [84] ?_
 refine wo [] ⟨lk call20 (bS _ _ hv18)⟩ ?_
 refine wN [83,85] ?_
 refine wS (vb (!((v17==0)==v18))) [[86]] ⟨jF _ _ _ _ underlying4 rfl rfl⟩ ?_
 refine wd hg10_6 [[87,15],[87,17],[87,88,89],[87,90],[91]] ?_
 refine wd hg10_11 [[92,14]] ?_
 refine wK [16] [92] ?_
 refine wt [(94,.mkr 5 (map (int .u8) v12.1))] [] ⟨eG _ _ _ _ rfl⟩ ?_
 refine wN [92,93,14,94] ?_
 refine wo [[92,95],[92,96],[97]] ⟨lk call21 (bE _ _ _ hv20)⟩ ?_
 refine wd hg10_17 [[98],[98],[98],[98],[102],[103],[103],[103],[103],[103],[108],[109],[109],[109],[109],[113],[114],[114],[114],[114],[114],[114],[120],[121],[121],[121],[124],[124],[121],[121]] ?_
 refine we hn [1,2,158,5,11,12,13,14,128] ?_
 exact hl25 _ (zi h).symm
 refine au h (fun hg10_22 h => ?_) (fun hg10_22 h => ?_)
 refine wb [[11]] ?_
 refine wN [81,11,158] ?_
 refine wo [[82],[5]] ⟨lg call19 (cN _ _ _ hv17) 158⟩ ?_
 refine wN [84] ?_
 refine wo [] ⟨lk call20 (bS _ _ hv18)⟩ ?_
 refine wN [83,85] ?_
 refine wS (vb (!((v17==0)==v18))) [[86]] ⟨jF _ _ _ _ underlying4 rfl rfl⟩ ?_
 refine wd hg10_6 [[87,15],[87,17],[87,88,89],[87,90],[91]] ?_
 refine wd hg10_11 [[92,14]] ?_
 refine wK [16] [92] ?_
 refine wt [(94,.mkr 5 (map (int .u8) v12.1))] [] ⟨eG _ _ _ _ rfl⟩ ?_
 refine wN [92,93,14,94] ?_
 refine wo [[92,95],[92,96],[97]] ⟨lk call21 (bE _ _ _ hv20)⟩ ?_
 refine wd hg10_17 [[98,19],[98,21],[98,99,100],[98,101],[102]] ?_
 refine wd hg10_22 [[103],[103],[103],[103],[103],[108],[109],[109],[109],[109],[113],[114],[114],[114],[114],[114],[114],[120],[121],[121],[121],[124],[124],[121],[121]] ?_
 refine we hn [1,2,158,5,11,12,13,14,128] ?_
 exact hl25 _ (zi h).symm
 obtain ⟨v21,hv21,h⟩:=zn h
 refine au h (fun hg10_28 h => ?_) (fun hg10_28 h => ?_)
 refine wb [[11]] ?_
 refine wN [81,11,158] ?_
 refine wo [[82],[5]] ⟨lg call19 (cN _ _ _ hv17) 158⟩ ?_
 refine wN [84] ?_
 refine wo [] ⟨lk call20 (bS _ _ hv18)⟩ ?_
 refine wN [83,85] ?_
 refine wS (vb (!((v17==0)==v18))) [[86]] ⟨jF _ _ _ _ underlying4 rfl rfl⟩ ?_
 refine wd hg10_6 [[87,15],[87,17],[87,88,89],[87,90],[91]] ?_
 refine wd hg10_11 [[92,14]] ?_
 refine wK [16] [92] ?_
 refine wt [(94,.mkr 5 (map (int .u8) v12.1))] [] ⟨eG _ _ _ _ rfl⟩ ?_
 refine wN [92,93,14,94] ?_
 refine wo [[92,95],[92,96],[97]] ⟨lk call21 (bE _ _ _ hv20)⟩ ?_
 refine wd hg10_17 [[98,19],[98,21],[98,99,100],[98,101],[102]] ?_
 refine wd hg10_22 [] ?_
 refine wK [18] [103] ?_
 refine wt [(104,.agg [vi v13.1.Lj,vi v13.1.Li,.fr (.own 46) false 8 (flatten (map ae.ienc v13.1.Lg))])] [] ⟨aT _ _ _ _ underlying24 rfl ed rfl rfl⟩ ?_
 refine wK [20] [103] ?_
 refine wt [(105,.agg [vi v14.1.Lj,vi v14.1.Li,.fr (.own 46) false 8 (flatten (map ae.ienc v14.1.Lg))])] [] ⟨aT _ _ _ _ underlying24 rfl ed rfl rfl⟩ ?_
 refine wN [103,104,105] ?_
 refine wo [[103,106],[103,107],[108]] ⟨lk call22 (bK _ _ _ hv21)⟩ ?_
 refine wd hg10_28 [[109],[109],[109],[109],[113],[114],[114],[114],[114],[114],[114],[120],[121],[121],[121],[124],[124],[121],[121]] ?_
 refine we hn [1,2,158,5,11,12,13,14,128] ?_
 exact hl25 _ (zi h).symm
 refine au h (fun hg10_33 h => ?_) (fun hg10_33 h => ?_)
 refine wb [[11]] ?_
 refine wN [81,11,158] ?_
 refine wo [[82],[5]] ⟨lg call19 (cN _ _ _ hv17) 158⟩ ?_
 refine wN [84] ?_
 refine wo [] ⟨lk call20 (bS _ _ hv18)⟩ ?_
 refine wN [83,85] ?_
 refine wS (vb (!((v17==0)==v18))) [[86]] ⟨jF _ _ _ _ underlying4 rfl rfl⟩ ?_
 refine wd hg10_6 [[87,15],[87,17],[87,88,89],[87,90],[91]] ?_
 refine wd hg10_11 [[92,14]] ?_
 refine wK [16] [92] ?_
 refine wt [(94,.mkr 5 (map (int .u8) v12.1))] [] ⟨eG _ _ _ _ rfl⟩ ?_
 refine wN [92,93,14,94] ?_
 refine wo [[92,95],[92,96],[97]] ⟨lk call21 (bE _ _ _ hv20)⟩ ?_
 refine wd hg10_17 [[98,19],[98,21],[98,99,100],[98,101],[102]] ?_
 refine wd hg10_22 [] ?_
 refine wK [18] [103] ?_
 refine wt [(104,.agg [vi v13.1.Lj,vi v13.1.Li,.fr (.own 46) false 8 (flatten (map ae.ienc v13.1.Lg))])] [] ⟨aT _ _ _ _ underlying24 rfl ed rfl rfl⟩ ?_
 refine wK [20] [103] ?_
 refine wt [(105,.agg [vi v14.1.Lj,vi v14.1.Li,.fr (.own 46) false 8 (flatten (map ae.ienc v14.1.Lg))])] [] ⟨aT _ _ _ _ underlying24 rfl ed rfl rfl⟩ ?_
 refine wN [103,104,105] ?_
 refine wo [[103,106],[103,107],[108]] ⟨lk call22 (bK _ _ _ hv21)⟩ ?_
 refine wd hg10_28 [[109,22],[109,24],[109,110,111],[109,112],[113]] ?_
 refine wd hg10_33 [[114],[114],[114],[114],[114],[114],[120],[121],[121],[121],[124],[124],[121],[121]] ?_
 refine we hn [1,2,158,5,11,12,13,14,128] ?_
 exact hl25 _ (zi h).symm
 obtain ⟨v22,hv22,h⟩:=zn h
 refine au h (fun hg10_40 h => ?_) (fun hg10_40 h => ?_)
 refine wb [[11]] ?_
 refine wN [81,11,158] ?_
 refine wo [[82],[5]] ⟨lg call19 (cN _ _ _ hv17) 158⟩ ?_
 refine wN [84] ?_
 refine wo [] ⟨lk call20 (bS _ _ hv18)⟩ ?_
 refine wN [83,85] ?_
 refine wS (vb (!((v17==0)==v18))) [[86]] ⟨jF _ _ _ _ underlying4 rfl rfl⟩ ?_
 refine wd hg10_6 [[87,15],[87,17],[87,88,89],[87,90],[91]] ?_
 refine wd hg10_11 [[92,14]] ?_
 refine wK [16] [92] ?_
 refine wt [(94,.mkr 5 (map (int .u8) v12.1))] [] ⟨eG _ _ _ _ rfl⟩ ?_
 refine wN [92,93,14,94] ?_
 refine wo [[92,95],[92,96],[97]] ⟨lk call21 (bE _ _ _ hv20)⟩ ?_
 refine wd hg10_17 [[98,19],[98,21],[98,99,100],[98,101],[102]] ?_
 refine wd hg10_22 [] ?_
 refine wK [18] [103] ?_
 refine wt [(104,.agg [vi v13.1.Lj,vi v13.1.Li,.fr (.own 46) false 8 (flatten (map ae.ienc v13.1.Lg))])] [] ⟨aT _ _ _ _ underlying24 rfl ed rfl rfl⟩ ?_
 refine wK [20] [103] ?_
 refine wt [(105,.agg [vi v14.1.Lj,vi v14.1.Li,.fr (.own 46) false 8 (flatten (map ae.ienc v14.1.Lg))])] [] ⟨aT _ _ _ _ underlying24 rfl ed rfl rfl⟩ ?_
 refine wN [103,104,105] ?_
 refine wo [[103,106],[103,107],[108]] ⟨lk call22 (bK _ _ _ hv21)⟩ ?_
 refine wd hg10_28 [[109,22],[109,24],[109,110,111],[109,112],[113]] ?_
 refine wd hg10_33 [[114,24],[114,115],[114,23],[114,117]] ?_
 refine wN [114,116,118] ?_
 refine wS (vb (!((v16==0)==(v15.2==9)))) [[114,119],[120]] ⟨jF _ _ _ _ underlying4 rfl rfl⟩ ?_
 refine wd hg10_40 [[121],[121],[121],[124],[124],[121],[121]] ?_
 refine we hn [1,2,158,5,11,12,13,14,128] ?_
 exact hl25 _ (zi h).symm
 refine au h (fun hg10_43 h => ?_) (fun hg10_43 h => ?_)
 refine wb [[11]] ?_
 refine wN [81,11,158] ?_
 refine wo [[82],[5]] ⟨lg call19 (cN _ _ _ hv17) 158⟩ ?_
 refine wN [84] ?_
 refine wo [] ⟨lk call20 (bS _ _ hv18)⟩ ?_
 refine wN [83,85] ?_
 refine wS (vb (!((v17==0)==v18))) [[86]] ⟨jF _ _ _ _ underlying4 rfl rfl⟩ ?_
 refine wd hg10_6 [[87,15],[87,17],[87,88,89],[87,90],[91]] ?_
 refine wd hg10_11 [[92,14]] ?_
 refine wK [16] [92] ?_
 refine wt [(94,.mkr 5 (map (int .u8) v12.1))] [] ⟨eG _ _ _ _ rfl⟩ ?_
 refine wN [92,93,14,94] ?_
 refine wo [[92,95],[92,96],[97]] ⟨lk call21 (bE _ _ _ hv20)⟩ ?_
 refine wd hg10_17 [[98,19],[98,21],[98,99,100],[98,101],[102]] ?_
 refine wd hg10_22 [] ?_
 refine wK [18] [103] ?_
 refine wt [(104,.agg [vi v13.1.Lj,vi v13.1.Li,.fr (.own 46) false 8 (flatten (map ae.ienc v13.1.Lg))])] [] ⟨aT _ _ _ _ underlying24 rfl ed rfl rfl⟩ ?_
 refine wK [20] [103] ?_
 refine wt [(105,.agg [vi v14.1.Lj,vi v14.1.Li,.fr (.own 46) false 8 (flatten (map ae.ienc v14.1.Lg))])] [] ⟨aT _ _ _ _ underlying24 rfl ed rfl rfl⟩ ?_
 refine wN [103,104,105] ?_
 refine wo [[103,106],[103,107],[108]] ⟨lk call22 (bK _ _ _ hv21)⟩ ?_
 refine wd hg10_28 [[109,22],[109,24],[109,110,111],[109,112],[113]] ?_
 refine wd hg10_33 [[114,24],[114,115],[114,23],[114,117]] ?_
 refine wN [114,116,118] ?_
 refine wS (vb (!((v16==0)==(v15.2==9)))) [[114,119],[120]] ⟨jF _ _ _ _ underlying4 rfl rfl⟩ ?_
 refine wd hg10_40 [[121,24],[121,122],[121,123]] ?_
 refine wd hg10_43 [[124,23],[124,125],[121,124,126],[121,127]] ?_
 refine we hn [1,2,158,5,11,12,13,14,128] ?_
 exact hl25 _ (zi h).symm
 refine wb [[11]] ?_
 refine wN [81,11,158] ?_
 refine wo [[82],[5]] ⟨lg call19 (cN _ _ _ hv17) 158⟩ ?_
 refine wN [84] ?_
 refine wo [] ⟨lk call20 (bS _ _ hv18)⟩ ?_
 refine wN [83,85] ?_
 refine wS (vb (!((v17==0)==v18))) [[86]] ⟨jF _ _ _ _ underlying4 rfl rfl⟩ ?_
 refine wd hg10_6 [[87,15],[87,17],[87,88,89],[87,90],[91]] ?_
 refine wd hg10_11 [[92,14]] ?_
 refine wK [16] [92] ?_
 refine wt [(94,.mkr 5 (map (int .u8) v12.1))] [] ⟨eG _ _ _ _ rfl⟩ ?_
 refine wN [92,93,14,94] ?_
 refine wo [[92,95],[92,96],[97]] ⟨lk call21 (bE _ _ _ hv20)⟩ ?_
 refine wd hg10_17 [[98,19],[98,21],[98,99,100],[98,101],[102]] ?_
 refine wd hg10_22 [] ?_
 refine wK [18] [103] ?_
 refine wt [(104,.agg [vi v13.1.Lj,vi v13.1.Li,.fr (.own 46) false 8 (flatten (map ae.ienc v13.1.Lg))])] [] ⟨aT _ _ _ _ underlying24 rfl ed rfl rfl⟩ ?_
 refine wK [20] [103] ?_
 refine wt [(105,.agg [vi v14.1.Lj,vi v14.1.Li,.fr (.own 46) false 8 (flatten (map ae.ienc v14.1.Lg))])] [] ⟨aT _ _ _ _ underlying24 rfl ed rfl rfl⟩ ?_
 refine wN [103,104,105] ?_
 refine wo [[103,106],[103,107],[108]] ⟨lk call22 (bK _ _ _ hv21)⟩ ?_
 refine wd hg10_28 [[109,22],[109,24],[109,110,111],[109,112],[113]] ?_
 refine wd hg10_33 [[114,24],[114,115],[114,23],[114,117]] ?_
 refine wN [114,116,118] ?_
 refine wS (vb (!((v16==0)==(v15.2==9)))) [[114,119],[120]] ⟨jF _ _ _ _ underlying4 rfl rfl⟩ ?_
 refine wd hg10_40 [[121,24],[121,122],[121,123]] ?_
 refine wd hg10_43 [[124],[124],[121,124],[121,127]] ?_
 refine we hn [1,2,158,5,11,12,13,14,128] ?_
 exact hl25 _ (zi h).symm
 intro u4 h hl5 hr6
 obtain ⟨v1,hv1,h⟩:=zn h
 refine au h (fun hg1_3 h => ?_) (fun hg1_3 h => ?_)
 refine yx hn 2 ?_
 refine ys 1 ⟨lk call10 (ef _ _ hv1)⟩ ?_
 refine yd hg1_3 8 ?_
 refine ye [1,2,3,4,158,5,37] ?_
 exact hl5 _ (zi h).symm
 obtain ⟨v2,hv2,h⟩:=zn h
 refine au h (fun hg1_7 h => ?_) (fun hg1_7 h => ?_)
 refine yx hn 2 ?_
 refine ys 1 ⟨lk call10 (ef _ _ hv1)⟩ ?_
 refine yd hg1_3 1 ?_
 refine ys 2 ⟨lk call10 (ef _ _ hv2)⟩ ?_
 refine yd hg1_7 4 ?_
 refine ye [1,2,3,4,158,5,37] ?_
 exact hl5 _ (zi h).symm
 refine yx hn 2 ?_
 refine ys 1 ⟨lk call10 (ef _ _ hv1)⟩ ?_
 refine yd hg1_3 1 ?_
 refine ys 2 ⟨lk call10 (ef _ _ hv2)⟩ ?_
 refine yd hg1_7 4 ?_
 refine ye [1,2,3,4,158,5,37] ?_
 exact hl5 _ (zi h).symm

end Go.Proofs.YtglabbpbianmnaaGreatDoor
