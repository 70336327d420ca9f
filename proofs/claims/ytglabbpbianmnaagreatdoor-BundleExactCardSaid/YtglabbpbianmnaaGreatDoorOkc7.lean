import Derived.Test.YtglabbpbianmnaaGreatDoorOkc6
set_option linter.unusedVariables false
set_option linter.unusedSimpArgs false
set_option maxHeartbeats 1000000
namespace Go.Proofs.YtglabbpbianmnaaGreatDoor
open Go.Abs Go.Abs.Sh Tryz
open List (map flatten)
open Value (int)
theorem bK (a:az) (b:az) (r:Bool) (h:Sh.bR a b=some r):cl Tryz.prog 22 [.agg [.v (.int .i64 a.Lj),.v (.int .i64 a.Li),.fr .shr true 8 (flatten (map ae.ienc a.Lg))],.agg [.v (.int .i64 b.Lj),.v (.int .i64 b.Li),.fr .shr true 8 (flatten (map ae.ienc b.Lg))]] (.v (.bool r)):=by
 unfold Sh.bR at h
 refine yO 46 func22 fun g0 hn hio => ?_
 refine aX hn 3 [2,3] ?_
 refine ag (ag ?_)
 refine aM h (fun (s1:Bool)=>[(2,.box 24 [vi a.Lj,vi a.Li,.fr .shr true 8 (flatten (map ae.ienc a.Lg))]),(3,.box 24 [vi b.Lj,vi b.Li,.fr .shr true 8 (flatten (map ae.ienc b.Lg))]),(26,vb s1)]) ?_ ?_
 rintro s1 h
 refine ai ?_
 refine zc h rfl (fun h => ?_) (fun h => ?_)
 refine aX hn 1 [4] ?_
 refine aC (am ?_)
 obtain rfl:=zi h
 exact aE hio rfl (.tmp _ _ .nil) rfl rfl
 refine aA ?_
 refine ai (ag ?_)
 refine aX hn 1 [2,3,5] ?_
 refine aY h (fun (s17:Int)=>[(2,.box 24 [vi a.Lj,vi a.Li,.fr .shr true 8 (flatten (map ae.ienc a.Lg))]),(3,.box 24 [vi b.Lj,vi b.Li,.fr .shr true 8 (flatten (map ae.ienc b.Lg))]),(5,vi s17)]) (fun (():Unit)=>[]) ?_ ?_
 rintro ⟨⟩ h
 refine ai ?_
 refine aX hn 1 [4] ?_
 refine aC ?_
 obtain rfl:=zi h
 exact aE hio rfl (.tmp _ _ .nil) rfl rfl
 rintro u20 hl21 hr22 s17 rr25 h ho23
 refine ag ?_
 refine aX hn 5 [2,3,5,31] ?_
 refine zc h rfl (fun h => ?_) (fun h => ?_)
 refine aA ?_
 refine ai (ag ?_)
 refine aP (ag ?_)
 obtain ⟨v7,hv7,v8,hv8,v9,hv9,v10,hv10,h⟩:=ov h
 obtain ⟨v11,hv11,h⟩:=zn h
 refine wb [[2],[34,2],[5]] ?_
 refine wN [35,36] ?_
 refine wo [] ⟨lI hv7⟩ ?_
 refine wN [37,35] ?_
 refine wS (.agg (ae.c v8 [])) [[3],[39,3],[5]] ⟨dX _ _ _ _ _ _ _ _ underlying46 rfl eC rfl rfl (eY ae.ilen hv8) (.cons (.v _) (.cons (.v _) (.cons (.v _) (.cons (.fl _ _ rfl) (.cons (.fl _ _ rfl) (.cons (.v _) (.cons (.v _) (.cons (.v _) (.nil))))))))) rfl (by decide)⟩ ?_
 refine wN [40,41] ?_
 refine wo [] ⟨lI hv9⟩ ?_
 refine wN [42,40] ?_
 refine wS (.agg (ae.c v10 [])) [] ⟨dX _ _ _ _ _ _ _ _ underlying46 rfl eC rfl rfl (eY ae.ilen hv10) (.cons (.v _) (.cons (.v _) (.cons (.v _) (.cons (.fl _ _ rfl) (.cons (.fl _ _ rfl) (.cons (.v _) (.cons (.v _) (.cons (.v _) (.nil))))))))) rfl (by decide)⟩ ?_
 refine wN [38,43] ?_
 refine wo [[44]] ⟨lk call23 (km _ _ _ hv11)⟩ ?_
 refine sI hn [2,3,5,45] ?_
 refine zc h rfl (fun h => ?_) (fun h => ?_)
 refine aX hn 1 [4] ?_
 refine aC (aV (am (am (aV (am ?_)))))
 have h:=hr22 _ (ho23 _ (zi h).symm).symm
 obtain rfl:=zi h
 exact aE hio rfl (.tmp _ _ .nil) rfl rfl
 refine aA (br (ai ?_))
 obtain ⟨v13,hv13,h⟩:=zn h
 refine yx hn 1 ?_
 refine ys 0 ⟨lb hv13⟩ ?_
 refine yw [5] 1 ?_
 refine ye [2,3,5] ?_
 exact bC _ (zi h).symm rfl
 refine bk (aD (aD (bo ?_)))
 refine aB [] (by kernel_rfl) (es':=[]) rfl ?_
 exact hl21 _ (ho23 _ (zi h).symm).symm
 intro u2 h hl3 hr4
 refine au h (fun hg1_5 h => ?_) (fun hg1_5 h => ?_)
 refine yx hn 6 ?_
 refine yd hg1_5 15 ?_
 refine ye [2,3,26] ?_
 exact hl3 _ (zi h).symm
 refine au h (fun hg1_12 h => ?_) (fun hg1_12 h => ?_)
 refine yx hn 6 ?_
 refine yd hg1_5 7 ?_
 refine yd hg1_12 8 ?_
 refine ye [2,3,26] ?_
 exact hl3 _ (zi h).symm
 refine yx hn 6 ?_
 refine yd hg1_5 7 ?_
 refine yd hg1_12 8 ?_
 refine ye [2,3,26] ?_
 exact hl3 _ (zi h).symm
theorem ma (b:(List Int)) (r:Unit) (h:Sh.eP b=some r):Gs Tryz.prog 24 [.mkr 5 (map (int .u8) b)] (.tup []):=by
 unfold Sh.eP at h
 refine yE 17 func24 fun g0 hn hio => ?_
 refine aX hn 1 [0,2] ?_
 refine aY h (fun ((s11,s12):(List Int)×Int)=>[(0,.mkr 5 (map (int .u8) s11)),(2,vi s12)]) (fun (():Unit)=>[]) ?_ ?_
 rintro ⟨⟩ h
 obtain rfl:=zi h
 exact Et hio rfl .nil rfl rfl
 rintro u14 hl15 hr16 ⟨s11,s12⟩ rr19 h ho17
 refine ag ?_
 refine gh hn 2 ?_
 refine yS (vi (s11.length:Int)) 1 ⟨pN _ _ _ underlying25 rfl (List.length_map _)⟩ ?_
 refine bH [0,2,6] ?_
 refine zc h rfl (fun h => ?_) (fun h => ?_)
 refine aA ?_
 refine ai (ag ?_)
 refine aP ?_
 obtain ⟨v2,hv2,v3,hv3,v4,hv4,v5,hv5,h⟩:=ov h
 obtain ⟨v6,hv6,h⟩:=zn h
 refine yx hn 4 ?_
 refine yS (.eref (.slot 0) (v2 * 1)) 0 ⟨vZ _ _ _ _ _ _ _ underlying25 nM rfl rfl rfl (ez hv2).1 (Dr (ez hv2).2) rfl⟩ ?_
 refine yS (.v (.int .u8 v3)) 0 ⟨xu _ _ _ _ _ _ underlying5 rfl rfl rfl (zo hv3)⟩ ?_
 refine ys 0 ⟨lb hv4⟩ ?_
 refine yS (.eref (.slot 0) (v5 * 1)) 0 ⟨vZ _ _ _ _ _ _ _ underlying25 nM rfl rfl rfl (ez hv5).1 (Dr (ez hv5).2) rfl⟩ ?_
 refine yk [0] [16,15] ?_
 refine yt (0,.mkr 5 (map (int .u8) v6)) 0 ⟨wF _ _ _ _ _ _ _ nM rfl rfl rfl (HL (ez hv5).2) (GM (f:=int .u8) (Option.some.inj hv6))⟩ ?_
 refine ye [0,2] ?_
 refine br (ai ?_)
 obtain ⟨v7,hv7,h⟩:=zn h
 refine yx hn 1 ?_
 refine ys 0 ⟨lb hv7⟩ ?_
 refine yw [2] 1 ?_
 refine ye [0,2] ?_
 exact bC _ (zi h).symm rfl
 refine bk (aD (aD (bo ?_)))
 refine aB [] (by kernel_rfl) (es':=[]) rfl ?_
 exact hl15 _ (ho17 _ (zi h).symm).symm
theorem mU (mx:Int) (r:Bool) (h:Sh.cw  = some r):kF Tryz.prog (GL mx) 25 [] (.v (.bool r)):=by
 unfold Sh.cw at h
 refine yG 60 func25 fun g0 hn hio => ?_
 refine aX hn 1 [60] ?_
 refine gh hn 0 ?_
 refine yS (.agg [vb true,vs z0,vs z0]) 0 ⟨bQ _ _ _ _ [1,1,1] _ _ underlying43 jr (qP _ underlying43) (.copy _ kP.nil) rfl rfl rfl⟩ ?_
 refine yS (.agg [vb false,vs (⟨#[97]⟩:Ll),vs (⟨#[98]⟩:Ll)]) 0 ⟨bQ _ _ _ _ [1,1,1] _ _ underlying43 jr (qP _ underlying43) (.copy _ (.copy _ kP.nil)) rfl rfl rfl⟩ ?_
 refine yS (.fl (.own 43) 3 (flatten (map aj.enc ([(aj.mk false (⟨#[97]⟩:Ll) (⟨#[98]⟩:Ll))])))) 0 ⟨cb _ _ 3 (.agg #[.bool false,.string ByteArray.empty,.string ByteArray.empty]) (flatten (map aj.enc ([(aj.mk false (⟨#[97]⟩:Ll) (⟨#[98]⟩:Ll))]))) [(0,.agg #[.bool false,.string (⟨#[97]⟩:Ll),.string (⟨#[98]⟩:Ll)])] underlying44 iG jr (fun _ V w o a hv hes=>by have e0:=CZ (ys:=[.bool false,.string (⟨#[97]⟩:Ll),.string (⟨#[98]⟩:Ll)]) hv hes (x := .tmp 9) rfl; simp only [List.map_toArray,List.map_cons,List.map_nil,e0]; try rfl) (fv (by simp [Instr.fill,Value.cells]; rfl) (by simp [List.range,List.range.loop,aj.enc] <;> rfl)) (by simp [Value.oneCell',aj.enc]) rfl (by decide) (by decide) (by decide)⟩ ?_
 refine yk [10] [8] ?_
 refine yt (11,.agg [vb true,vs z0,vs z0,.fl (.own 43) 3 (flatten (map aj.enc ([(aj.mk false (⟨#[97]⟩:Ll) (⟨#[98]⟩:Ll))]))),vz,vb false,vs z0,vi 0]) 0 ⟨bQ _ _ _ _ [3,1,1,1,1,1] _ _ underlying46 ks (BP _ underlying46) (.copy _ (.take _ _ kP.nil)) rfl rfl rfl⟩ ?_
 refine yk [11] [] ?_
 refine yt (12,.fr (.own 46) false 8 (flatten (map ae.ienc ([(ae.mk ((aj.mk true z0 z0)) ([(aj.mk false (⟨#[97]⟩:Ll) (⟨#[98]⟩:Ll))]) [] false z0 0)])))) 0 ⟨fZ _ _ _ 8 (.agg #[.bool false,.string ByteArray.empty,.string ByteArray.empty,.slice none 0 0,.slice none 0 0,.bool false,.string ByteArray.empty,.int .i64 0]) false _ _ underlying22 eC ks rfl (.cons (.v _) (.cons (.v _) (.cons (.v _) (.cons (.ro _ _ rfl) (.cons (.nil 1) (.cons (.v _) (.cons (.v _) (.cons (.v _) (.nil))))))))) rfl (by decide) (by decide)⟩ ?_
 refine yk [12] [] ?_
 refine yt (13,.agg [vi 0,vi 1,.fr (.own 46) false 8 (flatten (map ae.ienc ([(ae.mk ((aj.mk true z0 z0)) ([(aj.mk false (⟨#[97]⟩:Ll) (⟨#[98]⟩:Ll))]) [] false z0 0)])))]) 0 ⟨bQ _ _ _ _ [1,1,1] _ _ underlying24 jD (oH _ underlying24) (.copy _ (.take _ _ kP.nil)) rfl rfl rfl⟩ ?_
 refine yS (.box 24 [vi 0,vi 0,vz]) 0 ⟨oA (bu _ _ jD)⟩ ?_
 refine yk [13,1] [] ?_
 refine yt (1,.box 24 [vi 0,vi 1,.fr (.own 46) false 8 (flatten (map ae.ienc ([(ae.mk ((aj.mk true z0 z0)) ([(aj.mk false (⟨#[97]⟩:Ll) (⟨#[98]⟩:Ll))]) [] false z0 0)])))]) 0 ⟨aR _ _ _ _ _ _ _ _ ed rfl rfl rfl (zl rfl) rfl rfl⟩ ?_
 refine bH [60,1] ?_
 refine ag ?_
 obtain ⟨v1,hv1,h⟩:=zn h
 refine yx hn 1 ?_
 refine ys 0 ⟨lg call13 (gQ _ _ _ hv1) 60⟩ ?_
 refine ym 0 ?_
 refine zC 1 ?_
 refine ya 1 ?_
 refine bH [60,1,2,3] ?_
 refine ag ?_
 refine vg 2 hio (es':=[(60,.glob (GL mx)),(1,.box 24 [.v (.int .i64 0),.v (.int .i64 1),.fr (.own 46) false 8 (flatten (map ae.ienc ([(ae.mk ((aj.mk true (⟨#[]⟩:Ll) (⟨#[]⟩:Ll))) ([(aj.mk false (⟨#[97]⟩:Ll) (⟨#[98]⟩:Ll))]) [] false (⟨#[]⟩:Ll) 0)])))]),(2,.fl .ro 1 (map (int .u8) v1.1)),(3,.v (.int .i64 v1.2))]) rfl ?_
 obtain ⟨v2,hv2,h⟩:=zn h
 refine yx hn 1 ?_
 refine yS (.tup [.agg [vi v2.1.Lj,vi v2.1.Li,.fr (.own 46) false 8 (flatten (map ae.ienc v2.1.Lg))],vi v2.2]) 0 ⟨ig _ _ 60 15 _ _ rfl call15 rfl rfl (fun _ h=>h) (kG mx v1.1 _ hv2) rfl rfl⟩ ?_
 refine ym 0 ?_
 refine zC 1 ?_
 refine yS (.box 24 [vi 0,vi 0,vz]) 0 ⟨oA (bu _ _ jD)⟩ ?_
 refine yk [22,4] [] ?_
 refine yt (4,.box 24 [vi v2.1.Lj,vi v2.1.Li,.fr (.own 46) false 8 (flatten (map ae.ienc v2.1.Lg))]) 1 ⟨aR _ _ _ _ _ _ _ _ ed rfl rfl rfl (zl rfl) rfl rfl⟩ ?_
 refine bH [60,1,2,3,4,5] ?_
 refine ag ?_
 obtain ⟨v3,hv3,h⟩:=zn h
 refine yx hn 2 ?_
 refine ys 0 ⟨lg call17 (mC _ _ _ _ _ hv3) 60⟩ ?_
 refine ym 4 ?_
 refine bH [60,1,2,3,4,5,6,7] ?_
 refine ag ?_
 refine aM h (fun (s7:Bool)=>[(60,.glob (GL mx)),(0,vb s7)]) ?_ ?_
 rintro s7 h
 refine ai (aC ?_)
 refine aB [1] (by kernel_rfl) (es':=[(_,_)]) rfl ?_
 obtain rfl:=zi h
 exact aE hio rfl (.tmp _ _ .nil) rfl rfl
 intro u8 h hl9 hr10
 refine au h (fun hg5_2 h => ?_) (fun hg5_2 h => ?_)
 refine au h (fun hg5_6 h => ?_) (fun hg5_6 h => ?_)
 refine au h (fun hg5_10 h => ?_) (fun hg5_10 h => ?_)
 obtain ⟨v4,hv4,h⟩:=zn h
 refine au h (fun hg5_15 h => ?_) (fun hg5_15 h => ?_)
 refine au h (fun hg5_19 h => ?_) (fun hg5_19 h => ?_)
 refine au h (fun hg5_24 h => ?_) (fun hg5_24 h => ?_)
 obtain ⟨v5,hv5,v6,hv6,h⟩:=fK h
 refine yx hn 3 ?_
 refine yd hg5_2 4 ?_
 refine yd hg5_6 4 ?_
 refine yd hg5_10 0 ?_
 refine yk [4] [] ?_
 refine yt (41,.agg [vi v2.1.Lj,vi v2.1.Li,.fr (.own 46) false 8 (flatten (map ae.ienc v2.1.Lg))]) 0 ⟨aT _ _ _ _ underlying24 rfl ed rfl rfl⟩ ?_
 refine yk [1] [] ?_
 refine yt (42,.agg [vi 0,vi 1,.fr (.own 46) false 8 (flatten (map ae.ienc ([(ae.mk ((aj.mk true z0 z0)) ([(aj.mk false (⟨#[97]⟩:Ll) (⟨#[98]⟩:Ll))]) [] false z0 0)])))]) 0 ⟨aT _ _ _ _ underlying24 rfl ed rfl rfl⟩ ?_
 refine ys 2 ⟨lk call22 (bK _ _ _ hv4)⟩ ?_
 refine yd hg5_15 4 ?_
 refine yd hg5_19 5 ?_
 refine yd hg5_24 1 ?_
 refine yS (.fl .ro 1 (map (int .u8) v5)) 0 ⟨ik _ _ _ 0 14 _ underlying25 nM rfl rfl rfl ⟨_,rfl⟩ hv5⟩ ?_
 refine ys 3 ⟨lS hv6⟩ ?_
 refine ye [60,0] ?_
 exact hl9 _ (zi h).symm
 refine yx hn 3 ?_
 refine yd hg5_2 4 ?_
 refine yd hg5_6 4 ?_
 refine yd hg5_10 0 ?_
 refine yk [4] [] ?_
 refine yt (41,.agg [vi v2.1.Lj,vi v2.1.Li,.fr (.own 46) false 8 (flatten (map ae.ienc v2.1.Lg))]) 0 ⟨aT _ _ _ _ underlying24 rfl ed rfl rfl⟩ ?_
 refine yk [1] [] ?_
 refine yt (42,.agg [vi 0,vi 1,.fr (.own 46) false 8 (flatten (map ae.ienc ([(ae.mk ((aj.mk true z0 z0)) ([(aj.mk false (⟨#[97]⟩:Ll) (⟨#[98]⟩:Ll))]) [] false z0 0)])))]) 0 ⟨aT _ _ _ _ underlying24 rfl ed rfl rfl⟩ ?_
 refine ys 2 ⟨lk call22 (bK _ _ _ hv4)⟩ ?_
 refine yd hg5_15 4 ?_
 refine yd hg5_19 5 ?_
 refine yd hg5_24 6 ?_
 refine ye [60,0] ?_
 exact hl9 _ (zi h).symm
 refine yx hn 3 ?_
 refine yd hg5_2 4 ?_
 refine yd hg5_6 4 ?_
 refine yd hg5_10 0 ?_
 refine yk [4] [] ?_
 refine yt (41,.agg [vi v2.1.Lj,vi v2.1.Li,.fr (.own 46) false 8 (flatten (map ae.ienc v2.1.Lg))]) 0 ⟨aT _ _ _ _ underlying24 rfl ed rfl rfl⟩ ?_
 refine yk [1] [] ?_
 refine yt (42,.agg [vi 0,vi 1,.fr (.own 46) false 8 (flatten (map ae.ienc ([(ae.mk ((aj.mk true z0 z0)) ([(aj.mk false (⟨#[97]⟩:Ll) (⟨#[98]⟩:Ll))]) [] false z0 0)])))]) 0 ⟨aT _ _ _ _ underlying24 rfl ed rfl rfl⟩ ?_
 refine ys 2 ⟨lk call22 (bK _ _ _ hv4)⟩ ?_
 refine yd hg5_15 4 ?_
 refine yd hg5_19 11 ?_
 refine ye [60,0] ?_
 exact hl9 _ (zi h).symm
 refine yx hn 3 ?_
 refine yd hg5_2 4 ?_
 refine yd hg5_6 4 ?_
 refine yd hg5_10 0 ?_
 refine yk [4] [] ?_
 refine yt (41,.agg [vi v2.1.Lj,vi v2.1.Li,.fr (.own 46) false 8 (flatten (map ae.ienc v2.1.Lg))]) 0 ⟨aT _ _ _ _ underlying24 rfl ed rfl rfl⟩ ?_
 refine yk [1] [] ?_
 refine yt (42,.agg [vi 0,vi 1,.fr (.own 46) false 8 (flatten (map ae.ienc ([(ae.mk ((aj.mk true z0 z0)) ([(aj.mk false (⟨#[97]⟩:Ll) (⟨#[98]⟩:Ll))]) [] false z0 0)])))]) 0 ⟨aT _ _ _ _ underlying24 rfl ed rfl rfl⟩ ?_
 refine ys 2 ⟨lk call22 (bK _ _ _ hv4)⟩ ?_
 refine yd hg5_15 15 ?_
 refine ye [60,0] ?_
 exact hl9 _ (zi h).symm
 refine yx hn 3 ?_
 refine yd hg5_2 4 ?_
 refine yd hg5_6 4 ?_
 refine yd hg5_10 20 ?_
 refine ye [60,0] ?_
 exact hl9 _ (zi h).symm
 refine yx hn 3 ?_
 refine yd hg5_2 4 ?_
 refine yd hg5_6 24 ?_
 refine ye [60,0] ?_
 exact hl9 _ (zi h).symm
 refine yx hn 3 ?_
 refine yd hg5_2 28 ?_
 refine ye [60,0] ?_
 exact hl9 _ (zi h).symm
end Go.Proofs.YtglabbpbianmnaaGreatDoor
