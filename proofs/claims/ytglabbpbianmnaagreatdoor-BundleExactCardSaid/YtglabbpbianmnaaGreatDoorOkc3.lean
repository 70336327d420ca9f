import Derived.Test.YtglabbpbianmnaaGreatDoorOkc2
set_option linter.unusedVariables false
set_option linter.unusedSimpArgs false
set_option maxHeartbeats 1000000
namespace Go.Proofs.YtglabbpbianmnaaGreatDoor
open Go.Abs Go.Abs.Sh Tryz
open List (map flatten)
open Value (int)
theorem lX (s:Ll) (r:Bool) (h:Sh.eN s=some r):cl Tryz.prog 86 [.v (.string s)] (.v (.bool r)):=by
 unfold Sh.eN at h
 refine yO 63 func86 fun g0 hn hio => ?_
 refine aX hn 1 [0] ?_
 refine ag (ag ?_)
 obtain ⟨v1,hv1,h⟩:=zn h
 refine yx hn 2 ?_
 refine ys 1 ⟨lk call43 (aZ _ _ _ _ hv1)⟩ ?_
 refine bH [0,8] ?_
 refine zc h rfl (fun h => ?_) (fun h => ?_)
 refine aX hn 1 [2] ?_
 refine aC (am ?_)
 obtain rfl:=zi h
 exact aE hio rfl (.tmp _ _ .nil) rfl rfl
 refine aA (ai ?_)
 refine aX hn 1 [0,3] ?_
 refine ag ?_
 refine aX hn 1 [0,3,4] ?_
 refine aY h (fun ((s88,s89):Int×Int)=>[(0,vs s),(3,vi s88),(4,vi s89)]) (fun (():Unit)=>[]) ?_ ?_
 rintro ⟨⟩ h
 refine ai ?_
 refine aX hn 1 [2] ?_
 refine aC ?_
 obtain rfl:=zi h
 exact aE hio rfl (.tmp _ _ .nil) rfl rfl
 rintro u125 hl126 hr127 ⟨s88,s89⟩ rr130 h ho128
 refine ag ?_
 refine aX hn 4 [0,3,4,12] ?_
 refine zc h rfl (fun h => ?_) (fun h => ?_)
 refine aA ?_
 refine ai (ag ?_)
 refine aM h (fun (s147:Int)=>[(0,vs s),(3,vi s147),(4,vi s89)]) ?_ ?_
 rintro s147 h
 refine ai ?_
 obtain ⟨v50,hv50,h⟩:=zn h
 refine yx hn 1 ?_
 refine ys 0 ⟨lb hv50⟩ ?_
 refine yw [4] 1 ?_
 refine ye [0,3,4] ?_
 exact bC _ (zi h).symm rfl
 intro u148 h hl149 hr150
 refine aP (ag (ag ?_))
 refine aM h (fun (s151:Bool)=>[(0,vs s),(3,vi s88),(4,vi s89),(24,vb s151)]) ?_ ?_
 rintro s151 h
 refine ai ?_
 refine zc h rfl (fun h => ?_) (fun h => ?_)
 refine ag (ag ?_)
 refine aM h (fun (s156:Bool)=>[(0,vs s),(3,vi s88),(4,vi s89),(42,vb s156)]) ?_ ?_
 rintro s156 h
 refine ai ?_
 refine zc h rfl (fun h => ?_) (fun h => ?_)
 refine aX hn 1 [2] ?_
 refine aC (am (am (aV (am (am (aV (am ?_)))))))
 have h:=hr150 _ (zi h).symm
 have h:=hr127 _ (ho128 _ (zi h).symm).symm
 obtain rfl:=zi h
 exact aE hio rfl (.tmp _ _ .nil) rfl rfl
 refine aA (ai (bk (aD (bo ?_))))
 refine aB [0,1,2] (by kernel_rfl) (es':=[(_,_),(_,_),(_,_)]) rfl ?_
 exact hl149 _ (zi h).symm
 intro u157 h hl158 hr159
 obtain ⟨v10,hv10,v11,hv11,h⟩:=fK h
 refine au h (fun hg8_5 h => ?_) (fun hg8_5 h => ?_)
 obtain ⟨v12,hv12,v13,hv13,h⟩:=fK h
 refine au h (fun hg8_12 h => ?_) (fun hg8_12 h => ?_)
 obtain ⟨v14,hv14,h⟩:=zn h
 refine yx hn 2 ?_
 refine ys 0 ⟨lh hv10⟩ ?_
 refine ys 2 ⟨lk call107 (dN _ _ hv11)⟩ ?_
 refine yd hg8_5 2 ?_
 refine ys 0 ⟨lh hv12⟩ ?_
 refine ys 3 ⟨lk call60 (fg _ _ hv13)⟩ ?_
 refine yd hg8_12 2 ?_
 refine ys 2 ⟨lh hv14⟩ ?_
 refine ye [0,3,4,42] ?_
 exact hl158 _ (zi h).symm
 refine yx hn 2 ?_
 refine ys 0 ⟨lh hv10⟩ ?_
 refine ys 2 ⟨lk call107 (dN _ _ hv11)⟩ ?_
 refine yd hg8_5 2 ?_
 refine ys 0 ⟨lh hv12⟩ ?_
 refine ys 3 ⟨lk call60 (fg _ _ hv13)⟩ ?_
 refine yd hg8_12 5 ?_
 refine ye [0,3,4,42] ?_
 exact hl158 _ (zi h).symm
 refine yx hn 2 ?_
 refine ys 0 ⟨lh hv10⟩ ?_
 refine ys 2 ⟨lk call107 (dN _ _ hv11)⟩ ?_
 refine yd hg8_5 12 ?_
 refine ye [0,3,4,42] ?_
 exact hl158 _ (zi h).symm
 refine aA ?_
 refine ai (ag ?_)
 refine ag ?_
 refine aM h (fun (s161:Bool)=>[(0,vs s),(4,vi s89),(60,vb s161)]) ?_ ?_
 rintro s161 h
 refine ai ?_
 refine zc h rfl (fun h => ?_) (fun h => ?_)
 refine aX hn 1 [2] ?_
 refine aC (am (aV (am (am (aV (am ?_))))))
 have h:=hr150 _ (zi h).symm
 have h:=hr127 _ (ho128 _ (zi h).symm).symm
 obtain rfl:=zi h
 exact aE hio rfl (.tmp _ _ .nil) rfl rfl
 refine aA (ai ?_)
 obtain ⟨v30,hv30,h⟩:=zn h
 refine yx hn 1 ?_
 refine ys 1 ⟨lb hv30⟩ ?_
 refine ye [0,4,3] ?_
 refine br ?_
 refine aB [0,2,1] (by kernel_rfl) (es':=[(_,_),(_,_),(_,_)]) rfl ?_
 exact hl149 _ (zi h).symm
 intro u162 h hl163 hr164
 obtain ⟨v20,hv20,v21,hv21,h⟩:=fK h
 refine au h (fun hg10_5 h => ?_) (fun hg10_5 h => ?_)
 refine yx hn 2 ?_
 refine ys 0 ⟨lb hv20⟩ ?_
 refine ys 2 ⟨lk call43 (aZ _ _ _ _ hv21)⟩ ?_
 refine yd hg10_5 12 ?_
 refine ye [0,4,60] ?_
 exact hl163 _ (zi h).symm
 obtain ⟨v22,hv22,h⟩:=zn h
 refine au h (fun hg10_11 h => ?_) (fun hg10_11 h => ?_)
 refine yx hn 2 ?_
 refine ys 0 ⟨lb hv20⟩ ?_
 refine ys 2 ⟨lk call43 (aZ _ _ _ _ hv21)⟩ ?_
 refine yd hg10_5 2 ?_
 refine ys 3 ⟨lh hv22⟩ ?_
 refine yd hg10_11 6 ?_
 refine ye [0,4,60] ?_
 exact hl163 _ (zi h).symm
 obtain ⟨v23,hv23,v24,hv24,h⟩:=fK h
 refine yx hn 2 ?_
 refine ys 0 ⟨lb hv20⟩ ?_
 refine ys 2 ⟨lk call43 (aZ _ _ _ _ hv21)⟩ ?_
 refine yd hg10_5 2 ?_
 refine ys 3 ⟨lh hv22⟩ ?_
 refine yd hg10_11 2 ?_
 refine ys 0 ⟨lb hv23⟩ ?_
 refine ys 2 ⟨lh hv24⟩ ?_
 refine ye [0,4,60] ?_
 exact hl163 _ (zi h).symm
 intro u152 h hl153 hr154
 refine au h (fun hg7_4 h => ?_) (fun hg7_4 h => ?_)
 obtain ⟨v4,hv4,h⟩:=zn h
 refine yx hn 5 ?_
 refine yd hg7_4 2 ?_
 refine ys 2 ⟨lh hv4⟩ ?_
 refine ye [0,3,4,24] ?_
 exact hl153 _ (zi h).symm
 refine yx hn 5 ?_
 refine yd hg7_4 5 ?_
 refine ye [0,3,4,24] ?_
 exact hl153 _ (zi h).symm
 refine bk (aD (aD (bo ?_)))
 refine aB [] (by kernel_rfl) (es':=[]) rfl ?_
 exact hl126 _ (ho128 _ (zi h).symm).symm
theorem cZ (p:aj) (r:Bool) (h:Sh.cP p=some r):cl Tryz.prog 66 [.agg [.v (.bool p.Lh),.v (.string p.Lf),.v (.string p.Lc)]] (.v (.bool r)):=by
 unfold Sh.cP at h
 refine yO 21 func66 fun g0 hn hio => ?_
 refine aX hn 2 [1] ?_
 refine ag ?_
 refine aX hn 2 [1,4] ?_
 refine zc h rfl (fun h => ?_) (fun h => ?_)
 refine ag ?_
 refine aM h (fun (s2:Bool)=>[(2,vb s2)]) ?_ ?_
 rintro s2 h
 refine ai (aC ?_)
 refine am ?_
 obtain rfl:=zi h
 exact aE hio rfl (.tmp _ _ .nil) rfl rfl
 intro u3 h hl4 hr5
 refine au h (fun hg2_3 h => ?_) (fun hg2_3 h => ?_)
 refine yx hn 4 ?_
 refine yd hg2_3 5 ?_
 refine ye [2] ?_
 exact hl4 _ (zi h).symm
 refine yx hn 4 ?_
 refine yd hg2_3 5 ?_
 refine ye [2] ?_
 exact hl4 _ (zi h).symm
 refine aA ?_
 refine ai (ag ?_)
 refine aM h (fun (s8:Bool)=>[(2,vb s8)]) ?_ ?_
 rintro s8 h
 refine ai (aC ?_)
 obtain rfl:=zi h
 exact aE hio rfl (.tmp _ _ .nil) rfl rfl
 intro u9 h hl10 hr11
 obtain ⟨v6,hv6,h⟩:=zn h
 refine au h (fun hg3_3 h => ?_) (fun hg3_3 h => ?_)
 obtain ⟨v7,hv7,h⟩:=zn h
 refine yx hn 2 ?_
 refine ys 1 ⟨lk call85 (ju _ _ hv6)⟩ ?_
 refine yd hg3_3 2 ?_
 refine ys 2 ⟨lk call86 (lX _ _ hv7)⟩ ?_
 refine ye [2] ?_
 exact hl10 _ (zi h).symm
 refine yx hn 2 ?_
 refine ys 1 ⟨lk call85 (ju _ _ hv6)⟩ ?_
 refine yd hg3_3 5 ?_
 refine ye [2] ?_
 exact hl10 _ (zi h).symm
theorem gF (b:(List Int)) (r:Bool) (h:Sh.bI b=some r):cl Tryz.prog 67 [.fl .shr 1 (map (int .u8) b)] (.v (.bool r)):=by
 unfold Sh.bI at h
 refine yO 61 func67 fun g0 hn hio => ?_
 refine aX hn 1 [0] ?_
 refine ag ?_
 refine aX hn 1 [0,3] ?_
 refine aY h (fun (s31:Int)=>[(0,fb b),(3,vi s31)]) (fun (():Unit)=>[(0,fb b)]) ?_ ?_
 rintro ⟨⟩ h
 refine ai (ag ?_)
 refine aM h (fun (s53:Bool)=>[(2,vb s53)]) ?_ ?_
 rintro s53 h
 refine ai (aC ?_)
 obtain rfl:=zi h
 exact aE hio rfl (.tmp _ _ .nil) rfl rfl
 intro u54 h hl55 hr56
 refine au h (fun hg6_3 h => ?_) (fun hg6_3 h => ?_)
 refine yx hn 4 ?_
 refine yd hg6_3 9 ?_
 refine ye [2] ?_
 exact hl55 _ (zi h).symm
 obtain ⟨v50,hv50,v51,hv51,v52,hv52,h⟩:=mh h
 refine yx hn 4 ?_
 refine yd hg6_3 3 ?_
 refine ys 0 ⟨lb hv50⟩ ?_
 refine ys 0 ⟨li hv51⟩ ?_
 refine ys 3 ⟨ll hv52⟩ ?_
 refine ye [2] ?_
 exact hl55 _ (zi h).symm
 rintro u38 hl39 hr40 s31 rr43 h ho41
 refine ag ?_
 refine aX hn 4 [0,3,7] ?_
 refine zc h rfl (fun h => ?_) (fun h => ?_)
 refine aA ?_
 refine ai (ag ?_)
 refine aP (ag ?_)
 refine aM h (fun (s45:Bool)=>[(0,fb b),(3,vi s31),(48,vb s45)]) ?_ ?_
 rintro s45 h
 refine ai ?_
 refine zc h rfl (fun h => ?_) (fun h => ?_)
 refine aX hn 1 [2] ?_
 refine aC (aV (am (am (aV (am ?_)))))
 have h:=hr40 _ (ho41 _ (zi h).symm).symm
 obtain rfl:=zi h
 exact aE hio rfl (.tmp _ _ .nil) rfl rfl
 refine aA (br (ai ?_))
 obtain ⟨v23,hv23,h⟩:=zn h
 refine yx hn 1 ?_
 refine ys 0 ⟨lb hv23⟩ ?_
 refine yw [3] 1 ?_
 refine ye [0,3] ?_
 exact bC _ (zi h).symm rfl
 intro u46 h hl47 hr48
 obtain ⟨v2,hv2,v3,hv3,h⟩:=fK h
 refine au h (fun hg4_5 h => ?_) (fun hg4_5 h => ?_)
 obtain ⟨v4,hv4,h⟩:=zn h
 refine au h (fun hg4_11 h => ?_) (fun hg4_11 h => ?_)
 refine yx hn 2 ?_
 refine ys 0 ⟨li hv2⟩ ?_
 refine ys 2 ⟨ll hv3⟩ ?_
 refine yd hg4_5 1 ?_
 refine ys 4 ⟨lb hv4⟩ ?_
 refine yd hg4_11 27 ?_
 refine ye [0,3,48] ?_
 exact hl47 _ (zi h).symm
 obtain ⟨v5,hv5,v6,hv6,v7,hv7,h⟩:=mh h
 refine au h (fun hg4_20 h => ?_) (fun hg4_20 h => ?_)
 refine yx hn 2 ?_
 refine ys 0 ⟨li hv2⟩ ?_
 refine ys 2 ⟨ll hv3⟩ ?_
 refine yd hg4_5 1 ?_
 refine ys 4 ⟨lb hv4⟩ ?_
 refine yd hg4_11 2 ?_
 refine ys 0 ⟨lb hv5⟩ ?_
 refine ys 0 ⟨li hv6⟩ ?_
 refine ys 4 ⟨ll hv7⟩ ?_
 refine yd hg4_20 18 ?_
 refine ye [0,3,48] ?_
 exact hl47 _ (zi h).symm
 obtain ⟨v8,hv8,v9,hv9,h⟩:=fK h
 refine au h (fun hg4_26 h => ?_) (fun hg4_26 h => ?_)
 refine au h (fun hg4_29 h => ?_) (fun hg4_29 h => ?_)
 refine yx hn 2 ?_
 refine ys 0 ⟨li hv2⟩ ?_
 refine ys 2 ⟨ll hv3⟩ ?_
 refine yd hg4_5 1 ?_
 refine ys 4 ⟨lb hv4⟩ ?_
 refine yd hg4_11 2 ?_
 refine ys 0 ⟨lb hv5⟩ ?_
 refine ys 0 ⟨li hv6⟩ ?_
 refine ys 4 ⟨ll hv7⟩ ?_
 refine yd hg4_20 2 ?_
 refine ys 0 ⟨li hv8⟩ ?_
 refine ys 2 ⟨ll hv9⟩ ?_
 refine yd hg4_26 3 ?_
 refine yd hg4_29 9 ?_
 refine ye [0,3,48] ?_
 exact hl47 _ (zi h).symm
 obtain ⟨v10,hv10,v11,hv11,v12,hv12,h⟩:=mh h
 refine yx hn 2 ?_
 refine ys 0 ⟨li hv2⟩ ?_
 refine ys 2 ⟨ll hv3⟩ ?_
 refine yd hg4_5 1 ?_
 refine ys 4 ⟨lb hv4⟩ ?_
 refine yd hg4_11 2 ?_
 refine ys 0 ⟨lb hv5⟩ ?_
 refine ys 0 ⟨li hv6⟩ ?_
 refine ys 4 ⟨ll hv7⟩ ?_
 refine yd hg4_20 2 ?_
 refine ys 0 ⟨li hv8⟩ ?_
 refine ys 2 ⟨ll hv9⟩ ?_
 refine yd hg4_26 3 ?_
 refine yd hg4_29 2 ?_
 refine ys 0 ⟨lb hv10⟩ ?_
 refine ys 0 ⟨li hv11⟩ ?_
 refine ys 4 ⟨ll hv12⟩ ?_
 refine ye [0,3,48] ?_
 exact hl47 _ (zi h).symm
 refine yx hn 2 ?_
 refine ys 0 ⟨li hv2⟩ ?_
 refine ys 2 ⟨ll hv3⟩ ?_
 refine yd hg4_5 1 ?_
 refine ys 4 ⟨lb hv4⟩ ?_
 refine yd hg4_11 2 ?_
 refine ys 0 ⟨lb hv5⟩ ?_
 refine ys 0 ⟨li hv6⟩ ?_
 refine ys 4 ⟨ll hv7⟩ ?_
 refine yd hg4_20 2 ?_
 refine ys 0 ⟨li hv8⟩ ?_
 refine ys 2 ⟨ll hv9⟩ ?_
 refine yd hg4_26 12 ?_
 refine ye [0,3,48] ?_
 exact hl47 _ (zi h).symm
 obtain ⟨v13,hv13,v14,hv14,h⟩:=fK h
 refine au h (fun hg4_26 h => ?_) (fun hg4_26 h => ?_)
 refine au h (fun hg4_29 h => ?_) (fun hg4_29 h => ?_)
 refine yx hn 2 ?_
 refine ys 0 ⟨li hv2⟩ ?_
 refine ys 2 ⟨ll hv3⟩ ?_
 refine yd hg4_5 17 ?_
 refine ys 0 ⟨li hv13⟩ ?_
 refine ys 2 ⟨ll hv14⟩ ?_
 refine yd hg4_26 3 ?_
 refine yd hg4_29 9 ?_
 refine ye [0,3,48] ?_
 exact hl47 _ (zi h).symm
 obtain ⟨v15,hv15,v16,hv16,v17,hv17,h⟩:=mh h
 refine yx hn 2 ?_
 refine ys 0 ⟨li hv2⟩ ?_
 refine ys 2 ⟨ll hv3⟩ ?_
 refine yd hg4_5 17 ?_
 refine ys 0 ⟨li hv13⟩ ?_
 refine ys 2 ⟨ll hv14⟩ ?_
 refine yd hg4_26 3 ?_
 refine yd hg4_29 2 ?_
 refine ys 0 ⟨lb hv15⟩ ?_
 refine ys 0 ⟨li hv16⟩ ?_
 refine ys 4 ⟨ll hv17⟩ ?_
 refine ye [0,3,48] ?_
 exact hl47 _ (zi h).symm
 refine yx hn 2 ?_
 refine ys 0 ⟨li hv2⟩ ?_
 refine ys 2 ⟨ll hv3⟩ ?_
 refine yd hg4_5 17 ?_
 refine ys 0 ⟨li hv13⟩ ?_
 refine ys 2 ⟨ll hv14⟩ ?_
 refine yd hg4_26 12 ?_
 refine ye [0,3,48] ?_
 exact hl47 _ (zi h).symm
 refine bk (aD (aD (bo ?_)))
 refine aB [0] (by kernel_rfl) (es':=[(_,_)]) rfl ?_
 exact hl39 _ (ho41 _ (zi h).symm).symm
theorem fx (m:ae) (r:Bool) (h:Sh.cT m=some r):cl Tryz.prog 44 [.agg [.v (.bool m.Ld.Lh),.v (.string m.Ld.Lf),.v (.string m.Ld.Lc),.fl .shr 3 (flatten (map aj.enc m.To)),.fl .shr 1 (map (int .u8) m.Lb),.v (.bool m.Lk),.v (.string m.Le),.v (.int .i64 m.At)]] (.v (.bool r)):=by
 unfold Sh.cT at h
 refine yO 49 func44 fun g0 hn hio => ?_
 refine aX hn 2 [1] ?_
 refine ag (ag ?_)
 refine aM h (fun (s4:Bool)=>[(1,.box 46 (ae.c m [])),(26,vb s4)]) ?_ ?_
 rintro s4 h
 refine ai ?_
 refine zc h rfl (fun h => ?_) (fun h => ?_)
 refine aX hn 1 [2] ?_
 refine aC (am ?_)
 obtain rfl:=zi h
 exact aE hio rfl (.tmp _ _ .nil) rfl rfl
 refine aA ?_
 refine ai (ag ?_)
 refine aX hn 1 [1,3] ?_
 refine aY h (fun (s28:Int)=>[(1,.box 46 (ae.c m [])),(3,vi s28)]) (fun (():Unit)=>[]) ?_ ?_
 rintro ⟨⟩ h
 refine ai ?_
 refine aX hn 1 [2] ?_
 refine aC ?_
 obtain rfl:=zi h
 exact aE hio rfl (.tmp _ _ .nil) rfl rfl
 rintro u35 hl36 hr37 s28 rr40 h ho38
 refine ag ?_
 refine aX hn 5 [1,3,31] ?_
 refine zc h rfl (fun h => ?_) (fun h => ?_)
 refine aA ?_
 refine ai (ag ?_)
 refine aP (ag ?_)
 refine aM h (fun (s42:Bool)=>[(1,.box 46 (ae.c m [])),(3,vi s28),(48,vb s42)]) ?_ ?_
 rintro s42 h
 refine ai ?_
 refine zc h rfl (fun h => ?_) (fun h => ?_)
 refine aX hn 1 [2] ?_
 refine aC (aV (am (am (aV (am ?_)))))
 have h:=hr37 _ (ho38 _ (zi h).symm).symm
 obtain rfl:=zi h
 exact aE hio rfl (.tmp _ _ .nil) rfl rfl
 refine aA (br (ai ?_))
 obtain ⟨v20,hv20,h⟩:=zn h
 refine yx hn 1 ?_
 refine ys 0 ⟨lb hv20⟩ ?_
 refine yw [3] 1 ?_
 refine ye [1,3] ?_
 exact bC _ (zi h).symm rfl
 intro u43 h hl44 hr45
 obtain ⟨v10,hv10,v11,hv11,v12,hv12,h⟩:=mh h
 refine au h (fun hg6_7 h => ?_) (fun hg6_7 h => ?_)
 refine yx hn 3 ?_
 refine ys 0 ⟨lj hv10⟩ ?_
 refine yS (.agg [vb v11.Lh,vs v11.Lf,vs v11.Lc]) 0 ⟨gY _ _ _ _ _ _ _ underlying43 rfl iG rfl rfl (jo aj.len hv11) rfl (by decide)⟩ ?_
 refine ys 2 ⟨lk call66 (cZ _ _ hv12)⟩ ?_
 refine yd hg6_7 7 ?_
 refine ye [1,3,48] ?_
 exact hl44 _ (zi h).symm
 obtain ⟨v13,hv13,v14,hv14,h⟩:=fK h
 refine yx hn 3 ?_
 refine ys 0 ⟨lj hv10⟩ ?_
 refine yS (.agg [vb v11.Lh,vs v11.Lf,vs v11.Lc]) 0 ⟨gY _ _ _ _ _ _ _ underlying43 rfl iG rfl rfl (jo aj.len hv11) rfl (by decide)⟩ ?_
 refine ys 2 ⟨lk call66 (cZ _ _ hv12)⟩ ?_
 refine yd hg6_7 3 ?_
 refine ys 1 ⟨lj hv13⟩ ?_
 refine ys 1 ⟨lL hv14⟩ ?_
 refine ye [1,3,48] ?_
 exact hl44 _ (zi h).symm
 refine bk (aD (aD (bo ?_)))
 refine aB [] (by kernel_rfl) (es':=[]) rfl ?_
 exact hl36 _ (ho38 _ (zi h).symm).symm
 intro u5 h hl6 hr7
 obtain ⟨v1,hv1,h⟩:=zn h
 refine au h (fun hg1_4 h => ?_) (fun hg1_4 h => ?_)
 refine yx hn 2 ?_
 refine ys 2 ⟨lk call66 (cZ _ _ hv1)⟩ ?_
 refine yd hg1_4 18 ?_
 refine ye [1,26] ?_
 exact hl6 _ (zi h).symm
 obtain ⟨v2,hv2,h⟩:=zn h
 refine au h (fun hg1_11 h => ?_) (fun hg1_11 h => ?_)
 refine yx hn 2 ?_
 refine ys 2 ⟨lk call66 (cZ _ _ hv1)⟩ ?_
 refine yd hg1_4 3 ?_
 refine ys 3 ⟨lk call43 (aZ _ _ _ _ hv2)⟩ ?_
 refine yd hg1_11 11 ?_
 refine ye [1,26] ?_
 exact hl6 _ (zi h).symm
 obtain ⟨v3,hv3,h⟩:=zn h
 refine au h (fun hg1_17 h => ?_) (fun hg1_17 h => ?_)
 refine yx hn 2 ?_
 refine ys 2 ⟨lk call66 (cZ _ _ hv1)⟩ ?_
 refine yd hg1_4 3 ?_
 refine ys 3 ⟨lk call43 (aZ _ _ _ _ hv2)⟩ ?_
 refine yd hg1_11 2 ?_
 refine ys 3 ⟨lk call67 (gF _ _ hv3)⟩ ?_
 refine yd hg1_17 5 ?_
 refine ye [1,26] ?_
 exact hl6 _ (zi h).symm
 refine yx hn 2 ?_
 refine ys 2 ⟨lk call66 (cZ _ _ hv1)⟩ ?_
 refine yd hg1_4 3 ?_
 refine ys 3 ⟨lk call43 (aZ _ _ _ _ hv2)⟩ ?_
 refine yd hg1_11 2 ?_
 refine ys 3 ⟨lk call67 (gF _ _ hv3)⟩ ?_
 refine yd hg1_17 5 ?_
 refine ye [1,26] ?_
 exact hl6 _ (zi h).symm
theorem bS (b:az) (r:Bool) (h:Sh.cn b=some r):cl Tryz.prog 20 [.agg [.v (.int .i64 b.Lj),.v (.int .i64 b.Li),.fr .shr true 8 (flatten (map ae.ienc b.Lg))]] (.v (.bool r)):=by
 unfold Sh.cn at h
 refine yO 51 func20 fun g0 hn hio => ?_
 refine aX hn 2 [1] ?_
 refine ag (ag ?_)
 refine aM h (fun (s4:Bool)=>[(1,.box 24 [vi b.Lj,vi b.Li,.fr .shr true 8 (flatten (map ae.ienc b.Lg))]),(21,vb s4)]) ?_ ?_
 rintro s4 h
 refine ai ?_
 refine zc h rfl (fun h => ?_) (fun h => ?_)
 refine aX hn 1 [2] ?_
 refine aC (am ?_)
 obtain rfl:=zi h
 exact aE hio rfl (.tmp _ _ .nil) rfl rfl
 refine aA ?_
 refine ai (ag ?_)
 refine aX hn 1 [1,3] ?_
 refine aY h (fun (s26:Int)=>[(1,.box 24 [vi b.Lj,vi b.Li,.fr .shr true 8 (flatten (map ae.ienc b.Lg))]),(3,vi s26)]) (fun (():Unit)=>[]) ?_ ?_
 rintro ⟨⟩ h
 refine ai ?_
 refine aX hn 1 [2] ?_
 refine aC ?_
 obtain rfl:=zi h
 exact aE hio rfl (.tmp _ _ .nil) rfl rfl
 rintro u33 hl34 hr35 s26 rr38 h ho36
 refine ag ?_
 refine aX hn 5 [1,3,26] ?_
 refine zc h rfl (fun h => ?_) (fun h => ?_)
 refine aA ?_
 refine ai (ag ?_)
 refine aP (ag ?_)
 obtain ⟨v10,hv10,v11,hv11,h⟩:=fK h
 refine yx hn 3 ?_
 refine ys 0 ⟨lI hv10⟩ ?_
 refine yS (.agg (ae.c v11 [])) 0 ⟨dX _ _ _ _ _ _ _ _ underlying46 rfl eC rfl rfl (eY ae.ilen hv11) (.cons (.v _) (.cons (.v _) (.cons (.v _) (.cons (.fl _ _ rfl) (.cons (.fl _ _ rfl) (.cons (.v _) (.cons (.v _) (.cons (.v _) (.nil))))))))) rfl (by decide)⟩ ?_
 refine yS (.box 46 [vb false,vs z0,vs z0,vz,vz,vb false,vs z0,vi 0]) 1 ⟨oA (bu _ _ ks)⟩ ?_
 refine bH [1,3,4] ?_
 refine ag ?_
 refine aM h (fun (s40:Bool)=>[(1,.box 24 [vi b.Lj,vi b.Li,.fr .shr true 8 (flatten (map ae.ienc b.Lg))]),(3,vi s26),(50,vb s40)]) ?_ ?_
 rintro s40 h
 refine ai ?_
 refine zc h rfl (fun h => ?_) (fun h => ?_)
 refine aX hn 1 [2] ?_
 refine aC (aV (am (am (aV (am ?_)))))
 have h:=hr35 _ (ho36 _ (zi h).symm).symm
 obtain rfl:=zi h
 exact aE hio rfl (.tmp _ _ .nil) rfl rfl
 refine aA (br (ai ?_))
 obtain ⟨v18,hv18,h⟩:=zn h
 refine yx hn 1 ?_
 refine ys 0 ⟨lb hv18⟩ ?_
 refine yw [3] 1 ?_
 refine ye [1,3] ?_
 exact bC _ (zi h).symm rfl
 intro u41 h hl42 hr43
 obtain ⟨v12,hv12,h⟩:=zn h
 refine au h (fun hg7_3 h => ?_) (fun hg7_3 h => ?_)
 refine yx hn 1 ?_
 refine ys 2 ⟨lk call44 (fx _ _ hv12)⟩ ?_
 refine yd hg7_3 13 ?_
 refine ye [1,3,50] ?_
 exact hl42 _ (zi h).symm
 refine au h (fun hg7_7 h => ?_) (fun hg7_7 h => ?_)
 refine yx hn 1 ?_
 refine ys 2 ⟨lk call44 (fx _ _ hv12)⟩ ?_
 refine yd hg7_3 4 ?_
 refine yd hg7_7 9 ?_
 refine ye [1,3,50] ?_
 exact hl42 _ (zi h).symm
 refine au h (fun hg7_12 h => ?_) (fun hg7_12 h => ?_)
 refine yx hn 1 ?_
 refine ys 2 ⟨lk call44 (fx _ _ hv12)⟩ ?_
 refine yd hg7_3 4 ?_
 refine yd hg7_7 5 ?_
 refine yd hg7_12 4 ?_
 refine ye [1,3,50] ?_
 exact hl42 _ (zi h).symm
 refine yx hn 1 ?_
 refine ys 2 ⟨lk call44 (fx _ _ hv12)⟩ ?_
 refine yd hg7_3 4 ?_
 refine yd hg7_7 5 ?_
 refine yd hg7_12 4 ?_
 refine ye [1,3,50] ?_
 exact hl42 _ (zi h).symm
 refine bk (aD (aD (bo ?_)))
 refine aB [] (by kernel_rfl) (es':=[]) rfl ?_
 exact hl34 _ (ho36 _ (zi h).symm).symm
 intro u5 h hl6 hr7
 obtain ⟨v1,hv1,h⟩:=zn h
 refine au h (fun hg1_4 h => ?_) (fun hg1_4 h => ?_)
 refine yx hn 2 ?_
 refine ys 2 ⟨lk call43 (aZ _ _ _ _ hv1)⟩ ?_
 refine yd hg1_4 12 ?_
 refine ye [1,21] ?_
 exact hl6 _ (zi h).symm
 obtain ⟨v2,hv2,h⟩:=zn h
 refine au h (fun hg1_10 h => ?_) (fun hg1_10 h => ?_)
 refine yx hn 2 ?_
 refine ys 2 ⟨lk call43 (aZ _ _ _ _ hv1)⟩ ?_
 refine yd hg1_4 2 ?_
 refine ys 3 ⟨lk call43 (aZ _ _ _ _ hv2)⟩ ?_
 refine yd hg1_10 6 ?_
 refine ye [1,21] ?_
 exact hl6 _ (zi h).symm
 obtain ⟨v3,hv3,h⟩:=zn h
 refine yx hn 2 ?_
 refine ys 2 ⟨lk call43 (aZ _ _ _ _ hv1)⟩ ?_
 refine yd hg1_4 2 ?_
 refine ys 3 ⟨lk call43 (aZ _ _ _ _ hv2)⟩ ?_
 refine yd hg1_10 3 ?_
 refine ys 2 ⟨lk call43 (aZ _ _ _ _ hv3)⟩ ?_
 refine ye [1,21] ?_
 exact hl6 _ (zi h).symm
theorem jK (p:aj) (r:Ll) (h:Sh.cE p=some r):cl Tryz.prog 54 [.agg [.v (.bool p.Lh),.v (.string p.Lf),.v (.string p.Lc)]] (.v (.string r)):=by
 unfold Sh.cE at h
 refine yO 13 func54 fun g0 hn hio => ?_
 refine aX hn 2 [1] ?_
 refine ag ?_
 refine aX hn 2 [1,4] ?_
 refine zc h rfl (fun h => ?_) (fun h => ?_)
 refine aX hn 1 [2] ?_
 refine aC (am ?_)
 obtain rfl:=zi h
 exact aE hio rfl (.tmp _ _ .nil) rfl rfl
 refine aA ?_
 refine ai (ag ?_)
 obtain ⟨v2,hv2,v3,hv3,v4,hv4,v5,hv5,h⟩:=ov h
 refine yx hn 2 ?_
 refine ys 0 ⟨lB (dA hv2)⟩ ?_
 refine ys 2 ⟨lB (dA hv3)⟩ ?_
 refine ys 0 ⟨lB (dA hv4)⟩ ?_
 refine ys 1 ⟨lB (dA hv5)⟩ ?_
 refine bH [2] ?_
 refine aC ?_
 obtain rfl:=zi h
 exact aE hio rfl (.tmp _ _ .nil) rfl rfl
theorem mA (b:(List Int)) (r:(List Int)) (h:Sh.ej b=some r):cl Tryz.prog 55 [.fl .shr 1 (map (int .u8) b)] (.fl (.own 5) 1 (map (int .u8) r)):=by
 unfold Sh.ej at h
 refine yO 41 func55 fun g0 hn hio => ?_
 refine aX hn 1 [0] ?_
 refine aX hn 1 [0,3] ?_
 refine ag ?_
 refine aX hn 1 [0,3,4] ?_
 refine gX (fs:=[(0,fb b),(3,.fl (.own 5) 1 (map (int .u8) [])),(4,vi 0)]) (.same _ (.sub _ (cd 5 1) rfl (.same _ .nil))) ?_
 refine aY h (fun ((s43,s44):(List Int)×Int)=>[(0,fb b),(3,.fl (.own 5) 1 (map (int .u8) s43)),(4,vi s44)]) (fun (s60:(List Int))=>[(3,.fl (.own 5) 1 (map (int .u8) s60))]) ?_ ?_
 rintro s60 h
 refine ai (ag ?_)
 obtain ⟨v82,hv82,h⟩:=zn h
 refine yx hn 0 ?_
 refine ym 0 ?_
 refine yS (.fl (.own 5) 1 (map (int .u8) [46,13,10])) 0 ⟨cb _ _ 1 (.int .u8 0) (map (int .u8) [46,13,10]) [(0,.int .u8 46),(1,.int .u8 13),(2,.int .u8 10)] underlying25 nM tj (fun _ V w o a hv hes=>by simp only [List.map_toArray,List.map_cons,List.map_nil]; try rfl) (fv (by simp [Instr.fill,Value.cells]; rfl) (by simp [List.range,List.range.loop] <;> rfl)) (by simp [Value.oneCell']) rfl (by decide) (by decide) (by decide)⟩ ?_
 refine yp kC hv82 0 ?_
 refine ya 0 ?_
 refine bH [2] ?_
 refine aC ?_
 obtain rfl:=zi h
 exact aE hio rfl (.tmp _ _ .nil) rfl rfl
 rintro u61 hl62 hr63 ⟨s43,s44⟩ rr66 h ho64
 refine ag ?_
 refine aX hn 4 [0,3,4,8] ?_
 refine zc h rfl (fun h => ?_) (fun h => ?_)
 refine aA ?_
 refine ai (ag ?_)
 refine aP (ag ?_)
 refine aM h (fun (s73:(List Int))=>[(0,fb b),(4,vi s44),(3,.fl (.own 5) 1 (map (int .u8) s73))]) ?_ ?_
 rintro s73 h
 refine ai ?_
 obtain ⟨v22,hv22,v23,hv23,v24,hv24,h⟩:=mh h
 refine yx hn 0 ?_
 refine ym 2 ?_
 refine ys 0 ⟨li hv22⟩ ?_
 refine ys 0 ⟨ll hv23⟩ ?_
 refine yS (.fl (.own 5) 1 (map (int .u8) [v23])) 0 ⟨cb _ _ 1 (.int .u8 0) (map (int .u8) [v23]) [(0,.int .u8 v23)] underlying25 nM tj (fun _ V w o a hv hes=>by have e0:=dL hv hes (x := .tmp 35) rfl; simp only [List.map_toArray,List.map_cons,List.map_nil,e0]; try rfl) (fv (by simp [Instr.fill,Value.cells]; rfl) (by simp [List.range,List.range.loop] <;> rfl)) (by simp [Value.oneCell']) rfl (by decide) (by decide) (by decide)⟩ ?_
 refine yp kC hv24 0 ?_
 refine ya 0 ?_
 refine ye [0,4,3] ?_
 refine br (ai ?_)
 obtain ⟨v25,hv25,h⟩:=zn h
 refine yx hn 1 ?_
 refine ys 0 ⟨lb hv25⟩ ?_
 refine yw [4] 1 ?_
 refine ye [0,3,4] ?_
 exact bC _ (zi h).symm rfl
 intro u74 h hl75 hr76
 refine ag ?_
 refine aM h (fun (s77:Bool)=>[(0,fb b),(3,.fl (.own 5) 1 (map (int .u8) s43)),(4,vi s44),(27,vb s77)]) ?_ ?_
 rintro s77 h
 refine ai ?_
 refine zc h rfl (fun h => ?_) (fun h => ?_)
 obtain ⟨v12,hv12,h⟩:=zn h
 refine yx hn 0 ?_
 refine ym 0 ?_
 refine yS (.fl (.own 5) 1 (map (int .u8) [46])) 0 ⟨cb _ _ 1 (.int .u8 0) (map (int .u8) [46]) [(0,.int .u8 46)] underlying25 nM tj (fun _ V w o a hv hes=>by simp only [List.map_toArray,List.map_cons,List.map_nil]; try rfl) (fv (by simp [Instr.fill,Value.cells]; rfl) (by simp [List.range,List.range.loop] <;> rfl)) (by simp [Value.oneCell']) rfl (by decide) (by decide) (by decide)⟩ ?_
 refine yp kC hv12 0 ?_
 refine ya 0 ?_
 refine ye [0,4,3] ?_
 exact hl75 _ (zi h).symm
 refine aA ?_
 refine aB [0,2,1] (by kernel_rfl) (es':=[(_,_),(_,_),(_,_)]) rfl ?_
 exact hl75 _ (zi h).symm
 intro u78 h hl79 hr80
 obtain ⟨v2,hv2,v3,hv3,h⟩:=fK h
 refine au h (fun hg5_5 h => ?_) (fun hg5_5 h => ?_)
 refine au h (fun hg5_8 h => ?_) (fun hg5_8 h => ?_)
 refine yx hn 2 ?_
 refine ys 0 ⟨li hv2⟩ ?_
 refine ys 2 ⟨ll hv3⟩ ?_
 refine yd hg5_5 3 ?_
 refine yd hg5_8 8 ?_
 refine ye [0,3,4,27] ?_
 exact hl79 _ (zi h).symm
 obtain ⟨v4,hv4,v5,hv5,v6,hv6,h⟩:=mh h
 refine yx hn 2 ?_
 refine ys 0 ⟨li hv2⟩ ?_
 refine ys 2 ⟨ll hv3⟩ ?_
 refine yd hg5_5 3 ?_
 refine yd hg5_8 2 ?_
 refine ys 0 ⟨lb hv4⟩ ?_
 refine ys 0 ⟨li hv5⟩ ?_
 refine ys 3 ⟨ll hv6⟩ ?_
 refine ye [0,3,4,27] ?_
 exact hl79 _ (zi h).symm
 refine yx hn 2 ?_
 refine ys 0 ⟨li hv2⟩ ?_
 refine ys 2 ⟨ll hv3⟩ ?_
 refine yd hg5_5 11 ?_
 refine ye [0,3,4,27] ?_
 exact hl79 _ (zi h).symm
 refine bk (aD (aD (bo ?_)))
 refine aB [1] (by kernel_rfl) (es':=[(_,_)]) rfl ?_
 exact hl62 _ (ho64 _ (zi h).symm).symm
theorem lw (b:az) (r:(List Int)) (h:Sh.eb b=some r):cl Tryz.prog 33 [.agg [.v (.int .i64 b.Lj),.v (.int .i64 b.Li),.fr .shr true 8 (flatten (map ae.ienc b.Lg))]] (.fl (.own 5) 1 (map (int .u8) r)):=by
 unfold Sh.eb at h
 refine yO 51 func33 fun g0 hn hio => ?_
 refine aX hn 2 [1] ?_
 refine aX hn 1 [1,3] ?_
 refine ag ?_
 refine aX hn 1 [1,3,4] ?_
 refine gX (fs:=[(1,.box 24 [vi b.Lj,vi b.Li,.fr .shr true 8 (flatten (map ae.ienc b.Lg))]),(3,.fl (.own 5) 1 (map (int .u8) [])),(4,vi 0)]) (.same _ (.sub _ (cd 5 1) rfl (.same _ .nil))) ?_
 refine aY h (fun ((s52,s53):(List Int)×Int)=>[(1,.box 24 [vi b.Lj,vi b.Li,.fr .shr true 8 (flatten (map ae.ienc b.Lg))]),(3,.fl (.own 5) 1 (map (int .u8) s52)),(4,vi s53)]) (fun (s70:(List Int))=>[(3,.fl (.own 5) 1 (map (int .u8) s70))]) ?_ ?_
 rintro s70 h
 refine ai (ag ?_)
 obtain ⟨v93,hv93,h⟩:=zn h
 refine yx hn 0 ?_
 refine ym 0 ?_
 refine yk [49] [] ?_
 refine pX (49,.any) (50,.fl (.own 5) 1 (map (int .u8) v93)) 0 ⟨ri _ _ _ _ _ kC tj underlying9 rfl rfl rfl hv93 rfl⟩ ?_
 refine ya 0 ?_
 refine bH [2] ?_
 refine aC ?_
 obtain rfl:=zi h
 exact aE hio rfl (.tmp _ _ .nil) rfl rfl
 rintro u71 hl72 hr73 ⟨s52,s53⟩ rr76 h ho74
 refine ag ?_
 refine aX hn 5 [1,3,4,11] ?_
 refine zc h rfl (fun h => ?_) (fun h => ?_)
 refine aA ?_
 refine ai (ag ?_)
 refine aP (ag ?_)
 obtain ⟨v2,hv2,v3,hv3,h⟩:=fK h
 refine yx hn 3 ?_
 refine ys 0 ⟨lI hv2⟩ ?_
 refine yS (.agg (ae.c v3 [])) 0 ⟨dX _ _ _ _ _ _ _ _ underlying46 rfl eC rfl rfl (eY ae.ilen hv3) (.cons (.v _) (.cons (.v _) (.cons (.v _) (.cons (.fl _ _ rfl) (.cons (.fl _ _ rfl) (.cons (.v _) (.cons (.v _) (.cons (.v _) (.nil))))))))) rfl (by decide)⟩ ?_
 refine yS (.box 46 [vb false,vs z0,vs z0,vz,vz,vb false,vs z0,vi 0]) 1 ⟨oA (bu _ _ ks)⟩ ?_
 refine bH [1,3,4,5] ?_
 refine ag ?_
 obtain ⟨v4,hv4,v5,hv5,v6,hv6,v7,hv7,h⟩:=ov h
 refine yx hn 0 ?_
 refine ym 2 ?_
 refine ys 0 ⟨lk call54 (jK _ _ hv4)⟩ ?_
 refine ys 0 ⟨lB (dA hv5)⟩ ?_
 refine ys 0 ⟨lB (dA hv6)⟩ ?_
 refine yk [19] [24] ?_
 refine pX (19,.any) (25,.fl (.own 5) 1 (map (int .u8) v7)) 0 ⟨ri _ _ _ _ _ kC tj underlying9 rfl rfl rfl hv7 rfl⟩ ?_
 refine ya 0 ?_
 refine bH [1,4,5,3] ?_
 refine ag ?_
 refine aX hn 1 [1,4,5,3,6] ?_
 refine aY h (fun ((s82,s83):(List Int)×Int)=>[(1,.box 24 [vi b.Lj,vi b.Li,.fr .shr true 8 (flatten (map ae.ienc b.Lg))]),(4,vi s53),(5,.box 46 (ae.c v3 [])),(3,.fl (.own 5) 1 (map (int .u8) s82)),(6,vi s83)]) (fun (s85:(List Int))=>[(1,.box 24 [vi b.Lj,vi b.Li,.fr .shr true 8 (flatten (map ae.ienc b.Lg))]),(4,vi s53),(5,.box 46 (ae.c v3 [])),(3,.fl (.own 5) 1 (map (int .u8) s85))]) ?_ ?_
 rintro s85 h
 refine ai ?_
 obtain ⟨v30,hv30,v31,hv31,v32,hv32,h⟩:=mh h
 refine wb [] ?_
 refine wK [3] [] ?_
 refine wt [(43,.fl (.own 5) 1 (map (int .u8) s85))] [] ⟨eG _ _ _ _ rfl⟩ ?_
 refine wK [43] [] ?_
 refine wt [(43,.any),(44,.fl (.own 5) 1 (map (int .u8) v30))] [[5],[45,5]] ⟨ri _ _ _ _ _ kC tj underlying9 rfl rfl rfl hv30 rfl⟩ ?_
 refine wN [46] ?_
 refine wo [] ⟨lk call55 (mA _ _ hv31)⟩ ?_
 refine wK [44] [47] ?_
 refine wt [(44,.any),(48,.fl (.own 5) 1 (map (int .u8) v32))] [] ⟨Do _ _ _ _ _ kC rfl rfl (gN _) (gN _) hv32 ((List.map_append).symm.trans (congrArg (map _) (jb hv32)))⟩ ?_
 refine wK [48] [] ?_
 refine wt [(3,.fl (.own 5) 1 (map (int .u8) v32))] [] ⟨gr _ _ _ _ rfl⟩ ?_
 refine we hn [1,4,3] ?_
 refine br (ai ?_)
 obtain ⟨v33,hv33,h⟩:=zn h
 refine yx hn 1 ?_
 refine ys 0 ⟨lb hv33⟩ ?_
 refine yw [4] 1 ?_
 refine ye [1,3,4] ?_
 exact bC _ (zi h).symm rfl
 rintro u86 hl87 hr88 ⟨s82,s83⟩ rr91 h ho89
 refine ag ?_
 refine aX hn 5 [1,4,5,3,6,30] ?_
 refine zc h rfl (fun h => ?_) (fun h => ?_)
 refine aA ?_
 refine ai (ag ?_)
 refine aP ?_
 obtain ⟨v9,hv9,v10,hv10,v11,hv11,v12,hv12,h⟩:=ov h
 obtain ⟨v13,hv13,v14,hv14,h⟩:=fK h
 refine yx hn 0 ?_
 refine ym 3 ?_
 refine ys 0 ⟨lj hv9⟩ ?_
 refine yS (.agg [vb v10.Lh,vs v10.Lf,vs v10.Lc]) 0 ⟨gY _ _ _ _ _ _ _ underlying43 rfl iG rfl rfl (jo aj.len hv10) rfl (by decide)⟩ ?_
 refine ys 0 ⟨lk call54 (jK _ _ hv11)⟩ ?_
 refine ys 0 ⟨lB (dA hv12)⟩ ?_
 refine ys 0 ⟨lB (dA hv13)⟩ ?_
 refine yk [33] [41] ?_
 refine pX (33,.any) (42,.fl (.own 5) 1 (map (int .u8) v14)) 0 ⟨ri _ _ _ _ _ kC tj underlying9 rfl rfl rfl hv14 rfl⟩ ?_
 refine ya 0 ?_
 refine ye [1,4,5,6,3] ?_
 refine br (ai ?_)
 obtain ⟨v15,hv15,h⟩:=zn h
 refine yx hn 1 ?_
 refine ys 0 ⟨lb hv15⟩ ?_
 refine yw [6] 1 ?_
 refine ye [1,4,5,3,6] ?_
 exact bC _ (zi h).symm rfl
 refine bk (aD (aD (bo ?_)))
 refine aB [0,1,2,3] (by kernel_rfl) (es':=[(_,_),(_,_),(_,_),(_,_)]) rfl ?_
 exact hl87 _ (ho89 _ (zi h).symm).symm
 refine bk (aD (aD (bo ?_)))
 refine aB [1] (by kernel_rfl) (es':=[(_,_)]) rfl ?_
 exact hl72 _ (ho74 _ (zi h).symm).symm
theorem dM (n:Int) (r:Ll) (h:Sh.aG n=some r):cl Tryz.prog 27 [.v (.int .i64 n)] (.v (.string r)):=by
 unfold Sh.aG at h
 refine yO 22 func27 fun g0 hn hio => ?_
 refine aX hn 1 [0] ?_
 refine aX hn 1 [0,3] ?_
 refine ag ?_
 refine aY h (fun ((s11,s12):Int×Ll)=>[(0,vi s11),(3,vs s12)]) (fun ((s14,s15):Int×Ll)=>[(0,vi s14),(3,vs s15)]) ?_ ?_
 rintro ⟨s14,s15⟩ h
 refine ai (ag ?_)
 obtain ⟨v23,hv23,v24,hv24,v25,hv25,h⟩:=mh h
 refine yx hn 2 ?_
 refine ys 0 ⟨lb hv23⟩ ?_
 refine yS (vs v24) 1 ⟨cI _ _ _ s14 v23 _ underlying9 rfl ⟨_,rfl⟩ ⟨_,rfl⟩ hv24⟩ ?_
 refine ys 1 ⟨lB (dA hv25)⟩ ?_
 refine bH [2] ?_
 refine aC ?_
 obtain rfl:=zi h
 exact aE hio rfl (.tmp _ _ .nil) rfl rfl
 rintro u16 hl17 hr18 ⟨s11,s12⟩ rr21 h ho19
 refine ag ?_
 refine aX hn 2 [0,3,5] ?_
 refine zc h rfl (fun h => ?_) (fun h => ?_)
 refine aA (ai (aP (ag ?_)))
 obtain ⟨v2,hv2,v3,hv3,v4,hv4,v5,hv5,h⟩:=ov h
 obtain ⟨v6,hv6,h⟩:=zn h
 refine yx hn 1 ?_
 refine ys 1 ⟨lB (uZ hv2)⟩ ?_
 refine ys 0 ⟨lB (uZ hv3)⟩ ?_
 refine ys 0 ⟨lb hv4⟩ ?_
 refine yS (vs v5) 1 ⟨cI _ _ _ v2 v4 _ underlying9 rfl ⟨_,rfl⟩ ⟨_,rfl⟩ hv5⟩ ?_
 refine ys 0 ⟨lB (dA hv6)⟩ ?_
 refine yw [3] 1 ?_
 refine bH [0,3] ?_
 obtain ⟨v7,hv7,h⟩:=zn h
 refine yx hn 1 ?_
 refine ys 0 ⟨lB (GV hv7)⟩ ?_
 refine yw [0] 1 ?_
 refine ye [3,0] ?_
 refine br ?_
 refine aB [1,0] (by kernel_rfl) (es':=[(_,_),(_,_)]) rfl ?_
 exact bC _ (zi h).symm rfl
 refine bk (aD (aD (bo ?_)))
 refine aB [0,1] (by kernel_rfl) (es':=[(_,_),(_,_)]) rfl ?_
 exact hl17 _ (ho19 _ (zi h).symm).symm
theorem mo (b:(List Int)) (width:Int) (divisor:Int) (r:Int) (h:Sh.fX b width divisor=some r):cl Tryz.prog 48 [.fl .shr 1 (map (int .u8) b),.v (.int .i64 width),.v (.int .i64 divisor)] (.v (.int .i64 r)):=by
 unfold Sh.fX at h
 refine yO 49 func48 fun g0 hn hio => ?_
 refine aX hn 1 [0,1,2] ?_
 refine ag ?_
 obtain ⟨v1,hv1,v2,hv2,v3,hv3,h⟩:=mh h
 refine yx hn 1 ?_
 refine ys 0 ⟨lv hv1⟩ ?_
 refine ys 0 ⟨lB (uH hv2)⟩ ?_
 refine ys 1 ⟨lb hv3⟩ ?_
 refine bH [0,1,2,7] ?_
 refine ag ?_
 refine aX hn 1 [0,1,2,7,8] ?_
 refine aY h (fun ((s97,s98):Int×Int)=>[(0,fb b),(1,vi width),(2,vi divisor),(7,vi s97),(8,vi s98)]) (fun (s139:Int)=>[(1,vi width),(7,vi s139)]) ?_ ?_
 rintro s139 h
 refine ai (ag ?_)
 obtain ⟨v186,hv186,v187,hv187,v188,hv188,v189,hv189,h⟩:=ov h
 refine yx hn 2 ?_
 refine ys 0 ⟨lv hv186⟩ ?_
 refine ys 0 ⟨lB (uH hv187)⟩ ?_
 refine ys 0 ⟨lb hv188⟩ ?_
 refine ys 1 ⟨lb hv189⟩ ?_
 refine bH [6] ?_
 refine aC ?_
 obtain rfl:=zi h
 exact aE hio rfl (.tmp _ _ .nil) rfl rfl
 rintro u140 hl141 hr142 ⟨s97,s98⟩ rr145 h ho143
 refine ag ?_
 refine aX hn 4 [0,1,2,7,8,18] ?_
 refine zc h rfl (fun h => ?_) (fun h => ?_)
 refine aA ?_
 refine ai (ag ?_)
 refine aP ?_
 refine aX hn 1 [0,1,2,7,8,9] ?_
 refine aY h (fun ((s163,s164):Int×Int)=>[(0,fb b),(1,vi width),(2,vi divisor),(7,vi s163),(8,vi s98),(9,vi s164)]) (fun (s172:Int)=>[(0,fb b),(1,vi width),(2,vi divisor),(7,vi s172),(8,vi s98)]) ?_ ?_
 rintro s172 h
 refine br (ai ?_)
 obtain ⟨v54,hv54,h⟩:=zn h
 refine yx hn 1 ?_
 refine ys 0 ⟨lb hv54⟩ ?_
 refine yw [8] 1 ?_
 refine ye [0,1,2,7,8] ?_
 exact bC _ (zi h).symm rfl
 rintro u173 hl174 hr175 ⟨s163,s164⟩ rr178 h ho176
 refine ag ?_
 refine aX hn 2 [0,1,2,7,8,9,22] ?_
 refine zc h rfl (fun h => ?_) (fun h => ?_)
 refine aA ?_
 refine ai (ag ?_)
 refine aM h (fun (s181:Int)=>[(0,fb b),(1,vi width),(2,vi divisor),(8,vi s98),(9,vi s164),(7,vi s181)]) ?_ ?_
 rintro s181 h
 refine ai ?_
 obtain ⟨v21,hv21,h⟩:=zn h
 refine yx hn 1 ?_
 refine ys 0 ⟨lb hv21⟩ ?_
 refine yw [9] 1 ?_
 refine ye [0,1,2,8,7,9] ?_
 refine aB [0,1,2,4,3,5] (by kernel_rfl) (es':=[(_,_),(_,_),(_,_),(_,_),(_,_),(_,_)]) rfl ?_
 exact bC _ (zi h).symm rfl
 intro u182 h hl183 hr184
 refine aP (ag ?_)
 obtain ⟨v6,hv6,h⟩:=zn h
 refine yx hn 1 ?_
 refine ys 1 ⟨lb hv6⟩ ?_
 refine bH [0,1,2,7,8,9,10] ?_
 refine ag ?_
 obtain ⟨v7,hv7,h⟩:=zn h
 refine yx hn 1 ?_
 refine ys 0 ⟨lB (qj hv7)⟩ ?_
 refine yw [7] 1 ?_
 refine bH [0,1,2,8,9,10,7] ?_
 refine ag ?_
 obtain ⟨v8,hv8,v9,hv9,v10,hv10,v11,hv11,h⟩:=ov h
 obtain ⟨v12,hv12,v13,hv13,h⟩:=fK h
 refine yx hn 3 ?_
 refine ys 0 ⟨li hv8⟩ ?_
 refine ys 1 ⟨ll hv9⟩ ?_
 refine ys 0 ⟨lv hv10⟩ ?_
 refine ys 0 ⟨lB (qj hv11)⟩ ?_
 refine ys 0 ⟨lv hv12⟩ ?_
 refine ys 1 ⟨lb hv13⟩ ?_
 refine bH [0,1,2,8,9,7,39] ?_
 refine zc h rfl (fun h => ?_) (fun h => ?_)
 obtain ⟨v15,hv15,h⟩:=zn h
 refine yx hn 2 ?_
 refine ys 0 ⟨lb hv15⟩ ?_
 refine yw [7] 1 ?_
 refine ye [0,1,2,8,9,7] ?_
 refine br ?_
 exact hl183 _ (zi h).symm
 refine aA (br ?_)
 refine aB [0,1,2,3,4,5] (by kernel_rfl) (es':=[(_,_),(_,_),(_,_),(_,_),(_,_),(_,_)]) rfl ?_
 exact hl183 _ (zi h).symm
 refine bk (aD (aD (bo ?_)))
 refine aB [0,1,2,3,4] (by kernel_rfl) (es':=[(_,_),(_,_),(_,_),(_,_),(_,_)]) rfl ?_
 exact hl174 _ (ho176 _ (zi h).symm).symm
 refine bk (aD (aD (bo ?_)))
 refine aB [1,3] (by kernel_rfl) (es':=[(_,_),(_,_)]) rfl ?_
 exact hl141 _ (ho143 _ (zi h).symm).symm
theorem jI (b:(List Int)) (r:Int) (h:Sh.dU b=some r):cl Tryz.prog 28 [.fl .shr 1 (map (int .u8) b)] (.v (.int .i64 r)):=by
 unfold Sh.dU at h
 refine yO 5 func28 fun g0 hn hio => ?_
 refine aX hn 1 [0] ?_
 refine ag ?_
 obtain ⟨v1,hv1,h⟩:=zn h
 refine yx hn 1 ?_
 refine ys 1 ⟨lk call48 (mo _ _ _ _ hv1)⟩ ?_
 refine bH [2] ?_
 refine aC ?_
 obtain rfl:=zi h
 exact aE hio rfl (.tmp _ _ .nil) rfl rfl
theorem eQ (b:az) (r:((List Int)×Int)) (h:Sh.bj b=some r):cl Tryz.prog 14 [.agg [.v (.int .i64 b.Lj),.v (.int .i64 b.Li),.fr .shr true 8 (flatten (map ae.ienc b.Lg))]] (.tup [.mkr 5 (map (int .u8) r.1),.v (.int .i64 r.2)]):=by
 unfold Sh.bj at h
 refine yO 45 func14 fun g0 hn hio => ?_
 refine aX hn 3 [1] ?_
 refine ag (ag ?_)
 obtain ⟨v1,hv1,h⟩:=zn h
 refine yx hn 1 ?_
 refine ys 1 ⟨lk call20 (bS _ _ hv1)⟩ ?_
 refine bH [1,8] ?_
 refine zc h rfl (fun h => ?_) (fun h => ?_)
 refine aX hn 2 [2,3] ?_
 refine aC ?_
 refine di (fs:=[(2,.mkr 5 (map (int .u8) [])),(3,vi 5)]) (.sub _ (lN 5) rfl (.same _ .nil)) ?_
 refine am ?_
 obtain rfl:=zi h
 exact aE hio rfl (.tmp _ _ (.tmp _ _ .nil)) rfl rfl
 refine aA ?_
 refine ai (ag ?_)
 obtain ⟨v3,hv3,h⟩:=zn h
 refine yx hn 1 ?_
 refine ys 0 ⟨lk call33 (lw _ _ hv3)⟩ ?_
 refine ya 0 ?_
 refine bH [1,4] ?_
 refine ag ?_
 obtain ⟨v4,hv4,v5,hv5,v6,hv6,v7,hv7,h⟩:=ov h
 obtain ⟨v8,hv8,v9,hv9,v10,hv10,v11,hv11,h⟩:=ov h
 obtain ⟨v12,hv12,v13,hv13,v14,hv14,v15,hv15,h⟩:=ov h
 obtain ⟨v16,hv16,v17,hv17,v18,hv18,v19,hv19,h⟩:=ov h
 obtain ⟨v20,hv20,h⟩:=zn h
 refine wb [[1],[11,1]] ?_
 refine wN [12] ?_
 refine wo [] ⟨lk call27 (dM _ _ hv4)⟩ ?_
 refine wN [13] ?_
 refine wo [] ⟨lB (dA hv5)⟩ ?_
 refine wN [14] ?_
 refine wo [[1],[16,1]] ⟨lB (dA hv6)⟩ ?_
 refine wN [17] ?_
 refine wo [] ⟨lk call27 (dM _ _ hv7)⟩ ?_
 refine wN [15,18] ?_
 refine wo [] ⟨lB (dA hv8)⟩ ?_
 refine wN [19] ?_
 refine wo [[1],[21,1],[22]] ⟨lB (dA hv9)⟩ ?_
 refine wN [23] ?_
 refine wo [] ⟨lk call27 (dM _ _ hv10)⟩ ?_
 refine wN [20,24] ?_
 refine wo [] ⟨lB (dA hv11)⟩ ?_
 refine wN [25] ?_
 refine wo [[4],[27,4]] ⟨lB (dA hv12)⟩ ?_
 refine wN [28] ?_
 refine wo [] ⟨lk call27 (dM _ _ hv13)⟩ ?_
 refine wN [26,29] ?_
 refine wo [] ⟨lB (dA hv14)⟩ ?_
 refine wN [30] ?_
 refine wo [[4]] ⟨lB (dA hv15)⟩ ?_
 refine wN [32,4] ?_
 refine wo [] ⟨lk call28 (jI _ _ hv16)⟩ ?_
 refine wN [33] ?_
 refine wo [] ⟨lk call27 (dM _ _ hv17)⟩ ?_
 refine wN [31,34] ?_
 refine wo [] ⟨lB (dA hv18)⟩ ?_
 refine wN [35] ?_
 refine wo [] ⟨lB (dA hv19)⟩ ?_
 refine wN [36] ?_
 refine wo [] ⟨lU hv20⟩ ?_
 refine wK [37] [] ?_
 refine wt [(5,.mkr 5 (map (int .u8) v20))] [] ⟨gr _ _ _ _ rfl⟩ ?_
 refine sI hn [4,5] ?_
 refine ag ?_
 obtain ⟨v22,hv22,h⟩:=zn h
 refine yx hn 0 ?_
 refine ym 0 ?_
 refine ym 0 ?_
 refine yk [38] [39] ?_
 refine pX (38,.any) (40,.mkr 5 (map (int .u8) v22)) 0 ⟨ub _ _ _ _ _ kC rfl rfl rfl rfl hv22 rfl⟩ ?_
 refine ya 0 ?_
 refine bH [5] ?_
 refine ag ?_
 refine gh hn 1 ?_
 refine yS (vi (v22.length:Int)) 1 ⟨pN _ _ _ underlying25 rfl (List.length_map _)⟩ ?_
 refine bH [5,43] ?_
 refine zc h rfl (fun h => ?_) (fun h => ?_)
 refine aX hn 2 [2,3] ?_
 refine aC ?_
 refine di (fs:=[(2,.mkr 5 (map (int .u8) [])),(3,vi 2)]) (.sub _ (lN 5) rfl (.same _ .nil)) ?_
 refine am ?_
 obtain rfl:=zi h
 exact aE hio rfl (.tmp _ _ (.tmp _ _ .nil)) rfl rfl
 refine aA (ai ?_)
 refine gh hn 0 ?_
 refine ym 0 ?_
 refine ya 1 ?_
 refine bH [2,3] ?_
 refine aC ?_
 obtain rfl:=zi h
 exact aE hio rfl (.tmp _ _ (.tmp _ _ .nil)) rfl rfl
theorem pP (s sub:Ll) (r:Int) (h:Sh.gI s sub=some r):cl Tryz.prog 97 [.v (.string s),.v (.string sub)] (.v (.int .i64 r)):=pE Tryz.strings_Count_one s sub r h
theorem nG (s:Ll) (sep:Ll) (sepSave:Int) (n:Int) (r:(List Ll)) (h:Sh.gB s sep sepSave n=some r):cl Tryz.prog 77 [.v (.string s),.v (.string sep),.v (.int .i64 sepSave),.v (.int .i64 n)] (.fl .ro 1 (map Value.string r)):=by
 unfold Sh.gB at h
 refine yO 66 func77 fun g0 hn hio => ?_
 refine aX hn 1 [0,1,2,3] ?_
 refine ag ?_
 refine aX hn 2 [0,1,2,3,13] ?_
 refine zc h rfl (fun h => ?_) (fun h => ?_)
 refine aX hn 1 [8] ?_
 refine aC ?_
 refine di (fs:=[(8,.fl (.own 9) 1 (map Value.string []))]) (.sub _ (cd 9 1) rfl .nil) ?_
 refine kN 0 hio (es':=[(8,.fl .ro 1 (map Value.string []))]) rfl ?_
 refine am ?_
 obtain rfl:=zi h
 exact aE hio rfl (.tmp _ _ .nil) rfl rfl
 refine aA ?_
 refine ai (ag ?_)
 refine aX hn 2 [0,1,2,3,15] ?_
 refine zc h rfl (fun h => ?_) (fun h => ?_)
 cases h
 refine aA ?_
 refine ai (ag ?_)
 refine aM h (fun (s53:Int)=>[(0,vs s),(1,vs sep),(2,vi sepSave),(3,vi s53)]) ?_ ?_
 rintro s53 h
 refine ai (ag ?_)
 obtain ⟨v11,hv11,v12,hv12,h⟩:=fK h
 refine yx hn 3 ?_
 refine ys 0 ⟨lb hv11⟩ ?_
 refine yS (vi v12) 0 ⟨(Option.some.inj hv12) ▸ rF _ _ _ _ rfl rfl⟩ ?_
 refine yw [3] 1 ?_
 refine bH [0,1,2,3] ?_
 refine ag ?_
 obtain ⟨v13,hv13,h⟩:=zn h
 refine yx hn 1 ?_
 refine yS (.fl (.own 9) 1 (map Value.string v13)) 0 ⟨Is (f:=Value.string) _ _ _ _ IE (by decide) Ko rfl rfl rfl hv13⟩ ?_
 refine ya 0 ?_
 refine bH [0,1,2,3,9] ?_
 refine ag ?_
 obtain ⟨v14,hv14,h⟩:=zn h
 refine yx hn 1 ?_
 refine ys 0 ⟨lb hv14⟩ ?_
 refine yw [3] 1 ?_
 refine bH [0,1,2,9,3] ?_
 refine aX hn 1 [0,1,2,9,3,10] ?_
 refine ag ?_
 refine aY h (fun ((s65,s66,s67):Ll×(List Ll)×Int)=>[(0,vs s65),(1,vs sep),(2,vi sepSave),(9,.fl (.own 9) 1 (map Value.string s66)),(3,vi v14),(10,vi s67)]) (fun ((s70,s71,s72):Ll×(List Ll)×Int)=>[(0,vs s70),(9,.fl (.own 9) 1 (map Value.string s71)),(10,vi s72)]) ?_ ?_
 rintro ⟨s70,s71,s72⟩ h
 refine ai (ag ?_)
 obtain ⟨v46,hv46,v47,hv47,h⟩:=fK h
 refine yx hn 3 ?_
 refine ys 0 ⟨li hv46⟩ ?_
 refine yk [9] [61,60] ?_
 refine yt (9,.fl (.own 9) 1 (map Value.string v47)) 0 ⟨rR _ _ _ _ _ _ _ _ Iv rfl rfl rfl (by decide) (xy (ez hv46).2) ((map_set (f:=Value.string) _ (ez hv46).2).trans (congrArg (map _) (Option.some.inj hv47)))⟩ ?_
 refine bH [9,10] ?_
 refine ag ?_
 refine vg 0 hio (es':=[(9,.fl .ro 1 (map Value.string v47)),(10,.v (.int .i64 s72))]) rfl ?_
 obtain ⟨v48,hv48,v49,hv49,h⟩:=fK h
 refine yx hn 2 ?_
 refine ys 0 ⟨lb hv48⟩ ?_
 refine yS (.fl .ro 1 (map Value.string v49)) 1 ⟨ik _ _ _ 0 v48 _ underlying57 Iv rfl rfl rfl ⟨_,rfl⟩ hv49⟩ ?_
 refine bH [8] ?_
 refine aC ?_
 obtain rfl:=zi h
 exact aE hio rfl (.tmp _ _ .nil) rfl rfl
 rintro u73 hl74 hr75 ⟨s65,s66,s67⟩ rr78 h ho76
 refine ag ?_
 refine aX hn 3 [0,1,2,9,3,10,36] ?_
 refine zc h rfl (fun h => ?_) (fun h => ?_)
 refine aA (ai (aP (ag ?_)))
 obtain ⟨v16,hv16,h⟩:=zn h
 refine yx hn 2 ?_
 refine ys 1 ⟨lk call98 (lz _ _ _ hv16)⟩ ?_
 refine bH [0,1,2,9,3,10,11] ?_
 refine ag ?_
 refine aX hn 2 [0,1,2,9,3,10,11,41] ?_
 refine zc h rfl (fun h => ?_) (fun h => ?_)
 refine bk (aD ?_)
 refine kZ (by decide) ?_
 refine aD (bo ?_)
 refine aB [0,3,5] (by kernel_rfl) (es':=[(_,_),(_,_),(_,_)]) rfl ?_
 exact hl74 _ (ho76 _ (zi h).symm).symm
 refine aA ?_
 refine ai (ag ?_)
 obtain ⟨v18,hv18,v19,hv19,v20,hv20,v21,hv21,h⟩:=ov h
 refine yx hn 5 ?_
 refine ys 0 ⟨lb hv18⟩ ?_
 refine yS (vs v19) 0 ⟨cI _ _ _ 0 v18 _ underlying9 rfl rfl ⟨_,rfl⟩ hv19⟩ ?_
 refine ys 0 ⟨li hv20⟩ ?_
 refine yk [9] [49,48] ?_
 refine yt (9,.fl (.own 9) 1 (map Value.string v21)) 0 ⟨rR _ _ _ _ _ _ _ _ Iv rfl rfl rfl (by decide) (xy (ez hv20).2) ((map_set (f:=Value.string) _ (ez hv20).2).trans (congrArg (map _) (Option.some.inj hv21)))⟩ ?_
 refine bH [0,1,2,9,3,10,11] ?_
 refine ag ?_
 obtain ⟨v22,hv22,v23,hv23,h⟩:=fK h
 refine yx hn 4 ?_
 refine ys 0 ⟨lb hv22⟩ ?_
 refine yS (vs v23) 0 ⟨cI _ _ _ v22 (s65.size:Int) _ underlying9 rfl ⟨_,rfl⟩ rfl hv23⟩ ?_
 refine yw [0] 1 ?_
 refine bH [1,2,9,3,10,0] ?_
 obtain ⟨v24,hv24,h⟩:=zn h
 refine yx hn 1 ?_
 refine ys 0 ⟨lb hv24⟩ ?_
 refine yw [10] 1 ?_
 refine ye [1,2,9,3,0,10] ?_
 refine br ?_
 refine aB [4,0,1,2,3,5] (by kernel_rfl) (es':=[(_,_),(_,_),(_,_),(_,_),(_,_),(_,_)]) rfl ?_
 exact bC _ (zi h).symm rfl
 refine bk (aD (aD (bo ?_)))
 refine aB [0,3,5] (by kernel_rfl) (es':=[(_,_),(_,_),(_,_)]) rfl ?_
 exact hl74 _ (ho76 _ (zi h).symm).symm
 intro u54 h hl55 hr56
 refine aX hn 2 [0,1,2,3,20] ?_
 refine zc h rfl (fun h => ?_) (fun h => ?_)
 obtain ⟨v4,hv4,v5,hv5,h⟩:=fK h
 refine yx hn 2 ?_
 refine ys 0 ⟨lk call97 (pP _ _ _ hv4)⟩ ?_
 refine ys 0 ⟨lb hv5⟩ ?_
 refine yw [3] 1 ?_
 refine ye [0,1,2,3] ?_
 exact hl55 _ (zi h).symm
 refine aA ?_
 refine aB [0,1,2,3] (by kernel_rfl) (es':=[(_,_),(_,_),(_,_),(_,_)]) rfl ?_
 exact hl55 _ (zi h).symm
theorem ql (s:Ll) (sep:Ll) (r:(List Ll)) (h:Sh.gK s sep=some r):cl Tryz.prog 57 [.v (.string s),.v (.string sep)] (.fl .ro 1 (map Value.string r)):=by
 unfold Sh.gK at h
 refine yO 8 func57 fun g0 hn hio => ?_
 refine aX hn 1 [0,1] ?_
 refine ag ?_
 obtain ⟨v1,hv1,h⟩:=zn h
 refine yx hn 2 ?_
 refine ys 1 ⟨lk call77 (nG _ _ _ _ _ hv1)⟩ ?_
 refine bH [4] ?_
 refine aC ?_
 obtain rfl:=zi h
 exact aE hio rfl (.tmp _ _ .nil) rfl rfl
theorem qN (s:Ll) (r:Int×Unit) (h:Sh.strconv_Atoi s=some r):cl Tryz.prog 78 [.v (.string s)] (.tup [.v (.int .i64 r.1),.v .nilIface]):=qq (fun s n w h1 h2=>Tryz.strconv_Atoi s n h1 h2 w) s r h
theorem qL (s:Ll) (digits:Int) (r:(Int×Bool)) (h:Sh.fN s digits=some r):cl Tryz.prog 58 [.v (.string s),.v (.int .i64 digits)] (.tup [.v (.int .i64 r.1),.v (.bool r.2)]):=by
 unfold Sh.fN at h
 refine yO 51 func58 fun g0 hn hio => ?_
 refine aX hn 2 [0,1] ?_
 refine ag (ag ?_)
 refine aM h (fun (s3:Bool)=>[(0,vs s),(26,vb s3)]) ?_ ?_
 rintro s3 h
 refine ai ?_
 refine zc h rfl (fun h => ?_) (fun h => ?_)
 refine aX hn 2 [4,5] ?_
 refine aC (am ?_)
 obtain rfl:=zi h
 exact aE hio rfl (.tmp _ _ (.tmp _ _ .nil)) rfl rfl
 refine aA ?_
 refine ai (ag ?_)
 refine aX hn 3 [0,28,29] ?_
 refine aY h (fun (s24:Int)=>[(0,vs s),(28,vi (s.size:Int)),(29,vi s24)]) (fun (():Unit)=>[(0,vs s)]) ?_ ?_
 rintro ⟨⟩ h
 refine ai (ag ?_)
 obtain ⟨v43,hv43,h⟩:=zn h
 refine yx hn 1 ?_
 refine ys 0 ⟨lk call78 (qN _ _ hv43)⟩ ?_
 refine ym 4 ?_
 refine bH [7,8] ?_
 refine ag ?_
 refine wb [[7],[8]] ?_
 refine wN [49] ?_
 refine wS (vb true) [[48],[50]] ⟨BE _ _ false underlying116 rfl⟩ ?_
 refine sI hn [4,5] ?_
 refine aC ?_
 obtain rfl:=zi h
 exact aE hio rfl (.tmp _ _ (.tmp _ _ .nil)) rfl rfl
 rintro u31 hl32 hr33 s24 rr36 h ho34
 refine aX hn 1 [0,28,29,30] ?_
 refine ag ?_
 refine zc h rfl (fun h => ?_) (fun h => ?_)
 refine aA ?_
 refine ai (ag ?_)
 refine aP ?_
 refine aX hn 2 [0,28,29,6] ?_
 refine ag ?_
 refine aM h (fun (s38:Bool)=>[(0,vs s),(28,vi (s.size:Int)),(29,vi s24),(41,vb s38)]) ?_ ?_
 rintro s38 h
 refine ai ?_
 refine zc h rfl (fun h => ?_) (fun h => ?_)
 refine aX hn 2 [4,5] ?_
 refine aC (aV (am (am (aV (am ?_)))))
 have h:=hr33 _ (ho34 _ (zi h).symm).symm
 obtain rfl:=zi h
 exact aE hio rfl (.tmp _ _ (.tmp _ _ .nil)) rfl rfl
 refine aA (br (ai ?_))
 obtain ⟨v16,hv16,h⟩:=zn h
 refine yx hn 0 ?_
 refine ys 0 ⟨lb hv16⟩ ?_
 refine yw [29] 1 ?_
 refine ye [0,28,29] ?_
 exact bC _ (zi h).symm rfl
 intro u39 h hl40 hr41
 obtain ⟨v9,hv9,h⟩:=zn h
 refine au h (fun hg6_4 h => ?_) (fun hg6_4 h => ?_)
 refine yx hn 2 ?_
 refine ys 2 ⟨lh hv9⟩ ?_
 refine yd hg6_4 5 ?_
 refine ye [0,28,29,41] ?_
 exact hl40 _ (zi h).symm
 obtain ⟨v10,hv10,h⟩:=zn h
 refine yx hn 2 ?_
 refine ys 2 ⟨lh hv9⟩ ?_
 refine yd hg6_4 2 ?_
 refine ys 2 ⟨lh hv10⟩ ?_
 refine ye [0,28,29,41] ?_
 exact hl40 _ (zi h).symm
 refine bk (aD (aD (bo ?_)))
 refine aB [0] (by kernel_rfl) (es':=[(_,_)]) rfl ?_
 exact hl32 _ (ho34 _ (zi h).symm).symm
 intro u4 h hl5 hr6
 refine au h (fun hg1_2 h => ?_) (fun hg1_2 h => ?_)
 refine yx hn 3 ?_
 refine yd hg1_2 15 ?_
 refine ye [0,26] ?_
 exact hl5 _ (zi h).symm
 obtain ⟨v1,hv1,h⟩:=zn h
 refine au h (fun hg1_9 h => ?_) (fun hg1_9 h => ?_)
 refine yx hn 3 ?_
 refine yd hg1_2 3 ?_
 refine yS (vi v1) 3 ⟨(Option.some.inj hv1) ▸ rF _ _ _ _ rfl rfl⟩ ?_
 refine yd hg1_9 8 ?_
 refine ye [0,26] ?_
 exact hl5 _ (zi h).symm
 obtain ⟨v2,hv2,h⟩:=zn h
 refine au h (fun hg1_13 h => ?_) (fun hg1_13 h => ?_)
 refine yx hn 3 ?_
 refine yd hg1_2 3 ?_
 refine yS (vi v1) 3 ⟨(Option.some.inj hv1) ▸ rF _ _ _ _ rfl rfl⟩ ?_
 refine yd hg1_9 1 ?_
 refine ys 2 ⟨lh hv2⟩ ?_
 refine yd hg1_13 4 ?_
 refine ye [0,26] ?_
 exact hl5 _ (zi h).symm
 refine yx hn 3 ?_
 refine yd hg1_2 3 ?_
 refine yS (vi v1) 3 ⟨(Option.some.inj hv1) ▸ rF _ _ _ _ rfl rfl⟩ ?_
 refine yd hg1_9 1 ?_
 refine ys 2 ⟨lh hv2⟩ ?_
 refine yd hg1_13 4 ?_
 refine ye [0,26] ?_
 exact hl5 _ (zi h).symm
end Go.Proofs.YtglabbpbianmnaaGreatDoor
