import Derived.Test.YtglabbpbianmnaaGreatDoorOkc3
set_option linter.unusedVariables false
set_option linter.unusedSimpArgs false
set_option maxHeartbeats 1000000
namespace Go.Proofs.YtglabbpbianmnaaGreatDoor
open Go.Abs Go.Abs.Sh Tryz
open List (map flatten)
open Value (int)
theorem me (line:Ll) (r:(aU×Bool)) (h:Sh.dR line=some r):cl Tryz.prog 35 [.v (.string line)] (.tup [.agg [.v (.int .i64 r.1.origin),.v (.int .i64 r.1.number),.v (.int .i64 r.1.size),.v (.int .i64 r.1.sum)],.v (.bool r.2)]):=by
 unfold Sh.dR at h
 refine yO 56 func35 fun g0 hn hio => ?_
 refine gh hn 0 ?_
 refine yS (.box 66 [vi 0,vi 0,vi 0,vi 0]) 1 ⟨oA (bu _ _ Ay)⟩ ?_
 refine bH [0,2] ?_
 refine ag ?_
 obtain ⟨v1,hv1,h⟩:=zn h
 refine yx hn 1 ?_
 refine ys 1 ⟨lk call57 (ql _ _ _ hv1)⟩ ?_
 refine bH [2,4] ?_
 refine ag (ag ?_)
 refine aM h (fun (s4:Bool)=>[(2,.box 66 [vi 0,vi 0,vi 0,vi 0]),(4,.fl .ro 1 (map Value.string v1)),(21,vb s4)]) ?_ ?_
 rintro s4 h
 refine ai ?_
 refine zc h rfl (fun h => ?_) (fun h => ?_)
 refine gh hn 0 ?_
 refine yS (.agg [vi 0,vi 0,vi 0,vi 0]) 0 ⟨bQ _ _ _ _ [1,1,1,1] _ _ underlying66 Ay (Gq _ underlying66) kP.nil rfl rfl rfl⟩ ?_
 refine yk [22,2] [] ?_
 refine yt (2,.box 66 [vi 0,vi 0,vi 0,vi 0]) 1 ⟨bL _ _ _ 22 2 4 Aq rfl rfl rfl rfl rfl (.eq _ (.eq _ (.eq _ (.eq _ (.nil _))))) rfl⟩ ?_
 refine bH [2,3] ?_
 refine aC (am ?_)
 obtain rfl:=zi h
 exact aE hio rfl (.cellA _ _ _ _ underlying66 rfl Aq (.tmp _ _ .nil)) rfl rfl
 refine aA (ai ?_)
 refine gh hn 0 ?_
 refine yS (.arr 90 (map (int .i64) ((List.replicate 5 (0:Int))))) 0 ⟨oA (jW _ JD)⟩ ?_
 refine bH [2,4,5] ?_
 refine ag (ag ?_)
 obtain ⟨v9,hv9,h⟩:=zn h
 refine yx hn 1 ?_
 refine yS (.fl .ro 1 (map Value.string v9)) 2 ⟨ik _ _ _ 1 (v1.length:Int) _ underlying57 Iv rfl rfl ⟨_,rfl⟩ rfl hv9⟩ ?_
 refine bH [2,5,24,25,26] ?_
 refine aY h (fun ((s22,s23):(List Int)×Int)=>[(2,.box 66 [vi 0,vi 0,vi 0,vi 0]),(5,.arr 90 (map (int .i64) s22)),(24,.fl .ro 1 (map Value.string v9)),(25,vi (v9.length:Int)),(26,vi s23)]) (fun (s26:(List Int))=>[(2,.box 66 [vi 0,vi 0,vi 0,vi 0]),(5,.arr 90 (map (int .i64) s26))]) ?_ ?_
 rintro s26 h
 refine ai (ag ?_)
 obtain ⟨v35,hv35,v36,hv36,v37,hv37,v38,hv38,h⟩:=ov h
 obtain ⟨v39,hv39,v40,hv40,v41,hv41,v42,hv42,h⟩:=ov h
 refine yx hn 0 ?_
 refine yS (.ptr 5 v35) 0 ⟨ib _ _ _ _ 5 5 _ underlying90 Fy rfl rfl (ez hv35).1 (ez hv35).2 (by decide)⟩ ?_
 refine yS (vi v36) 0 ⟨iq _ _ _ _ _ _ underlying3 rfl rfl rfl (kh hv36)⟩ ?_
 refine yS (.ptr 5 v37) 0 ⟨ib _ _ _ _ 5 5 _ underlying90 Fy rfl rfl (ez hv37).1 (ez hv37).2 (by decide)⟩ ?_
 refine yS (vi v38) 0 ⟨iq _ _ _ _ _ _ underlying3 rfl rfl rfl (kh hv38)⟩ ?_
 refine yS (.ptr 5 v39) 0 ⟨ib _ _ _ _ 5 5 _ underlying90 Fy rfl rfl (ez hv39).1 (ez hv39).2 (by decide)⟩ ?_
 refine yS (vi v40) 0 ⟨iq _ _ _ _ _ _ underlying3 rfl rfl rfl (kh hv40)⟩ ?_
 refine yS (.ptr 5 v41) 0 ⟨ib _ _ _ _ 5 5 _ underlying90 Fy rfl rfl (ez hv41).1 (ez hv41).2 (by decide)⟩ ?_
 refine yS (vi v42) 0 ⟨iq _ _ _ _ _ _ underlying3 rfl rfl rfl (kh hv42)⟩ ?_
 refine yS (.agg [vi v36,vi v38,vi v40,vi v42]) 0 ⟨bQ _ _ _ _ [1,1,1,1] _ _ underlying66 Ay (Gq _ underlying66) (.copy _ (.copy _ (.copy _ (.copy _ kP.nil)))) rfl rfl rfl⟩ ?_
 refine yS (.box 66 [vi 0,vi 0,vi 0,vi 0]) 1 ⟨oA (bu _ _ Ay)⟩ ?_
 refine bH [2,10] ?_
 refine ag ?_
 refine wb [[10],[10],[53,10],[54]] ?_
 refine wK [2] [52] ?_
 refine wt [(2,.box 66 [vi v36,vi v38,vi v40,vi v42])] [[55]] ⟨kR _ _ _ _ _ _ _ _ Aq rfl rfl rfl rfl (zl rfl) rfl rfl⟩ ?_
 refine sI hn [2,3] ?_
 refine aC ?_
 obtain rfl:=zi h
 exact aE hio rfl (.cellA _ _ _ _ underlying66 rfl Aq (.tmp _ _ .nil)) rfl rfl
 rintro u27 hl28 hr29 ⟨s22,s23⟩ rr32 h ho30
 refine aX hn 1 [2,5,24,25,26,27] ?_
 refine ag ?_
 refine zc h rfl (fun h => ?_) (fun h => ?_)
 refine aA ?_
 refine ai (ag ?_)
 refine aP (ag ?_)
 obtain ⟨v11,hv11,v12,hv12,h⟩:=fK h
 refine yx hn 1 ?_
 refine ys 0 ⟨li hv11⟩ ?_
 refine ys 2 ⟨ll hv12⟩ ?_
 refine bH [2,5,24,25,26,6,7] ?_
 refine ag ?_
 obtain ⟨v13,hv13,h⟩:=zn h
 refine yx hn 1 ?_
 refine ys 0 ⟨lk call58 (qL _ _ _ hv13)⟩ ?_
 refine ym 4 ?_
 refine bH [2,5,24,25,26,6,8,9] ?_
 refine ag ?_
 refine aX hn 2 [2,5,24,25,26,6,8,37] ?_
 refine zc h rfl (fun h => ?_) (fun h => ?_)
 refine gh hn 0 ?_
 refine yS (.agg [vi 0,vi 0,vi 0,vi 0]) 0 ⟨bQ _ _ _ _ [1,1,1,1] _ _ underlying66 Ay (Gq _ underlying66) kP.nil rfl rfl rfl⟩ ?_
 refine yk [38,2] [] ?_
 refine yt (2,.box 66 [vi 0,vi 0,vi 0,vi 0]) 1 ⟨bL _ _ _ 38 2 4 Aq rfl rfl rfl rfl rfl (.eq _ (.eq _ (.eq _ (.eq _ (.nil _))))) rfl⟩ ?_
 refine bH [2,3] ?_
 refine aC (am (aV (am (am (aV (am ?_))))))
 have h:=hr29 _ (ho30 _ (zi h).symm).symm
 obtain rfl:=zi h
 exact aE hio rfl (.cellA _ _ _ _ underlying66 rfl Aq (.tmp _ _ .nil)) rfl rfl
 refine aA (ai ?_)
 obtain ⟨v15,hv15,v16,hv16,h⟩:=fK h
 refine yx hn 2 ?_
 refine yS (.ptr 5 v15) 0 ⟨ib _ _ _ _ 5 5 _ underlying90 Fy rfl rfl (ez hv15).1 (ez hv15).2 (by decide)⟩ ?_
 refine yk [5] [41,40] ?_
 refine yt (5,.arr 90 (map (int .i64) v16)) 0 ⟨pF _ _ _ _ _ _ Fy rfl rfl rfl rfl (Co hv16) (BZ (f:=int .i64) hv16)⟩ ?_
 refine ye [2,5,24,25,26] ?_
 refine br (ai ?_)
 obtain ⟨v17,hv17,h⟩:=zn h
 refine yx hn 0 ?_
 refine ys 0 ⟨lb hv17⟩ ?_
 refine yw [26] 1 ?_
 refine ye [2,5,24,25,26] ?_
 exact bC _ (zi h).symm rfl
 refine bk (aD (aD (bo ?_)))
 refine aB [0,1] (by kernel_rfl) (es':=[(_,_),(_,_)]) rfl ?_
 exact hl28 _ (ho30 _ (zi h).symm).symm
 intro u5 h hl6 hr7
 refine au h (fun hg2_3 h => ?_) (fun hg2_3 h => ?_)
 refine yx hn 4 ?_
 refine yd hg2_3 5 ?_
 refine ye [2,4,21] ?_
 exact hl6 _ (zi h).symm
 obtain ⟨v2,hv2,v3,hv3,h⟩:=fK h
 refine yx hn 4 ?_
 refine yd hg2_3 1 ?_
 refine ys 0 ⟨li hv2⟩ ?_
 refine ys 2 ⟨ll hv3⟩ ?_
 refine ye [2,4,21] ?_
 exact hl6 _ (zi h).symm
theorem iy (s:Ll) (prefix_:Ll) (r:Bool) (h:Sh.cp s prefix_=some r):cl Tryz.prog 149 [.v (.string s),.v (.string prefix_)] (.v (.bool r)):=by
 unfold Sh.cp at h
 refine yO 18 func149 fun g0 hn hio => ?_
 refine aX hn 1 [0,1] ?_
 refine ag ?_
 refine aM h (fun (s2:Bool)=>[(4,vb s2)]) ?_ ?_
 rintro s2 h
 refine ai (aC ?_)
 obtain rfl:=zi h
 exact aE hio rfl (.tmp _ _ .nil) rfl rfl
 intro u3 h hl4 hr5
 refine au h (fun hg1_5 h => ?_) (fun hg1_5 h => ?_)
 obtain ⟨v1,hv1,h⟩:=zn h
 refine yx hn 6 ?_
 refine yd hg1_5 3 ?_
 refine yS (vs v1) 4 ⟨cI _ _ _ 0 (prefix_.size:Int) _ underlying9 rfl rfl ⟨_,rfl⟩ hv1⟩ ?_
 refine ye [4] ?_
 exact hl4 _ (zi h).symm
 refine yx hn 6 ?_
 refine yd hg1_5 8 ?_
 refine ye [4] ?_
 exact hl4 _ (zi h).symm
theorem ix (s:Ll) (prefix_:Ll) (r:(Ll×Bool)) (h:Sh.cS s prefix_=some r):cl Tryz.prog 125 [.v (.string s),.v (.string prefix_)] (.tup [.v (.string r.1),.v (.bool r.2)]):=by
 unfold Sh.cS at h
 refine yO 15 func125 fun g0 hn hio => ?_
 refine aX hn 2 [0,1] ?_
 refine ag (ag ?_)
 obtain ⟨v1,hv1,h⟩:=zn h
 refine yx hn 2 ?_
 refine ys 1 ⟨lk call149 (iy _ _ _ hv1)⟩ ?_
 refine bH [0,1,9] ?_
 refine zc h rfl (fun h => ?_) (fun h => ?_)
 refine aX hn 3 [4,5] ?_
 refine aC (am ?_)
 obtain rfl:=zi h
 exact aE hio rfl (.tmp _ _ (.tmp _ _ .nil)) rfl rfl
 refine aA ?_
 refine ai (ag ?_)
 obtain ⟨v3,hv3,h⟩:=zn h
 refine yx hn 3 ?_
 refine yS (vs v3) 2 ⟨cI _ _ _ (prefix_.size:Int) (s.size:Int) _ underlying9 rfl ⟨_,rfl⟩ rfl hv3⟩ ?_
 refine bH [4,5] ?_
 refine aC ?_
 obtain rfl:=zi h
 exact aE hio rfl (.tmp _ _ (.tmp _ _ .nil)) rfl rfl
theorem jv (s:Ll) (prefix_:Ll) (r:(Ll×Bool)) (h:Sh.dz s prefix_=some r):cl Tryz.prog 101 [.v (.string s),.v (.string prefix_)] (.tup [.v (.string r.1),.v (.bool r.2)]):=by
 unfold Sh.dz at h
 refine yO 11 func101 fun g0 hn hio => ?_
 refine aX hn 2 [0,1] ?_
 refine ag ?_
 obtain ⟨v1,hv1,h⟩:=zn h
 refine yx hn 2 ?_
 refine ys 4 ⟨lk call125 (ix _ _ _ hv1)⟩ ?_
 refine bH [4,5] ?_
 refine aC ?_
 obtain rfl:=zi h
 exact aE hio rfl (.tmp _ _ (.tmp _ _ .nil)) rfl rfl
theorem iw (s:Ll) (suffix:Ll) (r:Bool) (h:Sh.ct s suffix=some r):cl Tryz.prog 159 [.v (.string s),.v (.string suffix)] (.v (.bool r)):=by
 unfold Sh.ct at h
 refine yO 21 func159 fun g0 hn hio => ?_
 refine aX hn 1 [0,1] ?_
 refine ag ?_
 refine aM h (fun (s3:Bool)=>[(4,vb s3)]) ?_ ?_
 rintro s3 h
 refine ai (aC ?_)
 obtain rfl:=zi h
 exact aE hio rfl (.tmp _ _ .nil) rfl rfl
 intro u4 h hl5 hr6
 refine au h (fun hg1_5 h => ?_) (fun hg1_5 h => ?_)
 obtain ⟨v1,hv1,v2,hv2,h⟩:=fK h
 refine yx hn 6 ?_
 refine yd hg1_5 5 ?_
 refine ys 0 ⟨lb hv1⟩ ?_
 refine yS (vs v2) 4 ⟨cI _ _ _ v1 (s.size:Int) _ underlying9 rfl ⟨_,rfl⟩ rfl hv2⟩ ?_
 refine ye [4] ?_
 exact hl5 _ (zi h).symm
 refine yx hn 6 ?_
 refine yd hg1_5 11 ?_
 refine ye [4] ?_
 exact hl5 _ (zi h).symm
theorem iA (s:Ll) (suffix:Ll) (r:(Ll×Bool)) (h:Sh.cQ s suffix=some r):cl Tryz.prog 150 [.v (.string s),.v (.string suffix)] (.tup [.v (.string r.1),.v (.bool r.2)]):=by
 unfold Sh.cQ at h
 refine yO 18 func150 fun g0 hn hio => ?_
 refine aX hn 2 [0,1] ?_
 refine ag (ag ?_)
 obtain ⟨v1,hv1,h⟩:=zn h
 refine yx hn 2 ?_
 refine ys 1 ⟨lk call159 (iw _ _ _ hv1)⟩ ?_
 refine bH [0,1,9] ?_
 refine zc h rfl (fun h => ?_) (fun h => ?_)
 refine aX hn 3 [4,5] ?_
 refine aC (am ?_)
 obtain rfl:=zi h
 exact aE hio rfl (.tmp _ _ (.tmp _ _ .nil)) rfl rfl
 refine aA ?_
 refine ai (ag ?_)
 obtain ⟨v3,hv3,v4,hv4,h⟩:=fK h
 refine yx hn 5 ?_
 refine ys 0 ⟨lb hv3⟩ ?_
 refine yS (vs v4) 2 ⟨cI _ _ _ 0 v3 _ underlying9 rfl rfl ⟨_,rfl⟩ hv4⟩ ?_
 refine bH [4,5] ?_
 refine aC ?_
 obtain rfl:=zi h
 exact aE hio rfl (.tmp _ _ (.tmp _ _ .nil)) rfl rfl
theorem mu (s:Ll) (suffix:Ll) (r:(Ll×Bool)) (h:Sh.eg s suffix=some r):cl Tryz.prog 126 [.v (.string s),.v (.string suffix)] (.tup [.v (.string r.1),.v (.bool r.2)]):=by
 unfold Sh.eg at h
 refine yO 11 func126 fun g0 hn hio => ?_
 refine aX hn 2 [0,1] ?_
 refine ag ?_
 obtain ⟨v1,hv1,h⟩:=zn h
 refine yx hn 2 ?_
 refine ys 4 ⟨lk call150 (iA _ _ _ hv1)⟩ ?_
 refine bH [4,5] ?_
 refine aC ?_
 obtain rfl:=zi h
 exact aE hio rfl (.tmp _ _ (.tmp _ _ .nil)) rfl rfl
theorem jC (s sub:Ll) (r:Int) (h:Sh.de s sub=some r):cl Tryz.prog 119 [.v (.string s),.v (.string sub)] (.v (.int .i64 r)):=kE Tryz.stringslite_Index_one s sub r h
theorem jT (s:Ll) (sep:Ll) (r:(Ll×Ll×Bool)) (h:Sh.dV s sep=some r):cl Tryz.prog 151 [.v (.string s),.v (.string sep)] (.tup [.v (.string r.1),.v (.string r.2.1),.v (.bool r.2.2)]):=by
 unfold Sh.dV at h
 refine yO 23 func151 fun g0 hn hio => ?_
 refine aX hn 3 [0,1] ?_
 refine ag (ag ?_)
 obtain ⟨v1,hv1,h⟩:=zn h
 refine yx hn 2 ?_
 refine ys 1 ⟨lk call119 (jC _ _ _ hv1)⟩ ?_
 refine bH [0,1,7] ?_
 refine aX hn 2 [0,1,7,12] ?_
 refine zc h rfl (fun h => ?_) (fun h => ?_)
 refine ag ?_
 obtain ⟨v3,hv3,v4,hv4,v5,hv5,h⟩:=mh h
 refine wb [[0],[7]] ?_
 refine wN [13,14] ?_
 refine wS (vs v3) [[0],[7],[1],[18]] ⟨cI _ _ _ 0 v1 _ underlying9 rfl rfl ⟨_,rfl⟩ hv3⟩ ?_
 refine wN [17,19] ?_
 refine wo [] ⟨lb hv4⟩ ?_
 refine wN [16,20] ?_
 refine wS (vs v5) [[15],[21],[]] ⟨cI _ _ _ v4 (s.size:Int) _ underlying9 rfl ⟨_,rfl⟩ rfl hv5⟩ ?_
 refine sI hn [4,5,6] ?_
 refine aC (am ?_)
 obtain rfl:=zi h
 exact aE hio rfl (.tmp _ _ (.tmp _ _ (.tmp _ _ .nil))) rfl rfl
 refine aA (ai ?_)
 refine aX hn 4 [4,5,6] ?_
 refine aC ?_
 obtain rfl:=zi h
 exact aE hio rfl (.tmp _ _ (.tmp _ _ (.tmp _ _ .nil))) rfl rfl
theorem sh (s:Ll) (sep:Ll) (r:(Ll×Ll×Bool)) (h:Sh.ir s sep=some r):cl Tryz.prog 127 [.v (.string s),.v (.string sep)] (.tup [.v (.string r.1),.v (.string r.2.1),.v (.bool r.2.2)]):=by
 unfold Sh.ir at h
 refine yO 13 func127 fun g0 hn hio => ?_
 refine aX hn 3 [0,1] ?_
 refine ag ?_
 obtain ⟨v1,hv1,h⟩:=zn h
 refine yx hn 2 ?_
 refine ys 6 ⟨lk call151 (jT _ _ _ hv1)⟩ ?_
 refine bH [4,5,6] ?_
 refine aC ?_
 obtain rfl:=zi h
 exact aE hio rfl (.tmp _ _ (.tmp _ _ (.tmp _ _ .nil))) rfl rfl
theorem sX (mx:Int) (s:Ll) (r:(aj×Int)) (h:Sh.iY s=some r):kF Tryz.prog (GL mx) 102 [.v (.string s)] (.tup [.agg [.v (.bool r.1.Lh),.v (.string r.1.Lf),.v (.string r.1.Lc)],.v (.int .i64 r.2)]):=by
 unfold Sh.iY at h
 refine yG 50 func102 fun g0 hn hio => ?_
 refine gh hn 0 ?_
 refine yS (.box 43 [vb false,vs z0,vs z0]) 1 ⟨oA (bu _ _ jr)⟩ ?_
 refine bH [0,50,2] ?_
 refine ag ?_
 refine aX hn 2 [0,50,2,12] ?_
 refine zc h rfl (fun h => ?_) (fun h => ?_)
 refine gh hn 0 ?_
 refine yS (.agg [vb true,vs z0,vs z0]) 2 ⟨bQ _ _ _ _ [1,1,1] _ _ underlying43 jr (qP _ underlying43) (.copy _ kP.nil) rfl rfl rfl⟩ ?_
 refine bH [50,2,3] ?_
 refine aC ?_
 refine aB [1,2] (by kernel_rfl) (es':=[(_,_),(_,_)]) rfl ?_
 refine am ?_
 obtain rfl:=zi h
 exact aE hio rfl (.cellA _ _ _ _ underlying43 rfl iG (.tmp _ _ .nil)) rfl rfl
 refine aA ?_
 refine ai (ag ?_)
 obtain ⟨v2,hv2,h⟩:=zn h
 refine yx hn 1 ?_
 refine ys 0 ⟨lk call101 (jv _ _ _ hv2)⟩ ?_
 refine ym 4 ?_
 refine bH [50,2,4,5] ?_
 refine ag ?_
 obtain ⟨v3,hv3,h⟩:=zn h
 refine yx hn 1 ?_
 refine ys 0 ⟨lk call126 (mu _ _ _ hv3)⟩ ?_
 refine ym 2 ?_
 refine yw [4] 2 ?_
 refine bH [50,2,5,4,6] ?_
 refine ag ?_
 obtain ⟨v4,hv4,h⟩:=zn h
 refine yx hn 1 ?_
 refine ys 0 ⟨lk call127 (sh _ _ _ hv4)⟩ ?_
 refine ym 6 ?_
 refine bH [50,2,5,6,7,8,9] ?_
 refine gh hn 2 ?_
 refine yS (.agg [vb false,vs v4.1,vs v4.2.1]) 0 ⟨bQ _ _ _ _ [1,1,1] _ _ underlying43 jr (qP _ underlying43) (.copy _ (.copy _ kP.nil)) rfl rfl rfl⟩ ?_
 refine yS (.box 43 [vb false,vs z0,vs z0]) 1 ⟨oA (bu _ _ jr)⟩ ?_
 refine bH [50,2,5,6,9,10] ?_
 refine ag (ag ?_)
 refine aM h (fun (s6:Bool)=>[(50,.glob (GL mx)),(2,.box 43 [vb false,vs z0,vs z0]),(10,.box 43 [vb false,vs v4.1,vs v4.2.1]),(47,vb s6)]) ?_ ?_
 rintro s6 h
 refine ai ?_
 refine zc h rfl (fun h => ?_) (fun h => ?_)
 refine gh hn 0 ?_
 refine yS (.agg [vb false,vs z0,vs z0]) 0 ⟨bQ _ _ _ _ [1,1,1] _ _ underlying43 jr (qP _ underlying43) kP.nil rfl rfl rfl⟩ ?_
 refine yk [48,2] [] ?_
 refine yt (2,.box 43 [vb false,vs z0,vs z0]) 1 ⟨bL _ _ _ 48 2 3 iG rfl rfl rfl rfl rfl (.eq _ (.eq _ (.eq _ (.nil _)))) rfl⟩ ?_
 refine bH [50,2,3] ?_
 refine aC ?_
 refine aB [1,2] (by kernel_rfl) (es':=[(_,_),(_,_)]) rfl ?_
 refine am ?_
 obtain rfl:=zi h
 exact aE hio rfl (.cellA _ _ _ _ underlying43 rfl iG (.tmp _ _ .nil)) rfl rfl
 refine aA (ai ?_)
 refine aX hn 3 [50,2,3] ?_
 refine aC ?_
 refine aB [1,2] (by kernel_rfl) (es':=[(_,_),(_,_)]) rfl ?_
 obtain rfl:=zi h
 exact aE hio rfl (.cellA _ _ _ _ underlying43 rfl iG (.tmp _ _ .nil)) rfl rfl
 intro u7 h hl8 hr9
 refine au h (fun hg7_2 h => ?_) (fun hg7_2 h => ?_)
 refine yx hn 3 ?_
 refine yd hg7_2 12 ?_
 refine ye [50,2,10,47] ?_
 exact hl8 _ (zi h).symm
 refine au h (fun hg7_6 h => ?_) (fun hg7_6 h => ?_)
 refine yx hn 3 ?_
 refine yd hg7_2 4 ?_
 refine yd hg7_6 8 ?_
 refine ye [50,2,10,47] ?_
 exact hl8 _ (zi h).symm
 refine au h (fun hg7_10 h => ?_) (fun hg7_10 h => ?_)
 refine yx hn 3 ?_
 refine yd hg7_2 4 ?_
 refine yd hg7_6 4 ?_
 refine yd hg7_10 4 ?_
 refine ye [50,2,10,47] ?_
 exact hl8 _ (zi h).symm
 obtain ⟨v5,hv5,h⟩:=zn h
 refine yx hn 3 ?_
 refine yd hg7_2 4 ?_
 refine yd hg7_6 4 ?_
 refine yd hg7_10 1 ?_
 refine ys 2 ⟨lg call68 (fk _ _ _ hv5) 50⟩ ?_
 refine ye [50,2,10,47] ?_
 exact hl8 _ (zi h).symm
theorem qo (mx:Int) (b:(List Int)) (r:(Int×Bool)) (h:Sh.cO b=some r):kF Tryz.prog (GL mx) 103 [.fl .shr 1 (map (int .u8) b)] (.tup [.v (.int .i64 r.1),.v (.bool r.2)]):=by
 unfold Sh.cO at h
 refine yG 17 func103 fun g0 hn hio => ?_
 refine gh hn 0 ?_
 refine yS (.box 3 [vi 0]) 0 ⟨oA (bu _ _ IU)⟩ ?_
 refine yS (.box 4 [vb false]) 0 ⟨oA (bu _ _ Ki)⟩ ?_
 refine bH [0,17,2,3] ?_
 refine ag (ag ?_)
 obtain ⟨v1,hv1,h⟩:=zn h
 refine yx hn 1 ?_
 refine yk [] [5] ?_
 refine yt (6,.cloB 89 [.box 25 [fb v1]]) 0 ⟨jq _ _ 69 _ _ rfl call69 rfl rfl (jm b _ hv1) rfl⟩ ?_
 refine bH [17,2,3,6] ?_
 refine aP ?_
 refine jQ [3,0,1,2] (by kernel_rfl) (es':=[(6,.cloB 89 [.box 25 [fb v1]]),(17,.glob (GL mx)),(2,.box 3 [vi 0]),(3,.box 4 [vb false])]) rfl ?_
 refine ke h 89 6 7 18 _ [17,2,3] call89 (fun (s8:Int)=>[(17,.glob (GL mx)),(2,.box 3 [.v (.int .i64 s8)]),(3,.box 4 [.v (.bool false)])]) (fun (s10:Int)=>[(17,.glob (GL mx)),(2,.box 3 [.v (.int .i64 s10)]),(3,.box 4 [.v (.bool true)])]) (fun l J Y hY t t' h=>gP mx l J Y hY v1 t t' h) hn rfl (fun _=>rfl) (fun _=>rfl) (fun _=>rfl) rfl rfl (fun _=>⟨rfl,rfl⟩) rfl (ka 17 rfl) ?_ ?_ ?_
 rintro kk g0 hn hio x s8 u h
 refine ui (es':=[(7,fb x),(17,.glob (GL mx)),(2,.box 3 [vi s8]),(3,.box 4 [vb false]),(17,.v (kk.tm.getD 17 undef)),(2,.v (kk.tm.getD 2 undef)),(3,.v (kk.tm.getD 3 undef)),(18,.inv kk.ready)]) rfl ?_
 refine yy hn 1 [17,2,3,18,4,17,2,3] ?_
 refine aB [0,1,2,4,5,6,7,3] (by kernel_rfl) (es':=[(17,.glob (GL mx)),(2,.box 3 [vi s8]),(3,.box 4 [vb false]),(4,fb x),(17,.v (kk.tm.getD 17 undef)),(2,.v (kk.tm.getD 2 undef)),(3,.v (kk.tm.getD 3 undef)),(18,.inv kk.ready)]) rfl ?_
 refine lq (es:=[(17,.glob (GL mx)),(2,.box 3 [vi s8]),(3,.box 4 [vb false]),(4,fb x),(17,.v (kk.tm.getD 17 undef)),(2,.v (kk.tm.getD 2 undef)),(3,.v (kk.tm.getD 3 undef))]) 18 rfl ?_
 refine aP (ag (ag ?_))
 obtain ⟨v2,hv2,h⟩:=zn h
 refine yx hn 1 ?_
 refine ys 1 ⟨lS hv2⟩ ?_
 refine bH [17,2,3,4,18,10,17,2,3] ?_
 refine zc h rfl (fun h => ?_) (fun h => ?_)
 refine aX hn 3 [17,2,3,18,17,2,3] ?_
 refine aC (am (aV ?_))
 refine aB [0,1,2,4,5,6,3] (by kernel_rfl) (es':=[(_,_),(_,_),(_,_),(_,_),(_,_),(_,_),(_,_)]) rfl ?_
 obtain rfl:=zi h
 exact rm 18 [17,2,3] _ rfl rfl (by kernel_rfl)
 refine aA (ai ?_)
 obtain ⟨v4,hv4,v5,hv5,h⟩:=fK h
 refine yx hn 3 ?_
 refine ys 0 ⟨lb hv4⟩ ?_
 refine ys 1 ⟨lb hv5⟩ ?_
 refine ye [17,2,3,18,17,2,3] ?_
 refine br ?_
 refine aB [0,1,2,4,5,6,3] (by kernel_rfl) (es':=[(_,_),(_,_),(_,_),(_,_),(_,_),(_,_),(_,_)]) rfl ?_
 obtain rfl:=zi h
 exact kT 18 [17,2,3] _ rfl rfl (by kernel_rfl)
 rintro D s8 h
 refine br (ai ?_)
 refine aX hn 2 [17,2,3] ?_
 refine aC ?_
 refine aB [1,2] (by kernel_rfl) (es':=[(_,_),(_,_)]) rfl ?_
 obtain rfl:=zi h
 exact aE hio rfl (.cell1 _ _ _ _ underlying3 rfl (.cell1 _ _ _ _ underlying4 rfl .nil)) rfl rfl
 rintro D s10 h
 refine aB [1,2] (by kernel_rfl) (es':=[(_,_),(_,_)]) rfl ?_
 refine aV (am ?_)
 obtain rfl:=zi h
 exact aE hio rfl (.cell1 _ _ _ _ underlying3 rfl (.cell1 _ _ _ _ underlying4 rfl .nil)) rfl rfl
theorem lM (s:(List Int)) (prefix_:(List Int)) (r:(List Int)) (h:Sh.dC s prefix_=some r):cl Tryz.prog 104 [.fl .shr 1 (map (int .u8) s),.fl .shr 1 (map (int .u8) prefix_)] (.fl .shr 1 (map (int .u8) r)):=by
 unfold Sh.dC at h
 refine yO 13 func104 fun g0 hn hio => ?_
 refine aX hn 1 [0,1] ?_
 refine ag (ag ?_)
 obtain ⟨v1,hv1,h⟩:=zn h
 refine yx hn 2 ?_
 refine ys 0 ⟨lk call70 (gR _ _ _ hv1)⟩ ?_
 refine bH [0,1,7] ?_
 refine zc h rfl (fun h => ?_) (fun h => ?_)
 refine ag ?_
 obtain ⟨v3,hv3,h⟩:=zn h
 refine yx hn 3 ?_
 refine yS (fb v3) 1 ⟨ik _ _ _ (prefix_.length:Int) (s.length:Int) _ underlying25 nM rfl rfl ⟨_,rfl⟩ rfl hv3⟩ ?_
 refine bH [4] ?_
 refine aC (am ?_)
 obtain rfl:=zi h
 exact aE hio rfl (.tmp _ _ .nil) rfl rfl
 refine aA (ai ?_)
 refine aX hn 2 [4] ?_
 refine aC ?_
 obtain rfl:=zi h
 exact aE hio rfl (.tmp _ _ .nil) rfl rfl
theorem tb (mx:Int) (b:(List Int)) (r:((List Int)×Int×Int)) (h:Sh.dw b=some r):kF Tryz.prog (GL mx) 81 [.fl .shr 1 (map (int .u8) b)] (.tup [.fl (.own 5) 1 (map (int .u8) r.1),.v (.int .i64 r.2.1),.v (.int .i64 r.2.2)]):=by
 unfold Sh.dw at h
 refine yG 39 func81 fun g0 hn hio => ?_
 refine gh hn 0 ?_
 refine yS (.box 25 [vz]) 2 ⟨oA (bu _ _ Gw)⟩ ?_
 refine bH [0,39,2] ?_
 refine ag ?_
 obtain ⟨v1,hv1,h⟩:=zn h
 refine yx hn 1 ?_
 refine ys 0 ⟨lg call103 (qo _ _ _ hv1) 39⟩ ?_
 refine ym 4 ?_
 refine bH [0,39,2,5,6] ?_
 refine ag ?_
 refine aX hn 2 [0,39,2,5,15] ?_
 refine zc h rfl (fun h => ?_) (fun h => ?_)
 refine aX hn 3 [39,2,3,4] ?_
 refine aC ?_
 refine aB [1,2,3] (by kernel_rfl) (es':=[(_,_),(_,_),(_,_)]) rfl ?_
 refine di (fs:=[(2,.box 25 [.fl (.own 5) 1 (map (int .u8) [])]),(3,vi 0),(4,vi 9)]) (.box _ _ (ay (cd 5 1) (cr)) rfl (.same _ (.same _ .nil))) ?_
 refine am ?_
 obtain rfl:=zi h
 exact aE hio rfl (.cell1 _ _ _ _ underlying25 rfl (.tmp _ _ (.tmp _ _ .nil))) rfl rfl
 refine aA ?_
 refine ai (ag ?_)
 refine ag ?_
 obtain ⟨v3,hv3,v4,hv4,h⟩:=fK h
 refine yx hn 2 ?_
 refine yS (fb v3) 0 ⟨ik _ _ _ 0 v1.1 _ underlying25 nM rfl rfl rfl ⟨_,rfl⟩ hv3⟩ ?_
 refine ys 1 ⟨lg call65 (kH _ _ _ hv4) 39⟩ ?_
 refine bH [0,39,2,5,7] ?_
 refine aX hn 2 [0,39,2,5,7,21] ?_
 refine zc h rfl (fun h => ?_) (fun h => ?_)
 refine aX hn 4 [39,2,3,4] ?_
 refine aC ?_
 refine aB [1,2,3] (by kernel_rfl) (es':=[(_,_),(_,_),(_,_)]) rfl ?_
 refine di (fs:=[(2,.box 25 [.fl (.own 5) 1 (map (int .u8) [])]),(3,vi 0),(4,vi v4)]) (.box _ _ (ay (cd 5 1) (cr)) rfl (.same _ (.same _ .nil))) ?_
 refine am ?_
 obtain rfl:=zi h
 exact aE hio rfl (.cell1 _ _ _ _ underlying25 rfl (.tmp _ _ (.tmp _ _ .nil))) rfl rfl
 refine aA ?_
 refine ai (ag ?_)
 refine ag ?_
 obtain ⟨v6,hv6,v7,hv7,h⟩:=fK h
 refine yx hn 2 ?_
 refine yS (fb v6) 0 ⟨ik _ _ _ 0 v1.1 _ underlying25 nM rfl rfl rfl ⟨_,rfl⟩ hv6⟩ ?_
 refine yk [] [25] ?_
 refine yt (26,.cloB 89 [.box 25 [fb v7]]) 0 ⟨jq _ _ 69 _ _ rfl call69 rfl rfl (jm v6 _ hv7) rfl⟩ ?_
 refine bH [39,2,5,26] ?_
 refine aP ?_
 refine jQ [3,0,1,2] (by kernel_rfl) (es':=[(26,.cloB 89 [.box 25 [fb v7]]),(39,.glob (GL mx)),(2,.box 25 [vz]),(5,vi v1.1)]) rfl ?_
 refine gX (fs:=[(26,.cloB 89 [.box 25 [fb v7]]),(39,.glob (GL mx)),(2,.box 25 [.fl (.own 5) 1 (map (int .u8) [])]),(5,vi v1.1)]) (.same _ (.same _ (.box _ _ (ay (cd 5 1) (cr)) rfl (.same _ .nil)))) ?_
 refine ke h 89 26 27 40 _ [39,2,5] call89 (fun (s12:(List Int))=>[(39,.glob (GL mx)),(2,.box 25 [.fl (.own 5) 1 (map (int .u8) s12)]),(5,.v (.int .i64 v1.1))]) (fun (():Unit)=>[]) (fun l J Y hY t t' h=>gP mx l J Y hY v7 t t' h) hn rfl (fun _=>rfl) (fun _=>rfl) (fun _=>rfl) rfl rfl (fun _=>⟨rfl,rfl⟩) rfl (ka 39 rfl) ?_ ?_ ?_
 rintro kk g0 hn hio x s12 u h
 refine ui (es':=[(27,fb x),(39,.glob (GL mx)),(2,.box 25 [.fl (.own 5) 1 (map (int .u8) s12)]),(5,vi v1.1),(39,.v (kk.tm.getD 39 undef)),(2,.v (kk.tm.getD 2 undef)),(5,.v (kk.tm.getD 5 undef)),(40,.inv kk.ready)]) rfl ?_
 refine yy hn 1 [39,2,5,40,8,39,2,5] ?_
 refine aB [0,1,2,4,5,6,7,3] (by kernel_rfl) (es':=[(39,.glob (GL mx)),(2,.box 25 [.fl (.own 5) 1 (map (int .u8) s12)]),(5,vi v1.1),(8,fb x),(39,.v (kk.tm.getD 39 undef)),(2,.v (kk.tm.getD 2 undef)),(5,.v (kk.tm.getD 5 undef)),(40,.inv kk.ready)]) rfl ?_
 refine lq (es:=[(39,.glob (GL mx)),(2,.box 25 [.fl (.own 5) 1 (map (int .u8) s12)]),(5,vi v1.1),(8,fb x),(39,.v (kk.tm.getD 39 undef)),(2,.v (kk.tm.getD 2 undef)),(5,.v (kk.tm.getD 5 undef))]) 40 rfl ?_
 refine aP (ag ?_)
 obtain ⟨v8,hv8,v9,hv9,h⟩:=fK h
 refine wb [[2],[8]] ?_
 refine wN [] ?_
 refine wS (.fl (.own 5) 1 (map (int .u8) [46])) [] ⟨cb _ _ 1 (.int .u8 0) (map (int .u8) [46]) [(0,.int .u8 46)] underlying25 nM tj (fun _ V w o a hv hes=>by simp only [List.map_toArray,List.map_cons,List.map_nil]; try rfl) (fv (by simp [Instr.fill,Value.cells]; rfl) (by simp [List.range,List.range.loop] <;> rfl)) (by simp [Value.oneCell']) rfl (by decide) (by decide) (by decide)⟩ ?_
 refine wK [30] [] ?_
 refine wt [(31,.fl .ro 1 (map (int .u8) [46]))] [] ⟨gA _ _ _ underlying25 underlying5 (by intro h; cases h)⟩ ?_
 refine wN [29,31] ?_
 refine wS (fb v8) [] ⟨jq _ _ 104 _ _ rfl call104 rfl rfl (lM x [46] _ hv8) rfl⟩ ?_
 refine wK [2] [28,32] ?_
 refine wt [(2,.box 25 [.any]),(33,.fl (.own 5) 1 (map (int .u8) v9))] [] ⟨jz _ _ _ _ _ _ kC rfl rfl (zl rfl) rfl (gN _) (gN _) hv9 ((List.map_append).symm.trans (congrArg (map _) (jb hv9))) (Nat.ne_of_beq_eq_false rfl) rfl rfl⟩ ?_
 refine wK [28,33,2] [] ?_
 refine wt [(2,.box 25 [.fl (.own 5) 1 (map (int .u8) v9)])] [] ⟨bD.drop [_] (aR _ _ _ _ _ _ _ _ qX rfl rfl rfl (zl rfl) rfl rfl)⟩ ?_
 refine sI hn [39,2,5,40,39,2,5] ?_
 obtain ⟨v10,hv10,h⟩:=zn h
 refine yx hn 1 ?_
 refine yk [2] [34] ?_
 refine pX (2,.box 25 [.any]) (35,.fl (.own 5) 1 (map (int .u8) v10)) 0 ⟨fM _ _ _ _ _ _ kC tj underlying9 rfl rfl (zl rfl) rfl rfl hv10 rfl (Nat.ne_of_beq_eq_false rfl) rfl rfl⟩ ?_
 refine yw [34] 0 ?_
 refine yk [35,2] [] ?_
 refine yt (2,.box 25 [.fl (.own 5) 1 (map (int .u8) v10)]) 0 ⟨aR _ _ _ _ _ _ _ _ qX rfl rfl rfl (zl rfl) rfl rfl⟩ ?_
 refine ye [39,2,5,40,39,2,5] ?_
 refine br ?_
 refine aB [0,1,2,4,5,6,3] (by kernel_rfl) (es':=[(_,_),(_,_),(_,_),(_,_),(_,_),(_,_),(_,_)]) rfl ?_
 obtain rfl:=zi h
 exact kT 40 [39,2,5] _ rfl rfl (by kernel_rfl)
 rintro D s12 h
 refine br ?_
 refine ai (ag ?_)
 obtain ⟨v13,hv13,h⟩:=zn h
 refine yx hn 2 ?_
 refine ys 0 ⟨lb hv13⟩ ?_
 refine yk [2] [36] ?_
 refine yt (2,.box 25 [.fl (.own 5) 1 (map (int .u8) s12)]) 2 ⟨rA _ _ _ 2 0 qX rfl rfl rfl (zl rfl)⟩ ?_
 refine bH [39,2,3,4] ?_
 refine aC ?_
 refine aB [1,2,3] (by kernel_rfl) (es':=[(_,_),(_,_),(_,_)]) rfl ?_
 obtain rfl:=zi h
 exact aE hio rfl (.cell1 _ _ _ _ underlying25 rfl (.tmp _ _ (.tmp _ _ .nil))) rfl rfl
 rintro D ⟨⟩ h
 cases h
theorem lR (mx:Int) (s:(List Int)) (sep:(List Int)) (r:((List Int)×(List Int)×Bool)) (h:Sh.eF s sep=some r):kF Tryz.prog (GL mx) 34 [.fl .ro 1 (map (int .u8) s),.fl .ro 1 (map (int .u8) sep)] (.tup [.fl .ro 1 (map (int .u8) r.1),.fl .ro 1 (map (int .u8) r.2.1),.v (.bool r.2.2)]):=by
 unfold Sh.eF at h
 refine yG 23 func34 fun g0 hn hio => ?_
 refine aX hn 3 [0,1,23] ?_
 refine ag (ag ?_)
 obtain ⟨v1,hv1,h⟩:=zn h
 refine yx hn 2 ?_
 refine ys 1 ⟨lg call56 (mB _ _ _ _ hv1) 23⟩ ?_
 refine bH [0,1,23,7] ?_
 refine aX hn 2 [0,1,23,7,12] ?_
 refine zc h rfl (fun h => ?_) (fun h => ?_)
 refine ag ?_
 obtain ⟨v3,hv3,v4,hv4,v5,hv5,h⟩:=mh h
 refine wb [[0],[7]] ?_
 refine wN [13,14] ?_
 refine wS (.fl .ro 1 (map (int .u8) v3)) [[0],[7],[1],[18]] ⟨ik _ _ _ 0 v1 _ underlying25 nM rfl rfl rfl ⟨_,rfl⟩ hv3⟩ ?_
 refine wN [17,19] ?_
 refine wo [] ⟨lb hv4⟩ ?_
 refine wN [16,20] ?_
 refine wS (.fl .ro 1 (map (int .u8) v5)) [[15],[21],[]] ⟨ik _ _ _ v4 (s.length:Int) _ underlying25 nM rfl rfl ⟨_,rfl⟩ rfl hv5⟩ ?_
 refine sI hn [23,4,5,6] ?_
 refine aC ?_
 refine aB [1,2,3] (by kernel_rfl) (es':=[(_,_),(_,_),(_,_)]) rfl ?_
 refine am ?_
 obtain rfl:=zi h
 exact aE hio rfl (.tmp _ _ (.tmp _ _ (.tmp _ _ .nil))) rfl rfl
 refine aA (ai ?_)
 refine aX hn 4 [23,4,5,6] ?_
 refine aC ?_
 refine aB [1,2,3] (by kernel_rfl) (es':=[(_,_),(_,_),(_,_)]) rfl ?_
 refine di (fs:=[(4,.fl .ro 1 (map (int .u8) s)),(5,.fl (.own 5) 1 (map (int .u8) [])),(6,vb false)]) (.same _ (.sub _ (cd 5 1) rfl (.same _ .nil))) ?_
 refine kN 1 hio (es':=[(4,.fl .ro 1 (map (int .u8) s)),(5,.fl .ro 1 (map (int .u8) [])),(6,.v (.bool false))]) rfl ?_
 obtain rfl:=zi h
 exact aE hio rfl (.tmp _ _ (.tmp _ _ (.tmp _ _ .nil))) rfl rfl
theorem iF (mx:Int) (c:(List Int)) (word:Ll) (r:(aj×(List Int)×Bool)) (h:Sh.bV c word=some r):kF Tryz.prog (GL mx) 79 [.fl .ro 1 (map (int .u8) c),.v (.string word)] (.tup [.agg [.v (.bool r.1.Lh),.v (.string r.1.Lf),.v (.string r.1.Lc)],.fl .ro 1 (map (int .u8) r.2.1),.v (.bool r.2.2)]):=by
 unfold Sh.bV at h
 refine yG 43 func79 fun g0 hn hio => ?_
 refine gh hn 0 ?_
 refine yS (.box 43 [vb false,vs z0,vs z0]) 2 ⟨oA (bu _ _ jr)⟩ ?_
 refine bH [0,1,43,4] ?_
 refine ag ?_
 obtain ⟨v1,hv1,h⟩:=zn h
 refine yx hn 1 ?_
 refine yS (.fl (.own 5) 1 (map (int .u8) [13,10])) 0 ⟨cb _ _ 1 (.int .u8 0) (map (int .u8) [13,10]) [(0,.int .u8 13),(1,.int .u8 10)] underlying25 nM tj (fun _ V w o a hv hes=>by simp only [List.map_toArray,List.map_cons,List.map_nil]; try rfl) (fv (by simp [Instr.fill,Value.cells]; rfl) (by simp [List.range,List.range.loop] <;> rfl)) (by simp [Value.oneCell']) rfl (by decide) (by decide) (by decide)⟩ ?_
 refine yk [14] [] ?_
 refine yt (15,.fl .ro 1 (map (int .u8) [13,10])) 0 ⟨gA _ _ _ underlying25 underlying5 (by intro h; cases h)⟩ ?_
 refine yS (.tup [.fl .ro 1 (map (int .u8) v1.1),.fl .ro 1 (map (int .u8) v1.2.1),vb v1.2.2]) 0 ⟨ig _ _ 43 34 _ _ rfl call34 rfl rfl (fun _ h=>h) (lR mx c [13,10] _ hv1) rfl rfl⟩ ?_
 refine ym 6 ?_
 refine bH [1,43,4,7,5,8] ?_
 refine ag ?_
 obtain ⟨v2,hv2,v3,hv3,h⟩:=fK h
 refine yx hn 1 ?_
 refine ys 1 ⟨lS hv2⟩ ?_
 refine ys 0 ⟨lk call101 (jv _ _ _ hv3)⟩ ?_
 refine ym 4 ?_
 refine bH [43,4,5,8,9,10] ?_
 refine ag (ag ?_)
 refine aM h (fun (s10:Bool)=>[(43,.glob (GL mx)),(4,.box 43 [vb false,vs z0,vs z0]),(5,.fl .ro 1 (map (int .u8) v1.2.1)),(9,vs v3.1),(32,vb s10)]) ?_ ?_
 rintro s10 h
 refine ai ?_
 refine zc h rfl (fun h => ?_) (fun h => ?_)
 refine gh hn 0 ?_
 refine yS (.agg [vb false,vs z0,vs z0]) 0 ⟨bQ _ _ _ _ [1,1,1] _ _ underlying43 jr (qP _ underlying43) kP.nil rfl rfl rfl⟩ ?_
 refine yk [33,4] [] ?_
 refine yt (4,.box 43 [vb false,vs z0,vs z0]) 0 ⟨bL _ _ _ 33 4 3 iG rfl rfl rfl rfl rfl (.eq _ (.eq _ (.eq _ (.nil _)))) rfl⟩ ?_
 refine yw [5] 2 ?_
 refine bH [43,4,5,6] ?_
 refine aC ?_
 refine aB [1,2,3] (by kernel_rfl) (es':=[(_,_),(_,_),(_,_)]) rfl ?_
 refine di (fs:=[(4,.box 43 [vb false,vs z0,vs z0]),(5,.fl (.own 5) 1 (map (int .u8) [])),(6,vb false)]) (.same _ (.sub _ (cd 5 1) rfl (.same _ .nil))) ?_
 refine kN 1 hio (es':=[(4,.box 43 [.v (.bool false),.v (.string (⟨#[]⟩:Ll)),.v (.string (⟨#[]⟩:Ll))]),(5,.fl .ro 1 (map (int .u8) [])),(6,.v (.bool false))]) rfl ?_
 refine am ?_
 obtain rfl:=zi h
 exact aE hio rfl (.cellA _ _ _ _ underlying43 rfl iG (.tmp _ _ (.tmp _ _ .nil))) rfl rfl
 refine aA ?_
 refine ai (ag ?_)
 obtain ⟨v9,hv9,h⟩:=zn h
 refine yx hn 1 ?_
 refine ys 0 ⟨lg call102 (sX _ _ _ hv9) 43⟩ ?_
 refine ym 0 ?_
 refine yS (.agg [vb v9.1.Lh,vs v9.1.Lf,vs v9.1.Lc]) 3 ⟨eK _ _ _ _ _ _ rfl rfl (zl rfl) rfl rfl⟩ ?_
 refine bH [43,4,5,11] ?_
 refine gh hn 4 ?_
 refine yk [39,4] [] ?_
 refine yt (4,.box 43 [vb v9.1.Lh,vs v9.1.Lf,vs v9.1.Lc]) 0 ⟨bL _ _ _ 39 4 3 iG rfl rfl rfl rfl rfl (.eq _ (.eq _ (.eq _ (.nil _)))) rfl⟩ ?_
 refine yw [5] 2 ?_
 refine bH [43,4,5,6] ?_
 refine aC ?_
 refine aB [1,2,3] (by kernel_rfl) (es':=[(_,_),(_,_),(_,_)]) rfl ?_
 obtain rfl:=zi h
 exact aE hio rfl (.cellA _ _ _ _ underlying43 rfl iG (.tmp _ _ (.tmp _ _ .nil))) rfl rfl
 intro u11 h hl12 hr13
 refine au h (fun hg3_2 h => ?_) (fun hg3_2 h => ?_)
 refine yx hn 3 ?_
 refine yd hg3_2 3 ?_
 refine ye [43,4,5,9,32] ?_
 exact hl12 _ (zi h).symm
 refine yx hn 3 ?_
 refine yd hg3_2 3 ?_
 refine ye [43,4,5,9,32] ?_
 exact hl12 _ (zi h).symm
theorem mb (s:(List Int)) (prefix_:(List Int)) (r:((List Int)×Bool)) (h:Sh.dk s prefix_=some r):cl Tryz.prog 80 [.fl .ro 1 (map (int .u8) s),.fl .ro 1 (map (int .u8) prefix_)] (.tup [.fl .ro 1 (map (int .u8) r.1),.v (.bool r.2)]):=by
 unfold Sh.dk at h
 refine yO 15 func80 fun g0 hn hio => ?_
 refine aX hn 2 [0,1] ?_
 refine ag (ag ?_)
 obtain ⟨v1,hv1,h⟩:=zn h
 refine yx hn 2 ?_
 refine ys 1 ⟨lk call70 (gR _ _ _ hv1)⟩ ?_
 refine bH [0,1,9] ?_
 refine zc h rfl (fun h => ?_) (fun h => ?_)
 refine aX hn 3 [4,5] ?_
 refine aC (am ?_)
 obtain rfl:=zi h
 exact aE hio rfl (.tmp _ _ (.tmp _ _ .nil)) rfl rfl
 refine aA ?_
 refine ai (ag ?_)
 obtain ⟨v3,hv3,h⟩:=zn h
 refine yx hn 3 ?_
 refine yS (.fl .ro 1 (map (int .u8) v3)) 2 ⟨ik _ _ _ (prefix_.length:Int) (s.length:Int) _ underlying25 nM rfl rfl ⟨_,rfl⟩ rfl hv3⟩ ?_
 refine bH [4,5] ?_
 refine aC ?_
 obtain rfl:=zi h
 exact aE hio rfl (.tmp _ _ (.tmp _ _ .nil)) rfl rfl
end Go.Proofs.YtglabbpbianmnaaGreatDoor
