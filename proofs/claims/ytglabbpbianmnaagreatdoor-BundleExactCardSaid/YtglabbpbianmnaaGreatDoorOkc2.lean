import Derived.Test.YtglabbpbianmnaaGreatDoorOkc1
set_option linter.unusedVariables false
set_option linter.unusedSimpArgs false
set_option maxHeartbeats 1000000
namespace Go.Proofs.YtglabbpbianmnaaGreatDoor
open Go.Abs Go.Abs.Sh Tryz
open List (map flatten)
open Value (int)
theorem kH (mx:Int) (b:(List Int)) (r:Int) (h:Sh.cM b=some r):kF Tryz.prog (GL mx) 65 [.fl .shr 1 (map (int .u8) b)] (.v (.int .i64 r)):=by
 unfold Sh.cM at h
 refine yG 19 func65 fun g0 hn hio => ?_
 refine gh hn 0 ?_
 refine yS (.box 29 [vi 0]) 0 ⟨oA (bu _ _ JE)⟩ ?_
 refine bH [0,19,2] ?_
 refine gh hn 0 ?_
 refine yS (.box 3 [vi 0]) 1 ⟨oA (bu _ _ IU)⟩ ?_
 refine bH [0,19,2,3] ?_
 refine ag (ag ?_)
 obtain ⟨v1,hv1,h⟩:=zn h
 refine yx hn 1 ?_
 refine yk [] [5] ?_
 refine yt (6,.cloB 89 [.box 25 [fb v1]]) 0 ⟨jq _ _ 69 _ _ rfl call69 rfl rfl (jm b _ hv1) rfl⟩ ?_
 refine bH [0,19,2,3,6] ?_
 refine aP ?_
 refine jQ [4,0,1,2,3] (by kernel_rfl) (es':=[(6,.cloB 89 [.box 25 [fb v1]]),(0,fb b),(19,.glob (GL mx)),(2,.box 29 [vi 0]),(3,.box 3 [vi 0])]) rfl ?_
 refine ke h 89 6 7 20 _ [0,19,2,3] call89 (fun (s8:Int)=>[(0,fb b),(19,.glob (GL mx)),(2,.box 29 [.v (.int .i64 0)]),(3,.box 3 [.v (.int .i64 s8)])]) (fun (s10:Int)=>[(0,fb b),(19,.glob (GL mx)),(2,.box 29 [.v (.int .i64 5)]),(3,.box 3 [.v (.int .i64 s10)])]) (fun l J Y hY t t' h=>gP mx l J Y hY v1 t t' h) hn rfl (fun _=>rfl) (fun _=>rfl) (fun _=>rfl) rfl rfl (fun _=>⟨rfl,rfl⟩) rfl (ka 19 rfl) ?_ ?_ ?_
 rintro kk g0 hn hio x s8 u h
 refine ui (es':=[(7,fb x),(0,fb b),(19,.glob (GL mx)),(2,.box 29 [vi 0]),(3,.box 3 [vi s8]),(0,.v (kk.tm.getD 0 undef)),(19,.v (kk.tm.getD 19 undef)),(2,.v (kk.tm.getD 2 undef)),(3,.v (kk.tm.getD 3 undef)),(20,.inv kk.ready)]) rfl ?_
 refine yy hn 1 [0,19,2,3,20,4,0,19,2,3] ?_
 refine aB [0,1,2,3,5,6,7,8,9,4] (by kernel_rfl) (es':=[(0,fb b),(19,.glob (GL mx)),(2,.box 29 [vi 0]),(3,.box 3 [vi s8]),(4,fb x),(0,.v (kk.tm.getD 0 undef)),(19,.v (kk.tm.getD 19 undef)),(2,.v (kk.tm.getD 2 undef)),(3,.v (kk.tm.getD 3 undef)),(20,.inv kk.ready)]) rfl ?_
 refine lq (es:=[(0,fb b),(19,.glob (GL mx)),(2,.box 29 [vi 0]),(3,.box 3 [vi s8]),(4,fb x),(0,.v (kk.tm.getD 0 undef)),(19,.v (kk.tm.getD 19 undef)),(2,.v (kk.tm.getD 2 undef)),(3,.v (kk.tm.getD 3 undef))]) 20 rfl ?_
 refine aP (ag (ag ?_))
 obtain ⟨v2,hv2,h⟩:=zn h
 refine yx hn 1 ?_
 refine ys 0 ⟨lg call84 (mF _ _ _ _ hv2) 19⟩ ?_
 refine bH [0,19,2,3,4,20,9,0,19,2,3] ?_
 refine zc h rfl (fun h => ?_) (fun h => ?_)
 refine aX hn 1 [0,19,2,3,20,0,19,2,3] ?_
 refine aC (am (aV ?_))
 refine aB [0,1,2,3,5,6,7,8,4] (by kernel_rfl) (es':=[(_,_),(_,_),(_,_),(_,_),(_,_),(_,_),(_,_),(_,_),(_,_)]) rfl ?_
 obtain rfl:=zi h
 exact rm 20 [0,19,2,3] _ rfl rfl (by kernel_rfl)
 refine aA (ai ?_)
 obtain ⟨v4,hv4,v5,hv5,h⟩:=fK h
 refine yx hn 3 ?_
 refine ys 0 ⟨lb hv4⟩ ?_
 refine ys 1 ⟨lb hv5⟩ ?_
 refine ye [0,19,2,3,20,0,19,2,3] ?_
 refine br ?_
 refine aB [0,1,2,3,5,6,7,8,4] (by kernel_rfl) (es':=[(_,_),(_,_),(_,_),(_,_),(_,_),(_,_),(_,_),(_,_),(_,_)]) rfl ?_
 obtain rfl:=zi h
 exact kT 20 [0,19,2,3] _ rfl rfl (by kernel_rfl)
 rintro D s8 h
 refine br ?_
 refine ai (ag ?_)
 refine aX hn 4 [19,2,18] ?_
 refine zc h rfl (fun h => ?_) (fun h => ?_)
 refine aX hn 1 [19,2] ?_
 refine aC ?_
 refine aB [1] (by kernel_rfl) (es':=[(_,_)]) rfl ?_
 refine am ?_
 obtain rfl:=zi h
 exact aE hio rfl (.cell1 _ _ _ _ underlying29 rfl .nil) rfl rfl
 refine aA (ai ?_)
 refine aX hn 1 [19,2] ?_
 refine aC ?_
 refine aB [1] (by kernel_rfl) (es':=[(_,_)]) rfl ?_
 obtain rfl:=zi h
 exact aE hio rfl (.cell1 _ _ _ _ underlying29 rfl .nil) rfl rfl
 rintro D s10 h
 refine aB [2] (by kernel_rfl) (es':=[(_,_)]) rfl ?_
 refine aV (am ?_)
 obtain rfl:=zi h
 exact aE hio rfl (.cell1 _ _ _ _ underlying29 rfl .nil) rfl rfl
theorem ft (mx:Int) (m:ae) (r:Bool) (h:Sh.cG m=some r):kF Tryz.prog (GL mx) 42 [.agg [.v (.bool m.Ld.Lh),.v (.string m.Ld.Lf),.v (.string m.Ld.Lc),.fl .shr 3 (flatten (map aj.enc m.To)),.fl .shr 1 (map (int .u8) m.Lb),.v (.bool m.Lk),.v (.string m.Le),.v (.int .i64 m.At)]] (.v (.bool r)):=by
 unfold Sh.cG at h
 refine yG 17 func42 fun g0 hn hio => ?_
 refine aX hn 2 [17,1] ?_
 refine ag ?_
 refine aM h (fun (s3:Bool)=>[(17,.glob (GL mx)),(2,vb s3)]) ?_ ?_
 rintro s3 h
 refine ai (aC ?_)
 refine aB [1] (by kernel_rfl) (es':=[(_,_)]) rfl ?_
 obtain rfl:=zi h
 exact aE hio rfl (.tmp _ _ .nil) rfl rfl
 intro u4 h hl5 hr6
 obtain ⟨v1,hv1,h⟩:=zn h
 refine au h (fun hg1_2 h => ?_) (fun hg1_2 h => ?_)
 refine au h (fun hg1_8 h => ?_) (fun hg1_8 h => ?_)
 obtain ⟨v2,hv2,h⟩:=zn h
 refine yx hn 1 ?_
 refine ys 1 ⟨lg call64 (iC _ _ _ hv1) 17⟩ ?_
 refine yd hg1_2 6 ?_
 refine yd hg1_8 2 ?_
 refine ys 3 ⟨lg call65 (kH _ _ _ hv2) 17⟩ ?_
 refine ye [17,2] ?_
 exact hl5 _ (zi h).symm
 refine yx hn 1 ?_
 refine ys 1 ⟨lg call64 (iC _ _ _ hv1) 17⟩ ?_
 refine yd hg1_2 6 ?_
 refine yd hg1_8 6 ?_
 refine ye [17,2] ?_
 exact hl5 _ (zi h).symm
 refine yx hn 1 ?_
 refine ys 1 ⟨lg call64 (iC _ _ _ hv1) 17⟩ ?_
 refine yd hg1_2 12 ?_
 refine ye [17,2] ?_
 exact hl5 _ (zi h).symm
theorem cN (mx:Int) (b:az) (r:Int) (h:Sh.cR b=some r):kF Tryz.prog (GL mx) 19 [.agg [.v (.int .i64 b.Lj),.v (.int .i64 b.Li),.fr .shr true 8 (flatten (map ae.ienc b.Lg))]] (.v (.int .i64 r)):=by
 unfold Sh.cR at h
 refine yG 58 func19 fun g0 hn hio => ?_
 refine aX hn 2 [58,1] ?_
 refine ag (ag ?_)
 refine aM h (fun (s1:Bool)=>[(58,.glob (GL mx)),(1,.box 24 [vi b.Lj,vi b.Li,.fr .shr true 8 (flatten (map ae.ienc b.Lg))]),(22,vb s1)]) ?_ ?_
 rintro s1 h
 refine ai ?_
 refine zc h rfl (fun h => ?_) (fun h => ?_)
 refine aX hn 1 [58,2] ?_
 refine aC ?_
 refine aB [1] (by kernel_rfl) (es':=[(_,_)]) rfl ?_
 refine am ?_
 obtain rfl:=zi h
 exact aE hio rfl (.tmp _ _ .nil) rfl rfl
 refine aA ?_
 refine ai (ag ?_)
 refine ag ?_
 refine aM h (fun (s6:Bool)=>[(58,.glob (GL mx)),(1,.box 24 [vi b.Lj,vi b.Li,.fr .shr true 8 (flatten (map ae.ienc b.Lg))]),(32,vb s6)]) ?_ ?_
 rintro s6 h
 refine ai ?_
 refine zc h rfl (fun h => ?_) (fun h => ?_)
 refine aX hn 1 [58,2] ?_
 refine aC ?_
 refine aB [1] (by kernel_rfl) (es':=[(_,_)]) rfl ?_
 refine am ?_
 obtain rfl:=zi h
 exact aE hio rfl (.tmp _ _ .nil) rfl rfl
 refine aA ?_
 refine ai (ag ?_)
 refine aX hn 4 [58,34,35,36] ?_
 refine aY h (fun (s28:Int)=>[(58,.glob (GL mx)),(34,.fr .shr true 8 (flatten (map ae.ienc b.Lg))),(35,vi (b.Lg.length:Int)),(36,vi s28)]) (fun (():Unit)=>[(58,.glob (GL mx))]) ?_ ?_
 rintro ⟨⟩ h
 refine ai ?_
 refine aX hn 1 [58,2] ?_
 refine aC ?_
 refine aB [1] (by kernel_rfl) (es':=[(_,_)]) rfl ?_
 obtain rfl:=zi h
 exact aE hio rfl (.tmp _ _ .nil) rfl rfl
 rintro u35 hl36 hr37 s28 rr40 h ho38
 refine aX hn 1 [58,34,35,36,37] ?_
 refine ag ?_
 refine zc h rfl (fun h => ?_) (fun h => ?_)
 refine aA ?_
 refine ai (ag ?_)
 refine aP (ag ?_)
 obtain ⟨v12,hv12,v13,hv13,h⟩:=fK h
 refine yx hn 0 ?_
 refine ys 0 ⟨lI hv12⟩ ?_
 refine yS (.agg (ae.c v13 [])) 0 ⟨dX _ _ _ _ _ _ _ _ underlying46 rfl eC rfl rfl (eY ae.ilen hv13) (.cons (.v _) (.cons (.v _) (.cons (.v _) (.cons (.fl _ _ rfl) (.cons (.fl _ _ rfl) (.cons (.v _) (.cons (.v _) (.cons (.v _) (.nil))))))))) rfl (by decide)⟩ ?_
 refine yS (.box 46 [vb false,vs z0,vs z0,vz,vz,vb false,vs z0,vi 0]) 1 ⟨oA (bu _ _ ks)⟩ ?_
 refine bH [58,34,35,36,4] ?_
 refine ag ?_
 refine aM h (fun (s42:Bool)=>[(58,.glob (GL mx)),(34,.fr .shr true 8 (flatten (map ae.ienc b.Lg))),(35,vi (b.Lg.length:Int)),(36,vi s28),(56,vb s42)]) ?_ ?_
 rintro s42 h
 refine ai ?_
 refine zc h rfl (fun h => ?_) (fun h => ?_)
 refine aX hn 1 [58,2] ?_
 refine aC ?_
 refine aB [1] (by kernel_rfl) (es':=[(_,_)]) rfl ?_
 refine aV (am (am (aV (am ?_))))
 have h:=hr37 _ (ho38 _ (zi h).symm).symm
 obtain rfl:=zi h
 exact aE hio rfl (.tmp _ _ .nil) rfl rfl
 refine aA (br (ai ?_))
 obtain ⟨v20,hv20,h⟩:=zn h
 refine yx hn 0 ?_
 refine ys 0 ⟨lb hv20⟩ ?_
 refine yw [36] 1 ?_
 refine ye [58,34,35,36] ?_
 exact bC _ (zi h).symm rfl
 intro u43 h hl44 hr45
 obtain ⟨v14,hv14,h⟩:=zn h
 refine au h (fun hg8_3 h => ?_) (fun hg8_3 h => ?_)
 refine yx hn 1 ?_
 refine ys 2 ⟨lg call42 (ft _ _ _ hv14) 58⟩ ?_
 refine yd hg8_3 13 ?_
 refine ye [58,34,35,36,56] ?_
 exact hl44 _ (zi h).symm
 refine au h (fun hg8_7 h => ?_) (fun hg8_7 h => ?_)
 refine yx hn 1 ?_
 refine ys 2 ⟨lg call42 (ft _ _ _ hv14) 58⟩ ?_
 refine yd hg8_3 4 ?_
 refine yd hg8_7 9 ?_
 refine ye [58,34,35,36,56] ?_
 exact hl44 _ (zi h).symm
 refine au h (fun hg8_12 h => ?_) (fun hg8_12 h => ?_)
 refine yx hn 1 ?_
 refine ys 2 ⟨lg call42 (ft _ _ _ hv14) 58⟩ ?_
 refine yd hg8_3 4 ?_
 refine yd hg8_7 5 ?_
 refine yd hg8_12 4 ?_
 refine ye [58,34,35,36,56] ?_
 exact hl44 _ (zi h).symm
 refine yx hn 1 ?_
 refine ys 2 ⟨lg call42 (ft _ _ _ hv14) 58⟩ ?_
 refine yd hg8_3 4 ?_
 refine yd hg8_7 5 ?_
 refine yd hg8_12 4 ?_
 refine ye [58,34,35,36,56] ?_
 exact hl44 _ (zi h).symm
 refine bk (aD (aD (bo ?_)))
 refine aB [0] (by kernel_rfl) (es':=[(_,_)]) rfl ?_
 exact hl36 _ (ho38 _ (zi h).symm).symm
 intro u7 h hl8 hr9
 refine au h (fun hg3_4 h => ?_) (fun hg3_4 h => ?_)
 refine yx hn 5 ?_
 refine yd hg3_4 5 ?_
 refine ye [58,1,32] ?_
 exact hl8 _ (zi h).symm
 refine yx hn 5 ?_
 refine yd hg3_4 5 ?_
 refine ye [58,1,32] ?_
 exact hl8 _ (zi h).symm
 intro u2 h hl3 hr4
 refine au h (fun hg1_3 h => ?_) (fun hg1_3 h => ?_)
 refine au h (fun hg1_8 h => ?_) (fun hg1_8 h => ?_)
 refine yx hn 4 ?_
 refine yd hg1_3 5 ?_
 refine yd hg1_8 9 ?_
 refine ye [58,1,22] ?_
 exact hl3 _ (zi h).symm
 refine au h (fun hg1_13 h => ?_) (fun hg1_13 h => ?_)
 refine yx hn 4 ?_
 refine yd hg1_3 5 ?_
 refine yd hg1_8 5 ?_
 refine yd hg1_13 4 ?_
 refine ye [58,1,22] ?_
 exact hl3 _ (zi h).symm
 refine yx hn 4 ?_
 refine yd hg1_3 5 ?_
 refine yd hg1_8 5 ?_
 refine yd hg1_13 4 ?_
 refine ye [58,1,22] ?_
 exact hl3 _ (zi h).symm
 refine au h (fun hg1_13 h => ?_) (fun hg1_13 h => ?_)
 refine yx hn 4 ?_
 refine yd hg1_3 10 ?_
 refine yd hg1_13 4 ?_
 refine ye [58,1,22] ?_
 exact hl3 _ (zi h).symm
 refine yx hn 4 ?_
 refine yd hg1_3 10 ?_
 refine yd hg1_13 4 ?_
 refine ye [58,1,22] ?_
 exact hl3 _ (zi h).symm
theorem uW (mx:Int) (p:aj) (r:(Ll×Int)) (h:Sh.kX p=some r):kF Tryz.prog (GL mx) 50 [.agg [.v (.bool p.Lh),.v (.string p.Lf),.v (.string p.Lc)]] (.tup [.v (.string r.1),.v (.int .i64 r.2)]):=by
 unfold Sh.kX at h
 refine yG 20 func50 fun g0 hn hio => ?_
 refine aX hn 3 [20,1] ?_
 refine ag (ag ?_)
 obtain ⟨v1,hv1,h⟩:=zn h
 refine yx hn 1 ?_
 refine ys 1 ⟨lg call68 (fk _ _ _ hv1) 20⟩ ?_
 refine bH [20,1,4] ?_
 refine aX hn 2 [20,1,4,8] ?_
 refine zc h rfl (fun h => ?_) (fun h => ?_)
 refine aX hn 3 [20,2,3] ?_
 refine aC ?_
 refine aB [1,2] (by kernel_rfl) (es':=[(_,_),(_,_)]) rfl ?_
 refine am ?_
 obtain rfl:=zi h
 exact aE hio rfl (.tmp _ _ (.tmp _ _ .nil)) rfl rfl
 refine aA ?_
 refine ai (ag ?_)
 refine aX hn 2 [20,1,11] ?_
 refine zc h rfl (fun h => ?_) (fun h => ?_)
 refine aX hn 2 [20,2,3] ?_
 refine aC ?_
 refine aB [1,2] (by kernel_rfl) (es':=[(_,_),(_,_)]) rfl ?_
 refine am ?_
 obtain rfl:=zi h
 exact aE hio rfl (.tmp _ _ (.tmp _ _ .nil)) rfl rfl
 refine aA ?_
 refine ai (ag ?_)
 obtain ⟨v4,hv4,v5,hv5,v6,hv6,v7,hv7,h⟩:=ov h
 refine yx hn 2 ?_
 refine ys 0 ⟨lB (dA hv4)⟩ ?_
 refine ys 2 ⟨lB (dA hv5)⟩ ?_
 refine ys 0 ⟨lB (dA hv6)⟩ ?_
 refine ys 2 ⟨lB (dA hv7)⟩ ?_
 refine bH [20,2,3] ?_
 refine aC ?_
 refine aB [1,2] (by kernel_rfl) (es':=[(_,_),(_,_)]) rfl ?_
 obtain rfl:=zi h
 exact aE hio rfl (.tmp _ _ (.tmp _ _ .nil)) rfl rfl
theorem gG (mx:Int) (word:Ll) (p:aj) (cap:(List Int)) (r:(List Int)) (h:Sh.bZ word p cap=some r):xV Tryz.prog (GL mx) 49 [.v (.string word),.agg [.v (.bool p.Lh),.v (.string p.Lf),.v (.string p.Lc)],.box 25 [.fl (.own 5) 1 (map (int .u8) cap)]] [.v (.string word),.agg [.v (.bool p.Lh),.v (.string p.Lf),.v (.string p.Lc)],.box 25 [.fl (.own 5) 1 (map (int .u8) r)]] (.tup []):=by
 unfold Sh.bZ at h
 refine KR 18 func49 fun args0 hargs0 g0 hn hio => ?_
 refine aX hn 1 [0,1,2,18,4,0,1,2] ?_
 refine ag ?_
 obtain ⟨v1,hv1,h⟩:=zn h
 refine yx hn 1 ?_
 refine ys 0 ⟨lg call50 (uW _ _ _ hv1) 18⟩ ?_
 refine ym 4 ?_
 refine bH [0,1,2,18,5,0,1,2] ?_
 obtain ⟨v2,hv2,v3,hv3,v4,hv4,h⟩:=mh h
 refine yx hn 3 ?_
 refine ys 0 ⟨lB (dA hv2)⟩ ?_
 refine ys 0 ⟨lB (dA hv3)⟩ ?_
 refine yk [2] [12,16] ?_
 refine pX (2,.box 25 [.any]) (17,.fl (.own 5) 1 (map (int .u8) v4)) 0 ⟨fM _ _ _ _ _ _ kC tj underlying9 rfl rfl (zl rfl) rfl rfl hv4 rfl (Nat.ne_of_beq_eq_false rfl) rfl rfl⟩ ?_
 refine yw [12] 0 ?_
 refine yk [17,2] [] ?_
 refine yt (2,.box 25 [.fl (.own 5) 1 (map (int .u8) v4)]) 0 ⟨aR _ _ _ _ _ _ _ _ qX rfl rfl rfl (zl rfl) rfl rfl⟩ ?_
 refine ye [0,1,2,18,0,1,2] ?_
 refine aB [0,1,2,4,5,6] (by kernel_rfl) (es':=[(_,_),(_,_),(_,_),(_,_),(_,_),(_,_)]) rfl ?_
 obtain rfl:=zi h
 exact DQ (es:=[]) (posts:=[.v (.string word),.agg [.v (.bool p.Lh),.v (.string p.Lf),.v (.string p.Lc)],.box 25 [.fl (.own 5) 1 (map (int .u8) v4)]]) hio rfl rfl .nil rfl rfl hargs0 rfl
theorem mw (a:(List Int)) (b:(List Int)) (r:Bool) (h:Sh.eJ a b=some r):cl Tryz.prog 37 [.fl .shr 1 (map (int .u8) a),.fl .shr 1 (map (int .u8) b)] (.v (.bool r)):=by
 unfold Sh.eJ at h
 refine yO 10 func37 fun g0 hn hio => ?_
 refine aX hn 1 [0,1] ?_
 refine ag ?_
 obtain ⟨v1,hv1,v2,hv2,h⟩:=fK h
 refine yx hn 1 ?_
 refine ys 1 ⟨lS hv1⟩ ?_
 refine ys 2 ⟨lS hv2⟩ ?_
 refine bH [4] ?_
 refine aC ?_
 obtain rfl:=zi h
 exact aE hio rfl (.tmp _ _ .nil) rfl rfl
theorem gR (s:(List Int)) (prefix_:(List Int)) (r:Bool) (h:Sh.cg s prefix_=some r):cl Tryz.prog 70 [.fl .shr 1 (map (int .u8) s),.fl .shr 1 (map (int .u8) prefix_)] (.v (.bool r)):=by
 unfold Sh.cg at h
 refine yO 18 func70 fun g0 hn hio => ?_
 refine aX hn 1 [0,1] ?_
 refine ag ?_
 refine aM h (fun (s3:Bool)=>[(4,vb s3)]) ?_ ?_
 rintro s3 h
 refine ai (aC ?_)
 obtain rfl:=zi h
 exact aE hio rfl (.tmp _ _ .nil) rfl rfl
 intro u4 h hl5 hr6
 refine au h (fun hg1_5 h => ?_) (fun hg1_5 h => ?_)
 obtain ⟨v1,hv1,v2,hv2,h⟩:=fK h
 refine yx hn 6 ?_
 refine yd hg1_5 3 ?_
 refine yS (fb v1) 1 ⟨ik _ _ _ 0 (prefix_.length:Int) _ underlying25 nM rfl rfl rfl ⟨_,rfl⟩ hv1⟩ ?_
 refine ys 2 ⟨lk call37 (mw _ _ _ hv2)⟩ ?_
 refine ye [4] ?_
 exact hl5 _ (zi h).symm
 refine yx hn 6 ?_
 refine yd hg1_5 8 ?_
 refine ye [4] ?_
 exact hl5 _ (zi h).symm
theorem tc (mx:Int) (b:(List Int)) (r:((List Int)×Int)) (h:Sh.gn b=some r):kF Tryz.prog (GL mx) 51 [.fl .shr 1 (map (int .u8) b)] (.tup [.fl (.own 5) 1 (map (int .u8) r.1),.v (.int .i64 r.2)]):=by
 unfold Sh.gn at h
 refine yG 28 func51 fun g0 hn hio => ?_
 refine aX hn 2 [0,28] ?_
 refine ag (ag ?_)
 obtain ⟨v1,hv1,h⟩:=zn h
 refine yx hn 1 ?_
 refine ys 1 ⟨lg call65 (kH _ _ _ hv1) 28⟩ ?_
 refine bH [0,28,4] ?_
 refine aX hn 2 [0,28,4,10] ?_
 refine zc h rfl (fun h => ?_) (fun h => ?_)
 refine aX hn 3 [28,2,3] ?_
 refine aC ?_
 refine aB [1,2] (by kernel_rfl) (es':=[(_,_),(_,_)]) rfl ?_
 refine di (fs:=[(2,.fl (.own 5) 1 (map (int .u8) [])),(3,vi v1)]) (.sub _ (cd 5 1) rfl (.same _ .nil)) ?_
 refine am ?_
 obtain rfl:=zi h
 exact aE hio rfl (.tmp _ _ (.tmp _ _ .nil)) rfl rfl
 refine aA (ai ?_)
 refine gh hn 0 ?_
 refine yS (.box 25 [vz]) 0 ⟨oA (bu _ _ Gw)⟩ ?_
 refine bH [0,28,5] ?_
 refine ag (ag ?_)
 obtain ⟨v3,hv3,h⟩:=zn h
 refine yx hn 1 ?_
 refine yk [] [12] ?_
 refine yt (13,.cloB 89 [.box 25 [fb v3]]) 0 ⟨jq _ _ 69 _ _ rfl call69 rfl rfl (jm b _ hv3) rfl⟩ ?_
 refine bH [28,5,13] ?_
 refine aP ?_
 refine jQ [2,0,1] (by kernel_rfl) (es':=[(13,.cloB 89 [.box 25 [fb v3]]),(28,.glob (GL mx)),(5,.box 25 [vz])]) rfl ?_
 refine gX (fs:=[(13,.cloB 89 [.box 25 [fb v3]]),(28,.glob (GL mx)),(5,.box 25 [.fl (.own 5) 1 (map (int .u8) [])])]) (.same _ (.same _ (.box _ _ (ay (cd 5 1) (cr)) rfl .nil))) ?_
 refine ke h 89 13 14 29 _ [28,5] call89 (fun (s21:(List Int))=>[(28,.glob (GL mx)),(5,.box 25 [.fl (.own 5) 1 (map (int .u8) s21)])]) (fun (():Unit)=>[]) (fun l J Y hY t t' h=>gP mx l J Y hY v3 t t' h) hn rfl (fun _=>rfl) (fun _=>rfl) (fun _=>rfl) rfl rfl (fun _=>⟨rfl,rfl⟩) rfl (ka 28 rfl) ?_ ?_ ?_
 rintro kk g0 hn hio x s21 u h
 refine ui (es':=[(14,fb x),(28,.glob (GL mx)),(5,.box 25 [.fl (.own 5) 1 (map (int .u8) s21)]),(28,.v (kk.tm.getD 28 undef)),(5,.v (kk.tm.getD 5 undef)),(29,.inv kk.ready)]) rfl ?_
 refine yy hn 1 [28,5,29,6,28,5] ?_
 refine aB [0,1,3,4,5,2] (by kernel_rfl) (es':=[(28,.glob (GL mx)),(5,.box 25 [.fl (.own 5) 1 (map (int .u8) s21)]),(6,fb x),(28,.v (kk.tm.getD 28 undef)),(5,.v (kk.tm.getD 5 undef)),(29,.inv kk.ready)]) rfl ?_
 refine lq (es:=[(28,.glob (GL mx)),(5,.box 25 [.fl (.own 5) 1 (map (int .u8) s21)]),(6,fb x),(28,.v (kk.tm.getD 28 undef)),(5,.v (kk.tm.getD 5 undef))]) 29 rfl ?_
 refine aP (ag ?_)
 refine aM h (fun (s29:(List Int))=>[(28,.glob (GL mx)),(5,.box 25 [.fl (.own 5) 1 (map (int .u8) s29)]),(6,fb x),(29,.inv kk.busy),(28,.v (kk.tm.getD 28 undef)),(5,.v (kk.tm.getD 5 undef))]) ?_ ?_
 rintro s29 h
 refine ai (ag ?_)
 obtain ⟨v12,hv12,h⟩:=zn h
 refine yx hn 2 ?_
 refine yk [5] [21,22] ?_
 refine pX (5,.box 25 [.any]) (23,.fl (.own 5) 1 (map (int .u8) v12)) 0 ⟨jz _ _ _ _ _ _ kC rfl rfl (zl rfl) rfl (gN _) (gN _) hv12 ((List.map_append).symm.trans (congrArg (map _) (jb hv12))) (Nat.ne_of_beq_eq_false rfl) rfl rfl⟩ ?_
 refine yw [21] 0 ?_
 refine yk [23,5] [] ?_
 refine yt (5,.box 25 [.fl (.own 5) 1 (map (int .u8) v12)]) 0 ⟨aR _ _ _ _ _ _ _ _ qX rfl rfl rfl (zl rfl) rfl rfl⟩ ?_
 refine bH [28,5,29,28,5] ?_
 obtain ⟨v13,hv13,h⟩:=zn h
 refine yx hn 1 ?_
 refine yk [5] [24] ?_
 refine pX (5,.box 25 [.any]) (25,.fl (.own 5) 1 (map (int .u8) v13)) 0 ⟨fM _ _ _ _ _ _ kC tj underlying9 rfl rfl (zl rfl) rfl rfl hv13 rfl (Nat.ne_of_beq_eq_false rfl) rfl rfl⟩ ?_
 refine yw [24] 0 ?_
 refine yk [25,5] [] ?_
 refine yt (5,.box 25 [.fl (.own 5) 1 (map (int .u8) v13)]) 0 ⟨aR _ _ _ _ _ _ _ _ qX rfl rfl rfl (zl rfl) rfl rfl⟩ ?_
 refine ye [28,5,29,28,5] ?_
 refine br ?_
 refine aB [0,1,3,4,2] (by kernel_rfl) (es':=[(_,_),(_,_),(_,_),(_,_),(_,_)]) rfl ?_
 obtain rfl:=zi h
 exact kT 29 [28,5] _ rfl rfl (by kernel_rfl)
 intro u30 h hl31 hr32
 refine ag ?_
 obtain ⟨v4,hv4,h⟩:=zn h
 refine yx hn 1 ?_
 refine yS (.fl (.own 5) 1 (map (int .u8) [46])) 0 ⟨cb _ _ 1 (.int .u8 0) (map (int .u8) [46]) [(0,.int .u8 46)] underlying25 nM tj (fun _ V w o a hv hes=>by simp only [List.map_toArray,List.map_cons,List.map_nil]; try rfl) (fv (by simp [Instr.fill,Value.cells]; rfl) (by simp [List.range,List.range.loop] <;> rfl)) (by simp [Value.oneCell']) rfl (by decide) (by decide) (by decide)⟩ ?_
 refine yk [16] [] ?_
 refine yt (17,.fl .ro 1 (map (int .u8) [46])) 0 ⟨gA _ _ _ underlying25 underlying5 (by intro h; cases h)⟩ ?_
 refine ys 0 ⟨lk call70 (gR _ _ _ hv4)⟩ ?_
 refine bH [28,5,6,29,18,28,5] ?_
 refine zc h rfl (fun h => ?_) (fun h => ?_)
 obtain ⟨v6,hv6,h⟩:=zn h
 refine yx hn 1 ?_
 refine yk [5] [19] ?_
 refine pX (5,.box 25 [.any]) (20,.fl (.own 5) 1 (map (int .u8) v6)) 0 ⟨fM _ _ _ _ _ _ kC tj underlying9 rfl rfl (zl rfl) rfl rfl hv6 rfl (Nat.ne_of_beq_eq_false rfl) rfl rfl⟩ ?_
 refine yw [19] 0 ?_
 refine yk [20,5] [] ?_
 refine yt (5,.box 25 [.fl (.own 5) 1 (map (int .u8) v6)]) 0 ⟨aR _ _ _ _ _ _ _ _ qX rfl rfl rfl (zl rfl) rfl rfl⟩ ?_
 refine ye [28,5,6,29,28,5] ?_
 exact hl31 _ (zi h).symm
 refine aA ?_
 refine aB [0,1,2,3,5,6] (by kernel_rfl) (es':=[(_,_),(_,_),(_,_),(_,_),(_,_),(_,_)]) rfl ?_
 exact hl31 _ (zi h).symm
 rintro D s21 h
 refine br ?_
 refine ai (ag ?_)
 obtain ⟨v34,hv34,h⟩:=zn h
 refine yx hn 1 ?_
 refine yk [5] [26] ?_
 refine pX (5,.box 25 [.any]) (27,.fl (.own 5) 1 (map (int .u8) v34)) 0 ⟨fM _ _ _ _ _ _ kC tj underlying9 rfl rfl (zl rfl) rfl rfl hv34 rfl (Nat.ne_of_beq_eq_false rfl) rfl rfl⟩ ?_
 refine ya 1 ?_
 refine bH [28,2,3] ?_
 refine aC ?_
 refine aB [1,2] (by kernel_rfl) (es':=[(_,_),(_,_)]) rfl ?_
 obtain rfl:=zi h
 exact aE hio rfl (.tmp _ _ (.tmp _ _ .nil)) rfl rfl
 rintro D ⟨⟩ h
 cases h
theorem ox (mx:Int) (mails:(List ae)) (r:(List Int)) (h:Sh.fQ mails=some r):kF Tryz.prog (GL mx) 30 [.fr .shr true 8 (flatten (map ae.ienc mails))] (.fl (.own 5) 1 (map (int .u8) r)):=by
 unfold Sh.fQ at h
 refine yG 47 func30 fun g0 hn hio => ?_
 refine aX hn 1 [0,47] ?_
 refine gh hn 0 ?_
 refine yS (.box 25 [vz]) 0 ⟨oA (bu _ _ Gw)⟩ ?_
 refine bH [0,47,3] ?_
 refine gh hn 0 ?_
 refine yS (.clo 49 [3]) 1 ⟨qg _ _ _ 3 (by decide)⟩ ?_
 refine bH [0,47,3,4] ?_
 refine ag ?_
 refine aX hn 3 [47,3,4,12,13,14] ?_
 refine gX (fs:=[(47,.glob (GL mx)),(3,.box 25 [.fl (.own 5) 1 (map (int .u8) [])]),(4,.clo 49 [3]),(12,.fr .shr true 8 (flatten (map ae.ienc mails))),(13,vi (mails.length:Int)),(14,vi 0)]) (.same _ (.box _ _ (ay (cd 5 1) (cr)) rfl (.same _ (.same _ (.same _ (.same _ .nil)))))) ?_
 refine aY h (fun ((s46,s47):(List Int)×Int)=>[(47,.glob (GL mx)),(3,.box 25 [.fl (.own 5) 1 (map (int .u8) s46)]),(4,.clo 49 [3]),(12,.fr .shr true 8 (flatten (map ae.ienc mails))),(13,vi (mails.length:Int)),(14,vi s47)]) (fun (s64:(List Int))=>[(47,.glob (GL mx)),(3,.box 25 [.fl (.own 5) 1 (map (int .u8) s64)])]) ?_ ?_
 rintro s64 h
 refine ai (ag ?_)
 obtain ⟨v87,hv87,h⟩:=zn h
 refine yx hn 1 ?_
 refine yk [3] [45] ?_
 refine pX (3,.box 25 [.any]) (46,.fl (.own 5) 1 (map (int .u8) v87)) 0 ⟨fM _ _ _ _ _ _ kC tj underlying9 rfl rfl (zl rfl) rfl rfl hv87 rfl (Nat.ne_of_beq_eq_false rfl) rfl rfl⟩ ?_
 refine ya 0 ?_
 refine bH [47,2] ?_
 refine aC ?_
 refine aB [1] (by kernel_rfl) (es':=[(_,_)]) rfl ?_
 obtain rfl:=zi h
 exact aE hio rfl (.tmp _ _ .nil) rfl rfl
 rintro u65 hl66 hr67 ⟨s46,s47⟩ rr70 h ho68
 refine aX hn 1 [47,3,4,12,13,14,15] ?_
 refine ag ?_
 refine zc h rfl (fun h => ?_) (fun h => ?_)
 refine aA ?_
 refine ai (ag ?_)
 refine aP (ag ?_)
 obtain ⟨v2,hv2,v3,hv3,h⟩:=fK h
 refine yx hn 0 ?_
 refine ys 0 ⟨lI hv2⟩ ?_
 refine yS (.agg (ae.c v3 [])) 0 ⟨dX _ _ _ _ _ _ _ _ underlying46 rfl eC rfl rfl (eY ae.ilen hv3) (.cons (.v _) (.cons (.v _) (.cons (.v _) (.cons (.fl _ _ rfl) (.cons (.fl _ _ rfl) (.cons (.v _) (.cons (.v _) (.cons (.v _) (.nil))))))))) rfl (by decide)⟩ ?_
 refine yS (.box 46 [vb false,vs z0,vs z0,vz,vz,vb false,vs z0,vi 0]) 1 ⟨oA (bu _ _ ks)⟩ ?_
 refine bH [47,3,4,12,13,14,6] ?_
 refine ag ?_
 obtain ⟨v4,hv4,h⟩:=zn h
 refine yx hn 3 ?_
 refine yk [3] [18,20,47] ?_
 refine pX (3,.box 25 [.fl (.own 5) 1 (map (int .u8) v4)]) (21,.tup []) 0 ⟨ug _ _ _ 21 18 3 47 49 [_,.tmp 20] _ _ _ _ rfl call49 rfl rfl rfl (fun _ h=>h) (gG mx (⟨#[77,65,73,76,32,70,82,79,77,58]⟩:Ll) (aj.mk v3.Ld.Lh v3.Ld.Lf v3.Ld.Lc) s46 _ hv4) rfl rfl rfl rfl rfl rfl rfl rfl⟩ ?_
 refine bH [47,3,4,12,13,14,6] ?_
 refine ag ?_
 refine aX hn 4 [47,3,4,12,13,14,6,23,24,25] ?_
 refine aY h (fun ((s76,s77):(List Int)×Int)=>[(47,.glob (GL mx)),(3,.box 25 [.fl (.own 5) 1 (map (int .u8) s76)]),(4,.clo 49 [3]),(12,.fr .shr true 8 (flatten (map ae.ienc mails))),(13,vi (mails.length:Int)),(14,vi s47),(6,.box 46 (ae.c v3 [])),(23,.fl .shr 3 (flatten (map aj.enc v3.To))),(24,vi (v3.To.length:Int)),(25,vi s77)]) (fun (s79:(List Int))=>[(47,.glob (GL mx)),(3,.box 25 [.fl (.own 5) 1 (map (int .u8) s79)]),(4,.clo 49 [3]),(12,.fr .shr true 8 (flatten (map ae.ienc mails))),(13,vi (mails.length:Int)),(14,vi s47),(6,.box 46 (ae.c v3 []))]) ?_ ?_
 rintro s79 h
 refine ai (ag ?_)
 obtain ⟨v24,hv24,h⟩:=zn h
 refine yx hn 1 ?_
 refine yk [3] [33] ?_
 refine pX (3,.box 25 [.any]) (34,.fl (.own 5) 1 (map (int .u8) v24)) 0 ⟨fM _ _ _ _ _ _ kC tj underlying9 rfl rfl (zl rfl) rfl rfl hv24 rfl (Nat.ne_of_beq_eq_false rfl) rfl rfl⟩ ?_
 refine yw [33] 0 ?_
 refine yk [34,3] [] ?_
 refine yt (3,.box 25 [.fl (.own 5) 1 (map (int .u8) v24)]) 0 ⟨aR _ _ _ _ _ _ _ _ qX rfl rfl rfl (zl rfl) rfl rfl⟩ ?_
 refine bH [47,3,4,12,13,14,6] ?_
 refine ag ?_
 obtain ⟨v25,hv25,h⟩:=zn h
 refine yx hn 2 ?_
 refine ys 0 ⟨lg call51 (tc _ _ _ hv25) 47⟩ ?_
 refine ym 0 ?_
 refine zC 1 ?_
 refine ya 1 ?_
 refine bH [47,3,4,12,13,14,9] ?_
 obtain ⟨v26,hv26,h⟩:=zn h
 refine yx hn 1 ?_
 refine ym 0 ?_
 refine yk [3] [41,42] ?_
 refine pX (3,.box 25 [.any]) (43,.fl (.own 5) 1 (map (int .u8) v26)) 0 ⟨jz _ _ _ _ _ _ kC rfl rfl (zl rfl) rfl (gN _) (gN _) hv26 ((List.map_append).symm.trans (congrArg (map _) (jb hv26))) (Nat.ne_of_beq_eq_false rfl) rfl rfl⟩ ?_
 refine yw [41] 0 ?_
 refine yk [43,3] [] ?_
 refine yt (3,.box 25 [.fl (.own 5) 1 (map (int .u8) v26)]) 0 ⟨aR _ _ _ _ _ _ _ _ qX rfl rfl rfl (zl rfl) rfl rfl⟩ ?_
 refine ye [47,3,4,12,13,14] ?_
 refine br (ai ?_)
 obtain ⟨v27,hv27,h⟩:=zn h
 refine yx hn 0 ?_
 refine ys 0 ⟨lb hv27⟩ ?_
 refine yw [14] 1 ?_
 refine ye [47,3,4,12,13,14] ?_
 exact bC _ (zi h).symm rfl
 rintro u80 hl81 hr82 ⟨s76,s77⟩ rr85 h ho83
 refine aX hn 1 [47,3,4,12,13,14,6,23,24,25,26] ?_
 refine ag ?_
 refine zc h rfl (fun h => ?_) (fun h => ?_)
 refine aA ?_
 refine ai (ag ?_)
 refine aP (ag ?_)
 obtain ⟨v6,hv6,v7,hv7,h⟩:=fK h
 refine yx hn 0 ?_
 refine ys 0 ⟨lj hv6⟩ ?_
 refine yS (.agg [vb v7.Lh,vs v7.Lf,vs v7.Lc]) 0 ⟨gY _ _ _ _ _ _ _ underlying43 rfl iG rfl rfl (jo aj.len hv7) rfl (by decide)⟩ ?_
 refine yS (.box 43 [vb false,vs z0,vs z0]) 1 ⟨oA (bu _ _ jr)⟩ ?_
 refine bH [47,3,4,12,13,14,6,23,24,25,8] ?_
 obtain ⟨v8,hv8,h⟩:=zn h
 refine yx hn 2 ?_
 refine yk [3] [29,30,47] ?_
 refine pX (3,.box 25 [.fl (.own 5) 1 (map (int .u8) v8)]) (31,.tup []) 0 ⟨ug _ _ _ 31 29 3 47 49 [_,.tmp 30] _ _ _ _ rfl call49 rfl rfl rfl (fun _ h=>h) (gG mx (⟨#[82,67,80,84,32,84,79,58]⟩:Ll) v7 s76 _ hv8) rfl rfl rfl rfl rfl rfl rfl rfl⟩ ?_
 refine ye [47,3,4,12,13,14,6,23,24,25] ?_
 refine br (ai ?_)
 obtain ⟨v9,hv9,h⟩:=zn h
 refine yx hn 0 ?_
 refine ys 0 ⟨lb hv9⟩ ?_
 refine yw [25] 1 ?_
 refine ye [47,3,4,12,13,14,6,23,24,25] ?_
 exact bC _ (zi h).symm rfl
 refine bk (aD (aD (bo ?_)))
 refine aB [0,1,2,3,4,5,6] (by kernel_rfl) (es':=[(_,_),(_,_),(_,_),(_,_),(_,_),(_,_),(_,_)]) rfl ?_
 exact hl81 _ (ho83 _ (zi h).symm).symm
 refine bk (aD (aD (bo ?_)))
 refine aB [0,1] (by kernel_rfl) (es':=[(_,_),(_,_)]) rfl ?_
 exact hl66 _ (ho68 _ (zi h).symm).symm
theorem tq (divisor:Int) (r:(List Int)) (h:Sh.kg divisor=some r):cl Tryz.prog 71 [.v (.int .u32 divisor)] (.v (.agg (map (int .u32) r).toArray)):=by
 unfold Sh.kg at h
 refine yO 29 func71 fun g0 hn hio => ?_
 refine gh hn 0 ?_
 refine yS (.arr 109 (map (int .u32) ((List.replicate 16 (0:Int))))) 0 ⟨oA (jW _ By)⟩ ?_
 refine bH [0,2] ?_
 refine gh hn 0 ?_
 refine yS (.arr 109 (map (int .u32) ((List.replicate 16 (0:Int))))) 0 ⟨oA (jW _ By)⟩ ?_
 refine bH [0,2,3] ?_
 refine ag ?_
 refine aX hn 1 [0,2,3,7] ?_
 refine aY h (fun ((s91,s92):(List Int)×Int)=>[(0,.v (.int .u32 divisor)),(2,.arr 109 (map (int .u32) ((List.replicate 16 (0:Int))))),(3,.arr 109 (map (int .u32) s91)),(7,vi s92)]) (fun (s133:(List Int))=>[(2,.arr 109 (map (int .u32) ((List.replicate 16 (0:Int))))),(3,.arr 109 (map (int .u32) s133))]) ?_ ?_
 rintro s133 h
 refine ai (ag ?_)
 obtain ⟨v180,hv180,v181,hv181,v182,hv182,h⟩:=mh h
 refine yx hn 0 ?_
 refine yS (.v (.agg (map (int .u32) s133).toArray)) 0 ⟨uw _ _ _ _ underlying109 rfl (zr.trans (congrArg some (mY hv180))) rfl rfl⟩ ?_
 refine yk [2] [28] ?_
 refine yt (2,.arr 109 (map (int .u32) s133)) 0 ⟨nR _ _ _ _ (zr.trans (congrArg some (mY hv182))) rfl rfl (zt (fun _=>rfl) _) ((mY (f:=int .u32) hv181).symm.trans (mY (f:=int .u32) hv182))⟩ ?_
 refine bH [2] ?_
 refine aC ?_
 obtain ⟨v183,hv183,h⟩:=zn h
 obtain rfl:=zi h
 exact aE hio rfl (.cellR _ _ _ _ underlying109 rfl (zr.trans (congrArg some (mY hv183))) .nil) rfl rfl
 rintro u134 hl135 hr136 ⟨s91,s92⟩ rr139 h ho137
 refine aX hn 1 [0,2,3,7,8] ?_
 refine ag ?_
 refine zc h rfl (fun h => ?_) (fun h => ?_)
 refine aA ?_
 refine ai (ag ?_)
 refine aP ?_
 refine aX hn 2 [0,2,3,7,4] ?_
 refine ag ?_
 obtain ⟨v2,hv2,h⟩:=zn h
 refine yx hn 1 ?_
 refine ys 1 ⟨lv hv2⟩ ?_
 refine bH [0,2,3,7,4,5] ?_
 refine ag ?_
 refine aX hn 1 [0,2,3,7,4,5,12] ?_
 refine aY h (fun ((s157,s158):Int×Int)=>[(0,.v (.int .u32 divisor)),(2,.arr 109 (map (int .u32) ((List.replicate 16 (0:Int))))),(3,.arr 109 (map (int .u32) s91)),(7,vi s92),(4,vi s92),(5,.v (.int .u32 s157)),(12,vi s158)]) (fun (s166:Int)=>[(0,.v (.int .u32 divisor)),(2,.arr 109 (map (int .u32) ((List.replicate 16 (0:Int))))),(3,.arr 109 (map (int .u32) s91)),(7,vi s92),(4,vi s92),(5,.v (.int .u32 s166))]) ?_ ?_
 rintro s166 h
 refine ai ?_
 obtain ⟨v46,hv46,v47,hv47,h⟩:=fK h
 refine yx hn 2 ?_
 refine yS (.ptr 3 v46) 0 ⟨ib _ _ _ _ 16 3 _ underlying109 EG rfl rfl (ez hv46).1 (ez hv46).2 (by decide)⟩ ?_
 refine yk [3] [26,25] ?_
 refine yt (3,.arr 109 (map (int .u32) v47)) 0 ⟨pF _ _ _ _ _ _ EG rfl rfl rfl rfl (Co hv47) (BZ (f:=int .u32) hv47)⟩ ?_
 refine ye [0,2,3,7] ?_
 refine br (ai ?_)
 obtain ⟨v48,hv48,h⟩:=zn h
 refine yx hn 0 ?_
 refine ys 0 ⟨lb hv48⟩ ?_
 refine yw [7] 1 ?_
 refine ye [0,2,3,7] ?_
 exact bC _ (zi h).symm rfl
 rintro u167 hl168 hr169 ⟨s157,s158⟩ rr172 h ho170
 refine aX hn 1 [0,2,3,7,4,5,12,13] ?_
 refine ag ?_
 refine zc h rfl (fun h => ?_) (fun h => ?_)
 refine aA ?_
 refine ai (ag ?_)
 refine aM h (fun (s175:Int)=>[(0,.v (.int .u32 divisor)),(2,.arr 109 (map (int .u32) ((List.replicate 16 (0:Int))))),(3,.arr 109 (map (int .u32) s91)),(7,vi s92),(4,vi s92),(12,vi s158),(5,.v (.int .u32 s175))]) ?_ ?_
 rintro s175 h
 refine ai ?_
 obtain ⟨v13,hv13,h⟩:=zn h
 refine yx hn 0 ?_
 refine ys 0 ⟨lb hv13⟩ ?_
 refine yw [12] 1 ?_
 refine ye [0,2,3,7,4,5,12] ?_
 exact bC _ (zi h).symm rfl
 intro u176 h hl177 hr178
 refine aP (ag ?_)
 obtain ⟨v4,hv4,h⟩:=zn h
 refine yx hn 1 ?_
 refine ys 1 ⟨lb hv4⟩ ?_
 refine bH [0,2,3,7,4,5,12,6] ?_
 refine ag ?_
 obtain ⟨v5,hv5,h⟩:=zn h
 refine yx hn 1 ?_
 refine ys 0 ⟨lB (qj hv5)⟩ ?_
 refine yw [5] 1 ?_
 refine bH [0,2,3,7,4,12,6,5] ?_
 refine aX hn 2 [0,2,3,7,4,12,5,19] ?_
 refine zc h rfl (fun h => ?_) (fun h => ?_)
 obtain ⟨v7,hv7,h⟩:=zn h
 refine yx hn 2 ?_
 refine ys 0 ⟨lb hv7⟩ ?_
 refine yw [5] 1 ?_
 refine ye [0,2,3,7,4,12,5] ?_
 refine br ?_
 exact hl177 _ (zi h).symm
 refine aA (br ?_)
 refine aB [0,1,2,3,4,5,6] (by kernel_rfl) (es':=[(_,_),(_,_),(_,_),(_,_),(_,_),(_,_),(_,_)]) rfl ?_
 exact hl177 _ (zi h).symm
 refine bk (aD (aD (bo ?_)))
 refine aB [0,1,2,3,4,5] (by kernel_rfl) (es':=[(_,_),(_,_),(_,_),(_,_),(_,_),(_,_)]) rfl ?_
 exact hl168 _ (ho170 _ (zi h).symm).symm
 refine bk (aD (aD (bo ?_)))
 refine aB [1,2] (by kernel_rfl) (es':=[(_,_),(_,_)]) rfl ?_
 exact hl135 _ (ho137 _ (zi h).symm).symm
theorem vF (b:(List Int)) (width:Int) (divisor:Int) (r:Int) (h:Sh.mq b width divisor=some r):cl Tryz.prog 52 [.fl .shr 1 (map (int .u8) b),.v (.int .i64 width),.v (.int .u32 divisor)] (.v (.int .i64 r)):=by
 unfold Sh.mq at h
 refine yO 47 func52 fun g0 hn hio => ?_
 refine aX hn 1 [0,1,2] ?_
 refine ag ?_
 obtain ⟨v1,hv1,v2,hv2,v3,hv3,h⟩:=mh h
 refine yx hn 1 ?_
 refine ys 0 ⟨lk call71 (tq _ _ hv1)⟩ ?_
 refine yS (.arr 109 (map (int .u32) ((List.replicate 16 (0:Int))))) 0 ⟨oA (jW _ By)⟩ ?_
 refine yk [7] [13] ?_
 refine yt (7,.arr 109 (map (int .u32) v1)) 0 ⟨nR _ _ _ _ (zr.trans (congrArg some (mY hv3))) rfl rfl (zt (fun _=>rfl) _) ((mY (f:=int .u32) hv2).symm.trans (mY (f:=int .u32) hv3))⟩ ?_
 refine bH [0,1,7] ?_
 refine ag ?_
 obtain ⟨v4,hv4,v5,hv5,h⟩:=fK h
 refine yx hn 1 ?_
 refine ys 0 ⟨lB (uH hv4)⟩ ?_
 refine ys 1 ⟨lb hv5⟩ ?_
 refine bH [0,7,8] ?_
 refine aX hn 2 [0,7,8,9] ?_
 refine ag ?_
 refine aX hn 3 [7,8,9,18,19,20] ?_
 refine aY h (fun ((s25,s26):Int×Int)=>[(7,.arr 109 (map (int .u32) v1)),(8,.v (.int .u32 v5)),(9,.v (.int .u32 s25)),(18,fb b),(19,vi (b.length:Int)),(20,vi s26)]) (fun (s28:Int)=>[(8,.v (.int .u32 v5)),(9,.v (.int .u32 s28))]) ?_ ?_
 rintro s28 h
 refine ai (ag ?_)
 obtain ⟨v36,hv36,v37,hv37,h⟩:=fK h
 refine yx hn 2 ?_
 refine ys 0 ⟨lb hv36⟩ ?_
 refine ys 1 ⟨lv hv37⟩ ?_
 refine bH [6] ?_
 refine aC ?_
 obtain rfl:=zi h
 exact aE hio rfl (.tmp _ _ .nil) rfl rfl
 rintro u29 hl30 hr31 ⟨s25,s26⟩ rr34 h ho32
 refine aX hn 1 [7,8,9,18,19,20,21] ?_
 refine ag ?_
 refine zc h rfl (fun h => ?_) (fun h => ?_)
 refine aA ?_
 refine ai (ag ?_)
 refine aP (ag ?_)
 obtain ⟨v7,hv7,v8,hv8,h⟩:=fK h
 refine yx hn 0 ?_
 refine ys 0 ⟨li hv7⟩ ?_
 refine ys 1 ⟨ll hv8⟩ ?_
 refine bH [7,8,9,18,19,20,11] ?_
 refine ag ?_
 obtain ⟨v9,hv9,v10,hv10,h⟩:=fK h
 refine yx hn 2 ?_
 refine ys 0 ⟨lv hv9⟩ ?_
 refine ys 0 ⟨lb hv10⟩ ?_
 refine yw [9] 1 ?_
 refine bH [7,8,18,19,20,9] ?_
 refine ag ?_
 obtain ⟨v11,hv11,v12,hv12,v13,hv13,v14,hv14,h⟩:=ov h
 obtain ⟨v15,hv15,h⟩:=zn h
 refine yx hn 1 ?_
 refine ys 1 ⟨lB (qj hv11)⟩ ?_
 refine ys 0 ⟨lB (uZ hv12)⟩ ?_
 refine yS (.ptr 7 v13) 0 ⟨ib _ _ _ _ 16 7 _ underlying109 EG rfl rfl (ez hv13).1 (ez hv13).2 (by decide)⟩ ?_
 refine yS (.v (.int .u32 v14)) 0 ⟨iq _ _ _ _ _ _ underlying86 rfl rfl rfl (kh hv14)⟩ ?_
 refine ys 0 ⟨lb hv15⟩ ?_
 refine yw [9] 1 ?_
 refine bH [7,8,18,19,20,9] ?_
 obtain ⟨v16,hv16,v17,hv17,v18,hv18,v19,hv19,h⟩:=ov h
 obtain ⟨v20,hv20,h⟩:=zn h
 refine yx hn 1 ?_
 refine ys 1 ⟨lB (qj hv16)⟩ ?_
 refine ys 0 ⟨lB (uZ hv17)⟩ ?_
 refine yS (.ptr 7 v18) 0 ⟨ib _ _ _ _ 16 7 _ underlying109 EG rfl rfl (ez hv18).1 (ez hv18).2 (by decide)⟩ ?_
 refine yS (.v (.int .u32 v19)) 0 ⟨iq _ _ _ _ _ _ underlying86 rfl rfl rfl (kh hv19)⟩ ?_
 refine ys 0 ⟨lb hv20⟩ ?_
 refine yw [9] 1 ?_
 refine ye [7,8,18,19,20,9] ?_
 refine br (ai ?_)
 obtain ⟨v21,hv21,h⟩:=zn h
 refine yx hn 0 ?_
 refine ys 0 ⟨lb hv21⟩ ?_
 refine yw [20] 1 ?_
 refine ye [7,8,18,19,9,20] ?_
 refine aB [0,1,4,2,3,5] (by kernel_rfl) (es':=[(_,_),(_,_),(_,_),(_,_),(_,_),(_,_)]) rfl ?_
 exact bC _ (zi h).symm rfl
 refine bk (aD (aD (bo ?_)))
 refine aB [1,2] (by kernel_rfl) (es':=[(_,_),(_,_)]) rfl ?_
 exact hl30 _ (ho32 _ (zi h).symm).symm
theorem pw (b:(List Int)) (r:Int) (h:Sh.gw b=some r):cl Tryz.prog 31 [.fl .shr 1 (map (int .u8) b)] (.v (.int .i64 r)):=by
 unfold Sh.gw at h
 refine yO 5 func31 fun g0 hn hio => ?_
 refine aX hn 1 [0] ?_
 refine ag ?_
 obtain ⟨v1,hv1,h⟩:=zn h
 refine yx hn 1 ?_
 refine ys 1 ⟨lk call52 (vF _ _ _ _ hv1)⟩ ?_
 refine bH [2] ?_
 refine aC ?_
 obtain rfl:=zi h
 exact aE hio rfl (.tmp _ _ .nil) rfl rfl
theorem qM (mx:Int) (n:Int) (r:Ll) (h:Sh.strconv_Itoa n=some r):kF Tryz.prog (GL mx) 32 [.v (.int .i64 n)] (.v (.string r)):=pV (by kernel_rfl) (DT mx) (by rfl) (fun n w h0 h1 ht=>Tryz.strconv_Itoa n h0 h1 w ht) n r h
theorem gQ (mx:Int) (b:az) (r:((List Int)×Int)) (h:Sh.bp b=some r):kF Tryz.prog (GL mx) 13 [.agg [.v (.int .i64 b.Lj),.v (.int .i64 b.Li),.fr .shr true 8 (flatten (map ae.ienc b.Lg))]] (.tup [.mkr 5 (map (int .u8) r.1),.v (.int .i64 r.2)]):=by
 unfold Sh.bp at h
 refine yG 50 func13 fun g0 hn hio => ?_
 refine aX hn 3 [50,1] ?_
 refine ag (ag ?_)
 obtain ⟨v1,hv1,h⟩:=zn h
 refine yx hn 1 ?_
 refine ys 1 ⟨lg call19 (cN _ _ _ hv1) 50⟩ ?_
 refine bH [50,1,4] ?_
 refine aX hn 2 [50,1,4,13] ?_
 refine zc h rfl (fun h => ?_) (fun h => ?_)
 refine aX hn 3 [50,2,3] ?_
 refine aC ?_
 refine aB [1,2] (by kernel_rfl) (es':=[(_,_),(_,_)]) rfl ?_
 refine di (fs:=[(2,.mkr 5 (map (int .u8) [])),(3,vi v1)]) (.sub _ (lN 5) rfl (.same _ .nil)) ?_
 refine am ?_
 obtain rfl:=zi h
 exact aE hio rfl (.tmp _ _ (.tmp _ _ .nil)) rfl rfl
 refine aA ?_
 refine ai (ag ?_)
 obtain ⟨v3,hv3,h⟩:=zn h
 refine yx hn 2 ?_
 refine ys 0 ⟨lg call30 (ox _ _ _ hv3) 50⟩ ?_
 refine ya 0 ?_
 refine bH [50,1,5] ?_
 refine aX hn 1 [50,1,5,6] ?_
 refine ag (ag ?_)
 obtain ⟨v4,hv4,h⟩:=zn h
 refine wb [[1],[18,1],[1],[20,1],[1],[22,1],[23],[5],[25,5],[5]] ?_
 refine wN [27,5] ?_
 refine wo [] ⟨lk call31 (pw _ _ hv4)⟩ ?_
 refine wN [19,21,24,26,28] ?_
 refine wS (.fl (.own 3) 1 (map (int .i64) [b.Lj,b.Li,(b.Lg.length:Int),(v3.length:Int),v4])) [[29],[]] ⟨cb _ _ 1 (.int .i64 0) (map (int .i64) [b.Lj,b.Li,(b.Lg.length:Int),(v3.length:Int),v4]) [(0,.int .i64 b.Lj),(1,.int .i64 b.Li),(2,.int .i64 (b.Lg.length:Int)),(3,.int .i64 (v3.length:Int)),(4,.int .i64 v4)] underlying61 Fy IU (fun _ V w o a hv hes=>by have e0:=dL hv hes (x := .tmp 19) rfl; have e1:=dL hv hes (x := .tmp 21) rfl; have e2:=dL hv hes (x := .tmp 24) rfl; have e3:=dL hv hes (x := .tmp 26) rfl; have e4:=dL hv hes (x := .tmp 28) rfl; simp only [List.map_toArray,List.map_cons,List.map_nil,e0,e1,e2,e3,e4]; try rfl) (fv (by simp [Instr.fill,Value.cells]; rfl) (by simp [List.range,List.range.loop] <;> rfl)) (by simp [Value.oneCell']) rfl (by decide) (by decide) (by decide)⟩ ?_
 refine sI hn [50,5,6,29,30,31] ?_
 refine aY h (fun ((s51,s52):Ll×Int)=>[(50,.glob (GL mx)),(5,.fl (.own 5) 1 (map (int .u8) v3)),(6,vs s51),(29,.fl (.own 3) 1 (map (int .i64) [b.Lj,b.Li,(b.Lg.length:Int),(v3.length:Int),v4])),(30,vi ([b.Lj,b.Li,(b.Lg.length:Int),(v3.length:Int),v4].length:Int)),(31,vi s52)]) (fun (s54:Ll)=>[(50,.glob (GL mx)),(5,.fl (.own 5) 1 (map (int .u8) v3)),(6,vs s54)]) ?_ ?_
 rintro s54 h
 refine ai (ag ?_)
 obtain ⟨v26,hv26,v27,hv27,v44,hv44,h⟩:=mh h
 refine yx hn 1 ?_
 refine ys 0 ⟨lB (dA hv26)⟩ ?_
 refine ys 0 ⟨lU hv27⟩ ?_
 refine ym 0 ?_
 refine yk [43] [44] ?_
 refine pX (43,.any) (45,.mkr 5 (map (int .u8) v44)) 0 ⟨ub _ _ _ _ _ kC rfl rfl rfl rfl hv44 rfl⟩ ?_
 refine ya 0 ?_
 refine bH [50,9] ?_
 refine ag ?_
 refine gh hn 1 ?_
 refine yS (vi (v44.length:Int)) 1 ⟨pN _ _ _ underlying25 rfl (List.length_map _)⟩ ?_
 refine bH [50,9,48] ?_
 refine zc h rfl (fun h => ?_) (fun h => ?_)
 refine aX hn 2 [50,2,3] ?_
 refine aC ?_
 refine aB [1,2] (by kernel_rfl) (es':=[(_,_),(_,_)]) rfl ?_
 refine di (fs:=[(2,.mkr 5 (map (int .u8) [])),(3,vi 2)]) (.sub _ (lN 5) rfl (.same _ .nil)) ?_
 refine am ?_
 obtain rfl:=zi h
 exact aE hio rfl (.tmp _ _ (.tmp _ _ .nil)) rfl rfl
 refine aA (ai ?_)
 refine gh hn 0 ?_
 refine ym 0 ?_
 refine ya 1 ?_
 refine bH [50,2,3] ?_
 refine aC ?_
 refine aB [1,2] (by kernel_rfl) (es':=[(_,_),(_,_)]) rfl ?_
 obtain rfl:=zi h
 exact aE hio rfl (.tmp _ _ (.tmp _ _ .nil)) rfl rfl
 rintro u55 hl56 hr57 ⟨s51,s52⟩ rr60 h ho58
 refine aX hn 1 [50,5,6,29,30,31,32] ?_
 refine ag ?_
 refine zc h rfl (fun h => ?_) (fun h => ?_)
 refine aA ?_
 refine ai (ag ?_)
 refine aP (ag ?_)
 obtain ⟨v6,hv6,v7,hv7,h⟩:=fK h
 refine yx hn 0 ?_
 refine ys 0 ⟨li hv6⟩ ?_
 refine ys 1 ⟨ll hv7⟩ ?_
 refine bH [50,5,6,29,30,31,8] ?_
 obtain ⟨v8,hv8,v9,hv9,v10,hv10,h⟩:=mh h
 refine yx hn 2 ?_
 refine ys 0 ⟨lg call32 (qM _ _ _ hv8) 50⟩ ?_
 refine ys 0 ⟨lB (dA hv9)⟩ ?_
 refine ys 0 ⟨lB (dA hv10)⟩ ?_
 refine yw [6] 1 ?_
 refine ye [50,5,29,30,31,6] ?_
 refine br (ai ?_)
 obtain ⟨v11,hv11,h⟩:=zn h
 refine yx hn 0 ?_
 refine ys 0 ⟨lb hv11⟩ ?_
 refine yw [31] 1 ?_
 refine ye [50,5,29,30,6,31] ?_
 refine aB [0,1,4,2,3,5] (by kernel_rfl) (es':=[(_,_),(_,_),(_,_),(_,_),(_,_),(_,_)]) rfl ?_
 exact bC _ (zi h).symm rfl
 refine bk (aD (aD (bo ?_)))
 refine aB [0,1,2] (by kernel_rfl) (es':=[(_,_),(_,_),(_,_)]) rfl ?_
 exact hl56 _ (ho58 _ (zi h).symm).symm
theorem aZ (n:Int) (lo:Int) (hi:Int) (r:Bool) (h:Sh.bF n lo hi=some r):cl Tryz.prog 43 [.v (.int .i64 n),.v (.int .i64 lo),.v (.int .i64 hi)] (.v (.bool r)):=by
 unfold Sh.bF at h
 refine yO 15 func43 fun g0 hn hio => ?_
 refine aX hn 1 [0,1,2] ?_
 refine ag ?_
 refine aM h (fun (s1:Bool)=>[(6,vb s1)]) ?_ ?_
 rintro s1 h
 refine ai (aC ?_)
 obtain rfl:=zi h
 exact aE hio rfl (.tmp _ _ .nil) rfl rfl
 intro u2 h hl3 hr4
 refine au h (fun hg1_3 h => ?_) (fun hg1_3 h => ?_)
 refine yx hn 4 ?_
 refine yd hg1_3 5 ?_
 refine ye [6] ?_
 exact hl3 _ (zi h).symm
 refine yx hn 4 ?_
 refine yd hg1_3 5 ?_
 refine ye [6] ?_
 exact hl3 _ (zi h).symm
theorem dN (c:Int) (r:Bool) (h:Sh.cJ c=some r):cl Tryz.prog 107 [.v (.int .u8 c)] (.v (.bool r)):=by
 unfold Sh.cJ at h
 refine yO 17 func107 fun g0 hn hio => ?_
 refine aX hn 1 [0] ?_
 refine ag ?_
 refine aM h (fun (s1:Bool)=>[(2,vb s1)]) ?_ ?_
 rintro s1 h
 refine ai (aC ?_)
 obtain rfl:=zi h
 exact aE hio rfl (.tmp _ _ .nil) rfl rfl
 intro u2 h hl3 hr4
 refine au h (fun hg1_2 h => ?_) (fun hg1_2 h => ?_)
 refine au h (fun hg1_6 h => ?_) (fun hg1_6 h => ?_)
 refine yx hn 3 ?_
 refine yd hg1_2 4 ?_
 refine yd hg1_6 8 ?_
 refine ye [2] ?_
 exact hl3 _ (zi h).symm
 refine au h (fun hg1_9 h => ?_) (fun hg1_9 h => ?_)
 refine yx hn 3 ?_
 refine yd hg1_2 4 ?_
 refine yd hg1_6 3 ?_
 refine yd hg1_9 5 ?_
 refine ye [2] ?_
 exact hl3 _ (zi h).symm
 refine yx hn 3 ?_
 refine yd hg1_2 4 ?_
 refine yd hg1_6 3 ?_
 refine yd hg1_9 5 ?_
 refine ye [2] ?_
 exact hl3 _ (zi h).symm
 refine au h (fun hg1_9 h => ?_) (fun hg1_9 h => ?_)
 refine yx hn 3 ?_
 refine yd hg1_2 7 ?_
 refine yd hg1_9 5 ?_
 refine ye [2] ?_
 exact hl3 _ (zi h).symm
 refine yx hn 3 ?_
 refine yd hg1_2 7 ?_
 refine yd hg1_9 5 ?_
 refine ye [2] ?_
 exact hl3 _ (zi h).symm
theorem fg (c:Int) (r:Bool) (h:Sh.cx c=some r):cl Tryz.prog 60 [.v (.int .u8 c)] (.v (.bool r)):=by
 unfold Sh.cx at h
 refine yO 9 func60 fun g0 hn hio => ?_
 refine aX hn 1 [0] ?_
 refine ag ?_
 refine aM h (fun (s1:Bool)=>[(2,vb s1)]) ?_ ?_
 rintro s1 h
 refine ai (aC ?_)
 obtain rfl:=zi h
 exact aE hio rfl (.tmp _ _ .nil) rfl rfl
 intro u2 h hl3 hr4
 refine au h (fun hg1_2 h => ?_) (fun hg1_2 h => ?_)
 refine yx hn 3 ?_
 refine yd hg1_2 4 ?_
 refine ye [2] ?_
 exact hl3 _ (zi h).symm
 refine yx hn 3 ?_
 refine yd hg1_2 4 ?_
 refine ye [2] ?_
 exact hl3 _ (zi h).symm
theorem jL (c:Int) (r:Bool) (h:Sh.dQ c=some r):cl Tryz.prog 106 [.v (.int .u8 c)] (.v (.bool r)):=by
 unfold Sh.dQ at h
 refine yO 24 func106 fun g0 hn hio => ?_
 refine aX hn 1 [0] ?_
 refine ag (ag ?_)
 refine aM h (fun (s3:Bool)=>[(0,.v (.int .u8 c)),(10,vb s3)]) ?_ ?_
 rintro s3 h
 refine ai ?_
 refine zc h rfl (fun h => ?_) (fun h => ?_)
 refine aX hn 1 [2] ?_
 refine aC (am ?_)
 obtain rfl:=zi h
 exact aE hio rfl (.tmp _ _ .nil) rfl rfl
 refine aA (ai ?_)
 refine aX hn 1 [0,3] ?_
 refine ag ?_
 refine aX hn 1 [0,3,4] ?_
 refine aY h (fun (s15:Int)=>[(0,.v (.int .u8 c)),(3,vs (⟨#[33,35,36,37,38,39,42,43,45,47,61,63,94,95,123,124,125,126]⟩:Ll)),(4,vi s15)]) (fun (():Unit)=>[(0,.v (.int .u8 c))]) ?_ ?_
 rintro ⟨⟩ h
 refine ai ?_
 refine aX hn 3 [2] ?_
 refine aC ?_
 obtain rfl:=zi h
 exact aE hio rfl (.tmp _ _ .nil) rfl rfl
 rintro u18 hl19 hr20 s15 rr23 h ho21
 refine ag ?_
 refine aX hn 4 [0,3,4,14] ?_
 refine zc h rfl (fun h => ?_) (fun h => ?_)
 refine aA ?_
 refine ai (ag ?_)
 refine aP (ag ?_)
 obtain ⟨v9,hv9,h⟩:=zn h
 refine yx hn 2 ?_
 refine ys 2 ⟨lh hv9⟩ ?_
 refine bH [0,3,4,21] ?_
 refine zc h rfl (fun h => ?_) (fun h => ?_)
 refine aX hn 1 [2] ?_
 refine aC (aV (am (am (aV (am ?_)))))
 have h:=hr20 _ (ho21 _ (zi h).symm).symm
 obtain rfl:=zi h
 exact aE hio rfl (.tmp _ _ .nil) rfl rfl
 refine aA (br (ai ?_))
 obtain ⟨v11,hv11,h⟩:=zn h
 refine yx hn 1 ?_
 refine ys 0 ⟨lb hv11⟩ ?_
 refine yw [4] 1 ?_
 refine ye [0,3,4] ?_
 exact bC _ (zi h).symm rfl
 refine bk (aD (aD (bo ?_)))
 refine aB [0] (by kernel_rfl) (es':=[(_,_)]) rfl ?_
 exact hl19 _ (ho21 _ (zi h).symm).symm
 intro u4 h hl5 hr6
 obtain ⟨v1,hv1,h⟩:=zn h
 refine au h (fun hg1_2 h => ?_) (fun hg1_2 h => ?_)
 refine yx hn 1 ?_
 refine ys 1 ⟨lk call107 (dN _ _ hv1)⟩ ?_
 refine yd hg1_2 3 ?_
 refine ye [0,10] ?_
 exact hl5 _ (zi h).symm
 obtain ⟨v2,hv2,h⟩:=zn h
 refine yx hn 1 ?_
 refine ys 1 ⟨lk call107 (dN _ _ hv1)⟩ ?_
 refine yd hg1_2 1 ?_
 refine ys 1 ⟨lk call60 (fg _ _ hv2)⟩ ?_
 refine ye [0,10] ?_
 exact hl5 _ (zi h).symm
theorem ju (s:Ll) (r:Bool) (h:Sh.fj s=some r):cl Tryz.prog 85 [.v (.string s)] (.v (.bool r)):=by
 unfold Sh.fj at h
 refine yO 51 func85 fun g0 hn hio => ?_
 refine aX hn 1 [0] ?_
 refine ag (ag ?_)
 refine aM h (fun (s5:Bool)=>[(0,vs s),(20,vb s5)]) ?_ ?_
 rintro s5 h
 refine ai ?_
 refine zc h rfl (fun h => ?_) (fun h => ?_)
 refine aX hn 1 [2] ?_
 refine aC (am ?_)
 obtain rfl:=zi h
 exact aE hio rfl (.tmp _ _ .nil) rfl rfl
 refine aA ?_
 refine ai (ag ?_)
 refine aX hn 1 [0,3] ?_
 refine aY h (fun (s33:Int)=>[(0,vs s),(3,vi s33)]) (fun (():Unit)=>[]) ?_ ?_
 rintro ⟨⟩ h
 refine ai ?_
 refine aX hn 1 [2] ?_
 refine aC ?_
 obtain rfl:=zi h
 exact aE hio rfl (.tmp _ _ .nil) rfl rfl
 rintro u40 hl41 hr42 s33 rr45 h ho43
 refine ag ?_
 refine aX hn 4 [0,3,24] ?_
 refine zc h rfl (fun h => ?_) (fun h => ?_)
 refine aA ?_
 refine ai (ag ?_)
 refine aP (ag ?_)
 refine aM h (fun (s47:Bool)=>[(0,vs s),(3,vi s33),(50,vb s47)]) ?_ ?_
 rintro s47 h
 refine ai ?_
 refine zc h rfl (fun h => ?_) (fun h => ?_)
 refine aX hn 1 [2] ?_
 refine aC (aV (am (am (aV (am ?_)))))
 have h:=hr42 _ (ho43 _ (zi h).symm).symm
 obtain rfl:=zi h
 exact aE hio rfl (.tmp _ _ .nil) rfl rfl
 refine aA (br (ai ?_))
 obtain ⟨v25,hv25,h⟩:=zn h
 refine yx hn 1 ?_
 refine ys 0 ⟨lb hv25⟩ ?_
 refine yw [3] 1 ?_
 refine ye [0,3] ?_
 exact bC _ (zi h).symm rfl
 intro u48 h hl49 hr50
 obtain ⟨v11,hv11,h⟩:=zn h
 refine au h (fun hg6_4 h => ?_) (fun hg6_4 h => ?_)
 obtain ⟨v12,hv12,v13,hv13,h⟩:=fK h
 refine au h (fun hg6_11 h => ?_) (fun hg6_11 h => ?_)
 refine yx hn 2 ?_
 refine ys 2 ⟨lh hv11⟩ ?_
 refine yd hg6_4 2 ?_
 refine ys 0 ⟨lb hv12⟩ ?_
 refine ys 3 ⟨lh hv13⟩ ?_
 refine yd hg6_11 12 ?_
 refine ye [0,3,50] ?_
 exact hl49 _ (zi h).symm
 obtain ⟨v14,hv14,h⟩:=zn h
 refine au h (fun hg6_16 h => ?_) (fun hg6_16 h => ?_)
 obtain ⟨v15,hv15,v16,hv16,h⟩:=fK h
 refine yx hn 2 ?_
 refine ys 2 ⟨lh hv11⟩ ?_
 refine yd hg6_4 2 ?_
 refine ys 0 ⟨lb hv12⟩ ?_
 refine ys 3 ⟨lh hv13⟩ ?_
 refine yd hg6_11 2 ?_
 refine ys 2 ⟨lh hv14⟩ ?_
 refine yd hg6_16 2 ?_
 refine ys 0 ⟨lh hv15⟩ ?_
 refine ys 3 ⟨lk call106 (jL _ _ hv16)⟩ ?_
 refine ye [0,3,50] ?_
 exact hl49 _ (zi h).symm
 refine yx hn 2 ?_
 refine ys 2 ⟨lh hv11⟩ ?_
 refine yd hg6_4 2 ?_
 refine ys 0 ⟨lb hv12⟩ ?_
 refine ys 3 ⟨lh hv13⟩ ?_
 refine yd hg6_11 2 ?_
 refine ys 2 ⟨lh hv14⟩ ?_
 refine yd hg6_16 7 ?_
 refine ye [0,3,50] ?_
 exact hl49 _ (zi h).symm
 obtain ⟨v17,hv17,h⟩:=zn h
 refine au h (fun hg6_16 h => ?_) (fun hg6_16 h => ?_)
 obtain ⟨v18,hv18,v19,hv19,h⟩:=fK h
 refine yx hn 2 ?_
 refine ys 2 ⟨lh hv11⟩ ?_
 refine yd hg6_4 9 ?_
 refine ys 2 ⟨lh hv17⟩ ?_
 refine yd hg6_16 2 ?_
 refine ys 0 ⟨lh hv18⟩ ?_
 refine ys 3 ⟨lk call106 (jL _ _ hv19)⟩ ?_
 refine ye [0,3,50] ?_
 exact hl49 _ (zi h).symm
 refine yx hn 2 ?_
 refine ys 2 ⟨lh hv11⟩ ?_
 refine yd hg6_4 9 ?_
 refine ys 2 ⟨lh hv17⟩ ?_
 refine yd hg6_16 7 ?_
 refine ye [0,3,50] ?_
 exact hl49 _ (zi h).symm
 refine bk (aD (aD (bo ?_)))
 refine aB [] (by kernel_rfl) (es':=[]) rfl ?_
 exact hl41 _ (ho43 _ (zi h).symm).symm
 intro u6 h hl7 hr8
 obtain ⟨v1,hv1,h⟩:=zn h
 refine au h (fun hg1_4 h => ?_) (fun hg1_4 h => ?_)
 refine yx hn 2 ?_
 refine ys 2 ⟨lk call43 (aZ _ _ _ _ hv1)⟩ ?_
 refine yd hg1_4 12 ?_
 refine ye [0,20] ?_
 exact hl7 _ (zi h).symm
 obtain ⟨v2,hv2,h⟩:=zn h
 refine au h (fun hg1_9 h => ?_) (fun hg1_9 h => ?_)
 refine yx hn 2 ?_
 refine ys 2 ⟨lk call43 (aZ _ _ _ _ hv1)⟩ ?_
 refine yd hg1_4 1 ?_
 refine ys 3 ⟨lh hv2⟩ ?_
 refine yd hg1_9 7 ?_
 refine ye [0,20] ?_
 exact hl7 _ (zi h).symm
 obtain ⟨v3,hv3,v4,hv4,h⟩:=fK h
 refine yx hn 2 ?_
 refine ys 2 ⟨lk call43 (aZ _ _ _ _ hv1)⟩ ?_
 refine yd hg1_4 1 ?_
 refine ys 3 ⟨lh hv2⟩ ?_
 refine yd hg1_9 3 ?_
 refine ys 0 ⟨lb hv3⟩ ?_
 refine ys 2 ⟨lh hv4⟩ ?_
 refine ye [0,20] ?_
 exact hl7 _ (zi h).symm
end Go.Proofs.YtglabbpbianmnaaGreatDoor
