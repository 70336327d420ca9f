import Derived.Test.YtkgfjkfccpjcgaaDoorOkc7
set_option linter.unusedVariables false
set_option linter.unusedSimpArgs false
set_option maxHeartbeats 1000000
namespace Go.Proofs.YtkgfjkfccpjcgaaDoor
open Go.Abs Go.Abs.Sh Tryd
open List (map flatten)
open Value (int)

theorem jn (mx:Int) (b:(List Int)) (r:Bool) (h:Sh.dB b=some r):pp Tryd.prog (GL mx) 3 [.fl .shr 1 (map (int .u8) b)] (.v (.bool r)):=by
 unfold Sh.dB at h
 refine yG 89 func3 fun g0 hn hio => ?_
 refine aX hn 1 [0,89] ?_
 refine aa ?_
 refine aX hn 3 [0,89,14] ?_
 refine zc h rfl (fun h => ?_) (fun h => ?_)
 refine aX hn 1 [89,2] ?_
 refine au ?_
 refine ar [1] (by kernel_rfl) (es':=[(_,_)]) rfl ?_
 refine ap ?_
 obtain rfl:=zi h
 exact ay hio rfl (.tmp _ _ .nil) rfl rfl
 refine ak ?_
 refine ae (aa ?_)
 obtain ⟨v2,hv2,h⟩:=zn h
 refine yx hn 1 ?_
 refine ys 0 ⟨lk call12 (nw _ _ hv2)⟩ ?_
 refine ya 0 ?_
 refine bi [0,89,3] ?_
 refine aa ?_
 obtain ⟨v3,hv3,h⟩:=zn h
 refine yx hn 1 ?_
 refine ys 0 ⟨lk call13 (kj _ _ hv3)⟩ ?_
 refine ym 0 ?_
 refine nX 1 ?_
 refine ya 1 ?_
 refine bi [0,89,3,4,5] ?_
 refine aa ?_
 obtain ⟨v4,hv4,h⟩:=zn h
 refine yx hn 1 ?_
 refine ys 0 ⟨lk call14 (qg _ _ hv4)⟩ ?_
 refine ym 0 ?_
 refine nX 1 ?_
 refine ya 1 ?_
 refine bi [0,89,3,4,5,6,7] ?_
 refine aa ?_
 obtain ⟨v5,hv5,h⟩:=zn h
 refine yx hn 1 ?_
 refine ys 0 ⟨lg call15 (nR _ _ _ hv5) 89⟩ ?_
 refine ym 0 ?_
 refine nX 1 ?_
 refine ya 1 ?_
 refine bi [0,89,3,4,5,6,7,8,9] ?_
 refine aa ?_
 obtain ⟨v6,hv6,h⟩:=zn h
 refine yx hn 1 ?_
 refine ys 0 ⟨lg call16 (kz _ _ _ hv6) 89⟩ ?_
 refine ym 0 ?_
 refine nX 1 ?_
 refine ya 1 ?_
 refine bi [0,89,3,4,5,6,7,8,9,10,11] ?_
 refine aa (aa ?_)
 refine aL h (fun (s15:Bool)=>[(0,fb b),(89,.glob (GL mx)),(3,.fl (.own 5) 1 (map (int .u8) v2)),(4,.fl (.own 5) 1 (map (int .u8) v3.1)),(10,.fl (.own 5) 1 (map (int .u8) v6.1)),(78,vb s15)]) ?_ ?_
 rintro s15 h
 refine ae ?_
 refine zc h rfl (fun h => ?_) (fun h => ?_)
 refine aX hn 1 [89,2] ?_
 refine au ?_
 refine ar [1] (by kernel_rfl) (es':=[(_,_)]) rfl ?_
 refine ap ?_
 obtain rfl:=zi h
 exact ay hio rfl (.tmp _ _ .nil) rfl rfl
 refine ak ?_
 refine ae (aa ?_)
 obtain ⟨v20,hv20,h⟩:=zn h
 refine yx hn 0 ?_
 refine ym 0 ?_
 refine yk [79] [] ?_
 refine qk (79,.any) (80,.tup []) 0 ⟨vo _ _ 79 20 _ _ rfl call20 rfl rfl (ju v6.1 _ hv20) rfl rfl rfl⟩ ?_
 refine bi [0,89,3,4] ?_
 refine aa ?_
 obtain ⟨v21,hv21,h⟩:=zn h
 refine yx hn 0 ?_
 refine ym 0 ?_
 refine yk [81] [] ?_
 refine qk (81,.any) (82,.tup []) 0 ⟨vo _ _ 81 20 _ _ rfl call20 rfl rfl (ju v3.1 _ hv21) rfl rfl rfl⟩ ?_
 refine bi [0,89,3] ?_
 refine aa ?_
 refine aL h (fun (s24:Bool)=>[(89,.glob (GL mx)),(2,vb s24)]) ?_ ?_
 rintro s24 h
 refine ae (au ?_)
 refine ar [1] (by kernel_rfl) (es':=[(_,_)]) rfl ?_
 obtain rfl:=zi h
 exact ay hio rfl (.tmp _ _ .nil) rfl rfl
 intro u25 h hl26 hr27
 obtain ⟨v22,hv22,h⟩:=zn h
 refine aE h (fun hg12_3 h => ?_) (fun hg12_3 h => ?_)
 obtain ⟨v23,hv23,h⟩:=zn h
 refine yx hn 0 ?_
 refine ym 1 ?_
 refine ys 1 ⟨lk call17 (aW _ _ _ hv22)⟩ ?_
 refine yd hg12_3 0 ?_
 refine ys 2 ⟨lg call21 (lZ _ _ hv23) 89⟩ ?_
 refine ye [89,2] ?_
 exact hl26 _ (zi h).symm
 refine yx hn 0 ?_
 refine ym 1 ?_
 refine ys 1 ⟨lk call17 (aW _ _ _ hv22)⟩ ?_
 refine yd hg12_3 3 ?_
 refine ye [89,2] ?_
 exact hl26 _ (zi h).symm
 intro u16 h hl17 hr18
 refine aE h (fun hg8_2 h => ?_) (fun hg8_2 h => ?_)
 refine yx hn 3 ?_
 refine yd hg8_2 39 ?_
 refine ye [0,89,3,4,10,78] ?_
 exact hl17 _ (zi h).symm
 refine aE h (fun hg8_6 h => ?_) (fun hg8_6 h => ?_)
 refine yx hn 3 ?_
 refine yd hg8_2 4 ?_
 refine yd hg8_6 35 ?_
 refine ye [0,89,3,4,10,78] ?_
 exact hl17 _ (zi h).symm
 refine aE h (fun hg8_10 h => ?_) (fun hg8_10 h => ?_)
 refine yx hn 3 ?_
 refine yd hg8_2 4 ?_
 refine yd hg8_6 4 ?_
 refine yd hg8_10 31 ?_
 refine ye [0,89,3,4,10,78] ?_
 exact hl17 _ (zi h).symm
 refine aE h (fun hg8_14 h => ?_) (fun hg8_14 h => ?_)
 refine yx hn 3 ?_
 refine yd hg8_2 4 ?_
 refine yd hg8_6 4 ?_
 refine yd hg8_10 4 ?_
 refine yd hg8_14 27 ?_
 refine ye [0,89,3,4,10,78] ?_
 exact hl17 _ (zi h).symm
 obtain ⟨v7,hv7,v8,hv8,h⟩:=eY h
 refine aE h (fun hg8_21 h => ?_) (fun hg8_21 h => ?_)
 refine yx hn 3 ?_
 refine yd hg8_2 4 ?_
 refine yd hg8_6 4 ?_
 refine yd hg8_10 4 ?_
 refine yd hg8_14 2 ?_
 refine ys 0 ⟨lk call18 (bS _ _ _ hv7)⟩ ?_
 refine ys 3 ⟨lk call17 (aW _ _ _ hv8)⟩ ?_
 refine yd hg8_21 20 ?_
 refine ye [0,89,3,4,10,78] ?_
 exact hl17 _ (zi h).symm
 obtain ⟨v9,hv9,v10,hv10,h⟩:=eY h
 refine aE h (fun hg8_28 h => ?_) (fun hg8_28 h => ?_)
 refine yx hn 3 ?_
 refine yd hg8_2 4 ?_
 refine yd hg8_6 4 ?_
 refine yd hg8_10 4 ?_
 refine yd hg8_14 2 ?_
 refine ys 0 ⟨lk call18 (bS _ _ _ hv7)⟩ ?_
 refine ys 3 ⟨lk call17 (aW _ _ _ hv8)⟩ ?_
 refine yd hg8_21 0 ?_
 refine ym 1 ?_
 refine ys 0 ⟨lk call18 (bS _ _ _ hv9)⟩ ?_
 refine ys 3 ⟨lk call17 (aW _ _ _ hv10)⟩ ?_
 refine yd hg8_28 13 ?_
 refine ye [0,89,3,4,10,78] ?_
 exact hl17 _ (zi h).symm
 obtain ⟨v11,hv11,v12,hv12,h⟩:=eY h
 refine aE h (fun hg8_35 h => ?_) (fun hg8_35 h => ?_)
 refine yx hn 3 ?_
 refine yd hg8_2 4 ?_
 refine yd hg8_6 4 ?_
 refine yd hg8_10 4 ?_
 refine yd hg8_14 2 ?_
 refine ys 0 ⟨lk call18 (bS _ _ _ hv7)⟩ ?_
 refine ys 3 ⟨lk call17 (aW _ _ _ hv8)⟩ ?_
 refine yd hg8_21 0 ?_
 refine ym 1 ?_
 refine ys 0 ⟨lk call18 (bS _ _ _ hv9)⟩ ?_
 refine ys 3 ⟨lk call17 (aW _ _ _ hv10)⟩ ?_
 refine yd hg8_28 0 ?_
 refine ym 1 ?_
 refine ys 0 ⟨lk call18 (bS _ _ _ hv11)⟩ ?_
 refine ys 3 ⟨lk call17 (aW _ _ _ hv12)⟩ ?_
 refine yd hg8_35 6 ?_
 refine ye [0,89,3,4,10,78] ?_
 exact hl17 _ (zi h).symm
 obtain ⟨v13,hv13,v14,hv14,h⟩:=eY h
 refine yx hn 3 ?_
 refine yd hg8_2 4 ?_
 refine yd hg8_6 4 ?_
 refine yd hg8_10 4 ?_
 refine yd hg8_14 2 ?_
 refine ys 0 ⟨lk call18 (bS _ _ _ hv7)⟩ ?_
 refine ys 3 ⟨lk call17 (aW _ _ _ hv8)⟩ ?_
 refine yd hg8_21 0 ?_
 refine ym 1 ?_
 refine ys 0 ⟨lk call18 (bS _ _ _ hv9)⟩ ?_
 refine ys 3 ⟨lk call17 (aW _ _ _ hv10)⟩ ?_
 refine yd hg8_28 0 ?_
 refine ym 1 ?_
 refine ys 0 ⟨lk call18 (bS _ _ _ hv11)⟩ ?_
 refine ys 3 ⟨lk call17 (aW _ _ _ hv12)⟩ ?_
 refine yd hg8_35 2 ?_
 refine ys 0 ⟨lk call19 (lz _ _ hv13)⟩ ?_
 refine ys 2 ⟨lk call17 (aW _ _ _ hv14)⟩ ?_
 refine ye [0,89,3,4,10,78] ?_
 exact hl17 _ (zi h).symm

end Go.Proofs.YtkgfjkfccpjcgaaDoor
