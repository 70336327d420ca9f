import Derived.Test.YtjdmcbkkacnmdaaGreatDoorOkc3
set_option linter.unusedVariables false
set_option linter.unusedSimpArgs false
set_option maxHeartbeats 1000000
namespace Go.Proofs.YtjdmcbkkacnmdaaGreatDoor
open Go.Abs Go.Abs.Sh Tryz
open List (map flatten)
open Value (int)
theorem de (n:Int) (lo:Int) (hi:Int) (r:Bool) (h:Sh.db n lo hi=some r):cg Tryz.prog 76 [.v (.int .i64 n),.v (.int .i64 lo),.v (.int .i64 hi)] (.v (.bool r)):=by
 unfold Sh.db at h
 refine yO 15 func76 fun g0 hn hio => ?_
 refine aZ hn 1 [0,1,2] ?_
 refine aj ?_
 refine aK h (fun (s1:Bool)=>[(6,vb s1)]) ?_ ?_
 rintro s1 h
 refine ak (aD ?_)
 obtain rfl:=zi h
 exact aJ hio rfl (.tmp _ _ .nil) rfl rfl
 intro u2 h hl3 hr4
 refine ao h (fun hg1_3 h => ?_) (fun hg1_3 h => ?_)
 refine yx hn 4 ?_
 refine yd hg1_3 5 ?_
 refine ye [6] ?_
 exact hl3 _ (zi h).symm
 refine yx hn 4 ?_
 refine yd hg1_3 5 ?_
 refine ye [6] ?_
 exact hl3 _ (zi h).symm
theorem dv (c:Int) (r:Bool) (h:Sh.cA c=some r):cg Tryz.prog 78 [.v (.int .u8 c)] (.v (.bool r)):=by
 unfold Sh.cA at h
 refine yO 17 func78 fun g0 hn hio => ?_
 refine aZ hn 1 [0] ?_
 refine aj ?_
 refine aK h (fun (s1:Bool)=>[(2,vb s1)]) ?_ ?_
 rintro s1 h
 refine ak (aD ?_)
 obtain rfl:=zi h
 exact aJ hio rfl (.tmp _ _ .nil) rfl rfl
 intro u2 h hl3 hr4
 refine ao h (fun hg1_2 h => ?_) (fun hg1_2 h => ?_)
 refine ao h (fun hg1_6 h => ?_) (fun hg1_6 h => ?_)
 refine yx hn 3 ?_
 refine yd hg1_2 4 ?_
 refine yd hg1_6 8 ?_
 refine ye [2] ?_
 exact hl3 _ (zi h).symm
 refine ao h (fun hg1_9 h => ?_) (fun hg1_9 h => ?_)
 refine yx hn 3 ?_
 refine yd hg1_2 4 ?_
 refine yd hg1_6 3 ?_
 refine yd hg1_9 5 ?_
 refine ye [2] ?_
 exact hl3 _ (zi h).symm
 refine yx hn 3 ?_
 refine yd hg1_2 4 ?_
 refine yd hg1_6 3 ?_
 refine yd hg1_9 5 ?_
 refine ye [2] ?_
 exact hl3 _ (zi h).symm
 refine ao h (fun hg1_9 h => ?_) (fun hg1_9 h => ?_)
 refine yx hn 3 ?_
 refine yd hg1_2 7 ?_
 refine yd hg1_9 5 ?_
 refine ye [2] ?_
 exact hl3 _ (zi h).symm
 refine yx hn 3 ?_
 refine yd hg1_2 7 ?_
 refine yd hg1_9 5 ?_
 refine ye [2] ?_
 exact hl3 _ (zi h).symm
theorem fx (c:Int) (r:Bool) (h:Sh.cI c=some r):cg Tryz.prog 79 [.v (.int .u8 c)] (.v (.bool r)):=by
 unfold Sh.cI at h
 refine yO 9 func79 fun g0 hn hio => ?_
 refine aZ hn 1 [0] ?_
 refine aj ?_
 refine aK h (fun (s1:Bool)=>[(2,vb s1)]) ?_ ?_
 rintro s1 h
 refine ak (aD ?_)
 obtain rfl:=zi h
 exact aJ hio rfl (.tmp _ _ .nil) rfl rfl
 intro u2 h hl3 hr4
 refine ao h (fun hg1_2 h => ?_) (fun hg1_2 h => ?_)
 refine yx hn 3 ?_
 refine yd hg1_2 4 ?_
 refine ye [2] ?_
 exact hl3 _ (zi h).symm
 refine yx hn 3 ?_
 refine yd hg1_2 4 ?_
 refine ye [2] ?_
 exact hl3 _ (zi h).symm
theorem iM (c:Int) (r:Bool) (h:Sh.dw c=some r):cg Tryz.prog 77 [.v (.int .u8 c)] (.v (.bool r)):=by
 unfold Sh.dw at h
 refine yO 24 func77 fun g0 hn hio => ?_
 refine aZ hn 1 [0] ?_
 refine aj (aj ?_)
 refine aK h (fun (s3:Bool)=>[(0,.v (.int .u8 c)),(10,vb s3)]) ?_ ?_
 rintro s3 h
 refine ak ?_
 refine zc h rfl (fun h => ?_) (fun h => ?_)
 refine aZ hn 1 [2] ?_
 refine aD (ay ?_)
 obtain rfl:=zi h
 exact aJ hio rfl (.tmp _ _ .nil) rfl rfl
 refine aE (ak ?_)
 refine aZ hn 1 [0,3] ?_
 refine aj ?_
 refine aZ hn 1 [0,3,4] ?_
 refine bp h (fun (s15:Int)=>[(0,.v (.int .u8 c)),(3,vs (⟨#[33,35,36,37,38,39,42,43,45,47,61,63,94,95,123,124,125,126]⟩:Hd)),(4,vi s15)]) (fun (():Unit)=>[(0,.v (.int .u8 c))]) ?_ ?_
 rintro ⟨⟩ h
 refine ak ?_
 refine aZ hn 3 [2] ?_
 refine aD ?_
 obtain rfl:=zi h
 exact aJ hio rfl (.tmp _ _ .nil) rfl rfl
 rintro u18 hl19 hr20 s15 rr23 h ho21
 refine aj ?_
 refine aZ hn 4 [0,3,4,14] ?_
 refine zc h rfl (fun h => ?_) (fun h => ?_)
 refine aE ?_
 refine ak (aj ?_)
 refine aU (aj ?_)
 obtain ⟨v9,hv9,h⟩:=zn h
 refine yx hn 2 ?_
 refine ys 2 ⟨lh hv9⟩ ?_
 refine cN [0,3,4,21] ?_
 refine zc h rfl (fun h => ?_) (fun h => ?_)
 refine aZ hn 1 [2] ?_
 refine aD (aV (ay (ay (aV (ay ?_)))))
 have h:=hr20 _ (ho21 _ (zi h).symm).symm
 obtain rfl:=zi h
 exact aJ hio rfl (.tmp _ _ .nil) rfl rfl
 refine aE (aT (ak ?_))
 obtain ⟨v11,hv11,h⟩:=zn h
 refine yx hn 1 ?_
 refine ys 0 ⟨lb hv11⟩ ?_
 refine yw [4] 1 ?_
 refine ye [0,3,4] ?_
 exact bH _ (zi h).symm rfl
 refine bF (aH (aH (bG ?_)))
 refine aB [0] (by kernel_rfl) (es':=[(_,_)]) rfl ?_
 exact hl19 _ (ho21 _ (zi h).symm).symm
 intro u4 h hl5 hr6
 obtain ⟨v1,hv1,h⟩:=zn h
 refine ao h (fun hg1_2 h => ?_) (fun hg1_2 h => ?_)
 refine yx hn 1 ?_
 refine ys 1 ⟨lk call78 (dv _ _ hv1)⟩ ?_
 refine yd hg1_2 3 ?_
 refine ye [0,10] ?_
 exact hl5 _ (zi h).symm
 obtain ⟨v2,hv2,h⟩:=zn h
 refine yx hn 1 ?_
 refine ys 1 ⟨lk call78 (dv _ _ hv1)⟩ ?_
 refine yd hg1_2 1 ?_
 refine ys 1 ⟨lk call79 (fx _ _ hv2)⟩ ?_
 refine ye [0,10] ?_
 exact hl5 _ (zi h).symm
theorem iI (s:Hd) (r:Bool) (h:Sh.et s=some r):cg Tryz.prog 69 [.v (.string s)] (.v (.bool r)):=by
 unfold Sh.et at h
 refine yO 51 func69 fun g0 hn hio => ?_
 refine aZ hn 1 [0] ?_
 refine aj (aj ?_)
 refine aK h (fun (s5:Bool)=>[(0,vs s),(20,vb s5)]) ?_ ?_
 rintro s5 h
 refine ak ?_
 refine zc h rfl (fun h => ?_) (fun h => ?_)
 refine aZ hn 1 [2] ?_
 refine aD (ay ?_)
 obtain rfl:=zi h
 exact aJ hio rfl (.tmp _ _ .nil) rfl rfl
 refine aE ?_
 refine ak (aj ?_)
 refine aZ hn 1 [0,3] ?_
 refine bp h (fun (s33:Int)=>[(0,vs s),(3,vi s33)]) (fun (():Unit)=>[]) ?_ ?_
 rintro ⟨⟩ h
 refine ak ?_
 refine aZ hn 1 [2] ?_
 refine aD ?_
 obtain rfl:=zi h
 exact aJ hio rfl (.tmp _ _ .nil) rfl rfl
 rintro u40 hl41 hr42 s33 rr45 h ho43
 refine aj ?_
 refine aZ hn 4 [0,3,24] ?_
 refine zc h rfl (fun h => ?_) (fun h => ?_)
 refine aE ?_
 refine ak (aj ?_)
 refine aU (aj ?_)
 refine aK h (fun (s47:Bool)=>[(0,vs s),(3,vi s33),(50,vb s47)]) ?_ ?_
 rintro s47 h
 refine ak ?_
 refine zc h rfl (fun h => ?_) (fun h => ?_)
 refine aZ hn 1 [2] ?_
 refine aD (aV (ay (ay (aV (ay ?_)))))
 have h:=hr42 _ (ho43 _ (zi h).symm).symm
 obtain rfl:=zi h
 exact aJ hio rfl (.tmp _ _ .nil) rfl rfl
 refine aE (aT (ak ?_))
 obtain ⟨v25,hv25,h⟩:=zn h
 refine yx hn 1 ?_
 refine ys 0 ⟨lb hv25⟩ ?_
 refine yw [3] 1 ?_
 refine ye [0,3] ?_
 exact bH _ (zi h).symm rfl
 intro u48 h hl49 hr50
 obtain ⟨v11,hv11,h⟩:=zn h
 refine ao h (fun hg6_4 h => ?_) (fun hg6_4 h => ?_)
 obtain ⟨v12,hv12,v13,hv13,h⟩:=ii h
 refine ao h (fun hg6_11 h => ?_) (fun hg6_11 h => ?_)
 refine yx hn 2 ?_
 refine ys 2 ⟨lh hv11⟩ ?_
 refine yd hg6_4 2 ?_
 refine ys 0 ⟨lb hv12⟩ ?_
 refine ys 3 ⟨lh hv13⟩ ?_
 refine yd hg6_11 12 ?_
 refine ye [0,3,50] ?_
 exact hl49 _ (zi h).symm
 obtain ⟨v14,hv14,h⟩:=zn h
 refine ao h (fun hg6_16 h => ?_) (fun hg6_16 h => ?_)
 obtain ⟨v15,hv15,v16,hv16,h⟩:=ii h
 refine yx hn 2 ?_
 refine ys 2 ⟨lh hv11⟩ ?_
 refine yd hg6_4 2 ?_
 refine ys 0 ⟨lb hv12⟩ ?_
 refine ys 3 ⟨lh hv13⟩ ?_
 refine yd hg6_11 2 ?_
 refine ys 2 ⟨lh hv14⟩ ?_
 refine yd hg6_16 2 ?_
 refine ys 0 ⟨lh hv15⟩ ?_
 refine ys 3 ⟨lk call77 (iM _ _ hv16)⟩ ?_
 refine ye [0,3,50] ?_
 exact hl49 _ (zi h).symm
 refine yx hn 2 ?_
 refine ys 2 ⟨lh hv11⟩ ?_
 refine yd hg6_4 2 ?_
 refine ys 0 ⟨lb hv12⟩ ?_
 refine ys 3 ⟨lh hv13⟩ ?_
 refine yd hg6_11 2 ?_
 refine ys 2 ⟨lh hv14⟩ ?_
 refine yd hg6_16 7 ?_
 refine ye [0,3,50] ?_
 exact hl49 _ (zi h).symm
 obtain ⟨v17,hv17,h⟩:=zn h
 refine ao h (fun hg6_16 h => ?_) (fun hg6_16 h => ?_)
 obtain ⟨v18,sZ,v19,hv19,h⟩:=ii h
 refine yx hn 2 ?_
 refine ys 2 ⟨lh hv11⟩ ?_
 refine yd hg6_4 9 ?_
 refine ys 2 ⟨lh hv17⟩ ?_
 refine yd hg6_16 2 ?_
 refine ys 0 ⟨lh sZ⟩ ?_
 refine ys 3 ⟨lk call77 (iM _ _ hv19)⟩ ?_
 refine ye [0,3,50] ?_
 exact hl49 _ (zi h).symm
 refine yx hn 2 ?_
 refine ys 2 ⟨lh hv11⟩ ?_
 refine yd hg6_4 9 ?_
 refine ys 2 ⟨lh hv17⟩ ?_
 refine yd hg6_16 7 ?_
 refine ye [0,3,50] ?_
 exact hl49 _ (zi h).symm
 refine bF (aH (aH (bG ?_)))
 refine aB [] (by kernel_rfl) (es':=[]) rfl ?_
 exact hl41 _ (ho43 _ (zi h).symm).symm
 intro u6 h hl7 hr8
 obtain ⟨v1,hv1,h⟩:=zn h
 refine ao h (fun hg1_4 h => ?_) (fun hg1_4 h => ?_)
 refine yx hn 2 ?_
 refine ys 2 ⟨lk call76 (de _ _ _ _ hv1)⟩ ?_
 refine yd hg1_4 12 ?_
 refine ye [0,20] ?_
 exact hl7 _ (zi h).symm
 obtain ⟨v2,hv2,h⟩:=zn h
 refine ao h (fun hg1_9 h => ?_) (fun hg1_9 h => ?_)
 refine yx hn 2 ?_
 refine ys 2 ⟨lk call76 (de _ _ _ _ hv1)⟩ ?_
 refine yd hg1_4 1 ?_
 refine ys 3 ⟨lh hv2⟩ ?_
 refine yd hg1_9 7 ?_
 refine ye [0,20] ?_
 exact hl7 _ (zi h).symm
 obtain ⟨v3,hv3,v4,hv4,h⟩:=ii h
 refine yx hn 2 ?_
 refine ys 2 ⟨lk call76 (de _ _ _ _ hv1)⟩ ?_
 refine yd hg1_4 1 ?_
 refine ys 3 ⟨lh hv2⟩ ?_
 refine yd hg1_9 3 ?_
 refine ys 0 ⟨lb hv3⟩ ?_
 refine ys 2 ⟨lh hv4⟩ ?_
 refine ye [0,20] ?_
 exact hl7 _ (zi h).symm
theorem kJ (s:Hd) (r:Bool) (h:Sh.eg s=some r):cg Tryz.prog 70 [.v (.string s)] (.v (.bool r)):=by
 unfold Sh.eg at h
 refine yO 63 func70 fun g0 hn hio => ?_
 refine aZ hn 1 [0] ?_
 refine aj (aj ?_)
 obtain ⟨v1,hv1,h⟩:=zn h
 refine yx hn 2 ?_
 refine ys 1 ⟨lk call76 (de _ _ _ _ hv1)⟩ ?_
 refine cN [0,8] ?_
 refine zc h rfl (fun h => ?_) (fun h => ?_)
 refine aZ hn 1 [2] ?_
 refine aD (ay ?_)
 obtain rfl:=zi h
 exact aJ hio rfl (.tmp _ _ .nil) rfl rfl
 refine aE (ak ?_)
 refine aZ hn 1 [0,3] ?_
 refine aj ?_
 refine aZ hn 1 [0,3,4] ?_
 refine bp h (fun ((s88,s89):Int×Int)=>[(0,vs s),(3,vi s88),(4,vi s89)]) (fun (():Unit)=>[]) ?_ ?_
 rintro ⟨⟩ h
 refine ak ?_
 refine aZ hn 1 [2] ?_
 refine aD ?_
 obtain rfl:=zi h
 exact aJ hio rfl (.tmp _ _ .nil) rfl rfl
 rintro u125 hl126 hr127 ⟨s88,s89⟩ rr130 h ho128
 refine aj ?_
 refine aZ hn 4 [0,3,4,12] ?_
 refine zc h rfl (fun h => ?_) (fun h => ?_)
 refine aE ?_
 refine ak (aj ?_)
 refine aK h (fun (s147:Int)=>[(0,vs s),(3,vi s147),(4,vi s89)]) ?_ ?_
 rintro s147 h
 refine ak ?_
 obtain ⟨v50,hv50,h⟩:=zn h
 refine yx hn 1 ?_
 refine ys 0 ⟨lb hv50⟩ ?_
 refine yw [4] 1 ?_
 refine ye [0,3,4] ?_
 exact bH _ (zi h).symm rfl
 intro u148 h hl149 hr150
 refine aU (aj (aj ?_))
 refine aK h (fun (s151:Bool)=>[(0,vs s),(3,vi s88),(4,vi s89),(24,vb s151)]) ?_ ?_
 rintro s151 h
 refine ak ?_
 refine zc h rfl (fun h => ?_) (fun h => ?_)
 refine aj (aj ?_)
 refine aK h (fun (s156:Bool)=>[(0,vs s),(3,vi s88),(4,vi s89),(42,vb s156)]) ?_ ?_
 rintro s156 h
 refine ak ?_
 refine zc h rfl (fun h => ?_) (fun h => ?_)
 refine aZ hn 1 [2] ?_
 refine aD (ay (ay (aV (ay (ay (aV (ay ?_)))))))
 have h:=hr150 _ (zi h).symm
 have h:=hr127 _ (ho128 _ (zi h).symm).symm
 obtain rfl:=zi h
 exact aJ hio rfl (.tmp _ _ .nil) rfl rfl
 refine aE (ak (bF (aH (bG ?_))))
 refine aB [0,1,2] (by kernel_rfl) (es':=[(_,_),(_,_),(_,_)]) rfl ?_
 exact hl149 _ (zi h).symm
 intro u157 h hl158 hr159
 obtain ⟨v10,hv10,v11,hv11,h⟩:=ii h
 refine ao h (fun hg8_5 h => ?_) (fun hg8_5 h => ?_)
 obtain ⟨v12,hv12,v13,hv13,h⟩:=ii h
 refine ao h (fun hg8_12 h => ?_) (fun hg8_12 h => ?_)
 obtain ⟨v14,hv14,h⟩:=zn h
 refine yx hn 2 ?_
 refine ys 0 ⟨lh hv10⟩ ?_
 refine ys 2 ⟨lk call78 (dv _ _ hv11)⟩ ?_
 refine yd hg8_5 2 ?_
 refine ys 0 ⟨lh hv12⟩ ?_
 refine ys 3 ⟨lk call79 (fx _ _ hv13)⟩ ?_
 refine yd hg8_12 2 ?_
 refine ys 2 ⟨lh hv14⟩ ?_
 refine ye [0,3,4,42] ?_
 exact hl158 _ (zi h).symm
 refine yx hn 2 ?_
 refine ys 0 ⟨lh hv10⟩ ?_
 refine ys 2 ⟨lk call78 (dv _ _ hv11)⟩ ?_
 refine yd hg8_5 2 ?_
 refine ys 0 ⟨lh hv12⟩ ?_
 refine ys 3 ⟨lk call79 (fx _ _ hv13)⟩ ?_
 refine yd hg8_12 5 ?_
 refine ye [0,3,4,42] ?_
 exact hl158 _ (zi h).symm
 refine yx hn 2 ?_
 refine ys 0 ⟨lh hv10⟩ ?_
 refine ys 2 ⟨lk call78 (dv _ _ hv11)⟩ ?_
 refine yd hg8_5 12 ?_
 refine ye [0,3,4,42] ?_
 exact hl158 _ (zi h).symm
 refine aE ?_
 refine ak (aj ?_)
 refine aj ?_
 refine aK h (fun (s161:Bool)=>[(0,vs s),(4,vi s89),(60,vb s161)]) ?_ ?_
 rintro s161 h
 refine ak ?_
 refine zc h rfl (fun h => ?_) (fun h => ?_)
 refine aZ hn 1 [2] ?_
 refine aD (ay (aV (ay (ay (aV (ay ?_))))))
 have h:=hr150 _ (zi h).symm
 have h:=hr127 _ (ho128 _ (zi h).symm).symm
 obtain rfl:=zi h
 exact aJ hio rfl (.tmp _ _ .nil) rfl rfl
 refine aE (ak ?_)
 obtain ⟨v30,hv30,h⟩:=zn h
 refine yx hn 1 ?_
 refine ys 1 ⟨lb hv30⟩ ?_
 refine ye [0,4,3] ?_
 refine aT ?_
 refine aB [0,2,1] (by kernel_rfl) (es':=[(_,_),(_,_),(_,_)]) rfl ?_
 exact hl149 _ (zi h).symm
 intro u162 h hl163 hr164
 obtain ⟨v20,hv20,v21,hv21,h⟩:=ii h
 refine ao h (fun hg10_5 h => ?_) (fun hg10_5 h => ?_)
 refine yx hn 2 ?_
 refine ys 0 ⟨lb hv20⟩ ?_
 refine ys 2 ⟨lk call76 (de _ _ _ _ hv21)⟩ ?_
 refine yd hg10_5 12 ?_
 refine ye [0,4,60] ?_
 exact hl163 _ (zi h).symm
 obtain ⟨v22,hv22,h⟩:=zn h
 refine ao h (fun hg10_11 h => ?_) (fun hg10_11 h => ?_)
 refine yx hn 2 ?_
 refine ys 0 ⟨lb hv20⟩ ?_
 refine ys 2 ⟨lk call76 (de _ _ _ _ hv21)⟩ ?_
 refine yd hg10_5 2 ?_
 refine ys 3 ⟨lh hv22⟩ ?_
 refine yd hg10_11 6 ?_
 refine ye [0,4,60] ?_
 exact hl163 _ (zi h).symm
 obtain ⟨v23,hv23,v24,hv24,h⟩:=ii h
 refine yx hn 2 ?_
 refine ys 0 ⟨lb hv20⟩ ?_
 refine ys 2 ⟨lk call76 (de _ _ _ _ hv21)⟩ ?_
 refine yd hg10_5 2 ?_
 refine ys 3 ⟨lh hv22⟩ ?_
 refine yd hg10_11 2 ?_
 refine ys 0 ⟨lb hv23⟩ ?_
 refine ys 2 ⟨lh hv24⟩ ?_
 refine ye [0,4,60] ?_
 exact hl163 _ (zi h).symm
 intro u152 h hl153 hr154
 refine ao h (fun hg7_4 h => ?_) (fun hg7_4 h => ?_)
 obtain ⟨v4,hv4,h⟩:=zn h
 refine yx hn 5 ?_
 refine yd hg7_4 2 ?_
 refine ys 2 ⟨lh hv4⟩ ?_
 refine ye [0,3,4,24] ?_
 exact hl153 _ (zi h).symm
 refine yx hn 5 ?_
 refine yd hg7_4 5 ?_
 refine ye [0,3,4,24] ?_
 exact hl153 _ (zi h).symm
 refine bF (aH (aH (bG ?_)))
 refine aB [] (by kernel_rfl) (es':=[]) rfl ?_
 exact hl126 _ (ho128 _ (zi h).symm).symm
theorem di (p:T_Path) (r:Bool) (h:Sh.dy p=some r):cg Tryz.prog 58 [.agg [.v (.bool p.GT),.v (.string p.GR),.v (.string p.GJ)]] (.v (.bool r)):=by
 unfold Sh.dy at h
 refine yO 21 func58 fun g0 hn hio => ?_
 refine aZ hn 2 [1] ?_
 refine aj ?_
 refine aZ hn 2 [1,4] ?_
 refine zc h rfl (fun h => ?_) (fun h => ?_)
 refine aj ?_
 refine aK h (fun (s2:Bool)=>[(2,vb s2)]) ?_ ?_
 rintro s2 h
 refine ak (aD ?_)
 refine ay ?_
 obtain rfl:=zi h
 exact aJ hio rfl (.tmp _ _ .nil) rfl rfl
 intro u3 h hl4 hr5
 refine ao h (fun hg2_3 h => ?_) (fun hg2_3 h => ?_)
 refine yx hn 4 ?_
 refine yd hg2_3 5 ?_
 refine ye [2] ?_
 exact hl4 _ (zi h).symm
 refine yx hn 4 ?_
 refine yd hg2_3 5 ?_
 refine ye [2] ?_
 exact hl4 _ (zi h).symm
 refine aE ?_
 refine ak (aj ?_)
 refine aK h (fun (s8:Bool)=>[(2,vb s8)]) ?_ ?_
 rintro s8 h
 refine ak (aD ?_)
 obtain rfl:=zi h
 exact aJ hio rfl (.tmp _ _ .nil) rfl rfl
 intro u9 h hl10 hr11
 obtain ⟨v6,hv6,h⟩:=zn h
 refine ao h (fun hg3_3 h => ?_) (fun hg3_3 h => ?_)
 obtain ⟨v7,hv7,h⟩:=zn h
 refine yx hn 2 ?_
 refine ys 1 ⟨lk call69 (iI _ _ hv6)⟩ ?_
 refine yd hg3_3 2 ?_
 refine ys 2 ⟨lk call70 (kJ _ _ hv7)⟩ ?_
 refine ye [2] ?_
 exact hl10 _ (zi h).symm
 refine yx hn 2 ?_
 refine ys 1 ⟨lk call69 (iI _ _ hv6)⟩ ?_
 refine yd hg3_3 5 ?_
 refine ye [2] ?_
 exact hl10 _ (zi h).symm
theorem iP (b:(List Int)) (r:Bool) (h:Sh.bO b=some r):cg Tryz.prog 59 [.fl .shr 1 (map (int .u8) b)] (.v (.bool r)):=by
 unfold Sh.bO at h
 refine yO 61 func59 fun g0 hn hio => ?_
 refine aZ hn 1 [0] ?_
 refine aj ?_
 refine aZ hn 1 [0,3] ?_
 refine bp h (fun (s31:Int)=>[(0,fb b),(3,vi s31)]) (fun (():Unit)=>[(0,fb b)]) ?_ ?_
 rintro ⟨⟩ h
 refine ak (aj ?_)
 refine aK h (fun (s53:Bool)=>[(2,vb s53)]) ?_ ?_
 rintro s53 h
 refine ak (aD ?_)
 obtain rfl:=zi h
 exact aJ hio rfl (.tmp _ _ .nil) rfl rfl
 intro u54 h hl55 hr56
 refine ao h (fun hg6_3 h => ?_) (fun hg6_3 h => ?_)
 refine yx hn 4 ?_
 refine yd hg6_3 9 ?_
 refine ye [2] ?_
 exact hl55 _ (zi h).symm
 obtain ⟨v50,hv50,v51,hv51,v52,hv52,h⟩:=pj h
 refine yx hn 4 ?_
 refine yd hg6_3 3 ?_
 refine ys 0 ⟨lb hv50⟩ ?_
 refine ys 0 ⟨li hv51⟩ ?_
 refine ys 3 ⟨ll hv52⟩ ?_
 refine ye [2] ?_
 exact hl55 _ (zi h).symm
 rintro u38 hl39 hr40 s31 rr43 h ho41
 refine aj ?_
 refine aZ hn 4 [0,3,7] ?_
 refine zc h rfl (fun h => ?_) (fun h => ?_)
 refine aE ?_
 refine ak (aj ?_)
 refine aU (aj ?_)
 refine aK h (fun (s45:Bool)=>[(0,fb b),(3,vi s31),(48,vb s45)]) ?_ ?_
 rintro s45 h
 refine ak ?_
 refine zc h rfl (fun h => ?_) (fun h => ?_)
 refine aZ hn 1 [2] ?_
 refine aD (aV (ay (ay (aV (ay ?_)))))
 have h:=hr40 _ (ho41 _ (zi h).symm).symm
 obtain rfl:=zi h
 exact aJ hio rfl (.tmp _ _ .nil) rfl rfl
 refine aE (aT (ak ?_))
 obtain ⟨v23,hv23,h⟩:=zn h
 refine yx hn 1 ?_
 refine ys 0 ⟨lb hv23⟩ ?_
 refine yw [3] 1 ?_
 refine ye [0,3] ?_
 exact bH _ (zi h).symm rfl
 intro u46 h hl47 hr48
 obtain ⟨v2,hv2,v3,hv3,h⟩:=ii h
 refine ao h (fun hg4_5 h => ?_) (fun hg4_5 h => ?_)
 obtain ⟨v4,hv4,h⟩:=zn h
 refine ao h (fun hg4_11 h => ?_) (fun hg4_11 h => ?_)
 refine yx hn 2 ?_
 refine ys 0 ⟨li hv2⟩ ?_
 refine ys 2 ⟨ll hv3⟩ ?_
 refine yd hg4_5 1 ?_
 refine ys 4 ⟨lb hv4⟩ ?_
 refine yd hg4_11 27 ?_
 refine ye [0,3,48] ?_
 exact hl47 _ (zi h).symm
 obtain ⟨v5,hv5,v6,hv6,v7,hv7,h⟩:=pj h
 refine ao h (fun hg4_20 h => ?_) (fun hg4_20 h => ?_)
 refine yx hn 2 ?_
 refine ys 0 ⟨li hv2⟩ ?_
 refine ys 2 ⟨ll hv3⟩ ?_
 refine yd hg4_5 1 ?_
 refine ys 4 ⟨lb hv4⟩ ?_
 refine yd hg4_11 2 ?_
 refine ys 0 ⟨lb hv5⟩ ?_
 refine ys 0 ⟨li hv6⟩ ?_
 refine ys 4 ⟨ll hv7⟩ ?_
 refine yd hg4_20 18 ?_
 refine ye [0,3,48] ?_
 exact hl47 _ (zi h).symm
 obtain ⟨v8,hv8,v9,hv9,h⟩:=ii h
 refine ao h (fun hg4_26 h => ?_) (fun hg4_26 h => ?_)
 refine ao h (fun hg4_29 h => ?_) (fun hg4_29 h => ?_)
 refine yx hn 2 ?_
 refine ys 0 ⟨li hv2⟩ ?_
 refine ys 2 ⟨ll hv3⟩ ?_
 refine yd hg4_5 1 ?_
 refine ys 4 ⟨lb hv4⟩ ?_
 refine yd hg4_11 2 ?_
 refine ys 0 ⟨lb hv5⟩ ?_
 refine ys 0 ⟨li hv6⟩ ?_
 refine ys 4 ⟨ll hv7⟩ ?_
 refine yd hg4_20 2 ?_
 refine ys 0 ⟨li hv8⟩ ?_
 refine ys 2 ⟨ll hv9⟩ ?_
 refine yd hg4_26 3 ?_
 refine yd hg4_29 9 ?_
 refine ye [0,3,48] ?_
 exact hl47 _ (zi h).symm
 obtain ⟨v10,hv10,v11,hv11,v12,hv12,h⟩:=pj h
 refine yx hn 2 ?_
 refine ys 0 ⟨li hv2⟩ ?_
 refine ys 2 ⟨ll hv3⟩ ?_
 refine yd hg4_5 1 ?_
 refine ys 4 ⟨lb hv4⟩ ?_
 refine yd hg4_11 2 ?_
 refine ys 0 ⟨lb hv5⟩ ?_
 refine ys 0 ⟨li hv6⟩ ?_
 refine ys 4 ⟨ll hv7⟩ ?_
 refine yd hg4_20 2 ?_
 refine ys 0 ⟨li hv8⟩ ?_
 refine ys 2 ⟨ll hv9⟩ ?_
 refine yd hg4_26 3 ?_
 refine yd hg4_29 2 ?_
 refine ys 0 ⟨lb hv10⟩ ?_
 refine ys 0 ⟨li hv11⟩ ?_
 refine ys 4 ⟨ll hv12⟩ ?_
 refine ye [0,3,48] ?_
 exact hl47 _ (zi h).symm
 refine yx hn 2 ?_
 refine ys 0 ⟨li hv2⟩ ?_
 refine ys 2 ⟨ll hv3⟩ ?_
 refine yd hg4_5 1 ?_
 refine ys 4 ⟨lb hv4⟩ ?_
 refine yd hg4_11 2 ?_
 refine ys 0 ⟨lb hv5⟩ ?_
 refine ys 0 ⟨li hv6⟩ ?_
 refine ys 4 ⟨ll hv7⟩ ?_
 refine yd hg4_20 2 ?_
 refine ys 0 ⟨li hv8⟩ ?_
 refine ys 2 ⟨ll hv9⟩ ?_
 refine yd hg4_26 12 ?_
 refine ye [0,3,48] ?_
 exact hl47 _ (zi h).symm
 obtain ⟨v13,hv13,v14,hv14,h⟩:=ii h
 refine ao h (fun hg4_26 h => ?_) (fun hg4_26 h => ?_)
 refine ao h (fun hg4_29 h => ?_) (fun hg4_29 h => ?_)
 refine yx hn 2 ?_
 refine ys 0 ⟨li hv2⟩ ?_
 refine ys 2 ⟨ll hv3⟩ ?_
 refine yd hg4_5 17 ?_
 refine ys 0 ⟨li hv13⟩ ?_
 refine ys 2 ⟨ll hv14⟩ ?_
 refine yd hg4_26 3 ?_
 refine yd hg4_29 9 ?_
 refine ye [0,3,48] ?_
 exact hl47 _ (zi h).symm
 obtain ⟨v15,hv15,v16,hv16,v17,hv17,h⟩:=pj h
 refine yx hn 2 ?_
 refine ys 0 ⟨li hv2⟩ ?_
 refine ys 2 ⟨ll hv3⟩ ?_
 refine yd hg4_5 17 ?_
 refine ys 0 ⟨li hv13⟩ ?_
 refine ys 2 ⟨ll hv14⟩ ?_
 refine yd hg4_26 3 ?_
 refine yd hg4_29 2 ?_
 refine ys 0 ⟨lb hv15⟩ ?_
 refine ys 0 ⟨li hv16⟩ ?_
 refine ys 4 ⟨ll hv17⟩ ?_
 refine ye [0,3,48] ?_
 exact hl47 _ (zi h).symm
 refine yx hn 2 ?_
 refine ys 0 ⟨li hv2⟩ ?_
 refine ys 2 ⟨ll hv3⟩ ?_
 refine yd hg4_5 17 ?_
 refine ys 0 ⟨li hv13⟩ ?_
 refine ys 2 ⟨ll hv14⟩ ?_
 refine yd hg4_26 12 ?_
 refine ye [0,3,48] ?_
 exact hl47 _ (zi h).symm
 refine bF (aH (aH (bG ?_)))
 refine aB [0] (by kernel_rfl) (es':=[(_,_)]) rfl ?_
 exact hl39 _ (ho41 _ (zi h).symm).symm
theorem lS (m:T_Mail) (r:Bool) (h:Sh.eN m=some r):cg Tryz.prog 36 [.agg [.v (.bool m.GM.GT),.v (.string m.GM.GR),.v (.string m.GM.GJ),.fl .shr 3 (flatten (map T_Path.enc m.To)),.fl .shr 1 (map (int .u8) m.GH),.v (.bool m.Ha),.v (.string m.GN),.v (.int .i64 m.At)]] (.v (.bool r)):=by
 unfold Sh.eN at h
 refine yO 49 func36 fun g0 hn hio => ?_
 refine aZ hn 2 [1] ?_
 refine aj (aj ?_)
 refine aK h (fun (s5:Bool)=>[(1,.box 28 (T_Mail.c m [])),(26,vb s5)]) ?_ ?_
 rintro s5 h
 refine ak ?_
 refine zc h rfl (fun h => ?_) (fun h => ?_)
 refine aZ hn 1 [2] ?_
 refine aD (ay ?_)
 obtain rfl:=zi h
 exact aJ hio rfl (.tmp _ _ .nil) rfl rfl
 refine aE ?_
 refine ak (aj ?_)
 refine aZ hn 1 [1,3] ?_
 refine bp h (fun (s29:Int)=>[(1,.box 28 (T_Mail.c m [])),(3,vi s29)]) (fun (():Unit)=>[]) ?_ ?_
 rintro ⟨⟩ h
 refine ak ?_
 refine aZ hn 1 [2] ?_
 refine aD ?_
 obtain rfl:=zi h
 exact aJ hio rfl (.tmp _ _ .nil) rfl rfl
 rintro u36 hl37 hr38 s29 rr41 h ho39
 refine aj ?_
 refine aZ hn 5 [1,3,31] ?_
 refine zc h rfl (fun h => ?_) (fun h => ?_)
 refine aE ?_
 refine ak (aj ?_)
 refine aU (aj ?_)
 refine aK h (fun (s43:Bool)=>[(1,.box 28 (T_Mail.c m [])),(3,vi s29),(48,vb s43)]) ?_ ?_
 rintro s43 h
 refine ak ?_
 refine zc h rfl (fun h => ?_) (fun h => ?_)
 refine aZ hn 1 [2] ?_
 refine aD (aV (ay (ay (aV (ay ?_)))))
 have h:=hr38 _ (ho39 _ (zi h).symm).symm
 obtain rfl:=zi h
 exact aJ hio rfl (.tmp _ _ .nil) rfl rfl
 refine aE (aT (ak ?_))
 obtain ⟨v21,hv21,h⟩:=zn h
 refine yx hn 1 ?_
 refine ys 0 ⟨lb hv21⟩ ?_
 refine yw [3] 1 ?_
 refine ye [1,3] ?_
 exact bH _ (zi h).symm rfl
 intro u44 h hl45 hr46
 obtain ⟨v11,hv11,v12,hv12,v13,hv13,h⟩:=pj h
 refine ao h (fun hg6_7 h => ?_) (fun hg6_7 h => ?_)
 refine yx hn 3 ?_
 refine ys 0 ⟨lj hv11⟩ ?_
 refine yS (.agg [vb v12.GT,vs v12.GR,vs v12.GJ]) 0 ⟨gn _ _ _ _ _ _ _ underlying24 rfl xv rfl rfl (kb T_Path.len hv12) rfl (by decide)⟩ ?_
 refine ys 2 ⟨lk call58 (di _ _ hv13)⟩ ?_
 refine yd hg6_7 7 ?_
 refine ye [1,3,48] ?_
 exact hl45 _ (zi h).symm
 obtain ⟨v14,hv14,v15,hv15,h⟩:=ii h
 refine yx hn 3 ?_
 refine ys 0 ⟨lj hv11⟩ ?_
 refine yS (.agg [vb v12.GT,vs v12.GR,vs v12.GJ]) 0 ⟨gn _ _ _ _ _ _ _ underlying24 rfl xv rfl rfl (kb T_Path.len hv12) rfl (by decide)⟩ ?_
 refine ys 2 ⟨lk call58 (di _ _ hv13)⟩ ?_
 refine yd hg6_7 3 ?_
 refine ys 1 ⟨lj hv14⟩ ?_
 refine ys 1 ⟨lL hv15⟩ ?_
 refine ye [1,3,48] ?_
 exact hl45 _ (zi h).symm
 refine bF (aH (aH (bG ?_)))
 refine aB [] (by kernel_rfl) (es':=[]) rfl ?_
 exact hl37 _ (ho39 _ (zi h).symm).symm
 intro u6 h hl7 hr8
 obtain ⟨v1,hv1,h⟩:=zn h
 refine ao h (fun hg1_4 h => ?_) (fun hg1_4 h => ?_)
 refine yx hn 2 ?_
 refine ys 2 ⟨lk call58 (di _ _ hv1)⟩ ?_
 refine yd hg1_4 18 ?_
 refine ye [1,26] ?_
 exact hl7 _ (zi h).symm
 obtain ⟨v2,hv2,h⟩:=zn h
 refine ao h (fun hg1_11 h => ?_) (fun hg1_11 h => ?_)
 refine yx hn 2 ?_
 refine ys 2 ⟨lk call58 (di _ _ hv1)⟩ ?_
 refine yd hg1_4 3 ?_
 refine ys 3 ⟨lk call35 (aN _ _ _ _ hv2)⟩ ?_
 refine yd hg1_11 11 ?_
 refine ye [1,26] ?_
 exact hl7 _ (zi h).symm
 obtain ⟨v3,hv3,h⟩:=zn h
 refine ao h (fun hg1_17 h => ?_) (fun hg1_17 h => ?_)
 refine yx hn 2 ?_
 refine ys 2 ⟨lk call58 (di _ _ hv1)⟩ ?_
 refine yd hg1_4 3 ?_
 refine ys 3 ⟨lk call35 (aN _ _ _ _ hv2)⟩ ?_
 refine yd hg1_11 2 ?_
 refine ys 3 ⟨lk call59 (iP _ _ hv3)⟩ ?_
 refine yd hg1_17 5 ?_
 refine ye [1,26] ?_
 exact hl7 _ (zi h).symm
 obtain ⟨v4,hv4,h⟩:=zn h
 refine yx hn 2 ?_
 refine ys 2 ⟨lk call58 (di _ _ hv1)⟩ ?_
 refine yd hg1_4 3 ?_
 refine ys 3 ⟨lk call35 (aN _ _ _ _ hv2)⟩ ?_
 refine yd hg1_11 2 ?_
 refine ys 3 ⟨lk call59 (iP _ _ hv3)⟩ ?_
 refine yd hg1_17 2 ?_
 refine ys 2 ⟨lk call35 (aN _ _ _ _ hv4)⟩ ?_
 refine ye [1,26] ?_
 exact hl7 _ (zi h).symm
theorem cV (l:(List Int)) (n:Int) (r:Bool) (h:Sh.dQ l n=some r):cg Tryz.prog 37 [.fl .shr 1 (map (int .i64) l),.v (.int .i64 n)] (.v (.bool r)):=by
 unfold Sh.dQ at h
 refine yO 18 func37 fun g0 hn hio => ?_
 refine aZ hn 1 [0,1] ?_
 refine aj ?_
 refine aZ hn 1 [0,1,5] ?_
 refine bp h (fun (s9:Int)=>[(0,fi l),(1,vi n),(5,vi s9)]) (fun (():Unit)=>[]) ?_ ?_
 rintro ⟨⟩ h
 refine ak ?_
 refine aZ hn 1 [4] ?_
 refine aD ?_
 obtain rfl:=zi h
 exact aJ hio rfl (.tmp _ _ .nil) rfl rfl
 rintro u12 hl13 hr14 s9 rr17 h ho15
 refine aj ?_
 refine aZ hn 4 [0,1,5,9] ?_
 refine zc h rfl (fun h => ?_) (fun h => ?_)
 refine aE ?_
 refine ak (aj ?_)
 refine aU (aj ?_)
 obtain ⟨v2,hv2,v3,hv3,h⟩:=ii h
 refine yx hn 2 ?_
 refine ys 0 ⟨li hv2⟩ ?_
 refine ys 2 ⟨ll hv3⟩ ?_
 refine cN [0,1,5,17] ?_
 refine zc h rfl (fun h => ?_) (fun h => ?_)
 refine aZ hn 1 [4] ?_
 refine aD (aV (ay (ay (aV (ay ?_)))))
 have h:=hr14 _ (ho15 _ (zi h).symm).symm
 obtain rfl:=zi h
 exact aJ hio rfl (.tmp _ _ .nil) rfl rfl
 refine aE (aT (ak ?_))
 obtain ⟨v5,hv5,h⟩:=zn h
 refine yx hn 1 ?_
 refine ys 0 ⟨lb hv5⟩ ?_
 refine yw [5] 1 ?_
 refine ye [0,1,5] ?_
 exact bH _ (zi h).symm rfl
 refine bF (aH (aH (bG ?_)))
 refine aB [] (by kernel_rfl) (es':=[]) rfl ?_
 exact hl13 _ (ho15 _ (zi h).symm).symm
theorem cU (a:T_Path) (b:T_Path) (r:Bool) (h:Sh.cR a b=some r):cg Tryz.prog 51 [.agg [.v (.bool a.GT),.v (.string a.GR),.v (.string a.GJ)],.agg [.v (.bool b.GT),.v (.string b.GR),.v (.string b.GJ)]] (.v (.bool r)):=by
 unfold Sh.cR at h
 refine yO 24 func51 fun g0 hn hio => ?_
 refine aZ hn 3 [2,3] ?_
 refine aj ?_
 refine aK h (fun (s2:Bool)=>[(4,vb s2)]) ?_ ?_
 rintro s2 h
 refine ak (aD ?_)
 obtain rfl:=zi h
 exact aJ hio rfl (.tmp _ _ .nil) rfl rfl
 intro u3 h hl4 hr5
 obtain ⟨v1,hv1,h⟩:=zn h
 refine ao h (fun hg1_5 h => ?_) (fun hg1_5 h => ?_)
 refine ao h (fun hg1_12 h => ?_) (fun hg1_12 h => ?_)
 refine yx hn 4 ?_
 refine yS (vb (a.GT==b.GT)) 1 ⟨nL _ _ _ _ underlying4 rfl rfl⟩ ?_
 refine yd hg1_5 7 ?_
 refine yd hg1_12 7 ?_
 refine ye [4] ?_
 exact hl4 _ (zi h).symm
 refine yx hn 4 ?_
 refine yS (vb (a.GT==b.GT)) 1 ⟨nL _ _ _ _ underlying4 rfl rfl⟩ ?_
 refine yd hg1_5 7 ?_
 refine yd hg1_12 7 ?_
 refine ye [4] ?_
 exact hl4 _ (zi h).symm
 refine yx hn 4 ?_
 refine yS (vb (a.GT==b.GT)) 1 ⟨nL _ _ _ _ underlying4 rfl rfl⟩ ?_
 refine yd hg1_5 14 ?_
 refine ye [4] ?_
 exact hl4 _ (zi h).symm
theorem dT (a:(List T_Path)) (b:(List T_Path)) (r:Bool) (h:Sh.dz a b=some r):cg Tryz.prog 52 [.fl .shr 3 (flatten (map T_Path.enc a)),.fl .shr 3 (flatten (map T_Path.enc b))] (.v (.bool r)):=by
 unfold Sh.dz at h
 refine yO 27 func52 fun g0 hn hio => ?_
 refine aZ hn 1 [0,1] ?_
 refine aj ?_
 refine aZ hn 5 [0,1,10] ?_
 refine zc h rfl (fun h => ?_) (fun h => ?_)
 refine aZ hn 1 [4] ?_
 refine aD (ay ?_)
 obtain rfl:=zi h
 exact aJ hio rfl (.tmp _ _ .nil) rfl rfl
 refine aE ?_
 refine ak (aj ?_)
 refine aZ hn 1 [0,1,5] ?_
 refine bp h (fun (s13:Int)=>[(0,.fl .shr 3 (flatten (map T_Path.enc a))),(1,.fl .shr 3 (flatten (map T_Path.enc b))),(5,vi s13)]) (fun (():Unit)=>[]) ?_ ?_
 rintro ⟨⟩ h
 refine ak ?_
 refine aZ hn 1 [4] ?_
 refine aD ?_
 obtain rfl:=zi h
 exact aJ hio rfl (.tmp _ _ .nil) rfl rfl
 rintro u16 hl17 hr18 s13 rr21 h ho19
 refine aj ?_
 refine aZ hn 4 [0,1,5,14] ?_
 refine zc h rfl (fun h => ?_) (fun h => ?_)
 refine aE ?_
 refine ak (aj ?_)
 refine aU (aj ?_)
 obtain ⟨v3,hv3,v4,hv4,v5,hv5,v6,hv6,h⟩:=pI h
 obtain ⟨v7,hv7,h⟩:=zn h
 refine wb [[0],[5]] ?_
 refine wN [17,18] ?_
 refine wo [] ⟨lj hv3⟩ ?_
 refine wN [19,17] ?_
 refine wS (.agg [vb v4.GT,vs v4.GR,vs v4.GJ]) [[1],[5]] ⟨gn _ _ _ _ _ _ _ underlying24 rfl xv rfl rfl (kb T_Path.len hv4) rfl (by decide)⟩ ?_
 refine wN [21,22] ?_
 refine wo [] ⟨lj hv5⟩ ?_
 refine wN [23,21] ?_
 refine wS (.agg [vb v6.GT,vs v6.GR,vs v6.GJ]) [] ⟨gn _ _ _ _ _ _ _ underlying24 rfl xv rfl rfl (kb T_Path.len hv6) rfl (by decide)⟩ ?_
 refine wN [20,24] ?_
 refine wo [[25]] ⟨lk call51 (cU _ _ _ hv7)⟩ ?_
 refine ue hn [0,1,5,26] ?_
 refine zc h rfl (fun h => ?_) (fun h => ?_)
 refine aZ hn 1 [4] ?_
 refine aD (aV (ay (ay (aV (ay ?_)))))
 have h:=hr18 _ (ho19 _ (zi h).symm).symm
 obtain rfl:=zi h
 exact aJ hio rfl (.tmp _ _ .nil) rfl rfl
 refine aE (aT (ak ?_))
 obtain ⟨v9,hv9,h⟩:=zn h
 refine yx hn 1 ?_
 refine ys 0 ⟨lb hv9⟩ ?_
 refine yw [5] 1 ?_
 refine ye [0,1,5] ?_
 exact bH _ (zi h).symm rfl
 refine bF (aH (aH (bG ?_)))
 refine aB [] (by kernel_rfl) (es':=[]) rfl ?_
 exact hl17 _ (ho19 _ (zi h).symm).symm
theorem co (a:(List Int)) (b:(List Int)) (r:Bool) (h:Sh.cB a b=some r):cg Tryz.prog 29 [.fl .shr 1 (map (int .u8) a),.fl .shr 1 (map (int .u8) b)] (.v (.bool r)):=by
 unfold Sh.cB at h
 refine yO 26 func29 fun g0 hn hio => ?_
 refine aZ hn 1 [0,1] ?_
 refine aj ?_
 refine aZ hn 5 [0,1,10] ?_
 refine zc h rfl (fun h => ?_) (fun h => ?_)
 refine aZ hn 1 [4] ?_
 refine aD (ay ?_)
 obtain rfl:=zi h
 exact aJ hio rfl (.tmp _ _ .nil) rfl rfl
 refine aE ?_
 refine ak (aj ?_)
 refine aZ hn 1 [0,1,5] ?_
 refine bp h (fun (s12:Int)=>[(0,fb a),(1,fb b),(5,vi s12)]) (fun (():Unit)=>[]) ?_ ?_
 rintro ⟨⟩ h
 refine ak ?_
 refine aZ hn 1 [4] ?_
 refine aD ?_
 obtain rfl:=zi h
 exact aJ hio rfl (.tmp _ _ .nil) rfl rfl
 rintro u15 hl16 hr17 s12 rr20 h ho18
 refine aj ?_
 refine aZ hn 4 [0,1,5,14] ?_
 refine zc h rfl (fun h => ?_) (fun h => ?_)
 refine aE ?_
 refine ak (aj ?_)
 refine aU (aj ?_)
 obtain ⟨v3,hv3,v4,hv4,v5,hv5,v6,hv6,h⟩:=pI h
 refine wb [[0],[5]] ?_
 refine wN [17,18] ?_
 refine wo [] ⟨li hv3⟩ ?_
 refine wN [19,17] ?_
 refine wo [[1],[5]] ⟨ll hv4⟩ ?_
 refine wN [21,22] ?_
 refine wo [] ⟨li hv5⟩ ?_
 refine wN [23,21] ?_
 refine wo [[20,24]] ⟨ll hv6⟩ ?_
 refine ue hn [0,1,5,25] ?_
 refine zc h rfl (fun h => ?_) (fun h => ?_)
 refine aZ hn 1 [4] ?_
 refine aD (aV (ay (ay (aV (ay ?_)))))
 have h:=hr17 _ (ho18 _ (zi h).symm).symm
 obtain rfl:=zi h
 exact aJ hio rfl (.tmp _ _ .nil) rfl rfl
 refine aE (aT (ak ?_))
 obtain ⟨v8,hv8,h⟩:=zn h
 refine yx hn 1 ?_
 refine ys 0 ⟨lb hv8⟩ ?_
 refine yw [5] 1 ?_
 refine ye [0,1,5] ?_
 exact bH _ (zi h).symm rfl
 refine bF (aH (aH (bG ?_)))
 refine aB [] (by kernel_rfl) (es':=[]) rfl ?_
 exact hl16 _ (ho18 _ (zi h).symm).symm
theorem bV (a:T_Mail) (b:T_Mail) (r:Bool) (h:Sh.cQ a b=some r):cg Tryz.prog 30 [.agg [.v (.bool a.GM.GT),.v (.string a.GM.GR),.v (.string a.GM.GJ),.fl .shr 3 (flatten (map T_Path.enc a.To)),.fl .shr 1 (map (int .u8) a.GH),.v (.bool a.Ha),.v (.string a.GN),.v (.int .i64 a.At)],.agg [.v (.bool b.GM.GT),.v (.string b.GM.GR),.v (.string b.GM.GJ),.fl .shr 3 (flatten (map T_Path.enc b.To)),.fl .shr 1 (map (int .u8) b.GH),.v (.bool b.Ha),.v (.string b.GN),.v (.int .i64 b.At)]] (.v (.bool r)):=by
 unfold Sh.cQ at h
 refine yO 45 func30 fun g0 hn hio => ?_
 refine aZ hn 3 [2,3] ?_
 refine aj ?_
 refine aK h (fun (s5:Bool)=>[(4,vb s5)]) ?_ ?_
 rintro s5 h
 refine ak (aD ?_)
 obtain rfl:=zi h
 exact aJ hio rfl (.tmp _ _ .nil) rfl rfl
 intro u6 h hl7 hr8
 obtain ⟨v1,hv1,h⟩:=zn h
 refine ao h (fun hg1_5 h => ?_) (fun hg1_5 h => ?_)
 obtain ⟨v2,hv2,h⟩:=zn h
 refine ao h (fun hg1_12 h => ?_) (fun hg1_12 h => ?_)
 obtain ⟨v3,hv3,h⟩:=zn h
 refine ao h (fun hg1_19 h => ?_) (fun hg1_19 h => ?_)
 obtain ⟨v4,hv4,h⟩:=zn h
 refine ao h (fun hg1_26 h => ?_) (fun hg1_26 h => ?_)
 refine ao h (fun hg1_33 h => ?_) (fun hg1_33 h => ?_)
 refine yx hn 4 ?_
 refine ys 1 ⟨lk call51 (cU _ _ _ hv1)⟩ ?_
 refine yd hg1_5 4 ?_
 refine ys 2 ⟨lk call52 (dT _ _ _ hv2)⟩ ?_
 refine yd hg1_12 4 ?_
 refine ys 2 ⟨lk call29 (co _ _ _ hv3)⟩ ?_
 refine yd hg1_19 4 ?_
 refine yS (vb (a.Ha==b.Ha)) 2 ⟨nL _ _ _ _ underlying4 rfl rfl⟩ ?_
 refine yd hg1_26 7 ?_
 refine yd hg1_33 7 ?_
 refine ye [4] ?_
 exact hl7 _ (zi h).symm
 refine yx hn 4 ?_
 refine ys 1 ⟨lk call51 (cU _ _ _ hv1)⟩ ?_
 refine yd hg1_5 4 ?_
 refine ys 2 ⟨lk call52 (dT _ _ _ hv2)⟩ ?_
 refine yd hg1_12 4 ?_
 refine ys 2 ⟨lk call29 (co _ _ _ hv3)⟩ ?_
 refine yd hg1_19 4 ?_
 refine yS (vb (a.Ha==b.Ha)) 2 ⟨nL _ _ _ _ underlying4 rfl rfl⟩ ?_
 refine yd hg1_26 7 ?_
 refine yd hg1_33 7 ?_
 refine ye [4] ?_
 exact hl7 _ (zi h).symm
 refine yx hn 4 ?_
 refine ys 1 ⟨lk call51 (cU _ _ _ hv1)⟩ ?_
 refine yd hg1_5 4 ?_
 refine ys 2 ⟨lk call52 (dT _ _ _ hv2)⟩ ?_
 refine yd hg1_12 4 ?_
 refine ys 2 ⟨lk call29 (co _ _ _ hv3)⟩ ?_
 refine yd hg1_19 4 ?_
 refine yS (vb (a.Ha==b.Ha)) 2 ⟨nL _ _ _ _ underlying4 rfl rfl⟩ ?_
 refine yd hg1_26 14 ?_
 refine ye [4] ?_
 exact hl7 _ (zi h).symm
 refine yx hn 4 ?_
 refine ys 1 ⟨lk call51 (cU _ _ _ hv1)⟩ ?_
 refine yd hg1_5 4 ?_
 refine ys 2 ⟨lk call52 (dT _ _ _ hv2)⟩ ?_
 refine yd hg1_12 4 ?_
 refine ys 2 ⟨lk call29 (co _ _ _ hv3)⟩ ?_
 refine yd hg1_19 21 ?_
 refine ye [4] ?_
 exact hl7 _ (zi h).symm
 refine yx hn 4 ?_
 refine ys 1 ⟨lk call51 (cU _ _ _ hv1)⟩ ?_
 refine yd hg1_5 4 ?_
 refine ys 2 ⟨lk call52 (dT _ _ _ hv2)⟩ ?_
 refine yd hg1_12 28 ?_
 refine ye [4] ?_
 exact hl7 _ (zi h).symm
 refine yx hn 4 ?_
 refine ys 1 ⟨lk call51 (cU _ _ _ hv1)⟩ ?_
 refine yd hg1_5 35 ?_
 refine ye [4] ?_
 exact hl7 _ (zi h).symm
theorem bU (a:(List Int)) (b:(List Int)) (r:Bool) (h:Sh.cS a b=some r):cg Tryz.prog 28 [.fl .shr 1 (map (int .i64) a),.fl .shr 1 (map (int .i64) b)] (.v (.bool r)):=by
 unfold Sh.cS at h
 refine yO 26 func28 fun g0 hn hio => ?_
 refine aZ hn 1 [0,1] ?_
 refine aj ?_
 refine aZ hn 5 [0,1,10] ?_
 refine zc h rfl (fun h => ?_) (fun h => ?_)
 refine aZ hn 1 [4] ?_
 refine aD (ay ?_)
 obtain rfl:=zi h
 exact aJ hio rfl (.tmp _ _ .nil) rfl rfl
 refine aE ?_
 refine ak (aj ?_)
 refine aZ hn 1 [0,1,5] ?_
 refine bp h (fun (s12:Int)=>[(0,fi a),(1,fi b),(5,vi s12)]) (fun (():Unit)=>[]) ?_ ?_
 rintro ⟨⟩ h
 refine ak ?_
 refine aZ hn 1 [4] ?_
 refine aD ?_
 obtain rfl:=zi h
 exact aJ hio rfl (.tmp _ _ .nil) rfl rfl
 rintro u15 hl16 hr17 s12 rr20 h ho18
 refine aj ?_
 refine aZ hn 4 [0,1,5,14] ?_
 refine zc h rfl (fun h => ?_) (fun h => ?_)
 refine aE ?_
 refine ak (aj ?_)
 refine aU (aj ?_)
 obtain ⟨v3,hv3,v4,hv4,v5,hv5,v6,hv6,h⟩:=pI h
 refine wb [[0],[5]] ?_
 refine wN [17,18] ?_
 refine wo [] ⟨li hv3⟩ ?_
 refine wN [19,17] ?_
 refine wo [[1],[5]] ⟨ll hv4⟩ ?_
 refine wN [21,22] ?_
 refine wo [] ⟨li hv5⟩ ?_
 refine wN [23,21] ?_
 refine wo [[20,24]] ⟨ll hv6⟩ ?_
 refine ue hn [0,1,5,25] ?_
 refine zc h rfl (fun h => ?_) (fun h => ?_)
 refine aZ hn 1 [4] ?_
 refine aD (aV (ay (ay (aV (ay ?_)))))
 have h:=hr17 _ (ho18 _ (zi h).symm).symm
 obtain rfl:=zi h
 exact aJ hio rfl (.tmp _ _ .nil) rfl rfl
 refine aE (aT (ak ?_))
 obtain ⟨v8,hv8,h⟩:=zn h
 refine yx hn 1 ?_
 refine ys 0 ⟨lb hv8⟩ ?_
 refine yw [5] 1 ?_
 refine ye [0,1,5] ?_
 exact bH _ (zi h).symm rfl
 refine bF (aH (aH (bG ?_)))
 refine aB [] (by kernel_rfl) (es':=[]) rfl ?_
 exact hl16 _ (ho18 _ (zi h).symm).symm
theorem fu (a:T_Rec) (b:T_Rec) (r:Bool) (h:Sh.bZ a b=some r):cg Tryz.prog 18 [.agg [.v (.int .i64 a.GQ),.v (.bool a.GS.GM.GT),.v (.string a.GS.GM.GR),.v (.string a.GS.GM.GJ),.fl .shr 3 (flatten (map T_Path.enc a.GS.To)),.fl .shr 1 (map (int .u8) a.GS.GH),.v (.bool a.GS.Ha),.v (.string a.GS.GN),.v (.int .i64 a.GS.At),.v (.int .i64 a.Id),.fl .shr 1 (map (int .i64) a.GO),.v (.int .i64 a.GW),.v (.int .i64 a.GU),.v (.int .i64 a.GV),.fl .shr 1 (map (int .u8) a.GI)],.agg [.v (.int .i64 b.GQ),.v (.bool b.GS.GM.GT),.v (.string b.GS.GM.GR),.v (.string b.GS.GM.GJ),.fl .shr 3 (flatten (map T_Path.enc b.GS.To)),.fl .shr 1 (map (int .u8) b.GS.GH),.v (.bool b.GS.Ha),.v (.string b.GS.GN),.v (.int .i64 b.GS.At),.v (.int .i64 b.Id),.fl .shr 1 (map (int .i64) b.GO),.v (.int .i64 b.GW),.v (.int .i64 b.GU),.v (.int .i64 b.GV),.fl .shr 1 (map (int .u8) b.GI)]] (.v (.bool r)):=by
 unfold Sh.bZ at h
 refine yO 59 func18 fun g0 hn hio => ?_
 refine aZ hn 3 [2,3] ?_
 refine aj ?_
 refine aK h (fun (s4:Bool)=>[(4,vb s4)]) ?_ ?_
 rintro s4 h
 refine ak (aD ?_)
 obtain rfl:=zi h
 exact aJ hio rfl (.tmp _ _ .nil) rfl rfl
 intro u5 h hl6 hr7
 refine ao h (fun hg1_5 h => ?_) (fun hg1_5 h => ?_)
 obtain ⟨v1,hv1,h⟩:=zn h
 refine ao h (fun hg1_12 h => ?_) (fun hg1_12 h => ?_)
 refine ao h (fun hg1_19 h => ?_) (fun hg1_19 h => ?_)
 obtain ⟨v2,hv2,h⟩:=zn h
 refine ao h (fun hg1_26 h => ?_) (fun hg1_26 h => ?_)
 refine ao h (fun hg1_33 h => ?_) (fun hg1_33 h => ?_)
 refine ao h (fun hg1_40 h => ?_) (fun hg1_40 h => ?_)
 refine ao h (fun hg1_47 h => ?_) (fun hg1_47 h => ?_)
 obtain ⟨v3,hv3,h⟩:=zn h
 refine yx hn 6 ?_
 refine yd hg1_5 4 ?_
 refine ys 2 ⟨lk call30 (bV _ _ _ hv1)⟩ ?_
 refine yd hg1_12 7 ?_
 refine yd hg1_19 4 ?_
 refine ys 2 ⟨lk call28 (bU _ _ _ hv2)⟩ ?_
 refine yd hg1_26 7 ?_
 refine yd hg1_33 7 ?_
 refine yd hg1_40 7 ?_
 refine yd hg1_47 4 ?_
 refine ys 2 ⟨lk call29 (co _ _ _ hv3)⟩ ?_
 refine ye [4] ?_
 exact hl6 _ (zi h).symm
 refine yx hn 6 ?_
 refine yd hg1_5 4 ?_
 refine ys 2 ⟨lk call30 (bV _ _ _ hv1)⟩ ?_
 refine yd hg1_12 7 ?_
 refine yd hg1_19 4 ?_
 refine ys 2 ⟨lk call28 (bU _ _ _ hv2)⟩ ?_
 refine yd hg1_26 7 ?_
 refine yd hg1_33 7 ?_
 refine yd hg1_40 7 ?_
 refine yd hg1_47 7 ?_
 refine ye [4] ?_
 exact hl6 _ (zi h).symm
 refine yx hn 6 ?_
 refine yd hg1_5 4 ?_
 refine ys 2 ⟨lk call30 (bV _ _ _ hv1)⟩ ?_
 refine yd hg1_12 7 ?_
 refine yd hg1_19 4 ?_
 refine ys 2 ⟨lk call28 (bU _ _ _ hv2)⟩ ?_
 refine yd hg1_26 7 ?_
 refine yd hg1_33 7 ?_
 refine yd hg1_40 14 ?_
 refine ye [4] ?_
 exact hl6 _ (zi h).symm
 refine yx hn 6 ?_
 refine yd hg1_5 4 ?_
 refine ys 2 ⟨lk call30 (bV _ _ _ hv1)⟩ ?_
 refine yd hg1_12 7 ?_
 refine yd hg1_19 4 ?_
 refine ys 2 ⟨lk call28 (bU _ _ _ hv2)⟩ ?_
 refine yd hg1_26 7 ?_
 refine yd hg1_33 21 ?_
 refine ye [4] ?_
 exact hl6 _ (zi h).symm
 refine yx hn 6 ?_
 refine yd hg1_5 4 ?_
 refine ys 2 ⟨lk call30 (bV _ _ _ hv1)⟩ ?_
 refine yd hg1_12 7 ?_
 refine yd hg1_19 4 ?_
 refine ys 2 ⟨lk call28 (bU _ _ _ hv2)⟩ ?_
 refine yd hg1_26 28 ?_
 refine ye [4] ?_
 exact hl6 _ (zi h).symm
 refine yx hn 6 ?_
 refine yd hg1_5 4 ?_
 refine ys 2 ⟨lk call30 (bV _ _ _ hv1)⟩ ?_
 refine yd hg1_12 7 ?_
 refine yd hg1_19 35 ?_
 refine ye [4] ?_
 exact hl6 _ (zi h).symm
 refine yx hn 6 ?_
 refine yd hg1_5 4 ?_
 refine ys 2 ⟨lk call30 (bV _ _ _ hv1)⟩ ?_
 refine yd hg1_12 42 ?_
 refine ye [4] ?_
 exact hl6 _ (zi h).symm
 refine yx hn 6 ?_
 refine yd hg1_5 49 ?_
 refine ye [4] ?_
 exact hl6 _ (zi h).symm
end Go.Proofs.YtjdmcbkkacnmdaaGreatDoor
