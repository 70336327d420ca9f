import Derived.Test.YtkgfjkfccpjcgaaDoorOkc5
set_option linter.unusedVariables false
set_option linter.unusedSimpArgs false
set_option maxHeartbeats 1000000
namespace Go.Proofs.YtkgfjkfccpjcgaaDoor
open Go.Abs Go.Abs.Sh Tryd
open List (map flatten)
open Value (int)
theorem nA (l:(List Int)) (r:((List Int)×(List Int))) (h:Sh.ez l=some r):bZ Tryd.prog 25 [.fl .shr 1 (map (int .i64) l)] (.tup [.fl (.own 3) 1 (map (int .i64) r.1),.fl (.own 3) 1 (map (int .i64) r.2)]):=by
 unfold Sh.ez at h
 refine yO 122 func25 fun g0 hn hio => ?_
 refine aX hn 2 [0] ?_
 refine aX hn 2 [0,4,5] ?_
 refine aa ?_
 refine aX hn 1 [0,4,5,6] ?_
 refine iS (fs:=[(0,fi l),(4,.fl (.own 3) 1 (map (int .i64) [])),(5,.fl (.own 3) 1 (map (int .i64) [])),(6,vi 0)]) (.same _ (.sub _ (bV 3 1) rfl (.sub _ (bV 3 1) rfl (.same _ .nil)))) ?_
 refine aH h (fun ((s170,s171,s172):(List Int)×(List Int)×Int)=>[(0,fi l),(4,.fl (.own 3) 1 (map (int .i64) s170)),(5,.fl (.own 3) 1 (map (int .i64) s171)),(6,vi s172)]) (fun ((s239,s240):(List Int)×(List Int))=>[(4,.fl (.own 3) 1 (map (int .i64) s239)),(5,.fl (.own 3) 1 (map (int .i64) s240))]) ?_ ?_
 rintro ⟨s239,s240⟩ h
 refine ae ?_
 refine gG hn 0 ?_
 refine ym 0 ?_
 refine ym 0 ?_
 refine ya 0 ?_
 refine ya 0 ?_
 refine bi [2,3] ?_
 refine au ?_
 obtain rfl:=zi h
 exact ay hio rfl (.tmp _ _ (.tmp _ _ .nil)) rfl rfl
 rintro u241 hl242 hr243 ⟨s170,s171,s172⟩ rr246 h ho244
 refine aa ?_
 refine aX hn 4 [0,4,5,6,11] ?_
 refine zc h rfl (fun h => ?_) (fun h => ?_)
 refine ak (ae (aC ?_))
 refine aX hn 1 [0,4,5,6,7] ?_
 refine aa ?_
 refine aH h (fun (s259:Int)=>[(0,fi l),(4,.fl (.own 3) 1 (map (int .i64) s170)),(5,.fl (.own 3) 1 (map (int .i64) s171)),(6,vi s172),(7,vi s259)]) (fun (s265:Int)=>[(0,fi l),(4,.fl (.own 3) 1 (map (int .i64) s170)),(5,.fl (.own 3) 1 (map (int .i64) s171)),(6,vi s172),(7,vi s265)]) ?_ ?_
 rintro s265 h
 refine ae (aa ?_)
 refine aL h (fun ((s292,s293,s294):Int×(List Int)×(List Int))=>[(0,fi l),(6,vi s172),(7,vi s292),(4,.fl (.own 3) 1 (map (int .i64) s293)),(5,.fl (.own 3) 1 (map (int .i64) s294))]) ?_ ?_
 rintro ⟨s292,s293,s294⟩ h
 refine ae ?_
 obtain ⟨v100,hv100,h⟩:=zn h
 refine yx hn 2 ?_
 refine ys 0 ⟨lb hv100⟩ ?_
 refine yw [6] 1 ?_
 refine ye [0,4,5,6] ?_
 refine aM ?_
 exact aS _ (zi h).symm rfl
 intro u295 h hl296 hr297
 refine aC (aa ?_)
 refine aL h (fun (s298:Bool)=>[(0,fi l),(4,.fl (.own 3) 1 (map (int .i64) s170)),(5,.fl (.own 3) 1 (map (int .i64) s171)),(6,vi s172),(7,vi s265),(43,vb s298)]) ?_ ?_
 rintro s298 h
 refine ae ?_
 refine zc h rfl (fun h => ?_) (fun h => ?_)
 refine aa ?_
 obtain ⟨v45,hv45,h⟩:=zn h
 refine yx hn 1 ?_
 refine yS (vi v45) 0 ⟨(Option.some.inj hv45) ▸ pj _ _ _ _ rfl rfl⟩ ?_
 refine yw [7] 1 ?_
 refine bi [0,4,5,6,7] ?_
 obtain ⟨v46,hv46,v47,hv47,v48,hv48,h⟩:=kg h
 refine yx hn 0 ?_
 refine ym 0 ?_
 refine yS (.fl (.own 3) 1 (map (int .i64) [18])) 0 ⟨aF _ _ 1 (.int .i64 0) (map (int .i64) [18]) [(0,.int .i64 18)] underlying37 fN kf (fun _ V w o a hv hes=>by simp only [List.map_toArray,List.map_cons,List.map_nil]; try rfl) (bC (by simp [Instr.fill,Value.cells]; rfl) (by simp [List.range,List.range.loop] <;> rfl)) (by simp [Value.oneCell']) rfl (by decide) (by decide) (by decide)⟩ ?_
 refine yp fg hv46 0 ?_
 refine ym 1 ?_
 refine ys 0 ⟨lb hv47⟩ ?_
 refine yS (.fl (.own 3) 1 (map (int .i64) [v47])) 0 ⟨aF _ _ 1 (.int .i64 0) (map (int .i64) [v47]) [(0,.int .i64 v47)] underlying37 fN kf (fun _ V w o a hv hes=>by have e0:=cX hv hes (x := .tmp 60) rfl; simp only [List.map_toArray,List.map_cons,List.map_nil,e0]; try rfl) (bC (by simp [Instr.fill,Value.cells]; rfl) (by simp [List.range,List.range.loop] <;> rfl)) (by simp [Value.oneCell']) rfl (by decide) (by decide) (by decide)⟩ ?_
 refine yp fg hv48 0 ?_
 refine ya 0 ?_
 refine ya 0 ?_
 refine ye [0,6,7,4,5] ?_
 refine aM ?_
 exact hl296 _ (zi h).symm
 refine aa ?_
 refine aL h (fun (s303:Bool)=>[(0,fi l),(4,.fl (.own 3) 1 (map (int .i64) s170)),(5,.fl (.own 3) 1 (map (int .i64) s171)),(6,vi s172),(7,vi s265),(63,vb s303)]) ?_ ?_
 rintro s303 h
 refine ae ?_
 refine zc h rfl (fun h => ?_) (fun h => ?_)
 obtain ⟨v56,hv56,v57,hv57,v58,hv58,h⟩:=kg h
 refine yx hn 0 ?_
 refine ym 0 ?_
 refine yS (.fl (.own 3) 1 (map (int .i64) [17])) 0 ⟨aF _ _ 1 (.int .i64 0) (map (int .i64) [17]) [(0,.int .i64 17)] underlying37 fN kf (fun _ V w o a hv hes=>by simp only [List.map_toArray,List.map_cons,List.map_nil]; try rfl) (bC (by simp [Instr.fill,Value.cells]; rfl) (by simp [List.range,List.range.loop] <;> rfl)) (by simp [Value.oneCell']) rfl (by decide) (by decide) (by decide)⟩ ?_
 refine yp fg hv56 0 ?_
 refine ym 1 ?_
 refine ys 0 ⟨lb hv57⟩ ?_
 refine yS (.fl (.own 3) 1 (map (int .i64) [v57])) 0 ⟨aF _ _ 1 (.int .i64 0) (map (int .i64) [v57]) [(0,.int .i64 v57)] underlying37 fN kf (fun _ V w o a hv hes=>by have e0:=cX hv hes (x := .tmp 78) rfl; simp only [List.map_toArray,List.map_cons,List.map_nil,e0]; try rfl) (bC (by simp [Instr.fill,Value.cells]; rfl) (by simp [List.range,List.range.loop] <;> rfl)) (by simp [Value.oneCell']) rfl (by decide) (by decide) (by decide)⟩ ?_
 refine yp fg hv58 0 ?_
 refine ya 0 ?_
 refine ya 0 ?_
 refine ye [0,6,7,4,5] ?_
 refine aM ?_
 exact hl296 _ (zi h).symm
 refine aa ?_
 refine aL h (fun (s308:Bool)=>[(0,fi l),(4,.fl (.own 3) 1 (map (int .i64) s170)),(5,.fl (.own 3) 1 (map (int .i64) s171)),(6,vi s172),(7,vi s265),(81,vb s308)]) ?_ ?_
 rintro s308 h
 refine ae ?_
 refine zc h rfl (fun h => ?_) (fun h => ?_)
 refine aa ?_
 obtain ⟨v71,hv71,h⟩:=zn h
 refine yx hn 1 ?_
 refine yS (vi v71) 0 ⟨(Option.some.inj hv71) ▸ pj _ _ _ _ rfl rfl⟩ ?_
 refine yw [7] 1 ?_
 refine bi [0,4,5,6,7] ?_
 obtain ⟨v72,hv72,v73,hv73,v74,hv74,h⟩:=kg h
 refine yx hn 0 ?_
 refine ym 0 ?_
 refine yS (.fl (.own 3) 1 (map (int .i64) [16])) 0 ⟨aF _ _ 1 (.int .i64 0) (map (int .i64) [16]) [(0,.int .i64 16)] underlying37 fN kf (fun _ V w o a hv hes=>by simp only [List.map_toArray,List.map_cons,List.map_nil]; try rfl) (bC (by simp [Instr.fill,Value.cells]; rfl) (by simp [List.range,List.range.loop] <;> rfl)) (by simp [Value.oneCell']) rfl (by decide) (by decide) (by decide)⟩ ?_
 refine yp fg hv72 0 ?_
 refine ym 1 ?_
 refine ys 0 ⟨lb hv73⟩ ?_
 refine yS (.fl (.own 3) 1 (map (int .i64) [v73])) 0 ⟨aF _ _ 1 (.int .i64 0) (map (int .i64) [v73]) [(0,.int .i64 v73)] underlying37 fN kf (fun _ V w o a hv hes=>by have e0:=cX hv hes (x := .tmp 114) rfl; simp only [List.map_toArray,List.map_cons,List.map_nil,e0]; try rfl) (bC (by simp [Instr.fill,Value.cells]; rfl) (by simp [List.range,List.range.loop] <;> rfl)) (by simp [Value.oneCell']) rfl (by decide) (by decide) (by decide)⟩ ?_
 refine yp fg hv74 0 ?_
 refine ya 0 ?_
 refine ya 0 ?_
 refine ye [0,6,7,4,5] ?_
 refine aM ?_
 exact hl296 _ (zi h).symm
 refine gG hn 0 ?_
 refine yw [7] 1 ?_
 refine bi [0,4,5,6,7] ?_
 obtain ⟨v75,hv75,v76,hv76,v77,hv77,v78,hv78,h⟩:=gZ h
 refine yx hn 0 ?_
 refine ym 2 ?_
 refine ys 0 ⟨li hv75⟩ ?_
 refine ys 0 ⟨ll hv76⟩ ?_
 refine yS (.fl (.own 3) 1 (map (int .i64) [v76])) 0 ⟨aF _ _ 1 (.int .i64 0) (map (int .i64) [v76]) [(0,.int .i64 v76)] underlying37 fN kf (fun _ V w o a hv hes=>by have e0:=cX hv hes (x := .tmp 37) rfl; simp only [List.map_toArray,List.map_cons,List.map_nil,e0]; try rfl) (bC (by simp [Instr.fill,Value.cells]; rfl) (by simp [List.range,List.range.loop] <;> rfl)) (by simp [Value.oneCell']) rfl (by decide) (by decide) (by decide)⟩ ?_
 refine yp fg hv77 0 ?_
 refine ym 0 ?_
 refine yS (.fl (.own 3) 1 (map (int .i64) [0])) 0 ⟨aF _ _ 1 (.int .i64 0) (map (int .i64) [0]) [(0,.int .i64 0)] underlying37 fN kf (fun _ V w o a hv hes=>by simp only [List.map_toArray,List.map_cons,List.map_nil]; try rfl) (bC (by simp [Instr.fill,Value.cells]; rfl) (by simp [List.range,List.range.loop] <;> rfl)) (by simp [Value.oneCell']) rfl (by decide) (by decide) (by decide)⟩ ?_
 refine yp fg hv78 0 ?_
 refine ya 0 ?_
 refine ya 0 ?_
 refine ye [0,6,7,4,5] ?_
 refine aM ?_
 exact hl296 _ (zi h).symm
 intro u309 h hl310 hr311
 obtain ⟨v59,hv59,v60,hv60,h⟩:=eY h
 refine aE h (fun hg14_5 h => ?_) (fun hg14_5 h => ?_)
 refine aE h (fun hg14_9 h => ?_) (fun hg14_9 h => ?_)
 obtain ⟨v61,hv61,v62,hv62,v63,hv63,v64,hv64,h⟩:=gZ h
 obtain ⟨v65,hv65,h⟩:=zn h
 refine aE h (fun hg14_21 h => ?_) (fun hg14_21 h => ?_)
 refine wb [[0],[6]] ?_
 refine wN [82,83] ?_
 refine wo [] ⟨li hv59⟩ ?_
 refine wN [84,82] ?_
 refine wo [[85],[86]] ⟨ll hv60⟩ ?_
 refine wd hg14_5 [[87,6],[87,88],[87,89],[90]] ?_
 refine wd hg14_9 [[91,0],[91,6]] ?_
 refine wN [91,93] ?_
 refine wo [] ⟨lb hv61⟩ ?_
 refine wN [91,92,94] ?_
 refine wo [] ⟨li hv62⟩ ?_
 refine wN [91,95,92] ?_
 refine wo [[91,0],[91,6]] ⟨ll hv63⟩ ?_
 refine wN [91,97,98] ?_
 refine wo [] ⟨li hv64⟩ ?_
 refine wN [91,99,97] ?_
 refine wo [[91,96,100],[91,101],[102]] ⟨ll hv65⟩ ?_
 refine wd hg14_21 [[103,7],[103,104],[103,105],[106]] ?_
 refine we hn [0,4,5,6,7,81] ?_
 exact hl310 _ (zi h).symm
 refine wb [[0],[6]] ?_
 refine wN [82,83] ?_
 refine wo [] ⟨li hv59⟩ ?_
 refine wN [84,82] ?_
 refine wo [[85],[86]] ⟨ll hv60⟩ ?_
 refine wd hg14_5 [[87,6],[87,88],[87,89],[90]] ?_
 refine wd hg14_9 [[91,0],[91,6]] ?_
 refine wN [91,93] ?_
 refine wo [] ⟨lb hv61⟩ ?_
 refine wN [91,92,94] ?_
 refine wo [] ⟨li hv62⟩ ?_
 refine wN [91,95,92] ?_
 refine wo [[91,0],[91,6]] ⟨ll hv63⟩ ?_
 refine wN [91,97,98] ?_
 refine wo [] ⟨li hv64⟩ ?_
 refine wN [91,99,97] ?_
 refine wo [[91,96,100],[91,101],[102]] ⟨ll hv65⟩ ?_
 refine wd hg14_21 [[103],[103],[103],[106]] ?_
 refine we hn [0,4,5,6,7,81] ?_
 exact hl310 _ (zi h).symm
 refine wb [[0],[6]] ?_
 refine wN [82,83] ?_
 refine wo [] ⟨li hv59⟩ ?_
 refine wN [84,82] ?_
 refine wo [[85],[86]] ⟨ll hv60⟩ ?_
 refine wd hg14_5 [[87,6],[87,88],[87,89],[90]] ?_
 refine wd hg14_9 [[91],[91],[91],[91],[91],[91],[91],[91],[91],[91],[91],[102],[103],[103],[103],[106]] ?_
 refine we hn [0,4,5,6,7,81] ?_
 exact hl310 _ (zi h).symm
 refine wb [[0],[6]] ?_
 refine wN [82,83] ?_
 refine wo [] ⟨li hv59⟩ ?_
 refine wN [84,82] ?_
 refine wo [[85],[86]] ⟨ll hv60⟩ ?_
 refine wd hg14_5 [[87],[87],[87],[90],[91],[91],[91],[91],[91],[91],[91],[91],[91],[91],[91],[102],[103],[103],[103],[106]] ?_
 refine we hn [0,4,5,6,7,81] ?_
 exact hl310 _ (zi h).symm
 intro u304 h hl305 hr306
 obtain ⟨v49,hv49,v50,hv50,h⟩:=eY h
 refine aE h (fun hg12_5 h => ?_) (fun hg12_5 h => ?_)
 refine yx hn 2 ?_
 refine ys 0 ⟨li hv49⟩ ?_
 refine ys 2 ⟨ll hv50⟩ ?_
 refine yd hg12_5 4 ?_
 refine ye [0,4,5,6,7,63] ?_
 exact hl305 _ (zi h).symm
 refine yx hn 2 ?_
 refine ys 0 ⟨li hv49⟩ ?_
 refine ys 2 ⟨ll hv50⟩ ?_
 refine yd hg12_5 4 ?_
 refine ye [0,4,5,6,7,63] ?_
 exact hl305 _ (zi h).symm
 intro u299 h hl300 hr301
 obtain ⟨v38,hv38,v39,hv39,h⟩:=eY h
 refine aE h (fun hg9_5 h => ?_) (fun hg9_5 h => ?_)
 refine yx hn 2 ?_
 refine ys 0 ⟨li hv38⟩ ?_
 refine ys 2 ⟨ll hv39⟩ ?_
 refine yd hg9_5 4 ?_
 refine ye [0,4,5,6,7,43] ?_
 exact hl300 _ (zi h).symm
 refine yx hn 2 ?_
 refine ys 0 ⟨li hv38⟩ ?_
 refine ys 2 ⟨ll hv39⟩ ?_
 refine yd hg9_5 4 ?_
 refine ye [0,4,5,6,7,43] ?_
 exact hl300 _ (zi h).symm
 rintro u266 hl267 hr268 s259 rr271 h ho269
 refine aa (aa ?_)
 refine aL h (fun (s272:Bool)=>[(0,fi l),(4,.fl (.own 3) 1 (map (int .i64) s170)),(5,.fl (.own 3) 1 (map (int .i64) s171)),(6,vi s172),(7,vi s259),(30,vb s272)]) ?_ ?_
 rintro s272 h
 refine ae ?_
 refine zc h rfl (fun h => ?_) (fun h => ?_)
 refine ak (ae (aC ?_))
 obtain ⟨v13,hv13,h⟩:=zn h
 refine yx hn 1 ?_
 refine ys 0 ⟨lb hv13⟩ ?_
 refine yw [7] 1 ?_
 refine ye [0,4,5,6,7] ?_
 refine aM ?_
 exact aS _ (zi h).symm rfl
 refine aO (ag (ag (aP ?_)))
 refine ar [0,1,2,3,4] (by kernel_rfl) (es':=[(_,_),(_,_),(_,_),(_,_),(_,_)]) rfl ?_
 exact hl267 _ (ho269 _ (zi h).symm).symm
 intro u273 h hl274 hr275
 obtain ⟨v2,hv2,h⟩:=zn h
 refine aE h (fun hg5_6 h => ?_) (fun hg5_6 h => ?_)
 obtain ⟨v3,hv3,v4,hv4,v5,hv5,v6,hv6,h⟩:=gZ h
 obtain ⟨v7,hv7,h⟩:=zn h
 refine wb [[6],[7]] ?_
 refine wN [12,13] ?_
 refine wo [[0],[15],[14,16],[17]] ⟨lb hv2⟩ ?_
 refine wd hg5_6 [[18,0],[18,6],[18,7]] ?_
 refine wN [18,20,21] ?_
 refine wo [] ⟨lb hv3⟩ ?_
 refine wN [18,19,22] ?_
 refine wo [] ⟨li hv4⟩ ?_
 refine wN [18,23,19] ?_
 refine wo [[18,0],[18,6]] ⟨ll hv5⟩ ?_
 refine wN [18,25,26] ?_
 refine wo [] ⟨li hv6⟩ ?_
 refine wN [18,27,25] ?_
 refine wo [[18,24,28],[18,29]] ⟨ll hv7⟩ ?_
 refine we hn [0,4,5,6,7,30] ?_
 exact hl274 _ (zi h).symm
 refine wb [[6],[7]] ?_
 refine wN [12,13] ?_
 refine wo [[0],[15],[14,16],[17]] ⟨lb hv2⟩ ?_
 refine wd hg5_6 [[18],[18],[18],[18],[18],[18],[18],[18],[18],[18],[18],[18]] ?_
 refine we hn [0,4,5,6,7,30] ?_
 exact hl274 _ (zi h).symm
 refine aO (ag (ag (aP ?_)))
 refine ar [1,2] (by kernel_rfl) (es':=[(_,_),(_,_)]) rfl ?_
 exact hl242 _ (ho244 _ (zi h).symm).symm
theorem mq (r:(List Int)) (h:Sh.ft  = some r):bZ Tryd.prog 70 [] (.fl (.own 3) 1 (map (int .i64) r)):=by
 unfold Sh.ft at h
 refine yO 2 func70 fun g0 hn hio => ?_
 refine aX hn 1 [] ?_
 refine gG hn 0 ?_
 refine yS (.fl (.own 3) 1 (map (int .i64) [16,17,18,0,8,7,9,6,10,5,11,4,12,3,13,2,14,1,15])) 0 ⟨aF _ _ 1 (.int .i64 0) (map (int .i64) [16,17,18,0,8,7,9,6,10,5,11,4,12,3,13,2,14,1,15]) [(0,.int .i64 16),(1,.int .i64 17),(2,.int .i64 18),(3,.int .i64 0),(4,.int .i64 8),(5,.int .i64 7),(6,.int .i64 9),(7,.int .i64 6),(8,.int .i64 10),(9,.int .i64 5),(10,.int .i64 11),(11,.int .i64 4),(12,.int .i64 12),(13,.int .i64 3),(14,.int .i64 13),(15,.int .i64 2),(16,.int .i64 14),(17,.int .i64 1),(18,.int .i64 15)] underlying37 fN kf (fun _ V w o a hv hes=>by simp only [List.map_toArray,List.map_cons,List.map_nil]; try rfl) (bC (by simp [Instr.fill,Value.cells]; rfl) (by simp [List.range,List.range.loop] <;> rfl)) (by simp [Value.oneCell']) rfl (by decide) (by decide) (by decide)⟩ ?_
 refine ya 0 ?_
 refine bi [0] ?_
 refine au ?_
 obtain rfl:=zi h
 exact ay hio rfl (.tmp _ _ .nil) rfl rfl
theorem lQ (sym:Int) (r:Int) (h:Sh.eE sym=some r):bZ Tryd.prog 73 [.v (.int .i64 sym)] (.v (.int .i64 r)):=by
 unfold Sh.eE at h
 refine yO 10 func73 fun g0 hn hio => ?_
 refine aX hn 1 [0] ?_
 refine aa ?_
 refine aX hn 1 [3] ?_
 refine aC ?_
 refine aX hn 2 [3,4] ?_
 refine zc h rfl (fun h => ?_) (fun h => ?_)
 refine aX hn 1 [2] ?_
 refine au (bI (ap ?_))
 obtain rfl:=zi h
 exact ay hio rfl (.tmp _ _ .nil) rfl rfl
 refine aX hn 2 [3,6] ?_
 refine zc h rfl (fun h => ?_) (fun h => ?_)
 refine aX hn 1 [2] ?_
 refine au (bI (ap ?_))
 obtain rfl:=zi h
 exact ay hio rfl (.tmp _ _ .nil) rfl rfl
 refine aX hn 2 [8] ?_
 refine zc h rfl (fun h => ?_) (fun h => ?_)
 refine aX hn 1 [2] ?_
 refine au (bI (ap ?_))
 obtain rfl:=zi h
 exact ay hio rfl (.tmp _ _ .nil) rfl rfl
 refine ak (aM (ae ?_))
 refine aX hn 1 [2] ?_
 refine au ?_
 obtain rfl:=zi h
 exact ay hio rfl (.tmp _ _ .nil) rfl rfl
theorem gT (b:(List Int)) (r:aN) (h:Sh.df b=some r):bZ Tryd.prog 39 [.fl .shr 1 (map (int .u8) b)] (.agg [.fl (.own 5) 1 (map (int .u8) r.B),.v (.int .i64 r.N)]):=by
 unfold Sh.df at h
 refine yO 152 func39 fun g0 hn hio => ?_
 refine gG hn 0 ?_
 refine yS (.box 63 [vz,vi 0]) 0 ⟨oA (cG _ _ ox)⟩ ?_
 refine bi [0,2] ?_
 refine aa ?_
 obtain ⟨v1,hv1,h⟩:=zn h
 refine yx hn 1 ?_
 refine ys 0 ⟨lk call46 (ik _ _ hv1)⟩ ?_
 refine ya 0 ?_
 refine bi [2,3] ?_
 refine aa ?_
 obtain ⟨v2,hv2,h⟩:=zn h
 refine yx hn 1 ?_
 refine ys 0 ⟨lk call48 (kV _ _ hv2)⟩ ?_
 refine ym 0 ?_
 refine nX 0 ?_
 refine nX 0 ?_
 refine ya 0 ?_
 refine ya 0 ?_
 refine bi [2,3,4,5] ?_
 refine aa ?_
 obtain ⟨v3,hv3,h⟩:=zn h
 refine yx hn 0 ?_
 refine ym 0 ?_
 refine ys 0 ⟨lk call68 (eW _ _ _ hv3)⟩ ?_
 refine ym 0 ?_
 refine nX 1 ?_
 refine ya 1 ?_
 refine bi [2,3,5,6] ?_
 refine aa ?_
 obtain ⟨v4,hv4,h⟩:=zn h
 refine yx hn 0 ?_
 refine ym 0 ?_
 refine ys 0 ⟨lk call68 (eW _ _ _ hv4)⟩ ?_
 refine ym 0 ?_
 refine nX 1 ?_
 refine ya 1 ?_
 refine bi [2,3,6,8] ?_
 refine aa ?_
 refine mi 2 hio (es':=[(2,.box 63 [vz,.v (.int .i64 0)]),(3,.fl (.own 53) 3 (flatten (map al.enc v1))),(6,.fl .ro 1 (map (int .i64) v3.1)),(8,.fl (.own 3) 1 (map (int .i64) v4.1))]) rfl ?_
 refine mi 3 hio (es':=[(2,.box 63 [vz,.v (.int .i64 0)]),(3,.fl (.own 53) 3 (flatten (map al.enc v1))),(6,.fl .ro 1 (map (int .i64) v3.1)),(8,.fl .ro 1 (map (int .i64) v4.1))]) rfl ?_
 obtain ⟨v5,hv5,v6,hv6,h⟩:=eY h
 refine yx hn 1 ?_
 refine ys 1 ⟨lr call69 (fp _ _ _ hv5)⟩ ?_
 refine ys 2 ⟨lr call69 (fp _ _ _ hv6)⟩ ?_
 refine bi [2,3,6,8,10,11] ?_
 refine aa ?_
 obtain ⟨v7,hv7,v8,hv8,v9,hv9,h⟩:=kg h
 refine yx hn 1 ?_
 refine ys 1 ⟨lk call23 (gK _ _ hv7)⟩ ?_
 refine yp fg hv8 0 ?_
 refine ys 0 ⟨lk call25 (nA _ _ hv9)⟩ ?_
 refine ym 0 ?_
 refine nX 0 ?_
 refine nX 0 ?_
 refine ya 0 ?_
 refine ya 0 ?_
 refine bi [2,3,6,8,10,11,12,13] ?_
 refine aa ?_
 obtain ⟨v10,hv10,h⟩:=zn h
 refine yx hn 0 ?_
 refine yS (.fl (.own 3) 1 (map (int .i64) v10)) 0 ⟨kY (f:=int .i64) _ _ _ _ fg (by decide) kf rfl rfl rfl hv10⟩ ?_
 refine ya 0 ?_
 refine bi [2,3,6,8,10,11,12,13,14] ?_
 refine aa ?_
 refine aX hn 1 [2,3,6,8,10,11,12,13,14,15] ?_
 refine aH h (fun ((s23,s24):(List Int)×Int)=>[(2,.box 63 [vz,vi 0]),(3,.fl (.own 53) 3 (flatten (map al.enc v1))),(6,.fl .ro 1 (map (int .i64) v3.1)),(8,.fl .ro 1 (map (int .i64) v4.1)),(10,.fl .ro 1 (map (int .i64) v5)),(11,.fl .ro 1 (map (int .i64) v6)),(12,.fl (.own 3) 1 (map (int .i64) v9.1)),(13,.fl (.own 3) 1 (map (int .i64) v9.2)),(14,.fl (.own 3) 1 (map (int .i64) s23)),(15,vi s24)]) (fun (s26:(List Int))=>[(2,.box 63 [vz,vi 0]),(3,.fl (.own 53) 3 (flatten (map al.enc v1))),(6,.fl .ro 1 (map (int .i64) v3.1)),(8,.fl .ro 1 (map (int .i64) v4.1)),(10,.fl .ro 1 (map (int .i64) v5)),(11,.fl .ro 1 (map (int .i64) v6)),(12,.fl (.own 3) 1 (map (int .i64) v9.1)),(13,.fl (.own 3) 1 (map (int .i64) v9.2)),(14,.fl (.own 3) 1 (map (int .i64) s26))]) ?_ ?_
 rintro s26 h
 refine ae (aa ?_)
 obtain ⟨v34,hv34,h⟩:=zn h
 refine yx hn 0 ?_
 refine ym 0 ?_
 refine ys 0 ⟨lk call68 (eW _ _ _ hv34)⟩ ?_
 refine ym 0 ?_
 refine nX 1 ?_
 refine ya 1 ?_
 refine bi [2,3,6,8,10,11,12,13,16] ?_
 refine aX hn 1 [2,3,6,8,10,11,12,13,16,18] ?_
 refine aa ?_
 obtain ⟨v35,hv35,h⟩:=zn h
 refine yx hn 0 ?_
 refine ys 0 ⟨lk call70 (mq _ hv35)⟩ ?_
 refine ya 0 ?_
 refine bi [2,3,6,8,10,11,12,13,16,18,19] ?_
 refine aa ?_
 refine aX hn 1 [2,3,6,8,10,11,12,13,16,18,19,20] ?_
 refine iS (fs:=[(2,.box 63 [vz,vi 0]),(3,.fl (.own 53) 3 (flatten (map al.enc v1))),(6,.fl .ro 1 (map (int .i64) v3.1)),(8,.fl .ro 1 (map (int .i64) v4.1)),(10,.fl .ro 1 (map (int .i64) v5)),(11,.fl .ro 1 (map (int .i64) v6)),(12,.fl (.own 3) 1 (map (int .i64) v9.1)),(13,.fl (.own 3) 1 (map (int .i64) v9.2)),(16,.fl (.own 3) 1 (map (int .i64) v34.1)),(18,.fl (.own 3) 1 (map (int .i64) [])),(19,.fl (.own 3) 1 (map (int .i64) v35)),(20,vi 0)]) (.same _ (.same _ (.same _ (.same _ (.same _ (.same _ (.same _ (.same _ (.same _ (.sub _ (bV 3 1) rfl (.same _ (.same _ .nil)))))))))))) ?_
 refine aH h (fun ((s46,s47):(List Int)×Int)=>[(2,.box 63 [vz,vi 0]),(3,.fl (.own 53) 3 (flatten (map al.enc v1))),(6,.fl .ro 1 (map (int .i64) v3.1)),(8,.fl .ro 1 (map (int .i64) v4.1)),(10,.fl .ro 1 (map (int .i64) v5)),(11,.fl .ro 1 (map (int .i64) v6)),(12,.fl (.own 3) 1 (map (int .i64) v9.1)),(13,.fl (.own 3) 1 (map (int .i64) v9.2)),(16,.fl (.own 3) 1 (map (int .i64) v34.1)),(18,.fl (.own 3) 1 (map (int .i64) s46)),(19,.fl (.own 3) 1 (map (int .i64) v35)),(20,vi s47)]) (fun (s49:(List Int))=>[(2,.box 63 [vz,vi 0]),(3,.fl (.own 53) 3 (flatten (map al.enc v1))),(6,.fl .ro 1 (map (int .i64) v3.1)),(8,.fl .ro 1 (map (int .i64) v4.1)),(10,.fl .ro 1 (map (int .i64) v5)),(11,.fl .ro 1 (map (int .i64) v6)),(12,.fl (.own 3) 1 (map (int .i64) v9.1)),(13,.fl (.own 3) 1 (map (int .i64) v9.2)),(16,.fl (.own 3) 1 (map (int .i64) v34.1)),(18,.fl (.own 3) 1 (map (int .i64) s49))]) ?_ ?_
 rintro s49 h
 refine ae (aa ?_)
 refine mi 9 hio (es':=[(2,.box 63 [vz,.v (.int .i64 0)]),(3,.fl (.own 53) 3 (flatten (map al.enc v1))),(6,.fl .ro 1 (map (int .i64) v3.1)),(8,.fl .ro 1 (map (int .i64) v4.1)),(10,.fl .ro 1 (map (int .i64) v5)),(11,.fl .ro 1 (map (int .i64) v6)),(12,.fl (.own 3) 1 (map (int .i64) v9.1)),(13,.fl (.own 3) 1 (map (int .i64) v9.2)),(16,.fl (.own 3) 1 (map (int .i64) v34.1)),(18,.fl .ro 1 (map (int .i64) s49))]) rfl ?_
 obtain ⟨v57,hv57,h⟩:=zn h
 refine yx hn 1 ?_
 refine ys 0 ⟨lr call69 (fp _ _ _ hv57)⟩ ?_
 refine yw [18] 1 ?_
 refine bi [2,3,6,8,10,11,12,13,16,18] ?_
 refine aa ?_
 obtain ⟨v58,hv58,h⟩:=zn h
 refine yx hn 0 ?_
 refine yS (.agg [vz,vi 0]) 0 ⟨ec _ _ _ _ [1,1] _ _ underlying63 ox (He _ underlying63) sr.nil rfl rfl rfl⟩ ?_
 refine yk [94] [] ?_
 refine yt (95,.agg [.fl (.own 5) 1 (map (int .u8) v58.B),vi v58.N]) 0 ⟨cv _ _ _ _ 95 66 [.tmp 94] [_,_] _ _ _ rfl call66 rfl rfl rfl ((bw (aN.mk [] 0) 5 3 _ hv58).args (bO (tT (bO (bV 5 1) (bO (ei _) (fY)))) (bO (ei _) (bO (ei _) (fY))))) (zl rfl) rfl rfl rfl rfl rfl rfl rfl rfl⟩ ?_
 refine yS (.box 63 [vz,vi 0]) 0 ⟨oA (cG _ _ ox)⟩ ?_
 refine yk [95,21] [] ?_
 refine yt (21,.box 63 [.fl (.own 5) 1 (map (int .u8) v58.B),vi v58.N]) 0 ⟨aY _ _ _ _ _ _ _ _ eJ rfl rfl rfl (zl rfl) rfl rfl⟩ ?_
 refine bi [2,3,6,8,10,11,12,13,16,18,21] ?_
 refine aa ?_
 obtain ⟨v59,hv59,v60,hv60,v61,hv61,v62,hv62,h⟩:=gZ h
 obtain ⟨v63,hv63,v64,hv64,h⟩:=eY h
 refine yx hn 0 ?_
 refine yk [21] [] ?_
 refine qk (21,.box 63 [.any,.any]) (96,.agg [.fl (.own 5) 1 (map (int .u8) v58.B),vi v58.N]) 2 ⟨eD _ _ 21 _ underlying63 rfl eJ rfl rfl (by decide) rfl⟩ ?_
 refine ys 0 ⟨lb hv59⟩ ?_
 refine yk [96] [99] ?_
 refine yt (100,.agg [.fl (.own 5) 1 (map (int .u8) v60.B),vi v60.N]) 2 ⟨cv _ _ _ _ 100 66 [.tmp 96] [.tmp 99,_] _ _ _ rfl call66 rfl rfl rfl (bw v58 v59 5 _ hv60) (zl rfl) rfl rfl rfl rfl rfl rfl rfl rfl⟩ ?_
 refine ys 0 ⟨lb hv61⟩ ?_
 refine yk [100] [103] ?_
 refine yt (104,.agg [.fl (.own 5) 1 (map (int .u8) v62.B),vi v62.N]) 2 ⟨cv _ _ _ _ 104 66 [.tmp 100] [.tmp 103,_] _ _ _ rfl call66 rfl rfl rfl (bw v60 v61 5 _ hv62) (zl rfl) rfl rfl rfl rfl rfl rfl rfl rfl⟩ ?_
 refine ys 0 ⟨lb hv63⟩ ?_
 refine yk [104] [107] ?_
 refine yt (108,.agg [.fl (.own 5) 1 (map (int .u8) v64.B),vi v64.N]) 0 ⟨cv _ _ _ _ 108 66 [.tmp 104] [.tmp 107,_] _ _ _ rfl call66 rfl rfl rfl (bw v62 v63 4 _ hv64) (zl rfl) rfl rfl rfl rfl rfl rfl rfl rfl⟩ ?_
 refine yk [108,21] [] ?_
 refine yt (21,.box 63 [.fl (.own 5) 1 (map (int .u8) v64.B),vi v64.N]) 0 ⟨aY _ _ _ _ _ _ _ _ eJ rfl rfl rfl (zl rfl) rfl rfl⟩ ?_
 refine bi [2,3,6,8,12,13,16,18,21] ?_
 refine aa ?_
 refine aX hn 1 [2,3,6,8,12,13,16,18,21,22] ?_
 refine aH h (fun ((s74,s75,s76):(List Int)×Int×Int)=>[(2,.box 63 [vz,vi 0]),(3,.fl (.own 53) 3 (flatten (map al.enc v1))),(6,.fl .ro 1 (map (int .i64) v3.1)),(8,.fl .ro 1 (map (int .i64) v4.1)),(12,.fl (.own 3) 1 (map (int .i64) v9.1)),(13,.fl (.own 3) 1 (map (int .i64) v9.2)),(16,.fl (.own 3) 1 (map (int .i64) v34.1)),(18,.fl .ro 1 (map (int .i64) v57)),(21,.box 63 [.fl (.own 5) 1 (map (int .u8) s74),vi s75]),(22,vi s76)]) (fun ((s78,s79):(List Int)×Int)=>[(2,.box 63 [vz,vi 0]),(3,.fl (.own 53) 3 (flatten (map al.enc v1))),(6,.fl .ro 1 (map (int .i64) v3.1)),(8,.fl .ro 1 (map (int .i64) v4.1)),(12,.fl (.own 3) 1 (map (int .i64) v9.1)),(13,.fl (.own 3) 1 (map (int .i64) v9.2)),(16,.fl (.own 3) 1 (map (int .i64) v34.1)),(21,.box 63 [.fl (.own 5) 1 (map (int .u8) s78),vi s79])]) ?_ ?_
 rintro ⟨s78,s79⟩ h
 refine ae (aa ?_)
 obtain ⟨v87,hv87,h⟩:=zn h
 refine yx hn 1 ?_
 refine ys 0 ⟨lk call71 (fC _ _ hv87)⟩ ?_
 refine ya 0 ?_
 refine bi [2,3,6,8,12,13,16,21,23] ?_
 refine aa ?_
 refine aX hn 1 [2,3,6,8,12,13,16,21,23,24] ?_
 refine aH h (fun ((s103,s104,s105):(List Int)×Int×Int)=>[(2,.box 63 [vz,vi 0]),(3,.fl (.own 53) 3 (flatten (map al.enc v1))),(6,.fl .ro 1 (map (int .i64) v3.1)),(8,.fl .ro 1 (map (int .i64) v4.1)),(12,.fl (.own 3) 1 (map (int .i64) v9.1)),(13,.fl (.own 3) 1 (map (int .i64) v9.2)),(16,.fl (.own 3) 1 (map (int .i64) v34.1)),(21,.box 63 [.fl (.own 5) 1 (map (int .u8) s103),vi s104]),(23,.fl (.own 3) 1 (map (int .i64) v87)),(24,vi s105)]) (fun ((s107,s108):(List Int)×Int)=>[(2,.box 63 [vz,vi 0]),(3,.fl (.own 53) 3 (flatten (map al.enc v1))),(6,.fl .ro 1 (map (int .i64) v3.1)),(8,.fl .ro 1 (map (int .i64) v4.1)),(21,.box 63 [.fl (.own 5) 1 (map (int .u8) s107),vi s108])]) ?_ ?_
 rintro ⟨s107,s108⟩ h
 refine ae (aa ?_)
 obtain ⟨v116,hv116,h⟩:=zn h
 refine yx hn 0 ?_
 refine yk [21] [] ?_
 refine yt (147,.agg [.fl (.own 5) 1 (map (int .u8) s107),vi s108]) 0 ⟨dR _ _ _ _ underlying63 rfl eJ rfl rfl⟩ ?_
 refine ym 2 ?_
 refine yk [147] [148,149,150] ?_
 refine yt (151,.agg [.fl (.own 5) 1 (map (int .u8) v116.B),vi v116.N]) 0 ⟨cv _ _ _ _ 151 67 [.tmp 147] [.tmp 148,.tmp 149,.tmp 150] _ _ _ rfl call67 rfl rfl rfl (iW (aN.mk s107 s108) v1 v3.1 v4.1 _ hv116) (zl rfl) rfl rfl rfl rfl rfl rfl rfl rfl⟩ ?_
 refine yk [151,2] [] ?_
 refine yt (2,.box 63 [.fl (.own 5) 1 (map (int .u8) v116.B),vi v116.N]) 0 ⟨aY _ _ _ _ _ _ _ _ eJ rfl rfl rfl (zl rfl) rfl rfl⟩ ?_
 refine bi [2] ?_
 refine au ?_
 obtain rfl:=zi h
 exact ay hio rfl (.cellA _ _ _ _ underlying63 rfl eJ .nil) rfl rfl
 rintro u109 hl110 hr111 ⟨s103,s104,s105⟩ rr114 h ho112
 refine aa ?_
 refine aX hn 4 [2,3,6,8,12,13,16,21,23,24,126] ?_
 refine zc h rfl (fun h => ?_) (fun h => ?_)
 refine ak ?_
 refine ae (aa ?_)
 refine aC ?_
 obtain ⟨v89,hv89,v90,hv90,v91,hv91,v92,hv92,h⟩:=gZ h
 obtain ⟨v93,hv93,v94,hv94,v95,hv95,v96,hv96,h⟩:=gZ h
 obtain ⟨v97,hv97,h⟩:=zn h
 refine wb [] ?_
 refine wK [21] [] ?_
 refine wt [(21,.box 63 [.any,.any]),(129,.agg [.fl (.own 5) 1 (map (int .u8) s103),vi s104])] [[16],[23],[12],[24]] ⟨eD _ _ 21 _ underlying63 rfl eJ rfl rfl (by decide) rfl⟩ ?_
 refine wN [132,12,133] ?_
 refine wo [] ⟨li hv89⟩ ?_
 refine wN [134,12] ?_
 refine wo [] ⟨ll hv90⟩ ?_
 refine wK [129] [130,16,131,23,135] ?_
 refine wt [(136,.agg [.fl (.own 5) 1 (map (int .u8) v91.B),vi v91.N])] [[13],[24]] ⟨cv _ _ _ _ 136 72 [.tmp 129] [.tmp 130,.tmp 131,.tmp 135] _ _ _ rfl call72 rfl rfl rfl (dM (aN.mk s103 s104) v34.1 v87 v90 _ hv91) (zl rfl) rfl rfl rfl rfl rfl rfl rfl rfl⟩ ?_
 refine wN [137,13,138] ?_
 refine wo [] ⟨li hv92⟩ ?_
 refine wN [139,13] ?_
 refine wo [[12],[24]] ⟨ll hv93⟩ ?_
 refine wN [141,12,142] ?_
 refine wo [] ⟨li hv94⟩ ?_
 refine wN [143,12] ?_
 refine wo [] ⟨ll hv95⟩ ?_
 refine wN [144] ?_
 refine wo [] ⟨lk call73 (lQ _ _ hv96)⟩ ?_
 refine wK [136] [140,145] ?_
 refine wt [(146,.agg [.fl (.own 5) 1 (map (int .u8) v97.B),vi v97.N])] [] ⟨cv _ _ _ _ 146 66 [.tmp 136] [.tmp 140,.tmp 145] _ _ _ rfl call66 rfl rfl rfl (bw v91 v93 v96 _ hv97) (zl rfl) rfl rfl rfl rfl rfl rfl rfl rfl⟩ ?_
 refine wK [146,21] [] ?_
 refine wt [(21,.box 63 [.fl (.own 5) 1 (map (int .u8) v97.B),vi v97.N])] [] ⟨aY _ _ _ _ _ _ _ _ eJ rfl rfl rfl (zl rfl) rfl rfl⟩ ?_
 refine we hn [2,3,6,8,12,13,16,21,23,24] ?_
 refine aM (ae ?_)
 obtain ⟨v98,hv98,h⟩:=zn h
 refine yx hn 1 ?_
 refine ys 0 ⟨lb hv98⟩ ?_
 refine yw [24] 1 ?_
 refine ye [2,3,6,8,12,13,16,21,23,24] ?_
 exact aS _ (zi h).symm rfl
 refine aO (ag (ag (aP ?_)))
 refine ar [0,1,2,3,7] (by kernel_rfl) (es':=[(_,_),(_,_),(_,_),(_,_),(_,_)]) rfl ?_
 exact hl110 _ (ho112 _ (zi h).symm).symm
 rintro u80 hl81 hr82 ⟨s74,s75,s76⟩ rr85 h ho83
 refine aa ?_
 refine aX hn 4 [2,3,6,8,12,13,16,18,21,22,112] ?_
 refine zc h rfl (fun h => ?_) (fun h => ?_)
 refine ak ?_
 refine ae (aa ?_)
 refine aC ?_
 obtain ⟨v66,hv66,v67,hv67,v68,hv68,h⟩:=kg h
 refine wb [] ?_
 refine wK [21] [] ?_
 refine wt [(21,.box 63 [.any,.any]),(115,.agg [.fl (.own 5) 1 (map (int .u8) s74),vi s75])] [[18],[22]] ⟨eD _ _ 21 _ underlying63 rfl eJ rfl rfl (by decide) rfl⟩ ?_
 refine wN [116,117] ?_
 refine wo [] ⟨li hv66⟩ ?_
 refine wN [118,116] ?_
 refine wo [] ⟨ll hv67⟩ ?_
 refine wK [115] [119] ?_
 refine wt [(120,.agg [.fl (.own 5) 1 (map (int .u8) v68.B),vi v68.N])] [] ⟨cv _ _ _ _ 120 66 [.tmp 115] [.tmp 119,_] _ _ _ rfl call66 rfl rfl rfl (bw (aN.mk s74 s75) v67 3 _ hv68) (zl rfl) rfl rfl rfl rfl rfl rfl rfl rfl⟩ ?_
 refine wK [120,21] [] ?_
 refine wt [(21,.box 63 [.fl (.own 5) 1 (map (int .u8) v68.B),vi v68.N])] [] ⟨aY _ _ _ _ _ _ _ _ eJ rfl rfl rfl (zl rfl) rfl rfl⟩ ?_
 refine we hn [2,3,6,8,12,13,16,18,21,22] ?_
 refine aM (ae ?_)
 obtain ⟨v69,hv69,h⟩:=zn h
 refine yx hn 1 ?_
 refine ys 0 ⟨lb hv69⟩ ?_
 refine yw [22] 1 ?_
 refine ye [2,3,6,8,12,13,16,18,21,22] ?_
 exact aS _ (zi h).symm rfl
 refine aO (ag (ag (aP ?_)))
 refine ar [0,1,2,3,4,5,6,8] (by kernel_rfl) (es':=[(_,_),(_,_),(_,_),(_,_),(_,_),(_,_),(_,_),(_,_)]) rfl ?_
 exact hl81 _ (ho83 _ (zi h).symm).symm
 rintro u50 hl51 hr52 ⟨s46,s47⟩ rr55 h ho53
 refine aa ?_
 refine aX hn 4 [2,3,6,8,10,11,12,13,16,18,19,20,79] ?_
 refine zc h rfl (fun h => ?_) (fun h => ?_)
 refine ak ?_
 refine ae (aa ?_)
 refine aC ?_
 obtain ⟨v37,hv37,v38,hv38,v39,hv39,v40,hv40,h⟩:=gZ h
 obtain ⟨v41,hv41,h⟩:=zn h
 refine yx hn 0 ?_
 refine ym 3 ?_
 refine ys 0 ⟨li hv37⟩ ?_
 refine ys 0 ⟨ll hv38⟩ ?_
 refine ys 0 ⟨li hv39⟩ ?_
 refine ys 0 ⟨ll hv40⟩ ?_
 refine yS (.fl (.own 3) 1 (map (int .i64) [v40])) 0 ⟨aF _ _ 1 (.int .i64 0) (map (int .i64) [v40]) [(0,.int .i64 v40)] underlying37 fN kf (fun _ V w o a hv hes=>by have e0:=cX hv hes (x := .tmp 89) rfl; simp only [List.map_toArray,List.map_cons,List.map_nil,e0]; try rfl) (bC (by simp [Instr.fill,Value.cells]; rfl) (by simp [List.range,List.range.loop] <;> rfl)) (by simp [Value.oneCell']) rfl (by decide) (by decide) (by decide)⟩ ?_
 refine yp fg hv41 0 ?_
 refine ya 0 ?_
 refine ye [2,3,6,8,10,11,12,13,16,19,20,18] ?_
 refine aM (ae ?_)
 obtain ⟨v42,hv42,h⟩:=zn h
 refine yx hn 1 ?_
 refine ys 0 ⟨lb hv42⟩ ?_
 refine yw [20] 1 ?_
 refine ye [2,3,6,8,10,11,12,13,16,19,18,20] ?_
 refine ar [0,1,2,3,4,5,6,7,8,10,9,11] (by kernel_rfl) (es':=[(_,_),(_,_),(_,_),(_,_),(_,_),(_,_),(_,_),(_,_),(_,_),(_,_),(_,_),(_,_)]) rfl ?_
 exact aS _ (zi h).symm rfl
 refine aO (ag (ag (aP ?_)))
 refine ar [0,1,2,3,4,5,6,7,8,9] (by kernel_rfl) (es':=[(_,_),(_,_),(_,_),(_,_),(_,_),(_,_),(_,_),(_,_),(_,_),(_,_)]) rfl ?_
 exact hl51 _ (ho53 _ (zi h).symm).symm
 rintro u27 hl28 hr29 ⟨s23,s24⟩ rr32 h ho30
 refine aa ?_
 refine aX hn 4 [2,3,6,8,10,11,12,13,14,15,58] ?_
 refine zc h rfl (fun h => ?_) (fun h => ?_)
 refine ak ?_
 refine ae (aa ?_)
 refine aC ?_
 obtain ⟨v12,hv12,v13,hv13,v14,hv14,v15,hv15,h⟩:=gZ h
 obtain ⟨v16,hv16,v17,hv17,v18,hv18,h⟩:=kg h
 refine yx hn 3 ?_
 refine ys 0 ⟨li hv12⟩ ?_
 refine ys 0 ⟨ll hv13⟩ ?_
 refine ys 0 ⟨li hv14⟩ ?_
 refine ys 0 ⟨ll hv15⟩ ?_
 refine ys 0 ⟨lb hv16⟩ ?_
 refine ys 0 ⟨li hv17⟩ ?_
 refine yk [14] [69,68] ?_
 refine yt (14,.fl (.own 3) 1 (map (int .i64) v18)) 0 ⟨bU _ _ _ _ _ _ _ _ fN rfl rfl rfl (by decide) (dO (bA hv17).2) ((map_set (f:=int .i64) _ (bA hv17).2).trans (congrArg (map _) (Option.some.inj hv18)))⟩ ?_
 refine ye [2,3,6,8,10,11,12,13,14,15] ?_
 refine aM (ae ?_)
 obtain ⟨v19,hv19,h⟩:=zn h
 refine yx hn 1 ?_
 refine ys 0 ⟨lb hv19⟩ ?_
 refine yw [15] 1 ?_
 refine ye [2,3,6,8,10,11,12,13,14,15] ?_
 exact aS _ (zi h).symm rfl
 refine aO (ag (ag (aP ?_)))
 refine ar [0,1,2,3,4,5,6,7,8] (by kernel_rfl) (es':=[(_,_),(_,_),(_,_),(_,_),(_,_),(_,_),(_,_),(_,_),(_,_)]) rfl ?_
 exact hl28 _ (ho30 _ (zi h).symm).symm
theorem bS (b:(List Int)) (kind:Int) (r:(List Int)) (h:Sh.bQ b kind=some r):bZ Tryd.prog 18 [.fl .shr 1 (map (int .u8) b),.v (.int .i64 kind)] (.fl (.own 5) 1 (map (int .u8) r)):=by
 unfold Sh.bQ at h
 refine yO 19 func18 fun g0 hn hio => ?_
 refine aX hn 1 [0,1] ?_
 refine aa ?_
 refine aX hn 1 [0,5] ?_
 refine aC ?_
 refine aX hn 2 [0,5,6] ?_
 refine zc h rfl (fun h => ?_) (fun h => ?_)
 refine aa ?_
 obtain ⟨v2,hv2,h⟩:=zn h
 refine yx hn 1 ?_
 refine ys 0 ⟨lk call37 (il _ _ hv2)⟩ ?_
 refine yk [9] [] ?_
 refine qk (9,.agg [.any,vi v2.N]) (10,.fl (.own 5) 1 (map (int .u8) v2.B)) 0 ⟨jW _ 9 10 (k:=0) _ _ underlying63 rfl underlying22 rfl rfl rfl (zl rfl) rfl rfl (by decide) rfl⟩ ?_
 refine ya 0 ?_
 refine bi [4] ?_
 refine au (bI (ap ?_))
 obtain rfl:=zi h
 exact ay hio rfl (.tmp _ _ .nil) rfl rfl
 refine aX hn 2 [0,11] ?_
 refine zc h rfl (fun h => ?_) (fun h => ?_)
 refine aa ?_
 obtain ⟨v4,hv4,h⟩:=zn h
 refine yx hn 1 ?_
 refine ys 0 ⟨lk call38 (iK _ _ hv4)⟩ ?_
 refine yk [14] [] ?_
 refine qk (14,.agg [.any,vi v4.N]) (15,.fl (.own 5) 1 (map (int .u8) v4.B)) 0 ⟨jW _ 14 15 (k:=0) _ _ underlying63 rfl underlying22 rfl rfl rfl (zl rfl) rfl rfl (by decide) rfl⟩ ?_
 refine ya 0 ?_
 refine bi [4] ?_
 refine au (bI (ap ?_))
 obtain rfl:=zi h
 exact ay hio rfl (.tmp _ _ .nil) rfl rfl
 refine ak (aM ?_)
 refine ae (aa ?_)
 obtain ⟨v5,hv5,h⟩:=zn h
 refine yx hn 1 ?_
 refine ys 0 ⟨lk call39 (gT _ _ hv5)⟩ ?_
 refine yk [17] [] ?_
 refine qk (17,.agg [.any,vi v5.N]) (18,.fl (.own 5) 1 (map (int .u8) v5.B)) 0 ⟨jW _ 17 18 (k:=0) _ _ underlying63 rfl underlying22 rfl rfl rfl (zl rfl) rfl rfl (by decide) rfl⟩ ?_
 refine ya 0 ?_
 refine bi [4] ?_
 refine au ?_
 obtain rfl:=zi h
 exact ay hio rfl (.tmp _ _ .nil) rfl rfl
theorem aW (a:(List Int)) (b:(List Int)) (r:Bool) (h:Sh.bE a b=some r):bZ Tryd.prog 17 [.fl .shr 1 (map (int .u8) a),.fl .shr 1 (map (int .u8) b)] (.v (.bool r)):=by
 unfold Sh.bE at h
 refine yO 26 func17 fun g0 hn hio => ?_
 refine aX hn 1 [0,1] ?_
 refine aa ?_
 refine aX hn 5 [0,1,10] ?_
 refine zc h rfl (fun h => ?_) (fun h => ?_)
 refine aX hn 1 [4] ?_
 refine au (ap ?_)
 obtain rfl:=zi h
 exact ay hio rfl (.tmp _ _ .nil) rfl rfl
 refine ak ?_
 refine ae (aa ?_)
 refine aX hn 1 [0,1,5] ?_
 refine aH h (fun (s12:Int)=>[(0,fb a),(1,fb b),(5,vi s12)]) (fun (():Unit)=>[]) ?_ ?_
 rintro ⟨⟩ h
 refine ae ?_
 refine aX hn 1 [4] ?_
 refine au ?_
 obtain rfl:=zi h
 exact ay hio rfl (.tmp _ _ .nil) rfl rfl
 rintro u15 hl16 hr17 s12 rr20 h ho18
 refine aa ?_
 refine aX hn 4 [0,1,5,14] ?_
 refine zc h rfl (fun h => ?_) (fun h => ?_)
 refine ak ?_
 refine ae (aa ?_)
 refine aC (aa ?_)
 obtain ⟨v3,hv3,v4,hv4,v5,hv5,v6,hv6,h⟩:=gZ h
 refine wb [[0],[5]] ?_
 refine wN [17,18] ?_
 refine wo [] ⟨li hv3⟩ ?_
 refine wN [19,17] ?_
 refine wo [[1],[5]] ⟨ll hv4⟩ ?_
 refine wN [21,22] ?_
 refine wo [] ⟨li hv5⟩ ?_
 refine wN [23,21] ?_
 refine wo [[20,24]] ⟨ll hv6⟩ ?_
 refine zP hn [0,1,5,25] ?_
 refine zc h rfl (fun h => ?_) (fun h => ?_)
 refine aX hn 1 [4] ?_
 refine au (bI (ap (ap (bI (ap ?_)))))
 have h:=hr17 _ (ho18 _ (zi h).symm).symm
 obtain rfl:=zi h
 exact ay hio rfl (.tmp _ _ .nil) rfl rfl
 refine ak (aM (ae ?_))
 obtain ⟨v8,hv8,h⟩:=zn h
 refine yx hn 1 ?_
 refine ys 0 ⟨lb hv8⟩ ?_
 refine yw [5] 1 ?_
 refine ye [0,1,5] ?_
 exact aS _ (zi h).symm rfl
 refine aO (ag (ag (aP ?_)))
 refine ar [] (by kernel_rfl) (es':=[]) rfl ?_
 exact hl16 _ (ho18 _ (zi h).symm).symm
theorem lz (b:(List Int)) (r:(List Int)) (h:Sh.ee b=some r):bZ Tryd.prog 19 [.fl .shr 1 (map (int .u8) b)] (.fl .ro 1 (map (int .u8) r)):=by
 unfold Sh.ee at h
 refine yO 26 func19 fun g0 hn hio => ?_
 refine aX hn 1 [0] ?_
 refine aa ?_
 obtain ⟨v1,hv1,h⟩:=zn h
 refine yx hn 1 ?_
 refine ys 0 ⟨lk call37 (il _ _ hv1)⟩ ?_
 refine yS (.box 63 [vz,vi 0]) 0 ⟨oA (cG _ _ ox)⟩ ?_
 refine yk [7,3] [] ?_
 refine yt (3,.box 63 [.fl (.own 5) 1 (map (int .u8) v1.B),vi v1.N]) 0 ⟨aY _ _ _ _ _ _ _ _ eJ rfl rfl rfl (zl rfl) rfl rfl⟩ ?_
 refine bi [0,3] ?_
 refine aa ?_
 refine aL h (fun ((s19,s20):(List Int)×Int)=>[(0,fb b),(3,.box 63 [.fl (.own 5) 1 (map (int .u8) s19),vi s20])]) ?_ ?_
 rintro ⟨s19,s20⟩ h
 refine ae (aa ?_)
 refine aL h (fun ((s26,s27):(List Int)×Int)=>[(3,.box 63 [.fl (.own 5) 1 (map (int .u8) s26),vi s27])]) ?_ ?_
 rintro ⟨s26,s27⟩ h
 refine ae (aa ?_)
 refine mi 0 hio (es':=[(3,.box 63 [.fl .ro 1 (map (int .u8) s26),.v (.int .i64 s27)])]) rfl ?_
 refine yy hn 3 [2] ?_
 refine ae (au ?_)
 obtain rfl:=zi h
 exact ay hio rfl (.tmp _ _ .nil) rfl rfl
 intro u28 h hl29 hr30
 refine aa ?_
 obtain ⟨v10,hv10,h⟩:=zn h
 refine yx hn 1 ?_
 refine ys 0 ⟨lk call39 (gT _ _ hv10)⟩ ?_
 refine yS (.box 63 [vz,vi 0]) 0 ⟨oA (cG _ _ ox)⟩ ?_
 refine yk [17,5] [] ?_
 refine yt (5,.box 63 [.fl (.own 5) 1 (map (int .u8) v10.B),vi v10.N]) 0 ⟨aY _ _ _ _ _ _ _ _ eJ rfl rfl rfl (zl rfl) rfl rfl⟩ ?_
 refine bi [3,5] ?_
 refine aX hn 5 [3,5,22] ?_
 refine zc h rfl (fun h => ?_) (fun h => ?_)
 refine yx hn 0 ?_
 refine yk [5] [] ?_
 refine yt (23,.agg [.fl (.own 5) 1 (map (int .u8) v10.B),vi v10.N]) 0 ⟨dR _ _ _ _ underlying63 rfl eJ rfl rfl⟩ ?_
 refine yk [23,3] [] ?_
 refine yt (3,.box 63 [.fl (.own 5) 1 (map (int .u8) v10.B),vi v10.N]) 0 ⟨aY _ _ _ _ _ _ _ _ eJ rfl rfl rfl (zl rfl) rfl rfl⟩ ?_
 refine ye [3] ?_
 exact hl29 _ (zi h).symm
 refine ak ?_
 refine ar [0] (by kernel_rfl) (es':=[(_,_)]) rfl ?_
 exact hl29 _ (zi h).symm
 intro u21 h hl22 hr23
 refine aa ?_
 obtain ⟨v2,hv2,h⟩:=zn h
 refine yx hn 1 ?_
 refine ys 0 ⟨lk call38 (iK _ _ hv2)⟩ ?_
 refine yS (.box 63 [vz,vi 0]) 0 ⟨oA (cG _ _ ox)⟩ ?_
 refine yk [9,4] [] ?_
 refine yt (4,.box 63 [.fl (.own 5) 1 (map (int .u8) v2.B),vi v2.N]) 0 ⟨aY _ _ _ _ _ _ _ _ eJ rfl rfl rfl (zl rfl) rfl rfl⟩ ?_
 refine bi [0,3,4] ?_
 refine aX hn 5 [0,3,4,14] ?_
 refine zc h rfl (fun h => ?_) (fun h => ?_)
 refine yx hn 0 ?_
 refine yk [4] [] ?_
 refine yt (15,.agg [.fl (.own 5) 1 (map (int .u8) v2.B),vi v2.N]) 0 ⟨dR _ _ _ _ underlying63 rfl eJ rfl rfl⟩ ?_
 refine yk [15,3] [] ?_
 refine yt (3,.box 63 [.fl (.own 5) 1 (map (int .u8) v2.B),vi v2.N]) 0 ⟨aY _ _ _ _ _ _ _ _ eJ rfl rfl rfl (zl rfl) rfl rfl⟩ ?_
 refine ye [0,3] ?_
 exact hl22 _ (zi h).symm
 refine ak ?_
 refine ar [0,1] (by kernel_rfl) (es':=[(_,_),(_,_)]) rfl ?_
 exact hl22 _ (zi h).symm
theorem ju (b:(List Int)) (r:Unit) (h:Sh.ey b=some r):ET Tryd.prog 20 [.fl (.own 5) 1 (map (int .u8) b)] (.tup []):=by
 unfold Sh.ey at h
 refine yE 17 func20 fun g0 hn hio => ?_
 refine aX hn 1 [0,2] ?_
 refine aH h (fun ((s11,s12):(List Int)×Int)=>[(0,.fl (.own 5) 1 (map (int .u8) s11)),(2,vi s12)]) (fun (():Unit)=>[]) ?_ ?_
 rintro ⟨⟩ h
 obtain rfl:=zi h
 exact Gb hio rfl .nil rfl rfl
 rintro u14 hl15 hr16 ⟨s11,s12⟩ rr19 h ho17
 refine aa ?_
 refine aX hn 4 [0,2,6] ?_
 refine zc h rfl (fun h => ?_) (fun h => ?_)
 refine ak ?_
 refine ae (aa ?_)
 refine aC ?_
 obtain ⟨v2,hv2,v3,hv3,v4,hv4,v5,hv5,h⟩:=gZ h
 obtain ⟨v6,hv6,h⟩:=zn h
 refine yx hn 4 ?_
 refine ys 0 ⟨li hv2⟩ ?_
 refine ys 0 ⟨ll hv3⟩ ?_
 refine ys 0 ⟨lb hv4⟩ ?_
 refine ys 0 ⟨li hv5⟩ ?_
 refine yk [0] [16,15] ?_
 refine yt (0,.fl (.own 5) 1 (map (int .u8) v6)) 0 ⟨bU _ _ _ _ _ _ _ _ xP rfl rfl rfl (by decide) (dO (bA hv5).2) ((map_set (f:=int .u8) _ (bA hv5).2).trans (congrArg (map _) (Option.some.inj hv6)))⟩ ?_
 refine ye [0,2] ?_
 refine aM (ae ?_)
 obtain ⟨v7,hv7,h⟩:=zn h
 refine yx hn 1 ?_
 refine ys 0 ⟨lb hv7⟩ ?_
 refine yw [2] 1 ?_
 refine ye [0,2] ?_
 exact aS _ (zi h).symm rfl
 refine aO (ag (ag (aP ?_)))
 refine ar [] (by kernel_rfl) (es':=[]) rfl ?_
 exact hl15 _ (ho17 _ (zi h).symm).symm
theorem gr (a:(List Int)) (b:(List Int)) (r:Bool) (h:Sh.gh a b=some r):bZ Tryd.prog 26 [.fl .shr 1 (map (int .i64) a),.fl .shr 1 (map (int .i64) b)] (.v (.bool r)):=by
 unfold Sh.gh at h
 refine yO 26 func26 fun g0 hn hio => ?_
 refine aX hn 1 [0,1] ?_
 refine aa ?_
 refine aX hn 5 [0,1,10] ?_
 refine zc h rfl (fun h => ?_) (fun h => ?_)
 refine aX hn 1 [4] ?_
 refine au (ap ?_)
 obtain rfl:=zi h
 exact ay hio rfl (.tmp _ _ .nil) rfl rfl
 refine ak ?_
 refine ae (aa ?_)
 refine aX hn 1 [0,1,5] ?_
 refine aH h (fun (s12:Int)=>[(0,fi a),(1,fi b),(5,vi s12)]) (fun (():Unit)=>[]) ?_ ?_
 rintro ⟨⟩ h
 refine ae ?_
 refine aX hn 1 [4] ?_
 refine au ?_
 obtain rfl:=zi h
 exact ay hio rfl (.tmp _ _ .nil) rfl rfl
 rintro u15 hl16 hr17 s12 rr20 h ho18
 refine aa ?_
 refine aX hn 4 [0,1,5,14] ?_
 refine zc h rfl (fun h => ?_) (fun h => ?_)
 refine ak ?_
 refine ae (aa ?_)
 refine aC (aa ?_)
 obtain ⟨v3,hv3,v4,hv4,v5,hv5,v6,hv6,h⟩:=gZ h
 refine wb [[0],[5]] ?_
 refine wN [17,18] ?_
 refine wo [] ⟨li hv3⟩ ?_
 refine wN [19,17] ?_
 refine wo [[1],[5]] ⟨ll hv4⟩ ?_
 refine wN [21,22] ?_
 refine wo [] ⟨li hv5⟩ ?_
 refine wN [23,21] ?_
 refine wo [[20,24]] ⟨ll hv6⟩ ?_
 refine zP hn [0,1,5,25] ?_
 refine zc h rfl (fun h => ?_) (fun h => ?_)
 refine aX hn 1 [4] ?_
 refine au (bI (ap (ap (bI (ap ?_)))))
 have h:=hr17 _ (ho18 _ (zi h).symm).symm
 obtain rfl:=zi h
 exact ay hio rfl (.tmp _ _ .nil) rfl rfl
 refine ak (aM (ae ?_))
 obtain ⟨v8,hv8,h⟩:=zn h
 refine yx hn 1 ?_
 refine ys 0 ⟨lb hv8⟩ ?_
 refine yw [5] 1 ?_
 refine ye [0,1,5] ?_
 exact aS _ (zi h).symm rfl
 refine aO (ag (ag (aP ?_)))
 refine ar [] (by kernel_rfl) (es':=[]) rfl ?_
 exact hl16 _ (ho18 _ (zi h).symm).symm
theorem lZ (mx:Int) (r:Bool) (h:Sh.eA  = some r):pp Tryd.prog (GL mx) 21 [] (.v (.bool r)):=by
 unfold Sh.eA at h
 refine yG 53 func21 fun g0 hn hio => ?_
 refine aX hn 1 [53] ?_
 refine aa ?_
 obtain ⟨v1,hv1,h⟩:=zn h
 refine yx hn 0 ?_
 refine yS (.tup [.fl (.own 5) 1 (map (int .u8) v1.1),vi v1.2]) 0 ⟨wQ _ _ 53 16 _ _ rfl call16 rfl rfl (fun _ h=>h) ((kz mx [] _ hv1).args (bO (vJ 1) (fY))) rfl rfl⟩ ?_
 refine ym 0 ?_
 refine nX 1 ?_
 refine ya 1 ?_
 refine bi [53,1,2] ?_
 refine aa ?_
 obtain ⟨v2,hv2,h⟩:=zn h
 refine yx hn 0 ?_
 refine yS (.fl (.own 5) 1 (map (int .u8) [7])) 0 ⟨aF _ _ 1 (.int .u8 0) (map (int .u8) [7]) [(0,.int .u8 7)] underlying22 xP ED (fun _ V w o a hv hes=>by simp only [List.map_toArray,List.map_cons,List.map_nil]; try rfl) (bC (by simp [Instr.fill,Value.cells]; rfl) (by simp [List.range,List.range.loop] <;> rfl)) (by simp [Value.oneCell']) rfl (by decide) (by decide) (by decide)⟩ ?_
 refine ys 0 ⟨lk call13 (kj _ _ hv2)⟩ ?_
 refine ym 0 ?_
 refine nX 1 ?_
 refine ya 1 ?_
 refine bi [53,1,2,3,4] ?_
 refine aa ?_
 obtain ⟨v3,hv3,h⟩:=zn h
 refine yx hn 0 ?_
 refine yS (.fl (.own 3) 1 (map (int .i64) [0,0,0,4])) 0 ⟨aF _ _ 1 (.int .i64 0) (map (int .i64) [0,0,0,4]) [(0,.int .i64 0),(1,.int .i64 0),(2,.int .i64 0),(3,.int .i64 4)] underlying37 fN kf (fun _ V w o a hv hes=>by simp only [List.map_toArray,List.map_cons,List.map_nil]; try rfl) (bC (by simp [Instr.fill,Value.cells]; rfl) (by simp [List.range,List.range.loop] <;> rfl)) (by simp [Value.oneCell']) rfl (by decide) (by decide) (by decide)⟩ ?_
 refine ys 0 ⟨lk call24 (ni _ _ hv3)⟩ ?_
 refine ym 0 ?_
 refine nX 0 ?_
 refine nX 1 ?_
 refine ya 0 ?_
 refine ya 1 ?_
 refine bi [53,1,2,3,4,5,6,7] ?_
 refine aa ?_
 refine aL h (fun (s8:Bool)=>[(53,.glob (GL mx)),(0,vb s8)]) ?_ ?_
 rintro s8 h
 refine ae (au ?_)
 refine ar [1] (by kernel_rfl) (es':=[(_,_)]) rfl ?_
 obtain rfl:=zi h
 exact ay hio rfl (.tmp _ _ .nil) rfl rfl
 intro u9 h hl10 hr11
 refine aE h (fun hg4_2 h => ?_) (fun hg4_2 h => ?_)
 refine aE h (fun hg4_6 h => ?_) (fun hg4_6 h => ?_)
 refine aE h (fun hg4_10 h => ?_) (fun hg4_10 h => ?_)
 obtain ⟨v4,hv4,h⟩:=zn h
 refine aE h (fun hg4_15 h => ?_) (fun hg4_15 h => ?_)
 obtain ⟨v5,hv5,h⟩:=zn h
 refine aE h (fun hg4_20 h => ?_) (fun hg4_20 h => ?_)
 obtain ⟨v6,hv6,h⟩:=zn h
 refine aE h (fun hg4_25 h => ?_) (fun hg4_25 h => ?_)
 obtain ⟨v7,hv7,h⟩:=zn h
 refine yx hn 3 ?_
 refine yd hg4_2 4 ?_
 refine yd hg4_6 4 ?_
 refine yd hg4_10 0 ?_
 refine ym 0 ?_
 refine yS (.fl (.own 5) 1 (map (int .u8) [3,0])) 0 ⟨aF _ _ 1 (.int .u8 0) (map (int .u8) [3,0]) [(0,.int .u8 3),(1,.int .u8 0)] underlying22 xP ED (fun _ V w o a hv hes=>by simp only [List.map_toArray,List.map_cons,List.map_nil]; try rfl) (bC (by simp [Instr.fill,Value.cells]; rfl) (by simp [List.range,List.range.loop] <;> rfl)) (by simp [Value.oneCell']) rfl (by decide) (by decide) (by decide)⟩ ?_
 refine ys 2 ⟨lk call17 (aW _ _ _ hv4)⟩ ?_
 refine yd hg4_15 0 ?_
 refine ym 0 ?_
 refine yS (.fl (.own 5) 1 (map (int .u8) [1,1,0,254,255,7])) 0 ⟨aF _ _ 1 (.int .u8 0) (map (int .u8) [1,1,0,254,255,7]) [(0,.int .u8 1),(1,.int .u8 1),(2,.int .u8 0),(3,.int .u8 254),(4,.int .u8 255),(5,.int .u8 7)] underlying22 xP ED (fun _ V w o a hv hes=>by simp only [List.map_toArray,List.map_cons,List.map_nil]; try rfl) (bC (by simp [Instr.fill,Value.cells]; rfl) (by simp [List.range,List.range.loop] <;> rfl)) (by simp [Value.oneCell']) rfl (by decide) (by decide) (by decide)⟩ ?_
 refine ys 2 ⟨lk call17 (aW _ _ _ hv5)⟩ ?_
 refine yd hg4_20 0 ?_
 refine ym 0 ?_
 refine yS (.fl (.own 3) 1 (map (int .i64) [17,4])) 0 ⟨aF _ _ 1 (.int .i64 0) (map (int .i64) [17,4]) [(0,.int .i64 17),(1,.int .i64 4)] underlying37 fN kf (fun _ V w o a hv hes=>by simp only [List.map_toArray,List.map_cons,List.map_nil]; try rfl) (bC (by simp [Instr.fill,Value.cells]; rfl) (by simp [List.range,List.range.loop] <;> rfl)) (by simp [Value.oneCell']) rfl (by decide) (by decide) (by decide)⟩ ?_
 refine ys 2 ⟨lk call26 (gr _ _ _ hv6)⟩ ?_
 refine yd hg4_25 0 ?_
 refine ym 0 ?_
 refine yS (.fl (.own 3) 1 (map (int .i64) [0,0])) 0 ⟨aF _ _ 1 (.int .i64 0) (map (int .i64) [0,0]) [(0,.int .i64 0),(1,.int .i64 0)] underlying37 fN kf (fun _ V w o a hv hes=>by simp only [List.map_toArray,List.map_cons,List.map_nil]; try rfl) (bC (by simp [Instr.fill,Value.cells]; rfl) (by simp [List.range,List.range.loop] <;> rfl)) (by simp [Value.oneCell']) rfl (by decide) (by decide) (by decide)⟩ ?_
 refine ys 2 ⟨lk call26 (gr _ _ _ hv7)⟩ ?_
 refine ye [53,0] ?_
 exact hl10 _ (zi h).symm
 refine yx hn 3 ?_
 refine yd hg4_2 4 ?_
 refine yd hg4_6 4 ?_
 refine yd hg4_10 0 ?_
 refine ym 0 ?_
 refine yS (.fl (.own 5) 1 (map (int .u8) [3,0])) 0 ⟨aF _ _ 1 (.int .u8 0) (map (int .u8) [3,0]) [(0,.int .u8 3),(1,.int .u8 0)] underlying22 xP ED (fun _ V w o a hv hes=>by simp only [List.map_toArray,List.map_cons,List.map_nil]; try rfl) (bC (by simp [Instr.fill,Value.cells]; rfl) (by simp [List.range,List.range.loop] <;> rfl)) (by simp [Value.oneCell']) rfl (by decide) (by decide) (by decide)⟩ ?_
 refine ys 2 ⟨lk call17 (aW _ _ _ hv4)⟩ ?_
 refine yd hg4_15 0 ?_
 refine ym 0 ?_
 refine yS (.fl (.own 5) 1 (map (int .u8) [1,1,0,254,255,7])) 0 ⟨aF _ _ 1 (.int .u8 0) (map (int .u8) [1,1,0,254,255,7]) [(0,.int .u8 1),(1,.int .u8 1),(2,.int .u8 0),(3,.int .u8 254),(4,.int .u8 255),(5,.int .u8 7)] underlying22 xP ED (fun _ V w o a hv hes=>by simp only [List.map_toArray,List.map_cons,List.map_nil]; try rfl) (bC (by simp [Instr.fill,Value.cells]; rfl) (by simp [List.range,List.range.loop] <;> rfl)) (by simp [Value.oneCell']) rfl (by decide) (by decide) (by decide)⟩ ?_
 refine ys 2 ⟨lk call17 (aW _ _ _ hv5)⟩ ?_
 refine yd hg4_20 0 ?_
 refine ym 0 ?_
 refine yS (.fl (.own 3) 1 (map (int .i64) [17,4])) 0 ⟨aF _ _ 1 (.int .i64 0) (map (int .i64) [17,4]) [(0,.int .i64 17),(1,.int .i64 4)] underlying37 fN kf (fun _ V w o a hv hes=>by simp only [List.map_toArray,List.map_cons,List.map_nil]; try rfl) (bC (by simp [Instr.fill,Value.cells]; rfl) (by simp [List.range,List.range.loop] <;> rfl)) (by simp [Value.oneCell']) rfl (by decide) (by decide) (by decide)⟩ ?_
 refine ys 2 ⟨lk call26 (gr _ _ _ hv6)⟩ ?_
 refine yd hg4_25 5 ?_
 refine ye [53,0] ?_
 exact hl10 _ (zi h).symm
 refine yx hn 3 ?_
 refine yd hg4_2 4 ?_
 refine yd hg4_6 4 ?_
 refine yd hg4_10 0 ?_
 refine ym 0 ?_
 refine yS (.fl (.own 5) 1 (map (int .u8) [3,0])) 0 ⟨aF _ _ 1 (.int .u8 0) (map (int .u8) [3,0]) [(0,.int .u8 3),(1,.int .u8 0)] underlying22 xP ED (fun _ V w o a hv hes=>by simp only [List.map_toArray,List.map_cons,List.map_nil]; try rfl) (bC (by simp [Instr.fill,Value.cells]; rfl) (by simp [List.range,List.range.loop] <;> rfl)) (by simp [Value.oneCell']) rfl (by decide) (by decide) (by decide)⟩ ?_
 refine ys 2 ⟨lk call17 (aW _ _ _ hv4)⟩ ?_
 refine yd hg4_15 0 ?_
 refine ym 0 ?_
 refine yS (.fl (.own 5) 1 (map (int .u8) [1,1,0,254,255,7])) 0 ⟨aF _ _ 1 (.int .u8 0) (map (int .u8) [1,1,0,254,255,7]) [(0,.int .u8 1),(1,.int .u8 1),(2,.int .u8 0),(3,.int .u8 254),(4,.int .u8 255),(5,.int .u8 7)] underlying22 xP ED (fun _ V w o a hv hes=>by simp only [List.map_toArray,List.map_cons,List.map_nil]; try rfl) (bC (by simp [Instr.fill,Value.cells]; rfl) (by simp [List.range,List.range.loop] <;> rfl)) (by simp [Value.oneCell']) rfl (by decide) (by decide) (by decide)⟩ ?_
 refine ys 2 ⟨lk call17 (aW _ _ _ hv5)⟩ ?_
 refine yd hg4_20 10 ?_
 refine ye [53,0] ?_
 exact hl10 _ (zi h).symm
 refine yx hn 3 ?_
 refine yd hg4_2 4 ?_
 refine yd hg4_6 4 ?_
 refine yd hg4_10 0 ?_
 refine ym 0 ?_
 refine yS (.fl (.own 5) 1 (map (int .u8) [3,0])) 0 ⟨aF _ _ 1 (.int .u8 0) (map (int .u8) [3,0]) [(0,.int .u8 3),(1,.int .u8 0)] underlying22 xP ED (fun _ V w o a hv hes=>by simp only [List.map_toArray,List.map_cons,List.map_nil]; try rfl) (bC (by simp [Instr.fill,Value.cells]; rfl) (by simp [List.range,List.range.loop] <;> rfl)) (by simp [Value.oneCell']) rfl (by decide) (by decide) (by decide)⟩ ?_
 refine ys 2 ⟨lk call17 (aW _ _ _ hv4)⟩ ?_
 refine yd hg4_15 15 ?_
 refine ye [53,0] ?_
 exact hl10 _ (zi h).symm
 refine yx hn 3 ?_
 refine yd hg4_2 4 ?_
 refine yd hg4_6 4 ?_
 refine yd hg4_10 20 ?_
 refine ye [53,0] ?_
 exact hl10 _ (zi h).symm
 refine yx hn 3 ?_
 refine yd hg4_2 4 ?_
 refine yd hg4_6 24 ?_
 refine ye [53,0] ?_
 exact hl10 _ (zi h).symm
 refine yx hn 3 ?_
 refine yd hg4_2 28 ?_
 refine ye [53,0] ?_
 exact hl10 _ (zi h).symm
end Go.Proofs.YtkgfjkfccpjcgaaDoor
