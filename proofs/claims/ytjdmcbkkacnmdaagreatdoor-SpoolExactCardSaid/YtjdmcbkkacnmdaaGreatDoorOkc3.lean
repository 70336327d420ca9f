import Derived.Test.YtjdmcbkkacnmdaaGreatDoorOkc2
set_option linter.unusedVariables false
set_option linter.unusedSimpArgs false
set_option maxHeartbeats 1000000
namespace Go.Proofs.YtjdmcbkkacnmdaaGreatDoor
open Go.Abs Go.Abs.Sh Tryz
open List (map flatten)
open Value (int)
theorem jL (m:T_Mail) (r:T_Mail) (h:Sh.fD m=some r):cg Tryz.prog 47 [.agg [.v (.bool m.GM.GT),.v (.string m.GM.GR),.v (.string m.GM.GJ),.fl .shr 3 (flatten (map T_Path.enc m.To)),.fl .shr 1 (map (int .u8) m.GH),.v (.bool m.Ha),.v (.string m.GN),.v (.int .i64 m.At)]] (.agg [.v (.bool r.GM.GT),.v (.string r.GM.GR),.v (.string r.GM.GJ),.fl (.own 24) 3 (flatten (map T_Path.enc r.To)),.fl (.own 5) 1 (map (int .u8) r.GH),.v (.bool r.Ha),.v (.string r.GN),.v (.int .i64 r.At)]):=by
 unfold Sh.fD at h
 refine yO 12 func47 fun g0 hn hio => ?_
 refine iJ hn 1 ?_
 refine yS (.box 28 [vb false,vs z0,vs z0,vz,vz,vb false,vs z0,vi 0]) 0 ⟨oA (bj _ _ xo)⟩ ?_
 refine cN [1,2] ?_
 refine aj ?_
 obtain ⟨v1,hv1,h⟩:=zn h
 refine yx hn 2 ?_
 refine ys 1 ⟨lk call62 (kv _ _ hv1)⟩ ?_
 refine yk [5,1] [6] ?_
 refine yt (1,.box 28 [vb m.GM.GT,vs m.GM.GR,vs m.GM.GJ,.fl (.own 24) 3 (flatten (map T_Path.enc v1)),fb m.GH,vb m.Ha,vs m.GN,vi m.At]) 0 ⟨aC _ _ _ _ _ _ _ _ DJ rfl rfl rfl (zl rfl) rfl rfl⟩ ?_
 refine cN [1,2] ?_
 refine aj ?_
 obtain ⟨v2,hv2,h⟩:=zn h
 refine yx hn 2 ?_
 refine ys 1 ⟨lk call55 (gm _ _ hv2)⟩ ?_
 refine yk [9,1] [10] ?_
 refine yt (1,.box 28 [vb m.GM.GT,vs m.GM.GR,vs m.GM.GJ,.fl (.own 24) 3 (flatten (map T_Path.enc v1)),.fl (.own 5) 1 (map (int .u8) v2),vb m.Ha,vs m.GN,vi m.At]) 0 ⟨aC _ _ _ _ _ _ _ _ tw rfl rfl rfl (zl rfl) rfl rfl⟩ ?_
 refine cN [1,2] ?_
 refine iJ hn 0 ?_
 refine yk [1] [] ?_
 refine yt (11,.agg [vb m.GM.GT,vs m.GM.GR,vs m.GM.GJ,.fl (.own 24) 3 (flatten (map T_Path.enc v1)),.fl (.own 5) 1 (map (int .u8) v2),vb m.Ha,vs m.GN,vi m.At]) 0 ⟨aW _ _ _ _ underlying28 rfl ox rfl rfl⟩ ?_
 refine yk [11,2] [] ?_
 refine yt (2,.box 28 [vb m.GM.GT,vs m.GM.GR,vs m.GM.GJ,.fl (.own 24) 3 (flatten (map T_Path.enc v1)),.fl (.own 5) 1 (map (int .u8) v2),vb m.Ha,vs m.GN,vi m.At]) 0 ⟨aC _ _ _ _ _ _ _ _ ox rfl rfl rfl (zl rfl) rfl rfl⟩ ?_
 refine cN [2] ?_
 refine aD ?_
 obtain rfl:=zi h
 exact aJ hio rfl (.cellA _ _ _ _ underlying28 rfl ox .nil) rfl rfl
theorem eQ (x:Int) (r:Bool) (h:Sh.fX x=some r):cg Tryz.prog 74 [.v (.int .i64 x)] (.v (.bool r)):=by
 unfold Sh.fX at h
 refine yO 6 func74 fun g0 hn hio => ?_
 refine aZ hn 1 [0] ?_
 refine aZ hn 4 [2] ?_
 refine aD ?_
 obtain rfl:=zi h
 exact aJ hio rfl (.tmp _ _ .nil) rfl rfl
theorem pg (x:Int) (y:Int) (r:Bool) (h:Sh.fN x y=some r):cg Tryz.prog 65 [.v (.int .i64 x),.v (.int .i64 y)] (.v (.bool r)):=by
 unfold Sh.fN at h
 refine yO 17 func65 fun g0 hn hio => ?_
 refine aZ hn 1 [0,1] ?_
 refine aj ?_
 refine aK h (fun (s3:Bool)=>[(4,vb s3)]) ?_ ?_
 rintro s3 h
 refine ak (aD ?_)
 obtain rfl:=zi h
 exact aJ hio rfl (.tmp _ _ .nil) rfl rfl
 intro u4 h hl5 hr6
 obtain ⟨v1,hv1,h⟩:=zn h
 refine ao h (fun hg1_2 h => ?_) (fun hg1_2 h => ?_)
 obtain ⟨v2,hv2,h⟩:=zn h
 refine ao h (fun hg1_7 h => ?_) (fun hg1_7 h => ?_)
 refine yx hn 1 ?_
 refine ys 1 ⟨lk call74 (eQ _ _ hv1)⟩ ?_
 refine yd hg1_2 1 ?_
 refine ys 3 ⟨lk call74 (eQ _ _ hv2)⟩ ?_
 refine yd hg1_7 5 ?_
 refine ye [4] ?_
 exact hl5 _ (zi h).symm
 refine yx hn 1 ?_
 refine ys 1 ⟨lk call74 (eQ _ _ hv1)⟩ ?_
 refine yd hg1_2 1 ?_
 refine ys 3 ⟨lk call74 (eQ _ _ hv2)⟩ ?_
 refine yd hg1_7 5 ?_
 refine ye [4] ?_
 exact hl5 _ (zi h).symm
 refine yx hn 1 ?_
 refine ys 1 ⟨lk call74 (eQ _ _ hv1)⟩ ?_
 refine yd hg1_2 10 ?_
 refine ye [4] ?_
 exact hl5 _ (zi h).symm
theorem fT (x:Int) (r:Bool) (h:Sh.eR x=some r):cg Tryz.prog 66 [.v (.int .i64 x)] (.v (.bool r)):=by
 unfold Sh.eR at h
 refine yO 6 func66 fun g0 hn hio => ?_
 refine aZ hn 1 [0] ?_
 refine aZ hn 4 [2] ?_
 refine aD ?_
 obtain rfl:=zi h
 exact aJ hio rfl (.tmp _ _ .nil) rfl rfl
theorem gT (x:(List Int)) (target:Int) (r:(Int×Bool)) (h:Sh.bW x target=some r):cg Tryz.prog 49 [.fl .shr 1 (map (int .i64) x),.v (.int .i64 target)] (.tup [.v (.int .i64 r.1),.v (.bool r.2)]):=by
 unfold Sh.bW at h
 refine yO 54 func49 fun g0 hn hio => ?_
 refine aZ hn 2 [0,1] ?_
 refine aZ hn 3 [0,1,6] ?_
 refine aZ hn 3 [0,1,6,7,8] ?_
 refine aj ?_
 refine bp h (fun ((s27,s28):Int×Int)=>[(0,fi x),(1,vi target),(6,vi (x.length:Int)),(7,vi s27),(8,vi s28)]) (fun (s37:Int)=>[(0,fi x),(1,vi target),(6,vi (x.length:Int)),(7,vi s37)]) ?_ ?_
 rintro s37 h
 refine ak (aj ?_)
 refine aK h (fun (s58:Bool)=>[(4,vi s37),(5,vb s58)]) ?_ ?_
 rintro s58 h
 refine ak (aD ?_)
 obtain rfl:=zi h
 exact aJ hio rfl (.tmp _ _ (.tmp _ _ .nil)) rfl rfl
 intro u59 h hl60 hr61
 refine ao h (fun hg8_4 h => ?_) (fun hg8_4 h => ?_)
 obtain ⟨v52,hv52,v53,hv53,h⟩:=ii h
 refine ao h (fun hg8_11 h => ?_) (fun hg8_11 h => ?_)
 refine yx hn 5 ?_
 refine yd hg8_4 2 ?_
 refine ys 0 ⟨li hv52⟩ ?_
 refine ys 3 ⟨ll hv53⟩ ?_
 refine yd hg8_11 13 ?_
 refine ye [4,5] ?_
 exact hl60 _ (zi h).symm
 obtain ⟨v54,hv54,v55,hv55,v56,hv56,h⟩:=pj h
 refine ao h (fun hg8_17 h => ?_) (fun hg8_17 h => ?_)
 obtain ⟨v57,hv57,h⟩:=zn h
 refine yx hn 5 ?_
 refine yd hg8_4 2 ?_
 refine ys 0 ⟨li hv52⟩ ?_
 refine ys 3 ⟨ll hv53⟩ ?_
 refine yd hg8_11 2 ?_
 refine ys 0 ⟨li hv54⟩ ?_
 refine ys 0 ⟨ll hv55⟩ ?_
 refine ys 1 ⟨lk call66 (fT _ _ hv56)⟩ ?_
 refine yd hg8_17 1 ?_
 refine ys 5 ⟨lk call66 (fT _ _ hv57)⟩ ?_
 refine ye [4,5] ?_
 exact hl60 _ (zi h).symm
 refine yx hn 5 ?_
 refine yd hg8_4 2 ?_
 refine ys 0 ⟨li hv52⟩ ?_
 refine ys 3 ⟨ll hv53⟩ ?_
 refine yd hg8_11 2 ?_
 refine ys 0 ⟨li hv54⟩ ?_
 refine ys 0 ⟨ll hv55⟩ ?_
 refine ys 1 ⟨lk call66 (fT _ _ hv56)⟩ ?_
 refine yd hg8_17 7 ?_
 refine ye [4,5] ?_
 exact hl60 _ (zi h).symm
 refine yx hn 5 ?_
 refine yd hg8_4 20 ?_
 refine ye [4,5] ?_
 exact hl60 _ (zi h).symm
 rintro u38 hl39 hr40 ⟨s27,s28⟩ rr43 h ho41
 refine aj ?_
 refine aZ hn 3 [0,1,6,7,8,15] ?_
 refine zc h rfl (fun h => ?_) (fun h => ?_)
 refine aE (ak ?_)
 refine aK h (fun ((s46,s47):Int×Int)=>[(0,fi x),(1,vi target),(6,vi (x.length:Int)),(8,vi s46),(7,vi s47)]) ?_ ?_
 rintro ⟨s46,s47⟩ h
 refine aB [0,1,2,4,3] (by kernel_rfl) (es':=[(_,_),(_,_),(_,_),(_,_),(_,_)]) rfl ?_
 exact bH _ (zi h).symm rfl
 intro u48 h hl49 hr50
 refine aU (aj ?_)
 obtain ⟨v2,hv2,v3,hv3,v4,hv4,v5,hv5,h⟩:=pI h
 refine yx hn 2 ?_
 refine ys 0 ⟨lb hv2⟩ ?_
 refine ys 0 ⟨lv hv3⟩ ?_
 refine ys 0 ⟨lB (yN hv4)⟩ ?_
 refine ys 1 ⟨lv hv5⟩ ?_
 refine cN [0,1,6,7,8,9] ?_
 refine aj ?_
 obtain ⟨v6,hv6,v7,hv7,v8,hv8,h⟩:=pj h
 refine yx hn 2 ?_
 refine ys 0 ⟨li hv6⟩ ?_
 refine ys 1 ⟨ll hv7⟩ ?_
 refine ys 0 ⟨lk call65 (pg _ _ _ hv8)⟩ ?_
 refine cN [0,1,6,7,8,9,27] ?_
 refine zc h rfl (fun h => ?_) (fun h => ?_)
 obtain ⟨v10,hv10,h⟩:=zn h
 refine yx hn 1 ?_
 refine ys 0 ⟨lb hv10⟩ ?_
 refine yw [7] 1 ?_
 refine ye [0,1,6,8,7] ?_
 refine aT ?_
 exact hl49 _ (zi h).symm
 refine yx hn 1 ?_
 refine yw [8] 1 ?_
 refine ye [0,1,6,7,8] ?_
 refine aT ?_
 refine aB [0,1,2,4,3] (by kernel_rfl) (es':=[(_,_),(_,_),(_,_),(_,_),(_,_)]) rfl ?_
 exact hl49 _ (zi h).symm
 refine bF (aH (aH (bG ?_)))
 refine aB [0,1,2,3] (by kernel_rfl) (es':=[(_,_),(_,_),(_,_),(_,_)]) rfl ?_
 exact hl39 _ (ho41 _ (zi h).symm).symm
theorem kN (s:ai) (p_r:T_Rec) (r:ai) (h:Sh.fF s p_r=some r):Ax Tryz.prog 26 [.box 37 [.hid (bu 47 11 (flatten (map bD s.GP))),.v (.int .i64 s.GY),.fl (.own 3) 1 (map (int .i64) s.Hb),.fl (.own 5) 1 (map (int .u8) s.GZ),.v (.int .i64 s.Of),.fl (.own 3) 1 (map (int .i64) s.GK)],.agg [.v (.int .i64 p_r.GQ),.v (.bool p_r.GS.GM.GT),.v (.string p_r.GS.GM.GR),.v (.string p_r.GS.GM.GJ),.fl .shr 3 (flatten (map T_Path.enc p_r.GS.To)),.fl .shr 1 (map (int .u8) p_r.GS.GH),.v (.bool p_r.GS.Ha),.v (.string p_r.GS.GN),.v (.int .i64 p_r.GS.At),.v (.int .i64 p_r.Id),.fl .shr 1 (map (int .i64) p_r.GO),.v (.int .i64 p_r.GW),.v (.int .i64 p_r.GU),.v (.int .i64 p_r.GV),.fl .shr 1 (map (int .u8) p_r.GI)]] [.box 37 [.hid (bu 47 11 (flatten (map bD r.GP))),.v (.int .i64 r.GY),.fl (.own 3) 1 (map (int .i64) r.Hb),.fl (.own 5) 1 (map (int .u8) r.GZ),.v (.int .i64 r.Of),.fl (.own 3) 1 (map (int .i64) r.GK)]] (.tup []):=by
 unfold Sh.fF at h
 refine yP 183 func26 fun args0 hargs0 g0 hn hio => ?_
 refine aZ hn 1 [0,3,0] ?_
 refine aZ hn 2 [0,3,12,0] ?_
 refine aK h (fun ((s125,s126,s127,s128,s129,s130):(List ae)×Int×(List Int)×(List Int)×Int×(List Int))=>[(0,.box 37 [.hid (bu 47 11 (flatten (map bD s125))),vi s126,.fl (.own 3) 1 (map (int .i64) s127),.fl (.own 5) 1 (map (int .u8) s128),vi s129,.fl (.own 3) 1 (map (int .i64) s130)]),(0,.v (List.getD args0 0 undef))]) ?_ ?_
 rintro ⟨s125,s126,s127,s128,s129,s130⟩ h
 obtain rfl:=zi h
 exact xd (es:=[]) (posts:=[.box 37 [.hid (bu 47 11 (flatten (map bD s125))),.v (.int .i64 s126),.fl (.own 3) 1 (map (int .i64) s127),.fl (.own 5) 1 (map (int .u8) s128),.v (.int .i64 s129),.fl (.own 3) 1 (map (int .i64) s130)]]) hio rfl rfl .nil rfl rfl hargs0 rfl
 intro u131 h hl132 hr133
 refine aU ?_
 refine aZ hn 2 [0,3,12,13,0] ?_
 refine zc h rfl (fun h => ?_) (fun h => ?_)
 refine aZ hn 1 [0,3,4,0] ?_
 refine aj ?_
 refine aK h (fun (s136:Int)=>[(0,.box 37 [.hid (bu 47 11 (flatten (map bD s.GP))),vi s.GY,.fl (.own 3) 1 (map (int .i64) s.Hb),.fl (.own 5) 1 (map (int .u8) s.GZ),vi s.Of,.fl (.own 3) 1 (map (int .i64) s.GK)]),(3,.box 31 (T_Rec.c p_r [])),(4,vi s136),(0,.v (List.getD args0 0 undef))]) ?_ ?_
 rintro s136 h
 refine ak ?_
 obtain ⟨v8,hv8,v9,hv9,h⟩:=ii h
 refine wb [[],[],[19,0],[20,0],[21,0],[3],[23,3],[3],[25,3]] ?_
 refine wN [26] ?_
 refine wo [[4]] ⟨lk call47 (jL _ _ hv8)⟩ ?_
 refine wK [27] [24,28] ?_
 refine wt [(29,.agg [vi p_r.Id,vb v8.GM.GT,vs v8.GM.GR,vs v8.GM.GJ,.fl (.own 24) 3 (flatten (map T_Path.enc v8.To)),.fl (.own 5) 1 (map (int .u8) v8.GH),vb v8.Ha,vs v8.GN,vi v8.At,vi s136,vi 0])] [] ⟨cw _ _ _ _ [1,8,1,1] _ _ underlying47 nN (Ej _ underlying47) (.copy _ (.take _ _ (.copy _ mJ.nil))) rfl rfl rfl⟩ ?_
 refine wK [29] [] ?_
 refine wt [(30,.hid (bu 47 11 (flatten (map bD [(ae.mk p_r.Id ((T_Mail.mk (T_Path.mk v8.GM.GT v8.GM.GR v8.GM.GJ) v8.To v8.GH v8.Ha v8.GN v8.At)) s136 0)]))))] [] ⟨mg _ _ _ 11 (.agg #[.int .i64 0,.bool false,.string ByteArray.empty,.string ByteArray.empty,.slice none 0 0,.slice none 0 0,.bool false,.string ByteArray.empty,.int .i64 0,.int .i64 0,.int .i64 0]) _ (flatten (map bD [(ae.mk p_r.Id ((T_Mail.mk (T_Path.mk v8.GM.GT v8.GM.GR v8.GM.GJ) v8.To v8.GH v8.Ha v8.GN v8.At)) s136 0)])) underlying35 gj nN rfl rfl rfl (by decide) (by decide) rfl⟩ ?_
 refine wK [0,30] [22] ?_
 refine wt [(0,.box 37 [.any,vi s.GY,.fl (.own 3) 1 (map (int .i64) s.Hb),.fl (.own 5) 1 (map (int .u8) s.GZ),vi s.Of,.fl (.own 3) 1 (map (int .i64) s.GK)]),(30,.any),(31,.hid (bu 47 11 (flatten (map bD v9))))] [[18,0],[32,0]] ⟨pf _ 31 0 30 0 _ BI rfl rfl (zl rfl) (bT aM _) (bT aM _) hv9 (im (iq hv9)) (by decide) rfl rfl⟩ ?_
 refine wK [22,31,0] [33] ?_
 refine wt [(0,.box 37 [.hid (bu 47 11 (flatten (map bD v9))),vi s.GY,.fl (.own 3) 1 (map (int .i64) s.Hb),.fl (.own 5) 1 (map (int .u8) s.GZ),vi s.Of,.fl (.own 3) 1 (map (int .i64) s.GK)])] [] ⟨aY.drop [_] (aC _ _ _ _ _ _ _ _ xt rfl rfl rfl (zl rfl) rfl rfl)⟩ ?_
 refine we hn [0,0] ?_
 refine aT ?_
 exact hl132 _ (zi h).symm
 intro u137 h hl138 hr139
 refine aZ hn 3 [0,3,4,17,0] ?_
 refine zc h rfl (fun h => ?_) (fun h => ?_)
 refine yx hn 0 ?_
 refine yw [4] 1 ?_
 refine ye [0,3,4,0] ?_
 exact hl138 _ (zi h).symm
 refine aE ?_
 refine aB [0,1,2,4] (by kernel_rfl) (es':=[(_,_),(_,_),(_,_),(_,_)]) rfl ?_
 exact hl138 _ (zi h).symm
 refine aZ hn 2 [0,3,12,34,0] ?_
 refine zc h rfl (fun h => ?_) (fun h => ?_)
 refine aj ?_
 refine iJ hn 4 ?_
 refine yS (vi (s.GP.length:Int)) 1 ⟨mA _ _ _ underlying35 rfl (bT aM _) (by decide)⟩ ?_
 refine cN [0,3,39,40,41,0] ?_
 refine bp h (fun ((s158,s159):(List ae)×Int)=>[(0,.box 37 [.hid (bu 47 11 (flatten (map bD s158))),vi s.GY,.fl (.own 3) 1 (map (int .i64) s.Hb),.fl (.own 5) 1 (map (int .u8) s.GZ),vi s.Of,.fl (.own 3) 1 (map (int .i64) s.GK)]),(3,.box 31 (T_Rec.c p_r [])),(39,.same (.cell 0 0)),(40,vi (s.GP.length:Int)),(41,vi s159),(0,.v (List.getD args0 0 undef))]) (fun (s167:(List ae))=>[(0,.box 37 [.hid (bu 47 11 (flatten (map bD s167))),vi s.GY,.fl (.own 3) 1 (map (int .i64) s.Hb),.fl (.own 5) 1 (map (int .u8) s.GZ),vi s.Of,.fl (.own 3) 1 (map (int .i64) s.GK)]),(3,.box 31 (T_Rec.c p_r [])),(0,.v (List.getD args0 0 undef))]) ?_ ?_
 rintro s167 h
 refine ak ?_
 refine yy hn 6 [0,0] ?_
 refine aT ?_
 exact hl132 _ (zi h).symm
 rintro u168 hl169 hr170 ⟨s158,s159⟩ rr173 h ho171
 refine aZ hn 1 [0,3,39,40,41,42,0] ?_
 refine aj ?_
 refine zc h rfl (fun h => ?_) (fun h => ?_)
 refine aE ?_
 refine ak (aj ?_)
 refine aK h (fun (s176:(List ae))=>[(0,.box 37 [.hid (bu 47 11 (flatten (map bD s176))),vi s.GY,.fl (.own 3) 1 (map (int .i64) s.Hb),.fl (.own 5) 1 (map (int .u8) s.GZ),vi s.Of,.fl (.own 3) 1 (map (int .i64) s.GK)]),(3,.box 31 (T_Rec.c p_r [])),(39,.same (.cell 0 0)),(40,vi (s.GP.length:Int)),(41,vi s159),(0,.v (List.getD args0 0 undef))]) ?_ ?_
 rintro s176 h
 refine ak ?_
 obtain ⟨v27,hv27,h⟩:=zn h
 refine yx hn 0 ?_
 refine ys 0 ⟨lb hv27⟩ ?_
 refine yw [41] 1 ?_
 refine ye [0,3,39,40,41,0] ?_
 exact bH _ (zi h).symm rfl
 intro u177 h hl178 hr179
 refine aU (aj ?_)
 obtain ⟨v12,hv12,v13,hv13,h⟩:=ii h
 refine dJ [0,1,2,3,4,5,6] rfl rfl ?_
 refine el 192 0 (fun ov10=>[.fl (.own 47) 11 ov10,.v (.int .i64 s.GY),.fl (.own 3) 1 (map (int .i64) s.Hb),.fl (.own 5) 1 (map (int .u8) s.GZ),.v (.int .i64 s.Of),.fl (.own 3) 1 (map (int .i64) s.GK)]) (zl rfl) rfl (fun _=>rfl) fun ov10 oh10 => ?_
 refine yx hn 1 ?_
 refine yS (.eref (.cell 0 0) (v12 * 11)) 0 ⟨iQ _ _ _ _ _ _ _ _ underlying35 gj (by decide) rfl rfl rfl (cc hv12).1 (gu aM oh10 (cc hv12).2) rfl⟩ ?_
 refine yS (.agg [vi v13.Id,vb v13.GS.GM.GT,vs v13.GS.GM.GR,vs v13.GS.GM.GJ,.v (.slice (DC (List.getD ov10 (v12 * 11+4) undef)) (DR (List.getD ov10 (v12 * 11+4) undef)) (Ey (List.getD ov10 (v12 * 11+4) undef))),.v (.slice (DC (List.getD ov10 (v12 * 11+5) undef)) (DR (List.getD ov10 (v12 * 11+5) undef)) (Ey (List.getD ov10 (v12 * 11+5) undef))),vb v13.GS.Ha,vs v13.GS.GN,vi v13.GS.At,vi v13.Hc,vi v13.GX]) 0 ⟨aY.ownEq (gs:=192) (by repeat first | exact List.Mem.head _ | apply List.Mem.tail) (cx (q:=0) aM oh10 hv13 (by decide)) (aL aM hv13 rfl) (fun e0=>aY.ownEq (gs:=192) (by repeat first | exact List.Mem.head _ | apply List.Mem.tail) (cx (q:=1) aM oh10 hv13 (by decide)) (aL aM hv13 rfl) (fun e1=>aY.ownEq (gs:=192) (by repeat first | exact List.Mem.head _ | apply List.Mem.tail) (cx (q:=2) aM oh10 hv13 (by decide)) (aL aM hv13 rfl) (fun e2=>aY.ownEq (gs:=192) (by repeat first | exact List.Mem.head _ | apply List.Mem.tail) (cx (q:=3) aM oh10 hv13 (by decide)) (aL aM hv13 rfl) (fun e3=>aY.ownSl (gs:=192) (by repeat first | exact List.Mem.head _ | apply List.Mem.tail) (cx (q:=4) aM oh10 hv13 (by decide)) (aL aM hv13 rfl) (fun e4=>aY.ownSl (gs:=192) (by repeat first | exact List.Mem.head _ | apply List.Mem.tail) (cx (q:=5) aM oh10 hv13 (by decide)) (aL aM hv13 rfl) (fun e5=>aY.ownEq (gs:=192) (by repeat first | exact List.Mem.head _ | apply List.Mem.tail) (cx (q:=6) aM oh10 hv13 (by decide)) (aL aM hv13 rfl) (fun e6=>aY.ownEq (gs:=192) (by repeat first | exact List.Mem.head _ | apply List.Mem.tail) (cx (q:=7) aM oh10 hv13 (by decide)) (aL aM hv13 rfl) (fun e7=>aY.ownEq (gs:=192) (by repeat first | exact List.Mem.head _ | apply List.Mem.tail) (cx (q:=8) aM oh10 hv13 (by decide)) (aL aM hv13 rfl) (fun e8=>aY.ownEq (gs:=192) (by repeat first | exact List.Mem.head _ | apply List.Mem.tail) (cx (q:=9) aM oh10 hv13 (by decide)) (aL aM hv13 rfl) (fun e9=>aY.ownEq (gs:=192) (by repeat first | exact List.Mem.head _ | apply List.Mem.tail) (cx (q:=10) aM oh10 hv13 (by decide)) (aL aM hv13 rfl) (fun e10=>gn _ _ _ _ _ _ _ underlying47 rfl gj rfl rfl ((zW aM oh10 hv13).trans (by simp only [List.range,List.range.loop,map,e0,e1,e2,e3,e6,e7,e8,e9,e10]; rw [e4,e5])) rfl (by decide))))))))))))⟩ ?_
 refine yS (.box 47 [vi 0,vb false,vs z0,vs z0,vz,vz,vb false,vs z0,vi 0,vi 0,vi 0]) 2 ⟨oA (bj _ _ nN)⟩ ?_
 refine ye [0,192,3,39,40,41,6,5,0] ?_
 refine ik 0 [.hid (bu 47 11 (flatten (map bD s158))),.v (.int .i64 s.GY),.fl (.own 3) 1 (map (int .i64) s.Hb),.fl (.own 5) 1 (map (int .u8) s.GZ),.v (.int .i64 s.Of),.fl (.own 3) 1 (map (int .i64) s.GK)] (zl rfl) rfl .n rfl rfl ?_
 refine ak (aj ?_)
 obtain ⟨v14,hv14,h⟩:=zn h
 refine yx hn 4 ?_
 refine ys 0 ⟨lk call31 (cZ _ _ _ hv14)⟩ ?_
 refine cN [0,3,39,40,41,5,50,0] ?_
 refine zc h rfl (fun h => ?_) (fun h => ?_)
 refine aj ?_
 obtain ⟨v16,hv16,v17,hv17,v18,sZ,h⟩:=pj h
 refine dJ [0,1,2,3,4,5,6,7] rfl rfl ?_
 refine el 192 0 (fun ov12=>[.fl (.own 47) 11 ov12,.v (.int .i64 s.GY),.fl (.own 3) 1 (map (int .i64) s.Hb),.fl (.own 5) 1 (map (int .u8) s.GZ),.v (.int .i64 s.Of),.fl (.own 3) 1 (map (int .i64) s.GK)]) (zl rfl) rfl (fun _=>rfl) fun ov12 oh12 => ?_
 refine yx hn 5 ?_
 refine yS (.eref (.cell 0 0) (v16 * 11)) 1 ⟨iQ _ _ _ _ _ _ _ _ underlying35 gj (by decide) rfl rfl rfl (cc hv16).1 (gu aM oh12 (cc hv16).2) rfl⟩ ?_
 refine yk [0] [57] ?_
 refine yt (0,.box 37 [.fl (.own 47) 11 (List.set ov12 (v16 * 11+9) ((.int .i64 2))),vi s.GY,.fl (.own 3) 1 (map (int .i64) s.Hb),.fl (.own 5) 1 (map (int .u8) s.GZ),vi s.Of,.fl (.own 3) 1 (map (int .i64) s.GK)]) 0 ⟨fj _ _ _ 0 0 _ _ _ _ pd rfl rfl (zl rfl) rfl rfl (by decide) (by have:=gu aM oh12 (cc hv16).2; omega) (pG (by have:=gu aM oh12 (cc hv16).2; omega)) rfl⟩ ?_
 refine ye [0,192,3,39,40,41,5,0] ?_
 refine ik 0 [.hid (bu 47 11 (flatten (map bD v18))),.v (.int .i64 s.GY),.fl (.own 3) 1 (map (int .i64) s.Hb),.fl (.own 5) 1 (map (int .u8) s.GZ),.v (.int .i64 s.Of),.fl (.own 3) 1 (map (int .i64) s.GK)] (zl rfl) rfl (.s .n (aL aM hv17 rfl)) ((qv (q:=9) aM hv17 (y:=(ae.mk v17.Id ((T_Mail.mk (T_Path.mk v17.GS.GM.GT v17.GS.GM.GR v17.GS.GM.GJ) v17.GS.To v17.GS.GH v17.GS.Ha v17.GS.GN v17.GS.At)) 2 v17.GX)) rfl (by decide)).trans (congrArg (fun l=>flatten (map bD l)) (Option.some.inj sZ))) rfl ?_
 refine ak ?_
 obtain ⟨v19,hv19,v20,hv20,v21,hv21,h⟩:=pj h
 refine dJ [0,1,2,3,4,5,6] rfl rfl ?_
 refine el 192 0 (fun ov13=>[.fl (.own 47) 11 ov13,.v (.int .i64 s.GY),.fl (.own 3) 1 (map (int .i64) s.Hb),.fl (.own 5) 1 (map (int .u8) s.GZ),.v (.int .i64 s.Of),.fl (.own 3) 1 (map (int .i64) s.GK)]) (zl rfl) rfl (fun _=>rfl) fun ov13 oh13 => ?_
 refine wb [[],[58,0],[59,0],[60,0],[5],[3],[63,3]] ?_
 refine wN [61,0,62] ?_
 refine wS (.eref (.cell 0 0) (v19 * 11)) [[65,0]] ⟨iQ _ _ _ _ _ _ _ _ underlying35 gj (by decide) rfl rfl rfl (cc hv19).1 (gu aM oh13 (cc hv19).2) rfl⟩ ?_
 refine wK [0] [66,64] ?_
 refine wt [(0,.box 37 [.fl (.own 47) 11 (List.set ov13 (v19 * 11+10) ((.int .i64 p_r.GU))),vi s.GY,.fl (.own 3) 1 (map (int .i64) s.Hb),.fl (.own 5) 1 (map (int .u8) s.GZ),vi s.Of,.fl (.own 3) 1 (map (int .i64) s.GK)])] [] ⟨fj _ _ _ 0 0 _ _ _ _ pd rfl rfl (zl rfl) rfl rfl (by decide) (by have:=gu aM oh13 (cc hv19).2; omega) (pG (by have:=gu aM oh13 (cc hv19).2; omega)) rfl⟩ ?_
 refine we hn [0,192,3,39,40,41,0] ?_
 refine ik 0 [.hid (bu 47 11 (flatten (map bD v21))),.v (.int .i64 s.GY),.fl (.own 3) 1 (map (int .i64) s.Hb),.fl (.own 5) 1 (map (int .u8) s.GZ),.v (.int .i64 s.Of),.fl (.own 3) 1 (map (int .i64) s.GK)] (zl rfl) rfl (.s .n (aL aM hv20 rfl)) ((qv (q:=10) aM hv20 (y:=(ae.mk v20.Id ((T_Mail.mk (T_Path.mk v20.GS.GM.GT v20.GS.GM.GR v20.GS.GM.GJ) v20.GS.To v20.GS.GH v20.GS.Ha v20.GS.GN v20.GS.At)) v20.Hc p_r.GU)) rfl (by decide)).trans (congrArg (fun l=>flatten (map bD l)) (Option.some.inj hv21))) rfl ?_
 refine aT ?_
 exact hl178 _ (zi h).symm
 refine aE (aT ?_)
 refine aB [0,1,2,3,4,7] (by kernel_rfl) (es':=[(_,_),(_,_),(_,_),(_,_),(_,_),(_,_)]) rfl ?_
 exact hl178 _ (zi h).symm
 refine bF (aH (aH (bG ?_)))
 refine aB [0,1,6] (by kernel_rfl) (es':=[(_,_),(_,_),(_,_)]) rfl ?_
 exact hl169 _ (ho171 _ (zi h).symm).symm
 refine aZ hn 2 [0,3,12,73,0] ?_
 refine zc h rfl (fun h => ?_) (fun h => ?_)
 refine aj ?_
 refine iJ hn 4 ?_
 refine yS (vi (s.GP.length:Int)) 1 ⟨mA _ _ _ underlying35 rfl (bT aM _) (by decide)⟩ ?_
 refine cN [0,3,78,79,80,0] ?_
 refine bp h (fun ((s198,s199):(List ae)×Int)=>[(0,.box 37 [.hid (bu 47 11 (flatten (map bD s198))),vi s.GY,.fl (.own 3) 1 (map (int .i64) s.Hb),.fl (.own 5) 1 (map (int .u8) s.GZ),vi s.Of,.fl (.own 3) 1 (map (int .i64) s.GK)]),(3,.box 31 (T_Rec.c p_r [])),(78,.same (.cell 0 0)),(79,vi (s.GP.length:Int)),(80,vi s199),(0,.v (List.getD args0 0 undef))]) (fun (s207:(List ae))=>[(0,.box 37 [.hid (bu 47 11 (flatten (map bD s207))),vi s.GY,.fl (.own 3) 1 (map (int .i64) s.Hb),.fl (.own 5) 1 (map (int .u8) s.GZ),vi s.Of,.fl (.own 3) 1 (map (int .i64) s.GK)]),(3,.box 31 (T_Rec.c p_r [])),(0,.v (List.getD args0 0 undef))]) ?_ ?_
 rintro s207 h
 refine ak ?_
 obtain ⟨v106,hv106,h⟩:=zn h
 refine wb [[],[],[99,0],[100,0],[101,0],[3],[103,3]] ?_
 refine wN [104] ?_
 refine wS (.fl (.own 3) 1 (map (int .i64) [p_r.GU])) [] ⟨dC _ _ 1 (.int .i64 0) (map (int .i64) [p_r.GU]) [(0,.int .i64 p_r.GU)] underlying29 pd Cs (fun _ V w o a hv hes=>by have e0:=dD hv hes (x := .tmp 104) rfl; simp only [List.map_toArray,List.map_cons,List.map_nil,e0]; try rfl) (iU (by simp [Instr.fill,Value.cells]; rfl) (by simp [List.range,List.range.loop] <;> rfl)) (by simp [Value.oneCell']) rfl (by decide) (by decide) (by decide)⟩ ?_
 refine wK [0] [102,105] ?_
 refine wt [(0,.box 37 [.hid (bu 47 11 (flatten (map bD s207))),vi s.GY,.any,.fl (.own 5) 1 (map (int .u8) s.GZ),vi s.Of,.fl (.own 3) 1 (map (int .i64) s.GK)]),(106,.fl (.own 3) 1 (map (int .i64) v106))] [[98,0],[107,0]] ⟨jH _ _ _ _ _ _ vI rfl rfl (zl rfl) rfl (fe _) (fe _) hv106 ((List.map_append).symm.trans (congrArg (map _) (iq hv106))) (Nat.ne_of_beq_eq_false rfl) rfl rfl⟩ ?_
 refine wK [102,106,0] [108] ?_
 refine wt [(0,.box 37 [.hid (bu 47 11 (flatten (map bD s207))),vi s.GY,.fl (.own 3) 1 (map (int .i64) v106),.fl (.own 5) 1 (map (int .u8) s.GZ),vi s.Of,.fl (.own 3) 1 (map (int .i64) s.GK)])] [] ⟨aY.drop [_] (aC _ _ _ _ _ _ _ _ qt rfl rfl rfl (zl rfl) rfl rfl)⟩ ?_
 refine we hn [0,0] ?_
 refine aT ?_
 exact hl132 _ (zi h).symm
 rintro u208 hl209 hr210 ⟨s198,s199⟩ rr213 h ho211
 refine aZ hn 1 [0,3,78,79,80,81,0] ?_
 refine aj ?_
 refine zc h rfl (fun h => ?_) (fun h => ?_)
 refine aE ?_
 refine ak (aj ?_)
 refine aK h (fun (s216:(List ae))=>[(0,.box 37 [.hid (bu 47 11 (flatten (map bD s216))),vi s.GY,.fl (.own 3) 1 (map (int .i64) s.Hb),.fl (.own 5) 1 (map (int .u8) s.GZ),vi s.Of,.fl (.own 3) 1 (map (int .i64) s.GK)]),(3,.box 31 (T_Rec.c p_r [])),(78,.same (.cell 0 0)),(79,vi (s.GP.length:Int)),(80,vi s199),(0,.v (List.getD args0 0 undef))]) ?_ ?_
 rintro s216 h
 refine ak ?_
 obtain ⟨v73,hv73,h⟩:=zn h
 refine yx hn 0 ?_
 refine ys 0 ⟨lb hv73⟩ ?_
 refine yw [80] 1 ?_
 refine ye [0,3,78,79,80,0] ?_
 exact bH _ (zi h).symm rfl
 intro u217 h hl218 hr219
 refine aU (aj ?_)
 obtain ⟨v62,hv62,v63,hv63,h⟩:=ii h
 refine dJ [0,1,2,3,4,5,6] rfl rfl ?_
 refine el 192 0 (fun ov19=>[.fl (.own 47) 11 ov19,.v (.int .i64 s.GY),.fl (.own 3) 1 (map (int .i64) s.Hb),.fl (.own 5) 1 (map (int .u8) s.GZ),.v (.int .i64 s.Of),.fl (.own 3) 1 (map (int .i64) s.GK)]) (zl rfl) rfl (fun _=>rfl) fun ov19 oh19 => ?_
 refine yx hn 1 ?_
 refine yS (.eref (.cell 0 0) (v62 * 11)) 0 ⟨iQ _ _ _ _ _ _ _ _ underlying35 gj (by decide) rfl rfl rfl (cc hv62).1 (gu aM oh19 (cc hv62).2) rfl⟩ ?_
 refine yS (.agg [vi v63.Id,vb v63.GS.GM.GT,vs v63.GS.GM.GR,vs v63.GS.GM.GJ,.v (.slice (DC (List.getD ov19 (v62 * 11+4) undef)) (DR (List.getD ov19 (v62 * 11+4) undef)) (Ey (List.getD ov19 (v62 * 11+4) undef))),.v (.slice (DC (List.getD ov19 (v62 * 11+5) undef)) (DR (List.getD ov19 (v62 * 11+5) undef)) (Ey (List.getD ov19 (v62 * 11+5) undef))),vb v63.GS.Ha,vs v63.GS.GN,vi v63.GS.At,vi v63.Hc,vi v63.GX]) 0 ⟨aY.ownEq (gs:=192) (by repeat first | exact List.Mem.head _ | apply List.Mem.tail) (cx (q:=0) aM oh19 hv63 (by decide)) (aL aM hv63 rfl) (fun e0=>aY.ownEq (gs:=192) (by repeat first | exact List.Mem.head _ | apply List.Mem.tail) (cx (q:=1) aM oh19 hv63 (by decide)) (aL aM hv63 rfl) (fun e1=>aY.ownEq (gs:=192) (by repeat first | exact List.Mem.head _ | apply List.Mem.tail) (cx (q:=2) aM oh19 hv63 (by decide)) (aL aM hv63 rfl) (fun e2=>aY.ownEq (gs:=192) (by repeat first | exact List.Mem.head _ | apply List.Mem.tail) (cx (q:=3) aM oh19 hv63 (by decide)) (aL aM hv63 rfl) (fun e3=>aY.ownSl (gs:=192) (by repeat first | exact List.Mem.head _ | apply List.Mem.tail) (cx (q:=4) aM oh19 hv63 (by decide)) (aL aM hv63 rfl) (fun e4=>aY.ownSl (gs:=192) (by repeat first | exact List.Mem.head _ | apply List.Mem.tail) (cx (q:=5) aM oh19 hv63 (by decide)) (aL aM hv63 rfl) (fun e5=>aY.ownEq (gs:=192) (by repeat first | exact List.Mem.head _ | apply List.Mem.tail) (cx (q:=6) aM oh19 hv63 (by decide)) (aL aM hv63 rfl) (fun e6=>aY.ownEq (gs:=192) (by repeat first | exact List.Mem.head _ | apply List.Mem.tail) (cx (q:=7) aM oh19 hv63 (by decide)) (aL aM hv63 rfl) (fun e7=>aY.ownEq (gs:=192) (by repeat first | exact List.Mem.head _ | apply List.Mem.tail) (cx (q:=8) aM oh19 hv63 (by decide)) (aL aM hv63 rfl) (fun e8=>aY.ownEq (gs:=192) (by repeat first | exact List.Mem.head _ | apply List.Mem.tail) (cx (q:=9) aM oh19 hv63 (by decide)) (aL aM hv63 rfl) (fun e9=>aY.ownEq (gs:=192) (by repeat first | exact List.Mem.head _ | apply List.Mem.tail) (cx (q:=10) aM oh19 hv63 (by decide)) (aL aM hv63 rfl) (fun e10=>gn _ _ _ _ _ _ _ underlying47 rfl gj rfl rfl ((zW aM oh19 hv63).trans (by simp only [List.range,List.range.loop,map,e0,e1,e2,e3,e6,e7,e8,e9,e10]; rw [e4,e5])) rfl (by decide))))))))))))⟩ ?_
 refine yS (.box 47 [vi 0,vb false,vs z0,vs z0,vz,vz,vb false,vs z0,vi 0,vi 0,vi 0]) 2 ⟨oA (bj _ _ nN)⟩ ?_
 refine ye [0,192,3,78,79,80,8,7,0] ?_
 refine ik 0 [.hid (bu 47 11 (flatten (map bD s198))),.v (.int .i64 s.GY),.fl (.own 3) 1 (map (int .i64) s.Hb),.fl (.own 5) 1 (map (int .u8) s.GZ),.v (.int .i64 s.Of),.fl (.own 3) 1 (map (int .i64) s.GK)] (zl rfl) rfl .n rfl rfl ?_
 refine ak ?_
 refine aZ hn 5 [0,3,78,79,80,7,89,0] ?_
 refine zc h rfl (fun h => ?_) (fun h => ?_)
 obtain ⟨v65,hv65,v66,hv66,v67,hv67,h⟩:=pj h
 refine dJ [0,1,2,3,4,5,6,7] rfl rfl ?_
 refine el 192 0 (fun ov21=>[.fl (.own 47) 11 ov21,.v (.int .i64 s.GY),.fl (.own 3) 1 (map (int .i64) s.Hb),.fl (.own 5) 1 (map (int .u8) s.GZ),.v (.int .i64 s.Of),.fl (.own 3) 1 (map (int .i64) s.GK)]) (zl rfl) rfl (fun _=>rfl) fun ov21 oh21 => ?_
 refine yx hn 5 ?_
 refine yS (.eref (.cell 0 0) (v65 * 11)) 1 ⟨iQ _ _ _ _ _ _ _ _ underlying35 gj (by decide) rfl rfl rfl (cc hv65).1 (gu aM oh21 (cc hv65).2) rfl⟩ ?_
 refine yk [0] [96] ?_
 refine yt (0,.box 37 [.fl (.own 47) 11 (List.set ov21 (v65 * 11+9) ((.int .i64 3))),vi s.GY,.fl (.own 3) 1 (map (int .i64) s.Hb),.fl (.own 5) 1 (map (int .u8) s.GZ),vi s.Of,.fl (.own 3) 1 (map (int .i64) s.GK)]) 0 ⟨fj _ _ _ 0 0 _ _ _ _ pd rfl rfl (zl rfl) rfl rfl (by decide) (by have:=gu aM oh21 (cc hv65).2; omega) (pG (by have:=gu aM oh21 (cc hv65).2; omega)) rfl⟩ ?_
 refine ye [0,192,3,78,79,80,0] ?_
 refine ik 0 [.hid (bu 47 11 (flatten (map bD v67))),.v (.int .i64 s.GY),.fl (.own 3) 1 (map (int .i64) s.Hb),.fl (.own 5) 1 (map (int .u8) s.GZ),.v (.int .i64 s.Of),.fl (.own 3) 1 (map (int .i64) s.GK)] (zl rfl) rfl (.s .n (aL aM hv66 rfl)) ((qv (q:=9) aM hv66 (y:=(ae.mk v66.Id ((T_Mail.mk (T_Path.mk v66.GS.GM.GT v66.GS.GM.GR v66.GS.GM.GJ) v66.GS.To v66.GS.GH v66.GS.Ha v66.GS.GN v66.GS.At)) 3 v66.GX)) rfl (by decide)).trans (congrArg (fun l=>flatten (map bD l)) (Option.some.inj hv67))) rfl ?_
 refine aT ?_
 exact hl218 _ (zi h).symm
 refine aE (aT ?_)
 refine aB [0,1,2,3,4,7] (by kernel_rfl) (es':=[(_,_),(_,_),(_,_),(_,_),(_,_),(_,_)]) rfl ?_
 exact hl218 _ (zi h).symm
 refine bF (aH (aH (bG ?_)))
 refine aB [0,1,6] (by kernel_rfl) (es':=[(_,_),(_,_),(_,_)]) rfl ?_
 exact hl209 _ (ho211 _ (zi h).symm).symm
 refine aZ hn 2 [0,3,12,109,0] ?_
 refine zc h rfl (fun h => ?_) (fun h => ?_)
 obtain ⟨v108,hv108,v109,hv109,v110,hv110,v111,hv111,h⟩:=pI h
 refine dJ [0,1,2,3,4] rfl rfl ?_
 refine el 192 0 (fun ov25=>[.fl (.own 47) 11 ov25,.v (.int .i64 s.GY),.fl (.own 3) 1 (map (int .i64) s.Hb),.fl (.own 5) 1 (map (int .u8) s.GZ),.v (.int .i64 s.Of),.fl (.own 3) 1 (map (int .i64) s.GK)]) (zl rfl) rfl (fun _=>rfl) fun ov25 oh25 => ?_
 refine wb [[],[111,0],[112,0],[113,0],[],[115,0],[116,0],[3],[118,3]] ?_
 refine wN [117,0,119,192] ?_
 refine wS (vi v108) [] ⟨fk _ _ 48 _ _ rfl call48 (eP rfl (.v rfl rfl (by repeat first | exact List.Mem.head _ | apply List.Mem.tail) (gX gU _) (.p rfl (.p rfl (.p rfl (.p rfl (.p rfl .nil)))))) (cM rfl du)) (mi s p_r.Id _ hv108) rfl rfl⟩ ?_
 refine wN [114,0,120] ?_
 refine wS (.eref (.cell 0 0) (v109 * 11)) [[121,0]] ⟨iQ _ _ _ _ _ _ _ _ underlying35 gj (by decide) rfl rfl rfl (cc hv109).1 (gu aM oh25 (cc hv109).2) rfl⟩ ?_
 refine wK [0] [122] ?_
 refine wt [(0,.box 37 [.fl (.own 47) 11 (List.set ov25 (v109 * 11+9) ((.int .i64 4))),vi s.GY,.fl (.own 3) 1 (map (int .i64) s.Hb),.fl (.own 5) 1 (map (int .u8) s.GZ),vi s.Of,.fl (.own 3) 1 (map (int .i64) s.GK)])] [] ⟨fj _ _ _ 0 0 _ _ _ _ pd rfl rfl (zl rfl) rfl rfl (by decide) (by have:=gu aM oh25 (cc hv109).2; omega) (pG (by have:=gu aM oh25 (cc hv109).2; omega)) rfl⟩ ?_
 refine we hn [0,192,0] ?_
 refine ik 0 [.hid (bu 47 11 (flatten (map bD v111))),.v (.int .i64 s.GY),.fl (.own 3) 1 (map (int .i64) s.Hb),.fl (.own 5) 1 (map (int .u8) s.GZ),.v (.int .i64 s.Of),.fl (.own 3) 1 (map (int .i64) s.GK)] (zl rfl) rfl (.s .n (aL aM hv110 rfl)) ((qv (q:=9) aM hv110 (y:=(ae.mk v110.Id ((T_Mail.mk (T_Path.mk v110.GS.GM.GT v110.GS.GM.GR v110.GS.GM.GJ) v110.GS.To v110.GS.GH v110.GS.Ha v110.GS.GN v110.GS.At)) 4 v110.GX)) rfl (by decide)).trans (congrArg (fun l=>flatten (map bD l)) (Option.some.inj hv111))) rfl ?_
 refine aT ?_
 exact hl132 _ (zi h).symm
 refine aZ hn 2 [0,3,12,123,0] ?_
 refine zc h rfl (fun h => ?_) (fun h => ?_)
 refine aj ?_
 refine aK h (fun ((s224,s225):(List Int)×Int)=>[(0,.box 37 [.hid (bu 47 11 (flatten (map bD s.GP))),vi s.GY,.fl (.own 3) 1 (map (int .i64) s.Hb),.fl (.own 5) 1 (map (int .u8) s224),vi s225,.fl (.own 3) 1 (map (int .i64) s.GK)]),(3,.box 31 (T_Rec.c p_r [])),(0,.v (List.getD args0 0 undef))]) ?_ ?_
 rintro ⟨s224,s225⟩ h
 refine ak ?_
 obtain ⟨v120,hv120,h⟩:=zn h
 refine wb [[],[],[137,0],[138,0],[139,0],[3],[141,3]] ?_
 refine wK [0] [140,142] ?_
 refine wt [(0,.box 37 [.hid (bu 47 11 (flatten (map bD s.GP))),vi s.GY,.fl (.own 3) 1 (map (int .i64) s.Hb),.any,vi s225,.fl (.own 3) 1 (map (int .i64) s.GK)]),(143,.fl (.own 5) 1 (map (int .u8) v120))] [[136,0],[144,0]] ⟨jH _ _ _ _ _ _ Aj rfl rfl (zl rfl) rfl (fe _) (fe _) hv120 ((List.map_append).symm.trans (congrArg (map _) (iq hv120))) (Nat.ne_of_beq_eq_false rfl) rfl rfl⟩ ?_
 refine wK [140,143,0] [145] ?_
 refine wt [(0,.box 37 [.hid (bu 47 11 (flatten (map bD s.GP))),vi s.GY,.fl (.own 3) 1 (map (int .i64) s.Hb),.fl (.own 5) 1 (map (int .u8) v120),vi s225,.fl (.own 3) 1 (map (int .i64) s.GK)])] [] ⟨aY.drop [_] (aC _ _ _ _ _ _ _ _ tw rfl rfl rfl (zl rfl) rfl rfl)⟩ ?_
 refine we hn [0,0] ?_
 refine aT ?_
 exact hl132 _ (zi h).symm
 intro u226 h hl227 hr228
 refine aZ hn 3 [0,3,127,0] ?_
 refine zc h rfl (fun h => ?_) (fun h => ?_)
 refine yy hn 10 [0,3,0] ?_
 refine eW (fs:=[(0,.box 37 [.hid (bu 47 11 (flatten (map bD s.GP))),vi s.GY,.fl (.own 3) 1 (map (int .i64) s.Hb),.fl (.own 5) 1 (map (int .u8) []),vi p_r.GU,.fl (.own 3) 1 (map (int .i64) s.GK)]),(3,.box 31 (T_Rec.c p_r [])),(0,.v (List.getD args0 0 undef))]) (.box _ _ (ag (am _) (ag (am _) (ag (am _) (ag (dA 5 1) (ag (am _) (ag (am _) (cz))))))) rfl (.same _ (.same _ .nil))) ?_
 exact hl227 _ (zi h).symm
 refine aE ?_
 refine aB [0,1,3] (by kernel_rfl) (es':=[(_,_),(_,_),(_,_)]) rfl ?_
 exact hl227 _ (zi h).symm
 refine aZ hn 2 [0,3,146,0] ?_
 refine zc h rfl (fun h => ?_) (fun h => ?_)
 refine aj ?_
 obtain ⟨v122,hv122,h⟩:=zn h
 refine wb [[],[149,0],[150,0],[151,0],[3],[153,3]] ?_
 refine wN [152,0,154] ?_
 refine wo [] ⟨lk call49 (gT _ _ _ hv122)⟩ ?_
 refine wK [155] [] ?_
 refine wt [(148,.tup [vi v122.1,vb v122.2])] [[148],[148],[156],[157]] ⟨ko _ _ _ _ rfl⟩ ?_
 refine ue hn [0,3,9,0] ?_
 refine aj ?_
 obtain ⟨v123,hv123,h⟩:=zn h
 refine wb [[],[],[159,0],[160,0],[161,0],[9],[3],[164,3]] ?_
 refine wN [165] ?_
 refine wS (.fl (.own 3) 1 (map (int .i64) [p_r.GU])) [] ⟨dC _ _ 1 (.int .i64 0) (map (int .i64) [p_r.GU]) [(0,.int .i64 p_r.GU)] underlying29 pd Cs (fun _ V w o a hv hes=>by have e0:=dD hv hes (x := .tmp 165) rfl; simp only [List.map_toArray,List.map_cons,List.map_nil,e0]; try rfl) (iU (by simp [Instr.fill,Value.cells]; rfl) (by simp [List.range,List.range.loop] <;> rfl)) (by simp [Value.oneCell']) rfl (by decide) (by decide) (by decide)⟩ ?_
 refine wK [0] [162,163,166] ?_
 refine wt [(0,.box 37 [.hid (bu 47 11 (flatten (map bD s.GP))),vi s.GY,.fl (.own 3) 1 (map (int .i64) s.Hb),.fl (.own 5) 1 (map (int .u8) s.GZ),vi s.Of,.any]),(167,.fl (.own 3) 1 (map (int .i64) v123))] [[158,0],[168,0]] ⟨uO _ 167 0 5 166 _ rfl call50 DZ rfl rfl (zl rfl) rfl rfl rfl rfl hv123 rfl (by decide) rfl rfl⟩ ?_
 refine wK [162,167,0] [169] ?_
 refine wt [(0,.box 37 [.hid (bu 47 11 (flatten (map bD s.GP))),vi s.GY,.fl (.own 3) 1 (map (int .i64) s.Hb),.fl (.own 5) 1 (map (int .u8) s.GZ),vi s.Of,.fl (.own 3) 1 (map (int .i64) v123)])] [] ⟨aY.drop [_] (aC _ _ _ _ _ _ _ _ qt rfl rfl rfl (zl rfl) rfl rfl)⟩ ?_
 refine ue hn [0,3,0] ?_
 refine aj ?_
 refine wb [[],[170,0],[171,0],[172,0],[3],[174,3],[173,175]] ?_
 refine ue hn [0,176,0] ?_
 refine zc h rfl (fun h => ?_) (fun h => ?_)
 refine yy hn 8 [0,0] ?_
 refine aT ?_
 refine eW (fs:=[(0,.box 37 [.hid (bu 47 11 (flatten (map bD s.GP))),vi s.GY,.fl (.own 3) 1 (map (int .i64) s.Hb),.fl (.own 5) 1 (map (int .u8) []),vi (-1),.fl (.own 3) 1 (map (int .i64) v123)]),(0,.v (List.getD args0 0 undef))]) (.box _ _ (ag (am _) (ag (am _) (ag (am _) (ag (dA 5 1) (ag (am _) (ag (am _) (cz))))))) rfl (.same _ .nil)) ?_
 exact hl132 _ (zi h).symm
 refine aE (aT ?_)
 refine aB [0,2] (by kernel_rfl) (es':=[(_,_),(_,_)]) rfl ?_
 exact hl132 _ (zi h).symm
 refine aE (aT ?_)
 refine aB [0,3] (by kernel_rfl) (es':=[(_,_),(_,_)]) rfl ?_
 exact hl132 _ (zi h).symm
theorem jR (mx:Int) (l:(List T_Rec)) (r:(ai×Int)) (h:Sh.gg l=some r):kM Tryz.prog (GL mx) 9 [.fr .shr true 15 (flatten (map T_Rec.ienc l))] (.tup [.agg [.hid (bu 47 11 (flatten (map bD r.1.GP))),.v (.int .i64 r.1.GY),.fl (.own 3) 1 (map (int .i64) r.1.Hb),.fl (.own 5) 1 (map (int .u8) r.1.GZ),.v (.int .i64 r.1.Of),.fl (.own 3) 1 (map (int .i64) r.1.GK)],.v (.int .i64 r.2)]):=by
 unfold Sh.gg at h
 refine yG 27 func9 fun g0 hn hio => ?_
 refine iJ hn 0 ?_
 refine yS (.box 37 [vz,vi 0,vz,vz,vi 0,vz]) 1 ⟨oA (bj _ _ iF)⟩ ?_
 refine cN [0,27,2] ?_
 refine aj ?_
 obtain ⟨v1,hv1,h⟩:=zn h
 refine yx hn 0 ?_
 refine yS (.agg [.hid (bu 47 11 (flatten (map bD v1.GP))),vi v1.GY,.fl (.own 3) 1 (map (int .i64) v1.Hb),.fl (.own 5) 1 (map (int .u8) v1.GZ),vi v1.Of,.fl (.own 3) 1 (map (int .i64) v1.GK)]) 0 ⟨nI _ _ 24 _ _ rfl call24 rfl (mX  _ hv1) rfl (ix (aG (fY (eU jB _) (fy jy _)) (aG (bc rfl rfl) (aG (bc rfl rfl) (aG (bc rfl rfl) (aG (bc rfl rfl) (aG (bc rfl rfl) (cC))))))))⟩ ?_
 refine yS (.box 37 [vz,vi 0,vz,vz,vi 0,vz]) 0 ⟨oA (bj _ _ iF)⟩ ?_
 refine yk [7,4] [] ?_
 refine yt (4,.box 37 [.hid (bu 47 11 (flatten (map bD v1.GP))),vi v1.GY,.fl (.own 3) 1 (map (int .i64) v1.Hb),.fl (.own 5) 1 (map (int .u8) v1.GZ),vi v1.Of,.fl (.own 3) 1 (map (int .i64) v1.GK)]) 0 ⟨aC _ _ _ _ _ _ _ _ dn rfl rfl rfl (zl rfl) rfl rfl⟩ ?_
 refine cN [0,27,2,4] ?_
 refine aj ?_
 refine aZ hn 3 [0,27,2,4,8,9,10] ?_
 refine bp h (fun ((s18,s19,s20,s21,s22,s23,s24):(List ae)×Int×(List Int)×(List Int)×Int×(List Int)×Int)=>[(0,.fr .shr true 15 (flatten (map T_Rec.ienc l))),(27,.glob (GL mx)),(2,.box 37 [vz,vi 0,vz,vz,vi 0,vz]),(4,.box 37 [.hid (bu 47 11 (flatten (map bD s18))),vi s19,.fl (.own 3) 1 (map (int .i64) s20),.fl (.own 5) 1 (map (int .u8) s21),vi s22,.fl (.own 3) 1 (map (int .i64) s23)]),(8,.fr .shr true 15 (flatten (map T_Rec.ienc l))),(9,vi (l.length:Int)),(10,vi s24)]) (fun ((s27,s28,s29,s30,s31,s32):(List ae)×Int×(List Int)×(List Int)×Int×(List Int))=>[(0,.fr .shr true 15 (flatten (map T_Rec.ienc l))),(27,.glob (GL mx)),(2,.box 37 [vz,vi 0,vz,vz,vi 0,vz]),(4,.box 37 [.hid (bu 47 11 (flatten (map bD s27))),vi s28,.fl (.own 3) 1 (map (int .i64) s29),.fl (.own 5) 1 (map (int .u8) s30),vi s31,.fl (.own 3) 1 (map (int .i64) s32)])]) ?_ ?_
 rintro ⟨s27,s28,s29,s30,s31,s32⟩ h
 refine ak ?_
 refine iJ hn 0 ?_
 refine yk [4] [] ?_
 refine yt (24,.agg [.hid (bu 47 11 (flatten (map bD s27))),vi s28,.fl (.own 3) 1 (map (int .i64) s29),.fl (.own 5) 1 (map (int .u8) s30),vi s31,.fl (.own 3) 1 (map (int .i64) s32)]) 2 ⟨aW _ _ _ _ underlying37 rfl dn rfl rfl⟩ ?_
 refine yk [24,2] [] ?_
 refine yt (2,.box 37 [.hid (bu 47 11 (flatten (map bD s27))),vi s28,.fl (.own 3) 1 (map (int .i64) s29),.fl (.own 5) 1 (map (int .u8) s30),vi s31,.fl (.own 3) 1 (map (int .i64) s32)]) 1 ⟨aC _ _ _ _ _ _ _ _ dn rfl rfl rfl (zl rfl) rfl rfl⟩ ?_
 refine cN [27,2,3] ?_
 refine aD ?_
 refine aB [1,2] (by kernel_rfl) (es':=[(_,_),(_,_)]) rfl ?_
 obtain rfl:=zi h
 exact aJ hio rfl (.cellA _ _ _ _ underlying37 rfl dn (.tmp _ _ .nil)) rfl rfl
 rintro u33 hl34 hr35 ⟨s18,s19,s20,s21,s22,s23,s24⟩ rr38 h ho36
 refine aZ hn 1 [0,27,2,4,8,9,10,11] ?_
 refine aj ?_
 refine zc h rfl (fun h => ?_) (fun h => ?_)
 refine aE ?_
 refine ak (aj ?_)
 refine aU (aj ?_)
 obtain ⟨v3,hv3,v4,hv4,h⟩:=ii h
 refine yx hn 1 ?_
 refine ys 0 ⟨lI hv3⟩ ?_
 refine yS (.agg (T_Rec.c v4 [])) 0 ⟨cJ _ _ _ _ _ _ _ _ underlying31 rfl gN rfl rfl (dx T_Rec.ilen hv4) (.cons (.v _) (.cons (.v _) (.cons (.v _) (.cons (.v _) (.cons (.fl _ _ rfl) (.cons (.fl _ _ rfl) (.cons (.v _) (.cons (.v _) (.cons (.v _) (.cons (.v _) (.cons (.fl _ _ rfl) (.cons (.v _) (.cons (.v _) (.cons (.v _) (.cons (.fl _ _ rfl) (.nil)))))))))))))))) rfl (by decide)⟩ ?_
 refine yS (.box 31 [vi 0,vb false,vs z0,vs z0,vz,vz,vb false,vs z0,vi 0,vi 0,vz,vi 0,vi 0,vi 0,vz]) 2 ⟨oA (bj _ _ kq)⟩ ?_
 refine cN [0,27,2,4,8,9,10,6,5] ?_
 refine aj (aj ?_)
 obtain ⟨v5,hv5,h⟩:=zn h
 refine yx hn 2 ?_
 refine yS (vb v5) 1 ⟨xP _ _ 27 25 _ _ rfl call25 (eP rfl (.o rfl rfl (gX gU _) (.p rfl (.p rfl (.p rfl (.p rfl (.p rfl .nil)))))) (cM rfl du)) rfl (fun _ h=>h) (lD mx (ai.mk s18 s19 s20 s21 s22 s23) ((T_Rec.mk v4.GQ ((T_Mail.mk (T_Path.mk v4.GS.GM.GT v4.GS.GM.GR v4.GS.GM.GJ) v4.GS.To v4.GS.GH v4.GS.Ha v4.GS.GN v4.GS.At)) v4.Id v4.GO v4.GW v4.GU v4.GV v4.GI)) _ hv5) rfl rfl⟩ ?_
 refine cN [0,27,2,4,8,9,10,6,5,18] ?_
 refine zc h rfl (fun h => ?_) (fun h => ?_)
 refine iJ hn 0 ?_
 refine yk [4] [] ?_
 refine yt (19,.agg [.hid (bu 47 11 (flatten (map bD s18))),vi s19,.fl (.own 3) 1 (map (int .i64) s20),.fl (.own 5) 1 (map (int .u8) s21),vi s22,.fl (.own 3) 1 (map (int .i64) s23)]) 1 ⟨aW _ _ _ _ underlying37 rfl dn rfl rfl⟩ ?_
 refine yk [19,2] [] ?_
 refine yt (2,.box 37 [.hid (bu 47 11 (flatten (map bD s18))),vi s19,.fl (.own 3) 1 (map (int .i64) s20),.fl (.own 5) 1 (map (int .u8) s21),vi s22,.fl (.own 3) 1 (map (int .i64) s23)]) 1 ⟨aC _ _ _ _ _ _ _ _ dn rfl rfl rfl (zl rfl) rfl rfl⟩ ?_
 refine cN [27,2,3] ?_
 refine aD ?_
 refine aB [1,2] (by kernel_rfl) (es':=[(_,_),(_,_)]) rfl ?_
 refine ay (aV (ay (ay (aV (ay ?_)))))
 have h:=hr35 _ (ho36 _ (zi h).symm).symm
 obtain rfl:=zi h
 exact aJ hio rfl (.cellA _ _ _ _ underlying37 rfl dn (.tmp _ _ .nil)) rfl rfl
 refine aE (ak ?_)
 obtain ⟨v7,hv7,h⟩:=zn h
 refine yx hn 1 ?_
 refine yk [4] [21] ?_
 refine wZ (4,.box 37 [.hid (bu 47 11 (flatten (map bD v7.GP))),vi v7.GY,.fl (.own 3) 1 (map (int .i64) v7.Hb),.fl (.own 5) 1 (map (int .u8) v7.GZ),vi v7.Of,.fl (.own 3) 1 (map (int .i64) v7.GK)]) (22,.tup []) 0 ⟨rL _ _ _ _ 22 26 [.tmp 4] [.tmp 21] _ _ _ rfl call26 rfl rfl (cM rfl du) (kN (ai.mk s18 s19 s20 s21 s22 s23) ((T_Rec.mk v4.GQ ((T_Mail.mk (T_Path.mk v4.GS.GM.GT v4.GS.GM.GR v4.GS.GM.GJ) v4.GS.To v4.GS.GH v4.GS.Ha v4.GS.GN v4.GS.At)) v4.Id v4.GO v4.GW v4.GU v4.GV v4.GI)) _ hv7) (zl rfl) rfl rfl rfl (jf (cC)) (aG (uC (aG (fY (eU jB _) (fy jy _)) (aG (bc rfl rfl) (aG (bc rfl rfl) (aG (bc rfl rfl) (aG (bc rfl rfl) (aG (bc rfl rfl) (cC)))))))) (cC)) rfl rfl rfl⟩ ?_
 refine ye [0,27,2,4,8,9,10] ?_
 refine aT (ak ?_)
 obtain ⟨v8,hv8,h⟩:=zn h
 refine yx hn 0 ?_
 refine ys 0 ⟨lb hv8⟩ ?_
 refine yw [10] 1 ?_
 refine ye [0,27,2,4,8,9,10] ?_
 exact bH _ (zi h).symm rfl
 refine bF (aH (aH (bG ?_)))
 refine aB [0,1,2,3] (by kernel_rfl) (es':=[(_,_),(_,_),(_,_),(_,_)]) rfl ?_
 exact hl34 _ (ho36 _ (zi h).symm).symm
theorem kA (r:ai) (h:Sh.fW  = some r):cg Tryz.prog 27 [] (.agg [.fr (.own 47) false 11 (flatten (map ae.ienc r.GP)),.v (.int .i64 r.GY),.fl (.own 3) 1 (map (int .i64) r.Hb),.fl (.own 5) 1 (map (int .u8) r.GZ),.v (.int .i64 r.Of),.fl (.own 3) 1 (map (int .i64) r.GK)]):=by
 unfold Sh.fW at h
 refine yO 2 func27 fun g0 hn hio => ?_
 refine iJ hn 0 ?_
 refine yS (.box 37 [vz,vi 0,vz,vz,vi 0,vz]) 0 ⟨oA (bj _ _ iF)⟩ ?_
 refine cN [0] ?_
 refine iJ hn 0 ?_
 refine yS (.agg [vz,vi 0,vz,vz,vi (-1),vz]) 1 ⟨cw _ _ _ _ [1,1,1,1,1,1] _ _ underlying37 iF (zO _ underlying37) (.copy _ mJ.nil) rfl rfl rfl⟩ ?_
 refine cN [0] ?_
 refine aD ?_
 refine eW (fs:=[(0,.box 37 [.fr (.own 47) false 11 (flatten (map ae.ienc [])),vi 0,.fl (.own 3) 1 (map (int .i64) []),.fl (.own 5) 1 (map (int .u8) []),vi (-1),.fl (.own 3) 1 (map (int .i64) [])])]) (.box _ _ (ag (ij 47 false 11) (ag (am _) (ag (dA 3 1) (ag (dA 5 1) (ag (am _) (ag (dA 3 1) (cz))))))) rfl .nil) ?_
 obtain rfl:=zi h
 exact aJ hio rfl (.cellA _ _ _ _ underlying37 rfl dn .nil) rfl rfl
theorem jV (s:ai) (r:ai) (h:Sh.dG s=some r):cg Tryz.prog 34 [.agg [.fr .shr true 11 (flatten (map ae.ienc s.GP)),.v (.int .i64 s.GY),.fl .shr 1 (map (int .i64) s.Hb),.fl .shr 1 (map (int .u8) s.GZ),.v (.int .i64 s.Of),.fl .shr 1 (map (int .i64) s.GK)]] (.agg [.fr (.own 47) false 11 (flatten (map ae.ienc r.GP)),.v (.int .i64 r.GY),.fl (.own 3) 1 (map (int .i64) r.Hb),.fl (.own 5) 1 (map (int .u8) r.GZ),.v (.int .i64 r.Of),.fl (.own 3) 1 (map (int .i64) r.GK)]):=by
 unfold Sh.dG at h
 refine yO 43 func34 fun g0 hn hio => ?_
 refine iJ hn 1 ?_
 refine yS (.box 37 [vz,vi 0,vz,vz,vi 0,vz]) 0 ⟨oA (bj _ _ iF)⟩ ?_
 refine cN [1,2] ?_
 refine aj ?_
 obtain ⟨v1,hv1,v2,hv2,v3,hv3,h⟩:=pj h
 refine wb [[1],[6,1],[1],[8,1]] ?_
 refine wN [9] ?_
 refine wo [[1],[11,1]] ⟨lk call22 (ff _ _ hv1)⟩ ?_
 refine wN [12] ?_
 refine wo [[1],[14,1],[1],[16,1]] ⟨lk call23 (eY _ _ hv2)⟩ ?_
 refine wN [17] ?_
 refine wo [] ⟨lk call22 (ff _ _ hv3)⟩ ?_
 refine wK [10,13,18] [7,15] ?_
 refine wt [(19,.agg [vz,vi s.GY,.fl (.own 3) 1 (map (int .i64) v1),.fl (.own 5) 1 (map (int .u8) v2),vi s.Of,.fl (.own 3) 1 (map (int .i64) v3)])] [] ⟨cw _ _ _ _ [1,1,1,1,1,1] _ _ underlying37 iF (zO _ underlying37) (.copy _ (.take _ _ (.take _ _ (.copy _ (.take _ _ mJ.nil))))) rfl rfl rfl⟩ ?_
 refine wN [] ?_
 refine wS (.box 37 [vz,vi 0,vz,vz,vi 0,vz]) [] ⟨oA (bj _ _ iF)⟩ ?_
 refine wK [19,3] [] ?_
 refine wt [(3,.box 37 [vz,vi s.GY,.fl (.own 3) 1 (map (int .i64) v1),.fl (.own 5) 1 (map (int .u8) v2),vi s.Of,.fl (.own 3) 1 (map (int .i64) v3)])] [] ⟨aC _ _ _ _ _ _ _ _ dn rfl rfl rfl (zl rfl) rfl rfl⟩ ?_
 refine ue hn [1,2,3] ?_
 refine aj ?_
 refine aZ hn 1 [1,2,3,4] ?_
 refine nM (fs:=[(1,.box 37 (ai.c s [])),(2,.box 37 [vz,vi 0,vz,vz,vi 0,vz]),(3,.box 37 [.fr (.own 47) false 11 (flatten (map ae.ienc [])),vi s.GY,.fl (.own 3) 1 (map (int .i64) v1),.fl (.own 5) 1 (map (int .u8) v2),vi s.Of,.fl (.own 3) 1 (map (int .i64) v3)]),(4,vi 0)]) (.same _ (.same _ (.box _ _ (ag (ij 47 false 11) (ag (am _) (ag (am _) (ag (am _) (ag (am _) (ag (am _) (cz))))))) rfl (.same _ .nil)))) ?_
 refine bp h (fun ((s13,s14):(List ae)×Int)=>[(1,.box 37 (ai.c s [])),(2,.box 37 [vz,vi 0,vz,vz,vi 0,vz]),(3,.box 37 [.fr (.own 47) false 11 (flatten (map ae.ienc s13)),vi s.GY,.fl (.own 3) 1 (map (int .i64) v1),.fl (.own 5) 1 (map (int .u8) v2),vi s.Of,.fl (.own 3) 1 (map (int .i64) v3)]),(4,vi s14)]) (fun (s16:(List ae))=>[(2,.box 37 [vz,vi 0,vz,vz,vi 0,vz]),(3,.box 37 [.fr (.own 47) false 11 (flatten (map ae.ienc s16)),vi s.GY,.fl (.own 3) 1 (map (int .i64) v1),.fl (.own 5) 1 (map (int .u8) v2),vi s.Of,.fl (.own 3) 1 (map (int .i64) v3)])]) ?_ ?_
 rintro s16 h
 refine ak ?_
 refine iJ hn 0 ?_
 refine yk [3] [] ?_
 refine yt (42,.agg [.fr (.own 47) false 11 (flatten (map ae.ienc s16)),vi s.GY,.fl (.own 3) 1 (map (int .i64) v1),.fl (.own 5) 1 (map (int .u8) v2),vi s.Of,.fl (.own 3) 1 (map (int .i64) v3)]) 0 ⟨aW _ _ _ _ underlying37 rfl dn rfl rfl⟩ ?_
 refine yk [42,2] [] ?_
 refine yt (2,.box 37 [.fr (.own 47) false 11 (flatten (map ae.ienc s16)),vi s.GY,.fl (.own 3) 1 (map (int .i64) v1),.fl (.own 5) 1 (map (int .u8) v2),vi s.Of,.fl (.own 3) 1 (map (int .i64) v3)]) 0 ⟨aC _ _ _ _ _ _ _ _ dn rfl rfl rfl (zl rfl) rfl rfl⟩ ?_
 refine cN [2] ?_
 refine aD ?_
 obtain rfl:=zi h
 exact aJ hio rfl (.cellA _ _ _ _ underlying37 rfl dn .nil) rfl rfl
 rintro u17 hl18 hr19 ⟨s13,s14⟩ rr22 h ho20
 refine aj ?_
 refine aZ hn 5 [1,2,3,4,24] ?_
 refine zc h rfl (fun h => ?_) (fun h => ?_)
 refine aE ?_
 refine ak (aj ?_)
 refine aU (aj ?_)
 obtain ⟨v5,hv5,v6,hv6,h⟩:=ii h
 refine yx hn 3 ?_
 refine ys 0 ⟨lI hv5⟩ ?_
 refine yS (.agg (ae.c v6 [])) 0 ⟨cJ _ _ _ _ _ _ _ _ underlying47 rfl gj rfl rfl (dx ae.ilen hv6) (.cons (.v _) (.cons (.v _) (.cons (.v _) (.cons (.v _) (.cons (.fl _ _ rfl) (.cons (.fl _ _ rfl) (.cons (.v _) (.cons (.v _) (.cons (.v _) (.cons (.v _) (.cons (.v _) (.nil)))))))))))) rfl (by decide)⟩ ?_
 refine yS (.box 47 [vi 0,vb false,vs z0,vs z0,vz,vz,vb false,vs z0,vi 0,vi 0,vi 0]) 1 ⟨oA (bj _ _ nN)⟩ ?_
 refine cN [1,2,3,4,5] ?_
 refine aj ?_
 obtain ⟨v7,hv7,h⟩:=zn h
 refine yx hn 2 ?_
 refine ys 1 ⟨lk call21 (fg _ _ hv7)⟩ ?_
 refine yk [34,5] [35] ?_
 refine yt (5,.box 47 [vi v6.Id,vb v7.GM.GT,vs v7.GM.GR,vs v7.GM.GJ,.fl (.own 24) 3 (flatten (map T_Path.enc v7.To)),.fl (.own 5) 1 (map (int .u8) v7.GH),vb v7.Ha,vs v7.GN,vi v7.At,vi v6.Hc,vi v6.GX]) 0 ⟨aC _ _ _ _ _ _ _ _ ox rfl rfl rfl (zl rfl) rfl rfl⟩ ?_
 refine cN [1,2,3,4,5] ?_
 obtain ⟨v8,hv8,h⟩:=zn h
 refine yx hn 2 ?_
 refine yk [5] [] ?_
 refine yt (38,.agg [vi v6.Id,vb v7.GM.GT,vs v7.GM.GR,vs v7.GM.GJ,.fl (.own 24) 3 (flatten (map T_Path.enc v7.To)),.fl (.own 5) 1 (map (int .u8) v7.GH),vb v7.Ha,vs v7.GN,vi v7.At,vi v6.Hc,vi v6.GX]) 0 ⟨aW _ _ _ _ underlying47 rfl gj rfl rfl⟩ ?_
 refine yk [38] [] ?_
 refine yt (39,.fr (.own 47) false 11 (flatten (map ae.ienc [(ae.mk v6.Id ((T_Mail.mk (T_Path.mk v7.GM.GT v7.GM.GR v7.GM.GJ) v7.To v7.GH v7.Ha v7.GN v7.At)) v6.Hc v6.GX)]))) 0 ⟨eD _ _ _ 11 (.agg #[.int .i64 0,.bool false,.string ByteArray.empty,.string ByteArray.empty,.slice none 0 0,.slice none 0 0,.bool false,.string ByteArray.empty,.int .i64 0,.int .i64 0,.int .i64 0]) false _ _ underlying35 gj nN rfl (.cons (.v _) (.cons (.v _) (.cons (.v _) (.cons (.v _) (.cons (.ro _ _ rfl) (.cons (.ro _ _ rfl) (.cons (.v _) (.cons (.v _) (.cons (.v _) (.cons (.v _) (.cons (.v _) (.nil)))))))))))) rfl (by decide) (by decide)⟩ ?_
 refine yk [3] [37,39] ?_
 refine wZ (3,.box 37 [.any,vi s.GY,.fl (.own 3) 1 (map (int .i64) v1),.fl (.own 5) 1 (map (int .u8) v2),vi s.Of,.fl (.own 3) 1 (map (int .i64) v3)]) (40,.fr (.own 47) false 11 (flatten (map ae.ienc v8))) 1 ⟨lf _ 40 3 0 _ _ BI rfl rfl (zl rfl) rfl (bT ae.ilen _) (bT ae.ilen _) hv8 (im (iq hv8)) (by decide) (by decide) (by decide) rfl rfl⟩ ?_
 refine yw [37] 0 ?_
 refine yk [40,3] [41] ?_
 refine yt (3,.box 37 [.fr (.own 47) false 11 (flatten (map ae.ienc v8)),vi s.GY,.fl (.own 3) 1 (map (int .i64) v1),.fl (.own 5) 1 (map (int .u8) v2),vi s.Of,.fl (.own 3) 1 (map (int .i64) v3)]) 0 ⟨aC _ _ _ _ _ _ _ _ xt rfl rfl rfl (zl rfl) rfl rfl⟩ ?_
 refine ye [1,2,3,4] ?_
 refine aT (ak ?_)
 obtain ⟨v9,hv9,h⟩:=zn h
 refine yx hn 1 ?_
 refine ys 0 ⟨lb hv9⟩ ?_
 refine yw [4] 1 ?_
 refine ye [1,2,3,4] ?_
 exact bH _ (zi h).symm rfl
 refine bF (aH (aH (bG ?_)))
 refine aB [1,2] (by kernel_rfl) (es':=[(_,_),(_,_)]) rfl ?_
 exact hl18 _ (ho20 _ (zi h).symm).symm
theorem aN (n:Int) (lo:Int) (hi:Int) (r:Bool) (h:Sh.bK n lo hi=some r):cg Tryz.prog 35 [.v (.int .i64 n),.v (.int .i64 lo),.v (.int .i64 hi)] (.v (.bool r)):=by
 unfold Sh.bK at h
 refine yO 15 func35 fun g0 hn hio => ?_
 refine aZ hn 1 [0,1,2] ?_
 refine aj ?_
 refine aK h (fun (s1:Bool)=>[(6,vb s1)]) ?_ ?_
 rintro s1 h
 refine ak (aD ?_)
 obtain rfl:=zi h
 exact aJ hio rfl (.tmp _ _ .nil) rfl rfl
 intro u2 h hl3 hr4
 refine ao h (fun hg1_3 h => ?_) (fun hg1_3 h => ?_)
 refine yx hn 4 ?_
 refine yd hg1_3 5 ?_
 refine ye [6] ?_
 exact hl3 _ (zi h).symm
 refine yx hn 4 ?_
 refine yd hg1_3 5 ?_
 refine ye [6] ?_
 exact hl3 _ (zi h).symm
end Go.Proofs.YtjdmcbkkacnmdaaGreatDoor
