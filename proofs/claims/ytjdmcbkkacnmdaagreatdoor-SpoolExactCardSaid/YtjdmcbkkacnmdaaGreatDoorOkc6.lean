import Derived.Test.YtjdmcbkkacnmdaaGreatDoorOkc5
set_option linter.unusedVariables false
set_option linter.unusedSimpArgs false
set_option maxHeartbeats 1000000
namespace Go.Proofs.YtjdmcbkkacnmdaaGreatDoor
open Go.Abs Go.Abs.Sh Tryz
open List (map flatten)
open Value (int)
theorem iR (l:(List T_Rec)) (r:(ai×Int)) (h:Sh.dZ l=some r):cg Tryz.prog 10 [.fr .shr true 15 (flatten (map T_Rec.ienc l))] (.tup [.agg [.fr (.own 47) false 11 (flatten (map ae.ienc r.1.GP)),.v (.int .i64 r.1.GY),.fl (.own 3) 1 (map (int .i64) r.1.Hb),.fl (.own 5) 1 (map (int .u8) r.1.GZ),.v (.int .i64 r.1.Of),.fl (.own 3) 1 (map (int .i64) r.1.GK)],.v (.int .i64 r.2)]):=by
 unfold Sh.dZ at h
 refine yO 32 func10 fun g0 hn hio => ?_
 refine iJ hn 0 ?_
 refine yS (.box 37 [vz,vi 0,vz,vz,vi 0,vz]) 1 ⟨oA (bj _ _ iF)⟩ ?_
 refine cN [0,2] ?_
 refine aj ?_
 obtain ⟨v1,hv1,h⟩:=zn h
 refine yx hn 0 ?_
 refine ys 0 ⟨lk call27 (kA _ hv1)⟩ ?_
 refine yS (.box 37 [vz,vi 0,vz,vz,vi 0,vz]) 0 ⟨oA (bj _ _ iF)⟩ ?_
 refine yk [8,4] [] ?_
 refine yt (4,.box 37 [.fr (.own 47) false 11 (flatten (map ae.ienc v1.GP)),vi v1.GY,.fl (.own 3) 1 (map (int .i64) v1.Hb),.fl (.own 5) 1 (map (int .u8) v1.GZ),vi v1.Of,.fl (.own 3) 1 (map (int .i64) v1.GK)]) 0 ⟨aC _ _ _ _ _ _ _ _ dn rfl rfl rfl (zl rfl) rfl rfl⟩ ?_
 refine cN [0,2,4] ?_
 refine aj ?_
 refine aZ hn 1 [0,2,4,5] ?_
 refine bp h (fun ((s17,s18,s19,s20,s21,s22,s23):(List ae)×Int×(List Int)×(List Int)×Int×(List Int)×Int)=>[(0,.fr .shr true 15 (flatten (map T_Rec.ienc l))),(2,.box 37 [vz,vi 0,vz,vz,vi 0,vz]),(4,.box 37 [.fr (.own 47) false 11 (flatten (map ae.ienc s17)),vi s18,.fl (.own 3) 1 (map (int .i64) s19),.fl (.own 5) 1 (map (int .u8) s20),vi s21,.fl (.own 3) 1 (map (int .i64) s22)]),(5,vi s23)]) (fun ((s26,s27,s28,s29,s30,s31):(List ae)×Int×(List Int)×(List Int)×Int×(List Int))=>[(0,.fr .shr true 15 (flatten (map T_Rec.ienc l))),(2,.box 37 [vz,vi 0,vz,vz,vi 0,vz]),(4,.box 37 [.fr (.own 47) false 11 (flatten (map ae.ienc s26)),vi s27,.fl (.own 3) 1 (map (int .i64) s28),.fl (.own 5) 1 (map (int .u8) s29),vi s30,.fl (.own 3) 1 (map (int .i64) s31)])]) ?_ ?_
 rintro ⟨s26,s27,s28,s29,s30,s31⟩ h
 refine ak ?_
 refine iJ hn 0 ?_
 refine yk [4] [] ?_
 refine yt (29,.agg [.fr (.own 47) false 11 (flatten (map ae.ienc s26)),vi s27,.fl (.own 3) 1 (map (int .i64) s28),.fl (.own 5) 1 (map (int .u8) s29),vi s30,.fl (.own 3) 1 (map (int .i64) s31)]) 2 ⟨aW _ _ _ _ underlying37 rfl dn rfl rfl⟩ ?_
 refine yk [29,2] [] ?_
 refine yt (2,.box 37 [.fr (.own 47) false 11 (flatten (map ae.ienc s26)),vi s27,.fl (.own 3) 1 (map (int .i64) s28),.fl (.own 5) 1 (map (int .u8) s29),vi s30,.fl (.own 3) 1 (map (int .i64) s31)]) 1 ⟨aC _ _ _ _ _ _ _ _ dn rfl rfl rfl (zl rfl) rfl rfl⟩ ?_
 refine cN [2,3] ?_
 refine aD ?_
 obtain rfl:=zi h
 exact aJ hio rfl (.cellA _ _ _ _ underlying37 rfl dn (.tmp _ _ .nil)) rfl rfl
 rintro u32 hl33 hr34 ⟨s17,s18,s19,s20,s21,s22,s23⟩ rr37 h ho35
 refine aj ?_
 refine aZ hn 4 [0,2,4,5,12] ?_
 refine zc h rfl (fun h => ?_) (fun h => ?_)
 refine aE ?_
 refine ak (aj ?_)
 refine aU (aj ?_)
 obtain ⟨v3,hv3,v4,hv4,v5,hv5,h⟩:=pj h
 refine tH (by kernel_rfl) hn (El:=(_::_::_::_::_::(16,.agg [.same (.cell 4 0),vi s18,.same (.cell 4 2),.same (.cell 4 3),vi s21,.same (.cell 4 5)])::(17,.fr .shr true 15 (flatten (map T_Rec.ienc l)))::(18,vi s23)::(19,.eref (.slot 17) (v3 * 15))::(20,.agg (T_Rec.c v4 []))::(21,.tup [.agg [.fr (.own 47) false 11 (flatten (map ae.ienc v5.1.GP)),vi v5.1.GY,.fl (.own 3) 1 (map (int .i64) v5.1.Hb),.fl (.own 5) 1 (map (int .u8) v5.1.GZ),vi v5.1.Of,.fl (.own 3) 1 (map (int .i64) v5.1.GK)],vi v5.2])::(15,.tup [.agg [.fr (.own 47) false 11 (flatten (map ae.ienc v5.1.GP)),vi v5.1.GY,.fl (.own 3) 1 (map (int .i64) v5.1.Hb),.fl (.own 5) 1 (map (int .u8) v5.1.GZ),vi v5.1.Of,.fl (.own 3) 1 (map (int .i64) v5.1.GK)],.any])::(15,.tup [.any,vi v5.2])::(22,.agg [.fr (.own 47) false 11 (flatten (map ae.ienc v5.1.GP)),vi v5.1.GY,.fl (.own 3) 1 (map (int .i64) v5.1.Hb),.fl (.own 5) 1 (map (int .u8) v5.1.GZ),vi v5.1.Of,.fl (.own 3) 1 (map (int .i64) v5.1.GK)])::(15,.tup [.any,.any])::(23,vi v5.2)::(6,.box 37 [vz,vi 0,vz,vz,vi 0,vz])::(6,.box 37 [.fr (.own 47) false 11 (flatten (map ae.ienc v5.1.GP)),vi v5.1.GY,.fl (.own 3) 1 (map (int .i64) v5.1.Hb),.fl (.own 5) 1 (map (int .u8) v5.1.GZ),vi v5.1.Of,.fl (.own 3) 1 (map (int .i64) v5.1.GK)])::(7,vi v5.2)::[])) (init:=[0,1,2,3,4]) (fin:=[0,1,2,3,17,18]) (sps:=[zq [2] 5 16,zq [0] 6 17,zq [3] 7 18,zq [6,7] 8 19,zq [8,6] 9 20,zq [5,2,9] 10 21,⟨[],[10],[11,12],[(.slot 15)]⟩,⟨[],[11],[14,13],[(.slot 22)]⟩,zq [12] 15 23,zq [] 16 6,⟨[],[13,16],[17],[.cell 6 0,.cell 6 1,.cell 6 2,.cell 6 3,.cell 6 4,.cell 6 5]⟩,zq [15] 18 7]) (es':=[(_,_),(_,_),(_,_),(_,_),(6,.box 37 [.fr (.own 47) false 11 (flatten (map ae.ienc v5.1.GP)),vi v5.1.GY,.fl (.own 3) 1 (map (int .i64) v5.1.Hb),.fl (.own 5) 1 (map (int .u8) v5.1.GZ),vi v5.1.Of,.fl (.own 3) 1 (map (int .i64) v5.1.GK)]),(7,vi v5.2)]) (by kernel_rfl) rfl rfl ⟨zp rfl (vd _ _ _ _ _ _ _ underlying37 rfl dn rfl rfl (zl rfl) rfl rfl),z1 rfl,z1 rfl,zp rfl (uH _ _ _ _ _ _ _ _ underlying22 gN (by decide) rfl rfl rfl (cc hv3).1 (ng T_Rec.ilen (cc hv3).2) rfl),zp rfl (cJ _ _ _ _ _ _ _ _ underlying31 rfl gN rfl rfl (dx T_Rec.ilen hv4) (.cons (.v _) (.cons (.v _) (.cons (.v _) (.cons (.v _) (.cons (.fl _ _ rfl) (.cons (.fl _ _ rfl) (.cons (.v _) (.cons (.v _) (.cons (.v _) (.cons (.v _) (.cons (.fl _ _ rfl) (.cons (.v _) (.cons (.v _) (.cons (.v _) (.cons (.fl _ _ rfl) (.nil)))))))))))))))) rfl (by decide)),zp rfl (tp _ _ 16 _ _ rfl call16 rfl (jA (ai.mk s17 s18 s19 s20 s21 s22) ((T_Rec.mk v4.GQ ((T_Mail.mk (T_Path.mk v4.GS.GM.GT v4.GS.GM.GR v4.GS.GM.GJ) v4.GS.To v4.GS.GH v4.GS.Ha v4.GS.GN v4.GS.At)) v4.Id v4.GO v4.GW v4.GU v4.GV v4.GI)) _ hv5) rfl rfl),zp rfl (aY.split (A:=[]) 15 0 _ _ _ (ko _ _ _ _ rfl) (zl rfl) rfl rfl),zp rfl (kF _ _ _ _ _ rfl (zl rfl) rfl rfl (by decide) rfl),zp rfl (oE rfl),zp rfl (bj _ _ iF),zp rfl (aC _ _ _ _ _ _ _ _ dn rfl rfl rfl (zl rfl) rfl rfl),z2 rfl,zz⟩ ?_
 refine ak (aj ?_)
 refine aZ hn 2 [0,2,4,5,6,25] ?_
 refine zc h rfl (fun h => ?_) (fun h => ?_)
 refine iJ hn 0 ?_
 refine yk [4] [] ?_
 refine yt (26,.agg [.fr (.own 47) false 11 (flatten (map ae.ienc s17)),vi s18,.fl (.own 3) 1 (map (int .i64) s19),.fl (.own 5) 1 (map (int .u8) s20),vi s21,.fl (.own 3) 1 (map (int .i64) s22)]) 1 ⟨aW _ _ _ _ underlying37 rfl dn rfl rfl⟩ ?_
 refine yk [26,2] [] ?_
 refine yt (2,.box 37 [.fr (.own 47) false 11 (flatten (map ae.ienc s17)),vi s18,.fl (.own 3) 1 (map (int .i64) s19),.fl (.own 5) 1 (map (int .u8) s20),vi s21,.fl (.own 3) 1 (map (int .i64) s22)]) 1 ⟨aC _ _ _ _ _ _ _ _ dn rfl rfl rfl (zl rfl) rfl rfl⟩ ?_
 refine cN [2,3] ?_
 refine aD (ay (aV (ay (ay (aV (ay ?_))))))
 have h:=hr34 _ (ho35 _ (zi h).symm).symm
 obtain rfl:=zi h
 exact aJ hio rfl (.cellA _ _ _ _ underlying37 rfl dn (.tmp _ _ .nil)) rfl rfl
 refine aE (ak ?_)
 refine yx hn 0 ?_
 refine yk [6] [] ?_
 refine yt (28,.agg [.fr (.own 47) false 11 (flatten (map ae.ienc v5.1.GP)),vi v5.1.GY,.fl (.own 3) 1 (map (int .i64) v5.1.Hb),.fl (.own 5) 1 (map (int .u8) v5.1.GZ),vi v5.1.Of,.fl (.own 3) 1 (map (int .i64) v5.1.GK)]) 0 ⟨aW _ _ _ _ underlying37 rfl dn rfl rfl⟩ ?_
 refine yk [28,4] [] ?_
 refine yt (4,.box 37 [.fr (.own 47) false 11 (flatten (map ae.ienc v5.1.GP)),vi v5.1.GY,.fl (.own 3) 1 (map (int .i64) v5.1.Hb),.fl (.own 5) 1 (map (int .u8) v5.1.GZ),vi v5.1.Of,.fl (.own 3) 1 (map (int .i64) v5.1.GK)]) 0 ⟨aC _ _ _ _ _ _ _ _ dn rfl rfl rfl (zl rfl) rfl rfl⟩ ?_
 refine ye [0,2,4,5] ?_
 refine aT (ak ?_)
 obtain ⟨v7,hv7,h⟩:=zn h
 refine yx hn 1 ?_
 refine ys 0 ⟨lb hv7⟩ ?_
 refine yw [5] 1 ?_
 refine ye [0,2,4,5] ?_
 exact bH _ (zi h).symm rfl
 refine bF (aH (aH (bG ?_)))
 refine aB [0,1,2] (by kernel_rfl) (es':=[(_,_),(_,_),(_,_)]) rfl ?_
 exact hl33 _ (ho35 _ (zi h).symm).symm
theorem bX (a:ai) (b:ai) (r:Bool) (h:Sh.bP a b=some r):cg Tryz.prog 11 [.agg [.fr .shr true 11 (flatten (map ae.ienc a.GP)),.v (.int .i64 a.GY),.fl .shr 1 (map (int .i64) a.Hb),.fl .shr 1 (map (int .u8) a.GZ),.v (.int .i64 a.Of),.fl .shr 1 (map (int .i64) a.GK)],.agg [.fr .shr true 11 (flatten (map ae.ienc b.GP)),.v (.int .i64 b.GY),.fl .shr 1 (map (int .i64) b.Hb),.fl .shr 1 (map (int .u8) b.GZ),.v (.int .i64 b.Of),.fl .shr 1 (map (int .i64) b.GK)]] (.v (.bool r)):=by
 unfold Sh.bP at h
 refine yO 97 func11 fun g0 hn hio => ?_
 refine aZ hn 3 [2,3] ?_
 refine aj (aj ?_)
 refine aK h (fun (s4:Bool)=>[(2,.box 37 (ai.c a [])),(3,.box 37 (ai.c b [])),(52,vb s4)]) ?_ ?_
 rintro s4 h
 refine ak ?_
 refine zc h rfl (fun h => ?_) (fun h => ?_)
 refine aZ hn 1 [4] ?_
 refine aD (ay ?_)
 obtain rfl:=zi h
 exact aJ hio rfl (.tmp _ _ .nil) rfl rfl
 refine aE ?_
 refine ak (aj ?_)
 refine aZ hn 1 [2,3,5] ?_
 refine bp h (fun (s28:Int)=>[(2,.box 37 (ai.c a [])),(3,.box 37 (ai.c b [])),(5,vi s28)]) (fun (():Unit)=>[]) ?_ ?_
 rintro ⟨⟩ h
 refine ak ?_
 refine aZ hn 1 [4] ?_
 refine aD ?_
 obtain rfl:=zi h
 exact aJ hio rfl (.tmp _ _ .nil) rfl rfl
 rintro u35 hl36 hr37 s28 rr40 h ho38
 refine aj ?_
 refine aZ hn 5 [2,3,5,57] ?_
 refine zc h rfl (fun h => ?_) (fun h => ?_)
 refine aE ?_
 refine ak (aj ?_)
 refine aU (aj ?_)
 obtain ⟨v10,hv10,v11,hv11,v12,hv12,v13,hv13,h⟩:=pI h
 refine wb [[2],[60,2],[5]] ?_
 refine wN [61,62] ?_
 refine wo [] ⟨lI hv10⟩ ?_
 refine wN [63,61] ?_
 refine wS (.agg (ae.c v11 [])) [[3],[65,3],[5]] ⟨cJ _ _ _ _ _ _ _ _ underlying47 rfl gj rfl rfl (dx ae.ilen hv11) (.cons (.v _) (.cons (.v _) (.cons (.v _) (.cons (.v _) (.cons (.fl _ _ rfl) (.cons (.fl _ _ rfl) (.cons (.v _) (.cons (.v _) (.cons (.v _) (.cons (.v _) (.cons (.v _) (.nil)))))))))))) rfl (by decide)⟩ ?_
 refine wN [66,67] ?_
 refine wo [] ⟨lI hv12⟩ ?_
 refine wN [68,66] ?_
 refine wS (.agg (ae.c v13 [])) [] ⟨cJ _ _ _ _ _ _ _ _ underlying47 rfl gj rfl rfl (dx ae.ilen hv13) (.cons (.v _) (.cons (.v _) (.cons (.v _) (.cons (.v _) (.cons (.fl _ _ rfl) (.cons (.fl _ _ rfl) (.cons (.v _) (.cons (.v _) (.cons (.v _) (.cons (.v _) (.cons (.v _) (.nil)))))))))))) rfl (by decide)⟩ ?_
 refine wN [] ?_
 refine wS (.box 47 [vi 0,vb false,vs z0,vs z0,vz,vz,vb false,vs z0,vi 0,vi 0,vi 0]) [] ⟨oA (bj _ _ nN)⟩ ?_
 refine wN [] ?_
 refine wS (.box 47 [vi 0,vb false,vs z0,vs z0,vz,vz,vb false,vs z0,vi 0,vi 0,vi 0]) [] ⟨oA (bj _ _ nN)⟩ ?_
 refine wK [6] [64] ?_
 refine wt [(6,.box 47 (ae.c v11 []))] [] ⟨eS _ _ _ _ _ _ _ _ gj rfl rfl rfl rfl (zl rfl) rfl rfl⟩ ?_
 refine wK [7] [69] ?_
 refine wt [(7,.box 47 (ae.c v13 []))] [] ⟨eS _ _ _ _ _ _ _ _ gj rfl rfl rfl rfl (zl rfl) rfl rfl⟩ ?_
 refine ue hn [2,3,5,6,7] ?_
 refine aj ?_
 refine aK h (fun (s42:Bool)=>[(2,.box 37 (ai.c a [])),(3,.box 37 (ai.c b [])),(5,vi s28),(96,vb s42)]) ?_ ?_
 rintro s42 h
 refine ak ?_
 refine zc h rfl (fun h => ?_) (fun h => ?_)
 refine aZ hn 1 [4] ?_
 refine aD (aV (ay (ay (aV (ay ?_)))))
 have h:=hr37 _ (ho38 _ (zi h).symm).symm
 obtain rfl:=zi h
 exact aJ hio rfl (.tmp _ _ .nil) rfl rfl
 refine aE (aT (ak ?_))
 obtain ⟨v20,hv20,h⟩:=zn h
 refine yx hn 1 ?_
 refine ys 0 ⟨lb hv20⟩ ?_
 refine yw [5] 1 ?_
 refine ye [2,3,5] ?_
 exact bH _ (zi h).symm rfl
 intro u43 h hl44 hr45
 refine ao h (fun hg7_5 h => ?_) (fun hg7_5 h => ?_)
 refine yx hn 6 ?_
 refine yd hg7_5 21 ?_
 refine ye [2,3,5,96] ?_
 exact hl44 _ (zi h).symm
 obtain ⟨v14,hv14,h⟩:=zn h
 refine ao h (fun hg7_13 h => ?_) (fun hg7_13 h => ?_)
 refine yx hn 6 ?_
 refine yd hg7_5 4 ?_
 refine ys 3 ⟨lk call30 (bV _ _ _ hv14)⟩ ?_
 refine yd hg7_13 13 ?_
 refine ye [2,3,5,96] ?_
 exact hl44 _ (zi h).symm
 refine ao h (fun hg7_20 h => ?_) (fun hg7_20 h => ?_)
 refine yx hn 6 ?_
 refine yd hg7_5 4 ?_
 refine ys 3 ⟨lk call30 (bV _ _ _ hv14)⟩ ?_
 refine yd hg7_13 7 ?_
 refine yd hg7_20 6 ?_
 refine ye [2,3,5,96] ?_
 exact hl44 _ (zi h).symm
 refine yx hn 6 ?_
 refine yd hg7_5 4 ?_
 refine ys 3 ⟨lk call30 (bV _ _ _ hv14)⟩ ?_
 refine yd hg7_13 7 ?_
 refine yd hg7_20 6 ?_
 refine ye [2,3,5,96] ?_
 exact hl44 _ (zi h).symm
 refine bF (aH (aH (bG ?_)))
 refine aB [] (by kernel_rfl) (es':=[]) rfl ?_
 exact hl36 _ (ho38 _ (zi h).symm).symm
 intro u5 h hl6 hr7
 refine ao h (fun hg1_7 h => ?_) (fun hg1_7 h => ?_)
 refine yx hn 8 ?_
 refine yd hg1_7 37 ?_
 refine ye [2,3,52] ?_
 exact hl6 _ (zi h).symm
 refine ao h (fun hg1_14 h => ?_) (fun hg1_14 h => ?_)
 refine yx hn 8 ?_
 refine yd hg1_7 7 ?_
 refine yd hg1_14 30 ?_
 refine ye [2,3,52] ?_
 exact hl6 _ (zi h).symm
 obtain ⟨v1,hv1,h⟩:=zn h
 refine ao h (fun hg1_22 h => ?_) (fun hg1_22 h => ?_)
 refine yx hn 8 ?_
 refine yd hg1_7 7 ?_
 refine yd hg1_14 4 ?_
 refine ys 3 ⟨lk call28 (bU _ _ _ hv1)⟩ ?_
 refine yd hg1_22 22 ?_
 refine ye [2,3,52] ?_
 exact hl6 _ (zi h).symm
 obtain ⟨v2,hv2,h⟩:=zn h
 refine ao h (fun hg1_30 h => ?_) (fun hg1_30 h => ?_)
 refine yx hn 8 ?_
 refine yd hg1_7 7 ?_
 refine yd hg1_14 4 ?_
 refine ys 3 ⟨lk call28 (bU _ _ _ hv1)⟩ ?_
 refine yd hg1_22 4 ?_
 refine ys 3 ⟨lk call29 (co _ _ _ hv2)⟩ ?_
 refine yd hg1_30 14 ?_
 refine ye [2,3,52] ?_
 exact hl6 _ (zi h).symm
 refine ao h (fun hg1_37 h => ?_) (fun hg1_37 h => ?_)
 refine yx hn 8 ?_
 refine yd hg1_7 7 ?_
 refine yd hg1_14 4 ?_
 refine ys 3 ⟨lk call28 (bU _ _ _ hv1)⟩ ?_
 refine yd hg1_22 4 ?_
 refine ys 3 ⟨lk call29 (co _ _ _ hv2)⟩ ?_
 refine yd hg1_30 7 ?_
 refine yd hg1_37 7 ?_
 refine ye [2,3,52] ?_
 exact hl6 _ (zi h).symm
 obtain ⟨v3,hv3,h⟩:=zn h
 refine yx hn 8 ?_
 refine yd hg1_7 7 ?_
 refine yd hg1_14 4 ?_
 refine ys 3 ⟨lk call28 (bU _ _ _ hv1)⟩ ?_
 refine yd hg1_22 4 ?_
 refine ys 3 ⟨lk call29 (co _ _ _ hv2)⟩ ?_
 refine yd hg1_30 7 ?_
 refine yd hg1_37 4 ?_
 refine ys 2 ⟨lk call28 (bU _ _ _ hv3)⟩ ?_
 refine ye [2,3,52] ?_
 exact hl6 _ (zi h).symm
theorem gJ (l:(List Int)) (r:(List Int)) (h:Sh.eO l=some r):cg Tryz.prog 54 [.fl .shr 1 (map (int .i64) l)] (.fl (.own 3) 1 (map (int .i64) r)):=by
 unfold Sh.eO at h
 refine yO 5 func54 fun g0 hn hio => ?_
 refine aZ hn 1 [0] ?_
 refine aj ?_
 obtain ⟨v1,hv1,h⟩:=zn h
 refine yx hn 1 ?_
 refine yS (.fl (.own 3) 1 (map (int .i64) v1)) 0 ⟨gP _ _ _ _ vI rfl rfl (fe _) hv1 (congrArg (map _) (gY hv1))⟩ ?_
 refine ya 0 ?_
 refine cN [2] ?_
 refine aD ?_
 obtain rfl:=zi h
 exact aJ hio rfl (.tmp _ _ .nil) rfl rfl
theorem tK (p_r:T_Rec) (r:T_Rec) (h:Sh.jb p_r=some r):cg Tryz.prog 32 [.agg [.v (.int .i64 p_r.GQ),.v (.bool p_r.GS.GM.GT),.v (.string p_r.GS.GM.GR),.v (.string p_r.GS.GM.GJ),.fl .shr 3 (flatten (map T_Path.enc p_r.GS.To)),.fl .shr 1 (map (int .u8) p_r.GS.GH),.v (.bool p_r.GS.Ha),.v (.string p_r.GS.GN),.v (.int .i64 p_r.GS.At),.v (.int .i64 p_r.Id),.fl .shr 1 (map (int .i64) p_r.GO),.v (.int .i64 p_r.GW),.v (.int .i64 p_r.GU),.v (.int .i64 p_r.GV),.fl .shr 1 (map (int .u8) p_r.GI)]] (.agg [.v (.int .i64 r.GQ),.v (.bool r.GS.GM.GT),.v (.string r.GS.GM.GR),.v (.string r.GS.GM.GJ),.fl (.own 24) 3 (flatten (map T_Path.enc r.GS.To)),.fl (.own 5) 1 (map (int .u8) r.GS.GH),.v (.bool r.GS.Ha),.v (.string r.GS.GN),.v (.int .i64 r.GS.At),.v (.int .i64 r.Id),.fl (.own 3) 1 (map (int .i64) r.GO),.v (.int .i64 r.GW),.v (.int .i64 r.GU),.v (.int .i64 r.GV),.fl (.own 5) 1 (map (int .u8) r.GI)]):=by
 unfold Sh.jb at h
 refine yO 16 func32 fun g0 hn hio => ?_
 refine iJ hn 1 ?_
 refine yS (.box 31 [vi 0,vb false,vs z0,vs z0,vz,vz,vb false,vs z0,vi 0,vi 0,vz,vi 0,vi 0,vi 0,vz]) 0 ⟨oA (bj _ _ kq)⟩ ?_
 refine cN [1,2] ?_
 refine aj ?_
 obtain ⟨v1,hv1,h⟩:=zn h
 refine yx hn 2 ?_
 refine ys 1 ⟨lk call47 (jL _ _ hv1)⟩ ?_
 refine yk [5,1] [6] ?_
 refine yt (1,.box 31 [vi p_r.GQ,vb v1.GM.GT,vs v1.GM.GR,vs v1.GM.GJ,.fl (.own 24) 3 (flatten (map T_Path.enc v1.To)),.fl (.own 5) 1 (map (int .u8) v1.GH),vb v1.Ha,vs v1.GN,vi v1.At,vi p_r.Id,fi p_r.GO,vi p_r.GW,vi p_r.GU,vi p_r.GV,fb p_r.GI]) 0 ⟨aC _ _ _ _ _ _ _ _ ox rfl rfl rfl (zl rfl) rfl rfl⟩ ?_
 refine cN [1,2] ?_
 refine aj ?_
 obtain ⟨v2,hv2,h⟩:=zn h
 refine yx hn 2 ?_
 refine ys 1 ⟨lk call54 (gJ _ _ hv2)⟩ ?_
 refine yk [9,1] [10] ?_
 refine yt (1,.box 31 [vi p_r.GQ,vb v1.GM.GT,vs v1.GM.GR,vs v1.GM.GJ,.fl (.own 24) 3 (flatten (map T_Path.enc v1.To)),.fl (.own 5) 1 (map (int .u8) v1.GH),vb v1.Ha,vs v1.GN,vi v1.At,vi p_r.Id,.fl (.own 3) 1 (map (int .i64) v2),vi p_r.GW,vi p_r.GU,vi p_r.GV,fb p_r.GI]) 0 ⟨aC _ _ _ _ _ _ _ _ qt rfl rfl rfl (zl rfl) rfl rfl⟩ ?_
 refine cN [1,2] ?_
 refine aj ?_
 obtain ⟨v3,hv3,h⟩:=zn h
 refine yx hn 2 ?_
 refine ys 1 ⟨lk call55 (gm _ _ hv3)⟩ ?_
 refine yk [13,1] [14] ?_
 refine yt (1,.box 31 [vi p_r.GQ,vb v1.GM.GT,vs v1.GM.GR,vs v1.GM.GJ,.fl (.own 24) 3 (flatten (map T_Path.enc v1.To)),.fl (.own 5) 1 (map (int .u8) v1.GH),vb v1.Ha,vs v1.GN,vi v1.At,vi p_r.Id,.fl (.own 3) 1 (map (int .i64) v2),vi p_r.GW,vi p_r.GU,vi p_r.GV,.fl (.own 5) 1 (map (int .u8) v3)]) 0 ⟨aC _ _ _ _ _ _ _ _ tw rfl rfl rfl (zl rfl) rfl rfl⟩ ?_
 refine cN [1,2] ?_
 refine iJ hn 0 ?_
 refine yk [1] [] ?_
 refine yt (15,.agg [vi p_r.GQ,vb v1.GM.GT,vs v1.GM.GR,vs v1.GM.GJ,.fl (.own 24) 3 (flatten (map T_Path.enc v1.To)),.fl (.own 5) 1 (map (int .u8) v1.GH),vb v1.Ha,vs v1.GN,vi v1.At,vi p_r.Id,.fl (.own 3) 1 (map (int .i64) v2),vi p_r.GW,vi p_r.GU,vi p_r.GV,.fl (.own 5) 1 (map (int .u8) v3)]) 0 ⟨aW _ _ _ _ underlying31 rfl gN rfl rfl⟩ ?_
 refine yk [15,2] [] ?_
 refine yt (2,.box 31 [vi p_r.GQ,vb v1.GM.GT,vs v1.GM.GR,vs v1.GM.GJ,.fl (.own 24) 3 (flatten (map T_Path.enc v1.To)),.fl (.own 5) 1 (map (int .u8) v1.GH),vb v1.Ha,vs v1.GN,vi v1.At,vi p_r.Id,.fl (.own 3) 1 (map (int .i64) v2),vi p_r.GW,vi p_r.GU,vi p_r.GV,.fl (.own 5) 1 (map (int .u8) v3)]) 0 ⟨aC _ _ _ _ _ _ _ _ gN rfl rfl rfl (zl rfl) rfl rfl⟩ ?_
 refine cN [2] ?_
 refine aD ?_
 obtain rfl:=zi h
 exact aJ hio rfl (.cellA _ _ _ _ underlying31 rfl gN .nil) rfl rfl
theorem jO (mx:Int) (l:(List T_Rec)) (r:(List T_Rec)) (h:Sh.gZ l=some r):kM Tryz.prog (GL mx) 13 [.fr .shr true 15 (flatten (map T_Rec.ienc l))] (.fr (.own 31) false 15 (flatten (map T_Rec.ienc r))):=by
 unfold Sh.gZ at h
 refine yG 65 func13 fun g0 hn hio => ?_
 refine aZ hn 1 [0,65] ?_
 refine aj ?_
 obtain ⟨v1,hv1,h⟩:=zn h
 refine yx hn 1 ?_
 refine yS (.tup [.agg [.hid (bu 47 11 (flatten (map bD v1.1.GP))),vi v1.1.GY,.fl (.own 3) 1 (map (int .i64) v1.1.Hb),.fl (.own 5) 1 (map (int .u8) v1.1.GZ),vi v1.1.Of,.fl (.own 3) 1 (map (int .i64) v1.1.GK)],vi v1.2]) 0 ⟨jY _ _ 65 9 _ _ rfl call9 (cM rfl du) rfl (fun _ h=>h) (jR mx l _ hv1) rfl (jf (aG (ix (aG (fY (eU jB _) (fy jy _)) (aG (bc rfl rfl) (aG (bc rfl rfl) (aG (bc rfl rfl) (aG (bc rfl rfl) (aG (bc rfl rfl) (cC)))))))) (aG (bc rfl rfl) (cC))))⟩ ?_
 refine ym 0 ?_
 refine BT 1 ?_
 refine yS (.box 37 [vz,vi 0,vz,vz,vi 0,vz]) 0 ⟨oA (bj _ _ iF)⟩ ?_
 refine yk [14,3] [] ?_
 refine yt (3,.box 37 [.hid (bu 47 11 (flatten (map bD v1.1.GP))),vi v1.1.GY,.fl (.own 3) 1 (map (int .i64) v1.1.Hb),.fl (.own 5) 1 (map (int .u8) v1.1.GZ),vi v1.1.Of,.fl (.own 3) 1 (map (int .i64) v1.1.GK)]) 1 ⟨aC _ _ _ _ _ _ _ _ dn rfl rfl rfl (zl rfl) rfl rfl⟩ ?_
 refine cN [0,65,3,4] ?_
 refine aj ?_
 obtain ⟨v2,hv2,h⟩:=zn h
 refine yx hn 2 ?_
 refine yS (.fr .shr true 15 (flatten (map T_Rec.ienc v2))) 0 ⟨uq _ _ (Int.toNat 0) (Int.toNat v1.2) _ underlying22 gN (by decide) rfl rfl rfl ⟨_,congrArg (fun j=>AV.v (int .i64 j)) (vf hv2).2.1⟩ (vf hv2).2.2.1 (by rw [bT T_Rec.ilen]; exact Nat.mul_le_mul_right _ (vf hv2).2.2.2) (xz T_Rec.ilen hv2)⟩ ?_
 refine yw [0] 1 ?_
 refine cN [65,3,0] ?_
 refine aZ hn 1 [65,3,0,5] ?_
 refine aj ?_
 refine aZ hn 3 [65,3,0,5,19,20,21] ?_
 refine bp h (fun ((s53,s54):Int×Int)=>[(65,.glob (GL mx)),(3,.box 37 [.hid (bu 47 11 (flatten (map bD v1.1.GP))),vi v1.1.GY,.fl (.own 3) 1 (map (int .i64) v1.1.Hb),.fl (.own 5) 1 (map (int .u8) v1.1.GZ),vi v1.1.Of,.fl (.own 3) 1 (map (int .i64) v1.1.GK)]),(0,.fr .shr true 15 (flatten (map T_Rec.ienc v2))),(5,vi s53),(19,.fr .shr true 15 (flatten (map T_Rec.ienc v2))),(20,vi (v2.length:Int)),(21,vi s54)]) (fun (s70:Int)=>[(65,.glob (GL mx)),(3,.box 37 [.hid (bu 47 11 (flatten (map bD v1.1.GP))),vi v1.1.GY,.fl (.own 3) 1 (map (int .i64) v1.1.Hb),.fl (.own 5) 1 (map (int .u8) v1.1.GZ),vi v1.1.Of,.fl (.own 3) 1 (map (int .i64) v1.1.GK)]),(0,.fr .shr true 15 (flatten (map T_Rec.ienc v2))),(5,vi s70)]) ?_ ?_
 rintro s70 h
 refine ak ?_
 refine aZ hn 1 [65,3,0,5,8] ?_
 refine aj ?_
 refine aZ hn 3 [65,3,5,8,36,37,38] ?_
 refine nM (fs:=[(65,.glob (GL mx)),(3,.box 37 [.hid (bu 47 11 (flatten (map bD v1.1.GP))),vi v1.1.GY,.fl (.own 3) 1 (map (int .i64) v1.1.Hb),.fl (.own 5) 1 (map (int .u8) v1.1.GZ),vi v1.1.Of,.fl (.own 3) 1 (map (int .i64) v1.1.GK)]),(5,vi s70),(8,.fr (.own 31) false 15 (flatten (map T_Rec.ienc []))),(36,.fr .shr true 15 (flatten (map T_Rec.ienc v2))),(37,vi (v2.length:Int)),(38,vi 0)]) (.same _ (.same _ (.same _ (.sub _ (ij 31 false 15) rfl (.same _ (.same _ (.same _ .nil))))))) ?_
 refine bp h (fun ((s130,s131):(List T_Rec)×Int)=>[(65,.glob (GL mx)),(3,.box 37 [.hid (bu 47 11 (flatten (map bD v1.1.GP))),vi v1.1.GY,.fl (.own 3) 1 (map (int .i64) v1.1.Hb),.fl (.own 5) 1 (map (int .u8) v1.1.GZ),vi v1.1.Of,.fl (.own 3) 1 (map (int .i64) v1.1.GK)]),(5,vi s70),(8,.fr (.own 31) false 15 (flatten (map T_Rec.ienc s130))),(36,.fr .shr true 15 (flatten (map T_Rec.ienc v2))),(37,vi (v2.length:Int)),(38,vi s131)]) (fun (s147:(List T_Rec))=>[(65,.glob (GL mx)),(8,.fr (.own 31) false 15 (flatten (map T_Rec.ienc s147)))]) ?_ ?_
 rintro s147 h
 refine ak ?_
 refine iJ hn 0 ?_
 refine ym 0 ?_
 refine ya 0 ?_
 refine cN [65,2] ?_
 refine aD ?_
 refine aB [1] (by kernel_rfl) (es':=[(_,_)]) rfl ?_
 obtain rfl:=zi h
 exact aJ hio rfl (.tmp _ _ .nil) rfl rfl
 rintro u148 hl149 hr150 ⟨s130,s131⟩ rr153 h ho151
 refine aZ hn 1 [65,3,5,8,36,37,38,39] ?_
 refine aj ?_
 refine zc h rfl (fun h => ?_) (fun h => ?_)
 refine aE ?_
 refine ak (aj ?_)
 refine aK h (fun (s160:(List T_Rec))=>[(65,.glob (GL mx)),(3,.box 37 [.hid (bu 47 11 (flatten (map bD v1.1.GP))),vi v1.1.GY,.fl (.own 3) 1 (map (int .i64) v1.1.Hb),.fl (.own 5) 1 (map (int .u8) v1.1.GZ),vi v1.1.Of,.fl (.own 3) 1 (map (int .i64) v1.1.GK)]),(5,vi s70),(8,.fr (.own 31) false 15 (flatten (map T_Rec.ienc s160))),(36,.fr .shr true 15 (flatten (map T_Rec.ienc v2))),(37,vi (v2.length:Int)),(38,vi s131)]) ?_ ?_
 rintro s160 h
 refine ak ?_
 obtain ⟨v112,hv112,h⟩:=zn h
 refine yx hn 0 ?_
 refine ys 0 ⟨lb hv112⟩ ?_
 refine yw [38] 1 ?_
 refine ye [65,3,5,8,36,37,38] ?_
 exact bH _ (zi h).symm rfl
 intro u161 h hl162 hr163
 refine aU (aj ?_)
 obtain ⟨v93,hv93,v94,hv94,h⟩:=ii h
 refine yx hn 1 ?_
 refine ys 0 ⟨lI hv93⟩ ?_
 refine yS (.agg (T_Rec.c v94 [])) 0 ⟨cJ _ _ _ _ _ _ _ _ underlying31 rfl gN rfl rfl (dx T_Rec.ilen hv94) (.cons (.v _) (.cons (.v _) (.cons (.v _) (.cons (.v _) (.cons (.fl _ _ rfl) (.cons (.fl _ _ rfl) (.cons (.v _) (.cons (.v _) (.cons (.v _) (.cons (.v _) (.cons (.fl _ _ rfl) (.cons (.v _) (.cons (.v _) (.cons (.v _) (.cons (.fl _ _ rfl) (.nil)))))))))))))))) rfl (by decide)⟩ ?_
 refine yS (.box 31 [vi 0,vb false,vs z0,vs z0,vz,vz,vb false,vs z0,vi 0,vi 0,vz,vi 0,vi 0,vi 0,vz]) 2 ⟨oA (bj _ _ kq)⟩ ?_
 refine cN [65,3,5,8,36,37,38,10,9] ?_
 refine aj (aj ?_)
 refine aK h (fun (s164:Bool)=>[(65,.glob (GL mx)),(3,.box 37 [.hid (bu 47 11 (flatten (map bD v1.1.GP))),vi v1.1.GY,.fl (.own 3) 1 (map (int .i64) v1.1.Hb),.fl (.own 5) 1 (map (int .u8) v1.1.GZ),vi v1.1.Of,.fl (.own 3) 1 (map (int .i64) v1.1.GK)]),(5,vi s70),(8,.fr (.own 31) false 15 (flatten (map T_Rec.ienc s130))),(36,.fr .shr true 15 (flatten (map T_Rec.ienc v2))),(37,vi (v2.length:Int)),(38,vi s131),(10,.box 31 (T_Rec.c v94 [])),(57,vb s164)]) ?_ ?_
 rintro s164 h
 refine ak ?_
 refine zc h rfl (fun h => ?_) (fun h => ?_)
 refine bF (aH (bG ?_))
 refine aB [0,1,2,3,4,5,6] (by kernel_rfl) (es':=[(_,_),(_,_),(_,_),(_,_),(_,_),(_,_),(_,_)]) rfl ?_
 exact hl162 _ (zi h).symm
 refine aE (ak ?_)
 obtain ⟨v101,hv101,v102,hv102,h⟩:=ii h
 refine yx hn 0 ?_
 refine ym 1 ?_
 refine ys 0 ⟨lk call32 (tK _ _ hv101)⟩ ?_
 refine yk [60] [] ?_
 refine yt (61,.fr (.own 31) false 15 (flatten (map T_Rec.ienc [(T_Rec.mk v101.GQ ((T_Mail.mk (T_Path.mk v101.GS.GM.GT v101.GS.GM.GR v101.GS.GM.GJ) v101.GS.To v101.GS.GH v101.GS.Ha v101.GS.GN v101.GS.At)) v101.Id v101.GO v101.GW v101.GU v101.GV v101.GI)]))) 0 ⟨eD _ _ _ 15 (.agg #[.int .i64 0,.bool false,.string ByteArray.empty,.string ByteArray.empty,.slice none 0 0,.slice none 0 0,.bool false,.string ByteArray.empty,.int .i64 0,.int .i64 0,.slice none 0 0,.int .i64 0,.int .i64 0,.int .i64 0,.slice none 0 0]) false _ _ underlying22 gN kq rfl (.cons (.v _) (.cons (.v _) (.cons (.v _) (.cons (.v _) (.cons (.ro _ _ rfl) (.cons (.ro _ _ rfl) (.cons (.v _) (.cons (.v _) (.cons (.v _) (.cons (.v _) (.cons (.ro _ _ rfl) (.cons (.v _) (.cons (.v _) (.cons (.v _) (.cons (.ro _ _ rfl) (.nil)))))))))))))))) rfl (by decide) (by decide)⟩ ?_
 refine yk [58] [61] ?_
 refine wZ (58,.any) (62,.fr (.own 31) false 15 (flatten (map T_Rec.ienc v102))) 0 ⟨nE _ _ _ _ _ CV rfl rfl (bT T_Rec.ilen _) (bT T_Rec.ilen _) hv102 (im (iq hv102)) (by decide) (by decide)⟩ ?_
 refine ya 0 ?_
 refine ye [65,3,5,36,37,38,8] ?_
 refine aT ?_
 refine aB [0,1,2,6,3,4,5] (by kernel_rfl) (es':=[(_,_),(_,_),(_,_),(_,_),(_,_),(_,_),(_,_)]) rfl ?_
 exact hl162 _ (zi h).symm
 intro u165 h hl166 hr167
 refine ao h (fun hg14_3 h => ?_) (fun hg14_3 h => ?_)
 refine ao h (fun hg14_7 h => ?_) (fun hg14_7 h => ?_)
 refine yx hn 4 ?_
 refine yd hg14_3 4 ?_
 refine yd hg14_7 7 ?_
 refine ye [65,3,5,8,36,37,38,10,57] ?_
 exact hl166 _ (zi h).symm
 obtain ⟨v95,hv95,h⟩:=zn h
 refine yx hn 4 ?_
 refine yd hg14_3 4 ?_
 refine yd hg14_7 4 ?_
 refine ys 2 ⟨lk call31 (cZ _ _ _ hv95)⟩ ?_
 refine ye [65,3,5,8,36,37,38,10,57] ?_
 exact hl166 _ (zi h).symm
 refine yx hn 4 ?_
 refine yd hg14_3 11 ?_
 refine ye [65,3,5,8,36,37,38,10,57] ?_
 exact hl166 _ (zi h).symm
 refine bF (aH (aH (bG ?_)))
 refine aB [0,3] (by kernel_rfl) (es':=[(_,_),(_,_)]) rfl ?_
 exact hl149 _ (ho151 _ (zi h).symm).symm
 rintro u71 hl72 hr73 ⟨s53,s54⟩ rr76 h ho74
 refine aZ hn 1 [65,3,0,5,19,20,21,22] ?_
 refine aj ?_
 refine zc h rfl (fun h => ?_) (fun h => ?_)
 refine aE ?_
 refine ak (aj ?_)
 refine aK h (fun (s83:Int)=>[(65,.glob (GL mx)),(3,.box 37 [.hid (bu 47 11 (flatten (map bD v1.1.GP))),vi v1.1.GY,.fl (.own 3) 1 (map (int .i64) v1.1.Hb),.fl (.own 5) 1 (map (int .u8) v1.1.GZ),vi v1.1.Of,.fl (.own 3) 1 (map (int .i64) v1.1.GK)]),(0,.fr .shr true 15 (flatten (map T_Rec.ienc v2))),(19,.fr .shr true 15 (flatten (map T_Rec.ienc v2))),(20,vi (v2.length:Int)),(21,vi s54),(5,vi s83)]) ?_ ?_
 rintro s83 h
 refine ak ?_
 obtain ⟨v19,hv19,h⟩:=zn h
 refine yx hn 0 ?_
 refine ys 0 ⟨lb hv19⟩ ?_
 refine yw [21] 1 ?_
 refine ye [65,3,0,19,20,5,21] ?_
 refine aB [0,1,2,5,3,4,6] (by kernel_rfl) (es':=[(_,_),(_,_),(_,_),(_,_),(_,_),(_,_),(_,_)]) rfl ?_
 exact bH _ (zi h).symm rfl
 intro u84 h hl85 hr86
 refine aU (aj ?_)
 obtain ⟨v4,hv4,v5,hv5,h⟩:=ii h
 refine yx hn 1 ?_
 refine ys 0 ⟨lI hv4⟩ ?_
 refine yS (.agg (T_Rec.c v5 [])) 0 ⟨cJ _ _ _ _ _ _ _ _ underlying31 rfl gN rfl rfl (dx T_Rec.ilen hv5) (.cons (.v _) (.cons (.v _) (.cons (.v _) (.cons (.v _) (.cons (.fl _ _ rfl) (.cons (.fl _ _ rfl) (.cons (.v _) (.cons (.v _) (.cons (.v _) (.cons (.v _) (.cons (.fl _ _ rfl) (.cons (.v _) (.cons (.v _) (.cons (.v _) (.cons (.fl _ _ rfl) (.nil)))))))))))))))) rfl (by decide)⟩ ?_
 refine yS (.box 31 [vi 0,vb false,vs z0,vs z0,vz,vz,vb false,vs z0,vi 0,vi 0,vz,vi 0,vi 0,vi 0,vz]) 2 ⟨oA (bj _ _ kq)⟩ ?_
 refine cN [65,3,0,5,19,20,21,7,6] ?_
 refine aj ?_
 refine aK h (fun (s87:Bool)=>[(65,.glob (GL mx)),(3,.box 37 [.hid (bu 47 11 (flatten (map bD v1.1.GP))),vi v1.1.GY,.fl (.own 3) 1 (map (int .i64) v1.1.Hb),.fl (.own 5) 1 (map (int .u8) v1.1.GZ),vi v1.1.Of,.fl (.own 3) 1 (map (int .i64) v1.1.GK)]),(0,.fr .shr true 15 (flatten (map T_Rec.ienc v2))),(5,vi s53),(19,.fr .shr true 15 (flatten (map T_Rec.ienc v2))),(20,vi (v2.length:Int)),(21,vi s54),(6,vi s54),(33,vb s87)]) ?_ ?_
 rintro s87 h
 refine ak ?_
 refine zc h rfl (fun h => ?_) (fun h => ?_)
 refine yx hn 1 ?_
 refine yw [5] 1 ?_
 refine ye [65,3,0,19,20,21,5] ?_
 refine aT ?_
 exact hl85 _ (zi h).symm
 refine aE (aT ?_)
 refine aB [0,1,2,4,5,6,3] (by kernel_rfl) (es':=[(_,_),(_,_),(_,_),(_,_),(_,_),(_,_),(_,_)]) rfl ?_
 exact hl85 _ (zi h).symm
 intro u88 h hl89 hr90
 refine ao h (fun hg7_3 h => ?_) (fun hg7_3 h => ?_)
 refine yx hn 4 ?_
 refine yd hg7_3 4 ?_
 refine ye [65,3,0,5,19,20,21,6,33] ?_
 exact hl89 _ (zi h).symm
 refine yx hn 4 ?_
 refine yd hg7_3 4 ?_
 refine ye [65,3,0,5,19,20,21,6,33] ?_
 exact hl89 _ (zi h).symm
 refine bF (aH (aH (bG ?_)))
 refine aB [0,1,2,3] (by kernel_rfl) (es':=[(_,_),(_,_),(_,_),(_,_)]) rfl ?_
 exact hl72 _ (ho74 _ (zi h).symm).symm
theorem lZ (l:(List T_Rec)) (r:(List T_Rec)) (h:Sh.eK l=some r):cg Tryz.prog 14 [.fr .shr true 15 (flatten (map T_Rec.ienc l))] (.fr (.own 31) false 15 (flatten (map T_Rec.ienc r))):=by
 unfold Sh.eK at h
 refine yO 69 func14 fun g0 hn hio => ?_
 refine aZ hn 1 [0] ?_
 refine aj ?_
 obtain ⟨v1,hv1,h⟩:=zn h
 refine yx hn 1 ?_
 refine ys 0 ⟨lk call10 (iR _ _ hv1)⟩ ?_
 refine ym 0 ?_
 refine BT 1 ?_
 refine yS (.box 37 [vz,vi 0,vz,vz,vi 0,vz]) 0 ⟨oA (bj _ _ iF)⟩ ?_
 refine yk [12,3] [] ?_
 refine yt (3,.box 37 [.fr (.own 47) false 11 (flatten (map ae.ienc v1.1.GP)),vi v1.1.GY,.fl (.own 3) 1 (map (int .i64) v1.1.Hb),.fl (.own 5) 1 (map (int .u8) v1.1.GZ),vi v1.1.Of,.fl (.own 3) 1 (map (int .i64) v1.1.GK)]) 1 ⟨aC _ _ _ _ _ _ _ _ dn rfl rfl rfl (zl rfl) rfl rfl⟩ ?_
 refine cN [0,3,4] ?_
 refine aZ hn 1 [0,3,4,5] ?_
 refine aj ?_
 refine aZ hn 1 [0,3,4,5,6] ?_
 refine bp h (fun ((s54,s55):Int×Int)=>[(0,.fr .shr true 15 (flatten (map T_Rec.ienc l))),(3,.box 37 [.fr (.own 47) false 11 (flatten (map ae.ienc v1.1.GP)),vi v1.1.GY,.fl (.own 3) 1 (map (int .i64) v1.1.Hb),.fl (.own 5) 1 (map (int .u8) v1.1.GZ),vi v1.1.Of,.fl (.own 3) 1 (map (int .i64) v1.1.GK)]),(4,vi v1.2),(5,vi s54),(6,vi s55)]) (fun (s71:Int)=>[(0,.fr .shr true 15 (flatten (map T_Rec.ienc l))),(3,.box 37 [.fr (.own 47) false 11 (flatten (map ae.ienc v1.1.GP)),vi v1.1.GY,.fl (.own 3) 1 (map (int .i64) v1.1.Hb),.fl (.own 5) 1 (map (int .u8) v1.1.GZ),vi v1.1.Of,.fl (.own 3) 1 (map (int .i64) v1.1.GK)]),(4,vi v1.2),(5,vi s71)]) ?_ ?_
 rintro s71 h
 refine ak ?_
 refine aZ hn 1 [0,3,4,5,7] ?_
 refine aj ?_
 refine aZ hn 1 [0,3,4,5,7,8] ?_
 refine nM (fs:=[(0,.fr .shr true 15 (flatten (map T_Rec.ienc l))),(3,.box 37 [.fr (.own 47) false 11 (flatten (map ae.ienc v1.1.GP)),vi v1.1.GY,.fl (.own 3) 1 (map (int .i64) v1.1.Hb),.fl (.own 5) 1 (map (int .u8) v1.1.GZ),vi v1.1.Of,.fl (.own 3) 1 (map (int .i64) v1.1.GK)]),(4,vi v1.2),(5,vi s71),(7,.fr (.own 31) false 15 (flatten (map T_Rec.ienc []))),(8,vi 0)]) (.same _ (.same _ (.same _ (.same _ (.sub _ (ij 31 false 15) rfl (.same _ .nil)))))) ?_
 refine bp h (fun ((s134,s135):(List T_Rec)×Int)=>[(0,.fr .shr true 15 (flatten (map T_Rec.ienc l))),(3,.box 37 [.fr (.own 47) false 11 (flatten (map ae.ienc v1.1.GP)),vi v1.1.GY,.fl (.own 3) 1 (map (int .i64) v1.1.Hb),.fl (.own 5) 1 (map (int .u8) v1.1.GZ),vi v1.1.Of,.fl (.own 3) 1 (map (int .i64) v1.1.GK)]),(4,vi v1.2),(5,vi s71),(7,.fr (.own 31) false 15 (flatten (map T_Rec.ienc s134))),(8,vi s135)]) (fun (s151:(List T_Rec))=>[(7,.fr (.own 31) false 15 (flatten (map T_Rec.ienc s151)))]) ?_ ?_
 rintro s151 h
 refine ak ?_
 refine iJ hn 0 ?_
 refine ym 0 ?_
 refine ya 0 ?_
 refine cN [2] ?_
 refine aD ?_
 obtain rfl:=zi h
 exact aJ hio rfl (.tmp _ _ .nil) rfl rfl
 rintro u152 hl153 hr154 ⟨s134,s135⟩ rr157 h ho155
 refine aj ?_
 refine aZ hn 3 [0,3,4,5,7,8,36] ?_
 refine zc h rfl (fun h => ?_) (fun h => ?_)
 refine aE ?_
 refine ak (aj ?_)
 refine aK h (fun (s164:(List T_Rec))=>[(0,.fr .shr true 15 (flatten (map T_Rec.ienc l))),(3,.box 37 [.fr (.own 47) false 11 (flatten (map ae.ienc v1.1.GP)),vi v1.1.GY,.fl (.own 3) 1 (map (int .i64) v1.1.Hb),.fl (.own 5) 1 (map (int .u8) v1.1.GZ),vi v1.1.Of,.fl (.own 3) 1 (map (int .i64) v1.1.GK)]),(4,vi v1.2),(5,vi s71),(8,vi s135),(7,.fr (.own 31) false 15 (flatten (map T_Rec.ienc s164)))]) ?_ ?_
 rintro s164 h
 refine ak ?_
 obtain ⟨v116,hv116,h⟩:=zn h
 refine yx hn 1 ?_
 refine ys 0 ⟨lb hv116⟩ ?_
 refine yw [8] 1 ?_
 refine ye [0,3,4,5,7,8] ?_
 exact bH _ (zi h).symm rfl
 intro u165 h hl166 hr167
 refine aU (aj ?_)
 refine aK h (fun (s168:Bool)=>[(0,.fr .shr true 15 (flatten (map T_Rec.ienc l))),(3,.box 37 [.fr (.own 47) false 11 (flatten (map ae.ienc v1.1.GP)),vi v1.1.GY,.fl (.own 3) 1 (map (int .i64) v1.1.Hb),.fl (.own 5) 1 (map (int .u8) v1.1.GZ),vi v1.1.Of,.fl (.own 3) 1 (map (int .i64) v1.1.GK)]),(4,vi v1.2),(5,vi s71),(7,.fr (.own 31) false 15 (flatten (map T_Rec.ienc s134))),(8,vi s135),(59,vb s168)]) ?_ ?_
 rintro s168 h
 refine ak ?_
 refine zc h rfl (fun h => ?_) (fun h => ?_)
 obtain ⟨v103,hv103,v104,hv104,v105,hv105,v106,hv106,h⟩:=pI h
 refine yx hn 0 ?_
 refine ym 2 ?_
 refine ys 0 ⟨lI hv103⟩ ?_
 refine yS (.agg (T_Rec.c v104 [])) 0 ⟨cJ _ _ _ _ _ _ _ _ underlying31 rfl gN rfl rfl (dx T_Rec.ilen hv104) (.cons (.v _) (.cons (.v _) (.cons (.v _) (.cons (.v _) (.cons (.fl _ _ rfl) (.cons (.fl _ _ rfl) (.cons (.v _) (.cons (.v _) (.cons (.v _) (.cons (.v _) (.cons (.fl _ _ rfl) (.cons (.v _) (.cons (.v _) (.cons (.v _) (.cons (.fl _ _ rfl) (.nil)))))))))))))))) rfl (by decide)⟩ ?_
 refine ys 0 ⟨lk call8 (fo _ _ hv105)⟩ ?_
 refine yk [65] [] ?_
 refine yt (66,.fr (.own 31) false 15 (flatten (map T_Rec.ienc [(T_Rec.mk v105.GQ ((T_Mail.mk (T_Path.mk v105.GS.GM.GT v105.GS.GM.GR v105.GS.GM.GJ) v105.GS.To v105.GS.GH v105.GS.Ha v105.GS.GN v105.GS.At)) v105.Id v105.GO v105.GW v105.GU v105.GV v105.GI)]))) 0 ⟨eD _ _ _ 15 (.agg #[.int .i64 0,.bool false,.string ByteArray.empty,.string ByteArray.empty,.slice none 0 0,.slice none 0 0,.bool false,.string ByteArray.empty,.int .i64 0,.int .i64 0,.slice none 0 0,.int .i64 0,.int .i64 0,.int .i64 0,.slice none 0 0]) false _ _ underlying22 gN kq rfl (.cons (.v _) (.cons (.v _) (.cons (.v _) (.cons (.v _) (.cons (.ro _ _ rfl) (.cons (.ro _ _ rfl) (.cons (.v _) (.cons (.v _) (.cons (.v _) (.cons (.v _) (.cons (.ro _ _ rfl) (.cons (.v _) (.cons (.v _) (.cons (.v _) (.cons (.ro _ _ rfl) (.nil)))))))))))))))) rfl (by decide) (by decide)⟩ ?_
 refine yk [60] [66] ?_
 refine wZ (60,.any) (67,.fr (.own 31) false 15 (flatten (map T_Rec.ienc v106))) 0 ⟨nE _ _ _ _ _ CV rfl rfl (bT T_Rec.ilen _) (bT T_Rec.ilen _) hv106 (im (iq hv106)) (by decide) (by decide)⟩ ?_
 refine ya 0 ?_
 refine ye [0,3,4,5,8,7] ?_
 refine aT ?_
 exact hl166 _ (zi h).symm
 refine aE (aT ?_)
 refine aB [0,1,2,3,5,4] (by kernel_rfl) (es':=[(_,_),(_,_),(_,_),(_,_),(_,_),(_,_)]) rfl ?_
 exact hl166 _ (zi h).symm
 intro u169 h hl170 hr171
 obtain ⟨v94,hv94,v95,hv95,h⟩:=ii h
 refine ao h (fun hg12_6 h => ?_) (fun hg12_6 h => ?_)
 refine wb [[0],[8]] ?_
 refine wN [39,40] ?_
 refine wo [[41,39]] ⟨lI hv94⟩ ?_
 refine wN [42,39] ?_
 refine wS (vi v95.GQ) [[43],[44]] ⟨bA _ _ _ _ _ _ _ underlying3 rfl rfl rfl (aL T_Rec.ilen hv95 rfl) (.v _)⟩ ?_
 refine wd hg12_6 [[45],[45],[45],[45],[45],[45],[45],[45],[45],[54],[54],[54],[45],[45]] ?_
 refine we hn [0,3,4,5,7,8,59] ?_
 exact hl170 _ (zi h).symm
 obtain ⟨v96,hv96,v97,hv97,h⟩:=ii h
 refine ao h (fun hg12_15 h => ?_) (fun hg12_15 h => ?_)
 refine wb [[0],[8]] ?_
 refine wN [39,40] ?_
 refine wo [[41,39]] ⟨lI hv94⟩ ?_
 refine wN [42,39] ?_
 refine wS (vi v95.GQ) [[43],[44]] ⟨bA _ _ _ _ _ _ _ underlying3 rfl rfl rfl (aL T_Rec.ilen hv95 rfl) (.v _)⟩ ?_
 refine wd hg12_6 [[45,0],[45,8]] ?_
 refine wN [45,46,47] ?_
 refine wo [[45,48,46]] ⟨lI hv96⟩ ?_
 refine wN [45,49,46] ?_
 refine wS (vi v97.GU) [[45,3],[45,51,3],[45,50,52],[45,53]] ⟨bA _ _ _ _ _ _ _ underlying3 rfl rfl rfl (aL T_Rec.ilen hv97 rfl) (.v _)⟩ ?_
 refine wd hg12_15 [[54,8],[54,5],[54,55,56],[45,54,57],[45,58]] ?_
 refine we hn [0,3,4,5,7,8,59] ?_
 exact hl170 _ (zi h).symm
 refine wb [[0],[8]] ?_
 refine wN [39,40] ?_
 refine wo [[41,39]] ⟨lI hv94⟩ ?_
 refine wN [42,39] ?_
 refine wS (vi v95.GQ) [[43],[44]] ⟨bA _ _ _ _ _ _ _ underlying3 rfl rfl rfl (aL T_Rec.ilen hv95 rfl) (.v _)⟩ ?_
 refine wd hg12_6 [[45,0],[45,8]] ?_
 refine wN [45,46,47] ?_
 refine wo [[45,48,46]] ⟨lI hv96⟩ ?_
 refine wN [45,49,46] ?_
 refine wS (vi v97.GU) [[45,3],[45,51,3],[45,50,52],[45,53]] ⟨bA _ _ _ _ _ _ _ underlying3 rfl rfl rfl (aL T_Rec.ilen hv97 rfl) (.v _)⟩ ?_
 refine wd hg12_15 [[54],[54],[54],[45,54],[45,58]] ?_
 refine we hn [0,3,4,5,7,8,59] ?_
 exact hl170 _ (zi h).symm
 refine bF (aH (aH (bG ?_)))
 refine aB [4] (by kernel_rfl) (es':=[(_,_)]) rfl ?_
 exact hl153 _ (ho155 _ (zi h).symm).symm
 rintro u72 hl73 hr74 ⟨s54,s55⟩ rr77 h ho75
 refine aj ?_
 refine aZ hn 3 [0,3,4,5,6,16] ?_
 refine zc h rfl (fun h => ?_) (fun h => ?_)
 refine aE ?_
 refine ak (aj ?_)
 refine aK h (fun (s84:Int)=>[(0,.fr .shr true 15 (flatten (map T_Rec.ienc l))),(3,.box 37 [.fr (.own 47) false 11 (flatten (map ae.ienc v1.1.GP)),vi v1.1.GY,.fl (.own 3) 1 (map (int .i64) v1.1.Hb),.fl (.own 5) 1 (map (int .u8) v1.1.GZ),vi v1.1.Of,.fl (.own 3) 1 (map (int .i64) v1.1.GK)]),(4,vi v1.2),(6,vi s55),(5,vi s84)]) ?_ ?_
 rintro s84 h
 refine ak ?_
 obtain ⟨v20,hv20,h⟩:=zn h
 refine yx hn 1 ?_
 refine ys 0 ⟨lb hv20⟩ ?_
 refine yw [6] 1 ?_
 refine ye [0,3,4,5,6] ?_
 exact bH _ (zi h).symm rfl
 intro u85 h hl86 hr87
 refine aU (aj ?_)
 refine aK h (fun (s88:Bool)=>[(0,.fr .shr true 15 (flatten (map T_Rec.ienc l))),(3,.box 37 [.fr (.own 47) false 11 (flatten (map ae.ienc v1.1.GP)),vi v1.1.GY,.fl (.own 3) 1 (map (int .i64) v1.1.Hb),.fl (.own 5) 1 (map (int .u8) v1.1.GZ),vi v1.1.Of,.fl (.own 3) 1 (map (int .i64) v1.1.GK)]),(4,vi v1.2),(5,vi s54),(6,vi s55),(32,vb s88)]) ?_ ?_
 rintro s88 h
 refine ak ?_
 refine zc h rfl (fun h => ?_) (fun h => ?_)
 refine yx hn 1 ?_
 refine yw [5] 1 ?_
 refine ye [0,3,4,6,5] ?_
 refine aT ?_
 exact hl86 _ (zi h).symm
 refine aE (aT ?_)
 refine aB [0,1,2,4,3] (by kernel_rfl) (es':=[(_,_),(_,_),(_,_),(_,_),(_,_)]) rfl ?_
 exact hl86 _ (zi h).symm
 intro u89 h hl90 hr91
 obtain ⟨v3,hv3,v4,hv4,h⟩:=ii h
 refine ao h (fun hg6_6 h => ?_) (fun hg6_6 h => ?_)
 obtain ⟨v5,hv5,v6,hv6,h⟩:=ii h
 refine yx hn 2 ?_
 refine ys 1 ⟨lI hv3⟩ ?_
 refine yS (vi v4.GQ) 2 ⟨bA _ _ _ _ _ _ _ underlying3 rfl rfl rfl (aL T_Rec.ilen hv4 rfl) (.v _)⟩ ?_
 refine yd hg6_6 2 ?_
 refine ys 1 ⟨lI hv5⟩ ?_
 refine yS (vi v6.GV) 2 ⟨bA _ _ _ _ _ _ _ underlying3 rfl rfl rfl (aL T_Rec.ilen hv6 rfl) (.v _)⟩ ?_
 refine ye [0,3,4,5,6,32] ?_
 exact hl90 _ (zi h).symm
 refine yx hn 2 ?_
 refine ys 1 ⟨lI hv3⟩ ?_
 refine yS (vi v4.GQ) 2 ⟨bA _ _ _ _ _ _ _ underlying3 rfl rfl rfl (aL T_Rec.ilen hv4 rfl) (.v _)⟩ ?_
 refine yd hg6_6 7 ?_
 refine ye [0,3,4,5,6,32] ?_
 exact hl90 _ (zi h).symm
 refine bF (aH (aH (bG ?_)))
 refine aB [0,1,2,3] (by kernel_rfl) (es':=[(_,_),(_,_),(_,_),(_,_)]) rfl ?_
 exact hl73 _ (ho75 _ (zi h).symm).symm
theorem fh (a:(List T_Rec)) (b:(List T_Rec)) (r:Bool) (h:Sh.dN a b=some r):cg Tryz.prog 12 [.fr .shr true 15 (flatten (map T_Rec.ienc a)),.fr .shr true 15 (flatten (map T_Rec.ienc b))] (.v (.bool r)):=by
 unfold Sh.dN at h
 refine yO 27 func12 fun g0 hn hio => ?_
 refine aZ hn 1 [0,1] ?_
 refine aj ?_
 refine aZ hn 5 [0,1,10] ?_
 refine zc h rfl (fun h => ?_) (fun h => ?_)
 refine aZ hn 1 [4] ?_
 refine aD (ay ?_)
 obtain rfl:=zi h
 exact aJ hio rfl (.tmp _ _ .nil) rfl rfl
 refine aE ?_
 refine ak (aj ?_)
 refine aZ hn 1 [0,1,5] ?_
 refine bp h (fun (s13:Int)=>[(0,.fr .shr true 15 (flatten (map T_Rec.ienc a))),(1,.fr .shr true 15 (flatten (map T_Rec.ienc b))),(5,vi s13)]) (fun (():Unit)=>[]) ?_ ?_
 rintro ⟨⟩ h
 refine ak ?_
 refine aZ hn 1 [4] ?_
 refine aD ?_
 obtain rfl:=zi h
 exact aJ hio rfl (.tmp _ _ .nil) rfl rfl
 rintro u16 hl17 hr18 s13 rr21 h ho19
 refine aj ?_
 refine aZ hn 4 [0,1,5,14] ?_
 refine zc h rfl (fun h => ?_) (fun h => ?_)
 refine aE ?_
 refine ak (aj ?_)
 refine aU (aj ?_)
 obtain ⟨v3,hv3,v4,hv4,v5,hv5,v6,hv6,h⟩:=pI h
 obtain ⟨v7,hv7,h⟩:=zn h
 refine wb [[0],[5]] ?_
 refine wN [17,18] ?_
 refine wo [] ⟨lI hv3⟩ ?_
 refine wN [19,17] ?_
 refine wS (.agg (T_Rec.c v4 [])) [[1],[5]] ⟨cJ _ _ _ _ _ _ _ _ underlying31 rfl gN rfl rfl (dx T_Rec.ilen hv4) (.cons (.v _) (.cons (.v _) (.cons (.v _) (.cons (.v _) (.cons (.fl _ _ rfl) (.cons (.fl _ _ rfl) (.cons (.v _) (.cons (.v _) (.cons (.v _) (.cons (.v _) (.cons (.fl _ _ rfl) (.cons (.v _) (.cons (.v _) (.cons (.v _) (.cons (.fl _ _ rfl) (.nil)))))))))))))))) rfl (by decide)⟩ ?_
 refine wN [21,22] ?_
 refine wo [] ⟨lI hv5⟩ ?_
 refine wN [23,21] ?_
 refine wS (.agg (T_Rec.c v6 [])) [] ⟨cJ _ _ _ _ _ _ _ _ underlying31 rfl gN rfl rfl (dx T_Rec.ilen hv6) (.cons (.v _) (.cons (.v _) (.cons (.v _) (.cons (.v _) (.cons (.fl _ _ rfl) (.cons (.fl _ _ rfl) (.cons (.v _) (.cons (.v _) (.cons (.v _) (.cons (.v _) (.cons (.fl _ _ rfl) (.cons (.v _) (.cons (.v _) (.cons (.v _) (.cons (.fl _ _ rfl) (.nil)))))))))))))))) rfl (by decide)⟩ ?_
 refine wN [20,24] ?_
 refine wo [[25]] ⟨lk call18 (fu _ _ _ hv7)⟩ ?_
 refine ue hn [0,1,5,26] ?_
 refine zc h rfl (fun h => ?_) (fun h => ?_)
 refine aZ hn 1 [4] ?_
 refine aD (aV (ay (ay (aV (ay ?_)))))
 have h:=hr18 _ (ho19 _ (zi h).symm).symm
 obtain rfl:=zi h
 exact aJ hio rfl (.tmp _ _ .nil) rfl rfl
 refine aE (aT (ak ?_))
 obtain ⟨v9,hv9,h⟩:=zn h
 refine yx hn 1 ?_
 refine ys 0 ⟨lb hv9⟩ ?_
 refine yw [5] 1 ?_
 refine ye [0,1,5] ?_
 exact bH _ (zi h).symm rfl
 refine bF (aH (aH (bG ?_)))
 refine aB [] (by kernel_rfl) (es':=[]) rfl ?_
 exact hl17 _ (ho19 _ (zi h).symm).symm
theorem rD (x:ae) (r:ae) (h:Sh.jw x=some r):cg Tryz.prog 57 [.agg [.v (.int .i64 x.Id),.v (.bool x.GS.GM.GT),.v (.string x.GS.GM.GR),.v (.string x.GS.GM.GJ),.fl .shr 3 (flatten (map T_Path.enc x.GS.To)),.fl .shr 1 (map (int .u8) x.GS.GH),.v (.bool x.GS.Ha),.v (.string x.GS.GN),.v (.int .i64 x.GS.At),.v (.int .i64 x.Hc),.v (.int .i64 x.GX)]] (.agg [.v (.int .i64 r.Id),.v (.bool r.GS.GM.GT),.v (.string r.GS.GM.GR),.v (.string r.GS.GM.GJ),.fl (.own 24) 3 (flatten (map T_Path.enc r.GS.To)),.fl (.own 5) 1 (map (int .u8) r.GS.GH),.v (.bool r.GS.Ha),.v (.string r.GS.GN),.v (.int .i64 r.GS.At),.v (.int .i64 r.Hc),.v (.int .i64 r.GX)]):=by
 unfold Sh.jw at h
 refine yO 8 func57 fun g0 hn hio => ?_
 refine iJ hn 1 ?_
 refine yS (.box 47 [vi 0,vb false,vs z0,vs z0,vz,vz,vb false,vs z0,vi 0,vi 0,vi 0]) 0 ⟨oA (bj _ _ nN)⟩ ?_
 refine cN [1,2] ?_
 refine aj ?_
 obtain ⟨v1,hv1,h⟩:=zn h
 refine yx hn 2 ?_
 refine ys 1 ⟨lk call47 (jL _ _ hv1)⟩ ?_
 refine yk [5,1] [6] ?_
 refine yt (1,.box 47 [vi x.Id,vb v1.GM.GT,vs v1.GM.GR,vs v1.GM.GJ,.fl (.own 24) 3 (flatten (map T_Path.enc v1.To)),.fl (.own 5) 1 (map (int .u8) v1.GH),vb v1.Ha,vs v1.GN,vi v1.At,vi x.Hc,vi x.GX]) 0 ⟨aC _ _ _ _ _ _ _ _ ox rfl rfl rfl (zl rfl) rfl rfl⟩ ?_
 refine cN [1,2] ?_
 refine iJ hn 0 ?_
 refine yk [1] [] ?_
 refine yt (7,.agg [vi x.Id,vb v1.GM.GT,vs v1.GM.GR,vs v1.GM.GJ,.fl (.own 24) 3 (flatten (map T_Path.enc v1.To)),.fl (.own 5) 1 (map (int .u8) v1.GH),vb v1.Ha,vs v1.GN,vi v1.At,vi x.Hc,vi x.GX]) 0 ⟨aW _ _ _ _ underlying47 rfl gj rfl rfl⟩ ?_
 refine yk [7,2] [] ?_
 refine yt (2,.box 47 [vi x.Id,vb v1.GM.GT,vs v1.GM.GR,vs v1.GM.GJ,.fl (.own 24) 3 (flatten (map T_Path.enc v1.To)),.fl (.own 5) 1 (map (int .u8) v1.GH),vb v1.Ha,vs v1.GN,vi v1.At,vi x.Hc,vi x.GX]) 0 ⟨aC _ _ _ _ _ _ _ _ gj rfl rfl rfl (zl rfl) rfl rfl⟩ ?_
 refine cN [2] ?_
 refine aD ?_
 obtain rfl:=zi h
 exact aJ hio rfl (.cellA _ _ _ _ underlying47 rfl gj .nil) rfl rfl
theorem fU (l:(List ae)) (r:(List ae)) (h:Sh.bQ l=some r):cg Tryz.prog 56 [.fr .shr true 11 (flatten (map ae.ienc l)),.v (.func (.func 57) #[] #[])] (.hid (bu 47 11 (flatten (map bD r)))):=by
 unfold Sh.bQ at h
 refine yO 22 func56 fun g0 hn hio => ?_
 refine aZ hn 1 [0,1] ?_
 refine aZ hn 1 [0,1,5] ?_
 refine aj ?_
 refine aZ hn 3 [1,5,8,9,10] ?_
 refine nM (fs:=[(1,.v (.func (.func 57) #[] #[])),(5,.hid (bu 47 11 (flatten (map bD [])))),(8,.fr .shr true 11 (flatten (map ae.ienc l))),(9,vi (l.length:Int)),(10,vi 0)]) (.same _ (.sub _ (mD 47 11 bD) rfl (.same _ (.same _ (.same _ .nil))))) ?_
 refine bp h (fun ((s10,s11):(List ae)×Int)=>[(1,.v (.func (.func 57) #[] #[])),(5,.hid (bu 47 11 (flatten (map bD s10)))),(8,.fr .shr true 11 (flatten (map ae.ienc l))),(9,vi (l.length:Int)),(10,vi s11)]) (fun (s13:(List ae))=>[(5,.hid (bu 47 11 (flatten (map bD s13))))]) ?_ ?_
 rintro s13 h
 refine ak ?_
 refine iJ hn 0 ?_
 refine ym 0 ?_
 refine ya 0 ?_
 refine cN [4] ?_
 refine aD ?_
 obtain rfl:=zi h
 exact aJ hio rfl (.tmp _ _ .nil) rfl rfl
 rintro u14 hl15 hr16 ⟨s10,s11⟩ rr19 h ho17
 refine aZ hn 1 [1,5,8,9,10,11] ?_
 refine aj ?_
 refine zc h rfl (fun h => ?_) (fun h => ?_)
 refine aE ?_
 refine ak (aj ?_)
 refine aU (aj ?_)
 obtain ⟨v2,hv2,v3,hv3,h⟩:=ii h
 refine yx hn 0 ?_
 refine ys 0 ⟨lI hv2⟩ ?_
 refine yS (.agg (ae.c v3 [])) 0 ⟨cJ _ _ _ _ _ _ _ _ underlying47 rfl gj rfl rfl (dx ae.ilen hv3) (.cons (.v _) (.cons (.v _) (.cons (.v _) (.cons (.v _) (.cons (.fl _ _ rfl) (.cons (.fl _ _ rfl) (.cons (.v _) (.cons (.v _) (.cons (.v _) (.cons (.v _) (.cons (.v _) (.nil)))))))))))) rfl (by decide)⟩ ?_
 refine yS (.box 47 [vi 0,vb false,vs z0,vs z0,vz,vz,vb false,vs z0,vi 0,vi 0,vi 0]) 1 ⟨oA (bj _ _ nN)⟩ ?_
 refine cN [1,5,8,9,10,7] ?_
 obtain ⟨v4,hv4,v5,hv5,h⟩:=ii h
 refine yx hn 0 ?_
 refine ym 2 ?_
 refine ys 0 ⟨lk call57 (rD _ _ hv4)⟩ ?_
 refine yk [17] [] ?_
 refine yt (18,.hid (bu 47 11 (flatten (map bD [(ae.mk v4.Id ((T_Mail.mk (T_Path.mk v4.GS.GM.GT v4.GS.GM.GR v4.GS.GM.GJ) v4.GS.To v4.GS.GH v4.GS.Ha v4.GS.GN v4.GS.At)) v4.Hc v4.GX)])))) 0 ⟨mg _ _ _ 11 (.agg #[.int .i64 0,.bool false,.string ByteArray.empty,.string ByteArray.empty,.slice none 0 0,.slice none 0 0,.bool false,.string ByteArray.empty,.int .i64 0,.int .i64 0,.int .i64 0]) _ (flatten (map bD [(ae.mk v4.Id ((T_Mail.mk (T_Path.mk v4.GS.GM.GT v4.GS.GM.GR v4.GS.GM.GJ) v4.GS.To v4.GS.GH v4.GS.Ha v4.GS.GN v4.GS.At)) v4.Hc v4.GX)])) underlying35 gj nN rfl rfl rfl (by decide) (by decide) rfl⟩ ?_
 refine yk [14,18] [] ?_
 refine yn [(14,.any),(18,.any),(19,.hid (bu 47 11 (flatten (map bD v5))))] 0 ⟨vK _ 19 14 18 BI (bT aM _) (bT aM _) hv5 (im (iq hv5))⟩ ?_
 refine ya 0 ?_
 refine ye [1,8,9,10,5] ?_
 refine aT (ak ?_)
 obtain ⟨v6,hv6,h⟩:=zn h
 refine yx hn 0 ?_
 refine ys 0 ⟨lb hv6⟩ ?_
 refine yw [10] 1 ?_
 refine ye [1,8,9,5,10] ?_
 refine aB [0,3,1,2,4] (by kernel_rfl) (es':=[(_,_),(_,_),(_,_),(_,_),(_,_)]) rfl ?_
 exact bH _ (zi h).symm rfl
 refine bF (aH (aH (bG ?_)))
 refine aB [1] (by kernel_rfl) (es':=[(_,_)]) rfl ?_
 exact hl15 _ (ho17 _ (zi h).symm).symm
theorem pS (s:ai) (r:ai) (h:Sh.iD s=some r):cg Tryz.prog 33 [.agg [.fr .shr true 11 (flatten (map ae.ienc s.GP)),.v (.int .i64 s.GY),.fl .shr 1 (map (int .i64) s.Hb),.fl .shr 1 (map (int .u8) s.GZ),.v (.int .i64 s.Of),.fl .shr 1 (map (int .i64) s.GK)]] (.agg [.hid (bu 47 11 (flatten (map bD r.GP))),.v (.int .i64 r.GY),.fl (.own 3) 1 (map (int .i64) r.Hb),.fl (.own 5) 1 (map (int .u8) r.GZ),.v (.int .i64 r.Of),.fl (.own 3) 1 (map (int .i64) r.GK)]):=by
 unfold Sh.iD at h
 refine yO 20 func33 fun g0 hn hio => ?_
 refine iJ hn 1 ?_
 refine yS (.box 37 [vz,vi 0,vz,vz,vi 0,vz]) 0 ⟨oA (bj _ _ iF)⟩ ?_
 refine cN [1,2] ?_
 refine aj ?_
 obtain ⟨v1,hv1,h⟩:=zn h
 refine yx hn 2 ?_
 refine yS (.hid (bu 47 11 (flatten (map bD v1)))) 1 ⟨zG _ _ 56 _ rfl call56 rfl (fU s.GP _ hv1) (eU jB _) (fy jy _)⟩ ?_
 refine yk [5,1] [6] ?_
 refine yt (1,.box 37 [.hid (bu 47 11 (flatten (map bD v1))),vi s.GY,fi s.Hb,fb s.GZ,vi s.Of,fi s.GK]) 0 ⟨aC _ _ _ _ _ _ _ _ xt rfl rfl rfl (zl rfl) rfl rfl⟩ ?_
 refine cN [1,2] ?_
 refine aj ?_
 obtain ⟨v2,hv2,h⟩:=zn h
 refine yx hn 2 ?_
 refine ys 1 ⟨lk call54 (gJ _ _ hv2)⟩ ?_
 refine yk [9,1] [10] ?_
 refine yt (1,.box 37 [.hid (bu 47 11 (flatten (map bD v1))),vi s.GY,.fl (.own 3) 1 (map (int .i64) v2),fb s.GZ,vi s.Of,fi s.GK]) 0 ⟨aC _ _ _ _ _ _ _ _ qt rfl rfl rfl (zl rfl) rfl rfl⟩ ?_
 refine cN [1,2] ?_
 refine aj ?_
 obtain ⟨v3,hv3,h⟩:=zn h
 refine yx hn 2 ?_
 refine ys 1 ⟨lk call55 (gm _ _ hv3)⟩ ?_
 refine yk [13,1] [14] ?_
 refine yt (1,.box 37 [.hid (bu 47 11 (flatten (map bD v1))),vi s.GY,.fl (.own 3) 1 (map (int .i64) v2),.fl (.own 5) 1 (map (int .u8) v3),vi s.Of,fi s.GK]) 0 ⟨aC _ _ _ _ _ _ _ _ tw rfl rfl rfl (zl rfl) rfl rfl⟩ ?_
 refine cN [1,2] ?_
 refine aj ?_
 obtain ⟨v4,hv4,h⟩:=zn h
 refine yx hn 2 ?_
 refine ys 1 ⟨lk call54 (gJ _ _ hv4)⟩ ?_
 refine yk [17,1] [18] ?_
 refine yt (1,.box 37 [.hid (bu 47 11 (flatten (map bD v1))),vi s.GY,.fl (.own 3) 1 (map (int .i64) v2),.fl (.own 5) 1 (map (int .u8) v3),vi s.Of,.fl (.own 3) 1 (map (int .i64) v4)]) 0 ⟨aC _ _ _ _ _ _ _ _ qt rfl rfl rfl (zl rfl) rfl rfl⟩ ?_
 refine cN [1,2] ?_
 refine iJ hn 0 ?_
 refine yk [1] [] ?_
 refine yt (19,.agg [.hid (bu 47 11 (flatten (map bD v1))),vi s.GY,.fl (.own 3) 1 (map (int .i64) v2),.fl (.own 5) 1 (map (int .u8) v3),vi s.Of,.fl (.own 3) 1 (map (int .i64) v4)]) 0 ⟨aW _ _ _ _ underlying37 rfl dn rfl rfl⟩ ?_
 refine yk [19,2] [] ?_
 refine yt (2,.box 37 [.hid (bu 47 11 (flatten (map bD v1))),vi s.GY,.fl (.own 3) 1 (map (int .i64) v2),.fl (.own 5) 1 (map (int .u8) v3),vi s.Of,.fl (.own 3) 1 (map (int .i64) v4)]) 0 ⟨aC _ _ _ _ _ _ _ _ dn rfl rfl rfl (zl rfl) rfl rfl⟩ ?_
 refine cN [2] ?_
 refine aD ?_
 obtain rfl:=zi h
 exact aJ hio rfl (.cellA _ _ _ _ underlying37 rfl dn .nil) rfl rfl
end Go.Proofs.YtjdmcbkkacnmdaaGreatDoor
