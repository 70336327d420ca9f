import Derived.Test.YtjdmcbkkacnmdaaGreatDoorOkc4
set_option linter.unusedVariables false
set_option linter.unusedSimpArgs false
set_option maxHeartbeats 1000000
namespace Go.Proofs.YtjdmcbkkacnmdaaGreatDoor
open Go.Abs Go.Abs.Sh Tryz
open List (map flatten)
open Value (int)
theorem jA (s:ai) (p_r:T_Rec) (r:(ai×Int)) (h:Sh.dM s p_r=some r):cg Tryz.prog 16 [.agg [.fr .shr true 11 (flatten (map ae.ienc s.GP)),.v (.int .i64 s.GY),.fl .shr 1 (map (int .i64) s.Hb),.fl .shr 1 (map (int .u8) s.GZ),.v (.int .i64 s.Of),.fl .shr 1 (map (int .i64) s.GK)],.agg [.v (.int .i64 p_r.GQ),.v (.bool p_r.GS.GM.GT),.v (.string p_r.GS.GM.GR),.v (.string p_r.GS.GM.GJ),.fl .shr 3 (flatten (map T_Path.enc p_r.GS.To)),.fl .shr 1 (map (int .u8) p_r.GS.GH),.v (.bool p_r.GS.Ha),.v (.string p_r.GS.GN),.v (.int .i64 p_r.GS.At),.v (.int .i64 p_r.Id),.fl .shr 1 (map (int .i64) p_r.GO),.v (.int .i64 p_r.GW),.v (.int .i64 p_r.GU),.v (.int .i64 p_r.GV),.fl .shr 1 (map (int .u8) p_r.GI)]] (.tup [.agg [.fr (.own 47) false 11 (flatten (map ae.ienc r.1.GP)),.v (.int .i64 r.1.GY),.fl (.own 3) 1 (map (int .i64) r.1.Hb),.fl (.own 5) 1 (map (int .u8) r.1.GZ),.v (.int .i64 r.1.Of),.fl (.own 3) 1 (map (int .i64) r.1.GK)],.v (.int .i64 r.2)]):=by
 unfold Sh.dM at h
 refine yO 398 func16 fun g0 hn hio => ?_
 refine iJ hn 2 ?_
 refine yS (.box 37 [vz,vi 0,vz,vz,vi 0,vz]) 1 ⟨oA (bj _ _ iF)⟩ ?_
 refine cN [2,3,4] ?_
 refine aj ?_
 obtain ⟨v1,hv1,h⟩:=zn h
 refine yx hn 1 ?_
 refine ys 0 ⟨lk call34 (jV _ _ hv1)⟩ ?_
 refine yS (.box 37 [vz,vi 0,vz,vz,vi 0,vz]) 0 ⟨oA (bj _ _ iF)⟩ ?_
 refine yk [16,6] [] ?_
 refine yt (6,.box 37 [.fr (.own 47) false 11 (flatten (map ae.ienc v1.GP)),vi v1.GY,.fl (.own 3) 1 (map (int .i64) v1.Hb),.fl (.own 5) 1 (map (int .u8) v1.GZ),vi v1.Of,.fl (.own 3) 1 (map (int .i64) v1.GK)]) 0 ⟨aC _ _ _ _ _ _ _ _ dn rfl rfl rfl (zl rfl) rfl rfl⟩ ?_
 refine cN [2,3,4,6] ?_
 refine iJ hn 2 ?_
 refine yS (.agg [vi p_r.GQ,vb false,vs z0,vs z0,vz,vz,vb false,vs z0,vi 0,vi 0,vz,vi 0,vi 0,vi 0,vz]) 0 ⟨cw _ _ _ _ [1,8,1,1,1,1,1,1] _ _ underlying31 kq (yY _ underlying31) (.copy _ mJ.nil) rfl rfl rfl⟩ ?_
 refine yS (.box 31 [vi 0,vb false,vs z0,vs z0,vz,vz,vb false,vs z0,vi 0,vi 0,vz,vi 0,vi 0,vi 0,vz]) 1 ⟨oA (bj _ _ kq)⟩ ?_
 refine cN [2,3,4,6,7] ?_
 refine aZ hn 1 [2,3,4,6,7,8] ?_
 refine aj ?_
 refine aK h (fun ((s689,s690,s691,s692,s693,s694,s695,s696,s697,s698,s699,s700,s701,s702,s703,s704,s705,s706,s707,s708,s709):(List ae)×Int×(List Int)×(List Int)×Int×(List Int)×Bool×Hd×Hd×(List T_Path)×(List Int)×Bool×Hd×Int×Int×(List Int)×Int×Int×Int×(List Int)×Bool)=>[(3,.box 31 (T_Rec.c p_r [])),(4,.box 37 [vz,vi 0,vz,vz,vi 0,vz]),(6,.box 37 [.fr (.own 47) false 11 (flatten (map ae.ienc s689)),vi s690,.fl (.own 3) 1 (map (int .i64) s691),.fl (.own 5) 1 (map (int .u8) s692),vi s693,.fl (.own 3) 1 (map (int .i64) s694)]),(7,.box 31 [vi p_r.GQ,vb s695,vs s696,vs s697,.fl .shr 3 (flatten (map T_Path.enc s698)),fb s699,vb s700,vs s701,vi s702,vi s703,fi s704,vi s705,vi s706,vi s707,fb s708]),(8,vb s709)]) ?_ ?_
 rintro ⟨s689,s690,s691,s692,s693,s694,s695,s696,s697,s698,s699,s700,s701,s702,s703,s704,s705,s706,s707,s708,s709⟩ h
 refine ak (aj ?_)
 refine aj ?_
 refine aK h (fun (s1334:Bool)=>[(4,.box 37 [vz,vi 0,vz,vz,vi 0,vz]),(6,.box 37 [.fr (.own 47) false 11 (flatten (map ae.ienc s689)),vi s690,.fl (.own 3) 1 (map (int .i64) s691),.fl (.own 5) 1 (map (int .u8) s692),vi s693,.fl (.own 3) 1 (map (int .i64) s694)]),(395,vb s1334)]) ?_ ?_
 rintro s1334 h
 refine ak ?_
 refine zc h rfl (fun h => ?_) (fun h => ?_)
 refine iJ hn 0 ?_
 refine yS (.agg [vz,vi 0,vz,vz,vi 0,vz]) 0 ⟨cw _ _ _ _ [1,1,1,1,1,1] _ _ underlying37 iF (zO _ underlying37) mJ.nil rfl rfl rfl⟩ ?_
 refine yk [396,4] [] ?_
 refine yt (4,.box 37 [vz,vi 0,vz,vz,vi 0,vz]) 1 ⟨mh _ _ _ 396 4 6 dn rfl rfl rfl rfl rfl (.eq _ (.eq _ (.eq _ (.eq _ (.eq _ (.eq _ (.nil _))))))) rfl⟩ ?_
 refine cN [4,5] ?_
 refine aD ?_
 refine eW (fs:=[(4,.box 37 [.fr (.own 47) false 11 (flatten (map ae.ienc [])),vi 0,.fl (.own 3) 1 (map (int .i64) []),.fl (.own 5) 1 (map (int .u8) []),vi 0,.fl (.own 3) 1 (map (int .i64) [])]),(5,vi 5)]) (.box _ _ (ag (ij 47 false 11) (ag (am _) (ag (dA 3 1) (ag (dA 5 1) (ag (am _) (ag (dA 3 1) (cz))))))) rfl (.same _ .nil)) ?_
 refine ay ?_
 obtain rfl:=zi h
 exact aJ hio rfl (.cellA _ _ _ _ underlying37 rfl dn (.tmp _ _ .nil)) rfl rfl
 refine aE (ak ?_)
 refine iJ hn 0 ?_
 refine yk [6] [] ?_
 refine yt (397,.agg [.fr (.own 47) false 11 (flatten (map ae.ienc s689)),vi s690,.fl (.own 3) 1 (map (int .i64) s691),.fl (.own 5) 1 (map (int .u8) s692),vi s693,.fl (.own 3) 1 (map (int .i64) s694)]) 0 ⟨aW _ _ _ _ underlying37 rfl dn rfl rfl⟩ ?_
 refine yk [397,4] [] ?_
 refine yt (4,.box 37 [.fr (.own 47) false 11 (flatten (map ae.ienc s689)),vi s690,.fl (.own 3) 1 (map (int .i64) s691),.fl (.own 5) 1 (map (int .u8) s692),vi s693,.fl (.own 3) 1 (map (int .i64) s694)]) 1 ⟨aC _ _ _ _ _ _ _ _ dn rfl rfl rfl (zl rfl) rfl rfl⟩ ?_
 refine cN [4,5] ?_
 refine aD ?_
 obtain rfl:=zi h
 exact aJ hio rfl (.cellA _ _ _ _ underlying37 rfl dn (.tmp _ _ .nil)) rfl rfl
 intro u1335 h hl1336 hr1337
 refine ao h (fun hg59_2 h => ?_) (fun hg59_2 h => ?_)
 refine yx hn 3 ?_
 refine yd hg59_2 5 ?_
 refine ye [4,6,395] ?_
 exact hl1336 _ (zi h).symm
 obtain ⟨v1333,hv1333,h⟩:=zn h
 refine yx hn 3 ?_
 refine yd hg59_2 2 ?_
 refine ys 2 ⟨lk call18 (fu _ _ _ hv1333)⟩ ?_
 refine ye [4,6,395] ?_
 exact hl1336 _ (zi h).symm
 intro u710 h hl711 hr712
 refine aZ hn 2 [2,3,4,6,7,8,21] ?_
 refine aK h (fun ((s1011,s1012,s1013,s1014,s1015,s1016,s1017,s1018,s1019,s1020,s1021,s1022,s1023,s1024,s1025,s1026,s1027,s1028,s1029,s1030,s1031):(List ae)×Int×(List Int)×(List Int)×Int×(List Int)×Bool×Hd×Hd×(List T_Path)×(List Int)×Bool×Hd×Int×Int×(List Int)×Int×Int×Int×(List Int)×Bool)=>[(3,.box 31 (T_Rec.c p_r [])),(4,.box 37 [vz,vi 0,vz,vz,vi 0,vz]),(6,.box 37 [.fr (.own 47) false 11 (flatten (map ae.ienc s1011)),vi s1012,.fl (.own 3) 1 (map (int .i64) s1013),.fl (.own 5) 1 (map (int .u8) s1014),vi s1015,.fl (.own 3) 1 (map (int .i64) s1016)]),(7,.box 31 [vi p_r.GQ,vb s1017,vs s1018,vs s1019,.fl .shr 3 (flatten (map T_Path.enc s1020)),fb s1021,vb s1022,vs s1023,vi s1024,vi s1025,fi s1026,vi s1027,vi s1028,vi s1029,fb s1030]),(8,vb s1031)]) ?_ ?_
 rintro ⟨s1011,s1012,s1013,s1014,s1015,s1016,s1017,s1018,s1019,s1020,s1021,s1022,s1023,s1024,s1025,s1026,s1027,s1028,s1029,s1030,s1031⟩ h
 exact hl711 _ (zi h).symm
 intro u1032 h hl1033 hr1034
 refine aU ?_
 refine aZ hn 2 [2,3,4,6,7,8,21,22] ?_
 refine zc h rfl (fun h => ?_) (fun h => ?_)
 refine aj ?_
 refine wb [[3],[24,3],[3],[26,3],[3],[28,3],[7]] ?_
 refine wK [7] [30,25] ?_
 refine wt [(7,.box 31 (vi p_r.GQ::T_Mail.c p_r.GS [vi 0,vz,vi 0,vi 0,vi 0,vz]))] [[7]] ⟨eS _ _ _ _ _ _ _ _ ox rfl rfl rfl rfl (zl rfl) rfl rfl⟩ ?_
 refine wK [7] [31,27] ?_
 refine wt [(7,.box 31 (vi p_r.GQ::T_Mail.c p_r.GS [vi p_r.Id,vz,vi 0,vi 0,vi 0,vz]))] [[7]] ⟨eS _ _ _ _ _ _ _ _ pd rfl rfl rfl rfl (zl rfl) rfl rfl⟩ ?_
 refine wK [7] [32,29] ?_
 refine wt [(7,.box 31 (vi p_r.GQ::T_Mail.c p_r.GS [vi p_r.Id,vz,vi p_r.GW,vi 0,vi 0,vz]))] [] ⟨eS _ _ _ _ _ _ _ _ pd rfl rfl rfl rfl (zl rfl) rfl rfl⟩ ?_
 refine ue hn [2,3,4,6,7] ?_
 refine aj ?_
 refine aK h (fun (s1036:Bool)=>[(3,.box 31 (T_Rec.c p_r [])),(4,.box 37 [vz,vi 0,vz,vz,vi 0,vz]),(6,.box 37 [.fr (.own 47) false 11 (flatten (map ae.ienc v1.GP)),vi v1.GY,.fl (.own 3) 1 (map (int .i64) v1.Hb),.fl (.own 5) 1 (map (int .u8) v1.GZ),vi v1.Of,.fl (.own 3) 1 (map (int .i64) v1.GK)]),(7,.box 31 (vi p_r.GQ::T_Mail.c p_r.GS [vi p_r.Id,vz,vi p_r.GW,vi 0,vi 0,vz])),(8,vb s1036)]) ?_ ?_
 rintro s1036 h
 refine ak ?_
 refine aZ hn 1 [3,4,6,7,8,9] ?_
 refine aj ?_
 refine aK h (fun (s1041:Int)=>[(3,.box 31 (T_Rec.c p_r [])),(4,.box 37 [vz,vi 0,vz,vz,vi 0,vz]),(6,.box 37 [.fr (.own 47) false 11 (flatten (map ae.ienc v1.GP)),vi v1.GY,.fl (.own 3) 1 (map (int .i64) v1.Hb),.fl (.own 5) 1 (map (int .u8) v1.GZ),vi v1.Of,.fl (.own 3) 1 (map (int .i64) v1.GK)]),(7,.box 31 (vi p_r.GQ::T_Mail.c p_r.GS [vi p_r.Id,vz,vi p_r.GW,vi 0,vi 0,vz])),(8,vb s1036),(9,vi s1041)]) ?_ ?_
 rintro s1041 h
 refine ak ?_
 obtain ⟨v16,hv16,v17,hv17,h⟩:=ii h
 refine wb [[6],[59,6],[3],[61,3],[3],[63,3]] ?_
 refine wN [64] ?_
 refine wo [[9]] ⟨lk call21 (fg _ _ hv16)⟩ ?_
 refine wK [65] [62,66] ?_
 refine wt [(67,.agg [vi p_r.Id,vb v16.GM.GT,vs v16.GM.GR,vs v16.GM.GJ,.fl (.own 24) 3 (flatten (map T_Path.enc v16.To)),.fl (.own 5) 1 (map (int .u8) v16.GH),vb v16.Ha,vs v16.GN,vi v16.At,vi s1041,vi 0])] [] ⟨cw _ _ _ _ [1,8,1,1] _ _ underlying47 nN (Ej _ underlying47) (.copy _ (.take _ _ (.copy _ mJ.nil))) rfl rfl rfl⟩ ?_
 refine wK [67] [] ?_
 refine wt [(68,.fr (.own 47) false 11 (flatten (map ae.ienc [(ae.mk p_r.Id ((T_Mail.mk (T_Path.mk v16.GM.GT v16.GM.GR v16.GM.GJ) v16.To v16.GH v16.Ha v16.GN v16.At)) s1041 0)])))] [] ⟨eD _ _ _ 11 (.agg #[.int .i64 0,.bool false,.string ByteArray.empty,.string ByteArray.empty,.slice none 0 0,.slice none 0 0,.bool false,.string ByteArray.empty,.int .i64 0,.int .i64 0,.int .i64 0]) false _ _ underlying35 gj nN rfl (.cons (.v _) (.cons (.v _) (.cons (.v _) (.cons (.v _) (.cons (.ro _ _ rfl) (.cons (.ro _ _ rfl) (.cons (.v _) (.cons (.v _) (.cons (.v _) (.cons (.v _) (.cons (.v _) (.nil)))))))))))) rfl (by decide) (by decide)⟩ ?_
 refine wK [6] [60,68] ?_
 refine wt [(6,.box 37 [.any,vi v1.GY,.fl (.own 3) 1 (map (int .i64) v1.Hb),.fl (.own 5) 1 (map (int .u8) v1.GZ),vi v1.Of,.fl (.own 3) 1 (map (int .i64) v1.GK)]),(69,.fr (.own 47) false 11 (flatten (map ae.ienc v17)))] [[6]] ⟨lf _ 69 6 0 _ _ BI rfl rfl (zl rfl) rfl (bT ae.ilen _) (bT ae.ilen _) hv17 (im (iq hv17)) (by decide) (by decide) (by decide) rfl rfl⟩ ?_
 refine wK [60,69,6] [70] ?_
 refine wt [(6,.box 37 [.fr (.own 47) false 11 (flatten (map ae.ienc v17)),vi v1.GY,.fl (.own 3) 1 (map (int .i64) v1.Hb),.fl (.own 5) 1 (map (int .u8) v1.GZ),vi v1.Of,.fl (.own 3) 1 (map (int .i64) v1.GK)])] [] ⟨aY.drop [_] (aC _ _ _ _ _ _ _ _ xt rfl rfl rfl (zl rfl) rfl rfl)⟩ ?_
 refine we hn [3,4,6,7,8] ?_
 refine aT ?_
 refine eW (fs:=[(3,.box 31 (T_Rec.c p_r [])),(4,.box 37 [vz,vi 0,vz,vz,vi 0,vz]),(6,.box 37 [.fr (.own 47) false 11 (flatten (map ae.ienc v17)),vi v1.GY,.fl (.own 3) 1 (map (int .i64) v1.Hb),.fl (.own 5) 1 (map (int .u8) v1.GZ),vi v1.Of,.fl (.own 3) 1 (map (int .i64) v1.GK)]),(7,.box 31 (vi p_r.GQ::T_Mail.c p_r.GS [vi p_r.Id,fi [],vi p_r.GW,vi 0,vi 0,fb []])),(8,vb s1036)]) (.same _ (.same _ (.same _ (.box _ _ (ag (am _) (ag (am _) (ag (am _) (ag (am _) (ag (am _) (ag (am _) (ag (am _) (ag (am _) (ag (am _) (ag (am _) (ag (aS 1) (ag (am _) (ag (am _) (ag (am _) (ag (aS 1) (cz)))))))))))))))) rfl (.same _ .nil))))) ?_
 exact hl1033 _ (zi h).symm
 intro u1042 h hl1043 hr1044
 refine aZ hn 3 [3,4,6,7,8,9,58] ?_
 refine zc h rfl (fun h => ?_) (fun h => ?_)
 refine yx hn 0 ?_
 refine yw [9] 1 ?_
 refine ye [3,4,6,7,8,9] ?_
 exact hl1043 _ (zi h).symm
 refine aE ?_
 refine aB [0,1,2,3,4,5] (by kernel_rfl) (es':=[(_,_),(_,_),(_,_),(_,_),(_,_),(_,_)]) rfl ?_
 exact hl1043 _ (zi h).symm
 intro u1037 h hl1038 hr1039
 obtain ⟨v3,hv3,h⟩:=zn h
 refine ao h (fun hg7_7 h => ?_) (fun hg7_7 h => ?_)
 refine ao h (fun hg7_13 h => ?_) (fun hg7_13 h => ?_)
 obtain ⟨v4,hv4,h⟩:=zn h
 refine ao h (fun hg7_18 h => ?_) (fun hg7_18 h => ?_)
 obtain ⟨v5,hv5,h⟩:=zn h
 refine yx hn 5 ?_
 refine ys 2 ⟨lb hv3⟩ ?_
 refine yd hg7_7 6 ?_
 refine yd hg7_13 2 ?_
 refine ys 2 ⟨lk call35 (aN _ _ _ _ hv4)⟩ ?_
 refine yd hg7_18 2 ?_
 refine ys 2 ⟨lk call36 (lS _ _ hv5)⟩ ?_
 refine ye [3,4,6,7,8] ?_
 exact hl1038 _ (zi h).symm
 refine yx hn 5 ?_
 refine ys 2 ⟨lb hv3⟩ ?_
 refine yd hg7_7 6 ?_
 refine yd hg7_13 2 ?_
 refine ys 2 ⟨lk call35 (aN _ _ _ _ hv4)⟩ ?_
 refine yd hg7_18 5 ?_
 refine ye [3,4,6,7,8] ?_
 exact hl1038 _ (zi h).symm
 refine yx hn 5 ?_
 refine ys 2 ⟨lb hv3⟩ ?_
 refine yd hg7_7 6 ?_
 refine yd hg7_13 10 ?_
 refine ye [3,4,6,7,8] ?_
 exact hl1038 _ (zi h).symm
 refine yx hn 5 ?_
 refine ys 2 ⟨lb hv3⟩ ?_
 refine yd hg7_7 16 ?_
 refine ye [3,4,6,7,8] ?_
 exact hl1038 _ (zi h).symm
 refine aZ hn 2 [2,3,4,6,7,8,21,71] ?_
 refine zc h rfl (fun h => ?_) (fun h => ?_)
 refine aj ?_
 refine wb [[3],[73,3],[3],[75,3],[7]] ?_
 refine wK [7] [77,74] ?_
 refine wt [(7,.box 31 [vi p_r.GQ,vb false,vs z0,vs z0,vz,vz,vb false,vs z0,vi 0,vi 0,vz,vi 0,vi p_r.GU,vi 0,vz])] [[7]] ⟨eS _ _ _ _ _ _ _ _ pd rfl rfl rfl rfl (zl rfl) rfl rfl⟩ ?_
 refine wK [7] [78,76] ?_
 refine wt [(7,.box 31 [vi p_r.GQ,vb false,vs z0,vs z0,vz,vz,vb false,vs z0,vi 0,vi 0,fi p_r.GO,vi 0,vi p_r.GU,vi 0,vz])] [] ⟨eS _ _ _ _ _ _ _ _ qt rfl rfl rfl rfl (zl rfl) rfl rfl⟩ ?_
 refine ue hn [2,3,4,6,7] ?_
 refine aj ?_
 refine aK h (fun (s1047:Bool)=>[(2,.box 37 (ai.c s [])),(3,.box 31 (T_Rec.c p_r [])),(4,.box 37 [vz,vi 0,vz,vz,vi 0,vz]),(6,.box 37 [.fr (.own 47) false 11 (flatten (map ae.ienc v1.GP)),vi v1.GY,.fl (.own 3) 1 (map (int .i64) v1.Hb),.fl (.own 5) 1 (map (int .u8) v1.GZ),vi v1.Of,.fl (.own 3) 1 (map (int .i64) v1.GK)]),(7,.box 31 [vi p_r.GQ,vb false,vs z0,vs z0,vz,vz,vb false,vs z0,vi 0,vi 0,fi p_r.GO,vi 0,vi p_r.GU,vi 0,vz]),(8,vb s1047)]) ?_ ?_
 rintro s1047 h
 refine ak (aj ?_)
 refine aZ hn 1 [2,3,4,6,7,8,10] ?_
 refine bp h (fun ((s1094,s1095,s1096):(List ae)×Bool×Int)=>[(2,.box 37 (ai.c s [])),(3,.box 31 (T_Rec.c p_r [])),(4,.box 37 [vz,vi 0,vz,vz,vi 0,vz]),(6,.box 37 [.fr (.own 47) false 11 (flatten (map ae.ienc s1094)),vi v1.GY,.fl (.own 3) 1 (map (int .i64) v1.Hb),.fl (.own 5) 1 (map (int .u8) v1.GZ),vi v1.Of,.fl (.own 3) 1 (map (int .i64) v1.GK)]),(7,.box 31 [vi p_r.GQ,vb false,vs z0,vs z0,vz,vz,vb false,vs z0,vi 0,vi 0,fi p_r.GO,vi 0,vi p_r.GU,vi 0,vz]),(8,vb s1095),(10,vi s1096)]) (fun ((s1117,s1118):(List ae)×Bool)=>[(3,.box 31 (T_Rec.c p_r [])),(4,.box 37 [vz,vi 0,vz,vz,vi 0,vz]),(6,.box 37 [.fr (.own 47) false 11 (flatten (map ae.ienc s1117)),vi v1.GY,.fl (.own 3) 1 (map (int .i64) v1.Hb),.fl (.own 5) 1 (map (int .u8) v1.GZ),vi v1.Of,.fl (.own 3) 1 (map (int .i64) v1.GK)]),(7,.box 31 [vi p_r.GQ,vb false,vs z0,vs z0,vz,vz,vb false,vs z0,vi 0,vi 0,fi p_r.GO,vi 0,vi p_r.GU,vi 0,vz]),(8,vb s1118)]) ?_ ?_
 rintro ⟨s1117,s1118⟩ h
 refine ak ?_
 refine yy hn 4 [3,4,6,7,8] ?_
 refine aT ?_
 refine eW (fs:=[(3,.box 31 (T_Rec.c p_r [])),(4,.box 37 [vz,vi 0,vz,vz,vi 0,vz]),(6,.box 37 [.fr (.own 47) false 11 (flatten (map ae.ienc s1117)),vi p_r.GU,.fl (.own 3) 1 (map (int .i64) v1.Hb),.fl (.own 5) 1 (map (int .u8) v1.GZ),vi v1.Of,.fl (.own 3) 1 (map (int .i64) v1.GK)]),(7,.box 31 [vi p_r.GQ,vb false,vs z0,vs z0,.fl .shr 3 (flatten (map T_Path.enc [])),fb [],vb false,vs z0,vi 0,vi 0,fi p_r.GO,vi 0,vi p_r.GU,vi 0,fb []]),(8,vb s1118)]) (.same _ (.same _ (.same _ (.box _ _ (ag (am _) (ag (am _) (ag (am _) (ag (am _) (ag (aS 3) (ag (aS 1) (ag (am _) (ag (am _) (ag (am _) (ag (am _) (ag (am _) (ag (am _) (ag (am _) (ag (am _) (ag (aS 1) (cz)))))))))))))))) rfl (.same _ .nil))))) ?_
 exact hl1033 _ (zi h).symm
 rintro u1119 hl1120 hr1121 ⟨s1094,s1095,s1096⟩ rr1124 h ho1122
 refine aj (aj ?_)
 refine aK h (fun (s1125:Bool)=>[(2,.box 37 (ai.c s [])),(3,.box 31 (T_Rec.c p_r [])),(4,.box 37 [vz,vi 0,vz,vz,vi 0,vz]),(6,.box 37 [.fr (.own 47) false 11 (flatten (map ae.ienc s1094)),vi v1.GY,.fl (.own 3) 1 (map (int .i64) v1.Hb),.fl (.own 5) 1 (map (int .u8) v1.GZ),vi v1.Of,.fl (.own 3) 1 (map (int .i64) v1.GK)]),(7,.box 31 [vi p_r.GQ,vb false,vs z0,vs z0,vz,vz,vb false,vs z0,vi 0,vi 0,fi p_r.GO,vi 0,vi p_r.GU,vi 0,vz]),(8,vb s1095),(10,vi s1096),(98,vb s1125)]) ?_ ?_
 rintro s1125 h
 refine ak ?_
 refine zc h rfl (fun h => ?_) (fun h => ?_)
 refine aE ?_
 refine ak (aj ?_)
 refine aK h (fun ((s1135,s1136):(List ae)×Bool)=>[(6,.box 37 [.fr (.own 47) false 11 (flatten (map ae.ienc s1135)),vi v1.GY,.fl (.own 3) 1 (map (int .i64) v1.Hb),.fl (.own 5) 1 (map (int .u8) v1.GZ),vi v1.Of,.fl (.own 3) 1 (map (int .i64) v1.GK)]),(2,.box 37 (ai.c s [])),(3,.box 31 (T_Rec.c p_r [])),(4,.box 37 [vz,vi 0,vz,vz,vi 0,vz]),(7,.box 31 [vi p_r.GQ,vb false,vs z0,vs z0,vz,vz,vb false,vs z0,vi 0,vi 0,fi p_r.GO,vi 0,vi p_r.GU,vi 0,vz]),(10,vi s1096),(8,vb s1136)]) ?_ ?_
 rintro ⟨s1135,s1136⟩ h
 refine ak ?_
 obtain ⟨v70,hv70,h⟩:=zn h
 refine yx hn 1 ?_
 refine ys 0 ⟨lb hv70⟩ ?_
 refine yw [10] 1 ?_
 refine ye [6,2,3,4,7,8,10] ?_
 refine aB [1,2,3,0,4,5,6] (by kernel_rfl) (es':=[(_,_),(_,_),(_,_),(_,_),(_,_),(_,_),(_,_)]) rfl ?_
 exact bH _ (zi h).symm rfl
 intro u1137 h hl1138 hr1139
 refine aU (aj ?_)
 refine aK h (fun (s1140:Bool)=>[(2,.box 37 (ai.c s [])),(3,.box 31 (T_Rec.c p_r [])),(4,.box 37 [vz,vi 0,vz,vz,vi 0,vz]),(6,.box 37 [.fr (.own 47) false 11 (flatten (map ae.ienc s1094)),vi v1.GY,.fl (.own 3) 1 (map (int .i64) v1.Hb),.fl (.own 5) 1 (map (int .u8) v1.GZ),vi v1.Of,.fl (.own 3) 1 (map (int .i64) v1.GK)]),(7,.box 31 [vi p_r.GQ,vb false,vs z0,vs z0,vz,vz,vb false,vs z0,vi 0,vi 0,fi p_r.GO,vi 0,vi p_r.GU,vi 0,vz]),(10,vi s1096),(8,vb s1140)]) ?_ ?_
 rintro s1140 h
 refine ak ?_
 refine aZ hn 1 [2,3,4,6,7,10,8,142] ?_
 refine zc h rfl (fun h => ?_) (fun h => ?_)
 obtain ⟨v48,hv48,v49,hv49,v50,hv50,v51,hv51,h⟩:=pI h
 obtain ⟨v52,hv52,v53,hv53,v54,hv54,v55,hv55,h⟩:=pI h
 obtain ⟨v56,hv56,v57,hv57,v58,hv58,v59,hv59,h⟩:=pI h
 refine dJ [3,0,1,2,4,5,6,7] rfl rfl ?_
 refine Aq 405 0 (fun rb20 rn20 rc20=>[.v (.slice (some ⟨rb20,0,none⟩) rn20 rc20),.v (.int .i64 v1.GY),.fl (.own 3) 1 (map (int .i64) v1.Hb),.fl (.own 5) 1 (map (int .u8) v1.GZ),.v (.int .i64 v1.Of),.fl (.own 3) 1 (map (int .i64) v1.GK)]) (zl rfl) rfl (fun _ _ _=>rfl) (Bz ae.ilen (by decide) hv55) fun rb20 rn20 rc20 rl20 => ?_
 refine tH (by kernel_rfl) hn (El:=(_::_::_::_::_::_::_::_::_::(143,.ptr 6 0)::(144,.v (.slice (some ⟨rb20,0,none⟩) rn20 rc20))::(145,.ptr 3 10)::(146,fi p_r.GO)::(147,vi s1096)::(148,.eref (.slot 146) (v48 * 1))::(149,vi v49)::(150,vi v50)::(151,.ptr 6 0)::(152,.v (.slice (some ⟨rb20,0,none⟩) rn20 rc20))::(153,.ptr 3 10)::(154,fi p_r.GO)::(155,vi s1096)::(156,.eref (.slot 154) (v51 * 1))::(157,vi v52)::(158,vi v53)::(159,.ptr 3 12)::(160,vi p_r.GU)::(161,.v (.pointer (some ⟨rb20,(v54 * 11),none⟩)))::(162,.v (.pointer (some ⟨rb20,(v54 * 11+9),none⟩)))::(405,.inv (sN 47 false 11 (flatten (map ae.ienc v56)) rb20 rn20 rc20))::(163,.v (.pointer (some ⟨rb20,(v57 * 11),none⟩)))::(164,.v (.pointer (some ⟨rb20,(v57 * 11+10),none⟩)))::(405,.inv (sN 47 false 11 (flatten (map ae.ienc v59)) rb20 rn20 rc20))::[])) (init:=[0,1,2,3,4,5,6,7,8]) (fin:=[0,32,2,3,4,5,6,7]) (sps:=(zq [0] 9 143::zq [9,0] 10 144::zq [3] 11 145::zq [11,3] 12 146::zq [6] 13 147::zq [12,13] 14 148::zq [14,12] 15 149::zq [15] 16 150::zq [0] 17 151::zq [17,0] 18 152::zq [3] 19 153::zq [19,3] 20 154::zq [6] 21 155::zq [20,21] 22 156::zq [22,20] 23 157::zq [23] 24 158::zq [3] 25 159::zq [25,3] 26 160::zq [10,16] 27 161::zq [27] 28 162::⟨[28],[1],[29],[]⟩::zq [18,24] 30 163::zq [30] 31 164::⟨[31,26],[29],[32],[]⟩::[])) (es':=[(_,_),(405,.inv (sN 47 false 11 (flatten (map ae.ienc v59)) rb20 rn20 rc20)),(_,_),(_,_),(_,_),(_,_),(_,_),(_,_)]) (by kernel_rfl) rfl rfl ⟨zp rfl (oF underlying37 rfl xt),zp rfl (oL underlying35 rfl),zp rfl (oF underlying31 rfl qt),zp rfl (oL underlying29 rfl),z1 rfl,zp rfl (iQ _ _ _ _ _ _ _ _ underlying29 pd (by decide) rfl rfl rfl (cc hv48).1 (qP (cc hv48).2) rfl),zp rfl (fm _ _ _ _ _ _ underlying3 rfl rfl rfl (te hv49)),zp rfl (oB rfl (Cu (f:=int .i64) (Option.some.inj hv50))),zp rfl (oF underlying37 rfl xt),zp rfl (oL underlying35 rfl),zp rfl (oF underlying31 rfl qt),zp rfl (oL underlying29 rfl),z1 rfl,zp rfl (iQ _ _ _ _ _ _ _ _ underlying29 pd (by decide) rfl rfl rfl (cc hv51).1 (qP (cc hv51).2) rfl),zp rfl (fm _ _ _ _ _ _ underlying3 rfl rfl rfl (te hv52)),zp rfl (oB rfl (Cu (f:=int .i64) (Option.some.inj hv53))),zp rfl (oF underlying31 rfl pd),zp rfl (oL underlying3 rfl),zp rfl (rP _ _ _ _ _ rb20 rn20 rc20 _ _ underlying35 gj rfl rfl (cc hv54).1 (zj rl20 (bT ae.ilen _) (by decide) (cc hv54).2)),zp rfl (ln _ _ _ _ rb20 (v54 * 11) _ underlying47 rfl pd rfl rfl),zp rfl (mU _ _ _ 405 rb20 rn20 rc20 _ 1 _ pd rfl rfl rfl (by decide) (je (q:=9) (s:=1) ae.ilen hv55 (by decide)) ((ju (q:=9) (s:=1) (y:=(ae.mk v55.Id ((T_Mail.mk (T_Path.mk v55.GS.GM.GT v55.GS.GM.GR v55.GS.GM.GJ) v55.GS.To v55.GS.GH v55.GS.Ha v55.GS.GN v55.GS.At)) 2 v55.GX)) ae.ilen hv55 rfl (by decide)).trans (congrArg (fun l=>flatten (map ae.ienc l)) (Option.some.inj hv56)))),zp rfl (rP _ _ _ _ _ rb20 rn20 rc20 _ _ underlying35 gj rfl rfl (cc hv57).1 (zj rl20 (bT ae.ilen _) (by decide) (cc hv57).2)),zp rfl (ln _ _ _ _ rb20 (v57 * 11) _ underlying47 rfl pd rfl rfl),zp rfl (mU _ _ _ 405 rb20 rn20 rc20 _ 1 _ pd rfl rfl rfl (by decide) (je (q:=10) (s:=1) ae.ilen hv58 (by decide)) ((ju (q:=10) (s:=1) (y:=(ae.mk v58.Id ((T_Mail.mk (T_Path.mk v58.GS.GM.GT v58.GS.GM.GR v58.GS.GM.GJ) v58.GS.To v58.GS.GH v58.GS.Ha v58.GS.GN v58.GS.At)) v58.Hc p_r.GU)) ae.ilen hv58 rfl (by decide)).trans (congrArg (fun l=>flatten (map ae.ienc l)) (Option.some.inj hv59)))),zz⟩ ?_
 refine zm 0 [.fr (.own 47) false 11 (flatten (map ae.ienc v59)),.v (.int .i64 v1.GY),.fl (.own 3) 1 (map (int .i64) v1.Hb),.fl (.own 5) 1 (map (int .u8) v1.GZ),.v (.int .i64 v1.Of),.fl (.own 3) 1 (map (int .i64) v1.GK)] (zl rfl) rfl rfl ?_
 refine aT ?_
 exact hl1138 _ (zi h).symm
 refine aE (aT ?_)
 refine aB [3,0,1,2,4,5,6] (by kernel_rfl) (es':=[(_,_),(_,_),(_,_),(_,_),(_,_),(_,_),(_,_)]) rfl ?_
 exact hl1138 _ (zi h).symm
 intro u1141 h hl1142 hr1143
 obtain ⟨v30,hv30,v31,hv31,v32,hv32,h⟩:=pj h
 refine ao h (fun hg18_9 h => ?_) (fun hg18_9 h => ?_)
 obtain ⟨v33,hv33,v34,hv34,v35,hv35,v36,hv36,h⟩:=pI h
 obtain ⟨v37,hv37,h⟩:=zn h
 refine ao h (fun hg18_23 h => ?_) (fun hg18_23 h => ?_)
 refine ao h (fun hg18_26 h => ?_) (fun hg18_26 h => ?_)
 refine wb [[3],[101,3],[10]] ?_
 refine wN [102,103] ?_
 refine wo [] ⟨li hv30⟩ ?_
 refine wN [104,102] ?_
 refine wo [[2],[106,2],[107]] ⟨ll hv31⟩ ?_
 refine wN [105,108] ?_
 refine wo [[109]] ⟨lk call35 (aN _ _ _ _ hv32)⟩ ?_
 refine wd hg18_9 [[110,2],[110,111,2],[110,3],[110,113,3],[110,10]] ?_
 refine wN [110,114,115] ?_
 refine wo [] ⟨li hv33⟩ ?_
 refine wN [110,116,114] ?_
 refine wo [] ⟨ll hv34⟩ ?_
 refine wN [110,117] ?_
 refine wo [] ⟨lb hv35⟩ ?_
 refine wN [110,112,118] ?_
 refine wo [[110,119,112]] ⟨lI hv36⟩ ?_
 refine wN [110,120,112] ?_
 refine wS (vi v37.Hc) [[110,121],[110,122],[123]] ⟨bA _ _ _ _ _ _ _ underlying3 rfl rfl rfl (aL ae.ilen hv37 rfl) (.v _)⟩ ?_
 refine wd hg18_23 [[124,10],[124,125],[124,126]] ?_
 refine wd hg18_26 [[127],[127],[127],[127],[127],[127],[127],[127],[127],[127],[127],[127],[124,127],[124,140]] ?_
 refine wK [8] [141] ?_
 refine wt [(8,vb true)] [] ⟨aY.drop [_] (gv _ _ _ _ rfl rfl)⟩ ?_
 refine we hn [2,3,4,6,7,10,8] ?_
 exact hl1142 _ (zi h).symm
 obtain ⟨v38,hv38,v39,hv39,v40,hv40,v41,hv41,h⟩:=pI h
 obtain ⟨v42,hv42,h⟩:=zn h
 refine wb [[3],[101,3],[10]] ?_
 refine wN [102,103] ?_
 refine wo [] ⟨li hv30⟩ ?_
 refine wN [104,102] ?_
 refine wo [[2],[106,2],[107]] ⟨ll hv31⟩ ?_
 refine wN [105,108] ?_
 refine wo [[109]] ⟨lk call35 (aN _ _ _ _ hv32)⟩ ?_
 refine wd hg18_9 [[110,2],[110,111,2],[110,3],[110,113,3],[110,10]] ?_
 refine wN [110,114,115] ?_
 refine wo [] ⟨li hv33⟩ ?_
 refine wN [110,116,114] ?_
 refine wo [] ⟨ll hv34⟩ ?_
 refine wN [110,117] ?_
 refine wo [] ⟨lb hv35⟩ ?_
 refine wN [110,112,118] ?_
 refine wo [[110,119,112]] ⟨lI hv36⟩ ?_
 refine wN [110,120,112] ?_
 refine wS (vi v37.Hc) [[110,121],[110,122],[123]] ⟨bA _ _ _ _ _ _ _ underlying3 rfl rfl rfl (aL ae.ilen hv37 rfl) (.v _)⟩ ?_
 refine wd hg18_23 [[124,10],[124,125],[124,126]] ?_
 refine wd hg18_26 [[127,3],[127,128,3],[127,10]] ?_
 refine wN [127,129,130] ?_
 refine wo [] ⟨li hv38⟩ ?_
 refine wN [127,131,129] ?_
 refine wo [[127,3],[127,133,3],[127,10]] ⟨ll hv39⟩ ?_
 refine wN [127,135] ?_
 refine wo [] ⟨lb hv40⟩ ?_
 refine wN [127,134,136] ?_
 refine wo [] ⟨li hv41⟩ ?_
 refine wN [127,137,134] ?_
 refine wo [[127,132,138],[124,127,139],[124,140]] ⟨ll hv42⟩ ?_
 refine wK [8] [141] ?_
 refine wt [(8,vb (decide (v42<v39)))] [] ⟨aY.drop [_] (gv _ _ _ _ rfl rfl)⟩ ?_
 refine we hn [2,3,4,6,7,10,8] ?_
 exact hl1142 _ (zi h).symm
 refine wb [[3],[101,3],[10]] ?_
 refine wN [102,103] ?_
 refine wo [] ⟨li hv30⟩ ?_
 refine wN [104,102] ?_
 refine wo [[2],[106,2],[107]] ⟨ll hv31⟩ ?_
 refine wN [105,108] ?_
 refine wo [[109]] ⟨lk call35 (aN _ _ _ _ hv32)⟩ ?_
 refine wd hg18_9 [[110,2],[110,111,2],[110,3],[110,113,3],[110,10]] ?_
 refine wN [110,114,115] ?_
 refine wo [] ⟨li hv33⟩ ?_
 refine wN [110,116,114] ?_
 refine wo [] ⟨ll hv34⟩ ?_
 refine wN [110,117] ?_
 refine wo [] ⟨lb hv35⟩ ?_
 refine wN [110,112,118] ?_
 refine wo [[110,119,112]] ⟨lI hv36⟩ ?_
 refine wN [110,120,112] ?_
 refine wS (vi v37.Hc) [[110,121],[110,122],[123]] ⟨bA _ _ _ _ _ _ _ underlying3 rfl rfl rfl (aL ae.ilen hv37 rfl) (.v _)⟩ ?_
 refine wd hg18_23 [[124],[124],[124],[127],[127],[127],[127],[127],[127],[127],[127],[127],[127],[127],[127],[124],[124]] ?_
 refine wK [8] [141] ?_
 refine wt [(8,vb false)] [] ⟨aY.drop [_] (gv _ _ _ _ rfl rfl)⟩ ?_
 refine we hn [2,3,4,6,7,10,8] ?_
 exact hl1142 _ (zi h).symm
 refine wb [[3],[101,3],[10]] ?_
 refine wN [102,103] ?_
 refine wo [] ⟨li hv30⟩ ?_
 refine wN [104,102] ?_
 refine wo [[2],[106,2],[107]] ⟨ll hv31⟩ ?_
 refine wN [105,108] ?_
 refine wo [[109]] ⟨lk call35 (aN _ _ _ _ hv32)⟩ ?_
 refine wd hg18_9 [[110],[110],[110],[110],[110],[110],[110],[110],[110],[110],[110],[110],[110],[123],[124],[124],[124],[127],[127],[127],[127],[127],[127],[127],[127],[127],[127],[127],[127],[124],[124]] ?_
 refine wK [8] [141] ?_
 refine wt [(8,vb false)] [] ⟨aY.drop [_] (gv _ _ _ _ rfl rfl)⟩ ?_
 refine we hn [2,3,4,6,7,10,8] ?_
 exact hl1142 _ (zi h).symm
 refine bF (aH (aH (bG ?_)))
 refine aB [1,2,3,4,5] (by kernel_rfl) (es':=[(_,_),(_,_),(_,_),(_,_),(_,_)]) rfl ?_
 exact hl1120 _ (ho1122 _ (zi h).symm).symm
 intro u1126 h hl1127 hr1128
 refine ao h (fun hg16_5 h => ?_) (fun hg16_5 h => ?_)
 refine yx hn 6 ?_
 refine yd hg16_5 2 ?_
 refine ye [2,3,4,6,7,8,10,98] ?_
 exact hl1127 _ (zi h).symm
 refine yx hn 6 ?_
 refine yd hg16_5 2 ?_
 refine ye [2,3,4,6,7,8,10,98] ?_
 exact hl1127 _ (zi h).symm
 intro u1048 h hl1049 hr1050
 obtain ⟨v19,hv19,h⟩:=zn h
 refine ao h (fun hg14_6 h => ?_) (fun hg14_6 h => ?_)
 obtain ⟨v20,hv20,h⟩:=zn h
 refine yx hn 4 ?_
 refine ys 2 ⟨lb hv19⟩ ?_
 refine yd hg14_6 3 ?_
 refine ys 2 ⟨lk call35 (aN _ _ _ _ hv20)⟩ ?_
 refine ye [2,3,4,6,7,8] ?_
 exact hl1049 _ (zi h).symm
 refine yx hn 4 ?_
 refine ys 2 ⟨lb hv19⟩ ?_
 refine yd hg14_6 6 ?_
 refine ye [2,3,4,6,7,8] ?_
 exact hl1049 _ (zi h).symm
 refine aZ hn 2 [2,3,4,6,7,8,21,168] ?_
 refine zc h rfl (fun h => ?_) (fun h => ?_)
 refine aZ hn 4 [2,3,4,6,7] ?_
 refine aj ?_
 refine aK h (fun (s1146:Bool)=>[(3,.box 31 (T_Rec.c p_r [])),(4,.box 37 [vz,vi 0,vz,vz,vi 0,vz]),(6,.box 37 [.fr (.own 47) false 11 (flatten (map ae.ienc v1.GP)),vi v1.GY,.fl (.own 3) 1 (map (int .i64) v1.Hb),.fl (.own 5) 1 (map (int .u8) v1.GZ),vi v1.Of,.fl (.own 3) 1 (map (int .i64) v1.GK)]),(7,.box 31 [vi p_r.GQ,vb false,vs z0,vs z0,vz,vz,vb false,vs z0,vi 0,vi 0,vz,vi 0,vi p_r.GU,vi 0,vz]),(8,vb s1146)]) ?_ ?_
 rintro s1146 h
 refine ak (aj ?_)
 refine aZ hn 1 [3,4,6,7,8,11] ?_
 refine bp h (fun ((s1182,s1183):(List ae)×Int)=>[(3,.box 31 (T_Rec.c p_r [])),(4,.box 37 [vz,vi 0,vz,vz,vi 0,vz]),(6,.box 37 [.fr (.own 47) false 11 (flatten (map ae.ienc s1182)),vi v1.GY,.fl (.own 3) 1 (map (int .i64) v1.Hb),.fl (.own 5) 1 (map (int .u8) v1.GZ),vi v1.Of,.fl (.own 3) 1 (map (int .i64) v1.GK)]),(7,.box 31 [vi p_r.GQ,vb false,vs z0,vs z0,vz,vz,vb false,vs z0,vi 0,vi 0,vz,vi 0,vi p_r.GU,vi 0,vz]),(8,vb s1146),(11,vi s1183)]) (fun (s1199:(List ae))=>[(3,.box 31 (T_Rec.c p_r [])),(4,.box 37 [vz,vi 0,vz,vz,vi 0,vz]),(6,.box 37 [.fr (.own 47) false 11 (flatten (map ae.ienc s1199)),vi v1.GY,.fl (.own 3) 1 (map (int .i64) v1.Hb),.fl (.own 5) 1 (map (int .u8) v1.GZ),vi v1.Of,.fl (.own 3) 1 (map (int .i64) v1.GK)]),(7,.box 31 [vi p_r.GQ,vb false,vs z0,vs z0,vz,vz,vb false,vs z0,vi 0,vi 0,vz,vi 0,vi p_r.GU,vi 0,vz]),(8,vb s1146)]) ?_ ?_
 rintro s1199 h
 refine ak ?_
 obtain ⟨v231,hv231,h⟩:=zn h
 refine yx hn 4 ?_
 refine yS (.fl (.own 3) 1 (map (int .i64) [p_r.GU])) 0 ⟨dC _ _ 1 (.int .i64 0) (map (int .i64) [p_r.GU]) [(0,.int .i64 p_r.GU)] underlying29 pd Cs (fun _ V w o a hv hes=>by have e0:=dD hv hes (x := .tmp 219) rfl; simp only [List.map_toArray,List.map_cons,List.map_nil,e0]; try rfl) (iU (by simp [Instr.fill,Value.cells]; rfl) (by simp [List.range,List.range.loop] <;> rfl)) (by simp [Value.oneCell']) rfl (by decide) (by decide) (by decide)⟩ ?_
 refine yk [6] [217,220] ?_
 refine wZ (6,.box 37 [.fr (.own 47) false 11 (flatten (map ae.ienc s1199)),vi v1.GY,.any,.fl (.own 5) 1 (map (int .u8) v1.GZ),vi v1.Of,.fl (.own 3) 1 (map (int .i64) v1.GK)]) (221,.fl (.own 3) 1 (map (int .i64) v231)) 1 ⟨jH _ _ _ _ _ _ vI rfl rfl (zl rfl) rfl (fe _) (fe _) hv231 ((List.map_append).symm.trans (congrArg (map _) (iq hv231))) (Nat.ne_of_beq_eq_false rfl) rfl rfl⟩ ?_
 refine yw [217] 0 ?_
 refine yk [221,6] [222] ?_
 refine yt (6,.box 37 [.fr (.own 47) false 11 (flatten (map ae.ienc s1199)),vi v1.GY,.fl (.own 3) 1 (map (int .i64) v231),.fl (.own 5) 1 (map (int .u8) v1.GZ),vi v1.Of,.fl (.own 3) 1 (map (int .i64) v1.GK)]) 0 ⟨aC _ _ _ _ _ _ _ _ qt rfl rfl rfl (zl rfl) rfl rfl⟩ ?_
 refine ye [3,4,6,7,8] ?_
 refine aT ?_
 refine eW (fs:=[(3,.box 31 (T_Rec.c p_r [])),(4,.box 37 [vz,vi 0,vz,vz,vi 0,vz]),(6,.box 37 [.fr (.own 47) false 11 (flatten (map ae.ienc s1199)),vi v1.GY,.fl (.own 3) 1 (map (int .i64) v231),.fl (.own 5) 1 (map (int .u8) v1.GZ),vi v1.Of,.fl (.own 3) 1 (map (int .i64) v1.GK)]),(7,.box 31 [vi p_r.GQ,vb false,vs z0,vs z0,.fl .shr 3 (flatten (map T_Path.enc [])),fb [],vb false,vs z0,vi 0,vi 0,fi [],vi 0,vi p_r.GU,vi 0,fb []]),(8,vb s1146)]) (.same _ (.same _ (.same _ (.box _ _ (ag (am _) (ag (am _) (ag (am _) (ag (am _) (ag (aS 3) (ag (aS 1) (ag (am _) (ag (am _) (ag (am _) (ag (am _) (ag (aS 1) (ag (am _) (ag (am _) (ag (am _) (ag (aS 1) (cz)))))))))))))))) rfl (.same _ .nil))))) ?_
 exact hl1033 _ (zi h).symm
 rintro u1200 hl1201 hr1202 ⟨s1182,s1183⟩ rr1205 h ho1203
 refine aj ?_
 refine aZ hn 5 [3,4,6,7,8,11,190] ?_
 refine zc h rfl (fun h => ?_) (fun h => ?_)
 refine aE ?_
 refine ak (aj ?_)
 refine aK h (fun (s1212:(List ae))=>[(3,.box 31 (T_Rec.c p_r [])),(4,.box 37 [vz,vi 0,vz,vz,vi 0,vz]),(6,.box 37 [.fr (.own 47) false 11 (flatten (map ae.ienc s1212)),vi v1.GY,.fl (.own 3) 1 (map (int .i64) v1.Hb),.fl (.own 5) 1 (map (int .u8) v1.GZ),vi v1.Of,.fl (.own 3) 1 (map (int .i64) v1.GK)]),(7,.box 31 [vi p_r.GQ,vb false,vs z0,vs z0,vz,vz,vb false,vs z0,vi 0,vi 0,vz,vi 0,vi p_r.GU,vi 0,vz]),(8,vb s1146),(11,vi s1183)]) ?_ ?_
 rintro s1212 h
 refine ak ?_
 obtain ⟨v174,hv174,h⟩:=zn h
 refine yx hn 1 ?_
 refine ys 0 ⟨lb hv174⟩ ?_
 refine yw [11] 1 ?_
 refine ye [3,4,6,7,8,11] ?_
 exact bH _ (zi h).symm rfl
 intro u1213 h hl1214 hr1215
 refine aU (aj ?_)
 refine aK h (fun (s1216:Bool)=>[(3,.box 31 (T_Rec.c p_r [])),(4,.box 37 [vz,vi 0,vz,vz,vi 0,vz]),(6,.box 37 [.fr (.own 47) false 11 (flatten (map ae.ienc s1182)),vi v1.GY,.fl (.own 3) 1 (map (int .i64) v1.Hb),.fl (.own 5) 1 (map (int .u8) v1.GZ),vi v1.Of,.fl (.own 3) 1 (map (int .i64) v1.GK)]),(7,.box 31 [vi p_r.GQ,vb false,vs z0,vs z0,vz,vz,vb false,vs z0,vi 0,vi 0,vz,vi 0,vi p_r.GU,vi 0,vz]),(8,vb s1146),(11,vi s1183),(210,vb s1216)]) ?_ ?_
 rintro s1216 h
 refine ak ?_
 refine zc h rfl (fun h => ?_) (fun h => ?_)
 obtain ⟨v162,hv162,v163,hv163,v164,hv164,h⟩:=pj h
 refine yx hn 3 ?_
 refine ys 1 ⟨lI hv162⟩ ?_
 refine yk [6] [215] ?_
 refine yt (6,.box 37 [.fr (.own 47) false 11 (flatten (map ae.ienc v164)),vi v1.GY,.fl (.own 3) 1 (map (int .i64) v1.Hb),.fl (.own 5) 1 (map (int .u8) v1.GZ),vi v1.Of,.fl (.own 3) 1 (map (int .i64) v1.GK)]) 0 ⟨jW _ _ _ 6 0 _ 1 _ pd rfl rfl (zl rfl) rfl rfl (by decide) (je (q:=9) (s:=1) ae.ilen hv163 (by decide)) ((ju (q:=9) (s:=1) (y:=(ae.mk v163.Id ((T_Mail.mk (T_Path.mk v163.GS.GM.GT v163.GS.GM.GR v163.GS.GM.GJ) v163.GS.To v163.GS.GH v163.GS.Ha v163.GS.GN v163.GS.At)) 3 v163.GX)) ae.ilen hv163 rfl (by decide)).trans (congrArg (fun l=>flatten (map ae.ienc l)) (Option.some.inj hv164))) rfl⟩ ?_
 refine ye [3,4,6,7,8,11] ?_
 refine aT ?_
 exact hl1214 _ (zi h).symm
 refine aE (aT ?_)
 refine aB [0,1,2,3,4,5] (by kernel_rfl) (es':=[(_,_),(_,_),(_,_),(_,_),(_,_),(_,_)]) rfl ?_
 exact hl1214 _ (zi h).symm
 intro u1217 h hl1218 hr1219
 obtain ⟨v153,hv153,v154,hv154,h⟩:=ii h
 refine ao h (fun hg28_9 h => ?_) (fun hg28_9 h => ?_)
 obtain ⟨v155,hv155,v156,hv156,h⟩:=ii h
 refine wb [[6],[193,6],[11]] ?_
 refine wN [194,6,195] ?_
 refine wo [[196,6]] ⟨lI hv153⟩ ?_
 refine wN [197,6] ?_
 refine wS (vi v154.GX) [[3],[199,3],[198,200],[201]] ⟨bA _ _ _ _ _ _ _ underlying3 rfl rfl rfl (aL ae.ilen hv154 rfl) (.v _)⟩ ?_
 refine wd hg28_9 [[202,6],[202,203,6],[202,11]] ?_
 refine wN [202,204,6,205] ?_
 refine wo [[202,206,6]] ⟨lI hv155⟩ ?_
 refine wN [202,207,6] ?_
 refine wS (vi v156.Hc) [[202,208],[202,209]] ⟨bA _ _ _ _ _ _ _ underlying3 rfl rfl rfl (aL ae.ilen hv156 rfl) (.v _)⟩ ?_
 refine we hn [3,4,6,7,8,11,210] ?_
 exact hl1218 _ (zi h).symm
 refine wb [[6],[193,6],[11]] ?_
 refine wN [194,6,195] ?_
 refine wo [[196,6]] ⟨lI hv153⟩ ?_
 refine wN [197,6] ?_
 refine wS (vi v154.GX) [[3],[199,3],[198,200],[201]] ⟨bA _ _ _ _ _ _ _ underlying3 rfl rfl rfl (aL ae.ilen hv154 rfl) (.v _)⟩ ?_
 refine wd hg28_9 [[202],[202],[202],[202],[202],[202],[202],[202]] ?_
 refine we hn [3,4,6,7,8,11,210] ?_
 exact hl1218 _ (zi h).symm
 refine bF (aH (aH (bG ?_)))
 refine aB [0,1,2,3,4] (by kernel_rfl) (es':=[(_,_),(_,_),(_,_),(_,_),(_,_)]) rfl ?_
 exact hl1201 _ (ho1203 _ (zi h).symm).symm
 intro u1147 h hl1148 hr1149
 obtain ⟨v146,hv146,h⟩:=zn h
 refine ao h (fun hg24_5 h => ?_) (fun hg24_5 h => ?_)
 obtain ⟨v147,hv147,h⟩:=zn h
 refine yx hn 4 ?_
 refine ys 1 ⟨lk call35 (aN _ _ _ _ hv146)⟩ ?_
 refine yd hg24_5 4 ?_
 refine ys 3 ⟨lk call37 (cV _ _ _ hv147)⟩ ?_
 refine ye [3,4,6,7,8] ?_
 exact hl1148 _ (zi h).symm
 refine yx hn 4 ?_
 refine ys 1 ⟨lk call35 (aN _ _ _ _ hv146)⟩ ?_
 refine yd hg24_5 8 ?_
 refine ye [3,4,6,7,8] ?_
 exact hl1148 _ (zi h).symm
 refine aZ hn 2 [2,3,4,6,7,8,21,223] ?_
 refine zc h rfl (fun h => ?_) (fun h => ?_)
 refine aZ hn 4 [2,3,4,6,7] ?_
 refine aj ?_
 refine aK h (fun (s1222:Bool)=>[(3,.box 31 (T_Rec.c p_r [])),(4,.box 37 [vz,vi 0,vz,vz,vi 0,vz]),(6,.box 37 [.fr (.own 47) false 11 (flatten (map ae.ienc v1.GP)),vi v1.GY,.fl (.own 3) 1 (map (int .i64) v1.Hb),.fl (.own 5) 1 (map (int .u8) v1.GZ),vi v1.Of,.fl (.own 3) 1 (map (int .i64) v1.GK)]),(7,.box 31 [vi p_r.GQ,vb false,vs z0,vs z0,vz,vz,vb false,vs z0,vi 0,vi p_r.Id,vz,vi 0,vi 0,vi 0,vz]),(8,vb s1222)]) ?_ ?_
 rintro s1222 h
 refine ak ?_
 refine aZ hn 1 [3,4,6,7,8,245] ?_
 refine zc h rfl (fun h => ?_) (fun h => ?_)
 obtain ⟨v242,hv242,v243,hv243,v244,hv244,v245,hv245,h⟩:=pI h
 refine yx hn 4 ?_
 refine ys 0 ⟨lb hv242⟩ ?_
 refine ys 1 ⟨lI hv243⟩ ?_
 refine yk [6] [252] ?_
 refine yt (6,.box 37 [.fr (.own 47) false 11 (flatten (map ae.ienc v245)),vi v1.GY,.fl (.own 3) 1 (map (int .i64) v1.Hb),.fl (.own 5) 1 (map (int .u8) v1.GZ),vi v1.Of,.fl (.own 3) 1 (map (int .i64) v1.GK)]) 0 ⟨jW _ _ _ 6 0 _ 1 _ pd rfl rfl (zl rfl) rfl rfl (by decide) (je (q:=9) (s:=1) ae.ilen hv244 (by decide)) ((ju (q:=9) (s:=1) (y:=(ae.mk v244.Id ((T_Mail.mk (T_Path.mk v244.GS.GM.GT v244.GS.GM.GR v244.GS.GM.GJ) v244.GS.To v244.GS.GH v244.GS.Ha v244.GS.GN v244.GS.At)) 4 v244.GX)) ae.ilen hv244 rfl (by decide)).trans (congrArg (fun l=>flatten (map ae.ienc l)) (Option.some.inj hv245))) rfl⟩ ?_
 refine ye [3,4,6,7,8] ?_
 refine aT ?_
 refine eW (fs:=[(3,.box 31 (T_Rec.c p_r [])),(4,.box 37 [vz,vi 0,vz,vz,vi 0,vz]),(6,.box 37 [.fr (.own 47) false 11 (flatten (map ae.ienc v245)),vi v1.GY,.fl (.own 3) 1 (map (int .i64) v1.Hb),.fl (.own 5) 1 (map (int .u8) v1.GZ),vi v1.Of,.fl (.own 3) 1 (map (int .i64) v1.GK)]),(7,.box 31 [vi p_r.GQ,vb false,vs z0,vs z0,.fl .shr 3 (flatten (map T_Path.enc [])),fb [],vb false,vs z0,vi 0,vi p_r.Id,fi [],vi 0,vi 0,vi 0,fb []]),(8,vb s1222)]) (.same _ (.same _ (.same _ (.box _ _ (ag (am _) (ag (am _) (ag (am _) (ag (am _) (ag (aS 3) (ag (aS 1) (ag (am _) (ag (am _) (ag (am _) (ag (am _) (ag (aS 1) (ag (am _) (ag (am _) (ag (am _) (ag (aS 1) (cz)))))))))))))))) rfl (.same _ .nil))))) ?_
 exact hl1033 _ (zi h).symm
 refine aE (aT ?_)
 refine aB [0,1,2,3,4] (by kernel_rfl) (es':=[(_,_),(_,_),(_,_),(_,_),(_,_)]) rfl ?_
 refine eW (fs:=[(3,.box 31 (T_Rec.c p_r [])),(4,.box 37 [vz,vi 0,vz,vz,vi 0,vz]),(6,.box 37 [.fr (.own 47) false 11 (flatten (map ae.ienc v1.GP)),vi v1.GY,.fl (.own 3) 1 (map (int .i64) v1.Hb),.fl (.own 5) 1 (map (int .u8) v1.GZ),vi v1.Of,.fl (.own 3) 1 (map (int .i64) v1.GK)]),(7,.box 31 [vi p_r.GQ,vb false,vs z0,vs z0,.fl .shr 3 (flatten (map T_Path.enc [])),fb [],vb false,vs z0,vi 0,vi p_r.Id,fi [],vi 0,vi 0,vi 0,fb []]),(8,vb s1222)]) (.same _ (.same _ (.same _ (.box _ _ (ag (am _) (ag (am _) (ag (am _) (ag (am _) (ag (aS 3) (ag (aS 1) (ag (am _) (ag (am _) (ag (am _) (ag (am _) (ag (aS 1) (ag (am _) (ag (am _) (ag (am _) (ag (aS 1) (cz)))))))))))))))) rfl (.same _ .nil))))) ?_
 exact hl1033 _ (zi h).symm
 intro u1223 h hl1224 hr1225
 obtain ⟨v233,hv233,h⟩:=zn h
 refine ao h (fun hg33_6 h => ?_) (fun hg33_6 h => ?_)
 obtain ⟨v234,hv234,v235,hv235,v236,hv236,h⟩:=pj h
 refine yx hn 5 ?_
 refine ys 1 ⟨lk call35 (aN _ _ _ _ hv233)⟩ ?_
 refine yd hg33_6 4 ?_
 refine ys 0 ⟨lb hv234⟩ ?_
 refine ys 1 ⟨lI hv235⟩ ?_
 refine yS (vi v236.Hc) 3 ⟨bA _ _ _ _ _ _ _ underlying3 rfl rfl rfl (aL ae.ilen hv236 rfl) (.v _)⟩ ?_
 refine ye [3,4,6,7,8] ?_
 exact hl1224 _ (zi h).symm
 refine yx hn 5 ?_
 refine ys 1 ⟨lk call35 (aN _ _ _ _ hv233)⟩ ?_
 refine yd hg33_6 11 ?_
 refine ye [3,4,6,7,8] ?_
 exact hl1224 _ (zi h).symm
 refine aZ hn 2 [2,3,4,6,7,8,21,253] ?_
 refine zc h rfl (fun h => ?_) (fun h => ?_)
 refine aj ?_
 refine wb [[3],[255,3],[3],[257,3],[3],[259,3],[7]] ?_
 refine wK [7] [261,256] ?_
 refine wt [(7,.box 31 [vi p_r.GQ,vb false,vs z0,vs z0,vz,vz,vb false,vs z0,vi 0,vi 0,vz,vi 0,vi p_r.GU,vi 0,vz])] [[7]] ⟨eS _ _ _ _ _ _ _ _ pd rfl rfl rfl rfl (zl rfl) rfl rfl⟩ ?_
 refine wK [7] [262,258] ?_
 refine wt [(7,.box 31 [vi p_r.GQ,vb false,vs z0,vs z0,vz,vz,vb false,vs z0,vi 0,vi 0,vz,vi 0,vi p_r.GU,vi p_r.GV,vz])] [[7]] ⟨eS _ _ _ _ _ _ _ _ pd rfl rfl rfl rfl (zl rfl) rfl rfl⟩ ?_
 refine wK [7] [263,260] ?_
 refine wt [(7,.box 31 [vi p_r.GQ,vb false,vs z0,vs z0,vz,vz,vb false,vs z0,vi 0,vi 0,vz,vi 0,vi p_r.GU,vi p_r.GV,fb p_r.GI])] [] ⟨eS _ _ _ _ _ _ _ _ tw rfl rfl rfl rfl (zl rfl) rfl rfl⟩ ?_
 refine ue hn [2,3,4,6,7] ?_
 refine aj ?_
 refine aK h (fun (s1228:Bool)=>[(3,.box 31 (T_Rec.c p_r [])),(4,.box 37 [vz,vi 0,vz,vz,vi 0,vz]),(6,.box 37 [.fr (.own 47) false 11 (flatten (map ae.ienc v1.GP)),vi v1.GY,.fl (.own 3) 1 (map (int .i64) v1.Hb),.fl (.own 5) 1 (map (int .u8) v1.GZ),vi v1.Of,.fl (.own 3) 1 (map (int .i64) v1.GK)]),(7,.box 31 [vi p_r.GQ,vb false,vs z0,vs z0,vz,vz,vb false,vs z0,vi 0,vi 0,vz,vi 0,vi p_r.GU,vi p_r.GV,fb p_r.GI]),(8,vb s1228)]) ?_ ?_
 rintro s1228 h
 refine ak (aj ?_)
 refine aK h (fun ((s1233,s1234):(List Int)×Int)=>[(3,.box 31 (T_Rec.c p_r [])),(4,.box 37 [vz,vi 0,vz,vz,vi 0,vz]),(6,.box 37 [.fr (.own 47) false 11 (flatten (map ae.ienc v1.GP)),vi v1.GY,.fl (.own 3) 1 (map (int .i64) v1.Hb),.fl (.own 5) 1 (map (int .u8) s1233),vi s1234,.fl (.own 3) 1 (map (int .i64) v1.GK)]),(7,.box 31 [vi p_r.GQ,vb false,vs z0,vs z0,vz,vz,vb false,vs z0,vi 0,vi 0,vz,vi 0,vi p_r.GU,vi p_r.GV,fb p_r.GI]),(8,vb s1228)]) ?_ ?_
 rintro ⟨s1233,s1234⟩ h
 refine ak ?_
 refine aK h (fun (s1239:Bool)=>[(3,.box 31 (T_Rec.c p_r [])),(4,.box 37 [vz,vi 0,vz,vz,vi 0,vz]),(6,.box 37 [.fr (.own 47) false 11 (flatten (map ae.ienc v1.GP)),vi v1.GY,.fl (.own 3) 1 (map (int .i64) v1.Hb),.fl (.own 5) 1 (map (int .u8) s1233),vi s1234,.fl (.own 3) 1 (map (int .i64) v1.GK)]),(7,.box 31 [vi p_r.GQ,vb false,vs z0,vs z0,vz,vz,vb false,vs z0,vi 0,vi 0,vz,vi 0,vi p_r.GU,vi p_r.GV,fb p_r.GI]),(8,vb s1239)]) ?_ ?_
 rintro s1239 h
 refine aT ?_
 refine eW (fs:=[(3,.box 31 (T_Rec.c p_r [])),(4,.box 37 [vz,vi 0,vz,vz,vi 0,vz]),(6,.box 37 [.fr (.own 47) false 11 (flatten (map ae.ienc v1.GP)),vi v1.GY,.fl (.own 3) 1 (map (int .i64) v1.Hb),.fl (.own 5) 1 (map (int .u8) s1233),vi s1234,.fl (.own 3) 1 (map (int .i64) v1.GK)]),(7,.box 31 [vi p_r.GQ,vb false,vs z0,vs z0,.fl .shr 3 (flatten (map T_Path.enc [])),fb [],vb false,vs z0,vi 0,vi 0,fi [],vi 0,vi p_r.GU,vi p_r.GV,fb p_r.GI]),(8,vb s1239)]) (.same _ (.same _ (.same _ (.box _ _ (ag (am _) (ag (am _) (ag (am _) (ag (am _) (ag (aS 3) (ag (aS 1) (ag (am _) (ag (am _) (ag (am _) (ag (am _) (ag (aS 1) (ag (am _) (ag (am _) (ag (am _) (ag (am _) (cz)))))))))))))))) rfl (.same _ .nil))))) ?_
 exact hl1033 _ (zi h).symm
 intro u1240 h hl1241 hr1242
 refine ao h (fun hg42_1 h => ?_) (fun hg42_1 h => ?_)
 refine yx hn 2 ?_
 refine yd hg42_1 5 ?_
 refine yw [8] 1 ?_
 refine ye [3,4,6,7,8] ?_
 exact hl1241 _ (zi h).symm
 refine yx hn 2 ?_
 refine yd hg42_1 5 ?_
 refine yw [8] 1 ?_
 refine ye [3,4,6,7,8] ?_
 exact hl1241 _ (zi h).symm
 intro u1235 h hl1236 hr1237
 refine aZ hn 3 [3,4,6,7,8,303] ?_
 refine zc h rfl (fun h => ?_) (fun h => ?_)
 obtain ⟨v255,hv255,h⟩:=zn h
 refine wb [[3],[304,3],[3],[306,3]] ?_
 refine wN [307] ?_
 refine wo [[6]] ⟨lk call23 (eY _ _ hv255)⟩ ?_
 refine wK [6] [309,305] ?_
 refine wt [(6,.box 37 [.fr (.own 47) false 11 (flatten (map ae.ienc v1.GP)),vi v1.GY,.fl (.own 3) 1 (map (int .i64) v1.Hb),.fl (.own 5) 1 (map (int .u8) v1.GZ),vi p_r.GU,.fl (.own 3) 1 (map (int .i64) v1.GK)])] [[6]] ⟨eS _ _ _ _ _ _ _ _ pd rfl rfl rfl rfl (zl rfl) rfl rfl⟩ ?_
 refine wK [308,6] [310] ?_
 refine wt [(6,.box 37 [.fr (.own 47) false 11 (flatten (map ae.ienc v1.GP)),vi v1.GY,.fl (.own 3) 1 (map (int .i64) v1.Hb),.fl (.own 5) 1 (map (int .u8) v255),vi p_r.GU,.fl (.own 3) 1 (map (int .i64) v1.GK)])] [] ⟨aC _ _ _ _ _ _ _ _ tw rfl rfl rfl (zl rfl) rfl rfl⟩ ?_
 refine we hn [3,4,6,7,8] ?_
 exact hl1236 _ (zi h).symm
 obtain ⟨v256,hv256,h⟩:=zn h
 refine yx hn 4 ?_
 refine yk [6] [312,314] ?_
 refine wZ (6,.box 37 [.fr (.own 47) false 11 (flatten (map ae.ienc v1.GP)),vi v1.GY,.fl (.own 3) 1 (map (int .i64) v1.Hb),.any,vi v1.Of,.fl (.own 3) 1 (map (int .i64) v1.GK)]) (315,.fl (.own 5) 1 (map (int .u8) v256)) 1 ⟨jH _ _ _ _ _ _ Aj rfl rfl (zl rfl) rfl (fe _) (fe _) hv256 ((List.map_append).symm.trans (congrArg (map _) (iq hv256))) (Nat.ne_of_beq_eq_false rfl) rfl rfl⟩ ?_
 refine yw [312] 0 ?_
 refine yk [315,6] [316] ?_
 refine yt (6,.box 37 [.fr (.own 47) false 11 (flatten (map ae.ienc v1.GP)),vi v1.GY,.fl (.own 3) 1 (map (int .i64) v1.Hb),.fl (.own 5) 1 (map (int .u8) v256),vi v1.Of,.fl (.own 3) 1 (map (int .i64) v1.GK)]) 0 ⟨aC _ _ _ _ _ _ _ _ tw rfl rfl rfl (zl rfl) rfl rfl⟩ ?_
 refine ye [3,4,6,7,8] ?_
 exact hl1236 _ (zi h).symm
 intro u1229 h hl1230 hr1231
 obtain ⟨v247,hv247,h⟩:=zn h
 refine ao h (fun hg38_3 h => ?_) (fun hg38_3 h => ?_)
 obtain ⟨v248,hv248,h⟩:=zn h
 refine ao h (fun hg38_11 h => ?_) (fun hg38_11 h => ?_)
 obtain ⟨v249,hv249,h⟩:=zn h
 refine ao h (fun hg38_17 h => ?_) (fun hg38_17 h => ?_)
 refine ao h (fun hg38_21 h => ?_) (fun hg38_21 h => ?_)
 refine yx hn 2 ?_
 refine ys 1 ⟨lk call35 (aN _ _ _ _ hv247)⟩ ?_
 refine yd hg38_3 4 ?_
 refine ys 3 ⟨lk call37 (cV _ _ _ hv248)⟩ ?_
 refine yd hg38_11 3 ?_
 refine ys 2 ⟨lk call35 (aN _ _ _ _ hv249)⟩ ?_
 refine yd hg38_17 4 ?_
 refine yd hg38_21 16 ?_
 refine ye [3,4,6,7,8] ?_
 exact hl1230 _ (zi h).symm
 refine ao h (fun hg38_27 h => ?_) (fun hg38_27 h => ?_)
 refine yx hn 2 ?_
 refine ys 1 ⟨lk call35 (aN _ _ _ _ hv247)⟩ ?_
 refine yd hg38_3 4 ?_
 refine ys 3 ⟨lk call37 (cV _ _ _ hv248)⟩ ?_
 refine yd hg38_11 3 ?_
 refine ys 2 ⟨lk call35 (aN _ _ _ _ hv249)⟩ ?_
 refine yd hg38_17 4 ?_
 refine yd hg38_21 6 ?_
 refine yd hg38_27 10 ?_
 refine ye [3,4,6,7,8] ?_
 exact hl1230 _ (zi h).symm
 refine yx hn 2 ?_
 refine ys 1 ⟨lk call35 (aN _ _ _ _ hv247)⟩ ?_
 refine yd hg38_3 4 ?_
 refine ys 3 ⟨lk call37 (cV _ _ _ hv248)⟩ ?_
 refine yd hg38_11 3 ?_
 refine ys 2 ⟨lk call35 (aN _ _ _ _ hv249)⟩ ?_
 refine yd hg38_17 4 ?_
 refine yd hg38_21 6 ?_
 refine yd hg38_27 10 ?_
 refine ye [3,4,6,7,8] ?_
 exact hl1230 _ (zi h).symm
 refine yx hn 2 ?_
 refine ys 1 ⟨lk call35 (aN _ _ _ _ hv247)⟩ ?_
 refine yd hg38_3 4 ?_
 refine ys 3 ⟨lk call37 (cV _ _ _ hv248)⟩ ?_
 refine yd hg38_11 3 ?_
 refine ys 2 ⟨lk call35 (aN _ _ _ _ hv249)⟩ ?_
 refine yd hg38_17 20 ?_
 refine ye [3,4,6,7,8] ?_
 exact hl1230 _ (zi h).symm
 refine yx hn 2 ?_
 refine ys 1 ⟨lk call35 (aN _ _ _ _ hv247)⟩ ?_
 refine yd hg38_3 4 ?_
 refine ys 3 ⟨lk call37 (cV _ _ _ hv248)⟩ ?_
 refine yd hg38_11 26 ?_
 refine ye [3,4,6,7,8] ?_
 exact hl1230 _ (zi h).symm
 refine yx hn 2 ?_
 refine ys 1 ⟨lk call35 (aN _ _ _ _ hv247)⟩ ?_
 refine yd hg38_3 34 ?_
 refine ye [3,4,6,7,8] ?_
 exact hl1230 _ (zi h).symm
 refine aZ hn 2 [2,3,4,6,7,8,324] ?_
 refine zc h rfl (fun h => ?_) (fun h => ?_)
 refine aZ hn 4 [2,3,4,6,7] ?_
 refine aj ?_
 refine aK h (fun (s1244:Bool)=>[(2,.box 37 (ai.c s [])),(3,.box 31 (T_Rec.c p_r [])),(4,.box 37 [vz,vi 0,vz,vz,vi 0,vz]),(6,.box 37 [.fr (.own 47) false 11 (flatten (map ae.ienc v1.GP)),vi v1.GY,.fl (.own 3) 1 (map (int .i64) v1.Hb),.fl (.own 5) 1 (map (int .u8) v1.GZ),vi v1.Of,.fl (.own 3) 1 (map (int .i64) v1.GK)]),(7,.box 31 [vi p_r.GQ,vb false,vs z0,vs z0,vz,vz,vb false,vs z0,vi 0,vi 0,vz,vi 0,vi p_r.GU,vi 0,vz]),(8,vb s1244)]) ?_ ?_
 rintro s1244 h
 refine ak ?_
 refine aZ hn 1 [2,3,4,6,7,8,12] ?_
 refine aZ hn 1 [2,3,4,6,7,8,12,13] ?_
 refine aj ?_
 refine aZ hn 1 [2,3,4,6,7,8,12,13,14] ?_
 refine nM (fs:=[(2,.box 37 (ai.c s [])),(3,.box 31 (T_Rec.c p_r [])),(4,.box 37 [vz,vi 0,vz,vz,vi 0,vz]),(6,.box 37 [.fr (.own 47) false 11 (flatten (map ae.ienc v1.GP)),vi v1.GY,.fl (.own 3) 1 (map (int .i64) v1.Hb),.fl (.own 5) 1 (map (int .u8) v1.GZ),vi v1.Of,.fl (.own 3) 1 (map (int .i64) v1.GK)]),(7,.box 31 [vi p_r.GQ,vb false,vs z0,vs z0,vz,vz,vb false,vs z0,vi 0,vi 0,vz,vi 0,vi p_r.GU,vi 0,vz]),(8,vb s1244),(12,.fl (.own 3) 1 (map (int .i64) [])),(13,vb false),(14,vi 0)]) (.same _ (.same _ (.same _ (.same _ (.same _ (.same _ (.sub _ (dA 3 1) rfl (.same _ (.same _ .nil))))))))) ?_
 refine bp h (fun ((s1283,s1284,s1285):(List Int)×Bool×Int)=>[(2,.box 37 (ai.c s [])),(3,.box 31 (T_Rec.c p_r [])),(4,.box 37 [vz,vi 0,vz,vz,vi 0,vz]),(6,.box 37 [.fr (.own 47) false 11 (flatten (map ae.ienc v1.GP)),vi v1.GY,.fl (.own 3) 1 (map (int .i64) v1.Hb),.fl (.own 5) 1 (map (int .u8) v1.GZ),vi v1.Of,.fl (.own 3) 1 (map (int .i64) v1.GK)]),(7,.box 31 [vi p_r.GQ,vb false,vs z0,vs z0,vz,vz,vb false,vs z0,vi 0,vi 0,vz,vi 0,vi p_r.GU,vi 0,vz]),(8,vb s1244),(12,.fl (.own 3) 1 (map (int .i64) s1283)),(13,vb s1284),(14,vi s1285)]) (fun ((s1302,s1303):(List Int)×Bool)=>[(2,.box 37 (ai.c s [])),(3,.box 31 (T_Rec.c p_r [])),(4,.box 37 [vz,vi 0,vz,vz,vi 0,vz]),(6,.box 37 [.fr (.own 47) false 11 (flatten (map ae.ienc v1.GP)),vi v1.GY,.fl (.own 3) 1 (map (int .i64) v1.Hb),.fl (.own 5) 1 (map (int .u8) v1.GZ),vi v1.Of,.fl (.own 3) 1 (map (int .i64) v1.GK)]),(7,.box 31 [vi p_r.GQ,vb false,vs z0,vs z0,vz,vz,vb false,vs z0,vi 0,vi 0,vz,vi 0,vi p_r.GU,vi 0,vz]),(8,vb s1244),(12,.fl (.own 3) 1 (map (int .i64) s1302)),(13,vb s1303)]) ?_ ?_
 rintro ⟨s1302,s1303⟩ h
 refine ak (aj ?_)
 refine aK h (fun (s1327:(List Int))=>[(2,.box 37 (ai.c s [])),(3,.box 31 (T_Rec.c p_r [])),(4,.box 37 [vz,vi 0,vz,vz,vi 0,vz]),(6,.box 37 [.fr (.own 47) false 11 (flatten (map ae.ienc v1.GP)),vi v1.GY,.fl (.own 3) 1 (map (int .i64) v1.Hb),.fl (.own 5) 1 (map (int .u8) v1.GZ),vi v1.Of,.fl (.own 3) 1 (map (int .i64) v1.GK)]),(7,.box 31 [vi p_r.GQ,vb false,vs z0,vs z0,vz,vz,vb false,vs z0,vi 0,vi 0,vz,vi 0,vi p_r.GU,vi 0,vz]),(8,vb s1244),(12,.fl (.own 3) 1 (map (int .i64) s1327))]) ?_ ?_
 rintro s1327 h
 refine ak ?_
 refine iJ hn 0 ?_
 refine ym 1 ?_
 refine yk [379,6] [380] ?_
 refine yt (6,.box 37 [.fr (.own 47) false 11 (flatten (map ae.ienc v1.GP)),vi v1.GY,.fl (.own 3) 1 (map (int .i64) v1.Hb),.fl (.own 5) 1 (map (int .u8) v1.GZ),vi v1.Of,.fl (.own 3) 1 (map (int .i64) s1327)]) 0 ⟨aC _ _ _ _ _ _ _ _ qt rfl rfl rfl (zl rfl) rfl rfl⟩ ?_
 refine cN [2,3,4,6,7,8] ?_
 refine aZ hn 5 [3,4,6,7,8,385] ?_
 refine zc h rfl (fun h => ?_) (fun h => ?_)
 refine yy hn 4 [3,4,6,7,8] ?_
 refine aT ?_
 refine eW (fs:=[(3,.box 31 (T_Rec.c p_r [])),(4,.box 37 [vz,vi 0,vz,vz,vi 0,vz]),(6,.box 37 [.fr (.own 47) false 11 (flatten (map ae.ienc v1.GP)),vi v1.GY,.fl (.own 3) 1 (map (int .i64) v1.Hb),.fl (.own 5) 1 (map (int .u8) []),vi (-1),.fl (.own 3) 1 (map (int .i64) s1327)]),(7,.box 31 [vi p_r.GQ,vb false,vs z0,vs z0,.fl .shr 3 (flatten (map T_Path.enc [])),fb [],vb false,vs z0,vi 0,vi 0,fi [],vi 0,vi p_r.GU,vi 0,fb []]),(8,vb s1244)]) (.same _ (.same _ (.box _ _ (ag (am _) (ag (am _) (ag (am _) (ag (dA 5 1) (ag (am _) (ag (am _) (cz))))))) rfl (.box _ _ (ag (am _) (ag (am _) (ag (am _) (ag (am _) (ag (aS 3) (ag (aS 1) (ag (am _) (ag (am _) (ag (am _) (ag (am _) (ag (aS 1) (ag (am _) (ag (am _) (ag (am _) (ag (aS 1) (cz)))))))))))))))) rfl (.same _ .nil))))) ?_
 exact hl1033 _ (zi h).symm
 refine aE (aT ?_)
 refine aB [0,1,2,3,4] (by kernel_rfl) (es':=[(_,_),(_,_),(_,_),(_,_),(_,_)]) rfl ?_
 refine eW (fs:=[(3,.box 31 (T_Rec.c p_r [])),(4,.box 37 [vz,vi 0,vz,vz,vi 0,vz]),(6,.box 37 [.fr (.own 47) false 11 (flatten (map ae.ienc v1.GP)),vi v1.GY,.fl (.own 3) 1 (map (int .i64) v1.Hb),.fl (.own 5) 1 (map (int .u8) v1.GZ),vi v1.Of,.fl (.own 3) 1 (map (int .i64) s1327)]),(7,.box 31 [vi p_r.GQ,vb false,vs z0,vs z0,.fl .shr 3 (flatten (map T_Path.enc [])),fb [],vb false,vs z0,vi 0,vi 0,fi [],vi 0,vi p_r.GU,vi 0,fb []]),(8,vb s1244)]) (.same _ (.same _ (.same _ (.box _ _ (ag (am _) (ag (am _) (ag (am _) (ag (am _) (ag (aS 3) (ag (aS 1) (ag (am _) (ag (am _) (ag (am _) (ag (am _) (ag (aS 1) (ag (am _) (ag (am _) (ag (am _) (ag (aS 1) (cz)))))))))))))))) rfl (.same _ .nil))))) ?_
 exact hl1033 _ (zi h).symm
 intro u1328 h hl1329 hr1330
 refine aZ hn 2 [2,3,4,6,7,8,12,373] ?_
 refine zc h rfl (fun h => ?_) (fun h => ?_)
 obtain ⟨v360,hv360,h⟩:=zn h
 refine yx hn 0 ?_
 refine ym 2 ?_
 refine yS (.fl (.own 3) 1 (map (int .i64) [p_r.GU])) 0 ⟨dC _ _ 1 (.int .i64 0) (map (int .i64) [p_r.GU]) [(0,.int .i64 p_r.GU)] underlying29 pd Cs (fun _ V w o a hv hes=>by have e0:=dD hv hes (x := .tmp 376) rfl; simp only [List.map_toArray,List.map_cons,List.map_nil,e0]; try rfl) (iU (by simp [Instr.fill,Value.cells]; rfl) (by simp [List.range,List.range.loop] <;> rfl)) (by simp [Value.oneCell']) rfl (by decide) (by decide) (by decide)⟩ ?_
 refine yp vI hv360 0 ?_
 refine ya 0 ?_
 refine ye [2,3,4,6,7,8,12] ?_
 exact hl1329 _ (zi h).symm
 refine aE ?_
 refine aB [0,1,2,3,4,5,6] (by kernel_rfl) (es':=[(_,_),(_,_),(_,_),(_,_),(_,_),(_,_),(_,_)]) rfl ?_
 exact hl1329 _ (zi h).symm
 rintro u1304 hl1305 hr1306 ⟨s1283,s1284,s1285⟩ rr1309 h ho1307
 refine aj ?_
 refine aZ hn 5 [2,3,4,6,7,8,12,13,14,344] ?_
 refine zc h rfl (fun h => ?_) (fun h => ?_)
 refine aE ?_
 refine ak (aj ?_)
 refine aU (aj ?_)
 refine aK h (fun ((s1316,s1317):(List Int)×Bool)=>[(2,.box 37 (ai.c s [])),(3,.box 31 (T_Rec.c p_r [])),(4,.box 37 [vz,vi 0,vz,vz,vi 0,vz]),(6,.box 37 [.fr (.own 47) false 11 (flatten (map ae.ienc v1.GP)),vi v1.GY,.fl (.own 3) 1 (map (int .i64) v1.Hb),.fl (.own 5) 1 (map (int .u8) v1.GZ),vi v1.Of,.fl (.own 3) 1 (map (int .i64) v1.GK)]),(7,.box 31 [vi p_r.GQ,vb false,vs z0,vs z0,vz,vz,vb false,vs z0,vi 0,vi 0,vz,vi 0,vi p_r.GU,vi 0,vz]),(8,vb s1244),(14,vi s1285),(12,.fl (.own 3) 1 (map (int .i64) s1316)),(13,vb s1317)]) ?_ ?_
 rintro ⟨s1316,s1317⟩ h
 refine ak ?_
 obtain ⟨v293,hv293,v294,hv294,v295,hv295,h⟩:=pj h
 refine yx hn 0 ?_
 refine ym 3 ?_
 refine ys 0 ⟨li hv293⟩ ?_
 refine ys 0 ⟨ll hv294⟩ ?_
 refine yS (.fl (.own 3) 1 (map (int .i64) [v294])) 0 ⟨dC _ _ 1 (.int .i64 0) (map (int .i64) [v294]) [(0,.int .i64 v294)] underlying29 pd Cs (fun _ V w o a hv hes=>by have e0:=dD hv hes (x := .tmp 369) rfl; simp only [List.map_toArray,List.map_cons,List.map_nil,e0]; try rfl) (iU (by simp [Instr.fill,Value.cells]; rfl) (by simp [List.range,List.range.loop] <;> rfl)) (by simp [Value.oneCell']) rfl (by decide) (by decide) (by decide)⟩ ?_
 refine yp vI hv295 0 ?_
 refine ya 0 ?_
 refine ye [2,3,4,6,7,8,14,13,12] ?_
 refine aT (ak ?_)
 obtain ⟨v296,hv296,h⟩:=zn h
 refine yx hn 1 ?_
 refine ys 0 ⟨lb hv296⟩ ?_
 refine yw [14] 1 ?_
 refine ye [2,3,4,6,7,8,13,12,14] ?_
 refine aB [0,1,2,3,4,5,7,6,8] (by kernel_rfl) (es':=[(_,_),(_,_),(_,_),(_,_),(_,_),(_,_),(_,_),(_,_),(_,_)]) rfl ?_
 exact bH _ (zi h).symm rfl
 intro u1318 h hl1319 hr1320
 refine aj ?_
 refine aK h (fun (s1321:Bool)=>[(2,.box 37 (ai.c s [])),(3,.box 31 (T_Rec.c p_r [])),(4,.box 37 [vz,vi 0,vz,vz,vi 0,vz]),(6,.box 37 [.fr (.own 47) false 11 (flatten (map ae.ienc v1.GP)),vi v1.GY,.fl (.own 3) 1 (map (int .i64) v1.Hb),.fl (.own 5) 1 (map (int .u8) v1.GZ),vi v1.Of,.fl (.own 3) 1 (map (int .i64) v1.GK)]),(7,.box 31 [vi p_r.GQ,vb false,vs z0,vs z0,vz,vz,vb false,vs z0,vi 0,vi 0,vz,vi 0,vi p_r.GU,vi 0,vz]),(8,vb s1244),(12,.fl (.own 3) 1 (map (int .i64) s1283)),(13,vb s1284),(14,vi s1285),(358,vb s1321)]) ?_ ?_
 rintro s1321 h
 refine ak ?_
 refine zc h rfl (fun h => ?_) (fun h => ?_)
 obtain ⟨v282,hv282,h⟩:=zn h
 refine yx hn 0 ?_
 refine ym 2 ?_
 refine yS (.fl (.own 3) 1 (map (int .i64) [p_r.GU])) 0 ⟨dC _ _ 1 (.int .i64 0) (map (int .i64) [p_r.GU]) [(0,.int .i64 p_r.GU)] underlying29 pd Cs (fun _ V w o a hv hes=>by have e0:=dD hv hes (x := .tmp 361) rfl; simp only [List.map_toArray,List.map_cons,List.map_nil,e0]; try rfl) (iU (by simp [Instr.fill,Value.cells]; rfl) (by simp [List.range,List.range.loop] <;> rfl)) (by simp [Value.oneCell']) rfl (by decide) (by decide) (by decide)⟩ ?_
 refine yp vI hv282 0 ?_
 refine ya 0 ?_
 refine yw [13] 1 ?_
 refine ye [2,3,4,6,7,8,14,12,13] ?_
 exact hl1319 _ (zi h).symm
 refine aE ?_
 refine aB [0,1,2,3,4,5,8,6,7] (by kernel_rfl) (es':=[(_,_),(_,_),(_,_),(_,_),(_,_),(_,_),(_,_),(_,_),(_,_)]) rfl ?_
 exact hl1319 _ (zi h).symm
 intro u1322 h hl1323 hr1324
 obtain ⟨v275,hv275,v276,hv276,h⟩:=ii h
 refine ao h (fun hg51_8 h => ?_) (fun hg51_8 h => ?_)
 refine wb [[2],[347,2],[14]] ?_
 refine wN [348,349] ?_
 refine wo [] ⟨li hv275⟩ ?_
 refine wN [350,348] ?_
 refine wo [[3],[352,3],[351,353],[354]] ⟨ll hv276⟩ ?_
 refine wd hg51_8 [[355,13],[355,356],[355,357]] ?_
 refine we hn [2,3,4,6,7,8,12,13,14,358] ?_
 exact hl1323 _ (zi h).symm
 refine wb [[2],[347,2],[14]] ?_
 refine wN [348,349] ?_
 refine wo [] ⟨li hv275⟩ ?_
 refine wN [350,348] ?_
 refine wo [[3],[352,3],[351,353],[354]] ⟨ll hv276⟩ ?_
 refine wd hg51_8 [[355],[355],[355]] ?_
 refine we hn [2,3,4,6,7,8,12,13,14,358] ?_
 exact hl1323 _ (zi h).symm
 refine bF (aH (aH (bG ?_)))
 refine aB [0,1,2,3,4,5,6,7] (by kernel_rfl) (es':=[(_,_),(_,_),(_,_),(_,_),(_,_),(_,_),(_,_),(_,_)]) rfl ?_
 exact hl1305 _ (ho1307 _ (zi h).symm).symm
 intro u1245 h hl1246 hr1247
 obtain ⟨v268,hv268,h⟩:=zn h
 refine ao h (fun hg45_3 h => ?_) (fun hg45_3 h => ?_)
 obtain ⟨v269,hv269,h⟩:=zn h
 refine yx hn 2 ?_
 refine ys 1 ⟨lk call35 (aN _ _ _ _ hv268)⟩ ?_
 refine yd hg45_3 4 ?_
 refine ys 3 ⟨lk call37 (cV _ _ _ hv269)⟩ ?_
 refine ye [2,3,4,6,7,8] ?_
 exact hl1246 _ (zi h).symm
 refine yx hn 2 ?_
 refine ys 1 ⟨lk call35 (aN _ _ _ _ hv268)⟩ ?_
 refine yd hg45_3 8 ?_
 refine ye [2,3,4,6,7,8] ?_
 exact hl1246 _ (zi h).symm
 refine aE (aT ?_)
 refine aB [1,2,3,4,5] (by kernel_rfl) (es':=[(_,_),(_,_),(_,_),(_,_),(_,_)]) rfl ?_
 refine eW (fs:=[(3,.box 31 (T_Rec.c p_r [])),(4,.box 37 [vz,vi 0,vz,vz,vi 0,vz]),(6,.box 37 [.fr (.own 47) false 11 (flatten (map ae.ienc v1.GP)),vi v1.GY,.fl (.own 3) 1 (map (int .i64) v1.Hb),.fl (.own 5) 1 (map (int .u8) v1.GZ),vi v1.Of,.fl (.own 3) 1 (map (int .i64) v1.GK)]),(7,.box 31 [vi p_r.GQ,vb false,vs z0,vs z0,.fl .shr 3 (flatten (map T_Path.enc [])),fb [],vb false,vs z0,vi 0,vi 0,fi [],vi 0,vi 0,vi 0,fb []]),(8,vb false)]) (.same _ (.same _ (.same _ (.box _ _ (ag (am _) (ag (am _) (ag (am _) (ag (am _) (ag (aS 3) (ag (aS 1) (ag (am _) (ag (am _) (ag (am _) (ag (am _) (ag (aS 1) (ag (am _) (ag (am _) (ag (am _) (ag (aS 1) (cz)))))))))))))))) rfl (.same _ .nil))))) ?_
 exact hl1033 _ (zi h).symm
end Go.Proofs.YtjdmcbkkacnmdaaGreatDoor
