import Derived.Test.YtjdmcbkkacnmdaaGreatDoorOkc7
set_option linter.unusedVariables false
set_option linter.unusedSimpArgs false
set_option maxHeartbeats 1000000
namespace Go.Proofs.YtjdmcbkkacnmdaaGreatDoor
open Go.Abs Go.Abs.Sh Tryz
open List (map flatten)
open Value (int)

theorem jE (mx:Int) (l:(List T_Rec)) (p_r:T_Rec) (r:Bool) (h:Sh.dW l p_r=some r):kM Tryz.prog (GL mx) 3 [.fr .shr true 15 (flatten (map T_Rec.ienc l)),.agg [.v (.int .i64 p_r.GQ),.v (.bool p_r.GS.GM.GT),.v (.string p_r.GS.GM.GR),.v (.string p_r.GS.GM.GJ),.fl .shr 3 (flatten (map T_Path.enc p_r.GS.To)),.fl .shr 1 (map (int .u8) p_r.GS.GH),.v (.bool p_r.GS.Ha),.v (.string p_r.GS.GN),.v (.int .i64 p_r.GS.At),.v (.int .i64 p_r.Id),.fl .shr 1 (map (int .i64) p_r.GO),.v (.int .i64 p_r.GW),.v (.int .i64 p_r.GU),.v (.int .i64 p_r.GV),.fl .shr 1 (map (int .u8) p_r.GI)]] (.v (.bool r)):=by
 unfold Sh.dW at h
 refine yG 115 func3 fun g0 hn hio => ?_
 refine aZ hn 2 [0,115,3] ?_
 refine aj (aj ?_)
 refine aK h (fun (s3:Bool)=>[(0,.fr .shr true 15 (flatten (map T_Rec.ienc l))),(115,.glob (GL mx)),(3,.box 31 (T_Rec.c p_r [])),(22,vb s3)]) ?_ ?_
 rintro s3 h
 refine ak ?_
 refine zc h rfl (fun h => ?_) (fun h => ?_)
 refine aZ hn 1 [115,4] ?_
 refine aD ?_
 refine aB [1] (by kernel_rfl) (es':=[(_,_)]) rfl ?_
 refine ay ?_
 obtain rfl:=zi h
 exact aJ hio rfl (.tmp _ _ .nil) rfl rfl
 refine aE ?_
 refine ak (aj ?_)
 obtain ⟨v8,hv8,v9,hv9,h⟩:=ii h
 refine wb [[0]] ?_
 refine wN [23] ?_
 refine wo [[3]] ⟨lk call7 (kE _ _ hv8)⟩ ?_
 refine wN [25] ?_
 refine wo [] ⟨lk call8 (fo _ _ hv9)⟩ ?_
 refine wN [] ?_
 refine wS (.box 31 [vi 0,vb false,vs z0,vs z0,vz,vz,vb false,vs z0,vi 0,vi 0,vz,vi 0,vi 0,vi 0,vz]) [] ⟨oA (bj _ _ kq)⟩ ?_
 refine wK [24] [] ?_
 refine wt [(5,.fr (.own 31) false 15 (flatten (map T_Rec.ienc v8)))] [] ⟨lp _ _ _ _ rfl⟩ ?_
 refine wK [26,6] [] ?_
 refine wt [(6,.box 31 [vi v9.GQ,vb v9.GS.GM.GT,vs v9.GS.GM.GR,vs v9.GS.GM.GJ,.fl (.own 24) 3 (flatten (map T_Path.enc v9.GS.To)),.fl (.own 5) 1 (map (int .u8) v9.GS.GH),vb v9.GS.Ha,vs v9.GS.GN,vi v9.GS.At,vi v9.Id,.fl (.own 3) 1 (map (int .i64) v9.GO),vi v9.GW,vi v9.GU,vi v9.GV,.fl (.own 5) 1 (map (int .u8) v9.GI)])] [] ⟨aC _ _ _ _ _ _ _ _ gN rfl rfl rfl (zl rfl) rfl rfl⟩ ?_
 refine ue hn [0,115,3,6,5] ?_
 refine aj ?_
 obtain ⟨v10,hv10,h⟩:=zn h
 refine yx hn 1 ?_
 refine yS (.tup [.agg [.hid (bu 47 11 (flatten (map bD v10.1.GP))),vi v10.1.GY,.fl (.own 3) 1 (map (int .i64) v10.1.Hb),.fl (.own 5) 1 (map (int .u8) v10.1.GZ),vi v10.1.Of,.fl (.own 3) 1 (map (int .i64) v10.1.GK)],vi v10.2]) 0 ⟨jY _ _ 115 9 _ _ rfl call9 (cM rfl du) rfl (fun _ h=>h) (jR mx v8 _ hv10) rfl (jf (aG (ix (aG (fY (eU jB _) (fy jy _)) (aG (bc rfl rfl) (aG (bc rfl rfl) (aG (bc rfl rfl) (aG (bc rfl rfl) (aG (bc rfl rfl) (cC)))))))) (aG (bc rfl rfl) (cC))))⟩ ?_
 refine ym 0 ?_
 refine BT 1 ?_
 refine yS (.box 37 [vz,vi 0,vz,vz,vi 0,vz]) 0 ⟨oA (bj _ _ iF)⟩ ?_
 refine yk [30,7] [] ?_
 refine yt (7,.box 37 [.hid (bu 47 11 (flatten (map bD v10.1.GP))),vi v10.1.GY,.fl (.own 3) 1 (map (int .i64) v10.1.Hb),.fl (.own 5) 1 (map (int .u8) v10.1.GZ),vi v10.1.Of,.fl (.own 3) 1 (map (int .i64) v10.1.GK)]) 1 ⟨aC _ _ _ _ _ _ _ _ dn rfl rfl rfl (zl rfl) rfl rfl⟩ ?_
 refine cN [0,115,3,6,5,7,8] ?_
 refine aj ?_
 obtain ⟨v11,hv11,h⟩:=zn h
 refine yx hn 1 ?_
 refine ys 0 ⟨lk call10 (iR _ _ hv11)⟩ ?_
 refine ym 0 ?_
 refine BT 1 ?_
 refine yS (.box 37 [vz,vi 0,vz,vz,vi 0,vz]) 0 ⟨oA (bj _ _ iF)⟩ ?_
 refine yk [35,9] [] ?_
 refine yt (9,.box 37 [.fr (.own 47) false 11 (flatten (map ae.ienc v11.1.GP)),vi v11.1.GY,.fl (.own 3) 1 (map (int .i64) v11.1.Hb),.fl (.own 5) 1 (map (int .u8) v11.1.GZ),vi v11.1.Of,.fl (.own 3) 1 (map (int .i64) v11.1.GK)]) 1 ⟨aC _ _ _ _ _ _ _ _ dn rfl rfl rfl (zl rfl) rfl rfl⟩ ?_
 refine cN [0,115,3,6,5,7,8,9,10] ?_
 refine aj (aj ?_)
 refine aK h (fun (s16:Bool)=>[(0,.fr .shr true 15 (flatten (map T_Rec.ienc l))),(115,.glob (GL mx)),(3,.box 31 (T_Rec.c p_r [])),(6,.box 31 [vi v9.GQ,vb v9.GS.GM.GT,vs v9.GS.GM.GR,vs v9.GS.GM.GJ,.fl (.own 24) 3 (flatten (map T_Path.enc v9.GS.To)),.fl (.own 5) 1 (map (int .u8) v9.GS.GH),vb v9.GS.Ha,vs v9.GS.GN,vi v9.GS.At,vi v9.Id,.fl (.own 3) 1 (map (int .i64) v9.GO),vi v9.GW,vi v9.GU,vi v9.GV,.fl (.own 5) 1 (map (int .u8) v9.GI)]),(5,.fr (.own 31) false 15 (flatten (map T_Rec.ienc v8))),(7,.box 37 [.hid (bu 47 11 (flatten (map bD v10.1.GP))),vi v10.1.GY,.fl (.own 3) 1 (map (int .i64) v10.1.Hb),.fl (.own 5) 1 (map (int .u8) v10.1.GZ),vi v10.1.Of,.fl (.own 3) 1 (map (int .i64) v10.1.GK)]),(9,.box 37 [.fr (.own 47) false 11 (flatten (map ae.ienc v11.1.GP)),vi v11.1.GY,.fl (.own 3) 1 (map (int .i64) v11.1.Hb),.fl (.own 5) 1 (map (int .u8) v11.1.GZ),vi v11.1.Of,.fl (.own 3) 1 (map (int .i64) v11.1.GK)]),(53,vb s16)]) ?_ ?_
 rintro s16 h
 refine ak ?_
 refine zc h rfl (fun h => ?_) (fun h => ?_)
 refine aZ hn 1 [115,4] ?_
 refine aD ?_
 refine aB [1] (by kernel_rfl) (es':=[(_,_)]) rfl ?_
 refine ay ?_
 obtain rfl:=zi h
 exact aJ hio rfl (.tmp _ _ .nil) rfl rfl
 refine aE ?_
 refine ak (aj ?_)
 obtain ⟨v21,hv21,h⟩:=zn h
 refine yx hn 2 ?_
 refine yS (.tup [.agg [.hid (bu 47 11 (flatten (map bD v21.1.GP))),vi v21.1.GY,.fl (.own 3) 1 (map (int .i64) v21.1.Hb),.fl (.own 5) 1 (map (int .u8) v21.1.GZ),vi v21.1.Of,.fl (.own 3) 1 (map (int .i64) v21.1.GK)],vi v21.2]) 0 ⟨jY _ _ 115 15 _ _ rfl call15 (eP rfl (.o rfl rfl (gX gU _) (.p rfl (.p rfl (.p rfl (.p rfl (.p rfl .nil)))))) (cM rfl du)) rfl (fun _ h=>h) (mR mx (ai.mk v10.1.GP v10.1.GY v10.1.Hb v10.1.GZ v10.1.Of v10.1.GK) ((T_Rec.mk v9.GQ ((T_Mail.mk (T_Path.mk v9.GS.GM.GT v9.GS.GM.GR v9.GS.GM.GJ) v9.GS.To v9.GS.GH v9.GS.Ha v9.GS.GN v9.GS.At)) v9.Id v9.GO v9.GW v9.GU v9.GV v9.GI)) _ hv21) rfl (jf (aG (ix (aG (fY (eU jB _) (fy jy _)) (aG (bc rfl rfl) (aG (bc rfl rfl) (aG (bc rfl rfl) (aG (bc rfl rfl) (aG (bc rfl rfl) (cC)))))))) (aG (bc rfl rfl) (cC))))⟩ ?_
 refine ym 0 ?_
 refine BT 1 ?_
 refine yS (.box 37 [vz,vi 0,vz,vz,vi 0,vz]) 0 ⟨oA (bj _ _ iF)⟩ ?_
 refine yk [58,11] [] ?_
 refine yt (11,.box 37 [.hid (bu 47 11 (flatten (map bD v21.1.GP))),vi v21.1.GY,.fl (.own 3) 1 (map (int .i64) v21.1.Hb),.fl (.own 5) 1 (map (int .u8) v21.1.GZ),vi v21.1.Of,.fl (.own 3) 1 (map (int .i64) v21.1.GK)]) 1 ⟨aC _ _ _ _ _ _ _ _ dn rfl rfl rfl (zl rfl) rfl rfl⟩ ?_
 refine cN [0,115,3,6,5,7,9,11,12] ?_
 refine aj ?_
 obtain ⟨v22,hv22,h⟩:=zn h
 refine yx hn 2 ?_
 refine ys 0 ⟨lk call16 (jA _ _ _ hv22)⟩ ?_
 refine ym 0 ?_
 refine BT 1 ?_
 refine yS (.box 37 [vz,vi 0,vz,vz,vi 0,vz]) 0 ⟨oA (bj _ _ iF)⟩ ?_
 refine yk [64,13] [] ?_
 refine yt (13,.box 37 [.fr (.own 47) false 11 (flatten (map ae.ienc v22.1.GP)),vi v22.1.GY,.fl (.own 3) 1 (map (int .i64) v22.1.Hb),.fl (.own 5) 1 (map (int .u8) v22.1.GZ),vi v22.1.Of,.fl (.own 3) 1 (map (int .i64) v22.1.GK)]) 1 ⟨aC _ _ _ _ _ _ _ _ dn rfl rfl rfl (zl rfl) rfl rfl⟩ ?_
 refine cN [0,115,3,6,5,7,9,11,12,13,14] ?_
 refine aj (aj ?_)
 refine aK h (fun (s25:Bool)=>[(0,.fr .shr true 15 (flatten (map T_Rec.ienc l))),(115,.glob (GL mx)),(3,.box 31 (T_Rec.c p_r [])),(6,.box 31 [vi v9.GQ,vb v9.GS.GM.GT,vs v9.GS.GM.GR,vs v9.GS.GM.GJ,.fl (.own 24) 3 (flatten (map T_Path.enc v9.GS.To)),.fl (.own 5) 1 (map (int .u8) v9.GS.GH),vb v9.GS.Ha,vs v9.GS.GN,vi v9.GS.At,vi v9.Id,.fl (.own 3) 1 (map (int .i64) v9.GO),vi v9.GW,vi v9.GU,vi v9.GV,.fl (.own 5) 1 (map (int .u8) v9.GI)]),(5,.fr (.own 31) false 15 (flatten (map T_Rec.ienc v8))),(7,.box 37 [.hid (bu 47 11 (flatten (map bD v10.1.GP))),vi v10.1.GY,.fl (.own 3) 1 (map (int .i64) v10.1.Hb),.fl (.own 5) 1 (map (int .u8) v10.1.GZ),vi v10.1.Of,.fl (.own 3) 1 (map (int .i64) v10.1.GK)]),(9,.box 37 [.fr (.own 47) false 11 (flatten (map ae.ienc v11.1.GP)),vi v11.1.GY,.fl (.own 3) 1 (map (int .i64) v11.1.Hb),.fl (.own 5) 1 (map (int .u8) v11.1.GZ),vi v11.1.Of,.fl (.own 3) 1 (map (int .i64) v11.1.GK)]),(11,.box 37 [.hid (bu 47 11 (flatten (map bD v21.1.GP))),vi v21.1.GY,.fl (.own 3) 1 (map (int .i64) v21.1.Hb),.fl (.own 5) 1 (map (int .u8) v21.1.GZ),vi v21.1.Of,.fl (.own 3) 1 (map (int .i64) v21.1.GK)]),(80,vb s25)]) ?_ ?_
 rintro s25 h
 refine ak ?_
 refine zc h rfl (fun h => ?_) (fun h => ?_)
 refine aZ hn 1 [115,4] ?_
 refine aD ?_
 refine aB [1] (by kernel_rfl) (es':=[(_,_)]) rfl ?_
 refine ay ?_
 obtain rfl:=zi h
 exact aJ hio rfl (.tmp _ _ .nil) rfl rfl
 refine aE ?_
 refine ak (aj ?_)
 obtain ⟨v30,hv30,h⟩:=zn h
 refine yx hn 2 ?_
 refine yk [11] [82] ?_
 refine wZ (11,.box 37 [.hid (bu 47 11 (flatten (map bD v21.1.GP))),vi v21.1.GY,.fl (.own 3) 1 (map (int .i64) v21.1.Hb),.any,vi v21.1.Of,.fl (.own 3) 1 (map (int .i64) v21.1.GK)]) (83,.tup []) 0 ⟨rv _ _ 11 3 17 _ _ rfl call17 rfl rfl (zl rfl) rfl (mp v21.1.GZ _ hv30) rfl rfl rfl (by decide) rfl rfl⟩ ?_
 refine cN [0,115,3,6,5,7,9,11] ?_
 refine aj ?_
 refine aZ hn 1 [0,115,3,6,5,7,9,11,15] ?_
 refine bp h (fun ((s39,s40):(List ae)×Int)=>[(0,.fr .shr true 15 (flatten (map T_Rec.ienc l))),(115,.glob (GL mx)),(3,.box 31 (T_Rec.c p_r [])),(6,.box 31 [vi v9.GQ,vb v9.GS.GM.GT,vs v9.GS.GM.GR,vs v9.GS.GM.GJ,.fl (.own 24) 3 (flatten (map T_Path.enc v9.GS.To)),.fl (.own 5) 1 (map (int .u8) v9.GS.GH),vb v9.GS.Ha,vs v9.GS.GN,vi v9.GS.At,vi v9.Id,.fl (.own 3) 1 (map (int .i64) v9.GO),vi v9.GW,vi v9.GU,vi v9.GV,.fl (.own 5) 1 (map (int .u8) v9.GI)]),(5,.fr (.own 31) false 15 (flatten (map T_Rec.ienc v8))),(7,.box 37 [.hid (bu 47 11 (flatten (map bD v10.1.GP))),vi v10.1.GY,.fl (.own 3) 1 (map (int .i64) v10.1.Hb),.fl (.own 5) 1 (map (int .u8) v10.1.GZ),vi v10.1.Of,.fl (.own 3) 1 (map (int .i64) v10.1.GK)]),(9,.box 37 [.fr (.own 47) false 11 (flatten (map ae.ienc v11.1.GP)),vi v11.1.GY,.fl (.own 3) 1 (map (int .i64) v11.1.Hb),.fl (.own 5) 1 (map (int .u8) v11.1.GZ),vi v11.1.Of,.fl (.own 3) 1 (map (int .i64) v11.1.GK)]),(11,.box 37 [.hid (bu 47 11 (flatten (map bD s39))),vi v21.1.GY,.fl (.own 3) 1 (map (int .i64) v21.1.Hb),.any,vi v21.1.Of,.fl (.own 3) 1 (map (int .i64) v21.1.GK)]),(15,vi s40)]) (fun (():Unit)=>[(0,.fr .shr true 15 (flatten (map T_Rec.ienc l))),(115,.glob (GL mx)),(3,.box 31 (T_Rec.c p_r [])),(6,.box 31 [vi v9.GQ,vb v9.GS.GM.GT,vs v9.GS.GM.GR,vs v9.GS.GM.GJ,.fl (.own 24) 3 (flatten (map T_Path.enc v9.GS.To)),.fl (.own 5) 1 (map (int .u8) v9.GS.GH),vb v9.GS.Ha,vs v9.GS.GN,vi v9.GS.At,vi v9.Id,.fl (.own 3) 1 (map (int .i64) v9.GO),vi v9.GW,vi v9.GU,vi v9.GV,.fl (.own 5) 1 (map (int .u8) v9.GI)]),(5,.fr (.own 31) false 15 (flatten (map T_Rec.ienc v8))),(7,.box 37 [.hid (bu 47 11 (flatten (map bD v10.1.GP))),vi v10.1.GY,.fl (.own 3) 1 (map (int .i64) v10.1.Hb),.fl (.own 5) 1 (map (int .u8) v10.1.GZ),vi v10.1.Of,.fl (.own 3) 1 (map (int .i64) v10.1.GK)]),(9,.box 37 [.fr (.own 47) false 11 (flatten (map ae.ienc v11.1.GP)),vi v11.1.GY,.fl (.own 3) 1 (map (int .i64) v11.1.Hb),.fl (.own 5) 1 (map (int .u8) v11.1.GZ),vi v11.1.Of,.fl (.own 3) 1 (map (int .i64) v11.1.GK)])]) ?_ ?_
 rintro ⟨⟩ h
 refine ak (aj ?_)
 refine aK h (fun (s53:Bool)=>[(115,.glob (GL mx)),(4,vb s53)]) ?_ ?_
 rintro s53 h
 refine ak (aD ?_)
 refine aB [1] (by kernel_rfl) (es':=[(_,_)]) rfl ?_
 obtain rfl:=zi h
 exact aJ hio rfl (.tmp _ _ .nil) rfl rfl
 intro u54 h hl55 hr56
 obtain ⟨v49,hv49,h⟩:=zn h
 refine ao h (fun hg17_3 h => ?_) (fun hg17_3 h => ?_)
 obtain ⟨v50,hv50,h⟩:=zn h
 refine ao h (fun hg17_8 h => ?_) (fun hg17_8 h => ?_)
 obtain ⟨v51,hv51,h⟩:=zn h
 refine ao h (fun hg17_13 h => ?_) (fun hg17_13 h => ?_)
 obtain ⟨v52,hv52,h⟩:=zn h
 refine yx hn 0 ?_
 refine yk [7] [] ?_
 refine yt (99,.agg [.hid (bu 47 11 (flatten (map bD v10.1.GP))),vi v10.1.GY,.fl (.own 3) 1 (map (int .i64) v10.1.Hb),.fl (.own 5) 1 (map (int .u8) v10.1.GZ),vi v10.1.Of,.fl (.own 3) 1 (map (int .i64) v10.1.GK)]) 0 ⟨aW _ _ _ _ underlying37 rfl dn rfl rfl⟩ ?_
 refine yk [9] [] ?_
 refine yt (100,.agg [.fr (.own 47) false 11 (flatten (map ae.ienc v11.1.GP)),vi v11.1.GY,.fl (.own 3) 1 (map (int .i64) v11.1.Hb),.fl (.own 5) 1 (map (int .u8) v11.1.GZ),vi v11.1.Of,.fl (.own 3) 1 (map (int .i64) v11.1.GK)]) 0 ⟨aW _ _ _ _ underlying37 rfl dn rfl rfl⟩ ?_
 refine yS (vb v49) 1 ⟨fk _ _ 11 _ _ rfl call11 (eP rfl (.q (gX gU _) (.p rfl (.p rfl (.p rfl (.p rfl (.p rfl .nil)))))) (cM rfl du)) (bX (ai.mk v10.1.GP v10.1.GY v10.1.Hb v10.1.GZ v10.1.Of v10.1.GK) (ai.mk v11.1.GP v11.1.GY v11.1.Hb v11.1.GZ v11.1.Of v11.1.GK) _ hv49) rfl rfl⟩ ?_
 refine yd hg17_3 0 ?_
 refine ym 1 ?_
 refine ys 2 ⟨lk call12 (fh _ _ _ hv50)⟩ ?_
 refine yd hg17_8 0 ?_
 refine yk [6] [] ?_
 refine yt (108,.agg [vi v9.GQ,vb v9.GS.GM.GT,vs v9.GS.GM.GR,vs v9.GS.GM.GJ,.fl (.own 24) 3 (flatten (map T_Path.enc v9.GS.To)),.fl (.own 5) 1 (map (int .u8) v9.GS.GH),vb v9.GS.Ha,vs v9.GS.GN,vi v9.GS.At,vi v9.Id,.fl (.own 3) 1 (map (int .i64) v9.GO),vi v9.GW,vi v9.GU,vi v9.GV,.fl (.own 5) 1 (map (int .u8) v9.GI)]) 1 ⟨aW _ _ _ _ underlying31 rfl gN rfl rfl⟩ ?_
 refine ys 2 ⟨lk call18 (fu _ _ _ hv51)⟩ ?_
 refine yd hg17_13 0 ?_
 refine ys 2 ⟨lg call19 (kW _ _ hv52) 115⟩ ?_
 refine ye [115,4] ?_
 exact hl55 _ (zi h).symm
 refine yx hn 0 ?_
 refine yk [7] [] ?_
 refine yt (99,.agg [.hid (bu 47 11 (flatten (map bD v10.1.GP))),vi v10.1.GY,.fl (.own 3) 1 (map (int .i64) v10.1.Hb),.fl (.own 5) 1 (map (int .u8) v10.1.GZ),vi v10.1.Of,.fl (.own 3) 1 (map (int .i64) v10.1.GK)]) 0 ⟨aW _ _ _ _ underlying37 rfl dn rfl rfl⟩ ?_
 refine yk [9] [] ?_
 refine yt (100,.agg [.fr (.own 47) false 11 (flatten (map ae.ienc v11.1.GP)),vi v11.1.GY,.fl (.own 3) 1 (map (int .i64) v11.1.Hb),.fl (.own 5) 1 (map (int .u8) v11.1.GZ),vi v11.1.Of,.fl (.own 3) 1 (map (int .i64) v11.1.GK)]) 0 ⟨aW _ _ _ _ underlying37 rfl dn rfl rfl⟩ ?_
 refine yS (vb v49) 1 ⟨fk _ _ 11 _ _ rfl call11 (eP rfl (.q (gX gU _) (.p rfl (.p rfl (.p rfl (.p rfl (.p rfl .nil)))))) (cM rfl du)) (bX (ai.mk v10.1.GP v10.1.GY v10.1.Hb v10.1.GZ v10.1.Of v10.1.GK) (ai.mk v11.1.GP v11.1.GY v11.1.Hb v11.1.GZ v11.1.Of v11.1.GK) _ hv49) rfl rfl⟩ ?_
 refine yd hg17_3 0 ?_
 refine ym 1 ?_
 refine ys 2 ⟨lk call12 (fh _ _ _ hv50)⟩ ?_
 refine yd hg17_8 0 ?_
 refine yk [6] [] ?_
 refine yt (108,.agg [vi v9.GQ,vb v9.GS.GM.GT,vs v9.GS.GM.GR,vs v9.GS.GM.GJ,.fl (.own 24) 3 (flatten (map T_Path.enc v9.GS.To)),.fl (.own 5) 1 (map (int .u8) v9.GS.GH),vb v9.GS.Ha,vs v9.GS.GN,vi v9.GS.At,vi v9.Id,.fl (.own 3) 1 (map (int .i64) v9.GO),vi v9.GW,vi v9.GU,vi v9.GV,.fl (.own 5) 1 (map (int .u8) v9.GI)]) 1 ⟨aW _ _ _ _ underlying31 rfl gN rfl rfl⟩ ?_
 refine ys 2 ⟨lk call18 (fu _ _ _ hv51)⟩ ?_
 refine yd hg17_13 3 ?_
 refine ye [115,4] ?_
 exact hl55 _ (zi h).symm
 refine yx hn 0 ?_
 refine yk [7] [] ?_
 refine yt (99,.agg [.hid (bu 47 11 (flatten (map bD v10.1.GP))),vi v10.1.GY,.fl (.own 3) 1 (map (int .i64) v10.1.Hb),.fl (.own 5) 1 (map (int .u8) v10.1.GZ),vi v10.1.Of,.fl (.own 3) 1 (map (int .i64) v10.1.GK)]) 0 ⟨aW _ _ _ _ underlying37 rfl dn rfl rfl⟩ ?_
 refine yk [9] [] ?_
 refine yt (100,.agg [.fr (.own 47) false 11 (flatten (map ae.ienc v11.1.GP)),vi v11.1.GY,.fl (.own 3) 1 (map (int .i64) v11.1.Hb),.fl (.own 5) 1 (map (int .u8) v11.1.GZ),vi v11.1.Of,.fl (.own 3) 1 (map (int .i64) v11.1.GK)]) 0 ⟨aW _ _ _ _ underlying37 rfl dn rfl rfl⟩ ?_
 refine yS (vb v49) 1 ⟨fk _ _ 11 _ _ rfl call11 (eP rfl (.q (gX gU _) (.p rfl (.p rfl (.p rfl (.p rfl (.p rfl .nil)))))) (cM rfl du)) (bX (ai.mk v10.1.GP v10.1.GY v10.1.Hb v10.1.GZ v10.1.Of v10.1.GK) (ai.mk v11.1.GP v11.1.GY v11.1.Hb v11.1.GZ v11.1.Of v11.1.GK) _ hv49) rfl rfl⟩ ?_
 refine yd hg17_3 0 ?_
 refine ym 1 ?_
 refine ys 2 ⟨lk call12 (fh _ _ _ hv50)⟩ ?_
 refine yd hg17_8 8 ?_
 refine ye [115,4] ?_
 exact hl55 _ (zi h).symm
 refine yx hn 0 ?_
 refine yk [7] [] ?_
 refine yt (99,.agg [.hid (bu 47 11 (flatten (map bD v10.1.GP))),vi v10.1.GY,.fl (.own 3) 1 (map (int .i64) v10.1.Hb),.fl (.own 5) 1 (map (int .u8) v10.1.GZ),vi v10.1.Of,.fl (.own 3) 1 (map (int .i64) v10.1.GK)]) 0 ⟨aW _ _ _ _ underlying37 rfl dn rfl rfl⟩ ?_
 refine yk [9] [] ?_
 refine yt (100,.agg [.fr (.own 47) false 11 (flatten (map ae.ienc v11.1.GP)),vi v11.1.GY,.fl (.own 3) 1 (map (int .i64) v11.1.Hb),.fl (.own 5) 1 (map (int .u8) v11.1.GZ),vi v11.1.Of,.fl (.own 3) 1 (map (int .i64) v11.1.GK)]) 0 ⟨aW _ _ _ _ underlying37 rfl dn rfl rfl⟩ ?_
 refine yS (vb v49) 1 ⟨fk _ _ 11 _ _ rfl call11 (eP rfl (.q (gX gU _) (.p rfl (.p rfl (.p rfl (.p rfl (.p rfl .nil)))))) (cM rfl du)) (bX (ai.mk v10.1.GP v10.1.GY v10.1.Hb v10.1.GZ v10.1.Of v10.1.GK) (ai.mk v11.1.GP v11.1.GY v11.1.Hb v11.1.GZ v11.1.Of v11.1.GK) _ hv49) rfl rfl⟩ ?_
 refine yd hg17_3 13 ?_
 refine ye [115,4] ?_
 exact hl55 _ (zi h).symm
 rintro u42 hl43 hr44 ⟨s39,s40⟩ rr47 h ho45
 refine aj ?_
 refine iJ hn 3 ?_
 refine yS (vi (s39.length:Int)) 1 ⟨mA _ _ _ underlying35 rfl (bT aM _) (by decide)⟩ ?_
 refine cN [0,115,3,6,5,7,9,11,15,88] ?_
 refine zc h rfl (fun h => ?_) (fun h => ?_)
 refine aE ?_
 refine ak (aj ?_)
 refine aU ?_
 obtain ⟨v32,hv32,v33,hv33,v34,hv34,h⟩:=pj h
 refine dJ [7,0,1,2,3,4,5,6,8,9] rfl rfl ?_
 refine el 124 0 (fun ov16=>[.fl (.own 47) 11 ov16,.v (.int .i64 v21.1.GY),.fl (.own 3) 1 (map (int .i64) v21.1.Hb),.any,.v (.int .i64 v21.1.Of),.fl (.own 3) 1 (map (int .i64) v21.1.GK)]) (zl rfl) rfl (fun _=>rfl) fun ov16 oh16 => ?_
 refine yx hn 3 ?_
 refine yS (.eref (.cell 11 0) (v32 * 11)) 2 ⟨iQ _ _ _ _ _ _ _ _ underlying35 gj (by decide) rfl rfl rfl (cc hv32).1 (gu aM oh16 (cc hv32).2) rfl⟩ ?_
 refine yS (.v (List.getD ov16 (v32 * 11+5) undef)) 0 ⟨fm _ _ _ _ _ _ underlying26 rfl rfl rfl (cx (q:=5) aM oh16 hv33 (by decide))⟩ ?_
 refine yk [124] [97] ?_
 refine wZ (124,.inv (ph (flatten (map bD ((s39.set v32 ((ae.mk v33.Id ((T_Mail.mk (T_Path.mk v33.GS.GM.GT v33.GS.GM.GR v33.GS.GM.GJ) v33.GS.To v34 v33.GS.Ha v33.GS.GN v33.GS.At)) v33.Hc v33.GX)))))) ov16)) (98,.tup []) 0 ⟨vo _ _ 124 (v32 * 11+5) 17 (x := .tmp 97) (ys:=[]) _ _ rfl call17 rfl rfl (cx (q:=5) aM oh16 hv33 (by decide)) (aL aM hv33 rfl) (qv (q:=5) aM hv33 (y:=(ae.mk v33.Id ((T_Mail.mk (T_Path.mk v33.GS.GM.GT v33.GS.GM.GR v33.GS.GM.GJ) v33.GS.To v34 v33.GS.Ha v33.GS.GN v33.GS.At)) v33.Hc v33.GX)) rfl (by decide)) rfl (ku v33.GS.GH _ hv34) rfl rfl rfl⟩ ?_
 refine ye [11,124,0,115,3,6,5,7,9,15] ?_
 refine ik 0 [.hid (bu 47 11 (flatten (map bD ((s39.set v32 ((ae.mk v33.Id ((T_Mail.mk (T_Path.mk v33.GS.GM.GT v33.GS.GM.GR v33.GS.GM.GJ) v33.GS.To v34 v33.GS.Ha v33.GS.GN v33.GS.At)) v33.Hc v33.GX))))))),.v (.int .i64 v21.1.GY),.fl (.own 3) 1 (map (int .i64) v21.1.Hb),.any,.v (.int .i64 v21.1.Of),.fl (.own 3) 1 (map (int .i64) v21.1.GK)] (zl rfl) rfl .n rfl rfl ?_
 refine aT (ak ?_)
 obtain ⟨v35,hv35,h⟩:=zn h
 refine yx hn 1 ?_
 refine ys 0 ⟨lb hv35⟩ ?_
 refine yw [15] 1 ?_
 refine ye [11,0,115,3,6,5,7,9,15] ?_
 refine aB [1,2,3,4,5,6,7,0,8] (by kernel_rfl) (es':=[(_,_),(_,_),(_,_),(_,_),(_,_),(_,_),(_,_),(_,_),(_,_)]) rfl ?_
 exact bH _ (zi h).symm rfl
 refine bF (aH (aH (bG ?_)))
 refine aB [0,1,2,3,4,5,6] (by kernel_rfl) (es':=[(_,_),(_,_),(_,_),(_,_),(_,_),(_,_),(_,_)]) rfl ?_
 exact hl43 _ (ho45 _ (zi h).symm).symm
 intro u26 h hl27 hr28
 refine ao h (fun hg10_3 h => ?_) (fun hg10_3 h => ?_)
 refine yx hn 4 ?_
 refine yd hg10_3 11 ?_
 refine ye [0,115,3,6,5,7,9,11,80] ?_
 exact hl27 _ (zi h).symm
 obtain ⟨v23,hv23,h⟩:=zn h
 refine ao h (fun hg10_9 h => ?_) (fun hg10_9 h => ?_)
 refine yx hn 4 ?_
 refine yd hg10_3 1 ?_
 refine yk [13] [] ?_
 refine yt (71,.agg [.fr (.own 47) false 11 (flatten (map ae.ienc v22.1.GP)),vi v22.1.GY,.fl (.own 3) 1 (map (int .i64) v22.1.Hb),.fl (.own 5) 1 (map (int .u8) v22.1.GZ),vi v22.1.Of,.fl (.own 3) 1 (map (int .i64) v22.1.GK)]) 0 ⟨aW _ _ _ _ underlying37 rfl dn rfl rfl⟩ ?_
 refine yS (vb v23) 3 ⟨fk _ _ 11 _ _ rfl call11 (eP rfl (.o rfl rfl (gX gU _) (.p rfl (.p rfl (.p rfl (.p rfl (.p rfl .nil)))))) (cM rfl du)) (bX v21.1 v22.1 _ hv23) rfl rfl⟩ ?_
 refine yd hg10_9 5 ?_
 refine ye [0,115,3,6,5,7,9,11,80] ?_
 exact hl27 _ (zi h).symm
 obtain ⟨v24,hv24,h⟩:=zn h
 refine yx hn 4 ?_
 refine yd hg10_3 1 ?_
 refine yk [13] [] ?_
 refine yt (71,.agg [.fr (.own 47) false 11 (flatten (map ae.ienc v22.1.GP)),vi v22.1.GY,.fl (.own 3) 1 (map (int .i64) v22.1.Hb),.fl (.own 5) 1 (map (int .u8) v22.1.GZ),vi v22.1.Of,.fl (.own 3) 1 (map (int .i64) v22.1.GK)]) 0 ⟨aW _ _ _ _ underlying37 rfl dn rfl rfl⟩ ?_
 refine yS (vb v23) 3 ⟨fk _ _ 11 _ _ rfl call11 (eP rfl (.o rfl rfl (gX gU _) (.p rfl (.p rfl (.p rfl (.p rfl (.p rfl .nil)))))) (cM rfl du)) (bX v21.1 v22.1 _ hv23) rfl rfl⟩ ?_
 refine yd hg10_9 2 ?_
 refine yS (vb v24) 2 ⟨fk _ _ 11 _ _ rfl call11 (eP rfl (.o rfl rfl (gX gU _) (.p rfl (.p rfl (.p rfl (.p rfl (.p rfl .nil)))))) (cM rfl du)) (bX (ai.mk v10.1.GP v10.1.GY v10.1.Hb v10.1.GZ v10.1.Of v10.1.GK) (ai.mk v11.1.GP v11.1.GY v11.1.Hb v11.1.GZ v11.1.Of v11.1.GK) _ hv24) rfl rfl⟩ ?_
 refine ye [0,115,3,6,5,7,9,11,80] ?_
 exact hl27 _ (zi h).symm
 intro u17 h hl18 hr19
 refine ao h (fun hg6_3 h => ?_) (fun hg6_3 h => ?_)
 refine yx hn 4 ?_
 refine yd hg6_3 13 ?_
 refine ye [0,115,3,6,5,7,9,53] ?_
 exact hl18 _ (zi h).symm
 obtain ⟨v12,hv12,h⟩:=zn h
 refine ao h (fun hg6_9 h => ?_) (fun hg6_9 h => ?_)
 refine yx hn 4 ?_
 refine yd hg6_3 2 ?_
 refine yS (vb v12) 3 ⟨fk _ _ 11 _ _ rfl call11 (eP rfl (.o rfl rfl (gX gU _) (.p rfl (.p rfl (.p rfl (.p rfl (.p rfl .nil)))))) (cM rfl du)) (bX (ai.mk v10.1.GP v10.1.GY v10.1.Hb v10.1.GZ v10.1.Of v10.1.GK) (ai.mk v11.1.GP v11.1.GY v11.1.Hb v11.1.GZ v11.1.Of v11.1.GK) _ hv12) rfl rfl⟩ ?_
 refine yd hg6_9 7 ?_
 refine ye [0,115,3,6,5,7,9,53] ?_
 exact hl18 _ (zi h).symm
 obtain ⟨v13,hv13,v14,hv14,v15,hv15,h⟩:=pj h
 refine yx hn 4 ?_
 refine yd hg6_3 2 ?_
 refine yS (vb v12) 3 ⟨fk _ _ 11 _ _ rfl call11 (eP rfl (.o rfl rfl (gX gU _) (.p rfl (.p rfl (.p rfl (.p rfl (.p rfl .nil)))))) (cM rfl du)) (bX (ai.mk v10.1.GP v10.1.GY v10.1.Hb v10.1.GZ v10.1.Of v10.1.GK) (ai.mk v11.1.GP v11.1.GY v11.1.Hb v11.1.GZ v11.1.Of v11.1.GK) _ hv12) rfl rfl⟩ ?_
 refine yd hg6_9 1 ?_
 refine ys 1 ⟨lg call13 (jO _ _ _ hv13) 115⟩ ?_
 refine ys 0 ⟨lk call14 (lZ _ _ hv14)⟩ ?_
 refine ys 2 ⟨lk call12 (fh _ _ _ hv15)⟩ ?_
 refine ye [0,115,3,6,5,7,9,53] ?_
 exact hl18 _ (zi h).symm
 intro u4 h hl5 hr6
 obtain ⟨v1,hv1,h⟩:=zn h
 refine ao h (fun hg1_2 h => ?_) (fun hg1_2 h => ?_)
 refine yx hn 1 ?_
 refine ys 1 ⟨lk call6 (fI _ _ hv1)⟩ ?_
 refine yd hg1_2 4 ?_
 refine ye [0,115,3,22] ?_
 exact hl5 _ (zi h).symm
 obtain ⟨v2,hv2,h⟩:=zn h
 refine yx hn 1 ?_
 refine ys 1 ⟨lk call6 (fI _ _ hv1)⟩ ?_
 refine yd hg1_2 1 ?_
 refine yS (.fr (.own 31) true 15 (flatten (map T_Rec.ienc [(T_Rec.mk p_r.GQ ((T_Mail.mk (T_Path.mk p_r.GS.GM.GT p_r.GS.GM.GR p_r.GS.GM.GJ) p_r.GS.To p_r.GS.GH p_r.GS.Ha p_r.GS.GN p_r.GS.At)) p_r.Id p_r.GO p_r.GW p_r.GU p_r.GV p_r.GI)]))) 0 ⟨na _ _ _ 15 (.agg #[.int .i64 0,.bool false,.string ByteArray.empty,.string ByteArray.empty,.slice none 0 0,.slice none 0 0,.bool false,.string ByteArray.empty,.int .i64 0,.int .i64 0,.slice none 0 0,.int .i64 0,.int .i64 0,.int .i64 0,.slice none 0 0]) true _ _ underlying22 gN kq rfl rfl (.cons (.v _) (.cons (.v _) (.cons (.v _) (.cons (.v _) (.cons (.shr _ _ rfl rfl) (.cons (.shr _ _ rfl rfl) (.cons (.v _) (.cons (.v _) (.cons (.v _) (.cons (.v _) (.cons (.shr _ _ rfl rfl) (.cons (.v _) (.cons (.v _) (.cons (.v _) (.cons (.shr _ _ rfl rfl) (.nil)))))))))))))))) rfl (by decide) (by decide)⟩ ?_
 refine ys 1 ⟨lk call6 (fI _ _ hv2)⟩ ?_
 refine ye [0,115,3,22] ?_
 exact hl5 _ (zi h).symm

end Go.Proofs.YtjdmcbkkacnmdaaGreatDoor
