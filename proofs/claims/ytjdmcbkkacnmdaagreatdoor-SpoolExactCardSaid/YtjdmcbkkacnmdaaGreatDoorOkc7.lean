import Derived.Test.YtjdmcbkkacnmdaaGreatDoorOkc6
set_option linter.unusedVariables false
set_option linter.unusedSimpArgs false
set_option maxHeartbeats 1000000
namespace Go.Proofs.YtjdmcbkkacnmdaaGreatDoor
open Go.Abs Go.Abs.Sh Tryz
open List (map flatten)
open Value (int)
theorem mR (mx:Int) (s:ai) (p_r:T_Rec) (r:(ai×Int)) (h:Sh.jd s p_r=some r):kM Tryz.prog (GL mx) 15 [.agg [.fr .shr true 11 (flatten (map ae.ienc s.GP)),.v (.int .i64 s.GY),.fl .shr 1 (map (int .i64) s.Hb),.fl .shr 1 (map (int .u8) s.GZ),.v (.int .i64 s.Of),.fl .shr 1 (map (int .i64) s.GK)],.agg [.v (.int .i64 p_r.GQ),.v (.bool p_r.GS.GM.GT),.v (.string p_r.GS.GM.GR),.v (.string p_r.GS.GM.GJ),.fl .shr 3 (flatten (map T_Path.enc p_r.GS.To)),.fl .shr 1 (map (int .u8) p_r.GS.GH),.v (.bool p_r.GS.Ha),.v (.string p_r.GS.GN),.v (.int .i64 p_r.GS.At),.v (.int .i64 p_r.Id),.fl .shr 1 (map (int .i64) p_r.GO),.v (.int .i64 p_r.GW),.v (.int .i64 p_r.GU),.v (.int .i64 p_r.GV),.fl .shr 1 (map (int .u8) p_r.GI)]] (.tup [.agg [.hid (bu 47 11 (flatten (map bD r.1.GP))),.v (.int .i64 r.1.GY),.fl (.own 3) 1 (map (int .i64) r.1.Hb),.fl (.own 5) 1 (map (int .u8) r.1.GZ),.v (.int .i64 r.1.Of),.fl (.own 3) 1 (map (int .i64) r.1.GK)],.v (.int .i64 r.2)]):=by
 unfold Sh.jd at h
 refine yG 16 func15 fun g0 hn hio => ?_
 refine iJ hn 2 ?_
 refine yS (.box 37 [vz,vi 0,vz,vz,vi 0,vz]) 1 ⟨oA (bj _ _ iF)⟩ ?_
 refine cN [16,2,3,4] ?_
 refine aj (aj ?_)
 obtain ⟨v1,hv1,h⟩:=zn h
 refine yx hn 2 ?_
 refine ys 1 ⟨lg call25 (lD _ _ _ _ hv1) 16⟩ ?_
 refine cN [16,2,3,4,9] ?_
 refine zc h rfl (fun h => ?_) (fun h => ?_)
 refine iJ hn 0 ?_
 refine yS (.agg [vz,vi 0,vz,vz,vi 0,vz]) 0 ⟨cw _ _ _ _ [1,1,1,1,1,1] _ _ underlying37 iF (zO _ underlying37) mJ.nil rfl rfl rfl⟩ ?_
 refine yk [10,4] [] ?_
 refine yt (4,.box 37 [vz,vi 0,vz,vz,vi 0,vz]) 1 ⟨mh _ _ _ 10 4 6 dn rfl rfl rfl rfl rfl (.eq _ (.eq _ (.eq _ (.eq _ (.eq _ (.eq _ (.nil _))))))) rfl⟩ ?_
 refine cN [16,4,5] ?_
 refine aD ?_
 refine aB [1,2] (by kernel_rfl) (es':=[(_,_),(_,_)]) rfl ?_
 refine eW (fs:=[(4,.box 37 [.hid (bu 47 11 (flatten (map bD []))),vi 0,.fl (.own 3) 1 (map (int .i64) []),.fl (.own 5) 1 (map (int .u8) []),vi 0,.fl (.own 3) 1 (map (int .i64) [])]),(5,vi 5)]) (.box _ _ (ag (mD 47 11 bD) (ag (am _) (ag (dA 3 1) (ag (dA 5 1) (ag (am _) (ag (dA 3 1) (cz))))))) rfl (.same _ .nil)) ?_
 refine ay ?_
 obtain rfl:=zi h
 exact aJ hio rfl (.cellA _ _ _ _ underlying37 rfl dn (.tmp _ _ .nil)) rfl rfl
 refine aE ?_
 refine ak (aj ?_)
 obtain ⟨v3,hv3,h⟩:=zn h
 refine yx hn 1 ?_
 refine yS (.agg [.hid (bu 47 11 (flatten (map bD v3.GP))),vi v3.GY,.fl (.own 3) 1 (map (int .i64) v3.Hb),.fl (.own 5) 1 (map (int .u8) v3.GZ),vi v3.Of,.fl (.own 3) 1 (map (int .i64) v3.GK)]) 0 ⟨nI _ _ 33 _ _ rfl call33 rfl (pS s _ hv3) rfl (ix (aG (fY (eU jB _) (fy jy _)) (aG (bc rfl rfl) (aG (bc rfl rfl) (aG (bc rfl rfl) (aG (bc rfl rfl) (aG (bc rfl rfl) (cC))))))))⟩ ?_
 refine yk [12,2] [] ?_
 refine yt (2,.box 37 [.hid (bu 47 11 (flatten (map bD v3.GP))),vi v3.GY,.fl (.own 3) 1 (map (int .i64) v3.Hb),.fl (.own 5) 1 (map (int .u8) v3.GZ),vi v3.Of,.fl (.own 3) 1 (map (int .i64) v3.GK)]) 0 ⟨aC _ _ _ _ _ _ _ _ dn rfl rfl rfl (zl rfl) rfl rfl⟩ ?_
 refine cN [16,2,3,4] ?_
 refine aj ?_
 obtain ⟨v4,hv4,h⟩:=zn h
 refine yx hn 1 ?_
 refine yk [2] [13] ?_
 refine wZ (2,.box 37 [.hid (bu 47 11 (flatten (map bD v4.GP))),vi v4.GY,.fl (.own 3) 1 (map (int .i64) v4.Hb),.fl (.own 5) 1 (map (int .u8) v4.GZ),vi v4.Of,.fl (.own 3) 1 (map (int .i64) v4.GK)]) (14,.tup []) 0 ⟨rL _ _ _ _ 14 26 [.tmp 2] [.tmp 13] _ _ _ rfl call26 rfl rfl (cM rfl du) (kN v3 ((T_Rec.mk p_r.GQ ((T_Mail.mk (T_Path.mk p_r.GS.GM.GT p_r.GS.GM.GR p_r.GS.GM.GJ) p_r.GS.To p_r.GS.GH p_r.GS.Ha p_r.GS.GN p_r.GS.At)) p_r.Id p_r.GO p_r.GW p_r.GU p_r.GV p_r.GI)) _ hv4) (zl rfl) rfl rfl rfl (jf (cC)) (aG (uC (aG (fY (eU jB _) (fy jy _)) (aG (bc rfl rfl) (aG (bc rfl rfl) (aG (bc rfl rfl) (aG (bc rfl rfl) (aG (bc rfl rfl) (cC)))))))) (cC)) rfl rfl rfl⟩ ?_
 refine cN [16,2,4] ?_
 refine iJ hn 0 ?_
 refine yk [2] [] ?_
 refine yt (15,.agg [.hid (bu 47 11 (flatten (map bD v4.GP))),vi v4.GY,.fl (.own 3) 1 (map (int .i64) v4.Hb),.fl (.own 5) 1 (map (int .u8) v4.GZ),vi v4.Of,.fl (.own 3) 1 (map (int .i64) v4.GK)]) 0 ⟨aW _ _ _ _ underlying37 rfl dn rfl rfl⟩ ?_
 refine yk [15,4] [] ?_
 refine yt (4,.box 37 [.hid (bu 47 11 (flatten (map bD v4.GP))),vi v4.GY,.fl (.own 3) 1 (map (int .i64) v4.Hb),.fl (.own 5) 1 (map (int .u8) v4.GZ),vi v4.Of,.fl (.own 3) 1 (map (int .i64) v4.GK)]) 1 ⟨aC _ _ _ _ _ _ _ _ dn rfl rfl rfl (zl rfl) rfl rfl⟩ ?_
 refine cN [16,4,5] ?_
 refine aD ?_
 refine aB [1,2] (by kernel_rfl) (es':=[(_,_),(_,_)]) rfl ?_
 obtain rfl:=zi h
 exact aJ hio rfl (.cellA _ _ _ _ underlying37 rfl dn (.tmp _ _ .nil)) rfl rfl
theorem mp (b:(List Int)) (r:Unit) (h:Sh.ek b=some r):Dh Tryz.prog 17 [.fl (.own 5) 1 (map (int .u8) b)] (.tup []):=by
 unfold Sh.ek at h
 refine yE 17 func17 fun g0 hn hio => ?_
 refine aZ hn 1 [0,2] ?_
 refine bp h (fun ((s11,s12):(List Int)×Int)=>[(0,.fl (.own 5) 1 (map (int .u8) s11)),(2,vi s12)]) (fun (():Unit)=>[]) ?_ ?_
 rintro ⟨⟩ h
 obtain rfl:=zi h
 exact BB hio rfl .nil rfl rfl
 rintro u14 hl15 hr16 ⟨s11,s12⟩ rr19 h ho17
 refine aj ?_
 refine aZ hn 4 [0,2,6] ?_
 refine zc h rfl (fun h => ?_) (fun h => ?_)
 refine aE ?_
 refine ak (aj ?_)
 refine aU ?_
 obtain ⟨v2,hv2,v3,hv3,v4,hv4,v5,hv5,h⟩:=pI h
 obtain ⟨v6,hv6,h⟩:=zn h
 refine yx hn 4 ?_
 refine ys 0 ⟨li hv2⟩ ?_
 refine ys 0 ⟨ll hv3⟩ ?_
 refine ys 0 ⟨lb hv4⟩ ?_
 refine ys 0 ⟨li hv5⟩ ?_
 refine yk [0] [16,15] ?_
 refine yt (0,.fl (.own 5) 1 (map (int .u8) v6)) 0 ⟨ql _ _ _ _ _ _ _ _ Dy rfl rfl rfl (by decide) (qP (cc hv5).2) ((wJ (f:=int .u8) _ (cc hv5).2).trans (congrArg (map _) (Option.some.inj hv6)))⟩ ?_
 refine ye [0,2] ?_
 refine aT (ak ?_)
 obtain ⟨v7,hv7,h⟩:=zn h
 refine yx hn 1 ?_
 refine ys 0 ⟨lb hv7⟩ ?_
 refine yw [2] 1 ?_
 refine ye [0,2] ?_
 exact bH _ (zi h).symm rfl
 refine bF (aH (aH (bG ?_)))
 refine aB [] (by kernel_rfl) (es':=[]) rfl ?_
 exact hl15 _ (ho17 _ (zi h).symm).symm
theorem ku (b:(List Int)) (r:(List Int)) (h:Sh.dh b=some r):Ax Tryz.prog 17 [.fl (.own 5) 1 (map (int .u8) b)] [.fl (.own 5) 1 (map (int .u8) r)] (.tup []):=by
 unfold Sh.dh at h
 refine yP 17 func17 fun args0 hargs0 g0 hn hio => ?_
 refine aZ hn 1 [0,2,0] ?_
 refine bp h (fun ((s11,s12):(List Int)×Int)=>[(0,.fl (.own 5) 1 (map (int .u8) s11)),(2,vi s12),(0,.v (List.getD args0 0 undef))]) (fun (s14:(List Int))=>[(0,.fl (.own 5) 1 (map (int .u8) s14)),(0,.v (List.getD args0 0 undef))]) ?_ ?_
 rintro s14 h
 obtain rfl:=zi h
 exact xd (es:=[]) (posts:=[.fl (.own 5) 1 (map (int .u8) s14)]) hio rfl rfl .nil rfl rfl hargs0 rfl
 rintro u15 hl16 hr17 ⟨s11,s12⟩ rr20 h ho18
 refine aj ?_
 refine aZ hn 4 [0,2,6,0] ?_
 refine zc h rfl (fun h => ?_) (fun h => ?_)
 refine aE ?_
 refine ak (aj ?_)
 refine aU ?_
 obtain ⟨v2,hv2,v3,hv3,v4,hv4,v5,hv5,h⟩:=pI h
 obtain ⟨v6,hv6,h⟩:=zn h
 refine yx hn 4 ?_
 refine ys 0 ⟨li hv2⟩ ?_
 refine ys 0 ⟨ll hv3⟩ ?_
 refine ys 0 ⟨lb hv4⟩ ?_
 refine ys 0 ⟨li hv5⟩ ?_
 refine yk [0] [16,15] ?_
 refine yt (0,.fl (.own 5) 1 (map (int .u8) v6)) 0 ⟨ql _ _ _ _ _ _ _ _ Dy rfl rfl rfl (by decide) (qP (cc hv5).2) ((wJ (f:=int .u8) _ (cc hv5).2).trans (congrArg (map _) (Option.some.inj hv6)))⟩ ?_
 refine ye [0,2,0] ?_
 refine aT (ak ?_)
 obtain ⟨v7,hv7,h⟩:=zn h
 refine yx hn 1 ?_
 refine ys 0 ⟨lb hv7⟩ ?_
 refine yw [2] 1 ?_
 refine ye [0,2,0] ?_
 exact bH _ (zi h).symm rfl
 refine bF (aH (aH (bG ?_)))
 refine aB [0,3] (by kernel_rfl) (es':=[(_,_),(_,_)]) rfl ?_
 exact hl16 _ (ho18 _ (zi h).symm).symm
theorem lT (p_id:Int) (origin:Int) (r:T_Rec) (h:Sh.ig p_id origin=some r):cg Tryz.prog 38 [.v (.int .i64 p_id),.v (.int .i64 origin)] (.agg [.v (.int .i64 r.GQ),.v (.bool r.GS.GM.GT),.v (.string r.GS.GM.GR),.v (.string r.GS.GM.GJ),.fl (.own 24) 3 (flatten (map T_Path.enc r.GS.To)),.fl (.own 5) 1 (map (int .u8) r.GS.GH),.v (.bool r.GS.Ha),.v (.string r.GS.GN),.v (.int .i64 r.GS.At),.v (.int .i64 r.Id),.fl (.own 3) 1 (map (int .i64) r.GO),.v (.int .i64 r.GW),.v (.int .i64 r.GU),.v (.int .i64 r.GV),.fl (.own 5) 1 (map (int .u8) r.GI)]):=by
 unfold Sh.ig at h
 refine yO 12 func38 fun g0 hn hio => ?_
 refine iJ hn 0 ?_
 refine yS (.box 31 [vi 0,vb false,vs z0,vs z0,vz,vz,vb false,vs z0,vi 0,vi 0,vz,vi 0,vi 0,vi 0,vz]) 0 ⟨oA (bj _ _ kq)⟩ ?_
 refine cN [0,1,4] ?_
 refine iJ hn 2 ?_
 refine yS (.agg [vb true,vs z0,vs z0]) 0 ⟨cw _ _ _ _ [1,1,1] _ _ underlying24 pX (sR _ underlying24) (.copy _ mJ.nil) rfl rfl rfl⟩ ?_
 refine yS (.agg [vb false,vs (⟨#[97]⟩:Hd),vs (⟨#[98]⟩:Hd)]) 0 ⟨cw _ _ _ _ [1,1,1] _ _ underlying24 pX (sR _ underlying24) (.copy _ (.copy _ mJ.nil)) rfl rfl rfl⟩ ?_
 refine yS (.fl (.own 24) 3 (flatten (map T_Path.enc ([(T_Path.mk false (⟨#[97]⟩:Hd) (⟨#[98]⟩:Hd))])))) 0 ⟨dC _ _ 3 (.agg #[.bool false,.string ByteArray.empty,.string ByteArray.empty]) (flatten (map T_Path.enc ([(T_Path.mk false (⟨#[97]⟩:Hd) (⟨#[98]⟩:Hd))]))) [(0,.agg #[.bool false,.string (⟨#[97]⟩:Hd),.string (⟨#[98]⟩:Hd)])] underlying25 xv pX (fun _ V w o a hv hes=>by have e0:=Eb (ys:=[.bool false,.string (⟨#[97]⟩:Hd),.string (⟨#[98]⟩:Hd)]) hv hes (x := .tmp 8) rfl; simp only [List.map_toArray,List.map_cons,List.map_nil,e0]; try rfl) (iU (by simp [Instr.fill,Value.cells]; rfl) (by simp [List.range,List.range.loop,T_Path.enc] <;> rfl)) (by simp [Value.oneCell',T_Path.enc]) rfl (by decide) (by decide) (by decide)⟩ ?_
 refine yk [9] [7] ?_
 refine yt (10,.agg [vb true,vs z0,vs z0,.fl (.own 24) 3 (flatten (map T_Path.enc ([(T_Path.mk false (⟨#[97]⟩:Hd) (⟨#[98]⟩:Hd))]))),vz,vb false,vs z0,vi 0]) 0 ⟨cw _ _ _ _ [3,1,1,1,1,1] _ _ underlying28 xo (Et _ underlying28) (.copy _ (.take _ _ mJ.nil)) rfl rfl rfl⟩ ?_
 refine yk [10] [5,6] ?_
 refine yt (11,.agg [vi 1,vb true,vs z0,vs z0,.fl (.own 24) 3 (flatten (map T_Path.enc ([(T_Path.mk false (⟨#[97]⟩:Hd) (⟨#[98]⟩:Hd))]))),vz,vb false,vs z0,vi 0,vi p_id,vz,vi origin,vi 0,vi 0,vz]) 0 ⟨cw _ _ _ _ [1,8,1,1,1,1,1,1] _ _ underlying31 kq (yY _ underlying31) (.copy _ (.copy _ (.copy _ (.take _ _ mJ.nil)))) rfl rfl rfl⟩ ?_
 refine yk [11,4] [] ?_
 refine yt (4,.box 31 [vi 1,vb true,vs z0,vs z0,.fl (.own 24) 3 (flatten (map T_Path.enc ([(T_Path.mk false (⟨#[97]⟩:Hd) (⟨#[98]⟩:Hd))]))),vz,vb false,vs z0,vi 0,vi p_id,vz,vi origin,vi 0,vi 0,vz]) 0 ⟨aC _ _ _ _ _ _ _ _ gN rfl rfl rfl (zl rfl) rfl rfl⟩ ?_
 refine cN [4] ?_
 refine aD ?_
 refine eW (fs:=[(4,.box 31 [vi 1,vb true,vs z0,vs z0,.fl (.own 24) 3 (flatten (map T_Path.enc ([(T_Path.mk false (⟨#[97]⟩:Hd) (⟨#[98]⟩:Hd))]))),.fl (.own 5) 1 (map (int .u8) []),vb false,vs z0,vi 0,vi p_id,.fl (.own 3) 1 (map (int .i64) []),vi origin,vi 0,vi 0,.fl (.own 5) 1 (map (int .u8) [])])]) (.box _ _ (ag (am _) (ag (am _) (ag (am _) (ag (am _) (ag (am _) (ag (dA 5 1) (ag (am _) (ag (am _) (ag (am _) (ag (am _) (ag (dA 3 1) (ag (am _) (ag (am _) (ag (am _) (ag (dA 5 1) (cz)))))))))))))))) rfl .nil) ?_
 obtain rfl:=zi h
 exact aJ hio rfl (.cellA _ _ _ _ underlying31 rfl gN .nil) rfl rfl
theorem kW (mx:Int) (r:Bool) (h:Sh.ep  = some r):kM Tryz.prog (GL mx) 19 [] (.v (.bool r)):=by
 unfold Sh.ep at h
 refine yG 58 func19 fun g0 hn hio => ?_
 refine aZ hn 1 [58] ?_
 refine aj ?_
 obtain ⟨v1,hv1,h⟩:=zn h
 refine yx hn 0 ?_
 refine yS (.agg [vi v1.GQ,vb v1.GS.GM.GT,vs v1.GS.GM.GR,vs v1.GS.GM.GJ,.fl .ro 3 (flatten (map T_Path.enc v1.GS.To)),.fl .ro 1 (map (int .u8) v1.GS.GH),vb v1.GS.Ha,vs v1.GS.GN,vi v1.GS.At,vi v1.Id,.fl .ro 1 (map (int .i64) v1.GO),vi v1.GW,vi v1.GU,vi v1.GV,.fl .ro 1 (map (int .u8) v1.GI)]) 0 ⟨aY.frzG 0 (tp _ _ 38 _ _ rfl call38 rfl (lT 1 1 _ hv1) rfl rfl) (zl rfl) rfl⟩ ?_
 refine yS (.fl (.own 3) 1 (map (int .i64) [1])) 0 ⟨dC _ _ 1 (.int .i64 0) (map (int .i64) [1]) [(0,.int .i64 1)] underlying29 pd Cs (fun _ V w o a hv hes=>by simp only [List.map_toArray,List.map_cons,List.map_nil]; try rfl) (iU (by simp [Instr.fill,Value.cells]; rfl) (by simp [List.range,List.range.loop] <;> rfl)) (by simp [Value.oneCell']) rfl (by decide) (by decide) (by decide)⟩ ?_
 refine yk [7] [] ?_
 refine yt (8,.agg [vi 2,vb false,vs z0,vs z0,vz,vz,vb false,vs z0,vi 0,vi 0,.fl .ro 1 (map (int .i64) [1]),vi 0,vi 1,vi 0,vz]) 0 ⟨aY.frzG 0 (cw _ _ _ _ [1,8,1,1,1,1,1,1] _ _ underlying31 kq (yY _ underlying31) (.copy _ (.copy _ (.take _ _ mJ.nil))) rfl rfl rfl) (zl rfl) rfl⟩ ?_
 refine yS (.agg [vi 3,vb false,vs z0,vs z0,vz,vz,vb false,vs z0,vi 0,vi 0,vz,vi 0,vi 1,vi 0,vz]) 0 ⟨cw _ _ _ _ [1,8,1,1,1,1,1,1] _ _ underlying31 kq (yY _ underlying31) (.copy _ (.copy _ mJ.nil)) rfl rfl rfl⟩ ?_
 refine yS (.fr (.own 31) false 15 (flatten (map T_Rec.ienc ([(T_Rec.mk v1.GQ ((T_Mail.mk (T_Path.mk v1.GS.GM.GT v1.GS.GM.GR v1.GS.GM.GJ) v1.GS.To v1.GS.GH v1.GS.Ha v1.GS.GN v1.GS.At)) v1.Id v1.GO v1.GW v1.GU v1.GV v1.GI),(T_Rec.mk 2 ((T_Mail.mk ((T_Path.mk false z0 z0)) [] [] false z0 0)) 0 [1] 0 1 0 []),(T_Rec.mk 3 ((T_Mail.mk ((T_Path.mk false z0 z0)) [] [] false z0 0)) 0 [] 0 1 0 [])])))) 0 ⟨sH _ _ 3 15 (.agg #[.int .i64 0,.bool false,.string ByteArray.empty,.string ByteArray.empty,.slice none 0 0,.slice none 0 0,.bool false,.string ByteArray.empty,.int .i64 0,.int .i64 0,.slice none 0 0,.int .i64 0,.int .i64 0,.int .i64 0,.slice none 0 0]) false [some (.tmp 6),some (.tmp 8),some (.tmp 9)] _ underlying22 gN kq rfl rfl (by kernel_rfl) rfl rfl (.some (ics:=T_Rec.ienc ((T_Rec.mk v1.GQ ((T_Mail.mk (T_Path.mk v1.GS.GM.GT v1.GS.GM.GR v1.GS.GM.GJ) v1.GS.To v1.GS.GH v1.GS.Ha v1.GS.GN v1.GS.At)) v1.Id v1.GO v1.GW v1.GU v1.GV v1.GI))) (jcs:=(flatten (map T_Rec.ienc ([(T_Rec.mk 2 ((T_Mail.mk ((T_Path.mk false z0 z0)) [] [] false z0 0)) 0 [1] 0 1 0 []),(T_Rec.mk 3 ((T_Mail.mk ((T_Path.mk false z0 z0)) [] [] false z0 0)) 0 [] 0 1 0 [])]:List T_Rec)))) _ rfl rfl (.cons (.v _) (.cons (.v _) (.cons (.v _) (.cons (.v _) (.cons (.ro _ _ rfl) (.cons (.ro _ _ rfl) (.cons (.v _) (.cons (.v _) (.cons (.v _) (.cons (.v _) (.cons (.ro _ _ rfl) (.cons (.v _) (.cons (.v _) (.cons (.v _) (.cons (.ro _ _ rfl) (.nil)))))))))))))))) rfl (.some (ics:=T_Rec.ienc ((T_Rec.mk 2 ((T_Mail.mk ((T_Path.mk false z0 z0)) [] [] false z0 0)) 0 [1] 0 1 0 []))) (jcs:=(flatten (map T_Rec.ienc ([(T_Rec.mk 3 ((T_Mail.mk ((T_Path.mk false z0 z0)) [] [] false z0 0)) 0 [] 0 1 0 [])]:List T_Rec)))) _ rfl rfl (.cons (.v _) (.cons (.v _) (.cons (.v _) (.cons (.v _) (.cons (.nil 3) (.cons (.nil 1) (.cons (.v _) (.cons (.v _) (.cons (.v _) (.cons (.v _) (.cons (.ro _ _ rfl) (.cons (.v _) (.cons (.v _) (.cons (.v _) (.cons (.nil 1) (.nil)))))))))))))))) rfl (.some (ics:=T_Rec.ienc ((T_Rec.mk 3 ((T_Mail.mk ((T_Path.mk false z0 z0)) [] [] false z0 0)) 0 [] 0 1 0 []))) (jcs:=(flatten (map T_Rec.ienc ([]:List T_Rec)))) _ rfl rfl (.cons (.v _) (.cons (.v _) (.cons (.v _) (.cons (.v _) (.cons (.nil 3) (.cons (.nil 1) (.cons (.v _) (.cons (.v _) (.cons (.v _) (.cons (.v _) (.cons (.nil 1) (.cons (.v _) (.cons (.v _) (.cons (.v _) (.cons (.nil 1) (.nil)))))))))))))))) rfl (.nil)))) (by decide) (by decide) (by decide)⟩ ?_
 refine ya 0 ?_
 refine cN [58,1] ?_
 refine aj ?_
 obtain ⟨v2,hv2,h⟩:=zn h
 refine yx hn 1 ?_
 refine yS (.tup [.agg [.hid (bu 47 11 (flatten (map bD v2.1.GP))),vi v2.1.GY,.fl (.own 3) 1 (map (int .i64) v2.1.Hb),.fl (.own 5) 1 (map (int .u8) v2.1.GZ),vi v2.1.Of,.fl (.own 3) 1 (map (int .i64) v2.1.GK)],vi v2.2]) 0 ⟨jY _ _ 58 9 _ _ rfl call9 (cM rfl du) rfl (fun _ h=>h) (jR mx ([(T_Rec.mk v1.GQ ((T_Mail.mk (T_Path.mk v1.GS.GM.GT v1.GS.GM.GR v1.GS.GM.GJ) v1.GS.To v1.GS.GH v1.GS.Ha v1.GS.GN v1.GS.At)) v1.Id v1.GO v1.GW v1.GU v1.GV v1.GI),(T_Rec.mk 2 ((T_Mail.mk ((T_Path.mk false z0 z0)) [] [] false z0 0)) 0 [1] 0 1 0 []),(T_Rec.mk 3 ((T_Mail.mk ((T_Path.mk false z0 z0)) [] [] false z0 0)) 0 [] 0 1 0 [])]) _ hv2) rfl (jf (aG (ix (aG (fY (eU jB _) (fy jy _)) (aG (bc rfl rfl) (aG (bc rfl rfl) (aG (bc rfl rfl) (aG (bc rfl rfl) (aG (bc rfl rfl) (cC)))))))) (aG (bc rfl rfl) (cC))))⟩ ?_
 refine ym 0 ?_
 refine BT 1 ?_
 refine yS (.box 37 [vz,vi 0,vz,vz,vi 0,vz]) 0 ⟨oA (bj _ _ iF)⟩ ?_
 refine yk [14,2] [] ?_
 refine yt (2,.box 37 [.hid (bu 47 11 (flatten (map bD v2.1.GP))),vi v2.1.GY,.fl (.own 3) 1 (map (int .i64) v2.1.Hb),.fl (.own 5) 1 (map (int .u8) v2.1.GZ),vi v2.1.Of,.fl (.own 3) 1 (map (int .i64) v2.1.GK)]) 1 ⟨aC _ _ _ _ _ _ _ _ dn rfl rfl rfl (zl rfl) rfl rfl⟩ ?_
 refine cN [58,1,2,3] ?_
 refine aj ?_
 obtain ⟨v3,hv3,h⟩:=zn h
 refine yx hn 1 ?_
 refine yS (.agg [vi 4,vb false,vs z0,vs z0,vz,vz,vb false,vs z0,vi 0,vi 1,vz,vi 0,vi 0,vi 0,vz]) 0 ⟨cw _ _ _ _ [1,8,1,1,1,1,1,1] _ _ underlying31 kq (yY _ underlying31) (.copy _ (.copy _ mJ.nil)) rfl rfl rfl⟩ ?_
 refine yS (.tup [.agg [.hid (bu 47 11 (flatten (map bD v3.1.GP))),vi v3.1.GY,.fl (.own 3) 1 (map (int .i64) v3.1.Hb),.fl (.own 5) 1 (map (int .u8) v3.1.GZ),vi v3.1.Of,.fl (.own 3) 1 (map (int .i64) v3.1.GK)],vi v3.2]) 0 ⟨jY _ _ 58 15 _ _ rfl call15 (eP rfl (.o rfl rfl (gX gU _) (.p rfl (.p rfl (.p rfl (.p rfl (.p rfl .nil)))))) (cM rfl du)) rfl (fun _ h=>h) ((mR mx v2.1 ((T_Rec.mk 4 ((T_Mail.mk ((T_Path.mk false z0 z0)) [] [] false z0 0)) 1 [] 0 0 0 [])) _ hv3).args (ag (am _) (ag (BA (ag (am _) (ag (am _) (ag (am _) (ag (am _) (ag (aS 3) (ag (aS 1) (ag (am _) (ag (am _) (ag (am _) (ag (am _) (ag (aS 1) (ag (am _) (ag (am _) (ag (am _) (ag (aS 1) (cz))))))))))))))))) (cz)))) rfl (jf (aG (ix (aG (fY (eU jB _) (fy jy _)) (aG (bc rfl rfl) (aG (bc rfl rfl) (aG (bc rfl rfl) (aG (bc rfl rfl) (aG (bc rfl rfl) (cC)))))))) (aG (bc rfl rfl) (cC))))⟩ ?_
 refine ym 0 ?_
 refine BT 1 ?_
 refine yS (.box 37 [vz,vi 0,vz,vz,vi 0,vz]) 0 ⟨oA (bj _ _ iF)⟩ ?_
 refine yk [20,4] [] ?_
 refine yt (4,.box 37 [.hid (bu 47 11 (flatten (map bD v3.1.GP))),vi v3.1.GY,.fl (.own 3) 1 (map (int .i64) v3.1.Hb),.fl (.own 5) 1 (map (int .u8) v3.1.GZ),vi v3.1.Of,.fl (.own 3) 1 (map (int .i64) v3.1.GK)]) 1 ⟨aC _ _ _ _ _ _ _ _ dn rfl rfl rfl (zl rfl) rfl rfl⟩ ?_
 refine cN [58,1,2,3,5] ?_
 refine aj ?_
 refine aK h (fun (s8:Bool)=>[(58,.glob (GL mx)),(0,vb s8)]) ?_ ?_
 rintro s8 h
 refine ak (aD ?_)
 refine aB [1] (by kernel_rfl) (es':=[(_,_)]) rfl ?_
 obtain rfl:=zi h
 exact aJ hio rfl (.tmp _ _ .nil) rfl rfl
 intro u9 h hl10 hr11
 refine ao h (fun hg4_2 h => ?_) (fun hg4_2 h => ?_)
 refine ao h (fun hg4_8 h => ?_) (fun hg4_8 h => ?_)
 obtain ⟨v4,hv4,v5,hv5,h⟩:=ii h
 refine ao h (fun hg4_16 h => ?_) (fun hg4_16 h => ?_)
 refine ao h (fun hg4_21 h => ?_) (fun hg4_21 h => ?_)
 refine ao h (fun hg4_25 h => ?_) (fun hg4_25 h => ?_)
 obtain ⟨v6,hv6,h⟩:=zn h
 refine ao h (fun hg4_31 h => ?_) (fun hg4_31 h => ?_)
 obtain ⟨v7,hv7,h⟩:=zn h
 refine dJ [2,0,1,3,4] rfl rfl ?_
 refine el 67 0 (fun ov4=>[.fl (.own 47) 11 ov4,.v (.int .i64 v2.1.GY),.fl (.own 3) 1 (map (int .i64) v2.1.Hb),.fl (.own 5) 1 (map (int .u8) v2.1.GZ),.v (.int .i64 v2.1.Of),.fl (.own 3) 1 (map (int .i64) v2.1.GK)]) (zl rfl) rfl (fun _=>rfl) fun ov4 oh4 => ?_
 refine yx hn 3 ?_
 refine yd hg4_2 2 ?_
 refine yS (vi (v2.1.GP.length:Int)) 3 ⟨gO _ _ _ underlying35 rfl (by decide) (nz aM oh4)⟩ ?_
 refine yd hg4_8 2 ?_
 refine yS (.eref (.cell 2 0) (v4 * 11)) 1 ⟨iQ _ _ _ _ _ _ _ _ underlying35 gj (by decide) rfl rfl rfl (cc hv4).1 (gu aM oh4 (cc hv4).2) rfl⟩ ?_
 refine yS (vi v5.Hc) 3 ⟨aY.ownEq (gs:=67) (by repeat first | exact List.Mem.head _ | apply List.Mem.tail) (cx (q:=9) aM oh4 hv5 (by decide)) (aL aM hv5 rfl) (fun e=>fm _ _ _ _ _ _ underlying3 rfl rfl rfl ((cx (q:=9) aM oh4 hv5 (by decide)).trans (congrArg some e)))⟩ ?_
 refine yd hg4_16 5 ?_
 refine yd hg4_21 4 ?_
 refine yd hg4_25 0 ?_
 refine ym 0 ?_
 refine ys 4 ⟨lg call13 (jO _ _ _ hv6) 58⟩ ?_
 refine yd hg4_31 0 ?_
 refine yS (.agg [.hid (bu 47 11 (flatten (map bD v7.GP))),vi v7.GY,.fl (.own 3) 1 (map (int .i64) v7.Hb),.fl (.own 5) 1 (map (int .u8) v7.GZ),vi v7.Of,.fl (.own 3) 1 (map (int .i64) v7.GK)]) 0 ⟨nI _ _ 24 _ _ rfl call24 rfl (mX  _ hv7) rfl (ix (aG (fY (eU jB _) (fy jy _)) (aG (bc rfl rfl) (aG (bc rfl rfl) (aG (bc rfl rfl) (aG (bc rfl rfl) (aG (bc rfl rfl) (cC))))))))⟩ ?_
 refine yS (vi v7.Of) 3 ⟨xT _ _ 54 4 _ underlying37 rfl underlying3 rfl rfl rfl (zl rfl)⟩ ?_
 refine ye [58,0] ?_
 exact hl10 _ (zi h).symm
 refine dJ [2,0,1,3,4] rfl rfl ?_
 refine el 67 0 (fun ov4=>[.fl (.own 47) 11 ov4,.v (.int .i64 v2.1.GY),.fl (.own 3) 1 (map (int .i64) v2.1.Hb),.fl (.own 5) 1 (map (int .u8) v2.1.GZ),.v (.int .i64 v2.1.Of),.fl (.own 3) 1 (map (int .i64) v2.1.GK)]) (zl rfl) rfl (fun _=>rfl) fun ov4 oh4 => ?_
 refine yx hn 3 ?_
 refine yd hg4_2 2 ?_
 refine yS (vi (v2.1.GP.length:Int)) 3 ⟨gO _ _ _ underlying35 rfl (by decide) (nz aM oh4)⟩ ?_
 refine yd hg4_8 2 ?_
 refine yS (.eref (.cell 2 0) (v4 * 11)) 1 ⟨iQ _ _ _ _ _ _ _ _ underlying35 gj (by decide) rfl rfl rfl (cc hv4).1 (gu aM oh4 (cc hv4).2) rfl⟩ ?_
 refine yS (vi v5.Hc) 3 ⟨aY.ownEq (gs:=67) (by repeat first | exact List.Mem.head _ | apply List.Mem.tail) (cx (q:=9) aM oh4 hv5 (by decide)) (aL aM hv5 rfl) (fun e=>fm _ _ _ _ _ _ underlying3 rfl rfl rfl ((cx (q:=9) aM oh4 hv5 (by decide)).trans (congrArg some e)))⟩ ?_
 refine yd hg4_16 5 ?_
 refine yd hg4_21 4 ?_
 refine yd hg4_25 0 ?_
 refine ym 0 ?_
 refine ys 4 ⟨lg call13 (jO _ _ _ hv6) 58⟩ ?_
 refine yd hg4_31 5 ?_
 refine ye [58,0] ?_
 exact hl10 _ (zi h).symm
 refine dJ [2,0,1,3,4] rfl rfl ?_
 refine el 67 0 (fun ov4=>[.fl (.own 47) 11 ov4,.v (.int .i64 v2.1.GY),.fl (.own 3) 1 (map (int .i64) v2.1.Hb),.fl (.own 5) 1 (map (int .u8) v2.1.GZ),.v (.int .i64 v2.1.Of),.fl (.own 3) 1 (map (int .i64) v2.1.GK)]) (zl rfl) rfl (fun _=>rfl) fun ov4 oh4 => ?_
 refine yx hn 3 ?_
 refine yd hg4_2 2 ?_
 refine yS (vi (v2.1.GP.length:Int)) 3 ⟨gO _ _ _ underlying35 rfl (by decide) (nz aM oh4)⟩ ?_
 refine yd hg4_8 2 ?_
 refine yS (.eref (.cell 2 0) (v4 * 11)) 1 ⟨iQ _ _ _ _ _ _ _ _ underlying35 gj (by decide) rfl rfl rfl (cc hv4).1 (gu aM oh4 (cc hv4).2) rfl⟩ ?_
 refine yS (vi v5.Hc) 3 ⟨aY.ownEq (gs:=67) (by repeat first | exact List.Mem.head _ | apply List.Mem.tail) (cx (q:=9) aM oh4 hv5 (by decide)) (aL aM hv5 rfl) (fun e=>fm _ _ _ _ _ _ underlying3 rfl rfl rfl ((cx (q:=9) aM oh4 hv5 (by decide)).trans (congrArg some e)))⟩ ?_
 refine yd hg4_16 5 ?_
 refine yd hg4_21 4 ?_
 refine yd hg4_25 11 ?_
 refine ye [58,0] ?_
 exact hl10 _ (zi h).symm
 refine dJ [2,0,1,3,4] rfl rfl ?_
 refine el 67 0 (fun ov4=>[.fl (.own 47) 11 ov4,.v (.int .i64 v2.1.GY),.fl (.own 3) 1 (map (int .i64) v2.1.Hb),.fl (.own 5) 1 (map (int .u8) v2.1.GZ),.v (.int .i64 v2.1.Of),.fl (.own 3) 1 (map (int .i64) v2.1.GK)]) (zl rfl) rfl (fun _=>rfl) fun ov4 oh4 => ?_
 refine yx hn 3 ?_
 refine yd hg4_2 2 ?_
 refine yS (vi (v2.1.GP.length:Int)) 3 ⟨gO _ _ _ underlying35 rfl (by decide) (nz aM oh4)⟩ ?_
 refine yd hg4_8 2 ?_
 refine yS (.eref (.cell 2 0) (v4 * 11)) 1 ⟨iQ _ _ _ _ _ _ _ _ underlying35 gj (by decide) rfl rfl rfl (cc hv4).1 (gu aM oh4 (cc hv4).2) rfl⟩ ?_
 refine yS (vi v5.Hc) 3 ⟨aY.ownEq (gs:=67) (by repeat first | exact List.Mem.head _ | apply List.Mem.tail) (cx (q:=9) aM oh4 hv5 (by decide)) (aL aM hv5 rfl) (fun e=>fm _ _ _ _ _ _ underlying3 rfl rfl rfl ((cx (q:=9) aM oh4 hv5 (by decide)).trans (congrArg some e)))⟩ ?_
 refine yd hg4_16 5 ?_
 refine yd hg4_21 15 ?_
 refine ye [58,0] ?_
 exact hl10 _ (zi h).symm
 refine dJ [2,0,1,3,4] rfl rfl ?_
 refine el 67 0 (fun ov4=>[.fl (.own 47) 11 ov4,.v (.int .i64 v2.1.GY),.fl (.own 3) 1 (map (int .i64) v2.1.Hb),.fl (.own 5) 1 (map (int .u8) v2.1.GZ),.v (.int .i64 v2.1.Of),.fl (.own 3) 1 (map (int .i64) v2.1.GK)]) (zl rfl) rfl (fun _=>rfl) fun ov4 oh4 => ?_
 refine yx hn 3 ?_
 refine yd hg4_2 2 ?_
 refine yS (vi (v2.1.GP.length:Int)) 3 ⟨gO _ _ _ underlying35 rfl (by decide) (nz aM oh4)⟩ ?_
 refine yd hg4_8 2 ?_
 refine yS (.eref (.cell 2 0) (v4 * 11)) 1 ⟨iQ _ _ _ _ _ _ _ _ underlying35 gj (by decide) rfl rfl rfl (cc hv4).1 (gu aM oh4 (cc hv4).2) rfl⟩ ?_
 refine yS (vi v5.Hc) 3 ⟨aY.ownEq (gs:=67) (by repeat first | exact List.Mem.head _ | apply List.Mem.tail) (cx (q:=9) aM oh4 hv5 (by decide)) (aL aM hv5 rfl) (fun e=>fm _ _ _ _ _ _ underlying3 rfl rfl rfl ((cx (q:=9) aM oh4 hv5 (by decide)).trans (congrArg some e)))⟩ ?_
 refine yd hg4_16 20 ?_
 refine ye [58,0] ?_
 exact hl10 _ (zi h).symm
 refine dJ [2,0,1,3,4] rfl rfl ?_
 refine el 67 0 (fun ov4=>[.fl (.own 47) 11 ov4,.v (.int .i64 v2.1.GY),.fl (.own 3) 1 (map (int .i64) v2.1.Hb),.fl (.own 5) 1 (map (int .u8) v2.1.GZ),.v (.int .i64 v2.1.Of),.fl (.own 3) 1 (map (int .i64) v2.1.GK)]) (zl rfl) rfl (fun _=>rfl) fun ov4 oh4 => ?_
 refine yx hn 3 ?_
 refine yd hg4_2 2 ?_
 refine yS (vi (v2.1.GP.length:Int)) 3 ⟨gO _ _ _ underlying35 rfl (by decide) (nz aM oh4)⟩ ?_
 refine yd hg4_8 28 ?_
 refine ye [58,0] ?_
 exact hl10 _ (zi h).symm
 refine dJ [2,0,1,3,4] rfl rfl ?_
 refine el 67 0 (fun ov4=>[.fl (.own 47) 11 ov4,.v (.int .i64 v2.1.GY),.fl (.own 3) 1 (map (int .i64) v2.1.Hb),.fl (.own 5) 1 (map (int .u8) v2.1.GZ),.v (.int .i64 v2.1.Of),.fl (.own 3) 1 (map (int .i64) v2.1.GK)]) (zl rfl) rfl (fun _=>rfl) fun ov4 oh4 => ?_
 refine yx hn 3 ?_
 refine yd hg4_2 34 ?_
 refine ye [58,0] ?_
 exact hl10 _ (zi h).symm
end Go.Proofs.YtjdmcbkkacnmdaaGreatDoor
