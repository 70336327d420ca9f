import Derived.Test.YtjnnkhmhjcjhdaaGreatDoorOkc7
set_option linter.unusedVariables false
set_option linter.unusedSimpArgs false
set_option maxHeartbeats 1000000
namespace Go.Proofs.YtjnnkhmhjcjhdaaGreatDoor
open Go.Abs Go.Abs.Sh Tryz
open List (map flatten)
open Value (int)
theorem wC (challenge:KK) (r:T_Gate) (h:Sh.rn challenge=some r):bM Tryz.prog 22 [.v (.string challenge)] (.agg [.v (.int .i64 r.KC),.v (.string r.Kn),.v (.bool r.Kj.Kx),.v (.string r.Kj.Ks),.v (.string r.Kj.Kg),.fl (.own 26) 3 (flatten (map T_Path.enc r.To)),.v (.bool r.KE),.fl (.own 5) 1 (map (int .u8) r.Kd),.v (.string r.Ke),.v (.bool r.KD)]):=by
 unfold Sh.rn at h
 refine yO 5 func22 fun g0 hn hio => ?_
 refine gE hn 0 ?_
 refine yS (.box 30 [vi 0,vs z0,vb false,vs z0,vs z0,vz,vb false,vz,vs z0,vb false]) 0 ⟨oA (aR _ _ sS)⟩ ?_
 refine aV [0,2] ?_
 refine gE hn 1 ?_
 refine yS (.agg [vi 0,vs z0,vb false,vs z0,vs z0,vz,vb false,vz,vs challenge,vb false]) 1 ⟨bn _ _ _ _ [1,1,3,1,1,1,1,1] _ _ underlying30 sS (Fp _ underlying30) (.copy _ (.copy _ mz.nil)) rfl rfl rfl⟩ ?_
 refine aV [2] ?_
 refine aj ?_
 refine cm (fs:=[(2,.box 30 [vi 0,vs z0,vb false,vs z0,vs z0,.fl (.own 26) 3 (flatten (map T_Path.enc [])),vb false,.fl (.own 5) 1 (map (int .u8) []),vs challenge,vb false])]) (.box _ _ (ae (ah _) (ae (ah _) (ae (ah _) (ae (ah _) (ae (ah _) (ae (bI 26 3) (ae (ah _) (ae (bI 5 1) (ae (ah _) (ae (ah _) (bj))))))))))) rfl .nil) ?_
 obtain rfl:=zi h
 exact al hio rfl (.cellA _ _ _ _ underlying30 rfl pj .nil) rfl rfl
theorem jw (mx:Int×Nat×Value) (r:Bool) (h:Sh.dm  = some r):ir Tryz.prog (GL mx) 14 [] (.v (.bool r)):=by
 unfold Sh.dm at h
 refine yG 51 func14 fun g0 hn hio => ?_
 refine aG hn 1 [51] ?_
 refine ab ?_
 obtain ⟨v1,hv1,v2,hv2,v3,hv3,h⟩:=rZ h
 refine yx hn 0 ?_
 refine ys 0 ⟨lk call20 (jH _ hv1)⟩ ?_
 refine ys 0 ⟨lk call22 (wC _ _ hv2)⟩ ?_
 refine yS (.fl (.own 5) 1 (map (int .u8) [77,65,73,76,32,70,82,79,77,58,60,62,13,10,69,72,76,79,32,104,13,10])) 0 ⟨bi _ _ 1 (.int .u8 0) (map (int .u8) [77,65,73,76,32,70,82,79,77,58,60,62,13,10,69,72,76,79,32,104,13,10]) [(0,.int .u8 77),(1,.int .u8 65),(2,.int .u8 73),(3,.int .u8 76),(4,.int .u8 32),(5,.int .u8 70),(6,.int .u8 82),(7,.int .u8 79),(8,.int .u8 77),(9,.int .u8 58),(10,.int .u8 60),(11,.int .u8 62),(12,.int .u8 13),(13,.int .u8 10),(14,.int .u8 69),(15,.int .u8 72),(16,.int .u8 76),(17,.int .u8 79),(18,.int .u8 32),(19,.int .u8 104),(20,.int .u8 13),(21,.int .u8 10)] underlying28 lQ uA (fun _ V w o a hv hes=>by simp only [List.map_toArray,List.map_cons,List.map_nil]; try rfl) (dn (by simp [Instr.fill,Value.cells]; rfl) (by simp [List.range,List.range.loop] <;> rfl)) (by simp [Value.oneCell']) rfl (by decide) (by decide) (by decide)⟩ ?_
 refine yk [7] [] ?_
 refine yt (8,.fl .ro 1 (map (int .u8) [77,65,73,76,32,70,82,79,77,58,60,62,13,10,69,72,76,79,32,104,13,10])) 0 ⟨gn _ _ _ underlying28 underlying5 (by intro h; cases h)⟩ ?_
 refine ys 0 ⟨lg call13 (mb _ _ _ _ _ _ _ hv3) 51⟩ ?_
 refine ym 0 ?_
 refine yS (.agg [vi v3.1.KC,vs v3.1.Kn,vb v3.1.Kj.Kx,vs v3.1.Kj.Ks,vs v3.1.Kj.Kg,.fl .ro 3 (flatten (map T_Path.enc v3.1.To)),vb v3.1.KE,.fl .ro 1 (map (int .u8) v3.1.Kd),vs v3.1.Ke,vb v3.1.KD]) 2 ⟨fj _ _ _ _ _ _ rfl rfl (zl rfl) rfl rfl⟩ ?_
 refine yS (.box 30 [vi 0,vs z0,vb false,vs z0,vs z0,vz,vb false,vz,vs z0,vb false]) 3 ⟨oA (aR _ _ sS)⟩ ?_
 refine aV [51,1,2,3] ?_
 refine ab ?_
 refine ay h (fun (s10:Bool)=>[(51,.glob (GL mx)),(0,vb s10)]) ?_ ?_
 rintro s10 h
 refine af (aj ?_)
 refine ag [1] (by kernel_rfl) (es':=[(_,_)]) rfl ?_
 obtain rfl:=zi h
 exact al hio rfl (.tmp _ _ .nil) rfl rfl
 intro u11 h hl12 hr13
 refine ak h (fun hg2_2 h => ?_) (fun hg2_2 h => ?_)
 refine ak h (fun hg2_7 h => ?_) (fun hg2_7 h => ?_)
 obtain ⟨v4,hv4,v5,hv5,h⟩:=eo h
 refine ak h (fun hg2_15 h => ?_) (fun hg2_15 h => ?_)
 obtain ⟨v6,hv6,v7,hv7,h⟩:=eo h
 refine ak h (fun hg2_23 h => ?_) (fun hg2_23 h => ?_)
 refine ak h (fun hg2_28 h => ?_) (fun hg2_28 h => ?_)
 refine ak h (fun hg2_33 h => ?_) (fun hg2_33 h => ?_)
 obtain ⟨v8,hv8,v9,hv9,h⟩:=eo h
 refine yx hn 3 ?_
 refine yd hg2_2 5 ?_
 refine yd hg2_7 1 ?_
 refine ys 2 ⟨lI hv4⟩ ?_
 refine yS (vi v5.KF.Kf) 3 ⟨bP _ _ _ _ _ _ _ underlying3 rfl rfl rfl (bR (j:=0) ap.ilen hv5 rfl) (.v _)⟩ ?_
 refine yd hg2_15 1 ?_
 refine ys 2 ⟨lI hv6⟩ ?_
 refine yS (vi v7.KF.Kf) 3 ⟨bP _ _ _ _ _ _ _ underlying3 rfl rfl rfl (bR (j:=0) ap.ilen hv7 rfl) (.v _)⟩ ?_
 refine yd hg2_23 5 ?_
 refine yd hg2_28 5 ?_
 refine yd hg2_33 0 ?_
 refine ys 0 ⟨lk call20 (jH _ hv8)⟩ ?_
 refine ys 3 ⟨lg call35 (mM _ _ _ hv9) 51⟩ ?_
 refine ye [51,0] ?_
 exact hl12 _ (zi h).symm
 refine yx hn 3 ?_
 refine yd hg2_2 5 ?_
 refine yd hg2_7 1 ?_
 refine ys 2 ⟨lI hv4⟩ ?_
 refine yS (vi v5.KF.Kf) 3 ⟨bP _ _ _ _ _ _ _ underlying3 rfl rfl rfl (bR (j:=0) ap.ilen hv5 rfl) (.v _)⟩ ?_
 refine yd hg2_15 1 ?_
 refine ys 2 ⟨lI hv6⟩ ?_
 refine yS (vi v7.KF.Kf) 3 ⟨bP _ _ _ _ _ _ _ underlying3 rfl rfl rfl (bR (j:=0) ap.ilen hv7 rfl) (.v _)⟩ ?_
 refine yd hg2_23 5 ?_
 refine yd hg2_28 5 ?_
 refine yd hg2_33 5 ?_
 refine ye [51,0] ?_
 exact hl12 _ (zi h).symm
 refine yx hn 3 ?_
 refine yd hg2_2 5 ?_
 refine yd hg2_7 1 ?_
 refine ys 2 ⟨lI hv4⟩ ?_
 refine yS (vi v5.KF.Kf) 3 ⟨bP _ _ _ _ _ _ _ underlying3 rfl rfl rfl (bR (j:=0) ap.ilen hv5 rfl) (.v _)⟩ ?_
 refine yd hg2_15 1 ?_
 refine ys 2 ⟨lI hv6⟩ ?_
 refine yS (vi v7.KF.Kf) 3 ⟨bP _ _ _ _ _ _ _ underlying3 rfl rfl rfl (bR (j:=0) ap.ilen hv7 rfl) (.v _)⟩ ?_
 refine yd hg2_23 5 ?_
 refine yd hg2_28 10 ?_
 refine ye [51,0] ?_
 exact hl12 _ (zi h).symm
 refine yx hn 3 ?_
 refine yd hg2_2 5 ?_
 refine yd hg2_7 1 ?_
 refine ys 2 ⟨lI hv4⟩ ?_
 refine yS (vi v5.KF.Kf) 3 ⟨bP _ _ _ _ _ _ _ underlying3 rfl rfl rfl (bR (j:=0) ap.ilen hv5 rfl) (.v _)⟩ ?_
 refine yd hg2_15 1 ?_
 refine ys 2 ⟨lI hv6⟩ ?_
 refine yS (vi v7.KF.Kf) 3 ⟨bP _ _ _ _ _ _ _ underlying3 rfl rfl rfl (bR (j:=0) ap.ilen hv7 rfl) (.v _)⟩ ?_
 refine yd hg2_23 15 ?_
 refine ye [51,0] ?_
 exact hl12 _ (zi h).symm
 refine yx hn 3 ?_
 refine yd hg2_2 5 ?_
 refine yd hg2_7 1 ?_
 refine ys 2 ⟨lI hv4⟩ ?_
 refine yS (vi v5.KF.Kf) 3 ⟨bP _ _ _ _ _ _ _ underlying3 rfl rfl rfl (bR (j:=0) ap.ilen hv5 rfl) (.v _)⟩ ?_
 refine yd hg2_15 23 ?_
 refine ye [51,0] ?_
 exact hl12 _ (zi h).symm
 refine yx hn 3 ?_
 refine yd hg2_2 5 ?_
 refine yd hg2_7 31 ?_
 refine ye [51,0] ?_
 exact hl12 _ (zi h).symm
 refine yx hn 3 ?_
 refine yd hg2_2 36 ?_
 refine ye [51,0] ?_
 exact hl12 _ (zi h).symm
theorem ba (a:T_Path) (b:T_Path) (r:Bool) (h:Sh.dt a b=some r):bM Tryz.prog 32 [.agg [.v (.bool a.Kx),.v (.string a.Ks),.v (.string a.Kg)],.agg [.v (.bool b.Kx),.v (.string b.Ks),.v (.string b.Kg)]] (.v (.bool r)):=by
 unfold Sh.dt at h
 refine yO 24 func32 fun g0 hn hio => ?_
 refine aG hn 3 [2,3] ?_
 refine ab ?_
 refine ay h (fun (s2:Bool)=>[(4,vb s2)]) ?_ ?_
 rintro s2 h
 refine af (aj ?_)
 obtain rfl:=zi h
 exact al hio rfl (.tmp _ _ .nil) rfl rfl
 intro u3 h hl4 hr5
 obtain ⟨v1,hv1,h⟩:=zn h
 refine ak h (fun hg1_5 h => ?_) (fun hg1_5 h => ?_)
 refine ak h (fun hg1_12 h => ?_) (fun hg1_12 h => ?_)
 refine yx hn 4 ?_
 refine yS (vb (a.Kx==b.Kx)) 1 ⟨kv _ _ _ _ underlying4 rfl rfl⟩ ?_
 refine yd hg1_5 7 ?_
 refine yd hg1_12 7 ?_
 refine ye [4] ?_
 exact hl4 _ (zi h).symm
 refine yx hn 4 ?_
 refine yS (vb (a.Kx==b.Kx)) 1 ⟨kv _ _ _ _ underlying4 rfl rfl⟩ ?_
 refine yd hg1_5 7 ?_
 refine yd hg1_12 7 ?_
 refine ye [4] ?_
 exact hl4 _ (zi h).symm
 refine yx hn 4 ?_
 refine yS (vb (a.Kx==b.Kx)) 1 ⟨kv _ _ _ _ underlying4 rfl rfl⟩ ?_
 refine yd hg1_5 14 ?_
 refine ye [4] ?_
 exact hl4 _ (zi h).symm
theorem bm (a:(List T_Path)) (b:(List T_Path)) (r:Bool) (h:Sh.dz a b=some r):bM Tryz.prog 40 [.fl .shr 3 (flatten (map T_Path.enc a)),.fl .shr 3 (flatten (map T_Path.enc b))] (.v (.bool r)):=by
 unfold Sh.dz at h
 refine yO 27 func40 fun g0 hn hio => ?_
 refine aG hn 1 [0,1] ?_
 refine ab ?_
 refine aG hn 5 [0,1,10] ?_
 refine zc h rfl (fun h => ?_) (fun h => ?_)
 refine aG hn 1 [4] ?_
 refine aj (ai ?_)
 obtain rfl:=zi h
 exact al hio rfl (.tmp _ _ .nil) rfl rfl
 refine am ?_
 refine af (ab ?_)
 refine aG hn 1 [0,1,5] ?_
 refine aU h (fun (s13:Int)=>[(0,.fl .shr 3 (flatten (map T_Path.enc a))),(1,.fl .shr 3 (flatten (map T_Path.enc b))),(5,vi s13)]) (fun (():Unit)=>[]) ?_ ?_
 rintro ⟨⟩ h
 refine af ?_
 refine aG hn 1 [4] ?_
 refine aj ?_
 obtain rfl:=zi h
 exact al hio rfl (.tmp _ _ .nil) rfl rfl
 rintro u16 hl17 hr18 s13 rr21 h ho19
 refine ab ?_
 refine aG hn 4 [0,1,5,14] ?_
 refine zc h rfl (fun h => ?_) (fun h => ?_)
 refine am ?_
 refine af (ab ?_)
 refine aC (ab ?_)
 obtain ⟨v3,hv3,v4,hv4,v5,hv5,v6,hv6,h⟩:=ld h
 obtain ⟨v7,hv7,h⟩:=zn h
 refine wb [[0],[5]] ?_
 refine wN [17,18] ?_
 refine wo [] ⟨lj hv3⟩ ?_
 refine wN [19,17] ?_
 refine wS (.agg [vb v4.Kx,vs v4.Ks,vs v4.Kg]) [[1],[5]] ⟨iY _ _ _ _ _ _ _ underlying26 rfl sN rfl rfl (kf T_Path.len hv4) rfl (by decide)⟩ ?_
 refine wN [21,22] ?_
 refine wo [] ⟨lj hv5⟩ ?_
 refine wN [23,21] ?_
 refine wS (.agg [vb v6.Kx,vs v6.Ks,vs v6.Kg]) [] ⟨iY _ _ _ _ _ _ _ underlying26 rfl sN rfl rfl (kf T_Path.len hv6) rfl (by decide)⟩ ?_
 refine wN [20,24] ?_
 refine wo [[25]] ⟨lk call32 (ba _ _ _ hv7)⟩ ?_
 refine sF hn [0,1,5,26] ?_
 refine zc h rfl (fun h => ?_) (fun h => ?_)
 refine aG hn 1 [4] ?_
 refine aj (aE (ai (ai (aE (ai ?_)))))
 have h:=hr18 _ (ho19 _ (zi h).symm).symm
 obtain rfl:=zi h
 exact al hio rfl (.tmp _ _ .nil) rfl rfl
 refine am (aI (af ?_))
 obtain ⟨v9,hv9,h⟩:=zn h
 refine yx hn 1 ?_
 refine ys 0 ⟨lb hv9⟩ ?_
 refine yw [5] 1 ?_
 refine ye [0,1,5] ?_
 exact bc _ (zi h).symm rfl
 refine bh (ar (ar (bb ?_)))
 refine ag [] (by kernel_rfl) (es':=[]) rfl ?_
 exact hl17 _ (ho19 _ (zi h).symm).symm
theorem cb (a:(List Int)) (b:(List Int)) (r:Bool) (h:Sh.dB a b=some r):bM Tryz.prog 41 [.fl .shr 1 (map (int .u8) a),.fl .shr 1 (map (int .u8) b)] (.v (.bool r)):=by
 unfold Sh.dB at h
 refine yO 26 func41 fun g0 hn hio => ?_
 refine aG hn 1 [0,1] ?_
 refine ab ?_
 refine aG hn 5 [0,1,10] ?_
 refine zc h rfl (fun h => ?_) (fun h => ?_)
 refine aG hn 1 [4] ?_
 refine aj (ai ?_)
 obtain rfl:=zi h
 exact al hio rfl (.tmp _ _ .nil) rfl rfl
 refine am ?_
 refine af (ab ?_)
 refine aG hn 1 [0,1,5] ?_
 refine aU h (fun (s12:Int)=>[(0,fb a),(1,fb b),(5,vi s12)]) (fun (():Unit)=>[]) ?_ ?_
 rintro ⟨⟩ h
 refine af ?_
 refine aG hn 1 [4] ?_
 refine aj ?_
 obtain rfl:=zi h
 exact al hio rfl (.tmp _ _ .nil) rfl rfl
 rintro u15 hl16 hr17 s12 rr20 h ho18
 refine ab ?_
 refine aG hn 4 [0,1,5,14] ?_
 refine zc h rfl (fun h => ?_) (fun h => ?_)
 refine am ?_
 refine af (ab ?_)
 refine aC (ab ?_)
 obtain ⟨v3,hv3,v4,hv4,v5,hv5,v6,hv6,h⟩:=ld h
 refine wb [[0],[5]] ?_
 refine wN [17,18] ?_
 refine wo [] ⟨li hv3⟩ ?_
 refine wN [19,17] ?_
 refine wo [[1],[5]] ⟨ll hv4⟩ ?_
 refine wN [21,22] ?_
 refine wo [] ⟨li hv5⟩ ?_
 refine wN [23,21] ?_
 refine wo [[20,24]] ⟨ll hv6⟩ ?_
 refine sF hn [0,1,5,25] ?_
 refine zc h rfl (fun h => ?_) (fun h => ?_)
 refine aG hn 1 [4] ?_
 refine aj (aE (ai (ai (aE (ai ?_)))))
 have h:=hr17 _ (ho18 _ (zi h).symm).symm
 obtain rfl:=zi h
 exact al hio rfl (.tmp _ _ .nil) rfl rfl
 refine am (aI (af ?_))
 obtain ⟨v8,hv8,h⟩:=zn h
 refine yx hn 1 ?_
 refine ys 0 ⟨lb hv8⟩ ?_
 refine yw [5] 1 ?_
 refine ye [0,1,5] ?_
 exact bc _ (zi h).symm rfl
 refine bh (ar (ar (bb ?_)))
 refine ag [] (by kernel_rfl) (es':=[]) rfl ?_
 exact hl16 _ (ho18 _ (zi h).symm).symm
theorem gT (a:T_Gate) (b:T_Gate) (r:Bool) (h:Sh.fe a b=some r):bM Tryz.prog 15 [.agg [.v (.int .i64 a.KC),.v (.string a.Kn),.v (.bool a.Kj.Kx),.v (.string a.Kj.Ks),.v (.string a.Kj.Kg),.fl .shr 3 (flatten (map T_Path.enc a.To)),.v (.bool a.KE),.fl .shr 1 (map (int .u8) a.Kd),.v (.string a.Ke),.v (.bool a.KD)],.agg [.v (.int .i64 b.KC),.v (.string b.Kn),.v (.bool b.Kj.Kx),.v (.string b.Kj.Ks),.v (.string b.Kj.Kg),.fl .shr 3 (flatten (map T_Path.enc b.To)),.v (.bool b.KE),.fl .shr 1 (map (int .u8) b.Kd),.v (.string b.Ke),.v (.bool b.KD)]] (.v (.bool r)):=by
 unfold Sh.fe at h
 refine yO 59 func15 fun g0 hn hio => ?_
 refine aG hn 3 [2,3] ?_
 refine ab ?_
 refine ay h (fun (s6:Bool)=>[(4,vb s6)]) ?_ ?_
 rintro s6 h
 refine af (aj ?_)
 obtain rfl:=zi h
 exact al hio rfl (.tmp _ _ .nil) rfl rfl
 intro u7 h hl8 hr9
 refine ak h (fun hg1_5 h => ?_) (fun hg1_5 h => ?_)
 refine ak h (fun hg1_12 h => ?_) (fun hg1_12 h => ?_)
 obtain ⟨v1,hv1,h⟩:=zn h
 refine ak h (fun hg1_19 h => ?_) (fun hg1_19 h => ?_)
 obtain ⟨v2,hv2,h⟩:=zn h
 refine ak h (fun hg1_26 h => ?_) (fun hg1_26 h => ?_)
 obtain ⟨v3,hv3,h⟩:=zn h
 refine ak h (fun hg1_33 h => ?_) (fun hg1_33 h => ?_)
 obtain ⟨v4,hv4,h⟩:=zn h
 refine ak h (fun hg1_40 h => ?_) (fun hg1_40 h => ?_)
 refine ak h (fun hg1_47 h => ?_) (fun hg1_47 h => ?_)
 obtain ⟨v5,hv5,h⟩:=zn h
 refine yx hn 6 ?_
 refine yd hg1_5 7 ?_
 refine yd hg1_12 4 ?_
 refine ys 2 ⟨lk call32 (ba _ _ _ hv1)⟩ ?_
 refine yd hg1_19 4 ?_
 refine ys 2 ⟨lk call40 (bm _ _ _ hv2)⟩ ?_
 refine yd hg1_26 4 ?_
 refine yS (vb (a.KE==b.KE)) 2 ⟨kv _ _ _ _ underlying4 rfl rfl⟩ ?_
 refine yd hg1_33 4 ?_
 refine ys 2 ⟨lk call41 (cb _ _ _ hv4)⟩ ?_
 refine yd hg1_40 7 ?_
 refine yd hg1_47 4 ?_
 refine yS (vb (a.KD==b.KD)) 2 ⟨kv _ _ _ _ underlying4 rfl rfl⟩ ?_
 refine ye [4] ?_
 exact hl8 _ (zi h).symm
 refine yx hn 6 ?_
 refine yd hg1_5 7 ?_
 refine yd hg1_12 4 ?_
 refine ys 2 ⟨lk call32 (ba _ _ _ hv1)⟩ ?_
 refine yd hg1_19 4 ?_
 refine ys 2 ⟨lk call40 (bm _ _ _ hv2)⟩ ?_
 refine yd hg1_26 4 ?_
 refine yS (vb (a.KE==b.KE)) 2 ⟨kv _ _ _ _ underlying4 rfl rfl⟩ ?_
 refine yd hg1_33 4 ?_
 refine ys 2 ⟨lk call41 (cb _ _ _ hv4)⟩ ?_
 refine yd hg1_40 7 ?_
 refine yd hg1_47 7 ?_
 refine ye [4] ?_
 exact hl8 _ (zi h).symm
 refine yx hn 6 ?_
 refine yd hg1_5 7 ?_
 refine yd hg1_12 4 ?_
 refine ys 2 ⟨lk call32 (ba _ _ _ hv1)⟩ ?_
 refine yd hg1_19 4 ?_
 refine ys 2 ⟨lk call40 (bm _ _ _ hv2)⟩ ?_
 refine yd hg1_26 4 ?_
 refine yS (vb (a.KE==b.KE)) 2 ⟨kv _ _ _ _ underlying4 rfl rfl⟩ ?_
 refine yd hg1_33 4 ?_
 refine ys 2 ⟨lk call41 (cb _ _ _ hv4)⟩ ?_
 refine yd hg1_40 14 ?_
 refine ye [4] ?_
 exact hl8 _ (zi h).symm
 refine yx hn 6 ?_
 refine yd hg1_5 7 ?_
 refine yd hg1_12 4 ?_
 refine ys 2 ⟨lk call32 (ba _ _ _ hv1)⟩ ?_
 refine yd hg1_19 4 ?_
 refine ys 2 ⟨lk call40 (bm _ _ _ hv2)⟩ ?_
 refine yd hg1_26 4 ?_
 refine yS (vb (a.KE==b.KE)) 2 ⟨kv _ _ _ _ underlying4 rfl rfl⟩ ?_
 refine yd hg1_33 21 ?_
 refine ye [4] ?_
 exact hl8 _ (zi h).symm
 refine yx hn 6 ?_
 refine yd hg1_5 7 ?_
 refine yd hg1_12 4 ?_
 refine ys 2 ⟨lk call32 (ba _ _ _ hv1)⟩ ?_
 refine yd hg1_19 4 ?_
 refine ys 2 ⟨lk call40 (bm _ _ _ hv2)⟩ ?_
 refine yd hg1_26 28 ?_
 refine ye [4] ?_
 exact hl8 _ (zi h).symm
 refine yx hn 6 ?_
 refine yd hg1_5 7 ?_
 refine yd hg1_12 4 ?_
 refine ys 2 ⟨lk call32 (ba _ _ _ hv1)⟩ ?_
 refine yd hg1_19 35 ?_
 refine ye [4] ?_
 exact hl8 _ (zi h).symm
 refine yx hn 6 ?_
 refine yd hg1_5 7 ?_
 refine yd hg1_12 42 ?_
 refine ye [4] ?_
 exact hl8 _ (zi h).symm
 refine yx hn 6 ?_
 refine yd hg1_5 49 ?_
 refine ye [4] ?_
 exact hl8 _ (zi h).symm
theorem eu (a:bH) (b:bH) (r:Bool) (h:Sh.ew a b=some r):bM Tryz.prog 42 [.agg [.v (.int .i64 a.Kf),.fl .shr 1 (map Value.string a.Kr)],.agg [.v (.int .i64 b.Kf),.fl .shr 1 (map Value.string b.Kr)]] (.v (.bool r)):=by
 unfold Sh.ew at h
 refine yO 38 func42 fun g0 hn hio => ?_
 refine aG hn 3 [2,3] ?_
 refine ab (ab ?_)
 refine ay h (fun (s1:Bool)=>[(2,.box 51 [vi a.Kf,.fl .shr 1 (map Value.string a.Kr)]),(3,.box 51 [vi b.Kf,.fl .shr 1 (map Value.string b.Kr)]),(19,vb s1)]) ?_ ?_
 rintro s1 h
 refine af ?_
 refine zc h rfl (fun h => ?_) (fun h => ?_)
 refine aG hn 1 [4] ?_
 refine aj (ai ?_)
 obtain rfl:=zi h
 exact al hio rfl (.tmp _ _ .nil) rfl rfl
 refine am ?_
 refine af (ab ?_)
 refine aG hn 1 [2,3,5] ?_
 refine aU h (fun (s16:Int)=>[(2,.box 51 [vi a.Kf,.fl .shr 1 (map Value.string a.Kr)]),(3,.box 51 [vi b.Kf,.fl .shr 1 (map Value.string b.Kr)]),(5,vi s16)]) (fun (():Unit)=>[]) ?_ ?_
 rintro ⟨⟩ h
 refine af ?_
 refine aG hn 1 [4] ?_
 refine aj ?_
 obtain rfl:=zi h
 exact al hio rfl (.tmp _ _ .nil) rfl rfl
 rintro u19 hl20 hr21 s16 rr24 h ho22
 refine ab ?_
 refine aG hn 5 [2,3,5,24] ?_
 refine zc h rfl (fun h => ?_) (fun h => ?_)
 refine am ?_
 refine af (ab ?_)
 refine aC (ab ?_)
 obtain ⟨v7,hv7,v8,hv8,v9,hv9,v10,hv10,h⟩:=ld h
 refine wb [[2],[27,2],[5]] ?_
 refine wN [28,29] ?_
 refine wo [] ⟨li hv7⟩ ?_
 refine wN [30,28] ?_
 refine wo [[3],[32,3],[5]] ⟨ll hv8⟩ ?_
 refine wN [33,34] ?_
 refine wo [] ⟨li hv9⟩ ?_
 refine wN [35,33] ?_
 refine wo [[31,36]] ⟨ll hv10⟩ ?_
 refine sF hn [2,3,5,37] ?_
 refine zc h rfl (fun h => ?_) (fun h => ?_)
 refine aG hn 1 [4] ?_
 refine aj (aE (ai (ai (aE (ai ?_)))))
 have h:=hr21 _ (ho22 _ (zi h).symm).symm
 obtain rfl:=zi h
 exact al hio rfl (.tmp _ _ .nil) rfl rfl
 refine am (aI (af ?_))
 obtain ⟨v12,hv12,h⟩:=zn h
 refine yx hn 1 ?_
 refine ys 0 ⟨lb hv12⟩ ?_
 refine yw [5] 1 ?_
 refine ye [2,3,5] ?_
 exact bc _ (zi h).symm rfl
 refine bh (ar (ar (bb ?_)))
 refine ag [] (by kernel_rfl) (es':=[]) rfl ?_
 exact hl20 _ (ho22 _ (zi h).symm).symm
 intro u2 h hl3 hr4
 refine ak h (fun hg1_5 h => ?_) (fun hg1_5 h => ?_)
 refine yx hn 6 ?_
 refine yd hg1_5 8 ?_
 refine ye [2,3,19] ?_
 exact hl3 _ (zi h).symm
 refine yx hn 6 ?_
 refine yd hg1_5 8 ?_
 refine ye [2,3,19] ?_
 exact hl3 _ (zi h).symm
theorem ke (a:aH) (b:aH) (r:Bool) (h:Sh.eW a b=some r):bM Tryz.prog 26 [.agg [.v (.bool a.Kj.Kx),.v (.string a.Kj.Ks),.v (.string a.Kj.Kg),.fl .shr 3 (flatten (map T_Path.enc a.To)),.fl .shr 1 (map (int .u8) a.Kc),.v (.bool a.KE),.v (.string a.Kn),.v (.int .i64 a.At)],.agg [.v (.bool b.Kj.Kx),.v (.string b.Kj.Ks),.v (.string b.Kj.Kg),.fl .shr 3 (flatten (map T_Path.enc b.To)),.fl .shr 1 (map (int .u8) b.Kc),.v (.bool b.KE),.v (.string b.Kn),.v (.int .i64 b.At)]] (.v (.bool r)):=by
 unfold Sh.eW at h
 refine yO 45 func26 fun g0 hn hio => ?_
 refine aG hn 3 [2,3] ?_
 refine ab ?_
 refine ay h (fun (s5:Bool)=>[(4,vb s5)]) ?_ ?_
 rintro s5 h
 refine af (aj ?_)
 obtain rfl:=zi h
 exact al hio rfl (.tmp _ _ .nil) rfl rfl
 intro u6 h hl7 hr8
 obtain ⟨v1,hv1,h⟩:=zn h
 refine ak h (fun hg1_5 h => ?_) (fun hg1_5 h => ?_)
 obtain ⟨v2,hv2,h⟩:=zn h
 refine ak h (fun hg1_12 h => ?_) (fun hg1_12 h => ?_)
 obtain ⟨v3,hv3,h⟩:=zn h
 refine ak h (fun hg1_19 h => ?_) (fun hg1_19 h => ?_)
 obtain ⟨v4,hv4,h⟩:=zn h
 refine ak h (fun hg1_26 h => ?_) (fun hg1_26 h => ?_)
 refine ak h (fun hg1_33 h => ?_) (fun hg1_33 h => ?_)
 refine yx hn 4 ?_
 refine ys 1 ⟨lk call32 (ba _ _ _ hv1)⟩ ?_
 refine yd hg1_5 4 ?_
 refine ys 2 ⟨lk call40 (bm _ _ _ hv2)⟩ ?_
 refine yd hg1_12 4 ?_
 refine ys 2 ⟨lk call41 (cb _ _ _ hv3)⟩ ?_
 refine yd hg1_19 4 ?_
 refine yS (vb (a.KE==b.KE)) 2 ⟨kv _ _ _ _ underlying4 rfl rfl⟩ ?_
 refine yd hg1_26 7 ?_
 refine yd hg1_33 7 ?_
 refine ye [4] ?_
 exact hl7 _ (zi h).symm
 refine yx hn 4 ?_
 refine ys 1 ⟨lk call32 (ba _ _ _ hv1)⟩ ?_
 refine yd hg1_5 4 ?_
 refine ys 2 ⟨lk call40 (bm _ _ _ hv2)⟩ ?_
 refine yd hg1_12 4 ?_
 refine ys 2 ⟨lk call41 (cb _ _ _ hv3)⟩ ?_
 refine yd hg1_19 4 ?_
 refine yS (vb (a.KE==b.KE)) 2 ⟨kv _ _ _ _ underlying4 rfl rfl⟩ ?_
 refine yd hg1_26 7 ?_
 refine yd hg1_33 7 ?_
 refine ye [4] ?_
 exact hl7 _ (zi h).symm
 refine yx hn 4 ?_
 refine ys 1 ⟨lk call32 (ba _ _ _ hv1)⟩ ?_
 refine yd hg1_5 4 ?_
 refine ys 2 ⟨lk call40 (bm _ _ _ hv2)⟩ ?_
 refine yd hg1_12 4 ?_
 refine ys 2 ⟨lk call41 (cb _ _ _ hv3)⟩ ?_
 refine yd hg1_19 4 ?_
 refine yS (vb (a.KE==b.KE)) 2 ⟨kv _ _ _ _ underlying4 rfl rfl⟩ ?_
 refine yd hg1_26 14 ?_
 refine ye [4] ?_
 exact hl7 _ (zi h).symm
 refine yx hn 4 ?_
 refine ys 1 ⟨lk call32 (ba _ _ _ hv1)⟩ ?_
 refine yd hg1_5 4 ?_
 refine ys 2 ⟨lk call40 (bm _ _ _ hv2)⟩ ?_
 refine yd hg1_12 4 ?_
 refine ys 2 ⟨lk call41 (cb _ _ _ hv3)⟩ ?_
 refine yd hg1_19 21 ?_
 refine ye [4] ?_
 exact hl7 _ (zi h).symm
 refine yx hn 4 ?_
 refine ys 1 ⟨lk call32 (ba _ _ _ hv1)⟩ ?_
 refine yd hg1_5 4 ?_
 refine ys 2 ⟨lk call40 (bm _ _ _ hv2)⟩ ?_
 refine yd hg1_12 28 ?_
 refine ye [4] ?_
 exact hl7 _ (zi h).symm
 refine yx hn 4 ?_
 refine ys 1 ⟨lk call32 (ba _ _ _ hv1)⟩ ?_
 refine yd hg1_5 35 ?_
 refine ye [4] ?_
 exact hl7 _ (zi h).symm
theorem ku (a:(List ap)) (b:(List ap)) (r:Bool) (h:Sh.fg a b=some r):bM Tryz.prog 16 [.fr .shr true 12 (flatten (map ap.ienc a)),.fr .shr true 12 (flatten (map ap.ienc b))] (.v (.bool r)):=by
 unfold Sh.fg at h
 refine yO 69 func16 fun g0 hn hio => ?_
 refine aG hn 1 [0,1] ?_
 refine ab ?_
 refine aG hn 5 [0,1,10] ?_
 refine zc h rfl (fun h => ?_) (fun h => ?_)
 refine aG hn 1 [4] ?_
 refine aj (ai ?_)
 obtain rfl:=zi h
 exact al hio rfl (.tmp _ _ .nil) rfl rfl
 refine am ?_
 refine af (ab ?_)
 refine aG hn 1 [0,1,5] ?_
 refine aU h (fun (s36:Int)=>[(0,.fr .shr true 12 (flatten (map ap.ienc a))),(1,.fr .shr true 12 (flatten (map ap.ienc b))),(5,vi s36)]) (fun (():Unit)=>[]) ?_ ?_
 rintro ⟨⟩ h
 refine af ?_
 refine aG hn 1 [4] ?_
 refine aj ?_
 obtain rfl:=zi h
 exact al hio rfl (.tmp _ _ .nil) rfl rfl
 rintro u43 hl44 hr45 s36 rr48 h ho46
 refine ab ?_
 refine aG hn 4 [0,1,5,14] ?_
 refine zc h rfl (fun h => ?_) (fun h => ?_)
 refine am ?_
 refine af (ab ?_)
 refine aC (ab ?_)
 refine ay h (fun (s50:Bool)=>[(0,.fr .shr true 12 (flatten (map ap.ienc a))),(1,.fr .shr true 12 (flatten (map ap.ienc b))),(5,vi s36),(68,vb s50)]) ?_ ?_
 rintro s50 h
 refine af ?_
 refine zc h rfl (fun h => ?_) (fun h => ?_)
 refine aG hn 1 [4] ?_
 refine aj (aE (ai (ai (aE (ai ?_)))))
 have h:=hr45 _ (ho46 _ (zi h).symm).symm
 obtain rfl:=zi h
 exact al hio rfl (.tmp _ _ .nil) rfl rfl
 refine am (aI (af ?_))
 obtain ⟨v28,hv28,h⟩:=zn h
 refine yx hn 1 ?_
 refine ys 0 ⟨lb hv28⟩ ?_
 refine yw [5] 1 ?_
 refine ye [0,1,5] ?_
 exact bc _ (zi h).symm rfl
 intro u51 h hl52 hr53
 obtain ⟨v3,hv3,v4,hv4,v5,hv5,v6,hv6,h⟩:=ld h
 obtain ⟨v7,hv7,h⟩:=zn h
 refine ak h (fun hg6_12 h => ?_) (fun hg6_12 h => ?_)
 refine wb [[0],[5]] ?_
 refine wN [17,18] ?_
 refine wo [[19,17]] ⟨lI hv3⟩ ?_
 refine wN [20,17] ?_
 refine wS (.agg [vi v4.KF.Kf,.fl .shr 1 (map Value.string v4.KF.Kr)]) [[1],[5]] ⟨cd _ _ _ _ _ _ _ _ underlying51 rfl qQ rfl rfl (dI ap.ilen hv4 (zl rfl) rfl) (.cons (.v _) (.cons (.fl _ _ rfl) (.nil))) rfl (by decide)⟩ ?_
 refine wN [22,23] ?_
 refine wo [[24,22]] ⟨lI hv5⟩ ?_
 refine wN [25,22] ?_
 refine wS (.agg [vi v6.KF.Kf,.fl .shr 1 (map Value.string v6.KF.Kr)]) [] ⟨cd _ _ _ _ _ _ _ _ underlying51 rfl qQ rfl rfl (dI ap.ilen hv6 (zl rfl) rfl) (.cons (.v _) (.cons (.fl _ _ rfl) (.nil))) rfl (by decide)⟩ ?_
 refine wN [21,26] ?_
 refine wo [[27],[28]] ⟨lk call42 (eu _ _ _ hv7)⟩ ?_
 refine wd hg6_12 [[29],[29],[29],[29],[29],[29],[29],[29],[29],[29],[29],[29],[41],[42],[42],[42],[42],[42],[42],[42],[42],[42],[42],[42],[42],[42],[55],[56],[56],[56],[56],[56],[56],[56],[56],[56],[56],[56],[56]] ?_
 refine we hn [0,1,5,68] ?_
 exact hl52 _ (zi h).symm
 obtain ⟨v8,hv8,v9,hv9,v10,hv10,v11,hv11,h⟩:=ld h
 obtain ⟨v12,hv12,h⟩:=zn h
 refine ak h (fun hg6_25 h => ?_) (fun hg6_25 h => ?_)
 refine wb [[0],[5]] ?_
 refine wN [17,18] ?_
 refine wo [[19,17]] ⟨lI hv3⟩ ?_
 refine wN [20,17] ?_
 refine wS (.agg [vi v4.KF.Kf,.fl .shr 1 (map Value.string v4.KF.Kr)]) [[1],[5]] ⟨cd _ _ _ _ _ _ _ _ underlying51 rfl qQ rfl rfl (dI ap.ilen hv4 (zl rfl) rfl) (.cons (.v _) (.cons (.fl _ _ rfl) (.nil))) rfl (by decide)⟩ ?_
 refine wN [22,23] ?_
 refine wo [[24,22]] ⟨lI hv5⟩ ?_
 refine wN [25,22] ?_
 refine wS (.agg [vi v6.KF.Kf,.fl .shr 1 (map Value.string v6.KF.Kr)]) [] ⟨cd _ _ _ _ _ _ _ _ underlying51 rfl qQ rfl rfl (dI ap.ilen hv6 (zl rfl) rfl) (.cons (.v _) (.cons (.fl _ _ rfl) (.nil))) rfl (by decide)⟩ ?_
 refine wN [21,26] ?_
 refine wo [[27],[28]] ⟨lk call42 (eu _ _ _ hv7)⟩ ?_
 refine wd hg6_12 [[29,0],[29,5]] ?_
 refine wN [29,30,31] ?_
 refine wo [[29,32,30]] ⟨lI hv8⟩ ?_
 refine wN [29,33,30] ?_
 refine wS (vb v9.Kl) [[29,1],[29,5]] ⟨bP _ _ _ _ _ _ _ underlying4 rfl rfl rfl (bR ap.ilen hv9 rfl) (.v _)⟩ ?_
 refine wN [29,35,36] ?_
 refine wo [[29,37,35]] ⟨lI hv10⟩ ?_
 refine wN [29,38,35] ?_
 refine wS (vb v11.Kl) [] ⟨bP _ _ _ _ _ _ _ underlying4 rfl rfl rfl (bR ap.ilen hv11 rfl) (.v _)⟩ ?_
 refine wN [29,34,39] ?_
 refine wS (vb (!(v9.Kl==v11.Kl))) [[29,40],[41]] ⟨uy _ _ _ _ underlying4 rfl rfl⟩ ?_
 refine wd hg6_25 [[42],[42],[42],[42],[42],[42],[42],[42],[42],[42],[42],[42],[42],[55],[56],[56],[56],[56],[56],[56],[56],[56],[56],[56],[56],[56]] ?_
 refine we hn [0,1,5,68] ?_
 exact hl52 _ (zi h).symm
 obtain ⟨v13,hv13,v14,hv14,v15,hv15,v16,hv16,h⟩:=ld h
 obtain ⟨v17,hv17,h⟩:=zn h
 refine ak h (fun hg6_39 h => ?_) (fun hg6_39 h => ?_)
 refine wb [[0],[5]] ?_
 refine wN [17,18] ?_
 refine wo [[19,17]] ⟨lI hv3⟩ ?_
 refine wN [20,17] ?_
 refine wS (.agg [vi v4.KF.Kf,.fl .shr 1 (map Value.string v4.KF.Kr)]) [[1],[5]] ⟨cd _ _ _ _ _ _ _ _ underlying51 rfl qQ rfl rfl (dI ap.ilen hv4 (zl rfl) rfl) (.cons (.v _) (.cons (.fl _ _ rfl) (.nil))) rfl (by decide)⟩ ?_
 refine wN [22,23] ?_
 refine wo [[24,22]] ⟨lI hv5⟩ ?_
 refine wN [25,22] ?_
 refine wS (.agg [vi v6.KF.Kf,.fl .shr 1 (map Value.string v6.KF.Kr)]) [] ⟨cd _ _ _ _ _ _ _ _ underlying51 rfl qQ rfl rfl (dI ap.ilen hv6 (zl rfl) rfl) (.cons (.v _) (.cons (.fl _ _ rfl) (.nil))) rfl (by decide)⟩ ?_
 refine wN [21,26] ?_
 refine wo [[27],[28]] ⟨lk call42 (eu _ _ _ hv7)⟩ ?_
 refine wd hg6_12 [[29,0],[29,5]] ?_
 refine wN [29,30,31] ?_
 refine wo [[29,32,30]] ⟨lI hv8⟩ ?_
 refine wN [29,33,30] ?_
 refine wS (vb v9.Kl) [[29,1],[29,5]] ⟨bP _ _ _ _ _ _ _ underlying4 rfl rfl rfl (bR ap.ilen hv9 rfl) (.v _)⟩ ?_
 refine wN [29,35,36] ?_
 refine wo [[29,37,35]] ⟨lI hv10⟩ ?_
 refine wN [29,38,35] ?_
 refine wS (vb v11.Kl) [] ⟨bP _ _ _ _ _ _ _ underlying4 rfl rfl rfl (bR ap.ilen hv11 rfl) (.v _)⟩ ?_
 refine wN [29,34,39] ?_
 refine wS (vb (!(v9.Kl==v11.Kl))) [[29,40],[41]] ⟨uy _ _ _ _ underlying4 rfl rfl⟩ ?_
 refine wd hg6_25 [[42,0],[42,5]] ?_
 refine wN [42,43,44] ?_
 refine wo [[42,45,43]] ⟨lI hv13⟩ ?_
 refine wN [42,46,43] ?_
 refine wS (.agg (aH.c v14.Ku [])) [[42,1],[42,5]] ⟨cd _ _ _ _ _ _ _ _ underlying53 rfl uN rfl rfl (dI ap.ilen hv14 (zl rfl) rfl) (.cons (.v _) (.cons (.v _) (.cons (.v _) (.cons (.fl _ _ rfl) (.cons (.fl _ _ rfl) (.cons (.v _) (.cons (.v _) (.cons (.v _) (.nil))))))))) rfl (by decide)⟩ ?_
 refine wN [42,48,49] ?_
 refine wo [[42,50,48]] ⟨lI hv15⟩ ?_
 refine wN [42,51,48] ?_
 refine wS (.agg (aH.c v16.Ku [])) [] ⟨cd _ _ _ _ _ _ _ _ underlying53 rfl uN rfl rfl (dI ap.ilen hv16 (zl rfl) rfl) (.cons (.v _) (.cons (.v _) (.cons (.v _) (.cons (.fl _ _ rfl) (.cons (.fl _ _ rfl) (.cons (.v _) (.cons (.v _) (.cons (.v _) (.nil))))))))) rfl (by decide)⟩ ?_
 refine wN [42,47,52] ?_
 refine wo [[42,53],[42,54],[55]] ⟨lk call26 (ke _ _ _ hv17)⟩ ?_
 refine wd hg6_39 [[56],[56],[56],[56],[56],[56],[56],[56],[56],[56],[56],[56]] ?_
 refine we hn [0,1,5,68] ?_
 exact hl52 _ (zi h).symm
 obtain ⟨v18,hv18,v19,hv19,v20,hv20,v21,hv21,h⟩:=ld h
 obtain ⟨v22,hv22,h⟩:=zn h
 refine wb [[0],[5]] ?_
 refine wN [17,18] ?_
 refine wo [[19,17]] ⟨lI hv3⟩ ?_
 refine wN [20,17] ?_
 refine wS (.agg [vi v4.KF.Kf,.fl .shr 1 (map Value.string v4.KF.Kr)]) [[1],[5]] ⟨cd _ _ _ _ _ _ _ _ underlying51 rfl qQ rfl rfl (dI ap.ilen hv4 (zl rfl) rfl) (.cons (.v _) (.cons (.fl _ _ rfl) (.nil))) rfl (by decide)⟩ ?_
 refine wN [22,23] ?_
 refine wo [[24,22]] ⟨lI hv5⟩ ?_
 refine wN [25,22] ?_
 refine wS (.agg [vi v6.KF.Kf,.fl .shr 1 (map Value.string v6.KF.Kr)]) [] ⟨cd _ _ _ _ _ _ _ _ underlying51 rfl qQ rfl rfl (dI ap.ilen hv6 (zl rfl) rfl) (.cons (.v _) (.cons (.fl _ _ rfl) (.nil))) rfl (by decide)⟩ ?_
 refine wN [21,26] ?_
 refine wo [[27],[28]] ⟨lk call42 (eu _ _ _ hv7)⟩ ?_
 refine wd hg6_12 [[29,0],[29,5]] ?_
 refine wN [29,30,31] ?_
 refine wo [[29,32,30]] ⟨lI hv8⟩ ?_
 refine wN [29,33,30] ?_
 refine wS (vb v9.Kl) [[29,1],[29,5]] ⟨bP _ _ _ _ _ _ _ underlying4 rfl rfl rfl (bR ap.ilen hv9 rfl) (.v _)⟩ ?_
 refine wN [29,35,36] ?_
 refine wo [[29,37,35]] ⟨lI hv10⟩ ?_
 refine wN [29,38,35] ?_
 refine wS (vb v11.Kl) [] ⟨bP _ _ _ _ _ _ _ underlying4 rfl rfl rfl (bR ap.ilen hv11 rfl) (.v _)⟩ ?_
 refine wN [29,34,39] ?_
 refine wS (vb (!(v9.Kl==v11.Kl))) [[29,40],[41]] ⟨uy _ _ _ _ underlying4 rfl rfl⟩ ?_
 refine wd hg6_25 [[42,0],[42,5]] ?_
 refine wN [42,43,44] ?_
 refine wo [[42,45,43]] ⟨lI hv13⟩ ?_
 refine wN [42,46,43] ?_
 refine wS (.agg (aH.c v14.Ku [])) [[42,1],[42,5]] ⟨cd _ _ _ _ _ _ _ _ underlying53 rfl uN rfl rfl (dI ap.ilen hv14 (zl rfl) rfl) (.cons (.v _) (.cons (.v _) (.cons (.v _) (.cons (.fl _ _ rfl) (.cons (.fl _ _ rfl) (.cons (.v _) (.cons (.v _) (.cons (.v _) (.nil))))))))) rfl (by decide)⟩ ?_
 refine wN [42,48,49] ?_
 refine wo [[42,50,48]] ⟨lI hv15⟩ ?_
 refine wN [42,51,48] ?_
 refine wS (.agg (aH.c v16.Ku [])) [] ⟨cd _ _ _ _ _ _ _ _ underlying53 rfl uN rfl rfl (dI ap.ilen hv16 (zl rfl) rfl) (.cons (.v _) (.cons (.v _) (.cons (.v _) (.cons (.fl _ _ rfl) (.cons (.fl _ _ rfl) (.cons (.v _) (.cons (.v _) (.cons (.v _) (.nil))))))))) rfl (by decide)⟩ ?_
 refine wN [42,47,52] ?_
 refine wo [[42,53],[42,54],[55]] ⟨lk call26 (ke _ _ _ hv17)⟩ ?_
 refine wd hg6_39 [[56,0],[56,5]] ?_
 refine wN [56,57,58] ?_
 refine wo [[56,59,57]] ⟨lI hv18⟩ ?_
 refine wN [56,60,57] ?_
 refine wS (vb v19.Kb) [[56,1],[56,5]] ⟨bP _ _ _ _ _ _ _ underlying4 rfl rfl rfl (bR ap.ilen hv19 rfl) (.v _)⟩ ?_
 refine wN [56,62,63] ?_
 refine wo [[56,64,62]] ⟨lI hv20⟩ ?_
 refine wN [56,65,62] ?_
 refine wS (vb v21.Kb) [] ⟨bP _ _ _ _ _ _ _ underlying4 rfl rfl rfl (bR ap.ilen hv21 rfl) (.v _)⟩ ?_
 refine wN [56,61,66] ?_
 refine wS (vb (!(v19.Kb==v21.Kb))) [[56,67]] ⟨uy _ _ _ _ underlying4 rfl rfl⟩ ?_
 refine we hn [0,1,5,68] ?_
 exact hl52 _ (zi h).symm
 refine bh (ar (ar (bb ?_)))
 refine ag [] (by kernel_rfl) (es':=[]) rfl ?_
 exact hl44 _ (ho46 _ (zi h).symm).symm
end Go.Proofs.YtjnnkhmhjcjhdaaGreatDoor
