import Derived.Test.YtjnnkhmhjcjhdaaGreatDoorOkc8
set_option linter.unusedVariables false
set_option linter.unusedSimpArgs false
set_option maxHeartbeats 1000000
namespace Go.Proofs.YtjnnkhmhjcjhdaaGreatDoor
open Go.Abs Go.Abs.Sh Tryz
open List (map flatten)
open Value (int)

theorem kN (mx:Int×Nat×Value) (c:T_Config) (i:Int) (at_:Int) (g:T_Gate) (b:(List Int)) (cuts:(List Int)) (r:Bool) (h:Sh.cS c i at_ g b cuts=some r):ir Tryz.prog (GL mx) 3 [.agg [.v (.string ((c.Kh.getD 0 (⟨#[]⟩:KK)))),.v (.string ((c.Kh.getD 1 (⟨#[]⟩:KK)))),.v (.int .i64 c.Ki),.v (.string c.KI),.v (.string c.KG),.v (.int .i64 c.Kt),.v (.bool c.Km)],.v (.int .i64 i),.v (.int .i64 at_),.agg [.v (.int .i64 g.KC),.v (.string g.Kn),.v (.bool g.Kj.Kx),.v (.string g.Kj.Ks),.v (.string g.Kj.Kg),.fl .shr 3 (flatten (map T_Path.enc g.To)),.v (.bool g.KE),.fl .shr 1 (map (int .u8) g.Kd),.v (.string g.Ke),.v (.bool g.KD)],.fl .shr 1 (map (int .u8) b),.fl .shr 1 (map (int .i64) cuts)] (.v (.bool r)):=by
 unfold Sh.cS at h
 refine yG 115 func3 fun g0 hn hio => ?_
 refine aG hn 3 [1,2,4,5,115,6,9] ?_
 refine ab (ab ?_)
 refine ay h (fun (s3:Bool)=>[(1,vi i),(2,vi at_),(4,fb b),(5,fi cuts),(115,.glob (GL mx)),(6,.box 24 (T_Config.c c [])),(9,.box 30 (T_Gate.c g [])),(39,vb s3)]) ?_ ?_
 rintro s3 h
 refine af ?_
 refine zc h rfl (fun h => ?_) (fun h => ?_)
 refine aG hn 1 [115,12] ?_
 refine aj ?_
 refine ag [1] (by kernel_rfl) (es':=[(_,_)]) rfl ?_
 refine ai ?_
 obtain rfl:=zi h
 exact al hio rfl (.tmp _ _ .nil) rfl rfl
 refine am ?_
 refine af (ab ?_)
 obtain ⟨v8,hv8,h⟩:=zn h
 refine yx hn 5 ?_
 refine ys 0 ⟨lg call13 (mb _ _ _ _ _ _ _ hv8) 115⟩ ?_
 refine ym 0 ?_
 refine yS (.agg [vi v8.1.KC,vs v8.1.Kn,vb v8.1.Kj.Kx,vs v8.1.Kj.Ks,vs v8.1.Kj.Kg,.fl .ro 3 (flatten (map T_Path.enc v8.1.To)),vb v8.1.KE,.fl .ro 1 (map (int .u8) v8.1.Kd),vs v8.1.Ke,vb v8.1.KD]) 2 ⟨fj _ _ _ _ _ _ rfl rfl (zl rfl) rfl rfl⟩ ?_
 refine yS (.box 30 [vi 0,vs z0,vb false,vs z0,vs z0,vz,vb false,vz,vs z0,vb false]) 3 ⟨oA (aR _ _ sS)⟩ ?_
 refine aV [1,2,4,5,115,6,9,13,14,15] ?_
 refine ab ?_
 refine aG hn 2 [1,2,4,5,115,6,9,13,14,51] ?_
 refine zc h rfl (fun h => ?_) (fun h => ?_)
 refine ab ?_
 refine ay h (fun (s11:Bool)=>[(115,.glob (GL mx)),(12,vb s11)]) ?_ ?_
 rintro s11 h
 refine af (aj ?_)
 refine ag [1] (by kernel_rfl) (es':=[(_,_)]) rfl ?_
 refine ai ?_
 obtain rfl:=zi h
 exact al hio rfl (.tmp _ _ .nil) rfl rfl
 intro u12 h hl13 hr14
 refine ak h (fun hg5_3 h => ?_) (fun hg5_3 h => ?_)
 obtain ⟨v10,hv10,h⟩:=zn h
 refine yx hn 4 ?_
 refine yd hg5_3 0 ?_
 refine ys 2 ⟨lg call14 (jw _ _ hv10) 115⟩ ?_
 refine ye [115,12] ?_
 exact hl13 _ (zi h).symm
 refine yx hn 4 ?_
 refine yd hg5_3 3 ?_
 refine ye [115,12] ?_
 exact hl13 _ (zi h).symm
 refine am (af ?_)
 refine gE hn 1 ?_
 refine yS (.box 30 [vi 0,vs z0,vb false,vs z0,vs z0,vz,vb false,vz,vs z0,vb false]) 1 ⟨oA (aR _ _ sS)⟩ ?_
 refine aV [1,2,4,5,115,6,13,14,16] ?_
 refine aG hn 1 [1,2,4,5,115,6,13,14,16,17] ?_
 refine aG hn 2 [1,2,5,115,6,13,14,16,17,18] ?_
 refine ab ?_
 refine aG hn 1 [1,2,5,115,6,13,14,16,17,18,19] ?_
 refine oJ (fs:=[(1,vi i),(2,vi at_),(5,fi cuts),(115,.glob (GL mx)),(6,.box 24 (T_Config.c c [])),(13,.box 30 [vi v8.1.KC,vs v8.1.Kn,vb v8.1.Kj.Kx,vs v8.1.Kj.Ks,vs v8.1.Kj.Kg,.fl .ro 3 (flatten (map T_Path.enc v8.1.To)),vb v8.1.KE,.fl .ro 1 (map (int .u8) v8.1.Kd),vs v8.1.Ke,vb v8.1.KD]),(14,.fr .ro false 12 (flatten (map ap.ienc v8.2.1))),(16,.box 30 (T_Gate.c g [])),(17,.fr (.own 55) false 12 (flatten (map ap.ienc []))),(18,fb b),(19,vi 0)]) (.same _ (.same _ (.same _ (.same _ (.same _ (.same _ (.same _ (.same _ (.sub _ (km 55 false 12) rfl (.same _ (.same _ .nil))))))))))) ?_
 refine aU h (fun ((s56,s57,s58,s59,s60,s61,s62,s63,s64,s65,s66,s67,s68):Int×KK×Bool×KK×KK×(List T_Path)×Bool×(List Int)×KK×Bool×(List ap)×(List Int)×Int)=>[(1,vi i),(2,vi at_),(5,fi cuts),(115,.glob (GL mx)),(6,.box 24 (T_Config.c c [])),(13,.box 30 [vi v8.1.KC,vs v8.1.Kn,vb v8.1.Kj.Kx,vs v8.1.Kj.Ks,vs v8.1.Kj.Kg,.fl .ro 3 (flatten (map T_Path.enc v8.1.To)),vb v8.1.KE,.fl .ro 1 (map (int .u8) v8.1.Kd),vs v8.1.Ke,vb v8.1.KD]),(14,.fr .ro false 12 (flatten (map ap.ienc v8.2.1))),(16,.box 30 [vi s56,vs s57,vb s58,vs s59,vs s60,.fl .shr 3 (flatten (map T_Path.enc s61)),vb s62,fb s63,vs s64,vb s65]),(17,.fr (.own 55) false 12 (flatten (map ap.ienc s66))),(18,fb s67),(19,vi s68)]) (fun ((s77,s78,s79,s80,s81,s82,s83,s84,s85,s86,s87):Int×KK×Bool×KK×KK×(List T_Path)×Bool×(List Int)×KK×Bool×(List ap))=>[(115,.glob (GL mx)),(13,.box 30 [vi v8.1.KC,vs v8.1.Kn,vb v8.1.Kj.Kx,vs v8.1.Kj.Ks,vs v8.1.Kj.Kg,.fl .ro 3 (flatten (map T_Path.enc v8.1.To)),vb v8.1.KE,.fl .ro 1 (map (int .u8) v8.1.Kd),vs v8.1.Ke,vb v8.1.KD]),(14,.fr .ro false 12 (flatten (map ap.ienc v8.2.1))),(16,.box 30 [vi s77,vs s78,vb s79,vs s80,vs s81,.fl .shr 3 (flatten (map T_Path.enc s82)),vb s83,fb s84,vs s85,vb s86]),(17,.fr (.own 55) false 12 (flatten (map ap.ienc s87)))]) ?_ ?_
 rintro ⟨s77,s78,s79,s80,s81,s82,s83,s84,s85,s86,s87⟩ h
 refine af (ab ?_)
 refine ay h (fun (s105:Bool)=>[(115,.glob (GL mx)),(12,vb s105)]) ?_ ?_
 rintro s105 h
 refine af (aj ?_)
 refine ag [1] (by kernel_rfl) (es':=[(_,_)]) rfl ?_
 obtain rfl:=zi h
 exact al hio rfl (.tmp _ _ .nil) rfl rfl
 intro u106 h hl107 hr108
 obtain ⟨v102,hv102,h⟩:=zn h
 refine ak h (fun hg19_3 h => ?_) (fun hg19_3 h => ?_)
 obtain ⟨v103,hv103,h⟩:=zn h
 refine ak h (fun hg19_8 h => ?_) (fun hg19_8 h => ?_)
 obtain ⟨v104,hv104,h⟩:=zn h
 refine yx hn 2 ?_
 refine ys 1 ⟨lk call15 (gT _ _ _ hv102)⟩ ?_
 refine yd hg19_3 1 ?_
 refine ym 0 ?_
 refine ys 2 ⟨lk call16 (ku _ _ _ hv103)⟩ ?_
 refine yd hg19_8 0 ?_
 refine ys 2 ⟨lg call14 (jw _ _ hv104) 115⟩ ?_
 refine ye [115,12] ?_
 exact hl107 _ (zi h).symm
 refine yx hn 2 ?_
 refine ys 1 ⟨lk call15 (gT _ _ _ hv102)⟩ ?_
 refine yd hg19_3 1 ?_
 refine ym 0 ?_
 refine ys 2 ⟨lk call16 (ku _ _ _ hv103)⟩ ?_
 refine yd hg19_8 3 ?_
 refine ye [115,12] ?_
 exact hl107 _ (zi h).symm
 refine yx hn 2 ?_
 refine ys 1 ⟨lk call15 (gT _ _ _ hv102)⟩ ?_
 refine yd hg19_3 8 ?_
 refine ye [115,12] ?_
 exact hl107 _ (zi h).symm
 rintro u88 hl89 hr90 ⟨s56,s57,s58,s59,s60,s61,s62,s63,s64,s65,s66,s67,s68⟩ rr93 h ho91
 refine ab ?_
 refine aG hn 4 [1,2,5,115,6,13,14,16,17,18,19,63] ?_
 refine zc h rfl (fun h => ?_) (fun h => ?_)
 refine am ?_
 refine af (ab ?_)
 refine aC ?_
 refine aG hn 3 [1,2,5,115,6,13,14,16,17,18,19,20] ?_
 refine ab ?_
 refine ay h (fun (s96:Int)=>[(1,vi i),(2,vi at_),(5,fi cuts),(115,.glob (GL mx)),(6,.box 24 (T_Config.c c [])),(13,.box 30 [vi v8.1.KC,vs v8.1.Kn,vb v8.1.Kj.Kx,vs v8.1.Kj.Ks,vs v8.1.Kj.Kg,.fl .ro 3 (flatten (map T_Path.enc v8.1.To)),vb v8.1.KE,.fl .ro 1 (map (int .u8) v8.1.Kd),vs v8.1.Ke,vb v8.1.KD]),(14,.fr .ro false 12 (flatten (map ap.ienc v8.2.1))),(16,.box 30 [vi s56,vs s57,vb s58,vs s59,vs s60,.fl .shr 3 (flatten (map T_Path.enc s61)),vb s62,fb s63,vs s64,vb s65]),(17,.fr (.own 55) false 12 (flatten (map ap.ienc s66))),(18,fb s67),(19,vi s68),(20,vi s96)]) ?_ ?_
 rintro s96 h
 refine af (ab ?_)
 obtain ⟨v29,hv29,v30,hv30,h⟩:=eo h
 refine pc (by kernel_rfl) hn (El:=(_::_::_::_::_::_::_::_::_::_::_::_::(84,.agg (T_Config.c c []))::(85,vi i)::(86,vi at_)::(87,.agg [vi s56,vs s57,vb s58,vs s59,vs s60,.fl .shr 3 (flatten (map T_Path.enc s61)),vb s62,fb s63,vs s64,vb s65])::(88,fb s67)::(89,vi s96)::(90,fb v29)::(91,.tup [.agg [vi v30.1.KC,vs v30.1.Kn,vb v30.1.Kj.Kx,vs v30.1.Kj.Ks,vs v30.1.Kj.Kg,.fl .ro 3 (flatten (map T_Path.enc v30.1.To)),vb v30.1.KE,.fl .ro 1 (map (int .u8) v30.1.Kd),vs v30.1.Ke,vb v30.1.KD],.fr .ro false 12 (flatten (map ap.ienc v30.2.1)),vi v30.2.2])::(83,.tup [.agg [vi v30.1.KC,vs v30.1.Kn,vb v30.1.Kj.Kx,vs v30.1.Kj.Ks,vs v30.1.Kj.Kg,.fl .ro 3 (flatten (map T_Path.enc v30.1.To)),vb v30.1.KE,.fl .ro 1 (map (int .u8) v30.1.Kd),vs v30.1.Ke,vb v30.1.KD],.any,.any])::(83,.tup [.any,.fr .ro false 12 (flatten (map ap.ienc v30.2.1)),vi v30.2.2])::(92,.agg [vi v30.1.KC,vs v30.1.Kn,vb v30.1.Kj.Kx,vs v30.1.Kj.Ks,vs v30.1.Kj.Kg,.fl .ro 3 (flatten (map T_Path.enc v30.1.To)),vb v30.1.KE,.fl .ro 1 (map (int .u8) v30.1.Kd),vs v30.1.Ke,vb v30.1.KD])::(83,.tup [.any,.any,.any])::(93,.fr .ro false 12 (flatten (map ap.ienc v30.2.1)))::(94,vi v30.2.2)::(21,.box 30 [vi 0,vs z0,vb false,vs z0,vs z0,vz,vb false,vz,vs z0,vb false])::(21,.box 30 [vi v30.1.KC,vs v30.1.Kn,vb v30.1.Kj.Kx,vs v30.1.Kj.Ks,vs v30.1.Kj.Kg,.fl .ro 3 (flatten (map T_Path.enc v30.1.To)),vb v30.1.KE,.fl .ro 1 (map (int .u8) v30.1.Kd),vs v30.1.Ke,vb v30.1.KD])::(22,.fr .ro false 12 (flatten (map ap.ienc v30.2.1)))::(23,vi v30.2.2)::[])) (init:=[0,1,2,3,4,5,6,7,8,9,10,11]) (fin:=[0,1,2,3,4,5,6,7,8,9,10,11,27,28,29]) (sps:=(zq [4] 12 84::zq [0] 13 85::zq [1] 14 86::zq [7] 15 87::zq [9] 16 88::zq [11] 17 89::zq [16,17] 18 90::zq [12,13,14,15,18,3] 19 91::⟨[],[19],[20,21],[(.slot 83)]⟩::⟨[],[20],[23,22],[(.slot 92)]⟩::zq [21] 24 93::zq [21] 25 94::zq [] 26 21::⟨[22],[26],[27],[.cell 21 0,.cell 21 1,.cell 21 2,.cell 21 3,.cell 21 4,.cell 21 5,.cell 21 6,.cell 21 7,.cell 21 8,.cell 21 9]⟩::zq [24] 28 22::zq [25] 29 23::[])) (es':=((_,_)::(_,_)::(_,_)::(_,_)::(_,_)::(_,_)::(_,_)::(_,_)::(_,_)::(_,_)::(_,_)::(_,_)::(21,.box 30 [vi v30.1.KC,vs v30.1.Kn,vb v30.1.Kj.Kx,vs v30.1.Kj.Ks,vs v30.1.Kj.Kg,.fl .ro 3 (flatten (map T_Path.enc v30.1.To)),vb v30.1.KE,.fl .ro 1 (map (int .u8) v30.1.Kd),vs v30.1.Ke,vb v30.1.KD])::(22,.fr .ro false 12 (flatten (map ap.ienc v30.2.1)))::(23,vi v30.2.2)::[])) (by kernel_rfl) rfl rfl ⟨zp rfl (rD _ _ _ _ _ _ _ underlying24 rfl Fz rfl rfl (zl rfl) rfl rfl),z1 rfl,z1 rfl,zp rfl (rD _ _ _ _ _ _ _ underlying30 rfl pj rfl rfl (zl rfl) rfl rfl),z1 rfl,z1 rfl,zp rfl (lA _ _ _ 0 s96 _ underlying28 lQ rfl rfl rfl ⟨_,rfl⟩ hv29),zp rfl (sx _ _ 115 13 _ _ rfl call13 rfl rfl (fun _ h=>h) (mb mx ((T_Config.r c)) i at_ ((T_Gate.mk s56 s57 (T_Path.mk s58 s59 s60) s61 s62 s63 s64 s65)) v29 _ hv30) rfl rfl),zp rfl (aJ.split (A:=[]) 83 0 _ _ _ (iW _ _ _ _ rfl) (zl rfl) rfl rfl),zp rfl (gP _ _ _ _ _ rfl (zl rfl) rfl rfl (by decide) rfl),zp rfl (oE rfl),zp rfl (oE rfl),zp rfl (aR _ _ sS),zp rfl (oS pj rfl),z2 rfl,z2 rfl,zz⟩ ?_
 refine af (ab ?_)
 refine aG hn 2 [1,2,5,115,6,13,14,16,17,18,19,20,21,22,96] ?_
 refine zc h rfl (fun h => ?_) (fun h => ?_)
 refine aG hn 1 [115,12] ?_
 refine aj ?_
 refine ag [1] (by kernel_rfl) (es':=[(_,_)]) rfl ?_
 refine ai (aE (ai (ai (aE (ai ?_)))))
 have h:=hr90 _ (ho91 _ (zi h).symm).symm
 obtain rfl:=zi h
 exact al hio rfl (.tmp _ _ .nil) rfl rfl
 refine am (af ?_)
 obtain ⟨v32,hv32,v33,hv33,h⟩:=eo h
 refine wb [[21]] ?_
 refine wK [17] [] ?_
 refine wt [(98,.fr (.own 55) false 12 (flatten (map ap.ienc s66)))] [[22]] ⟨iW _ _ _ _ rfl⟩ ?_
 refine wK [98] [99] ?_
 refine wt [(98,.any),(100,.fr (.own 55) false 12 (flatten (map ap.ienc v32)))] [[18],[20]] ⟨zK _ _ _ _ _ DA rfl rfl (dK ap.ilen _) (dK ap.ilen _) hv32 (lC (jb hv32)) (by decide) (by decide)⟩ ?_
 refine wN [101,102] ?_
 refine wS (fb v33) [] ⟨lA _ _ _ s96 (s67.length:Int) _ underlying28 lQ rfl rfl ⟨_,rfl⟩ rfl hv33⟩ ?_
 refine wK [16] [97] ?_
 refine wt [(16,.box 30 [vi v30.1.KC,vs v30.1.Kn,vb v30.1.Kj.Kx,vs v30.1.Kj.Ks,vs v30.1.Kj.Kg,.fl .ro 3 (flatten (map T_Path.enc v30.1.To)),vb v30.1.KE,.fl .ro 1 (map (int .u8) v30.1.Kd),vs v30.1.Ke,vb v30.1.KD])] [] ⟨dD _ _ _ _ _ _ _ _ pj rfl rfl rfl rfl (zl rfl) rfl rfl⟩ ?_
 refine wK [100] [] ?_
 refine wt [(17,.fr (.own 55) false 12 (flatten (map ap.ienc v32)))] [] ⟨iU _ _ _ _ rfl⟩ ?_
 refine wK [18] [103] ?_
 refine wt [(18,fb v33)] [] ⟨aJ.drop [_] (iq _ _ _ _ rfl rfl)⟩ ?_
 refine we hn [1,2,5,115,6,13,14,16,19,17,18] ?_
 refine aI (af ?_)
 obtain ⟨v34,hv34,h⟩:=zn h
 refine yx hn 1 ?_
 refine ys 0 ⟨lb hv34⟩ ?_
 refine yw [19] 1 ?_
 refine ye [1,2,5,115,6,13,14,16,17,18,19] ?_
 refine cm (fs:=[(1,vi i),(2,vi at_),(5,fi cuts),(115,.glob (GL mx)),(6,.box 24 (T_Config.c c [])),(13,.box 30 [vi v8.1.KC,vs v8.1.Kn,vb v8.1.Kj.Kx,vs v8.1.Kj.Ks,vs v8.1.Kj.Kg,.fl .ro 3 (flatten (map T_Path.enc v8.1.To)),vb v8.1.KE,.fl .ro 1 (map (int .u8) v8.1.Kd),vs v8.1.Ke,vb v8.1.KD]),(14,.fr .ro false 12 (flatten (map ap.ienc v8.2.1))),(16,.box 30 (T_Gate.c v30.1 [])),(17,.fr (.own 55) false 12 (flatten (map ap.ienc v32))),(18,fb v33),(19,vi v34)]) (.same _ (.same _ (.same _ (.same _ (.same _ (.same _ (.same _ (.box _ _ (ae (ah _) (ae (ah _) (ae (ah _) (ae (ah _) (ae (ah _) (ae (rq _ _) (ae (ah _) (ae (rq _ _) (ae (ah _) (ae (ah _) (bj))))))))))) rfl (.same _ (.same _ (.same _ .nil))))))))))) ?_
 exact bc _ (zi h).symm rfl
 intro u97 h hl98 hr99
 refine aG hn 4 [1,2,5,115,6,13,14,16,17,18,19,20,71] ?_
 refine zc h rfl (fun h => ?_) (fun h => ?_)
 obtain ⟨v17,hv17,v18,hv18,v19,hv19,v20,hv20,h⟩:=ld h
 obtain ⟨v21,hv21,v22,hv22,v23,hv23,h⟩:=rZ h
 refine yx hn 2 ?_
 refine ys 0 ⟨li hv17⟩ ?_
 refine ys 0 ⟨ll hv18⟩ ?_
 refine ys 2 ⟨lv hv19⟩ ?_
 refine ys 0 ⟨lb hv20⟩ ?_
 refine ys 0 ⟨lv hv21⟩ ?_
 refine ys 0 ⟨lB (mf hv22)⟩ ?_
 refine ys 0 ⟨lv hv23⟩ ?_
 refine yw [20] 1 ?_
 refine ye [1,2,5,115,6,13,14,16,17,18,19,20] ?_
 exact hl98 _ (zi h).symm
 refine am ?_
 refine ag [0,1,2,3,4,5,6,7,8,9,10,11] (by kernel_rfl) (es':=[(_,_),(_,_),(_,_),(_,_),(_,_),(_,_),(_,_),(_,_),(_,_),(_,_),(_,_),(_,_)]) rfl ?_
 exact hl98 _ (zi h).symm
 refine bh (ar (ar (bb ?_)))
 refine ag [3,5,6,7,8] (by kernel_rfl) (es':=[(_,_),(_,_),(_,_),(_,_),(_,_)]) rfl ?_
 exact hl89 _ (ho91 _ (zi h).symm).symm
 intro u4 h hl5 hr6
 obtain ⟨v1,hv1,h⟩:=zn h
 refine ak h (fun hg1_2 h => ?_) (fun hg1_2 h => ?_)
 refine yx hn 1 ?_
 refine ys 1 ⟨lk call11 (cB _ _ hv1)⟩ ?_
 refine yd hg1_2 13 ?_
 refine ye [1,2,4,5,115,6,9,39] ?_
 exact hl5 _ (zi h).symm
 obtain ⟨v2,hv2,h⟩:=zn h
 refine ak h (fun hg1_6 h => ?_) (fun hg1_6 h => ?_)
 refine yx hn 1 ?_
 refine ys 1 ⟨lk call11 (cB _ _ hv1)⟩ ?_
 refine yd hg1_2 1 ?_
 refine ys 2 ⟨lk call12 (gg _ _ hv2)⟩ ?_
 refine yd hg1_6 9 ?_
 refine ye [1,2,4,5,115,6,9,39] ?_
 exact hl5 _ (zi h).symm
 refine ak h (fun hg1_11 h => ?_) (fun hg1_11 h => ?_)
 refine yx hn 1 ?_
 refine ys 1 ⟨lk call11 (cB _ _ hv1)⟩ ?_
 refine yd hg1_2 1 ?_
 refine ys 2 ⟨lk call12 (gg _ _ hv2)⟩ ?_
 refine yd hg1_6 5 ?_
 refine yd hg1_11 4 ?_
 refine ye [1,2,4,5,115,6,9,39] ?_
 exact hl5 _ (zi h).symm
 refine yx hn 1 ?_
 refine ys 1 ⟨lk call11 (cB _ _ hv1)⟩ ?_
 refine yd hg1_2 1 ?_
 refine ys 2 ⟨lk call12 (gg _ _ hv2)⟩ ?_
 refine yd hg1_6 5 ?_
 refine yd hg1_11 4 ?_
 refine ye [1,2,4,5,115,6,9,39] ?_
 exact hl5 _ (zi h).symm

end Go.Proofs.YtjnnkhmhjcjhdaaGreatDoor
