import Derived.Test.YtjnnkhmhjcjhdaaGreatDoorOkc3
set_option linter.unusedVariables false
set_option linter.unusedSimpArgs false
set_option maxHeartbeats 1000000
namespace Go.Proofs.YtjnnkhmhjcjhdaaGreatDoor
open Go.Abs Go.Abs.Sh Tryz
open List (map flatten)
open Value (int)
theorem qe (mx:Int×Nat×Value) (b:(List Int)) (r:Int) (h:Sh.gB b=some r):ir Tryz.prog (GL mx) 87 [.fl .shr 1 (map (int .u8) b)] (.v (.int .i64 r)):=by
 unfold Sh.gB at h
 refine yG 23 func87 fun g0 hn hio => ?_
 refine aG hn 1 [0,23] ?_
 refine aG hn 1 [0,23,3] ?_
 refine ab ?_
 refine ay h (fun (s27:Int)=>[(23,.glob (GL mx)),(3,vi s27)]) ?_ ?_
 rintro s27 h
 refine af ?_
 refine aG hn 2 [23,2] ?_
 refine aj ?_
 refine ag [1] (by kernel_rfl) (es':=[(_,_)]) rfl ?_
 obtain rfl:=zi h
 exact al hio rfl (.tmp _ _ .nil) rfl rfl
 intro u28 h hl29 hr30
 refine ab ?_
 obtain ⟨v1,hv1,h⟩:=zn h
 refine yx hn 1 ?_
 refine ys 2 ⟨lg call102 (sR _ _ _ hv1) 23⟩ ?_
 refine aV [23,3,7,8,9] ?_
 refine aU h (fun ((s37,s38):Int×Int)=>[(23,.glob (GL mx)),(3,vi s37),(7,.fr .ro false 1 (flatten (map Row_int_u8.ienc v1))),(8,vi (v1.length:Int)),(9,vi s38)]) (fun (s41:Int)=>[(23,.glob (GL mx)),(3,vi s41)]) ?_ ?_
 rintro s41 h
 exact hl29 _ (zi h).symm
 rintro u42 hl43 hr44 ⟨s37,s38⟩ rr47 h ho45
 refine aG hn 1 [23,3,7,8,9,10] ?_
 refine ab ?_
 refine zc h rfl (fun h => ?_) (fun h => ?_)
 refine am ?_
 refine af (ab ?_)
 refine aC (ab ?_)
 obtain ⟨v3,hv3,v4,hv4,h⟩:=eo h
 refine yx hn 0 ?_
 refine ys 0 ⟨lI hv3⟩ ?_
 refine yS (.fl .ro 1 (map (int .u8) v4)) 1 ⟨bP _ _ _ _ _ _ _ underlying28 rfl rfl rfl (wj Row_int_u8.ilen hv4 rfl) (.fl _ _ rfl)⟩ ?_
 refine aV [23,3,7,8,9,5] ?_
 refine ab ?_
 obtain ⟨v5,hv5,v6,hv6,h⟩:=eo h
 refine yx hn 3 ?_
 refine ys 0 ⟨lb hv5⟩ ?_
 refine ys 0 ⟨lb hv6⟩ ?_
 refine yw [3] 1 ?_
 refine aV [23,7,8,9,5,3] ?_
 refine ab ?_
 obtain ⟨v7,hv7,h⟩:=zn h
 refine yx hn 1 ?_
 refine ys 1 ⟨lS hv7⟩ ?_
 refine aV [23,7,8,9,3,20] ?_
 refine zc h rfl (fun h => ?_) (fun h => ?_)
 refine bh ?_
 refine wq (by decide) ?_
 refine ar (ar (bb ?_))
 refine ag [0,4] (by kernel_rfl) (es':=[(_,_),(_,_)]) rfl ?_
 exact hl43 _ (ho45 _ (zi h).symm).symm
 refine am (aI (af ?_))
 obtain ⟨v9,hv9,h⟩:=zn h
 refine yx hn 0 ?_
 refine ys 0 ⟨lb hv9⟩ ?_
 refine yw [9] 1 ?_
 refine ye [23,7,8,3,9] ?_
 refine ag [0,3,1,2,4] (by kernel_rfl) (es':=[(_,_),(_,_),(_,_),(_,_),(_,_)]) rfl ?_
 exact bc _ (zi h).symm rfl
 refine bh (ar (ar (bb ?_)))
 refine ag [0,1] (by kernel_rfl) (es':=[(_,_),(_,_)]) rfl ?_
 exact hl43 _ (ho45 _ (zi h).symm).symm
theorem ft (s:aa) (r:aa) (h:Sh.dE s=some r):oM Tryz.prog 88 [.box 80 (aa.b s)] [.box 80 (aa.b r)] (.tup []):=by
 unfold Sh.dE at h
 refine yP 15 func88 fun args0 hargs0 g0 hn hio => ?_
 refine yx hn 3 ?_
 refine yS (.agg [vb false,vs z0,vs z0]) 12 ⟨bn _ _ _ _ [1,1,1] _ _ underlying26 sB (Be _ underlying26) mz.nil rfl rfl rfl⟩ ?_
 refine ye [0,0] ?_
 refine cm (fs:=[(0,.box 80 (vi s.Kk.KC::vs s.Kk.Kn::vb false::vs z0::vs z0::.fl (.own 26) 3 (flatten (map T_Path.enc []))::vb false::.mkr 5 (map (int .u8) s.Kk.Kd)::vs s.Kk.Ke::vb s.Kk.KD::T_Config.c s.config [vi s.site,vi s.at_,.fr (.own 55) false 12 (flatten (map ap.ienc s.out))])),(0,.v (List.getD args0 0 undef))]) (.box _ _ (ae (ah _) (ae (ah _) (ae (ah _) (ae (ah _) (ae (ah _) (ae (bI 26 3) (ae (ah _) (ae (ah _) (ae (ah _) (ae (ah _) (ae (ah _) (ae (ah _) (ae (ah _) (ae (ah _) (ae (ah _) (ae (ah _) (ae (ah _) (ae (ah _) (ae (ah _) (ae (ah _) (bj))))))))))))))))))))) rfl (.same _ .nil)) ?_
 obtain rfl:=zi h
 exact kJ (es:=[]) (posts:=[.box 80 [.v (.int .i64 s.Kk.KC),.v (.string s.Kk.Kn),.v (.bool false),.v (.string (⟨#[]⟩:KK)),.v (.string (⟨#[]⟩:KK)),.fl (.own 26) 3 (flatten (map T_Path.enc [])),.v (.bool false),.mkr 5 (map (int .u8) s.Kk.Kd),.v (.string s.Kk.Ke),.v (.bool s.Kk.KD),.v (.string ((s.config.Kh.getD 0 (⟨#[]⟩:KK)))),.v (.string ((s.config.Kh.getD 1 (⟨#[]⟩:KK)))),.v (.int .i64 s.config.Ki),.v (.string s.config.KI),.v (.string s.config.KG),.v (.int .i64 s.config.Kt),.v (.bool s.config.Km),.v (.int .i64 s.site),.v (.int .i64 s.at_),.fr (.own 55) false 12 (flatten (map ap.ienc s.out))]]) hio rfl rfl .nil rfl rfl hargs0 rfl
theorem np (mx:Int×Nat×Value) (s:aa) (r:(Bool×aa)) (h:Sh.bS s=some r):mL Tryz.prog (GL mx) 73 [.box 80 (aa.b s)] [.box 80 (aa.b r.2)] (.v (.bool r.1)):=by
 unfold Sh.bS at h
 refine CT 60 func73 fun args0 hargs0 g0 hn hio => ?_
 refine aG hn 1 [0,60,0] ?_
 refine ab ?_
 obtain ⟨v1,hv1,h⟩:=zn h
 refine yx hn 5 ?_
 refine ys 0 ⟨lg call84 (sY _ _ _ hv1) 60⟩ ?_
 refine ym 0 ?_
 refine Ij 2 ?_
 refine ya 2 ?_
 refine aV [0,60,3,4,5,0] ?_
 refine ab ?_
 refine aG hn 2 [0,60,3,4,5,18,0] ?_
 refine zc h rfl (fun h => ?_) (fun h => ?_)
 refine aG hn 1 [0,60,2,0] ?_
 refine aj ?_
 refine ag [2,0,3] (by kernel_rfl) (es':=[(_,_),(_,_),(_,_)]) rfl ?_
 refine ai ?_
 obtain rfl:=zi h
 exact bp (es:=[(2,.v (.bool false))]) (posts:=[.box 80 (aa.b s)]) hio rfl rfl (.tmp _ _ .nil) rfl rfl hargs0 rfl
 refine am ?_
 refine af (ab ?_)
 obtain ⟨v3,hv3,h⟩:=zn h
 refine yx hn 1 ?_
 refine yQ call85 (eQ _ _ _ hv3) 0 [19] 0 ?_
 refine yk [20] [] ?_
 refine yt (21,.agg [vi v3.1.Kf,.fl (.own 9) 1 (map Value.string v3.1.Kr),vb false,vb false,vs z0,vs z0,vz,vz,vb false,vs z0,vi 0,vb false]) 0 ⟨bn _ _ _ _ [2,1,8,1] _ _ underlying55 ta (BH _ underlying55) (.take _ _ mz.nil) rfl rfl rfl⟩ ?_
 refine yS (.box 55 [vi 0,vz,vb false,vb false,vs z0,vs z0,vz,vz,vb false,vs z0,vi 0,vb false]) 0 ⟨oA (aR _ _ ta)⟩ ?_
 refine yk [21,6] [] ?_
 refine yt (6,.box 55 [vi v3.1.Kf,.fl (.own 9) 1 (map Value.string v3.1.Kr),vb false,vb false,vs z0,vs z0,vz,vz,vb false,vs z0,vi 0,vb false]) 0 ⟨aM _ _ _ _ _ _ _ _ wl rfl rfl rfl (zl rfl) rfl rfl⟩ ?_
 refine aV [0,60,3,4,5,6,0] ?_
 refine ab ?_
 refine ay h (fun ((s7,s8,s9,s10,s11,s12,s13,s14,s15,s16,s17,s18,s19,s20,s21,s22,s23,s24,s25,s26,s27,s28,s29,s30,s31,s32,s33,s34,s35,s36,s37,s38,s39):Int×KK×Bool×KK×KK×(List T_Path)×Bool×(List Int)×KK×Bool×KK×KK×Int×KK×KK×Int×Bool×Int×Int×(List ap)×Int×Int×(List KK)×Bool×Bool×KK×KK×(List T_Path)×(List Int)×Bool×KK×Int×Bool)=>[(0,.box 80 [vi s7,vs s8,vb s9,vs s10,vs s11,.fl (.own 26) 3 (flatten (map T_Path.enc s12)),vb s13,.mkr 5 (map (int .u8) s14),vs s15,vb s16,vs s17,vs s18,vi s19,vs s20,vs s21,vi s22,vb s23,vi s24,vi s25,.fr (.own 55) false 12 (flatten (map ap.ienc s26))]),(60,.glob (GL mx)),(4,vi s27),(6,.box 55 [vi s28,.fl .ro 1 (map Value.string s29),vb s30,vb s31,vs s32,vs s33,.fl .ro 3 (flatten (map T_Path.enc s34)),.fl .ro 1 (map (int .u8) s35),vb s36,vs s37,vi s38,vb s39]),(0,.v (List.getD args0 0 undef))]) ?_ ?_
 rintro ⟨s7,s8,s9,s10,s11,s12,s13,s14,s15,s16,s17,s18,s19,s20,s21,s22,s23,s24,s25,s26,s27,s28,s29,s30,s31,s32,s33,s34,s35,s36,s37,s38,s39⟩ h
 refine af (ab ?_)
 obtain ⟨v44,hv44,h⟩:=zn h
 refine wb [[],[],[34,0],[35,0],[36,0],[6]] ?_
 refine wN [38] ?_
 refine wS (.fr (.own 55) false 12 (flatten (map ap.ienc [(ap.mk (bH.mk s28 s29) s30 ((aH.mk (T_Path.mk s31 s32 s33) s34 s35 s36 s37 s38)) s39)]))) [] ⟨ma _ _ _ 12 (.agg #[.int .i64 0,.slice none 0 0,.bool false,.bool false,.string ByteArray.empty,.string ByteArray.empty,.slice none 0 0,.slice none 0 0,.bool false,.string ByteArray.empty,.int .i64 0,.bool false]) false _ _ underlying34 wl ta rfl rfl (.cons (.v _) (.cons (.ro _ _ rfl) (.cons (.v _) (.cons (.v _) (.cons (.v _) (.cons (.v _) (.cons (.ro _ _ rfl) (.cons (.ro _ _ rfl) (.cons (.v _) (.cons (.v _) (.cons (.v _) (.cons (.v _) (.nil))))))))))))) rfl (by decide) (by decide)⟩ ?_
 refine wK [0] [37,39] ?_
 refine wt [(0,.box 80 [vi s7,vs s8,vb s9,vs s10,vs s11,.fl (.own 26) 3 (flatten (map T_Path.enc s12)),vb s13,.mkr 5 (map (int .u8) s14),vs s15,vb s16,vs s17,vs s18,vi s19,vs s20,vs s21,vi s22,vb s23,vi s24,vi s25,.any]),(40,.fr (.own 55) false 12 (flatten (map ap.ienc v44)))] [[33,0],[41,0]] ⟨iG _ 40 0 19 _ _ DA rfl rfl (zl rfl) rfl (dK ap.ilen _) (dK ap.ilen _) hv44 (lC (jb hv44)) (by decide) (by decide) (by decide) rfl rfl⟩ ?_
 refine wK [37,40,0] [42] ?_
 refine wt [(0,.box 80 [vi s7,vs s8,vb s9,vs s10,vs s11,.fl (.own 26) 3 (flatten (map T_Path.enc s12)),vb s13,.mkr 5 (map (int .u8) s14),vs s15,vb s16,vs s17,vs s18,vi s19,vs s20,vs s21,vi s22,vb s23,vi s24,vi s25,.fr (.own 55) false 12 (flatten (map ap.ienc v44))])] [] ⟨aJ.drop [_] (aM _ _ _ _ _ _ _ _ Fl rfl rfl rfl (zl rfl) rfl rfl)⟩ ?_
 refine sF hn [0,60,4,0] ?_
 refine ab ?_
 obtain ⟨v45,hv45,h⟩:=zn h
 refine yx hn 7 ?_
 refine yk [0] [48,49] ?_
 refine nE (0,.box 80 [vi s7,vs s8,vb s9,vs s10,vs s11,.fl (.own 26) 3 (flatten (map T_Path.enc s12)),vb s13,.any,vs s15,vb s16,vs s17,vs s18,vi s19,vs s20,vs s21,vi s22,vb s23,vi s24,vi s25,.fr (.own 55) false 12 (flatten (map ap.ienc v44))]) (50,.mkr 5 (map (int .u8) v45)) 3 ⟨sM _ 50 0 7 _ _ underlying28 lQ rfl rfl (zl rfl) rfl rfl hv45 rfl (Nat.ne_of_beq_eq_false rfl) rfl rfl⟩ ?_
 refine yw [48] 0 ?_
 refine yk [50,0] [53] ?_
 refine yt (0,.box 80 [vi s7,vs s8,vb s9,vs s10,vs s11,.fl (.own 26) 3 (flatten (map T_Path.enc s12)),vb s13,.mkr 5 (map (int .u8) v45),vs s15,vb s16,vs s17,vs s18,vi s19,vs s20,vs s21,vi s22,vb s23,vi s24,vi s25,.fr (.own 55) false 12 (flatten (map ap.ienc v44))]) 0 ⟨aM _ _ _ _ _ _ _ _ kQ rfl rfl rfl (zl rfl) rfl rfl⟩ ?_
 refine aV [0,60,0] ?_
 refine aG hn 5 [0,60,0] ?_
 refine ab ?_
 obtain ⟨v46,hv46,h⟩:=zn h
 refine yx hn 1 ?_
 refine yQ call88 (ft _ _ hv46) 0 [58] 0 ?_
 refine aV [0,60,0] ?_
 refine aG hn 1 [0,60,2,0] ?_
 refine aj ?_
 refine ag [2,0,3] (by kernel_rfl) (es':=[(_,_),(_,_),(_,_)]) rfl ?_
 obtain rfl:=zi h
 exact bp (es:=[(2,.v (.bool true))]) (posts:=[.box 80 (aa.b v46)]) hio rfl rfl (.tmp _ _ .nil) rfl rfl hargs0 rfl
 intro u40 h hl41 hr42
 refine aG hn 2 [0,60,3,4,6,23,0] ?_
 refine zc h rfl (fun h => ?_) (fun h => ?_)
 refine yE 2 hio (es':=[(0,.box 80 (aa.b v3.2)),(60,.glob (GL mx)),(3,.fl .ro 1 (map (int .u8) v1.1)),(4,.v (.int .i64 v1.2.1)),(6,.box 55 [.v (.int .i64 v3.1.Kf),.fl (.own 9) 1 (map Value.string v3.1.Kr),.v (.bool false),.v (.bool false),.v (.string (⟨#[]⟩:KK)),.v (.string (⟨#[]⟩:KK)),vz,vz,.v (.bool false),.v (.string (⟨#[]⟩:KK)),.v (.int .i64 0),.v (.bool false)]),(23,.v (.bool (v1.2.2==0))),(0,.v (List.getD args0 0 undef))]) rfl ?_
 obtain ⟨v5,hv5,h⟩:=zn h
 refine yx hn 2 ?_
 refine yk [0] [24,25,60] ?_
 refine nE (0,.box 80 (aa.b v5.2)) (26,.agg [vi v5.1.KF.Kf,.fl .ro 1 (map Value.string v5.1.KF.Kr),vb v5.1.Kl,vb v5.1.Ku.Kj.Kx,vs v5.1.Ku.Kj.Ks,vs v5.1.Ku.Kj.Kg,.fl .ro 3 (flatten (map T_Path.enc v5.1.Ku.To)),.fl .ro 1 (map (int .u8) v5.1.Ku.Kc),vb v5.1.Ku.KE,vs v5.1.Ku.Kn,vi v5.1.Ku.At,vb v5.1.Kb]) 1 ⟨eS _ _ _ _ 26 60 86 [.tmp 24] [.tmp 25] _ _ _ rfl call86 rfl rfl rfl rfl (fun _ h=>h) (lV mx ((aa.r v3.2)) v1.1 _ hv5) (zl rfl) rfl rfl rfl rfl rfl rfl rfl⟩ ?_
 refine ye [0,60,4,6,0] ?_
 exact hl41 _ (zi h).symm
 obtain ⟨v6,hv6,h⟩:=zn h
 refine yx hn 5 ?_
 refine ys 0 ⟨lg call87 (qe _ _ _ hv6) 60⟩ ?_
 refine yw [4] 1 ?_
 refine ye [0,60,6,4,0] ?_
 refine ag [0,1,3,2,4] (by kernel_rfl) (es':=[(_,_),(_,_),(_,_),(_,_),(_,_)]) rfl ?_
 refine qU 3 hio (es':=[(0,.box 80 (aa.b v3.2)),(60,.glob (GL mx)),(4,.v (.int .i64 v6)),(6,.box 55 [.v (.int .i64 v3.1.Kf),.fl .ro 1 (map Value.string v3.1.Kr),.v (.bool false),.v (.bool false),.v (.string (⟨#[]⟩:KK)),.v (.string (⟨#[]⟩:KK)),vz,vz,.v (.bool false),.v (.string (⟨#[]⟩:KK)),.v (.int .i64 0),.v (.bool false)]),(0,.v (List.getD args0 0 undef))]) rfl ?_
 refine cm (fs:=[(0,.box 80 (aa.b v3.2)),(60,.glob (GL mx)),(4,vi v6),(6,.box 55 [vi v3.1.Kf,.fl .ro 1 (map Value.string v3.1.Kr),vb false,vb false,vs z0,vs z0,.fl .ro 3 (flatten (map T_Path.enc [])),.fl .ro 1 (map (int .u8) []),vb false,vs z0,vi 0,vb false]),(0,.v (List.getD args0 0 undef))]) (.same _ (.same _ (.same _ (.box _ _ (ae (ah _) (ae (ah _) (ae (ah _) (ae (ah _) (ae (ah _) (ae (ah _) (ae (rO 3) (ae (rO 1) (ae (ah _) (ae (ah _) (ae (ah _) (ae (ah _) (bj))))))))))))) rfl (.same _ .nil))))) ?_
 exact hl41 _ (zi h).symm
theorem rj (i:Int) (q:Int) (p_r:Int) (t:Int) (r:(Int×Int)) (h:Sh.jx i q p_r t=some r):bM Tryz.prog 219 [.v (.int .i64 i),.v (.int .u32 q),.v (.int .u32 p_r),.v (.int .u32 t)] (.tup [.v (.int .u32 r.1),.v (.int .i64 r.2)]):=by
 unfold Sh.jx at h
 refine yO 56 func219 fun g0 hn hio => ?_
 refine aG hn 2 [0,1,2,3] ?_
 refine ab (ab ?_)
 obtain ⟨v1,hv1,h⟩:=zn h
 refine yx hn 1 ?_
 refine ys 0 ⟨lB (sq hv1)⟩ ?_
 refine aV [0,1,2,3,11] ?_
 refine aC ?_
 refine aG hn 2 [0,1,2,3,11,12] ?_
 refine zc h rfl (fun h => ?_) (fun h => ?_)
 refine ab ?_
 obtain ⟨v3,hv3,v4,hv4,v5,hv5,v6,hv6,h⟩:=ld h
 refine yx hn 2 ?_
 refine ys 1 ⟨lb hv3⟩ ?_
 refine yS (.v (.int .u32 v4)) 1 ⟨BV _ _ _ _ rfl (Fc (f:=int .u32) (Option.some.inj hv4))⟩ ?_
 refine ys 0 ⟨lb hv5⟩ ?_
 refine ys 3 ⟨lb hv6⟩ ?_
 refine aV [8,9] ?_
 refine aj (aE (ai ?_))
 obtain rfl:=zi h
 exact al hio rfl (.tmp _ _ (.tmp _ _ .nil)) rfl rfl
 refine aG hn 2 [0,1,2,3,11,23] ?_
 refine zc h rfl (fun h => ?_) (fun h => ?_)
 refine ab ?_
 obtain ⟨v8,hv8,v9,hv9,v10,hv10,v11,hv11,h⟩:=ld h
 obtain ⟨v12,hv12,v13,hv13,h⟩:=eo h
 refine yx hn 2 ?_
 refine ys 2 ⟨lb hv8⟩ ?_
 refine ys 0 ⟨lb hv9⟩ ?_
 refine ys 1 ⟨lb hv10⟩ ?_
 refine ys 0 ⟨lb hv11⟩ ?_
 refine ys 0 ⟨lb hv12⟩ ?_
 refine ys 2 ⟨lB (mf hv13)⟩ ?_
 refine aV [8,9] ?_
 refine aj (aE (ai ?_))
 obtain rfl:=zi h
 exact al hio rfl (.tmp _ _ (.tmp _ _ .nil)) rfl rfl
 refine aG hn 2 [0,1,2,3,36] ?_
 refine zc h rfl (fun h => ?_) (fun h => ?_)
 refine ab ?_
 obtain ⟨v15,hv15,v16,hv16,v17,hv17,v18,hv18,h⟩:=ld h
 obtain ⟨v19,hv19,h⟩:=zn h
 refine yx hn 2 ?_
 refine ys 1 ⟨lb hv15⟩ ?_
 refine ys 1 ⟨lb hv16⟩ ?_
 refine ys 0 ⟨lb hv17⟩ ?_
 refine ys 0 ⟨lb hv18⟩ ?_
 refine ys 2 ⟨lB (mf hv19)⟩ ?_
 refine aV [8,9] ?_
 refine aj (aE (ai ?_))
 obtain rfl:=zi h
 exact al hio rfl (.tmp _ _ (.tmp _ _ .nil)) rfl rfl
 refine am (aI ?_)
 refine af (ab ?_)
 obtain ⟨v20,hv20,v21,hv21,v22,hv22,v23,hv23,h⟩:=ld h
 obtain ⟨v24,hv24,h⟩:=zn h
 refine yx hn 3 ?_
 refine yS (.v (.int .u32 v20)) 0 ⟨BV _ _ _ _ rfl (Fc (f:=int .u32) (Option.some.inj hv20))⟩ ?_
 refine ys 0 ⟨lb hv21⟩ ?_
 refine ys 1 ⟨lb hv22⟩ ?_
 refine ys 0 ⟨lb hv23⟩ ?_
 refine ys 2 ⟨lB (mf hv24)⟩ ?_
 refine aV [8,9] ?_
 refine aj ?_
 obtain rfl:=zi h
 exact al hio rfl (.tmp _ _ (.tmp _ _ .nil)) rfl rfl
theorem iX (mx:Int×Nat×Value) (s:(List Int)) (b:(List Int)) (r:(List Int)) (h:Sh.cT s b=some r):ir Tryz.prog (GL mx) 203 [.v (.agg (map (int .u32) s).toArray),.fl .shr 1 (map (int .u8) b)] (.v (.agg (map (int .u32) r).toArray)):=by
 unfold Sh.cT at h
 refine yG 105 func203 fun g0 hn hio => ?_
 refine gE hn 0 ?_
 refine yS (.arr 225 (map (int .u32) s)) 0 ⟨xJ _ _ _ rfl⟩ ?_
 refine yS (.arr 225 (map (int .u32) ((List.replicate 4 (0:Int))))) 0 ⟨oA (bY _ EO)⟩ ?_
 refine aV [1,105,2,4] ?_
 refine gE hn 0 ?_
 refine yS (.arr 222 (map (int .u32) ((List.replicate 16 (0:Int))))) 0 ⟨oA (bY _ yK)⟩ ?_
 refine aV [1,105,2,4,5] ?_
 refine ab ?_
 refine aG hn 3 [105,2,4,5,17,18,19] ?_
 refine aU h (fun ((s18,s19):(List Int)×Int)=>[(105,.glob (GL mx)),(2,.arr 225 (map (int .u32) s)),(4,.arr 225 (map (int .u32) ((List.replicate 4 (0:Int))))),(5,.arr 222 (map (int .u32) s18)),(17,fb b),(18,vi (b.length:Int)),(19,vi s19)]) (fun (s21:(List Int))=>[(105,.glob (GL mx)),(2,.arr 225 (map (int .u32) s)),(4,.arr 225 (map (int .u32) ((List.replicate 4 (0:Int))))),(5,.arr 222 (map (int .u32) s21))]) ?_ ?_
 rintro s21 h
 refine af (ab ?_)
 obtain ⟨v29,hv29,v30,hv30,v31,hv31,v32,hv32,h⟩:=ld h
 obtain ⟨v33,hv33,v34,hv34,v35,hv35,v36,hv36,h⟩:=ld h
 refine wb [] ?_
 refine wN [2] ?_
 refine wS (.ptr 2 v29) [] ⟨cJ _ _ _ _ 4 2 _ underlying225 im rfl rfl (bo hv29).1 (bo hv29).2 (by decide)⟩ ?_
 refine wN [37,2] ?_
 refine wS (.v (.int .u32 v30)) [] ⟨cw _ _ _ _ _ _ underlying106 rfl rfl rfl (di hv30)⟩ ?_
 refine wN [2] ?_
 refine wS (.ptr 2 v31) [] ⟨cJ _ _ _ _ 4 2 _ underlying225 im rfl rfl (bo hv31).1 (bo hv31).2 (by decide)⟩ ?_
 refine wN [39,2] ?_
 refine wS (.v (.int .u32 v32)) [] ⟨cw _ _ _ _ _ _ underlying106 rfl rfl rfl (di hv32)⟩ ?_
 refine wN [2] ?_
 refine wS (.ptr 2 v33) [] ⟨cJ _ _ _ _ 4 2 _ underlying225 im rfl rfl (bo hv33).1 (bo hv33).2 (by decide)⟩ ?_
 refine wN [41,2] ?_
 refine wS (.v (.int .u32 v34)) [] ⟨cw _ _ _ _ _ _ underlying106 rfl rfl rfl (di hv34)⟩ ?_
 refine wN [2] ?_
 refine wS (.ptr 2 v35) [] ⟨cJ _ _ _ _ 4 2 _ underlying225 im rfl rfl (bo hv35).1 (bo hv35).2 (by decide)⟩ ?_
 refine wN [43,2] ?_
 refine wS (.v (.int .u32 v36)) [[38],[40],[42],[44]] ⟨cw _ _ _ _ _ _ underlying106 rfl rfl rfl (di hv36)⟩ ?_
 refine sF hn [105,2,4,5,8,9,10,11] ?_
 refine ab ?_
 refine gE hn 0 ?_
 refine yS (.v (.agg (map (int .u32) cZ).toArray)) 1 ⟨sK _ _ 105 5 (map (int .u32) cZ) underlying241 rfl HK rfl rfl (DS mx)⟩ ?_
 refine aV [105,2,4,5,8,9,10,11,45,46] ?_
 refine aU h (fun ((s63,s64,s65,s66,s67):Int×Int×Int×Int×Int)=>[(105,.glob (GL mx)),(2,.arr 225 (map (int .u32) s)),(4,.arr 225 (map (int .u32) ((List.replicate 4 (0:Int))))),(5,.arr 222 (map (int .u32) s21)),(8,.v (.int .u32 s63)),(9,.v (.int .u32 s64)),(10,.v (.int .u32 s65)),(11,.v (.int .u32 s66)),(45,.v (.agg (map (int .u32) cZ).toArray)),(46,vi s67)]) (fun ((s69,s70,s71,s72):Int×Int×Int×Int)=>[(105,.glob (GL mx)),(2,.arr 225 (map (int .u32) s)),(4,.arr 225 (map (int .u32) ((List.replicate 4 (0:Int))))),(8,.v (.int .u32 s69)),(9,.v (.int .u32 s70)),(10,.v (.int .u32 s71)),(11,.v (.int .u32 s72))]) ?_ ?_
 rintro ⟨s69,s70,s71,s72⟩ h
 refine af (ab ?_)
 obtain ⟨v80,hv80,v81,hv81,v82,hv82,v83,hv83,h⟩:=ld h
 obtain ⟨v84,hv84,v85,hv85,v86,hv86,v87,hv87,h⟩:=ld h
 obtain ⟨v88,hv88,v89,hv89,v90,hv90,v91,hv91,h⟩:=ld h
 obtain ⟨v92,hv92,v93,hv93,h⟩:=eo h
 refine yx hn 0 ?_
 refine yS (.ptr 2 v80) 0 ⟨cJ _ _ _ _ 4 2 _ underlying225 im rfl rfl (bo hv80).1 (bo hv80).2 (by decide)⟩ ?_
 refine yS (.v (.int .u32 v81)) 1 ⟨cw _ _ _ _ _ _ underlying106 rfl rfl rfl (di hv81)⟩ ?_
 refine ys 0 ⟨lb hv82⟩ ?_
 refine yS (.ptr 2 v83) 0 ⟨cJ _ _ _ _ 4 2 _ underlying225 im rfl rfl (bo hv83).1 (bo hv83).2 (by decide)⟩ ?_
 refine yS (.v (.int .u32 v84)) 1 ⟨cw _ _ _ _ _ _ underlying106 rfl rfl rfl (di hv84)⟩ ?_
 refine ys 0 ⟨lb hv85⟩ ?_
 refine yS (.ptr 2 v86) 0 ⟨cJ _ _ _ _ 4 2 _ underlying225 im rfl rfl (bo hv86).1 (bo hv86).2 (by decide)⟩ ?_
 refine yS (.v (.int .u32 v87)) 1 ⟨cw _ _ _ _ _ _ underlying106 rfl rfl rfl (di hv87)⟩ ?_
 refine ys 0 ⟨lb hv88⟩ ?_
 refine yS (.ptr 2 v89) 0 ⟨cJ _ _ _ _ 4 2 _ underlying225 im rfl rfl (bo hv89).1 (bo hv89).2 (by decide)⟩ ?_
 refine yS (.v (.int .u32 v90)) 1 ⟨cw _ _ _ _ _ _ underlying106 rfl rfl rfl (di hv90)⟩ ?_
 refine ys 0 ⟨lb hv91⟩ ?_
 refine yS (.v (.agg (map (int .u32) ([v82,v85,v88,v91]:List Int)).toArray)) 0 ⟨pg _ _ (.agg #[.int .u32 0,.int .u32 0,.int .u32 0,.int .u32 0]) (map (int .u32) ([v82,v85,v88,v91]:List Int)) [(0,.int .u32 v82),(1,.int .u32 v85),(2,.int .u32 v88),(3,.int .u32 v91)] underlying225 im EE (fun _ V w o a hv hes=>by have e0:=bL hv hes (x := .tmp 91) rfl; have e1:=bL hv hes (x := .tmp 95) rfl; have e2:=bL hv hes (x := .tmp 99) rfl; have e3:=bL hv hes (x := .tmp 103) rfl; simp only [List.map_toArray,List.map_cons,List.map_nil,e0,e1,e2,e3]; try rfl) (dn (by simp [Instr.fill,Value.cells]; rfl) (by simp))⟩ ?_
 refine yk [4] [104] ?_
 refine yt (4,.arr 225 (map (int .u32) ([v82,v85,v88,v91]:List Int))) 0 ⟨cj _ _ _ _ (rh.trans (congrArg some (bq hv93))) rfl rfl (fw (fun _=>rfl) _) ((bq (f:=int .u32) hv92).symm.trans (bq (f:=int .u32) hv93))⟩ ?_
 refine aV [105,4] ?_
 refine aj ?_
 obtain ⟨v94,hv94,h⟩:=zn h
 refine ag [1] (by kernel_rfl) (es':=[(_,_)]) rfl ?_
 obtain rfl:=zi h
 exact al hio rfl (.cellR _ _ _ _ underlying225 rfl (rh.trans (congrArg some (bq hv94))) .nil) rfl rfl
 rintro u73 hl74 hr75 ⟨s63,s64,s65,s66,s67⟩ rr78 h ho76
 refine aG hn 1 [105,2,4,5,8,9,10,11,45,46,47] ?_
 refine ab ?_
 refine zc h rfl (fun h => ?_) (fun h => ?_)
 refine am ?_
 refine af (ab ?_)
 refine aC (ab ?_)
 obtain ⟨v38,hv38,v39,hv39,h⟩:=eo h
 refine yx hn 1 ?_
 refine yS (.v (.int .u32 v39)) 2 ⟨pp _ _ _ _ 64 v38 underlying241 im rfl (congrArg (fun j=>AV.v (int .i64 j)) (bo hv38).1) (bo hv38).2 (di hv39) ⟨_,underlying106,rfl⟩⟩ ?_
 refine aV [105,2,4,5,8,9,10,11,45,46,12,13] ?_
 refine ab ?_
 obtain ⟨v40,hv40,h⟩:=zn h
 refine yx hn 4 ?_
 refine ys 0 ⟨lk call219 (rj _ _ _ _ _ hv40)⟩ ?_
 refine ym 4 ?_
 refine aV [105,2,4,5,8,9,10,11,45,46,12,13,14,15] ?_
 refine ab ?_
 obtain ⟨v41,hv41,v42,hv42,v43,hv43,v44,hv44,h⟩:=ld h
 obtain ⟨v45,hv45,h⟩:=zn h
 refine yx hn 3 ?_
 refine ys 1 ⟨lb hv41⟩ ?_
 refine yS (.ptr 5 v42) 0 ⟨cJ _ _ _ _ 16 5 _ underlying222 im rfl rfl (bo hv42).1 (bo hv42).2 (by decide)⟩ ?_
 refine yS (.v (.int .u32 v43)) 0 ⟨cw _ _ _ _ _ _ underlying106 rfl rfl rfl (di hv43)⟩ ?_
 refine ys 0 ⟨lb hv44⟩ ?_
 refine ys 0 ⟨lb hv45⟩ ?_
 refine yw [14] 1 ?_
 refine aV [105,2,4,5,9,10,11,45,46,12,14] ?_
 refine ab ?_
 obtain ⟨v46,hv46,v47,hv47,v48,hv48,v49,hv49,h⟩:=ld h
 obtain ⟨v50,hv50,h⟩:=zn h
 refine yx hn 1 ?_
 refine ys 1 ⟨lB (sq hv46)⟩ ?_
 refine ys 0 ⟨lB (mf hv47)⟩ ?_
 refine yS (.v (.pointer (some ⟨6,(0+v48 * 4),none⟩))) 0 ⟨mF _ _ _ _ 4 6 0 _ 4 _ underlying245 GT rfl rfl (bo hv48).1 (bo hv48).2⟩ ?_
 refine yS (.v (.pointer (some ⟨6,((0+v48 * 4)+v49 * 1),none⟩))) 0 ⟨mF _ _ _ _ 4 6 (0+v48 * 4) _ 1 _ underlying244 FS rfl rfl (bo hv49).1 (bo hv49).2⟩ ?_
 refine yS (vi v50) 1 ⟨lZ _ _ 105 6 _ _ _ underlying3 rfl rfl rfl (Dd mx) (di hv50)⟩ ?_
 refine aV [105,2,4,5,9,10,11,45,46,14,16] ?_
 obtain ⟨v51,hv51,v52,hv52,v53,hv53,v54,hv54,h⟩:=ld h
 obtain ⟨v55,hv55,h⟩:=zn h
 refine wb [[11],[9],[14],[16]] ?_
 refine wN [76,77] ?_
 refine wo [[14],[16]] ⟨lB (qd hv51)⟩ ?_
 refine wN [80] ?_
 refine wo [] ⟨lb hv52⟩ ?_
 refine wN [79,81] ?_
 refine wo [] ⟨lB (lW hv53)⟩ ?_
 refine wN [78,82] ?_
 refine wo [] ⟨lb hv54⟩ ?_
 refine wN [75,83] ?_
 refine wo [[9],[10],[74]] ⟨lb hv55⟩ ?_
 refine wK [9] [84] ?_
 refine wt [(9,.v (.int .u32 v55))] [] ⟨aJ.drop [_] (iq _ _ _ _ rfl rfl)⟩ ?_
 refine wK [10] [85] ?_
 refine wt [(10,.v (.int .u32 s64))] [] ⟨aJ.drop [_] (iq _ _ _ _ rfl rfl)⟩ ?_
 refine wK [11] [86] ?_
 refine wt [(11,.v (.int .u32 s65))] [] ⟨aJ.drop [_] (iq _ _ _ _ rfl rfl)⟩ ?_
 refine we hn [105,2,4,5,45,46,8,9,10,11] ?_
 refine aI (af ?_)
 obtain ⟨v56,hv56,h⟩:=zn h
 refine yx hn 0 ?_
 refine ys 0 ⟨lb hv56⟩ ?_
 refine yw [46] 1 ?_
 refine ye [105,2,4,5,45,8,9,10,11,46] ?_
 refine ag [0,1,2,3,5,6,7,8,4,9] (by kernel_rfl) (es':=[(_,_),(_,_),(_,_),(_,_),(_,_),(_,_),(_,_),(_,_),(_,_),(_,_)]) rfl ?_
 exact bc _ (zi h).symm rfl
 refine bh (ar (ar (bb ?_)))
 refine ag [0,1,2,4,5,6,7] (by kernel_rfl) (es':=[(_,_),(_,_),(_,_),(_,_),(_,_),(_,_),(_,_)]) rfl ?_
 exact hl74 _ (ho76 _ (zi h).symm).symm
 rintro u22 hl23 hr24 ⟨s18,s19⟩ rr27 h ho25
 refine aG hn 1 [105,2,4,5,17,18,19,20] ?_
 refine ab ?_
 refine zc h rfl (fun h => ?_) (fun h => ?_)
 refine am ?_
 refine af (ab ?_)
 refine aC (ab ?_)
 obtain ⟨v2,hv2,v3,hv3,h⟩:=eo h
 refine yx hn 1 ?_
 refine ys 0 ⟨li hv2⟩ ?_
 refine ys 2 ⟨ll hv3⟩ ?_
 refine aV [105,2,4,5,17,18,19,6,7] ?_
 obtain ⟨v4,hv4,v5,hv5,v6,hv6,v7,hv7,h⟩:=ld h
 obtain ⟨v8,hv8,v9,hv9,v10,hv10,v11,hv11,h⟩:=ld h
 obtain ⟨v12,hv12,v13,hv13,h⟩:=eo h
 refine wb [[6]] ?_
 refine wN [24] ?_
 refine wo [] ⟨lB (sq hv4)⟩ ?_
 refine wN [5,25] ?_
 refine wS (.ptr 5 v5) [] ⟨cJ _ _ _ _ 16 5 _ underlying222 im rfl rfl (bo hv5).1 (bo hv5).2 (by decide)⟩ ?_
 refine wN [26,5] ?_
 refine wS (.v (.int .u32 v6)) [[7]] ⟨cw _ _ _ _ _ _ underlying106 rfl rfl rfl (di hv6)⟩ ?_
 refine wN [28] ?_
 refine wo [[6]] ⟨lv hv7⟩ ?_
 refine wN [30] ?_
 refine wo [] ⟨lB (mf hv8)⟩ ?_
 refine wN [31] ?_
 refine wo [] ⟨lb hv9⟩ ?_
 refine wN [29,32] ?_
 refine wo [] ⟨lB (qd hv10)⟩ ?_
 refine wN [27,33] ?_
 refine wo [] ⟨lb hv11⟩ ?_
 refine wN [5,25] ?_
 refine wS (.ptr 5 v12) [] ⟨cJ _ _ _ _ 16 5 _ underlying222 im rfl rfl (bo hv12).1 (bo hv12).2 (by decide)⟩ ?_
 refine wK [5] [35,34] ?_
 refine wt [(5,.arr 222 (map (int .u32) v13))] [] ⟨mg _ _ _ _ _ _ im rfl rfl rfl rfl (xU hv13) (xW (f:=int .u32) hv13)⟩ ?_
 refine we hn [105,2,4,5,17,18,19] ?_
 refine aI (af ?_)
 obtain ⟨v14,hv14,h⟩:=zn h
 refine yx hn 0 ?_
 refine ys 0 ⟨lb hv14⟩ ?_
 refine yw [19] 1 ?_
 refine ye [105,2,4,5,17,18,19] ?_
 exact bc _ (zi h).symm rfl
 refine bh (ar (ar (bb ?_)))
 refine ag [0,1,2,3] (by kernel_rfl) (es':=[(_,_),(_,_),(_,_),(_,_)]) rfl ?_
 exact hl23 _ (ho25 _ (zi h).symm).symm
theorem pQ (rest:(List Int)) (n:Int) (r:(List Int)) (h:Sh.gK rest n=some r):bM Tryz.prog 204 [.fl .shr 1 (map (int .u8) rest),.v (.int .i64 n)] (.fl (.own 5) 1 (map (int .u8) r)):=by
 unfold Sh.gK at h
 refine yO 42 func204 fun g0 hn hio => ?_
 refine aG hn 1 [0,1] ?_
 refine aG hn 1 [0,1,5] ?_
 refine ab ?_
 refine ay h (fun (s4:Int)=>[(0,fb rest),(1,vi n),(5,vi s4)]) ?_ ?_
 rintro s4 h
 refine af (ab ?_)
 obtain ⟨v9,hv9,h⟩:=zn h
 refine yx hn 1 ?_
 refine yS (.fl (.own 5) 1 (map (int .u8) v9)) 0 ⟨Ic (f:=int .u8) _ _ _ _ jN (by decide) uA rfl rfl rfl hv9⟩ ?_
 refine ya 0 ?_
 refine aV [0,1,5,6] ?_
 refine ab ?_
 obtain ⟨v10,hv10,h⟩:=zn h
 refine yx hn 2 ?_
 refine yk [6] [16,17] ?_
 refine nE (6,.fl (.own 5) 1 (map (int .u8) v10)) (18,vi (rS v9 rest)) 0 ⟨(Option.some.inj hv10) ▸ HL _ _ _ _ _ _ _ underlying28 lQ rfl rfl (by decide)⟩ ?_
 refine aV [0,1,5,6] ?_
 refine ab ?_
 obtain ⟨v11,hv11,v12,hv12,h⟩:=eo h
 refine yx hn 3 ?_
 refine ys 0 ⟨li hv11⟩ ?_
 refine yk [6] [22] ?_
 refine yt (6,.fl (.own 5) 1 (map (int .u8) v12)) 0 ⟨rV _ _ _ _ _ _ _ _ lQ rfl rfl rfl (by decide) (xh (bo hv11).2) ((map_set (f:=int .u8) _ (bo hv11).2).trans (congrArg (map _) (Option.some.inj hv12)))⟩ ?_
 refine aV [1,5,6] ?_
 refine ab ?_
 obtain ⟨v13,hv13,v14,hv14,h⟩:=eo h
 refine yx hn 1 ?_
 refine ys 0 ⟨lv hv13⟩ ?_
 refine ys 1 ⟨lB (qd hv14)⟩ ?_
 refine aV [5,6,7] ?_
 refine ab ?_
 refine aG hn 1 [5,6,7,26] ?_
 refine aU h (fun ((s27,s28):(List Int)×Int)=>[(5,vi s4),(6,.fl (.own 5) 1 (map (int .u8) s27)),(7,.v (.int .u64 v14)),(26,vi s28)]) (fun (s30:(List Int))=>[(6,.fl (.own 5) 1 (map (int .u8) s30))]) ?_ ?_
 rintro s30 h
 refine af ?_
 refine gE hn 0 ?_
 refine ym 0 ?_
 refine ya 0 ?_
 refine aV [4] ?_
 refine aj ?_
 obtain rfl:=zi h
 exact al hio rfl (.tmp _ _ .nil) rfl rfl
 rintro u31 hl32 hr33 ⟨s27,s28⟩ rr36 h ho34
 refine aG hn 1 [5,6,7,26,27] ?_
 refine ab ?_
 refine zc h rfl (fun h => ?_) (fun h => ?_)
 refine am ?_
 refine af (ab ?_)
 refine aC ?_
 refine aG hn 2 [5,6,7,26,8] ?_
 obtain ⟨v16,hv16,v17,hv17,v18,hv18,v19,hv19,h⟩:=ld h
 obtain ⟨v20,hv20,v21,hv21,v22,hv22,h⟩:=rZ h
 refine yx hn 2 ?_
 refine ys 1 ⟨lb hv16⟩ ?_
 refine ys 2 ⟨lb hv17⟩ ?_
 refine ys 0 ⟨lb hv18⟩ ?_
 refine ys 0 ⟨lB (lW hv19)⟩ ?_
 refine ys 0 ⟨lv hv20⟩ ?_
 refine ys 0 ⟨li hv21⟩ ?_
 refine yk [6] [39,38] ?_
 refine yt (6,.fl (.own 5) 1 (map (int .u8) v22)) 0 ⟨rV _ _ _ _ _ _ _ _ lQ rfl rfl rfl (by decide) (xh (bo hv21).2) ((map_set (f:=int .u8) _ (bo hv21).2).trans (congrArg (map _) (Option.some.inj hv22)))⟩ ?_
 refine ye [5,6,7,26] ?_
 refine aI (af ?_)
 obtain ⟨v23,hv23,h⟩:=zn h
 refine yx hn 0 ?_
 refine ys 0 ⟨lb hv23⟩ ?_
 refine yw [26] 1 ?_
 refine ye [5,6,7,26] ?_
 exact bc _ (zi h).symm rfl
 refine bh (ar (ar (bb ?_)))
 refine ag [1] (by kernel_rfl) (es':=[(_,_)]) rfl ?_
 exact hl32 _ (ho34 _ (zi h).symm).symm
 intro u5 h hl6 hr7
 refine ab ?_
 obtain ⟨v1,hv1,v2,hv2,h⟩:=eo h
 refine yx hn 2 ?_
 refine ys 0 ⟨lb hv1⟩ ?_
 refine ys 1 ⟨lb hv2⟩ ?_
 refine aV [0,1,5,13] ?_
 refine zc h rfl (fun h => ?_) (fun h => ?_)
 refine yx hn 0 ?_
 refine yw [5] 1 ?_
 refine ye [0,1,5] ?_
 exact hl6 _ (zi h).symm
 refine am ?_
 refine ag [0,1,2] (by kernel_rfl) (es':=[(_,_),(_,_),(_,_)]) rfl ?_
 exact hl6 _ (zi h).symm
theorem kP (mx:Int×Nat×Value) (b:(List Int)) (r:(List Int)) (h:Sh.gQ b=some r):ir Tryz.prog (GL mx) 183 [.fl .shr 1 (map (int .u8) b)] (.v (.agg (map (int .u8) r).toArray)):=by
 unfold Sh.gQ at h
 refine yG 62 func183 fun g0 hn hio => ?_
 refine gE hn 0 ?_
 refine yS (.arr 91 (map (int .u8) ((List.replicate 16 (0:Int))))) 0 ⟨oA (bY _ zS)⟩ ?_
 refine aV [0,62,2] ?_
 refine ab ?_
 obtain ⟨v1,hv1,v2,hv2,h⟩:=eo h
 refine yx hn 0 ?_
 refine yS (.v (.agg (map (int .u32) ([1732584193,4023233417,2562383102,271733878]:List Int)).toArray)) 0 ⟨pg _ _ (.agg #[.int .u32 0,.int .u32 0,.int .u32 0,.int .u32 0]) (map (int .u32) ([1732584193,4023233417,2562383102,271733878]:List Int)) [(0,.int .u32 1732584193),(1,.int .u32 4023233417),(2,.int .u32 2562383102),(3,.int .u32 271733878)] underlying225 im EE (fun _ V w o a hv hes=>by simp only [List.map_toArray,List.map_cons,List.map_nil]; try rfl) (dn (by simp [Instr.fill,Value.cells]; rfl) (by simp))⟩ ?_
 refine yS (.arr 225 (map (int .u32) ((List.replicate 4 (0:Int))))) 0 ⟨oA (bY _ EO)⟩ ?_
 refine yk [3] [10] ?_
 refine yt (3,.arr 225 (map (int .u32) ([1732584193,4023233417,2562383102,271733878]:List Int))) 0 ⟨cj _ _ _ _ (rh.trans (congrArg some (bq hv2))) rfl rfl (fw (fun _=>rfl) _) ((bq (f:=int .u32) hv1).symm.trans (bq (f:=int .u32) hv2))⟩ ?_
 refine aV [0,62,2,3] ?_
 refine ab ?_
 obtain ⟨v3,hv3,v4,hv4,h⟩:=eo h
 refine yx hn 2 ?_
 refine ys 0 ⟨lB (sq hv3)⟩ ?_
 refine ys 1 ⟨lb hv4⟩ ?_
 refine aV [0,62,2,3,4] ?_
 refine ab ?_
 refine aG hn 1 [0,62,2,3,4,5] ?_
 refine aU h (fun ((s16,s17):(List Int)×Int)=>[(0,fb b),(62,.glob (GL mx)),(2,.arr 91 (map (int .u8) ((List.replicate 16 (0:Int))))),(3,.arr 225 (map (int .u32) s16)),(4,vi v4),(5,vi s17)]) (fun (s19:(List Int))=>[(0,fb b),(62,.glob (GL mx)),(2,.arr 91 (map (int .u8) ((List.replicate 16 (0:Int))))),(3,.arr 225 (map (int .u32) s19)),(4,vi v4)]) ?_ ?_
 rintro s19 h
 refine af (ab ?_)
 obtain ⟨v27,hv27,v28,hv28,h⟩:=eo h
 refine yx hn 2 ?_
 refine yS (fb v27) 2 ⟨lA _ _ _ v4 (b.length:Int) _ underlying28 lQ rfl rfl ⟨_,rfl⟩ rfl hv27⟩ ?_
 refine ys 0 ⟨lk call204 (pQ _ _ _ hv28)⟩ ?_
 refine ya 0 ?_
 refine aV [62,2,3,6] ?_
 refine ab ?_
 refine aG hn 1 [62,2,3,6,7] ?_
 refine ve 3 hio (es':=[(62,.glob (GL mx)),(2,.arr 91 (map (int .u8) ((List.replicate 16 (0:Int))))),(3,.arr 225 (map (int .u32) s19)),(6,.fl .ro 1 (map (int .u8) v28)),(7,.v (.int .i64 0))]) rfl ?_
 refine aU h (fun ((s41,s42,s43):(List Int)×(List Int)×Int)=>[(62,.glob (GL mx)),(2,.arr 91 (map (int .u8) ((List.replicate 16 (0:Int))))),(3,.arr 225 (map (int .u32) s41)),(6,.fl .ro 1 (map (int .u8) s42)),(7,vi s43)]) (fun (s45:(List Int))=>[(62,.glob (GL mx)),(2,.arr 91 (map (int .u8) ((List.replicate 16 (0:Int))))),(3,.arr 225 (map (int .u32) s45))]) ?_ ?_
 rintro s45 h
 refine af ?_
 refine gE hn 0 ?_
 refine yS (.arr 91 (map (int .u8) ((List.replicate 16 (0:Int))))) 0 ⟨oA (bY _ zS)⟩ ?_
 refine aV [62,2,3,8] ?_
 refine ab ?_
 refine aG hn 1 [62,2,3,8,46] ?_
 refine aU h (fun ((s67,s68):(List Int)×Int)=>[(62,.glob (GL mx)),(2,.arr 91 (map (int .u8) ((List.replicate 16 (0:Int))))),(3,.arr 225 (map (int .u32) s45)),(8,.arr 91 (map (int .u8) s67)),(46,vi s68)]) (fun (s70:(List Int))=>[(62,.glob (GL mx)),(2,.arr 91 (map (int .u8) ((List.replicate 16 (0:Int))))),(8,.arr 91 (map (int .u8) s70))]) ?_ ?_
 rintro s70 h
 refine af (ab ?_)
 obtain ⟨v78,hv78,v79,hv79,v80,hv80,h⟩:=rZ h
 refine yx hn 0 ?_
 refine yS (.v (.agg (map (int .u8) s70).toArray)) 0 ⟨iP _ _ _ _ underlying91 rfl (xb.trans (congrArg some (bq hv78))) rfl rfl⟩ ?_
 refine yk [2] [61] ?_
 refine yt (2,.arr 91 (map (int .u8) s70)) 0 ⟨cj _ _ _ _ (xb.trans (congrArg some (bq hv80))) rfl rfl (fw (fun _=>rfl) _) ((bq (f:=int .u8) hv79).symm.trans (bq (f:=int .u8) hv80))⟩ ?_
 refine aV [62,2] ?_
 refine aj ?_
 obtain ⟨v81,hv81,h⟩:=zn h
 refine ag [1] (by kernel_rfl) (es':=[(_,_)]) rfl ?_
 obtain rfl:=zi h
 exact al hio rfl (.cellR _ _ _ _ underlying91 rfl (xb.trans (congrArg some (bq hv81))) .nil) rfl rfl
 rintro u71 hl72 hr73 ⟨s67,s68⟩ rr76 h ho74
 refine aG hn 1 [62,2,3,8,46,47] ?_
 refine ab ?_
 refine zc h rfl (fun h => ?_) (fun h => ?_)
 refine am ?_
 refine af (ab ?_)
 refine aC ?_
 refine aG hn 2 [62,2,3,8,46,9] ?_
 obtain ⟨v54,hv54,v55,hv55,v56,hv56,v57,hv57,h⟩:=ld h
 obtain ⟨v58,hv58,v59,hv59,v60,hv60,v61,hv61,h⟩:=ld h
 obtain ⟨v62,hv62,h⟩:=zn h
 refine yx hn 2 ?_
 refine ys 0 ⟨lB (sq hv54)⟩ ?_
 refine yS (.ptr 3 v55) 0 ⟨cJ _ _ _ _ 4 3 _ underlying225 im rfl rfl (bo hv55).1 (bo hv55).2 (by decide)⟩ ?_
 refine yS (.v (.int .u32 v56)) 1 ⟨cw _ _ _ _ _ _ underlying106 rfl rfl rfl (di hv56)⟩ ?_
 refine ys 0 ⟨lB (mf hv57)⟩ ?_
 refine ys 0 ⟨lb hv58⟩ ?_
 refine ys 0 ⟨lB (lW hv59)⟩ ?_
 refine ys 0 ⟨lv hv60⟩ ?_
 refine yS (.ptr 8 v61) 0 ⟨cJ _ _ _ _ 16 8 _ underlying91 lQ rfl rfl (bo hv61).1 (bo hv61).2 (by decide)⟩ ?_
 refine yk [8] [59,58] ?_
 refine yt (8,.arr 91 (map (int .u8) v62)) 0 ⟨mg _ _ _ _ _ _ lQ rfl rfl rfl rfl (xU hv62) (xW (f:=int .u8) hv62)⟩ ?_
 refine ye [62,2,3,8,46] ?_
 refine aI (af ?_)
 obtain ⟨v63,hv63,h⟩:=zn h
 refine yx hn 0 ?_
 refine ys 0 ⟨lb hv63⟩ ?_
 refine yw [46] 1 ?_
 refine ye [62,2,3,8,46] ?_
 exact bc _ (zi h).symm rfl
 refine bh (ar (ar (bb ?_)))
 refine ag [0,1,3] (by kernel_rfl) (es':=[(_,_),(_,_),(_,_)]) rfl ?_
 exact hl72 _ (ho74 _ (zi h).symm).symm
 rintro u46 hl47 hr48 ⟨s41,s42,s43⟩ rr51 h ho49
 refine ab ?_
 refine aG hn 4 [62,2,3,6,7,36] ?_
 refine zc h rfl (fun h => ?_) (fun h => ?_)
 refine am ?_
 refine af (ab ?_)
 refine aC ?_
 obtain ⟨v30,hv30,v31,hv31,v32,hv32,v33,hv33,h⟩:=ld h
 obtain ⟨v34,hv34,v35,hv35,h⟩:=eo h
 refine wb [] ?_
 refine wN [3] ?_
 refine wS (.v (.agg (map (int .u32) s41).toArray)) [[6],[7],[7]] ⟨iP _ _ _ _ underlying225 rfl (rh.trans (congrArg some (bq hv30))) rfl rfl⟩ ?_
 refine wN [42] ?_
 refine wo [] ⟨lb hv31⟩ ?_
 refine wN [40,41,43] ?_
 refine wS (.fl .ro 1 (map (int .u8) v32)) [] ⟨lA _ _ _ s43 v31 _ underlying28 lQ rfl rfl ⟨_,rfl⟩ ⟨_,rfl⟩ hv32⟩ ?_
 refine wN [39,44,62] ?_
 refine wo [] ⟨lg call203 (iX _ _ _ _ hv33) 62⟩ ?_
 refine wK [3] [45] ?_
 refine wt [(3,.arr 225 (map (int .u32) v33))] [] ⟨cj _ _ _ _ (rh.trans (congrArg some (bq hv35))) rfl rfl (fw (fun _=>rfl) _) ((bq (f:=int .u32) hv34).symm.trans (bq (f:=int .u32) hv35))⟩ ?_
 refine we hn [62,2,3,6,7] ?_
 refine aI (af ?_)
 obtain ⟨v36,hv36,h⟩:=zn h
 refine yx hn 1 ?_
 refine ys 0 ⟨lb hv36⟩ ?_
 refine yw [7] 1 ?_
 refine ye [62,2,3,6,7] ?_
 exact bc _ (zi h).symm rfl
 refine bh (ar (ar (bb ?_)))
 refine ag [0,1,2] (by kernel_rfl) (es':=[(_,_),(_,_),(_,_)]) rfl ?_
 exact hl47 _ (ho49 _ (zi h).symm).symm
 rintro u20 hl21 hr22 ⟨s16,s17⟩ rr25 h ho23
 refine ab ?_
 refine aG hn 3 [0,62,2,3,4,5,17] ?_
 refine zc h rfl (fun h => ?_) (fun h => ?_)
 refine am ?_
 refine af (ab ?_)
 refine aC ?_
 obtain ⟨v6,hv6,v7,hv7,v8,hv8,v9,hv9,h⟩:=ld h
 obtain ⟨v10,hv10,v11,hv11,h⟩:=eo h
 refine wb [] ?_
 refine wN [3] ?_
 refine wS (.v (.agg (map (int .u32) s16).toArray)) [[0],[5],[5]] ⟨iP _ _ _ _ underlying225 rfl (rh.trans (congrArg some (bq hv6))) rfl rfl⟩ ?_
 refine wN [23] ?_
 refine wo [] ⟨lb hv7⟩ ?_
 refine wN [21,22,24] ?_
 refine wS (fb v8) [] ⟨lA _ _ _ s17 v7 _ underlying28 lQ rfl rfl ⟨_,rfl⟩ ⟨_,rfl⟩ hv8⟩ ?_
 refine wN [20,25,62] ?_
 refine wo [] ⟨lg call203 (iX _ _ _ _ hv9) 62⟩ ?_
 refine wK [3] [26] ?_
 refine wt [(3,.arr 225 (map (int .u32) v9))] [] ⟨cj _ _ _ _ (rh.trans (congrArg some (bq hv11))) rfl rfl (fw (fun _=>rfl) _) ((bq (f:=int .u32) hv10).symm.trans (bq (f:=int .u32) hv11))⟩ ?_
 refine we hn [0,62,2,3,4,5] ?_
 refine aI (af ?_)
 obtain ⟨v12,hv12,h⟩:=zn h
 refine yx hn 1 ?_
 refine ys 0 ⟨lb hv12⟩ ?_
 refine yw [5] 1 ?_
 refine ye [0,62,2,3,4,5] ?_
 exact bc _ (zi h).symm rfl
 refine bh (ar (ar (bb ?_)))
 refine ag [0,1,2,3,4] (by kernel_rfl) (es':=[(_,_),(_,_),(_,_),(_,_),(_,_)]) rfl ?_
 exact hl21 _ (ho23 _ (zi h).symm).symm
theorem qK (mx:Int×Nat×Value) (key:(List Int)) (text:(List Int)) (r:(List Int)) (h:Sh.iR key text=some r):ir Tryz.prog (GL mx) 154 [.fl .shr 1 (map (int .u8) key),.fl .shr 1 (map (int .u8) text)] (.v (.agg (map (int .u8) r).toArray)):=by
 unfold Sh.iR at h
 refine yG 51 func154 fun g0 hn hio => ?_
 refine gE hn 0 ?_
 refine yS (.arr 91 (map (int .u8) ((List.replicate 16 (0:Int))))) 0 ⟨oA (bY _ zS)⟩ ?_
 refine aV [0,1,51,4] ?_
 refine gE hn 0 ?_
 refine yS (.arr 205 (map (int .u8) ((List.replicate 64 (0:Int))))) 0 ⟨oA (bY _ Hb)⟩ ?_
 refine aV [0,1,51,4,5] ?_
 refine ab ?_
 refine ay h (fun (s8:(List Int))=>[(1,fb text),(51,.glob (GL mx)),(4,.arr 91 (map (int .u8) ((List.replicate 16 (0:Int))))),(5,.arr 205 (map (int .u8) s8))]) ?_ ?_
 rintro s8 h
 refine af (ab ?_)
 obtain ⟨v13,hv13,v14,hv14,h⟩:=eo h
 refine yx hn 2 ?_
 refine ys 0 ⟨lb hv13⟩ ?_
 refine yS (.fl (.own 5) 1 (map (int .u8) ([]:List Int))) 0 ⟨Bk _ _ _ _ jN (by decide) rfl rfl hv14⟩ ?_
 refine ya 0 ?_
 refine aV [1,51,4,5,7] ?_
 refine ab ?_
 obtain ⟨v15,hv15,h⟩:=zn h
 refine yx hn 0 ?_
 refine yS (.fl (.own 5) 1 (map (int .u8) ([]:List Int))) 0 ⟨Bk _ _ _ _ jN (by decide) rfl rfl hv15⟩ ?_
 refine ya 0 ?_
 refine aV [1,51,4,5,7,8] ?_
 refine ab (ab ?_)
 obtain ⟨v16,hv16,h⟩:=zn h
 refine yx hn 0 ?_
 refine yS (.v (.agg (map (int .u8) s8).toArray)) 1 ⟨iP _ _ _ _ underlying205 rfl (GD.trans (congrArg some (bq hv16))) rfl rfl⟩ ?_
 refine aV [1,51,4,7,8,28,29] ?_
 refine aU h (fun ((s29,s30,s31):(List Int)×(List Int)×Int)=>[(1,fb text),(51,.glob (GL mx)),(4,.arr 91 (map (int .u8) ((List.replicate 16 (0:Int))))),(7,.fl (.own 5) 1 (map (int .u8) s29)),(8,.fl (.own 5) 1 (map (int .u8) s30)),(28,.v (.agg (map (int .u8) s8).toArray)),(29,vi s31)]) (fun ((s33,s34):(List Int)×(List Int))=>[(1,fb text),(51,.glob (GL mx)),(4,.arr 91 (map (int .u8) ((List.replicate 16 (0:Int))))),(7,.fl (.own 5) 1 (map (int .u8) s33)),(8,.fl (.own 5) 1 (map (int .u8) s34))]) ?_ ?_
 rintro ⟨s33,s34⟩ h
 refine af (ab ?_)
 obtain ⟨v42,hv42,v43,hv43,v44,hv44,v45,hv45,h⟩:=ld h
 refine yx hn 0 ?_
 refine ym 1 ?_
 refine yp jN hv42 0 ?_
 refine ys 0 ⟨lg call183 (kP _ _ _ hv43) 51⟩ ?_
 refine yS (.arr 91 (map (int .u8) ((List.replicate 16 (0:Int))))) 0 ⟨oA (bY _ zS)⟩ ?_
 refine yk [11] [46] ?_
 refine yt (11,.arr 91 (map (int .u8) v43)) 0 ⟨cj _ _ _ _ (xb.trans (congrArg some (bq hv45))) rfl rfl (fw (fun _=>rfl) _) ((bq (f:=int .u8) hv44).symm.trans (bq (f:=int .u8) hv45))⟩ ?_
 refine aV [51,4,8,11] ?_
 refine ab ?_
 obtain ⟨v46,hv46,v47,hv47,v48,hv48,v49,hv49,h⟩:=ld h
 obtain ⟨v50,hv50,h⟩:=zn h
 refine yx hn 0 ?_
 refine ym 0 ?_
 refine yk [11] [] ?_
 refine nE (11,.any) (48,.fl .ro 1 (map (int .u8) v43)) 0 ⟨mm _ _ 11 16 _ underlying91 lQ rfl (bq hv46).symm (fw (fun _=>rfl) _)⟩ ?_
 refine yp jN hv47 0 ?_
 refine ys 0 ⟨lg call183 (kP _ _ _ hv48) 51⟩ ?_
 refine yk [4] [50] ?_
 refine yt (4,.arr 91 (map (int .u8) v48)) 0 ⟨cj _ _ _ _ (xb.trans (congrArg some (bq hv50))) rfl rfl (fw (fun _=>rfl) _) ((bq (f:=int .u8) hv49).symm.trans (bq (f:=int .u8) hv50))⟩ ?_
 refine aV [51,4] ?_
 refine aj ?_
 obtain ⟨v51,hv51,h⟩:=zn h
 refine ag [1] (by kernel_rfl) (es':=[(_,_)]) rfl ?_
 obtain rfl:=zi h
 exact al hio rfl (.cellR _ _ _ _ underlying91 rfl (xb.trans (congrArg some (bq hv51))) .nil) rfl rfl
 rintro u35 hl36 hr37 ⟨s29,s30,s31⟩ rr40 h ho38
 refine aG hn 1 [1,51,4,7,8,28,29,30] ?_
 refine ab ?_
 refine zc h rfl (fun h => ?_) (fun h => ?_)
 refine am ?_
 refine af (ab ?_)
 refine aC (ab ?_)
 obtain ⟨v18,hv18,v19,hv19,h⟩:=eo h
 refine yx hn 0 ?_
 refine yS (.v (.int .u8 v19)) 1 ⟨pp _ _ _ _ 64 v18 underlying205 lQ rfl (congrArg (fun j=>AV.v (int .i64 j)) (bo hv18).1) (bo hv18).2 (di hv19) ⟨_,underlying5,rfl⟩⟩ ?_
 refine aV [1,51,4,7,8,28,29,10] ?_
 refine ab ?_
 obtain ⟨v20,hv20,v21,hv21,h⟩:=eo h
 refine yx hn 0 ?_
 refine ym 1 ?_
 refine ys 0 ⟨lb hv20⟩ ?_
 refine yS (.fl (.own 5) 1 (map (int .u8) [v20])) 0 ⟨bi _ _ 1 (.int .u8 0) (map (int .u8) [v20]) [(0,.int .u8 v20)] underlying28 lQ uA (fun _ V w o a hv hes=>by have e0:=bL hv hes (x := .tmp 34) rfl; simp only [List.map_toArray,List.map_cons,List.map_nil,e0]; try rfl) (dn (by simp [Instr.fill,Value.cells]; rfl) (by simp [List.range,List.range.loop] <;> rfl)) (by simp [Value.oneCell']) rfl (by decide) (by decide) (by decide)⟩ ?_
 refine yp jN hv21 0 ?_
 refine ya 0 ?_
 refine aV [1,51,4,8,28,29,10,7] ?_
 obtain ⟨v22,hv22,v23,hv23,h⟩:=eo h
 refine yx hn 0 ?_
 refine ym 1 ?_
 refine ys 0 ⟨lb hv22⟩ ?_
 refine yS (.fl (.own 5) 1 (map (int .u8) [v22])) 0 ⟨bi _ _ 1 (.int .u8 0) (map (int .u8) [v22]) [(0,.int .u8 v22)] underlying28 lQ uA (fun _ V w o a hv hes=>by have e0:=bL hv hes (x := .tmp 39) rfl; simp only [List.map_toArray,List.map_cons,List.map_nil,e0]; try rfl) (dn (by simp [Instr.fill,Value.cells]; rfl) (by simp [List.range,List.range.loop] <;> rfl)) (by simp [Value.oneCell']) rfl (by decide) (by decide) (by decide)⟩ ?_
 refine yp jN hv23 0 ?_
 refine ya 0 ?_
 refine ye [1,51,4,28,29,7,8] ?_
 refine aI (af ?_)
 obtain ⟨v24,hv24,h⟩:=zn h
 refine yx hn 0 ?_
 refine ys 0 ⟨lb hv24⟩ ?_
 refine yw [29] 1 ?_
 refine ye [1,51,4,28,7,8,29] ?_
 refine ag [0,1,2,4,5,3,6] (by kernel_rfl) (es':=[(_,_),(_,_),(_,_),(_,_),(_,_),(_,_),(_,_)]) rfl ?_
 exact bc _ (zi h).symm rfl
 refine bh (ar (ar (bb ?_)))
 refine ag [0,1,2,3,4] (by kernel_rfl) (es':=[(_,_),(_,_),(_,_),(_,_),(_,_)]) rfl ?_
 exact hl36 _ (ho38 _ (zi h).symm).symm
 intro u9 h hl10 hr11
 refine aG hn 3 [0,1,51,4,5,14] ?_
 refine zc h rfl (fun h => ?_) (fun h => ?_)
 refine ab ?_
 obtain ⟨v2,hv2,v3,hv3,v4,hv4,h⟩:=rZ h
 refine yx hn 1 ?_
 refine ys 0 ⟨lg call183 (kP _ _ _ hv2) 51⟩ ?_
 refine yS (.arr 91 (map (int .u8) ((List.replicate 16 (0:Int))))) 0 ⟨oA (bY _ zS)⟩ ?_
 refine yk [6] [16] ?_
 refine yt (6,.arr 91 (map (int .u8) v2)) 0 ⟨cj _ _ _ _ (xb.trans (congrArg some (bq hv4))) rfl rfl (fw (fun _=>rfl) _) ((bq (f:=int .u8) hv3).symm.trans (bq (f:=int .u8) hv4))⟩ ?_
 refine aV [1,51,4,5,6] ?_
 obtain ⟨v5,hv5,v6,hv6,h⟩:=eo h
 refine wb [] ?_
 refine wN [5] ?_
 refine wS (.asl 5 64) [] ⟨pF _ _ 5 64 _ underlying205 lQ rfl (by decide)⟩ ?_
 refine wK [6] [] ?_
 refine wt [(6,.any),(18,.fl .ro 1 (map (int .u8) v2))] [] ⟨mm _ _ 6 16 _ underlying91 lQ rfl (bq hv5).symm (fw (fun _=>rfl) _)⟩ ?_
 refine wK [5] [17,18] ?_
 refine wt [(5,.arr 205 (map (int .u8) (kM ((List.replicate 64 (0:Int))) v2))),(19,vi (rS ((List.replicate 64 (0:Int))) v2))] [] ⟨ul _ _ _ _ _ _ _ _ underlying28 lQ rfl (GO hv6) rfl (by decide)⟩ ?_
 refine we hn [1,51,4,5] ?_
 exact hl10 _ (zi h).symm
 obtain ⟨v7,hv7,h⟩:=zn h
 refine yx hn 0 ?_
 refine yS (.asl 5 64) 1 ⟨pF _ _ 5 64 _ underlying205 lQ rfl (by decide)⟩ ?_
 refine yk [5] [20,21] ?_
 refine nE (5,.arr 205 (map (int .u8) (kM ((List.replicate 64 (0:Int))) key))) (22,vi (rS ((List.replicate 64 (0:Int))) key)) 0 ⟨ul _ _ _ _ _ _ _ _ underlying28 lQ rfl (GO hv7) rfl (by decide)⟩ ?_
 refine ye [1,51,4,5] ?_
 exact hl10 _ (zi h).symm
theorem vZ (b:(List Int)) (r:KK) (h:Sh.mO b=some r):bM Tryz.prog 155 [.fl .shr 1 (map (int .u8) b)] (.v (.string r)):=by
 unfold Sh.mO at h
 refine yO 22 func155 fun g0 hn hio => ?_
 refine aG hn 1 [0] ?_
 refine gE hn 0 ?_
 refine yS (.hid (gV 153 5 false (map (int .u8) ([]:List Int)))) 0 ⟨oA (aJ.bld0 (aR _ _ EP))⟩ ?_
 refine aV [0,3] ?_
 refine ab ?_
 refine aG hn 3 [3,6,7,8] ?_
 refine aU h (fun ((s14,s15):(List Int)×Int)=>[(3,.hid (gV 153 5 false (map (int .u8) s14))),(6,fb b),(7,vi (b.length:Int)),(8,vi s15)]) (fun (s17:(List Int))=>[(3,.hid (gV 153 5 false (map (int .u8) s17)))]) ?_ ?_
 rintro s17 h
 refine af (ab ?_)
 obtain ⟨v25,hv25,h⟩:=zn h
 refine yx hn 0 ?_
 refine yk [3] [] ?_
 refine yt (21,vs v25) 1 ⟨lx _ _ _ _ 21 128 [.tmp 3] [] _ _ _ rfl call128 rfl rfl rfl (gv s17 _ hv25) (zl rfl) rfl rfl rfl rfl rfl rfl rfl⟩ ?_
 refine aV [2] ?_
 refine aj ?_
 obtain rfl:=zi h
 exact al hio rfl (.tmp _ _ .nil) rfl rfl
 rintro u18 hl19 hr20 ⟨s14,s15⟩ rr23 h ho21
 refine aG hn 1 [3,6,7,8,9] ?_
 refine ab ?_
 refine zc h rfl (fun h => ?_) (fun h => ?_)
 refine am ?_
 refine af (ab ?_)
 refine aC (ab ?_)
 obtain ⟨v2,hv2,v3,hv3,h⟩:=eo h
 refine yx hn 0 ?_
 refine ys 0 ⟨li hv2⟩ ?_
 refine ys 1 ⟨ll hv3⟩ ?_
 refine aV [3,6,7,8,5] ?_
 refine ab ?_
 obtain ⟨v4,hv4,v5,hv5,v6,hv6,h⟩:=rZ h
 refine yx hn 1 ?_
 refine ys 0 ⟨lB (lW hv4)⟩ ?_
 refine ys 0 ⟨lh hv5⟩ ?_
 refine yq call125 (dp _ _ _ hv6) 3 [14] 0 ?_
 refine aV [3,6,7,8,5] ?_
 obtain ⟨v7,hv7,v8,hv8,v9,hv9,h⟩:=rZ h
 refine yx hn 1 ?_
 refine ys 0 ⟨lb hv7⟩ ?_
 refine ys 0 ⟨lh hv8⟩ ?_
 refine yq call125 (dp _ _ _ hv9) 3 [18] 0 ?_
 refine ye [3,6,7,8] ?_
 refine aI (af ?_)
 obtain ⟨v10,hv10,h⟩:=zn h
 refine yx hn 0 ?_
 refine ys 0 ⟨lb hv10⟩ ?_
 refine yw [8] 1 ?_
 refine ye [3,6,7,8] ?_
 exact bc _ (zi h).symm rfl
 refine bh (ar (ar (bb ?_)))
 refine ag [0] (by kernel_rfl) (es':=[(_,_)]) rfl ?_
 exact hl19 _ (ho21 _ (zi h).symm).symm
theorem rQ (mx:Int×Nat×Value) (user:KK) (secret:KK) (challenge:KK) (r:KK) (h:Sh.kC user secret challenge=some r):ir Tryz.prog (GL mx) 133 [.v (.string user),.v (.string secret),.v (.string challenge)] (.v (.string r)):=by
 unfold Sh.kC at h
 refine yG 20 func133 fun g0 hn hio => ?_
 refine aG hn 1 [0,1,2,20] ?_
 refine ab ?_
 obtain ⟨v1,hv1,v2,hv2,v3,hv3,v4,hv4,h⟩:=ld h
 obtain ⟨v5,hv5,h⟩:=zn h
 refine yx hn 1 ?_
 refine ys 1 ⟨lT hv1⟩ ?_
 refine ys 0 ⟨lT hv2⟩ ?_
 refine ys 0 ⟨lg call154 (qK _ _ _ _ hv3) 20⟩ ?_
 refine yS (.arr 91 (map (int .u8) ((List.replicate 16 (0:Int))))) 0 ⟨oA (bY _ zS)⟩ ?_
 refine yk [7] [12] ?_
 refine yt (7,.arr 91 (map (int .u8) v3)) 0 ⟨cj _ _ _ _ (xb.trans (congrArg some (bq hv5))) rfl rfl (fw (fun _=>rfl) _) ((bq (f:=int .u8) hv4).symm.trans (bq (f:=int .u8) hv5))⟩ ?_
 refine aV [0,20,7] ?_
 refine ab ?_
 obtain ⟨v6,hv6,v7,hv7,v8,hv8,v9,hv9,h⟩:=ld h
 obtain ⟨v10,hv10,v11,hv11,h⟩:=eo h
 refine yx hn 1 ?_
 refine ys 0 ⟨lB (fZ hv6)⟩ ?_
 refine yk [7] [] ?_
 refine nE (7,.any) (15,.fl .ro 1 (map (int .u8) v3)) 0 ⟨mm _ _ 7 16 _ underlying91 lQ rfl (bq hv7).symm (fw (fun _=>rfl) _)⟩ ?_
 refine ys 0 ⟨lk call155 (vZ _ _ hv8)⟩ ?_
 refine ys 0 ⟨lB (fZ hv9)⟩ ?_
 refine ys 0 ⟨lT hv10⟩ ?_
 refine ys 1 ⟨lk call98 (kj _ _ hv11)⟩ ?_
 refine aV [20,6] ?_
 refine aj ?_
 refine ag [1] (by kernel_rfl) (es':=[(_,_)]) rfl ?_
 obtain rfl:=zi h
 exact al hio rfl (.tmp _ _ .nil) rfl rfl
theorem rP (mx:Int×Nat×Value) (user:KK) (secret:KK) (challenge:KK) (line:KK) (r:Bool) (h:Sh.jr user secret challenge line=some r):ir Tryz.prog (GL mx) 107 [.v (.string user),.v (.string secret),.v (.string challenge),.v (.string line)] (.v (.bool r)):=by
 unfold Sh.jr at h
 refine yG 15 func107 fun g0 hn hio => ?_
 refine aG hn 1 [0,1,2,3,15] ?_
 refine ab ?_
 obtain ⟨v1,hv1,h⟩:=zn h
 refine yx hn 4 ?_
 refine ys 2 ⟨lg call133 (rQ _ _ _ _ _ hv1) 15⟩ ?_
 refine aV [15,8] ?_
 refine aj ?_
 refine ag [1] (by kernel_rfl) (es':=[(_,_)]) rfl ?_
 obtain rfl:=zi h
 exact al hio rfl (.tmp _ _ .nil) rfl rfl
end Go.Proofs.YtjnnkhmhjcjhdaaGreatDoor
