import Derived.Test.YtjnnkhmhjcjhdaaGreatDoorOkc6
set_option linter.unusedVariables false
set_option linter.unusedSimpArgs false
set_option maxHeartbeats 1000000
namespace Go.Proofs.YtjnnkhmhjcjhdaaGreatDoor
open Go.Abs Go.Abs.Sh Tryz
open List (map flatten)
open Value (int)
theorem ii (s:aa) (code:Int) (r:aa) (h:Sh.cv s code=some r):oM Tryz.prog 115 [.box 80 (aa.b s),.v (.int .i64 code)] [.box 80 (aa.b r)] (.tup []):=by
 unfold Sh.cv at h
 refine yP 19 func115 fun args0 hargs0 g0 hn hio => ?_
 obtain ⟨v1,hv1,v2,hv2,h⟩:=eo h
 refine wb [[],[],[5,0],[6,0],[7,0],[0],[1]] ?_
 refine wN [9,0,10] ?_
 refine wS (.agg [vi v1.Kf,.fl (.own 9) 1 (map Value.string v1.Kr)]) [[1],[12]] ⟨vP _ 11 0 85 [.int .i64 code] _ rfl call85 rfl rfl rfl rfl (fun u=>fY u ((aa.r s)) code _ hv1) rfl rfl rfl⟩ ?_
 refine wK [11] [13] ?_
 refine wt [(14,.agg [vi v1.Kf,.fl (.own 9) 1 (map Value.string v1.Kr),vb false,vb false,vs z0,vs z0,vz,vz,vb false,vs z0,vi 0,vb (code==250)])] [] ⟨bn _ _ _ _ [2,1,8,1] _ _ underlying55 ta (BH _ underlying55) (.take _ _ (.copy _ mz.nil)) rfl rfl rfl⟩ ?_
 refine wK [14] [] ?_
 refine wt [(15,.fr (.own 55) false 12 (flatten (map ap.ienc ([(ap.mk v1 false ((aH.mk ((T_Path.mk false z0 z0)) [] [] false z0 0)) (code==250))]))))] [] ⟨kD _ _ _ 12 (.agg #[.int .i64 0,.slice none 0 0,.bool false,.bool false,.string ByteArray.empty,.string ByteArray.empty,.slice none 0 0,.slice none 0 0,.bool false,.string ByteArray.empty,.int .i64 0,.bool false]) false _ _ underlying34 wl ta rfl (.cons (.v _) (.cons (.ro _ _ rfl) (.cons (.v _) (.cons (.v _) (.cons (.v _) (.cons (.v _) (.cons (.nil 3) (.cons (.nil 1) (.cons (.v _) (.cons (.v _) (.cons (.v _) (.cons (.v _) (.nil))))))))))))) rfl (by decide) (by decide)⟩ ?_
 refine wK [0] [8,15] ?_
 refine wt [(0,.box 80 (vi s.Kk.KC::vs s.Kk.Kn::vb s.Kk.Kj.Kx::vs s.Kk.Kj.Ks::vs s.Kk.Kj.Kg::.fl (.own 26) 3 (flatten (map T_Path.enc s.Kk.To))::vb s.Kk.KE::.mkr 5 (map (int .u8) s.Kk.Kd)::vs s.Kk.Ke::vb s.Kk.KD::T_Config.c s.config [vi s.site,vi s.at_,.any])),(16,.fr (.own 55) false 12 (flatten (map ap.ienc v2)))] [[4,0],[17,0]] ⟨iG _ 16 0 19 _ _ DA rfl rfl (zl rfl) rfl (dK ap.ilen _) (dK ap.ilen _) hv2 (lC (jb hv2)) (by decide) (by decide) (by decide) rfl rfl⟩ ?_
 refine wK [8,16,0] [18] ?_
 refine wt [(0,.box 80 (vi s.Kk.KC::vs s.Kk.Kn::vb s.Kk.Kj.Kx::vs s.Kk.Kj.Ks::vs s.Kk.Kj.Kg::.fl (.own 26) 3 (flatten (map T_Path.enc s.Kk.To))::vb s.Kk.KE::.mkr 5 (map (int .u8) s.Kk.Kd)::vs s.Kk.Ke::vb s.Kk.KD::T_Config.c s.config [vi s.site,vi s.at_,.fr (.own 55) false 12 (flatten (map ap.ienc v2))]))] [] ⟨aJ.drop [_] (aM _ _ _ _ _ _ _ _ Fl rfl rfl rfl (zl rfl) rfl rfl)⟩ ?_
 refine we hn [0,0] ?_
 obtain rfl:=zi h
 exact kJ (es:=[]) (posts:=[.box 80 [.v (.int .i64 s.Kk.KC),.v (.string s.Kk.Kn),.v (.bool s.Kk.Kj.Kx),.v (.string s.Kk.Kj.Ks),.v (.string s.Kk.Kj.Kg),.fl (.own 26) 3 (flatten (map T_Path.enc s.Kk.To)),.v (.bool s.Kk.KE),.mkr 5 (map (int .u8) s.Kk.Kd),.v (.string s.Kk.Ke),.v (.bool s.Kk.KD),.v (.string ((s.config.Kh.getD 0 (⟨#[]⟩:KK)))),.v (.string ((s.config.Kh.getD 1 (⟨#[]⟩:KK)))),.v (.int .i64 s.config.Ki),.v (.string s.config.KI),.v (.string s.config.KG),.v (.int .i64 s.config.Kt),.v (.bool s.config.Km),.v (.int .i64 s.site),.v (.int .i64 s.at_),.fr (.own 55) false 12 (flatten (map ap.ienc v2))]]) hio rfl rfl .nil rfl rfl hargs0 rfl
theorem mW (s:aa) (r:(Int×aa)) (h:Sh.fy s=some r):oM Tryz.prog 117 [.box 80 (aa.b s)] [.box 80 (aa.b r.2)] (.v (.int .i64 r.1)):=by
 unfold Sh.fy at h
 refine yP 20 func117 fun args0 hargs0 g0 hn hio => ?_
 refine aG hn 1 [0,0] ?_
 refine ab (ab ?_)
 refine ay h (fun (s1:Bool)=>[(0,.box 80 (aa.b s)),(15,vb s1),(0,.v (List.getD args0 0 undef))]) ?_ ?_
 rintro s1 h
 refine af ?_
 refine zc h rfl (fun h => ?_) (fun h => ?_)
 refine aG hn 1 [0,2,0] ?_
 refine aj ?_
 refine ag [1,0,2] (by kernel_rfl) (es':=[(_,_),(_,_),(_,_)]) rfl ?_
 refine ai ?_
 obtain rfl:=zi h
 exact bp (es:=[(2,.v (.int .i64 503))]) (posts:=[.box 80 (aa.b s)]) hio rfl rfl (.tmp _ _ .nil) rfl rfl hargs0 rfl
 refine am (af ?_)
 refine aG hn 5 [0,0] ?_
 refine aG hn 1 [0,2,0] ?_
 refine aj ?_
 refine ag [1,0,2] (by kernel_rfl) (es':=[(_,_),(_,_),(_,_)]) rfl ?_
 obtain rfl:=zi h
 exact bp (es:=[(2,.v (.int .i64 334))]) (posts:=[.box 80 [.v (.int .i64 5),.v (.string s.Kk.Kn),.v (.bool s.Kk.Kj.Kx),.v (.string s.Kk.Kj.Ks),.v (.string s.Kk.Kj.Kg),.fl (.own 26) 3 (flatten (map T_Path.enc s.Kk.To)),.v (.bool s.Kk.KE),.mkr 5 (map (int .u8) s.Kk.Kd),.v (.string s.Kk.Ke),.v (.bool s.Kk.KD),.v (.string ((s.config.Kh.getD 0 (⟨#[]⟩:KK)))),.v (.string ((s.config.Kh.getD 1 (⟨#[]⟩:KK)))),.v (.int .i64 s.config.Ki),.v (.string s.config.KI),.v (.string s.config.KG),.v (.int .i64 s.config.Kt),.v (.bool s.config.Km),.v (.int .i64 s.site),.v (.int .i64 s.at_),.fr (.own 55) false 12 (flatten (map ap.ienc s.out))]]) hio rfl rfl (.tmp _ _ .nil) rfl rfl hargs0 rfl
 intro u2 h hl3 hr4
 refine ak h (fun hg1_6 h => ?_) (fun hg1_6 h => ?_)
 refine yx hn 7 ?_
 refine yd hg1_6 6 ?_
 refine ye [0,15,0] ?_
 exact hl3 _ (zi h).symm
 refine yx hn 7 ?_
 refine yd hg1_6 6 ?_
 refine ye [0,15,0] ?_
 exact hl3 _ (zi h).symm
theorem mN (s:aa) (c:bf) (r:(Int×aa)) (h:Sh.fv s c=some r):oM Tryz.prog 118 [.box 80 (aa.b s),.agg [.v (.int .i64 c.Kq),.v (.string c.KH),.v (.bool c.KB.Kx),.v (.string c.KB.Ks),.v (.string c.KB.Kg),.fl .shr 2 (flatten (map aq.enc c.KA))]] [.box 80 (aa.b r.2)] (.v (.int .i64 r.1)):=by
 unfold Sh.fv at h
 refine yP 34 func118 fun args0 hargs0 g0 hn hio => ?_
 refine aG hn 2 [0,3,0] ?_
 refine ab (aC ?_)
 refine aG hn 7 [0,3,5,0] ?_
 refine zc h rfl (fun h => ?_) (fun h => ?_)
 refine aG hn 1 [0,4,0] ?_
 refine aj ?_
 refine ag [1,0,2] (by kernel_rfl) (es':=[(_,_),(_,_),(_,_)]) rfl ?_
 refine aE (ai ?_)
 obtain rfl:=zi h
 exact bp (es:=[(4,.v (.int .i64 503))]) (posts:=[.box 80 (aa.b s)]) hio rfl rfl (.tmp _ _ .nil) rfl rfl hargs0 rfl
 refine aG hn 7 [0,3,12,0] ?_
 refine zc h rfl (fun h => ?_) (fun h => ?_)
 refine aG hn 1 [0,4,0] ?_
 refine aj ?_
 refine ag [1,0,2] (by kernel_rfl) (es':=[(_,_),(_,_),(_,_)]) rfl ?_
 refine aE (ai ?_)
 obtain rfl:=zi h
 exact bp (es:=[(4,.v (.int .i64 530))]) (posts:=[.box 80 (aa.b s)]) hio rfl rfl (.tmp _ _ .nil) rfl rfl hargs0 rfl
 refine ab ?_
 refine ay h (fun ((s4,s5,s6,s7,s8,s9,s10,s11,s12,s13,s14,s15,s16,s17,s18,s19,s20,s21,s22,s23,s24):Int×KK×Bool×KK×KK×(List T_Path)×Bool×(List Int)×KK×Bool×KK×KK×Int×KK×KK×Int×Bool×Int×Int×(List ap)×Bool)=>[(0,.box 80 [vi s4,vs s5,vb s6,vs s7,vs s8,.fl (.own 26) 3 (flatten (map T_Path.enc s9)),vb s10,.mkr 5 (map (int .u8) s11),vs s12,vb s13,vs s14,vs s15,vi s16,vs s17,vs s18,vi s19,vb s20,vi s21,vi s22,.fr (.own 55) false 12 (flatten (map ap.ienc s23))]),(19,vb s24),(0,.v (List.getD args0 0 undef))]) ?_ ?_
 rintro ⟨s4,s5,s6,s7,s8,s9,s10,s11,s12,s13,s14,s15,s16,s17,s18,s19,s20,s21,s22,s23,s24⟩ h
 refine af ?_
 refine zc h rfl (fun h => ?_) (fun h => ?_)
 refine aG hn 1 [0,4,0] ?_
 refine aj ?_
 refine ag [1,0,2] (by kernel_rfl) (es':=[(_,_),(_,_),(_,_)]) rfl ?_
 refine aE (ai ?_)
 obtain rfl:=zi h
 exact bp (es:=[(4,.v (.int .i64 450))]) (posts:=[.box 80 [.v (.int .i64 s4),.v (.string s5),.v (.bool s6),.v (.string s7),.v (.string s8),.fl (.own 26) 3 (flatten (map T_Path.enc s9)),.v (.bool s10),.mkr 5 (map (int .u8) s11),.v (.string s12),.v (.bool s13),.v (.string s14),.v (.string s15),.v (.int .i64 s16),.v (.string s17),.v (.string s18),.v (.int .i64 s19),.v (.bool s20),.v (.int .i64 s21),.v (.int .i64 s22),.fr (.own 55) false 12 (flatten (map ap.ienc s23))]]) hio rfl rfl (.tmp _ _ .nil) rfl rfl hargs0 rfl
 refine am (aI (af ?_))
 refine aG hn 5 [0,0] ?_
 refine aG hn 1 [0,4,0] ?_
 refine aj ?_
 refine ag [1,0,2] (by kernel_rfl) (es':=[(_,_),(_,_),(_,_)]) rfl ?_
 obtain rfl:=zi h
 exact bp (es:=[(4,.v (.int .i64 250))]) (posts:=[.box 80 [.v (.int .i64 6),.v (.string s5),.v (.bool s6),.v (.string s7),.v (.string s8),.fl (.own 26) 3 (flatten (map T_Path.enc s9)),.v (.bool s10),.mkr 5 (map (int .u8) s11),.v (.string s12),.v (.bool s13),.v (.string s14),.v (.string s15),.v (.int .i64 s16),.v (.string s17),.v (.string s18),.v (.int .i64 s19),.v (.bool s20),.v (.int .i64 s21),.v (.int .i64 s22),.fr (.own 55) false 12 (flatten (map ap.ienc s23))]]) hio rfl rfl (.tmp _ _ .nil) rfl rfl hargs0 rfl
 intro u25 h hl26 hr27
 refine ak h (fun hg5_3 h => ?_) (fun hg5_3 h => ?_)
 obtain ⟨v3,hv3,h⟩:=zn h
 refine yx hn 4 ?_
 refine yd hg5_3 3 ?_
 refine yQ call141 (gZ _ _ _ hv3) 0 [24,26] 3 ?_
 refine ye [0,19,0] ?_
 exact hl26 _ (zi h).symm
 refine yx hn 4 ?_
 refine yd hg5_3 7 ?_
 refine ye [0,19,0] ?_
 exact hl26 _ (zi h).symm
theorem lH (mx:Int×Nat×Value) (s:aa) (c:bf) (r:aa) (h:Sh.dR s c=some r):mL Tryz.prog (GL mx) 92 [.box 80 (aa.b s),.agg [.v (.int .i64 c.Kq),.v (.string c.KH),.v (.bool c.KB.Kx),.v (.string c.KB.Ks),.v (.string c.KB.Kg),.fl .shr 2 (flatten (map aq.enc c.KA))]] [.box 80 (aa.b r)] (.tup []):=by
 unfold Sh.dR at h
 refine CT 94 func92 fun args0 hargs0 g0 hn hio => ?_
 refine aG hn 1 [0,94,3,0] ?_
 refine aG hn 2 [0,94,3,5,0] ?_
 refine ay h (fun ((s37,s38,s39,s40,s41,s42,s43,s44,s45,s46,s47,s48,s49,s50,s51,s52,s53,s54,s55,s56):aa.t)=>[(0,.box 80 [vi s37,vs s38,vb s39,vs s40,vs s41,.fl (.own 26) 3 (flatten (map T_Path.enc s42)),vb s43,.mkr 5 (map (int .u8) s44),vs s45,vb s46,vs s47,vs s48,vi s49,vs s50,vs s51,vi s52,vb s53,vi s54,vi s55,.fr (.own 55) false 12 (flatten (map ap.ienc s56))]),(94,.glob (GL mx)),(0,.v (List.getD args0 0 undef))]) ?_ ?_
 rintro ⟨s37,s38,s39,s40,s41,s42,s43,s44,s45,s46,s47,s48,s49,s50,s51,s52,s53,s54,s55,s56⟩ h
 refine ag [0,2] (by kernel_rfl) (es':=[(_,_),(_,_)]) rfl ?_
 obtain rfl:=zi h
 exact kJ (es:=[]) (posts:=[.box 80 [.v (.int .i64 s37),.v (.string s38),.v (.bool s39),.v (.string s40),.v (.string s41),.fl (.own 26) 3 (flatten (map T_Path.enc s42)),.v (.bool s43),.mkr 5 (map (int .u8) s44),.v (.string s45),.v (.bool s46),.v (.string s47),.v (.string s48),.v (.int .i64 s49),.v (.string s50),.v (.string s51),.v (.int .i64 s52),.v (.bool s53),.v (.int .i64 s54),.v (.int .i64 s55),.fr (.own 55) false 12 (flatten (map ap.ienc s56))]]) hio rfl rfl .nil rfl rfl hargs0 rfl
 intro u57 h hl58 hr59
 refine aC ?_
 refine aG hn 2 [0,94,3,5,6,0] ?_
 refine zc h rfl (fun h => ?_) (fun h => ?_)
 refine ab ?_
 refine wb [[],[],[3],[10,3],[8,0],[12,0],[13,0]] ?_
 refine wK [0] [14] ?_
 refine wt [(0,.box 80 (vi 1::vs s.Kk.Kn::vb s.Kk.Kj.Kx::vs s.Kk.Kj.Ks::vs s.Kk.Kj.Kg::.fl (.own 26) 3 (flatten (map T_Path.enc s.Kk.To))::vb s.Kk.KE::.mkr 5 (map (int .u8) s.Kk.Kd)::vs s.Kk.Ke::vb s.Kk.KD::T_Config.c s.config [vi s.site,vi s.at_,.fr (.own 55) false 12 (flatten (map ap.ienc s.out))]))] [[9,0],[15,0],[16,0]] ⟨dD _ _ _ _ _ _ _ _ FS rfl rfl rfl rfl (zl rfl) rfl rfl⟩ ?_
 refine wK [0] [17,11] ?_
 refine wt [(0,.box 80 (vi 1::vs c.KH::vb s.Kk.Kj.Kx::vs s.Kk.Kj.Ks::vs s.Kk.Kj.Kg::.fl (.own 26) 3 (flatten (map T_Path.enc s.Kk.To))::vb s.Kk.KE::.mkr 5 (map (int .u8) s.Kk.Kd)::vs s.Kk.Ke::vb s.Kk.KD::T_Config.c s.config [vi s.site,vi s.at_,.fr (.own 55) false 12 (flatten (map ap.ienc s.out))]))] [] ⟨dD _ _ _ _ _ _ _ _ rL rfl rfl rfl rfl (zl rfl) rfl rfl⟩ ?_
 refine sF hn [0,94,0] ?_
 refine ab ?_
 obtain ⟨v2,hv2,h⟩:=zn h
 refine yx hn 1 ?_
 refine yQ call88 (ft _ _ hv2) 0 [18] 0 ?_
 refine aV [0,94,0] ?_
 obtain ⟨v3,hv3,h⟩:=zn h
 refine yx hn 1 ?_
 refine yQ call76 (aS _ _ _ hv3) 0 [20] 0 ?_
 refine ye [0,94,0] ?_
 refine aI ?_
 exact hl58 _ (zi h).symm
 refine aG hn 2 [0,94,3,5,22,0] ?_
 refine zc h rfl (fun h => ?_) (fun h => ?_)
 refine ab ?_
 refine ay h (fun (s63:Int)=>[(0,.box 80 (vi s63::vs s.Kk.Kn::vb s.Kk.Kj.Kx::vs s.Kk.Kj.Ks::vs s.Kk.Kj.Kg::.fl (.own 26) 3 (flatten (map T_Path.enc s.Kk.To))::vb s.Kk.KE::.mkr 5 (map (int .u8) s.Kk.Kd)::vs s.Kk.Ke::vb s.Kk.KD::T_Config.c s.config [vi s.site,vi s.at_,.fr (.own 55) false 12 (flatten (map ap.ienc s.out))])),(94,.glob (GL mx)),(0,.v (List.getD args0 0 undef))]) ?_ ?_
 rintro s63 h
 refine af (ab ?_)
 obtain ⟨v11,hv11,h⟩:=zn h
 refine yx hn 1 ?_
 refine yQ call88 (ft _ _ hv11) 0 [34] 0 ?_
 refine aV [0,94,0] ?_
 obtain ⟨v12,hv12,h⟩:=zn h
 refine yx hn 1 ?_
 refine yQ call76 (aS _ _ _ hv12) 0 [36] 0 ?_
 refine ye [0,94,0] ?_
 refine aI ?_
 exact hl58 _ (zi h).symm
 intro u64 h hl65 hr66
 refine aG hn 6 [0,94,29,0] ?_
 refine zc h rfl (fun h => ?_) (fun h => ?_)
 refine yy hn 5 [0,94,0] ?_
 exact hl65 _ (zi h).symm
 refine am ?_
 refine ag [0,1,3] (by kernel_rfl) (es':=[(_,_),(_,_),(_,_)]) rfl ?_
 exact hl65 _ (zi h).symm
 refine aG hn 2 [0,94,3,5,38,0] ?_
 refine zc h rfl (fun h => ?_) (fun h => ?_)
 obtain ⟨v14,hv14,h⟩:=zn h
 refine yx hn 1 ?_
 refine yQ call76 (aS _ _ _ hv14) 0 [40] 0 ?_
 refine ye [0,94,0] ?_
 refine aI ?_
 exact hl58 _ (zi h).symm
 refine aG hn 2 [0,94,3,5,42,0] ?_
 refine zc h rfl (fun h => ?_) (fun h => ?_)
 obtain ⟨v16,hv16,h⟩:=zn h
 refine yx hn 1 ?_
 refine yQ call76 (aS _ _ _ hv16) 0 [44] 0 ?_
 refine ye [0,94,0] ?_
 refine aI ?_
 exact hl58 _ (zi h).symm
 refine aG hn 2 [0,94,3,5,46,0] ?_
 refine zc h rfl (fun h => ?_) (fun h => ?_)
 refine aG hn 5 [0,94,0] ?_
 obtain ⟨v18,hv18,h⟩:=zn h
 refine yx hn 1 ?_
 refine yQ call76 (aS _ _ _ hv18) 0 [52] 0 ?_
 refine ye [0,94,0] ?_
 refine aI ?_
 exact hl58 _ (zi h).symm
 refine aG hn 2 [0,94,3,5,54,0] ?_
 refine zc h rfl (fun h => ?_) (fun h => ?_)
 obtain ⟨v20,hv20,v21,hv21,h⟩:=eo h
 refine yx hn 3 ?_
 refine yk [0] [57,58,94] ?_
 refine nE (0,.box 80 (aa.b v20.2)) (59,vi v20.1) 0 ⟨eS _ _ _ _ 59 94 112 [.tmp 57] [.tmp 58] _ _ _ rfl call112 rfl rfl rfl rfl (fun _ h=>h) (mG mx ((aa.r s)) ((bf.mk c.Kq c.KH (T_Path.mk c.KB.Kx c.KB.Ks c.KB.Kg) c.KA)) _ hv20) (zl rfl) rfl rfl rfl rfl rfl rfl rfl⟩ ?_
 refine yQ call76 (aS _ _ _ hv21) 0 [56,59] 0 ?_
 refine ye [0,94,0] ?_
 refine aI ?_
 exact hl58 _ (zi h).symm
 refine aG hn 2 [0,94,3,5,61,0] ?_
 refine zc h rfl (fun h => ?_) (fun h => ?_)
 obtain ⟨v23,hv23,v24,hv24,h⟩:=eo h
 refine yx hn 3 ?_
 refine yk [0] [64,65,94] ?_
 refine nE (0,.box 80 (aa.b v23.2)) (66,vi v23.1) 0 ⟨eS _ _ _ _ 66 94 113 [.tmp 64] [.tmp 65] _ _ _ rfl call113 rfl rfl rfl rfl (fun _ h=>h) (nD mx ((aa.r s)) ((bf.mk c.Kq c.KH (T_Path.mk c.KB.Kx c.KB.Ks c.KB.Kg) c.KA)) _ hv23) (zl rfl) rfl rfl rfl rfl rfl rfl rfl⟩ ?_
 refine yQ call76 (aS _ _ _ hv24) 0 [63,66] 0 ?_
 refine ye [0,94,0] ?_
 refine aI ?_
 exact hl58 _ (zi h).symm
 refine aG hn 2 [0,94,3,5,68,0] ?_
 refine zc h rfl (fun h => ?_) (fun h => ?_)
 obtain ⟨v26,hv26,v27,hv27,h⟩:=eo h
 refine yx hn 2 ?_
 refine yQ call114 (mB _ _ hv26) 0 [71] 0 ?_
 refine yQ call76 (aS _ _ _ hv27) 0 [70,72] 0 ?_
 refine ye [0,94,0] ?_
 refine aI ?_
 exact hl58 _ (zi h).symm
 refine aG hn 2 [0,94,3,5,74,0] ?_
 refine zc h rfl (fun h => ?_) (fun h => ?_)
 obtain ⟨v29,hv29,v30,hv30,h⟩:=eo h
 refine yx hn 3 ?_
 refine yQ call116 (mZ _ _ _ hv29) 0 [77,78] 0 ?_
 refine yQ call115 (ii _ _ _ hv30) 0 [76,79] 0 ?_
 refine ye [0,94,0] ?_
 refine aI ?_
 exact hl58 _ (zi h).symm
 refine aG hn 2 [0,94,3,5,81,0] ?_
 refine zc h rfl (fun h => ?_) (fun h => ?_)
 obtain ⟨v32,hv32,v33,hv33,h⟩:=eo h
 refine yx hn 2 ?_
 refine yQ call117 (mW _ _ hv32) 0 [84] 0 ?_
 refine yQ call76 (aS _ _ _ hv33) 0 [83,85] 0 ?_
 refine ye [0,94,0] ?_
 refine aI ?_
 exact hl58 _ (zi h).symm
 refine aG hn 2 [0,94,3,87,0] ?_
 refine zc h rfl (fun h => ?_) (fun h => ?_)
 obtain ⟨v35,hv35,v36,hv36,h⟩:=eo h
 refine yx hn 3 ?_
 refine yQ call118 (mN _ _ _ hv35) 0 [90,91] 0 ?_
 refine yQ call115 (ii _ _ _ hv36) 0 [89,92] 0 ?_
 refine ye [0,94,0] ?_
 refine aI ?_
 exact hl58 _ (zi h).symm
 refine am (aI ?_)
 refine ag [0,1,4] (by kernel_rfl) (es':=[(_,_),(_,_),(_,_)]) rfl ?_
 exact hl58 _ (zi h).symm
theorem nc (mx:Int×Nat×Value) (s:aa) (line:KK) (r:aa) (h:Sh.fA s line=some r):mL Tryz.prog (GL mx) 75 [.box 80 (aa.b s),.v (.string line)] [.box 80 (aa.b r)] (.tup []):=by
 unfold Sh.fA at h
 refine CT 31 func75 fun args0 hargs0 g0 hn hio => ?_
 refine aG hn 5 [0,1,31,10,0] ?_
 refine ay h (fun ((s8,s9,s10,s11,s12,s13,s14,s15,s16,s17,s18,s19,s20,s21,s22,s23,s24,s25,s26,s27):aa.t)=>[(0,.box 80 [vi s8,vs s9,vb s10,vs s11,vs s12,.fl (.own 26) 3 (flatten (map T_Path.enc s13)),vb s14,.mkr 5 (map (int .u8) s15),vs s16,vb s17,vs s18,vs s19,vi s20,vs s21,vs s22,vi s23,vb s24,vi s25,vi s26,.fr (.own 55) false 12 (flatten (map ap.ienc s27))]),(31,.glob (GL mx)),(0,.v (List.getD args0 0 undef))]) ?_ ?_
 rintro ⟨s8,s9,s10,s11,s12,s13,s14,s15,s16,s17,s18,s19,s20,s21,s22,s23,s24,s25,s26,s27⟩ h
 refine ag [0,2] (by kernel_rfl) (es':=[(_,_),(_,_)]) rfl ?_
 obtain rfl:=zi h
 exact kJ (es:=[]) (posts:=[.box 80 [.v (.int .i64 s8),.v (.string s9),.v (.bool s10),.v (.string s11),.v (.string s12),.fl (.own 26) 3 (flatten (map T_Path.enc s13)),.v (.bool s14),.mkr 5 (map (int .u8) s15),.v (.string s16),.v (.bool s17),.v (.string s18),.v (.string s19),.v (.int .i64 s20),.v (.string s21),.v (.string s22),.v (.int .i64 s23),.v (.bool s24),.v (.int .i64 s25),.v (.int .i64 s26),.fr (.own 55) false 12 (flatten (map ap.ienc s27))]]) hio rfl rfl .nil rfl rfl hargs0 rfl
 intro u28 h hl29 hr30
 refine aC ?_
 refine aG hn 2 [0,1,31,10,24,0] ?_
 refine zc h rfl (fun h => ?_) (fun h => ?_)
 refine am (aI ?_)
 refine ag [0,2,5] (by kernel_rfl) (es':=[(_,_),(_,_),(_,_)]) rfl ?_
 exact hl29 _ (zi h).symm
 refine aG hn 2 [0,1,31,26,0] ?_
 refine zc h rfl (fun h => ?_) (fun h => ?_)
 obtain ⟨v3,hv3,h⟩:=zn h
 refine yx hn 2 ?_
 refine yk [0] [28,29,31] ?_
 refine nE (0,.box 80 (aa.b v3)) (30,.tup []) 0 ⟨eS _ _ _ _ 30 31 90 [.tmp 28] [.tmp 29] _ _ _ rfl call90 rfl rfl rfl rfl (fun _ h=>h) (mv mx ((aa.r s)) line _ hv3) (zl rfl) rfl rfl rfl rfl rfl rfl rfl⟩ ?_
 refine ye [0,31,0] ?_
 refine aI ?_
 exact hl29 _ (zi h).symm
 refine ab ?_
 obtain ⟨v4,hv4,h⟩:=zn h
 refine yx hn 1 ?_
 refine ys 0 ⟨lg call91 (tc _ _ _ hv4) 31⟩ ?_
 refine ym 0 ?_
 refine yS (.agg [vi v4.1.Kq,vs v4.1.KH,vb v4.1.KB.Kx,vs v4.1.KB.Ks,vs v4.1.KB.Kg,.fl .ro 2 (flatten (map aq.enc v4.1.KA))]) 1 ⟨fj _ _ _ _ _ _ rfl rfl (zl rfl) rfl rfl⟩ ?_
 refine yS (.box 122 [vi 0,vs z0,vb false,vs z0,vs z0,vz]) 2 ⟨oA (aR _ _ lf)⟩ ?_
 refine aV [0,31,4,5,0] ?_
 refine ab ?_
 refine aG hn 2 [0,31,4,5,17,0] ?_
 refine zc h rfl (fun h => ?_) (fun h => ?_)
 refine ab ?_
 obtain ⟨v6,hv6,h⟩:=zn h
 refine yx hn 2 ?_
 refine yQ call76 (aS _ _ _ hv6) 0 [18,19] 0 ?_
 refine aV [0,31,0] ?_
 refine aj ?_
 refine ag [0,2] (by kernel_rfl) (es':=[(_,_),(_,_)]) rfl ?_
 refine ai (aE ?_)
 have h:=hr30 _ (zi h).symm
 obtain rfl:=zi h
 exact bp (es:=[]) (posts:=[.box 80 (aa.b v6)]) hio rfl rfl .nil rfl rfl hargs0 rfl
 refine am (af ?_)
 obtain ⟨v7,hv7,h⟩:=zn h
 refine yx hn 2 ?_
 refine yk [0] [21,22,31] ?_
 refine nE (0,.box 80 (aa.b v7)) (23,.tup []) 0 ⟨eS _ _ _ _ 23 31 92 [.tmp 21] [.tmp 22] _ _ _ rfl call92 rfl rfl rfl rfl (fun _ h=>h) (lH mx ((aa.r s)) ((bf.mk v4.1.Kq v4.1.KH (T_Path.mk v4.1.KB.Kx v4.1.KB.Ks v4.1.KB.Kg) v4.1.KA)) _ hv7) (zl rfl) rfl rfl rfl rfl rfl rfl rfl⟩ ?_
 refine ye [0,31,0] ?_
 refine aI ?_
 exact hl29 _ (zi h).symm
theorem nf (mx:Int×Nat×Value) (s:aa) (r:(Bool×aa)) (h:Sh.cF s=some r):mL Tryz.prog (GL mx) 62 [.box 80 (aa.b s)] [.box 80 (aa.b r.2)] (.v (.bool r.1)):=by
 unfold Sh.cF at h
 refine CT 55 func62 fun args0 hargs0 g0 hn hio => ?_
 refine aG hn 1 [0,55,0] ?_
 refine ab ?_
 refine aG hn 6 [0,55,11,0] ?_
 refine zd h rfl (fun hb1 h => ?_) (fun hb1 h => ?_)
 refine ab ?_
 obtain ⟨v2,hv2,h⟩:=zn h
 refine yx hn 1 ?_
 refine yk [0] [12,55] ?_
 refine nE (0,.box 80 (aa.b v2.2)) (13,vb v2.1) 1 ⟨eS _ _ _ _ 13 55 73 [.tmp 12] [] _ _ _ rfl call73 rfl rfl rfl rfl (fun _ h=>h) (np mx ((aa.r s)) _ hv2) (zl rfl) rfl rfl rfl rfl rfl rfl rfl⟩ ?_
 refine aV [0,55,2,0] ?_
 refine aj ?_
 refine ag [2,0,3] (by kernel_rfl) (es':=[(_,_),(_,_),(_,_)]) rfl ?_
 refine ai ?_
 obtain rfl:=zi h
 exact bp (es:=[(2,.v (.bool v2.1))]) (posts:=[.box 80 (aa.b v2.2)]) hio rfl rfl (.tmp _ _ .nil) rfl rfl hargs0 rfl
 refine am ?_
 refine af (ab ?_)
 obtain ⟨v3,hv3,h⟩:=zn h
 refine yx hn 5 ?_
 refine yS (.fl (.own 5) 1 (map (int .u8) [13,10])) 0 ⟨bi _ _ 1 (.int .u8 0) (map (int .u8) [13,10]) [(0,.int .u8 13),(1,.int .u8 10)] underlying28 lQ uA (fun _ V w o a hv hes=>by simp only [List.map_toArray,List.map_cons,List.map_nil]; try rfl) (dn (by simp [Instr.fill,Value.cells]; rfl) (by simp [List.range,List.range.loop] <;> rfl)) (by simp [Value.oneCell']) rfl (by decide) (by decide) (by decide)⟩ ?_
 refine yk [20] [] ?_
 refine yt (21,.fl .ro 1 (map (int .u8) [13,10])) 0 ⟨gn _ _ _ underlying28 underlying5 (by intro h; cases h)⟩ ?_
 refine yX (e:=5) 22 64 0 7 s.Kk.Kd [13,10] (fun ca22 cc22=>[.v (.int .i64 s.Kk.KC),.v (.string s.Kk.Kn),.v (.bool s.Kk.Kj.Kx),.v (.string s.Kk.Kj.Ks),.v (.string s.Kk.Kj.Kg),.fl (.own 26) 3 (flatten (map T_Path.enc s.Kk.To)),.v (.bool s.Kk.KE),.v (.slice ca22 (s.Kk.Kd.length) cc22),.v (.string s.Kk.Ke),.v (.bool s.Kk.KD),.v (.string ((s.config.Kh.getD 0 (⟨#[]⟩:KK)))),.v (.string ((s.config.Kh.getD 1 (⟨#[]⟩:KK)))),.v (.int .i64 s.config.Ki),.v (.string s.config.KI),.v (.string s.config.KG),.v (.int .i64 s.config.Kt),.v (.bool s.config.Km),.v (.int .i64 s.site),.v (.int .i64 s.at_),.fr (.own 55) false 12 (flatten (map ap.ienc s.out))]) ?_ (fun ca22 cc22 => ?_)
 exact Gi _ 22 0 64 7 (gln:=55) _ _ rfl call74 Dz rfl (uv mx) rfl rfl rfl (zl rfl) rfl (qV hv3).1 (qV hv3).2.1 (qV hv3).2.2.1 (qV hv3).2.2.2 (Nat.ne_of_beq_eq_false rfl) rfl
 refine yw [] 0 ?_
 refine ym 6 ?_
 refine aV [0,55,64,3,4,5,0] ?_
 refine ab ?_
 refine aG hn 1 [0,55,64,3,4,26,0] ?_
 refine zd h rfl (fun hb4 h => ?_) (fun hb4 h => ?_)
 refine aG hn 6 [0,55,64,3,0] ?_
 refine ab ?_
 obtain ⟨v5,hv5,v6,hv6,h⟩:=eo h
 refine yx hn 2 ?_
 refine yS (vs v5) 0 ⟨lP 64 hv5 underlying28 underlying9 underlying5 rfl rfl (FL _ _) rfl⟩ ?_
 refine wc (gs:=64) (t:=0) (cs':=[.v (.int .i64 s.Kk.KC),.v (.string s.Kk.Kn),.v (.bool s.Kk.Kj.Kx),.v (.string s.Kk.Kj.Ks),.v (.string s.Kk.Kj.Kg),.fl (.own 26) 3 (flatten (map T_Path.enc s.Kk.To)),.v (.bool s.Kk.KE),.mkr 5 (map (int .u8) (wZ s.Kk.Kd [13,10])),.v (.string s.Kk.Ke),.v (.bool s.Kk.KD),.v (.string ((s.config.Kh.getD 0 (⟨#[]⟩:KK)))),.v (.string ((s.config.Kh.getD 1 (⟨#[]⟩:KK)))),.v (.int .i64 s.config.Ki),.v (.string s.config.KI),.v (.string s.config.KG),.v (.int .i64 s.config.Kt),.v (.bool s.config.Km),.v (.int .i64 s.site),.v (.int .i64 s.at_),.fr (.own 55) false 12 (flatten (map ap.ienc s.out))]) 7 (map (int .u8) (wZ s.Kk.Kd [13,10])) (zl rfl) rfl (fun _ h=>Eb (by assumption) h) (fun _=>yf) (En _ _ _ _ _ _ _) rfl ?_
 refine yw [] 0 ?_
 refine yk [0] [32,34,55] ?_
 refine nE (0,.box 80 (aa.b v6)) (35,.tup []) 0 ⟨eS _ _ _ _ 35 55 75 [.tmp 32] [.tmp 34] _ _ _ rfl call75 rfl rfl rfl rfl (fun _ h=>h) (nc mx ((aa.mk ((T_Gate.mk s.Kk.KC s.Kk.Kn (T_Path.mk s.Kk.Kj.Kx s.Kk.Kj.Ks s.Kk.Kj.Kg) s.Kk.To s.Kk.KE (wZ s.Kk.Kd [13,10]) s.Kk.Ke s.Kk.KD)) ((T_Config.mk (([(s.config.Kh.getD 0 z0),(s.config.Kh.getD 1 z0)]:List KK)) s.config.Ki s.config.KI s.config.KG s.config.Kt s.config.Km)) s.site s.at_ s.out)) v5 _ hv6) (zl rfl) rfl rfl rfl rfl rfl rfl rfl⟩ ?_
 refine aV [0,55,0] ?_
 refine aG hn 1 [0,55,2,0] ?_
 refine aj ?_
 refine ag [2,0,3] (by kernel_rfl) (es':=[(_,_),(_,_),(_,_)]) rfl ?_
 refine ai ?_
 obtain rfl:=zi h
 exact bp (es:=[(2,.v (.bool true))]) (posts:=[.box 80 (aa.b v6)]) hio rfl rfl (.tmp _ _ .nil) rfl rfl hargs0 rfl
 refine am ?_
 refine af (ab ?_)
 refine gE hn 0 ?_
 refine wc (gs:=64) (t:=0) (cs':=(aa.b s)) 7 (map (int .u8) s.Kk.Kd) (zl rfl) rfl (fun _ h=>h) (fun _=>yf) (.inr rfl) rfl ?_
 refine yw [] 5 ?_
 refine yS (vi (s.Kk.Kd.length:Int)) 1 ⟨nF _ _ _ underlying28 rfl (List.length_map _)⟩ ?_
 refine aV [0,55,42,0] ?_
 refine zd h rfl (fun hb7 h => ?_) (fun hb7 h => ?_)
 refine aG hn 1 [0,55,2,0] ?_
 refine aj ?_
 refine ag [2,0,3] (by kernel_rfl) (es':=[(_,_),(_,_),(_,_)]) rfl ?_
 refine ai ?_
 obtain rfl:=zi h
 exact bp (es:=[(2,.v (.bool false))]) (posts:=[.box 80 (aa.b s)]) hio rfl rfl (.tmp _ _ .nil) rfl rfl hargs0 rfl
 refine am (af ?_)
 refine aG hn 5 [0,55,0] ?_
 refine ab ?_
 refine ay h (fun ((s10,s11,s12,s13,s14,s15,s16,s17,s18,s19,s20,s21,s22,s23,s24,s25,s26,s27,s28,s29):aa.t)=>[(0,.box 80 [vi s10,vs s11,vb s12,vs s13,vs s14,.fl (.own 26) 3 (flatten (map T_Path.enc s15)),vb s16,.mkr 5 (map (int .u8) s17),vs s18,vb s19,vs s20,vs s21,vi s22,vs s23,vs s24,vi s25,vb s26,vi s27,vi s28,.fr (.own 55) false 12 (flatten (map ap.ienc s29))]),(55,.glob (GL mx)),(0,.v (List.getD args0 0 undef))]) ?_ ?_
 rintro ⟨s10,s11,s12,s13,s14,s15,s16,s17,s18,s19,s20,s21,s22,s23,s24,s25,s26,s27,s28,s29⟩ h
 refine af ?_
 refine aG hn 1 [0,55,2,0] ?_
 refine aj ?_
 refine ag [2,0,3] (by kernel_rfl) (es':=[(_,_),(_,_),(_,_)]) rfl ?_
 obtain rfl:=zi h
 exact bp (es:=[(2,.v (.bool true))]) (posts:=[.box 80 [.v (.int .i64 s10),.v (.string s11),.v (.bool s12),.v (.string s13),.v (.string s14),.fl (.own 26) 3 (flatten (map T_Path.enc s15)),.v (.bool s16),.mkr 5 (map (int .u8) s17),.v (.string s18),.v (.bool s19),.v (.string s20),.v (.string s21),.v (.int .i64 s22),.v (.string s23),.v (.string s24),.v (.int .i64 s25),.v (.bool s26),.v (.int .i64 s27),.v (.int .i64 s28),.fr (.own 55) false 12 (flatten (map ap.ienc s29))]]) hio rfl rfl (.tmp _ _ .nil) rfl rfl hargs0 rfl
 intro u30 h hl31 hr32
 refine aG hn 6 [0,55,52,0] ?_
 refine zd h rfl (fun hb33 h => ?_) (fun hb33 h => ?_)
 obtain ⟨v9,hv9,h⟩:=zn h
 refine yx hn 1 ?_
 refine yk [0] [53] ?_
 refine nE (0,.box 80 (aa.b v9)) (54,.tup []) 0 ⟨sd _ _ _ _ 54 76 [.tmp 53] [_] _ _ _ rfl call76 rfl rfl rfl ((aS ((aa.mk ((T_Gate.mk s.Kk.KC s.Kk.Kn (T_Path.mk s.Kk.Kj.Kx s.Kk.Kj.Ks s.Kk.Kj.Kg) s.Kk.To s.Kk.KE [] s.Kk.Ke s.Kk.KD)) ((T_Config.mk (([(s.config.Kh.getD 0 z0),(s.config.Kh.getD 1 z0)]:List KK)) s.config.Ki s.config.KI s.config.KG s.config.Kt s.config.Km)) s.site s.at_ s.out)) 500 _ hv9).args (ae (yM (ae (ah _) (ae (ah _) (ae (ah _) (ae (ah _) (ae (ah _) (ae (ah _) (ae (ah _) (ae (fX 5) (ae (ah _) (ae (ah _) (ae (ah _) (ae (ah _) (ae (ah _) (ae (ah _) (ae (ah _) (ae (ah _) (ae (ah _) (ae (ah _) (ae (ah _) (ae (ah _) (bj)))))))))))))))))))))) (ae (ah _) (bj)))) (zl rfl) rfl rfl rfl rfl rfl rfl rfl rfl⟩ ?_
 refine ye [0,55,0] ?_
 exact hl31 _ (zi h).symm
 refine am ?_
 refine ag [0,1,3] (by kernel_rfl) (es':=[(_,_),(_,_),(_,_)]) rfl ?_
 refine cm (fs:=[(0,.box 80 (vi s.Kk.KC::vs s.Kk.Kn::vb s.Kk.Kj.Kx::vs s.Kk.Kj.Ks::vs s.Kk.Kj.Kg::.fl (.own 26) 3 (flatten (map T_Path.enc s.Kk.To))::vb s.Kk.KE::.mkr 5 (map (int .u8) [])::vs s.Kk.Ke::vb s.Kk.KD::T_Config.c s.config [vi s.site,vi s.at_,.fr (.own 55) false 12 (flatten (map ap.ienc s.out))])),(55,.glob (GL mx)),(0,.v (List.getD args0 0 undef))]) (.box _ _ (ae (ah _) (ae (ah _) (ae (ah _) (ae (ah _) (ae (ah _) (ae (ah _) (ae (ah _) (ae (fX 5) (ae (ah _) (ae (ah _) (ae (ah _) (ae (ah _) (ae (ah _) (ae (ah _) (ae (ah _) (ae (ah _) (ae (ah _) (ae (ah _) (ae (ah _) (ae (ah _) (bj))))))))))))))))))))) rfl (.same _ (.same _ .nil))) ?_
 exact hl31 _ (zi h).symm
theorem nN (mx:Int×Nat×Value) (s:aa) (r:aa) (h:Sh.bZ s=some r):mL Tryz.prog (GL mx) 39 [.box 80 (aa.b s)] [.box 80 (aa.b r)] (.tup []):=by
 unfold Sh.bZ at h
 refine CT 4 func39 fun args0 hargs0 g0 hn hio => ?_
 refine aU h (fun ((s24,s25,s26,s27,s28,s29,s30,s31,s32,s33,s34,s35,s36,s37,s38,s39,s40,s41,s42,s43):aa.t)=>[(0,.box 80 [vi s24,vs s25,vb s26,vs s27,vs s28,.fl (.own 26) 3 (flatten (map T_Path.enc s29)),vb s30,.mkr 5 (map (int .u8) s31),vs s32,vb s33,vs s34,vs s35,vi s36,vs s37,vs s38,vi s39,vb s40,vi s41,vi s42,.fr (.own 55) false 12 (flatten (map ap.ienc s43))]),(0,.v (List.getD args0 0 undef)),(4,.glob (GL mx))]) (fun ((s45,s46,s47,s48,s49,s50,s51,s52,s53,s54,s55,s56,s57,s58,s59,s60,s61,s62,s63,s64):aa.t)=>[(0,.box 80 [vi s45,vs s46,vb s47,vs s48,vs s49,.fl (.own 26) 3 (flatten (map T_Path.enc s50)),vb s51,.mkr 5 (map (int .u8) s52),vs s53,vb s54,vs s55,vs s56,vi s57,vs s58,vs s59,vi s60,vb s61,vi s62,vi s63,.fr (.own 55) false 12 (flatten (map ap.ienc s64))]),(4,.glob (GL mx)),(0,.v (List.getD args0 0 undef))]) ?_ ?_
 rintro ⟨s45,s46,s47,s48,s49,s50,s51,s52,s53,s54,s55,s56,s57,s58,s59,s60,s61,s62,s63,s64⟩ h
 refine ag [0,2] (by kernel_rfl) (es':=[(_,_),(_,_)]) rfl ?_
 obtain rfl:=zi h
 exact kJ (es:=[]) (posts:=[.box 80 [.v (.int .i64 s45),.v (.string s46),.v (.bool s47),.v (.string s48),.v (.string s49),.fl (.own 26) 3 (flatten (map T_Path.enc s50)),.v (.bool s51),.mkr 5 (map (int .u8) s52),.v (.string s53),.v (.bool s54),.v (.string s55),.v (.string s56),.v (.int .i64 s57),.v (.string s58),.v (.string s59),.v (.int .i64 s60),.v (.bool s61),.v (.int .i64 s62),.v (.int .i64 s63),.fr (.own 55) false 12 (flatten (map ap.ienc s64))]]) hio rfl rfl .nil rfl rfl hargs0 rfl
 rintro u65 hl66 hr67 ⟨s24,s25,s26,s27,s28,s29,s30,s31,s32,s33,s34,s35,s36,s37,s38,s39,s40,s41,s42,s43⟩ rr70 h ho68
 refine ab (ab ?_)
 obtain ⟨v1,hv1,h⟩:=zn h
 refine yx hn 1 ?_
 refine yk [0] [2,4] ?_
 refine nE (0,.box 80 (aa.b v1.2)) (3,vb v1.1) 0 ⟨eS _ _ _ _ 3 4 62 [.tmp 2] [] _ _ _ rfl call62 rfl rfl rfl rfl (fun _ h=>h) (nf mx ((aa.mk ((T_Gate.mk s24 s25 (T_Path.mk s26 s27 s28) s29 s30 s31 s32 s33)) ((T_Config.mk ([s34,s35]:List KK) s36 s37 s38 s39 s40)) s41 s42 s43)) _ hv1) (zl rfl) rfl rfl rfl rfl rfl rfl rfl⟩ ?_
 refine aV [0,4,3,0] ?_
 refine zc h rfl (fun h => ?_) (fun h => ?_)
 refine am (af (aC (am (aI ?_))))
 refine ag [0,3,1] (by kernel_rfl) (es':=[(_,_),(_,_),(_,_)]) rfl ?_
 exact bc _ (zi h).symm rfl
 refine bh (ar (ar (bb ?_)))
 refine ag [0,1,3] (by kernel_rfl) (es':=[(_,_),(_,_),(_,_)]) rfl ?_
 exact hl66 _ (ho68 _ (zi h).symm).symm
theorem mb (mx:Int×Nat×Value) (c:T_Config) (i:Int) (at_:Int) (g:T_Gate) (b:(List Int)) (r:(T_Gate×(List ap)×Int)) (h:Sh.dL c i at_ g b=some r):ir Tryz.prog (GL mx) 13 [.agg [.v (.string ((c.Kh.getD 0 (⟨#[]⟩:KK)))),.v (.string ((c.Kh.getD 1 (⟨#[]⟩:KK)))),.v (.int .i64 c.Ki),.v (.string c.KI),.v (.string c.KG),.v (.int .i64 c.Kt),.v (.bool c.Km)],.v (.int .i64 i),.v (.int .i64 at_),.agg [.v (.int .i64 g.KC),.v (.string g.Kn),.v (.bool g.Kj.Kx),.v (.string g.Kj.Ks),.v (.string g.Kj.Kg),.fl .shr 3 (flatten (map T_Path.enc g.To)),.v (.bool g.KE),.fl .shr 1 (map (int .u8) g.Kd),.v (.string g.Ke),.v (.bool g.KD)],.fl .shr 1 (map (int .u8) b)] (.tup [.agg [.v (.int .i64 r.1.KC),.v (.string r.1.Kn),.v (.bool r.1.Kj.Kx),.v (.string r.1.Kj.Ks),.v (.string r.1.Kj.Kg),.fl .ro 3 (flatten (map T_Path.enc r.1.To)),.v (.bool r.1.KE),.fl .ro 1 (map (int .u8) r.1.Kd),.v (.string r.1.Ke),.v (.bool r.1.KD)],.fr .ro false 12 (flatten (map ap.ienc r.2.1)),.v (.int .i64 r.2.2)]):=by
 unfold Sh.dL at h
 refine yG 88 func13 fun g0 hn hio => ?_
 refine gE hn 2 ?_
 refine yS (.box 30 [vi 0,vs z0,vb false,vs z0,vs z0,vz,vb false,vz,vs z0,vb false]) 2 ⟨oA (aR _ _ sS)⟩ ?_
 refine aV [1,2,4,88,5,8,10] ?_
 refine ab (ab ?_)
 obtain ⟨v1,hv1,h⟩:=zn h
 refine yx hn 1 ?_
 refine ys 1 ⟨lg call35 (mM _ _ _ hv1) 88⟩ ?_
 refine aV [1,2,4,88,5,8,10,13] ?_
 refine aG hn 2 [1,2,4,88,5,8,10,13,20] ?_
 refine zc h rfl (fun h => ?_) (fun h => ?_)
 refine gE hn 0 ?_
 refine yS (.agg [vi 0,vs z0,vb false,vs z0,vs z0,vz,vb false,vz,vs z0,vb false]) 1 ⟨bn _ _ _ _ [1,1,3,1,1,1,1,1] _ _ underlying30 sS (Fp _ underlying30) mz.nil rfl rfl rfl⟩ ?_
 refine yk [21,10] [] ?_
 refine yt (10,.box 30 [vi 0,vs z0,vb false,vs z0,vs z0,vz,vb false,vz,vs z0,vb false]) 2 ⟨cX _ _ _ 21 10 10 pj rfl rfl rfl rfl rfl (.eq _ (.eq _ (.eq _ (.eq _ (.eq _ (.eq _ (.eq _ (.eq _ (.eq _ (.eq _ (.nil _))))))))))) rfl⟩ ?_
 refine aV [88,10,11,12] ?_
 refine aj ?_
 refine ag [1,2,3] (by kernel_rfl) (es':=[(_,_),(_,_),(_,_)]) rfl ?_
 refine cm (fs:=[(10,.box 30 [vi 0,vs z0,vb false,vs z0,vs z0,.fl (.own 26) 3 (flatten (map T_Path.enc [])),vb false,.fl (.own 5) 1 (map (int .u8) []),vs z0,vb false]),(11,.fr (.own 55) false 12 (flatten (map ap.ienc []))),(12,vi v1)]) (.box _ _ (ae (ah _) (ae (ah _) (ae (ah _) (ae (ah _) (ae (ah _) (ae (bI 26 3) (ae (ah _) (ae (bI 5 1) (ae (ah _) (ae (ah _) (bj))))))))))) rfl (.sub _ (km 55 false 12) rfl (.same _ .nil))) ?_
 refine eV 0 hio (es':=[(10,.box 30 [.v (.int .i64 0),.v (.string (⟨#[]⟩:KK)),.v (.bool false),.v (.string (⟨#[]⟩:KK)),.v (.string (⟨#[]⟩:KK)),.fl .ro 3 (flatten (map T_Path.enc [])),.v (.bool false),.fl .ro 1 (map (int .u8) []),.v (.string (⟨#[]⟩:KK)),.v (.bool false)]),(11,.fr (.own 55) false 12 (flatten (map ap.ienc []))),(12,.v (.int .i64 v1))]) rfl ?_
 refine eV 1 hio (es':=[(10,.box 30 [.v (.int .i64 0),.v (.string (⟨#[]⟩:KK)),.v (.bool false),.v (.string (⟨#[]⟩:KK)),.v (.string (⟨#[]⟩:KK)),.fl .ro 3 (flatten (map T_Path.enc [])),.v (.bool false),.fl .ro 1 (map (int .u8) []),.v (.string (⟨#[]⟩:KK)),.v (.bool false)]),(11,.fr .ro false 12 (flatten (map ap.ienc []))),(12,.v (.int .i64 v1))]) rfl ?_
 refine ai ?_
 obtain rfl:=zi h
 exact al hio rfl (.cellA _ _ _ _ underlying30 rfl pj (.tmp _ _ (.tmp _ _ .nil))) rfl rfl
 refine am ?_
 refine af (ab ?_)
 refine ab ?_
 refine ay h (fun (s383:Bool)=>[(1,vi i),(2,vi at_),(4,fb b),(88,.glob (GL mx)),(5,.box 24 (T_Config.c c [])),(8,.box 30 (T_Gate.c g [])),(10,.box 30 [vi 0,vs z0,vb false,vs z0,vs z0,vz,vb false,vz,vs z0,vb false]),(41,vb s383)]) ?_ ?_
 rintro s383 h
 refine af ?_
 refine zc h rfl (fun h => ?_) (fun h => ?_)
 refine gE hn 0 ?_
 refine yS (.agg [vi 0,vs z0,vb false,vs z0,vs z0,vz,vb false,vz,vs z0,vb false]) 0 ⟨bn _ _ _ _ [1,1,3,1,1,1,1,1] _ _ underlying30 sS (Fp _ underlying30) mz.nil rfl rfl rfl⟩ ?_
 refine yk [42,10] [] ?_
 refine yt (10,.box 30 [vi 0,vs z0,vb false,vs z0,vs z0,vz,vb false,vz,vs z0,vb false]) 2 ⟨cX _ _ _ 42 10 10 pj rfl rfl rfl rfl rfl (.eq _ (.eq _ (.eq _ (.eq _ (.eq _ (.eq _ (.eq _ (.eq _ (.eq _ (.eq _ (.nil _))))))))))) rfl⟩ ?_
 refine aV [88,10,11,12] ?_
 refine aj ?_
 refine ag [1,2,3] (by kernel_rfl) (es':=[(_,_),(_,_),(_,_)]) rfl ?_
 refine cm (fs:=[(10,.box 30 [vi 0,vs z0,vb false,vs z0,vs z0,.fl (.own 26) 3 (flatten (map T_Path.enc [])),vb false,.fl (.own 5) 1 (map (int .u8) []),vs z0,vb false]),(11,.fr (.own 55) false 12 (flatten (map ap.ienc []))),(12,vi 1)]) (.box _ _ (ae (ah _) (ae (ah _) (ae (ah _) (ae (ah _) (ae (ah _) (ae (bI 26 3) (ae (ah _) (ae (bI 5 1) (ae (ah _) (ae (ah _) (bj))))))))))) rfl (.sub _ (km 55 false 12) rfl (.same _ .nil))) ?_
 refine eV 0 hio (es':=[(10,.box 30 [.v (.int .i64 0),.v (.string (⟨#[]⟩:KK)),.v (.bool false),.v (.string (⟨#[]⟩:KK)),.v (.string (⟨#[]⟩:KK)),.fl .ro 3 (flatten (map T_Path.enc [])),.v (.bool false),.fl .ro 1 (map (int .u8) []),.v (.string (⟨#[]⟩:KK)),.v (.bool false)]),(11,.fr (.own 55) false 12 (flatten (map ap.ienc []))),(12,.v (.int .i64 1))]) rfl ?_
 refine eV 1 hio (es':=[(10,.box 30 [.v (.int .i64 0),.v (.string (⟨#[]⟩:KK)),.v (.bool false),.v (.string (⟨#[]⟩:KK)),.v (.string (⟨#[]⟩:KK)),.fl .ro 3 (flatten (map T_Path.enc [])),.v (.bool false),.fl .ro 1 (map (int .u8) []),.v (.string (⟨#[]⟩:KK)),.v (.bool false)]),(11,.fr .ro false 12 (flatten (map ap.ienc []))),(12,.v (.int .i64 1))]) rfl ?_
 refine ai ?_
 obtain rfl:=zi h
 exact al hio rfl (.cellA _ _ _ _ underlying30 rfl pj (.tmp _ _ (.tmp _ _ .nil))) rfl rfl
 refine am ?_
 refine af (ab ?_)
 obtain ⟨v10,hv10,h⟩:=zn h
 refine wb [[8]] ?_
 refine wN [43] ?_
 refine wo [[5],[1],[2]] ⟨lk call37 (oe _ _ hv10)⟩ ?_
 refine wK [44] [45,46,47] ?_
 refine wt [(48,.agg (vi v10.KC::vs v10.Kn::vb v10.Kj.Kx::vs v10.Kj.Ks::vs v10.Kj.Kg::.fl (.own 26) 3 (flatten (map T_Path.enc v10.To))::vb v10.KE::.fl (.own 5) 1 (map (int .u8) v10.Kd)::vs v10.Ke::vb v10.KD::T_Config.c c [vi i,vi at_,vz]))] [] ⟨bn _ _ _ _ [10,7,1,1,1] _ _ underlying80 IU (IY _ underlying80) (.take _ _ (.copy _ (.copy _ (.copy _ mz.nil)))) rfl rfl rfl⟩ ?_
 refine wK [48] [] ?_
 refine wt [(49,.box 80 (vi v10.KC::vs v10.Kn::vb v10.Kj.Kx::vs v10.Kj.Ks::vs v10.Kj.Kg::.fl (.own 26) 3 (flatten (map T_Path.enc v10.To))::vb v10.KE::.fl (.own 5) 1 (map (int .u8) v10.Kd)::vs v10.Ke::vb v10.KD::T_Config.c c [vi i,vi at_,vz]))] [] ⟨wu _ _ _ _ _ rfl rfl rfl⟩ ?_
 refine wK [49] [] ?_
 refine wt [(14,.box 80 (vi v10.KC::vs v10.Kn::vb v10.Kj.Kx::vs v10.Kj.Ks::vs v10.Kj.Kg::.fl (.own 26) 3 (flatten (map T_Path.enc v10.To))::vb v10.KE::.fl (.own 5) 1 (map (int .u8) v10.Kd)::vs v10.Ke::vb v10.KD::T_Config.c c [vi i,vi at_,vz]))] [] ⟨iU _ _ _ _ rfl⟩ ?_
 refine sF hn [4,88,10,14] ?_
 refine ab ?_
 refine aG hn 3 [88,10,14,50,51,52] ?_
 refine oJ (fs:=[(88,.glob (GL mx)),(10,.box 30 [vi 0,vs z0,vb false,vs z0,vs z0,vz,vb false,vz,vs z0,vb false]),(14,.box 80 (vi v10.KC::vs v10.Kn::vb v10.Kj.Kx::vs v10.Kj.Ks::vs v10.Kj.Kg::.fl (.own 26) 3 (flatten (map T_Path.enc v10.To))::vb v10.KE::.mkr 5 (map (int .u8) v10.Kd)::vs v10.Ke::vb v10.KD::T_Config.c c [vi i,vi at_,.fr (.own 55) false 12 (flatten (map ap.ienc []))])),(50,fb b),(51,vi (b.length:Int)),(52,vi 0)]) (.same _ (.same _ (.box _ _ (ae (ah _) (ae (ah _) (ae (ah _) (ae (ah _) (ae (ah _) (ae (ah _) (ae (ah _) (ae (xf 5 _) (ae (ah _) (ae (ah _) (ae (ah _) (ae (ah _) (ae (ah _) (ae (ah _) (ae (ah _) (ae (ah _) (ae (ah _) (ae (ah _) (ae (ah _) (ae (km 55 false 12) (bj))))))))))))))))))))) rfl (.same _ (.same _ (.same _ .nil)))))) ?_
 refine aU h (fun ((s557,s558,s559,s560,s561,s562,s563,s564,s565,s566,s567,s568,s569,s570,s571,s572,s573,s574,s575,s576,s577):Int×KK×Bool×KK×KK×(List T_Path)×Bool×(List Int)×KK×Bool×KK×KK×Int×KK×KK×Int×Bool×Int×Int×(List ap)×Int)=>[(88,.glob (GL mx)),(10,.box 30 [vi 0,vs z0,vb false,vs z0,vs z0,vz,vb false,vz,vs z0,vb false]),(14,.box 80 [vi s557,vs s558,vb s559,vs s560,vs s561,.fl (.own 26) 3 (flatten (map T_Path.enc s562)),vb s563,.mkr 5 (map (int .u8) s564),vs s565,vb s566,vs s567,vs s568,vi s569,vs s570,vs s571,vi s572,vb s573,vi s574,vi s575,.fr (.own 55) false 12 (flatten (map ap.ienc s576))]),(50,fb b),(51,vi (b.length:Int)),(52,vi s577)]) (fun ((s652,s653,s654,s655,s656,s657,s658,s659,s660,s661,s662,s663,s664,s665,s666,s667,s668,s669,s670,s671):aa.t)=>[(88,.glob (GL mx)),(10,.box 30 [vi 0,vs z0,vb false,vs z0,vs z0,vz,vb false,vz,vs z0,vb false]),(14,.box 80 [vi s652,vs s653,vb s654,vs s655,vs s656,.fl (.own 26) 3 (flatten (map T_Path.enc s657)),vb s658,.mkr 5 (map (int .u8) s659),vs s660,vb s661,vs s662,vs s663,vi s664,vs s665,vs s666,vi s667,vb s668,vi s669,vi s670,.fr (.own 55) false 12 (flatten (map ap.ienc s671))])]) ?_ ?_
 rintro ⟨s652,s653,s654,s655,s656,s657,s658,s659,s660,s661,s662,s663,s664,s665,s666,s667,s668,s669,s670,s671⟩ h
 refine af (ab ?_)
 refine ve 2 hio (es':=[(88,.glob (GL mx)),(10,.box 30 [.v (.int .i64 0),.v (.string (⟨#[]⟩:KK)),.v (.bool false),.v (.string (⟨#[]⟩:KK)),.v (.string (⟨#[]⟩:KK)),vz,.v (.bool false),vz,.v (.string (⟨#[]⟩:KK)),.v (.bool false)]),(14,.box 80 [.v (.int .i64 s652),.v (.string s653),.v (.bool s654),.v (.string s655),.v (.string s656),.fl .ro 3 (flatten (map T_Path.enc s657)),.v (.bool s658),.fl .ro 1 (map (int .u8) s659),.v (.string s660),.v (.bool s661),.v (.string s662),.v (.string s663),.v (.int .i64 s664),.v (.string s665),.v (.string s666),.v (.int .i64 s667),.v (.bool s668),.v (.int .i64 s669),.v (.int .i64 s670),.fr .ro false 12 (flatten (map ap.ienc s671))])]) rfl ?_
 obtain ⟨v381,hv381,h⟩:=zn h
 refine wb [[],[79,14],[80,14],[81,14]] ?_
 refine wN [82] ?_
 refine wo [[],[84,14],[85,14],[86,14]] ⟨lk call37 (oe _ _ hv381)⟩ ?_
 refine wK [83,10] [] ?_
 refine wt [(10,.box 30 [vi v381.KC,vs v381.Kn,vb v381.Kj.Kx,vs v381.Kj.Ks,vs v381.Kj.Kg,.fl (.own 26) 3 (flatten (map T_Path.enc v381.To)),vb v381.KE,.fl (.own 5) 1 (map (int .u8) v381.Kd),vs v381.Ke,vb v381.KD])] [[87],[]] ⟨aM _ _ _ _ _ _ _ _ pj rfl rfl rfl (zl rfl) rfl rfl⟩ ?_
 refine sF hn [88,10,11,12] ?_
 refine aj ?_
 refine ag [1,2,3] (by kernel_rfl) (es':=[(_,_),(_,_),(_,_)]) rfl ?_
 refine eV 0 hio (es':=[(10,.box 30 [.v (.int .i64 v381.KC),.v (.string v381.Kn),.v (.bool v381.Kj.Kx),.v (.string v381.Kj.Ks),.v (.string v381.Kj.Kg),.fl .ro 3 (flatten (map T_Path.enc v381.To)),.v (.bool v381.KE),.fl .ro 1 (map (int .u8) v381.Kd),.v (.string v381.Ke),.v (.bool v381.KD)]),(11,.fr .ro false 12 (flatten (map ap.ienc s671))),(12,.v (.int .i64 0))]) rfl ?_
 obtain rfl:=zi h
 exact al hio rfl (.cellA _ _ _ _ underlying30 rfl pj (.tmp _ _ (.tmp _ _ .nil))) rfl rfl
 rintro u672 hl673 hr674 ⟨s557,s558,s559,s560,s561,s562,s563,s564,s565,s566,s567,s568,s569,s570,s571,s572,s573,s574,s575,s576,s577⟩ rr677 h ho675
 refine aG hn 1 [88,10,14,50,51,52,53] ?_
 refine ab ?_
 refine zc h rfl (fun h => ?_) (fun h => ?_)
 refine am ?_
 refine af (ab ?_)
 refine ay h (fun ((s704,s705,s706,s707,s708,s709,s710,s711,s712,s713,s714,s715,s716,s717,s718,s719,s720,s721,s722,s723):aa.t)=>[(88,.glob (GL mx)),(10,.box 30 [vi 0,vs z0,vb false,vs z0,vs z0,vz,vb false,vz,vs z0,vb false]),(14,.box 80 [vi s704,vs s705,vb s706,vs s707,vs s708,.fl (.own 26) 3 (flatten (map T_Path.enc s709)),vb s710,.mkr 5 (map (int .u8) s711),vs s712,vb s713,vs s714,vs s715,vi s716,vs s717,vs s718,vi s719,vb s720,vi s721,vi s722,.fr (.own 55) false 12 (flatten (map ap.ienc s723))]),(50,fb b),(51,vi (b.length:Int)),(52,vi s577)]) ?_ ?_
 rintro ⟨s704,s705,s706,s707,s708,s709,s710,s711,s712,s713,s714,s715,s716,s717,s718,s719,s720,s721,s722,s723⟩ h
 refine af ?_
 obtain ⟨v90,hv90,h⟩:=zn h
 refine yx hn 0 ?_
 refine ys 0 ⟨lb hv90⟩ ?_
 refine yw [52] 1 ?_
 refine ye [88,10,14,50,51,52] ?_
 exact bc _ (zi h).symm rfl
 intro u724 h hl725 hr726
 refine aC (ab ?_)
 obtain ⟨v12,hv12,v13,hv13,h⟩:=eo h
 refine yx hn 1 ?_
 refine ys 0 ⟨li hv12⟩ ?_
 refine ys 2 ⟨ll hv13⟩ ?_
 refine aV [88,10,14,50,51,52,15,16] ?_
 refine ab ?_
 obtain ⟨v14,hv14,h⟩:=zn h
 refine yx hn 7 ?_
 refine yS (.fl (.own 5) 1 (map (int .u8) [v13])) 0 ⟨bi _ _ 1 (.int .u8 0) (map (int .u8) [v13]) [(0,.int .u8 v13)] underlying28 lQ uA (fun _ V w o a hv hes=>by have e0:=bL hv hes (x := .tmp 63) rfl; simp only [List.map_toArray,List.map_cons,List.map_nil,e0]; try rfl) (dn (by simp [Instr.fill,Value.cells]; rfl) (by simp [List.range,List.range.loop] <;> rfl)) (by simp [Value.oneCell']) rfl (by decide) (by decide) (by decide)⟩ ?_
 refine yk [14] [62,64] ?_
 refine nE (14,.box 80 [vi s557,vs s558,vb s559,vs s560,vs s561,.fl (.own 26) 3 (flatten (map T_Path.enc s562)),vb s563,.any,vs s565,vb s566,vs s567,vs s568,vi s569,vs s570,vs s571,vi s572,vb s573,vi s574,vi s575,.fr (.own 55) false 12 (flatten (map ap.ienc s576))]) (65,.mkr 5 (map (int .u8) v14)) 3 ⟨rb _ 65 14 7 _ _ jN rfl rfl (zl rfl) rfl rfl rfl hv14 rfl (Nat.ne_of_beq_eq_false rfl) rfl rfl⟩ ?_
 refine yw [62] 0 ?_
 refine yk [65,14] [68] ?_
 refine yt (14,.box 80 [vi s557,vs s558,vb s559,vs s560,vs s561,.fl (.own 26) 3 (flatten (map T_Path.enc s562)),vb s563,.mkr 5 (map (int .u8) v14),vs s565,vb s566,vs s567,vs s568,vi s569,vs s570,vs s571,vi s572,vb s573,vi s574,vi s575,.fr (.own 55) false 12 (flatten (map ap.ienc s576))]) 0 ⟨aM _ _ _ _ _ _ _ _ kQ rfl rfl rfl (zl rfl) rfl rfl⟩ ?_
 refine aV [88,10,14,50,51,52,15,16] ?_
 refine ab ?_
 refine ay h (fun ((s727,s728,s729,s730,s731,s732,s733,s734,s735,s736,s737,s738,s739,s740,s741,s742,s743,s744,s745,s746,s747):Int×KK×Bool×KK×KK×(List T_Path)×Bool×(List Int)×KK×Bool×KK×KK×Int×KK×KK×Int×Bool×Int×Int×(List ap)×Bool)=>[(88,.glob (GL mx)),(10,.box 30 [vi 0,vs z0,vb false,vs z0,vs z0,vz,vb false,vz,vs z0,vb false]),(14,.box 80 [vi s727,vs s728,vb s729,vs s730,vs s731,.fl (.own 26) 3 (flatten (map T_Path.enc s732)),vb s733,.mkr 5 (map (int .u8) s734),vs s735,vb s736,vs s737,vs s738,vi s739,vs s740,vs s741,vi s742,vb s743,vi s744,vi s745,.fr (.own 55) false 12 (flatten (map ap.ienc s746))]),(50,fb b),(51,vi (b.length:Int)),(52,vi s577),(75,vb s747)]) ?_ ?_
 rintro ⟨s727,s728,s729,s730,s731,s732,s733,s734,s735,s736,s737,s738,s739,s740,s741,s742,s743,s744,s745,s746,s747⟩ h
 refine af ?_
 refine zc h rfl (fun h => ?_) (fun h => ?_)
 obtain ⟨v41,hv41,h⟩:=zn h
 refine yx hn 1 ?_
 refine yk [14] [76,88] ?_
 refine nE (14,.box 80 (aa.b v41)) (77,.tup []) 0 ⟨eS _ _ _ _ 77 88 39 [.tmp 76] [] _ _ _ rfl call39 rfl rfl rfl rfl (fun _ h=>h) (nN mx ((aa.mk ((T_Gate.mk s727 s728 (T_Path.mk s729 s730 s731) s732 s733 s734 s735 s736)) ((T_Config.mk ([s737,s738]:List KK) s739 s740 s741 s742 s743)) s744 s745 s746)) _ hv41) (zl rfl) rfl rfl rfl rfl rfl rfl rfl⟩ ?_
 refine ye [88,10,14,50,51,52] ?_
 refine aI ?_
 exact hl725 _ (zi h).symm
 refine am (aI ?_)
 refine ag [0,1,2,3,4,5] (by kernel_rfl) (es':=[(_,_),(_,_),(_,_),(_,_),(_,_),(_,_)]) rfl ?_
 exact hl725 _ (zi h).symm
 intro u748 h hl749 hr750
 refine ak h (fun hg11_2 h => ?_) (fun hg11_2 h => ?_)
 refine yx hn 3 ?_
 refine yd hg11_2 4 ?_
 refine ye [88,10,14,50,51,52,75] ?_
 exact hl749 _ (zi h).symm
 obtain ⟨v15,hv15,h⟩:=zn h
 refine yx hn 3 ?_
 refine yd hg11_2 2 ?_
 refine yQ call38 (kW _ _ _ hv15) 14 [72,73] 1 ?_
 refine ye [88,10,14,50,51,52,75] ?_
 exact hl749 _ (zi h).symm
 refine bh (ar (ar (bb ?_)))
 refine ag [0,1,2] (by kernel_rfl) (es':=[(_,_),(_,_),(_,_)]) rfl ?_
 exact hl673 _ (ho675 _ (zi h).symm).symm
 intro u384 h hl385 hr386
 refine ak h (fun hg4_2 h => ?_) (fun hg4_2 h => ?_)
 refine ak h (fun hg4_6 h => ?_) (fun hg4_6 h => ?_)
 refine yx hn 3 ?_
 refine yd hg4_2 4 ?_
 refine yd hg4_6 12 ?_
 refine ye [1,2,4,88,5,8,10,41] ?_
 exact hl385 _ (zi h).symm
 refine ak h (fun hg4_10 h => ?_) (fun hg4_10 h => ?_)
 refine yx hn 3 ?_
 refine yd hg4_2 4 ?_
 refine yd hg4_6 4 ?_
 refine yd hg4_10 8 ?_
 refine ye [1,2,4,88,5,8,10,41] ?_
 exact hl385 _ (zi h).symm
 refine ak h (fun hg4_14 h => ?_) (fun hg4_14 h => ?_)
 refine yx hn 3 ?_
 refine yd hg4_2 4 ?_
 refine yd hg4_6 4 ?_
 refine yd hg4_10 4 ?_
 refine yd hg4_14 4 ?_
 refine ye [1,2,4,88,5,8,10,41] ?_
 exact hl385 _ (zi h).symm
 obtain ⟨v3,hv3,h⟩:=zn h
 refine yx hn 3 ?_
 refine yd hg4_2 4 ?_
 refine yd hg4_6 4 ?_
 refine yd hg4_10 4 ?_
 refine yd hg4_14 1 ?_
 refine ys 2 ⟨lk call36 (nV _ _ hv3)⟩ ?_
 refine ye [1,2,4,88,5,8,10,41] ?_
 exact hl385 _ (zi h).symm
 refine ak h (fun hg4_10 h => ?_) (fun hg4_10 h => ?_)
 refine yx hn 3 ?_
 refine yd hg4_2 8 ?_
 refine yd hg4_10 8 ?_
 refine ye [1,2,4,88,5,8,10,41] ?_
 exact hl385 _ (zi h).symm
 refine ak h (fun hg4_14 h => ?_) (fun hg4_14 h => ?_)
 refine yx hn 3 ?_
 refine yd hg4_2 8 ?_
 refine yd hg4_10 4 ?_
 refine yd hg4_14 4 ?_
 refine ye [1,2,4,88,5,8,10,41] ?_
 exact hl385 _ (zi h).symm
 obtain ⟨v4,hv4,h⟩:=zn h
 refine yx hn 3 ?_
 refine yd hg4_2 8 ?_
 refine yd hg4_10 4 ?_
 refine yd hg4_14 1 ?_
 refine ys 2 ⟨lk call36 (nV _ _ hv4)⟩ ?_
 refine ye [1,2,4,88,5,8,10,41] ?_
 exact hl385 _ (zi h).symm
theorem jH (r:T_Config) (h:Sh.gh  = some r):bM Tryz.prog 20 [] (.agg [.v (.string ((r.Kh.getD 0 (⟨#[]⟩:KK)))),.v (.string ((r.Kh.getD 1 (⟨#[]⟩:KK)))),.v (.int .i64 r.Ki),.v (.string r.KI),.v (.string r.KG),.v (.int .i64 r.Kt),.v (.bool r.Km)]):=by
 unfold Sh.gh at h
 refine yO 3 func20 fun g0 hn hio => ?_
 refine gE hn 0 ?_
 refine yS (.box 24 [vs z0,vs z0,vi 0,vs z0,vs z0,vi 0,vb false]) 0 ⟨oA (aR _ _ Hv)⟩ ?_
 refine aV [0] ?_
 refine gE hn 0 ?_
 refine yS (.agg [vs (⟨#[97]⟩:KK),vs (⟨#[98]⟩:KK)]) 0 ⟨sJ _ _ (.agg #[.string ByteArray.empty,.string ByteArray.empty]) (map Value.string (([(⟨#[97]⟩:KK),(⟨#[98]⟩:KK)]:List KK))) [(0,.string (⟨#[97]⟩:KK)),(1,.string (⟨#[98]⟩:KK))] underlying22 rL Jj (fun _ V w o a hv hes=>by simp only [List.map_toArray,List.map_cons,List.map_nil]; try rfl) (dn (by simp [Instr.fill,Value.cells]; rfl) (by simp)) rfl⟩ ?_
 refine yS (.agg [vs (⟨#[97]⟩:KK),vs (⟨#[98]⟩:KK),vi 9,vs (⟨#[117]⟩:KK),vs (⟨#[115]⟩:KK),vi 9000,vb false]) 1 ⟨bn _ _ _ _ [2,1,1,1,1,1] _ _ underlying24 Hv (Je _ underlying24) (.copy _ (.copy _ (.copy _ (.copy _ (.copy _ mz.nil))))) rfl rfl rfl⟩ ?_
 refine aV [0] ?_
 refine aj ?_
 obtain rfl:=zi h
 exact al hio rfl (.cellA _ _ _ _ underlying24 rfl Fz .nil) rfl rfl
end Go.Proofs.YtjnnkhmhjcjhdaaGreatDoor
