import Derived.Test.YtjnnkhmhjcjhdaaGreatDoorOkc4
set_option linter.unusedVariables false
set_option linter.unusedSimpArgs false
set_option maxHeartbeats 1000000
namespace Go.Proofs.YtjnnkhmhjcjhdaaGreatDoor
open Go.Abs Go.Abs.Sh Tryz
open List (map flatten)
open Value (int)
theorem fY (u:Nat→Value) (s:aa) (code:Int) (r:bH) (h:Sh.bU s code=some r):oM Tryz.prog 85 [.box 80 [.v (.int .i64 s.Kk.KC),.v (.string s.Kk.Kn),.v (.bool s.Kk.Kj.Kx),.v (.string s.Kk.Kj.Ks),.v (.string s.Kk.Kj.Kg),.v (u 5),.v (.bool s.Kk.KE),.v (u 7),.v (.string s.Kk.Ke),.v (.bool s.Kk.KD),.v (.string ((s.config.Kh.getD 0 (⟨#[]⟩:KK)))),.v (.string ((s.config.Kh.getD 1 (⟨#[]⟩:KK)))),.v (.int .i64 s.config.Ki),.v (.string s.config.KI),.v (.string s.config.KG),.v (.int .i64 s.config.Kt),.v (.bool s.config.Km),.v (.int .i64 s.site),.v (.int .i64 s.at_),.v (u 19)],.v (.int .i64 code)] [.box 80 [.v (.int .i64 s.Kk.KC),.v (.string s.Kk.Kn),.v (.bool s.Kk.Kj.Kx),.v (.string s.Kk.Kj.Ks),.v (.string s.Kk.Kj.Kg),.v (u 5),.v (.bool s.Kk.KE),.v (u 7),.v (.string s.Kk.Ke),.v (.bool s.Kk.KD),.v (.string ((s.config.Kh.getD 0 (⟨#[]⟩:KK)))),.v (.string ((s.config.Kh.getD 1 (⟨#[]⟩:KK)))),.v (.int .i64 s.config.Ki),.v (.string s.config.KI),.v (.string s.config.KG),.v (.int .i64 s.config.Kt),.v (.bool s.config.Km),.v (.int .i64 s.site),.v (.int .i64 s.at_),.v (u 19)]] (.agg [.v (.int .i64 r.Kf),.fl (.own 9) 1 (map Value.string r.Kr)]):=by
 unfold Sh.bU at h
 refine yP 24 func85 fun args0 hargs0 g0 hn hio => ?_
 refine gE hn 0 ?_
 refine yS (.box 51 [vi 0,vz]) 0 ⟨oA (aR _ _ Dr)⟩ ?_
 refine aV [0,1,4,0] ?_
 refine aG hn 1 [0,1,4,5,0] ?_
 refine ab ?_
 refine ay h (fun (s6:KK)=>[(0,.box 80 (vi s.Kk.KC::vs s.Kk.Kn::vb s.Kk.Kj.Kx::vs s.Kk.Kj.Ks::vs s.Kk.Kj.Kg::.v (u 5)::vb s.Kk.KE::.v (u 7)::vs s.Kk.Ke::vb s.Kk.KD::T_Config.c s.config [vi s.site,vi s.at_,.v (u 19)])),(1,vi code),(4,.box 51 [vi 0,vz]),(5,vs s6),(0,.v (List.getD args0 0 undef))]) ?_ ?_
 rintro s6 h
 refine af ?_
 refine gE hn 2 ?_
 refine yS (.fl (.own 9) 1 (map Value.string [s6])) 0 ⟨bi _ _ 1 (.string ByteArray.empty) (map Value.string [s6]) [(0,.string s6)] underlying49 rL Il (fun _ V w o a hv hes=>by have e0:=bL hv hes (x := .tmp 21) rfl; simp only [List.map_toArray,List.map_cons,List.map_nil,e0]; try rfl) (dn (by simp [Instr.fill,Value.cells]; rfl) (by simp [List.range,List.range.loop] <;> rfl)) (by simp [Value.oneCell']) rfl (by decide) (by decide) (by decide)⟩ ?_
 refine yk [22] [20] ?_
 refine yt (23,.agg [vi code,.fl (.own 9) 1 (map Value.string [s6])]) 0 ⟨bn _ _ _ _ [1,1] _ _ underlying51 Dr (GE _ underlying51) (.copy _ (.take _ _ mz.nil)) rfl rfl rfl⟩ ?_
 refine yk [23,4] [] ?_
 refine yt (4,.box 51 [vi code,.fl (.own 9) 1 (map Value.string [s6])]) 0 ⟨aM _ _ _ _ _ _ _ _ qQ rfl rfl rfl (zl rfl) rfl rfl⟩ ?_
 refine aV [0,4,0] ?_
 refine aj ?_
 refine ag [1,0,2] (by kernel_rfl) (es':=[(_,_),(_,_),(_,_)]) rfl ?_
 obtain rfl:=zi h
 exact bp (es:=[(4,.box 51 [.v (.int .i64 code),.fl (.own 9) 1 (map Value.string [s6])])]) (posts:=[.box 80 [.v (.int .i64 s.Kk.KC),.v (.string s.Kk.Kn),.v (.bool s.Kk.Kj.Kx),.v (.string s.Kk.Kj.Ks),.v (.string s.Kk.Kj.Kg),.v (u 5),.v (.bool s.Kk.KE),.v (u 7),.v (.string s.Kk.Ke),.v (.bool s.Kk.KD),.v (.string ((s.config.Kh.getD 0 (⟨#[]⟩:KK)))),.v (.string ((s.config.Kh.getD 1 (⟨#[]⟩:KK)))),.v (.int .i64 s.config.Ki),.v (.string s.config.KI),.v (.string s.config.KG),.v (.int .i64 s.config.Kt),.v (.bool s.config.Km),.v (.int .i64 s.site),.v (.int .i64 s.at_),.v (u 19)]]) hio rfl rfl (.cellA _ _ _ _ underlying51 rfl qQ .nil) rfl rfl hargs0 rfl
 intro u7 h hl8 hr9
 refine aC ?_
 refine aG hn 3 [0,1,4,5,6,0] ?_
 refine zc h rfl (fun h => ?_) (fun h => ?_)
 obtain ⟨v2,hv2,v3,hv3,h⟩:=eo h
 refine yx hn 5 ?_
 refine ys 0 ⟨lT hv2⟩ ?_
 refine ys 0 ⟨lk call98 (kj _ _ hv3)⟩ ?_
 refine yw [5] 1 ?_
 refine ye [0,1,4,5,0] ?_
 refine aI ?_
 exact hl8 _ (zi h).symm
 refine ab ?_
 obtain ⟨v4,hv4,h⟩:=zn h
 refine yx hn 1 ?_
 refine ys 2 ⟨lk call99 (nk _ _ hv4)⟩ ?_
 refine aV [0,1,4,5,16,0] ?_
 refine zc h rfl (fun h => ?_) (fun h => ?_)
 refine yx hn 0 ?_
 refine yw [5] 1 ?_
 refine ye [0,1,4,5,0] ?_
 refine aI ?_
 exact hl8 _ (zi h).symm
 refine am (aI ?_)
 refine ag [0,1,2,3,5] (by kernel_rfl) (es':=[(_,_),(_,_),(_,_),(_,_),(_,_)]) rfl ?_
 exact hl8 _ (zi h).symm
theorem aS (s:aa) (code:Int) (r:aa) (h:Sh.aO s code=some r):oM Tryz.prog 76 [.box 80 (aa.b s),.v (.int .i64 code)] [.box 80 (aa.b r)] (.tup []):=by
 unfold Sh.aO at h
 refine yP 17 func76 fun args0 hargs0 g0 hn hio => ?_
 obtain ⟨v1,hv1,v2,hv2,h⟩:=eo h
 refine wb [[],[],[5,0],[6,0],[7,0],[0],[1]] ?_
 refine wN [9,0,10] ?_
 refine wS (.agg [vi v1.Kf,.fl (.own 9) 1 (map Value.string v1.Kr)]) [] ⟨vP _ 11 0 85 [.int .i64 code] _ rfl call85 rfl rfl rfl rfl (fun u=>fY u ((aa.r s)) code _ hv1) rfl rfl rfl⟩ ?_
 refine wK [11] [] ?_
 refine wt [(12,.agg [vi v1.Kf,.fl (.own 9) 1 (map Value.string v1.Kr),vb false,vb false,vs z0,vs z0,vz,vz,vb false,vs z0,vi 0,vb false])] [] ⟨bn _ _ _ _ [2,1,8,1] _ _ underlying55 ta (BH _ underlying55) (.take _ _ mz.nil) rfl rfl rfl⟩ ?_
 refine wK [12] [] ?_
 refine wt [(13,.fr (.own 55) false 12 (flatten (map ap.ienc ([(ap.mk v1 false ((aH.mk ((T_Path.mk false z0 z0)) [] [] false z0 0)) false)]))))] [] ⟨kD _ _ _ 12 (.agg #[.int .i64 0,.slice none 0 0,.bool false,.bool false,.string ByteArray.empty,.string ByteArray.empty,.slice none 0 0,.slice none 0 0,.bool false,.string ByteArray.empty,.int .i64 0,.bool false]) false _ _ underlying34 wl ta rfl (.cons (.v _) (.cons (.ro _ _ rfl) (.cons (.v _) (.cons (.v _) (.cons (.v _) (.cons (.v _) (.cons (.nil 3) (.cons (.nil 1) (.cons (.v _) (.cons (.v _) (.cons (.v _) (.cons (.v _) (.nil))))))))))))) rfl (by decide) (by decide)⟩ ?_
 refine wK [0] [8,13] ?_
 refine wt [(0,.box 80 (vi s.Kk.KC::vs s.Kk.Kn::vb s.Kk.Kj.Kx::vs s.Kk.Kj.Ks::vs s.Kk.Kj.Kg::.fl (.own 26) 3 (flatten (map T_Path.enc s.Kk.To))::vb s.Kk.KE::.mkr 5 (map (int .u8) s.Kk.Kd)::vs s.Kk.Ke::vb s.Kk.KD::T_Config.c s.config [vi s.site,vi s.at_,.any])),(14,.fr (.own 55) false 12 (flatten (map ap.ienc v2)))] [[4,0],[15,0]] ⟨iG _ 14 0 19 _ _ DA rfl rfl (zl rfl) rfl (dK ap.ilen _) (dK ap.ilen _) hv2 (lC (jb hv2)) (by decide) (by decide) (by decide) rfl rfl⟩ ?_
 refine wK [8,14,0] [16] ?_
 refine wt [(0,.box 80 (vi s.Kk.KC::vs s.Kk.Kn::vb s.Kk.Kj.Kx::vs s.Kk.Kj.Ks::vs s.Kk.Kj.Kg::.fl (.own 26) 3 (flatten (map T_Path.enc s.Kk.To))::vb s.Kk.KE::.mkr 5 (map (int .u8) s.Kk.Kd)::vs s.Kk.Ke::vb s.Kk.KD::T_Config.c s.config [vi s.site,vi s.at_,.fr (.own 55) false 12 (flatten (map ap.ienc v2))]))] [] ⟨aJ.drop [_] (aM _ _ _ _ _ _ _ _ Fl rfl rfl rfl (zl rfl) rfl rfl)⟩ ?_
 refine we hn [0,0] ?_
 obtain rfl:=zi h
 exact kJ (es:=[]) (posts:=[.box 80 [.v (.int .i64 s.Kk.KC),.v (.string s.Kk.Kn),.v (.bool s.Kk.Kj.Kx),.v (.string s.Kk.Kj.Ks),.v (.string s.Kk.Kj.Kg),.fl (.own 26) 3 (flatten (map T_Path.enc s.Kk.To)),.v (.bool s.Kk.KE),.mkr 5 (map (int .u8) s.Kk.Kd),.v (.string s.Kk.Ke),.v (.bool s.Kk.KD),.v (.string ((s.config.Kh.getD 0 (⟨#[]⟩:KK)))),.v (.string ((s.config.Kh.getD 1 (⟨#[]⟩:KK)))),.v (.int .i64 s.config.Ki),.v (.string s.config.KI),.v (.string s.config.KG),.v (.int .i64 s.config.Kt),.v (.bool s.config.Km),.v (.int .i64 s.site),.v (.int .i64 s.at_),.fr (.own 55) false 12 (flatten (map ap.ienc v2))]]) hio rfl rfl .nil rfl rfl hargs0 rfl
theorem mv (mx:Int×Nat×Value) (s:aa) (line:KK) (r:aa) (h:Sh.eR s line=some r):mL Tryz.prog (GL mx) 90 [.box 80 (aa.b s),.v (.string line)] [.box 80 (aa.b r)] (.tup []):=by
 unfold Sh.eR at h
 refine CT 34 func90 fun args0 hargs0 g0 hn hio => ?_
 refine aG hn 5 [0,1,34,0] ?_
 refine ab (ab ?_)
 obtain ⟨v1,hv1,h⟩:=zn h
 refine wb [[],[8,0],[9,0],[10,0],[11,0],[],[13,0],[14,0],[15,0],[16,0],[],[18,0],[19,0],[20,0],[21,0],[1]] ?_
 refine wN [12,17,22,23,34] ?_
 refine wo [[24]] ⟨lg call107 (rP _ _ _ _ _ _ hv1) 34⟩ ?_
 refine sF hn [0,34,25,0] ?_
 refine zc h rfl (fun h => ?_) (fun h => ?_)
 refine ab ?_
 obtain ⟨v3,hv3,h⟩:=zn h
 refine yx hn 1 ?_
 refine yQ call76 (aS _ _ _ hv3) 0 [26] 0 ?_
 refine aV [0,34,0] ?_
 refine aj ?_
 refine ag [0,2] (by kernel_rfl) (es':=[(_,_),(_,_)]) rfl ?_
 refine ai ?_
 obtain rfl:=zi h
 exact bp (es:=[]) (posts:=[.box 80 (aa.b v3)]) hio rfl rfl .nil rfl rfl hargs0 rfl
 refine am (af ?_)
 refine aG hn 5 [0,34,0] ?_
 obtain ⟨v4,hv4,h⟩:=zn h
 refine yx hn 1 ?_
 refine yQ call76 (aS _ _ _ hv4) 0 [32] 0 ?_
 refine ye [0,34,0] ?_
 refine ag [0,2] (by kernel_rfl) (es':=[(_,_),(_,_)]) rfl ?_
 obtain rfl:=zi h
 exact kJ (es:=[]) (posts:=[.box 80 (aa.b v4)]) hio rfl rfl .nil rfl rfl hargs0 rfl
theorem kH (line:KK) (r:Bool) (h:Sh.fN line=some r):bM Tryz.prog 108 [.v (.string line)] (.v (.bool r)):=by
 unfold Sh.fN at h
 refine yO 20 func108 fun g0 hn hio => ?_
 refine aG hn 1 [0] ?_
 refine ab ?_
 refine aG hn 3 [0,5,6] ?_
 refine aU h (fun (s17:Int)=>[(0,vs line),(5,vi (line.size:Int)),(6,vi s17)]) (fun (():Unit)=>[]) ?_ ?_
 rintro ⟨⟩ h
 refine af ?_
 refine aG hn 1 [2] ?_
 refine aj ?_
 obtain rfl:=zi h
 exact al hio rfl (.tmp _ _ .nil) rfl rfl
 rintro u24 hl25 hr26 s17 rr29 h ho27
 refine aG hn 1 [0,5,6,7] ?_
 refine ab ?_
 refine zc h rfl (fun h => ?_) (fun h => ?_)
 refine am ?_
 refine af (ab ?_)
 refine aC ?_
 refine aG hn 2 [0,5,6,3] ?_
 refine ab ?_
 refine ay h (fun (s31:Bool)=>[(0,vs line),(5,vi (line.size:Int)),(6,vi s17),(18,vb s31)]) ?_ ?_
 rintro s31 h
 refine af ?_
 refine zc h rfl (fun h => ?_) (fun h => ?_)
 refine aG hn 1 [2] ?_
 refine aj (aE (ai (ai (aE (ai ?_)))))
 have h:=hr26 _ (ho27 _ (zi h).symm).symm
 obtain rfl:=zi h
 exact al hio rfl (.tmp _ _ .nil) rfl rfl
 refine am (aI (af ?_))
 obtain ⟨v9,hv9,h⟩:=zn h
 refine yx hn 0 ?_
 refine ys 0 ⟨lb hv9⟩ ?_
 refine yw [6] 1 ?_
 refine ye [0,5,6] ?_
 exact bc _ (zi h).symm rfl
 intro u32 h hl33 hr34
 obtain ⟨v2,hv2,h⟩:=zn h
 refine ak h (fun hg4_4 h => ?_) (fun hg4_4 h => ?_)
 refine yx hn 2 ?_
 refine ys 2 ⟨lh hv2⟩ ?_
 refine yd hg4_4 5 ?_
 refine ye [0,5,6,18] ?_
 exact hl33 _ (zi h).symm
 obtain ⟨v3,hv3,h⟩:=zn h
 refine yx hn 2 ?_
 refine ys 2 ⟨lh hv2⟩ ?_
 refine yd hg4_4 2 ?_
 refine ys 2 ⟨lh hv3⟩ ?_
 refine ye [0,5,6,18] ?_
 exact hl33 _ (zi h).symm
 refine bh (ar (ar (bb ?_)))
 refine ag [] (by kernel_rfl) (es':=[]) rfl ?_
 exact hl25 _ (ho27 _ (zi h).symm).symm
theorem jA (s sub:KK) (r:Int) (h:Sh.ck s sub=some r):bM Tryz.prog 143 [.v (.string s),.v (.string sub)] (.v (.int .i64 r)):=kL Tryz.stringslite_Index_one s sub r h
theorem jM (s:KK) (sep:KK) (r:(KK×KK×Bool)) (h:Sh.cY s sep=some r):bM Tryz.prog 156 [.v (.string s),.v (.string sep)] (.tup [.v (.string r.1),.v (.string r.2.1),.v (.bool r.2.2)]):=by
 unfold Sh.cY at h
 refine yO 23 func156 fun g0 hn hio => ?_
 refine aG hn 3 [0,1] ?_
 refine ab (ab ?_)
 obtain ⟨v1,hv1,h⟩:=zn h
 refine yx hn 2 ?_
 refine ys 1 ⟨lk call143 (jA _ _ _ hv1)⟩ ?_
 refine aV [0,1,7] ?_
 refine aG hn 2 [0,1,7,12] ?_
 refine zc h rfl (fun h => ?_) (fun h => ?_)
 refine ab ?_
 obtain ⟨v3,hv3,v4,hv4,v5,hv5,h⟩:=rZ h
 refine wb [[0],[7]] ?_
 refine wN [13,14] ?_
 refine wS (vs v3) [[0],[7],[1],[18]] ⟨cW _ _ _ 0 v1 _ underlying9 rfl rfl ⟨_,rfl⟩ hv3⟩ ?_
 refine wN [17,19] ?_
 refine wo [] ⟨lb hv4⟩ ?_
 refine wN [16,20] ?_
 refine wS (vs v5) [[15],[21],[]] ⟨cW _ _ _ v4 (s.size:Int) _ underlying9 rfl ⟨_,rfl⟩ rfl hv5⟩ ?_
 refine sF hn [4,5,6] ?_
 refine aj (ai ?_)
 obtain rfl:=zi h
 exact al hio rfl (.tmp _ _ (.tmp _ _ (.tmp _ _ .nil))) rfl rfl
 refine am (af ?_)
 refine aG hn 4 [4,5,6] ?_
 refine aj ?_
 obtain rfl:=zi h
 exact al hio rfl (.tmp _ _ (.tmp _ _ (.tmp _ _ .nil))) rfl rfl
theorem iO (s:KK) (sep:KK) (r:(KK×KK×Bool)) (h:Sh.dx s sep=some r):bM Tryz.prog 134 [.v (.string s),.v (.string sep)] (.tup [.v (.string r.1),.v (.string r.2.1),.v (.bool r.2.2)]):=by
 unfold Sh.dx at h
 refine yO 13 func134 fun g0 hn hio => ?_
 refine aG hn 3 [0,1] ?_
 refine ab ?_
 obtain ⟨v1,hv1,h⟩:=zn h
 refine yx hn 2 ?_
 refine ys 6 ⟨lk call156 (jM _ _ _ hv1)⟩ ?_
 refine aV [4,5,6] ?_
 refine aj ?_
 obtain rfl:=zi h
 exact al hio rfl (.tmp _ _ (.tmp _ _ (.tmp _ _ .nil))) rfl rfl
theorem nj (line:KK) (r:Int) (h:Sh.ij line=some r):bM Tryz.prog 109 [.v (.string line)] (.v (.int .i64 r)):=by
 unfold Sh.ij at h
 refine yO 37 func109 fun g0 hn hio => ?_
 refine aG hn 1 [0] ?_
 refine ab ?_
 obtain ⟨v1,hv1,h⟩:=zn h
 refine yx hn 1 ?_
 refine ys 0 ⟨lk call134 (iO _ _ _ hv1)⟩ ?_
 refine ym 6 ?_
 refine aV [3] ?_
 refine ab (ab ?_)
 obtain ⟨v2,hv2,h⟩:=zn h
 refine yx hn 1 ?_
 refine ys 0 ⟨lk call71 (dX _ _ hv2)⟩ ?_
 refine aV [13] ?_
 refine aC (ab ?_)
 refine ay h (fun (s4:Bool)=>[(13,vs v2),(14,vb s4)]) ?_ ?_
 rintro s4 h
 refine af ?_
 refine zc h rfl (fun h => ?_) (fun h => ?_)
 refine aG hn 1 [2] ?_
 refine aj (aE (ai ?_))
 obtain rfl:=zi h
 exact al hio rfl (.tmp _ _ .nil) rfl rfl
 refine aG hn 2 [13,17] ?_
 refine zc h rfl (fun h => ?_) (fun h => ?_)
 refine aG hn 1 [2] ?_
 refine aj (aE (ai ?_))
 obtain rfl:=zi h
 exact al hio rfl (.tmp _ _ .nil) rfl rfl
 refine aG hn 2 [13,19] ?_
 refine zc h rfl (fun h => ?_) (fun h => ?_)
 refine aG hn 1 [2] ?_
 refine aj (aE (ai ?_))
 obtain rfl:=zi h
 exact al hio rfl (.tmp _ _ .nil) rfl rfl
 refine aG hn 2 [13,21] ?_
 refine zc h rfl (fun h => ?_) (fun h => ?_)
 refine aG hn 1 [2] ?_
 refine aj (aE (ai ?_))
 obtain rfl:=zi h
 exact al hio rfl (.tmp _ _ .nil) rfl rfl
 refine aG hn 2 [13,23] ?_
 refine zc h rfl (fun h => ?_) (fun h => ?_)
 refine aG hn 1 [2] ?_
 refine aj (aE (ai ?_))
 obtain rfl:=zi h
 exact al hio rfl (.tmp _ _ .nil) rfl rfl
 refine aG hn 2 [13,25] ?_
 refine zc h rfl (fun h => ?_) (fun h => ?_)
 refine aG hn 1 [2] ?_
 refine aj (aE (ai ?_))
 obtain rfl:=zi h
 exact al hio rfl (.tmp _ _ .nil) rfl rfl
 refine aG hn 2 [13,27] ?_
 refine zc h rfl (fun h => ?_) (fun h => ?_)
 refine aG hn 1 [2] ?_
 refine aj (aE (ai ?_))
 obtain rfl:=zi h
 exact al hio rfl (.tmp _ _ .nil) rfl rfl
 refine aG hn 2 [13,29] ?_
 refine zc h rfl (fun h => ?_) (fun h => ?_)
 refine aG hn 1 [2] ?_
 refine aj (aE (ai ?_))
 obtain rfl:=zi h
 exact al hio rfl (.tmp _ _ .nil) rfl rfl
 refine aG hn 2 [13,31] ?_
 refine zc h rfl (fun h => ?_) (fun h => ?_)
 refine aG hn 1 [2] ?_
 refine aj (aE (ai ?_))
 obtain rfl:=zi h
 exact al hio rfl (.tmp _ _ .nil) rfl rfl
 refine aG hn 2 [13,33] ?_
 refine zc h rfl (fun h => ?_) (fun h => ?_)
 refine aG hn 1 [2] ?_
 refine aj (aE (ai ?_))
 obtain rfl:=zi h
 exact al hio rfl (.tmp _ _ .nil) rfl rfl
 refine aG hn 2 [35] ?_
 refine zc h rfl (fun h => ?_) (fun h => ?_)
 refine aG hn 1 [2] ?_
 refine aj (aE (ai ?_))
 obtain rfl:=zi h
 exact al hio rfl (.tmp _ _ .nil) rfl rfl
 refine am (aI (af ?_))
 refine aG hn 1 [2] ?_
 refine aj ?_
 obtain rfl:=zi h
 exact al hio rfl (.tmp _ _ .nil) rfl rfl
 intro u5 h hl6 hr7
 refine aG hn 2 [13,14] ?_
 refine zc h rfl (fun h => ?_) (fun h => ?_)
 refine am ?_
 exact hl6 _ (zi h).symm
 refine yx hn 1 ?_
 refine yw [14] 1 ?_
 refine ye [13,14] ?_
 exact hl6 _ (zi h).symm
theorem fu (a:KK) (b:KK) (r:Bool) (h:Sh.dh a b=some r):bM Tryz.prog 136 [.v (.string a),.v (.string b)] (.v (.bool r)):=by
 unfold Sh.dh at h
 refine yO 10 func136 fun g0 hn hio => ?_
 refine aG hn 1 [0,1] ?_
 refine ab ?_
 obtain ⟨v1,hv1,v2,hv2,h⟩:=eo h
 refine yx hn 1 ?_
 refine ys 1 ⟨lk call71 (dX _ _ hv1)⟩ ?_
 refine ys 2 ⟨lk call71 (dX _ _ hv2)⟩ ?_
 refine aV [4] ?_
 refine aj ?_
 obtain rfl:=zi h
 exact al hio rfl (.tmp _ _ .nil) rfl rfl
theorem mr (s:KK) (prefix_:KK) (r:(KK×Bool)) (h:Sh.gu s prefix_=some r):bM Tryz.prog 135 [.v (.string s),.v (.string prefix_)] (.tup [.v (.string r.1),.v (.bool r.2)]):=by
 unfold Sh.gu at h
 refine yO 24 func135 fun g0 hn hio => ?_
 refine aG hn 2 [0,1] ?_
 refine ab (ab ?_)
 refine ay h (fun (s3:Bool)=>[(0,vs s),(1,vs prefix_),(19,vb s3)]) ?_ ?_
 rintro s3 h
 refine af ?_
 refine zc h rfl (fun h => ?_) (fun h => ?_)
 refine aG hn 2 [4,5] ?_
 refine aj (ai ?_)
 obtain rfl:=zi h
 exact al hio rfl (.tmp _ _ (.tmp _ _ .nil)) rfl rfl
 refine am ?_
 refine af (ab ?_)
 obtain ⟨v8,hv8,h⟩:=zn h
 refine yx hn 3 ?_
 refine yS (vs v8) 2 ⟨cW _ _ _ (prefix_.size:Int) (s.size:Int) _ underlying9 rfl ⟨_,rfl⟩ rfl hv8⟩ ?_
 refine aV [4,5] ?_
 refine aj ?_
 obtain rfl:=zi h
 exact al hio rfl (.tmp _ _ (.tmp _ _ .nil)) rfl rfl
 intro u4 h hl5 hr6
 refine ak h (fun hg1_5 h => ?_) (fun hg1_5 h => ?_)
 refine yx hn 6 ?_
 refine yd hg1_5 8 ?_
 refine ye [0,1,19] ?_
 exact hl5 _ (zi h).symm
 obtain ⟨v1,hv1,v2,hv2,h⟩:=eo h
 refine yx hn 6 ?_
 refine yd hg1_5 3 ?_
 refine yS (vs v1) 1 ⟨cW _ _ _ 0 (prefix_.size:Int) _ underlying9 rfl rfl ⟨_,rfl⟩ hv1⟩ ?_
 refine ys 2 ⟨lk call136 (fu _ _ _ hv2)⟩ ?_
 refine ye [0,1,19] ?_
 exact hl5 _ (zi h).symm
theorem ml (mx:Int×Nat×Value) (line:KK) (r:Bool) (h:Sh.du line=some r):ir Tryz.prog (GL mx) 110 [.v (.string line)] (.v (.bool r)):=by
 unfold Sh.du at h
 refine yG 40 func110 fun g0 hn hio => ?_
 refine aG hn 1 [0,40] ?_
 refine ab ?_
 obtain ⟨v1,hv1,h⟩:=zn h
 refine yx hn 1 ?_
 refine ys 0 ⟨lk call135 (mr _ _ _ hv1)⟩ ?_
 refine ym 4 ?_
 refine aV [40,3,4] ?_
 refine ab (ab ?_)
 refine ay h (fun (s3:Bool)=>[(40,.glob (GL mx)),(3,vs v1.1),(20,vb s3)]) ?_ ?_
 rintro s3 h
 refine af ?_
 refine zc h rfl (fun h => ?_) (fun h => ?_)
 refine aG hn 1 [40,2] ?_
 refine aj ?_
 refine ag [1] (by kernel_rfl) (es':=[(_,_)]) rfl ?_
 refine ai ?_
 obtain rfl:=zi h
 exact al hio rfl (.tmp _ _ .nil) rfl rfl
 refine am ?_
 refine af (ab ?_)
 refine aG hn 3 [40,3,22,23] ?_
 refine aU h (fun (s26:Int)=>[(40,.glob (GL mx)),(3,vs v1.1),(22,vi (v1.1.size:Int)),(23,vi s26)]) (fun (():Unit)=>[(40,.glob (GL mx))]) ?_ ?_
 rintro ⟨⟩ h
 refine af ?_
 refine aG hn 1 [40,2] ?_
 refine aj ?_
 refine ag [1] (by kernel_rfl) (es':=[(_,_)]) rfl ?_
 obtain rfl:=zi h
 exact al hio rfl (.tmp _ _ .nil) rfl rfl
 rintro u33 hl34 hr35 s26 rr38 h ho36
 refine aG hn 1 [40,3,22,23,24] ?_
 refine ab ?_
 refine zc h rfl (fun h => ?_) (fun h => ?_)
 refine am ?_
 refine af (ab ?_)
 refine aC ?_
 refine aG hn 2 [40,3,22,23,5] ?_
 refine ab ?_
 refine ay h (fun (s40:Bool)=>[(40,.glob (GL mx)),(3,vs v1.1),(22,vi (v1.1.size:Int)),(23,vi s26),(38,vb s40)]) ?_ ?_
 rintro s40 h
 refine af ?_
 refine zc h rfl (fun h => ?_) (fun h => ?_)
 refine aG hn 1 [40,2] ?_
 refine aj ?_
 refine ag [1] (by kernel_rfl) (es':=[(_,_)]) rfl ?_
 refine aE (ai (ai (aE (ai ?_))))
 have h:=hr35 _ (ho36 _ (zi h).symm).symm
 obtain rfl:=zi h
 exact al hio rfl (.tmp _ _ .nil) rfl rfl
 refine am (aI (af ?_))
 obtain ⟨v18,hv18,h⟩:=zn h
 refine yx hn 0 ?_
 refine ys 0 ⟨lb hv18⟩ ?_
 refine yw [23] 1 ?_
 refine ye [40,3,22,23] ?_
 exact bc _ (zi h).symm rfl
 intro u41 h hl42 hr43
 obtain ⟨v9,hv9,h⟩:=zn h
 refine ak h (fun hg7_4 h => ?_) (fun hg7_4 h => ?_)
 obtain ⟨v10,hv10,v11,hv11,v12,hv12,h⟩:=rZ h
 refine yx hn 2 ?_
 refine ys 2 ⟨lh hv9⟩ ?_
 refine yd hg7_4 3 ?_
 refine ys 0 ⟨lb hv10⟩ ?_
 refine yS (vs v11) 0 ⟨cW _ _ _ s26 v10 _ underlying9 rfl ⟨_,rfl⟩ ⟨_,rfl⟩ hv11⟩ ?_
 refine ys 2 ⟨lg call55 (bN _ _ _ hv12) 40⟩ ?_
 refine ye [40,3,22,23,38] ?_
 exact hl42 _ (zi h).symm
 refine yx hn 2 ?_
 refine ys 2 ⟨lh hv9⟩ ?_
 refine yd hg7_4 8 ?_
 refine ye [40,3,22,23,38] ?_
 exact hl42 _ (zi h).symm
 refine bh (ar (ar (bb ?_)))
 refine ag [0] (by kernel_rfl) (es':=[(_,_)]) rfl ?_
 exact hl34 _ (ho36 _ (zi h).symm).symm
 intro u4 h hl5 hr6
 refine ak h (fun hg2_2 h => ?_) (fun hg2_2 h => ?_)
 refine yx hn 3 ?_
 refine yd hg2_2 7 ?_
 refine ye [40,3,20] ?_
 exact hl5 _ (zi h).symm
 refine ak h (fun hg2_6 h => ?_) (fun hg2_6 h => ?_)
 refine yx hn 3 ?_
 refine yd hg2_2 4 ?_
 refine yd hg2_6 3 ?_
 refine ye [40,3,20] ?_
 exact hl5 _ (zi h).symm
 obtain ⟨v2,hv2,h⟩:=zn h
 refine yx hn 3 ?_
 refine yd hg2_2 4 ?_
 refine yd hg2_6 1 ?_
 refine ys 1 ⟨lk call136 (fu _ _ _ hv2)⟩ ?_
 refine ye [40,3,20] ?_
 exact hl5 _ (zi h).symm
theorem qO (kind:Int) (r:KK) (h:Sh.iI kind=some r):bM Tryz.prog 157 [.v (.int .i64 kind)] (.v (.string r)):=by
 unfold Sh.iI at h
 refine yO 5 func157 fun g0 hn hio => ?_
 refine aG hn 1 [0] ?_
 refine ab ?_
 refine aG hn 2 [4] ?_
 refine zc h rfl (fun h => ?_) (fun h => ?_)
 refine aG hn 1 [2] ?_
 refine aj (ai ?_)
 obtain rfl:=zi h
 exact al hio rfl (.tmp _ _ .nil) rfl rfl
 refine am (af ?_)
 refine aG hn 1 [2] ?_
 refine aj ?_
 obtain rfl:=zi h
 exact al hio rfl (.tmp _ _ .nil) rfl rfl
theorem iA (s:KK) (prefix_:KK) (r:Bool) (h:Sh.bC s prefix_=some r):bM Tryz.prog 175 [.v (.string s),.v (.string prefix_)] (.v (.bool r)):=by
 unfold Sh.bC at h
 refine yO 18 func175 fun g0 hn hio => ?_
 refine aG hn 1 [0,1] ?_
 refine ab ?_
 refine ay h (fun (s2:Bool)=>[(4,vb s2)]) ?_ ?_
 rintro s2 h
 refine af (aj ?_)
 obtain rfl:=zi h
 exact al hio rfl (.tmp _ _ .nil) rfl rfl
 intro u3 h hl4 hr5
 refine ak h (fun hg1_5 h => ?_) (fun hg1_5 h => ?_)
 obtain ⟨v1,hv1,h⟩:=zn h
 refine yx hn 6 ?_
 refine yd hg1_5 3 ?_
 refine yS (vs v1) 4 ⟨cW _ _ _ 0 (prefix_.size:Int) _ underlying9 rfl rfl ⟨_,rfl⟩ hv1⟩ ?_
 refine ye [4] ?_
 exact hl4 _ (zi h).symm
 refine yx hn 6 ?_
 refine yd hg1_5 8 ?_
 refine ye [4] ?_
 exact hl4 _ (zi h).symm
theorem iy (s:KK) (prefix_:KK) (r:(KK×Bool)) (h:Sh.bW s prefix_=some r):bM Tryz.prog 205 [.v (.string s),.v (.string prefix_)] (.tup [.v (.string r.1),.v (.bool r.2)]):=by
 unfold Sh.bW at h
 refine yO 15 func205 fun g0 hn hio => ?_
 refine aG hn 2 [0,1] ?_
 refine ab (ab ?_)
 obtain ⟨v1,hv1,h⟩:=zn h
 refine yx hn 2 ?_
 refine ys 1 ⟨lk call175 (iA _ _ _ hv1)⟩ ?_
 refine aV [0,1,9] ?_
 refine zc h rfl (fun h => ?_) (fun h => ?_)
 refine aG hn 3 [4,5] ?_
 refine aj (ai ?_)
 obtain rfl:=zi h
 exact al hio rfl (.tmp _ _ (.tmp _ _ .nil)) rfl rfl
 refine am ?_
 refine af (ab ?_)
 obtain ⟨v3,hv3,h⟩:=zn h
 refine yx hn 3 ?_
 refine yS (vs v3) 2 ⟨cW _ _ _ (prefix_.size:Int) (s.size:Int) _ underlying9 rfl ⟨_,rfl⟩ rfl hv3⟩ ?_
 refine aV [4,5] ?_
 refine aj ?_
 obtain rfl:=zi h
 exact al hio rfl (.tmp _ _ (.tmp _ _ .nil)) rfl rfl
theorem jz (s:KK) (prefix_:KK) (r:(KK×Bool)) (h:Sh.cH s prefix_=some r):bM Tryz.prog 184 [.v (.string s),.v (.string prefix_)] (.tup [.v (.string r.1),.v (.bool r.2)]):=by
 unfold Sh.cH at h
 refine yO 11 func184 fun g0 hn hio => ?_
 refine aG hn 2 [0,1] ?_
 refine ab ?_
 obtain ⟨v1,hv1,h⟩:=zn h
 refine yx hn 2 ?_
 refine ys 4 ⟨lk call205 (iy _ _ _ hv1)⟩ ?_
 refine aV [4,5] ?_
 refine aj ?_
 obtain rfl:=zi h
 exact al hio rfl (.tmp _ _ (.tmp _ _ .nil)) rfl rfl
theorem ix (s:KK) (suffix:KK) (r:Bool) (h:Sh.bB s suffix=some r):bM Tryz.prog 220 [.v (.string s),.v (.string suffix)] (.v (.bool r)):=by
 unfold Sh.bB at h
 refine yO 21 func220 fun g0 hn hio => ?_
 refine aG hn 1 [0,1] ?_
 refine ab ?_
 refine ay h (fun (s3:Bool)=>[(4,vb s3)]) ?_ ?_
 rintro s3 h
 refine af (aj ?_)
 obtain rfl:=zi h
 exact al hio rfl (.tmp _ _ .nil) rfl rfl
 intro u4 h hl5 hr6
 refine ak h (fun hg1_5 h => ?_) (fun hg1_5 h => ?_)
 obtain ⟨v1,hv1,v2,hv2,h⟩:=eo h
 refine yx hn 6 ?_
 refine yd hg1_5 5 ?_
 refine ys 0 ⟨lb hv1⟩ ?_
 refine yS (vs v2) 4 ⟨cW _ _ _ v1 (s.size:Int) _ underlying9 rfl ⟨_,rfl⟩ rfl hv2⟩ ?_
 refine ye [4] ?_
 exact hl5 _ (zi h).symm
 refine yx hn 6 ?_
 refine yd hg1_5 11 ?_
 refine ye [4] ?_
 exact hl5 _ (zi h).symm
theorem iz (s:KK) (suffix:KK) (r:(KK×Bool)) (h:Sh.bX s suffix=some r):bM Tryz.prog 206 [.v (.string s),.v (.string suffix)] (.tup [.v (.string r.1),.v (.bool r.2)]):=by
 unfold Sh.bX at h
 refine yO 18 func206 fun g0 hn hio => ?_
 refine aG hn 2 [0,1] ?_
 refine ab (ab ?_)
 obtain ⟨v1,hv1,h⟩:=zn h
 refine yx hn 2 ?_
 refine ys 1 ⟨lk call220 (ix _ _ _ hv1)⟩ ?_
 refine aV [0,1,9] ?_
 refine zc h rfl (fun h => ?_) (fun h => ?_)
 refine aG hn 3 [4,5] ?_
 refine aj (ai ?_)
 obtain rfl:=zi h
 exact al hio rfl (.tmp _ _ (.tmp _ _ .nil)) rfl rfl
 refine am ?_
 refine af (ab ?_)
 obtain ⟨v3,hv3,v4,hv4,h⟩:=eo h
 refine yx hn 5 ?_
 refine ys 0 ⟨lb hv3⟩ ?_
 refine yS (vs v4) 2 ⟨cW _ _ _ 0 v3 _ underlying9 rfl rfl ⟨_,rfl⟩ hv4⟩ ?_
 refine aV [4,5] ?_
 refine aj ?_
 obtain rfl:=zi h
 exact al hio rfl (.tmp _ _ (.tmp _ _ .nil)) rfl rfl
theorem ng (s:KK) (suffix:KK) (r:(KK×Bool)) (h:Sh.dk s suffix=some r):bM Tryz.prog 185 [.v (.string s),.v (.string suffix)] (.tup [.v (.string r.1),.v (.bool r.2)]):=by
 unfold Sh.dk at h
 refine yO 11 func185 fun g0 hn hio => ?_
 refine aG hn 2 [0,1] ?_
 refine ab ?_
 obtain ⟨v1,hv1,h⟩:=zn h
 refine yx hn 2 ?_
 refine ys 4 ⟨lk call206 (iz _ _ _ hv1)⟩ ?_
 refine aV [4,5] ?_
 refine aj ?_
 obtain rfl:=zi h
 exact al hio rfl (.tmp _ _ (.tmp _ _ .nil)) rfl rfl
theorem tg (mx:Int×Nat×Value) (s:KK) (r:(T_Path×Int)) (h:Sh.jW s=some r):ir Tryz.prog (GL mx) 158 [.v (.string s)] (.tup [.agg [.v (.bool r.1.Kx),.v (.string r.1.Ks),.v (.string r.1.Kg)],.v (.int .i64 r.2)]):=by
 unfold Sh.jW at h
 refine yG 50 func158 fun g0 hn hio => ?_
 refine gE hn 0 ?_
 refine yS (.box 26 [vb false,vs z0,vs z0]) 1 ⟨oA (aR _ _ sB)⟩ ?_
 refine aV [0,50,2] ?_
 refine ab ?_
 refine aG hn 2 [0,50,2,12] ?_
 refine zc h rfl (fun h => ?_) (fun h => ?_)
 refine gE hn 0 ?_
 refine yS (.agg [vb true,vs z0,vs z0]) 2 ⟨bn _ _ _ _ [1,1,1] _ _ underlying26 sB (Be _ underlying26) (.copy _ mz.nil) rfl rfl rfl⟩ ?_
 refine aV [50,2,3] ?_
 refine aj ?_
 refine ag [1,2] (by kernel_rfl) (es':=[(_,_),(_,_)]) rfl ?_
 refine ai ?_
 obtain rfl:=zi h
 exact al hio rfl (.cellA _ _ _ _ underlying26 rfl sN (.tmp _ _ .nil)) rfl rfl
 refine am ?_
 refine af (ab ?_)
 obtain ⟨v2,hv2,h⟩:=zn h
 refine yx hn 1 ?_
 refine ys 0 ⟨lk call184 (jz _ _ _ hv2)⟩ ?_
 refine ym 4 ?_
 refine aV [50,2,4,5] ?_
 refine ab ?_
 obtain ⟨v3,hv3,h⟩:=zn h
 refine yx hn 1 ?_
 refine ys 0 ⟨lk call185 (ng _ _ _ hv3)⟩ ?_
 refine ym 2 ?_
 refine yw [4] 2 ?_
 refine aV [50,2,5,4,6] ?_
 refine ab ?_
 obtain ⟨v4,hv4,h⟩:=zn h
 refine yx hn 1 ?_
 refine ys 0 ⟨lk call134 (iO _ _ _ hv4)⟩ ?_
 refine ym 6 ?_
 refine aV [50,2,5,6,7,8,9] ?_
 refine gE hn 2 ?_
 refine yS (.agg [vb false,vs v4.1,vs v4.2.1]) 0 ⟨bn _ _ _ _ [1,1,1] _ _ underlying26 sB (Be _ underlying26) (.copy _ (.copy _ mz.nil)) rfl rfl rfl⟩ ?_
 refine yS (.box 26 [vb false,vs z0,vs z0]) 1 ⟨oA (aR _ _ sB)⟩ ?_
 refine aV [50,2,5,6,9,10] ?_
 refine ab (ab ?_)
 refine ay h (fun (s6:Bool)=>[(50,.glob (GL mx)),(2,.box 26 [vb false,vs z0,vs z0]),(10,.box 26 [vb false,vs v4.1,vs v4.2.1]),(47,vb s6)]) ?_ ?_
 rintro s6 h
 refine af ?_
 refine zc h rfl (fun h => ?_) (fun h => ?_)
 refine gE hn 0 ?_
 refine yS (.agg [vb false,vs z0,vs z0]) 0 ⟨bn _ _ _ _ [1,1,1] _ _ underlying26 sB (Be _ underlying26) mz.nil rfl rfl rfl⟩ ?_
 refine yk [48,2] [] ?_
 refine yt (2,.box 26 [vb false,vs z0,vs z0]) 1 ⟨cX _ _ _ 48 2 3 sN rfl rfl rfl rfl rfl (.eq _ (.eq _ (.eq _ (.nil _)))) rfl⟩ ?_
 refine aV [50,2,3] ?_
 refine aj ?_
 refine ag [1,2] (by kernel_rfl) (es':=[(_,_),(_,_)]) rfl ?_
 refine ai ?_
 obtain rfl:=zi h
 exact al hio rfl (.cellA _ _ _ _ underlying26 rfl sN (.tmp _ _ .nil)) rfl rfl
 refine am (af ?_)
 refine aG hn 3 [50,2,3] ?_
 refine aj ?_
 refine ag [1,2] (by kernel_rfl) (es':=[(_,_),(_,_)]) rfl ?_
 obtain rfl:=zi h
 exact al hio rfl (.cellA _ _ _ _ underlying26 rfl sN (.tmp _ _ .nil)) rfl rfl
 intro u7 h hl8 hr9
 refine ak h (fun hg7_2 h => ?_) (fun hg7_2 h => ?_)
 refine yx hn 3 ?_
 refine yd hg7_2 12 ?_
 refine ye [50,2,10,47] ?_
 exact hl8 _ (zi h).symm
 refine ak h (fun hg7_6 h => ?_) (fun hg7_6 h => ?_)
 refine yx hn 3 ?_
 refine yd hg7_2 4 ?_
 refine yd hg7_6 8 ?_
 refine ye [50,2,10,47] ?_
 exact hl8 _ (zi h).symm
 refine ak h (fun hg7_10 h => ?_) (fun hg7_10 h => ?_)
 refine yx hn 3 ?_
 refine yd hg7_2 4 ?_
 refine yd hg7_6 4 ?_
 refine yd hg7_10 4 ?_
 refine ye [50,2,10,47] ?_
 exact hl8 _ (zi h).symm
 obtain ⟨v5,hv5,h⟩:=zn h
 refine yx hn 3 ?_
 refine yd hg7_2 4 ?_
 refine yd hg7_6 4 ?_
 refine yd hg7_10 1 ?_
 refine ys 2 ⟨lg call162 (cA _ _ _ hv5) 50⟩ ?_
 refine ye [50,2,10,47] ?_
 exact hl8 _ (zi h).symm
theorem qM (s:KK) (r:Int×Unit) (h:Sh.strconv_Atoi s=some r):bM Tryz.prog 139 [.v (.string s)] (.tup [.v (.int .i64 r.1),.v .nilIface]):=qh (fun s n w h1 h2=>Tryz.strconv_Atoi s n h1 h2 w) s r h
theorem qD (s:KK) (digits:Int) (r:(Int×Bool)) (h:Sh.gm s digits=some r):bM Tryz.prog 207 [.v (.string s),.v (.int .i64 digits)] (.tup [.v (.int .i64 r.1),.v (.bool r.2)]):=by
 unfold Sh.gm at h
 refine yO 51 func207 fun g0 hn hio => ?_
 refine aG hn 2 [0,1] ?_
 refine ab (ab ?_)
 refine ay h (fun (s3:Bool)=>[(0,vs s),(26,vb s3)]) ?_ ?_
 rintro s3 h
 refine af ?_
 refine zc h rfl (fun h => ?_) (fun h => ?_)
 refine aG hn 2 [4,5] ?_
 refine aj (ai ?_)
 obtain rfl:=zi h
 exact al hio rfl (.tmp _ _ (.tmp _ _ .nil)) rfl rfl
 refine am ?_
 refine af (ab ?_)
 refine aG hn 3 [0,28,29] ?_
 refine aU h (fun (s24:Int)=>[(0,vs s),(28,vi (s.size:Int)),(29,vi s24)]) (fun (():Unit)=>[(0,vs s)]) ?_ ?_
 rintro ⟨⟩ h
 refine af (ab ?_)
 obtain ⟨v43,hv43,h⟩:=zn h
 refine yx hn 1 ?_
 refine ys 0 ⟨lk call139 (qM _ _ hv43)⟩ ?_
 refine ym 4 ?_
 refine aV [7,8] ?_
 refine ab ?_
 refine wb [[7],[8]] ?_
 refine wN [49] ?_
 refine wS (vb true) [[48],[50]] ⟨CC _ _ false underlying155 rfl⟩ ?_
 refine sF hn [4,5] ?_
 refine aj ?_
 obtain rfl:=zi h
 exact al hio rfl (.tmp _ _ (.tmp _ _ .nil)) rfl rfl
 rintro u31 hl32 hr33 s24 rr36 h ho34
 refine aG hn 1 [0,28,29,30] ?_
 refine ab ?_
 refine zc h rfl (fun h => ?_) (fun h => ?_)
 refine am ?_
 refine af (ab ?_)
 refine aC ?_
 refine aG hn 2 [0,28,29,6] ?_
 refine ab ?_
 refine ay h (fun (s38:Bool)=>[(0,vs s),(28,vi (s.size:Int)),(29,vi s24),(41,vb s38)]) ?_ ?_
 rintro s38 h
 refine af ?_
 refine zc h rfl (fun h => ?_) (fun h => ?_)
 refine aG hn 2 [4,5] ?_
 refine aj (aE (ai (ai (aE (ai ?_)))))
 have h:=hr33 _ (ho34 _ (zi h).symm).symm
 obtain rfl:=zi h
 exact al hio rfl (.tmp _ _ (.tmp _ _ .nil)) rfl rfl
 refine am (aI (af ?_))
 obtain ⟨v16,hv16,h⟩:=zn h
 refine yx hn 0 ?_
 refine ys 0 ⟨lb hv16⟩ ?_
 refine yw [29] 1 ?_
 refine ye [0,28,29] ?_
 exact bc _ (zi h).symm rfl
 intro u39 h hl40 hr41
 obtain ⟨v9,hv9,h⟩:=zn h
 refine ak h (fun hg6_4 h => ?_) (fun hg6_4 h => ?_)
 refine yx hn 2 ?_
 refine ys 2 ⟨lh hv9⟩ ?_
 refine yd hg6_4 5 ?_
 refine ye [0,28,29,41] ?_
 exact hl40 _ (zi h).symm
 obtain ⟨v10,hv10,h⟩:=zn h
 refine yx hn 2 ?_
 refine ys 2 ⟨lh hv9⟩ ?_
 refine yd hg6_4 2 ?_
 refine ys 2 ⟨lh hv10⟩ ?_
 refine ye [0,28,29,41] ?_
 exact hl40 _ (zi h).symm
 refine bh (ar (ar (bb ?_)))
 refine ag [0] (by kernel_rfl) (es':=[(_,_)]) rfl ?_
 exact hl32 _ (ho34 _ (zi h).symm).symm
 intro u4 h hl5 hr6
 refine ak h (fun hg1_2 h => ?_) (fun hg1_2 h => ?_)
 refine yx hn 3 ?_
 refine yd hg1_2 15 ?_
 refine ye [0,26] ?_
 exact hl5 _ (zi h).symm
 obtain ⟨v1,hv1,h⟩:=zn h
 refine ak h (fun hg1_9 h => ?_) (fun hg1_9 h => ?_)
 refine yx hn 3 ?_
 refine yd hg1_2 3 ?_
 refine yS (vi v1) 3 ⟨(Option.some.inj hv1) ▸ vm _ _ _ _ rfl rfl⟩ ?_
 refine yd hg1_9 8 ?_
 refine ye [0,26] ?_
 exact hl5 _ (zi h).symm
 obtain ⟨v2,hv2,h⟩:=zn h
 refine ak h (fun hg1_13 h => ?_) (fun hg1_13 h => ?_)
 refine yx hn 3 ?_
 refine yd hg1_2 3 ?_
 refine yS (vi v1) 3 ⟨(Option.some.inj hv1) ▸ vm _ _ _ _ rfl rfl⟩ ?_
 refine yd hg1_9 1 ?_
 refine ys 2 ⟨lh hv2⟩ ?_
 refine yd hg1_13 4 ?_
 refine ye [0,26] ?_
 exact hl5 _ (zi h).symm
 refine yx hn 3 ?_
 refine yd hg1_2 3 ?_
 refine yS (vi v1) 3 ⟨(Option.some.inj hv1) ▸ vm _ _ _ _ rfl rfl⟩ ?_
 refine yd hg1_9 1 ?_
 refine ys 2 ⟨lh hv2⟩ ?_
 refine yd hg1_13 4 ?_
 refine ye [0,26] ?_
 exact hl5 _ (zi h).symm
theorem nT (s:KK) (words:(List KK)) (r:(KK×Bool)) (h:Sh.ja s words=some r):bM Tryz.prog 208 [.v (.string s),.fl .shr 1 (map Value.string words)] (.tup [.v (.string r.1),.v (.bool r.2)]):=by
 unfold Sh.ja at h
 refine yO 19 func208 fun g0 hn hio => ?_
 refine aG hn 2 [0,1] ?_
 refine ab ?_
 refine aG hn 3 [0,8,9,10] ?_
 refine aU h (fun (s10:Int)=>[(0,vs s),(8,.fl .shr 1 (map Value.string words)),(9,vi (words.length:Int)),(10,vi s10)]) (fun (():Unit)=>[]) ?_ ?_
 rintro ⟨⟩ h
 refine af ?_
 refine aG hn 2 [4,5] ?_
 refine aj ?_
 obtain rfl:=zi h
 exact al hio rfl (.tmp _ _ (.tmp _ _ .nil)) rfl rfl
 rintro u13 hl14 hr15 s10 rr18 h ho16
 refine aG hn 1 [0,8,9,10,11] ?_
 refine ab ?_
 refine zc h rfl (fun h => ?_) (fun h => ?_)
 refine am ?_
 refine af (ab ?_)
 refine aC (ab ?_)
 obtain ⟨v2,hv2,v3,hv3,h⟩:=eo h
 refine yx hn 0 ?_
 refine ys 0 ⟨li hv2⟩ ?_
 refine ys 1 ⟨ll hv3⟩ ?_
 refine aV [0,8,9,10,7] ?_
 refine ab ?_
 obtain ⟨v4,hv4,h⟩:=zn h
 refine yx hn 2 ?_
 refine ys 0 ⟨lk call136 (fu _ _ _ hv4)⟩ ?_
 refine aV [0,8,9,10,7,16] ?_
 refine zc h rfl (fun h => ?_) (fun h => ?_)
 refine aG hn 3 [4,5] ?_
 refine aj (aE (ai (ai (aE (ai ?_)))))
 have h:=hr15 _ (ho16 _ (zi h).symm).symm
 obtain rfl:=zi h
 exact al hio rfl (.tmp _ _ (.tmp _ _ .nil)) rfl rfl
 refine am (aI (af ?_))
 obtain ⟨v6,hv6,h⟩:=zn h
 refine yx hn 0 ?_
 refine ys 0 ⟨lb hv6⟩ ?_
 refine yw [10] 1 ?_
 refine ye [0,8,9,10] ?_
 exact bc _ (zi h).symm rfl
 refine bh (ar (ar (bb ?_)))
 refine ag [] (by kernel_rfl) (es':=[]) rfl ?_
 exact hl14 _ (ho16 _ (zi h).symm).symm
theorem po (kind:Int) (key:KK) (val:KK) (r:(aq×Bool)) (h:Sh.eK kind key val=some r):bM Tryz.prog 186 [.v (.int .i64 kind),.v (.string key),.v (.string val)] (.tup [.agg [.v (.string r.1.Ko),.v (.string r.1.KJ)],.v (.bool r.2)]):=by
 unfold Sh.eK at h
 refine yO 62 func186 fun g0 hn hio => ?_
 refine gE hn 0 ?_
 refine yS (.box 181 [vs z0,vs z0]) 1 ⟨oA (aR _ _ qp)⟩ ?_
 refine aV [0,1,2,6] ?_
 refine ab (aC (ab ?_))
 refine ay h (fun (s1:Bool)=>[(0,vi kind),(1,vs key),(2,vs val),(6,.box 181 [vs z0,vs z0]),(14,vb s1)]) ?_ ?_
 rintro s1 h
 refine af ?_
 refine zc h rfl (fun h => ?_) (fun h => ?_)
 refine ab ?_
 obtain ⟨v6,hv6,h⟩:=zn h
 refine yx hn 1 ?_
 refine ys 0 ⟨lk call207 (qD _ _ _ hv6)⟩ ?_
 refine ym 4 ?_
 refine aV [2,6,9] ?_
 refine gE hn 1 ?_
 refine yS (.agg [vs (⟨#[83,73,90,69]⟩:KK),vs val]) 3 ⟨bn _ _ _ _ [1,1] _ _ underlying181 qp (yZ _ underlying181) (.copy _ (.copy _ mz.nil)) rfl rfl rfl⟩ ?_
 refine aV [6,7] ?_
 refine aj (aE (ai ?_))
 obtain rfl:=zi h
 exact al hio rfl (.cellA _ _ _ _ underlying181 rfl pG (.tmp _ _ .nil)) rfl rfl
 refine ab ?_
 refine ay h (fun (s7:Bool)=>[(0,vi kind),(1,vs key),(2,vs val),(6,.box 181 [vs z0,vs z0]),(29,vb s7)]) ?_ ?_
 rintro s7 h
 refine af ?_
 refine zc h rfl (fun h => ?_) (fun h => ?_)
 refine ab ?_
 obtain ⟨v12,hv12,h⟩:=zn h
 refine yx hn 1 ?_
 refine yS (.fl (.own 9) 1 (map Value.string ([(⟨#[70,85,76,76]⟩:KK),(⟨#[72,68,82,83]⟩:KK)]))) 0 ⟨bi _ _ 1 (.string ByteArray.empty) (map Value.string ([(⟨#[70,85,76,76]⟩:KK),(⟨#[72,68,82,83]⟩:KK)])) [(0,.string (⟨#[70,85,76,76]⟩:KK)),(1,.string (⟨#[72,68,82,83]⟩:KK))] underlying49 rL Il (fun _ V w o a hv hes=>by simp only [List.map_toArray,List.map_cons,List.map_nil]; try rfl) (dn (by simp [Instr.fill,Value.cells]; rfl) (by simp [List.range,List.range.loop] <;> rfl)) (by simp [Value.oneCell']) rfl (by decide) (by decide) (by decide)⟩ ?_
 refine ys 0 ⟨lk call208 (nT _ _ _ hv12)⟩ ?_
 refine ym 4 ?_
 refine aV [6,10,11] ?_
 refine gE hn 1 ?_
 refine yS (.agg [vs (⟨#[82,69,84]⟩:KK),vs v12.1]) 3 ⟨bn _ _ _ _ [1,1] _ _ underlying181 qp (yZ _ underlying181) (.copy _ (.copy _ mz.nil)) rfl rfl rfl⟩ ?_
 refine aV [6,7] ?_
 refine aj (aE (ai ?_))
 obtain rfl:=zi h
 exact al hio rfl (.cellA _ _ _ _ underlying181 rfl pG (.tmp _ _ .nil)) rfl rfl
 refine ab ?_
 refine ay h (fun (s13:Bool)=>[(2,vs val),(6,.box 181 [vs z0,vs z0]),(45,vb s13)]) ?_ ?_
 rintro s13 h
 refine af ?_
 refine zc h rfl (fun h => ?_) (fun h => ?_)
 refine ab ?_
 obtain ⟨v18,hv18,h⟩:=zn h
 refine yx hn 1 ?_
 refine yS (.fl (.own 9) 1 (map Value.string ([(⟨#[78,69,86,69,82]⟩:KK),(⟨#[70,65,73,76,85,82,69]⟩:KK)]))) 0 ⟨bi _ _ 1 (.string ByteArray.empty) (map Value.string ([(⟨#[78,69,86,69,82]⟩:KK),(⟨#[70,65,73,76,85,82,69]⟩:KK)])) [(0,.string (⟨#[78,69,86,69,82]⟩:KK)),(1,.string (⟨#[70,65,73,76,85,82,69]⟩:KK))] underlying49 rL Il (fun _ V w o a hv hes=>by simp only [List.map_toArray,List.map_cons,List.map_nil]; try rfl) (dn (by simp [Instr.fill,Value.cells]; rfl) (by simp [List.range,List.range.loop] <;> rfl)) (by simp [Value.oneCell']) rfl (by decide) (by decide) (by decide)⟩ ?_
 refine ys 0 ⟨lk call208 (nT _ _ _ hv18)⟩ ?_
 refine ym 4 ?_
 refine aV [6,12,13] ?_
 refine gE hn 1 ?_
 refine yS (.agg [vs (⟨#[78,79,84,73,70,89]⟩:KK),vs v18.1]) 3 ⟨bn _ _ _ _ [1,1] _ _ underlying181 qp (yZ _ underlying181) (.copy _ (.copy _ mz.nil)) rfl rfl rfl⟩ ?_
 refine aV [6,7] ?_
 refine aj (aE (ai ?_))
 obtain rfl:=zi h
 exact al hio rfl (.cellA _ _ _ _ underlying181 rfl pG (.tmp _ _ .nil)) rfl rfl
 refine am (aI (af ?_))
 refine gE hn 0 ?_
 refine yS (.agg [vs z0,vs z0]) 0 ⟨bn _ _ _ _ [1,1] _ _ underlying181 qp (yZ _ underlying181) mz.nil rfl rfl rfl⟩ ?_
 refine yk [61,6] [] ?_
 refine yt (6,.box 181 [vs z0,vs z0]) 1 ⟨cX _ _ _ 61 6 2 pG rfl rfl rfl rfl rfl (.eq _ (.eq _ (.nil _))) rfl⟩ ?_
 refine aV [6,7] ?_
 refine aj ?_
 obtain rfl:=zi h
 exact al hio rfl (.cellA _ _ _ _ underlying181 rfl pG (.tmp _ _ .nil)) rfl rfl
 intro u14 h hl15 hr16
 refine ak h (fun hg7_2 h => ?_) (fun hg7_2 h => ?_)
 refine yx hn 3 ?_
 refine yd hg7_2 4 ?_
 refine ye [2,6,45] ?_
 exact hl15 _ (zi h).symm
 refine yx hn 3 ?_
 refine yd hg7_2 4 ?_
 refine ye [2,6,45] ?_
 exact hl15 _ (zi h).symm
 intro u8 h hl9 hr10
 refine ak h (fun hg4_2 h => ?_) (fun hg4_2 h => ?_)
 refine yx hn 3 ?_
 refine yd hg4_2 4 ?_
 refine ye [0,1,2,6,29] ?_
 exact hl9 _ (zi h).symm
 refine yx hn 3 ?_
 refine yd hg4_2 4 ?_
 refine ye [0,1,2,6,29] ?_
 exact hl9 _ (zi h).symm
 intro u2 h hl3 hr4
 refine ak h (fun hg1_2 h => ?_) (fun hg1_2 h => ?_)
 refine yx hn 3 ?_
 refine yd hg1_2 4 ?_
 refine ye [0,1,2,6,14] ?_
 exact hl3 _ (zi h).symm
 refine yx hn 3 ?_
 refine yd hg1_2 4 ?_
 refine ye [0,1,2,6,14] ?_
 exact hl3 _ (zi h).symm
theorem kT (bx:Nat) (q:aq) (cap:aq) (r:Bool) (h:Sh.fq q cap=some r):ir Tryz.prog [(bx,[.string cap.Ko,.string cap.KJ])] 188 [.agg [.v (.string q.Ko),.v (.string q.KJ)],.v (.pointer (some ⟨bx,0,none⟩))] (.v (.bool r)):=by
 unfold Sh.fq at h
 refine yG 9 func188 fun g0 hn hio => ?_
 refine aG hn 2 [1,9,2] ?_
 refine gE hn 2 ?_
 refine yS (.v (.pointer (some ⟨bx,0,none⟩))) 0 ⟨rl _ _ _ _ bx 0 _ underlying181 rfl rL rfl rfl⟩ ?_
 refine yS (vs cap.Ko) 2 ⟨lZ _ _ 9 bx 0 _ _ underlying9 rfl rfl rfl (.head _) rfl⟩ ?_
 refine aV [9,3] ?_
 refine aj ?_
 refine ag [1] (by kernel_rfl) (es':=[(_,_)]) rfl ?_
 obtain rfl:=zi h
 exact al hio rfl (.tmp _ _ .nil) rfl rfl
theorem cP (bx:Nat) (s:(List aq)) (cap:aq) (r:Int) (h:Sh.aP s cap=some r):ir Tryz.prog [(bx,[.string cap.Ko,.string cap.KJ])] 209 [.fl .shr 2 (flatten (map aq.enc s)),.v (.func (.func 188) #[] #[.pointer (some ⟨bx,0,none⟩)])] (.v (.int .i64 r)):=by
 unfold Sh.aP at h
 refine yG 19 func209 fun g0 hn hio => ?_
 refine aG hn 1 [0,1,19] ?_
 refine ab ?_
 refine aG hn 3 [0,1,19,7,8] ?_
 refine aU h (fun (s10:Int)=>[(0,.fl .shr 2 (flatten (map aq.enc s))),(1,.v (.func (.func 188) #[] #[.pointer (some ⟨bx,0,none⟩)])),(19,.glob [(bx,[.string cap.Ko,.string cap.KJ])]),(7,vi (s.length:Int)),(8,vi s10)]) (fun (():Unit)=>[(19,.glob [(bx,[.string cap.Ko,.string cap.KJ])])]) ?_ ?_
 rintro ⟨⟩ h
 refine af ?_
 refine aG hn 1 [19,4] ?_
 refine aj ?_
 refine ag [1] (by kernel_rfl) (es':=[(_,_)]) rfl ?_
 obtain rfl:=zi h
 exact al hio rfl (.tmp _ _ .nil) rfl rfl
 rintro u13 hl14 hr15 s10 rr18 h ho16
 refine aG hn 1 [0,1,19,7,8,9] ?_
 refine ab ?_
 refine zc h rfl (fun h => ?_) (fun h => ?_)
 refine am ?_
 refine af (ab ?_)
 refine aC ?_
 refine aG hn 2 [0,1,19,7,8,5] ?_
 refine ab ?_
 obtain ⟨v2,hv2,v3,hv3,v4,hv4,h⟩:=rZ h
 refine yx hn 3 ?_
 refine ys 0 ⟨lj hv2⟩ ?_
 refine yS (.agg [vs v3.Ko,vs v3.KJ]) 0 ⟨iY _ _ _ _ _ _ _ underlying181 rfl pG rfl rfl (kf aq.len hv3) rfl (by decide)⟩ ?_
 refine yS (vb v4) 0 ⟨Cp _ _ 19 188 (.pointer (some ⟨bx,0,none⟩)) _ _ rfl call188 rfl rfl (fun _ h=>h) (kT bx v3 cap _ hv4) rfl rfl⟩ ?_
 refine aV [0,1,19,7,8,5,16] ?_
 refine zc h rfl (fun h => ?_) (fun h => ?_)
 refine aG hn 2 [19,4] ?_
 refine aj ?_
 refine ag [1] (by kernel_rfl) (es':=[(_,_)]) rfl ?_
 refine aE (ai (ai (aE (ai ?_))))
 have h:=hr15 _ (ho16 _ (zi h).symm).symm
 obtain rfl:=zi h
 exact al hio rfl (.tmp _ _ .nil) rfl rfl
 refine am (aI (af ?_))
 obtain ⟨v6,hv6,h⟩:=zn h
 refine yx hn 0 ?_
 refine ys 0 ⟨lb hv6⟩ ?_
 refine yw [8] 1 ?_
 refine ye [0,1,19,7,8] ?_
 exact bc _ (zi h).symm rfl
 refine bh (ar (ar (bb ?_)))
 refine ag [2] (by kernel_rfl) (es':=[(_,_)]) rfl ?_
 exact hl14 _ (ho16 _ (zi h).symm).symm
theorem cz (bx:Nat) (s:(List aq)) (cap:aq) (r:Bool) (h:Sh.aF s cap=some r):ir Tryz.prog [(bx,[.string cap.Ko,.string cap.KJ])] 187 [.fl .shr 2 (flatten (map aq.enc s)),.v (.func (.func 188) #[] #[.pointer (some ⟨bx,0,none⟩)])] (.v (.bool r)):=by
 unfold Sh.aF at h
 refine yG 9 func187 fun g0 hn hio => ?_
 refine aG hn 1 [0,1,9] ?_
 refine ab ?_
 obtain ⟨v1,hv1,h⟩:=zn h
 refine yx hn 2 ?_
 refine ys 2 ⟨lg call209 (cP _ _ _ _ hv1) 9⟩ ?_
 refine aV [9,4] ?_
 refine aj ?_
 refine ag [1] (by kernel_rfl) (es':=[(_,_)]) rfl ?_
 obtain rfl:=zi h
 exact al hio rfl (.tmp _ _ .nil) rfl rfl
end Go.Proofs.YtjnnkhmhjcjhdaaGreatDoor
