import Derived.Test.YtjnnkhmhjcjhdaaGreatDoorOkc1
set_option linter.unusedVariables false
set_option linter.unusedSimpArgs false
set_option maxHeartbeats 1000000
namespace Go.Proofs.YtjnnkhmhjcjhdaaGreatDoor
open Go.Abs Go.Abs.Sh Tryz
open List (map flatten)
open Value (int)
theorem nY (s:Mf) (least:Int) (r:Bool) (h:Sh.lr s least=some r):bF Tryz.prog 58 [.v (.string s),.v (.int .u8 least)] (.v (.bool r)):=by
 unfold Sh.lr at h
 refine yO 23 func58 fun g0 hn hio => ?_
 refine aG hn 1 [0,1] ?_
 refine ab ?_
 refine aG hn 3 [0,1,7,8] ?_
 refine aS h (fun (s17:Int)=>[(0,vs s),(1,.v (.int .u8 least)),(7,vi (s.size:Int)),(8,vi s17)]) (fun (():Unit)=>[]) ?_ ?_
 rintro ⟨⟩ h
 refine ae ?_
 refine aG hn 1 [4] ?_
 refine ak ?_
 obtain rfl:=zi h
 exact al hio rfl (.tmp _ _ .nil) rfl rfl
 rintro u24 hl25 hr26 s17 rr29 h ho27
 refine aG hn 1 [0,1,7,8,9] ?_
 refine ab ?_
 refine zc h rfl (fun h => ?_) (fun h => ?_)
 refine am ?_
 refine ae (ab ?_)
 refine aC ?_
 refine aG hn 2 [0,1,7,8,5] ?_
 refine ab ?_
 refine aq h (fun (s31:Bool)=>[(0,vs s),(1,.v (.int .u8 least)),(7,vi (s.size:Int)),(8,vi s17),(21,vb s31)]) ?_ ?_
 rintro s31 h
 refine ae ?_
 refine zc h rfl (fun h => ?_) (fun h => ?_)
 refine aG hn 1 [4] ?_
 refine ak (aF (ag (ag (aF (ag ?_)))))
 have h:=hr26 _ (ho27 _ (zi h).symm).symm
 obtain rfl:=zi h
 exact al hio rfl (.tmp _ _ .nil) rfl rfl
 refine am (aI (ae ?_))
 obtain ⟨v9,hv9,h⟩:=zn h
 refine yx hn 0 ?_
 refine ys 0 ⟨lb hv9⟩ ?_
 refine yw [8] 1 ?_
 refine ye [0,1,7,8] ?_
 exact bb _ (zi h).symm rfl
 intro u32 h hl33 hr34
 obtain ⟨v2,hv2,h⟩:=zn h
 refine ai h (fun hg4_5 h => ?_) (fun hg4_5 h => ?_)
 refine yx hn 2 ?_
 refine ys 3 ⟨lh hv2⟩ ?_
 refine yd hg4_5 5 ?_
 refine ye [0,1,7,8,21] ?_
 exact hl33 _ (zi h).symm
 obtain ⟨v3,hv3,h⟩:=zn h
 refine yx hn 2 ?_
 refine ys 3 ⟨lh hv2⟩ ?_
 refine yd hg4_5 2 ?_
 refine ys 2 ⟨lh hv3⟩ ?_
 refine ye [0,1,7,8,21] ?_
 exact hl33 _ (zi h).symm
 refine ba (ap (ap (aZ ?_)))
 refine ah [] (by kernel_rfl) (es':=[]) rfl ?_
 exact hl25 _ (ho27 _ (zi h).symm).symm
theorem mD (s:Mf) (r:Bool) (h:Sh.oH s=some r):bF Tryz.prog 57 [.v (.string s)] (.v (.bool r)):=by
 unfold Sh.oH at h
 refine yO 15 func57 fun g0 hn hio => ?_
 refine aG hn 1 [0] ?_
 refine ab ?_
 refine aq h (fun (s2:Bool)=>[(2,vb s2)]) ?_ ?_
 rintro s2 h
 refine ae (ak ?_)
 obtain rfl:=zi h
 exact al hio rfl (.tmp _ _ .nil) rfl rfl
 intro u3 h hl4 hr5
 refine ai h (fun hg1_3 h => ?_) (fun hg1_3 h => ?_)
 refine ai h (fun hg1_8 h => ?_) (fun hg1_8 h => ?_)
 obtain ⟨v1,hv1,h⟩:=zn h
 refine yx hn 4 ?_
 refine yd hg1_3 5 ?_
 refine yd hg1_8 1 ?_
 refine ys 2 ⟨lk call58 (nY _ _ _ hv1)⟩ ?_
 refine ye [2] ?_
 exact hl4 _ (zi h).symm
 refine yx hn 4 ?_
 refine yd hg1_3 5 ?_
 refine yd hg1_8 4 ?_
 refine ye [2] ?_
 exact hl4 _ (zi h).symm
 refine yx hn 4 ?_
 refine yd hg1_3 9 ?_
 refine ye [2] ?_
 exact hl4 _ (zi h).symm
theorem nT (mx:Int×Nat×Value) (c:aB) (r:Int) (h:Sh.jN c=some r):iq Tryz.prog (GL mx) 35 [.agg [.v (.string ((c.LB.getD 0 (⟨#[]⟩:Mf)))),.v (.string ((c.LB.getD 1 (⟨#[]⟩:Mf)))),.v (.int .i64 c.LC),.v (.string c.Mc),.v (.string c.Ma),.v (.int .i64 c.LN),.v (.bool c.LH)]] (.v (.int .i64 r)):=by
 unfold Sh.jN at h
 refine yG 65 func35 fun g0 hn hio => ?_
 refine aG hn 2 [65,1] ?_
 refine ab ?_
 refine aq h (fun (s4:Bool)=>[(65,.glob (GL mx)),(1,.box 24 (aB.c c [])),(3,vb s4)]) ?_ ?_
 rintro s4 h
 refine ae (ab ?_)
 refine aq h (fun (s8:Bool)=>[(65,.glob (GL mx)),(1,.box 24 (aB.c c [])),(3,vb s4),(4,vb s8)]) ?_ ?_
 rintro s8 h
 refine ae (ab ?_)
 refine aq h (fun (s14:Bool)=>[(65,.glob (GL mx)),(1,.box 24 (aB.c c [])),(3,vb s4),(4,vb s8),(5,vb s14)]) ?_ ?_
 rintro s14 h
 refine ae (ab ?_)
 refine aq h (fun (s18:Bool)=>[(65,.glob (GL mx)),(3,vb s4),(4,vb s8),(5,vb s14),(6,vb s18)]) ?_ ?_
 rintro s18 h
 refine ae (ab ?_)
 refine ab ?_
 refine aq h (fun (s22:Bool)=>[(65,.glob (GL mx)),(64,vb s22)]) ?_ ?_
 rintro s22 h
 refine ae ?_
 refine zc h rfl (fun h => ?_) (fun h => ?_)
 refine aG hn 1 [65,2] ?_
 refine ak ?_
 refine ah [1] (by kernel_rfl) (es':=[(_,_)]) rfl ?_
 refine ag ?_
 obtain rfl:=zi h
 exact al hio rfl (.tmp _ _ .nil) rfl rfl
 refine am (ae ?_)
 refine aG hn 1 [65,2] ?_
 refine ak ?_
 refine ah [1] (by kernel_rfl) (es':=[(_,_)]) rfl ?_
 obtain rfl:=zi h
 exact al hio rfl (.tmp _ _ .nil) rfl rfl
 intro u23 h hl24 hr25
 refine ai h (fun hg5_2 h => ?_) (fun hg5_2 h => ?_)
 refine yx hn 3 ?_
 refine yd hg5_2 11 ?_
 refine ye [65,64] ?_
 exact hl24 _ (zi h).symm
 refine ai h (fun hg5_6 h => ?_) (fun hg5_6 h => ?_)
 refine yx hn 3 ?_
 refine yd hg5_2 4 ?_
 refine yd hg5_6 7 ?_
 refine ye [65,64] ?_
 exact hl24 _ (zi h).symm
 refine ai h (fun hg5_10 h => ?_) (fun hg5_10 h => ?_)
 refine yx hn 3 ?_
 refine yd hg5_2 4 ?_
 refine yd hg5_6 4 ?_
 refine yd hg5_10 3 ?_
 refine ye [65,64] ?_
 exact hl24 _ (zi h).symm
 refine yx hn 3 ?_
 refine yd hg5_2 4 ?_
 refine yd hg5_6 4 ?_
 refine yd hg5_10 3 ?_
 refine ye [65,64] ?_
 exact hl24 _ (zi h).symm
 intro u19 h hl20 hr21
 refine ai h (fun hg4_3 h => ?_) (fun hg4_3 h => ?_)
 refine yx hn 4 ?_
 refine yd hg4_3 5 ?_
 refine ye [65,3,4,5,6] ?_
 exact hl20 _ (zi h).symm
 refine yx hn 4 ?_
 refine yd hg4_3 5 ?_
 refine ye [65,3,4,5,6] ?_
 exact hl20 _ (zi h).symm
 intro u15 h hl16 hr17
 obtain ⟨v12,hv12,h⟩:=zn h
 refine ai h (fun hg3_3 h => ?_) (fun hg3_3 h => ?_)
 obtain ⟨v13,hv13,h⟩:=zn h
 refine yx hn 2 ?_
 refine ys 1 ⟨lk call57 (mD _ _ hv12)⟩ ?_
 refine yd hg3_3 2 ?_
 refine ys 2 ⟨lk call57 (mD _ _ hv13)⟩ ?_
 refine ye [65,1,3,4,5] ?_
 exact hl16 _ (zi h).symm
 refine yx hn 2 ?_
 refine ys 1 ⟨lk call57 (mD _ _ hv12)⟩ ?_
 refine yd hg3_3 5 ?_
 refine ye [65,1,3,4,5] ?_
 exact hl16 _ (zi h).symm
 intro u9 h hl10 hr11
 refine ai h (fun hg2_3 h => ?_) (fun hg2_3 h => ?_)
 refine yx hn 4 ?_
 refine yd hg2_3 5 ?_
 refine ye [65,1,3,4] ?_
 exact hl10 _ (zi h).symm
 refine yx hn 4 ?_
 refine yd hg2_3 5 ?_
 refine ye [65,1,3,4] ?_
 exact hl10 _ (zi h).symm
 intro u5 h hl6 hr7
 obtain ⟨v1,hv1,h⟩:=zn h
 refine ai h (fun hg1_4 h => ?_) (fun hg1_4 h => ?_)
 obtain ⟨v2,hv2,h⟩:=zn h
 refine ai h (fun hg1_10 h => ?_) (fun hg1_10 h => ?_)
 obtain ⟨v3,hv3,h⟩:=zn h
 refine yx hn 1 ?_
 refine yS (.ptr 1 0) 1 ⟨bV _ _ _ _ 2 1 0 0 1 underlying22 sP rfl rfl (by decide) (by decide)⟩ ?_
 refine ys 1 ⟨lg call55 (cb _ _ _ hv1) 65⟩ ?_
 refine yd hg1_4 1 ?_
 refine yS (.ptr 1 1) 1 ⟨bV _ _ _ _ 2 1 0 1 1 underlying22 sP rfl rfl (by decide) (by decide)⟩ ?_
 refine ys 2 ⟨lg call55 (cb _ _ _ hv2) 65⟩ ?_
 refine yd hg1_10 1 ?_
 refine yS (.ptr 1 0) 2 ⟨bV _ _ _ _ 2 1 0 0 1 underlying22 sP rfl rfl (by decide) (by decide)⟩ ?_
 refine yS (.ptr 1 1) 1 ⟨bV _ _ _ _ 2 1 0 1 1 underlying22 sP rfl rfl (by decide) (by decide)⟩ ?_
 refine ys 3 ⟨lk call56 (ld _ _ _ hv3)⟩ ?_
 refine ye [65,1,3] ?_
 exact hl6 _ (zi h).symm
 refine yx hn 1 ?_
 refine yS (.ptr 1 0) 1 ⟨bV _ _ _ _ 2 1 0 0 1 underlying22 sP rfl rfl (by decide) (by decide)⟩ ?_
 refine ys 1 ⟨lg call55 (cb _ _ _ hv1) 65⟩ ?_
 refine yd hg1_4 1 ?_
 refine yS (.ptr 1 1) 1 ⟨bV _ _ _ _ 2 1 0 1 1 underlying22 sP rfl rfl (by decide) (by decide)⟩ ?_
 refine ys 2 ⟨lg call55 (cb _ _ _ hv2) 65⟩ ?_
 refine yd hg1_10 10 ?_
 refine ye [65,1,3] ?_
 exact hl6 _ (zi h).symm
 refine yx hn 1 ?_
 refine yS (.ptr 1 0) 1 ⟨bV _ _ _ _ 2 1 0 0 1 underlying22 sP rfl rfl (by decide) (by decide)⟩ ?_
 refine ys 1 ⟨lg call55 (cb _ _ _ hv1) 65⟩ ?_
 refine yd hg1_4 16 ?_
 refine ye [65,1,3] ?_
 exact hl6 _ (zi h).symm
theorem pr (g:aA) (r:Bool) (h:Sh.jp g=some r):bF Tryz.prog 36 [.agg [.v (.int .i64 g.LW),.v (.string g.LI),.v (.bool g.LD.LQ),.v (.string g.LD.LM),.v (.string g.LD.LA),.fl .shr 3 (flatten (map T_Path.enc g.To)),.v (.bool g.LY),.fl .shr 1 (map (int .u8) g.Lx),.v (.string g.Ly),.v (.bool g.LX)]] (.v (.bool r)):=by
 unfold Sh.jp at h
 refine yO 22 func36 fun g0 hn hio => ?_
 refine aG hn 2 [1] ?_
 refine ab ?_
 refine aq h (fun (s2:Bool)=>[(2,vb s2)]) ?_ ?_
 rintro s2 h
 refine ae (ak ?_)
 obtain rfl:=zi h
 exact al hio rfl (.tmp _ _ .nil) rfl rfl
 intro u3 h hl4 hr5
 refine ai h (fun hg1_3 h => ?_) (fun hg1_3 h => ?_)
 refine ai h (fun hg1_8 h => ?_) (fun hg1_8 h => ?_)
 refine ai h (fun hg1_14 h => ?_) (fun hg1_14 h => ?_)
 obtain ⟨v1,hv1,h⟩:=zn h
 refine yx hn 4 ?_
 refine yd hg1_3 5 ?_
 refine yd hg1_8 6 ?_
 refine yd hg1_14 2 ?_
 refine ys 2 ⟨lk call58 (nY _ _ _ hv1)⟩ ?_
 refine ye [2] ?_
 exact hl4 _ (zi h).symm
 refine yx hn 4 ?_
 refine yd hg1_3 5 ?_
 refine yd hg1_8 6 ?_
 refine yd hg1_14 5 ?_
 refine ye [2] ?_
 exact hl4 _ (zi h).symm
 refine yx hn 4 ?_
 refine yd hg1_3 5 ?_
 refine yd hg1_8 11 ?_
 refine ye [2] ?_
 exact hl4 _ (zi h).symm
 refine yx hn 4 ?_
 refine yd hg1_3 16 ?_
 refine ye [2] ?_
 exact hl4 _ (zi h).symm
theorem iN (l:(List T_Path)) (r:(List T_Path)) (h:Sh.cr l=some r):bF Tryz.prog 59 [.fl .shr 3 (flatten (map T_Path.enc l))] (.fl (.own 26) 3 (flatten (map T_Path.enc r))):=by
 unfold Sh.cr at h
 refine yO 5 func59 fun g0 hn hio => ?_
 refine aG hn 1 [0] ?_
 refine ab ?_
 obtain ⟨v1,hv1,h⟩:=zn h
 refine yx hn 1 ?_
 refine yS (.fl (.own 26) 3 (flatten (map T_Path.enc v1))) 0 ⟨kE _ _ _ _ EH rfl rfl (gR T_Path.len _) hv1 (congrArg (fun l=>flatten (map _ l)) (kU hv1))⟩ ?_
 refine ya 0 ?_
 refine aV [2] ?_
 refine ak ?_
 obtain rfl:=zi h
 exact al hio rfl (.tmp _ _ .nil) rfl rfl
theorem pS (l:(List Int)) (r:(List Int)) (h:Sh.gU l=some r):bF Tryz.prog 60 [.fl .shr 1 (map (int .u8) l)] (.fl (.own 5) 1 (map (int .u8) r)):=by
 unfold Sh.gU at h
 refine yO 5 func60 fun g0 hn hio => ?_
 refine aG hn 1 [0] ?_
 refine ab ?_
 obtain ⟨v1,hv1,h⟩:=zn h
 refine yx hn 1 ?_
 refine yS (.fl (.own 5) 1 (map (int .u8) v1)) 0 ⟨kE _ _ _ _ fZ rfl rfl (eW _) hv1 (congrArg (map _) (kU hv1))⟩ ?_
 refine ya 0 ?_
 refine aV [2] ?_
 refine ak ?_
 obtain rfl:=zi h
 exact al hio rfl (.tmp _ _ .nil) rfl rfl
theorem pt (g:aA) (r:aA) (h:Sh.jy g=some r):bF Tryz.prog 37 [.agg [.v (.int .i64 g.LW),.v (.string g.LI),.v (.bool g.LD.LQ),.v (.string g.LD.LM),.v (.string g.LD.LA),.fl .shr 3 (flatten (map T_Path.enc g.To)),.v (.bool g.LY),.fl .shr 1 (map (int .u8) g.Lx),.v (.string g.Ly),.v (.bool g.LX)]] (.agg [.v (.int .i64 r.LW),.v (.string r.LI),.v (.bool r.LD.LQ),.v (.string r.LD.LM),.v (.string r.LD.LA),.fl (.own 26) 3 (flatten (map T_Path.enc r.To)),.v (.bool r.LY),.fl (.own 5) 1 (map (int .u8) r.Lx),.v (.string r.Ly),.v (.bool r.LX)]):=by
 unfold Sh.jy at h
 refine yO 12 func37 fun g0 hn hio => ?_
 refine gH hn 1 ?_
 refine yS (.box 30 [vi 0,vs z0,vb false,vs z0,vs z0,vz,vb false,vz,vs z0,vb false]) 0 ⟨oA (aT _ _ xf)⟩ ?_
 refine aV [1,2] ?_
 refine ab ?_
 obtain ⟨v1,hv1,h⟩:=zn h
 refine yx hn 2 ?_
 refine ys 1 ⟨lk call59 (iN _ _ hv1)⟩ ?_
 refine yk [5,1] [6] ?_
 refine yt (1,.box 30 [vi g.LW,vs g.LI,vb g.LD.LQ,vs g.LD.LM,vs g.LD.LA,.fl (.own 26) 3 (flatten (map T_Path.enc v1)),vb g.LY,fb g.Lx,vs g.Ly,vb g.LX]) 0 ⟨aM _ _ _ _ _ _ _ _ IU rfl rfl rfl (zl rfl) rfl rfl⟩ ?_
 refine aV [1,2] ?_
 refine ab ?_
 obtain ⟨v2,hv2,h⟩:=zn h
 refine yx hn 2 ?_
 refine ys 1 ⟨lk call60 (pS _ _ hv2)⟩ ?_
 refine yk [9,1] [10] ?_
 refine yt (1,.box 30 [vi g.LW,vs g.LI,vb g.LD.LQ,vs g.LD.LM,vs g.LD.LA,.fl (.own 26) 3 (flatten (map T_Path.enc v1)),vb g.LY,.fl (.own 5) 1 (map (int .u8) v2),vs g.Ly,vb g.LX]) 0 ⟨aM _ _ _ _ _ _ _ _ lu rfl rfl rfl (zl rfl) rfl rfl⟩ ?_
 refine aV [1,2] ?_
 refine gH hn 0 ?_
 refine yk [1] [] ?_
 refine yt (11,.agg [vi g.LW,vs g.LI,vb g.LD.LQ,vs g.LD.LM,vs g.LD.LA,.fl (.own 26) 3 (flatten (map T_Path.enc v1)),vb g.LY,.fl (.own 5) 1 (map (int .u8) v2),vs g.Ly,vb g.LX]) 0 ⟨jA _ _ _ _ underlying30 rfl sS rfl rfl⟩ ?_
 refine yk [11,2] [] ?_
 refine yt (2,.box 30 [vi g.LW,vs g.LI,vb g.LD.LQ,vs g.LD.LM,vs g.LD.LA,.fl (.own 26) 3 (flatten (map T_Path.enc v1)),vb g.LY,.fl (.own 5) 1 (map (int .u8) v2),vs g.Ly,vb g.LX]) 0 ⟨aM _ _ _ _ _ _ _ _ sS rfl rfl rfl (zl rfl) rfl rfl⟩ ?_
 refine aV [2] ?_
 refine ak ?_
 obtain rfl:=zi h
 exact al hio rfl (.cellA _ _ _ _ underlying30 rfl sS .nil) rfl rfl
theorem nj (a:(List Int)) (b:(List Int)) (r:Bool) (h:Sh.iy a b=some r):bF Tryz.prog 72 [.fl .shr 1 (map (int .u8) a),.fl .shr 1 (map (int .u8) b)] (.v (.bool r)):=by
 unfold Sh.iy at h
 refine yO 10 func72 fun g0 hn hio => ?_
 refine aG hn 1 [0,1] ?_
 refine ab ?_
 obtain ⟨v1,hv1,v2,hv2,h⟩:=dM h
 refine yx hn 1 ?_
 refine ys 1 ⟨lS hv1⟩ ?_
 refine ys 2 ⟨lS hv2⟩ ?_
 refine aV [4] ?_
 refine ak ?_
 obtain rfl:=zi h
 exact al hio rfl (.tmp _ _ .nil) rfl rfl
theorem pB (s:(List Int)) (suffix:(List Int)) (r:Bool) (h:Sh.fK s suffix=some r):bF Tryz.prog 61 [.fl .shr 1 (map (int .u8) s),.fl .shr 1 (map (int .u8) suffix)] (.v (.bool r)):=by
 unfold Sh.fK at h
 refine yO 21 func61 fun g0 hn hio => ?_
 refine aG hn 1 [0,1] ?_
 refine ab ?_
 refine aq h (fun (s4:Bool)=>[(4,vb s4)]) ?_ ?_
 rintro s4 h
 refine ae (ak ?_)
 obtain rfl:=zi h
 exact al hio rfl (.tmp _ _ .nil) rfl rfl
 intro u5 h hl6 hr7
 refine ai h (fun hg1_5 h => ?_) (fun hg1_5 h => ?_)
 obtain ⟨v1,hv1,v2,hv2,v3,hv3,h⟩:=ng h
 refine yx hn 6 ?_
 refine yd hg1_5 5 ?_
 refine ys 0 ⟨lb hv1⟩ ?_
 refine yS (fb v2) 1 ⟨nM _ _ _ v1 (s.length:Int) _ underlying28 lJ rfl rfl ⟨_,rfl⟩ rfl hv2⟩ ?_
 refine ys 2 ⟨lk call72 (nj _ _ _ hv3)⟩ ?_
 refine ye [4] ?_
 exact hl6 _ (zi h).symm
 refine yx hn 6 ?_
 refine yd hg1_5 11 ?_
 refine ye [4] ?_
 exact hl6 _ (zi h).symm
theorem lG (s:aa) (x:Int) (r:(Bool×aa)) (h:Sh.bE s x=some r):pO Tryz.prog 38 [.box 80 (aa.b s),.v (.int .u8 x)] [.box 80 (aa.b r.2)] (.v (.bool r.1)):=by
 unfold Sh.bE at h
 refine yP 39 func38 fun args0 hargs0 g0 hn hio => ?_
 refine aG hn 1 [0,1,0] ?_
 refine ab ?_
 refine aG hn 6 [0,1,10,0] ?_
 refine zc h rfl (fun h => ?_) (fun h => ?_)
 refine ab ?_
 refine aq h (fun (s4:Bool)=>[(0,.box 80 (aa.b s)),(4,vb s4),(0,.v (List.getD args0 0 undef))]) ?_ ?_
 rintro s4 h
 refine ae (ak ?_)
 refine ah [1,0,2] (by kernel_rfl) (es':=[(_,_),(_,_),(_,_)]) rfl ?_
 refine ag ?_
 obtain rfl:=zi h
 exact bG (es:=[(4,.v (.bool s4))]) (posts:=[.box 80 (aa.b s)]) hio rfl rfl (.tmp _ _ .nil) rfl rfl hargs0 rfl
 intro u5 h hl6 hr7
 obtain ⟨v2,hv2,h⟩:=zn h
 refine ai h (fun hg2_7 h => ?_) (fun hg2_7 h => ?_)
 refine yx hn 5 ?_
 refine ys 2 ⟨lM hv2⟩ ?_
 refine yd hg2_7 10 ?_
 refine ye [0,4,0] ?_
 exact hl6 _ (zi h).symm
 obtain ⟨v3,hv3,h⟩:=zn h
 refine yx hn 5 ?_
 refine ys 2 ⟨lM hv2⟩ ?_
 refine yd hg2_7 5 ?_
 refine yS (.fl (.own 5) 1 (map (int .u8) [13,10,46,13,10])) 0 ⟨bf _ _ 1 (.int .u8 0) (map (int .u8) [13,10,46,13,10]) [(0,.int .u8 13),(1,.int .u8 10),(2,.int .u8 46),(3,.int .u8 13),(4,.int .u8 10)] underlying28 lJ rM (fun _ V w o a hv hes=>by simp only [List.map_toArray,List.map_cons,List.map_nil]; try rfl) (cN (by simp [Instr.fill,Value.cells]; rfl) (by simp [List.range,List.range.loop] <;> rfl)) (by simp [Value.oneCell']) rfl (by decide) (by decide) (by decide)⟩ ?_
 refine yk [24] [] ?_
 refine yt (25,.fl .ro 1 (map (int .u8) [13,10,46,13,10])) 0 ⟨gw _ _ _ underlying28 underlying5 (by intro h; cases h)⟩ ?_
 refine ys 2 ⟨lk call61 (pB _ _ _ hv3)⟩ ?_
 refine ye [0,4,0] ?_
 exact hl6 _ (zi h).symm
 refine am ?_
 refine ae (ab ?_)
 refine aq h (fun (s8:Bool)=>[(0,.box 80 (aa.b s)),(4,vb s8),(0,.v (List.getD args0 0 undef))]) ?_ ?_
 rintro s8 h
 refine ae (ak ?_)
 refine ah [1,0,2] (by kernel_rfl) (es':=[(_,_),(_,_),(_,_)]) rfl ?_
 obtain rfl:=zi h
 exact bG (es:=[(4,.v (.bool s8))]) (posts:=[.box 80 (aa.b s)]) hio rfl rfl (.tmp _ _ .nil) rfl rfl hargs0 rfl
 intro u9 h hl10 hr11
 refine ai h (fun hg3_2 h => ?_) (fun hg3_2 h => ?_)
 refine yx hn 3 ?_
 refine yd hg3_2 9 ?_
 refine ye [0,4,0] ?_
 exact hl10 _ (zi h).symm
 refine yx hn 3 ?_
 refine yd hg3_2 5 ?_
 refine yS (vi (s.LF.Lx.length:Int)) 3 ⟨lO _ _ _ underlying28 rfl (List.length_map _)⟩ ?_
 refine ye [0,4,0] ?_
 exact hl10 _ (zi h).symm
theorem gO (b:(List Int)) (r:(List Int)) (h:Sh.dY b=some r):bF Tryz.prog 96 [.fl .shr 1 (map (int .u8) b)] (.cloB 123 [.box 28 [.fl .shr 1 (map (int .u8) r)]]):=by
 unfold Sh.dY at h
 refine yO 4 func96 fun g0 hn hio => ?_
 refine aG hn 2 [1] ?_
 refine gH hn 0 ?_
 refine yk [1] [] ?_
 refine yt (3,.cloB 123 [.box 28 [fb b]]) 0 ⟨wR _ _ [1] [.box 28 [fb b]] rfl rfl rfl⟩ ?_
 refine ya 0 ?_
 refine aV [2] ?_
 refine ak ?_
 obtain rfl:=zi h
 exact al hio rfl (.tmp _ _ .nil) rfl rfl
theorem tM (mx:Int×Nat×Value) (s sep:List Int) (r:Int) (h:Sh.iD s sep=some r):iq Tryz.prog (GL mx) 89 [.fl .shr 1 (map (int .u8) s),.fl .shr 1 (map (int .u8) sep)] (.v (.int .i64 r)) :=
 rP (vA mx) Tryz.bytes_Index_at Tryz.bytes_Index_longer s sep r h
theorem rS (mx:Int×Nat×Value) (s:(List Int)) (sep:(List Int)) (r:((List Int)×(List Int)×Bool)) (h:Sh.et s sep=some r):iq Tryz.prog (GL mx) 74 [.fl .shr 1 (map (int .u8) s),.fl .shr 1 (map (int .u8) sep)] (.tup [.fl .shr 1 (map (int .u8) r.1),.fl .shr 1 (map (int .u8) r.2.1),.v (.bool r.2.2)]):=by
 unfold Sh.et at h
 refine yG 23 func74 fun g0 hn hio => ?_
 refine aG hn 3 [0,1,23] ?_
 refine ab (ab ?_)
 obtain ⟨v1,hv1,h⟩:=zn h
 refine yx hn 2 ?_
 refine ys 1 ⟨lg call89 (tM _ _ _ _ hv1) 23⟩ ?_
 refine aV [0,1,23,7] ?_
 refine aG hn 2 [0,1,23,7,12] ?_
 refine zc h rfl (fun h => ?_) (fun h => ?_)
 refine ab ?_
 obtain ⟨v3,hv3,v4,hv4,v5,hv5,h⟩:=ng h
 refine wb [[0],[7]] ?_
 refine wN [13,14] ?_
 refine wS (fb v3) [[0],[7],[1],[18]] ⟨nM _ _ _ 0 v1 _ underlying28 lJ rfl rfl rfl ⟨_,rfl⟩ hv3⟩ ?_
 refine wN [17,19] ?_
 refine wo [] ⟨lb hv4⟩ ?_
 refine wN [16,20] ?_
 refine wS (fb v5) [[15],[21],[]] ⟨nM _ _ _ v4 (s.length:Int) _ underlying28 lJ rfl rfl ⟨_,rfl⟩ rfl hv5⟩ ?_
 refine sf hn [23,4,5,6] ?_
 refine ak ?_
 refine ah [1,2,3] (by kernel_rfl) (es':=[(_,_),(_,_),(_,_)]) rfl ?_
 refine ag ?_
 obtain rfl:=zi h
 exact al hio rfl (.tmp _ _ (.tmp _ _ (.tmp _ _ .nil))) rfl rfl
 refine am (ae ?_)
 refine aG hn 4 [23,4,5,6] ?_
 refine ak ?_
 refine ah [1,2,3] (by kernel_rfl) (es':=[(_,_),(_,_),(_,_)]) rfl ?_
 refine cq (fs:=[(4,fb s),(5,fb []),(6,vb false)]) (.same _ (.sub _ (xR 1) rfl (.same _ .nil))) ?_
 obtain rfl:=zi h
 exact al hio rfl (.tmp _ _ (.tmp _ _ (.tmp _ _ .nil))) rfl rfl
theorem fI (mx:Int×Nat×Value) (l:Nat) {S:Type} (J:S→lE) (Y:(List Int)→S→Option (S×Bool)) (hY:qf Tryz.prog l (fun x => .fl .shr 1 (map (int .u8) x)) Y J) (c0:(List Int)) (st r:S) (h:Sh.dS Y c0 st=some r):Jv Tryz.prog (GL mx) 123 l [.box 28 [.fl .shr 1 (map (int .u8) c0)]] (J st) (J r):=by
 unfold Sh.dS at h
 refine yI 23 func123 fun g0 hn hio => ?_
 refine aS h (fun ((s17,s18):(List Int)×S)=>[(0,.v (.func (.yield l) #[] #[])),(1,.box 28 [fb s17]),(23,.glob (GL mx)),(24,.inv (J s18))]) (fun (():Unit)=>[]) ?_ ?_
 rintro ⟨⟩ h
 cases h
 rintro u25 hl26 hr27 ⟨s17,s18⟩ rr30 h ho28
 refine aC (ab ?_)
 obtain ⟨v1,hv1,h⟩:=zn h
 refine yx hn 1 ?_
 refine yS (.fl (.own 5) 1 (map (int .u8) [13,10])) 0 ⟨bf _ _ 1 (.int .u8 0) (map (int .u8) [13,10]) [(0,.int .u8 13),(1,.int .u8 10)] underlying28 lJ rM (fun _ V w o a hv hes=>by simp only [List.map_toArray,List.map_cons,List.map_nil]; try rfl) (cN (by simp [Instr.fill,Value.cells]; rfl) (by simp [List.range,List.range.loop] <;> rfl)) (by simp [Value.oneCell']) rfl (by decide) (by decide) (by decide)⟩ ?_
 refine yk [8] [] ?_
 refine yt (9,.fl .ro 1 (map (int .u8) [13,10])) 0 ⟨gw _ _ _ underlying28 underlying5 (by intro h; cases h)⟩ ?_
 refine yk [] [7,9,23] ?_
 refine yt (10,.tup [fb v1.1,fb v1.2.1,vb v1.2.2]) 0 ⟨By _ _ 23 74 _ _ rfl call74 rfl rfl rfl (fun _ h=>h) (rS mx s17 [13,10] _ hv1) rfl⟩ ?_
 refine ym 6 ?_
 refine aV [0,1,23,24,3,4,5] ?_
 refine ab (ab ?_)
 refine aq h (fun ((s31,s32):S×Bool)=>[(0,.v (.func (.yield l) #[] #[])),(1,.box 28 [fb s17]),(23,.glob (GL mx)),(24,.inv (J s31)),(4,fb v1.2.1),(21,vb s32)]) ?_ ?_
 rintro ⟨s31,s32⟩ h
 refine ae ?_
 refine zc h rfl (fun h => ?_) (fun h => ?_)
 refine ak ?_
 refine ah [3] (by kernel_rfl) (es':=[(24,.inv (J s31))]) rfl ?_
 refine ag (aF (ag (aF ?_)))
 have h:=hr27 _ (ho28 _ (zi h).symm).symm
 obtain rfl:=zi h
 exact sj hio rfl rfl rfl
 refine am (ae ?_)
 refine yy hn 2 [0,1,23,24] ?_
 refine aI ?_
 exact bb _ (zi h).symm rfl
 intro u33 h hl34 hr35
 refine ai h (fun hg1_2 h => ?_) (fun hg1_2 h => ?_)
 refine yx hn 3 ?_
 refine yd hg1_2 5 ?_
 refine ye [0,1,23,24,4,21] ?_
 exact hl34 _ (zi h).symm
 obtain ⟨v2,hv2,h⟩:=zn h
 refine yx hn 3 ?_
 refine yd hg1_2 2 ?_
 refine yk [24] [18,17] ?_
 refine mS (24,.inv (J v2.1)) (19,vb v2.2) 2 ⟨pV _ _ 24 l v1.1 s18 v2 hY hv2 rfl rfl rfl⟩ ?_
 refine ye [0,1,23,24,4,21] ?_
 exact hl34 _ (zi h).symm
theorem rf (mx:Int×Nat×Value) (b:(List Int)) (r:(Int×Bool)) (h:Sh.gQ b=some r):iq Tryz.prog (GL mx) 94 [.fl .shr 1 (map (int .u8) b)] (.tup [.v (.int .i64 r.1),.v (.bool r.2)]):=by
 unfold Sh.gQ at h
 refine yG 17 func94 fun g0 hn hio => ?_
 refine gH hn 0 ?_
 refine yS (.box 3 [vi 0]) 0 ⟨oA (aT _ _ KF)⟩ ?_
 refine yS (.box 4 [vb false]) 0 ⟨oA (aT _ _ JB)⟩ ?_
 refine aV [0,17,2,3] ?_
 refine ab (ab ?_)
 obtain ⟨v1,hv1,h⟩:=zn h
 refine yx hn 1 ?_
 refine yk [] [5] ?_
 refine yt (6,.cloB 123 [.box 28 [fb v1]]) 0 ⟨gL _ _ 96 _ _ rfl call96 rfl rfl (gO b _ hv1) rfl⟩ ?_
 refine aV [17,2,3,6] ?_
 refine aC ?_
 refine jz [3,0,1,2] (by kernel_rfl) (es':=[(6,.cloB 123 [.box 28 [fb v1]]),(17,.glob (GL mx)),(2,.box 3 [vi 0]),(3,.box 4 [vb false])]) rfl ?_
 refine iC h 123 6 7 18 _ [17,2,3] call123 (fun (s8:Int)=>[(17,.glob (GL mx)),(2,.box 3 [.v (.int .i64 s8)]),(3,.box 4 [.v (.bool false)])]) (fun (s10:Int)=>[(17,.glob (GL mx)),(2,.box 3 [.v (.int .i64 s10)]),(3,.box 4 [.v (.bool true)])]) (fun l J Y hY t t' h=>fI mx l J Y hY v1 t t' h) hn rfl (fun _=>rfl) (fun _=>rfl) (fun _=>rfl) rfl rfl (fun _=>⟨rfl,rfl⟩) rfl (iA 17 rfl) ?_ ?_ ?_
 rintro kk g0 hn hio x s8 u h
 refine rC (es':=[(7,fb x),(17,.glob (GL mx)),(2,.box 3 [vi s8]),(3,.box 4 [vb false]),(17,.v (kk.tm.getD 17 undef)),(2,.v (kk.tm.getD 2 undef)),(3,.v (kk.tm.getD 3 undef)),(18,.inv kk.ready)]) rfl ?_
 refine yy hn 1 [17,2,3,18,4,17,2,3] ?_
 refine ah [0,1,2,4,5,6,7,3] (by kernel_rfl) (es':=[(17,.glob (GL mx)),(2,.box 3 [vi s8]),(3,.box 4 [vb false]),(4,fb x),(17,.v (kk.tm.getD 17 undef)),(2,.v (kk.tm.getD 2 undef)),(3,.v (kk.tm.getD 3 undef)),(18,.inv kk.ready)]) rfl ?_
 refine jQ (es:=[(17,.glob (GL mx)),(2,.box 3 [vi s8]),(3,.box 4 [vb false]),(4,fb x),(17,.v (kk.tm.getD 17 undef)),(2,.v (kk.tm.getD 2 undef)),(3,.v (kk.tm.getD 3 undef))]) 18 rfl ?_
 refine aC (ab (ab ?_))
 obtain ⟨v2,hv2,h⟩:=zn h
 refine yx hn 1 ?_
 refine ys 1 ⟨lS hv2⟩ ?_
 refine aV [17,2,3,4,18,10,17,2,3] ?_
 refine zc h rfl (fun h => ?_) (fun h => ?_)
 refine aG hn 3 [17,2,3,18,17,2,3] ?_
 refine ak (ag (aF ?_))
 refine ah [0,1,2,4,5,6,3] (by kernel_rfl) (es':=[(_,_),(_,_),(_,_),(_,_),(_,_),(_,_),(_,_)]) rfl ?_
 obtain rfl:=zi h
 exact qp 18 [17,2,3] _ rfl rfl (by kernel_rfl)
 refine am (ae ?_)
 obtain ⟨v4,hv4,v5,hv5,h⟩:=dM h
 refine yx hn 3 ?_
 refine ys 0 ⟨lb hv4⟩ ?_
 refine ys 1 ⟨lb hv5⟩ ?_
 refine ye [17,2,3,18,17,2,3] ?_
 refine aI ?_
 refine ah [0,1,2,4,5,6,3] (by kernel_rfl) (es':=[(_,_),(_,_),(_,_),(_,_),(_,_),(_,_),(_,_)]) rfl ?_
 obtain rfl:=zi h
 exact jT 18 [17,2,3] _ rfl rfl (by kernel_rfl)
 rintro D s8 h
 refine aI (ae ?_)
 refine aG hn 2 [17,2,3] ?_
 refine ak ?_
 refine ah [1,2] (by kernel_rfl) (es':=[(_,_),(_,_)]) rfl ?_
 obtain rfl:=zi h
 exact al hio rfl (.cell1 _ _ _ _ underlying3 rfl (.cell1 _ _ _ _ underlying4 rfl .nil)) rfl rfl
 rintro D s10 h
 refine ah [1,2] (by kernel_rfl) (es':=[(_,_),(_,_)]) rfl ?_
 refine aF (ag ?_)
 obtain rfl:=zi h
 exact al hio rfl (.cell1 _ _ _ _ underlying3 rfl (.cell1 _ _ _ _ underlying4 rfl .nil)) rfl rfl
theorem ql (mx:Int×Nat×Value) (s:List Int) (c:Mf) (r:Int) (h:Sh.ga s c=some r):iq Tryz.prog (GL mx) 144 [.fl .shr 1 (map (int .u8) s),.v (.string c)] (.v (.int .i64 r)) :=
 pI (vA mx) (Be mx) (Er mx) (fun s b off c w hs hnc hb hm hmb k1 k2 HG hp=>Tryz.idx_crlf s b off c w mx.1 hs hnc hb hm hmb (zE gX jG (by kernel_rfl) (by kernel_rfl) k1 k2) HG hp) Tryz.idx_none s c r h
theorem ni (mx:Int×Nat×Value) (b:(List Int)) (chars:Mf) (r:Bool) (h:Sh.cw b chars=some r):iq Tryz.prog (GL mx) 122 [.fl .shr 1 (map (int .u8) b),.v (.string chars)] (.v (.bool r)):=by
 unfold Sh.cw at h
 refine yG 9 func122 fun g0 hn hio => ?_
 refine aG hn 1 [0,1,9] ?_
 refine ab ?_
 obtain ⟨v1,hv1,h⟩:=zn h
 refine yx hn 2 ?_
 refine ys 2 ⟨lg call144 (ql _ _ _ _ hv1) 9⟩ ?_
 refine aV [9,4] ?_
 refine ak ?_
 refine ah [1] (by kernel_rfl) (es':=[(_,_)]) rfl ?_
 obtain rfl:=zi h
 exact al hio rfl (.tmp _ _ .nil) rfl rfl
theorem jB (mx:Int×Nat×Value) (b:(List Int)) (r:Int) (h:Sh.gh b=some r):iq Tryz.prog (GL mx) 95 [.fl .shr 1 (map (int .u8) b)] (.v (.int .i64 r)):=by
 unfold Sh.gh at h
 refine yG 19 func95 fun g0 hn hio => ?_
 refine gH hn 0 ?_
 refine yS (.box 35 [vi 0]) 0 ⟨oA (aT _ _ Ki)⟩ ?_
 refine aV [0,19,2] ?_
 refine gH hn 0 ?_
 refine yS (.box 3 [vi 0]) 1 ⟨oA (aT _ _ KF)⟩ ?_
 refine aV [0,19,2,3] ?_
 refine ab (ab ?_)
 obtain ⟨v1,hv1,h⟩:=zn h
 refine yx hn 1 ?_
 refine yk [] [5] ?_
 refine yt (6,.cloB 123 [.box 28 [fb v1]]) 0 ⟨gL _ _ 96 _ _ rfl call96 rfl rfl (gO b _ hv1) rfl⟩ ?_
 refine aV [0,19,2,3,6] ?_
 refine aC ?_
 refine jz [4,0,1,2,3] (by kernel_rfl) (es':=[(6,.cloB 123 [.box 28 [fb v1]]),(0,fb b),(19,.glob (GL mx)),(2,.box 35 [vi 0]),(3,.box 3 [vi 0])]) rfl ?_
 refine iC h 123 6 7 20 _ [0,19,2,3] call123 (fun (s8:Int)=>[(0,fb b),(19,.glob (GL mx)),(2,.box 35 [.v (.int .i64 0)]),(3,.box 3 [.v (.int .i64 s8)])]) (fun (s10:Int)=>[(0,fb b),(19,.glob (GL mx)),(2,.box 35 [.v (.int .i64 5)]),(3,.box 3 [.v (.int .i64 s10)])]) (fun l J Y hY t t' h=>fI mx l J Y hY v1 t t' h) hn rfl (fun _=>rfl) (fun _=>rfl) (fun _=>rfl) rfl rfl (fun _=>⟨rfl,rfl⟩) rfl (iA 19 rfl) ?_ ?_ ?_
 rintro kk g0 hn hio x s8 u h
 refine rC (es':=[(7,fb x),(0,fb b),(19,.glob (GL mx)),(2,.box 35 [vi 0]),(3,.box 3 [vi s8]),(0,.v (kk.tm.getD 0 undef)),(19,.v (kk.tm.getD 19 undef)),(2,.v (kk.tm.getD 2 undef)),(3,.v (kk.tm.getD 3 undef)),(20,.inv kk.ready)]) rfl ?_
 refine yy hn 1 [0,19,2,3,20,4,0,19,2,3] ?_
 refine ah [0,1,2,3,5,6,7,8,9,4] (by kernel_rfl) (es':=[(0,fb b),(19,.glob (GL mx)),(2,.box 35 [vi 0]),(3,.box 3 [vi s8]),(4,fb x),(0,.v (kk.tm.getD 0 undef)),(19,.v (kk.tm.getD 19 undef)),(2,.v (kk.tm.getD 2 undef)),(3,.v (kk.tm.getD 3 undef)),(20,.inv kk.ready)]) rfl ?_
 refine jQ (es:=[(0,fb b),(19,.glob (GL mx)),(2,.box 35 [vi 0]),(3,.box 3 [vi s8]),(4,fb x),(0,.v (kk.tm.getD 0 undef)),(19,.v (kk.tm.getD 19 undef)),(2,.v (kk.tm.getD 2 undef)),(3,.v (kk.tm.getD 3 undef))]) 20 rfl ?_
 refine aC (ab (ab ?_))
 obtain ⟨v2,hv2,h⟩:=zn h
 refine yx hn 1 ?_
 refine ys 0 ⟨lg call122 (ni _ _ _ _ hv2) 19⟩ ?_
 refine aV [0,19,2,3,4,20,9,0,19,2,3] ?_
 refine zc h rfl (fun h => ?_) (fun h => ?_)
 refine aG hn 1 [0,19,2,3,20,0,19,2,3] ?_
 refine ak (ag (aF ?_))
 refine ah [0,1,2,3,5,6,7,8,4] (by kernel_rfl) (es':=[(_,_),(_,_),(_,_),(_,_),(_,_),(_,_),(_,_),(_,_),(_,_)]) rfl ?_
 obtain rfl:=zi h
 exact qp 20 [0,19,2,3] _ rfl rfl (by kernel_rfl)
 refine am (ae ?_)
 obtain ⟨v4,hv4,v5,hv5,h⟩:=dM h
 refine yx hn 3 ?_
 refine ys 0 ⟨lb hv4⟩ ?_
 refine ys 1 ⟨lb hv5⟩ ?_
 refine ye [0,19,2,3,20,0,19,2,3] ?_
 refine aI ?_
 refine ah [0,1,2,3,5,6,7,8,4] (by kernel_rfl) (es':=[(_,_),(_,_),(_,_),(_,_),(_,_),(_,_),(_,_),(_,_),(_,_)]) rfl ?_
 obtain rfl:=zi h
 exact jT 20 [0,19,2,3] _ rfl rfl (by kernel_rfl)
 rintro D s8 h
 refine aI ?_
 refine ae (ab ?_)
 refine aG hn 4 [19,2,18] ?_
 refine zc h rfl (fun h => ?_) (fun h => ?_)
 refine aG hn 1 [19,2] ?_
 refine ak ?_
 refine ah [1] (by kernel_rfl) (es':=[(_,_)]) rfl ?_
 refine ag ?_
 obtain rfl:=zi h
 exact al hio rfl (.cell1 _ _ _ _ underlying35 rfl .nil) rfl rfl
 refine am (ae ?_)
 refine aG hn 1 [19,2] ?_
 refine ak ?_
 refine ah [1] (by kernel_rfl) (es':=[(_,_)]) rfl ?_
 obtain rfl:=zi h
 exact al hio rfl (.cell1 _ _ _ _ underlying35 rfl .nil) rfl rfl
 rintro D s10 h
 refine ah [2] (by kernel_rfl) (es':=[(_,_)]) rfl ?_
 refine aF (ag ?_)
 obtain rfl:=zi h
 exact al hio rfl (.cell1 _ _ _ _ underlying35 rfl .nil) rfl rfl
theorem kD (s:(List Int)) (prefix_:(List Int)) (r:Bool) (h:Sh.dK s prefix_=some r):bF Tryz.prog 124 [.fl .shr 1 (map (int .u8) s),.fl .shr 1 (map (int .u8) prefix_)] (.v (.bool r)):=by
 unfold Sh.dK at h
 refine yO 18 func124 fun g0 hn hio => ?_
 refine aG hn 1 [0,1] ?_
 refine ab ?_
 refine aq h (fun (s3:Bool)=>[(4,vb s3)]) ?_ ?_
 rintro s3 h
 refine ae (ak ?_)
 obtain rfl:=zi h
 exact al hio rfl (.tmp _ _ .nil) rfl rfl
 intro u4 h hl5 hr6
 refine ai h (fun hg1_5 h => ?_) (fun hg1_5 h => ?_)
 obtain ⟨v1,hv1,v2,hv2,h⟩:=dM h
 refine yx hn 6 ?_
 refine yd hg1_5 3 ?_
 refine yS (fb v1) 1 ⟨nM _ _ _ 0 (prefix_.length:Int) _ underlying28 lJ rfl rfl rfl ⟨_,rfl⟩ hv1⟩ ?_
 refine ys 2 ⟨lk call72 (nj _ _ _ hv2)⟩ ?_
 refine ye [4] ?_
 exact hl5 _ (zi h).symm
 refine yx hn 6 ?_
 refine yd hg1_5 8 ?_
 refine ye [4] ?_
 exact hl5 _ (zi h).symm
theorem mr (s:(List Int)) (prefix_:(List Int)) (r:(List Int)) (h:Sh.cZ s prefix_=some r):bF Tryz.prog 97 [.fl .shr 1 (map (int .u8) s),.fl .shr 1 (map (int .u8) prefix_)] (.fl .shr 1 (map (int .u8) r)):=by
 unfold Sh.cZ at h
 refine yO 13 func97 fun g0 hn hio => ?_
 refine aG hn 1 [0,1] ?_
 refine ab (ab ?_)
 obtain ⟨v1,hv1,h⟩:=zn h
 refine yx hn 2 ?_
 refine ys 0 ⟨lk call124 (kD _ _ _ hv1)⟩ ?_
 refine aV [0,1,7] ?_
 refine zc h rfl (fun h => ?_) (fun h => ?_)
 refine ab ?_
 obtain ⟨v3,hv3,h⟩:=zn h
 refine yx hn 3 ?_
 refine yS (fb v3) 1 ⟨nM _ _ _ (prefix_.length:Int) (s.length:Int) _ underlying28 lJ rfl rfl ⟨_,rfl⟩ rfl hv3⟩ ?_
 refine aV [4] ?_
 refine ak (ag ?_)
 obtain rfl:=zi h
 exact al hio rfl (.tmp _ _ .nil) rfl rfl
 refine am (ae ?_)
 refine aG hn 2 [4] ?_
 refine ak ?_
 obtain rfl:=zi h
 exact al hio rfl (.tmp _ _ .nil) rfl rfl
theorem un (mx:Int×Nat×Value) (b:(List Int)) (r:((List Int)×Int×Int)) (h:Sh.ii b=some r):iq Tryz.prog (GL mx) 84 [.fl .shr 1 (map (int .u8) b)] (.tup [.fl (.own 5) 1 (map (int .u8) r.1),.v (.int .i64 r.2.1),.v (.int .i64 r.2.2)]):=by
 unfold Sh.ii at h
 refine yG 39 func84 fun g0 hn hio => ?_
 refine gH hn 0 ?_
 refine yS (.box 28 [vz]) 2 ⟨oA (aT _ _ FI)⟩ ?_
 refine aV [0,39,2] ?_
 refine ab ?_
 obtain ⟨v1,hv1,h⟩:=zn h
 refine yx hn 1 ?_
 refine ys 0 ⟨lg call94 (rf _ _ _ hv1) 39⟩ ?_
 refine ym 4 ?_
 refine aV [0,39,2,5,6] ?_
 refine ab ?_
 refine aG hn 2 [0,39,2,5,15] ?_
 refine zc h rfl (fun h => ?_) (fun h => ?_)
 refine aG hn 3 [39,2,3,4] ?_
 refine ak ?_
 refine ah [1,2,3] (by kernel_rfl) (es':=[(_,_),(_,_),(_,_)]) rfl ?_
 refine cq (fs:=[(2,.box 28 [.fl (.own 5) 1 (map (int .u8) [])]),(3,vi 0),(4,vi 9)]) (.box _ _ (af (bL 5 1) (bC)) rfl (.same _ (.same _ .nil))) ?_
 refine ag ?_
 obtain rfl:=zi h
 exact al hio rfl (.cell1 _ _ _ _ underlying28 rfl (.tmp _ _ (.tmp _ _ .nil))) rfl rfl
 refine am ?_
 refine ae (ab ?_)
 refine ab ?_
 obtain ⟨v3,hv3,v4,hv4,h⟩:=dM h
 refine yx hn 2 ?_
 refine yS (fb v3) 0 ⟨nM _ _ _ 0 v1.1 _ underlying28 lJ rfl rfl rfl ⟨_,rfl⟩ hv3⟩ ?_
 refine ys 1 ⟨lg call95 (jB _ _ _ hv4) 39⟩ ?_
 refine aV [0,39,2,5,7] ?_
 refine aG hn 2 [0,39,2,5,7,21] ?_
 refine zc h rfl (fun h => ?_) (fun h => ?_)
 refine aG hn 4 [39,2,3,4] ?_
 refine ak ?_
 refine ah [1,2,3] (by kernel_rfl) (es':=[(_,_),(_,_),(_,_)]) rfl ?_
 refine cq (fs:=[(2,.box 28 [.fl (.own 5) 1 (map (int .u8) [])]),(3,vi 0),(4,vi v4)]) (.box _ _ (af (bL 5 1) (bC)) rfl (.same _ (.same _ .nil))) ?_
 refine ag ?_
 obtain rfl:=zi h
 exact al hio rfl (.cell1 _ _ _ _ underlying28 rfl (.tmp _ _ (.tmp _ _ .nil))) rfl rfl
 refine am ?_
 refine ae (ab ?_)
 refine ab ?_
 obtain ⟨v6,hv6,v7,hv7,h⟩:=dM h
 refine yx hn 2 ?_
 refine yS (fb v6) 0 ⟨nM _ _ _ 0 v1.1 _ underlying28 lJ rfl rfl rfl ⟨_,rfl⟩ hv6⟩ ?_
 refine yk [] [25] ?_
 refine yt (26,.cloB 123 [.box 28 [fb v7]]) 0 ⟨gL _ _ 96 _ _ rfl call96 rfl rfl (gO v6 _ hv7) rfl⟩ ?_
 refine aV [39,2,5,26] ?_
 refine aC ?_
 refine jz [3,0,1,2] (by kernel_rfl) (es':=[(26,.cloB 123 [.box 28 [fb v7]]),(39,.glob (GL mx)),(2,.box 28 [vz]),(5,vi v1.1)]) rfl ?_
 refine mK (fs:=[(26,.cloB 123 [.box 28 [fb v7]]),(39,.glob (GL mx)),(2,.box 28 [.fl (.own 5) 1 (map (int .u8) [])]),(5,vi v1.1)]) (.same _ (.same _ (.box _ _ (af (bL 5 1) (bC)) rfl (.same _ .nil)))) ?_
 refine iC h 123 26 27 40 _ [39,2,5] call123 (fun (s12:(List Int))=>[(39,.glob (GL mx)),(2,.box 28 [.fl (.own 5) 1 (map (int .u8) s12)]),(5,.v (.int .i64 v1.1))]) (fun (():Unit)=>[]) (fun l J Y hY t t' h=>fI mx l J Y hY v7 t t' h) hn rfl (fun _=>rfl) (fun _=>rfl) (fun _=>rfl) rfl rfl (fun _=>⟨rfl,rfl⟩) rfl (iA 39 rfl) ?_ ?_ ?_
 rintro kk g0 hn hio x s12 u h
 refine rC (es':=[(27,fb x),(39,.glob (GL mx)),(2,.box 28 [.fl (.own 5) 1 (map (int .u8) s12)]),(5,vi v1.1),(39,.v (kk.tm.getD 39 undef)),(2,.v (kk.tm.getD 2 undef)),(5,.v (kk.tm.getD 5 undef)),(40,.inv kk.ready)]) rfl ?_
 refine yy hn 1 [39,2,5,40,8,39,2,5] ?_
 refine ah [0,1,2,4,5,6,7,3] (by kernel_rfl) (es':=[(39,.glob (GL mx)),(2,.box 28 [.fl (.own 5) 1 (map (int .u8) s12)]),(5,vi v1.1),(8,fb x),(39,.v (kk.tm.getD 39 undef)),(2,.v (kk.tm.getD 2 undef)),(5,.v (kk.tm.getD 5 undef)),(40,.inv kk.ready)]) rfl ?_
 refine jQ (es:=[(39,.glob (GL mx)),(2,.box 28 [.fl (.own 5) 1 (map (int .u8) s12)]),(5,vi v1.1),(8,fb x),(39,.v (kk.tm.getD 39 undef)),(2,.v (kk.tm.getD 2 undef)),(5,.v (kk.tm.getD 5 undef))]) 40 rfl ?_
 refine aC (ab ?_)
 obtain ⟨v8,hv8,v9,hv9,h⟩:=dM h
 refine wb [[2],[8]] ?_
 refine wN [] ?_
 refine wS (.fl (.own 5) 1 (map (int .u8) [46])) [] ⟨bf _ _ 1 (.int .u8 0) (map (int .u8) [46]) [(0,.int .u8 46)] underlying28 lJ rM (fun _ V w o a hv hes=>by simp only [List.map_toArray,List.map_cons,List.map_nil]; try rfl) (cN (by simp [Instr.fill,Value.cells]; rfl) (by simp [List.range,List.range.loop] <;> rfl)) (by simp [Value.oneCell']) rfl (by decide) (by decide) (by decide)⟩ ?_
 refine wK [30] [] ?_
 refine wt [(31,.fl .ro 1 (map (int .u8) [46]))] [] ⟨gw _ _ _ underlying28 underlying5 (by intro h; cases h)⟩ ?_
 refine wN [29,31] ?_
 refine wS (fb v8) [] ⟨gL _ _ 97 _ _ rfl call97 rfl rfl (mr x [46] _ hv8) rfl⟩ ?_
 refine wK [2] [28,32] ?_
 refine wt [(2,.box 28 [.any]),(33,.fl (.own 5) 1 (map (int .u8) v9))] [] ⟨iu _ _ _ _ _ _ fZ rfl rfl (zl rfl) rfl (eW _) (eW _) hv9 ((List.map_append).symm.trans (congrArg (map _) (iY hv9))) (Nat.ne_of_beq_eq_false rfl) rfl rfl⟩ ?_
 refine wK [28,33,2] [] ?_
 refine wt [(2,.box 28 [.fl (.own 5) 1 (map (int .u8) v9)])] [] ⟨aN.drop [_] (aM _ _ _ _ _ _ _ _ lu rfl rfl rfl (zl rfl) rfl rfl)⟩ ?_
 refine sf hn [39,2,5,40,39,2,5] ?_
 obtain ⟨v10,hv10,h⟩:=zn h
 refine yx hn 1 ?_
 refine yk [2] [34] ?_
 refine mS (2,.box 28 [.any]) (35,.fl (.own 5) 1 (map (int .u8) v10)) 0 ⟨ew _ _ _ _ _ _ fZ rM underlying9 rfl rfl (zl rfl) rfl rfl hv10 rfl (Nat.ne_of_beq_eq_false rfl) rfl rfl⟩ ?_
 refine yw [34] 0 ?_
 refine yk [35,2] [] ?_
 refine yt (2,.box 28 [.fl (.own 5) 1 (map (int .u8) v10)]) 0 ⟨aM _ _ _ _ _ _ _ _ lu rfl rfl rfl (zl rfl) rfl rfl⟩ ?_
 refine ye [39,2,5,40,39,2,5] ?_
 refine aI ?_
 refine ah [0,1,2,4,5,6,3] (by kernel_rfl) (es':=[(_,_),(_,_),(_,_),(_,_),(_,_),(_,_),(_,_)]) rfl ?_
 obtain rfl:=zi h
 exact jT 40 [39,2,5] _ rfl rfl (by kernel_rfl)
 rintro D s12 h
 refine aI ?_
 refine ae (ab ?_)
 obtain ⟨v13,hv13,h⟩:=zn h
 refine yx hn 2 ?_
 refine ys 0 ⟨lb hv13⟩ ?_
 refine yk [2] [36] ?_
 refine yt (2,.box 28 [.fl (.own 5) 1 (map (int .u8) s12)]) 2 ⟨tF _ _ _ 2 0 lu rfl rfl rfl (zl rfl)⟩ ?_
 refine aV [39,2,3,4] ?_
 refine ak ?_
 refine ah [1,2,3] (by kernel_rfl) (es':=[(_,_),(_,_),(_,_)]) rfl ?_
 obtain rfl:=zi h
 exact al hio rfl (.cell1 _ _ _ _ underlying28 rfl (.tmp _ _ (.tmp _ _ .nil))) rfl rfl
 rintro D ⟨⟩ h
 cases h
theorem fF (xs:List Value):pO Tryz.prog 145 [.hid (ig 153 5 false xs)] [.hid (ig 153 5 true xs)] (.tup []) :=
 Cl (by decide) (fun b w h1 h2 h3=>Tryz.Builder_copyCheck_fresh b w h1 h2 h3) (fun b w h=>Tryz.Builder_copyCheck_used b w h)
theorem dG (xs:List Int) (c:Int) (r:List Int) (h:cc 1 xs [c]=some r):pO Tryz.prog 125 [.hid (ig 153 5 false (map (int .u8) xs)),.v (.int .u8 c)] [.hid (ig 153 5 false (map (int .u8) r))] (.v .nilIface):=by
 refine pO.bldW ?_
 refine wG func125 rfl (zl rfl) rfl (zl rfl) fun args0 hargs0 g0 hn hio => ?_
 refine Fi hn [_,_,_,(4,.v .nilIface)] [0,1,2] [0,1,2] [zq [] 3 4] [(_,_),(_,_),(_,_)] rfl ⟨z2 rfl,zz⟩ ?_
 refine Fi hn [_,_,_,(5,.same (.slot 0)),(0,.hid (ig 153 5 true (map (int .u8) xs))),(6,.tup [])] [0,1,2] [4,1,2] [zq [] 3 5,⟨[3],[0],[4,5],[(.slot 6)]⟩] [(_,_),(_,_),(_,_)] rfl ⟨zp rfl (dv _ _ _ rfl),zp rfl (me _ _ _ _ 6 145 [.tmp 5] [] _ _ _ rfl call145 rfl rfl rfl (fF _) (zl rfl) rfl rfl rfl rfl rfl rfl rfl),zz⟩ ?_
 refine tP 0 rfl ?_
 refine Fi hn (_::_::_::(7,.ptr 0 0)::(8,.ptr 0 0)::(9,.ptr 0 0)::(10,.ptr 0 1)::(11,.same (.cell 0 1))::(12,.v (.int .u8 c))::(13,.fl (.own 5) 1 (map (int .u8) [c]))::(14,.fl (.own 5) 1 (map (int .u8) r))::(0,.box 153 [.ptr 0 0,.any])::(15,.ptr 0 0)::(16,.ptr 0 1)::(0,.box 153 [.ptr 0 0,.fl (.own 5) 1 (map (int .u8) r)])::[]) [0,1,2] [14,2] [zq [0] 3 7,zq [0] 4 8,zq [4,0] 5 9,zq [5,0] 6 10,zq [6,0] 7 11,zq [1] 8 12,zq [8] 9 13,⟨[7,9],[0],[11,10],[(.slot 14)]⟩,zq [3,11] 12 15,zq [12,11] 13 16,⟨[13],[7,10,11],[14],[.cell 0 1]⟩] [(_,_),(_,_)] rfl ⟨z1 rfl,z1 rfl,zp rfl (jP _ _ _ 0 0 rfl (by decide)),zp rfl (oF underlying153 rfl lu),zp rfl (oL underlying28 rfl),z1 rfl,zp rfl (bf _ _ 1 (.int .u8 0) (map (int .u8) [c]) [(0,.int .u8 c)] underlying28 lJ rM (fun _ V w o a hv hes=>by have e0:=bZ hv hes (x := .tmp 12) rfl; simp only [List.map_toArray,List.map_cons,List.map_nil,e0]; try rfl) (cN (by simp [Instr.fill,Value.cells]; rfl) (by simp [List.range,List.range.loop])) (by simp [Value.oneCell']) rfl (by decide) (by decide) (by decide)),zp rfl (iu _ _ _ _ _ _ fZ rfl rfl (zl rfl) rfl (eW _) (eW _) h ((List.map_append).symm.trans (congrArg (map _) (iY h))) (Nat.ne_of_beq_eq_false rfl) rfl rfl),zp rfl (jP _ _ _ 0 0 rfl (by decide)),zp rfl (oF underlying153 rfl lu),zp rfl (aN.drop [_] (aM _ _ _ _ _ _ _ _ lu rfl rfl rfl (zl rfl) rfl rfl)),zz⟩ ?_
 refine Fi hn [_,_,(4,.v .nilIface)] [0,1] [0,1,2] [zq [] 2 4] [(_,_),(_,_),(_,_)] rfl ⟨z2 rfl,zz⟩ ?_
 refine ak ?_
 refine CD 0 ?_
 refine ah [2,0,1] (by kernel_rfl) (es':=[(_,_),(_,_),(_,_)]) rfl ?_
 exact bG (es:=[(4,.v .nilIface)]) (posts:=[.hid (ig 153 5 true (map (int .u8) r))]) hio rfl rfl (.tmp _ _ .nil) rfl rfl hargs0 rfl
theorem qg (s:Mf) (c:Int) (r:Mf) (h:Sh.strings_Repeat s c=some r):bF Tryz.prog 127 [.v (.string s),.v (.int .i64 c)] (.v (.string r)):=pA Tryz.strings_Repeat s c r h
theorem ju (xs:List Int) (s:Mf) (r:List Int) (h:cc 1 xs (ao s)=some r):pO Tryz.prog 126 [.hid (ig 153 5 false (map (int .u8) xs)),.v (.string s)] [.hid (ig 153 5 false (map (int .u8) r))] (.tup [.v (.int .i64 (s.size:Int)),.v .nilIface]):=by
 refine pO.bldW ?_
 refine wG func126 rfl (zl rfl) rfl (zl rfl) fun args0 hargs0 g0 hn hio => ?_
 refine Fi hn [_,_,_,(4,vi 0),(5,.v .nilIface)] [0,1,2] [0,1,2] [zq [] 3 4,zq [] 4 5] [(_,_),(_,_),(_,_)] rfl ⟨z2 rfl,z2 rfl,zz⟩ ?_
 refine Fi hn [_,_,_,(6,.same (.slot 0)),(0,.hid (ig 153 5 true (map (int .u8) xs))),(7,.tup [])] [0,1,2] [4,1,2] [zq [] 3 6,⟨[3],[0],[4,5],[(.slot 7)]⟩] [(_,_),(_,_),(_,_)] rfl ⟨zp rfl (dv _ _ _ rfl),zp rfl (me _ _ _ _ 7 145 [.tmp 6] [] _ _ _ rfl call145 rfl rfl rfl (fF _) (zl rfl) rfl rfl rfl rfl rfl rfl rfl),zz⟩ ?_
 refine tP 0 rfl ?_
 refine Fi hn (_::_::_::(8,.ptr 0 0)::(9,.ptr 0 0)::(10,.ptr 0 0)::(11,.ptr 0 1)::(12,.same (.cell 0 1))::(13,vs s)::(14,.fl (.own 5) 1 (map (int .u8) r))::(0,.box 153 [.ptr 0 0,.any])::(15,.ptr 0 0)::(16,.ptr 0 1)::(0,.box 153 [.ptr 0 0,.fl (.own 5) 1 (map (int .u8) r)])::[]) [0,1,2] [13,1,2] [zq [0] 3 8,zq [0] 4 9,zq [4,0] 5 10,zq [5,0] 6 11,zq [6,0] 7 12,zq [1] 8 13,⟨[7,8],[0],[10,9],[(.slot 14)]⟩,zq [3,10] 11 15,zq [11,10] 12 16,⟨[12],[7,9,10],[13],[.cell 0 1]⟩] [(_,_),(_,_),(_,_)] rfl ⟨z1 rfl,z1 rfl,zp rfl (jP _ _ _ 0 0 rfl (by decide)),zp rfl (oF underlying153 rfl lu),zp rfl (oL underlying28 rfl),z1 rfl,zp rfl (ew _ _ _ _ _ _ fZ rM underlying9 rfl rfl (zl rfl) rfl rfl h rfl (Nat.ne_of_beq_eq_false rfl) rfl rfl),zp rfl (jP _ _ _ 0 0 rfl (by decide)),zp rfl (oF underlying153 rfl lu),zp rfl (aN.drop [_] (aM _ _ _ _ _ _ _ _ lu rfl rfl rfl (zl rfl) rfl rfl)),zz⟩ ?_
 refine Fi hn [_,_,_,(17,vs s),(18,vi (s.size:Int)),(4,vi (s.size:Int)),(5,.v .nilIface)] [0,1,2] [0,2,5,6] [zq [1] 3 17,zq [3] 4 18,zq [4] 5 4,zq [] 6 5] [(_,_),(_,_),(_,_),(_,_)] rfl ⟨z1 rfl,zp rfl (oN underlying9 rfl),z2 rfl,z2 rfl,zz⟩ ?_
 refine ak ?_
 refine CD 0 ?_
 refine ah [2,3,0,1] (by kernel_rfl) (es':=[(_,_),(_,_),(_,_),(_,_)]) rfl ?_
 exact bG (es:=[(4,.v (.int .i64 (s.size:Int))),(5,.v .nilIface)]) (posts:=[.hid (ig 153 5 true (map (int .u8) r))]) hio rfl rfl (.tmp _ _ (.tmp _ _ .nil)) rfl rfl hargs0 rfl
theorem gE (xs:List Int) (s:Mf) (h:CH xs=some s):pO Tryz.prog 128 [.hid (ig 153 5 false (map (int .u8) xs))] [] (.v (.string s)):=by
 refine wG func128 rfl (zl rfl) rfl (zl rfl) fun args0 hargs0 g0 hn hio => ?_
 refine zu 0 fun v => ?_
 refine Fi hn [_,(2,vs ByteArray.empty)] [0] [0] [zq [] 1 2] [(_,_)] rfl ⟨z2 rfl,zz⟩ ?_
 refine ab ?_
 refine su (by kernel_rfl) hn (El:=[_,(3,.same (.slot 0)),(4,.ptr 0 0),(5,.ptr 0 1),(6,.v v),(7,.hid (EI v)),(8,.same (.slot 0)),(9,.ptr 0 0),(10,.ptr 0 1),(11,.v v),(12,vi ((map (int .u8) xs).length:Int)),(13,vs s),(2,vs s)]) (init:=[0]) (fin:=[12]) (sps:=[zq [] 1 3,zq [1,0] 2 4,zq [2] 3 5,zq [3,0] 4 6,zq [4,0] 5 7,zq [] 6 8,zq [6,0] 7 9,zq [7] 8 10,zq [8,0] 9 11,zq [9,0] 10 12,⟨[5,10],[0],[11],[(.slot 13)]⟩,zq [11] 12 2]) (es':=[(2,vs s)]) (by kernel_rfl) rfl rfl ⟨zp rfl (dv _ _ _ rfl),zp rfl (mR _ _ _ 0 rfl rfl (by decide)),zp rfl (oF underlying153 rfl lu),zp rfl (rI _ _ _ 0 underlying28 rfl rfl rfl),zp rfl (GP _ _ 0 underlying173 rfl rfl),zp rfl (dv _ _ _ rfl),zp rfl (mR _ _ _ 0 rfl rfl (by decide)),zp rfl (oF underlying153 rfl lu),zp rfl (rI _ _ _ 0 underlying28 rfl rfl rfl),zp rfl (yr _ _ 0 underlying28 rfl rfl),zp rfl (FC _ _ 0 underlying173 (by kernel_rfl) rfl rfl h),z2 rfl,zz⟩ ?_
 refine ae (ak ?_)
 exact bG (es:=[(2,.v (.string s))]) (posts:=[]) hio rfl rfl (.tmp _ _ .nil) rfl rfl hargs0 rfl
theorem kz (b:(List Int)) (r:Mf) (h:Sh.jK b=some r):bF Tryz.prog 98 [.fl .shr 1 (map (int .u8) b)] (.v (.string r)):=by
 unfold Sh.jK at h
 refine yO 61 func98 fun g0 hn hio => ?_
 refine aG hn 1 [0] ?_
 refine gH hn 0 ?_
 refine yS (.hid (ig 153 5 false (map (int .u8) ([]:List Int)))) 0 ⟨oA (aN.bld0 (aT _ _ Gq))⟩ ?_
 refine aV [0,3] ?_
 refine ab ?_
 refine aG hn 1 [0,3,4] ?_
 refine aS h (fun ((s89,s90):(List Int)×Int)=>[(0,fb b),(3,.hid (ig 153 5 false (map (int .u8) s89))),(4,vi s90)]) (fun (s122:(List Int))=>[(3,.hid (ig 153 5 false (map (int .u8) s122)))]) ?_ ?_
 rintro s122 h
 refine ae (ab ?_)
 obtain ⟨v160,hv160,h⟩:=zn h
 refine yx hn 0 ?_
 refine yk [3] [] ?_
 refine yt (60,vs v160) 1 ⟨me _ _ _ _ 60 128 [.tmp 3] [] _ _ _ rfl call128 rfl rfl rfl (gE s122 _ hv160) (zl rfl) rfl rfl rfl rfl rfl rfl rfl⟩ ?_
 refine aV [2] ?_
 refine ak ?_
 obtain rfl:=zi h
 exact al hio rfl (.tmp _ _ .nil) rfl rfl
 rintro u123 hl124 hr125 ⟨s89,s90⟩ rr128 h ho126
 refine ab ?_
 refine aG hn 4 [0,3,4,13] ?_
 refine zc h rfl (fun h => ?_) (fun h => ?_)
 refine am ?_
 refine ae (ab ?_)
 refine aC (ab ?_)
 obtain ⟨v2,hv2,v3,hv3,h⟩:=dM h
 refine yx hn 3 ?_
 refine ys 0 ⟨lb hv2⟩ ?_
 refine yS (vi v3) 1 ⟨(Option.some.inj hv3) ▸ vJ _ _ _ _ rfl rfl⟩ ?_
 refine aV [0,3,4,5] ?_
 refine aG hn 1 [0,3,4,5,6] ?_
 refine ab (ab ?_)
 obtain ⟨v4,hv4,v5,hv5,h⟩:=dM h
 refine yx hn 4 ?_
 refine ys 0 ⟨lb hv4⟩ ?_
 refine yS (fb v5) 2 ⟨nM _ _ _ s90 v4 _ underlying28 lJ rfl rfl ⟨_,rfl⟩ ⟨_,rfl⟩ hv5⟩ ?_
 refine aV [0,3,4,5,6,26,27,28] ?_
 refine aS h (fun ((s134,s135):Int×Int)=>[(0,fb b),(3,.hid (ig 153 5 false (map (int .u8) s89))),(4,vi s90),(5,vi v3),(6,.v (.int .u32 s134)),(26,fb v5),(27,vi (v5.length:Int)),(28,vi s135)]) (fun (s137:Int)=>[(0,fb b),(3,.hid (ig 153 5 false (map (int .u8) s89))),(4,vi s90),(5,vi v3),(6,.v (.int .u32 s137))]) ?_ ?_
 rintro s137 h
 refine ae (ab ?_)
 refine ab ?_
 obtain ⟨v29,hv29,h⟩:=zn h
 refine yx hn 1 ?_
 refine ys 1 ⟨lb hv29⟩ ?_
 refine aV [0,3,4,5,6,43,44] ?_
 refine aS h (fun ((s149,s150):(List Int)×Int)=>[(0,fb b),(3,.hid (ig 153 5 false (map (int .u8) s149))),(4,vi s90),(5,vi v3),(6,.v (.int .u32 s137)),(43,vi v29),(44,vi s150)]) (fun (s152:(List Int))=>[(0,fb b),(3,.hid (ig 153 5 false (map (int .u8) s152))),(4,vi s90),(5,vi v3)]) ?_ ?_
 rintro s152 h
 refine ae ?_
 obtain ⟨v52,hv52,v53,hv53,v54,hv54,h⟩:=ng h
 refine yx hn 1 ?_
 refine ys 0 ⟨lb hv52⟩ ?_
 refine ys 0 ⟨lk call127 (qg _ _ _ hv53)⟩ ?_
 refine yq call126 (ju _ _ _ hv54) 3 [58] 0 ?_
 refine ye [0,3,4] ?_
 refine aI (ae ?_)
 obtain ⟨v55,hv55,h⟩:=zn h
 refine yx hn 1 ?_
 refine ys 0 ⟨lb hv55⟩ ?_
 refine yw [4] 1 ?_
 refine ye [0,3,4] ?_
 exact bb _ (zi h).symm rfl
 rintro u153 hl154 hr155 ⟨s149,s150⟩ rr158 h ho156
 refine aG hn 1 [0,3,4,5,6,43,44,45] ?_
 refine ab ?_
 refine zc h rfl (fun h => ?_) (fun h => ?_)
 refine am ?_
 refine ae (ab ?_)
 refine aC ?_
 refine aG hn 2 [0,3,4,5,6,43,44,9] ?_
 obtain ⟨v31,hv31,v32,hv32,v33,hv33,v34,hv34,h⟩:=jX h
 obtain ⟨v35,hv35,v36,hv36,h⟩:=dM h
 refine yx hn 2 ?_
 refine ys 0 ⟨lb hv31⟩ ?_
 refine ys 0 ⟨lb hv32⟩ ?_
 refine ys 0 ⟨lB (kT hv33)⟩ ?_
 refine ys 0 ⟨lb hv34⟩ ?_
 refine ys 0 ⟨lh hv35⟩ ?_
 refine yq call125 (dG _ _ _ hv36) 3 [53] 0 ?_
 refine ye [0,3,4,5,6,43,44] ?_
 refine aI (ae ?_)
 obtain ⟨v37,hv37,h⟩:=zn h
 refine yx hn 0 ?_
 refine ys 0 ⟨lb hv37⟩ ?_
 refine yw [44] 1 ?_
 refine ye [0,3,4,5,6,43,44] ?_
 exact bb _ (zi h).symm rfl
 refine ba (ap (ap (aZ ?_)))
 refine ah [0,1,2,3] (by kernel_rfl) (es':=[(_,_),(_,_),(_,_),(_,_)]) rfl ?_
 exact hl154 _ (ho156 _ (zi h).symm).symm
 rintro u138 hl139 hr140 ⟨s134,s135⟩ rr143 h ho141
 refine aG hn 1 [0,3,4,5,6,26,27,28,29] ?_
 refine ab ?_
 refine zc h rfl (fun h => ?_) (fun h => ?_)
 refine am ?_
 refine ae (ab ?_)
 refine aC (ab ?_)
 obtain ⟨v7,hv7,v8,hv8,h⟩:=dM h
 refine yx hn 1 ?_
 refine ys 0 ⟨li hv7⟩ ?_
 refine ys 2 ⟨ll hv8⟩ ?_
 refine aV [0,3,4,5,6,26,27,28,7,8] ?_
 obtain ⟨v9,hv9,v10,hv10,v11,hv11,v12,hv12,h⟩:=jX h
 obtain ⟨v13,hv13,h⟩:=zn h
 refine yx hn 2 ?_
 refine ys 1 ⟨lv hv9⟩ ?_
 refine ys 0 ⟨lb hv10⟩ ?_
 refine ys 0 ⟨lb hv11⟩ ?_
 refine ys 0 ⟨lB (nA hv12)⟩ ?_
 refine ys 0 ⟨lb hv13⟩ ?_
 refine yw [6] 1 ?_
 refine ye [0,3,4,5,26,27,28,6] ?_
 refine aI (ae ?_)
 obtain ⟨v14,hv14,h⟩:=zn h
 refine yx hn 0 ?_
 refine ys 0 ⟨lb hv14⟩ ?_
 refine yw [28] 1 ?_
 refine ye [0,3,4,5,26,27,6,28] ?_
 refine ah [0,1,2,3,6,4,5,7] (by kernel_rfl) (es':=[(_,_),(_,_),(_,_),(_,_),(_,_),(_,_),(_,_),(_,_)]) rfl ?_
 exact bb _ (zi h).symm rfl
 refine ba (ap (ap (aZ ?_)))
 refine ah [0,1,2,3,4] (by kernel_rfl) (es':=[(_,_),(_,_),(_,_),(_,_),(_,_)]) rfl ?_
 exact hl139 _ (ho141 _ (zi h).symm).symm
 refine ba (ap (ap (aZ ?_)))
 refine ah [1] (by kernel_rfl) (es':=[(_,_)]) rfl ?_
 exact hl124 _ (ho126 _ (zi h).symm).symm
theorem nR (code:Int) (r:Bool) (h:Sh.iz code=some r):bF Tryz.prog 99 [.v (.int .i64 code)] (.v (.bool r)):=by
 unfold Sh.iz at h
 refine yO 9 func99 fun g0 hn hio => ?_
 refine aG hn 1 [0] ?_
 refine ab ?_
 refine aq h (fun (s1:Bool)=>[(2,vb s1)]) ?_ ?_
 rintro s1 h
 refine ae (ak ?_)
 obtain rfl:=zi h
 exact al hio rfl (.tmp _ _ .nil) rfl rfl
 intro u2 h hl3 hr4
 refine ai h (fun hg1_2 h => ?_) (fun hg1_2 h => ?_)
 refine yx hn 3 ?_
 refine yd hg1_2 4 ?_
 refine ye [2] ?_
 exact hl3 _ (zi h).symm
 refine yx hn 3 ?_
 refine yd hg1_2 4 ?_
 refine ye [2] ?_
 exact hl3 _ (zi h).symm
end Go.Proofs.YtjnnkhmhjcjhdaaGreatDoor
