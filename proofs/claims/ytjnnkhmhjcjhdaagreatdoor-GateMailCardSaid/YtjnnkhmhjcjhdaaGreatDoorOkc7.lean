import Derived.Test.YtjnnkhmhjcjhdaaGreatDoorOkc6
set_option linter.unusedVariables false
set_option linter.unusedSimpArgs false
set_option maxHeartbeats 1000000
namespace Go.Proofs.YtjnnkhmhjcjhdaaGreatDoor
open Go.Abs Go.Abs.Sh Tryz
open List (map flatten)
open Value (int)
theorem pJ (mx:Int×Nat×Value) (p:T_Path) (domain:Mf) (r:Bool) (h:Sh.lm p domain=some r):iq Tryz.prog (GL mx) 140 [.agg [.v (.bool p.LQ),.v (.string p.LM),.v (.string p.LA)],.v (.string domain)] (.v (.bool r)):=by
 unfold Sh.lm at h
 refine yG 21 func140 fun g0 hn hio => ?_
 refine aG hn 2 [1,21,2] ?_
 refine ab ?_
 refine aq h (fun (s4:Bool)=>[(21,.glob (GL mx)),(4,vb s4)]) ?_ ?_
 rintro s4 h
 refine ae (ak ?_)
 refine ah [1] (by kernel_rfl) (es':=[(_,_)]) rfl ?_
 obtain rfl:=zi h
 exact al hio rfl (.tmp _ _ .nil) rfl rfl
 intro u5 h hl6 hr7
 obtain ⟨v1,hv1,h⟩:=zn h
 refine ai h (fun hg1_3 h => ?_) (fun hg1_3 h => ?_)
 refine ai h (fun hg1_8 h => ?_) (fun hg1_8 h => ?_)
 obtain ⟨v2,hv2,v3,hv3,h⟩:=dM h
 refine yx hn 1 ?_
 refine ys 2 ⟨lg call162 (cQ _ _ _ hv1) 21⟩ ?_
 refine yd hg1_3 5 ?_
 refine yd hg1_8 2 ?_
 refine ys 1 ⟨lk call71 (eA _ _ hv2)⟩ ?_
 refine ys 3 ⟨lk call71 (eA _ _ hv3)⟩ ?_
 refine ye [21,4] ?_
 exact hl6 _ (zi h).symm
 refine yx hn 1 ?_
 refine ys 2 ⟨lg call162 (cQ _ _ _ hv1) 21⟩ ?_
 refine yd hg1_3 5 ?_
 refine yd hg1_8 8 ?_
 refine ye [21,4] ?_
 exact hl6 _ (zi h).symm
 refine yx hn 1 ?_
 refine ys 2 ⟨lg call162 (cQ _ _ _ hv1) 21⟩ ?_
 refine yd hg1_3 13 ?_
 refine ye [21,4] ?_
 exact hl6 _ (zi h).symm
theorem nO (mx:Int×Nat×Value) (s:aa) (c:bn) (r:(Int×aa)) (h:Sh.er s c=some r):ny Tryz.prog (GL mx) 113 [.box 80 (aa.b s),.agg [.v (.int .i64 c.LK),.v (.string c.Mb),.v (.bool c.LV.LQ),.v (.string c.LV.LM),.v (.string c.LV.LA),.fl .shr 2 (flatten (map ar.enc c.LU))]] [.box 80 (aa.b r.2)] (.v (.int .i64 r.1)):=by
 unfold Sh.er at h
 refine DZ 81 func113 fun args0 hargs0 g0 hn hio => ?_
 refine aG hn 2 [0,81,3,0] ?_
 refine ab (aC (ab ?_))
 refine aq h (fun (s1:Bool)=>[(0,.box 80 (aa.b s)),(81,.glob (GL mx)),(3,.box 122 (bn.c c [])),(7,vb s1),(0,.v (List.getD args0 0 undef))]) ?_ ?_
 rintro s1 h
 refine ae ?_
 refine zc h rfl (fun h => ?_) (fun h => ?_)
 refine aG hn 1 [0,81,4,0] ?_
 refine ak ?_
 refine ah [2,0,3] (by kernel_rfl) (es':=[(_,_),(_,_),(_,_)]) rfl ?_
 refine aF (ag ?_)
 obtain rfl:=zi h
 exact bG (es:=[(4,.v (.int .i64 503))]) (posts:=[.box 80 (aa.b s)]) hio rfl rfl (.tmp _ _ .nil) rfl rfl hargs0 rfl
 refine aG hn 8 [0,81,3,22,0] ?_
 refine zc h rfl (fun h => ?_) (fun h => ?_)
 refine aG hn 1 [0,81,4,0] ?_
 refine ak ?_
 refine ah [2,0,3] (by kernel_rfl) (es':=[(_,_),(_,_),(_,_)]) rfl ?_
 refine aF (ag ?_)
 obtain rfl:=zi h
 exact bG (es:=[(4,.v (.int .i64 452))]) (posts:=[.box 80 (aa.b s)]) hio rfl rfl (.tmp _ _ .nil) rfl rfl hargs0 rfl
 refine ab ?_
 refine aq h (fun (s9:Bool)=>[(0,.box 80 (aa.b s)),(81,.glob (GL mx)),(3,.box 122 (bn.c c [])),(30,vb s9),(0,.v (List.getD args0 0 undef))]) ?_ ?_
 rintro s9 h
 refine ae ?_
 refine zc h rfl (fun h => ?_) (fun h => ?_)
 refine aG hn 1 [0,81,4,0] ?_
 refine ak ?_
 refine ah [2,0,3] (by kernel_rfl) (es':=[(_,_),(_,_),(_,_)]) rfl ?_
 refine aF (ag ?_)
 obtain rfl:=zi h
 exact bG (es:=[(4,.v (.int .i64 550))]) (posts:=[.box 80 (aa.b s)]) hio rfl rfl (.tmp _ _ .nil) rfl rfl hargs0 rfl
 refine am (aI (ae ?_))
 refine aG hn 5 [0,81,3,0] ?_
 refine ab ?_
 obtain ⟨v14,hv14,h⟩:=zn h
 refine wb [[],[],[58,0],[59,0],[60,0],[61,0],[3],[63,3]] ?_
 refine wN [64] ?_
 refine wS (.fl (.own 26) 3 (flatten (map T_Path.enc [(T_Path.mk c.LV.LQ c.LV.LM c.LV.LA)]))) [] ⟨bf _ _ 3 (.agg #[.bool false,.string ByteArray.empty,.string ByteArray.empty]) (flatten (map T_Path.enc [(T_Path.mk c.LV.LQ c.LV.LM c.LV.LA)])) [(0,.agg #[.bool c.LV.LQ,.string c.LV.LM,.string c.LV.LA])] underlying27 pD qk (fun _ V w o a hv hes=>by have e0:=Cp (ys:=[.bool c.LV.LQ,.string c.LV.LM,.string c.LV.LA]) hv hes (x := .tmp 64) rfl; simp only [List.map_toArray,List.map_cons,List.map_nil,e0]; try rfl) (cN (by simp [Instr.fill,Value.cells]; rfl) (by simp [List.range,List.range.loop,T_Path.enc] <;> rfl)) (by simp [Value.oneCell',T_Path.enc]) rfl (by decide) (by decide) (by decide)⟩ ?_
 refine wK [0] [62,65] ?_
 refine wt [(0,.box 80 (vi 3::vs s.LF.LI::vb s.LF.LD.LQ::vs s.LF.LD.LM::vs s.LF.LD.LA::.any::vb s.LF.LY::.mkr 5 (map (int .u8) s.LF.Lx)::vs s.LF.Ly::vb s.LF.LX::aB.c s.config [vi s.site,vi s.at_,.fr (.own 55) false 12 (flatten (map ay.ienc s.out))])),(66,.fl (.own 26) 3 (flatten (map T_Path.enc v14)))] [[57,0],[67,0],[68,0]] ⟨iu _ _ _ _ _ _ EH rfl rfl (zl rfl) rfl (gR T_Path.len _) (gR T_Path.len _) hv14 (wP (iY hv14)) (Nat.ne_of_beq_eq_false rfl) rfl rfl⟩ ?_
 refine wK [62,66,0] [69] ?_
 refine wt [(0,.box 80 (vi 3::vs s.LF.LI::vb s.LF.LD.LQ::vs s.LF.LD.LM::vs s.LF.LD.LA::.fl (.own 26) 3 (flatten (map T_Path.enc v14))::vb s.LF.LY::.mkr 5 (map (int .u8) s.LF.Lx)::vs s.LF.Ly::vb s.LF.LX::aB.c s.config [vi s.site,vi s.at_,.fr (.own 55) false 12 (flatten (map ay.ienc s.out))]))] [] ⟨aN.drop [_] (aM _ _ _ _ _ _ _ _ IU rfl rfl rfl (zl rfl) rfl rfl)⟩ ?_
 refine sf hn [0,81,3,0] ?_
 refine ab ?_
 refine aq h (fun (s17:Bool)=>[(0,.box 80 (vi 3::vs s.LF.LI::vb s.LF.LD.LQ::vs s.LF.LD.LM::vs s.LF.LD.LA::.fl (.own 26) 3 (flatten (map T_Path.enc v14))::vb s17::.mkr 5 (map (int .u8) s.LF.Lx)::vs s.LF.Ly::vb s.LF.LX::aB.c s.config [vi s.site,vi s.at_,.fr (.own 55) false 12 (flatten (map ay.ienc s.out))])),(81,.glob (GL mx)),(0,.v (List.getD args0 0 undef))]) ?_ ?_
 rintro s17 h
 refine ae ?_
 refine aG hn 1 [0,81,4,0] ?_
 refine ak ?_
 refine ah [2,0,3] (by kernel_rfl) (es':=[(_,_),(_,_),(_,_)]) rfl ?_
 obtain rfl:=zi h
 exact bG (es:=[(4,.v (.int .i64 250))]) (posts:=[.box 80 [.v (.int .i64 3),.v (.string s.LF.LI),.v (.bool s.LF.LD.LQ),.v (.string s.LF.LD.LM),.v (.string s.LF.LD.LA),.fl (.own 26) 3 (flatten (map T_Path.enc v14)),.v (.bool s17),.mkr 5 (map (int .u8) s.LF.Lx),.v (.string s.LF.Ly),.v (.bool s.LF.LX),.v (.string ((s.config.LB.getD 0 (⟨#[]⟩:Mf)))),.v (.string ((s.config.LB.getD 1 (⟨#[]⟩:Mf)))),.v (.int .i64 s.config.LC),.v (.string s.config.Mc),.v (.string s.config.Ma),.v (.int .i64 s.config.LN),.v (.bool s.config.LH),.v (.int .i64 s.site),.v (.int .i64 s.at_),.fr (.own 55) false 12 (flatten (map ay.ienc s.out))]]) hio rfl rfl (.tmp _ _ .nil) rfl rfl hargs0 rfl
 intro u18 h hl19 hr20
 refine ab ?_
 obtain ⟨v15,hv15,h⟩:=zn h
 refine yx hn 1 ?_
 refine ys 0 ⟨lk call138 (pq _ _ _ hv15)⟩ ?_
 refine ym 4 ?_
 refine aV [0,81,5,0] ?_
 refine aG hn 2 [0,81,76,0] ?_
 refine zc h rfl (fun h => ?_) (fun h => ?_)
 refine yy hn 5 [0,81,0] ?_
 exact hl19 _ (zi h).symm
 refine am ?_
 refine ah [0,1,3] (by kernel_rfl) (es':=[(_,_),(_,_),(_,_)]) rfl ?_
 exact hl19 _ (zi h).symm
 intro u10 h hl11 hr12
 obtain ⟨v7,hv7,h⟩:=zn h
 refine ai h (fun hg5_10 h => ?_) (fun hg5_10 h => ?_)
 obtain ⟨v8,hv8,h⟩:=zn h
 refine wb [[3],[31,3],[],[33,0],[34,0],[35,0]] ?_
 refine wN [36,0] ?_
 refine wS (.ptr 0 10) [[37,0]] ⟨bV _ _ _ _ 2 0 10 0 1 underlying22 sP rfl rfl (by decide) (by decide)⟩ ?_
 refine wN [32,38,81] ?_
 refine wo [[39],[40]] ⟨lg call140 (pJ _ _ _ _ hv7) 81⟩ ?_
 refine wd hg5_10 [[41,3],[41,42,3],[41],[41,44,0],[41,45,0],[41,46,0]] ?_
 refine wN [41,47,0] ?_
 refine wS (.ptr 0 11) [[41,48,0]] ⟨bV _ _ _ _ 2 0 10 1 1 underlying22 sP rfl rfl (by decide) (by decide)⟩ ?_
 refine wN [41,43,49,81] ?_
 refine wo [[41,50],[41,51],[52]] ⟨lg call140 (pJ _ _ _ _ hv8) 81⟩ ?_
 refine we hn [0,81,3,30,0] ?_
 exact hl11 _ (zi h).symm
 refine wb [[3],[31,3],[],[33,0],[34,0],[35,0]] ?_
 refine wN [36,0] ?_
 refine wS (.ptr 0 10) [[37,0]] ⟨bV _ _ _ _ 2 0 10 0 1 underlying22 sP rfl rfl (by decide) (by decide)⟩ ?_
 refine wN [32,38,81] ?_
 refine wo [[39],[40]] ⟨lg call140 (pJ _ _ _ _ hv7) 81⟩ ?_
 refine wd hg5_10 [[41],[41],[41],[41],[41],[41],[41],[41],[41],[41],[41],[52]] ?_
 refine we hn [0,81,3,30,0] ?_
 exact hl11 _ (zi h).symm
 intro u2 h hl3 hr4
 refine ai h (fun hg1_6 h => ?_) (fun hg1_6 h => ?_)
 refine yx hn 7 ?_
 refine yd hg1_6 8 ?_
 refine ye [0,81,3,7,0] ?_
 exact hl3 _ (zi h).symm
 refine yx hn 7 ?_
 refine yd hg1_6 8 ?_
 refine ye [0,81,3,7,0] ?_
 exact hl3 _ (zi h).symm
theorem mZ (s:aa) (r:(Int×aa)) (h:Sh.hZ s=some r):pO Tryz.prog 114 [.box 80 (aa.b s)] [.box 80 (aa.b r.2)] (.v (.int .i64 r.1)):=by
 unfold Sh.hZ at h
 refine yP 13 func114 fun args0 hargs0 g0 hn hio => ?_
 refine aG hn 1 [0,0] ?_
 refine ab ?_
 refine aG hn 6 [0,8,0] ?_
 refine zc h rfl (fun h => ?_) (fun h => ?_)
 refine aG hn 1 [0,2,0] ?_
 refine ak ?_
 refine ah [1,0,2] (by kernel_rfl) (es':=[(_,_),(_,_),(_,_)]) rfl ?_
 refine ag ?_
 obtain rfl:=zi h
 exact bG (es:=[(2,.v (.int .i64 503))]) (posts:=[.box 80 (aa.b s)]) hio rfl rfl (.tmp _ _ .nil) rfl rfl hargs0 rfl
 refine am (ae ?_)
 refine aG hn 5 [0,0] ?_
 refine aG hn 1 [0,2,0] ?_
 refine ak ?_
 refine ah [1,0,2] (by kernel_rfl) (es':=[(_,_),(_,_),(_,_)]) rfl ?_
 obtain rfl:=zi h
 exact bG (es:=[(2,.v (.int .i64 354))]) (posts:=[.box 80 [.v (.int .i64 4),.v (.string s.LF.LI),.v (.bool s.LF.LD.LQ),.v (.string s.LF.LD.LM),.v (.string s.LF.LD.LA),.fl (.own 26) 3 (flatten (map T_Path.enc s.LF.To)),.v (.bool s.LF.LY),.mkr 5 (map (int .u8) s.LF.Lx),.v (.string s.LF.Ly),.v (.bool s.LF.LX),.v (.string ((s.config.LB.getD 0 (⟨#[]⟩:Mf)))),.v (.string ((s.config.LB.getD 1 (⟨#[]⟩:Mf)))),.v (.int .i64 s.config.LC),.v (.string s.config.Mc),.v (.string s.config.Ma),.v (.int .i64 s.config.LN),.v (.bool s.config.LH),.v (.int .i64 s.site),.v (.int .i64 s.at_),.fr (.own 55) false 12 (flatten (map ay.ienc s.out))]]) hio rfl rfl (.tmp _ _ .nil) rfl rfl hargs0 rfl
theorem iB (s:aa) (domain:Mf) (r:(Bool×aa)) (h:Sh.eE s domain=some r):pO Tryz.prog 141 [.box 80 (aa.b s),.v (.string domain)] [.box 80 (aa.b r.2)] (.v (.bool r.1)):=by
 unfold Sh.eE at h
 refine yP 18 func141 fun args0 hargs0 g0 hn hio => ?_
 refine aG hn 1 [0,1,0] ?_
 refine ab ?_
 obtain ⟨v1,hv1,v2,hv2,v3,hv3,v4,hv4,h⟩:=jX h
 refine wb [[1],[],[],[7,0],[8,0],[9,0]] ?_
 refine wN [10] ?_
 refine wo [[6,0],[12,0],[13,0]] ⟨lb hv1⟩ ?_
 refine wN [14,0,11] ?_
 refine wS (.ptr 0 (10+v2 * 1)) [] ⟨uV _ _ _ _ 2 0 10 _ underlying22 sP rfl rfl (bA hv2).1 (bA hv2).2 (by decide)⟩ ?_
 refine wN [15,0] ?_
 refine wS (vs v3) [] ⟨rN _ _ _ 0 10 v2 2 ([(s.config.LB.getD 0 z0),(s.config.LB.getD 1 z0)]:List Mf) _ underlying9 rfl rfl rfl rfl hv3⟩ ?_
 refine wN [5,16] ?_
 refine wo [[17]] ⟨lk call56 (ld _ _ _ hv4)⟩ ?_
 refine sf hn [0,4,0] ?_
 refine ak ?_
 refine ah [1,0,2] (by kernel_rfl) (es':=[(_,_),(_,_),(_,_)]) rfl ?_
 obtain rfl:=zi h
 exact bG (es:=[(4,.v (.bool v4))]) (posts:=[.box 80 (aa.b s)]) hio rfl rfl (.tmp _ _ .nil) rfl rfl hargs0 rfl
theorem nw (s:aa) (c:bn) (r:(Int×aa)) (h:Sh.iR s c=some r):pO Tryz.prog 116 [.box 80 (aa.b s),.agg [.v (.int .i64 c.LK),.v (.string c.Mb),.v (.bool c.LV.LQ),.v (.string c.LV.LM),.v (.string c.LV.LA),.fl .shr 2 (flatten (map ar.enc c.LU))]] [.box 80 (aa.b r.2)] (.v (.int .i64 r.1)):=by
 unfold Sh.iR at h
 refine yP 18 func116 fun args0 hargs0 g0 hn hio => ?_
 refine aG hn 2 [0,3,0] ?_
 refine ab (aC ?_)
 refine aG hn 7 [0,3,5,0] ?_
 refine zc h rfl (fun h => ?_) (fun h => ?_)
 refine aG hn 1 [0,4,0] ?_
 refine ak ?_
 refine ah [1,0,2] (by kernel_rfl) (es':=[(_,_),(_,_),(_,_)]) rfl ?_
 refine aF (ag ?_)
 obtain rfl:=zi h
 exact bG (es:=[(4,.v (.int .i64 503))]) (posts:=[.box 80 (aa.b s)]) hio rfl rfl (.tmp _ _ .nil) rfl rfl hargs0 rfl
 refine ab ?_
 obtain ⟨v2,hv2,h⟩:=zn h
 refine yx hn 3 ?_
 refine yQ call141 (iB _ _ _ hv2) 0 [13,15] 2 ?_
 refine aV [0,12,0] ?_
 refine zc h rfl (fun h => ?_) (fun h => ?_)
 refine aG hn 1 [0,4,0] ?_
 refine ak ?_
 refine ah [1,0,2] (by kernel_rfl) (es':=[(_,_),(_,_),(_,_)]) rfl ?_
 refine aF (ag ?_)
 obtain rfl:=zi h
 exact bG (es:=[(4,.v (.int .i64 459))]) (posts:=[.box 80 (aa.b v2.2)]) hio rfl rfl (.tmp _ _ .nil) rfl rfl hargs0 rfl
 refine am (aI (ae ?_))
 refine aG hn 1 [0,4,0] ?_
 refine ak ?_
 refine ah [1,0,2] (by kernel_rfl) (es':=[(_,_),(_,_),(_,_)]) rfl ?_
 obtain rfl:=zi h
 exact bG (es:=[(4,.v (.int .i64 250))]) (posts:=[.box 80 (aa.b v2.2)]) hio rfl rfl (.tmp _ _ .nil) rfl rfl hargs0 rfl
theorem iw (s:aa) (code:Int) (r:aa) (h:Sh.ez s code=some r):pO Tryz.prog 115 [.box 80 (aa.b s),.v (.int .i64 code)] [.box 80 (aa.b r)] (.tup []):=by
 unfold Sh.ez at h
 refine yP 19 func115 fun args0 hargs0 g0 hn hio => ?_
 obtain ⟨v1,hv1,v2,hv2,h⟩:=dM h
 refine wb [[],[],[5,0],[6,0],[7,0],[0],[1]] ?_
 refine wN [9,0,10] ?_
 refine wS (.agg [vi v1.Lz,.fl (.own 9) 1 (map Value.string v1.LL)]) [[1],[12]] ⟨yc _ 11 0 85 [.int .i64 code] _ rfl call85 rfl rfl rfl rfl (fun u=>gu u ((aa.r s)) code _ hv1) rfl rfl rfl⟩ ?_
 refine wK [11] [13] ?_
 refine wt [(14,.agg [vi v1.Lz,.fl (.own 9) 1 (map Value.string v1.LL),vb false,vb false,vs z0,vs z0,vz,vz,vb false,vs z0,vi 0,vb (code==250)])] [] ⟨bw _ _ _ _ [2,1,8,1] _ _ underlying55 tY (Cw _ underlying55) (.take _ _ (.copy _ mb.nil)) rfl rfl rfl⟩ ?_
 refine wK [14] [] ?_
 refine wt [(15,.fr (.own 55) false 12 (flatten (map ay.ienc ([(ay.mk v1 false ((az.mk ((T_Path.mk false z0 z0)) [] [] false z0 0)) (code==250))]))))] [] ⟨iU _ _ _ 12 (.agg #[.int .i64 0,.slice none 0 0,.bool false,.bool false,.string ByteArray.empty,.string ByteArray.empty,.slice none 0 0,.slice none 0 0,.bool false,.string ByteArray.empty,.int .i64 0,.bool false]) false _ _ underlying34 vZ tY rfl (.cons (.v _) (.cons (.ro _ _ rfl) (.cons (.v _) (.cons (.v _) (.cons (.v _) (.cons (.v _) (.cons (.nil 3) (.cons (.nil 1) (.cons (.v _) (.cons (.v _) (.cons (.v _) (.cons (.v _) (.nil))))))))))))) rfl (by decide) (by decide)⟩ ?_
 refine wK [0] [8,15] ?_
 refine wt [(0,.box 80 (vi s.LF.LW::vs s.LF.LI::vb s.LF.LD.LQ::vs s.LF.LD.LM::vs s.LF.LD.LA::.fl (.own 26) 3 (flatten (map T_Path.enc s.LF.To))::vb s.LF.LY::.mkr 5 (map (int .u8) s.LF.Lx)::vs s.LF.Ly::vb s.LF.LX::aB.c s.config [vi s.site,vi s.at_,.any])),(16,.fr (.own 55) false 12 (flatten (map ay.ienc v2)))] [[4,0],[17,0]] ⟨iQ _ 16 0 19 _ _ He rfl rfl (zl rfl) rfl (fO ay.ilen _) (fO ay.ilen _) hv2 (lN (iY hv2)) (by decide) (by decide) (by decide) rfl rfl⟩ ?_
 refine wK [8,16,0] [18] ?_
 refine wt [(0,.box 80 (vi s.LF.LW::vs s.LF.LI::vb s.LF.LD.LQ::vs s.LF.LD.LM::vs s.LF.LD.LA::.fl (.own 26) 3 (flatten (map T_Path.enc s.LF.To))::vb s.LF.LY::.mkr 5 (map (int .u8) s.LF.Lx)::vs s.LF.Ly::vb s.LF.LX::aB.c s.config [vi s.site,vi s.at_,.fr (.own 55) false 12 (flatten (map ay.ienc v2))]))] [] ⟨aN.drop [_] (aM _ _ _ _ _ _ _ _ Ic rfl rfl rfl (zl rfl) rfl rfl)⟩ ?_
 refine we hn [0,0] ?_
 obtain rfl:=zi h
 exact kY (es:=[]) (posts:=[.box 80 [.v (.int .i64 s.LF.LW),.v (.string s.LF.LI),.v (.bool s.LF.LD.LQ),.v (.string s.LF.LD.LM),.v (.string s.LF.LD.LA),.fl (.own 26) 3 (flatten (map T_Path.enc s.LF.To)),.v (.bool s.LF.LY),.mkr 5 (map (int .u8) s.LF.Lx),.v (.string s.LF.Ly),.v (.bool s.LF.LX),.v (.string ((s.config.LB.getD 0 (⟨#[]⟩:Mf)))),.v (.string ((s.config.LB.getD 1 (⟨#[]⟩:Mf)))),.v (.int .i64 s.config.LC),.v (.string s.config.Mc),.v (.string s.config.Ma),.v (.int .i64 s.config.LN),.v (.bool s.config.LH),.v (.int .i64 s.site),.v (.int .i64 s.at_),.fr (.own 55) false 12 (flatten (map ay.ienc v2))]]) hio rfl rfl .nil rfl rfl hargs0 rfl
theorem nX (s:aa) (r:(Int×aa)) (h:Sh.iS s=some r):pO Tryz.prog 117 [.box 80 (aa.b s)] [.box 80 (aa.b r.2)] (.v (.int .i64 r.1)):=by
 unfold Sh.iS at h
 refine yP 20 func117 fun args0 hargs0 g0 hn hio => ?_
 refine aG hn 1 [0,0] ?_
 refine ab (ab ?_)
 refine aq h (fun (s1:Bool)=>[(0,.box 80 (aa.b s)),(15,vb s1),(0,.v (List.getD args0 0 undef))]) ?_ ?_
 rintro s1 h
 refine ae ?_
 refine zc h rfl (fun h => ?_) (fun h => ?_)
 refine aG hn 1 [0,2,0] ?_
 refine ak ?_
 refine ah [1,0,2] (by kernel_rfl) (es':=[(_,_),(_,_),(_,_)]) rfl ?_
 refine ag ?_
 obtain rfl:=zi h
 exact bG (es:=[(2,.v (.int .i64 503))]) (posts:=[.box 80 (aa.b s)]) hio rfl rfl (.tmp _ _ .nil) rfl rfl hargs0 rfl
 refine am (ae ?_)
 refine aG hn 5 [0,0] ?_
 refine aG hn 1 [0,2,0] ?_
 refine ak ?_
 refine ah [1,0,2] (by kernel_rfl) (es':=[(_,_),(_,_),(_,_)]) rfl ?_
 obtain rfl:=zi h
 exact bG (es:=[(2,.v (.int .i64 334))]) (posts:=[.box 80 [.v (.int .i64 5),.v (.string s.LF.LI),.v (.bool s.LF.LD.LQ),.v (.string s.LF.LD.LM),.v (.string s.LF.LD.LA),.fl (.own 26) 3 (flatten (map T_Path.enc s.LF.To)),.v (.bool s.LF.LY),.mkr 5 (map (int .u8) s.LF.Lx),.v (.string s.LF.Ly),.v (.bool s.LF.LX),.v (.string ((s.config.LB.getD 0 (⟨#[]⟩:Mf)))),.v (.string ((s.config.LB.getD 1 (⟨#[]⟩:Mf)))),.v (.int .i64 s.config.LC),.v (.string s.config.Mc),.v (.string s.config.Ma),.v (.int .i64 s.config.LN),.v (.bool s.config.LH),.v (.int .i64 s.site),.v (.int .i64 s.at_),.fr (.own 55) false 12 (flatten (map ay.ienc s.out))]]) hio rfl rfl (.tmp _ _ .nil) rfl rfl hargs0 rfl
 intro u2 h hl3 hr4
 refine ai h (fun hg1_6 h => ?_) (fun hg1_6 h => ?_)
 refine yx hn 7 ?_
 refine yd hg1_6 6 ?_
 refine ye [0,15,0] ?_
 exact hl3 _ (zi h).symm
 refine yx hn 7 ?_
 refine yd hg1_6 6 ?_
 refine ye [0,15,0] ?_
 exact hl3 _ (zi h).symm
theorem oa (s:aa) (c:bn) (r:(Int×aa)) (h:Sh.jf s c=some r):pO Tryz.prog 118 [.box 80 (aa.b s),.agg [.v (.int .i64 c.LK),.v (.string c.Mb),.v (.bool c.LV.LQ),.v (.string c.LV.LM),.v (.string c.LV.LA),.fl .shr 2 (flatten (map ar.enc c.LU))]] [.box 80 (aa.b r.2)] (.v (.int .i64 r.1)):=by
 unfold Sh.jf at h
 refine yP 34 func118 fun args0 hargs0 g0 hn hio => ?_
 refine aG hn 2 [0,3,0] ?_
 refine ab (aC ?_)
 refine aG hn 7 [0,3,5,0] ?_
 refine zc h rfl (fun h => ?_) (fun h => ?_)
 refine aG hn 1 [0,4,0] ?_
 refine ak ?_
 refine ah [1,0,2] (by kernel_rfl) (es':=[(_,_),(_,_),(_,_)]) rfl ?_
 refine aF (ag ?_)
 obtain rfl:=zi h
 exact bG (es:=[(4,.v (.int .i64 503))]) (posts:=[.box 80 (aa.b s)]) hio rfl rfl (.tmp _ _ .nil) rfl rfl hargs0 rfl
 refine aG hn 7 [0,3,12,0] ?_
 refine zc h rfl (fun h => ?_) (fun h => ?_)
 refine aG hn 1 [0,4,0] ?_
 refine ak ?_
 refine ah [1,0,2] (by kernel_rfl) (es':=[(_,_),(_,_),(_,_)]) rfl ?_
 refine aF (ag ?_)
 obtain rfl:=zi h
 exact bG (es:=[(4,.v (.int .i64 530))]) (posts:=[.box 80 (aa.b s)]) hio rfl rfl (.tmp _ _ .nil) rfl rfl hargs0 rfl
 refine ab ?_
 refine aq h (fun ((s4,s5,s6,s7,s8,s9,s10,s11,s12,s13,s14,s15,s16,s17,s18,s19,s20,s21,s22,s23,s24):Int×Mf×Bool×Mf×Mf×(List T_Path)×Bool×(List Int)×Mf×Bool×Mf×Mf×Int×Mf×Mf×Int×Bool×Int×Int×(List ay)×Bool)=>[(0,.box 80 [vi s4,vs s5,vb s6,vs s7,vs s8,.fl (.own 26) 3 (flatten (map T_Path.enc s9)),vb s10,.mkr 5 (map (int .u8) s11),vs s12,vb s13,vs s14,vs s15,vi s16,vs s17,vs s18,vi s19,vb s20,vi s21,vi s22,.fr (.own 55) false 12 (flatten (map ay.ienc s23))]),(19,vb s24),(0,.v (List.getD args0 0 undef))]) ?_ ?_
 rintro ⟨s4,s5,s6,s7,s8,s9,s10,s11,s12,s13,s14,s15,s16,s17,s18,s19,s20,s21,s22,s23,s24⟩ h
 refine ae ?_
 refine zc h rfl (fun h => ?_) (fun h => ?_)
 refine aG hn 1 [0,4,0] ?_
 refine ak ?_
 refine ah [1,0,2] (by kernel_rfl) (es':=[(_,_),(_,_),(_,_)]) rfl ?_
 refine aF (ag ?_)
 obtain rfl:=zi h
 exact bG (es:=[(4,.v (.int .i64 450))]) (posts:=[.box 80 [.v (.int .i64 s4),.v (.string s5),.v (.bool s6),.v (.string s7),.v (.string s8),.fl (.own 26) 3 (flatten (map T_Path.enc s9)),.v (.bool s10),.mkr 5 (map (int .u8) s11),.v (.string s12),.v (.bool s13),.v (.string s14),.v (.string s15),.v (.int .i64 s16),.v (.string s17),.v (.string s18),.v (.int .i64 s19),.v (.bool s20),.v (.int .i64 s21),.v (.int .i64 s22),.fr (.own 55) false 12 (flatten (map ay.ienc s23))]]) hio rfl rfl (.tmp _ _ .nil) rfl rfl hargs0 rfl
 refine am (aI (ae ?_))
 refine aG hn 5 [0,0] ?_
 refine aG hn 1 [0,4,0] ?_
 refine ak ?_
 refine ah [1,0,2] (by kernel_rfl) (es':=[(_,_),(_,_),(_,_)]) rfl ?_
 obtain rfl:=zi h
 exact bG (es:=[(4,.v (.int .i64 250))]) (posts:=[.box 80 [.v (.int .i64 6),.v (.string s5),.v (.bool s6),.v (.string s7),.v (.string s8),.fl (.own 26) 3 (flatten (map T_Path.enc s9)),.v (.bool s10),.mkr 5 (map (int .u8) s11),.v (.string s12),.v (.bool s13),.v (.string s14),.v (.string s15),.v (.int .i64 s16),.v (.string s17),.v (.string s18),.v (.int .i64 s19),.v (.bool s20),.v (.int .i64 s21),.v (.int .i64 s22),.fr (.own 55) false 12 (flatten (map ay.ienc s23))]]) hio rfl rfl (.tmp _ _ .nil) rfl rfl hargs0 rfl
 intro u25 h hl26 hr27
 refine ai h (fun hg5_3 h => ?_) (fun hg5_3 h => ?_)
 obtain ⟨v3,hv3,h⟩:=zn h
 refine yx hn 4 ?_
 refine yd hg5_3 3 ?_
 refine yQ call141 (iB _ _ _ hv3) 0 [24,26] 3 ?_
 refine ye [0,19,0] ?_
 exact hl26 _ (zi h).symm
 refine yx hn 4 ?_
 refine yd hg5_3 7 ?_
 refine ye [0,19,0] ?_
 exact hl26 _ (zi h).symm
theorem mn (mx:Int×Nat×Value) (s:aa) (c:bn) (r:aa) (h:Sh.bP s c=some r):ny Tryz.prog (GL mx) 92 [.box 80 (aa.b s),.agg [.v (.int .i64 c.LK),.v (.string c.Mb),.v (.bool c.LV.LQ),.v (.string c.LV.LM),.v (.string c.LV.LA),.fl .shr 2 (flatten (map ar.enc c.LU))]] [.box 80 (aa.b r)] (.tup []):=by
 unfold Sh.bP at h
 refine DZ 94 func92 fun args0 hargs0 g0 hn hio => ?_
 refine aG hn 1 [0,94,3,0] ?_
 refine aG hn 2 [0,94,3,5,0] ?_
 refine aq h (fun ((s37,s38,s39,s40,s41,s42,s43,s44,s45,s46,s47,s48,s49,s50,s51,s52,s53,s54,s55,s56):aa.t)=>[(0,.box 80 [vi s37,vs s38,vb s39,vs s40,vs s41,.fl (.own 26) 3 (flatten (map T_Path.enc s42)),vb s43,.mkr 5 (map (int .u8) s44),vs s45,vb s46,vs s47,vs s48,vi s49,vs s50,vs s51,vi s52,vb s53,vi s54,vi s55,.fr (.own 55) false 12 (flatten (map ay.ienc s56))]),(94,.glob (GL mx)),(0,.v (List.getD args0 0 undef))]) ?_ ?_
 rintro ⟨s37,s38,s39,s40,s41,s42,s43,s44,s45,s46,s47,s48,s49,s50,s51,s52,s53,s54,s55,s56⟩ h
 refine ah [0,2] (by kernel_rfl) (es':=[(_,_),(_,_)]) rfl ?_
 obtain rfl:=zi h
 exact kY (es:=[]) (posts:=[.box 80 [.v (.int .i64 s37),.v (.string s38),.v (.bool s39),.v (.string s40),.v (.string s41),.fl (.own 26) 3 (flatten (map T_Path.enc s42)),.v (.bool s43),.mkr 5 (map (int .u8) s44),.v (.string s45),.v (.bool s46),.v (.string s47),.v (.string s48),.v (.int .i64 s49),.v (.string s50),.v (.string s51),.v (.int .i64 s52),.v (.bool s53),.v (.int .i64 s54),.v (.int .i64 s55),.fr (.own 55) false 12 (flatten (map ay.ienc s56))]]) hio rfl rfl .nil rfl rfl hargs0 rfl
 intro u57 h hl58 hr59
 refine aC ?_
 refine aG hn 2 [0,94,3,5,6,0] ?_
 refine zc h rfl (fun h => ?_) (fun h => ?_)
 refine ab ?_
 refine wb [[],[],[3],[10,3],[8,0],[12,0],[13,0]] ?_
 refine wK [0] [14] ?_
 refine wt [(0,.box 80 (vi 1::vs s.LF.LI::vb s.LF.LD.LQ::vs s.LF.LD.LM::vs s.LF.LD.LA::.fl (.own 26) 3 (flatten (map T_Path.enc s.LF.To))::vb s.LF.LY::.mkr 5 (map (int .u8) s.LF.Lx)::vs s.LF.Ly::vb s.LF.LX::aB.c s.config [vi s.site,vi s.at_,.fr (.own 55) false 12 (flatten (map ay.ienc s.out))]))] [[9,0],[15,0],[16,0]] ⟨dZ _ _ _ _ _ _ _ _ Hq rfl rfl rfl rfl (zl rfl) rfl rfl⟩ ?_
 refine wK [0] [17,11] ?_
 refine wt [(0,.box 80 (vi 1::vs c.Mb::vb s.LF.LD.LQ::vs s.LF.LD.LM::vs s.LF.LD.LA::.fl (.own 26) 3 (flatten (map T_Path.enc s.LF.To))::vb s.LF.LY::.mkr 5 (map (int .u8) s.LF.Lx)::vs s.LF.Ly::vb s.LF.LX::aB.c s.config [vi s.site,vi s.at_,.fr (.own 55) false 12 (flatten (map ay.ienc s.out))]))] [] ⟨dZ _ _ _ _ _ _ _ _ sP rfl rfl rfl rfl (zl rfl) rfl rfl⟩ ?_
 refine sf hn [0,94,0] ?_
 refine ab ?_
 obtain ⟨v2,hv2,h⟩:=zn h
 refine yx hn 1 ?_
 refine yQ call88 (fQ _ _ hv2) 0 [18] 0 ?_
 refine aV [0,94,0] ?_
 obtain ⟨v3,hv3,h⟩:=zn h
 refine yx hn 1 ?_
 refine yQ call76 (aX _ _ _ hv3) 0 [20] 0 ?_
 refine ye [0,94,0] ?_
 refine aI ?_
 exact hl58 _ (zi h).symm
 refine aG hn 2 [0,94,3,5,22,0] ?_
 refine zc h rfl (fun h => ?_) (fun h => ?_)
 refine ab ?_
 refine aq h (fun (s63:Int)=>[(0,.box 80 (vi s63::vs s.LF.LI::vb s.LF.LD.LQ::vs s.LF.LD.LM::vs s.LF.LD.LA::.fl (.own 26) 3 (flatten (map T_Path.enc s.LF.To))::vb s.LF.LY::.mkr 5 (map (int .u8) s.LF.Lx)::vs s.LF.Ly::vb s.LF.LX::aB.c s.config [vi s.site,vi s.at_,.fr (.own 55) false 12 (flatten (map ay.ienc s.out))])),(94,.glob (GL mx)),(0,.v (List.getD args0 0 undef))]) ?_ ?_
 rintro s63 h
 refine ae (ab ?_)
 obtain ⟨v11,hv11,h⟩:=zn h
 refine yx hn 1 ?_
 refine yQ call88 (fQ _ _ hv11) 0 [34] 0 ?_
 refine aV [0,94,0] ?_
 obtain ⟨v12,hv12,h⟩:=zn h
 refine yx hn 1 ?_
 refine yQ call76 (aX _ _ _ hv12) 0 [36] 0 ?_
 refine ye [0,94,0] ?_
 refine aI ?_
 exact hl58 _ (zi h).symm
 intro u64 h hl65 hr66
 refine aG hn 6 [0,94,29,0] ?_
 refine zc h rfl (fun h => ?_) (fun h => ?_)
 refine yy hn 5 [0,94,0] ?_
 exact hl65 _ (zi h).symm
 refine am ?_
 refine ah [0,1,3] (by kernel_rfl) (es':=[(_,_),(_,_),(_,_)]) rfl ?_
 exact hl65 _ (zi h).symm
 refine aG hn 2 [0,94,3,5,38,0] ?_
 refine zc h rfl (fun h => ?_) (fun h => ?_)
 obtain ⟨v14,hv14,h⟩:=zn h
 refine yx hn 1 ?_
 refine yQ call76 (aX _ _ _ hv14) 0 [40] 0 ?_
 refine ye [0,94,0] ?_
 refine aI ?_
 exact hl58 _ (zi h).symm
 refine aG hn 2 [0,94,3,5,42,0] ?_
 refine zc h rfl (fun h => ?_) (fun h => ?_)
 obtain ⟨v16,hv16,h⟩:=zn h
 refine yx hn 1 ?_
 refine yQ call76 (aX _ _ _ hv16) 0 [44] 0 ?_
 refine ye [0,94,0] ?_
 refine aI ?_
 exact hl58 _ (zi h).symm
 refine aG hn 2 [0,94,3,5,46,0] ?_
 refine zc h rfl (fun h => ?_) (fun h => ?_)
 refine aG hn 5 [0,94,0] ?_
 obtain ⟨v18,hv18,h⟩:=zn h
 refine yx hn 1 ?_
 refine yQ call76 (aX _ _ _ hv18) 0 [52] 0 ?_
 refine ye [0,94,0] ?_
 refine aI ?_
 exact hl58 _ (zi h).symm
 refine aG hn 2 [0,94,3,5,54,0] ?_
 refine zc h rfl (fun h => ?_) (fun h => ?_)
 obtain ⟨v20,hv20,v21,hv21,h⟩:=dM h
 refine yx hn 3 ?_
 refine yk [0] [57,58,94] ?_
 refine mS (0,.box 80 (aa.b v20.2)) (59,vi v20.1) 0 ⟨fx _ _ _ _ 59 94 112 [.tmp 57] [.tmp 58] _ _ _ rfl call112 rfl rfl rfl rfl (fun _ h=>h) (oh mx ((aa.r s)) ((bn.mk c.LK c.Mb (T_Path.mk c.LV.LQ c.LV.LM c.LV.LA) c.LU)) _ hv20) (zl rfl) rfl rfl rfl rfl rfl rfl rfl⟩ ?_
 refine yQ call76 (aX _ _ _ hv21) 0 [56,59] 0 ?_
 refine ye [0,94,0] ?_
 refine aI ?_
 exact hl58 _ (zi h).symm
 refine aG hn 2 [0,94,3,5,61,0] ?_
 refine zc h rfl (fun h => ?_) (fun h => ?_)
 obtain ⟨v23,hv23,v24,hv24,h⟩:=dM h
 refine yx hn 3 ?_
 refine yk [0] [64,65,94] ?_
 refine mS (0,.box 80 (aa.b v23.2)) (66,vi v23.1) 0 ⟨fx _ _ _ _ 66 94 113 [.tmp 64] [.tmp 65] _ _ _ rfl call113 rfl rfl rfl rfl (fun _ h=>h) (nO mx ((aa.r s)) ((bn.mk c.LK c.Mb (T_Path.mk c.LV.LQ c.LV.LM c.LV.LA) c.LU)) _ hv23) (zl rfl) rfl rfl rfl rfl rfl rfl rfl⟩ ?_
 refine yQ call76 (aX _ _ _ hv24) 0 [63,66] 0 ?_
 refine ye [0,94,0] ?_
 refine aI ?_
 exact hl58 _ (zi h).symm
 refine aG hn 2 [0,94,3,5,68,0] ?_
 refine zc h rfl (fun h => ?_) (fun h => ?_)
 obtain ⟨v26,hv26,v27,hv27,h⟩:=dM h
 refine yx hn 2 ?_
 refine yQ call114 (mZ _ _ hv26) 0 [71] 0 ?_
 refine yQ call76 (aX _ _ _ hv27) 0 [70,72] 0 ?_
 refine ye [0,94,0] ?_
 refine aI ?_
 exact hl58 _ (zi h).symm
 refine aG hn 2 [0,94,3,5,74,0] ?_
 refine zc h rfl (fun h => ?_) (fun h => ?_)
 obtain ⟨v29,hv29,v30,hv30,h⟩:=dM h
 refine yx hn 3 ?_
 refine yQ call116 (nw _ _ _ hv29) 0 [77,78] 0 ?_
 refine yQ call115 (iw _ _ _ hv30) 0 [76,79] 0 ?_
 refine ye [0,94,0] ?_
 refine aI ?_
 exact hl58 _ (zi h).symm
 refine aG hn 2 [0,94,3,5,81,0] ?_
 refine zc h rfl (fun h => ?_) (fun h => ?_)
 obtain ⟨v32,hv32,v33,hv33,h⟩:=dM h
 refine yx hn 2 ?_
 refine yQ call117 (nX _ _ hv32) 0 [84] 0 ?_
 refine yQ call76 (aX _ _ _ hv33) 0 [83,85] 0 ?_
 refine ye [0,94,0] ?_
 refine aI ?_
 exact hl58 _ (zi h).symm
 refine aG hn 2 [0,94,3,87,0] ?_
 refine zc h rfl (fun h => ?_) (fun h => ?_)
 obtain ⟨v35,hv35,v36,hv36,h⟩:=dM h
 refine yx hn 3 ?_
 refine yQ call118 (oa _ _ _ hv35) 0 [90,91] 0 ?_
 refine yQ call115 (iw _ _ _ hv36) 0 [89,92] 0 ?_
 refine ye [0,94,0] ?_
 refine aI ?_
 exact hl58 _ (zi h).symm
 refine am (aI ?_)
 refine ah [0,1,4] (by kernel_rfl) (es':=[(_,_),(_,_),(_,_)]) rfl ?_
 exact hl58 _ (zi h).symm
theorem nW (mx:Int×Nat×Value) (s:aa) (line:Mf) (r:aa) (h:Sh.bm s line=some r):ny Tryz.prog (GL mx) 75 [.box 80 (aa.b s),.v (.string line)] [.box 80 (aa.b r)] (.tup []):=by
 unfold Sh.bm at h
 refine DZ 31 func75 fun args0 hargs0 g0 hn hio => ?_
 refine aG hn 5 [0,1,31,10,0] ?_
 refine aq h (fun ((s8,s9,s10,s11,s12,s13,s14,s15,s16,s17,s18,s19,s20,s21,s22,s23,s24,s25,s26,s27):aa.t)=>[(0,.box 80 [vi s8,vs s9,vb s10,vs s11,vs s12,.fl (.own 26) 3 (flatten (map T_Path.enc s13)),vb s14,.mkr 5 (map (int .u8) s15),vs s16,vb s17,vs s18,vs s19,vi s20,vs s21,vs s22,vi s23,vb s24,vi s25,vi s26,.fr (.own 55) false 12 (flatten (map ay.ienc s27))]),(31,.glob (GL mx)),(0,.v (List.getD args0 0 undef))]) ?_ ?_
 rintro ⟨s8,s9,s10,s11,s12,s13,s14,s15,s16,s17,s18,s19,s20,s21,s22,s23,s24,s25,s26,s27⟩ h
 refine ah [0,2] (by kernel_rfl) (es':=[(_,_),(_,_)]) rfl ?_
 obtain rfl:=zi h
 exact kY (es:=[]) (posts:=[.box 80 [.v (.int .i64 s8),.v (.string s9),.v (.bool s10),.v (.string s11),.v (.string s12),.fl (.own 26) 3 (flatten (map T_Path.enc s13)),.v (.bool s14),.mkr 5 (map (int .u8) s15),.v (.string s16),.v (.bool s17),.v (.string s18),.v (.string s19),.v (.int .i64 s20),.v (.string s21),.v (.string s22),.v (.int .i64 s23),.v (.bool s24),.v (.int .i64 s25),.v (.int .i64 s26),.fr (.own 55) false 12 (flatten (map ay.ienc s27))]]) hio rfl rfl .nil rfl rfl hargs0 rfl
 intro u28 h hl29 hr30
 refine aC ?_
 refine aG hn 2 [0,1,31,10,24,0] ?_
 refine zc h rfl (fun h => ?_) (fun h => ?_)
 refine am (aI ?_)
 refine ah [0,2,5] (by kernel_rfl) (es':=[(_,_),(_,_),(_,_)]) rfl ?_
 exact hl29 _ (zi h).symm
 refine aG hn 2 [0,1,31,26,0] ?_
 refine zc h rfl (fun h => ?_) (fun h => ?_)
 obtain ⟨v3,hv3,h⟩:=zn h
 refine yx hn 2 ?_
 refine yk [0] [28,29,31] ?_
 refine mS (0,.box 80 (aa.b v3)) (30,.tup []) 0 ⟨fx _ _ _ _ 30 31 90 [.tmp 28] [.tmp 29] _ _ _ rfl call90 rfl rfl rfl rfl (fun _ h=>h) (mY mx ((aa.r s)) line _ hv3) (zl rfl) rfl rfl rfl rfl rfl rfl rfl⟩ ?_
 refine ye [0,31,0] ?_
 refine aI ?_
 exact hl29 _ (zi h).symm
 refine ab ?_
 obtain ⟨v4,hv4,h⟩:=zn h
 refine yx hn 1 ?_
 refine ys 0 ⟨lg call91 (up _ _ _ hv4) 31⟩ ?_
 refine ym 0 ?_
 refine yS (.agg [vi v4.1.LK,vs v4.1.Mb,vb v4.1.LV.LQ,vs v4.1.LV.LM,vs v4.1.LV.LA,.fl .ro 2 (flatten (map ar.enc v4.1.LU))]) 1 ⟨fN _ _ _ _ _ _ rfl rfl (zl rfl) rfl rfl⟩ ?_
 refine yS (.box 122 [vi 0,vs z0,vb false,vs z0,vs z0,vz]) 2 ⟨oA (aT _ _ mj)⟩ ?_
 refine aV [0,31,4,5,0] ?_
 refine ab ?_
 refine aG hn 2 [0,31,4,5,17,0] ?_
 refine zc h rfl (fun h => ?_) (fun h => ?_)
 refine ab ?_
 obtain ⟨v6,hv6,h⟩:=zn h
 refine yx hn 2 ?_
 refine yQ call76 (aX _ _ _ hv6) 0 [18,19] 0 ?_
 refine aV [0,31,0] ?_
 refine ak ?_
 refine ah [0,2] (by kernel_rfl) (es':=[(_,_),(_,_)]) rfl ?_
 refine ag (aF ?_)
 have h:=hr30 _ (zi h).symm
 obtain rfl:=zi h
 exact bG (es:=[]) (posts:=[.box 80 (aa.b v6)]) hio rfl rfl .nil rfl rfl hargs0 rfl
 refine am (ae ?_)
 obtain ⟨v7,hv7,h⟩:=zn h
 refine yx hn 2 ?_
 refine yk [0] [21,22,31] ?_
 refine mS (0,.box 80 (aa.b v7)) (23,.tup []) 0 ⟨fx _ _ _ _ 23 31 92 [.tmp 21] [.tmp 22] _ _ _ rfl call92 rfl rfl rfl rfl (fun _ h=>h) (mn mx ((aa.r s)) ((bn.mk v4.1.LK v4.1.Mb (T_Path.mk v4.1.LV.LQ v4.1.LV.LM v4.1.LV.LA) v4.1.LU)) _ hv7) (zl rfl) rfl rfl rfl rfl rfl rfl rfl⟩ ?_
 refine ye [0,31,0] ?_
 refine aI ?_
 exact hl29 _ (zi h).symm
theorem nQ (mx:Int×Nat×Value) (s:aa) (r:(Bool×aa)) (h:Sh.bh s=some r):ny Tryz.prog (GL mx) 62 [.box 80 (aa.b s)] [.box 80 (aa.b r.2)] (.v (.bool r.1)):=by
 unfold Sh.bh at h
 refine DZ 55 func62 fun args0 hargs0 g0 hn hio => ?_
 refine aG hn 1 [0,55,0] ?_
 refine ab ?_
 refine aG hn 6 [0,55,11,0] ?_
 refine zd h rfl (fun hb1 h => ?_) (fun hb1 h => ?_)
 refine ab ?_
 obtain ⟨v2,hv2,h⟩:=zn h
 refine yx hn 1 ?_
 refine yk [0] [12,55] ?_
 refine mS (0,.box 80 (aa.b v2.2)) (13,vb v2.1) 1 ⟨fx _ _ _ _ 13 55 73 [.tmp 12] [] _ _ _ rfl call73 rfl rfl rfl rfl (fun _ h=>h) (nS mx ((aa.r s)) _ hv2) (zl rfl) rfl rfl rfl rfl rfl rfl rfl⟩ ?_
 refine aV [0,55,2,0] ?_
 refine ak ?_
 refine ah [2,0,3] (by kernel_rfl) (es':=[(_,_),(_,_),(_,_)]) rfl ?_
 refine ag ?_
 obtain rfl:=zi h
 exact bG (es:=[(2,.v (.bool v2.1))]) (posts:=[.box 80 (aa.b v2.2)]) hio rfl rfl (.tmp _ _ .nil) rfl rfl hargs0 rfl
 refine am ?_
 refine ae (ab ?_)
 obtain ⟨v3,hv3,h⟩:=zn h
 refine yx hn 5 ?_
 refine yS (.fl (.own 5) 1 (map (int .u8) [13,10])) 0 ⟨bf _ _ 1 (.int .u8 0) (map (int .u8) [13,10]) [(0,.int .u8 13),(1,.int .u8 10)] underlying28 lJ rM (fun _ V w o a hv hes=>by simp only [List.map_toArray,List.map_cons,List.map_nil]; try rfl) (cN (by simp [Instr.fill,Value.cells]; rfl) (by simp [List.range,List.range.loop] <;> rfl)) (by simp [Value.oneCell']) rfl (by decide) (by decide) (by decide)⟩ ?_
 refine yk [20] [] ?_
 refine yt (21,.fl .ro 1 (map (int .u8) [13,10])) 0 ⟨gw _ _ _ underlying28 underlying5 (by intro h; cases h)⟩ ?_
 refine yX (e:=5) 22 64 0 7 s.LF.Lx [13,10] (fun ca22 cc22=>[.v (.int .i64 s.LF.LW),.v (.string s.LF.LI),.v (.bool s.LF.LD.LQ),.v (.string s.LF.LD.LM),.v (.string s.LF.LD.LA),.fl (.own 26) 3 (flatten (map T_Path.enc s.LF.To)),.v (.bool s.LF.LY),.v (.slice ca22 (s.LF.Lx.length) cc22),.v (.string s.LF.Ly),.v (.bool s.LF.LX),.v (.string ((s.config.LB.getD 0 (⟨#[]⟩:Mf)))),.v (.string ((s.config.LB.getD 1 (⟨#[]⟩:Mf)))),.v (.int .i64 s.config.LC),.v (.string s.config.Mc),.v (.string s.config.Ma),.v (.int .i64 s.config.LN),.v (.bool s.config.LH),.v (.int .i64 s.site),.v (.int .i64 s.at_),.fr (.own 55) false 12 (flatten (map ay.ienc s.out))]) ?_ (fun ca22 cc22 => ?_)
 exact HX _ 22 0 64 7 (gln:=55) _ _ rfl call74 EX rfl (vA mx) rfl rfl rfl (zl rfl) rfl (sw hv3).1 (sw hv3).2.1 (sw hv3).2.2.1 (sw hv3).2.2.2 (Nat.ne_of_beq_eq_false rfl) rfl
 refine yw [] 0 ?_
 refine ym 6 ?_
 refine aV [0,55,64,3,4,5,0] ?_
 refine ab ?_
 refine aG hn 1 [0,55,64,3,4,26,0] ?_
 refine zd h rfl (fun hb4 h => ?_) (fun hb4 h => ?_)
 refine aG hn 6 [0,55,64,3,0] ?_
 refine ab ?_
 obtain ⟨v5,hv5,v6,hv6,h⟩:=dM h
 refine yx hn 2 ?_
 refine yS (vs v5) 0 ⟨lP 64 hv5 underlying28 underlying9 underlying5 rfl rfl (Ib _ _) rfl⟩ ?_
 refine xc (gs:=64) (t:=0) (cs':=[.v (.int .i64 s.LF.LW),.v (.string s.LF.LI),.v (.bool s.LF.LD.LQ),.v (.string s.LF.LD.LM),.v (.string s.LF.LD.LA),.fl (.own 26) 3 (flatten (map T_Path.enc s.LF.To)),.v (.bool s.LF.LY),.mkr 5 (map (int .u8) (BJ s.LF.Lx [13,10])),.v (.string s.LF.Ly),.v (.bool s.LF.LX),.v (.string ((s.config.LB.getD 0 (⟨#[]⟩:Mf)))),.v (.string ((s.config.LB.getD 1 (⟨#[]⟩:Mf)))),.v (.int .i64 s.config.LC),.v (.string s.config.Mc),.v (.string s.config.Ma),.v (.int .i64 s.config.LN),.v (.bool s.config.LH),.v (.int .i64 s.site),.v (.int .i64 s.at_),.fr (.own 55) false 12 (flatten (map ay.ienc s.out))]) 7 (map (int .u8) (BJ s.LF.Lx [13,10])) (zl rfl) rfl (fun _ h=>EB (by assumption) h) (fun _=>Bf) (Fo _ _ _ _ _ _ _) rfl ?_
 refine yw [] 0 ?_
 refine yk [0] [32,34,55] ?_
 refine mS (0,.box 80 (aa.b v6)) (35,.tup []) 0 ⟨fx _ _ _ _ 35 55 75 [.tmp 32] [.tmp 34] _ _ _ rfl call75 rfl rfl rfl rfl (fun _ h=>h) (nW mx ((aa.mk ((aA.mk s.LF.LW s.LF.LI (T_Path.mk s.LF.LD.LQ s.LF.LD.LM s.LF.LD.LA) s.LF.To s.LF.LY (BJ s.LF.Lx [13,10]) s.LF.Ly s.LF.LX)) ((aB.mk (([(s.config.LB.getD 0 z0),(s.config.LB.getD 1 z0)]:List Mf)) s.config.LC s.config.Mc s.config.Ma s.config.LN s.config.LH)) s.site s.at_ s.out)) v5 _ hv6) (zl rfl) rfl rfl rfl rfl rfl rfl rfl⟩ ?_
 refine aV [0,55,0] ?_
 refine aG hn 1 [0,55,2,0] ?_
 refine ak ?_
 refine ah [2,0,3] (by kernel_rfl) (es':=[(_,_),(_,_),(_,_)]) rfl ?_
 refine ag ?_
 obtain rfl:=zi h
 exact bG (es:=[(2,.v (.bool true))]) (posts:=[.box 80 (aa.b v6)]) hio rfl rfl (.tmp _ _ .nil) rfl rfl hargs0 rfl
 refine am ?_
 refine ae (ab ?_)
 refine gH hn 0 ?_
 refine xc (gs:=64) (t:=0) (cs':=(aa.b s)) 7 (map (int .u8) s.LF.Lx) (zl rfl) rfl (fun _ h=>h) (fun _=>Bf) (.inr rfl) rfl ?_
 refine yw [] 5 ?_
 refine yS (vi (s.LF.Lx.length:Int)) 1 ⟨lO _ _ _ underlying28 rfl (List.length_map _)⟩ ?_
 refine aV [0,55,42,0] ?_
 refine zd h rfl (fun hb7 h => ?_) (fun hb7 h => ?_)
 refine aG hn 1 [0,55,2,0] ?_
 refine ak ?_
 refine ah [2,0,3] (by kernel_rfl) (es':=[(_,_),(_,_),(_,_)]) rfl ?_
 refine ag ?_
 obtain rfl:=zi h
 exact bG (es:=[(2,.v (.bool false))]) (posts:=[.box 80 (aa.b s)]) hio rfl rfl (.tmp _ _ .nil) rfl rfl hargs0 rfl
 refine am (ae ?_)
 refine aG hn 5 [0,55,0] ?_
 refine ab ?_
 refine aq h (fun ((s10,s11,s12,s13,s14,s15,s16,s17,s18,s19,s20,s21,s22,s23,s24,s25,s26,s27,s28,s29):aa.t)=>[(0,.box 80 [vi s10,vs s11,vb s12,vs s13,vs s14,.fl (.own 26) 3 (flatten (map T_Path.enc s15)),vb s16,.mkr 5 (map (int .u8) s17),vs s18,vb s19,vs s20,vs s21,vi s22,vs s23,vs s24,vi s25,vb s26,vi s27,vi s28,.fr (.own 55) false 12 (flatten (map ay.ienc s29))]),(55,.glob (GL mx)),(0,.v (List.getD args0 0 undef))]) ?_ ?_
 rintro ⟨s10,s11,s12,s13,s14,s15,s16,s17,s18,s19,s20,s21,s22,s23,s24,s25,s26,s27,s28,s29⟩ h
 refine ae ?_
 refine aG hn 1 [0,55,2,0] ?_
 refine ak ?_
 refine ah [2,0,3] (by kernel_rfl) (es':=[(_,_),(_,_),(_,_)]) rfl ?_
 obtain rfl:=zi h
 exact bG (es:=[(2,.v (.bool true))]) (posts:=[.box 80 [.v (.int .i64 s10),.v (.string s11),.v (.bool s12),.v (.string s13),.v (.string s14),.fl (.own 26) 3 (flatten (map T_Path.enc s15)),.v (.bool s16),.mkr 5 (map (int .u8) s17),.v (.string s18),.v (.bool s19),.v (.string s20),.v (.string s21),.v (.int .i64 s22),.v (.string s23),.v (.string s24),.v (.int .i64 s25),.v (.bool s26),.v (.int .i64 s27),.v (.int .i64 s28),.fr (.own 55) false 12 (flatten (map ay.ienc s29))]]) hio rfl rfl (.tmp _ _ .nil) rfl rfl hargs0 rfl
 intro u30 h hl31 hr32
 refine aG hn 6 [0,55,52,0] ?_
 refine zd h rfl (fun hb33 h => ?_) (fun hb33 h => ?_)
 obtain ⟨v9,hv9,h⟩:=zn h
 refine yx hn 1 ?_
 refine yk [0] [53] ?_
 refine mS (0,.box 80 (aa.b v9)) (54,.tup []) 0 ⟨uh _ _ _ _ 54 76 [.tmp 53] [_] _ _ _ rfl call76 rfl rfl rfl ((aX ((aa.mk ((aA.mk s.LF.LW s.LF.LI (T_Path.mk s.LF.LD.LQ s.LF.LD.LM s.LF.LD.LA) s.LF.To s.LF.LY [] s.LF.Ly s.LF.LX)) ((aB.mk (([(s.config.LB.getD 0 z0),(s.config.LB.getD 1 z0)]:List Mf)) s.config.LC s.config.Mc s.config.Ma s.config.LN s.config.LH)) s.site s.at_ s.out)) 500 _ hv9).args (af (Bl (af (aj _) (af (aj _) (af (aj _) (af (aj _) (af (aj _) (af (aj _) (af (aj _) (af (eP 5) (af (aj _) (af (aj _) (af (aj _) (af (aj _) (af (aj _) (af (aj _) (af (aj _) (af (aj _) (af (aj _) (af (aj _) (af (aj _) (af (aj _) (bC)))))))))))))))))))))) (af (aj _) (bC)))) (zl rfl) rfl rfl rfl rfl rfl rfl rfl rfl⟩ ?_
 refine ye [0,55,0] ?_
 exact hl31 _ (zi h).symm
 refine am ?_
 refine ah [0,1,3] (by kernel_rfl) (es':=[(_,_),(_,_),(_,_)]) rfl ?_
 refine cq (fs:=[(0,.box 80 (vi s.LF.LW::vs s.LF.LI::vb s.LF.LD.LQ::vs s.LF.LD.LM::vs s.LF.LD.LA::.fl (.own 26) 3 (flatten (map T_Path.enc s.LF.To))::vb s.LF.LY::.mkr 5 (map (int .u8) [])::vs s.LF.Ly::vb s.LF.LX::aB.c s.config [vi s.site,vi s.at_,.fr (.own 55) false 12 (flatten (map ay.ienc s.out))])),(55,.glob (GL mx)),(0,.v (List.getD args0 0 undef))]) (.box _ _ (af (aj _) (af (aj _) (af (aj _) (af (aj _) (af (aj _) (af (aj _) (af (aj _) (af (eP 5) (af (aj _) (af (aj _) (af (aj _) (af (aj _) (af (aj _) (af (aj _) (af (aj _) (af (aj _) (af (aj _) (af (aj _) (af (aj _) (af (aj _) (bC))))))))))))))))))))) rfl (.same _ (.same _ .nil))) ?_
 exact hl31 _ (zi h).symm
theorem pn (mx:Int×Nat×Value) (s:aa) (r:aa) (h:Sh.cd s=some r):ny Tryz.prog (GL mx) 39 [.box 80 (aa.b s)] [.box 80 (aa.b r)] (.tup []):=by
 unfold Sh.cd at h
 refine DZ 4 func39 fun args0 hargs0 g0 hn hio => ?_
 refine aS h (fun ((s24,s25,s26,s27,s28,s29,s30,s31,s32,s33,s34,s35,s36,s37,s38,s39,s40,s41,s42,s43):aa.t)=>[(0,.box 80 [vi s24,vs s25,vb s26,vs s27,vs s28,.fl (.own 26) 3 (flatten (map T_Path.enc s29)),vb s30,.mkr 5 (map (int .u8) s31),vs s32,vb s33,vs s34,vs s35,vi s36,vs s37,vs s38,vi s39,vb s40,vi s41,vi s42,.fr (.own 55) false 12 (flatten (map ay.ienc s43))]),(0,.v (List.getD args0 0 undef)),(4,.glob (GL mx))]) (fun ((s45,s46,s47,s48,s49,s50,s51,s52,s53,s54,s55,s56,s57,s58,s59,s60,s61,s62,s63,s64):aa.t)=>[(0,.box 80 [vi s45,vs s46,vb s47,vs s48,vs s49,.fl (.own 26) 3 (flatten (map T_Path.enc s50)),vb s51,.mkr 5 (map (int .u8) s52),vs s53,vb s54,vs s55,vs s56,vi s57,vs s58,vs s59,vi s60,vb s61,vi s62,vi s63,.fr (.own 55) false 12 (flatten (map ay.ienc s64))]),(4,.glob (GL mx)),(0,.v (List.getD args0 0 undef))]) ?_ ?_
 rintro ⟨s45,s46,s47,s48,s49,s50,s51,s52,s53,s54,s55,s56,s57,s58,s59,s60,s61,s62,s63,s64⟩ h
 refine ah [0,2] (by kernel_rfl) (es':=[(_,_),(_,_)]) rfl ?_
 obtain rfl:=zi h
 exact kY (es:=[]) (posts:=[.box 80 [.v (.int .i64 s45),.v (.string s46),.v (.bool s47),.v (.string s48),.v (.string s49),.fl (.own 26) 3 (flatten (map T_Path.enc s50)),.v (.bool s51),.mkr 5 (map (int .u8) s52),.v (.string s53),.v (.bool s54),.v (.string s55),.v (.string s56),.v (.int .i64 s57),.v (.string s58),.v (.string s59),.v (.int .i64 s60),.v (.bool s61),.v (.int .i64 s62),.v (.int .i64 s63),.fr (.own 55) false 12 (flatten (map ay.ienc s64))]]) hio rfl rfl .nil rfl rfl hargs0 rfl
 rintro u65 hl66 hr67 ⟨s24,s25,s26,s27,s28,s29,s30,s31,s32,s33,s34,s35,s36,s37,s38,s39,s40,s41,s42,s43⟩ rr70 h ho68
 refine ab (ab ?_)
 obtain ⟨v1,hv1,h⟩:=zn h
 refine yx hn 1 ?_
 refine yk [0] [2,4] ?_
 refine mS (0,.box 80 (aa.b v1.2)) (3,vb v1.1) 0 ⟨fx _ _ _ _ 3 4 62 [.tmp 2] [] _ _ _ rfl call62 rfl rfl rfl rfl (fun _ h=>h) (nQ mx ((aa.mk ((aA.mk s24 s25 (T_Path.mk s26 s27 s28) s29 s30 s31 s32 s33)) ((aB.mk ([s34,s35]:List Mf) s36 s37 s38 s39 s40)) s41 s42 s43)) _ hv1) (zl rfl) rfl rfl rfl rfl rfl rfl rfl⟩ ?_
 refine aV [0,4,3,0] ?_
 refine zc h rfl (fun h => ?_) (fun h => ?_)
 refine am (ae (aC (am (aI ?_))))
 refine ah [0,3,1] (by kernel_rfl) (es':=[(_,_),(_,_),(_,_)]) rfl ?_
 exact bb _ (zi h).symm rfl
 refine ba (ap (ap (aZ ?_)))
 refine ah [0,1,3] (by kernel_rfl) (es':=[(_,_),(_,_),(_,_)]) rfl ?_
 exact hl66 _ (ho68 _ (zi h).symm).symm
end Go.Proofs.YtjnnkhmhjcjhdaaGreatDoor
