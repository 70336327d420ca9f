import Derived.Test.YtjnnkhmhjcjhdaaGreatDoorOkc3
set_option linter.unusedVariables false
set_option linter.unusedSimpArgs false
set_option maxHeartbeats 1000000
namespace Go.Proofs.YtjnnkhmhjcjhdaaGreatDoor
open Go.Abs Go.Abs.Sh Tryz
open List (map flatten)
open Value (int)
theorem rW (mx:Int×Nat×Value) (b:bD) (r:((List Int)×Int)) (h:Sh.iM b=some r):iq Tryz.prog (GL mx) 130 [.agg [.v (.int .i64 b.LS),.v (.int .i64 b.LR),.fr .shr true 8 (flatten (map az.ienc b.LP))]] (.tup [.mkr 5 (map (int .u8) r.1),.v (.int .i64 r.2)]):=by
 unfold Sh.iM at h
 refine yG 50 func130 fun g0 hn hio => ?_
 refine aG hn 3 [50,1] ?_
 refine ab (ab ?_)
 obtain ⟨v1,hv1,h⟩:=zn h
 refine yx hn 1 ?_
 refine ys 1 ⟨lg call151 (rX _ _ _ hv1) 50⟩ ?_
 refine aV [50,1,4] ?_
 refine aG hn 2 [50,1,4,13] ?_
 refine zc h rfl (fun h => ?_) (fun h => ?_)
 refine aG hn 3 [50,2,3] ?_
 refine ak ?_
 refine ah [1,2] (by kernel_rfl) (es':=[(_,_),(_,_)]) rfl ?_
 refine cq (fs:=[(2,.mkr 5 (map (int .u8) [])),(3,vi v1)]) (.sub _ (eP 5) rfl (.same _ .nil)) ?_
 refine ag ?_
 obtain rfl:=zi h
 exact al hio rfl (.tmp _ _ (.tmp _ _ .nil)) rfl rfl
 refine am ?_
 refine ae (ab ?_)
 obtain ⟨v3,hv3,h⟩:=zn h
 refine yx hn 2 ?_
 refine ys 0 ⟨lg call152 (pR _ _ _ hv3) 50⟩ ?_
 refine ya 0 ?_
 refine aV [50,1,5] ?_
 refine aG hn 1 [50,1,5,6] ?_
 refine ab (ab ?_)
 obtain ⟨v4,hv4,h⟩:=zn h
 refine wb [[1],[18,1],[1],[20,1],[1],[22,1],[23],[5],[25,5],[5]] ?_
 refine wN [27,5] ?_
 refine wo [] ⟨lk call153 (wB _ _ hv4)⟩ ?_
 refine wN [19,21,24,26,28] ?_
 refine wS (.fl (.own 3) 1 (map (int .i64) [b.LS,b.LR,(b.LP.length:Int),(v3.length:Int),v4])) [[29],[]] ⟨bf _ _ 1 (.int .i64 0) (map (int .i64) [b.LS,b.LR,(b.LP.length:Int),(v3.length:Int),v4]) [(0,.int .i64 b.LS),(1,.int .i64 b.LR),(2,.int .i64 (b.LP.length:Int)),(3,.int .i64 (v3.length:Int)),(4,.int .i64 v4)] underlying31 Hq KF (fun _ V w o a hv hes=>by have e0:=bZ hv hes (x := .tmp 19) rfl; have e1:=bZ hv hes (x := .tmp 21) rfl; have e2:=bZ hv hes (x := .tmp 24) rfl; have e3:=bZ hv hes (x := .tmp 26) rfl; have e4:=bZ hv hes (x := .tmp 28) rfl; simp only [List.map_toArray,List.map_cons,List.map_nil,e0,e1,e2,e3,e4]; try rfl) (cN (by simp [Instr.fill,Value.cells]; rfl) (by simp [List.range,List.range.loop] <;> rfl)) (by simp [Value.oneCell']) rfl (by decide) (by decide) (by decide)⟩ ?_
 refine sf hn [50,5,6,29,30,31] ?_
 refine aS h (fun ((s51,s52):Mf×Int)=>[(50,.glob (GL mx)),(5,.fl (.own 5) 1 (map (int .u8) v3)),(6,vs s51),(29,.fl (.own 3) 1 (map (int .i64) [b.LS,b.LR,(b.LP.length:Int),(v3.length:Int),v4])),(30,vi ([b.LS,b.LR,(b.LP.length:Int),(v3.length:Int),v4].length:Int)),(31,vi s52)]) (fun (s54:Mf)=>[(50,.glob (GL mx)),(5,.fl (.own 5) 1 (map (int .u8) v3)),(6,vs s54)]) ?_ ?_
 rintro s54 h
 refine ae (ab ?_)
 obtain ⟨v26,hv26,v27,hv27,v44,hv44,h⟩:=ng h
 refine yx hn 1 ?_
 refine ys 0 ⟨lB (bu hv26)⟩ ?_
 refine ys 0 ⟨lU hv27⟩ ?_
 refine ym 0 ?_
 refine yk [43] [44] ?_
 refine mS (43,.any) (45,.mkr 5 (map (int .u8) v44)) 0 ⟨oZ _ _ _ _ _ fZ rfl rfl rfl rfl hv44 rfl⟩ ?_
 refine ya 0 ?_
 refine aV [50,9] ?_
 refine ab ?_
 refine gH hn 1 ?_
 refine yS (vi (v44.length:Int)) 1 ⟨lO _ _ _ underlying28 rfl (List.length_map _)⟩ ?_
 refine aV [50,9,48] ?_
 refine zc h rfl (fun h => ?_) (fun h => ?_)
 refine aG hn 2 [50,2,3] ?_
 refine ak ?_
 refine ah [1,2] (by kernel_rfl) (es':=[(_,_),(_,_)]) rfl ?_
 refine cq (fs:=[(2,.mkr 5 (map (int .u8) [])),(3,vi 2)]) (.sub _ (eP 5) rfl (.same _ .nil)) ?_
 refine ag ?_
 obtain rfl:=zi h
 exact al hio rfl (.tmp _ _ (.tmp _ _ .nil)) rfl rfl
 refine am (ae ?_)
 refine gH hn 0 ?_
 refine ym 0 ?_
 refine ya 1 ?_
 refine aV [50,2,3] ?_
 refine ak ?_
 refine ah [1,2] (by kernel_rfl) (es':=[(_,_),(_,_)]) rfl ?_
 obtain rfl:=zi h
 exact al hio rfl (.tmp _ _ (.tmp _ _ .nil)) rfl rfl
 rintro u55 hl56 hr57 ⟨s51,s52⟩ rr60 h ho58
 refine aG hn 1 [50,5,6,29,30,31,32] ?_
 refine ab ?_
 refine zc h rfl (fun h => ?_) (fun h => ?_)
 refine am ?_
 refine ae (ab ?_)
 refine aC (ab ?_)
 obtain ⟨v6,hv6,v7,hv7,h⟩:=dM h
 refine yx hn 0 ?_
 refine ys 0 ⟨li hv6⟩ ?_
 refine ys 1 ⟨ll hv7⟩ ?_
 refine aV [50,5,6,29,30,31,8] ?_
 obtain ⟨v8,hv8,v9,hv9,v10,hv10,h⟩:=ng h
 refine yx hn 2 ?_
 refine ys 0 ⟨lg call150 (mT _ _ _ hv8) 50⟩ ?_
 refine ys 0 ⟨lB (bu hv9)⟩ ?_
 refine ys 0 ⟨lB (bu hv10)⟩ ?_
 refine yw [6] 1 ?_
 refine ye [50,5,29,30,31,6] ?_
 refine aI (ae ?_)
 obtain ⟨v11,hv11,h⟩:=zn h
 refine yx hn 0 ?_
 refine ys 0 ⟨lb hv11⟩ ?_
 refine yw [31] 1 ?_
 refine ye [50,5,29,30,6,31] ?_
 refine ah [0,1,4,2,3,5] (by kernel_rfl) (es':=[(_,_),(_,_),(_,_),(_,_),(_,_),(_,_)]) rfl ?_
 exact bb _ (zi h).symm rfl
 refine ba (ap (ap (aZ ?_)))
 refine ah [0,1,2] (by kernel_rfl) (es':=[(_,_),(_,_),(_,_)]) rfl ?_
 exact hl56 _ (ho58 _ (zi h).symm).symm
theorem vB (mx:Int×Nat×Value) (m:az) (r:Bool) (h:Sh.mh m=some r):iq Tryz.prog (GL mx) 101 [.agg [.v (.bool m.LD.LQ),.v (.string m.LD.LM),.v (.string m.LD.LA),.fl .shr 3 (flatten (map T_Path.enc m.To)),.fl .shr 1 (map (int .u8) m.Lw),.v (.bool m.LY),.v (.string m.LI),.v (.int .i64 m.At)]] (.v (.bool r)):=by
 unfold Sh.mh at h
 refine yG 14 func101 fun g0 hn hio => ?_
 refine aG hn 2 [14,1] ?_
 refine ab ?_
 obtain ⟨v1,hv1,h⟩:=zn h
 refine yx hn 1 ?_
 refine yS (.fr (.own 53) true 8 (flatten (map az.ienc [(az.mk (T_Path.mk m.LD.LQ m.LD.LM m.LD.LA) m.To m.Lw m.LY m.LI m.At)]))) 0 ⟨mN _ _ _ 8 (.agg #[.bool false,.string ByteArray.empty,.string ByteArray.empty,.slice none 0 0,.slice none 0 0,.bool false,.string ByteArray.empty,.int .i64 0]) true _ _ underlying60 qW rU rfl rfl (.cons (.v _) (.cons (.v _) (.cons (.v _) (.cons (.shr _ _ rfl rfl) (.cons (.shr _ _ rfl rfl) (.cons (.v _) (.cons (.v _) (.cons (.v _) (.nil))))))))) rfl (by decide) (by decide)⟩ ?_
 refine yk [7] [] ?_
 refine yt (8,.agg [vi 0,vi 65535,.fr (.own 53) true 8 (flatten (map az.ienc [(az.mk (T_Path.mk m.LD.LQ m.LD.LM m.LD.LA) m.To m.Lw m.LY m.LI m.At)]))]) 0 ⟨bw _ _ _ _ [1,1,1] _ _ underlying62 Jo (Jr _ underlying62) (.copy _ (.take _ _ mb.nil)) rfl rfl rfl⟩ ?_
 refine ys 0 ⟨lg call130 (rW _ _ _ hv1) 14⟩ ?_
 refine ym 0 ?_
 refine Jt 1 ?_
 refine ya 1 ?_
 refine aV [14,4] ?_
 refine aG hn 3 [14,2] ?_
 refine ak ?_
 refine ah [1] (by kernel_rfl) (es':=[(_,_)]) rfl ?_
 obtain rfl:=zi h
 exact al hio rfl (.tmp _ _ .nil) rfl rfl
theorem mE (mx:Int×Nat×Value) (s:aa) (body:(List Int)) (r:(ay×aa)) (h:Sh.dP s body=some r):ny Tryz.prog (GL mx) 86 [.box 80 (aa.b s),.fl .shr 1 (map (int .u8) body)] [.box 80 (aa.b r.2)] (.agg [.v (.int .i64 r.1.LZ.Lz),.fl .ro 1 (map Value.string r.1.LZ.LL),.v (.bool r.1.LG),.v (.bool r.1.LO.LD.LQ),.v (.string r.1.LO.LD.LM),.v (.string r.1.LO.LD.LA),.fl .ro 3 (flatten (map T_Path.enc r.1.LO.To)),.fl .ro 1 (map (int .u8) r.1.LO.Lw),.v (.bool r.1.LO.LY),.v (.string r.1.LO.LI),.v (.int .i64 r.1.LO.At),.v (.bool r.1.Lv)]):=by
 unfold Sh.dP at h
 refine DZ 81 func86 fun args0 hargs0 g0 hn hio => ?_
 refine gH hn 0 ?_
 refine yS (.box 55 [vi 0,vz,vb false,vb false,vs z0,vs z0,vz,vz,vb false,vs z0,vi 0,vb false]) 0 ⟨oA (aT _ _ tY)⟩ ?_
 refine aV [0,1,81,4,0] ?_
 refine ab ?_
 obtain ⟨v1,hv1,v2,hv2,v3,hv3,h⟩:=ng h
 refine su (by kernel_rfl) hn (El:=(_::_::_::_::_::(9,fb body)::(10,.same (.slot 0))::(11,.ptr 0 0)::(12,.ptr 0 0)::(13,.ptr 0 1)::(14,vs s.LF.LI)::(15,.same (.slot 0))::(16,.same (.slot 0))::(17,.ptr 0 0)::(18,.ptr 0 17)::(19,vi s.site)::(20,.ptr 0 0)::(21,.ptr 0 10)::(22,.ptr 0 10)::(23,.ptr 0 (10+v1 * 1))::(24,vs v2)::(25,.same (.slot 0))::(26,.ptr 0 0)::(27,.ptr 0 18)::(28,vi s.at_)::(29,.tup [.mkr 5 (map (int .u8) v3.1),vi v3.2])::(8,.tup [.mkr 5 (map (int .u8) v3.1),.any])::(8,.tup [.any,vi v3.2])::(30,.mkr 5 (map (int .u8) v3.1))::(8,.tup [.any,.any])::(31,vi v3.2)::(5,.mkr 5 (map (int .u8) v3.1))::(6,vi v3.2)::[])) (init:=[0,1,2,3,4]) (fin:=[0,1,2,3,31,32,4]) (sps:=(zq [1] 5 9::zq [] 6 10::zq [6,0] 7 11::zq [7,0] 8 12::zq [8,0] 9 13::zq [9,0] 10 14::zq [] 11 15::zq [] 12 16::zq [12,0] 13 17::zq [13,0] 14 18::zq [14,0] 15 19::zq [11,0] 16 20::zq [16,0] 17 21::zq [17,0] 18 22::zq [18,0,15] 19 23::zq [19,0] 20 24::zq [] 21 25::zq [21,0] 22 26::zq [22,0] 23 27::zq [23,0] 24 28::zq [5,10,20,24,2] 25 29::⟨[],[25],[26,27],[(.slot 8)]⟩::⟨[],[26],[29,28],[(.slot 30)]⟩::zq [27] 30 31::⟨[],[28],[31],[(.slot 5)]⟩::zq [30] 32 6::[])) (es':=[(_,_),(_,_),(_,_),(_,_),(5,.mkr 5 (map (int .u8) v3.1)),(6,vi v3.2),(_,_)]) (by kernel_rfl) rfl rfl ⟨z1 rfl,zp rfl (dv _ _ _ rfl),zp rfl (fq _ _ _ 0 rfl rfl (by decide)),zp rfl (oF underlying80 rfl sS),zp rfl (oF underlying30 rfl sP),zp rfl (oL underlying9 rfl),zp rfl (dv _ _ _ rfl),zp rfl (dv _ _ _ rfl),zp rfl (fq _ _ _ 0 rfl rfl (by decide)),zp rfl (oF underlying80 rfl Hq),zp rfl (oL underlying3 rfl),zp rfl (fq _ _ _ 0 rfl rfl (by decide)),zp rfl (oF underlying80 rfl Ji),zp rfl (oF underlying24 rfl Hv),zp rfl (uV _ _ _ _ 2 0 10 _ underlying22 sP rfl rfl (bA hv1).1 (bA hv1).2 (by decide)),zp rfl (rN _ _ _ 0 10 v1 2 ([(s.config.LB.getD 0 z0),(s.config.LB.getD 1 z0)]:List Mf) _ underlying9 rfl rfl rfl rfl hv2),zp rfl (dv _ _ _ rfl),zp rfl (fq _ _ _ 0 rfl rfl (by decide)),zp rfl (oF underlying80 rfl Hq),zp rfl (oL underlying3 rfl),zp rfl (yf _ _ 81 100 _ _ rfl call100 rfl rfl (fun _ h=>h) (xG mx body s.LF.LI v2 s.at_ _ hv3) rfl rfl),zp rfl (aN.split (A:=[]) 8 0 _ _ _ (jd _ _ _ _ rfl) (zl rfl) rfl rfl),zp rfl (ke _ _ _ _ _ rfl (zl rfl) rfl rfl (by decide) rfl),zp rfl (oE rfl),zp rfl (gr _ _ _ _ rfl),z2 rfl,zz⟩ ?_
 refine ae (ab ?_)
 refine Aa 4 hio (es':=[(0,.box 80 (aa.b s)),(1,fb body),(81,.glob (GL mx)),(4,.box 55 [.v (.int .i64 0),vz,.v (.bool false),.v (.bool false),.v (.string (⟨#[]⟩:Mf)),.v (.string (⟨#[]⟩:Mf)),vz,vz,.v (.bool false),.v (.string (⟨#[]⟩:Mf)),.v (.int .i64 0),.v (.bool false)]),(5,.fl .ro 1 (map (int .u8) v3.1)),(6,.v (.int .i64 v3.2)),(0,.v (List.getD args0 0 undef))]) rfl ?_
 obtain ⟨v4,hv4,h⟩:=zn h
 refine wb [[],[32,0],[33,0],[34,0],[35,0],[],[37,0],[38,0],[39,0],[40,0]] ?_
 refine wN [41,0] ?_
 refine wo [[5]] ⟨lk call59 (iN _ _ hv4)⟩ ?_
 refine wK [42] [36,43] ?_
 refine wt [(44,.agg [vb s.LF.LD.LQ,vs s.LF.LD.LM,vs s.LF.LD.LA,.fl (.own 26) 3 (flatten (map T_Path.enc v4)),.fl .ro 1 (map (int .u8) v3.1),vb false,vs z0,vi 0])] [] ⟨bw _ _ _ _ [3,1,1,1,1,1] _ _ underlying53 rU (Hl _ underlying53) (.copy _ (.take _ _ (.copy _ mb.nil))) rfl rfl rfl⟩ ?_
 refine wN [] ?_
 refine wS (.box 53 [vb false,vs z0,vs z0,vz,vz,vb false,vs z0,vi 0]) [] ⟨oA (aT _ _ rU)⟩ ?_
 refine wK [44,7] [] ?_
 refine wt [(7,.box 53 [vb s.LF.LD.LQ,vs s.LF.LD.LM,vs s.LF.LD.LA,.fl (.own 26) 3 (flatten (map T_Path.enc v4)),.fl .ro 1 (map (int .u8) v3.1),vb false,vs z0,vi 0])] [] ⟨aM _ _ _ _ _ _ _ _ qW rfl rfl rfl (zl rfl) rfl rfl⟩ ?_
 refine sf hn [0,1,81,4,6,7,0] ?_
 refine ab (ab ?_)
 refine aq h (fun (s13:Bool)=>[(0,.box 80 (aa.b s)),(81,.glob (GL mx)),(4,.box 55 [vi 0,vz,vb false,vb false,vs z0,vs z0,vz,vz,vb false,vs z0,vi 0,vb false]),(7,.box 53 [vb s.LF.LD.LQ,vs s.LF.LD.LM,vs s.LF.LD.LA,.fl (.own 26) 3 (flatten (map T_Path.enc v4)),.fl .ro 1 (map (int .u8) v3.1),vb false,vs z0,vi 0]),(56,vb s13),(0,.v (List.getD args0 0 undef))]) ?_ ?_
 rintro s13 h
 refine ae ?_
 refine zc h rfl (fun h => ?_) (fun h => ?_)
 refine ab ?_
 obtain ⟨v11,hv11,h⟩:=zn h
 refine yx hn 1 ?_
 refine yQ call85 (fA _ _ _ hv11) 0 [57] 0 ?_
 refine yk [58] [] ?_
 refine yt (59,.agg [vi v11.1.Lz,.fl (.own 9) 1 (map Value.string v11.1.LL),vb false,vb false,vs z0,vs z0,vz,vz,vb false,vs z0,vi 0,vb false]) 0 ⟨bw _ _ _ _ [2,1,8,1] _ _ underlying55 tY (Cw _ underlying55) (.take _ _ mb.nil) rfl rfl rfl⟩ ?_
 refine yk [59,4] [] ?_
 refine yt (4,.box 55 [vi v11.1.Lz,.fl (.own 9) 1 (map Value.string v11.1.LL),vb false,vb false,vs z0,vs z0,vz,vz,vb false,vs z0,vi 0,vb false]) 0 ⟨aM _ _ _ _ _ _ _ _ vZ rfl rfl rfl (zl rfl) rfl rfl⟩ ?_
 refine aV [0,81,4,0] ?_
 refine ak ?_
 refine ah [2,0,3] (by kernel_rfl) (es':=[(_,_),(_,_),(_,_)]) rfl ?_
 refine cq (fs:=[(4,.box 55 [vi v11.1.Lz,.fl (.own 9) 1 (map Value.string v11.1.LL),vb false,vb false,vs z0,vs z0,.fl (.own 26) 3 (flatten (map T_Path.enc [])),.fl (.own 5) 1 (map (int .u8) []),vb false,vs z0,vi 0,vb false]),(0,.box 80 (aa.b v11.2)),(0,.v (List.getD args0 0 undef))]) (.box _ _ (af (aj _) (af (aj _) (af (aj _) (af (aj _) (af (aj _) (af (aj _) (af (bL 26 3) (af (bL 5 1) (af (aj _) (af (aj _) (af (aj _) (af (aj _) (bC))))))))))))) rfl (.same _ (.same _ .nil))) ?_
 refine sq 0 hio (es':=[(4,.box 55 [.v (.int .i64 v11.1.Lz),.fl .ro 1 (map Value.string v11.1.LL),.v (.bool false),.v (.bool false),.v (.string (⟨#[]⟩:Mf)),.v (.string (⟨#[]⟩:Mf)),.fl .ro 3 (flatten (map T_Path.enc [])),.fl .ro 1 (map (int .u8) []),.v (.bool false),.v (.string (⟨#[]⟩:Mf)),.v (.int .i64 0),.v (.bool false)]),(0,.box 80 (aa.b v11.2)),(0,.v (List.getD args0 0 undef))]) rfl ?_
 refine ag ?_
 obtain rfl:=zi h
 exact bG (es:=[(4,.box 55 [.v (.int .i64 v11.1.Lz),.fl .ro 1 (map Value.string v11.1.LL),.v (.bool false),.v (.bool false),.v (.string (⟨#[]⟩:Mf)),.v (.string (⟨#[]⟩:Mf)),.fl .ro 3 (flatten (map T_Path.enc [])),.fl .ro 1 (map (int .u8) []),.v (.bool false),.v (.string (⟨#[]⟩:Mf)),.v (.int .i64 0),.v (.bool false)])]) (posts:=[.box 80 (aa.b v11.2)]) hio rfl rfl (.cellA _ _ _ _ underlying55 rfl vZ .nil) rfl rfl hargs0 rfl
 refine am ?_
 refine ae (ab ?_)
 refine wb [[],[60,0],[61,0],[62,0],[63,0],[],[65,0],[66,0],[67,0],[68,0],[],[70,0],[71,0],[72,0],[7]] ?_
 refine wK [7] [74,64] ?_
 refine wt [(7,.box 53 [vb s.LF.LD.LQ,vs s.LF.LD.LM,vs s.LF.LD.LA,.fl (.own 26) 3 (flatten (map T_Path.enc v4)),.fl .ro 1 (map (int .u8) v3.1),vb s.LF.LY,vs z0,vi 0])] [[7]] ⟨dZ _ _ _ _ _ _ _ _ Lr rfl rfl rfl rfl (zl rfl) rfl rfl⟩ ?_
 refine wK [7] [75,69] ?_
 refine wt [(7,.box 53 [vb s.LF.LD.LQ,vs s.LF.LD.LM,vs s.LF.LD.LA,.fl (.own 26) 3 (flatten (map T_Path.enc v4)),.fl .ro 1 (map (int .u8) v3.1),vb s.LF.LY,vs s.LF.LI,vi 0])] [[7]] ⟨dZ _ _ _ _ _ _ _ _ sP rfl rfl rfl rfl (zl rfl) rfl rfl⟩ ?_
 refine wK [7] [76,73] ?_
 refine wt [(7,.box 53 [vb s.LF.LD.LQ,vs s.LF.LD.LM,vs s.LF.LD.LA,.fl (.own 26) 3 (flatten (map T_Path.enc v4)),.fl .ro 1 (map (int .u8) v3.1),vb s.LF.LY,vs s.LF.LI,vi s.at_])] [] ⟨dZ _ _ _ _ _ _ _ _ Hq rfl rfl rfl rfl (zl rfl) rfl rfl⟩ ?_
 refine sf hn [0,81,4,7,0] ?_
 refine ab ?_
 obtain ⟨v12,hv12,h⟩:=zn h
 refine wb [[0]] ?_
 refine wK [0] [77] ?_
 refine wt [(0,.box 80 (aa.b v12.2)),(78,.agg [vi v12.1.Lz,.fl (.own 9) 1 (map Value.string v12.1.LL)])] [] ⟨uh _ _ _ _ 78 85 [.tmp 77] [_] _ _ _ rfl call85 rfl rfl rfl (fA ((aa.r s)) 250 _ hv12) (zl rfl) rfl rfl rfl rfl rfl rfl rfl rfl⟩ ?_
 refine wK [7] [] ?_
 refine wt [(79,.agg [vb s.LF.LD.LQ,vs s.LF.LD.LM,vs s.LF.LD.LA,.fl (.own 26) 3 (flatten (map T_Path.enc v4)),.fl .ro 1 (map (int .u8) v3.1),vb s.LF.LY,vs s.LF.LI,vi s.at_])] [] ⟨jA _ _ _ _ underlying53 rfl qW rfl rfl⟩ ?_
 refine wK [78,79] [] ?_
 refine wt [(80,.agg [vi v12.1.Lz,.fl (.own 9) 1 (map Value.string v12.1.LL),vb true,vb s.LF.LD.LQ,vs s.LF.LD.LM,vs s.LF.LD.LA,.fl (.own 26) 3 (flatten (map T_Path.enc v4)),.fl .ro 1 (map (int .u8) v3.1),vb s.LF.LY,vs s.LF.LI,vi s.at_,vb false])] [] ⟨bw _ _ _ _ [2,1,8,1] _ _ underlying55 tY (Cw _ underlying55) (.take _ _ (.copy _ (.take _ _ mb.nil))) rfl rfl rfl⟩ ?_
 refine wK [80,4] [] ?_
 refine wt [(4,.box 55 [vi v12.1.Lz,.fl (.own 9) 1 (map Value.string v12.1.LL),vb true,vb s.LF.LD.LQ,vs s.LF.LD.LM,vs s.LF.LD.LA,.fl (.own 26) 3 (flatten (map T_Path.enc v4)),.fl .ro 1 (map (int .u8) v3.1),vb s.LF.LY,vs s.LF.LI,vi s.at_,vb false])] [] ⟨aM _ _ _ _ _ _ _ _ vZ rfl rfl rfl (zl rfl) rfl rfl⟩ ?_
 refine sf hn [0,81,4,0] ?_
 refine ak ?_
 refine ah [2,0,3] (by kernel_rfl) (es':=[(_,_),(_,_),(_,_)]) rfl ?_
 refine sq 0 hio (es':=[(4,.box 55 [.v (.int .i64 v12.1.Lz),.fl .ro 1 (map Value.string v12.1.LL),.v (.bool true),.v (.bool s.LF.LD.LQ),.v (.string s.LF.LD.LM),.v (.string s.LF.LD.LA),.fl .ro 3 (flatten (map T_Path.enc v4)),.fl .ro 1 (map (int .u8) v3.1),.v (.bool s.LF.LY),.v (.string s.LF.LI),.v (.int .i64 s.at_),.v (.bool false)]),(0,.box 80 (aa.b v12.2)),(0,.v (List.getD args0 0 undef))]) rfl ?_
 obtain rfl:=zi h
 exact bG (es:=[(4,.box 55 [.v (.int .i64 v12.1.Lz),.fl .ro 1 (map Value.string v12.1.LL),.v (.bool true),.v (.bool s.LF.LD.LQ),.v (.string s.LF.LD.LM),.v (.string s.LF.LD.LA),.fl .ro 3 (flatten (map T_Path.enc v4)),.fl .ro 1 (map (int .u8) v3.1),.v (.bool s.LF.LY),.v (.string s.LF.LI),.v (.int .i64 s.at_),.v (.bool false)])]) (posts:=[.box 80 (aa.b v12.2)]) hio rfl rfl (.cellA _ _ _ _ underlying55 rfl vZ .nil) rfl rfl hargs0 rfl
 intro u14 h hl15 hr16
 refine ai h (fun hg3_3 h => ?_) (fun hg3_3 h => ?_)
 refine yx hn 4 ?_
 refine yd hg3_3 8 ?_
 refine ye [0,81,4,7,56,0] ?_
 exact hl15 _ (zi h).symm
 refine ai h (fun hg3_7 h => ?_) (fun hg3_7 h => ?_)
 refine yx hn 4 ?_
 refine yd hg3_3 4 ?_
 refine yd hg3_7 4 ?_
 refine ye [0,81,4,7,56,0] ?_
 exact hl15 _ (zi h).symm
 obtain ⟨v5,hv5,h⟩:=zn h
 refine yx hn 4 ?_
 refine yd hg3_3 4 ?_
 refine yd hg3_7 1 ?_
 refine ys 2 ⟨lg call101 (vB _ _ _ hv5) 81⟩ ?_
 refine ye [0,81,4,7,56,0] ?_
 exact hl15 _ (zi h).symm
theorem uq (mx:Int×Nat×Value) (b:(List Int)) (r:(List (List Int))) (h:Sh.pK b=some r):iq Tryz.prog (GL mx) 102 [.fl .shr 1 (map (int .u8) b)] (.fr .ro false 1 (flatten (map Row_int_u8.ienc r))):=by
 unfold Sh.pK at h
 refine yG 14 func102 fun g0 hn hio => ?_
 refine aG hn 1 [0,14] ?_
 refine gH hn 0 ?_
 refine yS (.box 137 [vz]) 0 ⟨oA (aT _ _ Iw)⟩ ?_
 refine aV [0,14,3] ?_
 refine ab (ab ?_)
 obtain ⟨v1,hv1,h⟩:=zn h
 refine yx hn 1 ?_
 refine yk [] [5] ?_
 refine yt (6,.cloB 123 [.box 28 [fb v1]]) 0 ⟨gL _ _ 96 _ _ rfl call96 rfl rfl (gO b _ hv1) rfl⟩ ?_
 refine aV [14,3,6] ?_
 refine aC ?_
 refine jz [2,0,1] (by kernel_rfl) (es':=[(6,.cloB 123 [.box 28 [fb v1]]),(14,.glob (GL mx)),(3,.box 137 [vz])]) rfl ?_
 refine mK (fs:=[(6,.cloB 123 [.box 28 [fb v1]]),(14,.glob (GL mx)),(3,.box 137 [.fr (.own 28) false 1 (flatten (map Row_int_u8.ienc []))])]) (.same _ (.same _ (.box _ _ (af (mQ 28 false 1) (bC)) rfl .nil))) ?_
 refine iC h 123 6 7 15 _ [14,3] call123 (fun (s7:(List (List Int)))=>[(14,.glob (GL mx)),(3,.box 137 [.fr (.own 28) false 1 (flatten (map Row_int_u8.ienc s7))])]) (fun (():Unit)=>[]) (fun l J Y hY t t' h=>fI mx l J Y hY v1 t t' h) hn rfl (fun _=>rfl) (fun _=>rfl) (fun _=>rfl) rfl rfl (fun _=>⟨rfl,rfl⟩) rfl (iA 14 rfl) ?_ ?_ ?_
 rintro kk g0 hn hio x s7 u h
 refine rC (es':=[(7,fb x),(14,.glob (GL mx)),(3,.box 137 [.fr (.own 28) false 1 (flatten (map Row_int_u8.ienc s7))]),(14,.v (kk.tm.getD 14 undef)),(3,.v (kk.tm.getD 3 undef)),(15,.inv kk.ready)]) rfl ?_
 refine yy hn 1 [14,3,15,4,14,3] ?_
 refine ah [0,1,3,4,5,2] (by kernel_rfl) (es':=[(14,.glob (GL mx)),(3,.box 137 [.fr (.own 28) false 1 (flatten (map Row_int_u8.ienc s7))]),(4,fb x),(14,.v (kk.tm.getD 14 undef)),(3,.v (kk.tm.getD 3 undef)),(15,.inv kk.ready)]) rfl ?_
 refine jQ (es:=[(14,.glob (GL mx)),(3,.box 137 [.fr (.own 28) false 1 (flatten (map Row_int_u8.ienc s7))]),(4,fb x),(14,.v (kk.tm.getD 14 undef)),(3,.v (kk.tm.getD 3 undef))]) 15 rfl ?_
 refine aC ?_
 obtain ⟨v2,hv2,v3,hv3,h⟩:=dM h
 refine wb [[3],[4]] ?_
 refine wN [9] ?_
 refine wS (.fl .ro 1 (map (int .u8) v2)) [] ⟨aN.frzG 0 (kE _ _ _ _ fZ rfl rfl (eW _) hv2 (congrArg (map _) (kU hv2))) (zl rfl) rfl⟩ ?_
 refine wN [10] ?_
 refine wS (.fr (.own 28) false 1 (flatten (map Row_int_u8.ienc [v2]))) [] ⟨mN _ _ _ 1 (.slice none 0 0) false _ _ underlying137 lu FI rfl rfl (.cons (.ro _ _ rfl) (.nil)) rfl (by decide) (by decide)⟩ ?_
 refine wK [3] [8,11] ?_
 refine wt [(3,.box 137 [.any]),(12,.fr (.own 28) false 1 (flatten (map Row_int_u8.ienc v3)))] [] ⟨iQ _ 12 3 0 _ _ Je rfl rfl (zl rfl) rfl (fO Row_int_u8.ilen _) (fO Row_int_u8.ilen _) hv3 (lN (iY hv3)) (by decide) (by decide) (by decide) rfl rfl⟩ ?_
 refine wK [8,12,3] [] ?_
 refine wt [(3,.box 137 [.fr (.own 28) false 1 (flatten (map Row_int_u8.ienc v3))])] [] ⟨aN.drop [_] (aM _ _ _ _ _ _ _ _ Jf rfl rfl rfl (zl rfl) rfl rfl)⟩ ?_
 refine we hn [14,3,15,14,3] ?_
 refine aI ?_
 refine ah [0,1,3,4,2] (by kernel_rfl) (es':=[(_,_),(_,_),(_,_),(_,_),(_,_)]) rfl ?_
 obtain rfl:=zi h
 exact jT 15 [14,3] _ rfl rfl (by kernel_rfl)
 rintro D s7 h
 refine aI ?_
 refine ae (ab ?_)
 refine vN 1 hio (es':=[(14,.glob (GL mx)),(3,.box 137 [.fr .ro false 1 (flatten (map Row_int_u8.ienc s7))])]) rfl ?_
 refine yy hn 2 [14,2] ?_
 refine ae (ak ?_)
 refine ah [1] (by kernel_rfl) (es':=[(_,_)]) rfl ?_
 obtain rfl:=zi h
 exact al hio rfl (.tmp _ _ .nil) rfl rfl
 rintro D ⟨⟩ h
 cases h
theorem qN (mx:Int×Nat×Value) (b:(List Int)) (r:Int) (h:Sh.lD b=some r):iq Tryz.prog (GL mx) 87 [.fl .shr 1 (map (int .u8) b)] (.v (.int .i64 r)):=by
 unfold Sh.lD at h
 refine yG 23 func87 fun g0 hn hio => ?_
 refine aG hn 1 [0,23] ?_
 refine aG hn 1 [0,23,3] ?_
 refine ab ?_
 refine aq h (fun (s27:Int)=>[(23,.glob (GL mx)),(3,vi s27)]) ?_ ?_
 rintro s27 h
 refine ae ?_
 refine aG hn 2 [23,2] ?_
 refine ak ?_
 refine ah [1] (by kernel_rfl) (es':=[(_,_)]) rfl ?_
 obtain rfl:=zi h
 exact al hio rfl (.tmp _ _ .nil) rfl rfl
 intro u28 h hl29 hr30
 refine ab ?_
 obtain ⟨v1,hv1,h⟩:=zn h
 refine yx hn 1 ?_
 refine ys 2 ⟨lg call102 (uq _ _ _ hv1) 23⟩ ?_
 refine aV [23,3,7,8,9] ?_
 refine aS h (fun ((s37,s38):Int×Int)=>[(23,.glob (GL mx)),(3,vi s37),(7,.fr .ro false 1 (flatten (map Row_int_u8.ienc v1))),(8,vi (v1.length:Int)),(9,vi s38)]) (fun (s41:Int)=>[(23,.glob (GL mx)),(3,vi s41)]) ?_ ?_
 rintro s41 h
 exact hl29 _ (zi h).symm
 rintro u42 hl43 hr44 ⟨s37,s38⟩ rr47 h ho45
 refine aG hn 1 [23,3,7,8,9,10] ?_
 refine ab ?_
 refine zc h rfl (fun h => ?_) (fun h => ?_)
 refine am ?_
 refine ae (ab ?_)
 refine aC (ab ?_)
 obtain ⟨v3,hv3,v4,hv4,h⟩:=dM h
 refine yx hn 0 ?_
 refine ys 0 ⟨lI hv3⟩ ?_
 refine yS (.fl .ro 1 (map (int .u8) v4)) 1 ⟨dq _ _ _ _ _ _ _ underlying28 rfl rfl rfl (wT Row_int_u8.ilen hv4 rfl) (.fl _ _ rfl)⟩ ?_
 refine aV [23,3,7,8,9,5] ?_
 refine ab ?_
 obtain ⟨v5,hv5,v6,hv6,h⟩:=dM h
 refine yx hn 3 ?_
 refine ys 0 ⟨lb hv5⟩ ?_
 refine ys 0 ⟨lb hv6⟩ ?_
 refine yw [3] 1 ?_
 refine aV [23,7,8,9,5,3] ?_
 refine ab ?_
 obtain ⟨v7,hv7,h⟩:=zn h
 refine yx hn 1 ?_
 refine ys 1 ⟨lS hv7⟩ ?_
 refine aV [23,7,8,9,3,20] ?_
 refine zc h rfl (fun h => ?_) (fun h => ?_)
 refine ba ?_
 refine xH (by decide) ?_
 refine ap (ap (aZ ?_))
 refine ah [0,4] (by kernel_rfl) (es':=[(_,_),(_,_)]) rfl ?_
 exact hl43 _ (ho45 _ (zi h).symm).symm
 refine am (aI (ae ?_))
 obtain ⟨v9,hv9,h⟩:=zn h
 refine yx hn 0 ?_
 refine ys 0 ⟨lb hv9⟩ ?_
 refine yw [9] 1 ?_
 refine ye [23,7,8,3,9] ?_
 refine ah [0,3,1,2,4] (by kernel_rfl) (es':=[(_,_),(_,_),(_,_),(_,_),(_,_)]) rfl ?_
 exact bb _ (zi h).symm rfl
 refine ba (ap (ap (aZ ?_)))
 refine ah [0,1] (by kernel_rfl) (es':=[(_,_),(_,_)]) rfl ?_
 exact hl43 _ (ho45 _ (zi h).symm).symm
theorem fQ (s:aa) (r:aa) (h:Sh.ef s=some r):pO Tryz.prog 88 [.box 80 (aa.b s)] [.box 80 (aa.b r)] (.tup []):=by
 unfold Sh.ef at h
 refine yP 15 func88 fun args0 hargs0 g0 hn hio => ?_
 refine yx hn 3 ?_
 refine yS (.agg [vb false,vs z0,vs z0]) 12 ⟨bw _ _ _ _ [1,1,1] _ _ underlying26 qk (BY _ underlying26) mb.nil rfl rfl rfl⟩ ?_
 refine ye [0,0] ?_
 refine cq (fs:=[(0,.box 80 (vi s.LF.LW::vs s.LF.LI::vb false::vs z0::vs z0::.fl (.own 26) 3 (flatten (map T_Path.enc []))::vb false::.mkr 5 (map (int .u8) s.LF.Lx)::vs s.LF.Ly::vb s.LF.LX::aB.c s.config [vi s.site,vi s.at_,.fr (.own 55) false 12 (flatten (map ay.ienc s.out))])),(0,.v (List.getD args0 0 undef))]) (.box _ _ (af (aj _) (af (aj _) (af (aj _) (af (aj _) (af (aj _) (af (bL 26 3) (af (aj _) (af (aj _) (af (aj _) (af (aj _) (af (aj _) (af (aj _) (af (aj _) (af (aj _) (af (aj _) (af (aj _) (af (aj _) (af (aj _) (af (aj _) (af (aj _) (bC))))))))))))))))))))) rfl (.same _ .nil)) ?_
 obtain rfl:=zi h
 exact kY (es:=[]) (posts:=[.box 80 [.v (.int .i64 s.LF.LW),.v (.string s.LF.LI),.v (.bool false),.v (.string (⟨#[]⟩:Mf)),.v (.string (⟨#[]⟩:Mf)),.fl (.own 26) 3 (flatten (map T_Path.enc [])),.v (.bool false),.mkr 5 (map (int .u8) s.LF.Lx),.v (.string s.LF.Ly),.v (.bool s.LF.LX),.v (.string ((s.config.LB.getD 0 (⟨#[]⟩:Mf)))),.v (.string ((s.config.LB.getD 1 (⟨#[]⟩:Mf)))),.v (.int .i64 s.config.LC),.v (.string s.config.Mc),.v (.string s.config.Ma),.v (.int .i64 s.config.LN),.v (.bool s.config.LH),.v (.int .i64 s.site),.v (.int .i64 s.at_),.fr (.own 55) false 12 (flatten (map ay.ienc s.out))]]) hio rfl rfl .nil rfl rfl hargs0 rfl
theorem nS (mx:Int×Nat×Value) (s:aa) (r:(Bool×aa)) (h:Sh.dE s=some r):ny Tryz.prog (GL mx) 73 [.box 80 (aa.b s)] [.box 80 (aa.b r.2)] (.v (.bool r.1)):=by
 unfold Sh.dE at h
 refine DZ 60 func73 fun args0 hargs0 g0 hn hio => ?_
 refine aG hn 1 [0,60,0] ?_
 refine ab ?_
 obtain ⟨v1,hv1,h⟩:=zn h
 refine yx hn 5 ?_
 refine ys 0 ⟨lg call84 (un _ _ _ hv1) 60⟩ ?_
 refine ym 0 ?_
 refine Jt 2 ?_
 refine ya 2 ?_
 refine aV [0,60,3,4,5,0] ?_
 refine ab ?_
 refine aG hn 2 [0,60,3,4,5,18,0] ?_
 refine zc h rfl (fun h => ?_) (fun h => ?_)
 refine aG hn 1 [0,60,2,0] ?_
 refine ak ?_
 refine ah [2,0,3] (by kernel_rfl) (es':=[(_,_),(_,_),(_,_)]) rfl ?_
 refine ag ?_
 obtain rfl:=zi h
 exact bG (es:=[(2,.v (.bool false))]) (posts:=[.box 80 (aa.b s)]) hio rfl rfl (.tmp _ _ .nil) rfl rfl hargs0 rfl
 refine am ?_
 refine ae (ab ?_)
 obtain ⟨v3,hv3,h⟩:=zn h
 refine yx hn 1 ?_
 refine yQ call85 (fA _ _ _ hv3) 0 [19] 0 ?_
 refine yk [20] [] ?_
 refine yt (21,.agg [vi v3.1.Lz,.fl (.own 9) 1 (map Value.string v3.1.LL),vb false,vb false,vs z0,vs z0,vz,vz,vb false,vs z0,vi 0,vb false]) 0 ⟨bw _ _ _ _ [2,1,8,1] _ _ underlying55 tY (Cw _ underlying55) (.take _ _ mb.nil) rfl rfl rfl⟩ ?_
 refine yS (.box 55 [vi 0,vz,vb false,vb false,vs z0,vs z0,vz,vz,vb false,vs z0,vi 0,vb false]) 0 ⟨oA (aT _ _ tY)⟩ ?_
 refine yk [21,6] [] ?_
 refine yt (6,.box 55 [vi v3.1.Lz,.fl (.own 9) 1 (map Value.string v3.1.LL),vb false,vb false,vs z0,vs z0,vz,vz,vb false,vs z0,vi 0,vb false]) 0 ⟨aM _ _ _ _ _ _ _ _ vZ rfl rfl rfl (zl rfl) rfl rfl⟩ ?_
 refine aV [0,60,3,4,5,6,0] ?_
 refine ab ?_
 refine aq h (fun ((s7,s8,s9,s10,s11,s12,s13,s14,s15,s16,s17,s18,s19,s20,s21,s22,s23,s24,s25,s26,s27,s28,s29,s30,s31,s32,s33,s34,s35,s36,s37,s38,s39):Int×Mf×Bool×Mf×Mf×(List T_Path)×Bool×(List Int)×Mf×Bool×Mf×Mf×Int×Mf×Mf×Int×Bool×Int×Int×(List ay)×Int×Int×(List Mf)×Bool×Bool×Mf×Mf×(List T_Path)×(List Int)×Bool×Mf×Int×Bool)=>[(0,.box 80 [vi s7,vs s8,vb s9,vs s10,vs s11,.fl (.own 26) 3 (flatten (map T_Path.enc s12)),vb s13,.mkr 5 (map (int .u8) s14),vs s15,vb s16,vs s17,vs s18,vi s19,vs s20,vs s21,vi s22,vb s23,vi s24,vi s25,.fr (.own 55) false 12 (flatten (map ay.ienc s26))]),(60,.glob (GL mx)),(4,vi s27),(6,.box 55 [vi s28,.fl .ro 1 (map Value.string s29),vb s30,vb s31,vs s32,vs s33,.fl .ro 3 (flatten (map T_Path.enc s34)),.fl .ro 1 (map (int .u8) s35),vb s36,vs s37,vi s38,vb s39]),(0,.v (List.getD args0 0 undef))]) ?_ ?_
 rintro ⟨s7,s8,s9,s10,s11,s12,s13,s14,s15,s16,s17,s18,s19,s20,s21,s22,s23,s24,s25,s26,s27,s28,s29,s30,s31,s32,s33,s34,s35,s36,s37,s38,s39⟩ h
 refine ae (ab ?_)
 obtain ⟨v44,hv44,h⟩:=zn h
 refine wb [[],[],[34,0],[35,0],[36,0],[6]] ?_
 refine wN [38] ?_
 refine wS (.fr (.own 55) false 12 (flatten (map ay.ienc [(ay.mk (cX.mk s28 s29) s30 ((az.mk (T_Path.mk s31 s32 s33) s34 s35 s36 s37 s38)) s39)]))) [] ⟨mN _ _ _ 12 (.agg #[.int .i64 0,.slice none 0 0,.bool false,.bool false,.string ByteArray.empty,.string ByteArray.empty,.slice none 0 0,.slice none 0 0,.bool false,.string ByteArray.empty,.int .i64 0,.bool false]) false _ _ underlying34 vZ tY rfl rfl (.cons (.v _) (.cons (.ro _ _ rfl) (.cons (.v _) (.cons (.v _) (.cons (.v _) (.cons (.v _) (.cons (.ro _ _ rfl) (.cons (.ro _ _ rfl) (.cons (.v _) (.cons (.v _) (.cons (.v _) (.cons (.v _) (.nil))))))))))))) rfl (by decide) (by decide)⟩ ?_
 refine wK [0] [37,39] ?_
 refine wt [(0,.box 80 [vi s7,vs s8,vb s9,vs s10,vs s11,.fl (.own 26) 3 (flatten (map T_Path.enc s12)),vb s13,.mkr 5 (map (int .u8) s14),vs s15,vb s16,vs s17,vs s18,vi s19,vs s20,vs s21,vi s22,vb s23,vi s24,vi s25,.any]),(40,.fr (.own 55) false 12 (flatten (map ay.ienc v44)))] [[33,0],[41,0]] ⟨iQ _ 40 0 19 _ _ He rfl rfl (zl rfl) rfl (fO ay.ilen _) (fO ay.ilen _) hv44 (lN (iY hv44)) (by decide) (by decide) (by decide) rfl rfl⟩ ?_
 refine wK [37,40,0] [42] ?_
 refine wt [(0,.box 80 [vi s7,vs s8,vb s9,vs s10,vs s11,.fl (.own 26) 3 (flatten (map T_Path.enc s12)),vb s13,.mkr 5 (map (int .u8) s14),vs s15,vb s16,vs s17,vs s18,vi s19,vs s20,vs s21,vi s22,vb s23,vi s24,vi s25,.fr (.own 55) false 12 (flatten (map ay.ienc v44))])] [] ⟨aN.drop [_] (aM _ _ _ _ _ _ _ _ Ic rfl rfl rfl (zl rfl) rfl rfl)⟩ ?_
 refine sf hn [0,60,4,0] ?_
 refine ab ?_
 obtain ⟨v45,hv45,h⟩:=zn h
 refine yx hn 7 ?_
 refine yk [0] [48,49] ?_
 refine mS (0,.box 80 [vi s7,vs s8,vb s9,vs s10,vs s11,.fl (.own 26) 3 (flatten (map T_Path.enc s12)),vb s13,.any,vs s15,vb s16,vs s17,vs s18,vi s19,vs s20,vs s21,vi s22,vb s23,vi s24,vi s25,.fr (.own 55) false 12 (flatten (map ay.ienc v44))]) (50,.mkr 5 (map (int .u8) v45)) 3 ⟨ux _ 50 0 7 _ _ underlying28 lJ rfl rfl (zl rfl) rfl rfl hv45 rfl (Nat.ne_of_beq_eq_false rfl) rfl rfl⟩ ?_
 refine yw [48] 0 ?_
 refine yk [50,0] [53] ?_
 refine yt (0,.box 80 [vi s7,vs s8,vb s9,vs s10,vs s11,.fl (.own 26) 3 (flatten (map T_Path.enc s12)),vb s13,.mkr 5 (map (int .u8) v45),vs s15,vb s16,vs s17,vs s18,vi s19,vs s20,vs s21,vi s22,vb s23,vi s24,vi s25,.fr (.own 55) false 12 (flatten (map ay.ienc v44))]) 0 ⟨aM _ _ _ _ _ _ _ _ lu rfl rfl rfl (zl rfl) rfl rfl⟩ ?_
 refine aV [0,60,0] ?_
 refine aG hn 5 [0,60,0] ?_
 refine ab ?_
 obtain ⟨v46,hv46,h⟩:=zn h
 refine yx hn 1 ?_
 refine yQ call88 (fQ _ _ hv46) 0 [58] 0 ?_
 refine aV [0,60,0] ?_
 refine aG hn 1 [0,60,2,0] ?_
 refine ak ?_
 refine ah [2,0,3] (by kernel_rfl) (es':=[(_,_),(_,_),(_,_)]) rfl ?_
 obtain rfl:=zi h
 exact bG (es:=[(2,.v (.bool true))]) (posts:=[.box 80 (aa.b v46)]) hio rfl rfl (.tmp _ _ .nil) rfl rfl hargs0 rfl
 intro u40 h hl41 hr42
 refine aG hn 2 [0,60,3,4,6,23,0] ?_
 refine zc h rfl (fun h => ?_) (fun h => ?_)
 refine Aa 2 hio (es':=[(0,.box 80 (aa.b v3.2)),(60,.glob (GL mx)),(3,.fl .ro 1 (map (int .u8) v1.1)),(4,.v (.int .i64 v1.2.1)),(6,.box 55 [.v (.int .i64 v3.1.Lz),.fl (.own 9) 1 (map Value.string v3.1.LL),.v (.bool false),.v (.bool false),.v (.string (⟨#[]⟩:Mf)),.v (.string (⟨#[]⟩:Mf)),vz,vz,.v (.bool false),.v (.string (⟨#[]⟩:Mf)),.v (.int .i64 0),.v (.bool false)]),(23,.v (.bool (v1.2.2==0))),(0,.v (List.getD args0 0 undef))]) rfl ?_
 obtain ⟨v5,hv5,h⟩:=zn h
 refine yx hn 2 ?_
 refine yk [0] [24,25,60] ?_
 refine mS (0,.box 80 (aa.b v5.2)) (26,.agg [vi v5.1.LZ.Lz,.fl .ro 1 (map Value.string v5.1.LZ.LL),vb v5.1.LG,vb v5.1.LO.LD.LQ,vs v5.1.LO.LD.LM,vs v5.1.LO.LD.LA,.fl .ro 3 (flatten (map T_Path.enc v5.1.LO.To)),.fl .ro 1 (map (int .u8) v5.1.LO.Lw),vb v5.1.LO.LY,vs v5.1.LO.LI,vi v5.1.LO.At,vb v5.1.Lv]) 1 ⟨fx _ _ _ _ 26 60 86 [.tmp 24] [.tmp 25] _ _ _ rfl call86 rfl rfl rfl rfl (fun _ h=>h) (mE mx ((aa.r v3.2)) v1.1 _ hv5) (zl rfl) rfl rfl rfl rfl rfl rfl rfl⟩ ?_
 refine ye [0,60,4,6,0] ?_
 exact hl41 _ (zi h).symm
 obtain ⟨v6,hv6,h⟩:=zn h
 refine yx hn 5 ?_
 refine ys 0 ⟨lg call87 (qN _ _ _ hv6) 60⟩ ?_
 refine yw [4] 1 ?_
 refine ye [0,60,6,4,0] ?_
 refine ah [0,1,3,2,4] (by kernel_rfl) (es':=[(_,_),(_,_),(_,_),(_,_),(_,_)]) rfl ?_
 refine sq 3 hio (es':=[(0,.box 80 (aa.b v3.2)),(60,.glob (GL mx)),(4,.v (.int .i64 v6)),(6,.box 55 [.v (.int .i64 v3.1.Lz),.fl .ro 1 (map Value.string v3.1.LL),.v (.bool false),.v (.bool false),.v (.string (⟨#[]⟩:Mf)),.v (.string (⟨#[]⟩:Mf)),vz,vz,.v (.bool false),.v (.string (⟨#[]⟩:Mf)),.v (.int .i64 0),.v (.bool false)]),(0,.v (List.getD args0 0 undef))]) rfl ?_
 refine cq (fs:=[(0,.box 80 (aa.b v3.2)),(60,.glob (GL mx)),(4,vi v6),(6,.box 55 [vi v3.1.Lz,.fl .ro 1 (map Value.string v3.1.LL),vb false,vb false,vs z0,vs z0,.fl .ro 3 (flatten (map T_Path.enc [])),.fl .ro 1 (map (int .u8) []),vb false,vs z0,vi 0,vb false]),(0,.v (List.getD args0 0 undef))]) (.same _ (.same _ (.same _ (.box _ _ (af (aj _) (af (aj _) (af (aj _) (af (aj _) (af (aj _) (af (aj _) (af (tx 3) (af (tx 1) (af (aj _) (af (aj _) (af (aj _) (af (aj _) (bC))))))))))))) rfl (.same _ .nil))))) ?_
 exact hl41 _ (zi h).symm
theorem tq (i:Int) (q:Int) (p_r:Int) (t:Int) (r:(Int×Int)) (h:Sh.np i q p_r t=some r):bF Tryz.prog 219 [.v (.int .i64 i),.v (.int .u32 q),.v (.int .u32 p_r),.v (.int .u32 t)] (.tup [.v (.int .u32 r.1),.v (.int .i64 r.2)]):=by
 unfold Sh.np at h
 refine yO 56 func219 fun g0 hn hio => ?_
 refine aG hn 2 [0,1,2,3] ?_
 refine ab (ab ?_)
 obtain ⟨v1,hv1,h⟩:=zn h
 refine yx hn 1 ?_
 refine ys 0 ⟨lB (rk hv1)⟩ ?_
 refine aV [0,1,2,3,11] ?_
 refine aC ?_
 refine aG hn 2 [0,1,2,3,11,12] ?_
 refine zc h rfl (fun h => ?_) (fun h => ?_)
 refine ab ?_
 obtain ⟨v3,hv3,v4,hv4,v5,hv5,v6,hv6,h⟩:=jX h
 refine yx hn 2 ?_
 refine ys 1 ⟨lb hv3⟩ ?_
 refine yS (.v (.int .u32 v4)) 1 ⟨Dn _ _ _ _ rfl (Gm (f:=int .u32) (Option.some.inj hv4))⟩ ?_
 refine ys 0 ⟨lb hv5⟩ ?_
 refine ys 3 ⟨lb hv6⟩ ?_
 refine aV [8,9] ?_
 refine ak (aF (ag ?_))
 obtain rfl:=zi h
 exact al hio rfl (.tmp _ _ (.tmp _ _ .nil)) rfl rfl
 refine aG hn 2 [0,1,2,3,11,23] ?_
 refine zc h rfl (fun h => ?_) (fun h => ?_)
 refine ab ?_
 obtain ⟨v8,hv8,v9,hv9,v10,hv10,v11,hv11,h⟩:=jX h
 obtain ⟨v12,hv12,v13,hv13,h⟩:=dM h
 refine yx hn 2 ?_
 refine ys 2 ⟨lb hv8⟩ ?_
 refine ys 0 ⟨lb hv9⟩ ?_
 refine ys 1 ⟨lb hv10⟩ ?_
 refine ys 0 ⟨lb hv11⟩ ?_
 refine ys 0 ⟨lb hv12⟩ ?_
 refine ys 2 ⟨lB (jx hv13)⟩ ?_
 refine aV [8,9] ?_
 refine ak (aF (ag ?_))
 obtain rfl:=zi h
 exact al hio rfl (.tmp _ _ (.tmp _ _ .nil)) rfl rfl
 refine aG hn 2 [0,1,2,3,36] ?_
 refine zc h rfl (fun h => ?_) (fun h => ?_)
 refine ab ?_
 obtain ⟨v15,hv15,v16,hv16,v17,hv17,v18,hv18,h⟩:=jX h
 obtain ⟨v19,hv19,h⟩:=zn h
 refine yx hn 2 ?_
 refine ys 1 ⟨lb hv15⟩ ?_
 refine ys 1 ⟨lb hv16⟩ ?_
 refine ys 0 ⟨lb hv17⟩ ?_
 refine ys 0 ⟨lb hv18⟩ ?_
 refine ys 2 ⟨lB (jx hv19)⟩ ?_
 refine aV [8,9] ?_
 refine ak (aF (ag ?_))
 obtain rfl:=zi h
 exact al hio rfl (.tmp _ _ (.tmp _ _ .nil)) rfl rfl
 refine am (aI ?_)
 refine ae (ab ?_)
 obtain ⟨v20,hv20,v21,hv21,v22,hv22,v23,hv23,h⟩:=jX h
 obtain ⟨v24,hv24,h⟩:=zn h
 refine yx hn 3 ?_
 refine yS (.v (.int .u32 v20)) 0 ⟨Dn _ _ _ _ rfl (Gm (f:=int .u32) (Option.some.inj hv20))⟩ ?_
 refine ys 0 ⟨lb hv21⟩ ?_
 refine ys 1 ⟨lb hv22⟩ ?_
 refine ys 0 ⟨lb hv23⟩ ?_
 refine ys 2 ⟨lB (jx hv24)⟩ ?_
 refine aV [8,9] ?_
 refine ak ?_
 obtain rfl:=zi h
 exact al hio rfl (.tmp _ _ (.tmp _ _ .nil)) rfl rfl
theorem jj (mx:Int×Nat×Value) (s:(List Int)) (b:(List Int)) (r:(List Int)) (h:Sh.fC s b=some r):iq Tryz.prog (GL mx) 203 [.v (.agg (map (int .u32) s).toArray),.fl .shr 1 (map (int .u8) b)] (.v (.agg (map (int .u32) r).toArray)):=by
 unfold Sh.fC at h
 refine yG 105 func203 fun g0 hn hio => ?_
 refine gH hn 0 ?_
 refine yS (.arr 225 (map (int .u32) s)) 0 ⟨yY _ _ _ rfl⟩ ?_
 refine yS (.arr 225 (map (int .u32) ((List.replicate 4 (0:Int))))) 0 ⟨oA (cl _ GC)⟩ ?_
 refine aV [1,105,2,4] ?_
 refine gH hn 0 ?_
 refine yS (.arr 222 (map (int .u32) ((List.replicate 16 (0:Int))))) 0 ⟨oA (cl _ Aj)⟩ ?_
 refine aV [1,105,2,4,5] ?_
 refine ab ?_
 refine aG hn 3 [105,2,4,5,17,18,19] ?_
 refine aS h (fun ((s18,s19):(List Int)×Int)=>[(105,.glob (GL mx)),(2,.arr 225 (map (int .u32) s)),(4,.arr 225 (map (int .u32) ((List.replicate 4 (0:Int))))),(5,.arr 222 (map (int .u32) s18)),(17,fb b),(18,vi (b.length:Int)),(19,vi s19)]) (fun (s21:(List Int))=>[(105,.glob (GL mx)),(2,.arr 225 (map (int .u32) s)),(4,.arr 225 (map (int .u32) ((List.replicate 4 (0:Int))))),(5,.arr 222 (map (int .u32) s21))]) ?_ ?_
 rintro s21 h
 refine ae (ab ?_)
 obtain ⟨v29,hv29,v30,hv30,v31,hv31,v32,hv32,h⟩:=jX h
 obtain ⟨v33,hv33,v34,hv34,v35,hv35,v36,hv36,h⟩:=jX h
 refine wb [] ?_
 refine wN [2] ?_
 refine wS (.ptr 2 v29) [] ⟨db _ _ _ _ 4 2 _ underlying225 ij rfl rfl (bA hv29).1 (bA hv29).2 (by decide)⟩ ?_
 refine wN [37,2] ?_
 refine wS (.v (.int .u32 v30)) [] ⟨cJ _ _ _ _ _ _ underlying106 rfl rfl rfl (cY hv30)⟩ ?_
 refine wN [2] ?_
 refine wS (.ptr 2 v31) [] ⟨db _ _ _ _ 4 2 _ underlying225 ij rfl rfl (bA hv31).1 (bA hv31).2 (by decide)⟩ ?_
 refine wN [39,2] ?_
 refine wS (.v (.int .u32 v32)) [] ⟨cJ _ _ _ _ _ _ underlying106 rfl rfl rfl (cY hv32)⟩ ?_
 refine wN [2] ?_
 refine wS (.ptr 2 v33) [] ⟨db _ _ _ _ 4 2 _ underlying225 ij rfl rfl (bA hv33).1 (bA hv33).2 (by decide)⟩ ?_
 refine wN [41,2] ?_
 refine wS (.v (.int .u32 v34)) [] ⟨cJ _ _ _ _ _ _ underlying106 rfl rfl rfl (cY hv34)⟩ ?_
 refine wN [2] ?_
 refine wS (.ptr 2 v35) [] ⟨db _ _ _ _ 4 2 _ underlying225 ij rfl rfl (bA hv35).1 (bA hv35).2 (by decide)⟩ ?_
 refine wN [43,2] ?_
 refine wS (.v (.int .u32 v36)) [[38],[40],[42],[44]] ⟨cJ _ _ _ _ _ _ underlying106 rfl rfl rfl (cY hv36)⟩ ?_
 refine sf hn [105,2,4,5,8,9,10,11] ?_
 refine ab ?_
 refine gH hn 0 ?_
 refine yS (.v (.agg (map (int .u32) dR).toArray)) 1 ⟨uC _ _ 105 5 (map (int .u32) dR) underlying241 rfl Jw rfl rfl (EW mx)⟩ ?_
 refine aV [105,2,4,5,8,9,10,11,45,46] ?_
 refine aS h (fun ((s63,s64,s65,s66,s67):Int×Int×Int×Int×Int)=>[(105,.glob (GL mx)),(2,.arr 225 (map (int .u32) s)),(4,.arr 225 (map (int .u32) ((List.replicate 4 (0:Int))))),(5,.arr 222 (map (int .u32) s21)),(8,.v (.int .u32 s63)),(9,.v (.int .u32 s64)),(10,.v (.int .u32 s65)),(11,.v (.int .u32 s66)),(45,.v (.agg (map (int .u32) dR).toArray)),(46,vi s67)]) (fun ((s69,s70,s71,s72):Int×Int×Int×Int)=>[(105,.glob (GL mx)),(2,.arr 225 (map (int .u32) s)),(4,.arr 225 (map (int .u32) ((List.replicate 4 (0:Int))))),(8,.v (.int .u32 s69)),(9,.v (.int .u32 s70)),(10,.v (.int .u32 s71)),(11,.v (.int .u32 s72))]) ?_ ?_
 rintro ⟨s69,s70,s71,s72⟩ h
 refine ae (ab ?_)
 obtain ⟨v80,hv80,v81,hv81,v82,hv82,v83,hv83,h⟩:=jX h
 obtain ⟨v84,hv84,v85,hv85,v86,hv86,v87,hv87,h⟩:=jX h
 obtain ⟨v88,hv88,v89,hv89,v90,hv90,v91,hv91,h⟩:=jX h
 obtain ⟨v92,hv92,v93,hv93,h⟩:=dM h
 refine yx hn 0 ?_
 refine yS (.ptr 2 v80) 0 ⟨db _ _ _ _ 4 2 _ underlying225 ij rfl rfl (bA hv80).1 (bA hv80).2 (by decide)⟩ ?_
 refine yS (.v (.int .u32 v81)) 1 ⟨cJ _ _ _ _ _ _ underlying106 rfl rfl rfl (cY hv81)⟩ ?_
 refine ys 0 ⟨lb hv82⟩ ?_
 refine yS (.ptr 2 v83) 0 ⟨db _ _ _ _ 4 2 _ underlying225 ij rfl rfl (bA hv83).1 (bA hv83).2 (by decide)⟩ ?_
 refine yS (.v (.int .u32 v84)) 1 ⟨cJ _ _ _ _ _ _ underlying106 rfl rfl rfl (cY hv84)⟩ ?_
 refine ys 0 ⟨lb hv85⟩ ?_
 refine yS (.ptr 2 v86) 0 ⟨db _ _ _ _ 4 2 _ underlying225 ij rfl rfl (bA hv86).1 (bA hv86).2 (by decide)⟩ ?_
 refine yS (.v (.int .u32 v87)) 1 ⟨cJ _ _ _ _ _ _ underlying106 rfl rfl rfl (cY hv87)⟩ ?_
 refine ys 0 ⟨lb hv88⟩ ?_
 refine yS (.ptr 2 v89) 0 ⟨db _ _ _ _ 4 2 _ underlying225 ij rfl rfl (bA hv89).1 (bA hv89).2 (by decide)⟩ ?_
 refine yS (.v (.int .u32 v90)) 1 ⟨cJ _ _ _ _ _ _ underlying106 rfl rfl rfl (cY hv90)⟩ ?_
 refine ys 0 ⟨lb hv91⟩ ?_
 refine yS (.v (.agg (map (int .u32) ([v82,v85,v88,v91]:List Int)).toArray)) 0 ⟨pX _ _ (.agg #[.int .u32 0,.int .u32 0,.int .u32 0,.int .u32 0]) (map (int .u32) ([v82,v85,v88,v91]:List Int)) [(0,.int .u32 v82),(1,.int .u32 v85),(2,.int .u32 v88),(3,.int .u32 v91)] underlying225 ij Gv (fun _ V w o a hv hes=>by have e0:=bZ hv hes (x := .tmp 91) rfl; have e1:=bZ hv hes (x := .tmp 95) rfl; have e2:=bZ hv hes (x := .tmp 99) rfl; have e3:=bZ hv hes (x := .tmp 103) rfl; simp only [List.map_toArray,List.map_cons,List.map_nil,e0,e1,e2,e3]; try rfl) (cN (by simp [Instr.fill,Value.cells]; rfl) (by simp))⟩ ?_
 refine yk [4] [104] ?_
 refine yt (4,.arr 225 (map (int .u32) ([v82,v85,v88,v91]:List Int))) 0 ⟨cE _ _ _ _ (uj.trans (congrArg some (bH hv93))) rfl rfl (fT (fun _=>rfl) _) ((bH (f:=int .u32) hv92).symm.trans (bH (f:=int .u32) hv93))⟩ ?_
 refine aV [105,4] ?_
 refine ak ?_
 obtain ⟨v94,hv94,h⟩:=zn h
 refine ah [1] (by kernel_rfl) (es':=[(_,_)]) rfl ?_
 obtain rfl:=zi h
 exact al hio rfl (.cellR _ _ _ _ underlying225 rfl (uj.trans (congrArg some (bH hv94))) .nil) rfl rfl
 rintro u73 hl74 hr75 ⟨s63,s64,s65,s66,s67⟩ rr78 h ho76
 refine aG hn 1 [105,2,4,5,8,9,10,11,45,46,47] ?_
 refine ab ?_
 refine zc h rfl (fun h => ?_) (fun h => ?_)
 refine am ?_
 refine ae (ab ?_)
 refine aC (ab ?_)
 obtain ⟨v38,hv38,v39,hv39,h⟩:=dM h
 refine yx hn 1 ?_
 refine yS (.v (.int .u32 v39)) 2 ⟨kj _ _ _ _ 64 v38 underlying241 ij rfl (congrArg (fun j=>AV.v (int .i64 j)) (bA hv38).1) (bA hv38).2 (cY hv39) ⟨_,underlying106,rfl⟩⟩ ?_
 refine aV [105,2,4,5,8,9,10,11,45,46,12,13] ?_
 refine ab ?_
 obtain ⟨v40,hv40,h⟩:=zn h
 refine yx hn 4 ?_
 refine ys 0 ⟨lk call219 (tq _ _ _ _ _ hv40)⟩ ?_
 refine ym 4 ?_
 refine aV [105,2,4,5,8,9,10,11,45,46,12,13,14,15] ?_
 refine ab ?_
 obtain ⟨v41,hv41,v42,hv42,v43,hv43,v44,hv44,h⟩:=jX h
 obtain ⟨v45,hv45,h⟩:=zn h
 refine yx hn 3 ?_
 refine ys 1 ⟨lb hv41⟩ ?_
 refine yS (.ptr 5 v42) 0 ⟨db _ _ _ _ 16 5 _ underlying222 ij rfl rfl (bA hv42).1 (bA hv42).2 (by decide)⟩ ?_
 refine yS (.v (.int .u32 v43)) 0 ⟨cJ _ _ _ _ _ _ underlying106 rfl rfl rfl (cY hv43)⟩ ?_
 refine ys 0 ⟨lb hv44⟩ ?_
 refine ys 0 ⟨lb hv45⟩ ?_
 refine yw [14] 1 ?_
 refine aV [105,2,4,5,9,10,11,45,46,12,14] ?_
 refine ab ?_
 obtain ⟨v46,hv46,v47,hv47,v48,hv48,v49,hv49,h⟩:=jX h
 obtain ⟨v50,hv50,h⟩:=zn h
 refine yx hn 1 ?_
 refine ys 1 ⟨lB (rk hv46)⟩ ?_
 refine ys 0 ⟨lB (jx hv47)⟩ ?_
 refine yS (.v (.pointer (some ⟨6,(0+v48 * 4),none⟩))) 0 ⟨nL _ _ _ _ 4 6 0 _ 4 _ underlying245 Iy rfl rfl (bA hv48).1 (bA hv48).2⟩ ?_
 refine yS (.v (.pointer (some ⟨6,((0+v48 * 4)+v49 * 1),none⟩))) 0 ⟨nL _ _ _ _ 4 6 (0+v48 * 4) _ 1 _ underlying244 Hq rfl rfl (bA hv49).1 (bA hv49).2⟩ ?_
 refine yS (vi v50) 1 ⟨mI _ _ 105 6 _ _ _ underlying3 rfl rfl rfl (Et mx) (cY hv50)⟩ ?_
 refine aV [105,2,4,5,9,10,11,45,46,14,16] ?_
 obtain ⟨v51,hv51,v52,hv52,v53,hv53,v54,hv54,h⟩:=jX h
 obtain ⟨v55,hv55,h⟩:=zn h
 refine wb [[11],[9],[14],[16]] ?_
 refine wN [76,77] ?_
 refine wo [[14],[16]] ⟨lB (nA hv51)⟩ ?_
 refine wN [80] ?_
 refine wo [] ⟨lb hv52⟩ ?_
 refine wN [79,81] ?_
 refine wo [] ⟨lB (kT hv53)⟩ ?_
 refine wN [78,82] ?_
 refine wo [] ⟨lb hv54⟩ ?_
 refine wN [75,83] ?_
 refine wo [[9],[10],[74]] ⟨lb hv55⟩ ?_
 refine wK [9] [84] ?_
 refine wt [(9,.v (.int .u32 v55))] [] ⟨aN.drop [_] (lK _ _ _ _ rfl rfl)⟩ ?_
 refine wK [10] [85] ?_
 refine wt [(10,.v (.int .u32 s64))] [] ⟨aN.drop [_] (lK _ _ _ _ rfl rfl)⟩ ?_
 refine wK [11] [86] ?_
 refine wt [(11,.v (.int .u32 s65))] [] ⟨aN.drop [_] (lK _ _ _ _ rfl rfl)⟩ ?_
 refine we hn [105,2,4,5,45,46,8,9,10,11] ?_
 refine aI (ae ?_)
 obtain ⟨v56,hv56,h⟩:=zn h
 refine yx hn 0 ?_
 refine ys 0 ⟨lb hv56⟩ ?_
 refine yw [46] 1 ?_
 refine ye [105,2,4,5,45,8,9,10,11,46] ?_
 refine ah [0,1,2,3,5,6,7,8,4,9] (by kernel_rfl) (es':=[(_,_),(_,_),(_,_),(_,_),(_,_),(_,_),(_,_),(_,_),(_,_),(_,_)]) rfl ?_
 exact bb _ (zi h).symm rfl
 refine ba (ap (ap (aZ ?_)))
 refine ah [0,1,2,4,5,6,7] (by kernel_rfl) (es':=[(_,_),(_,_),(_,_),(_,_),(_,_),(_,_),(_,_)]) rfl ?_
 exact hl74 _ (ho76 _ (zi h).symm).symm
 rintro u22 hl23 hr24 ⟨s18,s19⟩ rr27 h ho25
 refine aG hn 1 [105,2,4,5,17,18,19,20] ?_
 refine ab ?_
 refine zc h rfl (fun h => ?_) (fun h => ?_)
 refine am ?_
 refine ae (ab ?_)
 refine aC (ab ?_)
 obtain ⟨v2,hv2,v3,hv3,h⟩:=dM h
 refine yx hn 1 ?_
 refine ys 0 ⟨li hv2⟩ ?_
 refine ys 2 ⟨ll hv3⟩ ?_
 refine aV [105,2,4,5,17,18,19,6,7] ?_
 obtain ⟨v4,hv4,v5,hv5,v6,hv6,v7,hv7,h⟩:=jX h
 obtain ⟨v8,hv8,v9,hv9,v10,hv10,v11,hv11,h⟩:=jX h
 obtain ⟨v12,hv12,v13,hv13,h⟩:=dM h
 refine wb [[6]] ?_
 refine wN [24] ?_
 refine wo [] ⟨lB (rk hv4)⟩ ?_
 refine wN [5,25] ?_
 refine wS (.ptr 5 v5) [] ⟨db _ _ _ _ 16 5 _ underlying222 ij rfl rfl (bA hv5).1 (bA hv5).2 (by decide)⟩ ?_
 refine wN [26,5] ?_
 refine wS (.v (.int .u32 v6)) [[7]] ⟨cJ _ _ _ _ _ _ underlying106 rfl rfl rfl (cY hv6)⟩ ?_
 refine wN [28] ?_
 refine wo [[6]] ⟨lv hv7⟩ ?_
 refine wN [30] ?_
 refine wo [] ⟨lB (jx hv8)⟩ ?_
 refine wN [31] ?_
 refine wo [] ⟨lb hv9⟩ ?_
 refine wN [29,32] ?_
 refine wo [] ⟨lB (nA hv10)⟩ ?_
 refine wN [27,33] ?_
 refine wo [] ⟨lb hv11⟩ ?_
 refine wN [5,25] ?_
 refine wS (.ptr 5 v12) [] ⟨db _ _ _ _ 16 5 _ underlying222 ij rfl rfl (bA hv12).1 (bA hv12).2 (by decide)⟩ ?_
 refine wK [5] [35,34] ?_
 refine wt [(5,.arr 222 (map (int .u32) v13))] [] ⟨mM _ _ _ _ _ _ ij rfl rfl rfl rfl (zr hv13) (zh (f:=int .u32) hv13)⟩ ?_
 refine we hn [105,2,4,5,17,18,19] ?_
 refine aI (ae ?_)
 obtain ⟨v14,hv14,h⟩:=zn h
 refine yx hn 0 ?_
 refine ys 0 ⟨lb hv14⟩ ?_
 refine yw [19] 1 ?_
 refine ye [105,2,4,5,17,18,19] ?_
 exact bb _ (zi h).symm rfl
 refine ba (ap (ap (aZ ?_)))
 refine ah [0,1,2,3] (by kernel_rfl) (es':=[(_,_),(_,_),(_,_),(_,_)]) rfl ?_
 exact hl23 _ (ho25 _ (zi h).symm).symm
theorem qV (rest:(List Int)) (n:Int) (r:(List Int)) (h:Sh.ly rest n=some r):bF Tryz.prog 204 [.fl .shr 1 (map (int .u8) rest),.v (.int .i64 n)] (.fl (.own 5) 1 (map (int .u8) r)):=by
 unfold Sh.ly at h
 refine yO 42 func204 fun g0 hn hio => ?_
 refine aG hn 1 [0,1] ?_
 refine aG hn 1 [0,1,5] ?_
 refine ab ?_
 refine aq h (fun (s4:Int)=>[(0,fb rest),(1,vi n),(5,vi s4)]) ?_ ?_
 rintro s4 h
 refine ae (ab ?_)
 obtain ⟨v9,hv9,h⟩:=zn h
 refine yx hn 1 ?_
 refine yS (.fl (.own 5) 1 (map (int .u8) v9)) 0 ⟨IH (f:=int .u8) _ _ _ _ fZ (by decide) rM rfl rfl rfl hv9⟩ ?_
 refine ya 0 ?_
 refine aV [0,1,5,6] ?_
 refine ab ?_
 obtain ⟨v10,hv10,h⟩:=zn h
 refine yx hn 2 ?_
 refine yk [6] [16,17] ?_
 refine mS (6,.fl (.own 5) 1 (map (int .u8) v10)) (18,vi (sH v9 rest)) 0 ⟨(Option.some.inj hv10) ▸ Jq _ _ _ _ _ _ _ underlying28 lJ rfl rfl (by decide)⟩ ?_
 refine aV [0,1,5,6] ?_
 refine ab ?_
 obtain ⟨v11,hv11,v12,hv12,h⟩:=dM h
 refine yx hn 3 ?_
 refine ys 0 ⟨li hv11⟩ ?_
 refine yk [6] [22] ?_
 refine yt (6,.fl (.own 5) 1 (map (int .u8) v12)) 0 ⟨ug _ _ _ _ _ _ _ _ lJ rfl rfl rfl (by decide) (yR (bA hv11).2) ((map_set (f:=int .u8) _ (bA hv11).2).trans (congrArg (map _) (Option.some.inj hv12)))⟩ ?_
 refine aV [1,5,6] ?_
 refine ab ?_
 obtain ⟨v13,hv13,v14,hv14,h⟩:=dM h
 refine yx hn 1 ?_
 refine ys 0 ⟨lv hv13⟩ ?_
 refine ys 1 ⟨lB (nA hv14)⟩ ?_
 refine aV [5,6,7] ?_
 refine ab ?_
 refine aG hn 1 [5,6,7,26] ?_
 refine aS h (fun ((s27,s28):(List Int)×Int)=>[(5,vi s4),(6,.fl (.own 5) 1 (map (int .u8) s27)),(7,.v (.int .u64 v14)),(26,vi s28)]) (fun (s30:(List Int))=>[(6,.fl (.own 5) 1 (map (int .u8) s30))]) ?_ ?_
 rintro s30 h
 refine ae ?_
 refine gH hn 0 ?_
 refine ym 0 ?_
 refine ya 0 ?_
 refine aV [4] ?_
 refine ak ?_
 obtain rfl:=zi h
 exact al hio rfl (.tmp _ _ .nil) rfl rfl
 rintro u31 hl32 hr33 ⟨s27,s28⟩ rr36 h ho34
 refine aG hn 1 [5,6,7,26,27] ?_
 refine ab ?_
 refine zc h rfl (fun h => ?_) (fun h => ?_)
 refine am ?_
 refine ae (ab ?_)
 refine aC ?_
 refine aG hn 2 [5,6,7,26,8] ?_
 obtain ⟨v16,hv16,v17,hv17,v18,hv18,v19,hv19,h⟩:=jX h
 obtain ⟨v20,hv20,v21,hv21,v22,hv22,h⟩:=ng h
 refine yx hn 2 ?_
 refine ys 1 ⟨lb hv16⟩ ?_
 refine ys 2 ⟨lb hv17⟩ ?_
 refine ys 0 ⟨lb hv18⟩ ?_
 refine ys 0 ⟨lB (kT hv19)⟩ ?_
 refine ys 0 ⟨lv hv20⟩ ?_
 refine ys 0 ⟨li hv21⟩ ?_
 refine yk [6] [39,38] ?_
 refine yt (6,.fl (.own 5) 1 (map (int .u8) v22)) 0 ⟨ug _ _ _ _ _ _ _ _ lJ rfl rfl rfl (by decide) (yR (bA hv21).2) ((map_set (f:=int .u8) _ (bA hv21).2).trans (congrArg (map _) (Option.some.inj hv22)))⟩ ?_
 refine ye [5,6,7,26] ?_
 refine aI (ae ?_)
 obtain ⟨v23,hv23,h⟩:=zn h
 refine yx hn 0 ?_
 refine ys 0 ⟨lb hv23⟩ ?_
 refine yw [26] 1 ?_
 refine ye [5,6,7,26] ?_
 exact bb _ (zi h).symm rfl
 refine ba (ap (ap (aZ ?_)))
 refine ah [1] (by kernel_rfl) (es':=[(_,_)]) rfl ?_
 exact hl32 _ (ho34 _ (zi h).symm).symm
 intro u5 h hl6 hr7
 refine ab ?_
 obtain ⟨v1,hv1,v2,hv2,h⟩:=dM h
 refine yx hn 2 ?_
 refine ys 0 ⟨lb hv1⟩ ?_
 refine ys 1 ⟨lb hv2⟩ ?_
 refine aV [0,1,5,13] ?_
 refine zc h rfl (fun h => ?_) (fun h => ?_)
 refine yx hn 0 ?_
 refine yw [5] 1 ?_
 refine ye [0,1,5] ?_
 exact hl6 _ (zi h).symm
 refine am ?_
 refine ah [0,1,2] (by kernel_rfl) (es':=[(_,_),(_,_),(_,_)]) rfl ?_
 exact hl6 _ (zi h).symm
end Go.Proofs.YtjnnkhmhjcjhdaaGreatDoor
