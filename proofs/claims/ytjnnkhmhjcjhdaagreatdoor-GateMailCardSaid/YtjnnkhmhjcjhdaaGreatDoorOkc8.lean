import Derived.Test.YtjnnkhmhjcjhdaaGreatDoorOkc7
set_option linter.unusedVariables false
set_option linter.unusedSimpArgs false
set_option maxHeartbeats 1000000
namespace Go.Proofs.YtjnnkhmhjcjhdaaGreatDoor
open Go.Abs Go.Abs.Sh Tryz
open List (map flatten)
open Value (int)
theorem qd (mx:Int×Nat×Value) (c:aB) (i:Int) (at_:Int) (g:aA) (b:(List Int)) (r:(aA×(List ay)×Int)) (h:Sh.ix c i at_ g b=some r):iq Tryz.prog (GL mx) 13 [.agg [.v (.string ((c.LB.getD 0 (⟨#[]⟩:Mf)))),.v (.string ((c.LB.getD 1 (⟨#[]⟩:Mf)))),.v (.int .i64 c.LC),.v (.string c.Mc),.v (.string c.Ma),.v (.int .i64 c.LN),.v (.bool c.LH)],.v (.int .i64 i),.v (.int .i64 at_),.agg [.v (.int .i64 g.LW),.v (.string g.LI),.v (.bool g.LD.LQ),.v (.string g.LD.LM),.v (.string g.LD.LA),.fl .shr 3 (flatten (map T_Path.enc g.To)),.v (.bool g.LY),.fl .shr 1 (map (int .u8) g.Lx),.v (.string g.Ly),.v (.bool g.LX)],.fl .shr 1 (map (int .u8) b)] (.tup [.agg [.v (.int .i64 r.1.LW),.v (.string r.1.LI),.v (.bool r.1.LD.LQ),.v (.string r.1.LD.LM),.v (.string r.1.LD.LA),.fl .ro 3 (flatten (map T_Path.enc r.1.To)),.v (.bool r.1.LY),.fl .ro 1 (map (int .u8) r.1.Lx),.v (.string r.1.Ly),.v (.bool r.1.LX)],.fr .ro false 12 (flatten (map ay.ienc r.2.1)),.v (.int .i64 r.2.2)]):=by
 unfold Sh.ix at h
 refine yG 88 func13 fun g0 hn hio => ?_
 refine gH hn 2 ?_
 refine yS (.box 30 [vi 0,vs z0,vb false,vs z0,vs z0,vz,vb false,vz,vs z0,vb false]) 2 ⟨oA (aT _ _ xf)⟩ ?_
 refine aV [1,2,4,88,5,8,10] ?_
 refine ab (ab ?_)
 obtain ⟨v1,hv1,h⟩:=zn h
 refine yx hn 1 ?_
 refine ys 1 ⟨lg call35 (nT _ _ _ hv1) 88⟩ ?_
 refine aV [1,2,4,88,5,8,10,13] ?_
 refine aG hn 2 [1,2,4,88,5,8,10,13,20] ?_
 refine zc h rfl (fun h => ?_) (fun h => ?_)
 refine gH hn 0 ?_
 refine yS (.agg [vi 0,vs z0,vb false,vs z0,vs z0,vz,vb false,vz,vs z0,vb false]) 1 ⟨bw _ _ _ _ [1,1,3,1,1,1,1,1] _ _ underlying30 xf (HV _ underlying30) mb.nil rfl rfl rfl⟩ ?_
 refine yk [21,10] [] ?_
 refine yt (10,.box 30 [vi 0,vs z0,vb false,vs z0,vs z0,vz,vb false,vz,vs z0,vb false]) 2 ⟨dt _ _ _ 21 10 10 sS rfl rfl rfl rfl rfl (.eq _ (.eq _ (.eq _ (.eq _ (.eq _ (.eq _ (.eq _ (.eq _ (.eq _ (.eq _ (.nil _))))))))))) rfl⟩ ?_
 refine aV [88,10,11,12] ?_
 refine ak ?_
 refine ah [1,2,3] (by kernel_rfl) (es':=[(_,_),(_,_),(_,_)]) rfl ?_
 refine cq (fs:=[(10,.box 30 [vi 0,vs z0,vb false,vs z0,vs z0,.fl (.own 26) 3 (flatten (map T_Path.enc [])),vb false,.fl (.own 5) 1 (map (int .u8) []),vs z0,vb false]),(11,.fr (.own 55) false 12 (flatten (map ay.ienc []))),(12,vi v1)]) (.box _ _ (af (aj _) (af (aj _) (af (aj _) (af (aj _) (af (aj _) (af (bL 26 3) (af (aj _) (af (bL 5 1) (af (aj _) (af (aj _) (bC))))))))))) rfl (.sub _ (mQ 55 false 12) rfl (.same _ .nil))) ?_
 refine fB 0 hio (es':=[(10,.box 30 [.v (.int .i64 0),.v (.string (⟨#[]⟩:Mf)),.v (.bool false),.v (.string (⟨#[]⟩:Mf)),.v (.string (⟨#[]⟩:Mf)),.fl .ro 3 (flatten (map T_Path.enc [])),.v (.bool false),.fl .ro 1 (map (int .u8) []),.v (.string (⟨#[]⟩:Mf)),.v (.bool false)]),(11,.fr (.own 55) false 12 (flatten (map ay.ienc []))),(12,.v (.int .i64 v1))]) rfl ?_
 refine fB 1 hio (es':=[(10,.box 30 [.v (.int .i64 0),.v (.string (⟨#[]⟩:Mf)),.v (.bool false),.v (.string (⟨#[]⟩:Mf)),.v (.string (⟨#[]⟩:Mf)),.fl .ro 3 (flatten (map T_Path.enc [])),.v (.bool false),.fl .ro 1 (map (int .u8) []),.v (.string (⟨#[]⟩:Mf)),.v (.bool false)]),(11,.fr .ro false 12 (flatten (map ay.ienc []))),(12,.v (.int .i64 v1))]) rfl ?_
 refine ag ?_
 obtain rfl:=zi h
 exact al hio rfl (.cellA _ _ _ _ underlying30 rfl sS (.tmp _ _ (.tmp _ _ .nil))) rfl rfl
 refine am ?_
 refine ae (ab ?_)
 refine ab ?_
 refine aq h (fun (s383:Bool)=>[(1,vi i),(2,vi at_),(4,fb b),(88,.glob (GL mx)),(5,.box 24 (aB.c c [])),(8,.box 30 (aA.c g [])),(10,.box 30 [vi 0,vs z0,vb false,vs z0,vs z0,vz,vb false,vz,vs z0,vb false]),(41,vb s383)]) ?_ ?_
 rintro s383 h
 refine ae ?_
 refine zc h rfl (fun h => ?_) (fun h => ?_)
 refine gH hn 0 ?_
 refine yS (.agg [vi 0,vs z0,vb false,vs z0,vs z0,vz,vb false,vz,vs z0,vb false]) 0 ⟨bw _ _ _ _ [1,1,3,1,1,1,1,1] _ _ underlying30 xf (HV _ underlying30) mb.nil rfl rfl rfl⟩ ?_
 refine yk [42,10] [] ?_
 refine yt (10,.box 30 [vi 0,vs z0,vb false,vs z0,vs z0,vz,vb false,vz,vs z0,vb false]) 2 ⟨dt _ _ _ 42 10 10 sS rfl rfl rfl rfl rfl (.eq _ (.eq _ (.eq _ (.eq _ (.eq _ (.eq _ (.eq _ (.eq _ (.eq _ (.eq _ (.nil _))))))))))) rfl⟩ ?_
 refine aV [88,10,11,12] ?_
 refine ak ?_
 refine ah [1,2,3] (by kernel_rfl) (es':=[(_,_),(_,_),(_,_)]) rfl ?_
 refine cq (fs:=[(10,.box 30 [vi 0,vs z0,vb false,vs z0,vs z0,.fl (.own 26) 3 (flatten (map T_Path.enc [])),vb false,.fl (.own 5) 1 (map (int .u8) []),vs z0,vb false]),(11,.fr (.own 55) false 12 (flatten (map ay.ienc []))),(12,vi 1)]) (.box _ _ (af (aj _) (af (aj _) (af (aj _) (af (aj _) (af (aj _) (af (bL 26 3) (af (aj _) (af (bL 5 1) (af (aj _) (af (aj _) (bC))))))))))) rfl (.sub _ (mQ 55 false 12) rfl (.same _ .nil))) ?_
 refine fB 0 hio (es':=[(10,.box 30 [.v (.int .i64 0),.v (.string (⟨#[]⟩:Mf)),.v (.bool false),.v (.string (⟨#[]⟩:Mf)),.v (.string (⟨#[]⟩:Mf)),.fl .ro 3 (flatten (map T_Path.enc [])),.v (.bool false),.fl .ro 1 (map (int .u8) []),.v (.string (⟨#[]⟩:Mf)),.v (.bool false)]),(11,.fr (.own 55) false 12 (flatten (map ay.ienc []))),(12,.v (.int .i64 1))]) rfl ?_
 refine fB 1 hio (es':=[(10,.box 30 [.v (.int .i64 0),.v (.string (⟨#[]⟩:Mf)),.v (.bool false),.v (.string (⟨#[]⟩:Mf)),.v (.string (⟨#[]⟩:Mf)),.fl .ro 3 (flatten (map T_Path.enc [])),.v (.bool false),.fl .ro 1 (map (int .u8) []),.v (.string (⟨#[]⟩:Mf)),.v (.bool false)]),(11,.fr .ro false 12 (flatten (map ay.ienc []))),(12,.v (.int .i64 1))]) rfl ?_
 refine ag ?_
 obtain rfl:=zi h
 exact al hio rfl (.cellA _ _ _ _ underlying30 rfl sS (.tmp _ _ (.tmp _ _ .nil))) rfl rfl
 refine am ?_
 refine ae (ab ?_)
 obtain ⟨v10,hv10,h⟩:=zn h
 refine wb [[8]] ?_
 refine wN [43] ?_
 refine wo [[5],[1],[2]] ⟨lk call37 (pt _ _ hv10)⟩ ?_
 refine wK [44] [45,46,47] ?_
 refine wt [(48,.agg (vi v10.LW::vs v10.LI::vb v10.LD.LQ::vs v10.LD.LM::vs v10.LD.LA::.fl (.own 26) 3 (flatten (map T_Path.enc v10.To))::vb v10.LY::.fl (.own 5) 1 (map (int .u8) v10.Lx)::vs v10.Ly::vb v10.LX::aB.c c [vi i,vi at_,vz]))] [] ⟨bw _ _ _ _ [10,7,1,1,1] _ _ underlying80 Ke (JV _ underlying80) (.take _ _ (.copy _ (.copy _ (.copy _ mb.nil)))) rfl rfl rfl⟩ ?_
 refine wK [48] [] ?_
 refine wt [(49,.box 80 (vi v10.LW::vs v10.LI::vb v10.LD.LQ::vs v10.LD.LM::vs v10.LD.LA::.fl (.own 26) 3 (flatten (map T_Path.enc v10.To))::vb v10.LY::.fl (.own 5) 1 (map (int .u8) v10.Lx)::vs v10.Ly::vb v10.LX::aB.c c [vi i,vi at_,vz]))] [] ⟨xS _ _ _ _ _ rfl rfl rfl⟩ ?_
 refine wK [49] [] ?_
 refine wt [(14,.box 80 (vi v10.LW::vs v10.LI::vb v10.LD.LQ::vs v10.LD.LM::vs v10.LD.LA::.fl (.own 26) 3 (flatten (map T_Path.enc v10.To))::vb v10.LY::.fl (.own 5) 1 (map (int .u8) v10.Lx)::vs v10.Ly::vb v10.LX::aB.c c [vi i,vi at_,vz]))] [] ⟨gr _ _ _ _ rfl⟩ ?_
 refine sf hn [4,88,10,14] ?_
 refine ab ?_
 refine aG hn 3 [88,10,14,50,51,52] ?_
 refine mK (fs:=[(88,.glob (GL mx)),(10,.box 30 [vi 0,vs z0,vb false,vs z0,vs z0,vz,vb false,vz,vs z0,vb false]),(14,.box 80 (vi v10.LW::vs v10.LI::vb v10.LD.LQ::vs v10.LD.LM::vs v10.LD.LA::.fl (.own 26) 3 (flatten (map T_Path.enc v10.To))::vb v10.LY::.mkr 5 (map (int .u8) v10.Lx)::vs v10.Ly::vb v10.LX::aB.c c [vi i,vi at_,.fr (.own 55) false 12 (flatten (map ay.ienc []))])),(50,fb b),(51,vi (b.length:Int)),(52,vi 0)]) (.same _ (.same _ (.box _ _ (af (aj _) (af (aj _) (af (aj _) (af (aj _) (af (aj _) (af (aj _) (af (aj _) (af (yD 5 _) (af (aj _) (af (aj _) (af (aj _) (af (aj _) (af (aj _) (af (aj _) (af (aj _) (af (aj _) (af (aj _) (af (aj _) (af (aj _) (af (mQ 55 false 12) (bC))))))))))))))))))))) rfl (.same _ (.same _ (.same _ .nil)))))) ?_
 refine aS h (fun ((s557,s558,s559,s560,s561,s562,s563,s564,s565,s566,s567,s568,s569,s570,s571,s572,s573,s574,s575,s576,s577):Int×Mf×Bool×Mf×Mf×(List T_Path)×Bool×(List Int)×Mf×Bool×Mf×Mf×Int×Mf×Mf×Int×Bool×Int×Int×(List ay)×Int)=>[(88,.glob (GL mx)),(10,.box 30 [vi 0,vs z0,vb false,vs z0,vs z0,vz,vb false,vz,vs z0,vb false]),(14,.box 80 [vi s557,vs s558,vb s559,vs s560,vs s561,.fl (.own 26) 3 (flatten (map T_Path.enc s562)),vb s563,.mkr 5 (map (int .u8) s564),vs s565,vb s566,vs s567,vs s568,vi s569,vs s570,vs s571,vi s572,vb s573,vi s574,vi s575,.fr (.own 55) false 12 (flatten (map ay.ienc s576))]),(50,fb b),(51,vi (b.length:Int)),(52,vi s577)]) (fun ((s652,s653,s654,s655,s656,s657,s658,s659,s660,s661,s662,s663,s664,s665,s666,s667,s668,s669,s670,s671):aa.t)=>[(88,.glob (GL mx)),(10,.box 30 [vi 0,vs z0,vb false,vs z0,vs z0,vz,vb false,vz,vs z0,vb false]),(14,.box 80 [vi s652,vs s653,vb s654,vs s655,vs s656,.fl (.own 26) 3 (flatten (map T_Path.enc s657)),vb s658,.mkr 5 (map (int .u8) s659),vs s660,vb s661,vs s662,vs s663,vi s664,vs s665,vs s666,vi s667,vb s668,vi s669,vi s670,.fr (.own 55) false 12 (flatten (map ay.ienc s671))])]) ?_ ?_
 rintro ⟨s652,s653,s654,s655,s656,s657,s658,s659,s660,s661,s662,s663,s664,s665,s666,s667,s668,s669,s670,s671⟩ h
 refine ae (ab ?_)
 refine vN 2 hio (es':=[(88,.glob (GL mx)),(10,.box 30 [.v (.int .i64 0),.v (.string (⟨#[]⟩:Mf)),.v (.bool false),.v (.string (⟨#[]⟩:Mf)),.v (.string (⟨#[]⟩:Mf)),vz,.v (.bool false),vz,.v (.string (⟨#[]⟩:Mf)),.v (.bool false)]),(14,.box 80 [.v (.int .i64 s652),.v (.string s653),.v (.bool s654),.v (.string s655),.v (.string s656),.fl .ro 3 (flatten (map T_Path.enc s657)),.v (.bool s658),.fl .ro 1 (map (int .u8) s659),.v (.string s660),.v (.bool s661),.v (.string s662),.v (.string s663),.v (.int .i64 s664),.v (.string s665),.v (.string s666),.v (.int .i64 s667),.v (.bool s668),.v (.int .i64 s669),.v (.int .i64 s670),.fr .ro false 12 (flatten (map ay.ienc s671))])]) rfl ?_
 obtain ⟨v381,hv381,h⟩:=zn h
 refine wb [[],[79,14],[80,14],[81,14]] ?_
 refine wN [82] ?_
 refine wo [[],[84,14],[85,14],[86,14]] ⟨lk call37 (pt _ _ hv381)⟩ ?_
 refine wK [83,10] [] ?_
 refine wt [(10,.box 30 [vi v381.LW,vs v381.LI,vb v381.LD.LQ,vs v381.LD.LM,vs v381.LD.LA,.fl (.own 26) 3 (flatten (map T_Path.enc v381.To)),vb v381.LY,.fl (.own 5) 1 (map (int .u8) v381.Lx),vs v381.Ly,vb v381.LX])] [[87],[]] ⟨aM _ _ _ _ _ _ _ _ sS rfl rfl rfl (zl rfl) rfl rfl⟩ ?_
 refine sf hn [88,10,11,12] ?_
 refine ak ?_
 refine ah [1,2,3] (by kernel_rfl) (es':=[(_,_),(_,_),(_,_)]) rfl ?_
 refine fB 0 hio (es':=[(10,.box 30 [.v (.int .i64 v381.LW),.v (.string v381.LI),.v (.bool v381.LD.LQ),.v (.string v381.LD.LM),.v (.string v381.LD.LA),.fl .ro 3 (flatten (map T_Path.enc v381.To)),.v (.bool v381.LY),.fl .ro 1 (map (int .u8) v381.Lx),.v (.string v381.Ly),.v (.bool v381.LX)]),(11,.fr .ro false 12 (flatten (map ay.ienc s671))),(12,.v (.int .i64 0))]) rfl ?_
 obtain rfl:=zi h
 exact al hio rfl (.cellA _ _ _ _ underlying30 rfl sS (.tmp _ _ (.tmp _ _ .nil))) rfl rfl
 rintro u672 hl673 hr674 ⟨s557,s558,s559,s560,s561,s562,s563,s564,s565,s566,s567,s568,s569,s570,s571,s572,s573,s574,s575,s576,s577⟩ rr677 h ho675
 refine aG hn 1 [88,10,14,50,51,52,53] ?_
 refine ab ?_
 refine zc h rfl (fun h => ?_) (fun h => ?_)
 refine am ?_
 refine ae (ab ?_)
 refine aq h (fun ((s704,s705,s706,s707,s708,s709,s710,s711,s712,s713,s714,s715,s716,s717,s718,s719,s720,s721,s722,s723):aa.t)=>[(88,.glob (GL mx)),(10,.box 30 [vi 0,vs z0,vb false,vs z0,vs z0,vz,vb false,vz,vs z0,vb false]),(14,.box 80 [vi s704,vs s705,vb s706,vs s707,vs s708,.fl (.own 26) 3 (flatten (map T_Path.enc s709)),vb s710,.mkr 5 (map (int .u8) s711),vs s712,vb s713,vs s714,vs s715,vi s716,vs s717,vs s718,vi s719,vb s720,vi s721,vi s722,.fr (.own 55) false 12 (flatten (map ay.ienc s723))]),(50,fb b),(51,vi (b.length:Int)),(52,vi s577)]) ?_ ?_
 rintro ⟨s704,s705,s706,s707,s708,s709,s710,s711,s712,s713,s714,s715,s716,s717,s718,s719,s720,s721,s722,s723⟩ h
 refine ae ?_
 obtain ⟨v90,hv90,h⟩:=zn h
 refine yx hn 0 ?_
 refine ys 0 ⟨lb hv90⟩ ?_
 refine yw [52] 1 ?_
 refine ye [88,10,14,50,51,52] ?_
 exact bb _ (zi h).symm rfl
 intro u724 h hl725 hr726
 refine aC (ab ?_)
 obtain ⟨v12,hv12,v13,hv13,h⟩:=dM h
 refine yx hn 1 ?_
 refine ys 0 ⟨li hv12⟩ ?_
 refine ys 2 ⟨ll hv13⟩ ?_
 refine aV [88,10,14,50,51,52,15,16] ?_
 refine ab ?_
 obtain ⟨v14,hv14,h⟩:=zn h
 refine yx hn 7 ?_
 refine yS (.fl (.own 5) 1 (map (int .u8) [v13])) 0 ⟨bf _ _ 1 (.int .u8 0) (map (int .u8) [v13]) [(0,.int .u8 v13)] underlying28 lJ rM (fun _ V w o a hv hes=>by have e0:=bZ hv hes (x := .tmp 63) rfl; simp only [List.map_toArray,List.map_cons,List.map_nil,e0]; try rfl) (cN (by simp [Instr.fill,Value.cells]; rfl) (by simp [List.range,List.range.loop] <;> rfl)) (by simp [Value.oneCell']) rfl (by decide) (by decide) (by decide)⟩ ?_
 refine yk [14] [62,64] ?_
 refine mS (14,.box 80 [vi s557,vs s558,vb s559,vs s560,vs s561,.fl (.own 26) 3 (flatten (map T_Path.enc s562)),vb s563,.any,vs s565,vb s566,vs s567,vs s568,vi s569,vs s570,vs s571,vi s572,vb s573,vi s574,vi s575,.fr (.own 55) false 12 (flatten (map ay.ienc s576))]) (65,.mkr 5 (map (int .u8) v14)) 3 ⟨uc _ 65 14 7 _ _ fZ rfl rfl (zl rfl) rfl rfl rfl hv14 rfl (Nat.ne_of_beq_eq_false rfl) rfl rfl⟩ ?_
 refine yw [62] 0 ?_
 refine yk [65,14] [68] ?_
 refine yt (14,.box 80 [vi s557,vs s558,vb s559,vs s560,vs s561,.fl (.own 26) 3 (flatten (map T_Path.enc s562)),vb s563,.mkr 5 (map (int .u8) v14),vs s565,vb s566,vs s567,vs s568,vi s569,vs s570,vs s571,vi s572,vb s573,vi s574,vi s575,.fr (.own 55) false 12 (flatten (map ay.ienc s576))]) 0 ⟨aM _ _ _ _ _ _ _ _ lu rfl rfl rfl (zl rfl) rfl rfl⟩ ?_
 refine aV [88,10,14,50,51,52,15,16] ?_
 refine ab ?_
 refine aq h (fun ((s727,s728,s729,s730,s731,s732,s733,s734,s735,s736,s737,s738,s739,s740,s741,s742,s743,s744,s745,s746,s747):Int×Mf×Bool×Mf×Mf×(List T_Path)×Bool×(List Int)×Mf×Bool×Mf×Mf×Int×Mf×Mf×Int×Bool×Int×Int×(List ay)×Bool)=>[(88,.glob (GL mx)),(10,.box 30 [vi 0,vs z0,vb false,vs z0,vs z0,vz,vb false,vz,vs z0,vb false]),(14,.box 80 [vi s727,vs s728,vb s729,vs s730,vs s731,.fl (.own 26) 3 (flatten (map T_Path.enc s732)),vb s733,.mkr 5 (map (int .u8) s734),vs s735,vb s736,vs s737,vs s738,vi s739,vs s740,vs s741,vi s742,vb s743,vi s744,vi s745,.fr (.own 55) false 12 (flatten (map ay.ienc s746))]),(50,fb b),(51,vi (b.length:Int)),(52,vi s577),(75,vb s747)]) ?_ ?_
 rintro ⟨s727,s728,s729,s730,s731,s732,s733,s734,s735,s736,s737,s738,s739,s740,s741,s742,s743,s744,s745,s746,s747⟩ h
 refine ae ?_
 refine zc h rfl (fun h => ?_) (fun h => ?_)
 obtain ⟨v41,hv41,h⟩:=zn h
 refine yx hn 1 ?_
 refine yk [14] [76,88] ?_
 refine mS (14,.box 80 (aa.b v41)) (77,.tup []) 0 ⟨fx _ _ _ _ 77 88 39 [.tmp 76] [] _ _ _ rfl call39 rfl rfl rfl rfl (fun _ h=>h) (pn mx ((aa.mk ((aA.mk s727 s728 (T_Path.mk s729 s730 s731) s732 s733 s734 s735 s736)) ((aB.mk ([s737,s738]:List Mf) s739 s740 s741 s742 s743)) s744 s745 s746)) _ hv41) (zl rfl) rfl rfl rfl rfl rfl rfl rfl⟩ ?_
 refine ye [88,10,14,50,51,52] ?_
 refine aI ?_
 exact hl725 _ (zi h).symm
 refine am (aI ?_)
 refine ah [0,1,2,3,4,5] (by kernel_rfl) (es':=[(_,_),(_,_),(_,_),(_,_),(_,_),(_,_)]) rfl ?_
 exact hl725 _ (zi h).symm
 intro u748 h hl749 hr750
 refine ai h (fun hg11_2 h => ?_) (fun hg11_2 h => ?_)
 refine yx hn 3 ?_
 refine yd hg11_2 4 ?_
 refine ye [88,10,14,50,51,52,75] ?_
 exact hl749 _ (zi h).symm
 obtain ⟨v15,hv15,h⟩:=zn h
 refine yx hn 3 ?_
 refine yd hg11_2 2 ?_
 refine yQ call38 (lG _ _ _ hv15) 14 [72,73] 1 ?_
 refine ye [88,10,14,50,51,52,75] ?_
 exact hl749 _ (zi h).symm
 refine ba (ap (ap (aZ ?_)))
 refine ah [0,1,2] (by kernel_rfl) (es':=[(_,_),(_,_),(_,_)]) rfl ?_
 exact hl673 _ (ho675 _ (zi h).symm).symm
 intro u384 h hl385 hr386
 refine ai h (fun hg4_2 h => ?_) (fun hg4_2 h => ?_)
 refine ai h (fun hg4_6 h => ?_) (fun hg4_6 h => ?_)
 refine yx hn 3 ?_
 refine yd hg4_2 4 ?_
 refine yd hg4_6 12 ?_
 refine ye [1,2,4,88,5,8,10,41] ?_
 exact hl385 _ (zi h).symm
 refine ai h (fun hg4_10 h => ?_) (fun hg4_10 h => ?_)
 refine yx hn 3 ?_
 refine yd hg4_2 4 ?_
 refine yd hg4_6 4 ?_
 refine yd hg4_10 8 ?_
 refine ye [1,2,4,88,5,8,10,41] ?_
 exact hl385 _ (zi h).symm
 refine ai h (fun hg4_14 h => ?_) (fun hg4_14 h => ?_)
 refine yx hn 3 ?_
 refine yd hg4_2 4 ?_
 refine yd hg4_6 4 ?_
 refine yd hg4_10 4 ?_
 refine yd hg4_14 4 ?_
 refine ye [1,2,4,88,5,8,10,41] ?_
 exact hl385 _ (zi h).symm
 obtain ⟨v3,hv3,h⟩:=zn h
 refine yx hn 3 ?_
 refine yd hg4_2 4 ?_
 refine yd hg4_6 4 ?_
 refine yd hg4_10 4 ?_
 refine yd hg4_14 1 ?_
 refine ys 2 ⟨lk call36 (pr _ _ hv3)⟩ ?_
 refine ye [1,2,4,88,5,8,10,41] ?_
 exact hl385 _ (zi h).symm
 refine ai h (fun hg4_10 h => ?_) (fun hg4_10 h => ?_)
 refine yx hn 3 ?_
 refine yd hg4_2 8 ?_
 refine yd hg4_10 8 ?_
 refine ye [1,2,4,88,5,8,10,41] ?_
 exact hl385 _ (zi h).symm
 refine ai h (fun hg4_14 h => ?_) (fun hg4_14 h => ?_)
 refine yx hn 3 ?_
 refine yd hg4_2 8 ?_
 refine yd hg4_10 4 ?_
 refine yd hg4_14 4 ?_
 refine ye [1,2,4,88,5,8,10,41] ?_
 exact hl385 _ (zi h).symm
 obtain ⟨v4,hv4,h⟩:=zn h
 refine yx hn 3 ?_
 refine yd hg4_2 8 ?_
 refine yd hg4_10 4 ?_
 refine yd hg4_14 1 ?_
 refine ys 2 ⟨lk call36 (pr _ _ hv4)⟩ ?_
 refine ye [1,2,4,88,5,8,10,41] ?_
 exact hl385 _ (zi h).symm
theorem fY (mx:Int×Nat×Value) (r:Bool) (h:Sh.cV  = some r):iq Tryz.prog (GL mx) 14 [] (.v (.bool r)):=by
 unfold Sh.cV at h
 refine yG 51 func14 fun g0 hn hio => ?_
 refine aG hn 1 [51] ?_
 refine ab ?_
 obtain ⟨v1,hv1,v2,hv2,v3,hv3,h⟩:=ng h
 refine yx hn 0 ?_
 refine ys 0 ⟨lk call20 (dO _ hv1)⟩ ?_
 refine ys 0 ⟨lk call22 (ry _ _ hv2)⟩ ?_
 refine yS (.fl (.own 5) 1 (map (int .u8) [77,65,73,76,32,70,82,79,77,58,60,62,13,10,69,72,76,79,32,104,13,10])) 0 ⟨bf _ _ 1 (.int .u8 0) (map (int .u8) [77,65,73,76,32,70,82,79,77,58,60,62,13,10,69,72,76,79,32,104,13,10]) [(0,.int .u8 77),(1,.int .u8 65),(2,.int .u8 73),(3,.int .u8 76),(4,.int .u8 32),(5,.int .u8 70),(6,.int .u8 82),(7,.int .u8 79),(8,.int .u8 77),(9,.int .u8 58),(10,.int .u8 60),(11,.int .u8 62),(12,.int .u8 13),(13,.int .u8 10),(14,.int .u8 69),(15,.int .u8 72),(16,.int .u8 76),(17,.int .u8 79),(18,.int .u8 32),(19,.int .u8 104),(20,.int .u8 13),(21,.int .u8 10)] underlying28 lJ rM (fun _ V w o a hv hes=>by simp only [List.map_toArray,List.map_cons,List.map_nil]; try rfl) (cN (by simp [Instr.fill,Value.cells]; rfl) (by simp [List.range,List.range.loop] <;> rfl)) (by simp [Value.oneCell']) rfl (by decide) (by decide) (by decide)⟩ ?_
 refine yk [7] [] ?_
 refine yt (8,.fl .ro 1 (map (int .u8) [77,65,73,76,32,70,82,79,77,58,60,62,13,10,69,72,76,79,32,104,13,10])) 0 ⟨gw _ _ _ underlying28 underlying5 (by intro h; cases h)⟩ ?_
 refine ys 0 ⟨lg call13 (qd _ _ _ _ _ _ _ hv3) 51⟩ ?_
 refine ym 0 ?_
 refine yS (.agg [vi v3.1.LW,vs v3.1.LI,vb v3.1.LD.LQ,vs v3.1.LD.LM,vs v3.1.LD.LA,.fl .ro 3 (flatten (map T_Path.enc v3.1.To)),vb v3.1.LY,.fl .ro 1 (map (int .u8) v3.1.Lx),vs v3.1.Ly,vb v3.1.LX]) 2 ⟨fN _ _ _ _ _ _ rfl rfl (zl rfl) rfl rfl⟩ ?_
 refine yS (.box 30 [vi 0,vs z0,vb false,vs z0,vs z0,vz,vb false,vz,vs z0,vb false]) 3 ⟨oA (aT _ _ xf)⟩ ?_
 refine aV [51,1,2,3] ?_
 refine ab ?_
 refine aq h (fun (s10:Bool)=>[(51,.glob (GL mx)),(0,vb s10)]) ?_ ?_
 rintro s10 h
 refine ae (ak ?_)
 refine ah [1] (by kernel_rfl) (es':=[(_,_)]) rfl ?_
 obtain rfl:=zi h
 exact al hio rfl (.tmp _ _ .nil) rfl rfl
 intro u11 h hl12 hr13
 refine ai h (fun hg2_2 h => ?_) (fun hg2_2 h => ?_)
 refine ai h (fun hg2_7 h => ?_) (fun hg2_7 h => ?_)
 obtain ⟨v4,hv4,v5,hv5,h⟩:=dM h
 refine ai h (fun hg2_15 h => ?_) (fun hg2_15 h => ?_)
 obtain ⟨v6,hv6,v7,hv7,h⟩:=dM h
 refine ai h (fun hg2_23 h => ?_) (fun hg2_23 h => ?_)
 refine ai h (fun hg2_28 h => ?_) (fun hg2_28 h => ?_)
 refine ai h (fun hg2_33 h => ?_) (fun hg2_33 h => ?_)
 obtain ⟨v8,hv8,v9,hv9,h⟩:=dM h
 refine yx hn 3 ?_
 refine yd hg2_2 5 ?_
 refine yd hg2_7 1 ?_
 refine ys 2 ⟨lI hv4⟩ ?_
 refine yS (vi v5.LZ.Lz) 3 ⟨dq _ _ _ _ _ _ _ underlying3 rfl rfl rfl (dn (j:=0) ay.ilen hv5 rfl) (.v _)⟩ ?_
 refine yd hg2_15 1 ?_
 refine ys 2 ⟨lI hv6⟩ ?_
 refine yS (vi v7.LZ.Lz) 3 ⟨dq _ _ _ _ _ _ _ underlying3 rfl rfl rfl (dn (j:=0) ay.ilen hv7 rfl) (.v _)⟩ ?_
 refine yd hg2_23 5 ?_
 refine yd hg2_28 5 ?_
 refine yd hg2_33 0 ?_
 refine ys 0 ⟨lk call20 (dO _ hv8)⟩ ?_
 refine ys 3 ⟨lg call35 (nT _ _ _ hv9) 51⟩ ?_
 refine ye [51,0] ?_
 exact hl12 _ (zi h).symm
 refine yx hn 3 ?_
 refine yd hg2_2 5 ?_
 refine yd hg2_7 1 ?_
 refine ys 2 ⟨lI hv4⟩ ?_
 refine yS (vi v5.LZ.Lz) 3 ⟨dq _ _ _ _ _ _ _ underlying3 rfl rfl rfl (dn (j:=0) ay.ilen hv5 rfl) (.v _)⟩ ?_
 refine yd hg2_15 1 ?_
 refine ys 2 ⟨lI hv6⟩ ?_
 refine yS (vi v7.LZ.Lz) 3 ⟨dq _ _ _ _ _ _ _ underlying3 rfl rfl rfl (dn (j:=0) ay.ilen hv7 rfl) (.v _)⟩ ?_
 refine yd hg2_23 5 ?_
 refine yd hg2_28 5 ?_
 refine yd hg2_33 5 ?_
 refine ye [51,0] ?_
 exact hl12 _ (zi h).symm
 refine yx hn 3 ?_
 refine yd hg2_2 5 ?_
 refine yd hg2_7 1 ?_
 refine ys 2 ⟨lI hv4⟩ ?_
 refine yS (vi v5.LZ.Lz) 3 ⟨dq _ _ _ _ _ _ _ underlying3 rfl rfl rfl (dn (j:=0) ay.ilen hv5 rfl) (.v _)⟩ ?_
 refine yd hg2_15 1 ?_
 refine ys 2 ⟨lI hv6⟩ ?_
 refine yS (vi v7.LZ.Lz) 3 ⟨dq _ _ _ _ _ _ _ underlying3 rfl rfl rfl (dn (j:=0) ay.ilen hv7 rfl) (.v _)⟩ ?_
 refine yd hg2_23 5 ?_
 refine yd hg2_28 10 ?_
 refine ye [51,0] ?_
 exact hl12 _ (zi h).symm
 refine yx hn 3 ?_
 refine yd hg2_2 5 ?_
 refine yd hg2_7 1 ?_
 refine ys 2 ⟨lI hv4⟩ ?_
 refine yS (vi v5.LZ.Lz) 3 ⟨dq _ _ _ _ _ _ _ underlying3 rfl rfl rfl (dn (j:=0) ay.ilen hv5 rfl) (.v _)⟩ ?_
 refine yd hg2_15 1 ?_
 refine ys 2 ⟨lI hv6⟩ ?_
 refine yS (vi v7.LZ.Lz) 3 ⟨dq _ _ _ _ _ _ _ underlying3 rfl rfl rfl (dn (j:=0) ay.ilen hv7 rfl) (.v _)⟩ ?_
 refine yd hg2_23 15 ?_
 refine ye [51,0] ?_
 exact hl12 _ (zi h).symm
 refine yx hn 3 ?_
 refine yd hg2_2 5 ?_
 refine yd hg2_7 1 ?_
 refine ys 2 ⟨lI hv4⟩ ?_
 refine yS (vi v5.LZ.Lz) 3 ⟨dq _ _ _ _ _ _ _ underlying3 rfl rfl rfl (dn (j:=0) ay.ilen hv5 rfl) (.v _)⟩ ?_
 refine yd hg2_15 23 ?_
 refine ye [51,0] ?_
 exact hl12 _ (zi h).symm
 refine yx hn 3 ?_
 refine yd hg2_2 5 ?_
 refine yd hg2_7 31 ?_
 refine ye [51,0] ?_
 exact hl12 _ (zi h).symm
 refine yx hn 3 ?_
 refine yd hg2_2 36 ?_
 refine ye [51,0] ?_
 exact hl12 _ (zi h).symm
theorem cy (n:Int) (r:Mf) (h:Sh.bK n=some r):bF Tryz.prog 31 [.v (.int .i64 n)] (.v (.string r)):=by
 unfold Sh.bK at h
 refine yO 22 func31 fun g0 hn hio => ?_
 refine aG hn 1 [0] ?_
 refine aG hn 1 [0,3] ?_
 refine ab ?_
 refine aS h (fun ((s11,s12):Int×Mf)=>[(0,vi s11),(3,vs s12)]) (fun ((s14,s15):Int×Mf)=>[(0,vi s14),(3,vs s15)]) ?_ ?_
 rintro ⟨s14,s15⟩ h
 refine ae (ab ?_)
 obtain ⟨v23,hv23,v24,hv24,v25,hv25,h⟩:=ng h
 refine yx hn 2 ?_
 refine ys 0 ⟨lb hv23⟩ ?_
 refine yS (vs v24) 1 ⟨cM _ _ _ s14 v23 _ underlying9 rfl ⟨_,rfl⟩ ⟨_,rfl⟩ hv24⟩ ?_
 refine ys 1 ⟨lB (bu hv25)⟩ ?_
 refine aV [2] ?_
 refine ak ?_
 obtain rfl:=zi h
 exact al hio rfl (.tmp _ _ .nil) rfl rfl
 rintro u16 hl17 hr18 ⟨s11,s12⟩ rr21 h ho19
 refine ab ?_
 refine aG hn 2 [0,3,5] ?_
 refine zc h rfl (fun h => ?_) (fun h => ?_)
 refine am (ae (aC (ab ?_)))
 obtain ⟨v2,hv2,v3,hv3,v4,hv4,v5,hv5,h⟩:=jX h
 obtain ⟨v6,hv6,h⟩:=zn h
 refine yx hn 1 ?_
 refine ys 1 ⟨lB (jx hv2)⟩ ?_
 refine ys 0 ⟨lB (jx hv3)⟩ ?_
 refine ys 0 ⟨lb hv4⟩ ?_
 refine yS (vs v5) 1 ⟨cM _ _ _ v2 v4 _ underlying9 rfl ⟨_,rfl⟩ ⟨_,rfl⟩ hv5⟩ ?_
 refine ys 0 ⟨lB (bu hv6)⟩ ?_
 refine yw [3] 1 ?_
 refine aV [0,3] ?_
 obtain ⟨v7,hv7,h⟩:=zn h
 refine yx hn 1 ?_
 refine ys 0 ⟨lB (rk hv7)⟩ ?_
 refine yw [0] 1 ?_
 refine ye [3,0] ?_
 refine aI ?_
 refine ah [1,0] (by kernel_rfl) (es':=[(_,_),(_,_)]) rfl ?_
 exact bb _ (zi h).symm rfl
 refine ba (ap (ap (aZ ?_)))
 refine ah [0,1] (by kernel_rfl) (es':=[(_,_),(_,_)]) rfl ?_
 exact hl17 _ (ho19 _ (zi h).symm).symm
theorem nr (helo:Mf) (site:Mf) (at_:Int) (r:(List Int)) (h:Sh.fV helo site at_=some r):bF Tryz.prog 23 [.v (.string helo),.v (.string site),.v (.int .i64 at_)] (.mkr 5 (map (int .u8) r)):=by
 unfold Sh.fV at h
 refine yO 18 func23 fun g0 hn hio => ?_
 refine aG hn 1 [0,1,2] ?_
 refine ab ?_
 obtain ⟨v1,hv1,v2,hv2,v3,hv3,v4,hv4,h⟩:=jX h
 obtain ⟨v5,hv5,v6,hv6,v7,hv7,v8,hv8,h⟩:=jX h
 refine yx hn 1 ?_
 refine ys 0 ⟨lB (bu hv1)⟩ ?_
 refine ys 1 ⟨lB (bu hv2)⟩ ?_
 refine ys 0 ⟨lB (bu hv3)⟩ ?_
 refine ys 1 ⟨lB (bu hv4)⟩ ?_
 refine ys 0 ⟨lk call31 (cy _ _ hv5)⟩ ?_
 refine ys 0 ⟨lB (bu hv6)⟩ ?_
 refine ys 0 ⟨lB (bu hv7)⟩ ?_
 refine ys 0 ⟨lU hv8⟩ ?_
 refine ya 0 ?_
 refine aV [6] ?_
 refine ak ?_
 obtain rfl:=zi h
 exact al hio rfl (.tmp _ _ .nil) rfl rfl
theorem lR (l:(List T_Path)) (r:(List T_Path)) (h:Sh.eF l=some r):bF Tryz.prog 47 [.fl .shr 3 (flatten (map T_Path.enc l))] (.fl (.own 26) 3 (flatten (map T_Path.enc r))):=by
 unfold Sh.eF at h
 refine yO 7 func47 fun g0 hn hio => ?_
 refine aG hn 1 [0] ?_
 refine aG hn 1 [0,3] ?_
 refine ab ?_
 obtain ⟨v1,hv1,h⟩:=zn h
 refine yx hn 2 ?_
 refine yS (.fl (.own 26) 3 (flatten (map T_Path.enc v1))) 0 ⟨kE _ _ _ _ EH rfl rfl (gR T_Path.len _) hv1 (congrArg (fun l=>flatten (map _ l)) (kU hv1))⟩ ?_
 refine ya 0 ?_
 refine aV [2] ?_
 refine ak ?_
 obtain rfl:=zi h
 exact al hio rfl (.tmp _ _ .nil) rfl rfl
theorem pG (l:(List Int)) (r:(List Int)) (h:Sh.gV l=some r):bF Tryz.prog 33 [.fl .shr 1 (map (int .u8) l)] (.fl (.own 5) 1 (map (int .u8) r)):=by
 unfold Sh.gV at h
 refine yO 7 func33 fun g0 hn hio => ?_
 refine aG hn 1 [0] ?_
 refine aG hn 1 [0,3] ?_
 refine ab ?_
 obtain ⟨v1,hv1,h⟩:=zn h
 refine yx hn 2 ?_
 refine yS (.fl (.own 5) 1 (map (int .u8) v1)) 0 ⟨kE _ _ _ _ fZ rfl rfl (eW _) hv1 (congrArg (map _) (kU hv1))⟩ ?_
 refine ya 0 ?_
 refine aV [2] ?_
 refine ak ?_
 obtain rfl:=zi h
 exact al hio rfl (.tmp _ _ .nil) rfl rfl
theorem nV (m:az) (r:az) (h:Sh.eI m=some r):bF Tryz.prog 25 [.agg [.v (.bool m.LD.LQ),.v (.string m.LD.LM),.v (.string m.LD.LA),.fl .shr 3 (flatten (map T_Path.enc m.To)),.fl .shr 1 (map (int .u8) m.Lw),.v (.bool m.LY),.v (.string m.LI),.v (.int .i64 m.At)]] (.agg [.v (.bool r.LD.LQ),.v (.string r.LD.LM),.v (.string r.LD.LA),.fl (.own 26) 3 (flatten (map T_Path.enc r.To)),.fl (.own 5) 1 (map (int .u8) r.Lw),.v (.bool r.LY),.v (.string r.LI),.v (.int .i64 r.At)]):=by
 unfold Sh.eI at h
 refine yO 12 func25 fun g0 hn hio => ?_
 refine gH hn 1 ?_
 refine yS (.box 53 [vb false,vs z0,vs z0,vz,vz,vb false,vs z0,vi 0]) 0 ⟨oA (aT _ _ rU)⟩ ?_
 refine aV [1,2] ?_
 refine ab ?_
 obtain ⟨v1,hv1,v2,hv2,h⟩:=dM h
 refine wb [[1],[3,1],[1],[5,1]] ?_
 refine wN [6] ?_
 refine wo [[1],[8,1]] ⟨lk call47 (lR _ _ hv1)⟩ ?_
 refine wN [9] ?_
 refine wo [] ⟨lk call33 (pG _ _ hv2)⟩ ?_
 refine wK [7,10] [4] ?_
 refine wt [(11,.agg [vb m.LD.LQ,vs m.LD.LM,vs m.LD.LA,.fl (.own 26) 3 (flatten (map T_Path.enc v1)),.fl (.own 5) 1 (map (int .u8) v2),vb false,vs z0,vi 0])] [] ⟨bw _ _ _ _ [3,1,1,1,1,1] _ _ underlying53 rU (Hl _ underlying53) (.copy _ (.take _ _ (.take _ _ mb.nil))) rfl rfl rfl⟩ ?_
 refine wK [11,2] [] ?_
 refine wt [(2,.box 53 [vb m.LD.LQ,vs m.LD.LM,vs m.LD.LA,.fl (.own 26) 3 (flatten (map T_Path.enc v1)),.fl (.own 5) 1 (map (int .u8) v2),vb false,vs z0,vi 0])] [] ⟨aM _ _ _ _ _ _ _ _ qW rfl rfl rfl (zl rfl) rfl rfl⟩ ?_
 refine sf hn [2] ?_
 refine ak ?_
 obtain rfl:=zi h
 exact al hio rfl (.cellA _ _ _ _ underlying53 rfl qW .nil) rfl rfl
theorem eU (m:az) (r:Bool) (h:Sh.fp m=some r):bF Tryz.prog 64 [.agg [.v (.bool m.LD.LQ),.v (.string m.LD.LM),.v (.string m.LD.LA),.fl .shr 3 (flatten (map T_Path.enc m.To)),.fl .shr 1 (map (int .u8) m.Lw),.v (.bool m.LY),.v (.string m.LI),.v (.int .i64 m.At)]] (.v (.bool r)):=by
 unfold Sh.fp at h
 refine yO 49 func64 fun g0 hn hio => ?_
 refine aG hn 2 [1] ?_
 refine ab (ab ?_)
 refine aq h (fun (s4:Bool)=>[(1,.box 53 (az.c m [])),(26,vb s4)]) ?_ ?_
 rintro s4 h
 refine ae ?_
 refine zc h rfl (fun h => ?_) (fun h => ?_)
 refine aG hn 1 [2] ?_
 refine ak (ag ?_)
 obtain rfl:=zi h
 exact al hio rfl (.tmp _ _ .nil) rfl rfl
 refine am ?_
 refine ae (ab ?_)
 refine aG hn 1 [1,3] ?_
 refine aS h (fun (s28:Int)=>[(1,.box 53 (az.c m [])),(3,vi s28)]) (fun (():Unit)=>[]) ?_ ?_
 rintro ⟨⟩ h
 refine ae ?_
 refine aG hn 1 [2] ?_
 refine ak ?_
 obtain rfl:=zi h
 exact al hio rfl (.tmp _ _ .nil) rfl rfl
 rintro u35 hl36 hr37 s28 rr40 h ho38
 refine ab ?_
 refine aG hn 5 [1,3,31] ?_
 refine zc h rfl (fun h => ?_) (fun h => ?_)
 refine am ?_
 refine ae (ab ?_)
 refine aC (ab ?_)
 refine aq h (fun (s42:Bool)=>[(1,.box 53 (az.c m [])),(3,vi s28),(48,vb s42)]) ?_ ?_
 rintro s42 h
 refine ae ?_
 refine zc h rfl (fun h => ?_) (fun h => ?_)
 refine aG hn 1 [2] ?_
 refine ak (aF (ag (ag (aF (ag ?_)))))
 have h:=hr37 _ (ho38 _ (zi h).symm).symm
 obtain rfl:=zi h
 exact al hio rfl (.tmp _ _ .nil) rfl rfl
 refine am (aI (ae ?_))
 obtain ⟨v20,hv20,h⟩:=zn h
 refine yx hn 1 ?_
 refine ys 0 ⟨lb hv20⟩ ?_
 refine yw [3] 1 ?_
 refine ye [1,3] ?_
 exact bb _ (zi h).symm rfl
 intro u43 h hl44 hr45
 obtain ⟨v10,hv10,v11,hv11,v12,hv12,h⟩:=ng h
 refine ai h (fun hg6_7 h => ?_) (fun hg6_7 h => ?_)
 refine yx hn 3 ?_
 refine ys 0 ⟨lj hv10⟩ ?_
 refine yS (.agg [vb v11.LQ,vs v11.LM,vs v11.LA]) 0 ⟨fy _ _ _ _ _ _ _ underlying26 rfl pD rfl rfl (gM T_Path.len hv11) rfl (by decide)⟩ ?_
 refine ys 2 ⟨lk call17 (bz _ _ hv12)⟩ ?_
 refine yd hg6_7 7 ?_
 refine ye [1,3,48] ?_
 exact hl44 _ (zi h).symm
 obtain ⟨v13,hv13,v14,hv14,h⟩:=dM h
 refine yx hn 3 ?_
 refine ys 0 ⟨lj hv10⟩ ?_
 refine yS (.agg [vb v11.LQ,vs v11.LM,vs v11.LA]) 0 ⟨fy _ _ _ _ _ _ _ underlying26 rfl pD rfl rfl (gM T_Path.len hv11) rfl (by decide)⟩ ?_
 refine ys 2 ⟨lk call17 (bz _ _ hv12)⟩ ?_
 refine yd hg6_7 3 ?_
 refine ys 1 ⟨lj hv13⟩ ?_
 refine ys 1 ⟨lL hv14⟩ ?_
 refine ye [1,3,48] ?_
 exact hl44 _ (zi h).symm
 refine ba (ap (ap (aZ ?_)))
 refine ah [] (by kernel_rfl) (es':=[]) rfl ?_
 exact hl36 _ (ho38 _ (zi h).symm).symm
 intro u5 h hl6 hr7
 obtain ⟨v1,hv1,h⟩:=zn h
 refine ai h (fun hg1_4 h => ?_) (fun hg1_4 h => ?_)
 refine yx hn 2 ?_
 refine ys 2 ⟨lk call17 (bz _ _ hv1)⟩ ?_
 refine yd hg1_4 18 ?_
 refine ye [1,26] ?_
 exact hl6 _ (zi h).symm
 obtain ⟨v2,hv2,h⟩:=zn h
 refine ai h (fun hg1_11 h => ?_) (fun hg1_11 h => ?_)
 refine yx hn 2 ?_
 refine ys 2 ⟨lk call17 (bz _ _ hv1)⟩ ?_
 refine yd hg1_4 3 ?_
 refine ys 3 ⟨lk call49 (bc _ _ _ _ hv2)⟩ ?_
 refine yd hg1_11 11 ?_
 refine ye [1,26] ?_
 exact hl6 _ (zi h).symm
 obtain ⟨v3,hv3,h⟩:=zn h
 refine ai h (fun hg1_17 h => ?_) (fun hg1_17 h => ?_)
 refine yx hn 2 ?_
 refine ys 2 ⟨lk call17 (bz _ _ hv1)⟩ ?_
 refine yd hg1_4 3 ?_
 refine ys 3 ⟨lk call49 (bc _ _ _ _ hv2)⟩ ?_
 refine yd hg1_11 2 ?_
 refine ys 3 ⟨lk call18 (eV _ _ hv3)⟩ ?_
 refine yd hg1_17 5 ?_
 refine ye [1,26] ?_
 exact hl6 _ (zi h).symm
 refine yx hn 2 ?_
 refine ys 2 ⟨lk call17 (bz _ _ hv1)⟩ ?_
 refine yd hg1_4 3 ?_
 refine ys 3 ⟨lk call49 (bc _ _ _ _ hv2)⟩ ?_
 refine yd hg1_11 2 ?_
 refine ys 3 ⟨lk call18 (eV _ _ hv3)⟩ ?_
 refine yd hg1_17 5 ?_
 refine ye [1,26] ?_
 exact hl6 _ (zi h).symm
theorem mV (b:bD) (r:Bool) (h:Sh.eh b=some r):bF Tryz.prog 44 [.agg [.v (.int .i64 b.LS),.v (.int .i64 b.LR),.fr .shr true 8 (flatten (map az.ienc b.LP))]] (.v (.bool r)):=by
 unfold Sh.eh at h
 refine yO 51 func44 fun g0 hn hio => ?_
 refine aG hn 2 [1] ?_
 refine ab (ab ?_)
 refine aq h (fun (s4:Bool)=>[(1,.box 62 [vi b.LS,vi b.LR,.fr .shr true 8 (flatten (map az.ienc b.LP))]),(21,vb s4)]) ?_ ?_
 rintro s4 h
 refine ae ?_
 refine zc h rfl (fun h => ?_) (fun h => ?_)
 refine aG hn 1 [2] ?_
 refine ak (ag ?_)
 obtain rfl:=zi h
 exact al hio rfl (.tmp _ _ .nil) rfl rfl
 refine am ?_
 refine ae (ab ?_)
 refine aG hn 1 [1,3] ?_
 refine aS h (fun (s26:Int)=>[(1,.box 62 [vi b.LS,vi b.LR,.fr .shr true 8 (flatten (map az.ienc b.LP))]),(3,vi s26)]) (fun (():Unit)=>[]) ?_ ?_
 rintro ⟨⟩ h
 refine ae ?_
 refine aG hn 1 [2] ?_
 refine ak ?_
 obtain rfl:=zi h
 exact al hio rfl (.tmp _ _ .nil) rfl rfl
 rintro u33 hl34 hr35 s26 rr38 h ho36
 refine ab ?_
 refine aG hn 5 [1,3,26] ?_
 refine zc h rfl (fun h => ?_) (fun h => ?_)
 refine am ?_
 refine ae (ab ?_)
 refine aC (ab ?_)
 obtain ⟨v10,hv10,v11,hv11,h⟩:=dM h
 refine yx hn 3 ?_
 refine ys 0 ⟨lI hv10⟩ ?_
 refine yS (.agg (az.c v11 [])) 0 ⟨jF _ _ _ _ _ _ _ _ underlying53 rfl qW rfl rfl (kt az.ilen hv11) (.cons (.v _) (.cons (.v _) (.cons (.v _) (.cons (.fl _ _ rfl) (.cons (.fl _ _ rfl) (.cons (.v _) (.cons (.v _) (.cons (.v _) (.nil))))))))) rfl (by decide)⟩ ?_
 refine yS (.box 53 [vb false,vs z0,vs z0,vz,vz,vb false,vs z0,vi 0]) 1 ⟨oA (aT _ _ rU)⟩ ?_
 refine aV [1,3,4] ?_
 refine ab ?_
 refine aq h (fun (s40:Bool)=>[(1,.box 62 [vi b.LS,vi b.LR,.fr .shr true 8 (flatten (map az.ienc b.LP))]),(3,vi s26),(50,vb s40)]) ?_ ?_
 rintro s40 h
 refine ae ?_
 refine zc h rfl (fun h => ?_) (fun h => ?_)
 refine aG hn 1 [2] ?_
 refine ak (aF (ag (ag (aF (ag ?_)))))
 have h:=hr35 _ (ho36 _ (zi h).symm).symm
 obtain rfl:=zi h
 exact al hio rfl (.tmp _ _ .nil) rfl rfl
 refine am (aI (ae ?_))
 obtain ⟨v18,hv18,h⟩:=zn h
 refine yx hn 1 ?_
 refine ys 0 ⟨lb hv18⟩ ?_
 refine yw [3] 1 ?_
 refine ye [1,3] ?_
 exact bb _ (zi h).symm rfl
 intro u41 h hl42 hr43
 obtain ⟨v12,hv12,h⟩:=zn h
 refine ai h (fun hg7_3 h => ?_) (fun hg7_3 h => ?_)
 refine yx hn 1 ?_
 refine ys 2 ⟨lk call64 (eU _ _ hv12)⟩ ?_
 refine yd hg7_3 13 ?_
 refine ye [1,3,50] ?_
 exact hl42 _ (zi h).symm
 refine ai h (fun hg7_7 h => ?_) (fun hg7_7 h => ?_)
 refine yx hn 1 ?_
 refine ys 2 ⟨lk call64 (eU _ _ hv12)⟩ ?_
 refine yd hg7_3 4 ?_
 refine yd hg7_7 9 ?_
 refine ye [1,3,50] ?_
 exact hl42 _ (zi h).symm
 refine ai h (fun hg7_12 h => ?_) (fun hg7_12 h => ?_)
 refine yx hn 1 ?_
 refine ys 2 ⟨lk call64 (eU _ _ hv12)⟩ ?_
 refine yd hg7_3 4 ?_
 refine yd hg7_7 5 ?_
 refine yd hg7_12 4 ?_
 refine ye [1,3,50] ?_
 exact hl42 _ (zi h).symm
 refine yx hn 1 ?_
 refine ys 2 ⟨lk call64 (eU _ _ hv12)⟩ ?_
 refine yd hg7_3 4 ?_
 refine yd hg7_7 5 ?_
 refine yd hg7_12 4 ?_
 refine ye [1,3,50] ?_
 exact hl42 _ (zi h).symm
 refine ba (ap (ap (aZ ?_)))
 refine ah [] (by kernel_rfl) (es':=[]) rfl ?_
 exact hl34 _ (ho36 _ (zi h).symm).symm
 intro u5 h hl6 hr7
 obtain ⟨v1,hv1,h⟩:=zn h
 refine ai h (fun hg1_4 h => ?_) (fun hg1_4 h => ?_)
 refine yx hn 2 ?_
 refine ys 2 ⟨lk call49 (bc _ _ _ _ hv1)⟩ ?_
 refine yd hg1_4 12 ?_
 refine ye [1,21] ?_
 exact hl6 _ (zi h).symm
 obtain ⟨v2,hv2,h⟩:=zn h
 refine ai h (fun hg1_10 h => ?_) (fun hg1_10 h => ?_)
 refine yx hn 2 ?_
 refine ys 2 ⟨lk call49 (bc _ _ _ _ hv1)⟩ ?_
 refine yd hg1_4 2 ?_
 refine ys 3 ⟨lk call49 (bc _ _ _ _ hv2)⟩ ?_
 refine yd hg1_10 6 ?_
 refine ye [1,21] ?_
 exact hl6 _ (zi h).symm
 obtain ⟨v3,hv3,h⟩:=zn h
 refine yx hn 2 ?_
 refine ys 2 ⟨lk call49 (bc _ _ _ _ hv1)⟩ ?_
 refine yd hg1_4 2 ?_
 refine ys 3 ⟨lk call49 (bc _ _ _ _ hv2)⟩ ?_
 refine yd hg1_10 3 ?_
 refine ys 2 ⟨lk call49 (bc _ _ _ _ hv3)⟩ ?_
 refine ye [1,21] ?_
 exact hl6 _ (zi h).symm
theorem ma (b:bD) (r:(List Int)) (h:Sh.dA b=some r):bF Tryz.prog 45 [.agg [.v (.int .i64 b.LS),.v (.int .i64 b.LR),.fr .shr true 8 (flatten (map az.ienc b.LP))]] (.fl (.own 5) 1 (map (int .u8) r)):=by
 unfold Sh.dA at h
 refine yO 51 func45 fun g0 hn hio => ?_
 refine aG hn 2 [1] ?_
 refine aG hn 1 [1,3] ?_
 refine ab ?_
 refine aG hn 1 [1,3,4] ?_
 refine mK (fs:=[(1,.box 62 [vi b.LS,vi b.LR,.fr .shr true 8 (flatten (map az.ienc b.LP))]),(3,.fl (.own 5) 1 (map (int .u8) [])),(4,vi 0)]) (.same _ (.sub _ (bL 5 1) rfl (.same _ .nil))) ?_
 refine aS h (fun ((s52,s53):(List Int)×Int)=>[(1,.box 62 [vi b.LS,vi b.LR,.fr .shr true 8 (flatten (map az.ienc b.LP))]),(3,.fl (.own 5) 1 (map (int .u8) s52)),(4,vi s53)]) (fun (s70:(List Int))=>[(3,.fl (.own 5) 1 (map (int .u8) s70))]) ?_ ?_
 rintro s70 h
 refine ae (ab ?_)
 obtain ⟨v93,hv93,h⟩:=zn h
 refine yx hn 0 ?_
 refine ym 0 ?_
 refine yk [49] [] ?_
 refine mS (49,.any) (50,.fl (.own 5) 1 (map (int .u8) v93)) 0 ⟨sk _ _ _ _ _ fZ rM underlying9 rfl rfl rfl hv93 rfl⟩ ?_
 refine ya 0 ?_
 refine aV [2] ?_
 refine ak ?_
 obtain rfl:=zi h
 exact al hio rfl (.tmp _ _ .nil) rfl rfl
 rintro u71 hl72 hr73 ⟨s52,s53⟩ rr76 h ho74
 refine ab ?_
 refine aG hn 5 [1,3,4,11] ?_
 refine zc h rfl (fun h => ?_) (fun h => ?_)
 refine am ?_
 refine ae (ab ?_)
 refine aC (ab ?_)
 obtain ⟨v2,hv2,v3,hv3,h⟩:=dM h
 refine yx hn 3 ?_
 refine ys 0 ⟨lI hv2⟩ ?_
 refine yS (.agg (az.c v3 [])) 0 ⟨jF _ _ _ _ _ _ _ _ underlying53 rfl qW rfl rfl (kt az.ilen hv3) (.cons (.v _) (.cons (.v _) (.cons (.v _) (.cons (.fl _ _ rfl) (.cons (.fl _ _ rfl) (.cons (.v _) (.cons (.v _) (.cons (.v _) (.nil))))))))) rfl (by decide)⟩ ?_
 refine yS (.box 53 [vb false,vs z0,vs z0,vz,vz,vb false,vs z0,vi 0]) 1 ⟨oA (aT _ _ rU)⟩ ?_
 refine aV [1,3,4,5] ?_
 refine ab ?_
 obtain ⟨v4,hv4,v5,hv5,v6,hv6,v7,hv7,h⟩:=jX h
 refine yx hn 0 ?_
 refine ym 2 ?_
 refine ys 0 ⟨lk call19 (eY _ _ hv4)⟩ ?_
 refine ys 0 ⟨lB (bu hv5)⟩ ?_
 refine ys 0 ⟨lB (bu hv6)⟩ ?_
 refine yk [19] [24] ?_
 refine mS (19,.any) (25,.fl (.own 5) 1 (map (int .u8) v7)) 0 ⟨sk _ _ _ _ _ fZ rM underlying9 rfl rfl rfl hv7 rfl⟩ ?_
 refine ya 0 ?_
 refine aV [1,4,5,3] ?_
 refine ab ?_
 refine aG hn 1 [1,4,5,3,6] ?_
 refine aS h (fun ((s82,s83):(List Int)×Int)=>[(1,.box 62 [vi b.LS,vi b.LR,.fr .shr true 8 (flatten (map az.ienc b.LP))]),(4,vi s53),(5,.box 53 (az.c v3 [])),(3,.fl (.own 5) 1 (map (int .u8) s82)),(6,vi s83)]) (fun (s85:(List Int))=>[(1,.box 62 [vi b.LS,vi b.LR,.fr .shr true 8 (flatten (map az.ienc b.LP))]),(4,vi s53),(5,.box 53 (az.c v3 [])),(3,.fl (.own 5) 1 (map (int .u8) s85))]) ?_ ?_
 rintro s85 h
 refine ae ?_
 obtain ⟨v30,hv30,v31,hv31,v32,hv32,h⟩:=ng h
 refine wb [] ?_
 refine wK [3] [] ?_
 refine wt [(43,.fl (.own 5) 1 (map (int .u8) s85))] [] ⟨jd _ _ _ _ rfl⟩ ?_
 refine wK [43] [] ?_
 refine wt [(43,.any),(44,.fl (.own 5) 1 (map (int .u8) v30))] [[5],[45,5]] ⟨sk _ _ _ _ _ fZ rM underlying9 rfl rfl rfl hv30 rfl⟩ ?_
 refine wN [46] ?_
 refine wo [] ⟨lk call21 (jU _ _ hv31)⟩ ?_
 refine wK [44] [47] ?_
 refine wt [(44,.any),(48,.fl (.own 5) 1 (map (int .u8) v32))] [] ⟨zb _ _ _ _ _ fZ rfl rfl (eW _) (eW _) hv32 ((List.map_append).symm.trans (congrArg (map _) (iY hv32)))⟩ ?_
 refine wK [48] [] ?_
 refine wt [(3,.fl (.own 5) 1 (map (int .u8) v32))] [] ⟨gr _ _ _ _ rfl⟩ ?_
 refine we hn [1,4,3] ?_
 refine aI (ae ?_)
 obtain ⟨v33,hv33,h⟩:=zn h
 refine yx hn 1 ?_
 refine ys 0 ⟨lb hv33⟩ ?_
 refine yw [4] 1 ?_
 refine ye [1,3,4] ?_
 exact bb _ (zi h).symm rfl
 rintro u86 hl87 hr88 ⟨s82,s83⟩ rr91 h ho89
 refine ab ?_
 refine aG hn 5 [1,4,5,3,6,30] ?_
 refine zc h rfl (fun h => ?_) (fun h => ?_)
 refine am ?_
 refine ae (ab ?_)
 refine aC ?_
 obtain ⟨v9,hv9,v10,hv10,v11,hv11,v12,hv12,h⟩:=jX h
 obtain ⟨v13,hv13,v14,hv14,h⟩:=dM h
 refine yx hn 0 ?_
 refine ym 3 ?_
 refine ys 0 ⟨lj hv9⟩ ?_
 refine yS (.agg [vb v10.LQ,vs v10.LM,vs v10.LA]) 0 ⟨fy _ _ _ _ _ _ _ underlying26 rfl pD rfl rfl (gM T_Path.len hv10) rfl (by decide)⟩ ?_
 refine ys 0 ⟨lk call19 (eY _ _ hv11)⟩ ?_
 refine ys 0 ⟨lB (bu hv12)⟩ ?_
 refine ys 0 ⟨lB (bu hv13)⟩ ?_
 refine yk [33] [41] ?_
 refine mS (33,.any) (42,.fl (.own 5) 1 (map (int .u8) v14)) 0 ⟨sk _ _ _ _ _ fZ rM underlying9 rfl rfl rfl hv14 rfl⟩ ?_
 refine ya 0 ?_
 refine ye [1,4,5,6,3] ?_
 refine aI (ae ?_)
 obtain ⟨v15,hv15,h⟩:=zn h
 refine yx hn 1 ?_
 refine ys 0 ⟨lb hv15⟩ ?_
 refine yw [6] 1 ?_
 refine ye [1,4,5,3,6] ?_
 exact bb _ (zi h).symm rfl
 refine ba (ap (ap (aZ ?_)))
 refine ah [0,1,2,3] (by kernel_rfl) (es':=[(_,_),(_,_),(_,_),(_,_)]) rfl ?_
 exact hl87 _ (ho89 _ (zi h).symm).symm
 refine ba (ap (ap (aZ ?_)))
 refine ah [1] (by kernel_rfl) (es':=[(_,_)]) rfl ?_
 exact hl72 _ (ho74 _ (zi h).symm).symm
theorem om (b:(List Int)) (width:Int) (divisor:Int) (r:Int) (h:Sh.fU b width divisor=some r):bF Tryz.prog 65 [.fl .shr 1 (map (int .u8) b),.v (.int .i64 width),.v (.int .i64 divisor)] (.v (.int .i64 r)):=by
 unfold Sh.fU at h
 refine yO 49 func65 fun g0 hn hio => ?_
 refine aG hn 1 [0,1,2] ?_
 refine ab ?_
 obtain ⟨v1,hv1,v2,hv2,v3,hv3,h⟩:=ng h
 refine yx hn 1 ?_
 refine ys 0 ⟨lv hv1⟩ ?_
 refine ys 0 ⟨lB (nA hv2)⟩ ?_
 refine ys 1 ⟨lb hv3⟩ ?_
 refine aV [0,1,2,7] ?_
 refine ab ?_
 refine aG hn 1 [0,1,2,7,8] ?_
 refine aS h (fun ((s97,s98):Int×Int)=>[(0,fb b),(1,vi width),(2,vi divisor),(7,vi s97),(8,vi s98)]) (fun (s139:Int)=>[(1,vi width),(7,vi s139)]) ?_ ?_
 rintro s139 h
 refine ae (ab ?_)
 obtain ⟨v186,hv186,v187,hv187,v188,hv188,v189,hv189,h⟩:=jX h
 refine yx hn 2 ?_
 refine ys 0 ⟨lv hv186⟩ ?_
 refine ys 0 ⟨lB (nA hv187)⟩ ?_
 refine ys 0 ⟨lb hv188⟩ ?_
 refine ys 1 ⟨lb hv189⟩ ?_
 refine aV [6] ?_
 refine ak ?_
 obtain rfl:=zi h
 exact al hio rfl (.tmp _ _ .nil) rfl rfl
 rintro u140 hl141 hr142 ⟨s97,s98⟩ rr145 h ho143
 refine ab ?_
 refine aG hn 4 [0,1,2,7,8,18] ?_
 refine zc h rfl (fun h => ?_) (fun h => ?_)
 refine am ?_
 refine ae (ab ?_)
 refine aC ?_
 refine aG hn 1 [0,1,2,7,8,9] ?_
 refine aS h (fun ((s163,s164):Int×Int)=>[(0,fb b),(1,vi width),(2,vi divisor),(7,vi s163),(8,vi s98),(9,vi s164)]) (fun (s172:Int)=>[(0,fb b),(1,vi width),(2,vi divisor),(7,vi s172),(8,vi s98)]) ?_ ?_
 rintro s172 h
 refine aI (ae ?_)
 obtain ⟨v54,hv54,h⟩:=zn h
 refine yx hn 1 ?_
 refine ys 0 ⟨lb hv54⟩ ?_
 refine yw [8] 1 ?_
 refine ye [0,1,2,7,8] ?_
 exact bb _ (zi h).symm rfl
 rintro u173 hl174 hr175 ⟨s163,s164⟩ rr178 h ho176
 refine ab ?_
 refine aG hn 2 [0,1,2,7,8,9,22] ?_
 refine zc h rfl (fun h => ?_) (fun h => ?_)
 refine am ?_
 refine ae (ab ?_)
 refine aq h (fun (s181:Int)=>[(0,fb b),(1,vi width),(2,vi divisor),(8,vi s98),(9,vi s164),(7,vi s181)]) ?_ ?_
 rintro s181 h
 refine ae ?_
 obtain ⟨v21,hv21,h⟩:=zn h
 refine yx hn 1 ?_
 refine ys 0 ⟨lb hv21⟩ ?_
 refine yw [9] 1 ?_
 refine ye [0,1,2,8,7,9] ?_
 refine ah [0,1,2,4,3,5] (by kernel_rfl) (es':=[(_,_),(_,_),(_,_),(_,_),(_,_),(_,_)]) rfl ?_
 exact bb _ (zi h).symm rfl
 intro u182 h hl183 hr184
 refine aC (ab ?_)
 obtain ⟨v6,hv6,h⟩:=zn h
 refine yx hn 1 ?_
 refine ys 1 ⟨lb hv6⟩ ?_
 refine aV [0,1,2,7,8,9,10] ?_
 refine ab ?_
 obtain ⟨v7,hv7,h⟩:=zn h
 refine yx hn 1 ?_
 refine ys 0 ⟨lB (kT hv7)⟩ ?_
 refine yw [7] 1 ?_
 refine aV [0,1,2,8,9,10,7] ?_
 refine ab ?_
 obtain ⟨v8,hv8,v9,hv9,v10,hv10,v11,hv11,h⟩:=jX h
 obtain ⟨v12,hv12,v13,hv13,h⟩:=dM h
 refine yx hn 3 ?_
 refine ys 0 ⟨li hv8⟩ ?_
 refine ys 1 ⟨ll hv9⟩ ?_
 refine ys 0 ⟨lv hv10⟩ ?_
 refine ys 0 ⟨lB (kT hv11)⟩ ?_
 refine ys 0 ⟨lv hv12⟩ ?_
 refine ys 1 ⟨lb hv13⟩ ?_
 refine aV [0,1,2,8,9,7,39] ?_
 refine zc h rfl (fun h => ?_) (fun h => ?_)
 obtain ⟨v15,hv15,h⟩:=zn h
 refine yx hn 2 ?_
 refine ys 0 ⟨lb hv15⟩ ?_
 refine yw [7] 1 ?_
 refine ye [0,1,2,8,9,7] ?_
 refine aI ?_
 exact hl183 _ (zi h).symm
 refine am (aI ?_)
 refine ah [0,1,2,3,4,5] (by kernel_rfl) (es':=[(_,_),(_,_),(_,_),(_,_),(_,_),(_,_)]) rfl ?_
 exact hl183 _ (zi h).symm
 refine ba (ap (ap (aZ ?_)))
 refine ah [0,1,2,3,4] (by kernel_rfl) (es':=[(_,_),(_,_),(_,_),(_,_),(_,_)]) rfl ?_
 exact hl174 _ (ho176 _ (zi h).symm).symm
 refine ba (ap (ap (aZ ?_)))
 refine ah [1,3] (by kernel_rfl) (es':=[(_,_),(_,_)]) rfl ?_
 exact hl141 _ (ho143 _ (zi h).symm).symm
theorem pj (b:(List Int)) (r:Int) (h:Sh.fi b=some r):bF Tryz.prog 46 [.fl .shr 1 (map (int .u8) b)] (.v (.int .i64 r)):=by
 unfold Sh.fi at h
 refine yO 5 func46 fun g0 hn hio => ?_
 refine aG hn 1 [0] ?_
 refine ab ?_
 obtain ⟨v1,hv1,h⟩:=zn h
 refine yx hn 1 ?_
 refine ys 1 ⟨lk call65 (om _ _ _ _ hv1)⟩ ?_
 refine aV [2] ?_
 refine ak ?_
 obtain rfl:=zi h
 exact al hio rfl (.tmp _ _ .nil) rfl rfl
theorem kR (b:bD) (r:((List Int)×Int)) (h:Sh.cg b=some r):bF Tryz.prog 24 [.agg [.v (.int .i64 b.LS),.v (.int .i64 b.LR),.fr .shr true 8 (flatten (map az.ienc b.LP))]] (.tup [.mkr 5 (map (int .u8) r.1),.v (.int .i64 r.2)]):=by
 unfold Sh.cg at h
 refine yO 45 func24 fun g0 hn hio => ?_
 refine aG hn 3 [1] ?_
 refine ab (ab ?_)
 obtain ⟨v1,hv1,h⟩:=zn h
 refine yx hn 1 ?_
 refine ys 1 ⟨lk call44 (mV _ _ hv1)⟩ ?_
 refine aV [1,8] ?_
 refine zc h rfl (fun h => ?_) (fun h => ?_)
 refine aG hn 2 [2,3] ?_
 refine ak ?_
 refine cq (fs:=[(2,.mkr 5 (map (int .u8) [])),(3,vi 5)]) (.sub _ (eP 5) rfl (.same _ .nil)) ?_
 refine ag ?_
 obtain rfl:=zi h
 exact al hio rfl (.tmp _ _ (.tmp _ _ .nil)) rfl rfl
 refine am ?_
 refine ae (ab ?_)
 obtain ⟨v3,hv3,h⟩:=zn h
 refine yx hn 1 ?_
 refine ys 0 ⟨lk call45 (ma _ _ hv3)⟩ ?_
 refine ya 0 ?_
 refine aV [1,4] ?_
 refine ab ?_
 obtain ⟨v4,hv4,v5,hv5,v6,hv6,v7,hv7,h⟩:=jX h
 obtain ⟨v8,hv8,v9,hv9,v10,hv10,v11,hv11,h⟩:=jX h
 obtain ⟨v12,hv12,v13,hv13,v14,hv14,v15,hv15,h⟩:=jX h
 obtain ⟨v16,hv16,v17,hv17,v18,hv18,v19,hv19,h⟩:=jX h
 obtain ⟨v20,hv20,h⟩:=zn h
 refine wb [[1],[11,1]] ?_
 refine wN [12] ?_
 refine wo [] ⟨lk call31 (cy _ _ hv4)⟩ ?_
 refine wN [13] ?_
 refine wo [] ⟨lB (bu hv5)⟩ ?_
 refine wN [14] ?_
 refine wo [[1],[16,1]] ⟨lB (bu hv6)⟩ ?_
 refine wN [17] ?_
 refine wo [] ⟨lk call31 (cy _ _ hv7)⟩ ?_
 refine wN [15,18] ?_
 refine wo [] ⟨lB (bu hv8)⟩ ?_
 refine wN [19] ?_
 refine wo [[1],[21,1],[22]] ⟨lB (bu hv9)⟩ ?_
 refine wN [23] ?_
 refine wo [] ⟨lk call31 (cy _ _ hv10)⟩ ?_
 refine wN [20,24] ?_
 refine wo [] ⟨lB (bu hv11)⟩ ?_
 refine wN [25] ?_
 refine wo [[4],[27,4]] ⟨lB (bu hv12)⟩ ?_
 refine wN [28] ?_
 refine wo [] ⟨lk call31 (cy _ _ hv13)⟩ ?_
 refine wN [26,29] ?_
 refine wo [] ⟨lB (bu hv14)⟩ ?_
 refine wN [30] ?_
 refine wo [[4]] ⟨lB (bu hv15)⟩ ?_
 refine wN [32,4] ?_
 refine wo [] ⟨lk call46 (pj _ _ hv16)⟩ ?_
 refine wN [33] ?_
 refine wo [] ⟨lk call31 (cy _ _ hv17)⟩ ?_
 refine wN [31,34] ?_
 refine wo [] ⟨lB (bu hv18)⟩ ?_
 refine wN [35] ?_
 refine wo [] ⟨lB (bu hv19)⟩ ?_
 refine wN [36] ?_
 refine wo [] ⟨lU hv20⟩ ?_
 refine wK [37] [] ?_
 refine wt [(5,.mkr 5 (map (int .u8) v20))] [] ⟨gr _ _ _ _ rfl⟩ ?_
 refine sf hn [4,5] ?_
 refine ab ?_
 obtain ⟨v22,hv22,h⟩:=zn h
 refine yx hn 0 ?_
 refine ym 0 ?_
 refine ym 0 ?_
 refine yk [38] [39] ?_
 refine mS (38,.any) (40,.mkr 5 (map (int .u8) v22)) 0 ⟨oZ _ _ _ _ _ fZ rfl rfl rfl rfl hv22 rfl⟩ ?_
 refine ya 0 ?_
 refine aV [5] ?_
 refine ab ?_
 refine gH hn 1 ?_
 refine yS (vi (v22.length:Int)) 1 ⟨lO _ _ _ underlying28 rfl (List.length_map _)⟩ ?_
 refine aV [5,43] ?_
 refine zc h rfl (fun h => ?_) (fun h => ?_)
 refine aG hn 2 [2,3] ?_
 refine ak ?_
 refine cq (fs:=[(2,.mkr 5 (map (int .u8) [])),(3,vi 2)]) (.sub _ (eP 5) rfl (.same _ .nil)) ?_
 refine ag ?_
 obtain rfl:=zi h
 exact al hio rfl (.tmp _ _ (.tmp _ _ .nil)) rfl rfl
 refine am (ae ?_)
 refine gH hn 0 ?_
 refine ym 0 ?_
 refine ya 1 ?_
 refine aV [2,3] ?_
 refine ak ?_
 obtain rfl:=zi h
 exact al hio rfl (.tmp _ _ (.tmp _ _ .nil)) rfl rfl
theorem cG (a:T_Path) (b:T_Path) (r:Bool) (h:Sh.ep a b=some r):bF Tryz.prog 32 [.agg [.v (.bool a.LQ),.v (.string a.LM),.v (.string a.LA)],.agg [.v (.bool b.LQ),.v (.string b.LM),.v (.string b.LA)]] (.v (.bool r)):=by
 unfold Sh.ep at h
 refine yO 24 func32 fun g0 hn hio => ?_
 refine aG hn 3 [2,3] ?_
 refine ab ?_
 refine aq h (fun (s2:Bool)=>[(4,vb s2)]) ?_ ?_
 rintro s2 h
 refine ae (ak ?_)
 obtain rfl:=zi h
 exact al hio rfl (.tmp _ _ .nil) rfl rfl
 intro u3 h hl4 hr5
 obtain ⟨v1,hv1,h⟩:=zn h
 refine ai h (fun hg1_5 h => ?_) (fun hg1_5 h => ?_)
 refine ai h (fun hg1_12 h => ?_) (fun hg1_12 h => ?_)
 refine yx hn 4 ?_
 refine yS (vb (a.LQ==b.LQ)) 1 ⟨ra _ _ _ _ underlying4 rfl rfl⟩ ?_
 refine yd hg1_5 7 ?_
 refine yd hg1_12 7 ?_
 refine ye [4] ?_
 exact hl4 _ (zi h).symm
 refine yx hn 4 ?_
 refine yS (vb (a.LQ==b.LQ)) 1 ⟨ra _ _ _ _ underlying4 rfl rfl⟩ ?_
 refine yd hg1_5 7 ?_
 refine yd hg1_12 7 ?_
 refine ye [4] ?_
 exact hl4 _ (zi h).symm
 refine yx hn 4 ?_
 refine yS (vb (a.LQ==b.LQ)) 1 ⟨ra _ _ _ _ underlying4 rfl rfl⟩ ?_
 refine yd hg1_5 14 ?_
 refine ye [4] ?_
 exact hl4 _ (zi h).symm
end Go.Proofs.YtjnnkhmhjcjhdaaGreatDoor
