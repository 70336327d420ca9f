/-
 The model's runs are what is told in Lean.
-/
import Derived.Test.YtjnnkhmhjcjhdaaGreatDoorOkc3
set_option linter.unusedVariables false
set_option linter.unusedSimpArgs false
set_option maxHeartbeats 1000000
namespace Go.Proofs.YtjnnkhmhjcjhdaaGreatDoor
open Go.Abs Go.Abs.Sh Tryz
open List (map flatten)
open Value (int)
theorem jX (mx:Int×Nat×Value) (s:aa) (body:(List Int)) (r:(au×aa)) (h:Sh.eI s body=some r):kZ Tryz.prog (GL mx) 86 [.box 80 (aa.b s),.fl .shr 1 (map (int .u8) body)] [.box 80 (aa.b r.2)] (.agg [.v (.int .i64 r.1.EV.Ew),.fl .ro 1 (map Value.string r.1.EV.EH),.v (.bool r.1.EC),.v (.bool r.1.EK.EA.EM),.v (.string r.1.EK.EA.EI),.v (.string r.1.EK.EA.Ex),.fl .ro 3 (flatten (map ae.enc r.1.EK.To)),.fl .ro 1 (map (int .u8) r.1.EK.Et),.v (.bool r.1.EK.EU),.v (.string r.1.EK.EE),.v (.int .i64 r.1.EK.At),.v (.bool r.1.Er)]):=by
 unfold Sh.eI at h
 refine yc 81 func86 fun args0 hargs0 g0 hn hio => ?_
 refine eC hn 0 ?_
 refine yS (.box 55 [vi 0,vz,vb false,vb false,vs z0,vs z0,vz,vz,vb false,vs z0,vi 0,vb false]) 0 ⟨oA (aP _ _ qO)⟩ ?_
 refine aT [0,1,81,4,0] ?_
 refine ab ?_
 obtain ⟨v1,hv1,h⟩:=zn h
 obtain ⟨v2,hv2,h⟩:=zn h
 obtain ⟨v3,hv3,h⟩:=zn h
 refine nu (by kernel_rfl) hn (El:=(_::_::_::_::_::(9,fb body)::(10,.same (.slot 0))::(11,.ptr 0 0)::(12,.ptr 0 0)::(13,.ptr 0 1)::(14,vs s.EB.EE)::(15,.same (.slot 0))::(16,.same (.slot 0))::(17,.ptr 0 0)::(18,.ptr 0 17)::(19,vi s.site)::(20,.ptr 0 0)::(21,.ptr 0 10)::(22,.ptr 0 10)::(23,.ptr 0 (10+v1 * 1))::(24,vs v2)::(25,.same (.slot 0))::(26,.ptr 0 0)::(27,.ptr 0 18)::(28,vi s.at_)::(29,.tup [.mkr 5 (map (int .u8) v3.1),vi v3.2])::(8,.tup [.mkr 5 (map (int .u8) v3.1),.any])::(8,.tup [.any,vi v3.2])::(30,.mkr 5 (map (int .u8) v3.1))::(8,.tup [.any,.any])::(31,vi v3.2)::(5,.mkr 5 (map (int .u8) v3.1))::(6,vi v3.2)::[])) (init:=[0,1,2,3,4]) (fin:=[0,1,2,3,31,32,4]) (sps:=(zq [1] 5 9::zq [] 6 10::zq [6,0] 7 11::zq [7,0] 8 12::zq [8,0] 9 13::zq [9,0] 10 14::zq [] 11 15::zq [] 12 16::zq [12,0] 13 17::zq [13,0] 14 18::zq [14,0] 15 19::zq [11,0] 16 20::zq [16,0] 17 21::zq [17,0] 18 22::zq [18,0,15] 19 23::zq [19,0] 20 24::zq [] 21 25::zq [21,0] 22 26::zq [22,0] 23 27::zq [23,0] 24 28::zq [5,10,20,24,2] 25 29::⟨[],[25],[26,27],[(.slot 8)]⟩::⟨[],[26],[29,28],[(.slot 30)]⟩::zq [27] 30 31::⟨[],[28],[31],[(.slot 5)]⟩::zq [30] 32 6::[])) (es':=[(_,_),(_,_),(_,_),(_,_),(5,.mkr 5 (map (int .u8) v3.1)),(6,vi v3.2),(_,_)]) (by kernel_rfl) rfl rfl ⟨z1 rfl,zp rfl (cy _ _ _ rfl),zp rfl (dx _ _ _ 0 rfl rfl (by decide)),zp rfl (oF underlying80 rfl nq),zp rfl (oF underlying30 rfl pW),zp rfl (oL underlying9 rfl),zp rfl (cy _ _ _ rfl),zp rfl (cy _ _ _ rfl),zp rfl (dx _ _ _ 0 rfl rfl (by decide)),zp rfl (oF underlying80 rfl Ar),zp rfl (oL underlying3 rfl),zp rfl (dx _ _ _ 0 rfl rfl (by decide)),zp rfl (oF underlying80 rfl BX),zp rfl (oF underlying24 rfl DO),zp rfl (rl _ _ _ _ 2 0 10 _ underlying22 pW rfl rfl (bk hv1).1 (bk hv1).2 (by decide)),zp rfl (oo _ _ _ 0 10 v1 2 ([(s.config.Ey.getD 0 z0),(s.config.Ey.getD 1 z0)]:List Fa) _ underlying9 rfl rfl rfl rfl hv2),zp rfl (cy _ _ _ rfl),zp rfl (dx _ _ _ 0 rfl rfl (by decide)),zp rfl (oF underlying80 rfl Ar),zp rfl (oL underlying3 rfl),zp rfl (pR _ _ 81 100 _ _ rfl call100 rfl rfl (fun _ h=>h) (sQ mx body s.EB.EE v2 s.at_ _ hv3) rfl rfl),zp rfl (aL.split (A:=[]) 8 0 _ _ _ (iq _ _ _ _ rfl) (zl rfl) rfl rfl),zp rfl (eZ _ _ _ _ _ rfl (zl rfl) rfl rfl (by decide) rfl),zp rfl (oE rfl),zp rfl (iC _ _ _ _ rfl),z2 rfl,zz⟩ ?_
 refine ag (ab ?_)
 refine vH 4 hio (es':=[(0,.box 80 (aa.b s)),(1,fb body),(81,.glob (GL mx)),(4,.box 55 [.v (.int .i64 0),vz,.v (.bool false),.v (.bool false),.v (.string (⟨#[]⟩:Fa)),.v (.string (⟨#[]⟩:Fa)),vz,vz,.v (.bool false),.v (.string (⟨#[]⟩:Fa)),.v (.int .i64 0),.v (.bool false)]),(5,.fl .ro 1 (map (int .u8) v3.1)),(6,.v (.int .i64 v3.2)),(0,.v (List.getD args0 0 undef))]) rfl ?_
 obtain ⟨v4,hv4,h⟩:=zn h
 refine wb [[],[32,0],[33,0],[34,0],[35,0],[],[37,0],[38,0],[39,0],[40,0]] ?_
 refine wN [41,0] ?_
 refine wo [[5]] ⟨lk call59 (fT _ _ hv4)⟩ ?_
 refine wK [42] [36,43] ?_
 refine wt [(44,.agg [vb s.EB.EA.EM,vs s.EB.EA.EI,vs s.EB.EA.Ex,.fl (.own 26) 3 (flatten (map ae.enc v4)),.fl .ro 1 (map (int .u8) v3.1),vb false,vs z0,vi 0])] [] ⟨bn _ _ _ _ [3,1,1,1,1,1] _ _ underlying53 xS (CW _ underlying53) (.copy _ (.take _ _ (.copy _ km.nil))) rfl rfl rfl⟩ ?_
 refine wN [] ?_
 refine wS (.box 53 [vb false,vs z0,vs z0,vz,vz,vb false,vs z0,vi 0]) [] ⟨oA (aP _ _ xS)⟩ ?_
 refine wK [44,7] [] ?_
 refine wt [(7,.box 53 [vb s.EB.EA.EM,vs s.EB.EA.EI,vs s.EB.EA.Ex,.fl (.own 26) 3 (flatten (map ae.enc v4)),.fl .ro 1 (map (int .u8) v3.1),vb false,vs z0,vi 0])] [] ⟨aK _ _ _ _ _ _ _ _ xI rfl rfl rfl (zl rfl) rfl rfl⟩ ?_
 refine qR hn [0,1,81,4,6,7,0] ?_
 refine ab (ab ?_)
 refine aD h (fun (s13:Bool)=>[(0,.box 80 (aa.b s)),(81,.glob (GL mx)),(4,.box 55 [vi 0,vz,vb false,vb false,vs z0,vs z0,vz,vz,vb false,vs z0,vi 0,vb false]),(7,.box 53 [vb s.EB.EA.EM,vs s.EB.EA.EI,vs s.EB.EA.Ex,.fl (.own 26) 3 (flatten (map ae.enc v4)),.fl .ro 1 (map (int .u8) v3.1),vb false,vs z0,vi 0]),(56,vb s13),(0,.v (List.getD args0 0 undef))]) ?_ ?_
 ·rintro s13 h
  refine ag ?_
  refine al _ rfl (fun hb17 => ?_) (fun hb17 => ?_)
  ·have h:=ap hb17 h
   refine ab ?_
   obtain ⟨v11,hv11,h⟩:=zn h
   refine yx hn 1 ?_
   refine yQ call85 (dH _ _ _ hv11) 0 [57] 0 ?_
   refine yk [58] [] ?_
   refine yt (59,.agg [vi v11.1.Ew,.fl (.own 9) 1 (map Value.string v11.1.EH),vb false,vb false,vs z0,vs z0,vz,vz,vb false,vs z0,vi 0,vb false]) 0 ⟨bn _ _ _ _ [2,1,8,1] _ _ underlying55 qO (xF _ underlying55) (.take _ _ km.nil) rfl rfl rfl⟩ ?_
   refine yk [59,4] [] ?_
   refine yt (4,.box 55 [vi v11.1.Ew,.fl (.own 9) 1 (map Value.string v11.1.EH),vb false,vb false,vs z0,vs z0,vz,vz,vb false,vs z0,vi 0,vb false]) 0 ⟨aK _ _ _ _ _ _ _ _ tT rfl rfl rfl (zl rfl) rfl rfl⟩ ?_
   refine aT [0,81,4,0] ?_
   refine am ?_
   refine ah [2,0,3] (by kernel_rfl) (es':=[(_,_),(_,_),(_,_)]) rfl ?_
   refine bT (fs:=[(4,.box 55 [vi v11.1.Ew,.fl (.own 9) 1 (map Value.string v11.1.EH),vb false,vb false,vs z0,vs z0,.fl (.own 26) 3 (flatten (map ae.enc [])),.fl (.own 5) 1 (map (int .u8) []),vb false,vs z0,vi 0,vb false]),(0,.box 80 (aa.b v11.2)),(0,.v (List.getD args0 0 undef))]) (.box _ _ (af (aj _) (af (aj _) (af (aj _) (af (aj _) (af (aj _) (af (aj _) (af (bC 26 3) (af (bC 5 1) (af (aj _) (af (aj _) (af (aj _) (af (aj _) (bj))))))))))))) rfl (.same _ (.same _ .nil))) ?_
   refine pq 0 hio (es':=[(4,.box 55 [.v (.int .i64 v11.1.Ew),.fl .ro 1 (map Value.string v11.1.EH),.v (.bool false),.v (.bool false),.v (.string (⟨#[]⟩:Fa)),.v (.string (⟨#[]⟩:Fa)),.fl .ro 3 (flatten (map ae.enc [])),.fl .ro 1 (map (int .u8) []),.v (.bool false),.v (.string (⟨#[]⟩:Fa)),.v (.int .i64 0),.v (.bool false)]),(0,.box 80 (aa.b v11.2)),(0,.v (List.getD args0 0 undef))]) rfl ?_
   refine ai ?_
   obtain rfl:=zi h
   exact bo (es:=[(4,.box 55 [.v (.int .i64 v11.1.Ew),.fl .ro 1 (map Value.string v11.1.EH),.v (.bool false),.v (.bool false),.v (.string (⟨#[]⟩:Fa)),.v (.string (⟨#[]⟩:Fa)),.fl .ro 3 (flatten (map ae.enc [])),.fl .ro 1 (map (int .u8) []),.v (.bool false),.v (.string (⟨#[]⟩:Fa)),.v (.int .i64 0),.v (.bool false)])]) (posts:=[.box 80 (aa.b v11.2)]) hio rfl rfl (.cellA _ _ _ _ underlying55 rfl tT .nil) rfl rfl hargs0 rfl
  ·have h:=aq hb17 h
   refine ar ?_
   refine ag (ab ?_)
   refine wb [[],[60,0],[61,0],[62,0],[63,0],[],[65,0],[66,0],[67,0],[68,0],[],[70,0],[71,0],[72,0],[7]] ?_
   refine wK [7] [74,64] ?_
   refine wt [(7,.box 53 [vb s.EB.EA.EM,vs s.EB.EA.EI,vs s.EB.EA.Ex,.fl (.own 26) 3 (flatten (map ae.enc v4)),.fl .ro 1 (map (int .u8) v3.1),vb s.EB.EU,vs z0,vi 0])] [[7]] ⟨cW _ _ _ _ _ _ _ _ Eg rfl rfl rfl rfl (zl rfl) rfl rfl⟩ ?_
   refine wK [7] [75,69] ?_
   refine wt [(7,.box 53 [vb s.EB.EA.EM,vs s.EB.EA.EI,vs s.EB.EA.Ex,.fl (.own 26) 3 (flatten (map ae.enc v4)),.fl .ro 1 (map (int .u8) v3.1),vb s.EB.EU,vs s.EB.EE,vi 0])] [[7]] ⟨cW _ _ _ _ _ _ _ _ pW rfl rfl rfl rfl (zl rfl) rfl rfl⟩ ?_
   refine wK [7] [76,73] ?_
   refine wt [(7,.box 53 [vb s.EB.EA.EM,vs s.EB.EA.EI,vs s.EB.EA.Ex,.fl (.own 26) 3 (flatten (map ae.enc v4)),.fl .ro 1 (map (int .u8) v3.1),vb s.EB.EU,vs s.EB.EE,vi s.at_])] [] ⟨cW _ _ _ _ _ _ _ _ Ar rfl rfl rfl rfl (zl rfl) rfl rfl⟩ ?_
   refine qR hn [0,81,4,7,0] ?_
   refine ab ?_
   obtain ⟨v12,hv12,h⟩:=zn h
   refine wb [[0]] ?_
   refine wK [0] [77] ?_
   refine wt [(0,.box 80 (aa.b v12.2)),(78,.agg [vi v12.1.Ew,.fl (.own 9) 1 (map Value.string v12.1.EH)])] [] ⟨qi _ _ _ _ 78 85 [.tmp 77] [_] _ _ _ rfl call85 rfl rfl rfl (dH ((aa.r s)) 250 _ hv12) (zl rfl) rfl rfl rfl rfl rfl rfl rfl rfl⟩ ?_
   refine wK [7] [] ?_
   refine wt [(79,.agg [vb s.EB.EA.EM,vs s.EB.EA.EI,vs s.EB.EA.Ex,.fl (.own 26) 3 (flatten (map ae.enc v4)),.fl .ro 1 (map (int .u8) v3.1),vb s.EB.EU,vs s.EB.EE,vi s.at_])] [] ⟨mb _ _ _ _ underlying53 rfl xI rfl rfl⟩ ?_
   refine wK [78,79] [] ?_
   refine wt [(80,.agg [vi v12.1.Ew,.fl (.own 9) 1 (map Value.string v12.1.EH),vb true,vb s.EB.EA.EM,vs s.EB.EA.EI,vs s.EB.EA.Ex,.fl (.own 26) 3 (flatten (map ae.enc v4)),.fl .ro 1 (map (int .u8) v3.1),vb s.EB.EU,vs s.EB.EE,vi s.at_,vb false])] [] ⟨bn _ _ _ _ [2,1,8,1] _ _ underlying55 qO (xF _ underlying55) (.take _ _ (.copy _ (.take _ _ km.nil))) rfl rfl rfl⟩ ?_
   refine wK [80,4] [] ?_
   refine wt [(4,.box 55 [vi v12.1.Ew,.fl (.own 9) 1 (map Value.string v12.1.EH),vb true,vb s.EB.EA.EM,vs s.EB.EA.EI,vs s.EB.EA.Ex,.fl (.own 26) 3 (flatten (map ae.enc v4)),.fl .ro 1 (map (int .u8) v3.1),vb s.EB.EU,vs s.EB.EE,vi s.at_,vb false])] [] ⟨aK _ _ _ _ _ _ _ _ tT rfl rfl rfl (zl rfl) rfl rfl⟩ ?_
   refine qR hn [0,81,4,0] ?_
   refine am ?_
   refine ah [2,0,3] (by kernel_rfl) (es':=[(_,_),(_,_),(_,_)]) rfl ?_
   refine pq 0 hio (es':=[(4,.box 55 [.v (.int .i64 v12.1.Ew),.fl .ro 1 (map Value.string v12.1.EH),.v (.bool true),.v (.bool s.EB.EA.EM),.v (.string s.EB.EA.EI),.v (.string s.EB.EA.Ex),.fl .ro 3 (flatten (map ae.enc v4)),.fl .ro 1 (map (int .u8) v3.1),.v (.bool s.EB.EU),.v (.string s.EB.EE),.v (.int .i64 s.at_),.v (.bool false)]),(0,.box 80 (aa.b v12.2)),(0,.v (List.getD args0 0 undef))]) rfl ?_
   obtain rfl:=zi h
   exact bo (es:=[(4,.box 55 [.v (.int .i64 v12.1.Ew),.fl .ro 1 (map Value.string v12.1.EH),.v (.bool true),.v (.bool s.EB.EA.EM),.v (.string s.EB.EA.EI),.v (.string s.EB.EA.Ex),.fl .ro 3 (flatten (map ae.enc v4)),.fl .ro 1 (map (int .u8) v3.1),.v (.bool s.EB.EU),.v (.string s.EB.EE),.v (.int .i64 s.at_),.v (.bool false)])]) (posts:=[.box 80 (aa.b v12.2)]) hio rfl rfl (.cellA _ _ _ _ underlying55 rfl tT .nil) rfl rfl hargs0 rfl
 ·intro u14 h hl15 hr16
  refine ak h (fun hg3_3 h => ?_) (fun hg3_3 h => ?_)
  ·refine yx hn 4 ?_
   refine yd hg3_3 8 ?_
   refine ye [0,81,4,7,56,0] ?_
   exact hl15 _ (zi h).symm
  ·refine ak h (fun hg3_7 h => ?_) (fun hg3_7 h => ?_)
   ·refine yx hn 4 ?_
    refine yd hg3_3 4 ?_
    refine yd hg3_7 4 ?_
    refine ye [0,81,4,7,56,0] ?_
    exact hl15 _ (zi h).symm
   ·obtain ⟨v5,hv5,h⟩:=zn h
    refine yx hn 4 ?_
    refine yd hg3_3 4 ?_
    refine yd hg3_7 1 ?_
    refine ys 2 ⟨lg call101 (sC _ _ _ hv5) 81⟩ ?_
    refine ye [0,81,4,7,56,0] ?_
    exact hl15 _ (zi h).symm
theorem qX (mx:Int×Nat×Value) (b:(List Int)) (r:(List (List Int))) (h:Sh.mP b=some r):fk Tryz.prog (GL mx) 102 [.fl .shr 1 (map (int .u8) b)] (.fr .ro false 1 (flatten (map Row_int_u8.ienc r))):=by
 unfold Sh.mP at h
 refine yG 14 func102 fun g0 hn hio => ?_
 refine aI hn 1 [0,14] ?_
 refine eC hn 0 ?_
 refine yS (.box 137 [vz]) 0 ⟨oA (aP _ _ Cs)⟩ ?_
 refine aT [0,14,3] ?_
 refine ab (ab ?_)
 obtain ⟨v1,hv1,h⟩:=zn h
 refine yx hn 1 ?_
 refine yk [] [5] ?_
 refine yt (6,.cloB 123 [.box 28 [fb v1]]) 0 ⟨eR _ _ 96 _ _ rfl call96 rfl rfl (eS b _ hv1) rfl⟩ ?_
 refine aT [14,3,6] ?_
 refine aH ?_
 refine gJ [2,0,1] (by kernel_rfl) (es':=[(6,.cloB 123 [.box 28 [fb v1]]),(14,.glob (GL mx)),(3,.box 137 [vz])]) rfl ?_
 refine nH (fs:=[(6,.cloB 123 [.box 28 [fb v1]]),(14,.glob (GL mx)),(3,.box 137 [.fr (.own 28) false 1 (flatten (map Row_int_u8.ienc []))])]) (.same _ (.same _ (.box _ _ (af (jT 28 false 1) (bj)) rfl .nil))) ?_
 refine fx h 123 6 7 15 _ [14,3] call123 (fun (s7:(List (List Int)))=>[(14,.glob (GL mx)),(3,.box 137 [.fr (.own 28) false 1 (flatten (map Row_int_u8.ienc s7))])]) (fun (():Unit)=>[]) (fun l J Y hY t t' h=>dI mx l J Y hY v1 t t' h) hn rfl (fun _=>rfl) (fun _=>rfl) (fun _=>rfl) rfl rfl (fun _=>⟨rfl,rfl⟩) rfl (fw 14 rfl) ?_ ?_ ?_
 ·rintro kk g0 hn hio x s7 u h
  refine oY (es':=[(7,fb x),(14,.glob (GL mx)),(3,.box 137 [.fr (.own 28) false 1 (flatten (map Row_int_u8.ienc s7))]),(14,.v (kk.tm.getD 14 undef)),(3,.v (kk.tm.getD 3 undef)),(15,.inv kk.ready)]) rfl ?_
  refine yy hn 1 [14,3,15,4,14,3] ?_
  refine ah [0,1,3,4,5,2] (by kernel_rfl) (es':=[(14,.glob (GL mx)),(3,.box 137 [.fr (.own 28) false 1 (flatten (map Row_int_u8.ienc s7))]),(4,fb x),(14,.v (kk.tm.getD 14 undef)),(3,.v (kk.tm.getD 3 undef)),(15,.inv kk.ready)]) rfl ?_
  refine gR (es:=[(14,.glob (GL mx)),(3,.box 137 [.fr (.own 28) false 1 (flatten (map Row_int_u8.ienc s7))]),(4,fb x),(14,.v (kk.tm.getD 14 undef)),(3,.v (kk.tm.getD 3 undef))]) 15 rfl ?_
  refine aH ?_
  obtain ⟨v2,hv2,h⟩:=zn h
  obtain ⟨v3,hv3,h⟩:=zn h
  refine wb [[3],[4]] ?_
  refine wN [9] ?_
  refine wS (.fl .ro 1 (map (int .u8) v2)) [] ⟨aL.frzG 0 (mC _ _ _ _ ia rfl rfl (eF _) hv2 (congrArg (map _) (mI hv2))) (zl rfl) rfl⟩ ?_
  refine wN [10] ?_
  refine wS (.fr (.own 28) false 1 (flatten (map Row_int_u8.ienc [v2]))) [] ⟨jG _ _ _ 1 (.slice none 0 0) false _ _ underlying137 jh zf rfl rfl (.cons (.ro _ _ rfl) (.nil)) rfl (by decide) (by decide)⟩ ?_
  refine wK [3] [8,11] ?_
  refine wt [(3,.box 137 [.any]),(12,.fr (.own 28) false 1 (flatten (map Row_int_u8.ienc v3)))] [] ⟨fQ _ 12 3 0 _ _ Ci rfl rfl (zl rfl) rfl (dS Row_int_u8.ilen _) (dS Row_int_u8.ilen _) hv3 (lN (im hv3)) (by decide) (by decide) (by decide) rfl rfl⟩ ?_
  refine wK [8,12,3] [] ?_
  refine wt [(3,.box 137 [.fr (.own 28) false 1 (flatten (map Row_int_u8.ienc v3))])] [] ⟨aL.drop [_] (aK _ _ _ _ _ _ _ _ BS rfl rfl rfl (zl rfl) rfl rfl)⟩ ?_
  refine we hn [14,3,15,14,3] ?_
  refine aJ ?_
  refine ah [0,1,3,4,2] (by kernel_rfl) (es':=[(_,_),(_,_),(_,_),(_,_),(_,_)]) rfl ?_
  obtain rfl:=zi h
  exact gT 15 [14,3] _ rfl rfl (by kernel_rfl)
 ·rintro D s7 h
  refine aJ ?_
  refine ag (ab ?_)
  refine pT 1 hio (es':=[(14,.glob (GL mx)),(3,.box 137 [.fr .ro false 1 (flatten (map Row_int_u8.ienc s7))])]) rfl ?_
  refine yy hn 2 [14,2] ?_
  refine ag (am ?_)
  refine ah [1] (by kernel_rfl) (es':=[(_,_)]) rfl ?_
  obtain rfl:=zi h
  exact ao hio rfl (.tmp _ _ .nil) rfl rfl
 ·rintro D ⟨⟩ h
  cases h
theorem nT (mx:Int×Nat×Value) (b:(List Int)) (r:Int) (h:Sh.jd b=some r):fk Tryz.prog (GL mx) 87 [.fl .shr 1 (map (int .u8) b)] (.v (.int .i64 r)):=by
 unfold Sh.jd at h
 refine yG 23 func87 fun g0 hn hio => ?_
 refine aI hn 1 [0,23] ?_
 refine aI hn 1 [0,23,3] ?_
 refine ab ?_
 refine aD h (fun (s27:Int)=>[(23,.glob (GL mx)),(3,vi s27)]) ?_ ?_
 ·rintro s27 h
  refine ag ?_
  refine aI hn 2 [23,2] ?_
  refine am ?_
  refine ah [1] (by kernel_rfl) (es':=[(_,_)]) rfl ?_
  obtain rfl:=zi h
  exact ao hio rfl (.tmp _ _ .nil) rfl rfl
 ·intro u28 h hl29 hr30
  refine ab ?_
  obtain ⟨v1,hv1,h⟩:=zn h
  refine yx hn 1 ?_
  refine ys 2 ⟨lg call102 (qX _ _ _ hv1) 23⟩ ?_
  refine aT [23,3,7,8,9] ?_
  refine aX h (fun ((s37,s38):Int×Int)=>[(23,.glob (GL mx)),(3,vi s37),(7,.fr .ro false 1 (flatten (map Row_int_u8.ienc v1))),(8,vi (v1.length:Int)),(9,vi s38)]) (fun (s41:Int)=>[(23,.glob (GL mx)),(3,vi s41)]) ?_ ?_
  ·rintro s41 h
   exact hl29 _ (zi h).symm
  ·rintro u42 hl43 hr44 ⟨s37,s38⟩ rr47 h ho45
   refine aI hn 1 [23,3,7,8,9,10] ?_
   refine ab ?_
   refine al _ rfl (fun hb48 => ?_) (fun hb48 => ?_)
   ·have h:=ap hb48 h
    refine ar ?_
    refine ag (ab ?_)
    refine aH (ab ?_)
    obtain ⟨v3,hv3,h⟩:=zn h
    obtain ⟨v4,hv4,h⟩:=zn h
    refine yx hn 0 ?_
    refine ys 0 ⟨lI hv3⟩ ?_
    refine yS (.fl .ro 1 (map (int .u8) v4)) 1 ⟨bR _ _ _ _ _ _ _ underlying28 rfl rfl rfl (tt Row_int_u8.ilen hv4 rfl) (.fl _ _ rfl)⟩ ?_
    refine aT [23,3,7,8,9,5] ?_
    refine ab ?_
    obtain ⟨v5,hv5,h⟩:=zn h
    obtain ⟨v6,hv6,h⟩:=zn h
    refine yx hn 3 ?_
    refine ys 0 ⟨lb hv5⟩ ?_
    refine ys 0 ⟨lb hv6⟩ ?_
    refine yw [3] 1 ?_
    refine aT [23,7,8,9,5,3] ?_
    refine ab ?_
    obtain ⟨v7,hv7,h⟩:=zn h
    refine yx hn 1 ?_
    refine ys 1 ⟨lS hv7⟩ ?_
    refine aT [23,7,8,9,3,20] ?_
    refine al _ rfl (fun hb49 => ?_) (fun hb49 => ?_)
    ·have h:=ap hb49 h
     refine bh ?_
     refine tB (by decide) ?_
     refine aB (aB (bf ?_))
     refine ah [0,4] (by kernel_rfl) (es':=[(_,_),(_,_)]) rfl ?_
     exact hl43 _ (ho45 _ (zi h).symm).symm
    ·have h:=aq hb49 h
     refine ar (aJ (ag ?_))
     obtain ⟨v9,hv9,h⟩:=zn h
     refine yx hn 0 ?_
     refine ys 0 ⟨lb hv9⟩ ?_
     refine yw [9] 1 ?_
     refine ye [23,7,8,3,9] ?_
     refine ah [0,3,1,2,4] (by kernel_rfl) (es':=[(_,_),(_,_),(_,_),(_,_),(_,_)]) rfl ?_
     exact bi _ (zi h).symm rfl
   ·have h:=aq hb48 h
    refine bh (aB (aB (bf ?_)))
    refine ah [0,1] (by kernel_rfl) (es':=[(_,_),(_,_)]) rfl ?_
    exact hl43 _ (ho45 _ (zi h).symm).symm
theorem dU (s:aa) (r:aa) (h:Sh.cP s=some r):mr Tryz.prog 88 [.box 80 (aa.b s)] [.box 80 (aa.b r)] (.tup []):=by
 unfold Sh.cP at h
 refine yP 15 func88 fun args0 hargs0 g0 hn hio => ?_
 refine yx hn 3 ?_
 refine yS (.agg [vb false,vs z0,vs z0]) 12 ⟨bn _ _ _ _ [1,1,1] _ _ underlying26 pM (xb _ underlying26) km.nil rfl rfl rfl⟩ ?_
 refine ye [0,0] ?_
 refine bT (fs:=[(0,.box 80 (vi s.EB.ES::vs s.EB.EE::vb false::vs z0::vs z0::.fl (.own 26) 3 (flatten (map ae.enc []))::vb false::.mkr 5 (map (int .u8) s.EB.Eu)::vs s.EB.Ev::vb s.EB.ET::aC.c s.config [vi s.site,vi s.at_,.fr (.own 55) false 12 (flatten (map au.ienc s.out))])),(0,.v (List.getD args0 0 undef))]) (.box _ _ (af (aj _) (af (aj _) (af (aj _) (af (aj _) (af (aj _) (af (bC 26 3) (af (aj _) (af (aj _) (af (aj _) (af (aj _) (af (aj _) (af (aj _) (af (aj _) (af (aj _) (af (aj _) (af (aj _) (af (aj _) (af (aj _) (af (aj _) (af (aj _) (bj))))))))))))))))))))) rfl (.same _ .nil)) ?_
 obtain rfl:=zi h
 exact jb (es:=[]) (posts:=[.box 80 [.v (.int .i64 s.EB.ES),.v (.string s.EB.EE),.v (.bool false),.v (.string (⟨#[]⟩:Fa)),.v (.string (⟨#[]⟩:Fa)),.fl (.own 26) 3 (flatten (map ae.enc [])),.v (.bool false),.mkr 5 (map (int .u8) s.EB.Eu),.v (.string s.EB.Ev),.v (.bool s.EB.ET),.v (.string ((s.config.Ey.getD 0 (⟨#[]⟩:Fa)))),.v (.string ((s.config.Ey.getD 1 (⟨#[]⟩:Fa)))),.v (.int .i64 s.config.Ez),.v (.string s.config.EY),.v (.string s.config.EW),.v (.int .i64 s.config.EJ),.v (.bool s.config.ED),.v (.int .i64 s.site),.v (.int .i64 s.at_),.fr (.own 55) false 12 (flatten (map au.ienc s.out))]]) hio rfl rfl .nil rfl rfl hargs0 rfl
theorem kW (mx:Int×Nat×Value) (s:aa) (r:(Bool×aa)) (h:Sh.dc s=some r):kZ Tryz.prog (GL mx) 73 [.box 80 (aa.b s)] [.box 80 (aa.b r.2)] (.v (.bool r.1)):=by
 unfold Sh.dc at h
 refine yc 60 func73 fun args0 hargs0 g0 hn hio => ?_
 refine aI hn 1 [0,60,0] ?_
 refine ab ?_
 obtain ⟨v1,hv1,h⟩:=zn h
 refine yx hn 5 ?_
 refine ys 0 ⟨lg call84 (qK _ _ _ hv1) 60⟩ ?_
 refine ym 0 ?_
 refine CF 2 ?_
 refine ya 2 ?_
 refine aT [0,60,3,4,5,0] ?_
 refine ab ?_
 refine aI hn 2 [0,60,3,4,5,18,0] ?_
 refine al _ rfl (fun hb2 => ?_) (fun hb2 => ?_)
 ·have h:=ap hb2 h
  refine aI hn 1 [0,60,2,0] ?_
  refine am ?_
  refine ah [2,0,3] (by kernel_rfl) (es':=[(_,_),(_,_),(_,_)]) rfl ?_
  refine ai ?_
  obtain rfl:=zi h
  exact bo (es:=[(2,.v (.bool false))]) (posts:=[.box 80 (aa.b s)]) hio rfl rfl (.tmp _ _ .nil) rfl rfl hargs0 rfl
 ·have h:=aq hb2 h
  refine ar ?_
  refine ag (ab ?_)
  obtain ⟨v3,hv3,h⟩:=zn h
  refine yx hn 1 ?_
  refine yQ call85 (dH _ _ _ hv3) 0 [19] 0 ?_
  refine yk [20] [] ?_
  refine yt (21,.agg [vi v3.1.Ew,.fl (.own 9) 1 (map Value.string v3.1.EH),vb false,vb false,vs z0,vs z0,vz,vz,vb false,vs z0,vi 0,vb false]) 0 ⟨bn _ _ _ _ [2,1,8,1] _ _ underlying55 qO (xF _ underlying55) (.take _ _ km.nil) rfl rfl rfl⟩ ?_
  refine yS (.box 55 [vi 0,vz,vb false,vb false,vs z0,vs z0,vz,vz,vb false,vs z0,vi 0,vb false]) 0 ⟨oA (aP _ _ qO)⟩ ?_
  refine yk [21,6] [] ?_
  refine yt (6,.box 55 [vi v3.1.Ew,.fl (.own 9) 1 (map Value.string v3.1.EH),vb false,vb false,vs z0,vs z0,vz,vz,vb false,vs z0,vi 0,vb false]) 0 ⟨aK _ _ _ _ _ _ _ _ tT rfl rfl rfl (zl rfl) rfl rfl⟩ ?_
  refine aT [0,60,3,4,5,6,0] ?_
  refine ab ?_
  refine aD h (fun ((s7,s8,s9,s10,s11,s12,s13,s14,s15,s16,s17,s18,s19,s20,s21,s22,s23,s24,s25,s26,s27,s28,s29,s30,s31,s32,s33,s34,s35,s36,s37,s38,s39):Int×Fa×Bool×Fa×Fa×(List ae)×Bool×(List Int)×Fa×Bool×Fa×Fa×Int×Fa×Fa×Int×Bool×Int×Int×(List au)×Int×Int×(List Fa)×Bool×Bool×Fa×Fa×(List ae)×(List Int)×Bool×Fa×Int×Bool)=>[(0,.box 80 [vi s7,vs s8,vb s9,vs s10,vs s11,.fl (.own 26) 3 (flatten (map ae.enc s12)),vb s13,.mkr 5 (map (int .u8) s14),vs s15,vb s16,vs s17,vs s18,vi s19,vs s20,vs s21,vi s22,vb s23,vi s24,vi s25,.fr (.own 55) false 12 (flatten (map au.ienc s26))]),(60,.glob (GL mx)),(4,vi s27),(6,.box 55 [vi s28,.fl .ro 1 (map Value.string s29),vb s30,vb s31,vs s32,vs s33,.fl .ro 3 (flatten (map ae.enc s34)),.fl .ro 1 (map (int .u8) s35),vb s36,vs s37,vi s38,vb s39]),(0,.v (List.getD args0 0 undef))]) ?_ ?_
  ·rintro ⟨s7,s8,s9,s10,s11,s12,s13,s14,s15,s16,s17,s18,s19,s20,s21,s22,s23,s24,s25,s26,s27,s28,s29,s30,s31,s32,s33,s34,s35,s36,s37,s38,s39⟩ h
   refine ag (ab ?_)
   obtain ⟨v44,hv44,h⟩:=zn h
   refine wb [[],[],[34,0],[35,0],[36,0],[6]] ?_
   refine wN [38] ?_
   refine wS (.fr (.own 55) false 12 (flatten (map au.ienc [(au.mk (cd.mk s28 s29) s30 ((aU.mk (ae.mk s31 s32 s33) s34 s35 s36 s37 s38)) s39)]))) [] ⟨jG _ _ _ 12 (.agg #[.int .i64 0,.slice none 0 0,.bool false,.bool false,.string ByteArray.empty,.string ByteArray.empty,.slice none 0 0,.slice none 0 0,.bool false,.string ByteArray.empty,.int .i64 0,.bool false]) false _ _ underlying34 tT qO rfl rfl (.cons (.v _) (.cons (.ro _ _ rfl) (.cons (.v _) (.cons (.v _) (.cons (.v _) (.cons (.v _) (.cons (.ro _ _ rfl) (.cons (.ro _ _ rfl) (.cons (.v _) (.cons (.v _) (.cons (.v _) (.cons (.v _) (.nil))))))))))))) rfl (by decide) (by decide)⟩ ?_
   refine wK [0] [37,39] ?_
   refine wt [(0,.box 80 [vi s7,vs s8,vb s9,vs s10,vs s11,.fl (.own 26) 3 (flatten (map ae.enc s12)),vb s13,.mkr 5 (map (int .u8) s14),vs s15,vb s16,vs s17,vs s18,vi s19,vs s20,vs s21,vi s22,vb s23,vi s24,vi s25,.any]),(40,.fr (.own 55) false 12 (flatten (map au.ienc v44)))] [[33,0],[41,0]] ⟨fQ _ 40 0 19 _ _ Az rfl rfl (zl rfl) rfl (dS au.ilen _) (dS au.ilen _) hv44 (lN (im hv44)) (by decide) (by decide) (by decide) rfl rfl⟩ ?_
   refine wK [37,40,0] [42] ?_
   refine wt [(0,.box 80 [vi s7,vs s8,vb s9,vs s10,vs s11,.fl (.own 26) 3 (flatten (map ae.enc s12)),vb s13,.mkr 5 (map (int .u8) s14),vs s15,vb s16,vs s17,vs s18,vi s19,vs s20,vs s21,vi s22,vb s23,vi s24,vi s25,.fr (.own 55) false 12 (flatten (map au.ienc v44))])] [] ⟨aL.drop [_] (aK _ _ _ _ _ _ _ _ Ay rfl rfl rfl (zl rfl) rfl rfl)⟩ ?_
   refine qR hn [0,60,4,0] ?_
   refine ab ?_
   obtain ⟨v45,hv45,h⟩:=zn h
   refine yx hn 7 ?_
   refine yk [0] [48,49] ?_
   refine kU (0,.box 80 [vi s7,vs s8,vb s9,vs s10,vs s11,.fl (.own 26) 3 (flatten (map ae.enc s12)),vb s13,.any,vs s15,vb s16,vs s17,vs s18,vi s19,vs s20,vs s21,vi s22,vb s23,vi s24,vi s25,.fr (.own 55) false 12 (flatten (map au.ienc v44))]) (50,.mkr 5 (map (int .u8) v45)) 3 ⟨qM _ 50 0 7 _ _ underlying28 jA rfl rfl (zl rfl) rfl rfl hv45 rfl (Nat.ne_of_beq_eq_false rfl) rfl rfl⟩ ?_
   refine yw [48] 0 ?_
   refine yk [50,0] [53] ?_
   refine yt (0,.box 80 [vi s7,vs s8,vb s9,vs s10,vs s11,.fl (.own 26) 3 (flatten (map ae.enc s12)),vb s13,.mkr 5 (map (int .u8) v45),vs s15,vb s16,vs s17,vs s18,vi s19,vs s20,vs s21,vi s22,vb s23,vi s24,vi s25,.fr (.own 55) false 12 (flatten (map au.ienc v44))]) 0 ⟨aK _ _ _ _ _ _ _ _ jh rfl rfl rfl (zl rfl) rfl rfl⟩ ?_
   refine aT [0,60,0] ?_
   refine aI hn 5 [0,60,0] ?_
   refine ab ?_
   obtain ⟨v46,hv46,h⟩:=zn h
   refine yx hn 1 ?_
   refine yQ call88 (dU _ _ hv46) 0 [58] 0 ?_
   refine aT [0,60,0] ?_
   refine aI hn 1 [0,60,2,0] ?_
   refine am ?_
   refine ah [2,0,3] (by kernel_rfl) (es':=[(_,_),(_,_),(_,_)]) rfl ?_
   obtain rfl:=zi h
   exact bo (es:=[(2,.v (.bool true))]) (posts:=[.box 80 (aa.b v46)]) hio rfl rfl (.tmp _ _ .nil) rfl rfl hargs0 rfl
  ·intro u40 h hl41 hr42
   refine aI hn 2 [0,60,3,4,6,23,0] ?_
   refine al _ rfl (fun hb43 => ?_) (fun hb43 => ?_)
   ·have h:=ap hb43 h
    refine vH 2 hio (es':=[(0,.box 80 (aa.b v3.2)),(60,.glob (GL mx)),(3,.fl .ro 1 (map (int .u8) v1.1)),(4,.v (.int .i64 v1.2.1)),(6,.box 55 [.v (.int .i64 v3.1.Ew),.fl (.own 9) 1 (map Value.string v3.1.EH),.v (.bool false),.v (.bool false),.v (.string (⟨#[]⟩:Fa)),.v (.string (⟨#[]⟩:Fa)),vz,vz,.v (.bool false),.v (.string (⟨#[]⟩:Fa)),.v (.int .i64 0),.v (.bool false)]),(23,.v (.bool (v1.2.2==0))),(0,.v (List.getD args0 0 undef))]) rfl ?_
    obtain ⟨v5,hv5,h⟩:=zn h
    refine yx hn 2 ?_
    refine yk [0] [24,25,60] ?_
    refine kU (0,.box 80 (aa.b v5.2)) (26,.agg [vi v5.1.EV.Ew,.fl .ro 1 (map Value.string v5.1.EV.EH),vb v5.1.EC,vb v5.1.EK.EA.EM,vs v5.1.EK.EA.EI,vs v5.1.EK.EA.Ex,.fl .ro 3 (flatten (map ae.enc v5.1.EK.To)),.fl .ro 1 (map (int .u8) v5.1.EK.Et),vb v5.1.EK.EU,vs v5.1.EK.EE,vi v5.1.EK.At,vb v5.1.Er]) 1 ⟨dG _ _ _ _ 26 60 86 [.tmp 24] [.tmp 25] _ _ _ rfl call86 rfl rfl rfl rfl (fun _ h=>h) (jX mx ((aa.r v3.2)) v1.1 _ hv5) (zl rfl) rfl rfl rfl rfl rfl rfl rfl⟩ ?_
    refine ye [0,60,4,6,0] ?_
    exact hl41 _ (zi h).symm
   ·have h:=aq hb43 h
    obtain ⟨v6,hv6,h⟩:=zn h
    refine yx hn 5 ?_
    refine ys 0 ⟨lg call87 (nT _ _ _ hv6) 60⟩ ?_
    refine yw [4] 1 ?_
    refine ye [0,60,6,4,0] ?_
    refine ah [0,1,3,2,4] (by kernel_rfl) (es':=[(_,_),(_,_),(_,_),(_,_),(_,_)]) rfl ?_
    refine pq 3 hio (es':=[(0,.box 80 (aa.b v3.2)),(60,.glob (GL mx)),(4,.v (.int .i64 v6)),(6,.box 55 [.v (.int .i64 v3.1.Ew),.fl .ro 1 (map Value.string v3.1.EH),.v (.bool false),.v (.bool false),.v (.string (⟨#[]⟩:Fa)),.v (.string (⟨#[]⟩:Fa)),vz,vz,.v (.bool false),.v (.string (⟨#[]⟩:Fa)),.v (.int .i64 0),.v (.bool false)]),(0,.v (List.getD args0 0 undef))]) rfl ?_
    refine bT (fs:=[(0,.box 80 (aa.b v3.2)),(60,.glob (GL mx)),(4,vi v6),(6,.box 55 [vi v3.1.Ew,.fl .ro 1 (map Value.string v3.1.EH),vb false,vb false,vs z0,vs z0,.fl .ro 3 (flatten (map ae.enc [])),.fl .ro 1 (map (int .u8) []),vb false,vs z0,vi 0,vb false]),(0,.v (List.getD args0 0 undef))]) (.same _ (.same _ (.same _ (.box _ _ (af (aj _) (af (aj _) (af (aj _) (af (aj _) (af (aj _) (af (aj _) (af (pz 3) (af (pz 1) (af (aj _) (af (aj _) (af (aj _) (af (aj _) (bj))))))))))))) rfl (.same _ .nil))))) ?_
    exact hl41 _ (zi h).symm
theorem qf (i:Int) (q:Int) (p_r:Int) (t:Int) (r:(Int×Int)) (h:Sh.lp i q p_r t=some r):bL Tryz.prog 219 [.v (.int .i64 i),.v (.int .u32 q),.v (.int .u32 p_r),.v (.int .u32 t)] (.tup [.v (.int .u32 r.1),.v (.int .i64 r.2)]):=by
 unfold Sh.lp at h
 refine yO 56 func219 fun g0 hn hio => ?_
 refine aI hn 2 [0,1,2,3] ?_
 refine ab (ab ?_)
 obtain ⟨v1,hv1,h⟩:=zn h
 refine yx hn 1 ?_
 refine ys 0 ⟨lB (pJ hv1)⟩ ?_
 refine aT [0,1,2,3,11] ?_
 refine aH ?_
 refine aI hn 2 [0,1,2,3,11,12] ?_
 refine al _ rfl (fun hb2 => ?_) (fun hb2 => ?_)
 ·have h:=ap hb2 h
  refine ab ?_
  obtain ⟨v3,hv3,h⟩:=zn h
  obtain ⟨v4,hv4,h⟩:=zn h
  obtain ⟨v5,hv5,h⟩:=zn h
  obtain ⟨v6,hv6,h⟩:=zn h
  refine yx hn 2 ?_
  refine ys 1 ⟨lb hv3⟩ ?_
  refine yS (.v (.int .u32 v4)) 1 ⟨wV _ _ _ _ rfl (zM (f:=int .u32) (Option.some.inj hv4))⟩ ?_
  refine ys 0 ⟨lb hv5⟩ ?_
  refine ys 3 ⟨lb hv6⟩ ?_
  refine aT [8,9] ?_
  refine am (aG (ai ?_))
  obtain rfl:=zi h
  exact ao hio rfl (.tmp _ _ (.tmp _ _ .nil)) rfl rfl
 ·have h:=aq hb2 h
  refine aI hn 2 [0,1,2,3,11,23] ?_
  refine al _ rfl (fun hb7 => ?_) (fun hb7 => ?_)
  ·have h:=ap hb7 h
   refine ab ?_
   obtain ⟨v8,hv8,h⟩:=zn h
   obtain ⟨v9,hv9,h⟩:=zn h
   obtain ⟨v10,hv10,h⟩:=zn h
   obtain ⟨v11,hv11,h⟩:=zn h
   obtain ⟨v12,hv12,h⟩:=zn h
   obtain ⟨v13,hv13,h⟩:=zn h
   refine yx hn 2 ?_
   refine ys 2 ⟨lb hv8⟩ ?_
   refine ys 0 ⟨lb hv9⟩ ?_
   refine ys 1 ⟨lb hv10⟩ ?_
   refine ys 0 ⟨lb hv11⟩ ?_
   refine ys 0 ⟨lb hv12⟩ ?_
   refine ys 2 ⟨lB (jK hv13)⟩ ?_
   refine aT [8,9] ?_
   refine am (aG (ai ?_))
   obtain rfl:=zi h
   exact ao hio rfl (.tmp _ _ (.tmp _ _ .nil)) rfl rfl
  ·have h:=aq hb7 h
   refine aI hn 2 [0,1,2,3,36] ?_
   refine al _ rfl (fun hb14 => ?_) (fun hb14 => ?_)
   ·have h:=ap hb14 h
    refine ab ?_
    obtain ⟨v15,hv15,h⟩:=zn h
    obtain ⟨v16,hv16,h⟩:=zn h
    obtain ⟨v17,hv17,h⟩:=zn h
    obtain ⟨v18,hv18,h⟩:=zn h
    obtain ⟨v19,hv19,h⟩:=zn h
    refine yx hn 2 ?_
    refine ys 1 ⟨lb hv15⟩ ?_
    refine ys 1 ⟨lb hv16⟩ ?_
    refine ys 0 ⟨lb hv17⟩ ?_
    refine ys 0 ⟨lb hv18⟩ ?_
    refine ys 2 ⟨lB (jK hv19)⟩ ?_
    refine aT [8,9] ?_
    refine am (aG (ai ?_))
    obtain rfl:=zi h
    exact ao hio rfl (.tmp _ _ (.tmp _ _ .nil)) rfl rfl
   ·have h:=aq hb14 h
    refine ar (aJ ?_)
    refine ag (ab ?_)
    obtain ⟨v20,hv20,h⟩:=zn h
    obtain ⟨v21,hv21,h⟩:=zn h
    obtain ⟨v22,hv22,h⟩:=zn h
    obtain ⟨v23,hv23,h⟩:=zn h
    obtain ⟨v24,hv24,h⟩:=zn h
    refine yx hn 3 ?_
    refine yS (.v (.int .u32 v20)) 0 ⟨wV _ _ _ _ rfl (zM (f:=int .u32) (Option.some.inj hv20))⟩ ?_
    refine ys 0 ⟨lb hv21⟩ ?_
    refine ys 1 ⟨lb hv22⟩ ?_
    refine ys 0 ⟨lb hv23⟩ ?_
    refine ys 2 ⟨lB (jK hv24)⟩ ?_
    refine aT [8,9] ?_
    refine am ?_
    obtain rfl:=zi h
    exact ao hio rfl (.tmp _ _ (.tmp _ _ .nil)) rfl rfl
theorem gn (mx:Int×Nat×Value) (s:(List Int)) (b:(List Int)) (r:(List Int)) (h:Sh.dE s b=some r):fk Tryz.prog (GL mx) 203 [.v (.agg (map (int .u32) s).toArray),.fl .shr 1 (map (int .u8) b)] (.v (.agg (map (int .u32) r).toArray)):=by
 unfold Sh.dE at h
 refine yG 105 func203 fun g0 hn hio => ?_
 refine eC hn 0 ?_
 refine yS (.arr 225 (map (int .u32) s)) 0 ⟨ur _ _ _ rfl⟩ ?_
 refine yS (.arr 225 (map (int .u32) ((List.replicate 4 (0:Int))))) 0 ⟨oA (bN _ zU)⟩ ?_
 refine aT [1,105,2,4] ?_
 refine eC hn 0 ?_
 refine yS (.arr 222 (map (int .u32) ((List.replicate 16 (0:Int))))) 0 ⟨oA (bN _ vA)⟩ ?_
 refine aT [1,105,2,4,5] ?_
 refine ab ?_
 refine aI hn 3 [105,2,4,5,17,18,19] ?_
 refine aX h (fun ((s18,s19):(List Int)×Int)=>[(105,.glob (GL mx)),(2,.arr 225 (map (int .u32) s)),(4,.arr 225 (map (int .u32) ((List.replicate 4 (0:Int))))),(5,.arr 222 (map (int .u32) s18)),(17,fb b),(18,vi (b.length:Int)),(19,vi s19)]) (fun (s21:(List Int))=>[(105,.glob (GL mx)),(2,.arr 225 (map (int .u32) s)),(4,.arr 225 (map (int .u32) ((List.replicate 4 (0:Int))))),(5,.arr 222 (map (int .u32) s21))]) ?_ ?_
 ·rintro s21 h
  refine ag (ab ?_)
  obtain ⟨v29,hv29,h⟩:=zn h
  obtain ⟨v30,hv30,h⟩:=zn h
  obtain ⟨v31,hv31,h⟩:=zn h
  obtain ⟨v32,hv32,h⟩:=zn h
  obtain ⟨v33,hv33,h⟩:=zn h
  obtain ⟨v34,hv34,h⟩:=zn h
  obtain ⟨v35,hv35,h⟩:=zn h
  obtain ⟨v36,hv36,h⟩:=zn h
  refine wb [] ?_
  refine wN [2] ?_
  refine wS (.ptr 2 v29) [] ⟨cg _ _ _ _ 4 2 _ underlying225 fA rfl rfl (bk hv29).1 (bk hv29).2 (by decide)⟩ ?_
  refine wN [37,2] ?_
  refine wS (.v (.int .u32 v30)) [] ⟨bV _ _ _ _ _ _ underlying106 rfl rfl rfl (cC hv30)⟩ ?_
  refine wN [2] ?_
  refine wS (.ptr 2 v31) [] ⟨cg _ _ _ _ 4 2 _ underlying225 fA rfl rfl (bk hv31).1 (bk hv31).2 (by decide)⟩ ?_
  refine wN [39,2] ?_
  refine wS (.v (.int .u32 v32)) [] ⟨bV _ _ _ _ _ _ underlying106 rfl rfl rfl (cC hv32)⟩ ?_
  refine wN [2] ?_
  refine wS (.ptr 2 v33) [] ⟨cg _ _ _ _ 4 2 _ underlying225 fA rfl rfl (bk hv33).1 (bk hv33).2 (by decide)⟩ ?_
  refine wN [41,2] ?_
  refine wS (.v (.int .u32 v34)) [] ⟨bV _ _ _ _ _ _ underlying106 rfl rfl rfl (cC hv34)⟩ ?_
  refine wN [2] ?_
  refine wS (.ptr 2 v35) [] ⟨cg _ _ _ _ 4 2 _ underlying225 fA rfl rfl (bk hv35).1 (bk hv35).2 (by decide)⟩ ?_
  refine wN [43,2] ?_
  refine wS (.v (.int .u32 v36)) [[38],[40],[42],[44]] ⟨bV _ _ _ _ _ _ underlying106 rfl rfl rfl (cC hv36)⟩ ?_
  refine qR hn [105,2,4,5,8,9,10,11] ?_
  refine ab ?_
  refine eC hn 0 ?_
  refine yS (.v (.agg (map (int .u32) cM).toArray)) 1 ⟨qL _ _ 105 5 (map (int .u32) cM) underlying241 rfl Cu rfl rfl (yn mx)⟩ ?_
  refine aT [105,2,4,5,8,9,10,11,45,46] ?_
  refine aX h (fun ((s63,s64,s65,s66,s67):Int×Int×Int×Int×Int)=>[(105,.glob (GL mx)),(2,.arr 225 (map (int .u32) s)),(4,.arr 225 (map (int .u32) ((List.replicate 4 (0:Int))))),(5,.arr 222 (map (int .u32) s21)),(8,.v (.int .u32 s63)),(9,.v (.int .u32 s64)),(10,.v (.int .u32 s65)),(11,.v (.int .u32 s66)),(45,.v (.agg (map (int .u32) cM).toArray)),(46,vi s67)]) (fun ((s69,s70,s71,s72):Int×Int×Int×Int)=>[(105,.glob (GL mx)),(2,.arr 225 (map (int .u32) s)),(4,.arr 225 (map (int .u32) ((List.replicate 4 (0:Int))))),(8,.v (.int .u32 s69)),(9,.v (.int .u32 s70)),(10,.v (.int .u32 s71)),(11,.v (.int .u32 s72))]) ?_ ?_
  ·rintro ⟨s69,s70,s71,s72⟩ h
   refine ag (ab ?_)
   obtain ⟨v80,hv80,h⟩:=zn h
   obtain ⟨v81,hv81,h⟩:=zn h
   obtain ⟨v82,hv82,h⟩:=zn h
   obtain ⟨v83,hv83,h⟩:=zn h
   obtain ⟨v84,hv84,h⟩:=zn h
   obtain ⟨v85,hv85,h⟩:=zn h
   obtain ⟨v86,hv86,h⟩:=zn h
   obtain ⟨v87,hv87,h⟩:=zn h
   obtain ⟨v88,hv88,h⟩:=zn h
   obtain ⟨v89,hv89,h⟩:=zn h
   obtain ⟨v90,hv90,h⟩:=zn h
   obtain ⟨v91,hv91,h⟩:=zn h
   obtain ⟨v92,hv92,h⟩:=zn h
   obtain ⟨v93,hv93,h⟩:=zn h
   refine yx hn 0 ?_
   refine yS (.ptr 2 v80) 0 ⟨cg _ _ _ _ 4 2 _ underlying225 fA rfl rfl (bk hv80).1 (bk hv80).2 (by decide)⟩ ?_
   refine yS (.v (.int .u32 v81)) 1 ⟨bV _ _ _ _ _ _ underlying106 rfl rfl rfl (cC hv81)⟩ ?_
   refine ys 0 ⟨lb hv82⟩ ?_
   refine yS (.ptr 2 v83) 0 ⟨cg _ _ _ _ 4 2 _ underlying225 fA rfl rfl (bk hv83).1 (bk hv83).2 (by decide)⟩ ?_
   refine yS (.v (.int .u32 v84)) 1 ⟨bV _ _ _ _ _ _ underlying106 rfl rfl rfl (cC hv84)⟩ ?_
   refine ys 0 ⟨lb hv85⟩ ?_
   refine yS (.ptr 2 v86) 0 ⟨cg _ _ _ _ 4 2 _ underlying225 fA rfl rfl (bk hv86).1 (bk hv86).2 (by decide)⟩ ?_
   refine yS (.v (.int .u32 v87)) 1 ⟨bV _ _ _ _ _ _ underlying106 rfl rfl rfl (cC hv87)⟩ ?_
   refine ys 0 ⟨lb hv88⟩ ?_
   refine yS (.ptr 2 v89) 0 ⟨cg _ _ _ _ 4 2 _ underlying225 fA rfl rfl (bk hv89).1 (bk hv89).2 (by decide)⟩ ?_
   refine yS (.v (.int .u32 v90)) 1 ⟨bV _ _ _ _ _ _ underlying106 rfl rfl rfl (cC hv90)⟩ ?_
   refine ys 0 ⟨lb hv91⟩ ?_
   refine yS (.v (.agg (map (int .u32) ([v82,v85,v88,v91]:List Int)).toArray)) 0 ⟨mQ _ _ (.agg #[.int .u32 0,.int .u32 0,.int .u32 0,.int .u32 0]) (map (int .u32) ([v82,v85,v88,v91]:List Int)) [(0,.int .u32 v82),(1,.int .u32 v85),(2,.int .u32 v88),(3,.int .u32 v91)] underlying225 fA zL (fun _ V w o a hv hes=>by have e0:=bK hv hes (x := .tmp 91) rfl; have e1:=bK hv hes (x := .tmp 95) rfl; have e2:=bK hv hes (x := .tmp 99) rfl; have e3:=bK hv hes (x := .tmp 103) rfl; simp only [List.map_toArray,List.map_cons,List.map_nil,e0,e1,e2,e3]; try rfl) (cn (by simp [Instr.fill,Value.cells]; rfl) (by simp))⟩ ?_
   refine yk [4] [104] ?_
   refine yt (4,.arr 225 (map (int .u32) ([v82,v85,v88,v91]:List Int))) 0 ⟨bQ _ _ _ _ (qs.trans (congrArg some (bq hv93))) rfl rfl (ef (fun _=>rfl) _) ((bq (f:=int .u32) hv92).symm.trans (bq (f:=int .u32) hv93))⟩ ?_
   refine aT [105,4] ?_
   refine am ?_
   obtain ⟨v94,hv94,h⟩:=zn h
   refine ah [1] (by kernel_rfl) (es':=[(_,_)]) rfl ?_
   obtain rfl:=zi h
   exact ao hio rfl (.cellR _ _ _ _ underlying225 rfl (qs.trans (congrArg some (bq hv94))) .nil) rfl rfl
  ·rintro u73 hl74 hr75 ⟨s63,s64,s65,s66,s67⟩ rr78 h ho76
   refine aI hn 1 [105,2,4,5,8,9,10,11,45,46,47] ?_
   refine ab ?_
   refine al _ rfl (fun hb79 => ?_) (fun hb79 => ?_)
   ·have h:=ap hb79 h
    refine ar ?_
    refine ag (ab ?_)
    refine aH (ab ?_)
    obtain ⟨v38,hv38,h⟩:=zn h
    obtain ⟨v39,hv39,h⟩:=zn h
    refine yx hn 1 ?_
    refine yS (.v (.int .u32 v39)) 2 ⟨mV _ _ _ _ 64 v38 underlying241 fA rfl (congrArg (fun j=>AV.v (int .i64 j)) (bk hv38).1) (bk hv38).2 (cC hv39) ⟨_,underlying106,rfl⟩⟩ ?_
    refine aT [105,2,4,5,8,9,10,11,45,46,12,13] ?_
    refine ab ?_
    obtain ⟨v40,hv40,h⟩:=zn h
    refine yx hn 4 ?_
    refine ys 0 ⟨lk call219 (qf _ _ _ _ _ hv40)⟩ ?_
    refine ym 4 ?_
    refine aT [105,2,4,5,8,9,10,11,45,46,12,13,14,15] ?_
    refine ab ?_
    obtain ⟨v41,hv41,h⟩:=zn h
    obtain ⟨v42,hv42,h⟩:=zn h
    obtain ⟨v43,hv43,h⟩:=zn h
    obtain ⟨v44,hv44,h⟩:=zn h
    obtain ⟨v45,hv45,h⟩:=zn h
    refine yx hn 3 ?_
    refine ys 1 ⟨lb hv41⟩ ?_
    refine yS (.ptr 5 v42) 0 ⟨cg _ _ _ _ 16 5 _ underlying222 fA rfl rfl (bk hv42).1 (bk hv42).2 (by decide)⟩ ?_
    refine yS (.v (.int .u32 v43)) 0 ⟨bV _ _ _ _ _ _ underlying106 rfl rfl rfl (cC hv43)⟩ ?_
    refine ys 0 ⟨lb hv44⟩ ?_
    refine ys 0 ⟨lb hv45⟩ ?_
    refine yw [14] 1 ?_
    refine aT [105,2,4,5,9,10,11,45,46,12,14] ?_
    refine ab ?_
    obtain ⟨v46,hv46,h⟩:=zn h
    obtain ⟨v47,hv47,h⟩:=zn h
    obtain ⟨v48,hv48,h⟩:=zn h
    obtain ⟨v49,hv49,h⟩:=zn h
    obtain ⟨v50,hv50,h⟩:=zn h
    refine yx hn 1 ?_
    refine ys 1 ⟨lB (pJ hv46)⟩ ?_
    refine ys 0 ⟨lB (jK hv47)⟩ ?_
    refine yS (.v (.pointer (some ⟨6,(0+v48 * 4),none⟩))) 0 ⟨lA _ _ _ _ 4 6 0 _ 4 _ underlying245 Ck rfl rfl (bk hv48).1 (bk hv48).2⟩ ?_
    refine yS (.v (.pointer (some ⟨6,((0+v48 * 4)+v49 * 1),none⟩))) 0 ⟨lA _ _ _ _ 4 6 (0+v48 * 4) _ 1 _ underlying244 Ar rfl rfl (bk hv49).1 (bk hv49).2⟩ ?_
    refine yS (vi v50) 1 ⟨jZ _ _ 105 6 _ _ _ underlying3 rfl rfl rfl (zm mx) (cC hv50)⟩ ?_
    refine aT [105,2,4,5,9,10,11,45,46,14,16] ?_
    obtain ⟨v51,hv51,h⟩:=zn h
    obtain ⟨v52,hv52,h⟩:=zn h
    obtain ⟨v53,hv53,h⟩:=zn h
    obtain ⟨v54,hv54,h⟩:=zn h
    obtain ⟨v55,hv55,h⟩:=zn h
    refine wb [[11],[9],[14],[16]] ?_
    refine wN [76,77] ?_
    refine wo [[14],[16]] ⟨lB (nN hv51)⟩ ?_
    refine wN [80] ?_
    refine wo [] ⟨lb hv52⟩ ?_
    refine wN [79,81] ?_
    refine wo [] ⟨lB (jN hv53)⟩ ?_
    refine wN [78,82] ?_
    refine wo [] ⟨lb hv54⟩ ?_
    refine wN [75,83] ?_
    refine wo [[9],[10],[74]] ⟨lb hv55⟩ ?_
    refine wK [9] [84] ?_
    refine wt [(9,.v (.int .u32 v55))] [] ⟨aL.drop [_] (jq _ _ _ _ rfl rfl)⟩ ?_
    refine wK [10] [85] ?_
    refine wt [(10,.v (.int .u32 s64))] [] ⟨aL.drop [_] (jq _ _ _ _ rfl rfl)⟩ ?_
    refine wK [11] [86] ?_
    refine wt [(11,.v (.int .u32 s65))] [] ⟨aL.drop [_] (jq _ _ _ _ rfl rfl)⟩ ?_
    refine we hn [105,2,4,5,45,46,8,9,10,11] ?_
    refine aJ (ag ?_)
    obtain ⟨v56,hv56,h⟩:=zn h
    refine yx hn 0 ?_
    refine ys 0 ⟨lb hv56⟩ ?_
    refine yw [46] 1 ?_
    refine ye [105,2,4,5,45,8,9,10,11,46] ?_
    refine ah [0,1,2,3,5,6,7,8,4,9] (by kernel_rfl) (es':=[(_,_),(_,_),(_,_),(_,_),(_,_),(_,_),(_,_),(_,_),(_,_),(_,_)]) rfl ?_
    exact bi _ (zi h).symm rfl
   ·have h:=aq hb79 h
    refine bh (aB (aB (bf ?_)))
    refine ah [0,1,2,4,5,6,7] (by kernel_rfl) (es':=[(_,_),(_,_),(_,_),(_,_),(_,_),(_,_),(_,_)]) rfl ?_
    exact hl74 _ (ho76 _ (zi h).symm).symm
 ·rintro u22 hl23 hr24 ⟨s18,s19⟩ rr27 h ho25
  refine aI hn 1 [105,2,4,5,17,18,19,20] ?_
  refine ab ?_
  refine al _ rfl (fun hb28 => ?_) (fun hb28 => ?_)
  ·have h:=ap hb28 h
   refine ar ?_
   refine ag (ab ?_)
   refine aH (ab ?_)
   obtain ⟨v2,hv2,h⟩:=zn h
   obtain ⟨v3,hv3,h⟩:=zn h
   refine yx hn 1 ?_
   refine ys 0 ⟨li hv2⟩ ?_
   refine ys 2 ⟨ll hv3⟩ ?_
   refine aT [105,2,4,5,17,18,19,6,7] ?_
   obtain ⟨v4,hv4,h⟩:=zn h
   obtain ⟨v5,hv5,h⟩:=zn h
   obtain ⟨v6,hv6,h⟩:=zn h
   obtain ⟨v7,hv7,h⟩:=zn h
   obtain ⟨v8,hv8,h⟩:=zn h
   obtain ⟨v9,hv9,h⟩:=zn h
   obtain ⟨v10,hv10,h⟩:=zn h
   obtain ⟨v11,hv11,h⟩:=zn h
   obtain ⟨v12,hv12,h⟩:=zn h
   obtain ⟨v13,hv13,h⟩:=zn h
   refine wb [[6]] ?_
   refine wN [24] ?_
   refine wo [] ⟨lB (pJ hv4)⟩ ?_
   refine wN [5,25] ?_
   refine wS (.ptr 5 v5) [] ⟨cg _ _ _ _ 16 5 _ underlying222 fA rfl rfl (bk hv5).1 (bk hv5).2 (by decide)⟩ ?_
   refine wN [26,5] ?_
   refine wS (.v (.int .u32 v6)) [[7]] ⟨bV _ _ _ _ _ _ underlying106 rfl rfl rfl (cC hv6)⟩ ?_
   refine wN [28] ?_
   refine wo [[6]] ⟨lv hv7⟩ ?_
   refine wN [30] ?_
   refine wo [] ⟨lB (jK hv8)⟩ ?_
   refine wN [31] ?_
   refine wo [] ⟨lb hv9⟩ ?_
   refine wN [29,32] ?_
   refine wo [] ⟨lB (nN hv10)⟩ ?_
   refine wN [27,33] ?_
   refine wo [] ⟨lb hv11⟩ ?_
   refine wN [5,25] ?_
   refine wS (.ptr 5 v12) [] ⟨cg _ _ _ _ 16 5 _ underlying222 fA rfl rfl (bk hv12).1 (bk hv12).2 (by decide)⟩ ?_
   refine wK [5] [35,34] ?_
   refine wt [(5,.arr 222 (map (int .u32) v13))] [] ⟨jE _ _ _ _ _ _ fA rfl rfl rfl rfl (uE hv13) (uz (f:=int .u32) hv13)⟩ ?_
   refine we hn [105,2,4,5,17,18,19] ?_
   refine aJ (ag ?_)
   obtain ⟨v14,hv14,h⟩:=zn h
   refine yx hn 0 ?_
   refine ys 0 ⟨lb hv14⟩ ?_
   refine yw [19] 1 ?_
   refine ye [105,2,4,5,17,18,19] ?_
   exact bi _ (zi h).symm rfl
  ·have h:=aq hb28 h
   refine bh (aB (aB (bf ?_)))
   refine ah [0,1,2,3] (by kernel_rfl) (es':=[(_,_),(_,_),(_,_),(_,_)]) rfl ?_
   exact hl23 _ (ho25 _ (zi h).symm).symm
theorem nM (rest:(List Int)) (n:Int) (r:(List Int)) (h:Sh.jk rest n=some r):bL Tryz.prog 204 [.fl .shr 1 (map (int .u8) rest),.v (.int .i64 n)] (.fl (.own 5) 1 (map (int .u8) r)):=by
 unfold Sh.jk at h
 refine yO 42 func204 fun g0 hn hio => ?_
 refine aI hn 1 [0,1] ?_
 refine aI hn 1 [0,1,5] ?_
 refine ab ?_
 refine aD h (fun (s4:Int)=>[(0,fb rest),(1,vi n),(5,vi s4)]) ?_ ?_
 ·rintro s4 h
  refine ag (ab ?_)
  obtain ⟨v9,hv9,h⟩:=zn h
  refine yx hn 1 ?_
  refine yS (.fl (.own 5) 1 (map (int .u8) v9)) 0 ⟨BU (f:=int .u8) _ _ _ _ ia (by decide) rb rfl rfl rfl hv9⟩ ?_
  refine ya 0 ?_
  refine aT [0,1,5,6] ?_
  refine ab ?_
  obtain ⟨v10,hv10,h⟩:=zn h
  refine yx hn 2 ?_
  refine yk [6] [16,17] ?_
  refine kU (6,.fl (.own 5) 1 (map (int .u8) v10)) (18,vi (pP v9 rest)) 0 ⟨(Option.some.inj hv10) ▸ BT _ _ _ _ _ _ _ underlying28 jA rfl rfl (by decide)⟩ ?_
  refine aT [0,1,5,6] ?_
  refine ab ?_
  obtain ⟨v11,hv11,h⟩:=zn h
  obtain ⟨v12,hv12,h⟩:=zn h
  refine yx hn 3 ?_
  refine ys 0 ⟨li hv11⟩ ?_
  refine yk [6] [22] ?_
  refine yt (6,.fl (.own 5) 1 (map (int .u8) v12)) 0 ⟨pV _ _ _ _ _ _ _ _ jA rfl rfl rfl (by decide) (rV (bk hv11).2) ((map_set (f:=int .u8) _ (bk hv11).2).trans (congrArg (map _) (Option.some.inj hv12)))⟩ ?_
  refine aT [1,5,6] ?_
  refine ab ?_
  obtain ⟨v13,hv13,h⟩:=zn h
  obtain ⟨v14,hv14,h⟩:=zn h
  refine yx hn 1 ?_
  refine ys 0 ⟨lv hv13⟩ ?_
  refine ys 1 ⟨lB (nN hv14)⟩ ?_
  refine aT [5,6,7] ?_
  refine ab ?_
  refine aI hn 1 [5,6,7,26] ?_
  refine aX h (fun ((s27,s28):(List Int)×Int)=>[(5,vi s4),(6,.fl (.own 5) 1 (map (int .u8) s27)),(7,.v (.int .u64 v14)),(26,vi s28)]) (fun (s30:(List Int))=>[(6,.fl (.own 5) 1 (map (int .u8) s30))]) ?_ ?_
  ·rintro s30 h
   refine ag ?_
   refine eC hn 0 ?_
   refine ym 0 ?_
   refine ya 0 ?_
   refine aT [4] ?_
   refine am ?_
   obtain rfl:=zi h
   exact ao hio rfl (.tmp _ _ .nil) rfl rfl
  ·rintro u31 hl32 hr33 ⟨s27,s28⟩ rr36 h ho34
   refine aI hn 1 [5,6,7,26,27] ?_
   refine ab ?_
   refine al _ rfl (fun hb37 => ?_) (fun hb37 => ?_)
   ·have h:=ap hb37 h
    refine ar ?_
    refine ag (ab ?_)
    refine aH ?_
    refine aI hn 2 [5,6,7,26,8] ?_
    obtain ⟨v16,hv16,h⟩:=zn h
    obtain ⟨v17,hv17,h⟩:=zn h
    obtain ⟨v18,hv18,h⟩:=zn h
    obtain ⟨v19,hv19,h⟩:=zn h
    obtain ⟨v20,hv20,h⟩:=zn h
    obtain ⟨v21,hv21,h⟩:=zn h
    obtain ⟨v22,hv22,h⟩:=zn h
    refine yx hn 2 ?_
    refine ys 1 ⟨lb hv16⟩ ?_
    refine ys 2 ⟨lb hv17⟩ ?_
    refine ys 0 ⟨lb hv18⟩ ?_
    refine ys 0 ⟨lB (jN hv19)⟩ ?_
    refine ys 0 ⟨lv hv20⟩ ?_
    refine ys 0 ⟨li hv21⟩ ?_
    refine yk [6] [39,38] ?_
    refine yt (6,.fl (.own 5) 1 (map (int .u8) v22)) 0 ⟨pV _ _ _ _ _ _ _ _ jA rfl rfl rfl (by decide) (rV (bk hv21).2) ((map_set (f:=int .u8) _ (bk hv21).2).trans (congrArg (map _) (Option.some.inj hv22)))⟩ ?_
    refine ye [5,6,7,26] ?_
    refine aJ (ag ?_)
    obtain ⟨v23,hv23,h⟩:=zn h
    refine yx hn 0 ?_
    refine ys 0 ⟨lb hv23⟩ ?_
    refine yw [26] 1 ?_
    refine ye [5,6,7,26] ?_
    exact bi _ (zi h).symm rfl
   ·have h:=aq hb37 h
    refine bh (aB (aB (bf ?_)))
    refine ah [1] (by kernel_rfl) (es':=[(_,_)]) rfl ?_
    exact hl32 _ (ho34 _ (zi h).symm).symm
 ·intro u5 h hl6 hr7
  refine ab ?_
  obtain ⟨v1,hv1,h⟩:=zn h
  obtain ⟨v2,hv2,h⟩:=zn h
  refine yx hn 2 ?_
  refine ys 0 ⟨lb hv1⟩ ?_
  refine ys 1 ⟨lb hv2⟩ ?_
  refine aT [0,1,5,13] ?_
  refine al _ rfl (fun hb8 => ?_) (fun hb8 => ?_)
  ·have h:=ap hb8 h
   refine yx hn 0 ?_
   refine yw [5] 1 ?_
   refine ye [0,1,5] ?_
   exact hl6 _ (zi h).symm
  ·have h:=aq hb8 h
   refine ar ?_
   refine ah [0,1,2] (by kernel_rfl) (es':=[(_,_),(_,_),(_,_)]) rfl ?_
   exact hl6 _ (zi h).symm
end Go.Proofs.YtjnnkhmhjcjhdaaGreatDoor
