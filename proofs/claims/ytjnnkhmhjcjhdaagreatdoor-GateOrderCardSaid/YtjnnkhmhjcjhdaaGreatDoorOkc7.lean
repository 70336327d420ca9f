/-
 The model's runs are what is told in Lean.
-/
import Derived.Test.YtjnnkhmhjcjhdaaGreatDoorOkc6
set_option linter.unusedVariables false
set_option linter.unusedSimpArgs false
set_option maxHeartbeats 1000000
namespace Go.Proofs.YtjnnkhmhjcjhdaaGreatDoor
open Go.Abs Go.Abs.Sh Tryz
open List (map flatten)
open Value (int)
theorem qU (mx:Int×Nat×Value) (line:Fa) (r:(br×Int)) (h:Sh.mH line=some r):fk Tryz.prog (GL mx) 91 [.v (.string line)] (.tup [.agg [.v (.int .i64 r.1.EG),.v (.string r.1.EX),.v (.bool r.1.EQ.EM),.v (.string r.1.EQ.EI),.v (.string r.1.EQ.Ex),.fl .ro 2 (flatten (map ay.enc r.1.EP))],.v (.int .i64 r.2)]):=by
 unfold Sh.mH at h
 refine yG 32 func91 fun g0 hn hio => ?_
 refine eC hn 0 ?_
 refine yS (.box 122 [vi 0,vs z0,vb false,vs z0,vs z0,vz]) 1 ⟨oA (aP _ _ jt)⟩ ?_
 refine aT [0,32,2] ?_
 refine ab (ab ?_)
 refine aD h (fun (s12:Bool)=>[(0,vs line),(32,.glob (GL mx)),(2,.box 122 [vi 0,vs z0,vb false,vs z0,vs z0,vz]),(18,vb s12)]) ?_ ?_
 ·rintro s12 h
  refine ag ?_
  refine al _ rfl (fun hb16 => ?_) (fun hb16 => ?_)
  ·have h:=ap hb16 h
   refine eC hn 0 ?_
   refine yS (.agg [vi 0,vs z0,vb false,vs z0,vs z0,vz]) 0 ⟨bn _ _ _ _ [1,1,3,1] _ _ underlying122 jt (ql _ underlying122) km.nil rfl rfl rfl⟩ ?_
   refine yk [19,2] [] ?_
   refine yt (2,.box 122 [vi 0,vs z0,vb false,vs z0,vs z0,vz]) 1 ⟨cA _ _ _ 19 2 6 eA rfl rfl rfl rfl rfl (.eq _ (.eq _ (.eq _ (.eq _ (.eq _ (.eq _ (.nil _))))))) rfl⟩ ?_
   refine aT [32,2,3] ?_
   refine am ?_
   refine ah [1,2] (by kernel_rfl) (es':=[(_,_),(_,_)]) rfl ?_
   refine bT (fs:=[(2,.box 122 [vi 0,vs z0,vb false,vs z0,vs z0,.fl (.own 181) 2 (flatten (map ay.enc []))]),(3,vi 500)]) (.box _ _ (af (aj _) (af (aj _) (af (aj _) (af (aj _) (af (aj _) (af (bC 181 2) (bj))))))) rfl (.same _ .nil)) ?_
   refine dF 0 hio (es':=[(2,.box 122 [.v (.int .i64 0),.v (.string (⟨#[]⟩:Fa)),.v (.bool false),.v (.string (⟨#[]⟩:Fa)),.v (.string (⟨#[]⟩:Fa)),.fl .ro 2 (flatten (map ay.enc []))]),(3,.v (.int .i64 500))]) rfl ?_
   refine ai ?_
   obtain rfl:=zi h
   exact ao hio rfl (.cellA _ _ _ _ underlying122 rfl eA (.tmp _ _ .nil)) rfl rfl
  ·have h:=aq hb16 h
   refine ar ?_
   refine ag (ab ?_)
   refine ab ?_
   obtain ⟨v8,hv8,h⟩:=zn h
   refine yx hn 1 ?_
   refine ys 0 ⟨lg call110 (jQ _ _ _ hv8) 32⟩ ?_
   refine aT [0,32,2,21] ?_
   refine al _ rfl (fun hb17 => ?_) (fun hb17 => ?_)
   ·have h:=ap hb17 h
    refine eC hn 0 ?_
    refine yS (.agg [vi 0,vs z0,vb false,vs z0,vs z0,vz]) 0 ⟨bn _ _ _ _ [1,1,3,1] _ _ underlying122 jt (ql _ underlying122) km.nil rfl rfl rfl⟩ ?_
    refine yk [22,2] [] ?_
    refine yt (2,.box 122 [vi 0,vs z0,vb false,vs z0,vs z0,vz]) 1 ⟨cA _ _ _ 22 2 6 eA rfl rfl rfl rfl rfl (.eq _ (.eq _ (.eq _ (.eq _ (.eq _ (.eq _ (.nil _))))))) rfl⟩ ?_
    refine aT [32,2,3] ?_
    refine am ?_
    refine ah [1,2] (by kernel_rfl) (es':=[(_,_),(_,_)]) rfl ?_
    refine bT (fs:=[(2,.box 122 [vi 0,vs z0,vb false,vs z0,vs z0,.fl (.own 181) 2 (flatten (map ay.enc []))]),(3,vi 504)]) (.box _ _ (af (aj _) (af (aj _) (af (aj _) (af (aj _) (af (aj _) (af (bC 181 2) (bj))))))) rfl (.same _ .nil)) ?_
    refine dF 0 hio (es':=[(2,.box 122 [.v (.int .i64 0),.v (.string (⟨#[]⟩:Fa)),.v (.bool false),.v (.string (⟨#[]⟩:Fa)),.v (.string (⟨#[]⟩:Fa)),.fl .ro 2 (flatten (map ay.enc []))]),(3,.v (.int .i64 504))]) rfl ?_
    refine ai ?_
    obtain rfl:=zi h
    exact ao hio rfl (.cellA _ _ _ _ underlying122 rfl eA (.tmp _ _ .nil)) rfl rfl
   ·have h:=aq hb17 h
    refine ar ?_
    refine ag (ab ?_)
    obtain ⟨v10,hv10,h⟩:=zn h
    refine yx hn 1 ?_
    refine ys 0 ⟨lg call111 (pd _ _ _ hv10) 32⟩ ?_
    refine ym 0 ?_
    refine yS (.agg [vi v10.1.EG,vs v10.1.EX,vb v10.1.EQ.EM,vs v10.1.EQ.EI,vs v10.1.EQ.Ex,.fl .ro 2 (flatten (map ay.enc v10.1.EP))]) 1 ⟨dP _ _ _ _ _ _ rfl rfl (zl rfl) rfl rfl⟩ ?_
    refine yS (.box 122 [vi 0,vs z0,vb false,vs z0,vs z0,vz]) 2 ⟨oA (aP _ _ jt)⟩ ?_
    refine aT [32,2,4,5] ?_
    refine ab ?_
    refine aI hn 2 [32,2,4,29] ?_
    refine al _ rfl (fun hb18 => ?_) (fun hb18 => ?_)
    ·have h:=ap hb18 h
     refine eC hn 0 ?_
     refine yS (.agg [vi 0,vs z0,vb false,vs z0,vs z0,vz]) 0 ⟨bn _ _ _ _ [1,1,3,1] _ _ underlying122 jt (ql _ underlying122) km.nil rfl rfl rfl⟩ ?_
     refine yk [30,2] [] ?_
     refine yt (2,.box 122 [vi 0,vs z0,vb false,vs z0,vs z0,vz]) 1 ⟨cA _ _ _ 30 2 6 eA rfl rfl rfl rfl rfl (.eq _ (.eq _ (.eq _ (.eq _ (.eq _ (.eq _ (.nil _))))))) rfl⟩ ?_
     refine aT [32,2,3] ?_
     refine am ?_
     refine ah [1,2] (by kernel_rfl) (es':=[(_,_),(_,_)]) rfl ?_
     refine bT (fs:=[(2,.box 122 [vi 0,vs z0,vb false,vs z0,vs z0,.fl (.own 181) 2 (flatten (map ay.enc []))]),(3,vi 501)]) (.box _ _ (af (aj _) (af (aj _) (af (aj _) (af (aj _) (af (aj _) (af (bC 181 2) (bj))))))) rfl (.same _ .nil)) ?_
     refine dF 0 hio (es':=[(2,.box 122 [.v (.int .i64 0),.v (.string (⟨#[]⟩:Fa)),.v (.bool false),.v (.string (⟨#[]⟩:Fa)),.v (.string (⟨#[]⟩:Fa)),.fl .ro 2 (flatten (map ay.enc []))]),(3,.v (.int .i64 501))]) rfl ?_
     refine ai ?_
     obtain rfl:=zi h
     exact ao hio rfl (.cellA _ _ _ _ underlying122 rfl eA (.tmp _ _ .nil)) rfl rfl
    ·have h:=aq hb18 h
     refine ar (ag ?_)
     refine aI hn 3 [32,2,3] ?_
     refine am ?_
     refine ah [1,2] (by kernel_rfl) (es':=[(_,_),(_,_)]) rfl ?_
     obtain rfl:=zi h
     exact ao hio rfl (.cellA _ _ _ _ underlying122 rfl eA (.tmp _ _ .nil)) rfl rfl
 ·intro u13 h hl14 hr15
  refine ak h (fun hg1_3 h => ?_) (fun hg1_3 h => ?_)
  ·refine yx hn 4 ?_
   refine yd hg1_3 9 ?_
   refine ye [0,32,2,18] ?_
   exact hl14 _ (zi h).symm
  ·obtain ⟨v1,hv1,h⟩:=zn h
   refine ak h (fun hg1_8 h => ?_) (fun hg1_8 h => ?_)
   ·refine yx hn 4 ?_
    refine yd hg1_3 1 ?_
    refine ys 3 ⟨lk call108 (iX _ _ hv1)⟩ ?_
    refine yd hg1_8 4 ?_
    refine ye [0,32,2,18] ?_
    exact hl14 _ (zi h).symm
   ·obtain ⟨v2,hv2,h⟩:=zn h
    refine yx hn 4 ?_
    refine yd hg1_3 1 ?_
    refine ys 3 ⟨lk call108 (iX _ _ hv1)⟩ ?_
    refine yd hg1_8 1 ?_
    refine ys 2 ⟨lk call109 (kG _ _ hv2)⟩ ?_
    refine ye [0,32,2,18] ?_
    exact hl14 _ (zi h).symm
theorem mj (c:br) (key:Fa) (r:(Fa×Bool)) (h:Sh.jF c key=some r):bL Tryz.prog 138 [.agg [.v (.int .i64 c.EG),.v (.string c.EX),.v (.bool c.EQ.EM),.v (.string c.EQ.EI),.v (.string c.EQ.Ex),.fl .shr 2 (flatten (map ay.enc c.EP))],.v (.string key)] (.tup [.v (.string r.1),.v (.bool r.2)]):=by
 unfold Sh.jF at h
 refine yO 22 func138 fun g0 hn hio => ?_
 refine aI hn 3 [1,2] ?_
 refine ab ?_
 refine aI hn 4 [1,9,10,11] ?_
 refine aX h (fun (s9:Int)=>[(1,vs key),(9,.fl .shr 2 (flatten (map ay.enc c.EP))),(10,vi (c.EP.length:Int)),(11,vi s9)]) (fun (():Unit)=>[]) ?_ ?_
 ·rintro ⟨⟩ h
  refine ag ?_
  refine aI hn 2 [4,5] ?_
  refine am ?_
  obtain rfl:=zi h
  exact ao hio rfl (.tmp _ _ (.tmp _ _ .nil)) rfl rfl
 ·rintro u12 hl13 hr14 s9 rr17 h ho15
  refine aI hn 1 [1,9,10,11,12] ?_
  refine ab ?_
  refine al _ rfl (fun hb18 => ?_) (fun hb18 => ?_)
  ·have h:=ap hb18 h
   refine ar ?_
   refine ag (ab ?_)
   refine aH (ab ?_)
   obtain ⟨v2,hv2,h⟩:=zn h
   obtain ⟨v3,hv3,h⟩:=zn h
   refine yx hn 0 ?_
   refine ys 0 ⟨lj hv2⟩ ?_
   refine yS (.agg [vs v3.EF,vs v3.EZ]) 0 ⟨gz _ _ _ _ _ _ _ underlying181 rfl nt rfl rfl (jp ay.len hv3) rfl (by decide)⟩ ?_
   refine yS (.box 181 [vs z0,vs z0]) 1 ⟨oA (aP _ _ oy)⟩ ?_
   refine aT [1,9,10,11,7] ?_
   refine aI hn 4 [1,9,10,11,7,18] ?_
   refine al _ rfl (fun hb19 => ?_) (fun hb19 => ?_)
   ·have h:=ap hb19 h
    refine aI hn 4 [4,5] ?_
    refine am (aG (ai (ai (aG (ai ?_)))))
    have h:=hr14 _ (ho15 _ (zi h).symm).symm
    obtain rfl:=zi h
    exact ao hio rfl (.tmp _ _ (.tmp _ _ .nil)) rfl rfl
   ·have h:=aq hb19 h
    refine ar (aJ (ag ?_))
    obtain ⟨v5,hv5,h⟩:=zn h
    refine yx hn 0 ?_
    refine ys 0 ⟨lb hv5⟩ ?_
    refine yw [11] 1 ?_
    refine ye [1,9,10,11] ?_
    exact bi _ (zi h).symm rfl
  ·have h:=aq hb18 h
   refine bh (aB (aB (bf ?_)))
   refine ah [] (by kernel_rfl) (es':=[]) rfl ?_
   exact hl13 _ (ho15 _ (zi h).symm).symm
theorem oh (mx:Int×Nat×Value) (s:Fa) (r:Int) (h:Sh.gH s=some r):fk Tryz.prog (GL mx) 139 [.v (.string s)] (.tup [.v (.int .i64 r),.any]):=nj (zA mx) (fun s n w h1 h2=>Tryz.strconv_Atoi s n h1 h2 w) (fun s w h1 h2 h3=>(Tryz.strconv_Atoi_err s h1 h2 _ w h3 (.inr ⟨_,_,rfl⟩)).mono fun _ _ ⟨_,h4,_,_,h5⟩=>⟨_,h4,h5⟩) s r h
theorem kO (mx:Int×Nat×Value) (s:aa) (c:br) (r:(Int×aa)) (h:Sh.fL s c=some r):kZ Tryz.prog (GL mx) 112 [.box 80 (aa.b s),.agg [.v (.int .i64 c.EG),.v (.string c.EX),.v (.bool c.EQ.EM),.v (.string c.EQ.EI),.v (.string c.EQ.Ex),.fl .shr 2 (flatten (map ay.enc c.EP))]] [.box 80 (aa.b r.2)] (.v (.int .i64 r.1)):=by
 unfold Sh.fL at h
 refine yc 39 func112 fun args0 hargs0 g0 hn hio => ?_
 refine aI hn 2 [0,39,3,0] ?_
 refine ab ?_
 obtain ⟨v1,hv1,h⟩:=zn h
 refine yx hn 1 ?_
 refine ys 0 ⟨lk call138 (mj _ _ _ hv1)⟩ ?_
 refine ym 4 ?_
 refine aT [0,39,3,5,0] ?_
 refine ab ?_
 obtain ⟨v2,hv2,h⟩:=zn h
 refine yx hn 1 ?_
 refine ys 0 ⟨lg call139 (oh _ _ _ hv2) 39⟩ ?_
 refine ym 4 ?_
 refine aT [0,39,3,7,0] ?_
 refine ab (aH ?_)
 refine aI hn 7 [0,39,3,7,19,0] ?_
 refine al _ rfl (fun hb3 => ?_) (fun hb3 => ?_)
 ·have h:=ap hb3 h
  refine aI hn 1 [0,39,4,0] ?_
  refine am ?_
  refine ah [2,0,3] (by kernel_rfl) (es':=[(_,_),(_,_),(_,_)]) rfl ?_
  refine aG (ai ?_)
  obtain rfl:=zi h
  exact bo (es:=[(4,.v (.int .i64 503))]) (posts:=[.box 80 (aa.b s)]) hio rfl rfl (.tmp _ _ .nil) rfl rfl hargs0 rfl
 ·have h:=aq hb3 h
  refine aI hn 3 [0,39,3,26,0] ?_
  refine al _ rfl (fun hb4 => ?_) (fun hb4 => ?_)
  ·have h:=ap hb4 h
   refine aI hn 1 [0,39,4,0] ?_
   refine am ?_
   refine ah [2,0,3] (by kernel_rfl) (es':=[(_,_),(_,_),(_,_)]) rfl ?_
   refine aG (ai ?_)
   obtain rfl:=zi h
   exact bo (es:=[(4,.v (.int .i64 552))]) (posts:=[.box 80 (aa.b s)]) hio rfl rfl (.tmp _ _ .nil) rfl rfl hargs0 rfl
  ·have h:=aq hb4 h
   refine ar (aJ ?_)
   refine ag (ab ?_)
   refine wb [[],[],[3],[31,3],[29,0],[33,0],[34,0]] ?_
   refine wK [0] [35] ?_
   refine wt [(0,.box 80 (vi 2::vs s.EB.EE::vb s.EB.EA.EM::vs s.EB.EA.EI::vs s.EB.EA.Ex::.fl (.own 26) 3 (flatten (map ae.enc s.EB.To))::vb s.EB.EU::.mkr 5 (map (int .u8) s.EB.Eu)::vs s.EB.Ev::vb s.EB.ET::aC.c s.config [vi s.site,vi s.at_,.fr (.own 55) false 12 (flatten (map au.ienc s.out))]))] [[30,0],[36,0],[37,0]] ⟨cW _ _ _ _ _ _ _ _ Ar rfl rfl rfl rfl (zl rfl) rfl rfl⟩ ?_
   refine wK [0] [38,32] ?_
   refine wt [(0,.box 80 (vi 2::vs s.EB.EE::vb c.EQ.EM::vs c.EQ.EI::vs c.EQ.Ex::.fl (.own 26) 3 (flatten (map ae.enc s.EB.To))::vb s.EB.EU::.mkr 5 (map (int .u8) s.EB.Eu)::vs s.EB.Ev::vb s.EB.ET::aC.c s.config [vi s.site,vi s.at_,.fr (.own 55) false 12 (flatten (map au.ienc s.out))]))] [] ⟨cW _ _ _ _ _ _ _ _ qP rfl rfl rfl rfl (zl rfl) rfl rfl⟩ ?_
   refine qR hn [0,39,0] ?_
   refine aI hn 1 [0,39,4,0] ?_
   refine am ?_
   refine ah [2,0,3] (by kernel_rfl) (es':=[(_,_),(_,_),(_,_)]) rfl ?_
   obtain rfl:=zi h
   exact bo (es:=[(4,.v (.int .i64 250))]) (posts:=[.box 80 [.v (.int .i64 2),.v (.string s.EB.EE),.v (.bool c.EQ.EM),.v (.string c.EQ.EI),.v (.string c.EQ.Ex),.fl (.own 26) 3 (flatten (map ae.enc s.EB.To)),.v (.bool s.EB.EU),.mkr 5 (map (int .u8) s.EB.Eu),.v (.string s.EB.Ev),.v (.bool s.EB.ET),.v (.string ((s.config.Ey.getD 0 (⟨#[]⟩:Fa)))),.v (.string ((s.config.Ey.getD 1 (⟨#[]⟩:Fa)))),.v (.int .i64 s.config.Ez),.v (.string s.config.EY),.v (.string s.config.EW),.v (.int .i64 s.config.EJ),.v (.bool s.config.ED),.v (.int .i64 s.site),.v (.int .i64 s.at_),.fr (.own 55) false 12 (flatten (map au.ienc s.out))]]) hio rfl rfl (.tmp _ _ .nil) rfl rfl hargs0 rfl
theorem mA (mx:Int×Nat×Value) (p:ae) (domain:Fa) (r:Bool) (h:Sh.pt p domain=some r):fk Tryz.prog (GL mx) 140 [.agg [.v (.bool p.EM),.v (.string p.EI),.v (.string p.Ex)],.v (.string domain)] (.v (.bool r)):=by
 unfold Sh.pt at h
 refine yG 21 func140 fun g0 hn hio => ?_
 refine aI hn 2 [1,21,2] ?_
 refine ab ?_
 refine aD h (fun (s4:Bool)=>[(21,.glob (GL mx)),(4,vb s4)]) ?_ ?_
 ·rintro s4 h
  refine ag (am ?_)
  refine ah [1] (by kernel_rfl) (es':=[(_,_)]) rfl ?_
  obtain rfl:=zi h
  exact ao hio rfl (.tmp _ _ .nil) rfl rfl
 ·intro u5 h hl6 hr7
  obtain ⟨v1,hv1,h⟩:=zn h
  refine ak h (fun hg1_3 h => ?_) (fun hg1_3 h => ?_)
  ·refine ak h (fun hg1_8 h => ?_) (fun hg1_8 h => ?_)
   ·obtain ⟨v2,hv2,h⟩:=zn h
    obtain ⟨v3,hv3,h⟩:=zn h
    refine yx hn 1 ?_
    refine ys 2 ⟨lg call162 (bZ _ _ _ hv1) 21⟩ ?_
    refine yd hg1_3 5 ?_
    refine yd hg1_8 2 ?_
    refine ys 1 ⟨lk call71 (dh _ _ hv2)⟩ ?_
    refine ys 3 ⟨lk call71 (dh _ _ hv3)⟩ ?_
    refine ye [21,4] ?_
    exact hl6 _ (zi h).symm
   ·refine yx hn 1 ?_
    refine ys 2 ⟨lg call162 (bZ _ _ _ hv1) 21⟩ ?_
    refine yd hg1_3 5 ?_
    refine yd hg1_8 8 ?_
    refine ye [21,4] ?_
    exact hl6 _ (zi h).symm
  ·refine yx hn 1 ?_
   refine ys 2 ⟨lg call162 (bZ _ _ _ hv1) 21⟩ ?_
   refine yd hg1_3 13 ?_
   refine ye [21,4] ?_
   exact hl6 _ (zi h).symm
theorem kQ (mx:Int×Nat×Value) (s:aa) (c:br) (r:(Int×aa)) (h:Sh.fP s c=some r):kZ Tryz.prog (GL mx) 113 [.box 80 (aa.b s),.agg [.v (.int .i64 c.EG),.v (.string c.EX),.v (.bool c.EQ.EM),.v (.string c.EQ.EI),.v (.string c.EQ.Ex),.fl .shr 2 (flatten (map ay.enc c.EP))]] [.box 80 (aa.b r.2)] (.v (.int .i64 r.1)):=by
 unfold Sh.fP at h
 refine yc 81 func113 fun args0 hargs0 g0 hn hio => ?_
 refine aI hn 2 [0,81,3,0] ?_
 refine ab (aH (ab ?_))
 refine aD h (fun (s1:Bool)=>[(0,.box 80 (aa.b s)),(81,.glob (GL mx)),(3,.box 122 (br.c c [])),(7,vb s1),(0,.v (List.getD args0 0 undef))]) ?_ ?_
 ·rintro s1 h
  refine ag ?_
  refine al _ rfl (fun hb5 => ?_) (fun hb5 => ?_)
  ·have h:=ap hb5 h
   refine aI hn 1 [0,81,4,0] ?_
   refine am ?_
   refine ah [2,0,3] (by kernel_rfl) (es':=[(_,_),(_,_),(_,_)]) rfl ?_
   refine aG (ai ?_)
   obtain rfl:=zi h
   exact bo (es:=[(4,.v (.int .i64 503))]) (posts:=[.box 80 (aa.b s)]) hio rfl rfl (.tmp _ _ .nil) rfl rfl hargs0 rfl
  ·have h:=aq hb5 h
   refine aI hn 8 [0,81,3,22,0] ?_
   refine al _ rfl (fun hb6 => ?_) (fun hb6 => ?_)
   ·have h:=ap hb6 h
    refine aI hn 1 [0,81,4,0] ?_
    refine am ?_
    refine ah [2,0,3] (by kernel_rfl) (es':=[(_,_),(_,_),(_,_)]) rfl ?_
    refine aG (ai ?_)
    obtain rfl:=zi h
    exact bo (es:=[(4,.v (.int .i64 452))]) (posts:=[.box 80 (aa.b s)]) hio rfl rfl (.tmp _ _ .nil) rfl rfl hargs0 rfl
   ·have h:=aq hb6 h
    refine ab ?_
    refine aD h (fun (s9:Bool)=>[(0,.box 80 (aa.b s)),(81,.glob (GL mx)),(3,.box 122 (br.c c [])),(30,vb s9),(0,.v (List.getD args0 0 undef))]) ?_ ?_
    ·rintro s9 h
     refine ag ?_
     refine al _ rfl (fun hb13 => ?_) (fun hb13 => ?_)
     ·have h:=ap hb13 h
      refine aI hn 1 [0,81,4,0] ?_
      refine am ?_
      refine ah [2,0,3] (by kernel_rfl) (es':=[(_,_),(_,_),(_,_)]) rfl ?_
      refine aG (ai ?_)
      obtain rfl:=zi h
      exact bo (es:=[(4,.v (.int .i64 550))]) (posts:=[.box 80 (aa.b s)]) hio rfl rfl (.tmp _ _ .nil) rfl rfl hargs0 rfl
     ·have h:=aq hb13 h
      refine ar (aJ (ag ?_))
      refine aI hn 5 [0,81,3,0] ?_
      refine ab ?_
      obtain ⟨v14,hv14,h⟩:=zn h
      refine wb [[],[],[58,0],[59,0],[60,0],[61,0],[3],[63,3]] ?_
      refine wN [64] ?_
      refine wS (.fl (.own 26) 3 (flatten (map ae.enc [(ae.mk c.EQ.EM c.EQ.EI c.EQ.Ex)]))) [] ⟨bb _ _ 3 (.agg #[.bool false,.string ByteArray.empty,.string ByteArray.empty]) (flatten (map ae.enc [(ae.mk c.EQ.EM c.EQ.EI c.EQ.Ex)])) [(0,.agg #[.bool c.EQ.EM,.string c.EQ.EI,.string c.EQ.Ex])] underlying27 qP pM (fun _ V w o a hv hes=>by have e0:=zR (ys:=[.bool c.EQ.EM,.string c.EQ.EI,.string c.EQ.Ex]) hv hes (x := .tmp 64) rfl; simp only [List.map_toArray,List.map_cons,List.map_nil,e0]; try rfl) (cn (by simp [Instr.fill,Value.cells]; rfl) (by simp [List.range,List.range.loop,ae.enc] <;> rfl)) (by simp [Value.oneCell',ae.enc]) rfl (by decide) (by decide) (by decide)⟩ ?_
      refine wK [0] [62,65] ?_
      refine wt [(0,.box 80 (vi 3::vs s.EB.EE::vb s.EB.EA.EM::vs s.EB.EA.EI::vs s.EB.EA.Ex::.any::vb s.EB.EU::.mkr 5 (map (int .u8) s.EB.Eu)::vs s.EB.Ev::vb s.EB.ET::aC.c s.config [vi s.site,vi s.at_,.fr (.own 55) false 12 (flatten (map au.ienc s.out))])),(66,.fl (.own 26) 3 (flatten (map ae.enc v14)))] [[57,0],[67,0],[68,0]] ⟨fv _ _ _ _ _ _ Cx rfl rfl (zl rfl) rfl (iH ae.len _) (iH ae.len _) hv14 (th (im hv14)) (Nat.ne_of_beq_eq_false rfl) rfl rfl⟩ ?_
      refine wK [62,66,0] [69] ?_
      refine wt [(0,.box 80 (vi 3::vs s.EB.EE::vb s.EB.EA.EM::vs s.EB.EA.EI::vs s.EB.EA.Ex::.fl (.own 26) 3 (flatten (map ae.enc v14))::vb s.EB.EU::.mkr 5 (map (int .u8) s.EB.Eu)::vs s.EB.Ev::vb s.EB.ET::aC.c s.config [vi s.site,vi s.at_,.fr (.own 55) false 12 (flatten (map au.ienc s.out))]))] [] ⟨aL.drop [_] (aK _ _ _ _ _ _ _ _ Cb rfl rfl rfl (zl rfl) rfl rfl)⟩ ?_
      refine qR hn [0,81,3,0] ?_
      refine ab ?_
      refine aD h (fun (s17:Bool)=>[(0,.box 80 (vi 3::vs s.EB.EE::vb s.EB.EA.EM::vs s.EB.EA.EI::vs s.EB.EA.Ex::.fl (.own 26) 3 (flatten (map ae.enc v14))::vb s17::.mkr 5 (map (int .u8) s.EB.Eu)::vs s.EB.Ev::vb s.EB.ET::aC.c s.config [vi s.site,vi s.at_,.fr (.own 55) false 12 (flatten (map au.ienc s.out))])),(81,.glob (GL mx)),(0,.v (List.getD args0 0 undef))]) ?_ ?_
      ·rintro s17 h
       refine ag ?_
       refine aI hn 1 [0,81,4,0] ?_
       refine am ?_
       refine ah [2,0,3] (by kernel_rfl) (es':=[(_,_),(_,_),(_,_)]) rfl ?_
       obtain rfl:=zi h
       exact bo (es:=[(4,.v (.int .i64 250))]) (posts:=[.box 80 [.v (.int .i64 3),.v (.string s.EB.EE),.v (.bool s.EB.EA.EM),.v (.string s.EB.EA.EI),.v (.string s.EB.EA.Ex),.fl (.own 26) 3 (flatten (map ae.enc v14)),.v (.bool s17),.mkr 5 (map (int .u8) s.EB.Eu),.v (.string s.EB.Ev),.v (.bool s.EB.ET),.v (.string ((s.config.Ey.getD 0 (⟨#[]⟩:Fa)))),.v (.string ((s.config.Ey.getD 1 (⟨#[]⟩:Fa)))),.v (.int .i64 s.config.Ez),.v (.string s.config.EY),.v (.string s.config.EW),.v (.int .i64 s.config.EJ),.v (.bool s.config.ED),.v (.int .i64 s.site),.v (.int .i64 s.at_),.fr (.own 55) false 12 (flatten (map au.ienc s.out))]]) hio rfl rfl (.tmp _ _ .nil) rfl rfl hargs0 rfl
      ·intro u18 h hl19 hr20
       refine ab ?_
       obtain ⟨v15,hv15,h⟩:=zn h
       refine yx hn 1 ?_
       refine ys 0 ⟨lk call138 (mj _ _ _ hv15)⟩ ?_
       refine ym 4 ?_
       refine aT [0,81,5,0] ?_
       refine aI hn 2 [0,81,76,0] ?_
       refine al _ rfl (fun hb21 => ?_) (fun hb21 => ?_)
       ·have h:=ap hb21 h
        refine yy hn 5 [0,81,0] ?_
        exact hl19 _ (zi h).symm
       ·have h:=aq hb21 h
        refine ar ?_
        refine ah [0,1,3] (by kernel_rfl) (es':=[(_,_),(_,_),(_,_)]) rfl ?_
        exact hl19 _ (zi h).symm
    ·intro u10 h hl11 hr12
     obtain ⟨v7,hv7,h⟩:=zn h
     refine ak h (fun hg5_10 h => ?_) (fun hg5_10 h => ?_)
     ·obtain ⟨v8,hv8,h⟩:=zn h
      refine wb [[3],[31,3],[],[33,0],[34,0],[35,0]] ?_
      refine wN [36,0] ?_
      refine wS (.ptr 0 10) [[37,0]] ⟨bH _ _ _ _ 2 0 10 0 1 underlying22 pW rfl rfl (by decide) (by decide)⟩ ?_
      refine wN [32,38,81] ?_
      refine wo [[39],[40]] ⟨lg call140 (mA _ _ _ _ hv7) 81⟩ ?_
      refine wd hg5_10 [[41,3],[41,42,3],[41],[41,44,0],[41,45,0],[41,46,0]] ?_
      refine wN [41,47,0] ?_
      refine wS (.ptr 0 11) [[41,48,0]] ⟨bH _ _ _ _ 2 0 10 1 1 underlying22 pW rfl rfl (by decide) (by decide)⟩ ?_
      refine wN [41,43,49,81] ?_
      refine wo [[41,50],[41,51],[52]] ⟨lg call140 (mA _ _ _ _ hv8) 81⟩ ?_
      refine we hn [0,81,3,30,0] ?_
      exact hl11 _ (zi h).symm
     ·refine wb [[3],[31,3],[],[33,0],[34,0],[35,0]] ?_
      refine wN [36,0] ?_
      refine wS (.ptr 0 10) [[37,0]] ⟨bH _ _ _ _ 2 0 10 0 1 underlying22 pW rfl rfl (by decide) (by decide)⟩ ?_
      refine wN [32,38,81] ?_
      refine wo [[39],[40]] ⟨lg call140 (mA _ _ _ _ hv7) 81⟩ ?_
      refine wd hg5_10 [[41],[41],[41],[41],[41],[41],[41],[41],[41],[41],[41],[52]] ?_
      refine we hn [0,81,3,30,0] ?_
      exact hl11 _ (zi h).symm
 ·intro u2 h hl3 hr4
  refine ak h (fun hg1_6 h => ?_) (fun hg1_6 h => ?_)
  ·refine yx hn 7 ?_
   refine yd hg1_6 8 ?_
   refine ye [0,81,3,7,0] ?_
   exact hl3 _ (zi h).symm
  ·refine yx hn 7 ?_
   refine yd hg1_6 8 ?_
   refine ye [0,81,3,7,0] ?_
   exact hl3 _ (zi h).symm
theorem kn (s:aa) (r:(Int×aa)) (h:Sh.fm s=some r):mr Tryz.prog 114 [.box 80 (aa.b s)] [.box 80 (aa.b r.2)] (.v (.int .i64 r.1)):=by
 unfold Sh.fm at h
 refine yP 13 func114 fun args0 hargs0 g0 hn hio => ?_
 refine aI hn 1 [0,0] ?_
 refine ab ?_
 refine aI hn 6 [0,8,0] ?_
 refine al _ rfl (fun hb1 => ?_) (fun hb1 => ?_)
 ·have h:=ap hb1 h
  refine aI hn 1 [0,2,0] ?_
  refine am ?_
  refine ah [1,0,2] (by kernel_rfl) (es':=[(_,_),(_,_),(_,_)]) rfl ?_
  refine ai ?_
  obtain rfl:=zi h
  exact bo (es:=[(2,.v (.int .i64 503))]) (posts:=[.box 80 (aa.b s)]) hio rfl rfl (.tmp _ _ .nil) rfl rfl hargs0 rfl
 ·have h:=aq hb1 h
  refine ar (ag ?_)
  refine aI hn 5 [0,0] ?_
  refine aI hn 1 [0,2,0] ?_
  refine am ?_
  refine ah [1,0,2] (by kernel_rfl) (es':=[(_,_),(_,_),(_,_)]) rfl ?_
  obtain rfl:=zi h
  exact bo (es:=[(2,.v (.int .i64 354))]) (posts:=[.box 80 [.v (.int .i64 4),.v (.string s.EB.EE),.v (.bool s.EB.EA.EM),.v (.string s.EB.EA.EI),.v (.string s.EB.EA.Ex),.fl (.own 26) 3 (flatten (map ae.enc s.EB.To)),.v (.bool s.EB.EU),.mkr 5 (map (int .u8) s.EB.Eu),.v (.string s.EB.Ev),.v (.bool s.EB.ET),.v (.string ((s.config.Ey.getD 0 (⟨#[]⟩:Fa)))),.v (.string ((s.config.Ey.getD 1 (⟨#[]⟩:Fa)))),.v (.int .i64 s.config.Ez),.v (.string s.config.EY),.v (.string s.config.EW),.v (.int .i64 s.config.EJ),.v (.bool s.config.ED),.v (.int .i64 s.site),.v (.int .i64 s.at_),.fr (.own 55) false 12 (flatten (map au.ienc s.out))]]) hio rfl rfl (.tmp _ _ .nil) rfl rfl hargs0 rfl
theorem fp (s:aa) (domain:Fa) (r:(Bool×aa)) (h:Sh.cY s domain=some r):mr Tryz.prog 141 [.box 80 (aa.b s),.v (.string domain)] [.box 80 (aa.b r.2)] (.v (.bool r.1)):=by
 unfold Sh.cY at h
 refine yP 18 func141 fun args0 hargs0 g0 hn hio => ?_
 refine aI hn 1 [0,1,0] ?_
 refine ab ?_
 obtain ⟨v1,hv1,h⟩:=zn h
 obtain ⟨v2,hv2,h⟩:=zn h
 obtain ⟨v3,hv3,h⟩:=zn h
 obtain ⟨v4,hv4,h⟩:=zn h
 refine wb [[1],[],[],[7,0],[8,0],[9,0]] ?_
 refine wN [10] ?_
 refine wo [[6,0],[12,0],[13,0]] ⟨lb hv1⟩ ?_
 refine wN [14,0,11] ?_
 refine wS (.ptr 0 (10+v2 * 1)) [] ⟨rl _ _ _ _ 2 0 10 _ underlying22 pW rfl rfl (bk hv2).1 (bk hv2).2 (by decide)⟩ ?_
 refine wN [15,0] ?_
 refine wS (vs v3) [] ⟨oo _ _ _ 0 10 v2 2 ([(s.config.Ey.getD 0 z0),(s.config.Ey.getD 1 z0)]:List Fa) _ underlying9 rfl rfl rfl rfl hv3⟩ ?_
 refine wN [5,16] ?_
 refine wo [[17]] ⟨lk call56 (ja _ _ _ hv4)⟩ ?_
 refine qR hn [0,4,0] ?_
 refine am ?_
 refine ah [1,0,2] (by kernel_rfl) (es':=[(_,_),(_,_),(_,_)]) rfl ?_
 obtain rfl:=zi h
 exact bo (es:=[(4,.v (.bool v4))]) (posts:=[.box 80 (aa.b s)]) hio rfl rfl (.tmp _ _ .nil) rfl rfl hargs0 rfl
theorem kt (s:aa) (c:br) (r:(Int×aa)) (h:Sh.fO s c=some r):mr Tryz.prog 116 [.box 80 (aa.b s),.agg [.v (.int .i64 c.EG),.v (.string c.EX),.v (.bool c.EQ.EM),.v (.string c.EQ.EI),.v (.string c.EQ.Ex),.fl .shr 2 (flatten (map ay.enc c.EP))]] [.box 80 (aa.b r.2)] (.v (.int .i64 r.1)):=by
 unfold Sh.fO at h
 refine yP 18 func116 fun args0 hargs0 g0 hn hio => ?_
 refine aI hn 2 [0,3,0] ?_
 refine ab (aH ?_)
 refine aI hn 7 [0,3,5,0] ?_
 refine al _ rfl (fun hb1 => ?_) (fun hb1 => ?_)
 ·have h:=ap hb1 h
  refine aI hn 1 [0,4,0] ?_
  refine am ?_
  refine ah [1,0,2] (by kernel_rfl) (es':=[(_,_),(_,_),(_,_)]) rfl ?_
  refine aG (ai ?_)
  obtain rfl:=zi h
  exact bo (es:=[(4,.v (.int .i64 503))]) (posts:=[.box 80 (aa.b s)]) hio rfl rfl (.tmp _ _ .nil) rfl rfl hargs0 rfl
 ·have h:=aq hb1 h
  refine ab ?_
  obtain ⟨v2,hv2,h⟩:=zn h
  refine yx hn 3 ?_
  refine yQ call141 (fp _ _ _ hv2) 0 [13,15] 2 ?_
  refine aT [0,12,0] ?_
  refine al _ rfl (fun hb3 => ?_) (fun hb3 => ?_)
  ·have h:=ap hb3 h
   refine aI hn 1 [0,4,0] ?_
   refine am ?_
   refine ah [1,0,2] (by kernel_rfl) (es':=[(_,_),(_,_),(_,_)]) rfl ?_
   refine aG (ai ?_)
   obtain rfl:=zi h
   exact bo (es:=[(4,.v (.int .i64 459))]) (posts:=[.box 80 (aa.b v2.2)]) hio rfl rfl (.tmp _ _ .nil) rfl rfl hargs0 rfl
  ·have h:=aq hb3 h
   refine ar (aJ (ag ?_))
   refine aI hn 1 [0,4,0] ?_
   refine am ?_
   refine ah [1,0,2] (by kernel_rfl) (es':=[(_,_),(_,_),(_,_)]) rfl ?_
   obtain rfl:=zi h
   exact bo (es:=[(4,.v (.int .i64 250))]) (posts:=[.box 80 (aa.b v2.2)]) hio rfl rfl (.tmp _ _ .nil) rfl rfl hargs0 rfl
theorem fo (s:aa) (code:Int) (r:aa) (h:Sh.de s code=some r):mr Tryz.prog 115 [.box 80 (aa.b s),.v (.int .i64 code)] [.box 80 (aa.b r)] (.tup []):=by
 unfold Sh.de at h
 refine yP 19 func115 fun args0 hargs0 g0 hn hio => ?_
 obtain ⟨v1,hv1,h⟩:=zn h
 obtain ⟨v2,hv2,h⟩:=zn h
 refine wb [[],[],[5,0],[6,0],[7,0],[0],[1]] ?_
 refine wN [9,0,10] ?_
 refine wS (.agg [vi v1.Ew,.fl (.own 9) 1 (map Value.string v1.EH)]) [[1],[12]] ⟨tZ _ 11 0 85 [.int .i64 code] _ rfl call85 rfl rfl rfl rfl (fun u=>ez u ((aa.r s)) code _ hv1) rfl rfl rfl⟩ ?_
 refine wK [11] [13] ?_
 refine wt [(14,.agg [vi v1.Ew,.fl (.own 9) 1 (map Value.string v1.EH),vb false,vb false,vs z0,vs z0,vz,vz,vb false,vs z0,vi 0,vb (code==250)])] [] ⟨bn _ _ _ _ [2,1,8,1] _ _ underlying55 qO (xF _ underlying55) (.take _ _ (.copy _ km.nil)) rfl rfl rfl⟩ ?_
 refine wK [14] [] ?_
 refine wt [(15,.fr (.own 55) false 12 (flatten (map au.ienc ([(au.mk v1 false ((aU.mk ((ae.mk false z0 z0)) [] [] false z0 0)) (code==250))]))))] [] ⟨iW _ _ _ 12 (.agg #[.int .i64 0,.slice none 0 0,.bool false,.bool false,.string ByteArray.empty,.string ByteArray.empty,.slice none 0 0,.slice none 0 0,.bool false,.string ByteArray.empty,.int .i64 0,.bool false]) false _ _ underlying34 tT qO rfl (.cons (.v _) (.cons (.ro _ _ rfl) (.cons (.v _) (.cons (.v _) (.cons (.v _) (.cons (.v _) (.cons (.nil 3) (.cons (.nil 1) (.cons (.v _) (.cons (.v _) (.cons (.v _) (.cons (.v _) (.nil))))))))))))) rfl (by decide) (by decide)⟩ ?_
 refine wK [0] [8,15] ?_
 refine wt [(0,.box 80 (vi s.EB.ES::vs s.EB.EE::vb s.EB.EA.EM::vs s.EB.EA.EI::vs s.EB.EA.Ex::.fl (.own 26) 3 (flatten (map ae.enc s.EB.To))::vb s.EB.EU::.mkr 5 (map (int .u8) s.EB.Eu)::vs s.EB.Ev::vb s.EB.ET::aC.c s.config [vi s.site,vi s.at_,.any])),(16,.fr (.own 55) false 12 (flatten (map au.ienc v2)))] [[4,0],[17,0]] ⟨fQ _ 16 0 19 _ _ Az rfl rfl (zl rfl) rfl (dS au.ilen _) (dS au.ilen _) hv2 (lN (im hv2)) (by decide) (by decide) (by decide) rfl rfl⟩ ?_
 refine wK [8,16,0] [18] ?_
 refine wt [(0,.box 80 (vi s.EB.ES::vs s.EB.EE::vb s.EB.EA.EM::vs s.EB.EA.EI::vs s.EB.EA.Ex::.fl (.own 26) 3 (flatten (map ae.enc s.EB.To))::vb s.EB.EU::.mkr 5 (map (int .u8) s.EB.Eu)::vs s.EB.Ev::vb s.EB.ET::aC.c s.config [vi s.site,vi s.at_,.fr (.own 55) false 12 (flatten (map au.ienc v2))]))] [] ⟨aL.drop [_] (aK _ _ _ _ _ _ _ _ Ay rfl rfl rfl (zl rfl) rfl rfl)⟩ ?_
 refine we hn [0,0] ?_
 obtain rfl:=zi h
 exact jb (es:=[]) (posts:=[.box 80 [.v (.int .i64 s.EB.ES),.v (.string s.EB.EE),.v (.bool s.EB.EA.EM),.v (.string s.EB.EA.EI),.v (.string s.EB.EA.Ex),.fl (.own 26) 3 (flatten (map ae.enc s.EB.To)),.v (.bool s.EB.EU),.mkr 5 (map (int .u8) s.EB.Eu),.v (.string s.EB.Ev),.v (.bool s.EB.ET),.v (.string ((s.config.Ey.getD 0 (⟨#[]⟩:Fa)))),.v (.string ((s.config.Ey.getD 1 (⟨#[]⟩:Fa)))),.v (.int .i64 s.config.Ez),.v (.string s.config.EY),.v (.string s.config.EW),.v (.int .i64 s.config.EJ),.v (.bool s.config.ED),.v (.int .i64 s.site),.v (.int .i64 s.at_),.fr (.own 55) false 12 (flatten (map au.ienc v2))]]) hio rfl rfl .nil rfl rfl hargs0 rfl
theorem kr (s:aa) (r:(Int×aa)) (h:Sh.gg s=some r):mr Tryz.prog 117 [.box 80 (aa.b s)] [.box 80 (aa.b r.2)] (.v (.int .i64 r.1)):=by
 unfold Sh.gg at h
 refine yP 20 func117 fun args0 hargs0 g0 hn hio => ?_
 refine aI hn 1 [0,0] ?_
 refine ab (ab ?_)
 refine aD h (fun (s1:Bool)=>[(0,.box 80 (aa.b s)),(15,vb s1),(0,.v (List.getD args0 0 undef))]) ?_ ?_
 ·rintro s1 h
  refine ag ?_
  refine al _ rfl (fun hb5 => ?_) (fun hb5 => ?_)
  ·have h:=ap hb5 h
   refine aI hn 1 [0,2,0] ?_
   refine am ?_
   refine ah [1,0,2] (by kernel_rfl) (es':=[(_,_),(_,_),(_,_)]) rfl ?_
   refine ai ?_
   obtain rfl:=zi h
   exact bo (es:=[(2,.v (.int .i64 503))]) (posts:=[.box 80 (aa.b s)]) hio rfl rfl (.tmp _ _ .nil) rfl rfl hargs0 rfl
  ·have h:=aq hb5 h
   refine ar (ag ?_)
   refine aI hn 5 [0,0] ?_
   refine aI hn 1 [0,2,0] ?_
   refine am ?_
   refine ah [1,0,2] (by kernel_rfl) (es':=[(_,_),(_,_),(_,_)]) rfl ?_
   obtain rfl:=zi h
   exact bo (es:=[(2,.v (.int .i64 334))]) (posts:=[.box 80 [.v (.int .i64 5),.v (.string s.EB.EE),.v (.bool s.EB.EA.EM),.v (.string s.EB.EA.EI),.v (.string s.EB.EA.Ex),.fl (.own 26) 3 (flatten (map ae.enc s.EB.To)),.v (.bool s.EB.EU),.mkr 5 (map (int .u8) s.EB.Eu),.v (.string s.EB.Ev),.v (.bool s.EB.ET),.v (.string ((s.config.Ey.getD 0 (⟨#[]⟩:Fa)))),.v (.string ((s.config.Ey.getD 1 (⟨#[]⟩:Fa)))),.v (.int .i64 s.config.Ez),.v (.string s.config.EY),.v (.string s.config.EW),.v (.int .i64 s.config.EJ),.v (.bool s.config.ED),.v (.int .i64 s.site),.v (.int .i64 s.at_),.fr (.own 55) false 12 (flatten (map au.ienc s.out))]]) hio rfl rfl (.tmp _ _ .nil) rfl rfl hargs0 rfl
 ·intro u2 h hl3 hr4
  refine ak h (fun hg1_6 h => ?_) (fun hg1_6 h => ?_)
  ·refine yx hn 7 ?_
   refine yd hg1_6 6 ?_
   refine ye [0,15,0] ?_
   exact hl3 _ (zi h).symm
  ·refine yx hn 7 ?_
   refine yd hg1_6 6 ?_
   refine ye [0,15,0] ?_
   exact hl3 _ (zi h).symm
theorem kH (s:aa) (c:br) (r:(Int×aa)) (h:Sh.fK s c=some r):mr Tryz.prog 118 [.box 80 (aa.b s),.agg [.v (.int .i64 c.EG),.v (.string c.EX),.v (.bool c.EQ.EM),.v (.string c.EQ.EI),.v (.string c.EQ.Ex),.fl .shr 2 (flatten (map ay.enc c.EP))]] [.box 80 (aa.b r.2)] (.v (.int .i64 r.1)):=by
 unfold Sh.fK at h
 refine yP 34 func118 fun args0 hargs0 g0 hn hio => ?_
 refine aI hn 2 [0,3,0] ?_
 refine ab (aH ?_)
 refine aI hn 7 [0,3,5,0] ?_
 refine al _ rfl (fun hb1 => ?_) (fun hb1 => ?_)
 ·have h:=ap hb1 h
  refine aI hn 1 [0,4,0] ?_
  refine am ?_
  refine ah [1,0,2] (by kernel_rfl) (es':=[(_,_),(_,_),(_,_)]) rfl ?_
  refine aG (ai ?_)
  obtain rfl:=zi h
  exact bo (es:=[(4,.v (.int .i64 503))]) (posts:=[.box 80 (aa.b s)]) hio rfl rfl (.tmp _ _ .nil) rfl rfl hargs0 rfl
 ·have h:=aq hb1 h
  refine aI hn 7 [0,3,12,0] ?_
  refine al _ rfl (fun hb2 => ?_) (fun hb2 => ?_)
  ·have h:=ap hb2 h
   refine aI hn 1 [0,4,0] ?_
   refine am ?_
   refine ah [1,0,2] (by kernel_rfl) (es':=[(_,_),(_,_),(_,_)]) rfl ?_
   refine aG (ai ?_)
   obtain rfl:=zi h
   exact bo (es:=[(4,.v (.int .i64 530))]) (posts:=[.box 80 (aa.b s)]) hio rfl rfl (.tmp _ _ .nil) rfl rfl hargs0 rfl
  ·have h:=aq hb2 h
   refine ab ?_
   refine aD h (fun ((s4,s5,s6,s7,s8,s9,s10,s11,s12,s13,s14,s15,s16,s17,s18,s19,s20,s21,s22,s23,s24):Int×Fa×Bool×Fa×Fa×(List ae)×Bool×(List Int)×Fa×Bool×Fa×Fa×Int×Fa×Fa×Int×Bool×Int×Int×(List au)×Bool)=>[(0,.box 80 [vi s4,vs s5,vb s6,vs s7,vs s8,.fl (.own 26) 3 (flatten (map ae.enc s9)),vb s10,.mkr 5 (map (int .u8) s11),vs s12,vb s13,vs s14,vs s15,vi s16,vs s17,vs s18,vi s19,vb s20,vi s21,vi s22,.fr (.own 55) false 12 (flatten (map au.ienc s23))]),(19,vb s24),(0,.v (List.getD args0 0 undef))]) ?_ ?_
   ·rintro ⟨s4,s5,s6,s7,s8,s9,s10,s11,s12,s13,s14,s15,s16,s17,s18,s19,s20,s21,s22,s23,s24⟩ h
    refine ag ?_
    refine al _ rfl (fun hb28 => ?_) (fun hb28 => ?_)
    ·have h:=ap hb28 h
     refine aI hn 1 [0,4,0] ?_
     refine am ?_
     refine ah [1,0,2] (by kernel_rfl) (es':=[(_,_),(_,_),(_,_)]) rfl ?_
     refine aG (ai ?_)
     obtain rfl:=zi h
     exact bo (es:=[(4,.v (.int .i64 450))]) (posts:=[.box 80 [.v (.int .i64 s4),.v (.string s5),.v (.bool s6),.v (.string s7),.v (.string s8),.fl (.own 26) 3 (flatten (map ae.enc s9)),.v (.bool s10),.mkr 5 (map (int .u8) s11),.v (.string s12),.v (.bool s13),.v (.string s14),.v (.string s15),.v (.int .i64 s16),.v (.string s17),.v (.string s18),.v (.int .i64 s19),.v (.bool s20),.v (.int .i64 s21),.v (.int .i64 s22),.fr (.own 55) false 12 (flatten (map au.ienc s23))]]) hio rfl rfl (.tmp _ _ .nil) rfl rfl hargs0 rfl
    ·have h:=aq hb28 h
     refine ar (aJ (ag ?_))
     refine aI hn 5 [0,0] ?_
     refine aI hn 1 [0,4,0] ?_
     refine am ?_
     refine ah [1,0,2] (by kernel_rfl) (es':=[(_,_),(_,_),(_,_)]) rfl ?_
     obtain rfl:=zi h
     exact bo (es:=[(4,.v (.int .i64 250))]) (posts:=[.box 80 [.v (.int .i64 6),.v (.string s5),.v (.bool s6),.v (.string s7),.v (.string s8),.fl (.own 26) 3 (flatten (map ae.enc s9)),.v (.bool s10),.mkr 5 (map (int .u8) s11),.v (.string s12),.v (.bool s13),.v (.string s14),.v (.string s15),.v (.int .i64 s16),.v (.string s17),.v (.string s18),.v (.int .i64 s19),.v (.bool s20),.v (.int .i64 s21),.v (.int .i64 s22),.fr (.own 55) false 12 (flatten (map au.ienc s23))]]) hio rfl rfl (.tmp _ _ .nil) rfl rfl hargs0 rfl
   ·intro u25 h hl26 hr27
    refine ak h (fun hg5_3 h => ?_) (fun hg5_3 h => ?_)
    ·obtain ⟨v3,hv3,h⟩:=zn h
     refine yx hn 4 ?_
     refine yd hg5_3 3 ?_
     refine yQ call141 (fp _ _ _ hv3) 0 [24,26] 3 ?_
     refine ye [0,19,0] ?_
     exact hl26 _ (zi h).symm
    ·refine yx hn 4 ?_
     refine yd hg5_3 7 ?_
     refine ye [0,19,0] ?_
     exact hl26 _ (zi h).symm
theorem jy (mx:Int×Nat×Value) (s:aa) (c:br) (r:aa) (h:Sh.ew s c=some r):kZ Tryz.prog (GL mx) 92 [.box 80 (aa.b s),.agg [.v (.int .i64 c.EG),.v (.string c.EX),.v (.bool c.EQ.EM),.v (.string c.EQ.EI),.v (.string c.EQ.Ex),.fl .shr 2 (flatten (map ay.enc c.EP))]] [.box 80 (aa.b r)] (.tup []):=by
 unfold Sh.ew at h
 refine yc 94 func92 fun args0 hargs0 g0 hn hio => ?_
 refine aI hn 1 [0,94,3,0] ?_
 refine aI hn 2 [0,94,3,5,0] ?_
 refine aD h (fun ((s37,s38,s39,s40,s41,s42,s43,s44,s45,s46,s47,s48,s49,s50,s51,s52,s53,s54,s55,s56):aa.t)=>[(0,.box 80 [vi s37,vs s38,vb s39,vs s40,vs s41,.fl (.own 26) 3 (flatten (map ae.enc s42)),vb s43,.mkr 5 (map (int .u8) s44),vs s45,vb s46,vs s47,vs s48,vi s49,vs s50,vs s51,vi s52,vb s53,vi s54,vi s55,.fr (.own 55) false 12 (flatten (map au.ienc s56))]),(94,.glob (GL mx)),(0,.v (List.getD args0 0 undef))]) ?_ ?_
 ·rintro ⟨s37,s38,s39,s40,s41,s42,s43,s44,s45,s46,s47,s48,s49,s50,s51,s52,s53,s54,s55,s56⟩ h
  refine ah [0,2] (by kernel_rfl) (es':=[(_,_),(_,_)]) rfl ?_
  obtain rfl:=zi h
  exact jb (es:=[]) (posts:=[.box 80 [.v (.int .i64 s37),.v (.string s38),.v (.bool s39),.v (.string s40),.v (.string s41),.fl (.own 26) 3 (flatten (map ae.enc s42)),.v (.bool s43),.mkr 5 (map (int .u8) s44),.v (.string s45),.v (.bool s46),.v (.string s47),.v (.string s48),.v (.int .i64 s49),.v (.string s50),.v (.string s51),.v (.int .i64 s52),.v (.bool s53),.v (.int .i64 s54),.v (.int .i64 s55),.fr (.own 55) false 12 (flatten (map au.ienc s56))]]) hio rfl rfl .nil rfl rfl hargs0 rfl
 ·intro u57 h hl58 hr59
  refine aH ?_
  refine aI hn 2 [0,94,3,5,6,0] ?_
  refine al _ rfl (fun hb60 => ?_) (fun hb60 => ?_)
  ·have h:=ap hb60 h
   refine ab ?_
   refine wb [[],[],[3],[10,3],[8,0],[12,0],[13,0]] ?_
   refine wK [0] [14] ?_
   refine wt [(0,.box 80 (vi 1::vs s.EB.EE::vb s.EB.EA.EM::vs s.EB.EA.EI::vs s.EB.EA.Ex::.fl (.own 26) 3 (flatten (map ae.enc s.EB.To))::vb s.EB.EU::.mkr 5 (map (int .u8) s.EB.Eu)::vs s.EB.Ev::vb s.EB.ET::aC.c s.config [vi s.site,vi s.at_,.fr (.own 55) false 12 (flatten (map au.ienc s.out))]))] [[9,0],[15,0],[16,0]] ⟨cW _ _ _ _ _ _ _ _ Ar rfl rfl rfl rfl (zl rfl) rfl rfl⟩ ?_
   refine wK [0] [17,11] ?_
   refine wt [(0,.box 80 (vi 1::vs c.EX::vb s.EB.EA.EM::vs s.EB.EA.EI::vs s.EB.EA.Ex::.fl (.own 26) 3 (flatten (map ae.enc s.EB.To))::vb s.EB.EU::.mkr 5 (map (int .u8) s.EB.Eu)::vs s.EB.Ev::vb s.EB.ET::aC.c s.config [vi s.site,vi s.at_,.fr (.own 55) false 12 (flatten (map au.ienc s.out))]))] [] ⟨cW _ _ _ _ _ _ _ _ pW rfl rfl rfl rfl (zl rfl) rfl rfl⟩ ?_
   refine qR hn [0,94,0] ?_
   refine ab ?_
   obtain ⟨v2,hv2,h⟩:=zn h
   refine yx hn 1 ?_
   refine yQ call88 (dU _ _ hv2) 0 [18] 0 ?_
   refine aT [0,94,0] ?_
   obtain ⟨v3,hv3,h⟩:=zn h
   refine yx hn 1 ?_
   refine yQ call76 (aQ _ _ _ hv3) 0 [20] 0 ?_
   refine ye [0,94,0] ?_
   refine aJ ?_
   exact hl58 _ (zi h).symm
  ·have h:=aq hb60 h
   refine aI hn 2 [0,94,3,5,22,0] ?_
   refine al _ rfl (fun hb61 => ?_) (fun hb61 => ?_)
   ·have h:=ap hb61 h
    refine ab ?_
    refine aD h (fun (s63:Int)=>[(0,.box 80 (vi s63::vs s.EB.EE::vb s.EB.EA.EM::vs s.EB.EA.EI::vs s.EB.EA.Ex::.fl (.own 26) 3 (flatten (map ae.enc s.EB.To))::vb s.EB.EU::.mkr 5 (map (int .u8) s.EB.Eu)::vs s.EB.Ev::vb s.EB.ET::aC.c s.config [vi s.site,vi s.at_,.fr (.own 55) false 12 (flatten (map au.ienc s.out))])),(94,.glob (GL mx)),(0,.v (List.getD args0 0 undef))]) ?_ ?_
    ·rintro s63 h
     refine ag (ab ?_)
     obtain ⟨v11,hv11,h⟩:=zn h
     refine yx hn 1 ?_
     refine yQ call88 (dU _ _ hv11) 0 [34] 0 ?_
     refine aT [0,94,0] ?_
     obtain ⟨v12,hv12,h⟩:=zn h
     refine yx hn 1 ?_
     refine yQ call76 (aQ _ _ _ hv12) 0 [36] 0 ?_
     refine ye [0,94,0] ?_
     refine aJ ?_
     exact hl58 _ (zi h).symm
    ·intro u64 h hl65 hr66
     refine aI hn 6 [0,94,29,0] ?_
     refine al _ rfl (fun hb67 => ?_) (fun hb67 => ?_)
     ·have h:=ap hb67 h
      refine yy hn 5 [0,94,0] ?_
      exact hl65 _ (zi h).symm
     ·have h:=aq hb67 h
      refine ar ?_
      refine ah [0,1,3] (by kernel_rfl) (es':=[(_,_),(_,_),(_,_)]) rfl ?_
      exact hl65 _ (zi h).symm
   ·have h:=aq hb61 h
    refine aI hn 2 [0,94,3,5,38,0] ?_
    refine al _ rfl (fun hb68 => ?_) (fun hb68 => ?_)
    ·have h:=ap hb68 h
     obtain ⟨v14,hv14,h⟩:=zn h
     refine yx hn 1 ?_
     refine yQ call76 (aQ _ _ _ hv14) 0 [40] 0 ?_
     refine ye [0,94,0] ?_
     refine aJ ?_
     exact hl58 _ (zi h).symm
    ·have h:=aq hb68 h
     refine aI hn 2 [0,94,3,5,42,0] ?_
     refine al _ rfl (fun hb69 => ?_) (fun hb69 => ?_)
     ·have h:=ap hb69 h
      obtain ⟨v16,hv16,h⟩:=zn h
      refine yx hn 1 ?_
      refine yQ call76 (aQ _ _ _ hv16) 0 [44] 0 ?_
      refine ye [0,94,0] ?_
      refine aJ ?_
      exact hl58 _ (zi h).symm
     ·have h:=aq hb69 h
      refine aI hn 2 [0,94,3,5,46,0] ?_
      refine al _ rfl (fun hb70 => ?_) (fun hb70 => ?_)
      ·have h:=ap hb70 h
       refine aI hn 5 [0,94,0] ?_
       obtain ⟨v18,hv18,h⟩:=zn h
       refine yx hn 1 ?_
       refine yQ call76 (aQ _ _ _ hv18) 0 [52] 0 ?_
       refine ye [0,94,0] ?_
       refine aJ ?_
       exact hl58 _ (zi h).symm
      ·have h:=aq hb70 h
       refine aI hn 2 [0,94,3,5,54,0] ?_
       refine al _ rfl (fun hb71 => ?_) (fun hb71 => ?_)
       ·have h:=ap hb71 h
        obtain ⟨v20,hv20,h⟩:=zn h
        obtain ⟨v21,hv21,h⟩:=zn h
        refine yx hn 3 ?_
        refine yk [0] [57,58,94] ?_
        refine kU (0,.box 80 (aa.b v20.2)) (59,vi v20.1) 0 ⟨dG _ _ _ _ 59 94 112 [.tmp 57] [.tmp 58] _ _ _ rfl call112 rfl rfl rfl rfl (fun _ h=>h) (kO mx ((aa.r s)) ((br.mk c.EG c.EX (ae.mk c.EQ.EM c.EQ.EI c.EQ.Ex) c.EP)) _ hv20) (zl rfl) rfl rfl rfl rfl rfl rfl rfl⟩ ?_
        refine yQ call76 (aQ _ _ _ hv21) 0 [56,59] 0 ?_
        refine ye [0,94,0] ?_
        refine aJ ?_
        exact hl58 _ (zi h).symm
       ·have h:=aq hb71 h
        refine aI hn 2 [0,94,3,5,61,0] ?_
        refine al _ rfl (fun hb72 => ?_) (fun hb72 => ?_)
        ·have h:=ap hb72 h
         obtain ⟨v23,hv23,h⟩:=zn h
         obtain ⟨v24,hv24,h⟩:=zn h
         refine yx hn 3 ?_
         refine yk [0] [64,65,94] ?_
         refine kU (0,.box 80 (aa.b v23.2)) (66,vi v23.1) 0 ⟨dG _ _ _ _ 66 94 113 [.tmp 64] [.tmp 65] _ _ _ rfl call113 rfl rfl rfl rfl (fun _ h=>h) (kQ mx ((aa.r s)) ((br.mk c.EG c.EX (ae.mk c.EQ.EM c.EQ.EI c.EQ.Ex) c.EP)) _ hv23) (zl rfl) rfl rfl rfl rfl rfl rfl rfl⟩ ?_
         refine yQ call76 (aQ _ _ _ hv24) 0 [63,66] 0 ?_
         refine ye [0,94,0] ?_
         refine aJ ?_
         exact hl58 _ (zi h).symm
        ·have h:=aq hb72 h
         refine aI hn 2 [0,94,3,5,68,0] ?_
         refine al _ rfl (fun hb73 => ?_) (fun hb73 => ?_)
         ·have h:=ap hb73 h
          obtain ⟨v26,hv26,h⟩:=zn h
          obtain ⟨v27,hv27,h⟩:=zn h
          refine yx hn 2 ?_
          refine yQ call114 (kn _ _ hv26) 0 [71] 0 ?_
          refine yQ call76 (aQ _ _ _ hv27) 0 [70,72] 0 ?_
          refine ye [0,94,0] ?_
          refine aJ ?_
          exact hl58 _ (zi h).symm
         ·have h:=aq hb73 h
          refine aI hn 2 [0,94,3,5,74,0] ?_
          refine al _ rfl (fun hb74 => ?_) (fun hb74 => ?_)
          ·have h:=ap hb74 h
           obtain ⟨v29,hv29,h⟩:=zn h
           obtain ⟨v30,hv30,h⟩:=zn h
           refine yx hn 3 ?_
           refine yQ call116 (kt _ _ _ hv29) 0 [77,78] 0 ?_
           refine yQ call115 (fo _ _ _ hv30) 0 [76,79] 0 ?_
           refine ye [0,94,0] ?_
           refine aJ ?_
           exact hl58 _ (zi h).symm
          ·have h:=aq hb74 h
           refine aI hn 2 [0,94,3,5,81,0] ?_
           refine al _ rfl (fun hb75 => ?_) (fun hb75 => ?_)
           ·have h:=ap hb75 h
            obtain ⟨v32,hv32,h⟩:=zn h
            obtain ⟨v33,hv33,h⟩:=zn h
            refine yx hn 2 ?_
            refine yQ call117 (kr _ _ hv32) 0 [84] 0 ?_
            refine yQ call76 (aQ _ _ _ hv33) 0 [83,85] 0 ?_
            refine ye [0,94,0] ?_
            refine aJ ?_
            exact hl58 _ (zi h).symm
           ·have h:=aq hb75 h
            refine aI hn 2 [0,94,3,87,0] ?_
            refine al _ rfl (fun hb76 => ?_) (fun hb76 => ?_)
            ·have h:=ap hb76 h
             obtain ⟨v35,hv35,h⟩:=zn h
             obtain ⟨v36,hv36,h⟩:=zn h
             refine yx hn 3 ?_
             refine yQ call118 (kH _ _ _ hv35) 0 [90,91] 0 ?_
             refine yQ call115 (fo _ _ _ hv36) 0 [89,92] 0 ?_
             refine ye [0,94,0] ?_
             refine aJ ?_
             exact hl58 _ (zi h).symm
            ·have h:=aq hb76 h
             refine ar (aJ ?_)
             refine ah [0,1,4] (by kernel_rfl) (es':=[(_,_),(_,_),(_,_)]) rfl ?_
             exact hl58 _ (zi h).symm
theorem kx (mx:Int×Nat×Value) (s:aa) (line:Fa) (r:aa) (h:Sh.bz s line=some r):kZ Tryz.prog (GL mx) 75 [.box 80 (aa.b s),.v (.string line)] [.box 80 (aa.b r)] (.tup []):=by
 unfold Sh.bz at h
 refine yc 31 func75 fun args0 hargs0 g0 hn hio => ?_
 refine aI hn 5 [0,1,31,10,0] ?_
 refine aD h (fun ((s8,s9,s10,s11,s12,s13,s14,s15,s16,s17,s18,s19,s20,s21,s22,s23,s24,s25,s26,s27):aa.t)=>[(0,.box 80 [vi s8,vs s9,vb s10,vs s11,vs s12,.fl (.own 26) 3 (flatten (map ae.enc s13)),vb s14,.mkr 5 (map (int .u8) s15),vs s16,vb s17,vs s18,vs s19,vi s20,vs s21,vs s22,vi s23,vb s24,vi s25,vi s26,.fr (.own 55) false 12 (flatten (map au.ienc s27))]),(31,.glob (GL mx)),(0,.v (List.getD args0 0 undef))]) ?_ ?_
 ·rintro ⟨s8,s9,s10,s11,s12,s13,s14,s15,s16,s17,s18,s19,s20,s21,s22,s23,s24,s25,s26,s27⟩ h
  refine ah [0,2] (by kernel_rfl) (es':=[(_,_),(_,_)]) rfl ?_
  obtain rfl:=zi h
  exact jb (es:=[]) (posts:=[.box 80 [.v (.int .i64 s8),.v (.string s9),.v (.bool s10),.v (.string s11),.v (.string s12),.fl (.own 26) 3 (flatten (map ae.enc s13)),.v (.bool s14),.mkr 5 (map (int .u8) s15),.v (.string s16),.v (.bool s17),.v (.string s18),.v (.string s19),.v (.int .i64 s20),.v (.string s21),.v (.string s22),.v (.int .i64 s23),.v (.bool s24),.v (.int .i64 s25),.v (.int .i64 s26),.fr (.own 55) false 12 (flatten (map au.ienc s27))]]) hio rfl rfl .nil rfl rfl hargs0 rfl
 ·intro u28 h hl29 hr30
  refine aH ?_
  refine aI hn 2 [0,1,31,10,24,0] ?_
  refine al _ rfl (fun hb31 => ?_) (fun hb31 => ?_)
  ·have h:=ap hb31 h
   refine ar (aJ ?_)
   refine ah [0,2,5] (by kernel_rfl) (es':=[(_,_),(_,_),(_,_)]) rfl ?_
   exact hl29 _ (zi h).symm
  ·have h:=aq hb31 h
   refine aI hn 2 [0,1,31,26,0] ?_
   refine al _ rfl (fun hb32 => ?_) (fun hb32 => ?_)
   ·have h:=ap hb32 h
    obtain ⟨v3,hv3,h⟩:=zn h
    refine yx hn 2 ?_
    refine yk [0] [28,29,31] ?_
    refine kU (0,.box 80 (aa.b v3)) (30,.tup []) 0 ⟨dG _ _ _ _ 30 31 90 [.tmp 28] [.tmp 29] _ _ _ rfl call90 rfl rfl rfl rfl (fun _ h=>h) (kq mx ((aa.r s)) line _ hv3) (zl rfl) rfl rfl rfl rfl rfl rfl rfl⟩ ?_
    refine ye [0,31,0] ?_
    refine aJ ?_
    exact hl29 _ (zi h).symm
   ·have h:=aq hb32 h
    refine ab ?_
    obtain ⟨v4,hv4,h⟩:=zn h
    refine yx hn 1 ?_
    refine ys 0 ⟨lg call91 (qU _ _ _ hv4) 31⟩ ?_
    refine ym 0 ?_
    refine yS (.agg [vi v4.1.EG,vs v4.1.EX,vb v4.1.EQ.EM,vs v4.1.EQ.EI,vs v4.1.EQ.Ex,.fl .ro 2 (flatten (map ay.enc v4.1.EP))]) 1 ⟨dP _ _ _ _ _ _ rfl rfl (zl rfl) rfl rfl⟩ ?_
    refine yS (.box 122 [vi 0,vs z0,vb false,vs z0,vs z0,vz]) 2 ⟨oA (aP _ _ jt)⟩ ?_
    refine aT [0,31,4,5,0] ?_
    refine ab ?_
    refine aI hn 2 [0,31,4,5,17,0] ?_
    refine al _ rfl (fun hb33 => ?_) (fun hb33 => ?_)
    ·have h:=ap hb33 h
     refine ab ?_
     obtain ⟨v6,hv6,h⟩:=zn h
     refine yx hn 2 ?_
     refine yQ call76 (aQ _ _ _ hv6) 0 [18,19] 0 ?_
     refine aT [0,31,0] ?_
     refine am ?_
     refine ah [0,2] (by kernel_rfl) (es':=[(_,_),(_,_)]) rfl ?_
     refine ai (aG ?_)
     have h:=hr30 _ (zi h).symm
     obtain rfl:=zi h
     exact bo (es:=[]) (posts:=[.box 80 (aa.b v6)]) hio rfl rfl .nil rfl rfl hargs0 rfl
    ·have h:=aq hb33 h
     refine ar (ag ?_)
     obtain ⟨v7,hv7,h⟩:=zn h
     refine yx hn 2 ?_
     refine yk [0] [21,22,31] ?_
     refine kU (0,.box 80 (aa.b v7)) (23,.tup []) 0 ⟨dG _ _ _ _ 23 31 92 [.tmp 21] [.tmp 22] _ _ _ rfl call92 rfl rfl rfl rfl (fun _ h=>h) (jy mx ((aa.r s)) ((br.mk v4.1.EG v4.1.EX (ae.mk v4.1.EQ.EM v4.1.EQ.EI v4.1.EQ.Ex) v4.1.EP)) _ hv7) (zl rfl) rfl rfl rfl rfl rfl rfl rfl⟩ ?_
     refine ye [0,31,0] ?_
     refine aJ ?_
     exact hl29 _ (zi h).symm
end Go.Proofs.YtjnnkhmhjcjhdaaGreatDoor
