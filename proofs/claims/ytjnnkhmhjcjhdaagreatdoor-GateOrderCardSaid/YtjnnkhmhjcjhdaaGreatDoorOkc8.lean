/-
 The model's runs are what is told in Lean.
-/
import Derived.Test.YtjnnkhmhjcjhdaaGreatDoorOkc7
set_option linter.unusedVariables false
set_option linter.unusedSimpArgs false
set_option maxHeartbeats 1000000
namespace Go.Proofs.YtjnnkhmhjcjhdaaGreatDoor
open Go.Abs Go.Abs.Sh Tryz
open List (map flatten)
open Value (int)
theorem kv (mx:Int×Nat×Value) (s:aa) (r:(Bool×aa)) (h:Sh.aV s=some r):kZ Tryz.prog (GL mx) 62 [.box 80 (aa.b s)] [.box 80 (aa.b r.2)] (.v (.bool r.1)):=by
 unfold Sh.aV at h
 refine yc 55 func62 fun args0 hargs0 g0 hn hio => ?_
 refine aI hn 1 [0,55,0] ?_
 refine ab ?_
 refine aI hn 6 [0,55,11,0] ?_
 refine al _ rfl (fun hb1 => ?_) (fun hb1 => ?_)
 ·have h:=ap hb1 h
  refine ab ?_
  obtain ⟨v2,hv2,h⟩:=zn h
  refine yx hn 1 ?_
  refine yk [0] [12,55] ?_
  refine kU (0,.box 80 (aa.b v2.2)) (13,vb v2.1) 1 ⟨dG _ _ _ _ 13 55 73 [.tmp 12] [] _ _ _ rfl call73 rfl rfl rfl rfl (fun _ h=>h) (kW mx ((aa.r s)) _ hv2) (zl rfl) rfl rfl rfl rfl rfl rfl rfl⟩ ?_
  refine aT [0,55,2,0] ?_
  refine am ?_
  refine ah [2,0,3] (by kernel_rfl) (es':=[(_,_),(_,_),(_,_)]) rfl ?_
  refine ai ?_
  obtain rfl:=zi h
  exact bo (es:=[(2,.v (.bool v2.1))]) (posts:=[.box 80 (aa.b v2.2)]) hio rfl rfl (.tmp _ _ .nil) rfl rfl hargs0 rfl
 ·have h:=aq hb1 h
  refine ar ?_
  refine ag (ab ?_)
  obtain ⟨v3,hv3,h⟩:=zn h
  refine yx hn 5 ?_
  refine yS (.fl (.own 5) 1 (map (int .u8) [13,10])) 0 ⟨bb _ _ 1 (.int .u8 0) (map (int .u8) [13,10]) [(0,.int .u8 13),(1,.int .u8 10)] underlying28 jA rb (fun _ V w o a hv hes=>by simp only [List.map_toArray,List.map_cons,List.map_nil]; try rfl) (cn (by simp [Instr.fill,Value.cells]; rfl) (by simp [List.range,List.range.loop] <;> rfl)) (by simp [Value.oneCell']) rfl (by decide) (by decide) (by decide)⟩ ?_
  refine yk [20] [] ?_
  refine yt (21,.fl .ro 1 (map (int .u8) [13,10])) 0 ⟨eE _ _ _ underlying28 underlying5 (by intro h; cases h)⟩ ?_
  refine yX (e:=5) 22 64 0 7 s.EB.Eu [13,10] (fun ca22 cc22=>[.v (.int .i64 s.EB.ES),.v (.string s.EB.EE),.v (.bool s.EB.EA.EM),.v (.string s.EB.EA.EI),.v (.string s.EB.EA.Ex),.fl (.own 26) 3 (flatten (map ae.enc s.EB.To)),.v (.bool s.EB.EU),.v (.slice ca22 (s.EB.Eu.length) cc22),.v (.string s.EB.Ev),.v (.bool s.EB.ET),.v (.string ((s.config.Ey.getD 0 (⟨#[]⟩:Fa)))),.v (.string ((s.config.Ey.getD 1 (⟨#[]⟩:Fa)))),.v (.int .i64 s.config.Ez),.v (.string s.config.EY),.v (.string s.config.EW),.v (.int .i64 s.config.EJ),.v (.bool s.config.ED),.v (.int .i64 s.site),.v (.int .i64 s.at_),.fr (.own 55) false 12 (flatten (map au.ienc s.out))]) ?_ (fun ca22 cc22 => ?_)
  ·exact Am _ 22 0 64 7 (gln:=55) _ _ rfl call74 yC rfl (sb mx) rfl rfl rfl (zl rfl) rfl (px hv3).1 (px hv3).2.1 (px hv3).2.2.1 (px hv3).2.2.2 (Nat.ne_of_beq_eq_false rfl) rfl
  refine yw [] 0 ?_
  refine ym 6 ?_
  refine aT [0,55,64,3,4,5,0] ?_
  refine ab ?_
  refine aI hn 1 [0,55,64,3,4,26,0] ?_
  refine al _ rfl (fun hb4 => ?_) (fun hb4 => ?_)
  ·have h:=ap hb4 h
   refine aI hn 6 [0,55,64,3,0] ?_
   refine ab ?_
   obtain ⟨v5,hv5,h⟩:=zn h
   obtain ⟨v6,hv6,h⟩:=zn h
   refine yx hn 2 ?_
   refine yS (vs v5) 0 ⟨lP 64 hv5 underlying28 underlying9 underlying5 rfl rfl (BD _ _) rfl⟩ ?_
   refine tH (gs:=64) (t:=0) (cs':=[.v (.int .i64 s.EB.ES),.v (.string s.EB.EE),.v (.bool s.EB.EA.EM),.v (.string s.EB.EA.EI),.v (.string s.EB.EA.Ex),.fl (.own 26) 3 (flatten (map ae.enc s.EB.To)),.v (.bool s.EB.EU),.mkr 5 (map (int .u8) (wH s.EB.Eu [13,10])),.v (.string s.EB.Ev),.v (.bool s.EB.ET),.v (.string ((s.config.Ey.getD 0 (⟨#[]⟩:Fa)))),.v (.string ((s.config.Ey.getD 1 (⟨#[]⟩:Fa)))),.v (.int .i64 s.config.Ez),.v (.string s.config.EY),.v (.string s.config.EW),.v (.int .i64 s.config.EJ),.v (.bool s.config.ED),.v (.int .i64 s.site),.v (.int .i64 s.at_),.fr (.own 55) false 12 (flatten (map au.ienc s.out))]) 7 (map (int .u8) (wH s.EB.Eu [13,10])) (zl rfl) rfl (fun _ h=>yN (by assumption) h) (fun _=>vN) (yF _ _ _ _ _ _ _) rfl ?_
   refine yw [] 0 ?_
   refine yk [0] [32,34,55] ?_
   refine kU (0,.box 80 (aa.b v6)) (35,.tup []) 0 ⟨dG _ _ _ _ 35 55 75 [.tmp 32] [.tmp 34] _ _ _ rfl call75 rfl rfl rfl rfl (fun _ h=>h) (kx mx ((aa.mk ((az.mk s.EB.ES s.EB.EE (ae.mk s.EB.EA.EM s.EB.EA.EI s.EB.EA.Ex) s.EB.To s.EB.EU (wH s.EB.Eu [13,10]) s.EB.Ev s.EB.ET)) ((aC.mk (([(s.config.Ey.getD 0 z0),(s.config.Ey.getD 1 z0)]:List Fa)) s.config.Ez s.config.EY s.config.EW s.config.EJ s.config.ED)) s.site s.at_ s.out)) v5 _ hv6) (zl rfl) rfl rfl rfl rfl rfl rfl rfl⟩ ?_
   refine aT [0,55,0] ?_
   refine aI hn 1 [0,55,2,0] ?_
   refine am ?_
   refine ah [2,0,3] (by kernel_rfl) (es':=[(_,_),(_,_),(_,_)]) rfl ?_
   refine ai ?_
   obtain rfl:=zi h
   exact bo (es:=[(2,.v (.bool true))]) (posts:=[.box 80 (aa.b v6)]) hio rfl rfl (.tmp _ _ .nil) rfl rfl hargs0 rfl
  ·have h:=aq hb4 h
   refine ar ?_
   refine ag (ab ?_)
   refine eC hn 0 ?_
   refine tH (gs:=64) (t:=0) (cs':=(aa.b s)) 7 (map (int .u8) s.EB.Eu) (zl rfl) rfl (fun _ h=>h) (fun _=>vN) (.inr rfl) rfl ?_
   refine yw [] 5 ?_
   refine yS (vi (s.EB.Eu.length:Int)) 1 ⟨lO _ _ _ underlying28 rfl (List.length_map _)⟩ ?_
   refine aT [0,55,42,0] ?_
   refine al _ rfl (fun hb7 => ?_) (fun hb7 => ?_)
   ·have h:=ap hb7 h
    refine aI hn 1 [0,55,2,0] ?_
    refine am ?_
    refine ah [2,0,3] (by kernel_rfl) (es':=[(_,_),(_,_),(_,_)]) rfl ?_
    refine ai ?_
    obtain rfl:=zi h
    exact bo (es:=[(2,.v (.bool false))]) (posts:=[.box 80 (aa.b s)]) hio rfl rfl (.tmp _ _ .nil) rfl rfl hargs0 rfl
   ·have h:=aq hb7 h
    refine ar (ag ?_)
    refine aI hn 5 [0,55,0] ?_
    refine ab ?_
    refine aD h (fun ((s10,s11,s12,s13,s14,s15,s16,s17,s18,s19,s20,s21,s22,s23,s24,s25,s26,s27,s28,s29):aa.t)=>[(0,.box 80 [vi s10,vs s11,vb s12,vs s13,vs s14,.fl (.own 26) 3 (flatten (map ae.enc s15)),vb s16,.mkr 5 (map (int .u8) s17),vs s18,vb s19,vs s20,vs s21,vi s22,vs s23,vs s24,vi s25,vb s26,vi s27,vi s28,.fr (.own 55) false 12 (flatten (map au.ienc s29))]),(55,.glob (GL mx)),(0,.v (List.getD args0 0 undef))]) ?_ ?_
    ·rintro ⟨s10,s11,s12,s13,s14,s15,s16,s17,s18,s19,s20,s21,s22,s23,s24,s25,s26,s27,s28,s29⟩ h
     refine ag ?_
     refine aI hn 1 [0,55,2,0] ?_
     refine am ?_
     refine ah [2,0,3] (by kernel_rfl) (es':=[(_,_),(_,_),(_,_)]) rfl ?_
     obtain rfl:=zi h
     exact bo (es:=[(2,.v (.bool true))]) (posts:=[.box 80 [.v (.int .i64 s10),.v (.string s11),.v (.bool s12),.v (.string s13),.v (.string s14),.fl (.own 26) 3 (flatten (map ae.enc s15)),.v (.bool s16),.mkr 5 (map (int .u8) s17),.v (.string s18),.v (.bool s19),.v (.string s20),.v (.string s21),.v (.int .i64 s22),.v (.string s23),.v (.string s24),.v (.int .i64 s25),.v (.bool s26),.v (.int .i64 s27),.v (.int .i64 s28),.fr (.own 55) false 12 (flatten (map au.ienc s29))]]) hio rfl rfl (.tmp _ _ .nil) rfl rfl hargs0 rfl
    ·intro u30 h hl31 hr32
     refine aI hn 6 [0,55,52,0] ?_
     refine al _ rfl (fun hb33 => ?_) (fun hb33 => ?_)
     ·have h:=ap hb33 h
      obtain ⟨v9,hv9,h⟩:=zn h
      refine yx hn 1 ?_
      refine yk [0] [53] ?_
      refine kU (0,.box 80 (aa.b v9)) (54,.tup []) 0 ⟨qi _ _ _ _ 54 76 [.tmp 53] [_] _ _ _ rfl call76 rfl rfl rfl ((aQ ((aa.mk ((az.mk s.EB.ES s.EB.EE (ae.mk s.EB.EA.EM s.EB.EA.EI s.EB.EA.Ex) s.EB.To s.EB.EU [] s.EB.Ev s.EB.ET)) ((aC.mk (([(s.config.Ey.getD 0 z0),(s.config.Ey.getD 1 z0)]:List Fa)) s.config.Ez s.config.EY s.config.EW s.config.EJ s.config.ED)) s.site s.at_ s.out)) 500 _ hv9).args (af (vk (af (aj _) (af (aj _) (af (aj _) (af (aj _) (af (aj _) (af (aj _) (af (aj _) (af (ej 5) (af (aj _) (af (aj _) (af (aj _) (af (aj _) (af (aj _) (af (aj _) (af (aj _) (af (aj _) (af (aj _) (af (aj _) (af (aj _) (af (aj _) (bj)))))))))))))))))))))) (af (aj _) (bj)))) (zl rfl) rfl rfl rfl rfl rfl rfl rfl rfl⟩ ?_
      refine ye [0,55,0] ?_
      exact hl31 _ (zi h).symm
     ·have h:=aq hb33 h
      refine ar ?_
      refine ah [0,1,3] (by kernel_rfl) (es':=[(_,_),(_,_),(_,_)]) rfl ?_
      refine bT (fs:=[(0,.box 80 (vi s.EB.ES::vs s.EB.EE::vb s.EB.EA.EM::vs s.EB.EA.EI::vs s.EB.EA.Ex::.fl (.own 26) 3 (flatten (map ae.enc s.EB.To))::vb s.EB.EU::.mkr 5 (map (int .u8) [])::vs s.EB.Ev::vb s.EB.ET::aC.c s.config [vi s.site,vi s.at_,.fr (.own 55) false 12 (flatten (map au.ienc s.out))])),(55,.glob (GL mx)),(0,.v (List.getD args0 0 undef))]) (.box _ _ (af (aj _) (af (aj _) (af (aj _) (af (aj _) (af (aj _) (af (aj _) (af (aj _) (af (ej 5) (af (aj _) (af (aj _) (af (aj _) (af (aj _) (af (aj _) (af (aj _) (af (aj _) (af (aj _) (af (aj _) (af (aj _) (af (aj _) (af (aj _) (bj))))))))))))))))))))) rfl (.same _ (.same _ .nil))) ?_
      exact hl31 _ (zi h).symm
theorem lX (mx:Int×Nat×Value) (s:aa) (r:aa) (h:Sh.bJ s=some r):kZ Tryz.prog (GL mx) 39 [.box 80 (aa.b s)] [.box 80 (aa.b r)] (.tup []):=by
 unfold Sh.bJ at h
 refine yc 4 func39 fun args0 hargs0 g0 hn hio => ?_
 refine aX h (fun ((s24,s25,s26,s27,s28,s29,s30,s31,s32,s33,s34,s35,s36,s37,s38,s39,s40,s41,s42,s43):aa.t)=>[(0,.box 80 [vi s24,vs s25,vb s26,vs s27,vs s28,.fl (.own 26) 3 (flatten (map ae.enc s29)),vb s30,.mkr 5 (map (int .u8) s31),vs s32,vb s33,vs s34,vs s35,vi s36,vs s37,vs s38,vi s39,vb s40,vi s41,vi s42,.fr (.own 55) false 12 (flatten (map au.ienc s43))]),(0,.v (List.getD args0 0 undef)),(4,.glob (GL mx))]) (fun ((s45,s46,s47,s48,s49,s50,s51,s52,s53,s54,s55,s56,s57,s58,s59,s60,s61,s62,s63,s64):aa.t)=>[(0,.box 80 [vi s45,vs s46,vb s47,vs s48,vs s49,.fl (.own 26) 3 (flatten (map ae.enc s50)),vb s51,.mkr 5 (map (int .u8) s52),vs s53,vb s54,vs s55,vs s56,vi s57,vs s58,vs s59,vi s60,vb s61,vi s62,vi s63,.fr (.own 55) false 12 (flatten (map au.ienc s64))]),(4,.glob (GL mx)),(0,.v (List.getD args0 0 undef))]) ?_ ?_
 ·rintro ⟨s45,s46,s47,s48,s49,s50,s51,s52,s53,s54,s55,s56,s57,s58,s59,s60,s61,s62,s63,s64⟩ h
  refine ah [0,2] (by kernel_rfl) (es':=[(_,_),(_,_)]) rfl ?_
  obtain rfl:=zi h
  exact jb (es:=[]) (posts:=[.box 80 [.v (.int .i64 s45),.v (.string s46),.v (.bool s47),.v (.string s48),.v (.string s49),.fl (.own 26) 3 (flatten (map ae.enc s50)),.v (.bool s51),.mkr 5 (map (int .u8) s52),.v (.string s53),.v (.bool s54),.v (.string s55),.v (.string s56),.v (.int .i64 s57),.v (.string s58),.v (.string s59),.v (.int .i64 s60),.v (.bool s61),.v (.int .i64 s62),.v (.int .i64 s63),.fr (.own 55) false 12 (flatten (map au.ienc s64))]]) hio rfl rfl .nil rfl rfl hargs0 rfl
 ·rintro u65 hl66 hr67 ⟨s24,s25,s26,s27,s28,s29,s30,s31,s32,s33,s34,s35,s36,s37,s38,s39,s40,s41,s42,s43⟩ rr70 h ho68
  refine ab (ab ?_)
  obtain ⟨v1,hv1,h⟩:=zn h
  refine yx hn 1 ?_
  refine yk [0] [2,4] ?_
  refine kU (0,.box 80 (aa.b v1.2)) (3,vb v1.1) 0 ⟨dG _ _ _ _ 3 4 62 [.tmp 2] [] _ _ _ rfl call62 rfl rfl rfl rfl (fun _ h=>h) (kv mx ((aa.mk ((az.mk s24 s25 (ae.mk s26 s27 s28) s29 s30 s31 s32 s33)) ((aC.mk ([s34,s35]:List Fa) s36 s37 s38 s39 s40)) s41 s42 s43)) _ hv1) (zl rfl) rfl rfl rfl rfl rfl rfl rfl⟩ ?_
  refine aT [0,4,3,0] ?_
  refine al _ rfl (fun hb71 => ?_) (fun hb71 => ?_)
  ·have h:=ap hb71 h
   refine ar (ag (aH (ar (aJ ?_))))
   refine ah [0,3,1] (by kernel_rfl) (es':=[(_,_),(_,_),(_,_)]) rfl ?_
   exact bi _ (zi h).symm rfl
  ·have h:=aq hb71 h
   refine bh (aB (aB (bf ?_)))
   refine ah [0,1,3] (by kernel_rfl) (es':=[(_,_),(_,_),(_,_)]) rfl ?_
   exact hl66 _ (ho68 _ (zi h).symm).symm
theorem jL (mx:Int×Nat×Value) (c:aC) (i:Int) (at_:Int) (g:az) (b:(List Int)) (r:(az×(List au)×Int)) (h:Sh.dz c i at_ g b=some r):fk Tryz.prog (GL mx) 13 [.agg [.v (.string ((c.Ey.getD 0 (⟨#[]⟩:Fa)))),.v (.string ((c.Ey.getD 1 (⟨#[]⟩:Fa)))),.v (.int .i64 c.Ez),.v (.string c.EY),.v (.string c.EW),.v (.int .i64 c.EJ),.v (.bool c.ED)],.v (.int .i64 i),.v (.int .i64 at_),.agg [.v (.int .i64 g.ES),.v (.string g.EE),.v (.bool g.EA.EM),.v (.string g.EA.EI),.v (.string g.EA.Ex),.fl .shr 3 (flatten (map ae.enc g.To)),.v (.bool g.EU),.fl .shr 1 (map (int .u8) g.Eu),.v (.string g.Ev),.v (.bool g.ET)],.fl .shr 1 (map (int .u8) b)] (.tup [.agg [.v (.int .i64 r.1.ES),.v (.string r.1.EE),.v (.bool r.1.EA.EM),.v (.string r.1.EA.EI),.v (.string r.1.EA.Ex),.fl .ro 3 (flatten (map ae.enc r.1.To)),.v (.bool r.1.EU),.fl .ro 1 (map (int .u8) r.1.Eu),.v (.string r.1.Ev),.v (.bool r.1.ET)],.fr .ro false 12 (flatten (map au.ienc r.2.1)),.v (.int .i64 r.2.2)]):=by
 unfold Sh.dz at h
 refine yG 88 func13 fun g0 hn hio => ?_
 refine eC hn 2 ?_
 refine yS (.box 30 [vi 0,vs z0,vb false,vs z0,vs z0,vz,vb false,vz,vs z0,vb false]) 2 ⟨oA (aP _ _ qI)⟩ ?_
 refine aT [1,2,4,88,5,8,10] ?_
 refine ab (ab ?_)
 obtain ⟨v1,hv1,h⟩:=zn h
 refine yx hn 1 ?_
 refine ys 1 ⟨lg call35 (kC _ _ _ hv1) 88⟩ ?_
 refine aT [1,2,4,88,5,8,10,13] ?_
 refine aI hn 2 [1,2,4,88,5,8,10,13,20] ?_
 refine al _ rfl (fun hb382 => ?_) (fun hb382 => ?_)
 ·have h:=ap hb382 h
  refine eC hn 0 ?_
  refine yS (.agg [vi 0,vs z0,vb false,vs z0,vs z0,vz,vb false,vz,vs z0,vb false]) 1 ⟨bn _ _ _ _ [1,1,3,1,1,1,1,1] _ _ underlying30 qI (Br _ underlying30) km.nil rfl rfl rfl⟩ ?_
  refine yk [21,10] [] ?_
  refine yt (10,.box 30 [vi 0,vs z0,vb false,vs z0,vs z0,vz,vb false,vz,vs z0,vb false]) 2 ⟨cA _ _ _ 21 10 10 nq rfl rfl rfl rfl rfl (.eq _ (.eq _ (.eq _ (.eq _ (.eq _ (.eq _ (.eq _ (.eq _ (.eq _ (.eq _ (.nil _))))))))))) rfl⟩ ?_
  refine aT [88,10,11,12] ?_
  refine am ?_
  refine ah [1,2,3] (by kernel_rfl) (es':=[(_,_),(_,_),(_,_)]) rfl ?_
  refine bT (fs:=[(10,.box 30 [vi 0,vs z0,vb false,vs z0,vs z0,.fl (.own 26) 3 (flatten (map ae.enc [])),vb false,.fl (.own 5) 1 (map (int .u8) []),vs z0,vb false]),(11,.fr (.own 55) false 12 (flatten (map au.ienc []))),(12,vi v1)]) (.box _ _ (af (aj _) (af (aj _) (af (aj _) (af (aj _) (af (aj _) (af (bC 26 3) (af (aj _) (af (bC 5 1) (af (aj _) (af (aj _) (bj))))))))))) rfl (.sub _ (jT 55 false 12) rfl (.same _ .nil))) ?_
  refine dF 0 hio (es':=[(10,.box 30 [.v (.int .i64 0),.v (.string (⟨#[]⟩:Fa)),.v (.bool false),.v (.string (⟨#[]⟩:Fa)),.v (.string (⟨#[]⟩:Fa)),.fl .ro 3 (flatten (map ae.enc [])),.v (.bool false),.fl .ro 1 (map (int .u8) []),.v (.string (⟨#[]⟩:Fa)),.v (.bool false)]),(11,.fr (.own 55) false 12 (flatten (map au.ienc []))),(12,.v (.int .i64 v1))]) rfl ?_
  refine dF 1 hio (es':=[(10,.box 30 [.v (.int .i64 0),.v (.string (⟨#[]⟩:Fa)),.v (.bool false),.v (.string (⟨#[]⟩:Fa)),.v (.string (⟨#[]⟩:Fa)),.fl .ro 3 (flatten (map ae.enc [])),.v (.bool false),.fl .ro 1 (map (int .u8) []),.v (.string (⟨#[]⟩:Fa)),.v (.bool false)]),(11,.fr .ro false 12 (flatten (map au.ienc []))),(12,.v (.int .i64 v1))]) rfl ?_
  refine ai ?_
  obtain rfl:=zi h
  exact ao hio rfl (.cellA _ _ _ _ underlying30 rfl nq (.tmp _ _ (.tmp _ _ .nil))) rfl rfl
 ·have h:=aq hb382 h
  refine ar ?_
  refine ag (ab ?_)
  refine ab ?_
  refine aD h (fun (s383:Bool)=>[(1,vi i),(2,vi at_),(4,fb b),(88,.glob (GL mx)),(5,.box 24 (aC.c c [])),(8,.box 30 (az.c g [])),(10,.box 30 [vi 0,vs z0,vb false,vs z0,vs z0,vz,vb false,vz,vs z0,vb false]),(41,vb s383)]) ?_ ?_
  ·rintro s383 h
   refine ag ?_
   refine al _ rfl (fun hb387 => ?_) (fun hb387 => ?_)
   ·have h:=ap hb387 h
    refine eC hn 0 ?_
    refine yS (.agg [vi 0,vs z0,vb false,vs z0,vs z0,vz,vb false,vz,vs z0,vb false]) 0 ⟨bn _ _ _ _ [1,1,3,1,1,1,1,1] _ _ underlying30 qI (Br _ underlying30) km.nil rfl rfl rfl⟩ ?_
    refine yk [42,10] [] ?_
    refine yt (10,.box 30 [vi 0,vs z0,vb false,vs z0,vs z0,vz,vb false,vz,vs z0,vb false]) 2 ⟨cA _ _ _ 42 10 10 nq rfl rfl rfl rfl rfl (.eq _ (.eq _ (.eq _ (.eq _ (.eq _ (.eq _ (.eq _ (.eq _ (.eq _ (.eq _ (.nil _))))))))))) rfl⟩ ?_
    refine aT [88,10,11,12] ?_
    refine am ?_
    refine ah [1,2,3] (by kernel_rfl) (es':=[(_,_),(_,_),(_,_)]) rfl ?_
    refine bT (fs:=[(10,.box 30 [vi 0,vs z0,vb false,vs z0,vs z0,.fl (.own 26) 3 (flatten (map ae.enc [])),vb false,.fl (.own 5) 1 (map (int .u8) []),vs z0,vb false]),(11,.fr (.own 55) false 12 (flatten (map au.ienc []))),(12,vi 1)]) (.box _ _ (af (aj _) (af (aj _) (af (aj _) (af (aj _) (af (aj _) (af (bC 26 3) (af (aj _) (af (bC 5 1) (af (aj _) (af (aj _) (bj))))))))))) rfl (.sub _ (jT 55 false 12) rfl (.same _ .nil))) ?_
    refine dF 0 hio (es':=[(10,.box 30 [.v (.int .i64 0),.v (.string (⟨#[]⟩:Fa)),.v (.bool false),.v (.string (⟨#[]⟩:Fa)),.v (.string (⟨#[]⟩:Fa)),.fl .ro 3 (flatten (map ae.enc [])),.v (.bool false),.fl .ro 1 (map (int .u8) []),.v (.string (⟨#[]⟩:Fa)),.v (.bool false)]),(11,.fr (.own 55) false 12 (flatten (map au.ienc []))),(12,.v (.int .i64 1))]) rfl ?_
    refine dF 1 hio (es':=[(10,.box 30 [.v (.int .i64 0),.v (.string (⟨#[]⟩:Fa)),.v (.bool false),.v (.string (⟨#[]⟩:Fa)),.v (.string (⟨#[]⟩:Fa)),.fl .ro 3 (flatten (map ae.enc [])),.v (.bool false),.fl .ro 1 (map (int .u8) []),.v (.string (⟨#[]⟩:Fa)),.v (.bool false)]),(11,.fr .ro false 12 (flatten (map au.ienc []))),(12,.v (.int .i64 1))]) rfl ?_
    refine ai ?_
    obtain rfl:=zi h
    exact ao hio rfl (.cellA _ _ _ _ underlying30 rfl nq (.tmp _ _ (.tmp _ _ .nil))) rfl rfl
   ·have h:=aq hb387 h
    refine ar ?_
    refine ag (ab ?_)
    obtain ⟨v10,hv10,h⟩:=zn h
    refine wb [[8]] ?_
    refine wN [43] ?_
    refine wo [[5],[1],[2]] ⟨lk call37 (me _ _ hv10)⟩ ?_
    refine wK [44] [45,46,47] ?_
    refine wt [(48,.agg (vi v10.ES::vs v10.EE::vb v10.EA.EM::vs v10.EA.EI::vs v10.EA.Ex::.fl (.own 26) 3 (flatten (map ae.enc v10.To))::vb v10.EU::.fl (.own 5) 1 (map (int .u8) v10.Eu)::vs v10.Ev::vb v10.ET::aC.c c [vi i,vi at_,vz]))] [] ⟨bn _ _ _ _ [10,7,1,1,1] _ _ underlying80 DL (DP _ underlying80) (.take _ _ (.copy _ (.copy _ (.copy _ km.nil)))) rfl rfl rfl⟩ ?_
    refine wK [48] [] ?_
    refine wt [(49,.box 80 (vi v10.ES::vs v10.EE::vb v10.EA.EM::vs v10.EA.EI::vs v10.EA.Ex::.fl (.own 26) 3 (flatten (map ae.enc v10.To))::vb v10.EU::.fl (.own 5) 1 (map (int .u8) v10.Eu)::vs v10.Ev::vb v10.ET::aC.c c [vi i,vi at_,vz]))] [] ⟨tC _ _ _ _ _ rfl rfl rfl⟩ ?_
    refine wK [49] [] ?_
    refine wt [(14,.box 80 (vi v10.ES::vs v10.EE::vb v10.EA.EM::vs v10.EA.EI::vs v10.EA.Ex::.fl (.own 26) 3 (flatten (map ae.enc v10.To))::vb v10.EU::.fl (.own 5) 1 (map (int .u8) v10.Eu)::vs v10.Ev::vb v10.ET::aC.c c [vi i,vi at_,vz]))] [] ⟨iC _ _ _ _ rfl⟩ ?_
    refine qR hn [4,88,10,14] ?_
    refine ab ?_
    refine aI hn 3 [88,10,14,50,51,52] ?_
    refine nH (fs:=[(88,.glob (GL mx)),(10,.box 30 [vi 0,vs z0,vb false,vs z0,vs z0,vz,vb false,vz,vs z0,vb false]),(14,.box 80 (vi v10.ES::vs v10.EE::vb v10.EA.EM::vs v10.EA.EI::vs v10.EA.Ex::.fl (.own 26) 3 (flatten (map ae.enc v10.To))::vb v10.EU::.mkr 5 (map (int .u8) v10.Eu)::vs v10.Ev::vb v10.ET::aC.c c [vi i,vi at_,.fr (.own 55) false 12 (flatten (map au.ienc []))])),(50,fb b),(51,vi (b.length:Int)),(52,vi 0)]) (.same _ (.same _ (.box _ _ (af (aj _) (af (aj _) (af (aj _) (af (aj _) (af (aj _) (af (aj _) (af (aj _) (af (un 5 _) (af (aj _) (af (aj _) (af (aj _) (af (aj _) (af (aj _) (af (aj _) (af (aj _) (af (aj _) (af (aj _) (af (aj _) (af (aj _) (af (jT 55 false 12) (bj))))))))))))))))))))) rfl (.same _ (.same _ (.same _ .nil)))))) ?_
    refine aX h (fun ((s557,s558,s559,s560,s561,s562,s563,s564,s565,s566,s567,s568,s569,s570,s571,s572,s573,s574,s575,s576,s577):Int×Fa×Bool×Fa×Fa×(List ae)×Bool×(List Int)×Fa×Bool×Fa×Fa×Int×Fa×Fa×Int×Bool×Int×Int×(List au)×Int)=>[(88,.glob (GL mx)),(10,.box 30 [vi 0,vs z0,vb false,vs z0,vs z0,vz,vb false,vz,vs z0,vb false]),(14,.box 80 [vi s557,vs s558,vb s559,vs s560,vs s561,.fl (.own 26) 3 (flatten (map ae.enc s562)),vb s563,.mkr 5 (map (int .u8) s564),vs s565,vb s566,vs s567,vs s568,vi s569,vs s570,vs s571,vi s572,vb s573,vi s574,vi s575,.fr (.own 55) false 12 (flatten (map au.ienc s576))]),(50,fb b),(51,vi (b.length:Int)),(52,vi s577)]) (fun ((s652,s653,s654,s655,s656,s657,s658,s659,s660,s661,s662,s663,s664,s665,s666,s667,s668,s669,s670,s671):aa.t)=>[(88,.glob (GL mx)),(10,.box 30 [vi 0,vs z0,vb false,vs z0,vs z0,vz,vb false,vz,vs z0,vb false]),(14,.box 80 [vi s652,vs s653,vb s654,vs s655,vs s656,.fl (.own 26) 3 (flatten (map ae.enc s657)),vb s658,.mkr 5 (map (int .u8) s659),vs s660,vb s661,vs s662,vs s663,vi s664,vs s665,vs s666,vi s667,vb s668,vi s669,vi s670,.fr (.own 55) false 12 (flatten (map au.ienc s671))])]) ?_ ?_
    ·rintro ⟨s652,s653,s654,s655,s656,s657,s658,s659,s660,s661,s662,s663,s664,s665,s666,s667,s668,s669,s670,s671⟩ h
     refine ag (ab ?_)
     refine pT 2 hio (es':=[(88,.glob (GL mx)),(10,.box 30 [.v (.int .i64 0),.v (.string (⟨#[]⟩:Fa)),.v (.bool false),.v (.string (⟨#[]⟩:Fa)),.v (.string (⟨#[]⟩:Fa)),vz,.v (.bool false),vz,.v (.string (⟨#[]⟩:Fa)),.v (.bool false)]),(14,.box 80 [.v (.int .i64 s652),.v (.string s653),.v (.bool s654),.v (.string s655),.v (.string s656),.fl .ro 3 (flatten (map ae.enc s657)),.v (.bool s658),.fl .ro 1 (map (int .u8) s659),.v (.string s660),.v (.bool s661),.v (.string s662),.v (.string s663),.v (.int .i64 s664),.v (.string s665),.v (.string s666),.v (.int .i64 s667),.v (.bool s668),.v (.int .i64 s669),.v (.int .i64 s670),.fr .ro false 12 (flatten (map au.ienc s671))])]) rfl ?_
     obtain ⟨v381,hv381,h⟩:=zn h
     refine wb [[],[79,14],[80,14],[81,14]] ?_
     refine wN [82] ?_
     refine wo [[],[84,14],[85,14],[86,14]] ⟨lk call37 (me _ _ hv381)⟩ ?_
     refine wK [83,10] [] ?_
     refine wt [(10,.box 30 [vi v381.ES,vs v381.EE,vb v381.EA.EM,vs v381.EA.EI,vs v381.EA.Ex,.fl (.own 26) 3 (flatten (map ae.enc v381.To)),vb v381.EU,.fl (.own 5) 1 (map (int .u8) v381.Eu),vs v381.Ev,vb v381.ET])] [[87],[]] ⟨aK _ _ _ _ _ _ _ _ nq rfl rfl rfl (zl rfl) rfl rfl⟩ ?_
     refine qR hn [88,10,11,12] ?_
     refine am ?_
     refine ah [1,2,3] (by kernel_rfl) (es':=[(_,_),(_,_),(_,_)]) rfl ?_
     refine dF 0 hio (es':=[(10,.box 30 [.v (.int .i64 v381.ES),.v (.string v381.EE),.v (.bool v381.EA.EM),.v (.string v381.EA.EI),.v (.string v381.EA.Ex),.fl .ro 3 (flatten (map ae.enc v381.To)),.v (.bool v381.EU),.fl .ro 1 (map (int .u8) v381.Eu),.v (.string v381.Ev),.v (.bool v381.ET)]),(11,.fr .ro false 12 (flatten (map au.ienc s671))),(12,.v (.int .i64 0))]) rfl ?_
     obtain rfl:=zi h
     exact ao hio rfl (.cellA _ _ _ _ underlying30 rfl nq (.tmp _ _ (.tmp _ _ .nil))) rfl rfl
    ·rintro u672 hl673 hr674 ⟨s557,s558,s559,s560,s561,s562,s563,s564,s565,s566,s567,s568,s569,s570,s571,s572,s573,s574,s575,s576,s577⟩ rr677 h ho675
     refine aI hn 1 [88,10,14,50,51,52,53] ?_
     refine ab ?_
     refine al _ rfl (fun hb678 => ?_) (fun hb678 => ?_)
     ·have h:=ap hb678 h
      refine ar ?_
      refine ag (ab ?_)
      refine aD h (fun ((s704,s705,s706,s707,s708,s709,s710,s711,s712,s713,s714,s715,s716,s717,s718,s719,s720,s721,s722,s723):aa.t)=>[(88,.glob (GL mx)),(10,.box 30 [vi 0,vs z0,vb false,vs z0,vs z0,vz,vb false,vz,vs z0,vb false]),(14,.box 80 [vi s704,vs s705,vb s706,vs s707,vs s708,.fl (.own 26) 3 (flatten (map ae.enc s709)),vb s710,.mkr 5 (map (int .u8) s711),vs s712,vb s713,vs s714,vs s715,vi s716,vs s717,vs s718,vi s719,vb s720,vi s721,vi s722,.fr (.own 55) false 12 (flatten (map au.ienc s723))]),(50,fb b),(51,vi (b.length:Int)),(52,vi s577)]) ?_ ?_
      ·rintro ⟨s704,s705,s706,s707,s708,s709,s710,s711,s712,s713,s714,s715,s716,s717,s718,s719,s720,s721,s722,s723⟩ h
       refine ag ?_
       obtain ⟨v90,hv90,h⟩:=zn h
       refine yx hn 0 ?_
       refine ys 0 ⟨lb hv90⟩ ?_
       refine yw [52] 1 ?_
       refine ye [88,10,14,50,51,52] ?_
       exact bi _ (zi h).symm rfl
      ·intro u724 h hl725 hr726
       refine aH (ab ?_)
       obtain ⟨v12,hv12,h⟩:=zn h
       obtain ⟨v13,hv13,h⟩:=zn h
       refine yx hn 1 ?_
       refine ys 0 ⟨li hv12⟩ ?_
       refine ys 2 ⟨ll hv13⟩ ?_
       refine aT [88,10,14,50,51,52,15,16] ?_
       refine ab ?_
       obtain ⟨v14,hv14,h⟩:=zn h
       refine yx hn 7 ?_
       refine yS (.fl (.own 5) 1 (map (int .u8) [v13])) 0 ⟨bb _ _ 1 (.int .u8 0) (map (int .u8) [v13]) [(0,.int .u8 v13)] underlying28 jA rb (fun _ V w o a hv hes=>by have e0:=bK hv hes (x := .tmp 63) rfl; simp only [List.map_toArray,List.map_cons,List.map_nil,e0]; try rfl) (cn (by simp [Instr.fill,Value.cells]; rfl) (by simp [List.range,List.range.loop] <;> rfl)) (by simp [Value.oneCell']) rfl (by decide) (by decide) (by decide)⟩ ?_
       refine yk [14] [62,64] ?_
       refine kU (14,.box 80 [vi s557,vs s558,vb s559,vs s560,vs s561,.fl (.own 26) 3 (flatten (map ae.enc s562)),vb s563,.any,vs s565,vb s566,vs s567,vs s568,vi s569,vs s570,vs s571,vi s572,vb s573,vi s574,vi s575,.fr (.own 55) false 12 (flatten (map au.ienc s576))]) (65,.mkr 5 (map (int .u8) v14)) 3 ⟨pF _ 65 14 7 _ _ ia rfl rfl (zl rfl) rfl rfl rfl hv14 rfl (Nat.ne_of_beq_eq_false rfl) rfl rfl⟩ ?_
       refine yw [62] 0 ?_
       refine yk [65,14] [68] ?_
       refine yt (14,.box 80 [vi s557,vs s558,vb s559,vs s560,vs s561,.fl (.own 26) 3 (flatten (map ae.enc s562)),vb s563,.mkr 5 (map (int .u8) v14),vs s565,vb s566,vs s567,vs s568,vi s569,vs s570,vs s571,vi s572,vb s573,vi s574,vi s575,.fr (.own 55) false 12 (flatten (map au.ienc s576))]) 0 ⟨aK _ _ _ _ _ _ _ _ jh rfl rfl rfl (zl rfl) rfl rfl⟩ ?_
       refine aT [88,10,14,50,51,52,15,16] ?_
       refine ab ?_
       refine aD h (fun ((s727,s728,s729,s730,s731,s732,s733,s734,s735,s736,s737,s738,s739,s740,s741,s742,s743,s744,s745,s746,s747):Int×Fa×Bool×Fa×Fa×(List ae)×Bool×(List Int)×Fa×Bool×Fa×Fa×Int×Fa×Fa×Int×Bool×Int×Int×(List au)×Bool)=>[(88,.glob (GL mx)),(10,.box 30 [vi 0,vs z0,vb false,vs z0,vs z0,vz,vb false,vz,vs z0,vb false]),(14,.box 80 [vi s727,vs s728,vb s729,vs s730,vs s731,.fl (.own 26) 3 (flatten (map ae.enc s732)),vb s733,.mkr 5 (map (int .u8) s734),vs s735,vb s736,vs s737,vs s738,vi s739,vs s740,vs s741,vi s742,vb s743,vi s744,vi s745,.fr (.own 55) false 12 (flatten (map au.ienc s746))]),(50,fb b),(51,vi (b.length:Int)),(52,vi s577),(75,vb s747)]) ?_ ?_
       ·rintro ⟨s727,s728,s729,s730,s731,s732,s733,s734,s735,s736,s737,s738,s739,s740,s741,s742,s743,s744,s745,s746,s747⟩ h
        refine ag ?_
        refine al _ rfl (fun hb751 => ?_) (fun hb751 => ?_)
        ·have h:=ap hb751 h
         obtain ⟨v41,hv41,h⟩:=zn h
         refine yx hn 1 ?_
         refine yk [14] [76,88] ?_
         refine kU (14,.box 80 (aa.b v41)) (77,.tup []) 0 ⟨dG _ _ _ _ 77 88 39 [.tmp 76] [] _ _ _ rfl call39 rfl rfl rfl rfl (fun _ h=>h) (lX mx ((aa.mk ((az.mk s727 s728 (ae.mk s729 s730 s731) s732 s733 s734 s735 s736)) ((aC.mk ([s737,s738]:List Fa) s739 s740 s741 s742 s743)) s744 s745 s746)) _ hv41) (zl rfl) rfl rfl rfl rfl rfl rfl rfl⟩ ?_
         refine ye [88,10,14,50,51,52] ?_
         refine aJ ?_
         exact hl725 _ (zi h).symm
        ·have h:=aq hb751 h
         refine ar (aJ ?_)
         refine ah [0,1,2,3,4,5] (by kernel_rfl) (es':=[(_,_),(_,_),(_,_),(_,_),(_,_),(_,_)]) rfl ?_
         exact hl725 _ (zi h).symm
       ·intro u748 h hl749 hr750
        refine ak h (fun hg11_2 h => ?_) (fun hg11_2 h => ?_)
        ·refine yx hn 3 ?_
         refine yd hg11_2 4 ?_
         refine ye [88,10,14,50,51,52,75] ?_
         exact hl749 _ (zi h).symm
        ·obtain ⟨v15,hv15,h⟩:=zn h
         refine yx hn 3 ?_
         refine yd hg11_2 2 ?_
         refine yQ call38 (ji _ _ _ hv15) 14 [72,73] 1 ?_
         refine ye [88,10,14,50,51,52,75] ?_
         exact hl749 _ (zi h).symm
     ·have h:=aq hb678 h
      refine bh (aB (aB (bf ?_)))
      refine ah [0,1,2] (by kernel_rfl) (es':=[(_,_),(_,_),(_,_)]) rfl ?_
      exact hl673 _ (ho675 _ (zi h).symm).symm
  ·intro u384 h hl385 hr386
   refine ak h (fun hg4_2 h => ?_) (fun hg4_2 h => ?_)
   ·refine ak h (fun hg4_6 h => ?_) (fun hg4_6 h => ?_)
    ·refine yx hn 3 ?_
     refine yd hg4_2 4 ?_
     refine yd hg4_6 12 ?_
     refine ye [1,2,4,88,5,8,10,41] ?_
     exact hl385 _ (zi h).symm
    ·refine ak h (fun hg4_10 h => ?_) (fun hg4_10 h => ?_)
     ·refine yx hn 3 ?_
      refine yd hg4_2 4 ?_
      refine yd hg4_6 4 ?_
      refine yd hg4_10 8 ?_
      refine ye [1,2,4,88,5,8,10,41] ?_
      exact hl385 _ (zi h).symm
     ·refine ak h (fun hg4_14 h => ?_) (fun hg4_14 h => ?_)
      ·refine yx hn 3 ?_
       refine yd hg4_2 4 ?_
       refine yd hg4_6 4 ?_
       refine yd hg4_10 4 ?_
       refine yd hg4_14 4 ?_
       refine ye [1,2,4,88,5,8,10,41] ?_
       exact hl385 _ (zi h).symm
      ·obtain ⟨v3,hv3,h⟩:=zn h
       refine yx hn 3 ?_
       refine yd hg4_2 4 ?_
       refine yd hg4_6 4 ?_
       refine yd hg4_10 4 ?_
       refine yd hg4_14 1 ?_
       refine ys 2 ⟨lk call36 (mg _ _ hv3)⟩ ?_
       refine ye [1,2,4,88,5,8,10,41] ?_
       exact hl385 _ (zi h).symm
   ·refine ak h (fun hg4_10 h => ?_) (fun hg4_10 h => ?_)
    ·refine yx hn 3 ?_
     refine yd hg4_2 8 ?_
     refine yd hg4_10 8 ?_
     refine ye [1,2,4,88,5,8,10,41] ?_
     exact hl385 _ (zi h).symm
    ·refine ak h (fun hg4_14 h => ?_) (fun hg4_14 h => ?_)
     ·refine yx hn 3 ?_
      refine yd hg4_2 8 ?_
      refine yd hg4_10 4 ?_
      refine yd hg4_14 4 ?_
      refine ye [1,2,4,88,5,8,10,41] ?_
      exact hl385 _ (zi h).symm
     ·obtain ⟨v4,hv4,h⟩:=zn h
      refine yx hn 3 ?_
      refine yd hg4_2 8 ?_
      refine yd hg4_10 4 ?_
      refine yd hg4_14 1 ?_
      refine ys 2 ⟨lk call36 (mg _ _ hv4)⟩ ?_
      refine ye [1,2,4,88,5,8,10,41] ?_
      exact hl385 _ (zi h).symm
theorem bS (a:ae) (b:ae) (r:Bool) (h:Sh.eW a b=some r):bL Tryz.prog 32 [.agg [.v (.bool a.EM),.v (.string a.EI),.v (.string a.Ex)],.agg [.v (.bool b.EM),.v (.string b.EI),.v (.string b.Ex)]] (.v (.bool r)):=by
 unfold Sh.eW at h
 refine yO 24 func32 fun g0 hn hio => ?_
 refine aI hn 3 [2,3] ?_
 refine ab ?_
 refine aD h (fun (s2:Bool)=>[(4,vb s2)]) ?_ ?_
 ·rintro s2 h
  refine ag (am ?_)
  obtain rfl:=zi h
  exact ao hio rfl (.tmp _ _ .nil) rfl rfl
 ·intro u3 h hl4 hr5
  obtain ⟨v1,hv1,h⟩:=zn h
  refine ak h (fun hg1_5 h => ?_) (fun hg1_5 h => ?_)
  ·refine ak h (fun hg1_12 h => ?_) (fun hg1_12 h => ?_)
   ·refine yx hn 4 ?_
    refine yS (vb (a.EM==b.EM)) 1 ⟨kF _ _ _ _ underlying4 rfl rfl⟩ ?_
    refine yd hg1_5 7 ?_
    refine yd hg1_12 7 ?_
    refine ye [4] ?_
    exact hl4 _ (zi h).symm
   ·refine yx hn 4 ?_
    refine yS (vb (a.EM==b.EM)) 1 ⟨kF _ _ _ _ underlying4 rfl rfl⟩ ?_
    refine yd hg1_5 7 ?_
    refine yd hg1_12 7 ?_
    refine ye [4] ?_
    exact hl4 _ (zi h).symm
  ·refine yx hn 4 ?_
   refine yS (vb (a.EM==b.EM)) 1 ⟨kF _ _ _ _ underlying4 rfl rfl⟩ ?_
   refine yd hg1_5 14 ?_
   refine ye [4] ?_
   exact hl4 _ (zi h).symm
theorem cI (a:(List ae)) (b:(List ae)) (r:Bool) (h:Sh.gB a b=some r):bL Tryz.prog 40 [.fl .shr 3 (flatten (map ae.enc a)),.fl .shr 3 (flatten (map ae.enc b))] (.v (.bool r)):=by
 unfold Sh.gB at h
 refine yO 27 func40 fun g0 hn hio => ?_
 refine aI hn 1 [0,1] ?_
 refine ab ?_
 refine aI hn 5 [0,1,10] ?_
 refine al _ rfl (fun hb1 => ?_) (fun hb1 => ?_)
 ·have h:=ap hb1 h
  refine aI hn 1 [4] ?_
  refine am (ai ?_)
  obtain rfl:=zi h
  exact ao hio rfl (.tmp _ _ .nil) rfl rfl
 ·have h:=aq hb1 h
  refine ar ?_
  refine ag (ab ?_)
  refine aI hn 1 [0,1,5] ?_
  refine aX h (fun (s13:Int)=>[(0,.fl .shr 3 (flatten (map ae.enc a))),(1,.fl .shr 3 (flatten (map ae.enc b))),(5,vi s13)]) (fun (():Unit)=>[]) ?_ ?_
  ·rintro ⟨⟩ h
   refine ag ?_
   refine aI hn 1 [4] ?_
   refine am ?_
   obtain rfl:=zi h
   exact ao hio rfl (.tmp _ _ .nil) rfl rfl
  ·rintro u16 hl17 hr18 s13 rr21 h ho19
   refine ab ?_
   refine aI hn 4 [0,1,5,14] ?_
   refine al _ rfl (fun hb22 => ?_) (fun hb22 => ?_)
   ·have h:=ap hb22 h
    refine ar ?_
    refine ag (ab ?_)
    refine aH (ab ?_)
    obtain ⟨v3,hv3,h⟩:=zn h
    obtain ⟨v4,hv4,h⟩:=zn h
    obtain ⟨v5,hv5,h⟩:=zn h
    obtain ⟨v6,hv6,h⟩:=zn h
    obtain ⟨v7,hv7,h⟩:=zn h
    refine wb [[0],[5]] ?_
    refine wN [17,18] ?_
    refine wo [] ⟨lj hv3⟩ ?_
    refine wN [19,17] ?_
    refine wS (.agg [vb v4.EM,vs v4.EI,vs v4.Ex]) [[1],[5]] ⟨gz _ _ _ _ _ _ _ underlying26 rfl qP rfl rfl (jp ae.len hv4) rfl (by decide)⟩ ?_
    refine wN [21,22] ?_
    refine wo [] ⟨lj hv5⟩ ?_
    refine wN [23,21] ?_
    refine wS (.agg [vb v6.EM,vs v6.EI,vs v6.Ex]) [] ⟨gz _ _ _ _ _ _ _ underlying26 rfl qP rfl rfl (jp ae.len hv6) rfl (by decide)⟩ ?_
    refine wN [20,24] ?_
    refine wo [[25]] ⟨lk call32 (bS _ _ _ hv7)⟩ ?_
    refine qR hn [0,1,5,26] ?_
    refine al _ rfl (fun hb23 => ?_) (fun hb23 => ?_)
    ·have h:=ap hb23 h
     refine aI hn 1 [4] ?_
     refine am (aG (ai (ai (aG (ai ?_)))))
     have h:=hr18 _ (ho19 _ (zi h).symm).symm
     obtain rfl:=zi h
     exact ao hio rfl (.tmp _ _ .nil) rfl rfl
    ·have h:=aq hb23 h
     refine ar (aJ (ag ?_))
     obtain ⟨v9,hv9,h⟩:=zn h
     refine yx hn 1 ?_
     refine ys 0 ⟨lb hv9⟩ ?_
     refine yw [5] 1 ?_
     refine ye [0,1,5] ?_
     exact bi _ (zi h).symm rfl
   ·have h:=aq hb22 h
    refine bh (aB (aB (bf ?_)))
    refine ah [] (by kernel_rfl) (es':=[]) rfl ?_
    exact hl17 _ (ho19 _ (zi h).symm).symm
theorem eJ (a:(List Int)) (b:(List Int)) (r:Bool) (h:Sh.gF a b=some r):bL Tryz.prog 41 [.fl .shr 1 (map (int .u8) a),.fl .shr 1 (map (int .u8) b)] (.v (.bool r)):=by
 unfold Sh.gF at h
 refine yO 26 func41 fun g0 hn hio => ?_
 refine aI hn 1 [0,1] ?_
 refine ab ?_
 refine aI hn 5 [0,1,10] ?_
 refine al _ rfl (fun hb1 => ?_) (fun hb1 => ?_)
 ·have h:=ap hb1 h
  refine aI hn 1 [4] ?_
  refine am (ai ?_)
  obtain rfl:=zi h
  exact ao hio rfl (.tmp _ _ .nil) rfl rfl
 ·have h:=aq hb1 h
  refine ar ?_
  refine ag (ab ?_)
  refine aI hn 1 [0,1,5] ?_
  refine aX h (fun (s12:Int)=>[(0,fb a),(1,fb b),(5,vi s12)]) (fun (():Unit)=>[]) ?_ ?_
  ·rintro ⟨⟩ h
   refine ag ?_
   refine aI hn 1 [4] ?_
   refine am ?_
   obtain rfl:=zi h
   exact ao hio rfl (.tmp _ _ .nil) rfl rfl
  ·rintro u15 hl16 hr17 s12 rr20 h ho18
   refine ab ?_
   refine aI hn 4 [0,1,5,14] ?_
   refine al _ rfl (fun hb21 => ?_) (fun hb21 => ?_)
   ·have h:=ap hb21 h
    refine ar ?_
    refine ag (ab ?_)
    refine aH (ab ?_)
    obtain ⟨v3,hv3,h⟩:=zn h
    obtain ⟨v4,hv4,h⟩:=zn h
    obtain ⟨v5,hv5,h⟩:=zn h
    obtain ⟨v6,hv6,h⟩:=zn h
    refine wb [[0],[5]] ?_
    refine wN [17,18] ?_
    refine wo [] ⟨li hv3⟩ ?_
    refine wN [19,17] ?_
    refine wo [[1],[5]] ⟨ll hv4⟩ ?_
    refine wN [21,22] ?_
    refine wo [] ⟨li hv5⟩ ?_
    refine wN [23,21] ?_
    refine wo [[20,24]] ⟨ll hv6⟩ ?_
    refine qR hn [0,1,5,25] ?_
    refine al _ rfl (fun hb22 => ?_) (fun hb22 => ?_)
    ·have h:=ap hb22 h
     refine aI hn 1 [4] ?_
     refine am (aG (ai (ai (aG (ai ?_)))))
     have h:=hr17 _ (ho18 _ (zi h).symm).symm
     obtain rfl:=zi h
     exact ao hio rfl (.tmp _ _ .nil) rfl rfl
    ·have h:=aq hb22 h
     refine ar (aJ (ag ?_))
     obtain ⟨v8,hv8,h⟩:=zn h
     refine yx hn 1 ?_
     refine ys 0 ⟨lb hv8⟩ ?_
     refine yw [5] 1 ?_
     refine ye [0,1,5] ?_
     exact bi _ (zi h).symm rfl
   ·have h:=aq hb21 h
    refine bh (aB (aB (bf ?_)))
    refine ah [] (by kernel_rfl) (es':=[]) rfl ?_
    exact hl16 _ (ho18 _ (zi h).symm).symm
theorem mv (a:az) (b:az) (r:Bool) (h:Sh.eY a b=some r):bL Tryz.prog 15 [.agg [.v (.int .i64 a.ES),.v (.string a.EE),.v (.bool a.EA.EM),.v (.string a.EA.EI),.v (.string a.EA.Ex),.fl .shr 3 (flatten (map ae.enc a.To)),.v (.bool a.EU),.fl .shr 1 (map (int .u8) a.Eu),.v (.string a.Ev),.v (.bool a.ET)],.agg [.v (.int .i64 b.ES),.v (.string b.EE),.v (.bool b.EA.EM),.v (.string b.EA.EI),.v (.string b.EA.Ex),.fl .shr 3 (flatten (map ae.enc b.To)),.v (.bool b.EU),.fl .shr 1 (map (int .u8) b.Eu),.v (.string b.Ev),.v (.bool b.ET)]] (.v (.bool r)):=by
 unfold Sh.eY at h
 refine yO 59 func15 fun g0 hn hio => ?_
 refine aI hn 3 [2,3] ?_
 refine ab ?_
 refine aD h (fun (s6:Bool)=>[(4,vb s6)]) ?_ ?_
 ·rintro s6 h
  refine ag (am ?_)
  obtain rfl:=zi h
  exact ao hio rfl (.tmp _ _ .nil) rfl rfl
 ·intro u7 h hl8 hr9
  refine ak h (fun hg1_5 h => ?_) (fun hg1_5 h => ?_)
  ·refine ak h (fun hg1_12 h => ?_) (fun hg1_12 h => ?_)
   ·obtain ⟨v1,hv1,h⟩:=zn h
    refine ak h (fun hg1_19 h => ?_) (fun hg1_19 h => ?_)
    ·obtain ⟨v2,hv2,h⟩:=zn h
     refine ak h (fun hg1_26 h => ?_) (fun hg1_26 h => ?_)
     ·obtain ⟨v3,hv3,h⟩:=zn h
      refine ak h (fun hg1_33 h => ?_) (fun hg1_33 h => ?_)
      ·obtain ⟨v4,hv4,h⟩:=zn h
       refine ak h (fun hg1_40 h => ?_) (fun hg1_40 h => ?_)
       ·refine ak h (fun hg1_47 h => ?_) (fun hg1_47 h => ?_)
        ·obtain ⟨v5,hv5,h⟩:=zn h
         refine yx hn 6 ?_
         refine yd hg1_5 7 ?_
         refine yd hg1_12 4 ?_
         refine ys 2 ⟨lk call32 (bS _ _ _ hv1)⟩ ?_
         refine yd hg1_19 4 ?_
         refine ys 2 ⟨lk call40 (cI _ _ _ hv2)⟩ ?_
         refine yd hg1_26 4 ?_
         refine yS (vb (a.EU==b.EU)) 2 ⟨kF _ _ _ _ underlying4 rfl rfl⟩ ?_
         refine yd hg1_33 4 ?_
         refine ys 2 ⟨lk call41 (eJ _ _ _ hv4)⟩ ?_
         refine yd hg1_40 7 ?_
         refine yd hg1_47 4 ?_
         refine yS (vb (a.ET==b.ET)) 2 ⟨kF _ _ _ _ underlying4 rfl rfl⟩ ?_
         refine ye [4] ?_
         exact hl8 _ (zi h).symm
        ·refine yx hn 6 ?_
         refine yd hg1_5 7 ?_
         refine yd hg1_12 4 ?_
         refine ys 2 ⟨lk call32 (bS _ _ _ hv1)⟩ ?_
         refine yd hg1_19 4 ?_
         refine ys 2 ⟨lk call40 (cI _ _ _ hv2)⟩ ?_
         refine yd hg1_26 4 ?_
         refine yS (vb (a.EU==b.EU)) 2 ⟨kF _ _ _ _ underlying4 rfl rfl⟩ ?_
         refine yd hg1_33 4 ?_
         refine ys 2 ⟨lk call41 (eJ _ _ _ hv4)⟩ ?_
         refine yd hg1_40 7 ?_
         refine yd hg1_47 7 ?_
         refine ye [4] ?_
         exact hl8 _ (zi h).symm
       ·refine yx hn 6 ?_
        refine yd hg1_5 7 ?_
        refine yd hg1_12 4 ?_
        refine ys 2 ⟨lk call32 (bS _ _ _ hv1)⟩ ?_
        refine yd hg1_19 4 ?_
        refine ys 2 ⟨lk call40 (cI _ _ _ hv2)⟩ ?_
        refine yd hg1_26 4 ?_
        refine yS (vb (a.EU==b.EU)) 2 ⟨kF _ _ _ _ underlying4 rfl rfl⟩ ?_
        refine yd hg1_33 4 ?_
        refine ys 2 ⟨lk call41 (eJ _ _ _ hv4)⟩ ?_
        refine yd hg1_40 14 ?_
        refine ye [4] ?_
        exact hl8 _ (zi h).symm
      ·refine yx hn 6 ?_
       refine yd hg1_5 7 ?_
       refine yd hg1_12 4 ?_
       refine ys 2 ⟨lk call32 (bS _ _ _ hv1)⟩ ?_
       refine yd hg1_19 4 ?_
       refine ys 2 ⟨lk call40 (cI _ _ _ hv2)⟩ ?_
       refine yd hg1_26 4 ?_
       refine yS (vb (a.EU==b.EU)) 2 ⟨kF _ _ _ _ underlying4 rfl rfl⟩ ?_
       refine yd hg1_33 21 ?_
       refine ye [4] ?_
       exact hl8 _ (zi h).symm
     ·refine yx hn 6 ?_
      refine yd hg1_5 7 ?_
      refine yd hg1_12 4 ?_
      refine ys 2 ⟨lk call32 (bS _ _ _ hv1)⟩ ?_
      refine yd hg1_19 4 ?_
      refine ys 2 ⟨lk call40 (cI _ _ _ hv2)⟩ ?_
      refine yd hg1_26 28 ?_
      refine ye [4] ?_
      exact hl8 _ (zi h).symm
    ·refine yx hn 6 ?_
     refine yd hg1_5 7 ?_
     refine yd hg1_12 4 ?_
     refine ys 2 ⟨lk call32 (bS _ _ _ hv1)⟩ ?_
     refine yd hg1_19 35 ?_
     refine ye [4] ?_
     exact hl8 _ (zi h).symm
   ·refine yx hn 6 ?_
    refine yd hg1_5 7 ?_
    refine yd hg1_12 42 ?_
    refine ye [4] ?_
    exact hl8 _ (zi h).symm
  ·refine yx hn 6 ?_
   refine yd hg1_5 49 ?_
   refine ye [4] ?_
   exact hl8 _ (zi h).symm
theorem lw (mx:Int×Nat×Value) (r:Bool) (h:Sh.dY  = some r):fk Tryz.prog (GL mx) 14 [] (.v (.bool r)):=by
 unfold Sh.dY at h
 refine yG 51 func14 fun g0 hn hio => ?_
 refine aI hn 1 [51] ?_
 refine ab ?_
 obtain ⟨v1,hv1,h⟩:=zn h
 obtain ⟨v2,hv2,h⟩:=zn h
 obtain ⟨v3,hv3,h⟩:=zn h
 refine yx hn 0 ?_
 refine ys 0 ⟨lk call20 (dr _ hv1)⟩ ?_
 refine ys 0 ⟨lk call22 (lC _ _ hv2)⟩ ?_
 refine yS (.fl (.own 5) 1 (map (int .u8) [77,65,73,76,32,70,82,79,77,58,60,62,13,10,69,72,76,79,32,104,13,10])) 0 ⟨bb _ _ 1 (.int .u8 0) (map (int .u8) [77,65,73,76,32,70,82,79,77,58,60,62,13,10,69,72,76,79,32,104,13,10]) [(0,.int .u8 77),(1,.int .u8 65),(2,.int .u8 73),(3,.int .u8 76),(4,.int .u8 32),(5,.int .u8 70),(6,.int .u8 82),(7,.int .u8 79),(8,.int .u8 77),(9,.int .u8 58),(10,.int .u8 60),(11,.int .u8 62),(12,.int .u8 13),(13,.int .u8 10),(14,.int .u8 69),(15,.int .u8 72),(16,.int .u8 76),(17,.int .u8 79),(18,.int .u8 32),(19,.int .u8 104),(20,.int .u8 13),(21,.int .u8 10)] underlying28 jA rb (fun _ V w o a hv hes=>by simp only [List.map_toArray,List.map_cons,List.map_nil]; try rfl) (cn (by simp [Instr.fill,Value.cells]; rfl) (by simp [List.range,List.range.loop] <;> rfl)) (by simp [Value.oneCell']) rfl (by decide) (by decide) (by decide)⟩ ?_
 refine yk [7] [] ?_
 refine yt (8,.fl .ro 1 (map (int .u8) [77,65,73,76,32,70,82,79,77,58,60,62,13,10,69,72,76,79,32,104,13,10])) 0 ⟨eE _ _ _ underlying28 underlying5 (by intro h; cases h)⟩ ?_
 refine ys 0 ⟨lg call13 (jL _ _ _ _ _ _ _ hv3) 51⟩ ?_
 refine ym 0 ?_
 refine yS (.agg [vi v3.1.ES,vs v3.1.EE,vb v3.1.EA.EM,vs v3.1.EA.EI,vs v3.1.EA.Ex,.fl .ro 3 (flatten (map ae.enc v3.1.To)),vb v3.1.EU,.fl .ro 1 (map (int .u8) v3.1.Eu),vs v3.1.Ev,vb v3.1.ET]) 2 ⟨dP _ _ _ _ _ _ rfl rfl (zl rfl) rfl rfl⟩ ?_
 refine yS (.box 30 [vi 0,vs z0,vb false,vs z0,vs z0,vz,vb false,vz,vs z0,vb false]) 3 ⟨oA (aP _ _ qI)⟩ ?_
 refine aT [51,1,2,3] ?_
 refine ab ?_
 refine aD h (fun (s10:Bool)=>[(51,.glob (GL mx)),(0,vb s10)]) ?_ ?_
 ·rintro s10 h
  refine ag (am ?_)
  refine ah [1] (by kernel_rfl) (es':=[(_,_)]) rfl ?_
  obtain rfl:=zi h
  exact ao hio rfl (.tmp _ _ .nil) rfl rfl
 ·intro u11 h hl12 hr13
  refine ak h (fun hg2_2 h => ?_) (fun hg2_2 h => ?_)
  ·refine ak h (fun hg2_7 h => ?_) (fun hg2_7 h => ?_)
   ·obtain ⟨v4,hv4,h⟩:=zn h
    obtain ⟨v5,hv5,h⟩:=zn h
    refine ak h (fun hg2_15 h => ?_) (fun hg2_15 h => ?_)
    ·obtain ⟨v6,hv6,h⟩:=zn h
     obtain ⟨v7,hv7,h⟩:=zn h
     refine ak h (fun hg2_23 h => ?_) (fun hg2_23 h => ?_)
     ·refine ak h (fun hg2_28 h => ?_) (fun hg2_28 h => ?_)
      ·refine ak h (fun hg2_33 h => ?_) (fun hg2_33 h => ?_)
       ·obtain ⟨v8,hv8,h⟩:=zn h
        obtain ⟨v9,hv9,h⟩:=zn h
        refine yx hn 3 ?_
        refine yd hg2_2 5 ?_
        refine yd hg2_7 1 ?_
        refine ys 2 ⟨lI hv4⟩ ?_
        refine yS (vi v5.EV.Ew) 3 ⟨bR _ _ _ _ _ _ _ underlying3 rfl rfl rfl (bU (j:=0) au.ilen hv5 rfl) (.v _)⟩ ?_
        refine yd hg2_15 1 ?_
        refine ys 2 ⟨lI hv6⟩ ?_
        refine yS (vi v7.EV.Ew) 3 ⟨bR _ _ _ _ _ _ _ underlying3 rfl rfl rfl (bU (j:=0) au.ilen hv7 rfl) (.v _)⟩ ?_
        refine yd hg2_23 5 ?_
        refine yd hg2_28 5 ?_
        refine yd hg2_33 0 ?_
        refine ys 0 ⟨lk call20 (dr _ hv8)⟩ ?_
        refine ys 3 ⟨lg call35 (kC _ _ _ hv9) 51⟩ ?_
        refine ye [51,0] ?_
        exact hl12 _ (zi h).symm
       ·refine yx hn 3 ?_
        refine yd hg2_2 5 ?_
        refine yd hg2_7 1 ?_
        refine ys 2 ⟨lI hv4⟩ ?_
        refine yS (vi v5.EV.Ew) 3 ⟨bR _ _ _ _ _ _ _ underlying3 rfl rfl rfl (bU (j:=0) au.ilen hv5 rfl) (.v _)⟩ ?_
        refine yd hg2_15 1 ?_
        refine ys 2 ⟨lI hv6⟩ ?_
        refine yS (vi v7.EV.Ew) 3 ⟨bR _ _ _ _ _ _ _ underlying3 rfl rfl rfl (bU (j:=0) au.ilen hv7 rfl) (.v _)⟩ ?_
        refine yd hg2_23 5 ?_
        refine yd hg2_28 5 ?_
        refine yd hg2_33 5 ?_
        refine ye [51,0] ?_
        exact hl12 _ (zi h).symm
      ·refine yx hn 3 ?_
       refine yd hg2_2 5 ?_
       refine yd hg2_7 1 ?_
       refine ys 2 ⟨lI hv4⟩ ?_
       refine yS (vi v5.EV.Ew) 3 ⟨bR _ _ _ _ _ _ _ underlying3 rfl rfl rfl (bU (j:=0) au.ilen hv5 rfl) (.v _)⟩ ?_
       refine yd hg2_15 1 ?_
       refine ys 2 ⟨lI hv6⟩ ?_
       refine yS (vi v7.EV.Ew) 3 ⟨bR _ _ _ _ _ _ _ underlying3 rfl rfl rfl (bU (j:=0) au.ilen hv7 rfl) (.v _)⟩ ?_
       refine yd hg2_23 5 ?_
       refine yd hg2_28 10 ?_
       refine ye [51,0] ?_
       exact hl12 _ (zi h).symm
     ·refine yx hn 3 ?_
      refine yd hg2_2 5 ?_
      refine yd hg2_7 1 ?_
      refine ys 2 ⟨lI hv4⟩ ?_
      refine yS (vi v5.EV.Ew) 3 ⟨bR _ _ _ _ _ _ _ underlying3 rfl rfl rfl (bU (j:=0) au.ilen hv5 rfl) (.v _)⟩ ?_
      refine yd hg2_15 1 ?_
      refine ys 2 ⟨lI hv6⟩ ?_
      refine yS (vi v7.EV.Ew) 3 ⟨bR _ _ _ _ _ _ _ underlying3 rfl rfl rfl (bU (j:=0) au.ilen hv7 rfl) (.v _)⟩ ?_
      refine yd hg2_23 15 ?_
      refine ye [51,0] ?_
      exact hl12 _ (zi h).symm
    ·refine yx hn 3 ?_
     refine yd hg2_2 5 ?_
     refine yd hg2_7 1 ?_
     refine ys 2 ⟨lI hv4⟩ ?_
     refine yS (vi v5.EV.Ew) 3 ⟨bR _ _ _ _ _ _ _ underlying3 rfl rfl rfl (bU (j:=0) au.ilen hv5 rfl) (.v _)⟩ ?_
     refine yd hg2_15 23 ?_
     refine ye [51,0] ?_
     exact hl12 _ (zi h).symm
   ·refine yx hn 3 ?_
    refine yd hg2_2 5 ?_
    refine yd hg2_7 31 ?_
    refine ye [51,0] ?_
    exact hl12 _ (zi h).symm
  ·refine yx hn 3 ?_
   refine yd hg2_2 36 ?_
   refine ye [51,0] ?_
   exact hl12 _ (zi h).symm
end Go.Proofs.YtjnnkhmhjcjhdaaGreatDoor
