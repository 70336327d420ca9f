import Derived.Test.YtjnnkhmhjcjhdaaGreatDoorOkc8
set_option linter.unusedVariables false
set_option linter.unusedSimpArgs false
set_option maxHeartbeats 1000000
namespace Go.Proofs.YtjnnkhmhjcjhdaaGreatDoor
open Go.Abs Go.Abs.Sh Tryz
open List (map flatten)
open Value (int)
theorem kR (mx:Int×Nat×Value) (s:aa) (c:br) (r:aa) (h:Sh.bK s c=some r):mE Tryz.prog (GL mx) 92 [.box 80 (aa.b s),.agg [.v (.int .i64 c.Jo),.v (.string c.JE),.v (.bool c.Jy.Ju),.v (.string c.Jy.Jq),.v (.string c.Jy.Jf),.fl .shr 2 (flatten (map aD.enc c.Jx))]] [.box 80 (aa.b r)] (.tup []):=by
 unfold Sh.bK at h
 refine CD 94 func92 fun args0 hargs0 g0 hn hio => ?_
 refine aL hn 1 [0,94,3,0] ?_
 refine aL hn 2 [0,94,3,5,0] ?_
 refine aC h (fun ((s37,s38,s39,s40,s41,s42,s43,s44,s45,s46,s47,s48,s49,s50,s51,s52,s53,s54,s55,s56):aa.t)=>[(0,.box 80 [vi s37,vs s38,vb s39,vs s40,vs s41,.fl (.own 26) 3 (flatten (map ah.enc s42)),vb s43,.mkr 5 (map (int .u8) s44),vs s45,vb s46,vs s47,vs s48,vi s49,vs s50,vs s51,vi s52,vb s53,vi s54,vi s55,.fr (.own 55) false 12 (flatten (map aA.ienc s56))]),(94,.glob (GL mx)),(0,.v (List.getD args0 0 undef))]) ?_ ?_
 ·rintro ⟨s37,s38,s39,s40,s41,s42,s43,s44,s45,s46,s47,s48,s49,s50,s51,s52,s53,s54,s55,s56⟩ h
  refine ag [0,2] (by kernel_rfl) (es':=[(_,_),(_,_)]) rfl ?_
  obtain rfl:=zi h
  exact ki (es:=[]) (posts:=[.box 80 [.v (.int .i64 s37),.v (.string s38),.v (.bool s39),.v (.string s40),.v (.string s41),.fl (.own 26) 3 (flatten (map ah.enc s42)),.v (.bool s43),.mkr 5 (map (int .u8) s44),.v (.string s45),.v (.bool s46),.v (.string s47),.v (.string s48),.v (.int .i64 s49),.v (.string s50),.v (.string s51),.v (.int .i64 s52),.v (.bool s53),.v (.int .i64 s54),.v (.int .i64 s55),.fr (.own 55) false 12 (flatten (map aA.ienc s56))]]) hio rfl rfl .nil rfl rfl hargs0 rfl
 ·intro u57 h hl58 hr59
  refine aJ ?_
  refine aL hn 2 [0,94,3,5,6,0] ?_
  refine al _ rfl (fun hb60 => ?_) (fun hb60 => ?_)
  ·have h:=ar hb60 h
   refine ab ?_
   refine wb [[],[],[3],[10,3],[8,0],[12,0],[13,0]] ?_
   refine wK [0] [14] ?_
   refine wt [(0,.box 80 (vi 1::vs s.Jj.Jm::vb s.Jj.Ji.Ju::vs s.Jj.Ji.Jq::vs s.Jj.Ji.Jf::.fl (.own 26) 3 (flatten (map ah.enc s.Jj.To))::vb s.Jj.JB::.mkr 5 (map (int .u8) s.Jj.Jc)::vs s.Jj.Jd::vb s.Jj.JA::aH.c s.config [vi s.site,vi s.at_,.fr (.own 55) false 12 (flatten (map aA.ienc s.out))]))] [[9,0],[15,0],[16,0]] ⟨dY _ _ _ _ _ _ _ _ Fs rfl rfl rfl rfl (zl rfl) rfl rfl⟩ ?_
   refine wK [0] [17,11] ?_
   refine wt [(0,.box 80 (vi 1::vs c.JE::vb s.Jj.Ji.Ju::vs s.Jj.Ji.Jq::vs s.Jj.Ji.Jf::.fl (.own 26) 3 (flatten (map ah.enc s.Jj.To))::vb s.Jj.JB::.mkr 5 (map (int .u8) s.Jj.Jc)::vs s.Jj.Jd::vb s.Jj.JA::aH.c s.config [vi s.site,vi s.at_,.fr (.own 55) false 12 (flatten (map aA.ienc s.out))]))] [] ⟨dY _ _ _ _ _ _ _ _ tb rfl rfl rfl rfl (zl rfl) rfl rfl⟩ ?_
   refine tg hn [0,94,0] ?_
   refine ab ?_
   obtain ⟨v2,hv2,h⟩:=zn h
   refine yx hn 1 ?_
   refine yQ call88 (ff _ _ hv2) 0 [18] 0 ?_
   refine ba [0,94,0] ?_
   obtain ⟨v3,hv3,h⟩:=zn h
   refine yx hn 1 ?_
   refine yQ call76 (bi _ _ _ hv3) 0 [20] 0 ?_
   refine ye [0,94,0] ?_
   refine aP ?_
   exact hl58 _ (zi h).symm
  ·have h:=aq hb60 h
   refine aL hn 2 [0,94,3,5,22,0] ?_
   refine al _ rfl (fun hb61 => ?_) (fun hb61 => ?_)
   ·have h:=ar hb61 h
    refine ab ?_
    refine aC h (fun (s63:Int)=>[(0,.box 80 (vi s63::vs s.Jj.Jm::vb s.Jj.Ji.Ju::vs s.Jj.Ji.Jq::vs s.Jj.Ji.Jf::.fl (.own 26) 3 (flatten (map ah.enc s.Jj.To))::vb s.Jj.JB::.mkr 5 (map (int .u8) s.Jj.Jc)::vs s.Jj.Jd::vb s.Jj.JA::aH.c s.config [vi s.site,vi s.at_,.fr (.own 55) false 12 (flatten (map aA.ienc s.out))])),(94,.glob (GL mx)),(0,.v (List.getD args0 0 undef))]) ?_ ?_
    ·rintro s63 h
     refine ae (ab ?_)
     obtain ⟨v11,hv11,h⟩:=zn h
     refine yx hn 1 ?_
     refine yQ call88 (ff _ _ hv11) 0 [34] 0 ?_
     refine ba [0,94,0] ?_
     obtain ⟨v12,hv12,h⟩:=zn h
     refine yx hn 1 ?_
     refine yQ call76 (bi _ _ _ hv12) 0 [36] 0 ?_
     refine ye [0,94,0] ?_
     refine aP ?_
     exact hl58 _ (zi h).symm
    ·intro u64 h hl65 hr66
     refine aL hn 6 [0,94,29,0] ?_
     refine al _ rfl (fun hb67 => ?_) (fun hb67 => ?_)
     ·have h:=ar hb67 h
      refine yy hn 5 [0,94,0] ?_
      exact hl65 _ (zi h).symm
     ·have h:=aq hb67 h
      refine au ?_
      refine ag [0,1,3] (by kernel_rfl) (es':=[(_,_),(_,_),(_,_)]) rfl ?_
      exact hl65 _ (zi h).symm
   ·have h:=aq hb61 h
    refine aL hn 2 [0,94,3,5,38,0] ?_
    refine al _ rfl (fun hb68 => ?_) (fun hb68 => ?_)
    ·have h:=ar hb68 h
     obtain ⟨v14,hv14,h⟩:=zn h
     refine yx hn 1 ?_
     refine yQ call76 (bi _ _ _ hv14) 0 [40] 0 ?_
     refine ye [0,94,0] ?_
     refine aP ?_
     exact hl58 _ (zi h).symm
    ·have h:=aq hb68 h
     refine aL hn 2 [0,94,3,5,42,0] ?_
     refine al _ rfl (fun hb69 => ?_) (fun hb69 => ?_)
     ·have h:=ar hb69 h
      obtain ⟨v16,hv16,h⟩:=zn h
      refine yx hn 1 ?_
      refine yQ call76 (bi _ _ _ hv16) 0 [44] 0 ?_
      refine ye [0,94,0] ?_
      refine aP ?_
      exact hl58 _ (zi h).symm
     ·have h:=aq hb69 h
      refine aL hn 2 [0,94,3,5,46,0] ?_
      refine al _ rfl (fun hb70 => ?_) (fun hb70 => ?_)
      ·have h:=ar hb70 h
       refine aL hn 5 [0,94,0] ?_
       obtain ⟨v18,hv18,h⟩:=zn h
       refine yx hn 1 ?_
       refine yQ call76 (bi _ _ _ hv18) 0 [52] 0 ?_
       refine ye [0,94,0] ?_
       refine aP ?_
       exact hl58 _ (zi h).symm
      ·have h:=aq hb70 h
       refine aL hn 2 [0,94,3,5,54,0] ?_
       refine al _ rfl (fun hb71 => ?_) (fun hb71 => ?_)
       ·have h:=ar hb71 h
        obtain ⟨v20,hv20,h⟩:=zn h
        obtain ⟨v21,hv21,h⟩:=zn h
        refine yx hn 3 ?_
        refine yk [0] [57,58,94] ?_
        refine mo (0,.box 80 (aa.b v20.2)) (59,vi v20.1) 0 ⟨eJ _ _ _ _ 59 94 112 [.tmp 57] [.tmp 58] _ _ _ rfl call112 rfl rfl rfl rfl (fun _ h=>h) (mu mx ((aa.r s)) ((br.mk c.Jo c.JE (ah.mk c.Jy.Ju c.Jy.Jq c.Jy.Jf) c.Jx)) _ hv20) (zl rfl) rfl rfl rfl rfl rfl rfl rfl⟩ ?_
        refine yQ call76 (bi _ _ _ hv21) 0 [56,59] 0 ?_
        refine ye [0,94,0] ?_
        refine aP ?_
        exact hl58 _ (zi h).symm
       ·have h:=aq hb71 h
        refine aL hn 2 [0,94,3,5,61,0] ?_
        refine al _ rfl (fun hb72 => ?_) (fun hb72 => ?_)
        ·have h:=ar hb72 h
         obtain ⟨v23,hv23,h⟩:=zn h
         obtain ⟨v24,hv24,h⟩:=zn h
         refine yx hn 3 ?_
         refine yk [0] [64,65,94] ?_
         refine mo (0,.box 80 (aa.b v23.2)) (66,vi v23.1) 0 ⟨eJ _ _ _ _ 66 94 113 [.tmp 64] [.tmp 65] _ _ _ rfl call113 rfl rfl rfl rfl (fun _ h=>h) (mK mx ((aa.r s)) ((br.mk c.Jo c.JE (ah.mk c.Jy.Ju c.Jy.Jq c.Jy.Jf) c.Jx)) _ hv23) (zl rfl) rfl rfl rfl rfl rfl rfl rfl⟩ ?_
         refine yQ call76 (bi _ _ _ hv24) 0 [63,66] 0 ?_
         refine ye [0,94,0] ?_
         refine aP ?_
         exact hl58 _ (zi h).symm
        ·have h:=aq hb72 h
         refine aL hn 2 [0,94,3,5,68,0] ?_
         refine al _ rfl (fun hb73 => ?_) (fun hb73 => ?_)
         ·have h:=ar hb73 h
          obtain ⟨v26,hv26,h⟩:=zn h
          obtain ⟨v27,hv27,h⟩:=zn h
          refine yx hn 2 ?_
          refine yQ call114 (mg _ _ hv26) 0 [71] 0 ?_
          refine yQ call76 (bi _ _ _ hv27) 0 [70,72] 0 ?_
          refine ye [0,94,0] ?_
          refine aP ?_
          exact hl58 _ (zi h).symm
         ·have h:=aq hb73 h
          refine aL hn 2 [0,94,3,5,74,0] ?_
          refine al _ rfl (fun hb74 => ?_) (fun hb74 => ?_)
          ·have h:=ar hb74 h
           obtain ⟨v29,hv29,h⟩:=zn h
           obtain ⟨v30,hv30,h⟩:=zn h
           refine yx hn 3 ?_
           refine yQ call116 (mU _ _ _ hv29) 0 [77,78] 0 ?_
           refine yQ call115 (gM _ _ _ hv30) 0 [76,79] 0 ?_
           refine ye [0,94,0] ?_
           refine aP ?_
           exact hl58 _ (zi h).symm
          ·have h:=aq hb74 h
           refine aL hn 2 [0,94,3,5,81,0] ?_
           refine al _ rfl (fun hb75 => ?_) (fun hb75 => ?_)
           ·have h:=ar hb75 h
            obtain ⟨v32,hv32,h⟩:=zn h
            obtain ⟨v33,hv33,h⟩:=zn h
            refine yx hn 2 ?_
            refine yQ call117 (mW _ _ hv32) 0 [84] 0 ?_
            refine yQ call76 (bi _ _ _ hv33) 0 [83,85] 0 ?_
            refine ye [0,94,0] ?_
            refine aP ?_
            exact hl58 _ (zi h).symm
           ·have h:=aq hb75 h
            refine aL hn 2 [0,94,3,87,0] ?_
            refine al _ rfl (fun hb76 => ?_) (fun hb76 => ?_)
            ·have h:=ar hb76 h
             obtain ⟨v35,hv35,h⟩:=zn h
             obtain ⟨v36,hv36,h⟩:=zn h
             refine yx hn 3 ?_
             refine yQ call118 (mL _ _ _ hv35) 0 [90,91] 0 ?_
             refine yQ call115 (gM _ _ _ hv36) 0 [89,92] 0 ?_
             refine ye [0,94,0] ?_
             refine aP ?_
             exact hl58 _ (zi h).symm
            ·have h:=aq hb76 h
             refine au (aP ?_)
             refine ag [0,1,4] (by kernel_rfl) (es':=[(_,_),(_,_),(_,_)]) rfl ?_
             exact hl58 _ (zi h).symm
theorem mr (mx:Int×Nat×Value) (s:aa) (line:JH) (r:aa) (h:Sh.bc s line=some r):mE Tryz.prog (GL mx) 75 [.box 80 (aa.b s),.v (.string line)] [.box 80 (aa.b r)] (.tup []):=by
 unfold Sh.bc at h
 refine CD 31 func75 fun args0 hargs0 g0 hn hio => ?_
 refine aL hn 5 [0,1,31,10,0] ?_
 refine aC h (fun ((s8,s9,s10,s11,s12,s13,s14,s15,s16,s17,s18,s19,s20,s21,s22,s23,s24,s25,s26,s27):aa.t)=>[(0,.box 80 [vi s8,vs s9,vb s10,vs s11,vs s12,.fl (.own 26) 3 (flatten (map ah.enc s13)),vb s14,.mkr 5 (map (int .u8) s15),vs s16,vb s17,vs s18,vs s19,vi s20,vs s21,vs s22,vi s23,vb s24,vi s25,vi s26,.fr (.own 55) false 12 (flatten (map aA.ienc s27))]),(31,.glob (GL mx)),(0,.v (List.getD args0 0 undef))]) ?_ ?_
 ·rintro ⟨s8,s9,s10,s11,s12,s13,s14,s15,s16,s17,s18,s19,s20,s21,s22,s23,s24,s25,s26,s27⟩ h
  refine ag [0,2] (by kernel_rfl) (es':=[(_,_),(_,_)]) rfl ?_
  obtain rfl:=zi h
  exact ki (es:=[]) (posts:=[.box 80 [.v (.int .i64 s8),.v (.string s9),.v (.bool s10),.v (.string s11),.v (.string s12),.fl (.own 26) 3 (flatten (map ah.enc s13)),.v (.bool s14),.mkr 5 (map (int .u8) s15),.v (.string s16),.v (.bool s17),.v (.string s18),.v (.string s19),.v (.int .i64 s20),.v (.string s21),.v (.string s22),.v (.int .i64 s23),.v (.bool s24),.v (.int .i64 s25),.v (.int .i64 s26),.fr (.own 55) false 12 (flatten (map aA.ienc s27))]]) hio rfl rfl .nil rfl rfl hargs0 rfl
 ·intro u28 h hl29 hr30
  refine aJ ?_
  refine aL hn 2 [0,1,31,10,24,0] ?_
  refine al _ rfl (fun hb31 => ?_) (fun hb31 => ?_)
  ·have h:=ar hb31 h
   refine au (aP ?_)
   refine ag [0,2,5] (by kernel_rfl) (es':=[(_,_),(_,_),(_,_)]) rfl ?_
   exact hl29 _ (zi h).symm
  ·have h:=aq hb31 h
   refine aL hn 2 [0,1,31,26,0] ?_
   refine al _ rfl (fun hb32 => ?_) (fun hb32 => ?_)
   ·have h:=ar hb32 h
    obtain ⟨v3,hv3,h⟩:=zn h
    refine yx hn 2 ?_
    refine yk [0] [28,29,31] ?_
    refine mo (0,.box 80 (aa.b v3)) (30,.tup []) 0 ⟨eJ _ _ _ _ 30 31 90 [.tmp 28] [.tmp 29] _ _ _ rfl call90 rfl rfl rfl rfl (fun _ h=>h) (me mx ((aa.r s)) line _ hv3) (zl rfl) rfl rfl rfl rfl rfl rfl rfl⟩ ?_
    refine ye [0,31,0] ?_
    refine aP ?_
    exact hl29 _ (zi h).symm
   ·have h:=aq hb32 h
    refine ab ?_
    obtain ⟨v4,hv4,h⟩:=zn h
    refine yx hn 1 ?_
    refine ys 0 ⟨lg call91 (tv _ _ _ hv4) 31⟩ ?_
    refine ym 0 ?_
    refine yS (.agg [vi v4.1.Jo,vs v4.1.JE,vb v4.1.Jy.Ju,vs v4.1.Jy.Jq,vs v4.1.Jy.Jf,.fl .ro 2 (flatten (map aD.enc v4.1.Jx))]) 1 ⟨et _ _ _ _ _ _ rfl rfl (zl rfl) rfl rfl⟩ ?_
    refine yS (.box 122 [vi 0,vs z0,vb false,vs z0,vs z0,vz]) 2 ⟨oA (bj _ _ kO)⟩ ?_
    refine ba [0,31,4,5,0] ?_
    refine ab ?_
    refine aL hn 2 [0,31,4,5,17,0] ?_
    refine al _ rfl (fun hb33 => ?_) (fun hb33 => ?_)
    ·have h:=ar hb33 h
     refine ab ?_
     obtain ⟨v6,hv6,h⟩:=zn h
     refine yx hn 2 ?_
     refine yQ call76 (bi _ _ _ hv6) 0 [18,19] 0 ?_
     refine ba [0,31,0] ?_
     refine ao ?_
     refine ag [0,2] (by kernel_rfl) (es':=[(_,_),(_,_)]) rfl ?_
     refine ai (aR ?_)
     have h:=hr30 _ (zi h).symm
     obtain rfl:=zi h
     exact bJ (es:=[]) (posts:=[.box 80 (aa.b v6)]) hio rfl rfl .nil rfl rfl hargs0 rfl
    ·have h:=aq hb33 h
     refine au (ae ?_)
     obtain ⟨v7,hv7,h⟩:=zn h
     refine yx hn 2 ?_
     refine yk [0] [21,22,31] ?_
     refine mo (0,.box 80 (aa.b v7)) (23,.tup []) 0 ⟨eJ _ _ _ _ 23 31 92 [.tmp 21] [.tmp 22] _ _ _ rfl call92 rfl rfl rfl rfl (fun _ h=>h) (kR mx ((aa.r s)) ((br.mk v4.1.Jo v4.1.JE (ah.mk v4.1.Jy.Ju v4.1.Jy.Jq v4.1.Jy.Jf) v4.1.Jx)) _ hv7) (zl rfl) rfl rfl rfl rfl rfl rfl rfl⟩ ?_
     refine ye [0,31,0] ?_
     refine aP ?_
     exact hl29 _ (zi h).symm
theorem mI (mx:Int×Nat×Value) (s:aa) (r:(Bool×aa)) (h:Sh.bw s=some r):mE Tryz.prog (GL mx) 62 [.box 80 (aa.b s)] [.box 80 (aa.b r.2)] (.v (.bool r.1)):=by
 unfold Sh.bw at h
 refine CD 55 func62 fun args0 hargs0 g0 hn hio => ?_
 refine aL hn 1 [0,55,0] ?_
 refine ab ?_
 refine aL hn 6 [0,55,11,0] ?_
 refine al _ rfl (fun hb1 => ?_) (fun hb1 => ?_)
 ·have h:=ar hb1 h
  refine ab ?_
  obtain ⟨v2,hv2,h⟩:=zn h
  refine yx hn 1 ?_
  refine yk [0] [12,55] ?_
  refine mo (0,.box 80 (aa.b v2.2)) (13,vb v2.1) 1 ⟨eJ _ _ _ _ 13 55 73 [.tmp 12] [] _ _ _ rfl call73 rfl rfl rfl rfl (fun _ h=>h) (mR mx ((aa.r s)) _ hv2) (zl rfl) rfl rfl rfl rfl rfl rfl rfl⟩ ?_
  refine ba [0,55,2,0] ?_
  refine ao ?_
  refine ag [2,0,3] (by kernel_rfl) (es':=[(_,_),(_,_),(_,_)]) rfl ?_
  refine ai ?_
  obtain rfl:=zi h
  exact bJ (es:=[(2,.v (.bool v2.1))]) (posts:=[.box 80 (aa.b v2.2)]) hio rfl rfl (.tmp _ _ .nil) rfl rfl hargs0 rfl
 ·have h:=aq hb1 h
  refine au ?_
  refine ae (ab ?_)
  obtain ⟨v3,hv3,h⟩:=zn h
  refine yx hn 5 ?_
  refine yS (.fl (.own 5) 1 (map (int .u8) [13,10])) 0 ⟨aY _ _ 1 (.int .u8 0) (map (int .u8) [13,10]) [(0,.int .u8 13),(1,.int .u8 10)] underlying28 jx qD (fun _ V w o a hv hes=>by simp only [List.map_toArray,List.map_cons,List.map_nil]; try rfl) (cd (by simp [Instr.fill,Value.cells]; rfl) (by simp [List.range,List.range.loop] <;> rfl)) (by simp [Value.oneCell']) rfl (by decide) (by decide) (by decide)⟩ ?_
  refine yk [20] [] ?_
  refine yt (21,.fl .ro 1 (map (int .u8) [13,10])) 0 ⟨fP _ _ _ underlying28 underlying5 (by intro h; cases h)⟩ ?_
  refine yX (e:=5) 22 64 0 7 s.Jj.Jc [13,10] (fun ca22 cc22=>[.v (.int .i64 s.Jj.Jz),.v (.string s.Jj.Jm),.v (.bool s.Jj.Ji.Ju),.v (.string s.Jj.Ji.Jq),.v (.string s.Jj.Ji.Jf),.fl (.own 26) 3 (flatten (map ah.enc s.Jj.To)),.v (.bool s.Jj.JB),.v (.slice ca22 (s.Jj.Jc.length) cc22),.v (.string s.Jj.Jd),.v (.bool s.Jj.JA),.v (.string ((s.config.Jg.getD 0 (⟨#[]⟩:JH)))),.v (.string ((s.config.Jg.getD 1 (⟨#[]⟩:JH)))),.v (.int .i64 s.config.Jh),.v (.string s.config.JF),.v (.string s.config.JD),.v (.int .i64 s.config.Jr),.v (.bool s.config.Jl),.v (.int .i64 s.site),.v (.int .i64 s.at_),.fr (.own 55) false 12 (flatten (map aA.ienc s.out))]) ?_ (fun ca22 cc22 => ?_)
  ·exact EM _ 22 0 64 7 (gln:=55) _ _ rfl call74 DS rfl (uU mx) rfl rfl rfl (zl rfl) rfl (rB hv3).1 (rB hv3).2.1 (rB hv3).2.2.1 (rB hv3).2.2.2 (Nat.ne_of_beq_eq_false rfl) rfl
  refine yw [] 0 ?_
  refine ym 6 ?_
  refine ba [0,55,64,3,4,5,0] ?_
  refine ab ?_
  refine aL hn 1 [0,55,64,3,4,26,0] ?_
  refine al _ rfl (fun hb4 => ?_) (fun hb4 => ?_)
  ·have h:=ar hb4 h
   refine aL hn 6 [0,55,64,3,0] ?_
   refine ab ?_
   obtain ⟨v5,hv5,h⟩:=zn h
   obtain ⟨v6,hv6,h⟩:=zn h
   refine yx hn 2 ?_
   refine yS (vs v5) 0 ⟨lP 64 hv5 underlying28 underlying9 underlying5 rfl rfl (Fm _ _) rfl⟩ ?_
   refine vW (gs:=64) (t:=0) (cs':=[.v (.int .i64 s.Jj.Jz),.v (.string s.Jj.Jm),.v (.bool s.Jj.Ji.Ju),.v (.string s.Jj.Ji.Jq),.v (.string s.Jj.Ji.Jf),.fl (.own 26) 3 (flatten (map ah.enc s.Jj.To)),.v (.bool s.Jj.JB),.mkr 5 (map (int .u8) (Ak s.Jj.Jc [13,10])),.v (.string s.Jj.Jd),.v (.bool s.Jj.JA),.v (.string ((s.config.Jg.getD 0 (⟨#[]⟩:JH)))),.v (.string ((s.config.Jg.getD 1 (⟨#[]⟩:JH)))),.v (.int .i64 s.config.Jh),.v (.string s.config.JF),.v (.string s.config.JD),.v (.int .i64 s.config.Jr),.v (.bool s.config.Jl),.v (.int .i64 s.site),.v (.int .i64 s.at_),.fr (.own 55) false 12 (flatten (map aA.ienc s.out))]) 7 (map (int .u8) (Ak s.Jj.Jc [13,10])) (zl rfl) rfl (fun _ h=>Dh (by assumption) h) (fun _=>yH) (CT _ _ _ _ _ _ _) rfl ?_
   refine yw [] 0 ?_
   refine yk [0] [32,34,55] ?_
   refine mo (0,.box 80 (aa.b v6)) (35,.tup []) 0 ⟨eJ _ _ _ _ 35 55 75 [.tmp 32] [.tmp 34] _ _ _ rfl call75 rfl rfl rfl rfl (fun _ h=>h) (mr mx ((aa.mk ((aI.mk s.Jj.Jz s.Jj.Jm (ah.mk s.Jj.Ji.Ju s.Jj.Ji.Jq s.Jj.Ji.Jf) s.Jj.To s.Jj.JB (Ak s.Jj.Jc [13,10]) s.Jj.Jd s.Jj.JA)) ((aH.mk (([(s.config.Jg.getD 0 z0),(s.config.Jg.getD 1 z0)]:List JH)) s.config.Jh s.config.JF s.config.JD s.config.Jr s.config.Jl)) s.site s.at_ s.out)) v5 _ hv6) (zl rfl) rfl rfl rfl rfl rfl rfl rfl⟩ ?_
   refine ba [0,55,0] ?_
   refine aL hn 1 [0,55,2,0] ?_
   refine ao ?_
   refine ag [2,0,3] (by kernel_rfl) (es':=[(_,_),(_,_),(_,_)]) rfl ?_
   refine ai ?_
   obtain rfl:=zi h
   exact bJ (es:=[(2,.v (.bool true))]) (posts:=[.box 80 (aa.b v6)]) hio rfl rfl (.tmp _ _ .nil) rfl rfl hargs0 rfl
  ·have h:=aq hb4 h
   refine au ?_
   refine ae (ab ?_)
   refine fu hn 0 ?_
   refine vW (gs:=64) (t:=0) (cs':=(aa.b s)) 7 (map (int .u8) s.Jj.Jc) (zl rfl) rfl (fun _ h=>h) (fun _=>yH) (.inr rfl) rfl ?_
   refine yw [] 5 ?_
   refine yS (vi (s.Jj.Jc.length:Int)) 1 ⟨nw _ _ _ underlying28 rfl (List.length_map _)⟩ ?_
   refine ba [0,55,42,0] ?_
   refine al _ rfl (fun hb7 => ?_) (fun hb7 => ?_)
   ·have h:=ar hb7 h
    refine aL hn 1 [0,55,2,0] ?_
    refine ao ?_
    refine ag [2,0,3] (by kernel_rfl) (es':=[(_,_),(_,_),(_,_)]) rfl ?_
    refine ai ?_
    obtain rfl:=zi h
    exact bJ (es:=[(2,.v (.bool false))]) (posts:=[.box 80 (aa.b s)]) hio rfl rfl (.tmp _ _ .nil) rfl rfl hargs0 rfl
   ·have h:=aq hb7 h
    refine au (ae ?_)
    refine aL hn 5 [0,55,0] ?_
    refine ab ?_
    refine aC h (fun ((s10,s11,s12,s13,s14,s15,s16,s17,s18,s19,s20,s21,s22,s23,s24,s25,s26,s27,s28,s29):aa.t)=>[(0,.box 80 [vi s10,vs s11,vb s12,vs s13,vs s14,.fl (.own 26) 3 (flatten (map ah.enc s15)),vb s16,.mkr 5 (map (int .u8) s17),vs s18,vb s19,vs s20,vs s21,vi s22,vs s23,vs s24,vi s25,vb s26,vi s27,vi s28,.fr (.own 55) false 12 (flatten (map aA.ienc s29))]),(55,.glob (GL mx)),(0,.v (List.getD args0 0 undef))]) ?_ ?_
    ·rintro ⟨s10,s11,s12,s13,s14,s15,s16,s17,s18,s19,s20,s21,s22,s23,s24,s25,s26,s27,s28,s29⟩ h
     refine ae ?_
     refine aL hn 1 [0,55,2,0] ?_
     refine ao ?_
     refine ag [2,0,3] (by kernel_rfl) (es':=[(_,_),(_,_),(_,_)]) rfl ?_
     obtain rfl:=zi h
     exact bJ (es:=[(2,.v (.bool true))]) (posts:=[.box 80 [.v (.int .i64 s10),.v (.string s11),.v (.bool s12),.v (.string s13),.v (.string s14),.fl (.own 26) 3 (flatten (map ah.enc s15)),.v (.bool s16),.mkr 5 (map (int .u8) s17),.v (.string s18),.v (.bool s19),.v (.string s20),.v (.string s21),.v (.int .i64 s22),.v (.string s23),.v (.string s24),.v (.int .i64 s25),.v (.bool s26),.v (.int .i64 s27),.v (.int .i64 s28),.fr (.own 55) false 12 (flatten (map aA.ienc s29))]]) hio rfl rfl (.tmp _ _ .nil) rfl rfl hargs0 rfl
    ·intro u30 h hl31 hr32
     refine aL hn 6 [0,55,52,0] ?_
     refine al _ rfl (fun hb33 => ?_) (fun hb33 => ?_)
     ·have h:=ar hb33 h
      obtain ⟨v9,hv9,h⟩:=zn h
      refine yx hn 1 ?_
      refine yk [0] [53] ?_
      refine mo (0,.box 80 (aa.b v9)) (54,.tup []) 0 ⟨sy _ _ _ _ 54 76 [.tmp 53] [_] _ _ _ rfl call76 rfl rfl rfl ((bi ((aa.mk ((aI.mk s.Jj.Jz s.Jj.Jm (ah.mk s.Jj.Ji.Ju s.Jj.Ji.Jq s.Jj.Ji.Jf) s.Jj.To s.Jj.JB [] s.Jj.Jd s.Jj.JA)) ((aH.mk (([(s.config.Jg.getD 0 z0),(s.config.Jg.getD 1 z0)]:List JH)) s.config.Jh s.config.JF s.config.JD s.config.Jr s.config.Jl)) s.site s.at_ s.out)) 500 _ hv9).args (af (zg (af (aj _) (af (aj _) (af (aj _) (af (aj _) (af (aj _) (af (aj _) (af (aj _) (af (fw 5) (af (aj _) (af (aj _) (af (aj _) (af (aj _) (af (aj _) (af (aj _) (af (aj _) (af (aj _) (af (aj _) (af (aj _) (af (aj _) (af (aj _) (bG)))))))))))))))))))))) (af (aj _) (bG)))) (zl rfl) rfl rfl rfl rfl rfl rfl rfl rfl⟩ ?_
      refine ye [0,55,0] ?_
      exact hl31 _ (zi h).symm
     ·have h:=aq hb33 h
      refine au ?_
      refine ag [0,1,3] (by kernel_rfl) (es':=[(_,_),(_,_),(_,_)]) rfl ?_
      refine cu (fs:=[(0,.box 80 (vi s.Jj.Jz::vs s.Jj.Jm::vb s.Jj.Ji.Ju::vs s.Jj.Ji.Jq::vs s.Jj.Ji.Jf::.fl (.own 26) 3 (flatten (map ah.enc s.Jj.To))::vb s.Jj.JB::.mkr 5 (map (int .u8) [])::vs s.Jj.Jd::vb s.Jj.JA::aH.c s.config [vi s.site,vi s.at_,.fr (.own 55) false 12 (flatten (map aA.ienc s.out))])),(55,.glob (GL mx)),(0,.v (List.getD args0 0 undef))]) (.box _ _ (af (aj _) (af (aj _) (af (aj _) (af (aj _) (af (aj _) (af (aj _) (af (aj _) (af (fw 5) (af (aj _) (af (aj _) (af (aj _) (af (aj _) (af (aj _) (af (aj _) (af (aj _) (af (aj _) (af (aj _) (af (aj _) (af (aj _) (af (aj _) (bG))))))))))))))))))))) rfl (.same _ (.same _ .nil))) ?_
      exact hl31 _ (zi h).symm
theorem nI (mx:Int×Nat×Value) (s:aa) (r:aa) (h:Sh.ck s=some r):mE Tryz.prog (GL mx) 39 [.box 80 (aa.b s)] [.box 80 (aa.b r)] (.tup []):=by
 unfold Sh.ck at h
 refine CD 4 func39 fun args0 hargs0 g0 hn hio => ?_
 refine aZ h (fun ((s24,s25,s26,s27,s28,s29,s30,s31,s32,s33,s34,s35,s36,s37,s38,s39,s40,s41,s42,s43):aa.t)=>[(0,.box 80 [vi s24,vs s25,vb s26,vs s27,vs s28,.fl (.own 26) 3 (flatten (map ah.enc s29)),vb s30,.mkr 5 (map (int .u8) s31),vs s32,vb s33,vs s34,vs s35,vi s36,vs s37,vs s38,vi s39,vb s40,vi s41,vi s42,.fr (.own 55) false 12 (flatten (map aA.ienc s43))]),(0,.v (List.getD args0 0 undef)),(4,.glob (GL mx))]) (fun ((s45,s46,s47,s48,s49,s50,s51,s52,s53,s54,s55,s56,s57,s58,s59,s60,s61,s62,s63,s64):aa.t)=>[(0,.box 80 [vi s45,vs s46,vb s47,vs s48,vs s49,.fl (.own 26) 3 (flatten (map ah.enc s50)),vb s51,.mkr 5 (map (int .u8) s52),vs s53,vb s54,vs s55,vs s56,vi s57,vs s58,vs s59,vi s60,vb s61,vi s62,vi s63,.fr (.own 55) false 12 (flatten (map aA.ienc s64))]),(4,.glob (GL mx)),(0,.v (List.getD args0 0 undef))]) ?_ ?_
 ·rintro ⟨s45,s46,s47,s48,s49,s50,s51,s52,s53,s54,s55,s56,s57,s58,s59,s60,s61,s62,s63,s64⟩ h
  refine ag [0,2] (by kernel_rfl) (es':=[(_,_),(_,_)]) rfl ?_
  obtain rfl:=zi h
  exact ki (es:=[]) (posts:=[.box 80 [.v (.int .i64 s45),.v (.string s46),.v (.bool s47),.v (.string s48),.v (.string s49),.fl (.own 26) 3 (flatten (map ah.enc s50)),.v (.bool s51),.mkr 5 (map (int .u8) s52),.v (.string s53),.v (.bool s54),.v (.string s55),.v (.string s56),.v (.int .i64 s57),.v (.string s58),.v (.string s59),.v (.int .i64 s60),.v (.bool s61),.v (.int .i64 s62),.v (.int .i64 s63),.fr (.own 55) false 12 (flatten (map aA.ienc s64))]]) hio rfl rfl .nil rfl rfl hargs0 rfl
 ·rintro u65 hl66 hr67 ⟨s24,s25,s26,s27,s28,s29,s30,s31,s32,s33,s34,s35,s36,s37,s38,s39,s40,s41,s42,s43⟩ rr70 h ho68
  refine ab (ab ?_)
  obtain ⟨v1,hv1,h⟩:=zn h
  refine yx hn 1 ?_
  refine yk [0] [2,4] ?_
  refine mo (0,.box 80 (aa.b v1.2)) (3,vb v1.1) 0 ⟨eJ _ _ _ _ 3 4 62 [.tmp 2] [] _ _ _ rfl call62 rfl rfl rfl rfl (fun _ h=>h) (mI mx ((aa.mk ((aI.mk s24 s25 (ah.mk s26 s27 s28) s29 s30 s31 s32 s33)) ((aH.mk ([s34,s35]:List JH) s36 s37 s38 s39 s40)) s41 s42 s43)) _ hv1) (zl rfl) rfl rfl rfl rfl rfl rfl rfl⟩ ?_
  refine ba [0,4,3,0] ?_
  refine al _ rfl (fun hb71 => ?_) (fun hb71 => ?_)
  ·have h:=ar hb71 h
   refine au (ae (aJ (au (aP ?_))))
   refine ag [0,3,1] (by kernel_rfl) (es':=[(_,_),(_,_),(_,_)]) rfl ?_
   exact bn _ (zi h).symm rfl
  ·have h:=aq hb71 h
   refine bl (az (az (bm ?_)))
   refine ag [0,1,3] (by kernel_rfl) (es':=[(_,_),(_,_),(_,_)]) rfl ?_
   exact hl66 _ (ho68 _ (zi h).symm).symm
theorem lF (mx:Int×Nat×Value) (c:aH) (i:Int) (at_:Int) (g:aI) (b:(List Int)) (r:(aI×(List aA)×Int)) (h:Sh.eZ c i at_ g b=some r):gW Tryz.prog (GL mx) 13 [.agg [.v (.string ((c.Jg.getD 0 (⟨#[]⟩:JH)))),.v (.string ((c.Jg.getD 1 (⟨#[]⟩:JH)))),.v (.int .i64 c.Jh),.v (.string c.JF),.v (.string c.JD),.v (.int .i64 c.Jr),.v (.bool c.Jl)],.v (.int .i64 i),.v (.int .i64 at_),.agg [.v (.int .i64 g.Jz),.v (.string g.Jm),.v (.bool g.Ji.Ju),.v (.string g.Ji.Jq),.v (.string g.Ji.Jf),.fl .shr 3 (flatten (map ah.enc g.To)),.v (.bool g.JB),.fl .shr 1 (map (int .u8) g.Jc),.v (.string g.Jd),.v (.bool g.JA)],.fl .shr 1 (map (int .u8) b)] (.tup [.agg [.v (.int .i64 r.1.Jz),.v (.string r.1.Jm),.v (.bool r.1.Ji.Ju),.v (.string r.1.Ji.Jq),.v (.string r.1.Ji.Jf),.fl .ro 3 (flatten (map ah.enc r.1.To)),.v (.bool r.1.JB),.fl .ro 1 (map (int .u8) r.1.Jc),.v (.string r.1.Jd),.v (.bool r.1.JA)],.fr .ro false 12 (flatten (map aA.ienc r.2.1)),.v (.int .i64 r.2.2)]):=by
 unfold Sh.eZ at h
 refine yG 88 func13 fun g0 hn hio => ?_
 refine fu hn 2 ?_
 refine yS (.box 30 [vi 0,vs z0,vb false,vs z0,vs z0,vz,vb false,vz,vs z0,vb false]) 2 ⟨oA (bj _ _ uK)⟩ ?_
 refine ba [1,2,4,88,5,8,10] ?_
 refine ab (ab ?_)
 obtain ⟨v1,hv1,h⟩:=zn h
 refine yx hn 1 ?_
 refine ys 1 ⟨lg call35 (ng _ _ _ hv1) 88⟩ ?_
 refine ba [1,2,4,88,5,8,10,13] ?_
 refine aL hn 2 [1,2,4,88,5,8,10,13,20] ?_
 refine al _ rfl (fun hb382 => ?_) (fun hb382 => ?_)
 ·have h:=ar hb382 h
  refine fu hn 0 ?_
  refine yS (.agg [vi 0,vs z0,vb false,vs z0,vs z0,vz,vb false,vz,vs z0,vb false]) 1 ⟨bI _ _ _ _ [1,1,3,1,1,1,1,1] _ _ underlying30 uK (EN _ underlying30) mn.nil rfl rfl rfl⟩ ?_
  refine yk [21,10] [] ?_
  refine yt (10,.box 30 [vi 0,vs z0,vb false,vs z0,vs z0,vz,vb false,vz,vs z0,vb false]) 2 ⟨dk _ _ _ 21 10 10 rV rfl rfl rfl rfl rfl (.eq _ (.eq _ (.eq _ (.eq _ (.eq _ (.eq _ (.eq _ (.eq _ (.eq _ (.eq _ (.nil _))))))))))) rfl⟩ ?_
  refine ba [88,10,11,12] ?_
  refine ao ?_
  refine ag [1,2,3] (by kernel_rfl) (es':=[(_,_),(_,_),(_,_)]) rfl ?_
  refine cu (fs:=[(10,.box 30 [vi 0,vs z0,vb false,vs z0,vs z0,.fl (.own 26) 3 (flatten (map ah.enc [])),vb false,.fl (.own 5) 1 (map (int .u8) []),vs z0,vb false]),(11,.fr (.own 55) false 12 (flatten (map aA.ienc []))),(12,vi v1)]) (.box _ _ (af (aj _) (af (aj _) (af (aj _) (af (aj _) (af (aj _) (af (bO 26 3) (af (aj _) (af (bO 5 1) (af (aj _) (af (aj _) (bG))))))))))) rfl (.sub _ (lL 55 false 12) rfl (.same _ .nil))) ?_
  refine eL 0 hio (es':=[(10,.box 30 [.v (.int .i64 0),.v (.string (⟨#[]⟩:JH)),.v (.bool false),.v (.string (⟨#[]⟩:JH)),.v (.string (⟨#[]⟩:JH)),.fl .ro 3 (flatten (map ah.enc [])),.v (.bool false),.fl .ro 1 (map (int .u8) []),.v (.string (⟨#[]⟩:JH)),.v (.bool false)]),(11,.fr (.own 55) false 12 (flatten (map aA.ienc []))),(12,.v (.int .i64 v1))]) rfl ?_
  refine eL 1 hio (es':=[(10,.box 30 [.v (.int .i64 0),.v (.string (⟨#[]⟩:JH)),.v (.bool false),.v (.string (⟨#[]⟩:JH)),.v (.string (⟨#[]⟩:JH)),.fl .ro 3 (flatten (map ah.enc [])),.v (.bool false),.fl .ro 1 (map (int .u8) []),.v (.string (⟨#[]⟩:JH)),.v (.bool false)]),(11,.fr .ro false 12 (flatten (map aA.ienc []))),(12,.v (.int .i64 v1))]) rfl ?_
  refine ai ?_
  obtain rfl:=zi h
  exact ay hio rfl (.cellA _ _ _ _ underlying30 rfl rV (.tmp _ _ (.tmp _ _ .nil))) rfl rfl
 ·have h:=aq hb382 h
  refine au ?_
  refine ae (ab ?_)
  refine ab ?_
  refine aC h (fun (s383:Bool)=>[(1,vi i),(2,vi at_),(4,fb b),(88,.glob (GL mx)),(5,.box 24 (aH.c c [])),(8,.box 30 (aI.c g [])),(10,.box 30 [vi 0,vs z0,vb false,vs z0,vs z0,vz,vb false,vz,vs z0,vb false]),(41,vb s383)]) ?_ ?_
  ·rintro s383 h
   refine ae ?_
   refine al _ rfl (fun hb387 => ?_) (fun hb387 => ?_)
   ·have h:=ar hb387 h
    refine fu hn 0 ?_
    refine yS (.agg [vi 0,vs z0,vb false,vs z0,vs z0,vz,vb false,vz,vs z0,vb false]) 0 ⟨bI _ _ _ _ [1,1,3,1,1,1,1,1] _ _ underlying30 uK (EN _ underlying30) mn.nil rfl rfl rfl⟩ ?_
    refine yk [42,10] [] ?_
    refine yt (10,.box 30 [vi 0,vs z0,vb false,vs z0,vs z0,vz,vb false,vz,vs z0,vb false]) 2 ⟨dk _ _ _ 42 10 10 rV rfl rfl rfl rfl rfl (.eq _ (.eq _ (.eq _ (.eq _ (.eq _ (.eq _ (.eq _ (.eq _ (.eq _ (.eq _ (.nil _))))))))))) rfl⟩ ?_
    refine ba [88,10,11,12] ?_
    refine ao ?_
    refine ag [1,2,3] (by kernel_rfl) (es':=[(_,_),(_,_),(_,_)]) rfl ?_
    refine cu (fs:=[(10,.box 30 [vi 0,vs z0,vb false,vs z0,vs z0,.fl (.own 26) 3 (flatten (map ah.enc [])),vb false,.fl (.own 5) 1 (map (int .u8) []),vs z0,vb false]),(11,.fr (.own 55) false 12 (flatten (map aA.ienc []))),(12,vi 1)]) (.box _ _ (af (aj _) (af (aj _) (af (aj _) (af (aj _) (af (aj _) (af (bO 26 3) (af (aj _) (af (bO 5 1) (af (aj _) (af (aj _) (bG))))))))))) rfl (.sub _ (lL 55 false 12) rfl (.same _ .nil))) ?_
    refine eL 0 hio (es':=[(10,.box 30 [.v (.int .i64 0),.v (.string (⟨#[]⟩:JH)),.v (.bool false),.v (.string (⟨#[]⟩:JH)),.v (.string (⟨#[]⟩:JH)),.fl .ro 3 (flatten (map ah.enc [])),.v (.bool false),.fl .ro 1 (map (int .u8) []),.v (.string (⟨#[]⟩:JH)),.v (.bool false)]),(11,.fr (.own 55) false 12 (flatten (map aA.ienc []))),(12,.v (.int .i64 1))]) rfl ?_
    refine eL 1 hio (es':=[(10,.box 30 [.v (.int .i64 0),.v (.string (⟨#[]⟩:JH)),.v (.bool false),.v (.string (⟨#[]⟩:JH)),.v (.string (⟨#[]⟩:JH)),.fl .ro 3 (flatten (map ah.enc [])),.v (.bool false),.fl .ro 1 (map (int .u8) []),.v (.string (⟨#[]⟩:JH)),.v (.bool false)]),(11,.fr .ro false 12 (flatten (map aA.ienc []))),(12,.v (.int .i64 1))]) rfl ?_
    refine ai ?_
    obtain rfl:=zi h
    exact ay hio rfl (.cellA _ _ _ _ underlying30 rfl rV (.tmp _ _ (.tmp _ _ .nil))) rfl rfl
   ·have h:=aq hb387 h
    refine au ?_
    refine ae (ab ?_)
    obtain ⟨v10,hv10,h⟩:=zn h
    refine wb [[8]] ?_
    refine wN [43] ?_
    refine wo [[5],[1],[2]] ⟨lk call37 (nP _ _ hv10)⟩ ?_
    refine wK [44] [45,46,47] ?_
    refine wt [(48,.agg (vi v10.Jz::vs v10.Jm::vb v10.Ji.Ju::vs v10.Ji.Jq::vs v10.Ji.Jf::.fl (.own 26) 3 (flatten (map ah.enc v10.To))::vb v10.JB::.fl (.own 5) 1 (map (int .u8) v10.Jc)::vs v10.Jd::vb v10.JA::aH.c c [vi i,vi at_,vz]))] [] ⟨bI _ _ _ _ [10,7,1,1,1] _ _ underlying80 Ia (Io _ underlying80) (.take _ _ (.copy _ (.copy _ (.copy _ mn.nil)))) rfl rfl rfl⟩ ?_
    refine wK [48] [] ?_
    refine wt [(49,.box 80 (vi v10.Jz::vs v10.Jm::vb v10.Ji.Ju::vs v10.Ji.Jq::vs v10.Ji.Jf::.fl (.own 26) 3 (flatten (map ah.enc v10.To))::vb v10.JB::.fl (.own 5) 1 (map (int .u8) v10.Jc)::vs v10.Jd::vb v10.JA::aH.c c [vi i,vi at_,vz]))] [] ⟨vu _ _ _ _ _ rfl rfl rfl⟩ ?_
    refine wK [49] [] ?_
    refine wt [(14,.box 80 (vi v10.Jz::vs v10.Jm::vb v10.Ji.Ju::vs v10.Ji.Jq::vs v10.Ji.Jf::.fl (.own 26) 3 (flatten (map ah.enc v10.To))::vb v10.JB::.fl (.own 5) 1 (map (int .u8) v10.Jc)::vs v10.Jd::vb v10.JA::aH.c c [vi i,vi at_,vz]))] [] ⟨fJ _ _ _ _ rfl⟩ ?_
    refine tg hn [4,88,10,14] ?_
    refine ab ?_
    refine aL hn 3 [88,10,14,50,51,52] ?_
    refine nb (fs:=[(88,.glob (GL mx)),(10,.box 30 [vi 0,vs z0,vb false,vs z0,vs z0,vz,vb false,vz,vs z0,vb false]),(14,.box 80 (vi v10.Jz::vs v10.Jm::vb v10.Ji.Ju::vs v10.Ji.Jq::vs v10.Ji.Jf::.fl (.own 26) 3 (flatten (map ah.enc v10.To))::vb v10.JB::.mkr 5 (map (int .u8) v10.Jc)::vs v10.Jd::vb v10.JA::aH.c c [vi i,vi at_,.fr (.own 55) false 12 (flatten (map aA.ienc []))])),(50,fb b),(51,vi (b.length:Int)),(52,vi 0)]) (.same _ (.same _ (.box _ _ (af (aj _) (af (aj _) (af (aj _) (af (aj _) (af (aj _) (af (aj _) (af (aj _) (af (xo 5 _) (af (aj _) (af (aj _) (af (aj _) (af (aj _) (af (aj _) (af (aj _) (af (aj _) (af (aj _) (af (aj _) (af (aj _) (af (aj _) (af (lL 55 false 12) (bG))))))))))))))))))))) rfl (.same _ (.same _ (.same _ .nil)))))) ?_
    refine aZ h (fun ((s557,s558,s559,s560,s561,s562,s563,s564,s565,s566,s567,s568,s569,s570,s571,s572,s573,s574,s575,s576,s577):Int×JH×Bool×JH×JH×(List ah)×Bool×(List Int)×JH×Bool×JH×JH×Int×JH×JH×Int×Bool×Int×Int×(List aA)×Int)=>[(88,.glob (GL mx)),(10,.box 30 [vi 0,vs z0,vb false,vs z0,vs z0,vz,vb false,vz,vs z0,vb false]),(14,.box 80 [vi s557,vs s558,vb s559,vs s560,vs s561,.fl (.own 26) 3 (flatten (map ah.enc s562)),vb s563,.mkr 5 (map (int .u8) s564),vs s565,vb s566,vs s567,vs s568,vi s569,vs s570,vs s571,vi s572,vb s573,vi s574,vi s575,.fr (.own 55) false 12 (flatten (map aA.ienc s576))]),(50,fb b),(51,vi (b.length:Int)),(52,vi s577)]) (fun ((s652,s653,s654,s655,s656,s657,s658,s659,s660,s661,s662,s663,s664,s665,s666,s667,s668,s669,s670,s671):aa.t)=>[(88,.glob (GL mx)),(10,.box 30 [vi 0,vs z0,vb false,vs z0,vs z0,vz,vb false,vz,vs z0,vb false]),(14,.box 80 [vi s652,vs s653,vb s654,vs s655,vs s656,.fl (.own 26) 3 (flatten (map ah.enc s657)),vb s658,.mkr 5 (map (int .u8) s659),vs s660,vb s661,vs s662,vs s663,vi s664,vs s665,vs s666,vi s667,vb s668,vi s669,vi s670,.fr (.own 55) false 12 (flatten (map aA.ienc s671))])]) ?_ ?_
    ·rintro ⟨s652,s653,s654,s655,s656,s657,s658,s659,s660,s661,s662,s663,s664,s665,s666,s667,s668,s669,s670,s671⟩ h
     refine ae (ab ?_)
     refine uL 2 hio (es':=[(88,.glob (GL mx)),(10,.box 30 [.v (.int .i64 0),.v (.string (⟨#[]⟩:JH)),.v (.bool false),.v (.string (⟨#[]⟩:JH)),.v (.string (⟨#[]⟩:JH)),vz,.v (.bool false),vz,.v (.string (⟨#[]⟩:JH)),.v (.bool false)]),(14,.box 80 [.v (.int .i64 s652),.v (.string s653),.v (.bool s654),.v (.string s655),.v (.string s656),.fl .ro 3 (flatten (map ah.enc s657)),.v (.bool s658),.fl .ro 1 (map (int .u8) s659),.v (.string s660),.v (.bool s661),.v (.string s662),.v (.string s663),.v (.int .i64 s664),.v (.string s665),.v (.string s666),.v (.int .i64 s667),.v (.bool s668),.v (.int .i64 s669),.v (.int .i64 s670),.fr .ro false 12 (flatten (map aA.ienc s671))])]) rfl ?_
     obtain ⟨v381,hv381,h⟩:=zn h
     refine wb [[],[79,14],[80,14],[81,14]] ?_
     refine wN [82] ?_
     refine wo [[],[84,14],[85,14],[86,14]] ⟨lk call37 (nP _ _ hv381)⟩ ?_
     refine wK [83,10] [] ?_
     refine wt [(10,.box 30 [vi v381.Jz,vs v381.Jm,vb v381.Ji.Ju,vs v381.Ji.Jq,vs v381.Ji.Jf,.fl (.own 26) 3 (flatten (map ah.enc v381.To)),vb v381.JB,.fl (.own 5) 1 (map (int .u8) v381.Jc),vs v381.Jd,vb v381.JA])] [[87],[]] ⟨aV _ _ _ _ _ _ _ _ rV rfl rfl rfl (zl rfl) rfl rfl⟩ ?_
     refine tg hn [88,10,11,12] ?_
     refine ao ?_
     refine ag [1,2,3] (by kernel_rfl) (es':=[(_,_),(_,_),(_,_)]) rfl ?_
     refine eL 0 hio (es':=[(10,.box 30 [.v (.int .i64 v381.Jz),.v (.string v381.Jm),.v (.bool v381.Ji.Ju),.v (.string v381.Ji.Jq),.v (.string v381.Ji.Jf),.fl .ro 3 (flatten (map ah.enc v381.To)),.v (.bool v381.JB),.fl .ro 1 (map (int .u8) v381.Jc),.v (.string v381.Jd),.v (.bool v381.JA)]),(11,.fr .ro false 12 (flatten (map aA.ienc s671))),(12,.v (.int .i64 0))]) rfl ?_
     obtain rfl:=zi h
     exact ay hio rfl (.cellA _ _ _ _ underlying30 rfl rV (.tmp _ _ (.tmp _ _ .nil))) rfl rfl
    ·rintro u672 hl673 hr674 ⟨s557,s558,s559,s560,s561,s562,s563,s564,s565,s566,s567,s568,s569,s570,s571,s572,s573,s574,s575,s576,s577⟩ rr677 h ho675
     refine aL hn 1 [88,10,14,50,51,52,53] ?_
     refine ab ?_
     refine al _ rfl (fun hb678 => ?_) (fun hb678 => ?_)
     ·have h:=ar hb678 h
      refine au ?_
      refine ae (ab ?_)
      refine aC h (fun ((s704,s705,s706,s707,s708,s709,s710,s711,s712,s713,s714,s715,s716,s717,s718,s719,s720,s721,s722,s723):aa.t)=>[(88,.glob (GL mx)),(10,.box 30 [vi 0,vs z0,vb false,vs z0,vs z0,vz,vb false,vz,vs z0,vb false]),(14,.box 80 [vi s704,vs s705,vb s706,vs s707,vs s708,.fl (.own 26) 3 (flatten (map ah.enc s709)),vb s710,.mkr 5 (map (int .u8) s711),vs s712,vb s713,vs s714,vs s715,vi s716,vs s717,vs s718,vi s719,vb s720,vi s721,vi s722,.fr (.own 55) false 12 (flatten (map aA.ienc s723))]),(50,fb b),(51,vi (b.length:Int)),(52,vi s577)]) ?_ ?_
      ·rintro ⟨s704,s705,s706,s707,s708,s709,s710,s711,s712,s713,s714,s715,s716,s717,s718,s719,s720,s721,s722,s723⟩ h
       refine ae ?_
       obtain ⟨v90,hv90,h⟩:=zn h
       refine yx hn 0 ?_
       refine ys 0 ⟨lb hv90⟩ ?_
       refine yw [52] 1 ?_
       refine ye [88,10,14,50,51,52] ?_
       exact bn _ (zi h).symm rfl
      ·intro u724 h hl725 hr726
       refine aJ (ab ?_)
       obtain ⟨v12,hv12,h⟩:=zn h
       obtain ⟨v13,hv13,h⟩:=zn h
       refine yx hn 1 ?_
       refine ys 0 ⟨li hv12⟩ ?_
       refine ys 2 ⟨ll hv13⟩ ?_
       refine ba [88,10,14,50,51,52,15,16] ?_
       refine ab ?_
       obtain ⟨v14,hv14,h⟩:=zn h
       refine yx hn 7 ?_
       refine yS (.fl (.own 5) 1 (map (int .u8) [v13])) 0 ⟨aY _ _ 1 (.int .u8 0) (map (int .u8) [v13]) [(0,.int .u8 v13)] underlying28 jx qD (fun _ V w o a hv hes=>by have e0:=bU hv hes (x := .tmp 63) rfl; simp only [List.map_toArray,List.map_cons,List.map_nil,e0]; try rfl) (cd (by simp [Instr.fill,Value.cells]; rfl) (by simp [List.range,List.range.loop] <;> rfl)) (by simp [Value.oneCell']) rfl (by decide) (by decide) (by decide)⟩ ?_
       refine yk [14] [62,64] ?_
       refine mo (14,.box 80 [vi s557,vs s558,vb s559,vs s560,vs s561,.fl (.own 26) 3 (flatten (map ah.enc s562)),vb s563,.any,vs s565,vb s566,vs s567,vs s568,vi s569,vs s570,vs s571,vi s572,vb s573,vi s574,vi s575,.fr (.own 55) false 12 (flatten (map aA.ienc s576))]) (65,.mkr 5 (map (int .u8) v14)) 3 ⟨sS _ 65 14 7 _ _ fQ rfl rfl (zl rfl) rfl rfl rfl hv14 rfl (Nat.ne_of_beq_eq_false rfl) rfl rfl⟩ ?_
       refine yw [62] 0 ?_
       refine yk [65,14] [68] ?_
       refine yt (14,.box 80 [vi s557,vs s558,vb s559,vs s560,vs s561,.fl (.own 26) 3 (flatten (map ah.enc s562)),vb s563,.mkr 5 (map (int .u8) v14),vs s565,vb s566,vs s567,vs s568,vi s569,vs s570,vs s571,vi s572,vb s573,vi s574,vi s575,.fr (.own 55) false 12 (flatten (map aA.ienc s576))]) 0 ⟨aV _ _ _ _ _ _ _ _ kG rfl rfl rfl (zl rfl) rfl rfl⟩ ?_
       refine ba [88,10,14,50,51,52,15,16] ?_
       refine ab ?_
       refine aC h (fun ((s727,s728,s729,s730,s731,s732,s733,s734,s735,s736,s737,s738,s739,s740,s741,s742,s743,s744,s745,s746,s747):Int×JH×Bool×JH×JH×(List ah)×Bool×(List Int)×JH×Bool×JH×JH×Int×JH×JH×Int×Bool×Int×Int×(List aA)×Bool)=>[(88,.glob (GL mx)),(10,.box 30 [vi 0,vs z0,vb false,vs z0,vs z0,vz,vb false,vz,vs z0,vb false]),(14,.box 80 [vi s727,vs s728,vb s729,vs s730,vs s731,.fl (.own 26) 3 (flatten (map ah.enc s732)),vb s733,.mkr 5 (map (int .u8) s734),vs s735,vb s736,vs s737,vs s738,vi s739,vs s740,vs s741,vi s742,vb s743,vi s744,vi s745,.fr (.own 55) false 12 (flatten (map aA.ienc s746))]),(50,fb b),(51,vi (b.length:Int)),(52,vi s577),(75,vb s747)]) ?_ ?_
       ·rintro ⟨s727,s728,s729,s730,s731,s732,s733,s734,s735,s736,s737,s738,s739,s740,s741,s742,s743,s744,s745,s746,s747⟩ h
        refine ae ?_
        refine al _ rfl (fun hb751 => ?_) (fun hb751 => ?_)
        ·have h:=ar hb751 h
         obtain ⟨v41,hv41,h⟩:=zn h
         refine yx hn 1 ?_
         refine yk [14] [76,88] ?_
         refine mo (14,.box 80 (aa.b v41)) (77,.tup []) 0 ⟨eJ _ _ _ _ 77 88 39 [.tmp 76] [] _ _ _ rfl call39 rfl rfl rfl rfl (fun _ h=>h) (nI mx ((aa.mk ((aI.mk s727 s728 (ah.mk s729 s730 s731) s732 s733 s734 s735 s736)) ((aH.mk ([s737,s738]:List JH) s739 s740 s741 s742 s743)) s744 s745 s746)) _ hv41) (zl rfl) rfl rfl rfl rfl rfl rfl rfl⟩ ?_
         refine ye [88,10,14,50,51,52] ?_
         refine aP ?_
         exact hl725 _ (zi h).symm
        ·have h:=aq hb751 h
         refine au (aP ?_)
         refine ag [0,1,2,3,4,5] (by kernel_rfl) (es':=[(_,_),(_,_),(_,_),(_,_),(_,_),(_,_)]) rfl ?_
         exact hl725 _ (zi h).symm
       ·intro u748 h hl749 hr750
        refine am h (fun hg11_2 h => ?_) (fun hg11_2 h => ?_)
        ·refine yx hn 3 ?_
         refine yd hg11_2 4 ?_
         refine ye [88,10,14,50,51,52,75] ?_
         exact hl749 _ (zi h).symm
        ·obtain ⟨v15,hv15,h⟩:=zn h
         refine yx hn 3 ?_
         refine yd hg11_2 2 ?_
         refine yQ call38 (kx _ _ _ hv15) 14 [72,73] 1 ?_
         refine ye [88,10,14,50,51,52,75] ?_
         exact hl749 _ (zi h).symm
     ·have h:=aq hb678 h
      refine bl (az (az (bm ?_)))
      refine ag [0,1,2] (by kernel_rfl) (es':=[(_,_),(_,_),(_,_)]) rfl ?_
      exact hl673 _ (ho675 _ (zi h).symm).symm
  ·intro u384 h hl385 hr386
   refine am h (fun hg4_2 h => ?_) (fun hg4_2 h => ?_)
   ·refine am h (fun hg4_6 h => ?_) (fun hg4_6 h => ?_)
    ·refine yx hn 3 ?_
     refine yd hg4_2 4 ?_
     refine yd hg4_6 12 ?_
     refine ye [1,2,4,88,5,8,10,41] ?_
     exact hl385 _ (zi h).symm
    ·refine am h (fun hg4_10 h => ?_) (fun hg4_10 h => ?_)
     ·refine yx hn 3 ?_
      refine yd hg4_2 4 ?_
      refine yd hg4_6 4 ?_
      refine yd hg4_10 8 ?_
      refine ye [1,2,4,88,5,8,10,41] ?_
      exact hl385 _ (zi h).symm
     ·refine am h (fun hg4_14 h => ?_) (fun hg4_14 h => ?_)
      ·refine yx hn 3 ?_
       refine yd hg4_2 4 ?_
       refine yd hg4_6 4 ?_
       refine yd hg4_10 4 ?_
       refine yd hg4_14 4 ?_
       refine ye [1,2,4,88,5,8,10,41] ?_
       exact hl385 _ (zi h).symm
      ·obtain ⟨v3,hv3,h⟩:=zn h
       refine yx hn 3 ?_
       refine yd hg4_2 4 ?_
       refine yd hg4_6 4 ?_
       refine yd hg4_10 4 ?_
       refine yd hg4_14 1 ?_
       refine ys 2 ⟨lk call36 (nS _ _ hv3)⟩ ?_
       refine ye [1,2,4,88,5,8,10,41] ?_
       exact hl385 _ (zi h).symm
   ·refine am h (fun hg4_10 h => ?_) (fun hg4_10 h => ?_)
    ·refine yx hn 3 ?_
     refine yd hg4_2 8 ?_
     refine yd hg4_10 8 ?_
     refine ye [1,2,4,88,5,8,10,41] ?_
     exact hl385 _ (zi h).symm
    ·refine am h (fun hg4_14 h => ?_) (fun hg4_14 h => ?_)
     ·refine yx hn 3 ?_
      refine yd hg4_2 8 ?_
      refine yd hg4_10 4 ?_
      refine yd hg4_14 4 ?_
      refine ye [1,2,4,88,5,8,10,41] ?_
      exact hl385 _ (zi h).symm
     ·obtain ⟨v4,hv4,h⟩:=zn h
      refine yx hn 3 ?_
      refine yd hg4_2 8 ?_
      refine yd hg4_10 4 ?_
      refine yd hg4_14 1 ?_
      refine ys 2 ⟨lk call36 (nS _ _ hv4)⟩ ?_
      refine ye [1,2,4,88,5,8,10,41] ?_
      exact hl385 _ (zi h).symm
theorem jB (s:JH) (r:JH) (h:Sh.dG s=some r):bQ Tryz.prog 30 [.v (.string s)] (.v (.string r)):=by
 unfold Sh.dG at h
 refine yO 29 func30 fun g0 hn hio => ?_
 refine aL hn 1 [0] ?_
 refine aL hn 1 [0,3] ?_
 refine ab ?_
 refine aL hn 1 [0,3,4] ?_
 refine nb (fs:=[(0,vs s),(3,.fl (.own 5) 1 (map (int .u8) [])),(4,vi 0)]) (.same _ (.sub _ (bO 5 1) rfl (.same _ .nil))) ?_
 refine aZ h (fun ((s37,s38):(List Int)×Int)=>[(0,vs s),(3,.fl (.own 5) 1 (map (int .u8) s37)),(4,vi s38)]) (fun (s54:(List Int))=>[(3,.fl (.own 5) 1 (map (int .u8) s54))]) ?_ ?_
 ·rintro s54 h
  refine ae (ab ?_)
  obtain ⟨v76,hv76,h⟩:=zn h
  refine yx hn 0 ?_
  refine ym 0 ?_
  refine ys 1 ⟨lS hv76⟩ ?_
  refine ba [2] ?_
  refine ao ?_
  obtain rfl:=zi h
  exact ay hio rfl (.tmp _ _ .nil) rfl rfl
 ·rintro u55 hl56 hr57 ⟨s37,s38⟩ rr60 h ho58
  refine ab ?_
  refine aL hn 4 [0,3,4,9] ?_
  refine al _ rfl (fun hb61 => ?_) (fun hb61 => ?_)
  ·have h:=ar hb61 h
   refine au ?_
   refine ae (ab ?_)
   refine aJ (ab ?_)
   obtain ⟨v2,hv2,h⟩:=zn h
   refine yx hn 2 ?_
   refine ys 1 ⟨lh hv2⟩ ?_
   refine ba [0,3,4,5] ?_
   refine ab ?_
   refine aC h (fun (s67:Int)=>[(0,vs s),(3,.fl (.own 5) 1 (map (int .u8) s37)),(4,vi s38),(5,.v (.int .u8 s67))]) ?_ ?_
   ·rintro s67 h
    refine ae ?_
    obtain ⟨v18,hv18,h⟩:=zn h
    refine yx hn 0 ?_
    refine ym 1 ?_
    refine yS (.fl (.own 5) 1 (map (int .u8) [s67])) 0 ⟨aY _ _ 1 (.int .u8 0) (map (int .u8) [s67]) [(0,.int .u8 s67)] underlying28 jx qD (fun _ V w o a hv hes=>by have e0:=bU hv hes (x := .tmp 24) rfl; simp only [List.map_toArray,List.map_cons,List.map_nil,e0]; try rfl) (cd (by simp [Instr.fill,Value.cells]; rfl) (by simp [List.range,List.range.loop] <;> rfl)) (by simp [Value.oneCell']) rfl (by decide) (by decide) (by decide)⟩ ?_
    refine yp fQ hv18 0 ?_
    refine ya 0 ?_
    refine ye [0,4,3] ?_
    refine aP (ae ?_)
    obtain ⟨v19,hv19,h⟩:=zn h
    refine yx hn 1 ?_
    refine ys 0 ⟨lb hv19⟩ ?_
    refine yw [4] 1 ?_
    refine ye [0,3,4] ?_
    exact bn _ (zi h).symm rfl
   ·intro u68 h hl69 hr70
    refine ab ?_
    refine aC h (fun (s71:Bool)=>[(0,vs s),(3,.fl (.own 5) 1 (map (int .u8) s37)),(4,vi s38),(5,.v (.int .u8 v2)),(20,vb s71)]) ?_ ?_
    ·rintro s71 h
     refine ae ?_
     refine al _ rfl (fun hb75 => ?_) (fun hb75 => ?_)
     ·have h:=ar hb75 h
      obtain ⟨v8,hv8,h⟩:=zn h
      refine yx hn 1 ?_
      refine ys 0 ⟨lb hv8⟩ ?_
      refine yw [5] 1 ?_
      refine ye [0,3,4,5] ?_
      exact hl69 _ (zi h).symm
     ·have h:=aq hb75 h
      refine au ?_
      refine ag [0,1,2,3] (by kernel_rfl) (es':=[(_,_),(_,_),(_,_),(_,_)]) rfl ?_
      exact hl69 _ (zi h).symm
    ·intro u72 h hl73 hr74
     refine am h (fun hg6_2 h => ?_) (fun hg6_2 h => ?_)
     ·refine yx hn 3 ?_
      refine yd hg6_2 3 ?_
      refine ye [0,3,4,5,20] ?_
      exact hl73 _ (zi h).symm
     ·refine yx hn 3 ?_
      refine yd hg6_2 3 ?_
      refine ye [0,3,4,5,20] ?_
      exact hl73 _ (zi h).symm
  ·have h:=aq hb61 h
   refine bl (az (az (bm ?_)))
   refine ag [1] (by kernel_rfl) (es':=[(_,_)]) rfl ?_
   exact hl56 _ (ho58 _ (zi h).symm).symm
end Go.Proofs.YtjnnkhmhjcjhdaaGreatDoor
