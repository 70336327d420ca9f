/-
  The model's runs are what is told in Lean.
-/
import Derived.Test.YtjnnkhmhjcjhdaaGreatDoorProg
import Derived.KernelRfl
import Derived.Test.YtjnnkhmhjcjhdaaGreatDoorShelf
import Derived.Test.YtjnnkhmhjcjhdaaGreatDoorIdx
import Derived.Test.YtjnnkhmhjcjhdaaGreatDoorB3
import Derived.Test.YtjnnkhmhjcjhdaaGreatDoorC1
import Derived.Test.YtjnnkhmhjcjhdaaGreatDoorBC
import Derived.Test.YtjnnkhmhjcjhdaaGreatDoorOkc7
set_option linter.unusedVariables false
set_option linter.unusedSimpArgs false
set_option maxHeartbeats 1000000
namespace Go.Proofs.YtjnnkhmhjcjhdaaGreatDoor
open Go.Abs Go.Abs.Sh Tryz
open List (map flatten)
open Value (int)
theorem sB (s:aa) (c:dA) (r:(Int×aa)) (h:Sh.na s c=some r):un Tryz.prog 118 [.box 80 (aa.b s), .agg [.v (.int .i64 c.Kind), .v (.string c.Text), .v (.bool c.Path.Null), .v (.string c.Path.Local), .v (.string c.Path.Domain), .fl .shr 2 (flatten (map bX.enc c.Params))]] [.box 80 (aa.b r.2)] (.v (.int .i64 r.1)):=by
  unfold Sh.na at h
  refine yP 34 func118 fun args0 hargs0 g0 hn hio => ?_
  refine cF hn 2 [0,3,0] ?_
  refine aM ?_
  refine cA ?_
  refine cF hn 7 [0,3,5,0] ?_
  refine bL _ rfl (fun hb1 => ?_) (fun hb1 => ?_)
  ·have h:=bT hb1 h
   refine cF hn 1 [0,4,0] ?_
   refine bO ?_
   refine bG [1,0,2] (by kernel_rfl) (es':=[(_,_),(_,_),(_,_)]) rfl ?_
   refine cC ?_
   refine bw ?_
   obtain rfl:=zi h
   exact dS (es:=[(4, .v (.int .i64 503))]) (posts:=[.box 80 (aa.b s)]) hio rfl rfl (.tmp _ _ .nil) rfl rfl hargs0 rfl
  ·have h:=bQ hb1 h
   refine cF hn 7 [0,3,12,0] ?_
   refine bL _ rfl (fun hb2 => ?_) (fun hb2 => ?_)
   ·have h:=bT hb2 h
    refine cF hn 1 [0,4,0] ?_
    refine bO ?_
    refine bG [1,0,2] (by kernel_rfl) (es':=[(_,_),(_,_),(_,_)]) rfl ?_
    refine cC ?_
    refine bw ?_
    obtain rfl:=zi h
    exact dS (es:=[(4, .v (.int .i64 530))]) (posts:=[.box 80 (aa.b s)]) hio rfl rfl (.tmp _ _ .nil) rfl rfl hargs0 rfl
   ·have h:=bQ hb2 h
    refine aM ?_
    refine ce h (fun ((s4,s5,s6,s7,s8,s9,s10,s11,s12,s13,s14,s15,s16,s17,s18,s19,s20,s21,s22,s23,s24):Int×ByteArray×Bool×ByteArray×ByteArray×(List bu)×Bool×(List Int)×ByteArray×Bool×ByteArray×ByteArray×Int×ByteArray×ByteArray×Int×Bool×Int×Int×(List cc)×Bool)=>[(0,.box 80 [vi s4,vs s5,vb s6,vs s7,vs s8,.fl (.own 26) 3 (flatten (map bu.enc s9)),vb s10,.mkr 5 (map (int .u8) s11),vs s12,vb s13,vs s14,vs s15,vi s16,vs s17,vs s18,vi s19,vb s20,vi s21,vi s22,.fr (.own 55) false 12 (flatten (map cc.ienc s23))]),(19,vb s24),(0,.v (List.getD args0 0 undef))]) ?_ ?_
    ·rintro ⟨s4, s5, s6, s7, s8, s9, s10, s11, s12, s13, s14, s15, s16, s17, s18, s19, s20, s21, s22, s23, s24⟩ h
     refine bb ?_
     refine bL _ rfl (fun hb28 => ?_) (fun hb28 => ?_)
     ·have h:=bT hb28 h
      refine cF hn 1 [0,4,0] ?_
      refine bO ?_
      refine bG [1,0,2] (by kernel_rfl) (es':=[(_,_),(_,_),(_,_)]) rfl ?_
      refine cC ?_
      refine bw ?_
      obtain rfl:=zi h
      exact dS (es:=[(4, .v (.int .i64 450))]) (posts:=[.box 80 [.v (.int .i64 s4),.v (.string s5),.v (.bool s6),.v (.string s7),.v (.string s8),.fl (.own 26) 3 (flatten (map bu.enc s9)),.v (.bool s10),.mkr 5 (map (int .u8) s11),.v (.string s12),.v (.bool s13),.v (.string s14),.v (.string s15),.v (.int .i64 s16),.v (.string s17),.v (.string s18),.v (.int .i64 s19),.v (.bool s20),.v (.int .i64 s21),.v (.int .i64 s22),.fr (.own 55) false 12 (flatten (map cc.ienc s23))]]) hio rfl rfl (.tmp _ _ .nil) rfl rfl hargs0 rfl
     ·have h:=bQ hb28 h
      refine bU ?_
      refine cG ?_
      refine bb ?_
      refine cF hn 5 [0,0] ?_
      refine cF hn 1 [0,4,0] ?_
      refine bO ?_
      refine bG [1,0,2] (by kernel_rfl) (es':=[(_,_),(_,_),(_,_)]) rfl ?_
      obtain rfl:=zi h
      exact dS (es:=[(4, .v (.int .i64 250))]) (posts:=[.box 80 [.v (.int .i64 6),.v (.string s5),.v (.bool s6),.v (.string s7),.v (.string s8),.fl (.own 26) 3 (flatten (map bu.enc s9)),.v (.bool s10),.mkr 5 (map (int .u8) s11),.v (.string s12),.v (.bool s13),.v (.string s14),.v (.string s15),.v (.int .i64 s16),.v (.string s17),.v (.string s18),.v (.int .i64 s19),.v (.bool s20),.v (.int .i64 s21),.v (.int .i64 s22),.fr (.own 55) false 12 (flatten (map cc.ienc s23))]]) hio rfl rfl (.tmp _ _ .nil) rfl rfl hargs0 rfl
    ·intro u25 h hl26 hr27
     refine bJ h (fun hg5_3 h => ?_) (fun hg5_3 h => ?_)
     ·obtain ⟨v3, hv3, h⟩:=zn h
      refine yx hn 4 ?_
      refine yd hg5_3 3 ?_
      refine yQ call141 (mj _ _ _ hv3) 0 [24,26] 3 ?_
      refine ye [0,19,0] ?_
      exact hl26 _ (zi h).symm
     ·refine yx hn 4 ?_
      refine yd hg5_3 7 ?_
      refine ye [0,19,0] ?_
      exact hl26 _ (zi h).symm
theorem qy (mx:Int×Nat×Value) (s:aa) (c:dA) (r:aa) (h:Sh.eI s c=some r):rW Tryz.prog (GL mx) 92 [.box 80 (aa.b s), .agg [.v (.int .i64 c.Kind), .v (.string c.Text), .v (.bool c.Path.Null), .v (.string c.Path.Local), .v (.string c.Path.Domain), .fl .shr 2 (flatten (map bX.enc c.Params))]] [.box 80 (aa.b r)] (.tup []):=by
  unfold Sh.eI at h
  refine JO 94 func92 fun args0 hargs0 g0 hn hio => ?_
  refine cF hn 1 [0,94,3,0] ?_
  refine cF hn 2 [0,94,3,5,0] ?_
  refine ce h (fun ((s37,s38,s39,s40,s41,s42,s43,s44,s45,s46,s47,s48,s49,s50,s51,s52,s53,s54,s55,s56):aa.t)=>[(0,.box 80 [vi s37,vs s38,vb s39,vs s40,vs s41,.fl (.own 26) 3 (flatten (map bu.enc s42)),vb s43,.mkr 5 (map (int .u8) s44),vs s45,vb s46,vs s47,vs s48,vi s49,vs s50,vs s51,vi s52,vb s53,vi s54,vi s55,.fr (.own 55) false 12 (flatten (map cc.ienc s56))]),(94,.glob (GL mx)),(0,.v (List.getD args0 0 undef))]) ?_ ?_
  ·rintro ⟨s37, s38, s39, s40, s41, s42, s43, s44, s45, s46, s47, s48, s49, s50, s51, s52, s53, s54, s55, s56⟩ h
   refine bG [0,2] (by kernel_rfl) (es':=[(_,_),(_,_)]) rfl ?_
   obtain rfl:=zi h
   exact pQ (es:=[]) (posts:=[.box 80 [.v (.int .i64 s37),.v (.string s38),.v (.bool s39),.v (.string s40),.v (.string s41),.fl (.own 26) 3 (flatten (map bu.enc s42)),.v (.bool s43),.mkr 5 (map (int .u8) s44),.v (.string s45),.v (.bool s46),.v (.string s47),.v (.string s48),.v (.int .i64 s49),.v (.string s50),.v (.string s51),.v (.int .i64 s52),.v (.bool s53),.v (.int .i64 s54),.v (.int .i64 s55),.fr (.own 55) false 12 (flatten (map cc.ienc s56))]]) hio rfl rfl .nil rfl rfl hargs0 rfl
  ·intro u57 h hl58 hr59
   refine cA ?_
   refine cF hn 2 [0,94,3,5,6,0] ?_
   refine bL _ rfl (fun hb60 => ?_) (fun hb60 => ?_)
   ·have h:=bT hb60 h
    refine aM ?_
    refine wb [[],[],[3],[10,3],[8,0],[12,0],[13,0]] ?_
    refine wK [0] [14] ?_
    refine wt [(0,.box 80 (vi 1::vs s.Gate.Helo::vb s.Gate.From.Null::vs s.Gate.From.Local::vs s.Gate.From.Domain::.fl (.own 26) 3 (flatten (map bu.enc s.Gate.To))::vb s.Gate.Quiet::.mkr 5 (map (int .u8) s.Gate.Buf)::vs s.Gate.Challenge::vb s.Gate.Proved::co.c s.config [vi s.site,vi s.at_,.fr (.own 55) false 12 (flatten (map cc.ienc s.out))]))] [[9,0],[15,0],[16,0]] ⟨iJ _ _ _ _ _ _ _ _ MC rfl rfl rfl rfl (zl rfl) rfl rfl⟩ ?_
    refine wK [0] [17,11] ?_
    refine wt [(0,.box 80 (vi 1::vs c.Text::vb s.Gate.From.Null::vs s.Gate.From.Local::vs s.Gate.From.Domain::.fl (.own 26) 3 (flatten (map bu.enc s.Gate.To))::vb s.Gate.Quiet::.mkr 5 (map (int .u8) s.Gate.Buf)::vs s.Gate.Challenge::vb s.Gate.Proved::co.c s.config [vi s.site,vi s.at_,.fr (.own 55) false 12 (flatten (map cc.ienc s.out))]))] [] ⟨iJ _ _ _ _ _ _ _ _ Am rfl rfl rfl rfl (zl rfl) rfl rfl⟩ ?_
    refine Af hn [0,94,0] ?_
    refine aM ?_
    obtain ⟨v2, hv2, h⟩:=zn h
    refine yx hn 1 ?_
    refine yQ call88 (jN _ _ hv2) 0 [18] 0 ?_
    refine dv [0,94,0] ?_
    obtain ⟨v3, hv3, h⟩:=zn h
    refine yx hn 1 ?_
    refine yQ call76 (dn _ _ _ hv3) 0 [20] 0 ?_
    refine ye [0,94,0] ?_
    refine cG ?_
    exact hl58 _ (zi h).symm
   ·have h:=bQ hb60 h
    refine cF hn 2 [0,94,3,5,22,0] ?_
    refine bL _ rfl (fun hb61 => ?_) (fun hb61 => ?_)
    ·have h:=bT hb61 h
     refine aM ?_
     refine ce h (fun (s63:Int)=>[(0,.box 80 (vi s63::vs s.Gate.Helo::vb s.Gate.From.Null::vs s.Gate.From.Local::vs s.Gate.From.Domain::.fl (.own 26) 3 (flatten (map bu.enc s.Gate.To))::vb s.Gate.Quiet::.mkr 5 (map (int .u8) s.Gate.Buf)::vs s.Gate.Challenge::vb s.Gate.Proved::co.c s.config [vi s.site,vi s.at_,.fr (.own 55) false 12 (flatten (map cc.ienc s.out))])),(94,.glob (GL mx)),(0,.v (List.getD args0 0 undef))]) ?_ ?_
     ·rintro s63 h
      refine bb (aM ?_)
      obtain ⟨v11, hv11, h⟩:=zn h
      refine yx hn 1 ?_
      refine yQ call88 (jN _ _ hv11) 0 [34] 0 ?_
      refine dv [0,94,0] ?_
      obtain ⟨v12, hv12, h⟩:=zn h
      refine yx hn 1 ?_
      refine yQ call76 (dn _ _ _ hv12) 0 [36] 0 ?_
      refine ye [0,94,0] ?_
      refine cG ?_
      exact hl58 _ (zi h).symm
     ·intro u64 h hl65 hr66
      refine cF hn 6 [0,94,29,0] ?_
      refine bL _ rfl (fun hb67 => ?_) (fun hb67 => ?_)
      ·have h:=bT hb67 h
       refine yy hn 5 [0,94,0] ?_
       exact hl65 _ (zi h).symm
      ·have h:=bQ hb67 h
       refine bU ?_
       refine bG [0,1,3] (by kernel_rfl) (es':=[(_,_),(_,_),(_,_)]) rfl ?_
       exact hl65 _ (zi h).symm
    ·have h:=bQ hb61 h
     refine cF hn 2 [0,94,3,5,38,0] ?_
     refine bL _ rfl (fun hb68 => ?_) (fun hb68 => ?_)
     ·have h:=bT hb68 h
      obtain ⟨v14, hv14, h⟩:=zn h
      refine yx hn 1 ?_
      refine yQ call76 (dn _ _ _ hv14) 0 [40] 0 ?_
      refine ye [0,94,0] ?_
      refine cG ?_
      exact hl58 _ (zi h).symm
     ·have h:=bQ hb68 h
      refine cF hn 2 [0,94,3,5,42,0] ?_
      refine bL _ rfl (fun hb69 => ?_) (fun hb69 => ?_)
      ·have h:=bT hb69 h
       obtain ⟨v16, hv16, h⟩:=zn h
       refine yx hn 1 ?_
       refine yQ call76 (dn _ _ _ hv16) 0 [44] 0 ?_
       refine ye [0,94,0] ?_
       refine cG ?_
       exact hl58 _ (zi h).symm
      ·have h:=bQ hb69 h
       refine cF hn 2 [0,94,3,5,46,0] ?_
       refine bL _ rfl (fun hb70 => ?_) (fun hb70 => ?_)
       ·have h:=bT hb70 h
        refine cF hn 5 [0,94,0] ?_
        obtain ⟨v18, hv18, h⟩:=zn h
        refine yx hn 1 ?_
        refine yQ call76 (dn _ _ _ hv18) 0 [52] 0 ?_
        refine ye [0,94,0] ?_
        refine cG ?_
        exact hl58 _ (zi h).symm
       ·have h:=bQ hb70 h
        refine cF hn 2 [0,94,3,5,54,0] ?_
        refine bL _ rfl (fun hb71 => ?_) (fun hb71 => ?_)
        ·have h:=bT hb71 h
         obtain ⟨v20, hv20, h⟩:=zn h
         obtain ⟨v21, hv21, h⟩:=zn h
         refine yx hn 3 ?_
         refine yk [0] [57,58,94] ?_
         refine tg (0,.box 80 (aa.b v20.2)) (59,vi v20.1) 0 ⟨js _ _ _ _ 59 94 112 [.tmp 57] [.tmp 58] _ _ _ rfl call112 rfl rfl rfl rfl (fun _ h=>h) (sh mx ((aa.r s)) ((dA.mk c.Kind c.Text (bu.mk c.Path.Null c.Path.Local c.Path.Domain) c.Params)) _ hv20) (zl rfl) rfl rfl rfl rfl rfl rfl rfl⟩ ?_
         refine yQ call76 (dn _ _ _ hv21) 0 [56,59] 0 ?_
         refine ye [0,94,0] ?_
         refine cG ?_
         exact hl58 _ (zi h).symm
        ·have h:=bQ hb71 h
         refine cF hn 2 [0,94,3,5,61,0] ?_
         refine bL _ rfl (fun hb72 => ?_) (fun hb72 => ?_)
         ·have h:=bT hb72 h
          obtain ⟨v23, hv23, h⟩:=zn h
          obtain ⟨v24, hv24, h⟩:=zn h
          refine yx hn 3 ?_
          refine yk [0] [64,65,94] ?_
          refine tg (0,.box 80 (aa.b v23.2)) (66,vi v23.1) 0 ⟨js _ _ _ _ 66 94 113 [.tmp 64] [.tmp 65] _ _ _ rfl call113 rfl rfl rfl rfl (fun _ h=>h) (sR mx ((aa.r s)) ((dA.mk c.Kind c.Text (bu.mk c.Path.Null c.Path.Local c.Path.Domain) c.Params)) _ hv23) (zl rfl) rfl rfl rfl rfl rfl rfl rfl⟩ ?_
          refine yQ call76 (dn _ _ _ hv24) 0 [63,66] 0 ?_
          refine ye [0,94,0] ?_
          refine cG ?_
          exact hl58 _ (zi h).symm
         ·have h:=bQ hb72 h
          refine cF hn 2 [0,94,3,5,68,0] ?_
          refine bL _ rfl (fun hb73 => ?_) (fun hb73 => ?_)
          ·have h:=bT hb73 h
           obtain ⟨v26, hv26, h⟩:=zn h
           obtain ⟨v27, hv27, h⟩:=zn h
           refine yx hn 2 ?_
           refine yQ call114 (rI _ _ hv26) 0 [71] 0 ?_
           refine yQ call76 (dn _ _ _ hv27) 0 [70,72] 0 ?_
           refine ye [0,94,0] ?_
           refine cG ?_
           exact hl58 _ (zi h).symm
          ·have h:=bQ hb73 h
           refine cF hn 2 [0,94,3,5,74,0] ?_
           refine bL _ rfl (fun hb74 => ?_) (fun hb74 => ?_)
           ·have h:=bT hb74 h
            obtain ⟨v29, hv29, h⟩:=zn h
            obtain ⟨v30, hv30, h⟩:=zn h
            refine yx hn 3 ?_
            refine yQ call116 (sw _ _ _ hv29) 0 [77,78] 0 ?_
            refine yQ call115 (me _ _ _ hv30) 0 [76,79] 0 ?_
            refine ye [0,94,0] ?_
            refine cG ?_
            exact hl58 _ (zi h).symm
           ·have h:=bQ hb74 h
            refine cF hn 2 [0,94,3,5,81,0] ?_
            refine bL _ rfl (fun hb75 => ?_) (fun hb75 => ?_)
            ·have h:=bT hb75 h
             obtain ⟨v32, hv32, h⟩:=zn h
             obtain ⟨v33, hv33, h⟩:=zn h
             refine yx hn 2 ?_
             refine yQ call117 (sH _ _ hv32) 0 [84] 0 ?_
             refine yQ call76 (dn _ _ _ hv33) 0 [83,85] 0 ?_
             refine ye [0,94,0] ?_
             refine cG ?_
             exact hl58 _ (zi h).symm
            ·have h:=bQ hb75 h
             refine cF hn 2 [0,94,3,87,0] ?_
             refine bL _ rfl (fun hb76 => ?_) (fun hb76 => ?_)
             ·have h:=bT hb76 h
              obtain ⟨v35, hv35, h⟩:=zn h
              obtain ⟨v36, hv36, h⟩:=zn h
              refine yx hn 3 ?_
              refine yQ call118 (sB _ _ _ hv35) 0 [90,91] 0 ?_
              refine yQ call115 (me _ _ _ hv36) 0 [89,92] 0 ?_
              refine ye [0,94,0] ?_
              refine cG ?_
              exact hl58 _ (zi h).symm
             ·have h:=bQ hb76 h
              refine bU ?_
              refine cG ?_
              refine bG [0,1,4] (by kernel_rfl) (es':=[(_,_),(_,_),(_,_)]) rfl ?_
              exact hl58 _ (zi h).symm
theorem sN (mx:Int×Nat×Value) (s:aa) (line:ByteArray) (r:aa) (h:Sh.dz s line=some r):rW Tryz.prog (GL mx) 75 [.box 80 (aa.b s), .v (.string line)] [.box 80 (aa.b r)] (.tup []):=by
  unfold Sh.dz at h
  refine JO 31 func75 fun args0 hargs0 g0 hn hio => ?_
  refine cF hn 5 [0,1,31,10,0] ?_
  refine ce h (fun ((s8,s9,s10,s11,s12,s13,s14,s15,s16,s17,s18,s19,s20,s21,s22,s23,s24,s25,s26,s27):aa.t)=>[(0,.box 80 [vi s8,vs s9,vb s10,vs s11,vs s12,.fl (.own 26) 3 (flatten (map bu.enc s13)),vb s14,.mkr 5 (map (int .u8) s15),vs s16,vb s17,vs s18,vs s19,vi s20,vs s21,vs s22,vi s23,vb s24,vi s25,vi s26,.fr (.own 55) false 12 (flatten (map cc.ienc s27))]),(31,.glob (GL mx)),(0,.v (List.getD args0 0 undef))]) ?_ ?_
  ·rintro ⟨s8, s9, s10, s11, s12, s13, s14, s15, s16, s17, s18, s19, s20, s21, s22, s23, s24, s25, s26, s27⟩ h
   refine bG [0,2] (by kernel_rfl) (es':=[(_,_),(_,_)]) rfl ?_
   obtain rfl:=zi h
   exact pQ (es:=[]) (posts:=[.box 80 [.v (.int .i64 s8),.v (.string s9),.v (.bool s10),.v (.string s11),.v (.string s12),.fl (.own 26) 3 (flatten (map bu.enc s13)),.v (.bool s14),.mkr 5 (map (int .u8) s15),.v (.string s16),.v (.bool s17),.v (.string s18),.v (.string s19),.v (.int .i64 s20),.v (.string s21),.v (.string s22),.v (.int .i64 s23),.v (.bool s24),.v (.int .i64 s25),.v (.int .i64 s26),.fr (.own 55) false 12 (flatten (map cc.ienc s27))]]) hio rfl rfl .nil rfl rfl hargs0 rfl
  ·intro u28 h hl29 hr30
   refine cA ?_
   refine cF hn 2 [0,1,31,10,24,0] ?_
   refine bL _ rfl (fun hb31 => ?_) (fun hb31 => ?_)
   ·have h:=bT hb31 h
    refine bU ?_
    refine cG ?_
    refine bG [0,2,5] (by kernel_rfl) (es':=[(_,_),(_,_),(_,_)]) rfl ?_
    exact hl29 _ (zi h).symm
   ·have h:=bQ hb31 h
    refine cF hn 2 [0,1,31,26,0] ?_
    refine bL _ rfl (fun hb32 => ?_) (fun hb32 => ?_)
    ·have h:=bT hb32 h
     obtain ⟨v3, hv3, h⟩:=zn h
     refine yx hn 2 ?_
     refine yk [0] [28,29,31] ?_
     refine tg (0,.box 80 (aa.b v3)) (30,.tup []) 0 ⟨js _ _ _ _ 30 31 90 [.tmp 28] [.tmp 29] _ _ _ rfl call90 rfl rfl rfl rfl (fun _ h=>h) (rG mx ((aa.r s)) line _ hv3) (zl rfl) rfl rfl rfl rfl rfl rfl rfl⟩ ?_
     refine ye [0,31,0] ?_
     refine cG ?_
     exact hl29 _ (zi h).symm
    ·have h:=bQ hb32 h
     refine aM ?_
     obtain ⟨v4, hv4, h⟩:=zn h
     refine yx hn 1 ?_
     refine ys 0 ⟨lg call91 (Ar _ _ _ hv4) 31⟩ ?_
     refine ym 0 ?_
     refine yS (.agg [vi v4.1.Kind,vs v4.1.Text,vb v4.1.Path.Null,vs v4.1.Path.Local,vs v4.1.Path.Domain,.fl .ro 2 (flatten (map bX.enc v4.1.Params))]) 1 ⟨jM _ _ _ _ _ _ rfl rfl (zl rfl) rfl rfl⟩ ?_
     refine yS (.box 122 [vi 0,vs z0,vb false,vs z0,vs z0,vz]) 2 ⟨oA (dh _ _ qH)⟩ ?_
     refine dv [0,31,4,5,0] ?_
     refine aM ?_
     refine cF hn 2 [0,31,4,5,17,0] ?_
     refine bL _ rfl (fun hb33 => ?_) (fun hb33 => ?_)
     ·have h:=bT hb33 h
      refine aM ?_
      obtain ⟨v6, hv6, h⟩:=zn h
      refine yx hn 2 ?_
      refine yQ call76 (dn _ _ _ hv6) 0 [18,19] 0 ?_
      refine dv [0,31,0] ?_
      refine bO ?_
      refine bG [0,2] (by kernel_rfl) (es':=[(_,_),(_,_)]) rfl ?_
      refine bw ?_
      refine cC ?_
      have h:=hr30 _ (zi h).symm
      obtain rfl:=zi h
      exact dS (es:=[]) (posts:=[.box 80 (aa.b v6)]) hio rfl rfl .nil rfl rfl hargs0 rfl
     ·have h:=bQ hb33 h
      refine bU ?_
      refine bb ?_
      obtain ⟨v7, hv7, h⟩:=zn h
      refine yx hn 2 ?_
      refine yk [0] [21,22,31] ?_
      refine tg (0,.box 80 (aa.b v7)) (23,.tup []) 0 ⟨js _ _ _ _ 23 31 92 [.tmp 21] [.tmp 22] _ _ _ rfl call92 rfl rfl rfl rfl (fun _ h=>h) (qy mx ((aa.r s)) ((dA.mk v4.1.Kind v4.1.Text (bu.mk v4.1.Path.Null v4.1.Path.Local v4.1.Path.Domain) v4.1.Params)) _ hv7) (zl rfl) rfl rfl rfl rfl rfl rfl rfl⟩ ?_
      refine ye [0,31,0] ?_
      refine cG ?_
      exact hl29 _ (zi h).symm
theorem sl (mx:Int×Nat×Value) (s:aa) (r:(Bool×aa)) (h:Sh.dE s=some r):rW Tryz.prog (GL mx) 62 [.box 80 (aa.b s)] [.box 80 (aa.b r.2)] (.v (.bool r.1)):=by
  unfold Sh.dE at h
  refine JO 55 func62 fun args0 hargs0 g0 hn hio => ?_
  refine cF hn 1 [0,55,0] ?_
  refine aM ?_
  refine cF hn 6 [0,55,11,0] ?_
  refine bL _ rfl (fun hb1 => ?_) (fun hb1 => ?_)
  ·have h:=bT hb1 h
   refine aM ?_
   obtain ⟨v2, hv2, h⟩:=zn h
   refine yx hn 1 ?_
   refine yk [0] [12,55] ?_
   refine tg (0,.box 80 (aa.b v2.2)) (13,vb v2.1) 1 ⟨js _ _ _ _ 13 55 73 [.tmp 12] [] _ _ _ rfl call73 rfl rfl rfl rfl (fun _ h=>h) (rQ mx ((aa.r s)) _ hv2) (zl rfl) rfl rfl rfl rfl rfl rfl rfl⟩ ?_
   refine dv [0,55,2,0] ?_
   refine bO ?_
   refine bG [2,0,3] (by kernel_rfl) (es':=[(_,_),(_,_),(_,_)]) rfl ?_
   refine bw ?_
   obtain rfl:=zi h
   exact dS (es:=[(2, .v (.bool v2.1))]) (posts:=[.box 80 (aa.b v2.2)]) hio rfl rfl (.tmp _ _ .nil) rfl rfl hargs0 rfl
  ·have h:=bQ hb1 h
   refine bU ?_
   refine bb (aM ?_)
   obtain ⟨v3, hv3, h⟩:=zn h
   refine yx hn 5 ?_
   refine yS (.fl (.own 5) 1 (map (int .u8) [13,10])) 0 ⟨dJ _ _ 1 (.int .u8 0) (map (int .u8) [13,10]) [(0,.int .u8 13),(1,.int .u8 10)] underlying28 qp zS (fun _ V w o a hv hes=>by simp only [List.map_toArray,List.map_cons,List.map_nil]; try rfl) (fT (by simp [Instr.fill,Value.cells]; rfl) (by simp [List.range,List.range.loop] <;> rfl)) (by simp [Value.oneCell']) rfl (by decide) (by decide) (by decide)⟩ ?_
   refine yk [20] [] ?_
   refine yt (21,.fl .ro 1 (map (int .u8) [13,10])) 0 ⟨jq _ _ _ underlying28 underlying5 (by intro h; cases h)⟩ ?_
   refine yX (e:=5) 22 64 0 7 s.Gate.Buf [13, 10] (fun ca22 cc22=>[.v (.int .i64 s.Gate.Phase), .v (.string s.Gate.Helo), .v (.bool s.Gate.From.Null), .v (.string s.Gate.From.Local), .v (.string s.Gate.From.Domain), .fl (.own 26) 3 (flatten (map bu.enc s.Gate.To)), .v (.bool s.Gate.Quiet), .v (.slice ca22 (s.Gate.Buf.length) cc22), .v (.string s.Gate.Challenge), .v (.bool s.Gate.Proved), .v (.string ((s.config.Domains.getD 0 (⟨#[]⟩:ByteArray)))), .v (.string ((s.config.Domains.getD 1 (⟨#[]⟩:ByteArray)))), .v (.int .i64 s.config.Expiry), .v (.string s.config.User), .v (.string s.config.Secret), .v (.int .i64 s.config.Log), .v (.bool s.config.Held), .v (.int .i64 s.site), .v (.int .i64 s.at_), .fr (.own 55) false 12 (flatten (map cc.ienc s.out))]) ?_ (fun ca22 cc22 => ?_)
   ·exact Mu _ 22 0 64 7 (gln:=55) _ _ rfl call74 JR rfl (CI mx) rfl rfl rfl (zl rfl) rfl (xz hv3).1 (xz hv3).2.1 (xz hv3).2.2.1 (xz hv3).2.2.2 (Nat.ne_of_beq_eq_false rfl) rfl
   refine yw [] 0 ?_
   refine ym 6 ?_
   refine dv [0,55,64,3,4,5,0] ?_
   refine aM ?_
   refine cF hn 1 [0,55,64,3,4,26,0] ?_
   refine bL _ rfl (fun hb4 => ?_) (fun hb4 => ?_)
   ·have h:=bT hb4 h
    refine cF hn 6 [0,55,64,3,0] ?_
    refine aM ?_
    obtain ⟨v5, hv5, h⟩:=zn h
    obtain ⟨v6, hv6, h⟩:=zn h
    refine yx hn 2 ?_
    refine yS (vs v5) 0 ⟨lP 64 hv5 underlying28 underlying9 underlying5 rfl rfl (MG _ _) rfl⟩ ?_
    refine Ef (gs:=64) (t:=0) (cs':=[.v (.int .i64 s.Gate.Phase), .v (.string s.Gate.Helo), .v (.bool s.Gate.From.Null), .v (.string s.Gate.From.Local), .v (.string s.Gate.From.Domain), .fl (.own 26) 3 (flatten (map bu.enc s.Gate.To)), .v (.bool s.Gate.Quiet), .mkr 5 (map (int .u8) (HK s.Gate.Buf [13, 10])), .v (.string s.Gate.Challenge), .v (.bool s.Gate.Proved), .v (.string ((s.config.Domains.getD 0 (⟨#[]⟩:ByteArray)))), .v (.string ((s.config.Domains.getD 1 (⟨#[]⟩:ByteArray)))), .v (.int .i64 s.config.Expiry), .v (.string s.config.User), .v (.string s.config.Secret), .v (.int .i64 s.config.Log), .v (.bool s.config.Held), .v (.int .i64 s.site), .v (.int .i64 s.at_), .fr (.own 55) false 12 (flatten (map cc.ienc s.out))]) 7 (map (int .u8) (HK s.Gate.Buf [13, 10])) (zl rfl) rfl (fun _ h=>JQ (by assumption) h) (fun _=>GG) (KF _ _ _ _ _ _ _) rfl ?_
    refine yw [] 0 ?_
    refine yk [0] [32,34,55] ?_
    refine tg (0,.box 80 (aa.b v6)) (35,.tup []) 0 ⟨js _ _ _ _ 35 55 75 [.tmp 32] [.tmp 34] _ _ _ rfl call75 rfl rfl rfl rfl (fun _ h=>h) (sN mx ((aa.mk ((cq.mk s.Gate.Phase s.Gate.Helo (bu.mk s.Gate.From.Null s.Gate.From.Local s.Gate.From.Domain) s.Gate.To s.Gate.Quiet (HK s.Gate.Buf [13,10]) s.Gate.Challenge s.Gate.Proved)) ((co.mk (([(s.config.Domains.getD 0 z0),(s.config.Domains.getD 1 z0)]:List ByteArray)) s.config.Expiry s.config.User s.config.Secret s.config.Log s.config.Held)) s.site s.at_ s.out)) v5 _ hv6) (zl rfl) rfl rfl rfl rfl rfl rfl rfl⟩ ?_
    refine dv [0,55,0] ?_
    refine cF hn 1 [0,55,2,0] ?_
    refine bO ?_
    refine bG [2,0,3] (by kernel_rfl) (es':=[(_,_),(_,_),(_,_)]) rfl ?_
    refine bw ?_
    obtain rfl:=zi h
    exact dS (es:=[(2, .v (.bool true))]) (posts:=[.box 80 (aa.b v6)]) hio rfl rfl (.tmp _ _ .nil) rfl rfl hargs0 rfl
   ·have h:=bQ hb4 h
    refine bU ?_
    refine bb (aM ?_)
    refine lp hn 0 ?_
    refine Ef (gs:=64) (t:=0) (cs':=(aa.b s)) 7 (map (int .u8) s.Gate.Buf) (zl rfl) rfl (fun _ h=>h) (fun _=>GG) (.inr rfl) rfl ?_
    refine yw [] 5 ?_
    refine yS (vi (s.Gate.Buf.length:Int)) 1 ⟨sV _ _ _ underlying28 rfl (List.length_map _)⟩ ?_
    refine dv [0,55,42,0] ?_
    refine bL _ rfl (fun hb7 => ?_) (fun hb7 => ?_)
    ·have h:=bT hb7 h
     refine cF hn 1 [0,55,2,0] ?_
     refine bO ?_
     refine bG [2,0,3] (by kernel_rfl) (es':=[(_,_),(_,_),(_,_)]) rfl ?_
     refine bw ?_
     obtain rfl:=zi h
     exact dS (es:=[(2, .v (.bool false))]) (posts:=[.box 80 (aa.b s)]) hio rfl rfl (.tmp _ _ .nil) rfl rfl hargs0 rfl
    ·have h:=bQ hb7 h
     refine bU ?_
     refine bb ?_
     refine cF hn 5 [0,55,0] ?_
     refine aM ?_
     refine ce h (fun ((s10,s11,s12,s13,s14,s15,s16,s17,s18,s19,s20,s21,s22,s23,s24,s25,s26,s27,s28,s29):aa.t)=>[(0,.box 80 [vi s10,vs s11,vb s12,vs s13,vs s14,.fl (.own 26) 3 (flatten (map bu.enc s15)),vb s16,.mkr 5 (map (int .u8) s17),vs s18,vb s19,vs s20,vs s21,vi s22,vs s23,vs s24,vi s25,vb s26,vi s27,vi s28,.fr (.own 55) false 12 (flatten (map cc.ienc s29))]),(55,.glob (GL mx)),(0,.v (List.getD args0 0 undef))]) ?_ ?_
     ·rintro ⟨s10, s11, s12, s13, s14, s15, s16, s17, s18, s19, s20, s21, s22, s23, s24, s25, s26, s27, s28, s29⟩ h
      refine bb ?_
      refine cF hn 1 [0,55,2,0] ?_
      refine bO ?_
      refine bG [2,0,3] (by kernel_rfl) (es':=[(_,_),(_,_),(_,_)]) rfl ?_
      obtain rfl:=zi h
      exact dS (es:=[(2, .v (.bool true))]) (posts:=[.box 80 [.v (.int .i64 s10),.v (.string s11),.v (.bool s12),.v (.string s13),.v (.string s14),.fl (.own 26) 3 (flatten (map bu.enc s15)),.v (.bool s16),.mkr 5 (map (int .u8) s17),.v (.string s18),.v (.bool s19),.v (.string s20),.v (.string s21),.v (.int .i64 s22),.v (.string s23),.v (.string s24),.v (.int .i64 s25),.v (.bool s26),.v (.int .i64 s27),.v (.int .i64 s28),.fr (.own 55) false 12 (flatten (map cc.ienc s29))]]) hio rfl rfl (.tmp _ _ .nil) rfl rfl hargs0 rfl
     ·intro u30 h hl31 hr32
      refine cF hn 6 [0,55,52,0] ?_
      refine bL _ rfl (fun hb33 => ?_) (fun hb33 => ?_)
      ·have h:=bT hb33 h
       obtain ⟨v9, hv9, h⟩:=zn h
       refine yx hn 1 ?_
       refine yk [0] [53] ?_
       refine tg (0,.box 80 (aa.b v9)) (54,.tup []) 0 ⟨xP _ _ _ _ 54 76 [.tmp 53] [_] _ _ _ rfl call76 rfl rfl rfl ((dn ((aa.mk ((cq.mk s.Gate.Phase s.Gate.Helo (bu.mk s.Gate.From.Null s.Gate.From.Local s.Gate.From.Domain) s.Gate.To s.Gate.Quiet [] s.Gate.Challenge s.Gate.Proved)) ((co.mk (([(s.config.Domains.getD 0 z0),(s.config.Domains.getD 1 z0)]:List ByteArray)) s.config.Expiry s.config.User s.config.Secret s.config.Log s.config.Held)) s.site s.at_ s.out)) 500 _ hv9).args (bq (Gz (bq (bI _) (bq (bI _) (bq (bI _) (bq (bI _) (bq (bI _) (bq (bI _) (bq (bI _) (bq (kv 5) (bq (bI _) (bq (bI _) (bq (bI _) (bq (bI _) (bq (bI _) (bq (bI _) (bq (bI _) (bq (bI _) (bq (bI _) (bq (bI _) (bq (bI _) (bq (bI _) (dO)))))))))))))))))))))) (bq (bI _) (dO)))) (zl rfl) rfl rfl rfl rfl rfl rfl rfl rfl⟩ ?_
       refine ye [0,55,0] ?_
       exact hl31 _ (zi h).symm
      ·have h:=bQ hb33 h
       refine bU ?_
       refine bG [0,1,3] (by kernel_rfl) (es':=[(_,_),(_,_),(_,_)]) rfl ?_
       refine fe (fs:=[(0,.box 80 (vi s.Gate.Phase::vs s.Gate.Helo::vb s.Gate.From.Null::vs s.Gate.From.Local::vs s.Gate.From.Domain::.fl (.own 26) 3 (flatten (map bu.enc s.Gate.To))::vb s.Gate.Quiet::.mkr 5 (map (int .u8) [])::vs s.Gate.Challenge::vb s.Gate.Proved::co.c s.config [vi s.site,vi s.at_,.fr (.own 55) false 12 (flatten (map cc.ienc s.out))])),(55,.glob (GL mx)),(0,.v (List.getD args0 0 undef))]) (.box _ _ (bq (bI _) (bq (bI _) (bq (bI _) (bq (bI _) (bq (bI _) (bq (bI _) (bq (bI _) (bq (kv 5) (bq (bI _) (bq (bI _) (bq (bI _) (bq (bI _) (bq (bI _) (bq (bI _) (bq (bI _) (bq (bI _) (bq (bI _) (bq (bI _) (bq (bI _) (bq (bI _) (dO))))))))))))))))))))) rfl (.same _ (.same _ .nil))) ?_
       exact hl31 _ (zi h).symm
theorem tn (mx:Int×Nat×Value) (s:aa) (r:aa) (h:Sh.eR s=some r):rW Tryz.prog (GL mx) 39 [.box 80 (aa.b s)] [.box 80 (aa.b r)] (.tup []):=by
  unfold Sh.eR at h
  refine JO 4 func39 fun args0 hargs0 g0 hn hio => ?_
  refine dx h (fun ((s24,s25,s26,s27,s28,s29,s30,s31,s32,s33,s34,s35,s36,s37,s38,s39,s40,s41,s42,s43):aa.t)=>[(0,.box 80 [vi s24,vs s25,vb s26,vs s27,vs s28,.fl (.own 26) 3 (flatten (map bu.enc s29)),vb s30,.mkr 5 (map (int .u8) s31),vs s32,vb s33,vs s34,vs s35,vi s36,vs s37,vs s38,vi s39,vb s40,vi s41,vi s42,.fr (.own 55) false 12 (flatten (map cc.ienc s43))]),(0,.v (List.getD args0 0 undef)),(4,.glob (GL mx))]) (fun ((s45,s46,s47,s48,s49,s50,s51,s52,s53,s54,s55,s56,s57,s58,s59,s60,s61,s62,s63,s64):aa.t)=>[(0,.box 80 [vi s45,vs s46,vb s47,vs s48,vs s49,.fl (.own 26) 3 (flatten (map bu.enc s50)),vb s51,.mkr 5 (map (int .u8) s52),vs s53,vb s54,vs s55,vs s56,vi s57,vs s58,vs s59,vi s60,vb s61,vi s62,vi s63,.fr (.own 55) false 12 (flatten (map cc.ienc s64))]),(4,.glob (GL mx)),(0,.v (List.getD args0 0 undef))]) ?_ ?_
  ·rintro ⟨s45, s46, s47, s48, s49, s50, s51, s52, s53, s54, s55, s56, s57, s58, s59, s60, s61, s62, s63, s64⟩ h
   refine bG [0,2] (by kernel_rfl) (es':=[(_,_),(_,_)]) rfl ?_
   obtain rfl:=zi h
   exact pQ (es:=[]) (posts:=[.box 80 [.v (.int .i64 s45),.v (.string s46),.v (.bool s47),.v (.string s48),.v (.string s49),.fl (.own 26) 3 (flatten (map bu.enc s50)),.v (.bool s51),.mkr 5 (map (int .u8) s52),.v (.string s53),.v (.bool s54),.v (.string s55),.v (.string s56),.v (.int .i64 s57),.v (.string s58),.v (.string s59),.v (.int .i64 s60),.v (.bool s61),.v (.int .i64 s62),.v (.int .i64 s63),.fr (.own 55) false 12 (flatten (map cc.ienc s64))]]) hio rfl rfl .nil rfl rfl hargs0 rfl
  ·rintro u65 hl66 hr67 ⟨s24, s25, s26, s27, s28, s29, s30, s31, s32, s33, s34, s35, s36, s37, s38, s39, s40, s41, s42, s43⟩ rr70 h ho68
   refine aM ?_
   refine aM ?_
   obtain ⟨v1, hv1, h⟩:=zn h
   refine yx hn 1 ?_
   refine yk [0] [2,4] ?_
   refine tg (0,.box 80 (aa.b v1.2)) (3,vb v1.1) 0 ⟨js _ _ _ _ 3 4 62 [.tmp 2] [] _ _ _ rfl call62 rfl rfl rfl rfl (fun _ h=>h) (sl mx ((aa.mk ((cq.mk s24 s25 (bu.mk s26 s27 s28) s29 s30 s31 s32 s33)) ((co.mk ([s34,s35]:List ByteArray) s36 s37 s38 s39 s40)) s41 s42 s43)) _ hv1) (zl rfl) rfl rfl rfl rfl rfl rfl rfl⟩ ?_
   refine dv [0,4,3,0] ?_
   refine bL _ rfl (fun hb71 => ?_) (fun hb71 => ?_)
   ·have h:=bT hb71 h
    refine bU ?_
    refine bb ?_
    refine cA ?_
    refine bU ?_
    refine cG ?_
    refine bG [0,3,1] (by kernel_rfl) (es':=[(_,_),(_,_),(_,_)]) rfl ?_
    exact dM _ (zi h).symm rfl
   ·have h:=bQ hb71 h
    refine dK ?_
    refine cd ?_
    refine cd ?_
    refine dL ?_
    refine bG [0,1,3] (by kernel_rfl) (es':=[(_,_),(_,_),(_,_)]) rfl ?_
    exact hl66 _ (ho68 _ (zi h).symm).symm
theorem oW (mx:Int×Nat×Value) (c:co) (i:Int) (at_:Int) (g:cq) (b:(List Int)) (r:(cq×(List cc)×Int)) (h:Sh.im c i at_ g b=some r):lX Tryz.prog (GL mx) 13 [.agg [.v (.string ((c.Domains.getD 0 (⟨#[]⟩:ByteArray)))), .v (.string ((c.Domains.getD 1 (⟨#[]⟩:ByteArray)))), .v (.int .i64 c.Expiry), .v (.string c.User), .v (.string c.Secret), .v (.int .i64 c.Log), .v (.bool c.Held)], .v (.int .i64 i), .v (.int .i64 at_), .agg [.v (.int .i64 g.Phase), .v (.string g.Helo), .v (.bool g.From.Null), .v (.string g.From.Local), .v (.string g.From.Domain), .fl .shr 3 (flatten (map bu.enc g.To)), .v (.bool g.Quiet), .fl .shr 1 (map (int .u8) g.Buf), .v (.string g.Challenge), .v (.bool g.Proved)], .fl .shr 1 (map (int .u8) b)] (.tup [.agg [.v (.int .i64 r.1.Phase), .v (.string r.1.Helo), .v (.bool r.1.From.Null), .v (.string r.1.From.Local), .v (.string r.1.From.Domain), .fl .ro 3 (flatten (map bu.enc r.1.To)), .v (.bool r.1.Quiet), .fl .ro 1 (map (int .u8) r.1.Buf), .v (.string r.1.Challenge), .v (.bool r.1.Proved)], .fr .ro false 12 (flatten (map cc.ienc r.2.1)), .v (.int .i64 r.2.2)]):=by
  unfold Sh.im at h
  refine yG 88 func13 fun g0 hn hio => ?_
  refine lp hn 2 ?_
  refine yS (.box 30 [vi 0,vs z0,vb false,vs z0,vs z0,vz,vb false,vz,vs z0,vb false]) 2 ⟨oA (dh _ _ Ao)⟩ ?_
  refine dv [1,2,4,88,5,8,10] ?_
  refine aM ?_
  refine aM ?_
  obtain ⟨v1, hv1, h⟩:=zn h
  refine yx hn 1 ?_
  refine ys 1 ⟨lg call35 (sx _ _ _ hv1) 88⟩ ?_
  refine dv [1,2,4,88,5,8,10,13] ?_
  refine cF hn 2 [1,2,4,88,5,8,10,13,20] ?_
  refine bL _ rfl (fun hb382 => ?_) (fun hb382 => ?_)
  ·have h:=bT hb382 h
   refine lp hn 0 ?_
   refine yS (.agg [vi 0,vs z0,vb false,vs z0,vs z0,vz,vb false,vz,vs z0,vb false]) 1 ⟨dQ _ _ _ _ [1,1,3,1,1,1,1,1] _ _ underlying30 Ao (MD _ underlying30) rE.nil rfl rfl rfl⟩ ?_
   refine yk [21,10] [] ?_
   refine yt (10,.box 30 [vi 0,vs z0,vb false,vs z0,vs z0,vz,vb false,vz,vs z0,vb false]) 2 ⟨gm _ _ _ 21 10 10 uu rfl rfl rfl rfl rfl (.eq _ (.eq _ (.eq _ (.eq _ (.eq _ (.eq _ (.eq _ (.eq _ (.eq _ (.eq _ (.nil _))))))))))) rfl⟩ ?_
   refine dv [88,10,11,12] ?_
   refine bO ?_
   refine bG [1,2,3] (by kernel_rfl) (es':=[(_,_),(_,_),(_,_)]) rfl ?_
   refine fe (fs:=[(10,.box 30 [vi 0,vs z0,vb false,vs z0,vs z0,.fl (.own 26) 3 (flatten (map bu.enc [])),vb false,.fl (.own 5) 1 (map (int .u8) []),vs z0,vb false]),(11,.fr (.own 55) false 12 (flatten (map cc.ienc []))),(12,vi v1)]) (.box _ _ (bq (bI _) (bq (bI _) (bq (bI _) (bq (bI _) (bq (bI _) (bq (ek 26 3) (bq (bI _) (bq (ek 5 1) (bq (bI _) (bq (bI _) (dO))))))))))) rfl (.sub _ (rq 55 false 12) rfl (.same _ .nil))) ?_
   refine jv 0 hio (es':=[(10, .box 30 [.v (.int .i64 0),.v (.string (⟨#[]⟩:ByteArray)),.v (.bool false),.v (.string (⟨#[]⟩:ByteArray)),.v (.string (⟨#[]⟩:ByteArray)),.fl .ro 3 (flatten (map bu.enc [])),.v (.bool false),.fl .ro 1 (map (int .u8) []),.v (.string (⟨#[]⟩:ByteArray)),.v (.bool false)]), (11, .fr (.own 55) false 12 (flatten (map cc.ienc []))), (12, .v (.int .i64 v1))]) rfl ?_
   refine jv 1 hio (es':=[(10, .box 30 [.v (.int .i64 0),.v (.string (⟨#[]⟩:ByteArray)),.v (.bool false),.v (.string (⟨#[]⟩:ByteArray)),.v (.string (⟨#[]⟩:ByteArray)),.fl .ro 3 (flatten (map bu.enc [])),.v (.bool false),.fl .ro 1 (map (int .u8) []),.v (.string (⟨#[]⟩:ByteArray)),.v (.bool false)]), (11, .fr .ro false 12 (flatten (map cc.ienc []))), (12, .v (.int .i64 v1))]) rfl ?_
   refine bw ?_
   obtain rfl:=zi h
   exact bP hio rfl (.cellA _ _ _ _ underlying30 rfl uu (.tmp _ _ (.tmp _ _ .nil))) rfl rfl
  ·have h:=bQ hb382 h
   refine bU ?_
   refine bb (aM ?_)
   refine aM ?_
   refine ce h (fun (s383:Bool)=>[(1,vi i),(2,vi at_),(4,fb b),(88,.glob (GL mx)),(5,.box 24 (co.c c [])),(8,.box 30 (cq.c g [])),(10,.box 30 [vi 0,vs z0,vb false,vs z0,vs z0,vz,vb false,vz,vs z0,vb false]),(41,vb s383)]) ?_ ?_
   ·rintro s383 h
    refine bb ?_
    refine bL _ rfl (fun hb387 => ?_) (fun hb387 => ?_)
    ·have h:=bT hb387 h
     refine lp hn 0 ?_
     refine yS (.agg [vi 0,vs z0,vb false,vs z0,vs z0,vz,vb false,vz,vs z0,vb false]) 0 ⟨dQ _ _ _ _ [1,1,3,1,1,1,1,1] _ _ underlying30 Ao (MD _ underlying30) rE.nil rfl rfl rfl⟩ ?_
     refine yk [42,10] [] ?_
     refine yt (10,.box 30 [vi 0,vs z0,vb false,vs z0,vs z0,vz,vb false,vz,vs z0,vb false]) 2 ⟨gm _ _ _ 42 10 10 uu rfl rfl rfl rfl rfl (.eq _ (.eq _ (.eq _ (.eq _ (.eq _ (.eq _ (.eq _ (.eq _ (.eq _ (.eq _ (.nil _))))))))))) rfl⟩ ?_
     refine dv [88,10,11,12] ?_
     refine bO ?_
     refine bG [1,2,3] (by kernel_rfl) (es':=[(_,_),(_,_),(_,_)]) rfl ?_
     refine fe (fs:=[(10,.box 30 [vi 0,vs z0,vb false,vs z0,vs z0,.fl (.own 26) 3 (flatten (map bu.enc [])),vb false,.fl (.own 5) 1 (map (int .u8) []),vs z0,vb false]),(11,.fr (.own 55) false 12 (flatten (map cc.ienc []))),(12,vi 1)]) (.box _ _ (bq (bI _) (bq (bI _) (bq (bI _) (bq (bI _) (bq (bI _) (bq (ek 26 3) (bq (bI _) (bq (ek 5 1) (bq (bI _) (bq (bI _) (dO))))))))))) rfl (.sub _ (rq 55 false 12) rfl (.same _ .nil))) ?_
     refine jv 0 hio (es':=[(10, .box 30 [.v (.int .i64 0),.v (.string (⟨#[]⟩:ByteArray)),.v (.bool false),.v (.string (⟨#[]⟩:ByteArray)),.v (.string (⟨#[]⟩:ByteArray)),.fl .ro 3 (flatten (map bu.enc [])),.v (.bool false),.fl .ro 1 (map (int .u8) []),.v (.string (⟨#[]⟩:ByteArray)),.v (.bool false)]), (11, .fr (.own 55) false 12 (flatten (map cc.ienc []))), (12, .v (.int .i64 1))]) rfl ?_
     refine jv 1 hio (es':=[(10, .box 30 [.v (.int .i64 0),.v (.string (⟨#[]⟩:ByteArray)),.v (.bool false),.v (.string (⟨#[]⟩:ByteArray)),.v (.string (⟨#[]⟩:ByteArray)),.fl .ro 3 (flatten (map bu.enc [])),.v (.bool false),.fl .ro 1 (map (int .u8) []),.v (.string (⟨#[]⟩:ByteArray)),.v (.bool false)]), (11, .fr .ro false 12 (flatten (map cc.ienc []))), (12, .v (.int .i64 1))]) rfl ?_
     refine bw ?_
     obtain rfl:=zi h
     exact bP hio rfl (.cellA _ _ _ _ underlying30 rfl uu (.tmp _ _ (.tmp _ _ .nil))) rfl rfl
    ·have h:=bQ hb387 h
     refine bU ?_
     refine bb (aM ?_)
     obtain ⟨v10, hv10, h⟩:=zn h
     refine wb [[8]] ?_
     refine wN [43] ?_
     refine wo [[5],[1],[2]] ⟨lk call37 (tK _ _ hv10)⟩ ?_
     refine wK [44] [45,46,47] ?_
     refine wt [(48,.agg (vi v10.Phase::vs v10.Helo::vb v10.From.Null::vs v10.From.Local::vs v10.From.Domain::.fl (.own 26) 3 (flatten (map bu.enc v10.To))::vb v10.Quiet::.fl (.own 5) 1 (map (int .u8) v10.Buf)::vs v10.Challenge::vb v10.Proved::co.c c [vi i,vi at_,vz]))] [] ⟨dQ _ _ _ _ [10,7,1,1,1] _ _ underlying80 Ow (OM _ underlying80) (.take _ _ (.copy _ (.copy _ (.copy _ rE.nil)))) rfl rfl rfl⟩ ?_
     refine wK [48] [] ?_
     refine wt [(49,.box 80 (vi v10.Phase::vs v10.Helo::vb v10.From.Null::vs v10.From.Local::vs v10.From.Domain::.fl (.own 26) 3 (flatten (map bu.enc v10.To))::vb v10.Quiet::.fl (.own 5) 1 (map (int .u8) v10.Buf)::vs v10.Challenge::vb v10.Proved::co.c c [vi i,vi at_,vz]))] [] ⟨DA _ _ _ _ _ rfl rfl rfl⟩ ?_
     refine wK [49] [] ?_
     refine wt [(14,.box 80 (vi v10.Phase::vs v10.Helo::vb v10.From.Null::vs v10.From.Local::vs v10.From.Domain::.fl (.own 26) 3 (flatten (map bu.enc v10.To))::vb v10.Quiet::.fl (.own 5) 1 (map (int .u8) v10.Buf)::vs v10.Challenge::vb v10.Proved::co.c c [vi i,vi at_,vz]))] [] ⟨pF _ _ _ _ rfl⟩ ?_
     refine Af hn [4,88,10,14] ?_
     refine aM ?_
     refine cF hn 3 [88,10,14,50,51,52] ?_
     refine um (fs:=[(88,.glob (GL mx)),(10,.box 30 [vi 0,vs z0,vb false,vs z0,vs z0,vz,vb false,vz,vs z0,vb false]),(14,.box 80 (vi v10.Phase::vs v10.Helo::vb v10.From.Null::vs v10.From.Local::vs v10.From.Domain::.fl (.own 26) 3 (flatten (map bu.enc v10.To))::vb v10.Quiet::.mkr 5 (map (int .u8) v10.Buf)::vs v10.Challenge::vb v10.Proved::co.c c [vi i,vi at_,.fr (.own 55) false 12 (flatten (map cc.ienc []))])),(50,fb b),(51,vi (b.length:Int)),(52,vi 0)]) (.same _ (.same _ (.box _ _ (bq (bI _) (bq (bI _) (bq (bI _) (bq (bI _) (bq (bI _) (bq (bI _) (bq (bI _) (bq (Fc 5 _) (bq (bI _) (bq (bI _) (bq (bI _) (bq (bI _) (bq (bI _) (bq (bI _) (bq (bI _) (bq (bI _) (bq (bI _) (bq (bI _) (bq (bI _) (bq (rq 55 false 12) (dO))))))))))))))))))))) rfl (.same _ (.same _ (.same _ .nil)))))) ?_
     refine dx h (fun ((s557,s558,s559,s560,s561,s562,s563,s564,s565,s566,s567,s568,s569,s570,s571,s572,s573,s574,s575,s576,s577):Int×ByteArray×Bool×ByteArray×ByteArray×(List bu)×Bool×(List Int)×ByteArray×Bool×ByteArray×ByteArray×Int×ByteArray×ByteArray×Int×Bool×Int×Int×(List cc)×Int)=>[(88,.glob (GL mx)),(10,.box 30 [vi 0,vs z0,vb false,vs z0,vs z0,vz,vb false,vz,vs z0,vb false]),(14,.box 80 [vi s557,vs s558,vb s559,vs s560,vs s561,.fl (.own 26) 3 (flatten (map bu.enc s562)),vb s563,.mkr 5 (map (int .u8) s564),vs s565,vb s566,vs s567,vs s568,vi s569,vs s570,vs s571,vi s572,vb s573,vi s574,vi s575,.fr (.own 55) false 12 (flatten (map cc.ienc s576))]),(50,fb b),(51,vi (b.length:Int)),(52,vi s577)]) (fun ((s652,s653,s654,s655,s656,s657,s658,s659,s660,s661,s662,s663,s664,s665,s666,s667,s668,s669,s670,s671):aa.t)=>[(88,.glob (GL mx)),(10,.box 30 [vi 0,vs z0,vb false,vs z0,vs z0,vz,vb false,vz,vs z0,vb false]),(14,.box 80 [vi s652,vs s653,vb s654,vs s655,vs s656,.fl (.own 26) 3 (flatten (map bu.enc s657)),vb s658,.mkr 5 (map (int .u8) s659),vs s660,vb s661,vs s662,vs s663,vi s664,vs s665,vs s666,vi s667,vb s668,vi s669,vi s670,.fr (.own 55) false 12 (flatten (map cc.ienc s671))])]) ?_ ?_
     ·rintro ⟨s652, s653, s654, s655, s656, s657, s658, s659, s660, s661, s662, s663, s664, s665, s666, s667, s668, s669, s670, s671⟩ h
      refine bb (aM ?_)
      refine Dd 2 hio (es':=[(88, .glob (GL mx)), (10, .box 30 [.v (.int .i64 0),.v (.string (⟨#[]⟩:ByteArray)),.v (.bool false),.v (.string (⟨#[]⟩:ByteArray)),.v (.string (⟨#[]⟩:ByteArray)),vz,.v (.bool false),vz,.v (.string (⟨#[]⟩:ByteArray)),.v (.bool false)]), (14, .box 80 [.v (.int .i64 s652),.v (.string s653),.v (.bool s654),.v (.string s655),.v (.string s656),.fl .ro 3 (flatten (map bu.enc s657)),.v (.bool s658),.fl .ro 1 (map (int .u8) s659),.v (.string s660),.v (.bool s661),.v (.string s662),.v (.string s663),.v (.int .i64 s664),.v (.string s665),.v (.string s666),.v (.int .i64 s667),.v (.bool s668),.v (.int .i64 s669),.v (.int .i64 s670),.fr .ro false 12 (flatten (map cc.ienc s671))])]) rfl ?_
      obtain ⟨v381, hv381, h⟩:=zn h
      refine wb [[],[79,14],[80,14],[81,14]] ?_
      refine wN [82] ?_
      refine wo [[],[84,14],[85,14],[86,14]] ⟨lk call37 (tK _ _ hv381)⟩ ?_
      refine wK [83,10] [] ?_
      refine wt [(10,.box 30 [vi v381.Phase,vs v381.Helo,vb v381.From.Null,vs v381.From.Local,vs v381.From.Domain,.fl (.own 26) 3 (flatten (map bu.enc v381.To)),vb v381.Quiet,.fl (.own 5) 1 (map (int .u8) v381.Buf),vs v381.Challenge,vb v381.Proved])] [[87],[]] ⟨cO _ _ _ _ _ _ _ _ uu rfl rfl rfl (zl rfl) rfl rfl⟩ ?_
      refine Af hn [88,10,11,12] ?_
      refine bO ?_
      refine bG [1,2,3] (by kernel_rfl) (es':=[(_,_),(_,_),(_,_)]) rfl ?_
      refine jv 0 hio (es':=[(10, .box 30 [.v (.int .i64 v381.Phase),.v (.string v381.Helo),.v (.bool v381.From.Null),.v (.string v381.From.Local),.v (.string v381.From.Domain),.fl .ro 3 (flatten (map bu.enc v381.To)),.v (.bool v381.Quiet),.fl .ro 1 (map (int .u8) v381.Buf),.v (.string v381.Challenge),.v (.bool v381.Proved)]), (11, .fr .ro false 12 (flatten (map cc.ienc s671))), (12, .v (.int .i64 0))]) rfl ?_
      obtain rfl:=zi h
      exact bP hio rfl (.cellA _ _ _ _ underlying30 rfl uu (.tmp _ _ (.tmp _ _ .nil))) rfl rfl
     ·rintro u672 hl673 hr674 ⟨s557, s558, s559, s560, s561, s562, s563, s564, s565, s566, s567, s568, s569, s570, s571, s572, s573, s574, s575, s576, s577⟩ rr677 h ho675
      refine cF hn 1 [88,10,14,50,51,52,53] ?_
      refine aM ?_
      refine bL _ rfl (fun hb678 => ?_) (fun hb678 => ?_)
      ·have h:=bT hb678 h
       refine bU ?_
       refine bb (aM ?_)
       refine ce h (fun ((s704,s705,s706,s707,s708,s709,s710,s711,s712,s713,s714,s715,s716,s717,s718,s719,s720,s721,s722,s723):aa.t)=>[(88,.glob (GL mx)),(10,.box 30 [vi 0,vs z0,vb false,vs z0,vs z0,vz,vb false,vz,vs z0,vb false]),(14,.box 80 [vi s704,vs s705,vb s706,vs s707,vs s708,.fl (.own 26) 3 (flatten (map bu.enc s709)),vb s710,.mkr 5 (map (int .u8) s711),vs s712,vb s713,vs s714,vs s715,vi s716,vs s717,vs s718,vi s719,vb s720,vi s721,vi s722,.fr (.own 55) false 12 (flatten (map cc.ienc s723))]),(50,fb b),(51,vi (b.length:Int)),(52,vi s577)]) ?_ ?_
       ·rintro ⟨s704, s705, s706, s707, s708, s709, s710, s711, s712, s713, s714, s715, s716, s717, s718, s719, s720, s721, s722, s723⟩ h
        refine bb ?_
        obtain ⟨v90, hv90, h⟩:=zn h
        refine yx hn 0 ?_
        refine ys 0 ⟨lb hv90⟩ ?_
        refine yw [52] 1 ?_
        refine ye [88,10,14,50,51,52] ?_
        exact dM _ (zi h).symm rfl
       ·intro u724 h hl725 hr726
        refine cA ?_
        refine aM ?_
        obtain ⟨v12, hv12, h⟩:=zn h
        obtain ⟨v13, hv13, h⟩:=zn h
        refine yx hn 1 ?_
        refine ys 0 ⟨li hv12⟩ ?_
        refine ys 2 ⟨ll hv13⟩ ?_
        refine dv [88,10,14,50,51,52,15,16] ?_
        refine aM ?_
        obtain ⟨v14, hv14, h⟩:=zn h
        refine yx hn 7 ?_
        refine yS (.fl (.own 5) 1 (map (int .u8) [v13])) 0 ⟨dJ _ _ 1 (.int .u8 0) (map (int .u8) [v13]) [(0,.int .u8 v13)] underlying28 qp zS (fun _ V w o a hv hes=>by have e0:=eA hv hes (x := .tmp 63) rfl; simp only [List.map_toArray,List.map_cons,List.map_nil,e0]; try rfl) (fT (by simp [Instr.fill,Value.cells]; rfl) (by simp [List.range,List.range.loop] <;> rfl)) (by simp [Value.oneCell']) rfl (by decide) (by decide) (by decide)⟩ ?_
        refine yk [14] [62,64] ?_
        refine tg (14,.box 80 [vi s557,vs s558,vb s559,vs s560,vs s561,.fl (.own 26) 3 (flatten (map bu.enc s562)),vb s563,.any,vs s565,vb s566,vs s567,vs s568,vi s569,vs s570,vs s571,vi s572,vb s573,vi s574,vi s575,.fr (.own 55) false 12 (flatten (map cc.ienc s576))]) (65,.mkr 5 (map (int .u8) v14)) 3 ⟨yn _ 65 14 7 _ _ oz rfl rfl (zl rfl) rfl rfl rfl hv14 rfl (Nat.ne_of_beq_eq_false rfl) rfl rfl⟩ ?_
        refine yw [62] 0 ?_
        refine yk [65,14] [68] ?_
        refine yt (14,.box 80 [vi s557,vs s558,vb s559,vs s560,vs s561,.fl (.own 26) 3 (flatten (map bu.enc s562)),vb s563,.mkr 5 (map (int .u8) v14),vs s565,vb s566,vs s567,vs s568,vi s569,vs s570,vs s571,vi s572,vb s573,vi s574,vi s575,.fr (.own 55) false 12 (flatten (map cc.ienc s576))]) 0 ⟨cO _ _ _ _ _ _ _ _ pW rfl rfl rfl (zl rfl) rfl rfl⟩ ?_
        refine dv [88,10,14,50,51,52,15,16] ?_
        refine aM ?_
        refine ce h (fun ((s727,s728,s729,s730,s731,s732,s733,s734,s735,s736,s737,s738,s739,s740,s741,s742,s743,s744,s745,s746,s747):Int×ByteArray×Bool×ByteArray×ByteArray×(List bu)×Bool×(List Int)×ByteArray×Bool×ByteArray×ByteArray×Int×ByteArray×ByteArray×Int×Bool×Int×Int×(List cc)×Bool)=>[(88,.glob (GL mx)),(10,.box 30 [vi 0,vs z0,vb false,vs z0,vs z0,vz,vb false,vz,vs z0,vb false]),(14,.box 80 [vi s727,vs s728,vb s729,vs s730,vs s731,.fl (.own 26) 3 (flatten (map bu.enc s732)),vb s733,.mkr 5 (map (int .u8) s734),vs s735,vb s736,vs s737,vs s738,vi s739,vs s740,vs s741,vi s742,vb s743,vi s744,vi s745,.fr (.own 55) false 12 (flatten (map cc.ienc s746))]),(50,fb b),(51,vi (b.length:Int)),(52,vi s577),(75,vb s747)]) ?_ ?_
        ·rintro ⟨s727, s728, s729, s730, s731, s732, s733, s734, s735, s736, s737, s738, s739, s740, s741, s742, s743, s744, s745, s746, s747⟩ h
         refine bb ?_
         refine bL _ rfl (fun hb751 => ?_) (fun hb751 => ?_)
         ·have h:=bT hb751 h
          obtain ⟨v41, hv41, h⟩:=zn h
          refine yx hn 1 ?_
          refine yk [14] [76,88] ?_
          refine tg (14,.box 80 (aa.b v41)) (77,.tup []) 0 ⟨js _ _ _ _ 77 88 39 [.tmp 76] [] _ _ _ rfl call39 rfl rfl rfl rfl (fun _ h=>h) (tn mx ((aa.mk ((cq.mk s727 s728 (bu.mk s729 s730 s731) s732 s733 s734 s735 s736)) ((co.mk ([s737,s738]:List ByteArray) s739 s740 s741 s742 s743)) s744 s745 s746)) _ hv41) (zl rfl) rfl rfl rfl rfl rfl rfl rfl⟩ ?_
          refine ye [88,10,14,50,51,52] ?_
          refine cG ?_
          exact hl725 _ (zi h).symm
         ·have h:=bQ hb751 h
          refine bU ?_
          refine cG ?_
          refine bG [0,1,2,3,4,5] (by kernel_rfl) (es':=[(_,_),(_,_),(_,_),(_,_),(_,_),(_,_)]) rfl ?_
          exact hl725 _ (zi h).symm
        ·intro u748 h hl749 hr750
         refine bJ h (fun hg11_2 h => ?_) (fun hg11_2 h => ?_)
         ·refine yx hn 3 ?_
          refine yd hg11_2 4 ?_
          refine ye [88,10,14,50,51,52,75] ?_
          exact hl749 _ (zi h).symm
         ·obtain ⟨v15, hv15, h⟩:=zn h
          refine yx hn 3 ?_
          refine yd hg11_2 2 ?_
          refine yQ call38 (pY _ _ _ hv15) 14 [72,73] 1 ?_
          refine ye [88,10,14,50,51,52,75] ?_
          exact hl749 _ (zi h).symm
      ·have h:=bQ hb678 h
       refine dK ?_
       refine cd ?_
       refine cd ?_
       refine dL ?_
       refine bG [0,1,2] (by kernel_rfl) (es':=[(_,_),(_,_),(_,_)]) rfl ?_
       exact hl673 _ (ho675 _ (zi h).symm).symm
   ·intro u384 h hl385 hr386
    refine bJ h (fun hg4_2 h => ?_) (fun hg4_2 h => ?_)
    ·refine bJ h (fun hg4_6 h => ?_) (fun hg4_6 h => ?_)
     ·refine yx hn 3 ?_
      refine yd hg4_2 4 ?_
      refine yd hg4_6 12 ?_
      refine ye [1,2,4,88,5,8,10,41] ?_
      exact hl385 _ (zi h).symm
     ·refine bJ h (fun hg4_10 h => ?_) (fun hg4_10 h => ?_)
      ·refine yx hn 3 ?_
       refine yd hg4_2 4 ?_
       refine yd hg4_6 4 ?_
       refine yd hg4_10 8 ?_
       refine ye [1,2,4,88,5,8,10,41] ?_
       exact hl385 _ (zi h).symm
      ·refine bJ h (fun hg4_14 h => ?_) (fun hg4_14 h => ?_)
       ·refine yx hn 3 ?_
        refine yd hg4_2 4 ?_
        refine yd hg4_6 4 ?_
        refine yd hg4_10 4 ?_
        refine yd hg4_14 4 ?_
        refine ye [1,2,4,88,5,8,10,41] ?_
        exact hl385 _ (zi h).symm
       ·obtain ⟨v3, hv3, h⟩:=zn h
        refine yx hn 3 ?_
        refine yd hg4_2 4 ?_
        refine yd hg4_6 4 ?_
        refine yd hg4_10 4 ?_
        refine yd hg4_14 1 ?_
        refine ys 2 ⟨lk call36 (tE _ _ hv3)⟩ ?_
        refine ye [1,2,4,88,5,8,10,41] ?_
        exact hl385 _ (zi h).symm
    ·refine bJ h (fun hg4_10 h => ?_) (fun hg4_10 h => ?_)
     ·refine yx hn 3 ?_
      refine yd hg4_2 8 ?_
      refine yd hg4_10 8 ?_
      refine ye [1,2,4,88,5,8,10,41] ?_
      exact hl385 _ (zi h).symm
     ·refine bJ h (fun hg4_14 h => ?_) (fun hg4_14 h => ?_)
      ·refine yx hn 3 ?_
       refine yd hg4_2 8 ?_
       refine yd hg4_10 4 ?_
       refine yd hg4_14 4 ?_
       refine ye [1,2,4,88,5,8,10,41] ?_
       exact hl385 _ (zi h).symm
      ·obtain ⟨v4, hv4, h⟩:=zn h
       refine yx hn 3 ?_
       refine yd hg4_2 8 ?_
       refine yd hg4_10 4 ?_
       refine yd hg4_14 1 ?_
       refine ys 2 ⟨lk call36 (tE _ _ hv4)⟩ ?_
       refine ye [1,2,4,88,5,8,10,41] ?_
       exact hl385 _ (zi h).symm
end Go.Proofs.YtjnnkhmhjcjhdaaGreatDoor
