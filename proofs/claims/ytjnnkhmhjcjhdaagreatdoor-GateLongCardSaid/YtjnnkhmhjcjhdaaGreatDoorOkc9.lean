/-
  The model's runs are what is told in Lean.
-/
import Derived.Test.YtjnnkhmhjcjhdaaGreatDoorProg
import Derived.KernelRfl
import Derived.Test.YtjnnkhmhjcjhdaaGreatDoorShelf
import Derived.Test.YtjnnkhmhjcjhdaaGreatDoorIdx
import Derived.Test.YtjnnkhmhjcjhdaaGreatDoorB3
import Derived.Test.YtjnnkhmhjcjhdaaGreatDoorC1
import Derived.Test.YtjnnkhmhjcjhdaaGreatDoorBC
import Derived.Test.YtjnnkhmhjcjhdaaGreatDoorOkc8
set_option linter.unusedVariables false
set_option linter.unusedSimpArgs false
set_option maxHeartbeats 1000000
namespace Go.Proofs.YtjnnkhmhjcjhdaaGreatDoor
open Go.Abs Go.Abs.Sh Tryz
open List (map flatten)
open Value (int)
theorem ok_gate_session_command (mx:Int×Nat×Value) (s:T_gate_session) (c:T_Cmd) (r:T_gate_session) (h:Sh.gate_session_command s c=some r):FnPG Tryz.prog (GL mx) 92 [.box 80 [.v (.int .i64 s.Gate.Phase), .v (.string s.Gate.Helo), .v (.bool s.Gate.From.Null), .v (.string s.Gate.From.Local), .v (.string s.Gate.From.Domain), .fl (.own 26) 3 (flatten (map T_Path.enc s.Gate.To)), .v (.bool s.Gate.Quiet), .mkr 5 (map (int .u8) s.Gate.Buf), .v (.string s.Gate.Challenge), .v (.bool s.Gate.Proved), .v (.string ((s.config.Domains.getD 0 (⟨#[]⟩:ByteArray)))), .v (.string ((s.config.Domains.getD 1 (⟨#[]⟩:ByteArray)))), .v (.int .i64 s.config.Expiry), .v (.string s.config.User), .v (.string s.config.Secret), .v (.int .i64 s.config.Log), .v (.bool s.config.Held), .v (.int .i64 s.site), .v (.int .i64 s.at_), .fr (.own 55) false 12 (flatten (map T_Out.ienc s.out))], .agg [.v (.int .i64 c.Kind), .v (.string c.Text), .v (.bool c.Path.Null), .v (.string c.Path.Local), .v (.string c.Path.Domain), .fl .shr 2 (flatten (map T_Param.enc c.Params))]] [.box 80 [.v (.int .i64 r.Gate.Phase), .v (.string r.Gate.Helo), .v (.bool r.Gate.From.Null), .v (.string r.Gate.From.Local), .v (.string r.Gate.From.Domain), .fl (.own 26) 3 (flatten (map T_Path.enc r.Gate.To)), .v (.bool r.Gate.Quiet), .mkr 5 (map (int .u8) r.Gate.Buf), .v (.string r.Gate.Challenge), .v (.bool r.Gate.Proved), .v (.string ((r.config.Domains.getD 0 (⟨#[]⟩:ByteArray)))), .v (.string ((r.config.Domains.getD 1 (⟨#[]⟩:ByteArray)))), .v (.int .i64 r.config.Expiry), .v (.string r.config.User), .v (.string r.config.Secret), .v (.int .i64 r.config.Log), .v (.bool r.config.Held), .v (.int .i64 r.site), .v (.int .i64 r.at_), .fr (.own 55) false 12 (flatten (map T_Out.ienc r.out))]] (.tup []):=by
  unfold Sh.gate_session_command at h
  refine yPG 94 func92 fun args0 hargs0 g0 hn hio => ?_
  refine yyy hn 1 [0,94,3,0] ?_
  refine yyy hn 2 [0,94,3,5,0] ?_
  refine ht_joinS h (fun ((s37,s38,s39,s40,s41,s42,s43,s44,s45,s46,s47,s48,s49,s50,s51,s52,s53,s54,s55,s56):Int×ByteArray×Bool×ByteArray×ByteArray×(List T_Path)×Bool×(List Int)×ByteArray×Bool×ByteArray×ByteArray×Int×ByteArray×ByteArray×Int×Bool×Int×Int×(List T_Out))=>[(0,.box 80 [vi s37,vs s38,vb s39,vs s40,vs s41,.fl (.own 26) 3 (flatten (map T_Path.enc s42)),vb s43,.mkr 5 (map (int .u8) s44),vs s45,vb s46,vs s47,vs s48,vi s49,vs s50,vs s51,vi s52,vb s53,vi s54,vi s55,.fr (.own 55) false 12 (flatten (map T_Out.ienc s56))]),(94,.glob (GL mx)),(0,.v (List.getD args0 0 undef))]) ?_ ?_
  ·rintro ⟨s37, s38, s39, s40, s41, s42, s43, s44, s45, s46, s47, s48, s49, s50, s51, s52, s53, s54, s55, s56⟩ h
   refine pt_pick [0,2] (by kernel_rfl) (es':=[(_,_),(_,_)]) rfl ?_
   obtain rfl:=zi h
   exact pt_endP (es:=[]) (posts:=[.box 80 [.v (.int .i64 s37),.v (.string s38),.v (.bool s39),.v (.string s40),.v (.string s41),.fl (.own 26) 3 (flatten (map T_Path.enc s42)),.v (.bool s43),.mkr 5 (map (int .u8) s44),.v (.string s45),.v (.bool s46),.v (.string s47),.v (.string s48),.v (.int .i64 s49),.v (.string s50),.v (.string s51),.v (.int .i64 s52),.v (.bool s53),.v (.int .i64 s54),.v (.int .i64 s55),.fr (.own 55) false 12 (flatten (map T_Out.ienc s56))]]) hio rfl rfl .nil rfl rfl hargs0 rfl
  ·intro u57 h hl58 hr59
   refine ht_block ?_
   refine yyy hn 2 [0,94,3,5,6,0] ?_
   refine ht_cond _ rfl (fun hb60 => ?_) (fun hb60 => ?_)
   ·have h:=cond_t hb60 h
    refine ht_seq ?_
    refine wb [[],[],[3],[10,3],[8,0],[12,0],[13,0]] ?_
    refine wK [0] [14] ?_
    refine wt [(0,.box 80 (vi 1::vs s.Gate.Helo::vb s.Gate.From.Null::vs s.Gate.From.Local::vs s.Gate.From.Domain::.fl (.own 26) 3 (flatten (map T_Path.enc s.Gate.To))::vb s.Gate.Quiet::.mkr 5 (map (int .u8) s.Gate.Buf)::vs s.Gate.Challenge::vb s.Gate.Proved::T_Config.c s.config [vi s.site,vi s.at_,.fr (.own 55) false 12 (flatten (map T_Out.ienc s.out))]))] [[9,0],[15,0],[16,0]] ⟨op_store _ _ _ _ _ _ _ _ sz3 rfl rfl rfl rfl (zl rfl) rfl rfl⟩ ?_
    refine wK [0] [17,11] ?_
    refine wt [(0,.box 80 (vi 1::vs c.Text::vb s.Gate.From.Null::vs s.Gate.From.Local::vs s.Gate.From.Domain::.fl (.own 26) 3 (flatten (map T_Path.enc s.Gate.To))::vb s.Gate.Quiet::.mkr 5 (map (int .u8) s.Gate.Buf)::vs s.Gate.Challenge::vb s.Gate.Proved::T_Config.c s.config [vi s.site,vi s.at_,.fr (.own 55) false 12 (flatten (map T_Out.ienc s.out))]))] [] ⟨op_store _ _ _ _ _ _ _ _ sz9 rfl rfl rfl rfl (zl rfl) rfl rfl⟩ ?_
    refine wee hn [0,94,0] ?_
    refine ht_seq ?_
    obtain ⟨v2, hv2, h⟩:=zn h
    refine yx hn 1 ?_
    refine yQ call88 (ok_gate_session_reset _ _ hv2) 0 [18] 0 ?_
    refine yee [0,94,0] ?_
    obtain ⟨v3, hv3, h⟩:=zn h
    refine yx hn 1 ?_
    refine yQ call76 (ok_gate_session_reply _ _ _ hv3) 0 [20] 0 ?_
    refine ye [0,94,0] ?_
    refine pt_inb ?_
    exact hl58 _ (zi h).symm
   ·have h:=cond_f hb60 h
    refine yyy hn 2 [0,94,3,5,22,0] ?_
    refine ht_cond _ rfl (fun hb61 => ?_) (fun hb61 => ?_)
    ·have h:=cond_t hb61 h
     refine ht_seq ?_
     refine ht_joinS h (fun (s63:Int)=>[(0,.box 80 (vi s63::vs s.Gate.Helo::vb s.Gate.From.Null::vs s.Gate.From.Local::vs s.Gate.From.Domain::.fl (.own 26) 3 (flatten (map T_Path.enc s.Gate.To))::vb s.Gate.Quiet::.mkr 5 (map (int .u8) s.Gate.Buf)::vs s.Gate.Challenge::vb s.Gate.Proved::T_Config.c s.config [vi s.site,vi s.at_,.fr (.own 55) false 12 (flatten (map T_Out.ienc s.out))])),(94,.glob (GL mx)),(0,.v (List.getD args0 0 undef))]) ?_ ?_
     ·rintro s63 h
      refine pt_then (ht_seq ?_)
      obtain ⟨v11, hv11, h⟩:=zn h
      refine yx hn 1 ?_
      refine yQ call88 (ok_gate_session_reset _ _ hv11) 0 [34] 0 ?_
      refine yee [0,94,0] ?_
      obtain ⟨v12, hv12, h⟩:=zn h
      refine yx hn 1 ?_
      refine yQ call76 (ok_gate_session_reply _ _ _ hv12) 0 [36] 0 ?_
      refine ye [0,94,0] ?_
      refine pt_inb ?_
      exact hl58 _ (zi h).symm
     ·intro u64 h hl65 hr66
      refine yyy hn 6 [0,94,29,0] ?_
      refine ht_cond _ rfl (fun hb67 => ?_) (fun hb67 => ?_)
      ·have h:=cond_t hb67 h
       refine yy hn 5 [0,94,0] ?_
       exact hl65 _ (zi h).symm
      ·have h:=cond_f hb67 h
       refine ht_skip ?_
       refine pt_pick [0,1,3] (by kernel_rfl) (es':=[(_,_),(_,_),(_,_)]) rfl ?_
       exact hl65 _ (zi h).symm
    ·have h:=cond_f hb61 h
     refine yyy hn 2 [0,94,3,5,38,0] ?_
     refine ht_cond _ rfl (fun hb68 => ?_) (fun hb68 => ?_)
     ·have h:=cond_t hb68 h
      obtain ⟨v14, hv14, h⟩:=zn h
      refine yx hn 1 ?_
      refine yQ call76 (ok_gate_session_reply _ _ _ hv14) 0 [40] 0 ?_
      refine ye [0,94,0] ?_
      refine pt_inb ?_
      exact hl58 _ (zi h).symm
     ·have h:=cond_f hb68 h
      refine yyy hn 2 [0,94,3,5,42,0] ?_
      refine ht_cond _ rfl (fun hb69 => ?_) (fun hb69 => ?_)
      ·have h:=cond_t hb69 h
       obtain ⟨v16, hv16, h⟩:=zn h
       refine yx hn 1 ?_
       refine yQ call76 (ok_gate_session_reply _ _ _ hv16) 0 [44] 0 ?_
       refine ye [0,94,0] ?_
       refine pt_inb ?_
       exact hl58 _ (zi h).symm
      ·have h:=cond_f hb69 h
       refine yyy hn 2 [0,94,3,5,46,0] ?_
       refine ht_cond _ rfl (fun hb70 => ?_) (fun hb70 => ?_)
       ·have h:=cond_t hb70 h
        refine yyy hn 5 [0,94,0] ?_
        obtain ⟨v18, hv18, h⟩:=zn h
        refine yx hn 1 ?_
        refine yQ call76 (ok_gate_session_reply _ _ _ hv18) 0 [52] 0 ?_
        refine ye [0,94,0] ?_
        refine pt_inb ?_
        exact hl58 _ (zi h).symm
       ·have h:=cond_f hb70 h
        refine yyy hn 2 [0,94,3,5,54,0] ?_
        refine ht_cond _ rfl (fun hb71 => ?_) (fun hb71 => ?_)
        ·have h:=cond_t hb71 h
         obtain ⟨v20, hv20, h⟩:=zn h
         obtain ⟨v21, hv21, h⟩:=zn h
         refine yx hn 3 ?_
         refine yk [0] [57,58,94] ?_
         refine ytt (0,.box 80 (vi v20.2.Gate.Phase::vs v20.2.Gate.Helo::vb v20.2.Gate.From.Null::vs v20.2.Gate.From.Local::vs v20.2.Gate.From.Domain::.fl (.own 26) 3 (flatten (map T_Path.enc v20.2.Gate.To))::vb v20.2.Gate.Quiet::.mkr 5 (map (int .u8) v20.2.Gate.Buf)::vs v20.2.Gate.Challenge::vb v20.2.Gate.Proved::T_Config.c v20.2.config [vi v20.2.site,vi v20.2.at_,.fr (.own 55) false 12 (flatten (map T_Out.ienc v20.2.out))])) (59,vi v20.1) 0 ⟨op_callPSG _ _ _ _ 59 94 112 [.tmp 57] [.tmp 58] _ _ _ rfl call112 rfl rfl rfl rfl (fun _ h=>h) (ok_gate_session_mail mx ((T_gate_session.mk ((T_Gate.mk s.Gate.Phase s.Gate.Helo (T_Path.mk s.Gate.From.Null s.Gate.From.Local s.Gate.From.Domain) s.Gate.To s.Gate.Quiet s.Gate.Buf s.Gate.Challenge s.Gate.Proved)) ((T_Config.mk (([(s.config.Domains.getD 0 z0),(s.config.Domains.getD 1 z0)]:List ByteArray)) s.config.Expiry s.config.User s.config.Secret s.config.Log s.config.Held)) s.site s.at_ s.out)) ((T_Cmd.mk c.Kind c.Text (T_Path.mk c.Path.Null c.Path.Local c.Path.Domain) c.Params)) _ hv20) (zl rfl) rfl rfl rfl rfl rfl rfl rfl⟩ ?_
         refine yQ call76 (ok_gate_session_reply _ _ _ hv21) 0 [56,59] 0 ?_
         refine ye [0,94,0] ?_
         refine pt_inb ?_
         exact hl58 _ (zi h).symm
        ·have h:=cond_f hb71 h
         refine yyy hn 2 [0,94,3,5,61,0] ?_
         refine ht_cond _ rfl (fun hb72 => ?_) (fun hb72 => ?_)
         ·have h:=cond_t hb72 h
          obtain ⟨v23, hv23, h⟩:=zn h
          obtain ⟨v24, hv24, h⟩:=zn h
          refine yx hn 3 ?_
          refine yk [0] [64,65,94] ?_
          refine ytt (0,.box 80 (vi v23.2.Gate.Phase::vs v23.2.Gate.Helo::vb v23.2.Gate.From.Null::vs v23.2.Gate.From.Local::vs v23.2.Gate.From.Domain::.fl (.own 26) 3 (flatten (map T_Path.enc v23.2.Gate.To))::vb v23.2.Gate.Quiet::.mkr 5 (map (int .u8) v23.2.Gate.Buf)::vs v23.2.Gate.Challenge::vb v23.2.Gate.Proved::T_Config.c v23.2.config [vi v23.2.site,vi v23.2.at_,.fr (.own 55) false 12 (flatten (map T_Out.ienc v23.2.out))])) (66,vi v23.1) 0 ⟨op_callPSG _ _ _ _ 66 94 113 [.tmp 64] [.tmp 65] _ _ _ rfl call113 rfl rfl rfl rfl (fun _ h=>h) (ok_gate_session_rcpt mx ((T_gate_session.mk ((T_Gate.mk s.Gate.Phase s.Gate.Helo (T_Path.mk s.Gate.From.Null s.Gate.From.Local s.Gate.From.Domain) s.Gate.To s.Gate.Quiet s.Gate.Buf s.Gate.Challenge s.Gate.Proved)) ((T_Config.mk (([(s.config.Domains.getD 0 z0),(s.config.Domains.getD 1 z0)]:List ByteArray)) s.config.Expiry s.config.User s.config.Secret s.config.Log s.config.Held)) s.site s.at_ s.out)) ((T_Cmd.mk c.Kind c.Text (T_Path.mk c.Path.Null c.Path.Local c.Path.Domain) c.Params)) _ hv23) (zl rfl) rfl rfl rfl rfl rfl rfl rfl⟩ ?_
          refine yQ call76 (ok_gate_session_reply _ _ _ hv24) 0 [63,66] 0 ?_
          refine ye [0,94,0] ?_
          refine pt_inb ?_
          exact hl58 _ (zi h).symm
         ·have h:=cond_f hb72 h
          refine yyy hn 2 [0,94,3,5,68,0] ?_
          refine ht_cond _ rfl (fun hb73 => ?_) (fun hb73 => ?_)
          ·have h:=cond_t hb73 h
           obtain ⟨v26, hv26, h⟩:=zn h
           obtain ⟨v27, hv27, h⟩:=zn h
           refine yx hn 2 ?_
           refine yQ call114 (ok_gate_session_begin _ _ hv26) 0 [71] 0 ?_
           refine yQ call76 (ok_gate_session_reply _ _ _ hv27) 0 [70,72] 0 ?_
           refine ye [0,94,0] ?_
           refine pt_inb ?_
           exact hl58 _ (zi h).symm
          ·have h:=cond_f hb73 h
           refine yyy hn 2 [0,94,3,5,74,0] ?_
           refine ht_cond _ rfl (fun hb74 => ?_) (fun hb74 => ?_)
           ·have h:=cond_t hb74 h
            obtain ⟨v29, hv29, h⟩:=zn h
            obtain ⟨v30, hv30, h⟩:=zn h
            refine yx hn 3 ?_
            refine yQ call116 (ok_gate_session_etrn _ _ _ hv29) 0 [77,78] 0 ?_
            refine yQ call115 (ok_gate_session_release _ _ _ hv30) 0 [76,79] 0 ?_
            refine ye [0,94,0] ?_
            refine pt_inb ?_
            exact hl58 _ (zi h).symm
           ·have h:=cond_f hb74 h
            refine yyy hn 2 [0,94,3,5,81,0] ?_
            refine ht_cond _ rfl (fun hb75 => ?_) (fun hb75 => ?_)
            ·have h:=cond_t hb75 h
             obtain ⟨v32, hv32, h⟩:=zn h
             obtain ⟨v33, hv33, h⟩:=zn h
             refine yx hn 2 ?_
             refine yQ call117 (ok_gate_session_auth _ _ hv32) 0 [84] 0 ?_
             refine yQ call76 (ok_gate_session_reply _ _ _ hv33) 0 [83,85] 0 ?_
             refine ye [0,94,0] ?_
             refine pt_inb ?_
             exact hl58 _ (zi h).symm
            ·have h:=cond_f hb75 h
             refine yyy hn 2 [0,94,3,87,0] ?_
             refine ht_cond _ rfl (fun hb76 => ?_) (fun hb76 => ?_)
             ·have h:=cond_t hb76 h
              obtain ⟨v35, hv35, h⟩:=zn h
              obtain ⟨v36, hv36, h⟩:=zn h
              refine yx hn 3 ?_
              refine yQ call118 (ok_gate_session_atrn _ _ _ hv35) 0 [90,91] 0 ?_
              refine yQ call115 (ok_gate_session_release _ _ _ hv36) 0 [89,92] 0 ?_
              refine ye [0,94,0] ?_
              refine pt_inb ?_
              exact hl58 _ (zi h).symm
             ·have h:=cond_f hb76 h
              refine ht_skip ?_
              refine pt_inb ?_
              refine pt_pick [0,1,4] (by kernel_rfl) (es':=[(_,_),(_,_),(_,_)]) rfl ?_
              exact hl58 _ (zi h).symm
theorem ok_gate_session_line (mx:Int×Nat×Value) (s:T_gate_session) (line:ByteArray) (r:T_gate_session) (h:Sh.gate_session_line s line=some r):FnPG Tryz.prog (GL mx) 75 [.box 80 [.v (.int .i64 s.Gate.Phase), .v (.string s.Gate.Helo), .v (.bool s.Gate.From.Null), .v (.string s.Gate.From.Local), .v (.string s.Gate.From.Domain), .fl (.own 26) 3 (flatten (map T_Path.enc s.Gate.To)), .v (.bool s.Gate.Quiet), .mkr 5 (map (int .u8) s.Gate.Buf), .v (.string s.Gate.Challenge), .v (.bool s.Gate.Proved), .v (.string ((s.config.Domains.getD 0 (⟨#[]⟩:ByteArray)))), .v (.string ((s.config.Domains.getD 1 (⟨#[]⟩:ByteArray)))), .v (.int .i64 s.config.Expiry), .v (.string s.config.User), .v (.string s.config.Secret), .v (.int .i64 s.config.Log), .v (.bool s.config.Held), .v (.int .i64 s.site), .v (.int .i64 s.at_), .fr (.own 55) false 12 (flatten (map T_Out.ienc s.out))], .v (.string line)] [.box 80 [.v (.int .i64 r.Gate.Phase), .v (.string r.Gate.Helo), .v (.bool r.Gate.From.Null), .v (.string r.Gate.From.Local), .v (.string r.Gate.From.Domain), .fl (.own 26) 3 (flatten (map T_Path.enc r.Gate.To)), .v (.bool r.Gate.Quiet), .mkr 5 (map (int .u8) r.Gate.Buf), .v (.string r.Gate.Challenge), .v (.bool r.Gate.Proved), .v (.string ((r.config.Domains.getD 0 (⟨#[]⟩:ByteArray)))), .v (.string ((r.config.Domains.getD 1 (⟨#[]⟩:ByteArray)))), .v (.int .i64 r.config.Expiry), .v (.string r.config.User), .v (.string r.config.Secret), .v (.int .i64 r.config.Log), .v (.bool r.config.Held), .v (.int .i64 r.site), .v (.int .i64 r.at_), .fr (.own 55) false 12 (flatten (map T_Out.ienc r.out))]] (.tup []):=by
  unfold Sh.gate_session_line at h
  refine yPG 31 func75 fun args0 hargs0 g0 hn hio => ?_
  refine yyy hn 5 [0,1,31,10,0] ?_
  refine ht_joinS h (fun ((s8,s9,s10,s11,s12,s13,s14,s15,s16,s17,s18,s19,s20,s21,s22,s23,s24,s25,s26,s27):Int×ByteArray×Bool×ByteArray×ByteArray×(List T_Path)×Bool×(List Int)×ByteArray×Bool×ByteArray×ByteArray×Int×ByteArray×ByteArray×Int×Bool×Int×Int×(List T_Out))=>[(0,.box 80 [vi s8,vs s9,vb s10,vs s11,vs s12,.fl (.own 26) 3 (flatten (map T_Path.enc s13)),vb s14,.mkr 5 (map (int .u8) s15),vs s16,vb s17,vs s18,vs s19,vi s20,vs s21,vs s22,vi s23,vb s24,vi s25,vi s26,.fr (.own 55) false 12 (flatten (map T_Out.ienc s27))]),(31,.glob (GL mx)),(0,.v (List.getD args0 0 undef))]) ?_ ?_
  ·rintro ⟨s8, s9, s10, s11, s12, s13, s14, s15, s16, s17, s18, s19, s20, s21, s22, s23, s24, s25, s26, s27⟩ h
   refine pt_pick [0,2] (by kernel_rfl) (es':=[(_,_),(_,_)]) rfl ?_
   obtain rfl:=zi h
   exact pt_endP (es:=[]) (posts:=[.box 80 [.v (.int .i64 s8),.v (.string s9),.v (.bool s10),.v (.string s11),.v (.string s12),.fl (.own 26) 3 (flatten (map T_Path.enc s13)),.v (.bool s14),.mkr 5 (map (int .u8) s15),.v (.string s16),.v (.bool s17),.v (.string s18),.v (.string s19),.v (.int .i64 s20),.v (.string s21),.v (.string s22),.v (.int .i64 s23),.v (.bool s24),.v (.int .i64 s25),.v (.int .i64 s26),.fr (.own 55) false 12 (flatten (map T_Out.ienc s27))]]) hio rfl rfl .nil rfl rfl hargs0 rfl
  ·intro u28 h hl29 hr30
   refine ht_block ?_
   refine yyy hn 2 [0,1,31,10,24,0] ?_
   refine ht_cond _ rfl (fun hb31 => ?_) (fun hb31 => ?_)
   ·have h:=cond_t hb31 h
    refine ht_skip ?_
    refine pt_inb ?_
    refine pt_pick [0,2,5] (by kernel_rfl) (es':=[(_,_),(_,_),(_,_)]) rfl ?_
    exact hl29 _ (zi h).symm
   ·have h:=cond_f hb31 h
    refine yyy hn 2 [0,1,31,26,0] ?_
    refine ht_cond _ rfl (fun hb32 => ?_) (fun hb32 => ?_)
    ·have h:=cond_t hb32 h
     obtain ⟨v3, hv3, h⟩:=zn h
     refine yx hn 2 ?_
     refine yk [0] [28,29,31] ?_
     refine ytt (0,.box 80 (vi v3.Gate.Phase::vs v3.Gate.Helo::vb v3.Gate.From.Null::vs v3.Gate.From.Local::vs v3.Gate.From.Domain::.fl (.own 26) 3 (flatten (map T_Path.enc v3.Gate.To))::vb v3.Gate.Quiet::.mkr 5 (map (int .u8) v3.Gate.Buf)::vs v3.Gate.Challenge::vb v3.Gate.Proved::T_Config.c v3.config [vi v3.site,vi v3.at_,.fr (.own 55) false 12 (flatten (map T_Out.ienc v3.out))])) (30,.tup []) 0 ⟨op_callPSG _ _ _ _ 30 31 90 [.tmp 28] [.tmp 29] _ _ _ rfl call90 rfl rfl rfl rfl (fun _ h=>h) (ok_gate_session_prove mx ((T_gate_session.mk ((T_Gate.mk s.Gate.Phase s.Gate.Helo (T_Path.mk s.Gate.From.Null s.Gate.From.Local s.Gate.From.Domain) s.Gate.To s.Gate.Quiet s.Gate.Buf s.Gate.Challenge s.Gate.Proved)) ((T_Config.mk (([(s.config.Domains.getD 0 z0),(s.config.Domains.getD 1 z0)]:List ByteArray)) s.config.Expiry s.config.User s.config.Secret s.config.Log s.config.Held)) s.site s.at_ s.out)) line _ hv3) (zl rfl) rfl rfl rfl rfl rfl rfl rfl⟩ ?_
     refine ye [0,31,0] ?_
     refine pt_inb ?_
     exact hl29 _ (zi h).symm
    ·have h:=cond_f hb32 h
     refine ht_seq ?_
     obtain ⟨v4, hv4, h⟩:=zn h
     refine yx hn 1 ?_
     refine ys 0 ⟨lg call91 (ok_verb_Parse _ _ _ hv4) 31⟩ ?_
     refine ym 0 ?_
     refine yS (.agg [vi v4.1.Kind,vs v4.1.Text,vb v4.1.Path.Null,vs v4.1.Path.Local,vs v4.1.Path.Domain,.fl .ro 2 (flatten (map T_Param.enc v4.1.Params))]) 1 ⟨op_extract_no _ _ _ _ _ _ rfl rfl (zl rfl) rfl rfl⟩ ?_
     refine yS (.box 122 [vi 0,vs z0,vb false,vs z0,vs z0,vz]) 2 ⟨oA (op_alloc _ _ zr122)⟩ ?_
     refine yee [0,31,4,5,0] ?_
     refine ht_seq ?_
     refine yyy hn 2 [0,31,4,5,17,0] ?_
     refine ht_cond _ rfl (fun hb33 => ?_) (fun hb33 => ?_)
     ·have h:=cond_t hb33 h
      refine ht_seq ?_
      obtain ⟨v6, hv6, h⟩:=zn h
      refine yx hn 2 ?_
      refine yQ call76 (ok_gate_session_reply _ _ _ hv6) 0 [18,19] 0 ?_
      refine yee [0,31,0] ?_
      refine ht_ret ?_
      refine pt_pick [0,2] (by kernel_rfl) (es':=[(_,_),(_,_)]) rfl ?_
      refine pt_r_then ?_
      refine pt_r_in ?_
      have h:=hr30 _ (zi h).symm
      obtain rfl:=zi h
      exact pt_retP (es:=[]) (posts:=[.box 80 [.v (.int .i64 v6.Gate.Phase),.v (.string v6.Gate.Helo),.v (.bool v6.Gate.From.Null),.v (.string v6.Gate.From.Local),.v (.string v6.Gate.From.Domain),.fl (.own 26) 3 (flatten (map T_Path.enc v6.Gate.To)),.v (.bool v6.Gate.Quiet),.mkr 5 (map (int .u8) v6.Gate.Buf),.v (.string v6.Gate.Challenge),.v (.bool v6.Gate.Proved),.v (.string ((v6.config.Domains.getD 0 (⟨#[]⟩:ByteArray)))),.v (.string ((v6.config.Domains.getD 1 (⟨#[]⟩:ByteArray)))),.v (.int .i64 v6.config.Expiry),.v (.string v6.config.User),.v (.string v6.config.Secret),.v (.int .i64 v6.config.Log),.v (.bool v6.config.Held),.v (.int .i64 v6.site),.v (.int .i64 v6.at_),.fr (.own 55) false 12 (flatten (map T_Out.ienc v6.out))]]) hio rfl rfl .nil rfl rfl hargs0 rfl
     ·have h:=cond_f hb33 h
      refine ht_skip ?_
      refine pt_then ?_
      obtain ⟨v7, hv7, h⟩:=zn h
      refine yx hn 2 ?_
      refine yk [0] [21,22,31] ?_
      refine ytt (0,.box 80 (vi v7.Gate.Phase::vs v7.Gate.Helo::vb v7.Gate.From.Null::vs v7.Gate.From.Local::vs v7.Gate.From.Domain::.fl (.own 26) 3 (flatten (map T_Path.enc v7.Gate.To))::vb v7.Gate.Quiet::.mkr 5 (map (int .u8) v7.Gate.Buf)::vs v7.Gate.Challenge::vb v7.Gate.Proved::T_Config.c v7.config [vi v7.site,vi v7.at_,.fr (.own 55) false 12 (flatten (map T_Out.ienc v7.out))])) (23,.tup []) 0 ⟨op_callPSG _ _ _ _ 23 31 92 [.tmp 21] [.tmp 22] _ _ _ rfl call92 rfl rfl rfl rfl (fun _ h=>h) (ok_gate_session_command mx ((T_gate_session.mk ((T_Gate.mk s.Gate.Phase s.Gate.Helo (T_Path.mk s.Gate.From.Null s.Gate.From.Local s.Gate.From.Domain) s.Gate.To s.Gate.Quiet s.Gate.Buf s.Gate.Challenge s.Gate.Proved)) ((T_Config.mk (([(s.config.Domains.getD 0 z0),(s.config.Domains.getD 1 z0)]:List ByteArray)) s.config.Expiry s.config.User s.config.Secret s.config.Log s.config.Held)) s.site s.at_ s.out)) ((T_Cmd.mk v4.1.Kind v4.1.Text (T_Path.mk v4.1.Path.Null v4.1.Path.Local v4.1.Path.Domain) v4.1.Params)) _ hv7) (zl rfl) rfl rfl rfl rfl rfl rfl rfl⟩ ?_
      refine ye [0,31,0] ?_
      refine pt_inb ?_
      exact hl29 _ (zi h).symm
theorem ok_gate_session_step (mx:Int×Nat×Value) (s:T_gate_session) (r:(Bool×T_gate_session)) (h:Sh.gate_session_step s=some r):FnPG Tryz.prog (GL mx) 62 [.box 80 [.v (.int .i64 s.Gate.Phase), .v (.string s.Gate.Helo), .v (.bool s.Gate.From.Null), .v (.string s.Gate.From.Local), .v (.string s.Gate.From.Domain), .fl (.own 26) 3 (flatten (map T_Path.enc s.Gate.To)), .v (.bool s.Gate.Quiet), .mkr 5 (map (int .u8) s.Gate.Buf), .v (.string s.Gate.Challenge), .v (.bool s.Gate.Proved), .v (.string ((s.config.Domains.getD 0 (⟨#[]⟩:ByteArray)))), .v (.string ((s.config.Domains.getD 1 (⟨#[]⟩:ByteArray)))), .v (.int .i64 s.config.Expiry), .v (.string s.config.User), .v (.string s.config.Secret), .v (.int .i64 s.config.Log), .v (.bool s.config.Held), .v (.int .i64 s.site), .v (.int .i64 s.at_), .fr (.own 55) false 12 (flatten (map T_Out.ienc s.out))]] [.box 80 [.v (.int .i64 r.2.Gate.Phase), .v (.string r.2.Gate.Helo), .v (.bool r.2.Gate.From.Null), .v (.string r.2.Gate.From.Local), .v (.string r.2.Gate.From.Domain), .fl (.own 26) 3 (flatten (map T_Path.enc r.2.Gate.To)), .v (.bool r.2.Gate.Quiet), .mkr 5 (map (int .u8) r.2.Gate.Buf), .v (.string r.2.Gate.Challenge), .v (.bool r.2.Gate.Proved), .v (.string ((r.2.config.Domains.getD 0 (⟨#[]⟩:ByteArray)))), .v (.string ((r.2.config.Domains.getD 1 (⟨#[]⟩:ByteArray)))), .v (.int .i64 r.2.config.Expiry), .v (.string r.2.config.User), .v (.string r.2.config.Secret), .v (.int .i64 r.2.config.Log), .v (.bool r.2.config.Held), .v (.int .i64 r.2.site), .v (.int .i64 r.2.at_), .fr (.own 55) false 12 (flatten (map T_Out.ienc r.2.out))]] (.v (.bool r.1)):=by
  unfold Sh.gate_session_step at h
  refine yPG 55 func62 fun args0 hargs0 g0 hn hio => ?_
  refine yyy hn 1 [0,55,0] ?_
  refine ht_seq ?_
  refine yyy hn 6 [0,55,11,0] ?_
  refine ht_cond _ rfl (fun hb1 => ?_) (fun hb1 => ?_)
  ·have h:=cond_t hb1 h
   refine ht_seq ?_
   obtain ⟨v2, hv2, h⟩:=zn h
   refine yx hn 1 ?_
   refine yk [0] [12,55] ?_
   refine ytt (0,.box 80 (vi v2.2.Gate.Phase::vs v2.2.Gate.Helo::vb v2.2.Gate.From.Null::vs v2.2.Gate.From.Local::vs v2.2.Gate.From.Domain::.fl (.own 26) 3 (flatten (map T_Path.enc v2.2.Gate.To))::vb v2.2.Gate.Quiet::.mkr 5 (map (int .u8) v2.2.Gate.Buf)::vs v2.2.Gate.Challenge::vb v2.2.Gate.Proved::T_Config.c v2.2.config [vi v2.2.site,vi v2.2.at_,.fr (.own 55) false 12 (flatten (map T_Out.ienc v2.2.out))])) (13,vb v2.1) 1 ⟨op_callPSG _ _ _ _ 13 55 73 [.tmp 12] [] _ _ _ rfl call73 rfl rfl rfl rfl (fun _ h=>h) (ok_gate_session_data mx ((T_gate_session.mk ((T_Gate.mk s.Gate.Phase s.Gate.Helo (T_Path.mk s.Gate.From.Null s.Gate.From.Local s.Gate.From.Domain) s.Gate.To s.Gate.Quiet s.Gate.Buf s.Gate.Challenge s.Gate.Proved)) ((T_Config.mk (([(s.config.Domains.getD 0 z0),(s.config.Domains.getD 1 z0)]:List ByteArray)) s.config.Expiry s.config.User s.config.Secret s.config.Log s.config.Held)) s.site s.at_ s.out)) _ hv2) (zl rfl) rfl rfl rfl rfl rfl rfl rfl⟩ ?_
   refine yee [0,55,2,0] ?_
   refine ht_ret ?_
   refine pt_pick [2,0,3] (by kernel_rfl) (es':=[(_,_),(_,_),(_,_)]) rfl ?_
   refine pt_r_then ?_
   obtain rfl:=zi h
   exact pt_retP (es:=[(2, .v (.bool v2.1))]) (posts:=[.box 80 [.v (.int .i64 v2.2.Gate.Phase),.v (.string v2.2.Gate.Helo),.v (.bool v2.2.Gate.From.Null),.v (.string v2.2.Gate.From.Local),.v (.string v2.2.Gate.From.Domain),.fl (.own 26) 3 (flatten (map T_Path.enc v2.2.Gate.To)),.v (.bool v2.2.Gate.Quiet),.mkr 5 (map (int .u8) v2.2.Gate.Buf),.v (.string v2.2.Gate.Challenge),.v (.bool v2.2.Gate.Proved),.v (.string ((v2.2.config.Domains.getD 0 (⟨#[]⟩:ByteArray)))),.v (.string ((v2.2.config.Domains.getD 1 (⟨#[]⟩:ByteArray)))),.v (.int .i64 v2.2.config.Expiry),.v (.string v2.2.config.User),.v (.string v2.2.config.Secret),.v (.int .i64 v2.2.config.Log),.v (.bool v2.2.config.Held),.v (.int .i64 v2.2.site),.v (.int .i64 v2.2.at_),.fr (.own 55) false 12 (flatten (map T_Out.ienc v2.2.out))]]) hio rfl rfl (.tmp _ _ .nil) rfl rfl hargs0 rfl
  ·have h:=cond_f hb1 h
   refine ht_skip ?_
   refine pt_then (ht_seq ?_)
   obtain ⟨v3, hv3, h⟩:=zn h
   refine yx hn 5 ?_
   refine yS (.fl (.own 5) 1 (map (int .u8) [13,10])) 0 ⟨op_buildSlice _ _ 1 (.int .u8 0) (map (int .u8) [13,10]) [(0,.int .u8 13),(1,.int .u8 10)] underlying28 sz5 zr5 (fun _ V w o a hv hes=>by simp only [List.map_toArray,List.map_cons,List.map_nil]; try rfl) (litfill (by simp [Instr.fill,Value.cells]; rfl) (by simp [List.range,List.range.loop] <;> rfl)) (by simp [Value.oneCell']) rfl (by decide) (by decide) (by decide)⟩ ?_
   refine yk [20] [] ?_
   refine yt (21,.fl .ro 1 (map (int .u8) [13,10])) 0 ⟨op_conv_mark _ _ _ underlying28 underlying5 (by intro h; cases h)⟩ ?_
   refine yX (e:=5) 22 64 0 7 s.Gate.Buf [13, 10] (fun ca22 cc22=>[.v (.int .i64 s.Gate.Phase), .v (.string s.Gate.Helo), .v (.bool s.Gate.From.Null), .v (.string s.Gate.From.Local), .v (.string s.Gate.From.Domain), .fl (.own 26) 3 (flatten (map T_Path.enc s.Gate.To)), .v (.bool s.Gate.Quiet), .v (.slice ca22 (s.Gate.Buf.length) cc22), .v (.string s.Gate.Challenge), .v (.bool s.Gate.Proved), .v (.string ((s.config.Domains.getD 0 (⟨#[]⟩:ByteArray)))), .v (.string ((s.config.Domains.getD 1 (⟨#[]⟩:ByteArray)))), .v (.int .i64 s.config.Expiry), .v (.string s.config.User), .v (.string s.config.Secret), .v (.int .i64 s.config.Log), .v (.bool s.config.Held), .v (.int .i64 s.site), .v (.int .i64 s.at_), .fr (.own 55) false 12 (flatten (map T_Out.ienc s.out))]) ?_ (fun ca22 cc22 => ?_)
   ·exact op_cut _ 22 0 64 7 (gln:=55) _ _ rfl call74 cutok74 rfl (gl_mem0 mx) rfl rfl rfl (zl rfl) rfl (cutO_ok hv3).1 (cutO_ok hv3).2.1 (cutO_ok hv3).2.2.1 (cutO_ok hv3).2.2.2 (Nat.ne_of_beq_eq_false rfl) rfl
   refine yw [] 0 ?_
   refine ym 6 ?_
   refine yee [0,55,64,3,4,5,0] ?_
   refine ht_seq ?_
   refine yyy hn 1 [0,55,64,3,4,26,0] ?_
   refine ht_cond _ rfl (fun hb4 => ?_) (fun hb4 => ?_)
   ·have h:=cond_t hb4 h
    refine yyy hn 6 [0,55,64,3,0] ?_
    refine ht_seq ?_
    obtain ⟨v5, hv5, h⟩:=zn h
    obtain ⟨v6, hv6, h⟩:=zn h
    refine yx hn 2 ?_
    refine yS (vs v5) 0 ⟨lP 64 hv5 underlying28 underlying9 underlying5 rfl rfl (cut_ml _ _) rfl⟩ ?_
    refine ys_close (gs:=64) (t:=0) (cs':=[.v (.int .i64 s.Gate.Phase), .v (.string s.Gate.Helo), .v (.bool s.Gate.From.Null), .v (.string s.Gate.From.Local), .v (.string s.Gate.From.Domain), .fl (.own 26) 3 (flatten (map T_Path.enc s.Gate.To)), .v (.bool s.Gate.Quiet), .mkr 5 (map (int .u8) (cutR s.Gate.Buf [13, 10])), .v (.string s.Gate.Challenge), .v (.bool s.Gate.Proved), .v (.string ((s.config.Domains.getD 0 (⟨#[]⟩:ByteArray)))), .v (.string ((s.config.Domains.getD 1 (⟨#[]⟩:ByteArray)))), .v (.int .i64 s.config.Expiry), .v (.string s.config.User), .v (.string s.config.Secret), .v (.int .i64 s.config.Log), .v (.bool s.config.Held), .v (.int .i64 s.site), .v (.int .i64 s.at_), .fr (.own 55) false 12 (flatten (map T_Out.ienc s.out))]) 7 (map (int .u8) (cutR s.Gate.Buf [13, 10])) (zl rfl) rfl (fun _ h=>cut_yes (by assumption) h) (fun _=>ones_u8) (cut_blk _ _ _ _ _ _ _) rfl ?_
    refine yw [] 0 ?_
    refine yk [0] [32,34,55] ?_
    refine ytt (0,.box 80 (vi v6.Gate.Phase::vs v6.Gate.Helo::vb v6.Gate.From.Null::vs v6.Gate.From.Local::vs v6.Gate.From.Domain::.fl (.own 26) 3 (flatten (map T_Path.enc v6.Gate.To))::vb v6.Gate.Quiet::.mkr 5 (map (int .u8) v6.Gate.Buf)::vs v6.Gate.Challenge::vb v6.Gate.Proved::T_Config.c v6.config [vi v6.site,vi v6.at_,.fr (.own 55) false 12 (flatten (map T_Out.ienc v6.out))])) (35,.tup []) 0 ⟨op_callPSG _ _ _ _ 35 55 75 [.tmp 32] [.tmp 34] _ _ _ rfl call75 rfl rfl rfl rfl (fun _ h=>h) (ok_gate_session_line mx ((T_gate_session.mk ((T_Gate.mk s.Gate.Phase s.Gate.Helo (T_Path.mk s.Gate.From.Null s.Gate.From.Local s.Gate.From.Domain) s.Gate.To s.Gate.Quiet (cutR s.Gate.Buf [13,10]) s.Gate.Challenge s.Gate.Proved)) ((T_Config.mk (([(s.config.Domains.getD 0 z0),(s.config.Domains.getD 1 z0)]:List ByteArray)) s.config.Expiry s.config.User s.config.Secret s.config.Log s.config.Held)) s.site s.at_ s.out)) v5 _ hv6) (zl rfl) rfl rfl rfl rfl rfl rfl rfl⟩ ?_
    refine yee [0,55,0] ?_
    refine yyy hn 1 [0,55,2,0] ?_
    refine ht_ret ?_
    refine pt_pick [2,0,3] (by kernel_rfl) (es':=[(_,_),(_,_),(_,_)]) rfl ?_
    refine pt_r_then ?_
    obtain rfl:=zi h
    exact pt_retP (es:=[(2, .v (.bool true))]) (posts:=[.box 80 [.v (.int .i64 v6.Gate.Phase),.v (.string v6.Gate.Helo),.v (.bool v6.Gate.From.Null),.v (.string v6.Gate.From.Local),.v (.string v6.Gate.From.Domain),.fl (.own 26) 3 (flatten (map T_Path.enc v6.Gate.To)),.v (.bool v6.Gate.Quiet),.mkr 5 (map (int .u8) v6.Gate.Buf),.v (.string v6.Gate.Challenge),.v (.bool v6.Gate.Proved),.v (.string ((v6.config.Domains.getD 0 (⟨#[]⟩:ByteArray)))),.v (.string ((v6.config.Domains.getD 1 (⟨#[]⟩:ByteArray)))),.v (.int .i64 v6.config.Expiry),.v (.string v6.config.User),.v (.string v6.config.Secret),.v (.int .i64 v6.config.Log),.v (.bool v6.config.Held),.v (.int .i64 v6.site),.v (.int .i64 v6.at_),.fr (.own 55) false 12 (flatten (map T_Out.ienc v6.out))]]) hio rfl rfl (.tmp _ _ .nil) rfl rfl hargs0 rfl
   ·have h:=cond_f hb4 h
    refine ht_skip ?_
    refine pt_then (ht_seq ?_)
    refine yxx hn 0 ?_
    refine ys_close (gs:=64) (t:=0) (cs':=[.v (.int .i64 s.Gate.Phase), .v (.string s.Gate.Helo), .v (.bool s.Gate.From.Null), .v (.string s.Gate.From.Local), .v (.string s.Gate.From.Domain), .fl (.own 26) 3 (flatten (map T_Path.enc s.Gate.To)), .v (.bool s.Gate.Quiet), .mkr 5 (map (int .u8) s.Gate.Buf), .v (.string s.Gate.Challenge), .v (.bool s.Gate.Proved), .v (.string ((s.config.Domains.getD 0 (⟨#[]⟩:ByteArray)))), .v (.string ((s.config.Domains.getD 1 (⟨#[]⟩:ByteArray)))), .v (.int .i64 s.config.Expiry), .v (.string s.config.User), .v (.string s.config.Secret), .v (.int .i64 s.config.Log), .v (.bool s.config.Held), .v (.int .i64 s.site), .v (.int .i64 s.at_), .fr (.own 55) false 12 (flatten (map T_Out.ienc s.out))]) 7 (map (int .u8) s.Gate.Buf) (zl rfl) rfl (fun _ h=>h) (fun _=>ones_u8) (.inr rfl) rfl ?_
    refine yw [] 5 ?_
    refine yS (vi (s.Gate.Buf.length:Int)) 1 ⟨op_len_mk _ _ _ underlying28 rfl (List.length_map _)⟩ ?_
    refine yee [0,55,42,0] ?_
    refine ht_cond _ rfl (fun hb7 => ?_) (fun hb7 => ?_)
    ·have h:=cond_t hb7 h
     refine yyy hn 1 [0,55,2,0] ?_
     refine ht_ret ?_
     refine pt_pick [2,0,3] (by kernel_rfl) (es':=[(_,_),(_,_),(_,_)]) rfl ?_
     refine pt_r_then ?_
     obtain rfl:=zi h
     exact pt_retP (es:=[(2, .v (.bool false))]) (posts:=[.box 80 [.v (.int .i64 s.Gate.Phase),.v (.string s.Gate.Helo),.v (.bool s.Gate.From.Null),.v (.string s.Gate.From.Local),.v (.string s.Gate.From.Domain),.fl (.own 26) 3 (flatten (map T_Path.enc s.Gate.To)),.v (.bool s.Gate.Quiet),.mkr 5 (map (int .u8) s.Gate.Buf),.v (.string s.Gate.Challenge),.v (.bool s.Gate.Proved),.v (.string ((s.config.Domains.getD 0 (⟨#[]⟩:ByteArray)))),.v (.string ((s.config.Domains.getD 1 (⟨#[]⟩:ByteArray)))),.v (.int .i64 s.config.Expiry),.v (.string s.config.User),.v (.string s.config.Secret),.v (.int .i64 s.config.Log),.v (.bool s.config.Held),.v (.int .i64 s.site),.v (.int .i64 s.at_),.fr (.own 55) false 12 (flatten (map T_Out.ienc s.out))]]) hio rfl rfl (.tmp _ _ .nil) rfl rfl hargs0 rfl
    ·have h:=cond_f hb7 h
     refine ht_skip ?_
     refine pt_then ?_
     refine yyy hn 5 [0,55,0] ?_
     refine ht_seq ?_
     refine ht_joinS h (fun ((s10,s11,s12,s13,s14,s15,s16,s17,s18,s19,s20,s21,s22,s23,s24,s25,s26,s27,s28,s29):Int×ByteArray×Bool×ByteArray×ByteArray×(List T_Path)×Bool×(List Int)×ByteArray×Bool×ByteArray×ByteArray×Int×ByteArray×ByteArray×Int×Bool×Int×Int×(List T_Out))=>[(0,.box 80 [vi s10,vs s11,vb s12,vs s13,vs s14,.fl (.own 26) 3 (flatten (map T_Path.enc s15)),vb s16,.mkr 5 (map (int .u8) s17),vs s18,vb s19,vs s20,vs s21,vi s22,vs s23,vs s24,vi s25,vb s26,vi s27,vi s28,.fr (.own 55) false 12 (flatten (map T_Out.ienc s29))]),(55,.glob (GL mx)),(0,.v (List.getD args0 0 undef))]) ?_ ?_
     ·rintro ⟨s10, s11, s12, s13, s14, s15, s16, s17, s18, s19, s20, s21, s22, s23, s24, s25, s26, s27, s28, s29⟩ h
      refine pt_then ?_
      refine yyy hn 1 [0,55,2,0] ?_
      refine ht_ret ?_
      refine pt_pick [2,0,3] (by kernel_rfl) (es':=[(_,_),(_,_),(_,_)]) rfl ?_
      obtain rfl:=zi h
      exact pt_retP (es:=[(2, .v (.bool true))]) (posts:=[.box 80 [.v (.int .i64 s10),.v (.string s11),.v (.bool s12),.v (.string s13),.v (.string s14),.fl (.own 26) 3 (flatten (map T_Path.enc s15)),.v (.bool s16),.mkr 5 (map (int .u8) s17),.v (.string s18),.v (.bool s19),.v (.string s20),.v (.string s21),.v (.int .i64 s22),.v (.string s23),.v (.string s24),.v (.int .i64 s25),.v (.bool s26),.v (.int .i64 s27),.v (.int .i64 s28),.fr (.own 55) false 12 (flatten (map T_Out.ienc s29))]]) hio rfl rfl (.tmp _ _ .nil) rfl rfl hargs0 rfl
     ·intro u30 h hl31 hr32
      refine yyy hn 6 [0,55,52,0] ?_
      refine ht_cond _ rfl (fun hb33 => ?_) (fun hb33 => ?_)
      ·have h:=cond_t hb33 h
       obtain ⟨v9, hv9, h⟩:=zn h
       refine yx hn 1 ?_
       refine yk [0] [53] ?_
       refine ytt (0,.box 80 (vi v9.Gate.Phase::vs v9.Gate.Helo::vb v9.Gate.From.Null::vs v9.Gate.From.Local::vs v9.Gate.From.Domain::.fl (.own 26) 3 (flatten (map T_Path.enc v9.Gate.To))::vb v9.Gate.Quiet::.mkr 5 (map (int .u8) v9.Gate.Buf)::vs v9.Gate.Challenge::vb v9.Gate.Proved::T_Config.c v9.config [vi v9.site,vi v9.at_,.fr (.own 55) false 12 (flatten (map T_Out.ienc v9.out))])) (54,.tup []) 0 ⟨op_callP _ _ _ _ 54 76 [.tmp 53] [_] _ _ _ rfl call76 rfl rfl rfl ((ok_gate_session_reply ((T_gate_session.mk ((T_Gate.mk s.Gate.Phase s.Gate.Helo (T_Path.mk s.Gate.From.Null s.Gate.From.Local s.Gate.From.Domain) s.Gate.To s.Gate.Quiet [] s.Gate.Challenge s.Gate.Proved)) ((T_Config.mk (([(s.config.Domains.getD 0 z0),(s.config.Domains.getD 1 z0)]:List ByteArray)) s.config.Expiry s.config.User s.config.Secret s.config.Log s.config.Held)) s.site s.at_ s.out)) 500 _ hv9).args (subs_cons (sub_box (subs_cons (sub_refl _) (subs_cons (sub_refl _) (subs_cons (sub_refl _) (subs_cons (sub_refl _) (subs_cons (sub_refl _) (subs_cons (sub_refl _) (subs_cons (sub_refl _) (subs_cons (sub_nil_mk 5) (subs_cons (sub_refl _) (subs_cons (sub_refl _) (subs_cons (sub_refl _) (subs_cons (sub_refl _) (subs_cons (sub_refl _) (subs_cons (sub_refl _) (subs_cons (sub_refl _) (subs_cons (sub_refl _) (subs_cons (sub_refl _) (subs_cons (sub_refl _) (subs_cons (sub_refl _) (subs_cons (sub_refl _) (subs_nil)))))))))))))))))))))) (subs_cons (sub_refl _) (subs_nil)))) (zl rfl) rfl rfl rfl rfl rfl rfl rfl rfl⟩ ?_
       refine ye [0,55,0] ?_
       exact hl31 _ (zi h).symm
      ·have h:=cond_f hb33 h
       refine ht_skip ?_
       refine pt_pick [0,1,3] (by kernel_rfl) (es':=[(_,_),(_,_),(_,_)]) rfl ?_
       refine pt_sub (fs:=[(0,.box 80 (vi s.Gate.Phase::vs s.Gate.Helo::vb s.Gate.From.Null::vs s.Gate.From.Local::vs s.Gate.From.Domain::.fl (.own 26) 3 (flatten (map T_Path.enc s.Gate.To))::vb s.Gate.Quiet::.mkr 5 (map (int .u8) [])::vs s.Gate.Challenge::vb s.Gate.Proved::T_Config.c s.config [vi s.site,vi s.at_,.fr (.own 55) false 12 (flatten (map T_Out.ienc s.out))])),(55,.glob (GL mx)),(0,.v (List.getD args0 0 undef))]) (.box _ _ (subs_cons (sub_refl _) (subs_cons (sub_refl _) (subs_cons (sub_refl _) (subs_cons (sub_refl _) (subs_cons (sub_refl _) (subs_cons (sub_refl _) (subs_cons (sub_refl _) (subs_cons (sub_nil_mk 5) (subs_cons (sub_refl _) (subs_cons (sub_refl _) (subs_cons (sub_refl _) (subs_cons (sub_refl _) (subs_cons (sub_refl _) (subs_cons (sub_refl _) (subs_cons (sub_refl _) (subs_cons (sub_refl _) (subs_cons (sub_refl _) (subs_cons (sub_refl _) (subs_cons (sub_refl _) (subs_cons (sub_refl _) (subs_nil))))))))))))))))))))) rfl (.same _ (.same _ .nil))) ?_
       exact hl31 _ (zi h).symm
theorem ok_gate_session_run (mx:Int×Nat×Value) (s:T_gate_session) (r:T_gate_session) (h:Sh.gate_session_run s=some r):FnPG Tryz.prog (GL mx) 39 [.box 80 [.v (.int .i64 s.Gate.Phase), .v (.string s.Gate.Helo), .v (.bool s.Gate.From.Null), .v (.string s.Gate.From.Local), .v (.string s.Gate.From.Domain), .fl (.own 26) 3 (flatten (map T_Path.enc s.Gate.To)), .v (.bool s.Gate.Quiet), .mkr 5 (map (int .u8) s.Gate.Buf), .v (.string s.Gate.Challenge), .v (.bool s.Gate.Proved), .v (.string ((s.config.Domains.getD 0 (⟨#[]⟩:ByteArray)))), .v (.string ((s.config.Domains.getD 1 (⟨#[]⟩:ByteArray)))), .v (.int .i64 s.config.Expiry), .v (.string s.config.User), .v (.string s.config.Secret), .v (.int .i64 s.config.Log), .v (.bool s.config.Held), .v (.int .i64 s.site), .v (.int .i64 s.at_), .fr (.own 55) false 12 (flatten (map T_Out.ienc s.out))]] [.box 80 [.v (.int .i64 r.Gate.Phase), .v (.string r.Gate.Helo), .v (.bool r.Gate.From.Null), .v (.string r.Gate.From.Local), .v (.string r.Gate.From.Domain), .fl (.own 26) 3 (flatten (map T_Path.enc r.Gate.To)), .v (.bool r.Gate.Quiet), .mkr 5 (map (int .u8) r.Gate.Buf), .v (.string r.Gate.Challenge), .v (.bool r.Gate.Proved), .v (.string ((r.config.Domains.getD 0 (⟨#[]⟩:ByteArray)))), .v (.string ((r.config.Domains.getD 1 (⟨#[]⟩:ByteArray)))), .v (.int .i64 r.config.Expiry), .v (.string r.config.User), .v (.string r.config.Secret), .v (.int .i64 r.config.Log), .v (.bool r.config.Held), .v (.int .i64 r.site), .v (.int .i64 r.at_), .fr (.own 55) false 12 (flatten (map T_Out.ienc r.out))]] (.tup []):=by
  unfold Sh.gate_session_run at h
  refine yPG 4 func39 fun args0 hargs0 g0 hn hio => ?_
  refine ht_loopS h (fun ((s24,s25,s26,s27,s28,s29,s30,s31,s32,s33,s34,s35,s36,s37,s38,s39,s40,s41,s42,s43):Int×ByteArray×Bool×ByteArray×ByteArray×(List T_Path)×Bool×(List Int)×ByteArray×Bool×ByteArray×ByteArray×Int×ByteArray×ByteArray×Int×Bool×Int×Int×(List T_Out))=>[(0,.box 80 [vi s24,vs s25,vb s26,vs s27,vs s28,.fl (.own 26) 3 (flatten (map T_Path.enc s29)),vb s30,.mkr 5 (map (int .u8) s31),vs s32,vb s33,vs s34,vs s35,vi s36,vs s37,vs s38,vi s39,vb s40,vi s41,vi s42,.fr (.own 55) false 12 (flatten (map T_Out.ienc s43))]),(0,.v (List.getD args0 0 undef)),(4,.glob (GL mx))]) (fun ((s45,s46,s47,s48,s49,s50,s51,s52,s53,s54,s55,s56,s57,s58,s59,s60,s61,s62,s63,s64):Int×ByteArray×Bool×ByteArray×ByteArray×(List T_Path)×Bool×(List Int)×ByteArray×Bool×ByteArray×ByteArray×Int×ByteArray×ByteArray×Int×Bool×Int×Int×(List T_Out))=>[(0,.box 80 [vi s45,vs s46,vb s47,vs s48,vs s49,.fl (.own 26) 3 (flatten (map T_Path.enc s50)),vb s51,.mkr 5 (map (int .u8) s52),vs s53,vb s54,vs s55,vs s56,vi s57,vs s58,vs s59,vi s60,vb s61,vi s62,vi s63,.fr (.own 55) false 12 (flatten (map T_Out.ienc s64))]),(4,.glob (GL mx)),(0,.v (List.getD args0 0 undef))]) ?_ ?_
  ·rintro ⟨s45, s46, s47, s48, s49, s50, s51, s52, s53, s54, s55, s56, s57, s58, s59, s60, s61, s62, s63, s64⟩ h
   refine pt_pick [0,2] (by kernel_rfl) (es':=[(_,_),(_,_)]) rfl ?_
   obtain rfl:=zi h
   exact pt_endP (es:=[]) (posts:=[.box 80 [.v (.int .i64 s45),.v (.string s46),.v (.bool s47),.v (.string s48),.v (.string s49),.fl (.own 26) 3 (flatten (map T_Path.enc s50)),.v (.bool s51),.mkr 5 (map (int .u8) s52),.v (.string s53),.v (.bool s54),.v (.string s55),.v (.string s56),.v (.int .i64 s57),.v (.string s58),.v (.string s59),.v (.int .i64 s60),.v (.bool s61),.v (.int .i64 s62),.v (.int .i64 s63),.fr (.own 55) false 12 (flatten (map T_Out.ienc s64))]]) hio rfl rfl .nil rfl rfl hargs0 rfl
  ·rintro u65 hl66 hr67 ⟨s24, s25, s26, s27, s28, s29, s30, s31, s32, s33, s34, s35, s36, s37, s38, s39, s40, s41, s42, s43⟩ rr70 h ho68
   refine ht_seq ?_
   refine ht_seq ?_
   obtain ⟨v1, hv1, h⟩:=zn h
   refine yx hn 1 ?_
   refine yk [0] [2,4] ?_
   refine ytt (0,.box 80 (vi v1.2.Gate.Phase::vs v1.2.Gate.Helo::vb v1.2.Gate.From.Null::vs v1.2.Gate.From.Local::vs v1.2.Gate.From.Domain::.fl (.own 26) 3 (flatten (map T_Path.enc v1.2.Gate.To))::vb v1.2.Gate.Quiet::.mkr 5 (map (int .u8) v1.2.Gate.Buf)::vs v1.2.Gate.Challenge::vb v1.2.Gate.Proved::T_Config.c v1.2.config [vi v1.2.site,vi v1.2.at_,.fr (.own 55) false 12 (flatten (map T_Out.ienc v1.2.out))])) (3,vb v1.1) 0 ⟨op_callPSG _ _ _ _ 3 4 62 [.tmp 2] [] _ _ _ rfl call62 rfl rfl rfl rfl (fun _ h=>h) (ok_gate_session_step mx ((T_gate_session.mk ((T_Gate.mk s24 s25 (T_Path.mk s26 s27 s28) s29 s30 s31 s32 s33)) ((T_Config.mk ([s34,s35]:List ByteArray) s36 s37 s38 s39 s40)) s41 s42 s43)) _ hv1) (zl rfl) rfl rfl rfl rfl rfl rfl rfl⟩ ?_
   refine yee [0,4,3,0] ?_
   refine ht_cond _ rfl (fun hb71 => ?_) (fun hb71 => ?_)
   ·have h:=cond_t hb71 h
    refine ht_skip ?_
    refine pt_then ?_
    refine ht_block ?_
    refine ht_skip ?_
    refine pt_inb ?_
    refine pt_pick [0,3,1] (by kernel_rfl) (es':=[(_,_),(_,_),(_,_)]) rfl ?_
    exact pt_next _ (zi h).symm rfl
   ·have h:=cond_f hb71 h
    refine ht_exit ?_
    refine pt_x_then ?_
    refine pt_x_then ?_
    refine pt_x_in ?_
    refine pt_pick [0,1,3] (by kernel_rfl) (es':=[(_,_),(_,_),(_,_)]) rfl ?_
    exact hl66 _ (ho68 _ (zi h).symm).symm
end Go.Proofs.YtjnnkhmhjcjhdaaGreatDoor
