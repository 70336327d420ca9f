/-
  The model's runs are what is told in Lean.
-/
import Derived.Test.YtjnnkhmhjcjhdaaGreatDoorProg
import Derived.KernelRfl
import Derived.Test.YtjnnkhmhjcjhdaaGreatDoorShelf
import Derived.Test.YtjnnkhmhjcjhdaaGreatDoorIdx
import Derived.Test.YtjnnkhmhjcjhdaaGreatDoorB3
import Derived.Test.YtjnnkhmhjcjhdaaGreatDoorC1
import Derived.Test.YtjnnkhmhjcjhdaaGreatDoorBC
import Derived.Test.YtjnnkhmhjcjhdaaGreatDoorOkc7
set_option linter.unusedVariables false
set_option linter.unusedSimpArgs false
set_option maxHeartbeats 1000000
namespace Go.Proofs.YtjnnkhmhjcjhdaaGreatDoor
open Go.Abs Go.Abs.Sh Tryz
open List (map flatten)
open Value (int)
theorem ok_gate_session_rcpt (mx:Int×Nat×Value) (s:T_gate_session) (c:T_Cmd) (r:(Int×T_gate_session)) (h:Sh.gate_session_rcpt s c=some r):FnPG Tryz.prog (GL mx) 113 [.box 80 [.v (.int .i64 s.Gate.Phase), .v (.string s.Gate.Helo), .v (.bool s.Gate.From.Null), .v (.string s.Gate.From.Local), .v (.string s.Gate.From.Domain), .fl (.own 26) 3 (flatten (map T_Path.enc s.Gate.To)), .v (.bool s.Gate.Quiet), .mkr 5 (map (int .u8) s.Gate.Buf), .v (.string s.Gate.Challenge), .v (.bool s.Gate.Proved), .v (.string ((s.config.Domains.getD 0 (⟨#[]⟩:ByteArray)))), .v (.string ((s.config.Domains.getD 1 (⟨#[]⟩:ByteArray)))), .v (.int .i64 s.config.Expiry), .v (.string s.config.User), .v (.string s.config.Secret), .v (.int .i64 s.config.Log), .v (.bool s.config.Held), .v (.int .i64 s.site), .v (.int .i64 s.at_), .fr (.own 55) false 12 (flatten (map T_Out.ienc s.out))], .agg [.v (.int .i64 c.Kind), .v (.string c.Text), .v (.bool c.Path.Null), .v (.string c.Path.Local), .v (.string c.Path.Domain), .fl .shr 2 (flatten (map T_Param.enc c.Params))]] [.box 80 [.v (.int .i64 r.2.Gate.Phase), .v (.string r.2.Gate.Helo), .v (.bool r.2.Gate.From.Null), .v (.string r.2.Gate.From.Local), .v (.string r.2.Gate.From.Domain), .fl (.own 26) 3 (flatten (map T_Path.enc r.2.Gate.To)), .v (.bool r.2.Gate.Quiet), .mkr 5 (map (int .u8) r.2.Gate.Buf), .v (.string r.2.Gate.Challenge), .v (.bool r.2.Gate.Proved), .v (.string ((r.2.config.Domains.getD 0 (⟨#[]⟩:ByteArray)))), .v (.string ((r.2.config.Domains.getD 1 (⟨#[]⟩:ByteArray)))), .v (.int .i64 r.2.config.Expiry), .v (.string r.2.config.User), .v (.string r.2.config.Secret), .v (.int .i64 r.2.config.Log), .v (.bool r.2.config.Held), .v (.int .i64 r.2.site), .v (.int .i64 r.2.at_), .fr (.own 55) false 12 (flatten (map T_Out.ienc r.2.out))]] (.v (.int .i64 r.1)):=by
  unfold Sh.gate_session_rcpt at h
  refine yPG 81 func113 fun args0 hargs0 g0 hn hio => ?_
  refine yyy hn 2 [0,81,3,0] ?_
  refine ht_seq ?_
  refine ht_block ?_
  refine ht_seq ?_
  refine ht_joinS h (fun (s1:Bool)=>[(0,.box 80 (vi s.Gate.Phase::vs s.Gate.Helo::vb s.Gate.From.Null::vs s.Gate.From.Local::vs s.Gate.From.Domain::.fl (.own 26) 3 (flatten (map T_Path.enc s.Gate.To))::vb s.Gate.Quiet::.mkr 5 (map (int .u8) s.Gate.Buf)::vs s.Gate.Challenge::vb s.Gate.Proved::T_Config.c s.config [vi s.site,vi s.at_,.fr (.own 55) false 12 (flatten (map T_Out.ienc s.out))])),(81,.glob (GL mx)),(3,.box 122 (T_Cmd.c c [])),(7,vb s1),(0,.v (List.getD args0 0 undef))]) ?_ ?_
  ·rintro s1 h
   refine pt_then ?_
   refine ht_cond _ rfl (fun hb5 => ?_) (fun hb5 => ?_)
   ·have h:=cond_t hb5 h
    refine yyy hn 1 [0,81,4,0] ?_
    refine ht_ret ?_
    refine pt_pick [2,0,3] (by kernel_rfl) (es':=[(_,_),(_,_),(_,_)]) rfl ?_
    refine pt_r_in ?_
    refine pt_r_then ?_
    obtain rfl:=zi h
    exact pt_retP (es:=[(4, .v (.int .i64 503))]) (posts:=[.box 80 [.v (.int .i64 s.Gate.Phase),.v (.string s.Gate.Helo),.v (.bool s.Gate.From.Null),.v (.string s.Gate.From.Local),.v (.string s.Gate.From.Domain),.fl (.own 26) 3 (flatten (map T_Path.enc s.Gate.To)),.v (.bool s.Gate.Quiet),.mkr 5 (map (int .u8) s.Gate.Buf),.v (.string s.Gate.Challenge),.v (.bool s.Gate.Proved),.v (.string ((s.config.Domains.getD 0 (⟨#[]⟩:ByteArray)))),.v (.string ((s.config.Domains.getD 1 (⟨#[]⟩:ByteArray)))),.v (.int .i64 s.config.Expiry),.v (.string s.config.User),.v (.string s.config.Secret),.v (.int .i64 s.config.Log),.v (.bool s.config.Held),.v (.int .i64 s.site),.v (.int .i64 s.at_),.fr (.own 55) false 12 (flatten (map T_Out.ienc s.out))]]) hio rfl rfl (.tmp _ _ .nil) rfl rfl hargs0 rfl
   ·have h:=cond_f hb5 h
    refine yyy hn 8 [0,81,3,22,0] ?_
    refine ht_cond _ rfl (fun hb6 => ?_) (fun hb6 => ?_)
    ·have h:=cond_t hb6 h
     refine yyy hn 1 [0,81,4,0] ?_
     refine ht_ret ?_
     refine pt_pick [2,0,3] (by kernel_rfl) (es':=[(_,_),(_,_),(_,_)]) rfl ?_
     refine pt_r_in ?_
     refine pt_r_then ?_
     obtain rfl:=zi h
     exact pt_retP (es:=[(4, .v (.int .i64 452))]) (posts:=[.box 80 [.v (.int .i64 s.Gate.Phase),.v (.string s.Gate.Helo),.v (.bool s.Gate.From.Null),.v (.string s.Gate.From.Local),.v (.string s.Gate.From.Domain),.fl (.own 26) 3 (flatten (map T_Path.enc s.Gate.To)),.v (.bool s.Gate.Quiet),.mkr 5 (map (int .u8) s.Gate.Buf),.v (.string s.Gate.Challenge),.v (.bool s.Gate.Proved),.v (.string ((s.config.Domains.getD 0 (⟨#[]⟩:ByteArray)))),.v (.string ((s.config.Domains.getD 1 (⟨#[]⟩:ByteArray)))),.v (.int .i64 s.config.Expiry),.v (.string s.config.User),.v (.string s.config.Secret),.v (.int .i64 s.config.Log),.v (.bool s.config.Held),.v (.int .i64 s.site),.v (.int .i64 s.at_),.fr (.own 55) false 12 (flatten (map T_Out.ienc s.out))]]) hio rfl rfl (.tmp _ _ .nil) rfl rfl hargs0 rfl
    ·have h:=cond_f hb6 h
     refine ht_seq ?_
     refine ht_joinS h (fun (s9:Bool)=>[(0,.box 80 (vi s.Gate.Phase::vs s.Gate.Helo::vb s.Gate.From.Null::vs s.Gate.From.Local::vs s.Gate.From.Domain::.fl (.own 26) 3 (flatten (map T_Path.enc s.Gate.To))::vb s.Gate.Quiet::.mkr 5 (map (int .u8) s.Gate.Buf)::vs s.Gate.Challenge::vb s.Gate.Proved::T_Config.c s.config [vi s.site,vi s.at_,.fr (.own 55) false 12 (flatten (map T_Out.ienc s.out))])),(81,.glob (GL mx)),(3,.box 122 (T_Cmd.c c [])),(30,vb s9),(0,.v (List.getD args0 0 undef))]) ?_ ?_
     ·rintro s9 h
      refine pt_then ?_
      refine ht_cond _ rfl (fun hb13 => ?_) (fun hb13 => ?_)
      ·have h:=cond_t hb13 h
       refine yyy hn 1 [0,81,4,0] ?_
       refine ht_ret ?_
       refine pt_pick [2,0,3] (by kernel_rfl) (es':=[(_,_),(_,_),(_,_)]) rfl ?_
       refine pt_r_in ?_
       refine pt_r_then ?_
       obtain rfl:=zi h
       exact pt_retP (es:=[(4, .v (.int .i64 550))]) (posts:=[.box 80 [.v (.int .i64 s.Gate.Phase),.v (.string s.Gate.Helo),.v (.bool s.Gate.From.Null),.v (.string s.Gate.From.Local),.v (.string s.Gate.From.Domain),.fl (.own 26) 3 (flatten (map T_Path.enc s.Gate.To)),.v (.bool s.Gate.Quiet),.mkr 5 (map (int .u8) s.Gate.Buf),.v (.string s.Gate.Challenge),.v (.bool s.Gate.Proved),.v (.string ((s.config.Domains.getD 0 (⟨#[]⟩:ByteArray)))),.v (.string ((s.config.Domains.getD 1 (⟨#[]⟩:ByteArray)))),.v (.int .i64 s.config.Expiry),.v (.string s.config.User),.v (.string s.config.Secret),.v (.int .i64 s.config.Log),.v (.bool s.config.Held),.v (.int .i64 s.site),.v (.int .i64 s.at_),.fr (.own 55) false 12 (flatten (map T_Out.ienc s.out))]]) hio rfl rfl (.tmp _ _ .nil) rfl rfl hargs0 rfl
      ·have h:=cond_f hb13 h
       refine ht_skip ?_
       refine pt_inb ?_
       refine pt_then ?_
       refine yyy hn 5 [0,81,3,0] ?_
       refine ht_seq ?_
       obtain ⟨v14, hv14, h⟩:=zn h
       refine wb [[],[],[58,0],[59,0],[60,0],[61,0],[3],[63,3]] ?_
       refine wN [64] ?_
       refine wS (.fl (.own 26) 3 (flatten (map T_Path.enc [(T_Path.mk c.Path.Null c.Path.Local c.Path.Domain)]))) [] ⟨op_buildSlice _ _ 3 (.agg #[.bool false,.string ByteArray.empty,.string ByteArray.empty]) (flatten (map T_Path.enc [(T_Path.mk c.Path.Null c.Path.Local c.Path.Domain)])) [(0,.agg #[.bool c.Path.Null,.string c.Path.Local,.string c.Path.Domain])] underlying27 sz26 zr26 (fun _ V w o a hv hes=>by have e0:=agg_v (ys:=[.bool c.Path.Null,.string c.Path.Local,.string c.Path.Domain]) hv hes (x := .tmp 64) rfl; simp only [List.map_toArray,List.map_cons,List.map_nil,e0]; try rfl) (litfill (by simp [Instr.fill,Value.cells]; rfl) (by simp [List.range,List.range.loop,T_Path.enc] <;> rfl)) (by simp [Value.oneCell',T_Path.enc]) rfl (by decide) (by decide) (by decide)⟩ ?_
       refine wK [0] [62,65] ?_
       refine wt [(0,.box 80 (vi 3::vs s.Gate.Helo::vb s.Gate.From.Null::vs s.Gate.From.Local::vs s.Gate.From.Domain::.any::vb s.Gate.Quiet::.mkr 5 (map (int .u8) s.Gate.Buf)::vs s.Gate.Challenge::vb s.Gate.Proved::T_Config.c s.config [vi s.site,vi s.at_,.fr (.own 55) false 12 (flatten (map T_Out.ienc s.out))])),(66,.fl (.own 26) 3 (flatten (map T_Path.enc v14)))] [[57,0],[67,0],[68,0]] ⟨op_app_cell _ _ _ _ _ _ el27 rfl rfl (zl rfl) rfl (flat_len T_Path.len _) (flat_len T_Path.len _) hv14 (flat_app (app_eq hv14)) (Nat.ne_of_beq_eq_false rfl) rfl rfl⟩ ?_
       refine wK [62,66,0] [69] ?_
       refine wt [(0,.box 80 (vi 3::vs s.Gate.Helo::vb s.Gate.From.Null::vs s.Gate.From.Local::vs s.Gate.From.Domain::.fl (.own 26) 3 (flatten (map T_Path.enc v14))::vb s.Gate.Quiet::.mkr 5 (map (int .u8) s.Gate.Buf)::vs s.Gate.Challenge::vb s.Gate.Proved::T_Config.c s.config [vi s.site,vi s.at_,.fr (.own 55) false 12 (flatten (map T_Out.ienc s.out))]))] [] ⟨LOp.drop [_] (op_store_take _ _ _ _ _ _ _ _ sz27 rfl rfl rfl (zl rfl) rfl rfl)⟩ ?_
       refine wee hn [0,81,3,0] ?_
       refine ht_seq ?_
       refine ht_joinS h (fun (s17:Bool)=>[(0,.box 80 (vi 3::vs s.Gate.Helo::vb s.Gate.From.Null::vs s.Gate.From.Local::vs s.Gate.From.Domain::.fl (.own 26) 3 (flatten (map T_Path.enc v14))::vb s17::.mkr 5 (map (int .u8) s.Gate.Buf)::vs s.Gate.Challenge::vb s.Gate.Proved::T_Config.c s.config [vi s.site,vi s.at_,.fr (.own 55) false 12 (flatten (map T_Out.ienc s.out))])),(81,.glob (GL mx)),(0,.v (List.getD args0 0 undef))]) ?_ ?_
       ·rintro s17 h
        refine pt_then ?_
        refine yyy hn 1 [0,81,4,0] ?_
        refine ht_ret ?_
        refine pt_pick [2,0,3] (by kernel_rfl) (es':=[(_,_),(_,_),(_,_)]) rfl ?_
        obtain rfl:=zi h
        exact pt_retP (es:=[(4, .v (.int .i64 250))]) (posts:=[.box 80 [.v (.int .i64 3),.v (.string s.Gate.Helo),.v (.bool s.Gate.From.Null),.v (.string s.Gate.From.Local),.v (.string s.Gate.From.Domain),.fl (.own 26) 3 (flatten (map T_Path.enc v14)),.v (.bool s17),.mkr 5 (map (int .u8) s.Gate.Buf),.v (.string s.Gate.Challenge),.v (.bool s.Gate.Proved),.v (.string ((s.config.Domains.getD 0 (⟨#[]⟩:ByteArray)))),.v (.string ((s.config.Domains.getD 1 (⟨#[]⟩:ByteArray)))),.v (.int .i64 s.config.Expiry),.v (.string s.config.User),.v (.string s.config.Secret),.v (.int .i64 s.config.Log),.v (.bool s.config.Held),.v (.int .i64 s.site),.v (.int .i64 s.at_),.fr (.own 55) false 12 (flatten (map T_Out.ienc s.out))]]) hio rfl rfl (.tmp _ _ .nil) rfl rfl hargs0 rfl
       ·intro u18 h hl19 hr20
        refine ht_seq ?_
        obtain ⟨v15, hv15, h⟩:=zn h
        refine yx hn 1 ?_
        refine ys 0 ⟨lk call138 (ok_verb_Param _ _ _ hv15)⟩ ?_
        refine ym 4 ?_
        refine yee [0,81,5,0] ?_
        refine yyy hn 2 [0,81,76,0] ?_
        refine ht_cond _ rfl (fun hb21 => ?_) (fun hb21 => ?_)
        ·have h:=cond_t hb21 h
         refine yy hn 5 [0,81,0] ?_
         exact hl19 _ (zi h).symm
        ·have h:=cond_f hb21 h
         refine ht_skip ?_
         refine pt_pick [0,1,3] (by kernel_rfl) (es':=[(_,_),(_,_),(_,_)]) rfl ?_
         exact hl19 _ (zi h).symm
     ·intro u10 h hl11 hr12
      obtain ⟨v7, hv7, h⟩:=zn h
      refine cond_some h (fun hg5_10 h => ?_) (fun hg5_10 h => ?_)
      ·obtain ⟨v8, hv8, h⟩:=zn h
       refine wb [[3],[31,3],[],[33,0],[34,0],[35,0]] ?_
       refine wN [36,0] ?_
       refine wS (.ptr 0 10) [[37,0]] ⟨op_indexAddr_a _ _ _ _ 2 0 10 0 1 underlying22 sz9 rfl rfl (by decide) (by decide)⟩ ?_
       refine wN [32,38,81] ?_
       refine wo [[39],[40]] ⟨lg call140 (ok_path_At _ _ _ _ hv7) 81⟩ ?_
       refine wd hg5_10 [[41,3],[41,42,3],[41],[41,44,0],[41,45,0],[41,46,0]] ?_
       refine wN [41,47,0] ?_
       refine wS (.ptr 0 11) [[41,48,0]] ⟨op_indexAddr_a _ _ _ _ 2 0 10 1 1 underlying22 sz9 rfl rfl (by decide) (by decide)⟩ ?_
       refine wN [41,43,49,81] ?_
       refine wo [[41,50],[41,51],[52]] ⟨lg call140 (ok_path_At _ _ _ _ hv8) 81⟩ ?_
       refine we hn [0,81,3,30,0] ?_
       exact hl11 _ (zi h).symm
      ·refine wb [[3],[31,3],[],[33,0],[34,0],[35,0]] ?_
       refine wN [36,0] ?_
       refine wS (.ptr 0 10) [[37,0]] ⟨op_indexAddr_a _ _ _ _ 2 0 10 0 1 underlying22 sz9 rfl rfl (by decide) (by decide)⟩ ?_
       refine wN [32,38,81] ?_
       refine wo [[39],[40]] ⟨lg call140 (ok_path_At _ _ _ _ hv7) 81⟩ ?_
       refine wd hg5_10 [[41],[41],[41],[41],[41],[41],[41],[41],[41],[41],[41],[52]] ?_
       refine we hn [0,81,3,30,0] ?_
       exact hl11 _ (zi h).symm
  ·intro u2 h hl3 hr4
   refine cond_some h (fun hg1_6 h => ?_) (fun hg1_6 h => ?_)
   ·refine yx hn 7 ?_
    refine yd hg1_6 8 ?_
    refine ye [0,81,3,7,0] ?_
    exact hl3 _ (zi h).symm
   ·refine yx hn 7 ?_
    refine yd hg1_6 8 ?_
    refine ye [0,81,3,7,0] ?_
    exact hl3 _ (zi h).symm
theorem ok_gate_session_begin (s:T_gate_session) (r:(Int×T_gate_session)) (h:Sh.gate_session_begin s=some r):FnP Tryz.prog 114 [.box 80 [.v (.int .i64 s.Gate.Phase), .v (.string s.Gate.Helo), .v (.bool s.Gate.From.Null), .v (.string s.Gate.From.Local), .v (.string s.Gate.From.Domain), .fl (.own 26) 3 (flatten (map T_Path.enc s.Gate.To)), .v (.bool s.Gate.Quiet), .mkr 5 (map (int .u8) s.Gate.Buf), .v (.string s.Gate.Challenge), .v (.bool s.Gate.Proved), .v (.string ((s.config.Domains.getD 0 (⟨#[]⟩:ByteArray)))), .v (.string ((s.config.Domains.getD 1 (⟨#[]⟩:ByteArray)))), .v (.int .i64 s.config.Expiry), .v (.string s.config.User), .v (.string s.config.Secret), .v (.int .i64 s.config.Log), .v (.bool s.config.Held), .v (.int .i64 s.site), .v (.int .i64 s.at_), .fr (.own 55) false 12 (flatten (map T_Out.ienc s.out))]] [.box 80 [.v (.int .i64 r.2.Gate.Phase), .v (.string r.2.Gate.Helo), .v (.bool r.2.Gate.From.Null), .v (.string r.2.Gate.From.Local), .v (.string r.2.Gate.From.Domain), .fl (.own 26) 3 (flatten (map T_Path.enc r.2.Gate.To)), .v (.bool r.2.Gate.Quiet), .mkr 5 (map (int .u8) r.2.Gate.Buf), .v (.string r.2.Gate.Challenge), .v (.bool r.2.Gate.Proved), .v (.string ((r.2.config.Domains.getD 0 (⟨#[]⟩:ByteArray)))), .v (.string ((r.2.config.Domains.getD 1 (⟨#[]⟩:ByteArray)))), .v (.int .i64 r.2.config.Expiry), .v (.string r.2.config.User), .v (.string r.2.config.Secret), .v (.int .i64 r.2.config.Log), .v (.bool r.2.config.Held), .v (.int .i64 r.2.site), .v (.int .i64 r.2.at_), .fr (.own 55) false 12 (flatten (map T_Out.ienc r.2.out))]] (.v (.int .i64 r.1)):=by
  unfold Sh.gate_session_begin at h
  refine yP 13 func114 fun args0 hargs0 g0 hn hio => ?_
  refine yyy hn 1 [0,0] ?_
  refine ht_seq ?_
  refine yyy hn 6 [0,8,0] ?_
  refine ht_cond _ rfl (fun hb1 => ?_) (fun hb1 => ?_)
  ·have h:=cond_t hb1 h
   refine yyy hn 1 [0,2,0] ?_
   refine ht_ret ?_
   refine pt_pick [1,0,2] (by kernel_rfl) (es':=[(_,_),(_,_),(_,_)]) rfl ?_
   refine pt_r_then ?_
   obtain rfl:=zi h
   exact pt_retP (es:=[(2, .v (.int .i64 503))]) (posts:=[.box 80 [.v (.int .i64 s.Gate.Phase),.v (.string s.Gate.Helo),.v (.bool s.Gate.From.Null),.v (.string s.Gate.From.Local),.v (.string s.Gate.From.Domain),.fl (.own 26) 3 (flatten (map T_Path.enc s.Gate.To)),.v (.bool s.Gate.Quiet),.mkr 5 (map (int .u8) s.Gate.Buf),.v (.string s.Gate.Challenge),.v (.bool s.Gate.Proved),.v (.string ((s.config.Domains.getD 0 (⟨#[]⟩:ByteArray)))),.v (.string ((s.config.Domains.getD 1 (⟨#[]⟩:ByteArray)))),.v (.int .i64 s.config.Expiry),.v (.string s.config.User),.v (.string s.config.Secret),.v (.int .i64 s.config.Log),.v (.bool s.config.Held),.v (.int .i64 s.site),.v (.int .i64 s.at_),.fr (.own 55) false 12 (flatten (map T_Out.ienc s.out))]]) hio rfl rfl (.tmp _ _ .nil) rfl rfl hargs0 rfl
  ·have h:=cond_f hb1 h
   refine ht_skip ?_
   refine pt_then ?_
   refine yyy hn 5 [0,0] ?_
   refine yyy hn 1 [0,2,0] ?_
   refine ht_ret ?_
   refine pt_pick [1,0,2] (by kernel_rfl) (es':=[(_,_),(_,_),(_,_)]) rfl ?_
   obtain rfl:=zi h
   exact pt_retP (es:=[(2, .v (.int .i64 354))]) (posts:=[.box 80 [.v (.int .i64 4),.v (.string s.Gate.Helo),.v (.bool s.Gate.From.Null),.v (.string s.Gate.From.Local),.v (.string s.Gate.From.Domain),.fl (.own 26) 3 (flatten (map T_Path.enc s.Gate.To)),.v (.bool s.Gate.Quiet),.mkr 5 (map (int .u8) s.Gate.Buf),.v (.string s.Gate.Challenge),.v (.bool s.Gate.Proved),.v (.string ((s.config.Domains.getD 0 (⟨#[]⟩:ByteArray)))),.v (.string ((s.config.Domains.getD 1 (⟨#[]⟩:ByteArray)))),.v (.int .i64 s.config.Expiry),.v (.string s.config.User),.v (.string s.config.Secret),.v (.int .i64 s.config.Log),.v (.bool s.config.Held),.v (.int .i64 s.site),.v (.int .i64 s.at_),.fr (.own 55) false 12 (flatten (map T_Out.ienc s.out))]]) hio rfl rfl (.tmp _ _ .nil) rfl rfl hargs0 rfl
theorem ok_gate_session_isOther (s:T_gate_session) (domain:ByteArray) (r:(Bool×T_gate_session)) (h:Sh.gate_session_isOther s domain=some r):FnP Tryz.prog 141 [.box 80 [.v (.int .i64 s.Gate.Phase), .v (.string s.Gate.Helo), .v (.bool s.Gate.From.Null), .v (.string s.Gate.From.Local), .v (.string s.Gate.From.Domain), .fl (.own 26) 3 (flatten (map T_Path.enc s.Gate.To)), .v (.bool s.Gate.Quiet), .mkr 5 (map (int .u8) s.Gate.Buf), .v (.string s.Gate.Challenge), .v (.bool s.Gate.Proved), .v (.string ((s.config.Domains.getD 0 (⟨#[]⟩:ByteArray)))), .v (.string ((s.config.Domains.getD 1 (⟨#[]⟩:ByteArray)))), .v (.int .i64 s.config.Expiry), .v (.string s.config.User), .v (.string s.config.Secret), .v (.int .i64 s.config.Log), .v (.bool s.config.Held), .v (.int .i64 s.site), .v (.int .i64 s.at_), .fr (.own 55) false 12 (flatten (map T_Out.ienc s.out))], .v (.string domain)] [.box 80 [.v (.int .i64 r.2.Gate.Phase), .v (.string r.2.Gate.Helo), .v (.bool r.2.Gate.From.Null), .v (.string r.2.Gate.From.Local), .v (.string r.2.Gate.From.Domain), .fl (.own 26) 3 (flatten (map T_Path.enc r.2.Gate.To)), .v (.bool r.2.Gate.Quiet), .mkr 5 (map (int .u8) r.2.Gate.Buf), .v (.string r.2.Gate.Challenge), .v (.bool r.2.Gate.Proved), .v (.string ((r.2.config.Domains.getD 0 (⟨#[]⟩:ByteArray)))), .v (.string ((r.2.config.Domains.getD 1 (⟨#[]⟩:ByteArray)))), .v (.int .i64 r.2.config.Expiry), .v (.string r.2.config.User), .v (.string r.2.config.Secret), .v (.int .i64 r.2.config.Log), .v (.bool r.2.config.Held), .v (.int .i64 r.2.site), .v (.int .i64 r.2.at_), .fr (.own 55) false 12 (flatten (map T_Out.ienc r.2.out))]] (.v (.bool r.1)):=by
  unfold Sh.gate_session_isOther at h
  refine yP 18 func141 fun args0 hargs0 g0 hn hio => ?_
  refine yyy hn 1 [0,1,0] ?_
  refine ht_seq ?_
  obtain ⟨v1, hv1, h⟩:=zn h
  obtain ⟨v2, hv2, h⟩:=zn h
  obtain ⟨v3, hv3, h⟩:=zn h
  obtain ⟨v4, hv4, h⟩:=zn h
  refine wb [[1],[],[],[7,0],[8,0],[9,0]] ?_
  refine wN [10] ?_
  refine wo [[6,0],[12,0],[13,0]] ⟨lb hv1⟩ ?_
  refine wN [14,0,11] ?_
  refine wS (.ptr 0 (10+v2 * 1)) [] ⟨op_ix_dyn _ _ _ _ 2 0 10 _ underlying22 sz9 rfl rfl (ix_ok hv2).1 (ix_ok hv2).2 (by decide)⟩ ?_
  refine wN [15,0] ?_
  refine wS (vs v3) [] ⟨op_load_dyn _ _ _ 0 10 v2 2 ([(s.config.Domains.getD 0 z0),(s.config.Domains.getD 1 z0)]:List ByteArray) _ underlying9 rfl rfl rfl rfl hv3⟩ ?_
  refine wN [5,16] ?_
  refine wo [[17]] ⟨lk call56 (ok_gate_equalFold _ _ _ hv4)⟩ ?_
  refine wee hn [0,4,0] ?_
  refine ht_ret ?_
  refine pt_pick [1,0,2] (by kernel_rfl) (es':=[(_,_),(_,_),(_,_)]) rfl ?_
  obtain rfl:=zi h
  exact pt_retP (es:=[(4, .v (.bool v4))]) (posts:=[.box 80 [.v (.int .i64 s.Gate.Phase),.v (.string s.Gate.Helo),.v (.bool s.Gate.From.Null),.v (.string s.Gate.From.Local),.v (.string s.Gate.From.Domain),.fl (.own 26) 3 (flatten (map T_Path.enc s.Gate.To)),.v (.bool s.Gate.Quiet),.mkr 5 (map (int .u8) s.Gate.Buf),.v (.string s.Gate.Challenge),.v (.bool s.Gate.Proved),.v (.string ((s.config.Domains.getD 0 (⟨#[]⟩:ByteArray)))),.v (.string ((s.config.Domains.getD 1 (⟨#[]⟩:ByteArray)))),.v (.int .i64 s.config.Expiry),.v (.string s.config.User),.v (.string s.config.Secret),.v (.int .i64 s.config.Log),.v (.bool s.config.Held),.v (.int .i64 s.site),.v (.int .i64 s.at_),.fr (.own 55) false 12 (flatten (map T_Out.ienc s.out))]]) hio rfl rfl (.tmp _ _ .nil) rfl rfl hargs0 rfl
theorem ok_gate_session_etrn (s:T_gate_session) (c:T_Cmd) (r:(Int×T_gate_session)) (h:Sh.gate_session_etrn s c=some r):FnP Tryz.prog 116 [.box 80 [.v (.int .i64 s.Gate.Phase), .v (.string s.Gate.Helo), .v (.bool s.Gate.From.Null), .v (.string s.Gate.From.Local), .v (.string s.Gate.From.Domain), .fl (.own 26) 3 (flatten (map T_Path.enc s.Gate.To)), .v (.bool s.Gate.Quiet), .mkr 5 (map (int .u8) s.Gate.Buf), .v (.string s.Gate.Challenge), .v (.bool s.Gate.Proved), .v (.string ((s.config.Domains.getD 0 (⟨#[]⟩:ByteArray)))), .v (.string ((s.config.Domains.getD 1 (⟨#[]⟩:ByteArray)))), .v (.int .i64 s.config.Expiry), .v (.string s.config.User), .v (.string s.config.Secret), .v (.int .i64 s.config.Log), .v (.bool s.config.Held), .v (.int .i64 s.site), .v (.int .i64 s.at_), .fr (.own 55) false 12 (flatten (map T_Out.ienc s.out))], .agg [.v (.int .i64 c.Kind), .v (.string c.Text), .v (.bool c.Path.Null), .v (.string c.Path.Local), .v (.string c.Path.Domain), .fl .shr 2 (flatten (map T_Param.enc c.Params))]] [.box 80 [.v (.int .i64 r.2.Gate.Phase), .v (.string r.2.Gate.Helo), .v (.bool r.2.Gate.From.Null), .v (.string r.2.Gate.From.Local), .v (.string r.2.Gate.From.Domain), .fl (.own 26) 3 (flatten (map T_Path.enc r.2.Gate.To)), .v (.bool r.2.Gate.Quiet), .mkr 5 (map (int .u8) r.2.Gate.Buf), .v (.string r.2.Gate.Challenge), .v (.bool r.2.Gate.Proved), .v (.string ((r.2.config.Domains.getD 0 (⟨#[]⟩:ByteArray)))), .v (.string ((r.2.config.Domains.getD 1 (⟨#[]⟩:ByteArray)))), .v (.int .i64 r.2.config.Expiry), .v (.string r.2.config.User), .v (.string r.2.config.Secret), .v (.int .i64 r.2.config.Log), .v (.bool r.2.config.Held), .v (.int .i64 r.2.site), .v (.int .i64 r.2.at_), .fr (.own 55) false 12 (flatten (map T_Out.ienc r.2.out))]] (.v (.int .i64 r.1)):=by
  unfold Sh.gate_session_etrn at h
  refine yP 18 func116 fun args0 hargs0 g0 hn hio => ?_
  refine yyy hn 2 [0,3,0] ?_
  refine ht_seq ?_
  refine ht_block ?_
  refine yyy hn 7 [0,3,5,0] ?_
  refine ht_cond _ rfl (fun hb1 => ?_) (fun hb1 => ?_)
  ·have h:=cond_t hb1 h
   refine yyy hn 1 [0,4,0] ?_
   refine ht_ret ?_
   refine pt_pick [1,0,2] (by kernel_rfl) (es':=[(_,_),(_,_),(_,_)]) rfl ?_
   refine pt_r_in ?_
   refine pt_r_then ?_
   obtain rfl:=zi h
   exact pt_retP (es:=[(4, .v (.int .i64 503))]) (posts:=[.box 80 [.v (.int .i64 s.Gate.Phase),.v (.string s.Gate.Helo),.v (.bool s.Gate.From.Null),.v (.string s.Gate.From.Local),.v (.string s.Gate.From.Domain),.fl (.own 26) 3 (flatten (map T_Path.enc s.Gate.To)),.v (.bool s.Gate.Quiet),.mkr 5 (map (int .u8) s.Gate.Buf),.v (.string s.Gate.Challenge),.v (.bool s.Gate.Proved),.v (.string ((s.config.Domains.getD 0 (⟨#[]⟩:ByteArray)))),.v (.string ((s.config.Domains.getD 1 (⟨#[]⟩:ByteArray)))),.v (.int .i64 s.config.Expiry),.v (.string s.config.User),.v (.string s.config.Secret),.v (.int .i64 s.config.Log),.v (.bool s.config.Held),.v (.int .i64 s.site),.v (.int .i64 s.at_),.fr (.own 55) false 12 (flatten (map T_Out.ienc s.out))]]) hio rfl rfl (.tmp _ _ .nil) rfl rfl hargs0 rfl
  ·have h:=cond_f hb1 h
   refine ht_seq ?_
   obtain ⟨v2, hv2, h⟩:=zn h
   refine yx hn 3 ?_
   refine yQ call141 (ok_gate_session_isOther _ _ _ hv2) 0 [13,15] 2 ?_
   refine yee [0,12,0] ?_
   refine ht_cond _ rfl (fun hb3 => ?_) (fun hb3 => ?_)
   ·have h:=cond_t hb3 h
    refine yyy hn 1 [0,4,0] ?_
    refine ht_ret ?_
    refine pt_pick [1,0,2] (by kernel_rfl) (es':=[(_,_),(_,_),(_,_)]) rfl ?_
    refine pt_r_in ?_
    refine pt_r_then ?_
    obtain rfl:=zi h
    exact pt_retP (es:=[(4, .v (.int .i64 459))]) (posts:=[.box 80 [.v (.int .i64 v2.2.Gate.Phase),.v (.string v2.2.Gate.Helo),.v (.bool v2.2.Gate.From.Null),.v (.string v2.2.Gate.From.Local),.v (.string v2.2.Gate.From.Domain),.fl (.own 26) 3 (flatten (map T_Path.enc v2.2.Gate.To)),.v (.bool v2.2.Gate.Quiet),.mkr 5 (map (int .u8) v2.2.Gate.Buf),.v (.string v2.2.Gate.Challenge),.v (.bool v2.2.Gate.Proved),.v (.string ((v2.2.config.Domains.getD 0 (⟨#[]⟩:ByteArray)))),.v (.string ((v2.2.config.Domains.getD 1 (⟨#[]⟩:ByteArray)))),.v (.int .i64 v2.2.config.Expiry),.v (.string v2.2.config.User),.v (.string v2.2.config.Secret),.v (.int .i64 v2.2.config.Log),.v (.bool v2.2.config.Held),.v (.int .i64 v2.2.site),.v (.int .i64 v2.2.at_),.fr (.own 55) false 12 (flatten (map T_Out.ienc v2.2.out))]]) hio rfl rfl (.tmp _ _ .nil) rfl rfl hargs0 rfl
   ·have h:=cond_f hb3 h
    refine ht_skip ?_
    refine pt_inb ?_
    refine pt_then ?_
    refine yyy hn 1 [0,4,0] ?_
    refine ht_ret ?_
    refine pt_pick [1,0,2] (by kernel_rfl) (es':=[(_,_),(_,_),(_,_)]) rfl ?_
    obtain rfl:=zi h
    exact pt_retP (es:=[(4, .v (.int .i64 250))]) (posts:=[.box 80 [.v (.int .i64 v2.2.Gate.Phase),.v (.string v2.2.Gate.Helo),.v (.bool v2.2.Gate.From.Null),.v (.string v2.2.Gate.From.Local),.v (.string v2.2.Gate.From.Domain),.fl (.own 26) 3 (flatten (map T_Path.enc v2.2.Gate.To)),.v (.bool v2.2.Gate.Quiet),.mkr 5 (map (int .u8) v2.2.Gate.Buf),.v (.string v2.2.Gate.Challenge),.v (.bool v2.2.Gate.Proved),.v (.string ((v2.2.config.Domains.getD 0 (⟨#[]⟩:ByteArray)))),.v (.string ((v2.2.config.Domains.getD 1 (⟨#[]⟩:ByteArray)))),.v (.int .i64 v2.2.config.Expiry),.v (.string v2.2.config.User),.v (.string v2.2.config.Secret),.v (.int .i64 v2.2.config.Log),.v (.bool v2.2.config.Held),.v (.int .i64 v2.2.site),.v (.int .i64 v2.2.at_),.fr (.own 55) false 12 (flatten (map T_Out.ienc v2.2.out))]]) hio rfl rfl (.tmp _ _ .nil) rfl rfl hargs0 rfl
theorem ok_gate_session_release (s:T_gate_session) (code:Int) (r:T_gate_session) (h:Sh.gate_session_release s code=some r):FnP Tryz.prog 115 [.box 80 [.v (.int .i64 s.Gate.Phase), .v (.string s.Gate.Helo), .v (.bool s.Gate.From.Null), .v (.string s.Gate.From.Local), .v (.string s.Gate.From.Domain), .fl (.own 26) 3 (flatten (map T_Path.enc s.Gate.To)), .v (.bool s.Gate.Quiet), .mkr 5 (map (int .u8) s.Gate.Buf), .v (.string s.Gate.Challenge), .v (.bool s.Gate.Proved), .v (.string ((s.config.Domains.getD 0 (⟨#[]⟩:ByteArray)))), .v (.string ((s.config.Domains.getD 1 (⟨#[]⟩:ByteArray)))), .v (.int .i64 s.config.Expiry), .v (.string s.config.User), .v (.string s.config.Secret), .v (.int .i64 s.config.Log), .v (.bool s.config.Held), .v (.int .i64 s.site), .v (.int .i64 s.at_), .fr (.own 55) false 12 (flatten (map T_Out.ienc s.out))], .v (.int .i64 code)] [.box 80 [.v (.int .i64 r.Gate.Phase), .v (.string r.Gate.Helo), .v (.bool r.Gate.From.Null), .v (.string r.Gate.From.Local), .v (.string r.Gate.From.Domain), .fl (.own 26) 3 (flatten (map T_Path.enc r.Gate.To)), .v (.bool r.Gate.Quiet), .mkr 5 (map (int .u8) r.Gate.Buf), .v (.string r.Gate.Challenge), .v (.bool r.Gate.Proved), .v (.string ((r.config.Domains.getD 0 (⟨#[]⟩:ByteArray)))), .v (.string ((r.config.Domains.getD 1 (⟨#[]⟩:ByteArray)))), .v (.int .i64 r.config.Expiry), .v (.string r.config.User), .v (.string r.config.Secret), .v (.int .i64 r.config.Log), .v (.bool r.config.Held), .v (.int .i64 r.site), .v (.int .i64 r.at_), .fr (.own 55) false 12 (flatten (map T_Out.ienc r.out))]] (.tup []):=by
  unfold Sh.gate_session_release at h
  refine yP 19 func115 fun args0 hargs0 g0 hn hio => ?_
  obtain ⟨v1, hv1, h⟩:=zn h
  obtain ⟨v2, hv2, h⟩:=zn h
  refine wb [[],[],[5,0],[6,0],[7,0],[0],[1]] ?_
  refine wN [9,0,10] ?_
  refine wS (.agg [vi v1.Code,.fl (.own 9) 1 (map Value.string v1.Lines)]) [[1],[12]] ⟨op_callN _ 11 0 85 [.int .i64 code] _ rfl call85 rfl rfl rfl rfl (fun u=>ok_gate_session_answer_pin u ((T_gate_session.mk ((T_Gate.mk s.Gate.Phase s.Gate.Helo (T_Path.mk s.Gate.From.Null s.Gate.From.Local s.Gate.From.Domain) s.Gate.To s.Gate.Quiet s.Gate.Buf s.Gate.Challenge s.Gate.Proved)) ((T_Config.mk (([(s.config.Domains.getD 0 z0),(s.config.Domains.getD 1 z0)]:List ByteArray)) s.config.Expiry s.config.User s.config.Secret s.config.Log s.config.Held)) s.site s.at_ s.out)) code _ hv1) rfl rfl rfl⟩ ?_
  refine wK [11] [13] ?_
  refine wt [(14,.agg [vi v1.Code,.fl (.own 9) 1 (map Value.string v1.Lines),vb false,vb false,vs z0,vs z0,vz,vz,vb false,vs z0,vi 0,vb (code==250)])] [] ⟨op_build _ _ _ _ [2,1,8,1] _ _ underlying55 zr55 (fs55 _ underlying55) (.take _ _ (.copy _ Src.nil)) rfl rfl rfl⟩ ?_
  refine wK [14] [] ?_
  refine wt [(15,.fr (.own 55) false 12 (flatten (map T_Out.ienc ([(T_Out.mk v1 false ((T_Mail.mk ((T_Path.mk false z0 z0)) [] [] false z0 0)) (code==250))]))))] [] ⟨op_build1_fr_take _ _ _ 12 (.agg #[.int .i64 0,.slice none 0 0,.bool false,.bool false,.string ByteArray.empty,.string ByteArray.empty,.slice none 0 0,.slice none 0 0,.bool false,.string ByteArray.empty,.int .i64 0,.bool false]) false _ _ underlying34 sz55 zr55 rfl (.cons (.v _) (.cons (.ro _ _ rfl) (.cons (.v _) (.cons (.v _) (.cons (.v _) (.cons (.v _) (.cons (.nil 3) (.cons (.nil 1) (.cons (.v _) (.cons (.v _) (.cons (.v _) (.cons (.v _) (.nil))))))))))))) rfl (by decide) (by decide)⟩ ?_
  refine wK [0] [8,15] ?_
  refine wt [(0,.box 80 (vi s.Gate.Phase::vs s.Gate.Helo::vb s.Gate.From.Null::vs s.Gate.From.Local::vs s.Gate.From.Domain::.fl (.own 26) 3 (flatten (map T_Path.enc s.Gate.To))::vb s.Gate.Quiet::.mkr 5 (map (int .u8) s.Gate.Buf)::vs s.Gate.Challenge::vb s.Gate.Proved::T_Config.c s.config [vi s.site,vi s.at_,.any])),(16,.fr (.own 55) false 12 (flatten (map T_Out.ienc v2)))] [[4,0],[17,0]] ⟨op_app_fr_cell _ 16 0 19 _ _ el34 rfl rfl (zl rfl) rfl (gflat_len T_Out.ilen _) (gflat_len T_Out.ilen _) hv2 (gflat_app (app_eq hv2)) (by decide) (by decide) (by decide) rfl rfl⟩ ?_
  refine wK [8,16,0] [18] ?_
  refine wt [(0,.box 80 (vi s.Gate.Phase::vs s.Gate.Helo::vb s.Gate.From.Null::vs s.Gate.From.Local::vs s.Gate.From.Domain::.fl (.own 26) 3 (flatten (map T_Path.enc s.Gate.To))::vb s.Gate.Quiet::.mkr 5 (map (int .u8) s.Gate.Buf)::vs s.Gate.Challenge::vb s.Gate.Proved::T_Config.c s.config [vi s.site,vi s.at_,.fr (.own 55) false 12 (flatten (map T_Out.ienc v2))]))] [] ⟨LOp.drop [_] (op_store_take _ _ _ _ _ _ _ _ sz34 rfl rfl rfl (zl rfl) rfl rfl)⟩ ?_
  refine we hn [0,0] ?_
  obtain rfl:=zi h
  exact pt_endP (es:=[]) (posts:=[.box 80 [.v (.int .i64 s.Gate.Phase),.v (.string s.Gate.Helo),.v (.bool s.Gate.From.Null),.v (.string s.Gate.From.Local),.v (.string s.Gate.From.Domain),.fl (.own 26) 3 (flatten (map T_Path.enc s.Gate.To)),.v (.bool s.Gate.Quiet),.mkr 5 (map (int .u8) s.Gate.Buf),.v (.string s.Gate.Challenge),.v (.bool s.Gate.Proved),.v (.string ((s.config.Domains.getD 0 (⟨#[]⟩:ByteArray)))),.v (.string ((s.config.Domains.getD 1 (⟨#[]⟩:ByteArray)))),.v (.int .i64 s.config.Expiry),.v (.string s.config.User),.v (.string s.config.Secret),.v (.int .i64 s.config.Log),.v (.bool s.config.Held),.v (.int .i64 s.site),.v (.int .i64 s.at_),.fr (.own 55) false 12 (flatten (map T_Out.ienc v2))]]) hio rfl rfl .nil rfl rfl hargs0 rfl
theorem ok_gate_session_auth (s:T_gate_session) (r:(Int×T_gate_session)) (h:Sh.gate_session_auth s=some r):FnP Tryz.prog 117 [.box 80 [.v (.int .i64 s.Gate.Phase), .v (.string s.Gate.Helo), .v (.bool s.Gate.From.Null), .v (.string s.Gate.From.Local), .v (.string s.Gate.From.Domain), .fl (.own 26) 3 (flatten (map T_Path.enc s.Gate.To)), .v (.bool s.Gate.Quiet), .mkr 5 (map (int .u8) s.Gate.Buf), .v (.string s.Gate.Challenge), .v (.bool s.Gate.Proved), .v (.string ((s.config.Domains.getD 0 (⟨#[]⟩:ByteArray)))), .v (.string ((s.config.Domains.getD 1 (⟨#[]⟩:ByteArray)))), .v (.int .i64 s.config.Expiry), .v (.string s.config.User), .v (.string s.config.Secret), .v (.int .i64 s.config.Log), .v (.bool s.config.Held), .v (.int .i64 s.site), .v (.int .i64 s.at_), .fr (.own 55) false 12 (flatten (map T_Out.ienc s.out))]] [.box 80 [.v (.int .i64 r.2.Gate.Phase), .v (.string r.2.Gate.Helo), .v (.bool r.2.Gate.From.Null), .v (.string r.2.Gate.From.Local), .v (.string r.2.Gate.From.Domain), .fl (.own 26) 3 (flatten (map T_Path.enc r.2.Gate.To)), .v (.bool r.2.Gate.Quiet), .mkr 5 (map (int .u8) r.2.Gate.Buf), .v (.string r.2.Gate.Challenge), .v (.bool r.2.Gate.Proved), .v (.string ((r.2.config.Domains.getD 0 (⟨#[]⟩:ByteArray)))), .v (.string ((r.2.config.Domains.getD 1 (⟨#[]⟩:ByteArray)))), .v (.int .i64 r.2.config.Expiry), .v (.string r.2.config.User), .v (.string r.2.config.Secret), .v (.int .i64 r.2.config.Log), .v (.bool r.2.config.Held), .v (.int .i64 r.2.site), .v (.int .i64 r.2.at_), .fr (.own 55) false 12 (flatten (map T_Out.ienc r.2.out))]] (.v (.int .i64 r.1)):=by
  unfold Sh.gate_session_auth at h
  refine yP 20 func117 fun args0 hargs0 g0 hn hio => ?_
  refine yyy hn 1 [0,0] ?_
  refine ht_seq ?_
  refine ht_seq ?_
  refine ht_joinS h (fun (s1:Bool)=>[(0,.box 80 (vi s.Gate.Phase::vs s.Gate.Helo::vb s.Gate.From.Null::vs s.Gate.From.Local::vs s.Gate.From.Domain::.fl (.own 26) 3 (flatten (map T_Path.enc s.Gate.To))::vb s.Gate.Quiet::.mkr 5 (map (int .u8) s.Gate.Buf)::vs s.Gate.Challenge::vb s.Gate.Proved::T_Config.c s.config [vi s.site,vi s.at_,.fr (.own 55) false 12 (flatten (map T_Out.ienc s.out))])),(15,vb s1),(0,.v (List.getD args0 0 undef))]) ?_ ?_
  ·rintro s1 h
   refine pt_then ?_
   refine ht_cond _ rfl (fun hb5 => ?_) (fun hb5 => ?_)
   ·have h:=cond_t hb5 h
    refine yyy hn 1 [0,2,0] ?_
    refine ht_ret ?_
    refine pt_pick [1,0,2] (by kernel_rfl) (es':=[(_,_),(_,_),(_,_)]) rfl ?_
    refine pt_r_then ?_
    obtain rfl:=zi h
    exact pt_retP (es:=[(2, .v (.int .i64 503))]) (posts:=[.box 80 [.v (.int .i64 s.Gate.Phase),.v (.string s.Gate.Helo),.v (.bool s.Gate.From.Null),.v (.string s.Gate.From.Local),.v (.string s.Gate.From.Domain),.fl (.own 26) 3 (flatten (map T_Path.enc s.Gate.To)),.v (.bool s.Gate.Quiet),.mkr 5 (map (int .u8) s.Gate.Buf),.v (.string s.Gate.Challenge),.v (.bool s.Gate.Proved),.v (.string ((s.config.Domains.getD 0 (⟨#[]⟩:ByteArray)))),.v (.string ((s.config.Domains.getD 1 (⟨#[]⟩:ByteArray)))),.v (.int .i64 s.config.Expiry),.v (.string s.config.User),.v (.string s.config.Secret),.v (.int .i64 s.config.Log),.v (.bool s.config.Held),.v (.int .i64 s.site),.v (.int .i64 s.at_),.fr (.own 55) false 12 (flatten (map T_Out.ienc s.out))]]) hio rfl rfl (.tmp _ _ .nil) rfl rfl hargs0 rfl
   ·have h:=cond_f hb5 h
    refine ht_skip ?_
    refine pt_then ?_
    refine yyy hn 5 [0,0] ?_
    refine yyy hn 1 [0,2,0] ?_
    refine ht_ret ?_
    refine pt_pick [1,0,2] (by kernel_rfl) (es':=[(_,_),(_,_),(_,_)]) rfl ?_
    obtain rfl:=zi h
    exact pt_retP (es:=[(2, .v (.int .i64 334))]) (posts:=[.box 80 [.v (.int .i64 5),.v (.string s.Gate.Helo),.v (.bool s.Gate.From.Null),.v (.string s.Gate.From.Local),.v (.string s.Gate.From.Domain),.fl (.own 26) 3 (flatten (map T_Path.enc s.Gate.To)),.v (.bool s.Gate.Quiet),.mkr 5 (map (int .u8) s.Gate.Buf),.v (.string s.Gate.Challenge),.v (.bool s.Gate.Proved),.v (.string ((s.config.Domains.getD 0 (⟨#[]⟩:ByteArray)))),.v (.string ((s.config.Domains.getD 1 (⟨#[]⟩:ByteArray)))),.v (.int .i64 s.config.Expiry),.v (.string s.config.User),.v (.string s.config.Secret),.v (.int .i64 s.config.Log),.v (.bool s.config.Held),.v (.int .i64 s.site),.v (.int .i64 s.at_),.fr (.own 55) false 12 (flatten (map T_Out.ienc s.out))]]) hio rfl rfl (.tmp _ _ .nil) rfl rfl hargs0 rfl
  ·intro u2 h hl3 hr4
   refine cond_some h (fun hg1_6 h => ?_) (fun hg1_6 h => ?_)
   ·refine yx hn 7 ?_
    refine yd hg1_6 6 ?_
    refine ye [0,15,0] ?_
    exact hl3 _ (zi h).symm
   ·refine yx hn 7 ?_
    refine yd hg1_6 6 ?_
    refine ye [0,15,0] ?_
    exact hl3 _ (zi h).symm
theorem ok_gate_session_atrn (s:T_gate_session) (c:T_Cmd) (r:(Int×T_gate_session)) (h:Sh.gate_session_atrn s c=some r):FnP Tryz.prog 118 [.box 80 [.v (.int .i64 s.Gate.Phase), .v (.string s.Gate.Helo), .v (.bool s.Gate.From.Null), .v (.string s.Gate.From.Local), .v (.string s.Gate.From.Domain), .fl (.own 26) 3 (flatten (map T_Path.enc s.Gate.To)), .v (.bool s.Gate.Quiet), .mkr 5 (map (int .u8) s.Gate.Buf), .v (.string s.Gate.Challenge), .v (.bool s.Gate.Proved), .v (.string ((s.config.Domains.getD 0 (⟨#[]⟩:ByteArray)))), .v (.string ((s.config.Domains.getD 1 (⟨#[]⟩:ByteArray)))), .v (.int .i64 s.config.Expiry), .v (.string s.config.User), .v (.string s.config.Secret), .v (.int .i64 s.config.Log), .v (.bool s.config.Held), .v (.int .i64 s.site), .v (.int .i64 s.at_), .fr (.own 55) false 12 (flatten (map T_Out.ienc s.out))], .agg [.v (.int .i64 c.Kind), .v (.string c.Text), .v (.bool c.Path.Null), .v (.string c.Path.Local), .v (.string c.Path.Domain), .fl .shr 2 (flatten (map T_Param.enc c.Params))]] [.box 80 [.v (.int .i64 r.2.Gate.Phase), .v (.string r.2.Gate.Helo), .v (.bool r.2.Gate.From.Null), .v (.string r.2.Gate.From.Local), .v (.string r.2.Gate.From.Domain), .fl (.own 26) 3 (flatten (map T_Path.enc r.2.Gate.To)), .v (.bool r.2.Gate.Quiet), .mkr 5 (map (int .u8) r.2.Gate.Buf), .v (.string r.2.Gate.Challenge), .v (.bool r.2.Gate.Proved), .v (.string ((r.2.config.Domains.getD 0 (⟨#[]⟩:ByteArray)))), .v (.string ((r.2.config.Domains.getD 1 (⟨#[]⟩:ByteArray)))), .v (.int .i64 r.2.config.Expiry), .v (.string r.2.config.User), .v (.string r.2.config.Secret), .v (.int .i64 r.2.config.Log), .v (.bool r.2.config.Held), .v (.int .i64 r.2.site), .v (.int .i64 r.2.at_), .fr (.own 55) false 12 (flatten (map T_Out.ienc r.2.out))]] (.v (.int .i64 r.1)):=by
  unfold Sh.gate_session_atrn at h
  refine yP 34 func118 fun args0 hargs0 g0 hn hio => ?_
  refine yyy hn 2 [0,3,0] ?_
  refine ht_seq ?_
  refine ht_block ?_
  refine yyy hn 7 [0,3,5,0] ?_
  refine ht_cond _ rfl (fun hb1 => ?_) (fun hb1 => ?_)
  ·have h:=cond_t hb1 h
   refine yyy hn 1 [0,4,0] ?_
   refine ht_ret ?_
   refine pt_pick [1,0,2] (by kernel_rfl) (es':=[(_,_),(_,_),(_,_)]) rfl ?_
   refine pt_r_in ?_
   refine pt_r_then ?_
   obtain rfl:=zi h
   exact pt_retP (es:=[(4, .v (.int .i64 503))]) (posts:=[.box 80 [.v (.int .i64 s.Gate.Phase),.v (.string s.Gate.Helo),.v (.bool s.Gate.From.Null),.v (.string s.Gate.From.Local),.v (.string s.Gate.From.Domain),.fl (.own 26) 3 (flatten (map T_Path.enc s.Gate.To)),.v (.bool s.Gate.Quiet),.mkr 5 (map (int .u8) s.Gate.Buf),.v (.string s.Gate.Challenge),.v (.bool s.Gate.Proved),.v (.string ((s.config.Domains.getD 0 (⟨#[]⟩:ByteArray)))),.v (.string ((s.config.Domains.getD 1 (⟨#[]⟩:ByteArray)))),.v (.int .i64 s.config.Expiry),.v (.string s.config.User),.v (.string s.config.Secret),.v (.int .i64 s.config.Log),.v (.bool s.config.Held),.v (.int .i64 s.site),.v (.int .i64 s.at_),.fr (.own 55) false 12 (flatten (map T_Out.ienc s.out))]]) hio rfl rfl (.tmp _ _ .nil) rfl rfl hargs0 rfl
  ·have h:=cond_f hb1 h
   refine yyy hn 7 [0,3,12,0] ?_
   refine ht_cond _ rfl (fun hb2 => ?_) (fun hb2 => ?_)
   ·have h:=cond_t hb2 h
    refine yyy hn 1 [0,4,0] ?_
    refine ht_ret ?_
    refine pt_pick [1,0,2] (by kernel_rfl) (es':=[(_,_),(_,_),(_,_)]) rfl ?_
    refine pt_r_in ?_
    refine pt_r_then ?_
    obtain rfl:=zi h
    exact pt_retP (es:=[(4, .v (.int .i64 530))]) (posts:=[.box 80 [.v (.int .i64 s.Gate.Phase),.v (.string s.Gate.Helo),.v (.bool s.Gate.From.Null),.v (.string s.Gate.From.Local),.v (.string s.Gate.From.Domain),.fl (.own 26) 3 (flatten (map T_Path.enc s.Gate.To)),.v (.bool s.Gate.Quiet),.mkr 5 (map (int .u8) s.Gate.Buf),.v (.string s.Gate.Challenge),.v (.bool s.Gate.Proved),.v (.string ((s.config.Domains.getD 0 (⟨#[]⟩:ByteArray)))),.v (.string ((s.config.Domains.getD 1 (⟨#[]⟩:ByteArray)))),.v (.int .i64 s.config.Expiry),.v (.string s.config.User),.v (.string s.config.Secret),.v (.int .i64 s.config.Log),.v (.bool s.config.Held),.v (.int .i64 s.site),.v (.int .i64 s.at_),.fr (.own 55) false 12 (flatten (map T_Out.ienc s.out))]]) hio rfl rfl (.tmp _ _ .nil) rfl rfl hargs0 rfl
   ·have h:=cond_f hb2 h
    refine ht_seq ?_
    refine ht_joinS h (fun ((s4,s5,s6,s7,s8,s9,s10,s11,s12,s13,s14,s15,s16,s17,s18,s19,s20,s21,s22,s23,s24):Int×ByteArray×Bool×ByteArray×ByteArray×(List T_Path)×Bool×(List Int)×ByteArray×Bool×ByteArray×ByteArray×Int×ByteArray×ByteArray×Int×Bool×Int×Int×(List T_Out)×Bool)=>[(0,.box 80 [vi s4,vs s5,vb s6,vs s7,vs s8,.fl (.own 26) 3 (flatten (map T_Path.enc s9)),vb s10,.mkr 5 (map (int .u8) s11),vs s12,vb s13,vs s14,vs s15,vi s16,vs s17,vs s18,vi s19,vb s20,vi s21,vi s22,.fr (.own 55) false 12 (flatten (map T_Out.ienc s23))]),(19,vb s24),(0,.v (List.getD args0 0 undef))]) ?_ ?_
    ·rintro ⟨s4, s5, s6, s7, s8, s9, s10, s11, s12, s13, s14, s15, s16, s17, s18, s19, s20, s21, s22, s23, s24⟩ h
     refine pt_then ?_
     refine ht_cond _ rfl (fun hb28 => ?_) (fun hb28 => ?_)
     ·have h:=cond_t hb28 h
      refine yyy hn 1 [0,4,0] ?_
      refine ht_ret ?_
      refine pt_pick [1,0,2] (by kernel_rfl) (es':=[(_,_),(_,_),(_,_)]) rfl ?_
      refine pt_r_in ?_
      refine pt_r_then ?_
      obtain rfl:=zi h
      exact pt_retP (es:=[(4, .v (.int .i64 450))]) (posts:=[.box 80 [.v (.int .i64 s4),.v (.string s5),.v (.bool s6),.v (.string s7),.v (.string s8),.fl (.own 26) 3 (flatten (map T_Path.enc s9)),.v (.bool s10),.mkr 5 (map (int .u8) s11),.v (.string s12),.v (.bool s13),.v (.string s14),.v (.string s15),.v (.int .i64 s16),.v (.string s17),.v (.string s18),.v (.int .i64 s19),.v (.bool s20),.v (.int .i64 s21),.v (.int .i64 s22),.fr (.own 55) false 12 (flatten (map T_Out.ienc s23))]]) hio rfl rfl (.tmp _ _ .nil) rfl rfl hargs0 rfl
     ·have h:=cond_f hb28 h
      refine ht_skip ?_
      refine pt_inb ?_
      refine pt_then ?_
      refine yyy hn 5 [0,0] ?_
      refine yyy hn 1 [0,4,0] ?_
      refine ht_ret ?_
      refine pt_pick [1,0,2] (by kernel_rfl) (es':=[(_,_),(_,_),(_,_)]) rfl ?_
      obtain rfl:=zi h
      exact pt_retP (es:=[(4, .v (.int .i64 250))]) (posts:=[.box 80 [.v (.int .i64 6),.v (.string s5),.v (.bool s6),.v (.string s7),.v (.string s8),.fl (.own 26) 3 (flatten (map T_Path.enc s9)),.v (.bool s10),.mkr 5 (map (int .u8) s11),.v (.string s12),.v (.bool s13),.v (.string s14),.v (.string s15),.v (.int .i64 s16),.v (.string s17),.v (.string s18),.v (.int .i64 s19),.v (.bool s20),.v (.int .i64 s21),.v (.int .i64 s22),.fr (.own 55) false 12 (flatten (map T_Out.ienc s23))]]) hio rfl rfl (.tmp _ _ .nil) rfl rfl hargs0 rfl
    ·intro u25 h hl26 hr27
     refine cond_some h (fun hg5_3 h => ?_) (fun hg5_3 h => ?_)
     ·obtain ⟨v3, hv3, h⟩:=zn h
      refine yx hn 4 ?_
      refine yd hg5_3 3 ?_
      refine yQ call141 (ok_gate_session_isOther _ _ _ hv3) 0 [24,26] 3 ?_
      refine ye [0,19,0] ?_
      exact hl26 _ (zi h).symm
     ·refine yx hn 4 ?_
      refine yd hg5_3 7 ?_
      refine ye [0,19,0] ?_
      exact hl26 _ (zi h).symm
end Go.Proofs.YtjnnkhmhjcjhdaaGreatDoor
