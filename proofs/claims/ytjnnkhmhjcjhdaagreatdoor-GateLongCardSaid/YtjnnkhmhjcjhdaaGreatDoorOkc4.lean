/-
  The model's runs are what is told in Lean.
-/
import Derived.Test.YtjnnkhmhjcjhdaaGreatDoorProg
import Derived.KernelRfl
import Derived.Test.YtjnnkhmhjcjhdaaGreatDoorShelf
import Derived.Test.YtjnnkhmhjcjhdaaGreatDoorIdx
import Derived.Test.YtjnnkhmhjcjhdaaGreatDoorB3
import Derived.Test.YtjnnkhmhjcjhdaaGreatDoorC1
import Derived.Test.YtjnnkhmhjcjhdaaGreatDoorBC
import Derived.Test.YtjnnkhmhjcjhdaaGreatDoorOkc3
set_option linter.unusedVariables false
set_option linter.unusedSimpArgs false
set_option maxHeartbeats 1000000
namespace Go.Proofs.YtjnnkhmhjcjhdaaGreatDoor
open Go.Abs Go.Abs.Sh Tryz
open List (map flatten)
open Value (int)
theorem ok_gate_fits (mx:Int×Nat×Value) (m:T_Mail) (r:Bool) (h:Sh.gate_fits m=some r):FnG Tryz.prog (GL mx) 101 [.agg [.v (.bool m.From.Null), .v (.string m.From.Local), .v (.string m.From.Domain), .fl .shr 3 (flatten (map T_Path.enc m.To)), .fl .shr 1 (map (int .u8) m.Body), .v (.bool m.Quiet), .v (.string m.Helo), .v (.int .i64 m.At)]] (.v (.bool r)):=by
  unfold Sh.gate_fits at h
  refine yG 14 func101 fun g0 hn hio => ?_
  refine yyy hn 2 [14,1] ?_
  refine ht_seq ?_
  obtain ⟨v1, hv1, h⟩:=zn h
  refine yx hn 1 ?_
  refine yS (.fr (.own 53) true 8 (flatten (map T_Mail.ienc [(T_Mail.mk (T_Path.mk m.From.Null m.From.Local m.From.Domain) m.To m.Body m.Quiet m.Helo m.At)]))) 0 ⟨op_build1_fr _ _ _ 8 (.agg #[.bool false,.string ByteArray.empty,.string ByteArray.empty,.slice none 0 0,.slice none 0 0,.bool false,.string ByteArray.empty,.int .i64 0]) true _ _ underlying60 sz53 zr53 rfl rfl (.cons (.v _) (.cons (.v _) (.cons (.v _) (.cons (.shr _ _ rfl rfl) (.cons (.shr _ _ rfl rfl) (.cons (.v _) (.cons (.v _) (.cons (.v _) (.nil))))))))) rfl (by decide) (by decide)⟩ ?_
  refine yk [7] [] ?_
  refine yt (8,.agg [vi 0,vi 65535,.fr (.own 53) true 8 (flatten (map T_Mail.ienc [(T_Mail.mk (T_Path.mk m.From.Null m.From.Local m.From.Domain) m.To m.Body m.Quiet m.Helo m.At)]))]) 0 ⟨op_build _ _ _ _ [1,1,1] _ _ underlying62 zr62 (fs62 _ underlying62) (.copy _ (.take _ _ Src.nil)) rfl rfl rfl⟩ ?_
  refine ys 0 ⟨lg call130 (ok_bundle_Bytes _ _ _ hv1) 14⟩ ?_
  refine ym 0 ?_
  refine yx_ 1 ?_
  refine ya 1 ?_
  refine yee [14,4] ?_
  refine yyy hn 3 [14,2] ?_
  refine ht_ret ?_
  refine pt_pick [1] (by kernel_rfl) (es':=[(_,_)]) rfl ?_
  obtain rfl:=zi h
  exact pt_ret hio rfl (.tmp _ _ .nil) rfl rfl
theorem ok_gate_session_accept (mx:Int×Nat×Value) (s:T_gate_session) (body:(List Int)) (r:(T_Out×T_gate_session)) (h:Sh.gate_session_accept s body=some r):FnPG Tryz.prog (GL mx) 86 [.box 80 [.v (.int .i64 s.Gate.Phase), .v (.string s.Gate.Helo), .v (.bool s.Gate.From.Null), .v (.string s.Gate.From.Local), .v (.string s.Gate.From.Domain), .fl (.own 26) 3 (flatten (map T_Path.enc s.Gate.To)), .v (.bool s.Gate.Quiet), .mkr 5 (map (int .u8) s.Gate.Buf), .v (.string s.Gate.Challenge), .v (.bool s.Gate.Proved), .v (.string ((s.config.Domains.getD 0 (⟨#[]⟩:ByteArray)))), .v (.string ((s.config.Domains.getD 1 (⟨#[]⟩:ByteArray)))), .v (.int .i64 s.config.Expiry), .v (.string s.config.User), .v (.string s.config.Secret), .v (.int .i64 s.config.Log), .v (.bool s.config.Held), .v (.int .i64 s.site), .v (.int .i64 s.at_), .fr (.own 55) false 12 (flatten (map T_Out.ienc s.out))], .fl .shr 1 (map (int .u8) body)] [.box 80 [.v (.int .i64 r.2.Gate.Phase), .v (.string r.2.Gate.Helo), .v (.bool r.2.Gate.From.Null), .v (.string r.2.Gate.From.Local), .v (.string r.2.Gate.From.Domain), .fl (.own 26) 3 (flatten (map T_Path.enc r.2.Gate.To)), .v (.bool r.2.Gate.Quiet), .mkr 5 (map (int .u8) r.2.Gate.Buf), .v (.string r.2.Gate.Challenge), .v (.bool r.2.Gate.Proved), .v (.string ((r.2.config.Domains.getD 0 (⟨#[]⟩:ByteArray)))), .v (.string ((r.2.config.Domains.getD 1 (⟨#[]⟩:ByteArray)))), .v (.int .i64 r.2.config.Expiry), .v (.string r.2.config.User), .v (.string r.2.config.Secret), .v (.int .i64 r.2.config.Log), .v (.bool r.2.config.Held), .v (.int .i64 r.2.site), .v (.int .i64 r.2.at_), .fr (.own 55) false 12 (flatten (map T_Out.ienc r.2.out))]] (.agg [.v (.int .i64 r.1.Reply.Code), .fl .ro 1 (map Value.string r.1.Reply.Lines), .v (.bool r.1.Has), .v (.bool r.1.Mail.From.Null), .v (.string r.1.Mail.From.Local), .v (.string r.1.Mail.From.Domain), .fl .ro 3 (flatten (map T_Path.enc r.1.Mail.To)), .fl .ro 1 (map (int .u8) r.1.Mail.Body), .v (.bool r.1.Mail.Quiet), .v (.string r.1.Mail.Helo), .v (.int .i64 r.1.Mail.At), .v (.bool r.1.Ask)]):=by
  unfold Sh.gate_session_accept at h
  refine yPG 81 func86 fun args0 hargs0 g0 hn hio => ?_
  refine yxx hn 0 ?_
  refine yS (.box 55 [vi 0,vz,vb false,vb false,vs z0,vs z0,vz,vz,vb false,vs z0,vi 0,vb false]) 0 ⟨oA (op_alloc _ _ zr55)⟩ ?_
  refine yee [0,1,81,4,0] ?_
  refine ht_seq ?_
  obtain ⟨v1, hv1, h⟩:=zn h
  obtain ⟨v2, hv2, h⟩:=zn h
  obtain ⟨v3, hv3, h⟩:=zn h
  refine ht_anyR (by kernel_rfl) hn (El:=(_::_::_::_::_::(9,fb body)::(10,.same (.slot 0))::(11,.ptr 0 0)::(12,.ptr 0 0)::(13,.ptr 0 1)::(14,vs s.Gate.Helo)::(15,.same (.slot 0))::(16,.same (.slot 0))::(17,.ptr 0 0)::(18,.ptr 0 17)::(19,vi s.site)::(20,.ptr 0 0)::(21,.ptr 0 10)::(22,.ptr 0 10)::(23,.ptr 0 (10+v1 * 1))::(24,vs v2)::(25,.same (.slot 0))::(26,.ptr 0 0)::(27,.ptr 0 18)::(28,vi s.at_)::(29,.tup [.mkr 5 (map (int .u8) v3.1),vi v3.2])::(8,.tup [.mkr 5 (map (int .u8) v3.1),.any])::(8,.tup [.any,vi v3.2])::(30,.mkr 5 (map (int .u8) v3.1))::(8,.tup [.any,.any])::(31,vi v3.2)::(5,.mkr 5 (map (int .u8) v3.1))::(6,vi v3.2)::[])) (init:=[0,1,2,3,4]) (fin:=[0,1,2,3,31,32,4]) (sps:=(zq [1] 5 9::zq [] 6 10::zq [6,0] 7 11::zq [7,0] 8 12::zq [8,0] 9 13::zq [9,0] 10 14::zq [] 11 15::zq [] 12 16::zq [12,0] 13 17::zq [13,0] 14 18::zq [14,0] 15 19::zq [11,0] 16 20::zq [16,0] 17 21::zq [17,0] 18 22::zq [18,0,15] 19 23::zq [19,0] 20 24::zq [] 21 25::zq [21,0] 22 26::zq [22,0] 23 27::zq [23,0] 24 28::zq [5,10,20,24,2] 25 29::⟨[],[25],[26,27],[(.slot 8)]⟩::⟨[],[26],[29,28],[(.slot 30)]⟩::zq [27] 30 31::⟨[],[28],[31],[(.slot 5)]⟩::zq [30] 32 6::[])) (es':=[(_,_),(_,_),(_,_),(_,_),(5,.mkr 5 (map (int .u8) v3.1)),(6,vi v3.2),(_,_)]) (by kernel_rfl) rfl rfl ⟨z1 rfl,zp rfl (op_move_name _ _ _ rfl),zp rfl (op_nilCheck_name _ _ _ 0 rfl rfl (by decide)),zp rfl (oF underlying80 rfl sz30),zp rfl (oF underlying30 rfl sz9),zp rfl (oL underlying9 rfl),zp rfl (op_move_name _ _ _ rfl),zp rfl (op_move_name _ _ _ rfl),zp rfl (op_nilCheck_name _ _ _ 0 rfl rfl (by decide)),zp rfl (oF underlying80 rfl sz3),zp rfl (oL underlying3 rfl),zp rfl (op_nilCheck_name _ _ _ 0 rfl rfl (by decide)),zp rfl (oF underlying80 rfl sz24),zp rfl (oF underlying24 rfl sz22),zp rfl (op_ix_dyn _ _ _ _ 2 0 10 _ underlying22 sz9 rfl rfl (ix_ok hv1).1 (ix_ok hv1).2 (by decide)),zp rfl (op_load_dyn _ _ _ 0 10 v1 2 ([(s.config.Domains.getD 0 z0),(s.config.Domains.getD 1 z0)]:List ByteArray) _ underlying9 rfl rfl rfl rfl hv2),zp rfl (op_move_name _ _ _ rfl),zp rfl (op_nilCheck_name _ _ _ 0 rfl rfl (by decide)),zp rfl (oF underlying80 rfl sz3),zp rfl (oL underlying3 rfl),zp rfl (op_callG _ _ 81 100 _ _ rfl call100 rfl rfl (fun _ h=>h) (ok_head_Put mx body s.Gate.Helo v2 s.at_ _ hv3) rfl rfl),zp rfl (LOp.split (A:=[]) 8 0 _ _ _ (op_move_take _ _ _ _ rfl) (zl rfl) rfl rfl),zp rfl (op_extract_take _ _ _ _ _ rfl (zl rfl) rfl rfl (by decide) rfl),zp rfl (oE rfl),zp rfl (op_assign_take _ _ _ _ rfl),z2 rfl,zz⟩ ?_
  refine pt_then (ht_seq ?_)
  refine ht_frzE 4 hio (es':=[(0, .box 80 [.v (.int .i64 s.Gate.Phase),.v (.string s.Gate.Helo),.v (.bool s.Gate.From.Null),.v (.string s.Gate.From.Local),.v (.string s.Gate.From.Domain),.fl (.own 26) 3 (flatten (map T_Path.enc s.Gate.To)),.v (.bool s.Gate.Quiet),.mkr 5 (map (int .u8) s.Gate.Buf),.v (.string s.Gate.Challenge),.v (.bool s.Gate.Proved),.v (.string ((s.config.Domains.getD 0 (⟨#[]⟩:ByteArray)))),.v (.string ((s.config.Domains.getD 1 (⟨#[]⟩:ByteArray)))),.v (.int .i64 s.config.Expiry),.v (.string s.config.User),.v (.string s.config.Secret),.v (.int .i64 s.config.Log),.v (.bool s.config.Held),.v (.int .i64 s.site),.v (.int .i64 s.at_),.fr (.own 55) false 12 (flatten (map T_Out.ienc s.out))]), (1, fb body), (81, .glob (GL mx)), (4, .box 55 [.v (.int .i64 0),vz,.v (.bool false),.v (.bool false),.v (.string (⟨#[]⟩:ByteArray)),.v (.string (⟨#[]⟩:ByteArray)),vz,vz,.v (.bool false),.v (.string (⟨#[]⟩:ByteArray)),.v (.int .i64 0),.v (.bool false)]), (5, .fl .ro 1 (map (int .u8) v3.1)), (6, .v (.int .i64 v3.2)), (0, .v (List.getD args0 0 undef))]) rfl ?_
  obtain ⟨v4, hv4, h⟩:=zn h
  refine wb [[],[32,0],[33,0],[34,0],[35,0],[],[37,0],[38,0],[39,0],[40,0]] ?_
  refine wN [41,0] ?_
  refine wo [[5]] ⟨lk call59 (ok_clone_List_api_Path _ _ hv4)⟩ ?_
  refine wK [42] [36,43] ?_
  refine wt [(44,.agg [vb s.Gate.From.Null,vs s.Gate.From.Local,vs s.Gate.From.Domain,.fl (.own 26) 3 (flatten (map T_Path.enc v4)),.fl .ro 1 (map (int .u8) v3.1),vb false,vs z0,vi 0])] [] ⟨op_build _ _ _ _ [3,1,1,1,1,1] _ _ underlying53 zr53 (fs53 _ underlying53) (.copy _ (.take _ _ (.copy _ Src.nil))) rfl rfl rfl⟩ ?_
  refine wN [] ?_
  refine wS (.box 53 [vb false,vs z0,vs z0,vz,vz,vb false,vs z0,vi 0]) [] ⟨oA (op_alloc _ _ zr53)⟩ ?_
  refine wK [44,7] [] ?_
  refine wt [(7,.box 53 [vb s.Gate.From.Null,vs s.Gate.From.Local,vs s.Gate.From.Domain,.fl (.own 26) 3 (flatten (map T_Path.enc v4)),.fl .ro 1 (map (int .u8) v3.1),vb false,vs z0,vi 0])] [] ⟨op_store_take _ _ _ _ _ _ _ _ sz53 rfl rfl rfl (zl rfl) rfl rfl⟩ ?_
  refine wee hn [0,1,81,4,6,7,0] ?_
  refine ht_seq ?_
  refine ht_seq ?_
  refine ht_joinS h (fun (s13:Bool)=>[(0,.box 80 (vi s.Gate.Phase::vs s.Gate.Helo::vb s.Gate.From.Null::vs s.Gate.From.Local::vs s.Gate.From.Domain::.fl (.own 26) 3 (flatten (map T_Path.enc s.Gate.To))::vb s.Gate.Quiet::.mkr 5 (map (int .u8) s.Gate.Buf)::vs s.Gate.Challenge::vb s.Gate.Proved::T_Config.c s.config [vi s.site,vi s.at_,.fr (.own 55) false 12 (flatten (map T_Out.ienc s.out))])),(81,.glob (GL mx)),(4,.box 55 [vi 0,vz,vb false,vb false,vs z0,vs z0,vz,vz,vb false,vs z0,vi 0,vb false]),(7,.box 53 [vb s.Gate.From.Null,vs s.Gate.From.Local,vs s.Gate.From.Domain,.fl (.own 26) 3 (flatten (map T_Path.enc v4)),.fl .ro 1 (map (int .u8) v3.1),vb false,vs z0,vi 0]),(56,vb s13),(0,.v (List.getD args0 0 undef))]) ?_ ?_
  ·rintro s13 h
   refine pt_then ?_
   refine ht_cond _ rfl (fun hb17 => ?_) (fun hb17 => ?_)
   ·have h:=cond_t hb17 h
    refine ht_seq ?_
    obtain ⟨v11, hv11, h⟩:=zn h
    refine yx hn 1 ?_
    refine yQ call85 (ok_gate_session_answer _ _ _ hv11) 0 [57] 0 ?_
    refine yk [58] [] ?_
    refine yt (59,.agg [vi v11.1.Code,.fl (.own 9) 1 (map Value.string v11.1.Lines),vb false,vb false,vs z0,vs z0,vz,vz,vb false,vs z0,vi 0,vb false]) 0 ⟨op_build _ _ _ _ [2,1,8,1] _ _ underlying55 zr55 (fs55 _ underlying55) (.take _ _ Src.nil) rfl rfl rfl⟩ ?_
    refine yk [59,4] [] ?_
    refine yt (4,.box 55 [vi v11.1.Code,.fl (.own 9) 1 (map Value.string v11.1.Lines),vb false,vb false,vs z0,vs z0,vz,vz,vb false,vs z0,vi 0,vb false]) 0 ⟨op_store_take _ _ _ _ _ _ _ _ sz55 rfl rfl rfl (zl rfl) rfl rfl⟩ ?_
    refine yee [0,81,4,0] ?_
    refine ht_ret ?_
    refine pt_pick [2,0,3] (by kernel_rfl) (es':=[(_,_),(_,_),(_,_)]) rfl ?_
    refine pt_sub (fs:=[(4,.box 55 [vi v11.1.Code,.fl (.own 9) 1 (map Value.string v11.1.Lines),vb false,vb false,vs z0,vs z0,.fl (.own 26) 3 (flatten (map T_Path.enc [])),.fl (.own 5) 1 (map (int .u8) []),vb false,vs z0,vi 0,vb false]),(0,.box 80 (vi v11.2.Gate.Phase::vs v11.2.Gate.Helo::vb v11.2.Gate.From.Null::vs v11.2.Gate.From.Local::vs v11.2.Gate.From.Domain::.fl (.own 26) 3 (flatten (map T_Path.enc v11.2.Gate.To))::vb v11.2.Gate.Quiet::.mkr 5 (map (int .u8) v11.2.Gate.Buf)::vs v11.2.Gate.Challenge::vb v11.2.Gate.Proved::T_Config.c v11.2.config [vi v11.2.site,vi v11.2.at_,.fr (.own 55) false 12 (flatten (map T_Out.ienc v11.2.out))])),(0,.v (List.getD args0 0 undef))]) (.box _ _ (subs_cons (sub_refl _) (subs_cons (sub_refl _) (subs_cons (sub_refl _) (subs_cons (sub_refl _) (subs_cons (sub_refl _) (subs_cons (sub_refl _) (subs_cons (sub_nil 26 3) (subs_cons (sub_nil 5 1) (subs_cons (sub_refl _) (subs_cons (sub_refl _) (subs_cons (sub_refl _) (subs_cons (sub_refl _) (subs_nil))))))))))))) rfl (.same _ (.same _ .nil))) ?_
    refine pt_frzE 0 hio (es':=[(4, .box 55 [.v (.int .i64 v11.1.Code),.fl .ro 1 (map Value.string v11.1.Lines),.v (.bool false),.v (.bool false),.v (.string (⟨#[]⟩:ByteArray)),.v (.string (⟨#[]⟩:ByteArray)),.fl .ro 3 (flatten (map T_Path.enc [])),.fl .ro 1 (map (int .u8) []),.v (.bool false),.v (.string (⟨#[]⟩:ByteArray)),.v (.int .i64 0),.v (.bool false)]), (0, .box 80 [.v (.int .i64 v11.2.Gate.Phase),.v (.string v11.2.Gate.Helo),.v (.bool v11.2.Gate.From.Null),.v (.string v11.2.Gate.From.Local),.v (.string v11.2.Gate.From.Domain),.fl (.own 26) 3 (flatten (map T_Path.enc v11.2.Gate.To)),.v (.bool v11.2.Gate.Quiet),.mkr 5 (map (int .u8) v11.2.Gate.Buf),.v (.string v11.2.Gate.Challenge),.v (.bool v11.2.Gate.Proved),.v (.string ((v11.2.config.Domains.getD 0 (⟨#[]⟩:ByteArray)))),.v (.string ((v11.2.config.Domains.getD 1 (⟨#[]⟩:ByteArray)))),.v (.int .i64 v11.2.config.Expiry),.v (.string v11.2.config.User),.v (.string v11.2.config.Secret),.v (.int .i64 v11.2.config.Log),.v (.bool v11.2.config.Held),.v (.int .i64 v11.2.site),.v (.int .i64 v11.2.at_),.fr (.own 55) false 12 (flatten (map T_Out.ienc v11.2.out))]), (0, .v (List.getD args0 0 undef))]) rfl ?_
    refine pt_r_then ?_
    obtain rfl:=zi h
    exact pt_retP (es:=[(4, .box 55 [.v (.int .i64 v11.1.Code),.fl .ro 1 (map Value.string v11.1.Lines),.v (.bool false),.v (.bool false),.v (.string (⟨#[]⟩:ByteArray)),.v (.string (⟨#[]⟩:ByteArray)),.fl .ro 3 (flatten (map T_Path.enc [])),.fl .ro 1 (map (int .u8) []),.v (.bool false),.v (.string (⟨#[]⟩:ByteArray)),.v (.int .i64 0),.v (.bool false)])]) (posts:=[.box 80 [.v (.int .i64 v11.2.Gate.Phase),.v (.string v11.2.Gate.Helo),.v (.bool v11.2.Gate.From.Null),.v (.string v11.2.Gate.From.Local),.v (.string v11.2.Gate.From.Domain),.fl (.own 26) 3 (flatten (map T_Path.enc v11.2.Gate.To)),.v (.bool v11.2.Gate.Quiet),.mkr 5 (map (int .u8) v11.2.Gate.Buf),.v (.string v11.2.Gate.Challenge),.v (.bool v11.2.Gate.Proved),.v (.string ((v11.2.config.Domains.getD 0 (⟨#[]⟩:ByteArray)))),.v (.string ((v11.2.config.Domains.getD 1 (⟨#[]⟩:ByteArray)))),.v (.int .i64 v11.2.config.Expiry),.v (.string v11.2.config.User),.v (.string v11.2.config.Secret),.v (.int .i64 v11.2.config.Log),.v (.bool v11.2.config.Held),.v (.int .i64 v11.2.site),.v (.int .i64 v11.2.at_),.fr (.own 55) false 12 (flatten (map T_Out.ienc v11.2.out))]]) hio rfl rfl (.cellA _ _ _ _ underlying55 rfl sz55 .nil) rfl rfl hargs0 rfl
   ·have h:=cond_f hb17 h
    refine ht_skip ?_
    refine pt_then (ht_seq ?_)
    refine wb [[],[60,0],[61,0],[62,0],[63,0],[],[65,0],[66,0],[67,0],[68,0],[],[70,0],[71,0],[72,0],[7]] ?_
    refine wK [7] [74,64] ?_
    refine wt [(7,.box 53 [vb s.Gate.From.Null,vs s.Gate.From.Local,vs s.Gate.From.Domain,.fl (.own 26) 3 (flatten (map T_Path.enc v4)),.fl .ro 1 (map (int .u8) v3.1),vb s.Gate.Quiet,vs z0,vi 0])] [[7]] ⟨op_store _ _ _ _ _ _ _ _ sz4 rfl rfl rfl rfl (zl rfl) rfl rfl⟩ ?_
    refine wK [7] [75,69] ?_
    refine wt [(7,.box 53 [vb s.Gate.From.Null,vs s.Gate.From.Local,vs s.Gate.From.Domain,.fl (.own 26) 3 (flatten (map T_Path.enc v4)),.fl .ro 1 (map (int .u8) v3.1),vb s.Gate.Quiet,vs s.Gate.Helo,vi 0])] [[7]] ⟨op_store _ _ _ _ _ _ _ _ sz9 rfl rfl rfl rfl (zl rfl) rfl rfl⟩ ?_
    refine wK [7] [76,73] ?_
    refine wt [(7,.box 53 [vb s.Gate.From.Null,vs s.Gate.From.Local,vs s.Gate.From.Domain,.fl (.own 26) 3 (flatten (map T_Path.enc v4)),.fl .ro 1 (map (int .u8) v3.1),vb s.Gate.Quiet,vs s.Gate.Helo,vi s.at_])] [] ⟨op_store _ _ _ _ _ _ _ _ sz3 rfl rfl rfl rfl (zl rfl) rfl rfl⟩ ?_
    refine wee hn [0,81,4,7,0] ?_
    refine ht_seq ?_
    obtain ⟨v12, hv12, h⟩:=zn h
    refine wb [[0]] ?_
    refine wK [0] [77] ?_
    refine wt [(0,.box 80 (vi v12.2.Gate.Phase::vs v12.2.Gate.Helo::vb v12.2.Gate.From.Null::vs v12.2.Gate.From.Local::vs v12.2.Gate.From.Domain::.fl (.own 26) 3 (flatten (map T_Path.enc v12.2.Gate.To))::vb v12.2.Gate.Quiet::.mkr 5 (map (int .u8) v12.2.Gate.Buf)::vs v12.2.Gate.Challenge::vb v12.2.Gate.Proved::T_Config.c v12.2.config [vi v12.2.site,vi v12.2.at_,.fr (.own 55) false 12 (flatten (map T_Out.ienc v12.2.out))])),(78,.agg [vi v12.1.Code,.fl (.own 9) 1 (map Value.string v12.1.Lines)])] [] ⟨op_callP _ _ _ _ 78 85 [.tmp 77] [_] _ _ _ rfl call85 rfl rfl rfl (ok_gate_session_answer ((T_gate_session.mk ((T_Gate.mk s.Gate.Phase s.Gate.Helo (T_Path.mk s.Gate.From.Null s.Gate.From.Local s.Gate.From.Domain) s.Gate.To s.Gate.Quiet s.Gate.Buf s.Gate.Challenge s.Gate.Proved)) ((T_Config.mk (([(s.config.Domains.getD 0 z0),(s.config.Domains.getD 1 z0)]:List ByteArray)) s.config.Expiry s.config.User s.config.Secret s.config.Log s.config.Held)) s.site s.at_ s.out)) 250 _ hv12) (zl rfl) rfl rfl rfl rfl rfl rfl rfl rfl⟩ ?_
    refine wK [7] [] ?_
    refine wt [(79,.agg [vb s.Gate.From.Null,vs s.Gate.From.Local,vs s.Gate.From.Domain,.fl (.own 26) 3 (flatten (map T_Path.enc v4)),.fl .ro 1 (map (int .u8) v3.1),vb s.Gate.Quiet,vs s.Gate.Helo,vi s.at_])] [] ⟨op_loadA_take _ _ _ _ underlying53 rfl sz53 rfl rfl⟩ ?_
    refine wK [78,79] [] ?_
    refine wt [(80,.agg [vi v12.1.Code,.fl (.own 9) 1 (map Value.string v12.1.Lines),vb true,vb s.Gate.From.Null,vs s.Gate.From.Local,vs s.Gate.From.Domain,.fl (.own 26) 3 (flatten (map T_Path.enc v4)),.fl .ro 1 (map (int .u8) v3.1),vb s.Gate.Quiet,vs s.Gate.Helo,vi s.at_,vb false])] [] ⟨op_build _ _ _ _ [2,1,8,1] _ _ underlying55 zr55 (fs55 _ underlying55) (.take _ _ (.copy _ (.take _ _ Src.nil))) rfl rfl rfl⟩ ?_
    refine wK [80,4] [] ?_
    refine wt [(4,.box 55 [vi v12.1.Code,.fl (.own 9) 1 (map Value.string v12.1.Lines),vb true,vb s.Gate.From.Null,vs s.Gate.From.Local,vs s.Gate.From.Domain,.fl (.own 26) 3 (flatten (map T_Path.enc v4)),.fl .ro 1 (map (int .u8) v3.1),vb s.Gate.Quiet,vs s.Gate.Helo,vi s.at_,vb false])] [] ⟨op_store_take _ _ _ _ _ _ _ _ sz55 rfl rfl rfl (zl rfl) rfl rfl⟩ ?_
    refine wee hn [0,81,4,0] ?_
    refine ht_ret ?_
    refine pt_pick [2,0,3] (by kernel_rfl) (es':=[(_,_),(_,_),(_,_)]) rfl ?_
    refine pt_frzE 0 hio (es':=[(4, .box 55 [.v (.int .i64 v12.1.Code),.fl .ro 1 (map Value.string v12.1.Lines),.v (.bool true),.v (.bool s.Gate.From.Null),.v (.string s.Gate.From.Local),.v (.string s.Gate.From.Domain),.fl .ro 3 (flatten (map T_Path.enc v4)),.fl .ro 1 (map (int .u8) v3.1),.v (.bool s.Gate.Quiet),.v (.string s.Gate.Helo),.v (.int .i64 s.at_),.v (.bool false)]), (0, .box 80 [.v (.int .i64 v12.2.Gate.Phase),.v (.string v12.2.Gate.Helo),.v (.bool v12.2.Gate.From.Null),.v (.string v12.2.Gate.From.Local),.v (.string v12.2.Gate.From.Domain),.fl (.own 26) 3 (flatten (map T_Path.enc v12.2.Gate.To)),.v (.bool v12.2.Gate.Quiet),.mkr 5 (map (int .u8) v12.2.Gate.Buf),.v (.string v12.2.Gate.Challenge),.v (.bool v12.2.Gate.Proved),.v (.string ((v12.2.config.Domains.getD 0 (⟨#[]⟩:ByteArray)))),.v (.string ((v12.2.config.Domains.getD 1 (⟨#[]⟩:ByteArray)))),.v (.int .i64 v12.2.config.Expiry),.v (.string v12.2.config.User),.v (.string v12.2.config.Secret),.v (.int .i64 v12.2.config.Log),.v (.bool v12.2.config.Held),.v (.int .i64 v12.2.site),.v (.int .i64 v12.2.at_),.fr (.own 55) false 12 (flatten (map T_Out.ienc v12.2.out))]), (0, .v (List.getD args0 0 undef))]) rfl ?_
    obtain rfl:=zi h
    exact pt_retP (es:=[(4, .box 55 [.v (.int .i64 v12.1.Code),.fl .ro 1 (map Value.string v12.1.Lines),.v (.bool true),.v (.bool s.Gate.From.Null),.v (.string s.Gate.From.Local),.v (.string s.Gate.From.Domain),.fl .ro 3 (flatten (map T_Path.enc v4)),.fl .ro 1 (map (int .u8) v3.1),.v (.bool s.Gate.Quiet),.v (.string s.Gate.Helo),.v (.int .i64 s.at_),.v (.bool false)])]) (posts:=[.box 80 [.v (.int .i64 v12.2.Gate.Phase),.v (.string v12.2.Gate.Helo),.v (.bool v12.2.Gate.From.Null),.v (.string v12.2.Gate.From.Local),.v (.string v12.2.Gate.From.Domain),.fl (.own 26) 3 (flatten (map T_Path.enc v12.2.Gate.To)),.v (.bool v12.2.Gate.Quiet),.mkr 5 (map (int .u8) v12.2.Gate.Buf),.v (.string v12.2.Gate.Challenge),.v (.bool v12.2.Gate.Proved),.v (.string ((v12.2.config.Domains.getD 0 (⟨#[]⟩:ByteArray)))),.v (.string ((v12.2.config.Domains.getD 1 (⟨#[]⟩:ByteArray)))),.v (.int .i64 v12.2.config.Expiry),.v (.string v12.2.config.User),.v (.string v12.2.config.Secret),.v (.int .i64 v12.2.config.Log),.v (.bool v12.2.config.Held),.v (.int .i64 v12.2.site),.v (.int .i64 v12.2.at_),.fr (.own 55) false 12 (flatten (map T_Out.ienc v12.2.out))]]) hio rfl rfl (.cellA _ _ _ _ underlying55 rfl sz55 .nil) rfl rfl hargs0 rfl
  ·intro u14 h hl15 hr16
   refine cond_some h (fun hg3_3 h => ?_) (fun hg3_3 h => ?_)
   ·refine yx hn 4 ?_
    refine yd hg3_3 8 ?_
    refine ye [0,81,4,7,56,0] ?_
    exact hl15 _ (zi h).symm
   ·refine cond_some h (fun hg3_7 h => ?_) (fun hg3_7 h => ?_)
    ·refine yx hn 4 ?_
     refine yd hg3_3 4 ?_
     refine yd hg3_7 4 ?_
     refine ye [0,81,4,7,56,0] ?_
     exact hl15 _ (zi h).symm
    ·obtain ⟨v5, hv5, h⟩:=zn h
     refine yx hn 4 ?_
     refine yd hg3_3 4 ?_
     refine yd hg3_7 1 ?_
     refine ys 2 ⟨lg call101 (ok_gate_fits _ _ _ hv5) 81⟩ ?_
     refine ye [0,81,4,7,56,0] ?_
     exact hl15 _ (zi h).symm
theorem ok_dots_Lines (mx:Int×Nat×Value) (b:(List Int)) (r:(List (List Int))) (h:Sh.dots_Lines b=some r):FnG Tryz.prog (GL mx) 102 [.fl .shr 1 (map (int .u8) b)] (.fr .ro false 1 (flatten (map Row_int_u8.ienc r))):=by
  unfold Sh.dots_Lines at h
  refine yG 14 func102 fun g0 hn hio => ?_
  refine yyy hn 1 [0,14] ?_
  refine yxx hn 0 ?_
  refine yS (.box 137 [vz]) 0 ⟨oA (op_alloc _ _ zr137)⟩ ?_
  refine yee [0,14,3] ?_
  refine ht_seq ?_
  refine ht_seq ?_
  obtain ⟨v1, hv1, h⟩:=zn h
  refine yx hn 1 ?_
  refine yk [] [5] ?_
  refine yt (6,.cloB 123 [.box 28 [fb v1]]) 0 ⟨op_callS _ _ 96 _ _ rfl call96 rfl rfl (ok_dots_lines b _ hv1) rfl⟩ ?_
  refine yee [14,3,6] ?_
  refine ht_block ?_
  refine ht_pick [2,0,1] (by kernel_rfl) (es':=[(6,.cloB 123 [.box 28 [fb v1]]),(14,.glob (GL mx)),(3,.box 137 [vz])]) rfl ?_
  refine ht_sub (fs:=[(6,.cloB 123 [.box 28 [fb v1]]),(14,.glob (GL mx)),(3,.box 137 [.fr (.own 28) false 1 (flatten (map Row_int_u8.ienc []))])]) (.same _ (.same _ (.box _ _ (subs_cons (sub_nil_fr 28 false 1) (subs_nil)) rfl .nil))) ?_
  refine ht_rangeF h 123 6 7 15 _ [14, 3] call123 (fun (s7:(List (List Int)))=>[(14, .glob (GL mx)), (3, .box 137 [.fr (.own 28) false 1 (flatten (map Row_int_u8.ienc s7))])]) (fun (():Unit)=>[]) (fun l J Y hY t t' h=>ok_dots_lines_1 mx l J Y hY v1 t t' h) hn rfl (fun _=>rfl) (fun _=>rfl) (fun _=>rfl) rfl rfl (fun _=>⟨rfl, rfl⟩) rfl (glIn_look 14 rfl) ?_ ?_ ?_
  ·rintro kk g0 hn hio x s7 u h
   refine ht_es (es':=[(7,fb x),(14,.glob (GL mx)),(3,.box 137 [.fr (.own 28) false 1 (flatten (map Row_int_u8.ienc s7))]),(14,.v (kk.tm.getD 14 undef)),(3,.v (kk.tm.getD 3 undef)),(15,.inv kk.ready)]) rfl ?_
   refine yy hn 1 [14,3,15,4,14,3] ?_
   refine pt_pick [0,1,3,4,5,2] (by kernel_rfl) (es':=[(14,.glob (GL mx)),(3,.box 137 [.fr (.own 28) false 1 (flatten (map Row_int_u8.ienc s7))]),(4,fb x),(14,.v (kk.tm.getD 14 undef)),(3,.v (kk.tm.getD 3 undef)),(15,.inv kk.ready)]) rfl ?_
   refine pt_begin (es:=[(14,.glob (GL mx)),(3,.box 137 [.fr (.own 28) false 1 (flatten (map Row_int_u8.ienc s7))]),(4,fb x),(14,.v (kk.tm.getD 14 undef)),(3,.v (kk.tm.getD 3 undef))]) 15 rfl ?_
   refine ht_block ?_
   obtain ⟨v2, hv2, h⟩:=zn h
   obtain ⟨v3, hv3, h⟩:=zn h
   refine wb [[3],[4]] ?_
   refine wN [9] ?_
   refine wS (.fl .ro 1 (map (int .u8) v2)) [] ⟨LOp.frzG 0 (op_app_nil _ _ _ _ el28 rfl rfl (map_len _) hv2 (congrArg (map _) (app_nil_eq hv2))) (zl rfl) rfl⟩ ?_
   refine wN [10] ?_
   refine wS (.fr (.own 28) false 1 (flatten (map Row_int_u8.ienc [v2]))) [] ⟨op_build1_fr _ _ _ 1 (.slice none 0 0) false _ _ underlying137 sz28 zr28 rfl rfl (.cons (.ro _ _ rfl) (.nil)) rfl (by decide) (by decide)⟩ ?_
   refine wK [3] [8,11] ?_
   refine wt [(3,.box 137 [.any]),(12,.fr (.own 28) false 1 (flatten (map Row_int_u8.ienc v3)))] [] ⟨op_app_fr_cell _ 12 3 0 _ _ el137 rfl rfl (zl rfl) rfl (gflat_len Row_int_u8.ilen _) (gflat_len Row_int_u8.ilen _) hv3 (gflat_app (app_eq hv3)) (by decide) (by decide) (by decide) rfl rfl⟩ ?_
   refine wK [8,12,3] [] ?_
   refine wt [(3,.box 137 [.fr (.own 28) false 1 (flatten (map Row_int_u8.ienc v3))])] [] ⟨LOp.drop [_] (op_store_take _ _ _ _ _ _ _ _ sz137 rfl rfl rfl (zl rfl) rfl rfl)⟩ ?_
   refine we hn [14,3,15,14,3] ?_
   refine pt_inb ?_
   refine pt_pick [0,1,3,4,2] (by kernel_rfl) (es':=[(_,_),(_,_),(_,_),(_,_),(_,_)]) rfl ?_
   obtain rfl:=zi h
   exact pt_rnext 15 [14, 3] _ rfl rfl (by kernel_rfl)
  ·rintro D s7 h
   refine pt_inb ?_
   refine pt_then (ht_seq ?_)
   refine ht_frz 1 hio (es':=[(14, .glob (GL mx)), (3, .box 137 [.fr .ro false 1 (flatten (map Row_int_u8.ienc s7))])]) rfl ?_
   refine yy hn 2 [14,2] ?_
   refine pt_then (ht_ret ?_)
   refine pt_pick [1] (by kernel_rfl) (es':=[(_,_)]) rfl ?_
   obtain rfl:=zi h
   exact pt_ret hio rfl (.tmp _ _ .nil) rfl rfl
  ·rintro D ⟨⟩ h
   cases h
theorem ok_gate_afterDot (mx:Int×Nat×Value) (b:(List Int)) (r:Int) (h:Sh.gate_afterDot b=some r):FnG Tryz.prog (GL mx) 87 [.fl .shr 1 (map (int .u8) b)] (.v (.int .i64 r)):=by
  unfold Sh.gate_afterDot at h
  refine yG 23 func87 fun g0 hn hio => ?_
  refine yyy hn 1 [0,23] ?_
  refine yyy hn 1 [0,23,3] ?_
  refine ht_seq ?_
  refine ht_joinS h (fun (s27:Int)=>[(23,.glob (GL mx)),(3,vi s27)]) ?_ ?_
  ·rintro s27 h
   refine pt_then ?_
   refine yyy hn 2 [23,2] ?_
   refine ht_ret ?_
   refine pt_pick [1] (by kernel_rfl) (es':=[(_,_)]) rfl ?_
   obtain rfl:=zi h
   exact pt_ret hio rfl (.tmp _ _ .nil) rfl rfl
  ·intro u28 h hl29 hr30
   refine ht_seq ?_
   obtain ⟨v1, hv1, h⟩:=zn h
   refine yx hn 1 ?_
   refine ys 2 ⟨lg call102 (ok_dots_Lines _ _ _ hv1) 23⟩ ?_
   refine yee [23,3,7,8,9] ?_
   refine ht_loopS h (fun ((s37,s38):Int×Int)=>[(23,.glob (GL mx)),(3,vi s37),(7,.fr .ro false 1 (flatten (map Row_int_u8.ienc v1))),(8,vi (v1.length:Int)),(9,vi s38)]) (fun (s41:Int)=>[(23,.glob (GL mx)),(3,vi s41)]) ?_ ?_
   ·rintro s41 h
    exact hl29 _ (zi h).symm
   ·rintro u42 hl43 hr44 ⟨s37, s38⟩ rr47 h ho45
    refine yyy hn 1 [23,3,7,8,9,10] ?_
    refine ht_seq ?_
    refine ht_cond _ rfl (fun hb48 => ?_) (fun hb48 => ?_)
    ·have h:=cond_t hb48 h
     refine ht_skip ?_
     refine pt_then (ht_seq ?_)
     refine ht_block ?_
     refine ht_seq ?_
     obtain ⟨v3, hv3, h⟩:=zn h
     obtain ⟨v4, hv4, h⟩:=zn h
     refine yx hn 0 ?_
     refine ys 0 ⟨lI hv3⟩ ?_
     refine yS (.fl .ro 1 (map (int .u8) v4)) 1 ⟨op_load_fr _ _ _ _ _ _ _ underlying28 rfl rfl rfl (gflat_cell0 Row_int_u8.ilen hv4 rfl) (.fl _ _ rfl)⟩ ?_
     refine yee [23,3,7,8,9,5] ?_
     refine ht_seq ?_
     obtain ⟨v5, hv5, h⟩:=zn h
     obtain ⟨v6, hv6, h⟩:=zn h
     refine yx hn 3 ?_
     refine ys 0 ⟨lb hv5⟩ ?_
     refine ys 0 ⟨lb hv6⟩ ?_
     refine yw [3] 1 ?_
     refine yee [23,7,8,9,5,3] ?_
     refine ht_seq ?_
     obtain ⟨v7, hv7, h⟩:=zn h
     refine yx hn 1 ?_
     refine ys 1 ⟨lS hv7⟩ ?_
     refine yee [23,7,8,9,3,20] ?_
     refine ht_cond _ rfl (fun hb49 => ?_) (fun hb49 => ?_)
     ·have h:=cond_t hb49 h
      refine ht_exit ?_
      refine pt_x_out (by decide) ?_
      refine pt_x_then ?_
      refine pt_x_then ?_
      refine pt_x_in ?_
      refine pt_pick [0,4] (by kernel_rfl) (es':=[(_,_),(_,_)]) rfl ?_
      exact hl43 _ (ho45 _ (zi h).symm).symm
     ·have h:=cond_f hb49 h
      refine ht_skip ?_
      refine pt_inb ?_
      refine pt_then ?_
      obtain ⟨v9, hv9, h⟩:=zn h
      refine yx hn 0 ?_
      refine ys 0 ⟨lb hv9⟩ ?_
      refine yw [9] 1 ?_
      refine ye [23,7,8,3,9] ?_
      refine pt_pick [0,3,1,2,4] (by kernel_rfl) (es':=[(_,_),(_,_),(_,_),(_,_),(_,_)]) rfl ?_
      exact pt_next _ (zi h).symm rfl
    ·have h:=cond_f hb48 h
     refine ht_exit ?_
     refine pt_x_then ?_
     refine pt_x_then ?_
     refine pt_x_in ?_
     refine pt_pick [0,1] (by kernel_rfl) (es':=[(_,_),(_,_)]) rfl ?_
     exact hl43 _ (ho45 _ (zi h).symm).symm
theorem ok_gate_session_reset (s:T_gate_session) (r:T_gate_session) (h:Sh.gate_session_reset s=some r):FnP Tryz.prog 88 [.box 80 [.v (.int .i64 s.Gate.Phase), .v (.string s.Gate.Helo), .v (.bool s.Gate.From.Null), .v (.string s.Gate.From.Local), .v (.string s.Gate.From.Domain), .fl (.own 26) 3 (flatten (map T_Path.enc s.Gate.To)), .v (.bool s.Gate.Quiet), .mkr 5 (map (int .u8) s.Gate.Buf), .v (.string s.Gate.Challenge), .v (.bool s.Gate.Proved), .v (.string ((s.config.Domains.getD 0 (⟨#[]⟩:ByteArray)))), .v (.string ((s.config.Domains.getD 1 (⟨#[]⟩:ByteArray)))), .v (.int .i64 s.config.Expiry), .v (.string s.config.User), .v (.string s.config.Secret), .v (.int .i64 s.config.Log), .v (.bool s.config.Held), .v (.int .i64 s.site), .v (.int .i64 s.at_), .fr (.own 55) false 12 (flatten (map T_Out.ienc s.out))]] [.box 80 [.v (.int .i64 r.Gate.Phase), .v (.string r.Gate.Helo), .v (.bool r.Gate.From.Null), .v (.string r.Gate.From.Local), .v (.string r.Gate.From.Domain), .fl (.own 26) 3 (flatten (map T_Path.enc r.Gate.To)), .v (.bool r.Gate.Quiet), .mkr 5 (map (int .u8) r.Gate.Buf), .v (.string r.Gate.Challenge), .v (.bool r.Gate.Proved), .v (.string ((r.config.Domains.getD 0 (⟨#[]⟩:ByteArray)))), .v (.string ((r.config.Domains.getD 1 (⟨#[]⟩:ByteArray)))), .v (.int .i64 r.config.Expiry), .v (.string r.config.User), .v (.string r.config.Secret), .v (.int .i64 r.config.Log), .v (.bool r.config.Held), .v (.int .i64 r.site), .v (.int .i64 r.at_), .fr (.own 55) false 12 (flatten (map T_Out.ienc r.out))]] (.tup []):=by
  unfold Sh.gate_session_reset at h
  refine yP 15 func88 fun args0 hargs0 g0 hn hio => ?_
  refine yx hn 3 ?_
  refine yS (.agg [vb false,vs z0,vs z0]) 12 ⟨op_build _ _ _ _ [1,1,1] _ _ underlying26 zr26 (fs26 _ underlying26) Src.nil rfl rfl rfl⟩ ?_
  refine ye [0,0] ?_
  refine pt_sub (fs:=[(0,.box 80 (vi s.Gate.Phase::vs s.Gate.Helo::vb false::vs z0::vs z0::.fl (.own 26) 3 (flatten (map T_Path.enc []))::vb false::.mkr 5 (map (int .u8) s.Gate.Buf)::vs s.Gate.Challenge::vb s.Gate.Proved::T_Config.c s.config [vi s.site,vi s.at_,.fr (.own 55) false 12 (flatten (map T_Out.ienc s.out))])),(0,.v (List.getD args0 0 undef))]) (.box _ _ (subs_cons (sub_refl _) (subs_cons (sub_refl _) (subs_cons (sub_refl _) (subs_cons (sub_refl _) (subs_cons (sub_refl _) (subs_cons (sub_nil 26 3) (subs_cons (sub_refl _) (subs_cons (sub_refl _) (subs_cons (sub_refl _) (subs_cons (sub_refl _) (subs_cons (sub_refl _) (subs_cons (sub_refl _) (subs_cons (sub_refl _) (subs_cons (sub_refl _) (subs_cons (sub_refl _) (subs_cons (sub_refl _) (subs_cons (sub_refl _) (subs_cons (sub_refl _) (subs_cons (sub_refl _) (subs_cons (sub_refl _) (subs_nil))))))))))))))))))))) rfl (.same _ .nil)) ?_
  obtain rfl:=zi h
  exact pt_endP (es:=[]) (posts:=[.box 80 [.v (.int .i64 s.Gate.Phase),.v (.string s.Gate.Helo),.v (.bool false),.v (.string (⟨#[]⟩:ByteArray)),.v (.string (⟨#[]⟩:ByteArray)),.fl (.own 26) 3 (flatten (map T_Path.enc [])),.v (.bool false),.mkr 5 (map (int .u8) s.Gate.Buf),.v (.string s.Gate.Challenge),.v (.bool s.Gate.Proved),.v (.string ((s.config.Domains.getD 0 (⟨#[]⟩:ByteArray)))),.v (.string ((s.config.Domains.getD 1 (⟨#[]⟩:ByteArray)))),.v (.int .i64 s.config.Expiry),.v (.string s.config.User),.v (.string s.config.Secret),.v (.int .i64 s.config.Log),.v (.bool s.config.Held),.v (.int .i64 s.site),.v (.int .i64 s.at_),.fr (.own 55) false 12 (flatten (map T_Out.ienc s.out))]]) hio rfl rfl .nil rfl rfl hargs0 rfl
theorem ok_gate_session_data (mx:Int×Nat×Value) (s:T_gate_session) (r:(Bool×T_gate_session)) (h:Sh.gate_session_data s=some r):FnPG Tryz.prog (GL mx) 73 [.box 80 [.v (.int .i64 s.Gate.Phase), .v (.string s.Gate.Helo), .v (.bool s.Gate.From.Null), .v (.string s.Gate.From.Local), .v (.string s.Gate.From.Domain), .fl (.own 26) 3 (flatten (map T_Path.enc s.Gate.To)), .v (.bool s.Gate.Quiet), .mkr 5 (map (int .u8) s.Gate.Buf), .v (.string s.Gate.Challenge), .v (.bool s.Gate.Proved), .v (.string ((s.config.Domains.getD 0 (⟨#[]⟩:ByteArray)))), .v (.string ((s.config.Domains.getD 1 (⟨#[]⟩:ByteArray)))), .v (.int .i64 s.config.Expiry), .v (.string s.config.User), .v (.string s.config.Secret), .v (.int .i64 s.config.Log), .v (.bool s.config.Held), .v (.int .i64 s.site), .v (.int .i64 s.at_), .fr (.own 55) false 12 (flatten (map T_Out.ienc s.out))]] [.box 80 [.v (.int .i64 r.2.Gate.Phase), .v (.string r.2.Gate.Helo), .v (.bool r.2.Gate.From.Null), .v (.string r.2.Gate.From.Local), .v (.string r.2.Gate.From.Domain), .fl (.own 26) 3 (flatten (map T_Path.enc r.2.Gate.To)), .v (.bool r.2.Gate.Quiet), .mkr 5 (map (int .u8) r.2.Gate.Buf), .v (.string r.2.Gate.Challenge), .v (.bool r.2.Gate.Proved), .v (.string ((r.2.config.Domains.getD 0 (⟨#[]⟩:ByteArray)))), .v (.string ((r.2.config.Domains.getD 1 (⟨#[]⟩:ByteArray)))), .v (.int .i64 r.2.config.Expiry), .v (.string r.2.config.User), .v (.string r.2.config.Secret), .v (.int .i64 r.2.config.Log), .v (.bool r.2.config.Held), .v (.int .i64 r.2.site), .v (.int .i64 r.2.at_), .fr (.own 55) false 12 (flatten (map T_Out.ienc r.2.out))]] (.v (.bool r.1)):=by
  unfold Sh.gate_session_data at h
  refine yPG 60 func73 fun args0 hargs0 g0 hn hio => ?_
  refine yyy hn 1 [0,60,0] ?_
  refine ht_seq ?_
  obtain ⟨v1, hv1, h⟩:=zn h
  refine yx hn 5 ?_
  refine ys 0 ⟨lg call84 (ok_dots_Strip _ _ _ hv1) 60⟩ ?_
  refine ym 0 ?_
  refine yx_ 2 ?_
  refine ya 2 ?_
  refine yee [0,60,3,4,5,0] ?_
  refine ht_seq ?_
  refine yyy hn 2 [0,60,3,4,5,18,0] ?_
  refine ht_cond _ rfl (fun hb2 => ?_) (fun hb2 => ?_)
  ·have h:=cond_t hb2 h
   refine yyy hn 1 [0,60,2,0] ?_
   refine ht_ret ?_
   refine pt_pick [2,0,3] (by kernel_rfl) (es':=[(_,_),(_,_),(_,_)]) rfl ?_
   refine pt_r_then ?_
   obtain rfl:=zi h
   exact pt_retP (es:=[(2, .v (.bool false))]) (posts:=[.box 80 [.v (.int .i64 s.Gate.Phase),.v (.string s.Gate.Helo),.v (.bool s.Gate.From.Null),.v (.string s.Gate.From.Local),.v (.string s.Gate.From.Domain),.fl (.own 26) 3 (flatten (map T_Path.enc s.Gate.To)),.v (.bool s.Gate.Quiet),.mkr 5 (map (int .u8) s.Gate.Buf),.v (.string s.Gate.Challenge),.v (.bool s.Gate.Proved),.v (.string ((s.config.Domains.getD 0 (⟨#[]⟩:ByteArray)))),.v (.string ((s.config.Domains.getD 1 (⟨#[]⟩:ByteArray)))),.v (.int .i64 s.config.Expiry),.v (.string s.config.User),.v (.string s.config.Secret),.v (.int .i64 s.config.Log),.v (.bool s.config.Held),.v (.int .i64 s.site),.v (.int .i64 s.at_),.fr (.own 55) false 12 (flatten (map T_Out.ienc s.out))]]) hio rfl rfl (.tmp _ _ .nil) rfl rfl hargs0 rfl
  ·have h:=cond_f hb2 h
   refine ht_skip ?_
   refine pt_then (ht_seq ?_)
   obtain ⟨v3, hv3, h⟩:=zn h
   refine yx hn 1 ?_
   refine yQ call85 (ok_gate_session_answer _ _ _ hv3) 0 [19] 0 ?_
   refine yk [20] [] ?_
   refine yt (21,.agg [vi v3.1.Code,.fl (.own 9) 1 (map Value.string v3.1.Lines),vb false,vb false,vs z0,vs z0,vz,vz,vb false,vs z0,vi 0,vb false]) 0 ⟨op_build _ _ _ _ [2,1,8,1] _ _ underlying55 zr55 (fs55 _ underlying55) (.take _ _ Src.nil) rfl rfl rfl⟩ ?_
   refine yS (.box 55 [vi 0,vz,vb false,vb false,vs z0,vs z0,vz,vz,vb false,vs z0,vi 0,vb false]) 0 ⟨oA (op_alloc _ _ zr55)⟩ ?_
   refine yk [21,6] [] ?_
   refine yt (6,.box 55 [vi v3.1.Code,.fl (.own 9) 1 (map Value.string v3.1.Lines),vb false,vb false,vs z0,vs z0,vz,vz,vb false,vs z0,vi 0,vb false]) 0 ⟨op_store_take _ _ _ _ _ _ _ _ sz55 rfl rfl rfl (zl rfl) rfl rfl⟩ ?_
   refine yee [0,60,3,4,5,6,0] ?_
   refine ht_seq ?_
   refine ht_joinS h (fun ((s7,s8,s9,s10,s11,s12,s13,s14,s15,s16,s17,s18,s19,s20,s21,s22,s23,s24,s25,s26,s27,s28,s29,s30,s31,s32,s33,s34,s35,s36,s37,s38,s39):Int×ByteArray×Bool×ByteArray×ByteArray×(List T_Path)×Bool×(List Int)×ByteArray×Bool×ByteArray×ByteArray×Int×ByteArray×ByteArray×Int×Bool×Int×Int×(List T_Out)×Int×Int×(List ByteArray)×Bool×Bool×ByteArray×ByteArray×(List T_Path)×(List Int)×Bool×ByteArray×Int×Bool)=>[(0,.box 80 [vi s7,vs s8,vb s9,vs s10,vs s11,.fl (.own 26) 3 (flatten (map T_Path.enc s12)),vb s13,.mkr 5 (map (int .u8) s14),vs s15,vb s16,vs s17,vs s18,vi s19,vs s20,vs s21,vi s22,vb s23,vi s24,vi s25,.fr (.own 55) false 12 (flatten (map T_Out.ienc s26))]),(60,.glob (GL mx)),(4,vi s27),(6,.box 55 [vi s28,.fl .ro 1 (map Value.string s29),vb s30,vb s31,vs s32,vs s33,.fl .ro 3 (flatten (map T_Path.enc s34)),.fl .ro 1 (map (int .u8) s35),vb s36,vs s37,vi s38,vb s39]),(0,.v (List.getD args0 0 undef))]) ?_ ?_
   ·rintro ⟨s7, s8, s9, s10, s11, s12, s13, s14, s15, s16, s17, s18, s19, s20, s21, s22, s23, s24, s25, s26, s27, s28, s29, s30, s31, s32, s33, s34, s35, s36, s37, s38, s39⟩ h
    refine pt_then (ht_seq ?_)
    obtain ⟨v44, hv44, h⟩:=zn h
    refine wb [[],[],[34,0],[35,0],[36,0],[6]] ?_
    refine wN [38] ?_
    refine wS (.fr (.own 55) false 12 (flatten (map T_Out.ienc [(T_Out.mk (T_Reply.mk s28 s29) s30 ((T_Mail.mk (T_Path.mk s31 s32 s33) s34 s35 s36 s37 s38)) s39)]))) [] ⟨op_build1_fr _ _ _ 12 (.agg #[.int .i64 0,.slice none 0 0,.bool false,.bool false,.string ByteArray.empty,.string ByteArray.empty,.slice none 0 0,.slice none 0 0,.bool false,.string ByteArray.empty,.int .i64 0,.bool false]) false _ _ underlying34 sz55 zr55 rfl rfl (.cons (.v _) (.cons (.ro _ _ rfl) (.cons (.v _) (.cons (.v _) (.cons (.v _) (.cons (.v _) (.cons (.ro _ _ rfl) (.cons (.ro _ _ rfl) (.cons (.v _) (.cons (.v _) (.cons (.v _) (.cons (.v _) (.nil))))))))))))) rfl (by decide) (by decide)⟩ ?_
    refine wK [0] [37,39] ?_
    refine wt [(0,.box 80 [vi s7,vs s8,vb s9,vs s10,vs s11,.fl (.own 26) 3 (flatten (map T_Path.enc s12)),vb s13,.mkr 5 (map (int .u8) s14),vs s15,vb s16,vs s17,vs s18,vi s19,vs s20,vs s21,vi s22,vb s23,vi s24,vi s25,.any]),(40,.fr (.own 55) false 12 (flatten (map T_Out.ienc v44)))] [[33,0],[41,0]] ⟨op_app_fr_cell _ 40 0 19 _ _ el34 rfl rfl (zl rfl) rfl (gflat_len T_Out.ilen _) (gflat_len T_Out.ilen _) hv44 (gflat_app (app_eq hv44)) (by decide) (by decide) (by decide) rfl rfl⟩ ?_
    refine wK [37,40,0] [42] ?_
    refine wt [(0,.box 80 [vi s7,vs s8,vb s9,vs s10,vs s11,.fl (.own 26) 3 (flatten (map T_Path.enc s12)),vb s13,.mkr 5 (map (int .u8) s14),vs s15,vb s16,vs s17,vs s18,vi s19,vs s20,vs s21,vi s22,vb s23,vi s24,vi s25,.fr (.own 55) false 12 (flatten (map T_Out.ienc v44))])] [] ⟨LOp.drop [_] (op_store_take _ _ _ _ _ _ _ _ sz34 rfl rfl rfl (zl rfl) rfl rfl)⟩ ?_
    refine wee hn [0,60,4,0] ?_
    refine ht_seq ?_
    obtain ⟨v45, hv45, h⟩:=zn h
    refine yx hn 7 ?_
    refine yk [0] [48,49] ?_
    refine ytt (0,.box 80 [vi s7,vs s8,vb s9,vs s10,vs s11,.fl (.own 26) 3 (flatten (map T_Path.enc s12)),vb s13,.any,vs s15,vb s16,vs s17,vs s18,vi s19,vs s20,vs s21,vi s22,vb s23,vi s24,vi s25,.fr (.own 55) false 12 (flatten (map T_Out.ienc v44))]) (50,.mkr 5 (map (int .u8) v45)) 3 ⟨op_sl_mk_cell _ 50 0 7 _ _ underlying28 sz5 rfl rfl (zl rfl) rfl rfl hv45 rfl (Nat.ne_of_beq_eq_false rfl) rfl rfl⟩ ?_
    refine yw [48] 0 ?_
    refine yk [50,0] [53] ?_
    refine yt (0,.box 80 [vi s7,vs s8,vb s9,vs s10,vs s11,.fl (.own 26) 3 (flatten (map T_Path.enc s12)),vb s13,.mkr 5 (map (int .u8) v45),vs s15,vb s16,vs s17,vs s18,vi s19,vs s20,vs s21,vi s22,vb s23,vi s24,vi s25,.fr (.own 55) false 12 (flatten (map T_Out.ienc v44))]) 0 ⟨op_store_take _ _ _ _ _ _ _ _ sz28 rfl rfl rfl (zl rfl) rfl rfl⟩ ?_
    refine yee [0,60,0] ?_
    refine yyy hn 5 [0,60,0] ?_
    refine ht_seq ?_
    obtain ⟨v46, hv46, h⟩:=zn h
    refine yx hn 1 ?_
    refine yQ call88 (ok_gate_session_reset _ _ hv46) 0 [58] 0 ?_
    refine yee [0,60,0] ?_
    refine yyy hn 1 [0,60,2,0] ?_
    refine ht_ret ?_
    refine pt_pick [2,0,3] (by kernel_rfl) (es':=[(_,_),(_,_),(_,_)]) rfl ?_
    obtain rfl:=zi h
    exact pt_retP (es:=[(2, .v (.bool true))]) (posts:=[.box 80 [.v (.int .i64 v46.Gate.Phase),.v (.string v46.Gate.Helo),.v (.bool v46.Gate.From.Null),.v (.string v46.Gate.From.Local),.v (.string v46.Gate.From.Domain),.fl (.own 26) 3 (flatten (map T_Path.enc v46.Gate.To)),.v (.bool v46.Gate.Quiet),.mkr 5 (map (int .u8) v46.Gate.Buf),.v (.string v46.Gate.Challenge),.v (.bool v46.Gate.Proved),.v (.string ((v46.config.Domains.getD 0 (⟨#[]⟩:ByteArray)))),.v (.string ((v46.config.Domains.getD 1 (⟨#[]⟩:ByteArray)))),.v (.int .i64 v46.config.Expiry),.v (.string v46.config.User),.v (.string v46.config.Secret),.v (.int .i64 v46.config.Log),.v (.bool v46.config.Held),.v (.int .i64 v46.site),.v (.int .i64 v46.at_),.fr (.own 55) false 12 (flatten (map T_Out.ienc v46.out))]]) hio rfl rfl (.tmp _ _ .nil) rfl rfl hargs0 rfl
   ·intro u40 h hl41 hr42
    refine yyy hn 2 [0,60,3,4,6,23,0] ?_
    refine ht_cond _ rfl (fun hb43 => ?_) (fun hb43 => ?_)
    ·have h:=cond_t hb43 h
     refine ht_frzE 2 hio (es':=[(0, .box 80 [.v (.int .i64 v3.2.Gate.Phase),.v (.string v3.2.Gate.Helo),.v (.bool v3.2.Gate.From.Null),.v (.string v3.2.Gate.From.Local),.v (.string v3.2.Gate.From.Domain),.fl (.own 26) 3 (flatten (map T_Path.enc v3.2.Gate.To)),.v (.bool v3.2.Gate.Quiet),.mkr 5 (map (int .u8) v3.2.Gate.Buf),.v (.string v3.2.Gate.Challenge),.v (.bool v3.2.Gate.Proved),.v (.string ((v3.2.config.Domains.getD 0 (⟨#[]⟩:ByteArray)))),.v (.string ((v3.2.config.Domains.getD 1 (⟨#[]⟩:ByteArray)))),.v (.int .i64 v3.2.config.Expiry),.v (.string v3.2.config.User),.v (.string v3.2.config.Secret),.v (.int .i64 v3.2.config.Log),.v (.bool v3.2.config.Held),.v (.int .i64 v3.2.site),.v (.int .i64 v3.2.at_),.fr (.own 55) false 12 (flatten (map T_Out.ienc v3.2.out))]), (60, .glob (GL mx)), (3, .fl .ro 1 (map (int .u8) v1.1)), (4, .v (.int .i64 v1.2.1)), (6, .box 55 [.v (.int .i64 v3.1.Code),.fl (.own 9) 1 (map Value.string v3.1.Lines),.v (.bool false),.v (.bool false),.v (.string (⟨#[]⟩:ByteArray)),.v (.string (⟨#[]⟩:ByteArray)),vz,vz,.v (.bool false),.v (.string (⟨#[]⟩:ByteArray)),.v (.int .i64 0),.v (.bool false)]), (23, .v (.bool (v1.2.2==0))), (0, .v (List.getD args0 0 undef))]) rfl ?_
     obtain ⟨v5, hv5, h⟩:=zn h
     refine yx hn 2 ?_
     refine yk [0] [24,25,60] ?_
     refine ytt (0,.box 80 (vi v5.2.Gate.Phase::vs v5.2.Gate.Helo::vb v5.2.Gate.From.Null::vs v5.2.Gate.From.Local::vs v5.2.Gate.From.Domain::.fl (.own 26) 3 (flatten (map T_Path.enc v5.2.Gate.To))::vb v5.2.Gate.Quiet::.mkr 5 (map (int .u8) v5.2.Gate.Buf)::vs v5.2.Gate.Challenge::vb v5.2.Gate.Proved::T_Config.c v5.2.config [vi v5.2.site,vi v5.2.at_,.fr (.own 55) false 12 (flatten (map T_Out.ienc v5.2.out))])) (26,.agg [vi v5.1.Reply.Code,.fl .ro 1 (map Value.string v5.1.Reply.Lines),vb v5.1.Has,vb v5.1.Mail.From.Null,vs v5.1.Mail.From.Local,vs v5.1.Mail.From.Domain,.fl .ro 3 (flatten (map T_Path.enc v5.1.Mail.To)),.fl .ro 1 (map (int .u8) v5.1.Mail.Body),vb v5.1.Mail.Quiet,vs v5.1.Mail.Helo,vi v5.1.Mail.At,vb v5.1.Ask]) 1 ⟨op_callPSG _ _ _ _ 26 60 86 [.tmp 24] [.tmp 25] _ _ _ rfl call86 rfl rfl rfl rfl (fun _ h=>h) (ok_gate_session_accept mx ((T_gate_session.mk ((T_Gate.mk v3.2.Gate.Phase v3.2.Gate.Helo (T_Path.mk v3.2.Gate.From.Null v3.2.Gate.From.Local v3.2.Gate.From.Domain) v3.2.Gate.To v3.2.Gate.Quiet v3.2.Gate.Buf v3.2.Gate.Challenge v3.2.Gate.Proved)) ((T_Config.mk (([(v3.2.config.Domains.getD 0 z0),(v3.2.config.Domains.getD 1 z0)]:List ByteArray)) v3.2.config.Expiry v3.2.config.User v3.2.config.Secret v3.2.config.Log v3.2.config.Held)) v3.2.site v3.2.at_ v3.2.out)) v1.1 _ hv5) (zl rfl) rfl rfl rfl rfl rfl rfl rfl⟩ ?_
     refine ye [0,60,4,6,0] ?_
     exact hl41 _ (zi h).symm
    ·have h:=cond_f hb43 h
     obtain ⟨v6, hv6, h⟩:=zn h
     refine yx hn 5 ?_
     refine ys 0 ⟨lg call87 (ok_gate_afterDot _ _ _ hv6) 60⟩ ?_
     refine yw [4] 1 ?_
     refine ye [0,60,6,4,0] ?_
     refine pt_pick [0,1,3,2,4] (by kernel_rfl) (es':=[(_,_),(_,_),(_,_),(_,_),(_,_)]) rfl ?_
     refine pt_frzE 3 hio (es':=[(0, .box 80 [.v (.int .i64 v3.2.Gate.Phase),.v (.string v3.2.Gate.Helo),.v (.bool v3.2.Gate.From.Null),.v (.string v3.2.Gate.From.Local),.v (.string v3.2.Gate.From.Domain),.fl (.own 26) 3 (flatten (map T_Path.enc v3.2.Gate.To)),.v (.bool v3.2.Gate.Quiet),.mkr 5 (map (int .u8) v3.2.Gate.Buf),.v (.string v3.2.Gate.Challenge),.v (.bool v3.2.Gate.Proved),.v (.string ((v3.2.config.Domains.getD 0 (⟨#[]⟩:ByteArray)))),.v (.string ((v3.2.config.Domains.getD 1 (⟨#[]⟩:ByteArray)))),.v (.int .i64 v3.2.config.Expiry),.v (.string v3.2.config.User),.v (.string v3.2.config.Secret),.v (.int .i64 v3.2.config.Log),.v (.bool v3.2.config.Held),.v (.int .i64 v3.2.site),.v (.int .i64 v3.2.at_),.fr (.own 55) false 12 (flatten (map T_Out.ienc v3.2.out))]), (60, .glob (GL mx)), (4, .v (.int .i64 v6)), (6, .box 55 [.v (.int .i64 v3.1.Code),.fl .ro 1 (map Value.string v3.1.Lines),.v (.bool false),.v (.bool false),.v (.string (⟨#[]⟩:ByteArray)),.v (.string (⟨#[]⟩:ByteArray)),vz,vz,.v (.bool false),.v (.string (⟨#[]⟩:ByteArray)),.v (.int .i64 0),.v (.bool false)]), (0, .v (List.getD args0 0 undef))]) rfl ?_
     refine pt_sub (fs:=[(0,.box 80 (vi v3.2.Gate.Phase::vs v3.2.Gate.Helo::vb v3.2.Gate.From.Null::vs v3.2.Gate.From.Local::vs v3.2.Gate.From.Domain::.fl (.own 26) 3 (flatten (map T_Path.enc v3.2.Gate.To))::vb v3.2.Gate.Quiet::.mkr 5 (map (int .u8) v3.2.Gate.Buf)::vs v3.2.Gate.Challenge::vb v3.2.Gate.Proved::T_Config.c v3.2.config [vi v3.2.site,vi v3.2.at_,.fr (.own 55) false 12 (flatten (map T_Out.ienc v3.2.out))])),(60,.glob (GL mx)),(4,vi v6),(6,.box 55 [vi v3.1.Code,.fl .ro 1 (map Value.string v3.1.Lines),vb false,vb false,vs z0,vs z0,.fl .ro 3 (flatten (map T_Path.enc [])),.fl .ro 1 (map (int .u8) []),vb false,vs z0,vi 0,vb false]),(0,.v (List.getD args0 0 undef))]) (.same _ (.same _ (.same _ (.box _ _ (subs_cons (sub_refl _) (subs_cons (sub_refl _) (subs_cons (sub_refl _) (subs_cons (sub_refl _) (subs_cons (sub_refl _) (subs_cons (sub_refl _) (subs_cons (sub_nil_ro 3) (subs_cons (sub_nil_ro 1) (subs_cons (sub_refl _) (subs_cons (sub_refl _) (subs_cons (sub_refl _) (subs_cons (sub_refl _) (subs_nil))))))))))))) rfl (.same _ .nil))))) ?_
     exact hl41 _ (zi h).symm
theorem ok_digest_step (i:Int) (q:Int) (p_r:Int) (t:Int) (r:(Int×Int)) (h:Sh.digest_step i q p_r t=some r):FnOK Tryz.prog 219 [.v (.int .i64 i), .v (.int .u32 q), .v (.int .u32 p_r), .v (.int .u32 t)] (.tup [.v (.int .u32 r.1), .v (.int .i64 r.2)]):=by
  unfold Sh.digest_step at h
  refine yO 56 func219 fun g0 hn hio => ?_
  refine yyy hn 2 [0,1,2,3] ?_
  refine ht_seq ?_
  refine ht_seq ?_
  obtain ⟨v1, hv1, h⟩:=zn h
  refine yx hn 1 ?_
  refine ys 0 ⟨lB (quo_ok hv1)⟩ ?_
  refine yee [0,1,2,3,11] ?_
  refine ht_block ?_
  refine yyy hn 2 [0,1,2,3,11,12] ?_
  refine ht_cond _ rfl (fun hb2 => ?_) (fun hb2 => ?_)
  ·have h:=cond_t hb2 h
   refine ht_seq ?_
   obtain ⟨v3, hv3, h⟩:=zn h
   obtain ⟨v4, hv4, h⟩:=zn h
   obtain ⟨v5, hv5, h⟩:=zn h
   obtain ⟨v6, hv6, h⟩:=zn h
   refine yx hn 2 ?_
   refine ys 1 ⟨lb hv3⟩ ?_
   refine yS (.v (.int .u32 v4)) 1 ⟨op_un _ _ _ _ rfl (ibind (f:=int .u32) (Option.some.inj hv4))⟩ ?_
   refine ys 0 ⟨lb hv5⟩ ?_
   refine ys 3 ⟨lb hv6⟩ ?_
   refine yee [8,9] ?_
   refine ht_ret ?_
   refine pt_r_in ?_
   refine pt_r_then ?_
   obtain rfl:=zi h
   exact pt_ret hio rfl (.tmp _ _ (.tmp _ _ .nil)) rfl rfl
  ·have h:=cond_f hb2 h
   refine yyy hn 2 [0,1,2,3,11,23] ?_
   refine ht_cond _ rfl (fun hb7 => ?_) (fun hb7 => ?_)
   ·have h:=cond_t hb7 h
    refine ht_seq ?_
    obtain ⟨v8, hv8, h⟩:=zn h
    obtain ⟨v9, hv9, h⟩:=zn h
    obtain ⟨v10, hv10, h⟩:=zn h
    obtain ⟨v11, hv11, h⟩:=zn h
    obtain ⟨v12, hv12, h⟩:=zn h
    obtain ⟨v13, hv13, h⟩:=zn h
    refine yx hn 2 ?_
    refine ys 2 ⟨lb hv8⟩ ?_
    refine ys 0 ⟨lb hv9⟩ ?_
    refine ys 1 ⟨lb hv10⟩ ?_
    refine ys 0 ⟨lb hv11⟩ ?_
    refine ys 0 ⟨lb hv12⟩ ?_
    refine ys 2 ⟨lB (rem_ok hv13)⟩ ?_
    refine yee [8,9] ?_
    refine ht_ret ?_
    refine pt_r_in ?_
    refine pt_r_then ?_
    obtain rfl:=zi h
    exact pt_ret hio rfl (.tmp _ _ (.tmp _ _ .nil)) rfl rfl
   ·have h:=cond_f hb7 h
    refine yyy hn 2 [0,1,2,3,36] ?_
    refine ht_cond _ rfl (fun hb14 => ?_) (fun hb14 => ?_)
    ·have h:=cond_t hb14 h
     refine ht_seq ?_
     obtain ⟨v15, hv15, h⟩:=zn h
     obtain ⟨v16, hv16, h⟩:=zn h
     obtain ⟨v17, hv17, h⟩:=zn h
     obtain ⟨v18, hv18, h⟩:=zn h
     obtain ⟨v19, hv19, h⟩:=zn h
     refine yx hn 2 ?_
     refine ys 1 ⟨lb hv15⟩ ?_
     refine ys 1 ⟨lb hv16⟩ ?_
     refine ys 0 ⟨lb hv17⟩ ?_
     refine ys 0 ⟨lb hv18⟩ ?_
     refine ys 2 ⟨lB (rem_ok hv19)⟩ ?_
     refine yee [8,9] ?_
     refine ht_ret ?_
     refine pt_r_in ?_
     refine pt_r_then ?_
     obtain rfl:=zi h
     exact pt_ret hio rfl (.tmp _ _ (.tmp _ _ .nil)) rfl rfl
    ·have h:=cond_f hb14 h
     refine ht_skip ?_
     refine pt_inb ?_
     refine pt_then (ht_seq ?_)
     obtain ⟨v20, hv20, h⟩:=zn h
     obtain ⟨v21, hv21, h⟩:=zn h
     obtain ⟨v22, hv22, h⟩:=zn h
     obtain ⟨v23, hv23, h⟩:=zn h
     obtain ⟨v24, hv24, h⟩:=zn h
     refine yx hn 3 ?_
     refine yS (.v (.int .u32 v20)) 0 ⟨op_un _ _ _ _ rfl (ibind (f:=int .u32) (Option.some.inj hv20))⟩ ?_
     refine ys 0 ⟨lb hv21⟩ ?_
     refine ys 1 ⟨lb hv22⟩ ?_
     refine ys 0 ⟨lb hv23⟩ ?_
     refine ys 2 ⟨lB (rem_ok hv24)⟩ ?_
     refine yee [8,9] ?_
     refine ht_ret ?_
     obtain rfl:=zi h
     exact pt_ret hio rfl (.tmp _ _ (.tmp _ _ .nil)) rfl rfl
end Go.Proofs.YtjnnkhmhjcjhdaaGreatDoor
