/-
  The model's runs are what is told in Lean.
-/
import Derived.Test.YtjnnkhmhjcjhdaaGreatDoorProg
import Derived.KernelRfl
import Derived.Test.YtjnnkhmhjcjhdaaGreatDoorShelf
import Derived.Test.YtjnnkhmhjcjhdaaGreatDoorIdx
import Derived.Test.YtjnnkhmhjcjhdaaGreatDoorB3
import Derived.Test.YtjnnkhmhjcjhdaaGreatDoorC1
import Derived.Test.YtjnnkhmhjcjhdaaGreatDoorBC
import Derived.Test.YtjnnkhmhjcjhdaaGreatDoorOkc9
set_option linter.unusedVariables false
set_option linter.unusedSimpArgs false
set_option maxHeartbeats 1000000
namespace Go.Proofs.YtjnnkhmhjcjhdaaGreatDoor
open Go.Abs Go.Abs.Sh Tryz
open List (map flatten)
open Value (int)
theorem ok_gate_Feed (mx:Int×Nat×Value) (c:T_Config) (i:Int) (at_:Int) (g:T_Gate) (b:(List Int)) (r:(T_Gate×(List T_Out)×Int)) (h:Sh.gate_Feed c i at_ g b=some r):FnG Tryz.prog (GL mx) 13 [.agg [.v (.string ((c.Domains.getD 0 (⟨#[]⟩:ByteArray)))), .v (.string ((c.Domains.getD 1 (⟨#[]⟩:ByteArray)))), .v (.int .i64 c.Expiry), .v (.string c.User), .v (.string c.Secret), .v (.int .i64 c.Log), .v (.bool c.Held)], .v (.int .i64 i), .v (.int .i64 at_), .agg [.v (.int .i64 g.Phase), .v (.string g.Helo), .v (.bool g.From.Null), .v (.string g.From.Local), .v (.string g.From.Domain), .fl .shr 3 (flatten (map T_Path.enc g.To)), .v (.bool g.Quiet), .fl .shr 1 (map (int .u8) g.Buf), .v (.string g.Challenge), .v (.bool g.Proved)], .fl .shr 1 (map (int .u8) b)] (.tup [.agg [.v (.int .i64 r.1.Phase), .v (.string r.1.Helo), .v (.bool r.1.From.Null), .v (.string r.1.From.Local), .v (.string r.1.From.Domain), .fl .ro 3 (flatten (map T_Path.enc r.1.To)), .v (.bool r.1.Quiet), .fl .ro 1 (map (int .u8) r.1.Buf), .v (.string r.1.Challenge), .v (.bool r.1.Proved)], .fr .ro false 12 (flatten (map T_Out.ienc r.2.1)), .v (.int .i64 r.2.2)]):=by
  unfold Sh.gate_Feed at h
  refine yG 88 func13 fun g0 hn hio => ?_
  refine yxx hn 2 ?_
  refine yS (.box 30 [vi 0,vs z0,vb false,vs z0,vs z0,vz,vb false,vz,vs z0,vb false]) 2 ⟨oA (op_alloc _ _ zr30)⟩ ?_
  refine yee [1,2,4,88,5,8,10] ?_
  refine ht_seq ?_
  refine ht_seq ?_
  obtain ⟨v1, hv1, h⟩:=zn h
  refine yx hn 1 ?_
  refine ys 1 ⟨lg call35 (ok_gate_Config _ _ _ hv1) 88⟩ ?_
  refine yee [1,2,4,88,5,8,10,13] ?_
  refine yyy hn 2 [1,2,4,88,5,8,10,13,20] ?_
  refine ht_cond _ rfl (fun hb382 => ?_) (fun hb382 => ?_)
  ·have h:=cond_t hb382 h
   refine yxx hn 0 ?_
   refine yS (.agg [vi 0,vs z0,vb false,vs z0,vs z0,vz,vb false,vz,vs z0,vb false]) 1 ⟨op_build _ _ _ _ [1,1,3,1,1,1,1,1] _ _ underlying30 zr30 (fs30 _ underlying30) Src.nil rfl rfl rfl⟩ ?_
   refine yk [21,10] [] ?_
   refine yt (10,.box 30 [vi 0,vs z0,vb false,vs z0,vs z0,vz,vb false,vz,vs z0,vb false]) 2 ⟨op_store_self _ _ _ 21 10 10 sz30 rfl rfl rfl rfl rfl (.eq _ (.eq _ (.eq _ (.eq _ (.eq _ (.eq _ (.eq _ (.eq _ (.eq _ (.eq _ (.nil _))))))))))) rfl⟩ ?_
   refine yee [88,10,11,12] ?_
   refine ht_ret ?_
   refine pt_pick [1,2,3] (by kernel_rfl) (es':=[(_,_),(_,_),(_,_)]) rfl ?_
   refine pt_sub (fs:=[(10,.box 30 [vi 0,vs z0,vb false,vs z0,vs z0,.fl (.own 26) 3 (flatten (map T_Path.enc [])),vb false,.fl (.own 5) 1 (map (int .u8) []),vs z0,vb false]),(11,.fr (.own 55) false 12 (flatten (map T_Out.ienc []))),(12,vi v1)]) (.box _ _ (subs_cons (sub_refl _) (subs_cons (sub_refl _) (subs_cons (sub_refl _) (subs_cons (sub_refl _) (subs_cons (sub_refl _) (subs_cons (sub_nil 26 3) (subs_cons (sub_refl _) (subs_cons (sub_nil 5 1) (subs_cons (sub_refl _) (subs_cons (sub_refl _) (subs_nil))))))))))) rfl (.sub _ (sub_nil_fr 55 false 12) rfl (.same _ .nil))) ?_
   refine pt_frz 0 hio (es':=[(10, .box 30 [.v (.int .i64 0),.v (.string (⟨#[]⟩:ByteArray)),.v (.bool false),.v (.string (⟨#[]⟩:ByteArray)),.v (.string (⟨#[]⟩:ByteArray)),.fl .ro 3 (flatten (map T_Path.enc [])),.v (.bool false),.fl .ro 1 (map (int .u8) []),.v (.string (⟨#[]⟩:ByteArray)),.v (.bool false)]), (11, .fr (.own 55) false 12 (flatten (map T_Out.ienc []))), (12, .v (.int .i64 v1))]) rfl ?_
   refine pt_frz 1 hio (es':=[(10, .box 30 [.v (.int .i64 0),.v (.string (⟨#[]⟩:ByteArray)),.v (.bool false),.v (.string (⟨#[]⟩:ByteArray)),.v (.string (⟨#[]⟩:ByteArray)),.fl .ro 3 (flatten (map T_Path.enc [])),.v (.bool false),.fl .ro 1 (map (int .u8) []),.v (.string (⟨#[]⟩:ByteArray)),.v (.bool false)]), (11, .fr .ro false 12 (flatten (map T_Out.ienc []))), (12, .v (.int .i64 v1))]) rfl ?_
   refine pt_r_then ?_
   obtain rfl:=zi h
   exact pt_ret hio rfl (.cellA _ _ _ _ underlying30 rfl sz30 (.tmp _ _ (.tmp _ _ .nil))) rfl rfl
  ·have h:=cond_f hb382 h
   refine ht_skip ?_
   refine pt_then (ht_seq ?_)
   refine ht_seq ?_
   refine ht_joinS h (fun (s383:Bool)=>[(1,vi i),(2,vi at_),(4,fb b),(88,.glob (GL mx)),(5,.box 24 (T_Config.c c [])),(8,.box 30 (T_Gate.c g [])),(10,.box 30 [vi 0,vs z0,vb false,vs z0,vs z0,vz,vb false,vz,vs z0,vb false]),(41,vb s383)]) ?_ ?_
   ·rintro s383 h
    refine pt_then ?_
    refine ht_cond _ rfl (fun hb387 => ?_) (fun hb387 => ?_)
    ·have h:=cond_t hb387 h
     refine yxx hn 0 ?_
     refine yS (.agg [vi 0,vs z0,vb false,vs z0,vs z0,vz,vb false,vz,vs z0,vb false]) 0 ⟨op_build _ _ _ _ [1,1,3,1,1,1,1,1] _ _ underlying30 zr30 (fs30 _ underlying30) Src.nil rfl rfl rfl⟩ ?_
     refine yk [42,10] [] ?_
     refine yt (10,.box 30 [vi 0,vs z0,vb false,vs z0,vs z0,vz,vb false,vz,vs z0,vb false]) 2 ⟨op_store_self _ _ _ 42 10 10 sz30 rfl rfl rfl rfl rfl (.eq _ (.eq _ (.eq _ (.eq _ (.eq _ (.eq _ (.eq _ (.eq _ (.eq _ (.eq _ (.nil _))))))))))) rfl⟩ ?_
     refine yee [88,10,11,12] ?_
     refine ht_ret ?_
     refine pt_pick [1,2,3] (by kernel_rfl) (es':=[(_,_),(_,_),(_,_)]) rfl ?_
     refine pt_sub (fs:=[(10,.box 30 [vi 0,vs z0,vb false,vs z0,vs z0,.fl (.own 26) 3 (flatten (map T_Path.enc [])),vb false,.fl (.own 5) 1 (map (int .u8) []),vs z0,vb false]),(11,.fr (.own 55) false 12 (flatten (map T_Out.ienc []))),(12,vi 1)]) (.box _ _ (subs_cons (sub_refl _) (subs_cons (sub_refl _) (subs_cons (sub_refl _) (subs_cons (sub_refl _) (subs_cons (sub_refl _) (subs_cons (sub_nil 26 3) (subs_cons (sub_refl _) (subs_cons (sub_nil 5 1) (subs_cons (sub_refl _) (subs_cons (sub_refl _) (subs_nil))))))))))) rfl (.sub _ (sub_nil_fr 55 false 12) rfl (.same _ .nil))) ?_
     refine pt_frz 0 hio (es':=[(10, .box 30 [.v (.int .i64 0),.v (.string (⟨#[]⟩:ByteArray)),.v (.bool false),.v (.string (⟨#[]⟩:ByteArray)),.v (.string (⟨#[]⟩:ByteArray)),.fl .ro 3 (flatten (map T_Path.enc [])),.v (.bool false),.fl .ro 1 (map (int .u8) []),.v (.string (⟨#[]⟩:ByteArray)),.v (.bool false)]), (11, .fr (.own 55) false 12 (flatten (map T_Out.ienc []))), (12, .v (.int .i64 1))]) rfl ?_
     refine pt_frz 1 hio (es':=[(10, .box 30 [.v (.int .i64 0),.v (.string (⟨#[]⟩:ByteArray)),.v (.bool false),.v (.string (⟨#[]⟩:ByteArray)),.v (.string (⟨#[]⟩:ByteArray)),.fl .ro 3 (flatten (map T_Path.enc [])),.v (.bool false),.fl .ro 1 (map (int .u8) []),.v (.string (⟨#[]⟩:ByteArray)),.v (.bool false)]), (11, .fr .ro false 12 (flatten (map T_Out.ienc []))), (12, .v (.int .i64 1))]) rfl ?_
     refine pt_r_then ?_
     obtain rfl:=zi h
     exact pt_ret hio rfl (.cellA _ _ _ _ underlying30 rfl sz30 (.tmp _ _ (.tmp _ _ .nil))) rfl rfl
    ·have h:=cond_f hb387 h
     refine ht_skip ?_
     refine pt_then (ht_seq ?_)
     obtain ⟨v10, hv10, h⟩:=zn h
     refine wb [[8]] ?_
     refine wN [43] ?_
     refine wo [[5],[1],[2]] ⟨lk call37 (ok_clone_Gate _ _ hv10)⟩ ?_
     refine wK [44] [45,46,47] ?_
     refine wt [(48,.agg (vi v10.Phase::vs v10.Helo::vb v10.From.Null::vs v10.From.Local::vs v10.From.Domain::.fl (.own 26) 3 (flatten (map T_Path.enc v10.To))::vb v10.Quiet::.fl (.own 5) 1 (map (int .u8) v10.Buf)::vs v10.Challenge::vb v10.Proved::T_Config.c c [vi i,vi at_,vz]))] [] ⟨op_build _ _ _ _ [10,7,1,1,1] _ _ underlying80 zr80 (fs80 _ underlying80) (.take _ _ (.copy _ (.copy _ (.copy _ Src.nil)))) rfl rfl rfl⟩ ?_
     refine wK [48] [] ?_
     refine wt [(49,.box 80 (vi v10.Phase::vs v10.Helo::vb v10.From.Null::vs v10.From.Local::vs v10.From.Domain::.fl (.own 26) 3 (flatten (map T_Path.enc v10.To))::vb v10.Quiet::.fl (.own 5) 1 (map (int .u8) v10.Buf)::vs v10.Challenge::vb v10.Proved::T_Config.c c [vi i,vi at_,vz]))] [] ⟨op_box_take _ _ _ _ _ rfl rfl rfl⟩ ?_
     refine wK [49] [] ?_
     refine wt [(14,.box 80 (vi v10.Phase::vs v10.Helo::vb v10.From.Null::vs v10.From.Local::vs v10.From.Domain::.fl (.own 26) 3 (flatten (map T_Path.enc v10.To))::vb v10.Quiet::.fl (.own 5) 1 (map (int .u8) v10.Buf)::vs v10.Challenge::vb v10.Proved::T_Config.c c [vi i,vi at_,vz]))] [] ⟨op_assign_take _ _ _ _ rfl⟩ ?_
     refine wee hn [4,88,10,14] ?_
     refine ht_seq ?_
     refine yyy hn 3 [88,10,14,50,51,52] ?_
     refine ht_sub (fs:=[(88,.glob (GL mx)),(10,.box 30 [vi 0,vs z0,vb false,vs z0,vs z0,vz,vb false,vz,vs z0,vb false]),(14,.box 80 (vi v10.Phase::vs v10.Helo::vb v10.From.Null::vs v10.From.Local::vs v10.From.Domain::.fl (.own 26) 3 (flatten (map T_Path.enc v10.To))::vb v10.Quiet::.mkr 5 (map (int .u8) v10.Buf)::vs v10.Challenge::vb v10.Proved::T_Config.c c [vi i,vi at_,.fr (.own 55) false 12 (flatten (map T_Out.ienc []))])),(50,fb b),(51,vi (b.length:Int)),(52,vi 0)]) (.same _ (.same _ (.box _ _ (subs_cons (sub_refl _) (subs_cons (sub_refl _) (subs_cons (sub_refl _) (subs_cons (sub_refl _) (subs_cons (sub_refl _) (subs_cons (sub_refl _) (subs_cons (sub_refl _) (subs_cons (sub_own_mk 5 _) (subs_cons (sub_refl _) (subs_cons (sub_refl _) (subs_cons (sub_refl _) (subs_cons (sub_refl _) (subs_cons (sub_refl _) (subs_cons (sub_refl _) (subs_cons (sub_refl _) (subs_cons (sub_refl _) (subs_cons (sub_refl _) (subs_cons (sub_refl _) (subs_cons (sub_refl _) (subs_cons (sub_nil_fr 55 false 12) (subs_nil))))))))))))))))))))) rfl (.same _ (.same _ (.same _ .nil)))))) ?_
     refine ht_loopS h (fun ((s557,s558,s559,s560,s561,s562,s563,s564,s565,s566,s567,s568,s569,s570,s571,s572,s573,s574,s575,s576,s577):Int×ByteArray×Bool×ByteArray×ByteArray×(List T_Path)×Bool×(List Int)×ByteArray×Bool×ByteArray×ByteArray×Int×ByteArray×ByteArray×Int×Bool×Int×Int×(List T_Out)×Int)=>[(88,.glob (GL mx)),(10,.box 30 [vi 0,vs z0,vb false,vs z0,vs z0,vz,vb false,vz,vs z0,vb false]),(14,.box 80 [vi s557,vs s558,vb s559,vs s560,vs s561,.fl (.own 26) 3 (flatten (map T_Path.enc s562)),vb s563,.mkr 5 (map (int .u8) s564),vs s565,vb s566,vs s567,vs s568,vi s569,vs s570,vs s571,vi s572,vb s573,vi s574,vi s575,.fr (.own 55) false 12 (flatten (map T_Out.ienc s576))]),(50,fb b),(51,vi (b.length:Int)),(52,vi s577)]) (fun ((s652,s653,s654,s655,s656,s657,s658,s659,s660,s661,s662,s663,s664,s665,s666,s667,s668,s669,s670,s671):Int×ByteArray×Bool×ByteArray×ByteArray×(List T_Path)×Bool×(List Int)×ByteArray×Bool×ByteArray×ByteArray×Int×ByteArray×ByteArray×Int×Bool×Int×Int×(List T_Out))=>[(88,.glob (GL mx)),(10,.box 30 [vi 0,vs z0,vb false,vs z0,vs z0,vz,vb false,vz,vs z0,vb false]),(14,.box 80 [vi s652,vs s653,vb s654,vs s655,vs s656,.fl (.own 26) 3 (flatten (map T_Path.enc s657)),vb s658,.mkr 5 (map (int .u8) s659),vs s660,vb s661,vs s662,vs s663,vi s664,vs s665,vs s666,vi s667,vb s668,vi s669,vi s670,.fr (.own 55) false 12 (flatten (map T_Out.ienc s671))])]) ?_ ?_
     ·rintro ⟨s652, s653, s654, s655, s656, s657, s658, s659, s660, s661, s662, s663, s664, s665, s666, s667, s668, s669, s670, s671⟩ h
      refine pt_then (ht_seq ?_)
      refine ht_frz 2 hio (es':=[(88, .glob (GL mx)), (10, .box 30 [.v (.int .i64 0),.v (.string (⟨#[]⟩:ByteArray)),.v (.bool false),.v (.string (⟨#[]⟩:ByteArray)),.v (.string (⟨#[]⟩:ByteArray)),vz,.v (.bool false),vz,.v (.string (⟨#[]⟩:ByteArray)),.v (.bool false)]), (14, .box 80 [.v (.int .i64 s652),.v (.string s653),.v (.bool s654),.v (.string s655),.v (.string s656),.fl .ro 3 (flatten (map T_Path.enc s657)),.v (.bool s658),.fl .ro 1 (map (int .u8) s659),.v (.string s660),.v (.bool s661),.v (.string s662),.v (.string s663),.v (.int .i64 s664),.v (.string s665),.v (.string s666),.v (.int .i64 s667),.v (.bool s668),.v (.int .i64 s669),.v (.int .i64 s670),.fr .ro false 12 (flatten (map T_Out.ienc s671))])]) rfl ?_
      obtain ⟨v381, hv381, h⟩:=zn h
      refine wb [[],[79,14],[80,14],[81,14]] ?_
      refine wN [82] ?_
      refine wo [[],[84,14],[85,14],[86,14]] ⟨lk call37 (ok_clone_Gate _ _ hv381)⟩ ?_
      refine wK [83,10] [] ?_
      refine wt [(10,.box 30 [vi v381.Phase,vs v381.Helo,vb v381.From.Null,vs v381.From.Local,vs v381.From.Domain,.fl (.own 26) 3 (flatten (map T_Path.enc v381.To)),vb v381.Quiet,.fl (.own 5) 1 (map (int .u8) v381.Buf),vs v381.Challenge,vb v381.Proved])] [[87],[]] ⟨op_store_take _ _ _ _ _ _ _ _ sz30 rfl rfl rfl (zl rfl) rfl rfl⟩ ?_
      refine wee hn [88,10,11,12] ?_
      refine ht_ret ?_
      refine pt_pick [1,2,3] (by kernel_rfl) (es':=[(_,_),(_,_),(_,_)]) rfl ?_
      refine pt_frz 0 hio (es':=[(10, .box 30 [.v (.int .i64 v381.Phase),.v (.string v381.Helo),.v (.bool v381.From.Null),.v (.string v381.From.Local),.v (.string v381.From.Domain),.fl .ro 3 (flatten (map T_Path.enc v381.To)),.v (.bool v381.Quiet),.fl .ro 1 (map (int .u8) v381.Buf),.v (.string v381.Challenge),.v (.bool v381.Proved)]), (11, .fr .ro false 12 (flatten (map T_Out.ienc s671))), (12, .v (.int .i64 0))]) rfl ?_
      obtain rfl:=zi h
      exact pt_ret hio rfl (.cellA _ _ _ _ underlying30 rfl sz30 (.tmp _ _ (.tmp _ _ .nil))) rfl rfl
     ·rintro u672 hl673 hr674 ⟨s557, s558, s559, s560, s561, s562, s563, s564, s565, s566, s567, s568, s569, s570, s571, s572, s573, s574, s575, s576, s577⟩ rr677 h ho675
      refine yyy hn 1 [88,10,14,50,51,52,53] ?_
      refine ht_seq ?_
      refine ht_cond _ rfl (fun hb678 => ?_) (fun hb678 => ?_)
      ·have h:=cond_t hb678 h
       refine ht_skip ?_
       refine pt_then (ht_seq ?_)
       refine ht_joinS h (fun ((s704,s705,s706,s707,s708,s709,s710,s711,s712,s713,s714,s715,s716,s717,s718,s719,s720,s721,s722,s723):Int×ByteArray×Bool×ByteArray×ByteArray×(List T_Path)×Bool×(List Int)×ByteArray×Bool×ByteArray×ByteArray×Int×ByteArray×ByteArray×Int×Bool×Int×Int×(List T_Out))=>[(88,.glob (GL mx)),(10,.box 30 [vi 0,vs z0,vb false,vs z0,vs z0,vz,vb false,vz,vs z0,vb false]),(14,.box 80 [vi s704,vs s705,vb s706,vs s707,vs s708,.fl (.own 26) 3 (flatten (map T_Path.enc s709)),vb s710,.mkr 5 (map (int .u8) s711),vs s712,vb s713,vs s714,vs s715,vi s716,vs s717,vs s718,vi s719,vb s720,vi s721,vi s722,.fr (.own 55) false 12 (flatten (map T_Out.ienc s723))]),(50,fb b),(51,vi (b.length:Int)),(52,vi s577)]) ?_ ?_
       ·rintro ⟨s704, s705, s706, s707, s708, s709, s710, s711, s712, s713, s714, s715, s716, s717, s718, s719, s720, s721, s722, s723⟩ h
        refine pt_then ?_
        obtain ⟨v90, hv90, h⟩:=zn h
        refine yx hn 0 ?_
        refine ys 0 ⟨lb hv90⟩ ?_
        refine yw [52] 1 ?_
        refine ye [88,10,14,50,51,52] ?_
        exact pt_next _ (zi h).symm rfl
       ·intro u724 h hl725 hr726
        refine ht_block ?_
        refine ht_seq ?_
        obtain ⟨v12, hv12, h⟩:=zn h
        obtain ⟨v13, hv13, h⟩:=zn h
        refine yx hn 1 ?_
        refine ys 0 ⟨li hv12⟩ ?_
        refine ys 2 ⟨ll hv13⟩ ?_
        refine yee [88,10,14,50,51,52,15,16] ?_
        refine ht_seq ?_
        obtain ⟨v14, hv14, h⟩:=zn h
        refine yx hn 7 ?_
        refine yS (.fl (.own 5) 1 (map (int .u8) [v13])) 0 ⟨op_buildSlice _ _ 1 (.int .u8 0) (map (int .u8) [v13]) [(0,.int .u8 v13)] underlying28 sz5 zr5 (fun _ V w o a hv hes=>by have e0:=rd_v hv hes (x := .tmp 63) rfl; simp only [List.map_toArray,List.map_cons,List.map_nil,e0]; try rfl) (litfill (by simp [Instr.fill,Value.cells]; rfl) (by simp [List.range,List.range.loop] <;> rfl)) (by simp [Value.oneCell']) rfl (by decide) (by decide) (by decide)⟩ ?_
        refine yk [14] [62,64] ?_
        refine ytt (14,.box 80 [vi s557,vs s558,vb s559,vs s560,vs s561,.fl (.own 26) 3 (flatten (map T_Path.enc s562)),vb s563,.any,vs s565,vb s566,vs s567,vs s568,vi s569,vs s570,vs s571,vi s572,vb s573,vi s574,vi s575,.fr (.own 55) false 12 (flatten (map T_Out.ienc s576))]) (65,.mkr 5 (map (int .u8) v14)) 3 ⟨op_app_mk_cell _ 65 14 7 _ _ el28 rfl rfl (zl rfl) rfl rfl rfl hv14 rfl (Nat.ne_of_beq_eq_false rfl) rfl rfl⟩ ?_
        refine yw [62] 0 ?_
        refine yk [65,14] [68] ?_
        refine yt (14,.box 80 [vi s557,vs s558,vb s559,vs s560,vs s561,.fl (.own 26) 3 (flatten (map T_Path.enc s562)),vb s563,.mkr 5 (map (int .u8) v14),vs s565,vb s566,vs s567,vs s568,vi s569,vs s570,vs s571,vi s572,vb s573,vi s574,vi s575,.fr (.own 55) false 12 (flatten (map T_Out.ienc s576))]) 0 ⟨op_store_take _ _ _ _ _ _ _ _ sz28 rfl rfl rfl (zl rfl) rfl rfl⟩ ?_
        refine yee [88,10,14,50,51,52,15,16] ?_
        refine ht_seq ?_
        refine ht_joinS h (fun ((s727,s728,s729,s730,s731,s732,s733,s734,s735,s736,s737,s738,s739,s740,s741,s742,s743,s744,s745,s746,s747):Int×ByteArray×Bool×ByteArray×ByteArray×(List T_Path)×Bool×(List Int)×ByteArray×Bool×ByteArray×ByteArray×Int×ByteArray×ByteArray×Int×Bool×Int×Int×(List T_Out)×Bool)=>[(88,.glob (GL mx)),(10,.box 30 [vi 0,vs z0,vb false,vs z0,vs z0,vz,vb false,vz,vs z0,vb false]),(14,.box 80 [vi s727,vs s728,vb s729,vs s730,vs s731,.fl (.own 26) 3 (flatten (map T_Path.enc s732)),vb s733,.mkr 5 (map (int .u8) s734),vs s735,vb s736,vs s737,vs s738,vi s739,vs s740,vs s741,vi s742,vb s743,vi s744,vi s745,.fr (.own 55) false 12 (flatten (map T_Out.ienc s746))]),(50,fb b),(51,vi (b.length:Int)),(52,vi s577),(75,vb s747)]) ?_ ?_
        ·rintro ⟨s727, s728, s729, s730, s731, s732, s733, s734, s735, s736, s737, s738, s739, s740, s741, s742, s743, s744, s745, s746, s747⟩ h
         refine pt_then ?_
         refine ht_cond _ rfl (fun hb751 => ?_) (fun hb751 => ?_)
         ·have h:=cond_t hb751 h
          obtain ⟨v41, hv41, h⟩:=zn h
          refine yx hn 1 ?_
          refine yk [14] [76,88] ?_
          refine ytt (14,.box 80 (vi v41.Gate.Phase::vs v41.Gate.Helo::vb v41.Gate.From.Null::vs v41.Gate.From.Local::vs v41.Gate.From.Domain::.fl (.own 26) 3 (flatten (map T_Path.enc v41.Gate.To))::vb v41.Gate.Quiet::.mkr 5 (map (int .u8) v41.Gate.Buf)::vs v41.Gate.Challenge::vb v41.Gate.Proved::T_Config.c v41.config [vi v41.site,vi v41.at_,.fr (.own 55) false 12 (flatten (map T_Out.ienc v41.out))])) (77,.tup []) 0 ⟨op_callPSG _ _ _ _ 77 88 39 [.tmp 76] [] _ _ _ rfl call39 rfl rfl rfl rfl (fun _ h=>h) (ok_gate_session_run mx ((T_gate_session.mk ((T_Gate.mk s727 s728 (T_Path.mk s729 s730 s731) s732 s733 s734 s735 s736)) ((T_Config.mk ([s737,s738]:List ByteArray) s739 s740 s741 s742 s743)) s744 s745 s746)) _ hv41) (zl rfl) rfl rfl rfl rfl rfl rfl rfl⟩ ?_
          refine ye [88,10,14,50,51,52] ?_
          refine pt_inb ?_
          exact hl725 _ (zi h).symm
         ·have h:=cond_f hb751 h
          refine ht_skip ?_
          refine pt_inb ?_
          refine pt_pick [0,1,2,3,4,5] (by kernel_rfl) (es':=[(_,_),(_,_),(_,_),(_,_),(_,_),(_,_)]) rfl ?_
          exact hl725 _ (zi h).symm
        ·intro u748 h hl749 hr750
         refine cond_some h (fun hg11_2 h => ?_) (fun hg11_2 h => ?_)
         ·refine yx hn 3 ?_
          refine yd hg11_2 4 ?_
          refine ye [88,10,14,50,51,52,75] ?_
          exact hl749 _ (zi h).symm
         ·obtain ⟨v15, hv15, h⟩:=zn h
          refine yx hn 3 ?_
          refine yd hg11_2 2 ?_
          refine yQ call38 (ok_gate_session_complete _ _ _ hv15) 14 [72,73] 1 ?_
          refine ye [88,10,14,50,51,52,75] ?_
          exact hl749 _ (zi h).symm
      ·have h:=cond_f hb678 h
       refine ht_exit ?_
       refine pt_x_then ?_
       refine pt_x_then ?_
       refine pt_x_in ?_
       refine pt_pick [0,1,2] (by kernel_rfl) (es':=[(_,_),(_,_),(_,_)]) rfl ?_
       exact hl673 _ (ho675 _ (zi h).symm).symm
   ·intro u384 h hl385 hr386
    refine cond_some h (fun hg4_2 h => ?_) (fun hg4_2 h => ?_)
    ·refine cond_some h (fun hg4_6 h => ?_) (fun hg4_6 h => ?_)
     ·refine yx hn 3 ?_
      refine yd hg4_2 4 ?_
      refine yd hg4_6 12 ?_
      refine ye [1,2,4,88,5,8,10,41] ?_
      exact hl385 _ (zi h).symm
     ·refine cond_some h (fun hg4_10 h => ?_) (fun hg4_10 h => ?_)
      ·refine yx hn 3 ?_
       refine yd hg4_2 4 ?_
       refine yd hg4_6 4 ?_
       refine yd hg4_10 8 ?_
       refine ye [1,2,4,88,5,8,10,41] ?_
       exact hl385 _ (zi h).symm
      ·refine cond_some h (fun hg4_14 h => ?_) (fun hg4_14 h => ?_)
       ·refine yx hn 3 ?_
        refine yd hg4_2 4 ?_
        refine yd hg4_6 4 ?_
        refine yd hg4_10 4 ?_
        refine yd hg4_14 4 ?_
        refine ye [1,2,4,88,5,8,10,41] ?_
        exact hl385 _ (zi h).symm
       ·obtain ⟨v3, hv3, h⟩:=zn h
        refine yx hn 3 ?_
        refine yd hg4_2 4 ?_
        refine yd hg4_6 4 ?_
        refine yd hg4_10 4 ?_
        refine yd hg4_14 1 ?_
        refine ys 2 ⟨lk call36 (ok_gate_valid _ _ hv3)⟩ ?_
        refine ye [1,2,4,88,5,8,10,41] ?_
        exact hl385 _ (zi h).symm
    ·refine cond_some h (fun hg4_10 h => ?_) (fun hg4_10 h => ?_)
     ·refine yx hn 3 ?_
      refine yd hg4_2 8 ?_
      refine yd hg4_10 8 ?_
      refine ye [1,2,4,88,5,8,10,41] ?_
      exact hl385 _ (zi h).symm
     ·refine cond_some h (fun hg4_14 h => ?_) (fun hg4_14 h => ?_)
      ·refine yx hn 3 ?_
       refine yd hg4_2 8 ?_
       refine yd hg4_10 4 ?_
       refine yd hg4_14 4 ?_
       refine ye [1,2,4,88,5,8,10,41] ?_
       exact hl385 _ (zi h).symm
      ·obtain ⟨v4, hv4, h⟩:=zn h
       refine yx hn 3 ?_
       refine yd hg4_2 8 ?_
       refine yd hg4_10 4 ?_
       refine yd hg4_14 1 ?_
       refine ys 2 ⟨lk call36 (ok_gate_valid _ _ hv4)⟩ ?_
       refine ye [1,2,4,88,5,8,10,41] ?_
       exact hl385 _ (zi h).symm
theorem ok_wherrylaw23_wakes (mx:Int×Nat×Value) (r:Bool) (h:Sh.wherrylaw23_wakes  = some r):FnG Tryz.prog (GL mx) 14 [] (.v (.bool r)):=by
  unfold Sh.wherrylaw23_wakes at h
  refine yG 51 func14 fun g0 hn hio => ?_
  refine yyy hn 1 [51] ?_
  refine ht_seq ?_
  obtain ⟨v1, hv1, h⟩:=zn h
  obtain ⟨v2, hv2, h⟩:=zn h
  obtain ⟨v3, hv3, h⟩:=zn h
  refine yx hn 0 ?_
  refine ys 0 ⟨lk call20 (ok_wherrylaw23_conf _ hv1)⟩ ?_
  refine ys 0 ⟨lk call22 (ok_gate_New _ _ hv2)⟩ ?_
  refine yS (.fl (.own 5) 1 (map (int .u8) [77,65,73,76,32,70,82,79,77,58,60,62,13,10,69,72,76,79,32,104,13,10])) 0 ⟨op_buildSlice _ _ 1 (.int .u8 0) (map (int .u8) [77,65,73,76,32,70,82,79,77,58,60,62,13,10,69,72,76,79,32,104,13,10]) [(0,.int .u8 77),(1,.int .u8 65),(2,.int .u8 73),(3,.int .u8 76),(4,.int .u8 32),(5,.int .u8 70),(6,.int .u8 82),(7,.int .u8 79),(8,.int .u8 77),(9,.int .u8 58),(10,.int .u8 60),(11,.int .u8 62),(12,.int .u8 13),(13,.int .u8 10),(14,.int .u8 69),(15,.int .u8 72),(16,.int .u8 76),(17,.int .u8 79),(18,.int .u8 32),(19,.int .u8 104),(20,.int .u8 13),(21,.int .u8 10)] underlying28 sz5 zr5 (fun _ V w o a hv hes=>by simp only [List.map_toArray,List.map_cons,List.map_nil]; try rfl) (litfill (by simp [Instr.fill,Value.cells]; rfl) (by simp [List.range,List.range.loop] <;> rfl)) (by simp [Value.oneCell']) rfl (by decide) (by decide) (by decide)⟩ ?_
  refine yk [7] [] ?_
  refine yt (8,.fl .ro 1 (map (int .u8) [77,65,73,76,32,70,82,79,77,58,60,62,13,10,69,72,76,79,32,104,13,10])) 0 ⟨op_conv_mark _ _ _ underlying28 underlying5 (by intro h; cases h)⟩ ?_
  refine ys 0 ⟨lg call13 (ok_gate_Feed _ _ _ _ _ _ _ hv3) 51⟩ ?_
  refine ym 0 ?_
  refine yS (.agg [vi v3.1.Phase,vs v3.1.Helo,vb v3.1.From.Null,vs v3.1.From.Local,vs v3.1.From.Domain,.fl .ro 3 (flatten (map T_Path.enc v3.1.To)),vb v3.1.Quiet,.fl .ro 1 (map (int .u8) v3.1.Buf),vs v3.1.Challenge,vb v3.1.Proved]) 2 ⟨op_extract_no _ _ _ _ _ _ rfl rfl (zl rfl) rfl rfl⟩ ?_
  refine yS (.box 30 [vi 0,vs z0,vb false,vs z0,vs z0,vz,vb false,vz,vs z0,vb false]) 3 ⟨oA (op_alloc _ _ zr30)⟩ ?_
  refine yee [51,1,2,3] ?_
  refine ht_seq ?_
  refine ht_joinS h (fun (s10:Bool)=>[(51,.glob (GL mx)),(0,vb s10)]) ?_ ?_
  ·rintro s10 h
   refine pt_then (ht_ret ?_)
   refine pt_pick [1] (by kernel_rfl) (es':=[(_,_)]) rfl ?_
   obtain rfl:=zi h
   exact pt_ret hio rfl (.tmp _ _ .nil) rfl rfl
  ·intro u11 h hl12 hr13
   refine cond_some h (fun hg2_2 h => ?_) (fun hg2_2 h => ?_)
   ·refine cond_some h (fun hg2_7 h => ?_) (fun hg2_7 h => ?_)
    ·obtain ⟨v4, hv4, h⟩:=zn h
     obtain ⟨v5, hv5, h⟩:=zn h
     refine cond_some h (fun hg2_15 h => ?_) (fun hg2_15 h => ?_)
     ·obtain ⟨v6, hv6, h⟩:=zn h
      obtain ⟨v7, hv7, h⟩:=zn h
      refine cond_some h (fun hg2_23 h => ?_) (fun hg2_23 h => ?_)
      ·refine cond_some h (fun hg2_28 h => ?_) (fun hg2_28 h => ?_)
       ·refine cond_some h (fun hg2_33 h => ?_) (fun hg2_33 h => ?_)
        ·obtain ⟨v8, hv8, h⟩:=zn h
         obtain ⟨v9, hv9, h⟩:=zn h
         refine yx hn 3 ?_
         refine yd hg2_2 5 ?_
         refine yd hg2_7 1 ?_
         refine ys 2 ⟨lI hv4⟩ ?_
         refine yS (vi v5.Reply.Code) 3 ⟨op_load_fr _ _ _ _ _ _ _ underlying3 rfl rfl rfl (gflat_cell (j:=0) T_Out.ilen hv5 rfl) (.v _)⟩ ?_
         refine yd hg2_15 1 ?_
         refine ys 2 ⟨lI hv6⟩ ?_
         refine yS (vi v7.Reply.Code) 3 ⟨op_load_fr _ _ _ _ _ _ _ underlying3 rfl rfl rfl (gflat_cell (j:=0) T_Out.ilen hv7 rfl) (.v _)⟩ ?_
         refine yd hg2_23 5 ?_
         refine yd hg2_28 5 ?_
         refine yd hg2_33 0 ?_
         refine ys 0 ⟨lk call20 (ok_wherrylaw23_conf _ hv8)⟩ ?_
         refine ys 3 ⟨lg call35 (ok_gate_Config _ _ _ hv9) 51⟩ ?_
         refine ye [51,0] ?_
         exact hl12 _ (zi h).symm
        ·refine yx hn 3 ?_
         refine yd hg2_2 5 ?_
         refine yd hg2_7 1 ?_
         refine ys 2 ⟨lI hv4⟩ ?_
         refine yS (vi v5.Reply.Code) 3 ⟨op_load_fr _ _ _ _ _ _ _ underlying3 rfl rfl rfl (gflat_cell (j:=0) T_Out.ilen hv5 rfl) (.v _)⟩ ?_
         refine yd hg2_15 1 ?_
         refine ys 2 ⟨lI hv6⟩ ?_
         refine yS (vi v7.Reply.Code) 3 ⟨op_load_fr _ _ _ _ _ _ _ underlying3 rfl rfl rfl (gflat_cell (j:=0) T_Out.ilen hv7 rfl) (.v _)⟩ ?_
         refine yd hg2_23 5 ?_
         refine yd hg2_28 5 ?_
         refine yd hg2_33 5 ?_
         refine ye [51,0] ?_
         exact hl12 _ (zi h).symm
       ·refine yx hn 3 ?_
        refine yd hg2_2 5 ?_
        refine yd hg2_7 1 ?_
        refine ys 2 ⟨lI hv4⟩ ?_
        refine yS (vi v5.Reply.Code) 3 ⟨op_load_fr _ _ _ _ _ _ _ underlying3 rfl rfl rfl (gflat_cell (j:=0) T_Out.ilen hv5 rfl) (.v _)⟩ ?_
        refine yd hg2_15 1 ?_
        refine ys 2 ⟨lI hv6⟩ ?_
        refine yS (vi v7.Reply.Code) 3 ⟨op_load_fr _ _ _ _ _ _ _ underlying3 rfl rfl rfl (gflat_cell (j:=0) T_Out.ilen hv7 rfl) (.v _)⟩ ?_
        refine yd hg2_23 5 ?_
        refine yd hg2_28 10 ?_
        refine ye [51,0] ?_
        exact hl12 _ (zi h).symm
      ·refine yx hn 3 ?_
       refine yd hg2_2 5 ?_
       refine yd hg2_7 1 ?_
       refine ys 2 ⟨lI hv4⟩ ?_
       refine yS (vi v5.Reply.Code) 3 ⟨op_load_fr _ _ _ _ _ _ _ underlying3 rfl rfl rfl (gflat_cell (j:=0) T_Out.ilen hv5 rfl) (.v _)⟩ ?_
       refine yd hg2_15 1 ?_
       refine ys 2 ⟨lI hv6⟩ ?_
       refine yS (vi v7.Reply.Code) 3 ⟨op_load_fr _ _ _ _ _ _ _ underlying3 rfl rfl rfl (gflat_cell (j:=0) T_Out.ilen hv7 rfl) (.v _)⟩ ?_
       refine yd hg2_23 15 ?_
       refine ye [51,0] ?_
       exact hl12 _ (zi h).symm
     ·refine yx hn 3 ?_
      refine yd hg2_2 5 ?_
      refine yd hg2_7 1 ?_
      refine ys 2 ⟨lI hv4⟩ ?_
      refine yS (vi v5.Reply.Code) 3 ⟨op_load_fr _ _ _ _ _ _ _ underlying3 rfl rfl rfl (gflat_cell (j:=0) T_Out.ilen hv5 rfl) (.v _)⟩ ?_
      refine yd hg2_15 23 ?_
      refine ye [51,0] ?_
      exact hl12 _ (zi h).symm
    ·refine yx hn 3 ?_
     refine yd hg2_2 5 ?_
     refine yd hg2_7 31 ?_
     refine ye [51,0] ?_
     exact hl12 _ (zi h).symm
   ·refine yx hn 3 ?_
    refine yd hg2_2 36 ?_
    refine ye [51,0] ?_
    exact hl12 _ (zi h).symm
end Go.Proofs.YtjnnkhmhjcjhdaaGreatDoor
