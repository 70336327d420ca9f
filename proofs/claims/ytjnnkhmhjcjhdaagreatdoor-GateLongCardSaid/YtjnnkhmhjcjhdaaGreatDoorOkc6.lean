/-
  The model's runs are what is told in Lean.
-/
import Derived.Test.YtjnnkhmhjcjhdaaGreatDoorProg
import Derived.KernelRfl
import Derived.Test.YtjnnkhmhjcjhdaaGreatDoorShelf
import Derived.Test.YtjnnkhmhjcjhdaaGreatDoorIdx
import Derived.Test.YtjnnkhmhjcjhdaaGreatDoorB3
import Derived.Test.YtjnnkhmhjcjhdaaGreatDoorC1
import Derived.Test.YtjnnkhmhjcjhdaaGreatDoorBC
import Derived.Test.YtjnnkhmhjcjhdaaGreatDoorOkc5
set_option linter.unusedVariables false
set_option linter.unusedSimpArgs false
set_option maxHeartbeats 1000000
namespace Go.Proofs.YtjnnkhmhjcjhdaaGreatDoor
open Go.Abs Go.Abs.Sh Tryz
open List (map flatten)
open Value (int)
theorem ok_gate_session_prove (mx:Int×Nat×Value) (s:T_gate_session) (line:ByteArray) (r:T_gate_session) (h:Sh.gate_session_prove s line=some r):FnPG Tryz.prog (GL mx) 90 [.box 80 [.v (.int .i64 s.Gate.Phase), .v (.string s.Gate.Helo), .v (.bool s.Gate.From.Null), .v (.string s.Gate.From.Local), .v (.string s.Gate.From.Domain), .fl (.own 26) 3 (flatten (map T_Path.enc s.Gate.To)), .v (.bool s.Gate.Quiet), .mkr 5 (map (int .u8) s.Gate.Buf), .v (.string s.Gate.Challenge), .v (.bool s.Gate.Proved), .v (.string ((s.config.Domains.getD 0 (⟨#[]⟩:ByteArray)))), .v (.string ((s.config.Domains.getD 1 (⟨#[]⟩:ByteArray)))), .v (.int .i64 s.config.Expiry), .v (.string s.config.User), .v (.string s.config.Secret), .v (.int .i64 s.config.Log), .v (.bool s.config.Held), .v (.int .i64 s.site), .v (.int .i64 s.at_), .fr (.own 55) false 12 (flatten (map T_Out.ienc s.out))], .v (.string line)] [.box 80 [.v (.int .i64 r.Gate.Phase), .v (.string r.Gate.Helo), .v (.bool r.Gate.From.Null), .v (.string r.Gate.From.Local), .v (.string r.Gate.From.Domain), .fl (.own 26) 3 (flatten (map T_Path.enc r.Gate.To)), .v (.bool r.Gate.Quiet), .mkr 5 (map (int .u8) r.Gate.Buf), .v (.string r.Gate.Challenge), .v (.bool r.Gate.Proved), .v (.string ((r.config.Domains.getD 0 (⟨#[]⟩:ByteArray)))), .v (.string ((r.config.Domains.getD 1 (⟨#[]⟩:ByteArray)))), .v (.int .i64 r.config.Expiry), .v (.string r.config.User), .v (.string r.config.Secret), .v (.int .i64 r.config.Log), .v (.bool r.config.Held), .v (.int .i64 r.site), .v (.int .i64 r.at_), .fr (.own 55) false 12 (flatten (map T_Out.ienc r.out))]] (.tup []):=by
  unfold Sh.gate_session_prove at h
  refine yPG 34 func90 fun args0 hargs0 g0 hn hio => ?_
  refine yyy hn 5 [0,1,34,0] ?_
  refine ht_seq ?_
  refine ht_seq ?_
  obtain ⟨v1, hv1, h⟩:=zn h
  refine wb [[],[8,0],[9,0],[10,0],[11,0],[],[13,0],[14,0],[15,0],[16,0],[],[18,0],[19,0],[20,0],[21,0],[1]] ?_
  refine wN [12,17,22,23,34] ?_
  refine wo [[24]] ⟨lg call107 (ok_cram_Verify _ _ _ _ _ _ hv1) 34⟩ ?_
  refine wee hn [0,34,25,0] ?_
  refine ht_cond _ rfl (fun hb2 => ?_) (fun hb2 => ?_)
  ·have h:=cond_t hb2 h
   refine ht_seq ?_
   obtain ⟨v3, hv3, h⟩:=zn h
   refine yx hn 1 ?_
   refine yQ call76 (ok_gate_session_reply _ _ _ hv3) 0 [26] 0 ?_
   refine yee [0,34,0] ?_
   refine ht_ret ?_
   refine pt_pick [0,2] (by kernel_rfl) (es':=[(_,_),(_,_)]) rfl ?_
   refine pt_r_then ?_
   obtain rfl:=zi h
   exact pt_retP (es:=[]) (posts:=[.box 80 [.v (.int .i64 v3.Gate.Phase),.v (.string v3.Gate.Helo),.v (.bool v3.Gate.From.Null),.v (.string v3.Gate.From.Local),.v (.string v3.Gate.From.Domain),.fl (.own 26) 3 (flatten (map T_Path.enc v3.Gate.To)),.v (.bool v3.Gate.Quiet),.mkr 5 (map (int .u8) v3.Gate.Buf),.v (.string v3.Gate.Challenge),.v (.bool v3.Gate.Proved),.v (.string ((v3.config.Domains.getD 0 (⟨#[]⟩:ByteArray)))),.v (.string ((v3.config.Domains.getD 1 (⟨#[]⟩:ByteArray)))),.v (.int .i64 v3.config.Expiry),.v (.string v3.config.User),.v (.string v3.config.Secret),.v (.int .i64 v3.config.Log),.v (.bool v3.config.Held),.v (.int .i64 v3.site),.v (.int .i64 v3.at_),.fr (.own 55) false 12 (flatten (map T_Out.ienc v3.out))]]) hio rfl rfl .nil rfl rfl hargs0 rfl
  ·have h:=cond_f hb2 h
   refine ht_skip ?_
   refine pt_then ?_
   refine yyy hn 5 [0,34,0] ?_
   obtain ⟨v4, hv4, h⟩:=zn h
   refine yx hn 1 ?_
   refine yQ call76 (ok_gate_session_reply _ _ _ hv4) 0 [32] 0 ?_
   refine ye [0,34,0] ?_
   refine pt_pick [0,2] (by kernel_rfl) (es':=[(_,_),(_,_)]) rfl ?_
   obtain rfl:=zi h
   exact pt_endP (es:=[]) (posts:=[.box 80 [.v (.int .i64 v4.Gate.Phase),.v (.string v4.Gate.Helo),.v (.bool v4.Gate.From.Null),.v (.string v4.Gate.From.Local),.v (.string v4.Gate.From.Domain),.fl (.own 26) 3 (flatten (map T_Path.enc v4.Gate.To)),.v (.bool v4.Gate.Quiet),.mkr 5 (map (int .u8) v4.Gate.Buf),.v (.string v4.Gate.Challenge),.v (.bool v4.Gate.Proved),.v (.string ((v4.config.Domains.getD 0 (⟨#[]⟩:ByteArray)))),.v (.string ((v4.config.Domains.getD 1 (⟨#[]⟩:ByteArray)))),.v (.int .i64 v4.config.Expiry),.v (.string v4.config.User),.v (.string v4.config.Secret),.v (.int .i64 v4.config.Log),.v (.bool v4.config.Held),.v (.int .i64 v4.site),.v (.int .i64 v4.at_),.fr (.own 55) false 12 (flatten (map T_Out.ienc v4.out))]]) hio rfl rfl .nil rfl rfl hargs0 rfl
theorem ok_verb_printable (line:ByteArray) (r:Bool) (h:Sh.verb_printable line=some r):FnOK Tryz.prog 108 [.v (.string line)] (.v (.bool r)):=by
  unfold Sh.verb_printable at h
  refine yO 20 func108 fun g0 hn hio => ?_
  refine yyy hn 1 [0] ?_
  refine ht_seq ?_
  refine yyy hn 3 [0,5,6] ?_
  refine ht_loopS h (fun (s17:Int)=>[(0,vs line),(5,vi (line.size:Int)),(6,vi s17)]) (fun (():Unit)=>[]) ?_ ?_
  ·rintro ⟨⟩ h
   refine pt_then ?_
   refine yyy hn 1 [2] ?_
   refine ht_ret ?_
   obtain rfl:=zi h
   exact pt_ret hio rfl (.tmp _ _ .nil) rfl rfl
  ·rintro u24 hl25 hr26 s17 rr29 h ho27
   refine yyy hn 1 [0,5,6,7] ?_
   refine ht_seq ?_
   refine ht_cond _ rfl (fun hb30 => ?_) (fun hb30 => ?_)
   ·have h:=cond_t hb30 h
    refine ht_skip ?_
    refine pt_then (ht_seq ?_)
    refine ht_block ?_
    refine yyy hn 2 [0,5,6,3] ?_
    refine ht_seq ?_
    refine ht_joinS h (fun (s31:Bool)=>[(0,vs line),(5,vi (line.size:Int)),(6,vi s17),(18,vb s31)]) ?_ ?_
    ·rintro s31 h
     refine pt_then ?_
     refine ht_cond _ rfl (fun hb35 => ?_) (fun hb35 => ?_)
     ·have h:=cond_t hb35 h
      refine yyy hn 1 [2] ?_
      refine ht_ret ?_
      refine pt_r_in ?_
      refine pt_r_then ?_
      refine pt_r_then ?_
      refine pt_r_in ?_
      refine pt_r_then ?_
      have h:=hr26 _ (ho27 _ (zi h).symm).symm
      obtain rfl:=zi h
      exact pt_ret hio rfl (.tmp _ _ .nil) rfl rfl
     ·have h:=cond_f hb35 h
      refine ht_skip ?_
      refine pt_inb ?_
      refine pt_then ?_
      obtain ⟨v9, hv9, h⟩:=zn h
      refine yx hn 0 ?_
      refine ys 0 ⟨lb hv9⟩ ?_
      refine yw [6] 1 ?_
      refine ye [0,5,6] ?_
      exact pt_next _ (zi h).symm rfl
    ·intro u32 h hl33 hr34
     obtain ⟨v2, hv2, h⟩:=zn h
     refine cond_some h (fun hg4_4 h => ?_) (fun hg4_4 h => ?_)
     ·refine yx hn 2 ?_
      refine ys 2 ⟨lh hv2⟩ ?_
      refine yd hg4_4 5 ?_
      refine ye [0,5,6,18] ?_
      exact hl33 _ (zi h).symm
     ·obtain ⟨v3, hv3, h⟩:=zn h
      refine yx hn 2 ?_
      refine ys 2 ⟨lh hv2⟩ ?_
      refine yd hg4_4 2 ?_
      refine ys 2 ⟨lh hv3⟩ ?_
      refine ye [0,5,6,18] ?_
      exact hl33 _ (zi h).symm
   ·have h:=cond_f hb30 h
    refine ht_exit ?_
    refine pt_x_then ?_
    refine pt_x_then ?_
    refine pt_x_in ?_
    refine pt_pick [] (by kernel_rfl) (es':=[]) rfl ?_
    exact hl25 _ (ho27 _ (zi h).symm).symm
theorem ok_internal_stringslite_Index (s sub:ByteArray) (r:Int) (h:Sh.strings_Index s sub=some r):FnOK Tryz.prog 143 [.v (.string s), .v (.string sub)] (.v (.int .i64 r)):=lib_strings_Index Tryz.stringslite_Index_one s sub r h
theorem ok_internal_stringslite_Cut (s:ByteArray) (sep:ByteArray) (r:(ByteArray×ByteArray×Bool)) (h:Sh.internal_stringslite_Cut s sep=some r):FnOK Tryz.prog 156 [.v (.string s), .v (.string sep)] (.tup [.v (.string r.1), .v (.string r.2.1), .v (.bool r.2.2)]):=by
  unfold Sh.internal_stringslite_Cut at h
  refine yO 23 func156 fun g0 hn hio => ?_
  refine yyy hn 3 [0,1] ?_
  refine ht_seq ?_
  refine ht_seq ?_
  obtain ⟨v1, hv1, h⟩:=zn h
  refine yx hn 2 ?_
  refine ys 1 ⟨lk call143 (ok_internal_stringslite_Index _ _ _ hv1)⟩ ?_
  refine yee [0,1,7] ?_
  refine yyy hn 2 [0,1,7,12] ?_
  refine ht_cond _ rfl (fun hb2 => ?_) (fun hb2 => ?_)
  ·have h:=cond_t hb2 h
   refine ht_seq ?_
   obtain ⟨v3, hv3, h⟩:=zn h
   obtain ⟨v4, hv4, h⟩:=zn h
   obtain ⟨v5, hv5, h⟩:=zn h
   refine wb [[0],[7]] ?_
   refine wN [13,14] ?_
   refine wS (vs v3) [[0],[7],[1],[18]] ⟨op_substr _ _ _ 0 v1 _ underlying9 rfl rfl ⟨_,rfl⟩ hv3⟩ ?_
   refine wN [17,19] ?_
   refine wo [] ⟨lb hv4⟩ ?_
   refine wN [16,20] ?_
   refine wS (vs v5) [[15],[21],[]] ⟨op_substr _ _ _ v4 (s.size:Int) _ underlying9 rfl ⟨_,rfl⟩ rfl hv5⟩ ?_
   refine wee hn [4,5,6] ?_
   refine ht_ret ?_
   refine pt_r_then ?_
   obtain rfl:=zi h
   exact pt_ret hio rfl (.tmp _ _ (.tmp _ _ (.tmp _ _ .nil))) rfl rfl
  ·have h:=cond_f hb2 h
   refine ht_skip ?_
   refine pt_then ?_
   refine yyy hn 4 [4,5,6] ?_
   refine ht_ret ?_
   obtain rfl:=zi h
   exact pt_ret hio rfl (.tmp _ _ (.tmp _ _ (.tmp _ _ .nil))) rfl rfl
theorem ok_strings_Cut (s:ByteArray) (sep:ByteArray) (r:(ByteArray×ByteArray×Bool)) (h:Sh.strings_Cut s sep=some r):FnOK Tryz.prog 134 [.v (.string s), .v (.string sep)] (.tup [.v (.string r.1), .v (.string r.2.1), .v (.bool r.2.2)]):=by
  unfold Sh.strings_Cut at h
  refine yO 13 func134 fun g0 hn hio => ?_
  refine yyy hn 3 [0,1] ?_
  refine ht_seq ?_
  obtain ⟨v1, hv1, h⟩:=zn h
  refine yx hn 2 ?_
  refine ys 6 ⟨lk call156 (ok_internal_stringslite_Cut _ _ _ hv1)⟩ ?_
  refine yee [4,5,6] ?_
  refine ht_ret ?_
  obtain rfl:=zi h
  exact pt_ret hio rfl (.tmp _ _ (.tmp _ _ (.tmp _ _ .nil))) rfl rfl
theorem ok_verb_kindOf (line:ByteArray) (r:Int) (h:Sh.verb_kindOf line=some r):FnOK Tryz.prog 109 [.v (.string line)] (.v (.int .i64 r)):=by
  unfold Sh.verb_kindOf at h
  refine yO 37 func109 fun g0 hn hio => ?_
  refine yyy hn 1 [0] ?_
  refine ht_seq ?_
  obtain ⟨v1, hv1, h⟩:=zn h
  refine yx hn 1 ?_
  refine ys 0 ⟨lk call134 (ok_strings_Cut _ _ _ hv1)⟩ ?_
  refine ym 6 ?_
  refine yee [3] ?_
  refine ht_seq ?_
  refine ht_seq ?_
  obtain ⟨v2, hv2, h⟩:=zn h
  refine yx hn 1 ?_
  refine ys 0 ⟨lk call71 (ok_path_Fold _ _ hv2)⟩ ?_
  refine yee [13] ?_
  refine ht_block ?_
  refine ht_seq ?_
  refine ht_joinS h (fun (s4:Bool)=>[(13,vs v2),(14,vb s4)]) ?_ ?_
  ·rintro s4 h
   refine pt_then ?_
   refine ht_cond _ rfl (fun hb9 => ?_) (fun hb9 => ?_)
   ·have h:=cond_t hb9 h
    refine yyy hn 1 [2] ?_
    refine ht_ret ?_
    refine pt_r_in ?_
    refine pt_r_then ?_
    obtain rfl:=zi h
    exact pt_ret hio rfl (.tmp _ _ .nil) rfl rfl
   ·have h:=cond_f hb9 h
    refine yyy hn 2 [13,17] ?_
    refine ht_cond _ rfl (fun hb10 => ?_) (fun hb10 => ?_)
    ·have h:=cond_t hb10 h
     refine yyy hn 1 [2] ?_
     refine ht_ret ?_
     refine pt_r_in ?_
     refine pt_r_then ?_
     obtain rfl:=zi h
     exact pt_ret hio rfl (.tmp _ _ .nil) rfl rfl
    ·have h:=cond_f hb10 h
     refine yyy hn 2 [13,19] ?_
     refine ht_cond _ rfl (fun hb11 => ?_) (fun hb11 => ?_)
     ·have h:=cond_t hb11 h
      refine yyy hn 1 [2] ?_
      refine ht_ret ?_
      refine pt_r_in ?_
      refine pt_r_then ?_
      obtain rfl:=zi h
      exact pt_ret hio rfl (.tmp _ _ .nil) rfl rfl
     ·have h:=cond_f hb11 h
      refine yyy hn 2 [13,21] ?_
      refine ht_cond _ rfl (fun hb12 => ?_) (fun hb12 => ?_)
      ·have h:=cond_t hb12 h
       refine yyy hn 1 [2] ?_
       refine ht_ret ?_
       refine pt_r_in ?_
       refine pt_r_then ?_
       obtain rfl:=zi h
       exact pt_ret hio rfl (.tmp _ _ .nil) rfl rfl
      ·have h:=cond_f hb12 h
       refine yyy hn 2 [13,23] ?_
       refine ht_cond _ rfl (fun hb13 => ?_) (fun hb13 => ?_)
       ·have h:=cond_t hb13 h
        refine yyy hn 1 [2] ?_
        refine ht_ret ?_
        refine pt_r_in ?_
        refine pt_r_then ?_
        obtain rfl:=zi h
        exact pt_ret hio rfl (.tmp _ _ .nil) rfl rfl
       ·have h:=cond_f hb13 h
        refine yyy hn 2 [13,25] ?_
        refine ht_cond _ rfl (fun hb14 => ?_) (fun hb14 => ?_)
        ·have h:=cond_t hb14 h
         refine yyy hn 1 [2] ?_
         refine ht_ret ?_
         refine pt_r_in ?_
         refine pt_r_then ?_
         obtain rfl:=zi h
         exact pt_ret hio rfl (.tmp _ _ .nil) rfl rfl
        ·have h:=cond_f hb14 h
         refine yyy hn 2 [13,27] ?_
         refine ht_cond _ rfl (fun hb15 => ?_) (fun hb15 => ?_)
         ·have h:=cond_t hb15 h
          refine yyy hn 1 [2] ?_
          refine ht_ret ?_
          refine pt_r_in ?_
          refine pt_r_then ?_
          obtain rfl:=zi h
          exact pt_ret hio rfl (.tmp _ _ .nil) rfl rfl
         ·have h:=cond_f hb15 h
          refine yyy hn 2 [13,29] ?_
          refine ht_cond _ rfl (fun hb16 => ?_) (fun hb16 => ?_)
          ·have h:=cond_t hb16 h
           refine yyy hn 1 [2] ?_
           refine ht_ret ?_
           refine pt_r_in ?_
           refine pt_r_then ?_
           obtain rfl:=zi h
           exact pt_ret hio rfl (.tmp _ _ .nil) rfl rfl
          ·have h:=cond_f hb16 h
           refine yyy hn 2 [13,31] ?_
           refine ht_cond _ rfl (fun hb17 => ?_) (fun hb17 => ?_)
           ·have h:=cond_t hb17 h
            refine yyy hn 1 [2] ?_
            refine ht_ret ?_
            refine pt_r_in ?_
            refine pt_r_then ?_
            obtain rfl:=zi h
            exact pt_ret hio rfl (.tmp _ _ .nil) rfl rfl
           ·have h:=cond_f hb17 h
            refine yyy hn 2 [13,33] ?_
            refine ht_cond _ rfl (fun hb18 => ?_) (fun hb18 => ?_)
            ·have h:=cond_t hb18 h
             refine yyy hn 1 [2] ?_
             refine ht_ret ?_
             refine pt_r_in ?_
             refine pt_r_then ?_
             obtain rfl:=zi h
             exact pt_ret hio rfl (.tmp _ _ .nil) rfl rfl
            ·have h:=cond_f hb18 h
             refine yyy hn 2 [35] ?_
             refine ht_cond _ rfl (fun hb19 => ?_) (fun hb19 => ?_)
             ·have h:=cond_t hb19 h
              refine yyy hn 1 [2] ?_
              refine ht_ret ?_
              refine pt_r_in ?_
              refine pt_r_then ?_
              obtain rfl:=zi h
              exact pt_ret hio rfl (.tmp _ _ .nil) rfl rfl
             ·have h:=cond_f hb19 h
              refine ht_skip ?_
              refine pt_inb ?_
              refine pt_then ?_
              refine yyy hn 1 [2] ?_
              refine ht_ret ?_
              obtain rfl:=zi h
              exact pt_ret hio rfl (.tmp _ _ .nil) rfl rfl
  ·intro u5 h hl6 hr7
   refine yyy hn 2 [13,14] ?_
   refine ht_cond _ rfl (fun hb8 => ?_) (fun hb8 => ?_)
   ·have h:=cond_t hb8 h
    refine ht_skip ?_
    exact hl6 _ (zi h).symm
   ·have h:=cond_f hb8 h
    refine yx hn 1 ?_
    refine yw [14] 1 ?_
    refine ye [13,14] ?_
    exact hl6 _ (zi h).symm
theorem ok_verb_equalFold (a:ByteArray) (b:ByteArray) (r:Bool) (h:Sh.verb_equalFold a b=some r):FnOK Tryz.prog 136 [.v (.string a), .v (.string b)] (.v (.bool r)):=by
  unfold Sh.verb_equalFold at h
  refine yO 10 func136 fun g0 hn hio => ?_
  refine yyy hn 1 [0,1] ?_
  refine ht_seq ?_
  obtain ⟨v1, hv1, h⟩:=zn h
  obtain ⟨v2, hv2, h⟩:=zn h
  refine yx hn 1 ?_
  refine ys 1 ⟨lk call71 (ok_path_Fold _ _ hv1)⟩ ?_
  refine ys 2 ⟨lk call71 (ok_path_Fold _ _ hv2)⟩ ?_
  refine yee [4] ?_
  refine ht_ret ?_
  obtain rfl:=zi h
  exact pt_ret hio rfl (.tmp _ _ .nil) rfl rfl
theorem ok_verb_cutFold (s:ByteArray) (prefix_:ByteArray) (r:(ByteArray×Bool)) (h:Sh.verb_cutFold s prefix_=some r):FnOK Tryz.prog 135 [.v (.string s), .v (.string prefix_)] (.tup [.v (.string r.1), .v (.bool r.2)]):=by
  unfold Sh.verb_cutFold at h
  refine yO 24 func135 fun g0 hn hio => ?_
  refine yyy hn 2 [0,1] ?_
  refine ht_seq ?_
  refine ht_seq ?_
  refine ht_joinS h (fun (s3:Bool)=>[(0,vs s),(1,vs prefix_),(19,vb s3)]) ?_ ?_
  ·rintro s3 h
   refine pt_then ?_
   refine ht_cond _ rfl (fun hb7 => ?_) (fun hb7 => ?_)
   ·have h:=cond_t hb7 h
    refine yyy hn 2 [4,5] ?_
    refine ht_ret ?_
    refine pt_r_then ?_
    obtain rfl:=zi h
    exact pt_ret hio rfl (.tmp _ _ (.tmp _ _ .nil)) rfl rfl
   ·have h:=cond_f hb7 h
    refine ht_skip ?_
    refine pt_then (ht_seq ?_)
    obtain ⟨v8, hv8, h⟩:=zn h
    refine yx hn 3 ?_
    refine yS (vs v8) 2 ⟨op_substr _ _ _ (prefix_.size:Int) (s.size:Int) _ underlying9 rfl ⟨_,rfl⟩ rfl hv8⟩ ?_
    refine yee [4,5] ?_
    refine ht_ret ?_
    obtain rfl:=zi h
    exact pt_ret hio rfl (.tmp _ _ (.tmp _ _ .nil)) rfl rfl
  ·intro u4 h hl5 hr6
   refine cond_some h (fun hg1_5 h => ?_) (fun hg1_5 h => ?_)
   ·refine yx hn 6 ?_
    refine yd hg1_5 8 ?_
    refine ye [0,1,19] ?_
    exact hl5 _ (zi h).symm
   ·obtain ⟨v1, hv1, h⟩:=zn h
    obtain ⟨v2, hv2, h⟩:=zn h
    refine yx hn 6 ?_
    refine yd hg1_5 3 ?_
    refine yS (vs v1) 1 ⟨op_substr _ _ _ 0 (prefix_.size:Int) _ underlying9 rfl rfl ⟨_,rfl⟩ hv1⟩ ?_
    refine ys 2 ⟨lk call136 (ok_verb_equalFold _ _ _ hv2)⟩ ?_
    refine ye [0,1,19] ?_
    exact hl5 _ (zi h).symm
theorem ok_verb_otherMechanism (mx:Int×Nat×Value) (line:ByteArray) (r:Bool) (h:Sh.verb_otherMechanism line=some r):FnG Tryz.prog (GL mx) 110 [.v (.string line)] (.v (.bool r)):=by
  unfold Sh.verb_otherMechanism at h
  refine yG 40 func110 fun g0 hn hio => ?_
  refine yyy hn 1 [0,40] ?_
  refine ht_seq ?_
  obtain ⟨v1, hv1, h⟩:=zn h
  refine yx hn 1 ?_
  refine ys 0 ⟨lk call135 (ok_verb_cutFold _ _ _ hv1)⟩ ?_
  refine ym 4 ?_
  refine yee [40,3,4] ?_
  refine ht_seq ?_
  refine ht_seq ?_
  refine ht_joinS h (fun (s3:Bool)=>[(40,.glob (GL mx)),(3,vs v1.1),(20,vb s3)]) ?_ ?_
  ·rintro s3 h
   refine pt_then ?_
   refine ht_cond _ rfl (fun hb7 => ?_) (fun hb7 => ?_)
   ·have h:=cond_t hb7 h
    refine yyy hn 1 [40,2] ?_
    refine ht_ret ?_
    refine pt_pick [1] (by kernel_rfl) (es':=[(_,_)]) rfl ?_
    refine pt_r_then ?_
    obtain rfl:=zi h
    exact pt_ret hio rfl (.tmp _ _ .nil) rfl rfl
   ·have h:=cond_f hb7 h
    refine ht_skip ?_
    refine pt_then (ht_seq ?_)
    refine yyy hn 3 [40,3,22,23] ?_
    refine ht_loopS h (fun (s26:Int)=>[(40,.glob (GL mx)),(3,vs v1.1),(22,vi (v1.1.size:Int)),(23,vi s26)]) (fun (():Unit)=>[(40,.glob (GL mx))]) ?_ ?_
    ·rintro ⟨⟩ h
     refine pt_then ?_
     refine yyy hn 1 [40,2] ?_
     refine ht_ret ?_
     refine pt_pick [1] (by kernel_rfl) (es':=[(_,_)]) rfl ?_
     obtain rfl:=zi h
     exact pt_ret hio rfl (.tmp _ _ .nil) rfl rfl
    ·rintro u33 hl34 hr35 s26 rr38 h ho36
     refine yyy hn 1 [40,3,22,23,24] ?_
     refine ht_seq ?_
     refine ht_cond _ rfl (fun hb39 => ?_) (fun hb39 => ?_)
     ·have h:=cond_t hb39 h
      refine ht_skip ?_
      refine pt_then (ht_seq ?_)
      refine ht_block ?_
      refine yyy hn 2 [40,3,22,23,5] ?_
      refine ht_seq ?_
      refine ht_joinS h (fun (s40:Bool)=>[(40,.glob (GL mx)),(3,vs v1.1),(22,vi (v1.1.size:Int)),(23,vi s26),(38,vb s40)]) ?_ ?_
      ·rintro s40 h
       refine pt_then ?_
       refine ht_cond _ rfl (fun hb44 => ?_) (fun hb44 => ?_)
       ·have h:=cond_t hb44 h
        refine yyy hn 1 [40,2] ?_
        refine ht_ret ?_
        refine pt_pick [1] (by kernel_rfl) (es':=[(_,_)]) rfl ?_
        refine pt_r_in ?_
        refine pt_r_then ?_
        refine pt_r_then ?_
        refine pt_r_in ?_
        refine pt_r_then ?_
        have h:=hr35 _ (ho36 _ (zi h).symm).symm
        obtain rfl:=zi h
        exact pt_ret hio rfl (.tmp _ _ .nil) rfl rfl
       ·have h:=cond_f hb44 h
        refine ht_skip ?_
        refine pt_inb ?_
        refine pt_then ?_
        obtain ⟨v18, hv18, h⟩:=zn h
        refine yx hn 0 ?_
        refine ys 0 ⟨lb hv18⟩ ?_
        refine yw [23] 1 ?_
        refine ye [40,3,22,23] ?_
        exact pt_next _ (zi h).symm rfl
      ·intro u41 h hl42 hr43
       obtain ⟨v9, hv9, h⟩:=zn h
       refine cond_some h (fun hg7_4 h => ?_) (fun hg7_4 h => ?_)
       ·obtain ⟨v10, hv10, h⟩:=zn h
        obtain ⟨v11, hv11, h⟩:=zn h
        obtain ⟨v12, hv12, h⟩:=zn h
        refine yx hn 2 ?_
        refine ys 2 ⟨lh hv9⟩ ?_
        refine yd hg7_4 3 ?_
        refine ys 0 ⟨lb hv10⟩ ?_
        refine yS (vs v11) 0 ⟨op_substr _ _ _ s26 v10 _ underlying9 rfl ⟨_,rfl⟩ ⟨_,rfl⟩ hv11⟩ ?_
        refine ys 2 ⟨lg call55 (ok_path_Domain _ _ _ hv12) 40⟩ ?_
        refine ye [40,3,22,23,38] ?_
        exact hl42 _ (zi h).symm
       ·refine yx hn 2 ?_
        refine ys 2 ⟨lh hv9⟩ ?_
        refine yd hg7_4 8 ?_
        refine ye [40,3,22,23,38] ?_
        exact hl42 _ (zi h).symm
     ·have h:=cond_f hb39 h
      refine ht_exit ?_
      refine pt_x_then ?_
      refine pt_x_then ?_
      refine pt_x_in ?_
      refine pt_pick [0] (by kernel_rfl) (es':=[(_,_)]) rfl ?_
      exact hl34 _ (ho36 _ (zi h).symm).symm
  ·intro u4 h hl5 hr6
   refine cond_some h (fun hg2_2 h => ?_) (fun hg2_2 h => ?_)
   ·refine yx hn 3 ?_
    refine yd hg2_2 7 ?_
    refine ye [40,3,20] ?_
    exact hl5 _ (zi h).symm
   ·refine cond_some h (fun hg2_6 h => ?_) (fun hg2_6 h => ?_)
    ·refine yx hn 3 ?_
     refine yd hg2_2 4 ?_
     refine yd hg2_6 3 ?_
     refine ye [40,3,20] ?_
     exact hl5 _ (zi h).symm
    ·obtain ⟨v2, hv2, h⟩:=zn h
     refine yx hn 3 ?_
     refine yd hg2_2 4 ?_
     refine yd hg2_6 1 ?_
     refine ys 1 ⟨lk call136 (ok_verb_equalFold _ _ _ hv2)⟩ ?_
     refine ye [40,3,20] ?_
     exact hl5 _ (zi h).symm
theorem ok_verb_opening (kind:Int) (r:ByteArray) (h:Sh.verb_opening kind=some r):FnOK Tryz.prog 157 [.v (.int .i64 kind)] (.v (.string r)):=by
  unfold Sh.verb_opening at h
  refine yO 5 func157 fun g0 hn hio => ?_
  refine yyy hn 1 [0] ?_
  refine ht_seq ?_
  refine yyy hn 2 [4] ?_
  refine ht_cond _ rfl (fun hb1 => ?_) (fun hb1 => ?_)
  ·have h:=cond_t hb1 h
   refine yyy hn 1 [2] ?_
   refine ht_ret ?_
   refine pt_r_then ?_
   obtain rfl:=zi h
   exact pt_ret hio rfl (.tmp _ _ .nil) rfl rfl
  ·have h:=cond_f hb1 h
   refine ht_skip ?_
   refine pt_then ?_
   refine yyy hn 1 [2] ?_
   refine ht_ret ?_
   obtain rfl:=zi h
   exact pt_ret hio rfl (.tmp _ _ .nil) rfl rfl
theorem ok_internal_stringslite_HasPrefix (s:ByteArray) (prefix_:ByteArray) (r:Bool) (h:Sh.internal_stringslite_HasPrefix s prefix_=some r):FnOK Tryz.prog 175 [.v (.string s), .v (.string prefix_)] (.v (.bool r)):=by
  unfold Sh.internal_stringslite_HasPrefix at h
  refine yO 18 func175 fun g0 hn hio => ?_
  refine yyy hn 1 [0,1] ?_
  refine ht_seq ?_
  refine ht_joinS h (fun (s2:Bool)=>[(4,vb s2)]) ?_ ?_
  ·rintro s2 h
   refine pt_then (ht_ret ?_)
   obtain rfl:=zi h
   exact pt_ret hio rfl (.tmp _ _ .nil) rfl rfl
  ·intro u3 h hl4 hr5
   refine cond_some h (fun hg1_5 h => ?_) (fun hg1_5 h => ?_)
   ·obtain ⟨v1, hv1, h⟩:=zn h
    refine yx hn 6 ?_
    refine yd hg1_5 3 ?_
    refine yS (vs v1) 4 ⟨op_substr _ _ _ 0 (prefix_.size:Int) _ underlying9 rfl rfl ⟨_,rfl⟩ hv1⟩ ?_
    refine ye [4] ?_
    exact hl4 _ (zi h).symm
   ·refine yx hn 6 ?_
    refine yd hg1_5 8 ?_
    refine ye [4] ?_
    exact hl4 _ (zi h).symm
theorem ok_internal_stringslite_CutPrefix (s:ByteArray) (prefix_:ByteArray) (r:(ByteArray×Bool)) (h:Sh.internal_stringslite_CutPrefix s prefix_=some r):FnOK Tryz.prog 205 [.v (.string s), .v (.string prefix_)] (.tup [.v (.string r.1), .v (.bool r.2)]):=by
  unfold Sh.internal_stringslite_CutPrefix at h
  refine yO 15 func205 fun g0 hn hio => ?_
  refine yyy hn 2 [0,1] ?_
  refine ht_seq ?_
  refine ht_seq ?_
  obtain ⟨v1, hv1, h⟩:=zn h
  refine yx hn 2 ?_
  refine ys 1 ⟨lk call175 (ok_internal_stringslite_HasPrefix _ _ _ hv1)⟩ ?_
  refine yee [0,1,9] ?_
  refine ht_cond _ rfl (fun hb2 => ?_) (fun hb2 => ?_)
  ·have h:=cond_t hb2 h
   refine yyy hn 3 [4,5] ?_
   refine ht_ret ?_
   refine pt_r_then ?_
   obtain rfl:=zi h
   exact pt_ret hio rfl (.tmp _ _ (.tmp _ _ .nil)) rfl rfl
  ·have h:=cond_f hb2 h
   refine ht_skip ?_
   refine pt_then (ht_seq ?_)
   obtain ⟨v3, hv3, h⟩:=zn h
   refine yx hn 3 ?_
   refine yS (vs v3) 2 ⟨op_substr _ _ _ (prefix_.size:Int) (s.size:Int) _ underlying9 rfl ⟨_,rfl⟩ rfl hv3⟩ ?_
   refine yee [4,5] ?_
   refine ht_ret ?_
   obtain rfl:=zi h
   exact pt_ret hio rfl (.tmp _ _ (.tmp _ _ .nil)) rfl rfl
theorem ok_strings_CutPrefix (s:ByteArray) (prefix_:ByteArray) (r:(ByteArray×Bool)) (h:Sh.strings_CutPrefix s prefix_=some r):FnOK Tryz.prog 184 [.v (.string s), .v (.string prefix_)] (.tup [.v (.string r.1), .v (.bool r.2)]):=by
  unfold Sh.strings_CutPrefix at h
  refine yO 11 func184 fun g0 hn hio => ?_
  refine yyy hn 2 [0,1] ?_
  refine ht_seq ?_
  obtain ⟨v1, hv1, h⟩:=zn h
  refine yx hn 2 ?_
  refine ys 4 ⟨lk call205 (ok_internal_stringslite_CutPrefix _ _ _ hv1)⟩ ?_
  refine yee [4,5] ?_
  refine ht_ret ?_
  obtain rfl:=zi h
  exact pt_ret hio rfl (.tmp _ _ (.tmp _ _ .nil)) rfl rfl
theorem ok_internal_stringslite_HasSuffix (s:ByteArray) (suffix:ByteArray) (r:Bool) (h:Sh.internal_stringslite_HasSuffix s suffix=some r):FnOK Tryz.prog 220 [.v (.string s), .v (.string suffix)] (.v (.bool r)):=by
  unfold Sh.internal_stringslite_HasSuffix at h
  refine yO 21 func220 fun g0 hn hio => ?_
  refine yyy hn 1 [0,1] ?_
  refine ht_seq ?_
  refine ht_joinS h (fun (s3:Bool)=>[(4,vb s3)]) ?_ ?_
  ·rintro s3 h
   refine pt_then (ht_ret ?_)
   obtain rfl:=zi h
   exact pt_ret hio rfl (.tmp _ _ .nil) rfl rfl
  ·intro u4 h hl5 hr6
   refine cond_some h (fun hg1_5 h => ?_) (fun hg1_5 h => ?_)
   ·obtain ⟨v1, hv1, h⟩:=zn h
    obtain ⟨v2, hv2, h⟩:=zn h
    refine yx hn 6 ?_
    refine yd hg1_5 5 ?_
    refine ys 0 ⟨lb hv1⟩ ?_
    refine yS (vs v2) 4 ⟨op_substr _ _ _ v1 (s.size:Int) _ underlying9 rfl ⟨_,rfl⟩ rfl hv2⟩ ?_
    refine ye [4] ?_
    exact hl5 _ (zi h).symm
   ·refine yx hn 6 ?_
    refine yd hg1_5 11 ?_
    refine ye [4] ?_
    exact hl5 _ (zi h).symm
theorem ok_internal_stringslite_CutSuffix (s:ByteArray) (suffix:ByteArray) (r:(ByteArray×Bool)) (h:Sh.internal_stringslite_CutSuffix s suffix=some r):FnOK Tryz.prog 206 [.v (.string s), .v (.string suffix)] (.tup [.v (.string r.1), .v (.bool r.2)]):=by
  unfold Sh.internal_stringslite_CutSuffix at h
  refine yO 18 func206 fun g0 hn hio => ?_
  refine yyy hn 2 [0,1] ?_
  refine ht_seq ?_
  refine ht_seq ?_
  obtain ⟨v1, hv1, h⟩:=zn h
  refine yx hn 2 ?_
  refine ys 1 ⟨lk call220 (ok_internal_stringslite_HasSuffix _ _ _ hv1)⟩ ?_
  refine yee [0,1,9] ?_
  refine ht_cond _ rfl (fun hb2 => ?_) (fun hb2 => ?_)
  ·have h:=cond_t hb2 h
   refine yyy hn 3 [4,5] ?_
   refine ht_ret ?_
   refine pt_r_then ?_
   obtain rfl:=zi h
   exact pt_ret hio rfl (.tmp _ _ (.tmp _ _ .nil)) rfl rfl
  ·have h:=cond_f hb2 h
   refine ht_skip ?_
   refine pt_then (ht_seq ?_)
   obtain ⟨v3, hv3, h⟩:=zn h
   obtain ⟨v4, hv4, h⟩:=zn h
   refine yx hn 5 ?_
   refine ys 0 ⟨lb hv3⟩ ?_
   refine yS (vs v4) 2 ⟨op_substr _ _ _ 0 v3 _ underlying9 rfl rfl ⟨_,rfl⟩ hv4⟩ ?_
   refine yee [4,5] ?_
   refine ht_ret ?_
   obtain rfl:=zi h
   exact pt_ret hio rfl (.tmp _ _ (.tmp _ _ .nil)) rfl rfl
theorem ok_strings_CutSuffix (s:ByteArray) (suffix:ByteArray) (r:(ByteArray×Bool)) (h:Sh.strings_CutSuffix s suffix=some r):FnOK Tryz.prog 185 [.v (.string s), .v (.string suffix)] (.tup [.v (.string r.1), .v (.bool r.2)]):=by
  unfold Sh.strings_CutSuffix at h
  refine yO 11 func185 fun g0 hn hio => ?_
  refine yyy hn 2 [0,1] ?_
  refine ht_seq ?_
  obtain ⟨v1, hv1, h⟩:=zn h
  refine yx hn 2 ?_
  refine ys 4 ⟨lk call206 (ok_internal_stringslite_CutSuffix _ _ _ hv1)⟩ ?_
  refine yee [4,5] ?_
  refine ht_ret ?_
  obtain rfl:=zi h
  exact pt_ret hio rfl (.tmp _ _ (.tmp _ _ .nil)) rfl rfl
theorem ok_path_Parse (mx:Int×Nat×Value) (s:ByteArray) (r:(T_Path×Int)) (h:Sh.path_Parse s=some r):FnG Tryz.prog (GL mx) 158 [.v (.string s)] (.tup [.agg [.v (.bool r.1.Null), .v (.string r.1.Local), .v (.string r.1.Domain)], .v (.int .i64 r.2)]):=by
  unfold Sh.path_Parse at h
  refine yG 50 func158 fun g0 hn hio => ?_
  refine yxx hn 0 ?_
  refine yS (.box 26 [vb false,vs z0,vs z0]) 1 ⟨oA (op_alloc _ _ zr26)⟩ ?_
  refine yee [0,50,2] ?_
  refine ht_seq ?_
  refine yyy hn 2 [0,50,2,12] ?_
  refine ht_cond _ rfl (fun hb1 => ?_) (fun hb1 => ?_)
  ·have h:=cond_t hb1 h
   refine yxx hn 0 ?_
   refine yS (.agg [vb true,vs z0,vs z0]) 2 ⟨op_build _ _ _ _ [1,1,1] _ _ underlying26 zr26 (fs26 _ underlying26) (.copy _ Src.nil) rfl rfl rfl⟩ ?_
   refine yee [50,2,3] ?_
   refine ht_ret ?_
   refine pt_pick [1,2] (by kernel_rfl) (es':=[(_,_),(_,_)]) rfl ?_
   refine pt_r_then ?_
   obtain rfl:=zi h
   exact pt_ret hio rfl (.cellA _ _ _ _ underlying26 rfl sz26 (.tmp _ _ .nil)) rfl rfl
  ·have h:=cond_f hb1 h
   refine ht_skip ?_
   refine pt_then (ht_seq ?_)
   obtain ⟨v2, hv2, h⟩:=zn h
   refine yx hn 1 ?_
   refine ys 0 ⟨lk call184 (ok_strings_CutPrefix _ _ _ hv2)⟩ ?_
   refine ym 4 ?_
   refine yee [50,2,4,5] ?_
   refine ht_seq ?_
   obtain ⟨v3, hv3, h⟩:=zn h
   refine yx hn 1 ?_
   refine ys 0 ⟨lk call185 (ok_strings_CutSuffix _ _ _ hv3)⟩ ?_
   refine ym 2 ?_
   refine yw [4] 2 ?_
   refine yee [50,2,5,4,6] ?_
   refine ht_seq ?_
   obtain ⟨v4, hv4, h⟩:=zn h
   refine yx hn 1 ?_
   refine ys 0 ⟨lk call134 (ok_strings_Cut _ _ _ hv4)⟩ ?_
   refine ym 6 ?_
   refine yee [50,2,5,6,7,8,9] ?_
   refine yxx hn 2 ?_
   refine yS (.agg [vb false,vs v4.1,vs v4.2.1]) 0 ⟨op_build _ _ _ _ [1,1,1] _ _ underlying26 zr26 (fs26 _ underlying26) (.copy _ (.copy _ Src.nil)) rfl rfl rfl⟩ ?_
   refine yS (.box 26 [vb false,vs z0,vs z0]) 1 ⟨oA (op_alloc _ _ zr26)⟩ ?_
   refine yee [50,2,5,6,9,10] ?_
   refine ht_seq ?_
   refine ht_seq ?_
   refine ht_joinS h (fun (s6:Bool)=>[(50,.glob (GL mx)),(2,.box 26 [vb false,vs z0,vs z0]),(10,.box 26 [vb false,vs v4.1,vs v4.2.1]),(47,vb s6)]) ?_ ?_
   ·rintro s6 h
    refine pt_then ?_
    refine ht_cond _ rfl (fun hb10 => ?_) (fun hb10 => ?_)
    ·have h:=cond_t hb10 h
     refine yxx hn 0 ?_
     refine yS (.agg [vb false,vs z0,vs z0]) 0 ⟨op_build _ _ _ _ [1,1,1] _ _ underlying26 zr26 (fs26 _ underlying26) Src.nil rfl rfl rfl⟩ ?_
     refine yk [48,2] [] ?_
     refine yt (2,.box 26 [vb false,vs z0,vs z0]) 1 ⟨op_store_self _ _ _ 48 2 3 sz26 rfl rfl rfl rfl rfl (.eq _ (.eq _ (.eq _ (.nil _)))) rfl⟩ ?_
     refine yee [50,2,3] ?_
     refine ht_ret ?_
     refine pt_pick [1,2] (by kernel_rfl) (es':=[(_,_),(_,_)]) rfl ?_
     refine pt_r_then ?_
     obtain rfl:=zi h
     exact pt_ret hio rfl (.cellA _ _ _ _ underlying26 rfl sz26 (.tmp _ _ .nil)) rfl rfl
    ·have h:=cond_f hb10 h
     refine ht_skip ?_
     refine pt_then ?_
     refine yyy hn 3 [50,2,3] ?_
     refine ht_ret ?_
     refine pt_pick [1,2] (by kernel_rfl) (es':=[(_,_),(_,_)]) rfl ?_
     obtain rfl:=zi h
     exact pt_ret hio rfl (.cellA _ _ _ _ underlying26 rfl sz26 (.tmp _ _ .nil)) rfl rfl
   ·intro u7 h hl8 hr9
    refine cond_some h (fun hg7_2 h => ?_) (fun hg7_2 h => ?_)
    ·refine yx hn 3 ?_
     refine yd hg7_2 12 ?_
     refine ye [50,2,10,47] ?_
     exact hl8 _ (zi h).symm
    ·refine cond_some h (fun hg7_6 h => ?_) (fun hg7_6 h => ?_)
     ·refine yx hn 3 ?_
      refine yd hg7_2 4 ?_
      refine yd hg7_6 8 ?_
      refine ye [50,2,10,47] ?_
      exact hl8 _ (zi h).symm
     ·refine cond_some h (fun hg7_10 h => ?_) (fun hg7_10 h => ?_)
      ·refine yx hn 3 ?_
       refine yd hg7_2 4 ?_
       refine yd hg7_6 4 ?_
       refine yd hg7_10 4 ?_
       refine ye [50,2,10,47] ?_
       exact hl8 _ (zi h).symm
      ·obtain ⟨v5, hv5, h⟩:=zn h
       refine yx hn 3 ?_
       refine yd hg7_2 4 ?_
       refine yd hg7_6 4 ?_
       refine yd hg7_10 1 ?_
       refine ys 2 ⟨lg call162 (ok_path_Check _ _ _ hv5) 50⟩ ?_
       refine ye [50,2,10,47] ?_
       exact hl8 _ (zi h).symm
theorem ok_strconv_Atoi (s:ByteArray) (r:Int×Unit) (h:Sh.strconv_Atoi s=some r):FnOK Tryz.prog 139 [.v (.string s)] (.tup [.v (.int .i64 r.1), .v .nilIface]):=lib_strconv_Atoi (fun s n w h1 h2=>Tryz.strconv_Atoi s n h1 h2 w) s r h
theorem ok_number_Parse (s:ByteArray) (digits:Int) (r:(Int×Bool)) (h:Sh.number_Parse s digits=some r):FnOK Tryz.prog 207 [.v (.string s), .v (.int .i64 digits)] (.tup [.v (.int .i64 r.1), .v (.bool r.2)]):=by
  unfold Sh.number_Parse at h
  refine yO 51 func207 fun g0 hn hio => ?_
  refine yyy hn 2 [0,1] ?_
  refine ht_seq ?_
  refine ht_seq ?_
  refine ht_joinS h (fun (s3:Bool)=>[(0,vs s),(26,vb s3)]) ?_ ?_
  ·rintro s3 h
   refine pt_then ?_
   refine ht_cond _ rfl (fun hb7 => ?_) (fun hb7 => ?_)
   ·have h:=cond_t hb7 h
    refine yyy hn 2 [4,5] ?_
    refine ht_ret ?_
    refine pt_r_then ?_
    obtain rfl:=zi h
    exact pt_ret hio rfl (.tmp _ _ (.tmp _ _ .nil)) rfl rfl
   ·have h:=cond_f hb7 h
    refine ht_skip ?_
    refine pt_then (ht_seq ?_)
    refine yyy hn 3 [0,28,29] ?_
    refine ht_loopS h (fun (s24:Int)=>[(0,vs s),(28,vi (s.size:Int)),(29,vi s24)]) (fun (():Unit)=>[(0,vs s)]) ?_ ?_
    ·rintro ⟨⟩ h
     refine pt_then (ht_seq ?_)
     obtain ⟨v43, hv43, h⟩:=zn h
     refine yx hn 1 ?_
     refine ys 0 ⟨lk call139 (ok_strconv_Atoi _ _ hv43)⟩ ?_
     refine ym 4 ?_
     refine yee [7,8] ?_
     refine ht_seq ?_
     refine wb [[7],[8]] ?_
     refine wN [49] ?_
     refine wS (vb true) [[48],[50]] ⟨op_ifnil _ _ false underlying155 rfl⟩ ?_
     refine wee hn [4,5] ?_
     refine ht_ret ?_
     obtain rfl:=zi h
     exact pt_ret hio rfl (.tmp _ _ (.tmp _ _ .nil)) rfl rfl
    ·rintro u31 hl32 hr33 s24 rr36 h ho34
     refine yyy hn 1 [0,28,29,30] ?_
     refine ht_seq ?_
     refine ht_cond _ rfl (fun hb37 => ?_) (fun hb37 => ?_)
     ·have h:=cond_t hb37 h
      refine ht_skip ?_
      refine pt_then (ht_seq ?_)
      refine ht_block ?_
      refine yyy hn 2 [0,28,29,6] ?_
      refine ht_seq ?_
      refine ht_joinS h (fun (s38:Bool)=>[(0,vs s),(28,vi (s.size:Int)),(29,vi s24),(41,vb s38)]) ?_ ?_
      ·rintro s38 h
       refine pt_then ?_
       refine ht_cond _ rfl (fun hb42 => ?_) (fun hb42 => ?_)
       ·have h:=cond_t hb42 h
        refine yyy hn 2 [4,5] ?_
        refine ht_ret ?_
        refine pt_r_in ?_
        refine pt_r_then ?_
        refine pt_r_then ?_
        refine pt_r_in ?_
        refine pt_r_then ?_
        have h:=hr33 _ (ho34 _ (zi h).symm).symm
        obtain rfl:=zi h
        exact pt_ret hio rfl (.tmp _ _ (.tmp _ _ .nil)) rfl rfl
       ·have h:=cond_f hb42 h
        refine ht_skip ?_
        refine pt_inb ?_
        refine pt_then ?_
        obtain ⟨v16, hv16, h⟩:=zn h
        refine yx hn 0 ?_
        refine ys 0 ⟨lb hv16⟩ ?_
        refine yw [29] 1 ?_
        refine ye [0,28,29] ?_
        exact pt_next _ (zi h).symm rfl
      ·intro u39 h hl40 hr41
       obtain ⟨v9, hv9, h⟩:=zn h
       refine cond_some h (fun hg6_4 h => ?_) (fun hg6_4 h => ?_)
       ·refine yx hn 2 ?_
        refine ys 2 ⟨lh hv9⟩ ?_
        refine yd hg6_4 5 ?_
        refine ye [0,28,29,41] ?_
        exact hl40 _ (zi h).symm
       ·obtain ⟨v10, hv10, h⟩:=zn h
        refine yx hn 2 ?_
        refine ys 2 ⟨lh hv9⟩ ?_
        refine yd hg6_4 2 ?_
        refine ys 2 ⟨lh hv10⟩ ?_
        refine ye [0,28,29,41] ?_
        exact hl40 _ (zi h).symm
     ·have h:=cond_f hb37 h
      refine ht_exit ?_
      refine pt_x_then ?_
      refine pt_x_then ?_
      refine pt_x_in ?_
      refine pt_pick [0] (by kernel_rfl) (es':=[(_,_)]) rfl ?_
      exact hl32 _ (ho34 _ (zi h).symm).symm
  ·intro u4 h hl5 hr6
   refine cond_some h (fun hg1_2 h => ?_) (fun hg1_2 h => ?_)
   ·refine yx hn 3 ?_
    refine yd hg1_2 15 ?_
    refine ye [0,26] ?_
    exact hl5 _ (zi h).symm
   ·obtain ⟨v1, hv1, h⟩:=zn h
    refine cond_some h (fun hg1_9 h => ?_) (fun hg1_9 h => ?_)
    ·refine yx hn 3 ?_
     refine yd hg1_2 3 ?_
     refine yS (vi v1) 3 ⟨(Option.some.inj hv1) ▸ op_min _ _ _ _ rfl rfl⟩ ?_
     refine yd hg1_9 8 ?_
     refine ye [0,26] ?_
     exact hl5 _ (zi h).symm
    ·obtain ⟨v2, hv2, h⟩:=zn h
     refine cond_some h (fun hg1_13 h => ?_) (fun hg1_13 h => ?_)
     ·refine yx hn 3 ?_
      refine yd hg1_2 3 ?_
      refine yS (vi v1) 3 ⟨(Option.some.inj hv1) ▸ op_min _ _ _ _ rfl rfl⟩ ?_
      refine yd hg1_9 1 ?_
      refine ys 2 ⟨lh hv2⟩ ?_
      refine yd hg1_13 4 ?_
      refine ye [0,26] ?_
      exact hl5 _ (zi h).symm
     ·refine yx hn 3 ?_
      refine yd hg1_2 3 ?_
      refine yS (vi v1) 3 ⟨(Option.some.inj hv1) ▸ op_min _ _ _ _ rfl rfl⟩ ?_
      refine yd hg1_9 1 ?_
      refine ys 2 ⟨lh hv2⟩ ?_
      refine yd hg1_13 4 ?_
      refine ye [0,26] ?_
      exact hl5 _ (zi h).symm
theorem ok_verb_oneOf (s:ByteArray) (words:(List ByteArray)) (r:(ByteArray×Bool)) (h:Sh.verb_oneOf s words=some r):FnOK Tryz.prog 208 [.v (.string s), .fl .shr 1 (map Value.string words)] (.tup [.v (.string r.1), .v (.bool r.2)]):=by
  unfold Sh.verb_oneOf at h
  refine yO 19 func208 fun g0 hn hio => ?_
  refine yyy hn 2 [0,1] ?_
  refine ht_seq ?_
  refine yyy hn 3 [0,8,9,10] ?_
  refine ht_loopS h (fun (s10:Int)=>[(0,vs s),(8,.fl .shr 1 (map Value.string words)),(9,vi (words.length:Int)),(10,vi s10)]) (fun (():Unit)=>[]) ?_ ?_
  ·rintro ⟨⟩ h
   refine pt_then ?_
   refine yyy hn 2 [4,5] ?_
   refine ht_ret ?_
   obtain rfl:=zi h
   exact pt_ret hio rfl (.tmp _ _ (.tmp _ _ .nil)) rfl rfl
  ·rintro u13 hl14 hr15 s10 rr18 h ho16
   refine yyy hn 1 [0,8,9,10,11] ?_
   refine ht_seq ?_
   refine ht_cond _ rfl (fun hb19 => ?_) (fun hb19 => ?_)
   ·have h:=cond_t hb19 h
    refine ht_skip ?_
    refine pt_then (ht_seq ?_)
    refine ht_block ?_
    refine ht_seq ?_
    obtain ⟨v2, hv2, h⟩:=zn h
    obtain ⟨v3, hv3, h⟩:=zn h
    refine yx hn 0 ?_
    refine ys 0 ⟨li hv2⟩ ?_
    refine ys 1 ⟨ll hv3⟩ ?_
    refine yee [0,8,9,10,7] ?_
    refine ht_seq ?_
    obtain ⟨v4, hv4, h⟩:=zn h
    refine yx hn 2 ?_
    refine ys 0 ⟨lk call136 (ok_verb_equalFold _ _ _ hv4)⟩ ?_
    refine yee [0,8,9,10,7,16] ?_
    refine ht_cond _ rfl (fun hb20 => ?_) (fun hb20 => ?_)
    ·have h:=cond_t hb20 h
     refine yyy hn 3 [4,5] ?_
     refine ht_ret ?_
     refine pt_r_in ?_
     refine pt_r_then ?_
     refine pt_r_then ?_
     refine pt_r_in ?_
     refine pt_r_then ?_
     have h:=hr15 _ (ho16 _ (zi h).symm).symm
     obtain rfl:=zi h
     exact pt_ret hio rfl (.tmp _ _ (.tmp _ _ .nil)) rfl rfl
    ·have h:=cond_f hb20 h
     refine ht_skip ?_
     refine pt_inb ?_
     refine pt_then ?_
     obtain ⟨v6, hv6, h⟩:=zn h
     refine yx hn 0 ?_
     refine ys 0 ⟨lb hv6⟩ ?_
     refine yw [10] 1 ?_
     refine ye [0,8,9,10] ?_
     exact pt_next _ (zi h).symm rfl
   ·have h:=cond_f hb19 h
    refine ht_exit ?_
    refine pt_x_then ?_
    refine pt_x_then ?_
    refine pt_x_in ?_
    refine pt_pick [] (by kernel_rfl) (es':=[]) rfl ?_
    exact hl14 _ (ho16 _ (zi h).symm).symm
theorem ok_verb_parameter (kind:Int) (key:ByteArray) (val:ByteArray) (r:(T_Param×Bool)) (h:Sh.verb_parameter kind key val=some r):FnOK Tryz.prog 186 [.v (.int .i64 kind), .v (.string key), .v (.string val)] (.tup [.agg [.v (.string r.1.Key), .v (.string r.1.Val)], .v (.bool r.2)]):=by
  unfold Sh.verb_parameter at h
  refine yO 62 func186 fun g0 hn hio => ?_
  refine yxx hn 0 ?_
  refine yS (.box 181 [vs z0,vs z0]) 1 ⟨oA (op_alloc _ _ zr181)⟩ ?_
  refine yee [0,1,2,6] ?_
  refine ht_seq ?_
  refine ht_block ?_
  refine ht_seq ?_
  refine ht_joinS h (fun (s1:Bool)=>[(0,vi kind),(1,vs key),(2,vs val),(6,.box 181 [vs z0,vs z0]),(14,vb s1)]) ?_ ?_
  ·rintro s1 h
   refine pt_then ?_
   refine ht_cond _ rfl (fun hb5 => ?_) (fun hb5 => ?_)
   ·have h:=cond_t hb5 h
    refine ht_seq ?_
    obtain ⟨v6, hv6, h⟩:=zn h
    refine yx hn 1 ?_
    refine ys 0 ⟨lk call207 (ok_number_Parse _ _ _ hv6)⟩ ?_
    refine ym 4 ?_
    refine yee [2,6,9] ?_
    refine yxx hn 1 ?_
    refine yS (.agg [vs (⟨#[83,73,90,69]⟩:ByteArray),vs val]) 3 ⟨op_build _ _ _ _ [1,1] _ _ underlying181 zr181 (fs181 _ underlying181) (.copy _ (.copy _ Src.nil)) rfl rfl rfl⟩ ?_
    refine yee [6,7] ?_
    refine ht_ret ?_
    refine pt_r_in ?_
    refine pt_r_then ?_
    obtain rfl:=zi h
    exact pt_ret hio rfl (.cellA _ _ _ _ underlying181 rfl sz181 (.tmp _ _ .nil)) rfl rfl
   ·have h:=cond_f hb5 h
    refine ht_seq ?_
    refine ht_joinS h (fun (s7:Bool)=>[(0,vi kind),(1,vs key),(2,vs val),(6,.box 181 [vs z0,vs z0]),(29,vb s7)]) ?_ ?_
    ·rintro s7 h
     refine pt_then ?_
     refine ht_cond _ rfl (fun hb11 => ?_) (fun hb11 => ?_)
     ·have h:=cond_t hb11 h
      refine ht_seq ?_
      obtain ⟨v12, hv12, h⟩:=zn h
      refine yx hn 1 ?_
      refine yS (.fl (.own 9) 1 (map Value.string ([(⟨#[70,85,76,76]⟩:ByteArray),(⟨#[72,68,82,83]⟩:ByteArray)]))) 0 ⟨op_buildSlice _ _ 1 (.string ByteArray.empty) (map Value.string ([(⟨#[70,85,76,76]⟩:ByteArray),(⟨#[72,68,82,83]⟩:ByteArray)])) [(0,.string (⟨#[70,85,76,76]⟩:ByteArray)),(1,.string (⟨#[72,68,82,83]⟩:ByteArray))] underlying49 sz9 zr9 (fun _ V w o a hv hes=>by simp only [List.map_toArray,List.map_cons,List.map_nil]; try rfl) (litfill (by simp [Instr.fill,Value.cells]; rfl) (by simp [List.range,List.range.loop] <;> rfl)) (by simp [Value.oneCell']) rfl (by decide) (by decide) (by decide)⟩ ?_
      refine ys 0 ⟨lk call208 (ok_verb_oneOf _ _ _ hv12)⟩ ?_
      refine ym 4 ?_
      refine yee [6,10,11] ?_
      refine yxx hn 1 ?_
      refine yS (.agg [vs (⟨#[82,69,84]⟩:ByteArray),vs v12.1]) 3 ⟨op_build _ _ _ _ [1,1] _ _ underlying181 zr181 (fs181 _ underlying181) (.copy _ (.copy _ Src.nil)) rfl rfl rfl⟩ ?_
      refine yee [6,7] ?_
      refine ht_ret ?_
      refine pt_r_in ?_
      refine pt_r_then ?_
      obtain rfl:=zi h
      exact pt_ret hio rfl (.cellA _ _ _ _ underlying181 rfl sz181 (.tmp _ _ .nil)) rfl rfl
     ·have h:=cond_f hb11 h
      refine ht_seq ?_
      refine ht_joinS h (fun (s13:Bool)=>[(2,vs val),(6,.box 181 [vs z0,vs z0]),(45,vb s13)]) ?_ ?_
      ·rintro s13 h
       refine pt_then ?_
       refine ht_cond _ rfl (fun hb17 => ?_) (fun hb17 => ?_)
       ·have h:=cond_t hb17 h
        refine ht_seq ?_
        obtain ⟨v18, hv18, h⟩:=zn h
        refine yx hn 1 ?_
        refine yS (.fl (.own 9) 1 (map Value.string ([(⟨#[78,69,86,69,82]⟩:ByteArray),(⟨#[70,65,73,76,85,82,69]⟩:ByteArray)]))) 0 ⟨op_buildSlice _ _ 1 (.string ByteArray.empty) (map Value.string ([(⟨#[78,69,86,69,82]⟩:ByteArray),(⟨#[70,65,73,76,85,82,69]⟩:ByteArray)])) [(0,.string (⟨#[78,69,86,69,82]⟩:ByteArray)),(1,.string (⟨#[70,65,73,76,85,82,69]⟩:ByteArray))] underlying49 sz9 zr9 (fun _ V w o a hv hes=>by simp only [List.map_toArray,List.map_cons,List.map_nil]; try rfl) (litfill (by simp [Instr.fill,Value.cells]; rfl) (by simp [List.range,List.range.loop] <;> rfl)) (by simp [Value.oneCell']) rfl (by decide) (by decide) (by decide)⟩ ?_
        refine ys 0 ⟨lk call208 (ok_verb_oneOf _ _ _ hv18)⟩ ?_
        refine ym 4 ?_
        refine yee [6,12,13] ?_
        refine yxx hn 1 ?_
        refine yS (.agg [vs (⟨#[78,79,84,73,70,89]⟩:ByteArray),vs v18.1]) 3 ⟨op_build _ _ _ _ [1,1] _ _ underlying181 zr181 (fs181 _ underlying181) (.copy _ (.copy _ Src.nil)) rfl rfl rfl⟩ ?_
        refine yee [6,7] ?_
        refine ht_ret ?_
        refine pt_r_in ?_
        refine pt_r_then ?_
        obtain rfl:=zi h
        exact pt_ret hio rfl (.cellA _ _ _ _ underlying181 rfl sz181 (.tmp _ _ .nil)) rfl rfl
       ·have h:=cond_f hb17 h
        refine ht_skip ?_
        refine pt_inb ?_
        refine pt_then ?_
        refine yxx hn 0 ?_
        refine yS (.agg [vs z0,vs z0]) 0 ⟨op_build _ _ _ _ [1,1] _ _ underlying181 zr181 (fs181 _ underlying181) Src.nil rfl rfl rfl⟩ ?_
        refine yk [61,6] [] ?_
        refine yt (6,.box 181 [vs z0,vs z0]) 1 ⟨op_store_self _ _ _ 61 6 2 sz181 rfl rfl rfl rfl rfl (.eq _ (.eq _ (.nil _))) rfl⟩ ?_
        refine yee [6,7] ?_
        refine ht_ret ?_
        obtain rfl:=zi h
        exact pt_ret hio rfl (.cellA _ _ _ _ underlying181 rfl sz181 (.tmp _ _ .nil)) rfl rfl
      ·intro u14 h hl15 hr16
       refine cond_some h (fun hg7_2 h => ?_) (fun hg7_2 h => ?_)
       ·refine yx hn 3 ?_
        refine yd hg7_2 4 ?_
        refine ye [2,6,45] ?_
        exact hl15 _ (zi h).symm
       ·refine yx hn 3 ?_
        refine yd hg7_2 4 ?_
        refine ye [2,6,45] ?_
        exact hl15 _ (zi h).symm
    ·intro u8 h hl9 hr10
     refine cond_some h (fun hg4_2 h => ?_) (fun hg4_2 h => ?_)
     ·refine yx hn 3 ?_
      refine yd hg4_2 4 ?_
      refine ye [0,1,2,6,29] ?_
      exact hl9 _ (zi h).symm
     ·refine yx hn 3 ?_
      refine yd hg4_2 4 ?_
      refine ye [0,1,2,6,29] ?_
      exact hl9 _ (zi h).symm
  ·intro u2 h hl3 hr4
   refine cond_some h (fun hg1_2 h => ?_) (fun hg1_2 h => ?_)
   ·refine yx hn 3 ?_
    refine yd hg1_2 4 ?_
    refine ye [0,1,2,6,14] ?_
    exact hl3 _ (zi h).symm
   ·refine yx hn 3 ?_
    refine yd hg1_2 4 ?_
    refine ye [0,1,2,6,14] ?_
    exact hl3 _ (zi h).symm
theorem ok_verb_parameters_1_cap (bx:Nat) (q:T_Param) (cap:T_Param) (r:Bool) (h:Sh.verb_parameters_1_cap q cap=some r):FnG Tryz.prog [(bx, [.string cap.Key, .string cap.Val])] 188 [.agg [.v (.string q.Key), .v (.string q.Val)], .v (.pointer (some ⟨bx, 0, none⟩))] (.v (.bool r)):=by
  unfold Sh.verb_parameters_1_cap at h
  refine yG 9 func188 fun g0 hn hio => ?_
  refine yyy hn 2 [1,9,2] ?_
  refine yxx hn 2 ?_
  refine yS (.v (.pointer (some ⟨bx,0,none⟩))) 0 ⟨op_fieldAddr_v _ _ _ _ bx 0 _ underlying181 rfl sz9 rfl rfl⟩ ?_
  refine yS (vs cap.Key) 2 ⟨op_load_glob _ _ 9 bx 0 _ _ underlying9 rfl rfl rfl (.head _) rfl⟩ ?_
  refine yee [9,3] ?_
  refine ht_ret ?_
  refine pt_pick [1] (by kernel_rfl) (es':=[(_,_)]) rfl ?_
  obtain rfl:=zi h
  exact pt_ret hio rfl (.tmp _ _ .nil) rfl rfl
theorem ok_slices_IndexFunc_api_Param_api_Param_of_verb_parameters_1 (bx:Nat) (s:(List T_Param)) (cap:T_Param) (r:Int) (h:Sh.slices_IndexFunc_api_Param_api_Param_of_verb_parameters_1 s cap=some r):FnG Tryz.prog [(bx, [.string cap.Key, .string cap.Val])] 209 [.fl .shr 2 (flatten (map T_Param.enc s)), .v (.func (.func 188) #[] #[.pointer (some ⟨bx, 0, none⟩)])] (.v (.int .i64 r)):=by
  unfold Sh.slices_IndexFunc_api_Param_api_Param_of_verb_parameters_1 at h
  refine yG 19 func209 fun g0 hn hio => ?_
  refine yyy hn 1 [0,1,19] ?_
  refine ht_seq ?_
  refine yyy hn 3 [0,1,19,7,8] ?_
  refine ht_loopS h (fun (s10:Int)=>[(0,.fl .shr 2 (flatten (map T_Param.enc s))),(1,.v (.func (.func 188) #[] #[.pointer (some ⟨bx,0,none⟩)])),(19,.glob [(bx,[.string cap.Key,.string cap.Val])]),(7,vi (s.length:Int)),(8,vi s10)]) (fun (():Unit)=>[(19,.glob [(bx,[.string cap.Key,.string cap.Val])])]) ?_ ?_
  ·rintro ⟨⟩ h
   refine pt_then ?_
   refine yyy hn 1 [19,4] ?_
   refine ht_ret ?_
   refine pt_pick [1] (by kernel_rfl) (es':=[(_,_)]) rfl ?_
   obtain rfl:=zi h
   exact pt_ret hio rfl (.tmp _ _ .nil) rfl rfl
  ·rintro u13 hl14 hr15 s10 rr18 h ho16
   refine yyy hn 1 [0,1,19,7,8,9] ?_
   refine ht_seq ?_
   refine ht_cond _ rfl (fun hb19 => ?_) (fun hb19 => ?_)
   ·have h:=cond_t hb19 h
    refine ht_skip ?_
    refine pt_then (ht_seq ?_)
    refine ht_block ?_
    refine yyy hn 2 [0,1,19,7,8,5] ?_
    refine ht_seq ?_
    obtain ⟨v2, hv2, h⟩:=zn h
    obtain ⟨v3, hv3, h⟩:=zn h
    obtain ⟨v4, hv4, h⟩:=zn h
    refine yx hn 3 ?_
    refine ys 0 ⟨lj hv2⟩ ?_
    refine yS (.agg [vs v3.Key,vs v3.Val]) 0 ⟨op_load_eA _ _ _ _ _ _ _ underlying181 rfl sz181 rfl rfl (flat_get T_Param.len hv3) rfl (by decide)⟩ ?_
    refine yS (vb v4) 0 ⟨op_callV _ _ 19 188 (.pointer (some ⟨bx,0,none⟩)) _ _ rfl call188 rfl rfl (fun _ h=>h) (ok_verb_parameters_1_cap bx v3 cap _ hv4) rfl rfl⟩ ?_
    refine yee [0,1,19,7,8,5,16] ?_
    refine ht_cond _ rfl (fun hb20 => ?_) (fun hb20 => ?_)
    ·have h:=cond_t hb20 h
     refine yyy hn 2 [19,4] ?_
     refine ht_ret ?_
     refine pt_pick [1] (by kernel_rfl) (es':=[(_,_)]) rfl ?_
     refine pt_r_in ?_
     refine pt_r_then ?_
     refine pt_r_then ?_
     refine pt_r_in ?_
     refine pt_r_then ?_
     have h:=hr15 _ (ho16 _ (zi h).symm).symm
     obtain rfl:=zi h
     exact pt_ret hio rfl (.tmp _ _ .nil) rfl rfl
    ·have h:=cond_f hb20 h
     refine ht_skip ?_
     refine pt_inb ?_
     refine pt_then ?_
     obtain ⟨v6, hv6, h⟩:=zn h
     refine yx hn 0 ?_
     refine ys 0 ⟨lb hv6⟩ ?_
     refine yw [8] 1 ?_
     refine ye [0,1,19,7,8] ?_
     exact pt_next _ (zi h).symm rfl
   ·have h:=cond_f hb19 h
    refine ht_exit ?_
    refine pt_x_then ?_
    refine pt_x_then ?_
    refine pt_x_in ?_
    refine pt_pick [2] (by kernel_rfl) (es':=[(_,_)]) rfl ?_
    exact hl14 _ (ho16 _ (zi h).symm).symm
theorem ok_slices_ContainsFunc_api_Param_api_Param_of_verb_parameters_1 (bx:Nat) (s:(List T_Param)) (cap:T_Param) (r:Bool) (h:Sh.slices_ContainsFunc_api_Param_api_Param_of_verb_parameters_1 s cap=some r):FnG Tryz.prog [(bx, [.string cap.Key, .string cap.Val])] 187 [.fl .shr 2 (flatten (map T_Param.enc s)), .v (.func (.func 188) #[] #[.pointer (some ⟨bx, 0, none⟩)])] (.v (.bool r)):=by
  unfold Sh.slices_ContainsFunc_api_Param_api_Param_of_verb_parameters_1 at h
  refine yG 9 func187 fun g0 hn hio => ?_
  refine yyy hn 1 [0,1,9] ?_
  refine ht_seq ?_
  obtain ⟨v1, hv1, h⟩:=zn h
  refine yx hn 2 ?_
  refine ys 2 ⟨lg call209 (ok_slices_IndexFunc_api_Param_api_Param_of_verb_parameters_1 _ _ _ _ hv1) 9⟩ ?_
  refine yee [9,4] ?_
  refine ht_ret ?_
  refine pt_pick [1] (by kernel_rfl) (es':=[(_,_)]) rfl ?_
  obtain rfl:=zi h
  exact pt_ret hio rfl (.tmp _ _ .nil) rfl rfl
end Go.Proofs.YtjnnkhmhjcjhdaaGreatDoor
