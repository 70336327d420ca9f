/-
  The model's runs are what is told in Lean.
-/
import Derived.Test.YtofbofdggabfiaaGreatDoorProg
import Derived.KernelRfl
import Derived.Test.YtofbofdggabfiaaGreatDoorShelf
import Derived.Test.YtofbofdggabfiaaGreatDoorB3
import Derived.Test.YtofbofdggabfiaaGreatDoorC1
import Derived.Test.YtofbofdggabfiaaGreatDoorOkc4
set_option linter.unusedVariables false
set_option linter.unusedSimpArgs false
set_option maxHeartbeats 1000000
namespace Go.Proofs.YtofbofdggabfiaaGreatDoor
open Go.Abs Go.Abs.Sh Tryz
open List (map flatten)
open Value (int)
theorem ok_wherryref18_has (l:(List Int)) (n:Int) (r:Bool) (h:Sh.wherryref18_has l n=some r):FnOK Tryz.prog 46 [.fl .shr 1 (map (int .i64) l), .v (.int .i64 n)] (.v (.bool r)):=by
  unfold Sh.wherryref18_has at h
  refine yO 18 func46 fun g0 hn hio => ?_
  refine yyy hn 1 [0,1] ?_
  refine ht_seq ?_
  refine yyy hn 1 [0,1,5] ?_
  refine ht_loopS h (fun (s9:Int)=>[(0,fi l),(1,vi n),(5,vi s9)]) (fun (():Unit)=>[]) ?_ ?_
  ·rintro ⟨⟩ h
   refine pt_then ?_
   refine yyy hn 1 [4] ?_
   refine ht_ret ?_
   obtain rfl:=zi h
   exact pt_ret hio rfl (.tmp _ _ .nil) rfl rfl
  ·rintro u12 hl13 hr14 s9 rr17 h ho15
   refine ht_seq ?_
   refine yyy hn 4 [0,1,5,9] ?_
   refine ht_cond _ rfl (fun hb18 => ?_) (fun hb18 => ?_)
   ·have h:=cond_t hb18 h
    refine ht_skip ?_
    refine pt_then (ht_seq ?_)
    refine ht_block ?_
    refine ht_seq ?_
    obtain ⟨v2, hv2, h⟩:=zn h
    obtain ⟨v3, hv3, h⟩:=zn h
    refine yx hn 2 ?_
    refine ys 0 ⟨li hv2⟩ ?_
    refine ys 2 ⟨ll hv3⟩ ?_
    refine yee [0,1,5,17] ?_
    refine ht_cond _ rfl (fun hb19 => ?_) (fun hb19 => ?_)
    ·have h:=cond_t hb19 h
     refine yyy hn 1 [4] ?_
     refine ht_ret ?_
     refine pt_r_in ?_
     refine pt_r_then ?_
     refine pt_r_then ?_
     refine pt_r_in ?_
     refine pt_r_then ?_
     have h:=hr14 _ (ho15 _ (zi h).symm).symm
     obtain rfl:=zi h
     exact pt_ret hio rfl (.tmp _ _ .nil) rfl rfl
    ·have h:=cond_f hb19 h
     refine ht_skip ?_
     refine pt_inb ?_
     refine pt_then ?_
     obtain ⟨v5, hv5, h⟩:=zn h
     refine yx hn 1 ?_
     refine ys 0 ⟨lb hv5⟩ ?_
     refine yw [5] 1 ?_
     refine ye [0,1,5] ?_
     exact pt_next _ (zi h).symm rfl
   ·have h:=cond_f hb18 h
    refine ht_exit ?_
    refine pt_x_then ?_
    refine pt_x_then ?_
    refine pt_x_in ?_
    refine pt_pick [] (by kernel_rfl) (es':=[]) rfl ?_
    exact hl13 _ (ho15 _ (zi h).symm).symm
theorem ok_wherrykeep_Paths (a:(List T_Path)) (b:(List T_Path)) (r:Bool) (h:Sh.wherrykeep_Paths a b=some r):FnOK Tryz.prog 16 [.fl .shr 3 (flatten (map T_Path.enc a)), .fl .shr 3 (flatten (map T_Path.enc b))] (.v (.bool r)):=by
  unfold Sh.wherrykeep_Paths at h
  refine yO 27 func16 fun g0 hn hio => ?_
  refine yyy hn 1 [0,1] ?_
  refine ht_seq ?_
  refine yyy hn 5 [0,1,10] ?_
  refine ht_cond _ rfl (fun hb1 => ?_) (fun hb1 => ?_)
  ·have h:=cond_t hb1 h
   refine yyy hn 1 [4] ?_
   refine ht_ret ?_
   refine pt_r_then ?_
   obtain rfl:=zi h
   exact pt_ret hio rfl (.tmp _ _ .nil) rfl rfl
  ·have h:=cond_f hb1 h
   refine ht_skip ?_
   refine pt_then (ht_seq ?_)
   refine yyy hn 1 [0,1,5] ?_
   refine ht_loopS h (fun (s13:Int)=>[(0,.fl .shr 3 (flatten (map T_Path.enc a))),(1,.fl .shr 3 (flatten (map T_Path.enc b))),(5,vi s13)]) (fun (():Unit)=>[]) ?_ ?_
   ·rintro ⟨⟩ h
    refine pt_then ?_
    refine yyy hn 1 [4] ?_
    refine ht_ret ?_
    obtain rfl:=zi h
    exact pt_ret hio rfl (.tmp _ _ .nil) rfl rfl
   ·rintro u16 hl17 hr18 s13 rr21 h ho19
    refine ht_seq ?_
    refine yyy hn 4 [0,1,5,14] ?_
    refine ht_cond _ rfl (fun hb22 => ?_) (fun hb22 => ?_)
    ·have h:=cond_t hb22 h
     refine ht_skip ?_
     refine pt_then (ht_seq ?_)
     refine ht_block ?_
     refine ht_seq ?_
     obtain ⟨v3, hv3, h⟩:=zn h
     obtain ⟨v4, hv4, h⟩:=zn h
     obtain ⟨v5, hv5, h⟩:=zn h
     obtain ⟨v6, hv6, h⟩:=zn h
     obtain ⟨v7, hv7, h⟩:=zn h
     refine wb [[0],[5]] ?_
     refine wN [17,18] ?_
     refine wo [] ⟨lj hv3⟩ ?_
     refine wN [19,17] ?_
     refine wS (.agg [vb v4.Null,vs v4.Local,vs v4.Domain]) [[1],[5]] ⟨op_load_eA _ _ _ _ _ _ _ underlying24 rfl sz24 rfl rfl (flat_get T_Path.len hv4) rfl (by decide)⟩ ?_
     refine wN [21,22] ?_
     refine wo [] ⟨lj hv5⟩ ?_
     refine wN [23,21] ?_
     refine wS (.agg [vb v6.Null,vs v6.Local,vs v6.Domain]) [] ⟨op_load_eA _ _ _ _ _ _ _ underlying24 rfl sz24 rfl rfl (flat_get T_Path.len hv6) rfl (by decide)⟩ ?_
     refine wN [20,24] ?_
     refine wo [[25]] ⟨lk call26 (ok_wherrykeep_Path _ _ _ hv7)⟩ ?_
     refine wee hn [0,1,5,26] ?_
     refine ht_cond _ rfl (fun hb23 => ?_) (fun hb23 => ?_)
     ·have h:=cond_t hb23 h
      refine yyy hn 1 [4] ?_
      refine ht_ret ?_
      refine pt_r_in ?_
      refine pt_r_then ?_
      refine pt_r_then ?_
      refine pt_r_in ?_
      refine pt_r_then ?_
      have h:=hr18 _ (ho19 _ (zi h).symm).symm
      obtain rfl:=zi h
      exact pt_ret hio rfl (.tmp _ _ .nil) rfl rfl
     ·have h:=cond_f hb23 h
      refine ht_skip ?_
      refine pt_inb ?_
      refine pt_then ?_
      obtain ⟨v9, hv9, h⟩:=zn h
      refine yx hn 1 ?_
      refine ys 0 ⟨lb hv9⟩ ?_
      refine yw [5] 1 ?_
      refine ye [0,1,5] ?_
      exact pt_next _ (zi h).symm rfl
    ·have h:=cond_f hb22 h
     refine ht_exit ?_
     refine pt_x_then ?_
     refine pt_x_then ?_
     refine pt_x_in ?_
     refine pt_pick [] (by kernel_rfl) (es':=[]) rfl ?_
     exact hl17 _ (ho19 _ (zi h).symm).symm
theorem ok_wherrykeep_Mail (a:T_Mail) (b:T_Mail) (r:Bool) (h:Sh.wherrykeep_Mail a b=some r):FnOK Tryz.prog 63 [.agg [.v (.bool a.From.Null), .v (.string a.From.Local), .v (.string a.From.Domain), .fl .shr 3 (flatten (map T_Path.enc a.To)), .fl .shr 1 (map (int .u8) a.Body), .v (.bool a.Quiet), .v (.string a.Helo), .v (.int .i64 a.At)], .agg [.v (.bool b.From.Null), .v (.string b.From.Local), .v (.string b.From.Domain), .fl .shr 3 (flatten (map T_Path.enc b.To)), .fl .shr 1 (map (int .u8) b.Body), .v (.bool b.Quiet), .v (.string b.Helo), .v (.int .i64 b.At)]] (.v (.bool r)):=by
  unfold Sh.wherrykeep_Mail at h
  refine yO 45 func63 fun g0 hn hio => ?_
  refine yyy hn 3 [2,3] ?_
  refine ht_seq ?_
  refine ht_joinS h (fun (s5:Bool)=>[(4,vb s5)]) ?_ ?_
  ·rintro s5 h
   refine pt_then (ht_ret ?_)
   obtain rfl:=zi h
   exact pt_ret hio rfl (.tmp _ _ .nil) rfl rfl
  ·intro u6 h hl7 hr8
   obtain ⟨v1, hv1, h⟩:=zn h
   refine cond_some h (fun hg1_5 h => ?_) (fun hg1_5 h => ?_)
   ·obtain ⟨v2, hv2, h⟩:=zn h
    refine cond_some h (fun hg1_12 h => ?_) (fun hg1_12 h => ?_)
    ·obtain ⟨v3, hv3, h⟩:=zn h
     refine cond_some h (fun hg1_19 h => ?_) (fun hg1_19 h => ?_)
     ·obtain ⟨v4, hv4, h⟩:=zn h
      refine cond_some h (fun hg1_26 h => ?_) (fun hg1_26 h => ?_)
      ·refine cond_some h (fun hg1_33 h => ?_) (fun hg1_33 h => ?_)
       ·refine yx hn 4 ?_
        refine ys 1 ⟨lk call26 (ok_wherrykeep_Path _ _ _ hv1)⟩ ?_
        refine yd hg1_5 4 ?_
        refine ys 2 ⟨lk call16 (ok_wherrykeep_Paths _ _ _ hv2)⟩ ?_
        refine yd hg1_12 4 ?_
        refine ys 2 ⟨lk call27 (ok_wherrykeep_Bytes _ _ _ hv3)⟩ ?_
        refine yd hg1_19 4 ?_
        refine yS (vb (a.Quiet==b.Quiet)) 2 ⟨op_beq _ _ _ _ underlying4 rfl rfl⟩ ?_
        refine yd hg1_26 7 ?_
        refine yd hg1_33 7 ?_
        refine ye [4] ?_
        exact hl7 _ (zi h).symm
       ·refine yx hn 4 ?_
        refine ys 1 ⟨lk call26 (ok_wherrykeep_Path _ _ _ hv1)⟩ ?_
        refine yd hg1_5 4 ?_
        refine ys 2 ⟨lk call16 (ok_wherrykeep_Paths _ _ _ hv2)⟩ ?_
        refine yd hg1_12 4 ?_
        refine ys 2 ⟨lk call27 (ok_wherrykeep_Bytes _ _ _ hv3)⟩ ?_
        refine yd hg1_19 4 ?_
        refine yS (vb (a.Quiet==b.Quiet)) 2 ⟨op_beq _ _ _ _ underlying4 rfl rfl⟩ ?_
        refine yd hg1_26 7 ?_
        refine yd hg1_33 7 ?_
        refine ye [4] ?_
        exact hl7 _ (zi h).symm
      ·refine yx hn 4 ?_
       refine ys 1 ⟨lk call26 (ok_wherrykeep_Path _ _ _ hv1)⟩ ?_
       refine yd hg1_5 4 ?_
       refine ys 2 ⟨lk call16 (ok_wherrykeep_Paths _ _ _ hv2)⟩ ?_
       refine yd hg1_12 4 ?_
       refine ys 2 ⟨lk call27 (ok_wherrykeep_Bytes _ _ _ hv3)⟩ ?_
       refine yd hg1_19 4 ?_
       refine yS (vb (a.Quiet==b.Quiet)) 2 ⟨op_beq _ _ _ _ underlying4 rfl rfl⟩ ?_
       refine yd hg1_26 14 ?_
       refine ye [4] ?_
       exact hl7 _ (zi h).symm
     ·refine yx hn 4 ?_
      refine ys 1 ⟨lk call26 (ok_wherrykeep_Path _ _ _ hv1)⟩ ?_
      refine yd hg1_5 4 ?_
      refine ys 2 ⟨lk call16 (ok_wherrykeep_Paths _ _ _ hv2)⟩ ?_
      refine yd hg1_12 4 ?_
      refine ys 2 ⟨lk call27 (ok_wherrykeep_Bytes _ _ _ hv3)⟩ ?_
      refine yd hg1_19 21 ?_
      refine ye [4] ?_
      exact hl7 _ (zi h).symm
    ·refine yx hn 4 ?_
     refine ys 1 ⟨lk call26 (ok_wherrykeep_Path _ _ _ hv1)⟩ ?_
     refine yd hg1_5 4 ?_
     refine ys 2 ⟨lk call16 (ok_wherrykeep_Paths _ _ _ hv2)⟩ ?_
     refine yd hg1_12 28 ?_
     refine ye [4] ?_
     exact hl7 _ (zi h).symm
   ·refine yx hn 4 ?_
    refine ys 1 ⟨lk call26 (ok_wherrykeep_Path _ _ _ hv1)⟩ ?_
    refine yd hg1_5 35 ?_
    refine ye [4] ?_
    exact hl7 _ (zi h).symm
theorem ok_wherrykeep_Ints (a:(List Int)) (b:(List Int)) (r:Bool) (h:Sh.wherrykeep_Ints a b=some r):FnOK Tryz.prog 64 [.fl .shr 1 (map (int .i64) a), .fl .shr 1 (map (int .i64) b)] (.v (.bool r)):=by
  unfold Sh.wherrykeep_Ints at h
  refine yO 26 func64 fun g0 hn hio => ?_
  refine yyy hn 1 [0,1] ?_
  refine ht_seq ?_
  refine yyy hn 5 [0,1,10] ?_
  refine ht_cond _ rfl (fun hb1 => ?_) (fun hb1 => ?_)
  ·have h:=cond_t hb1 h
   refine yyy hn 1 [4] ?_
   refine ht_ret ?_
   refine pt_r_then ?_
   obtain rfl:=zi h
   exact pt_ret hio rfl (.tmp _ _ .nil) rfl rfl
  ·have h:=cond_f hb1 h
   refine ht_skip ?_
   refine pt_then (ht_seq ?_)
   refine yyy hn 1 [0,1,5] ?_
   refine ht_loopS h (fun (s12:Int)=>[(0,fi a),(1,fi b),(5,vi s12)]) (fun (():Unit)=>[]) ?_ ?_
   ·rintro ⟨⟩ h
    refine pt_then ?_
    refine yyy hn 1 [4] ?_
    refine ht_ret ?_
    obtain rfl:=zi h
    exact pt_ret hio rfl (.tmp _ _ .nil) rfl rfl
   ·rintro u15 hl16 hr17 s12 rr20 h ho18
    refine ht_seq ?_
    refine yyy hn 4 [0,1,5,14] ?_
    refine ht_cond _ rfl (fun hb21 => ?_) (fun hb21 => ?_)
    ·have h:=cond_t hb21 h
     refine ht_skip ?_
     refine pt_then (ht_seq ?_)
     refine ht_block ?_
     refine ht_seq ?_
     obtain ⟨v3, hv3, h⟩:=zn h
     obtain ⟨v4, hv4, h⟩:=zn h
     obtain ⟨v5, hv5, h⟩:=zn h
     obtain ⟨v6, hv6, h⟩:=zn h
     refine wb [[0],[5]] ?_
     refine wN [17,18] ?_
     refine wo [] ⟨li hv3⟩ ?_
     refine wN [19,17] ?_
     refine wo [[1],[5]] ⟨ll hv4⟩ ?_
     refine wN [21,22] ?_
     refine wo [] ⟨li hv5⟩ ?_
     refine wN [23,21] ?_
     refine wo [[20,24]] ⟨ll hv6⟩ ?_
     refine wee hn [0,1,5,25] ?_
     refine ht_cond _ rfl (fun hb22 => ?_) (fun hb22 => ?_)
     ·have h:=cond_t hb22 h
      refine yyy hn 1 [4] ?_
      refine ht_ret ?_
      refine pt_r_in ?_
      refine pt_r_then ?_
      refine pt_r_then ?_
      refine pt_r_in ?_
      refine pt_r_then ?_
      have h:=hr17 _ (ho18 _ (zi h).symm).symm
      obtain rfl:=zi h
      exact pt_ret hio rfl (.tmp _ _ .nil) rfl rfl
     ·have h:=cond_f hb22 h
      refine ht_skip ?_
      refine pt_inb ?_
      refine pt_then ?_
      obtain ⟨v8, hv8, h⟩:=zn h
      refine yx hn 1 ?_
      refine ys 0 ⟨lb hv8⟩ ?_
      refine yw [5] 1 ?_
      refine ye [0,1,5] ?_
      exact pt_next _ (zi h).symm rfl
    ·have h:=cond_f hb21 h
     refine ht_exit ?_
     refine pt_x_then ?_
     refine pt_x_then ?_
     refine pt_x_in ?_
     refine pt_pick [] (by kernel_rfl) (es':=[]) rfl ?_
     exact hl16 _ (ho18 _ (zi h).symm).symm
theorem ok_wherrykeep_Rec (a:T_Rec) (b:T_Rec) (r:Bool) (h:Sh.wherrykeep_Rec a b=some r):FnOK Tryz.prog 47 [.agg [.v (.int .i64 a.Kind), .v (.bool a.Mail.From.Null), .v (.string a.Mail.From.Local), .v (.string a.Mail.From.Domain), .fl .shr 3 (flatten (map T_Path.enc a.Mail.To)), .fl .shr 1 (map (int .u8) a.Mail.Body), .v (.bool a.Mail.Quiet), .v (.string a.Mail.Helo), .v (.int .i64 a.Mail.At), .v (.int .i64 a.Id), .fl .shr 1 (map (int .i64) a.Ids), .v (.int .i64 a.Origin), .v (.int .i64 a.Number), .v (.int .i64 a.Offset), .fl .shr 1 (map (int .u8) a.Data)], .agg [.v (.int .i64 b.Kind), .v (.bool b.Mail.From.Null), .v (.string b.Mail.From.Local), .v (.string b.Mail.From.Domain), .fl .shr 3 (flatten (map T_Path.enc b.Mail.To)), .fl .shr 1 (map (int .u8) b.Mail.Body), .v (.bool b.Mail.Quiet), .v (.string b.Mail.Helo), .v (.int .i64 b.Mail.At), .v (.int .i64 b.Id), .fl .shr 1 (map (int .i64) b.Ids), .v (.int .i64 b.Origin), .v (.int .i64 b.Number), .v (.int .i64 b.Offset), .fl .shr 1 (map (int .u8) b.Data)]] (.v (.bool r)):=by
  unfold Sh.wherrykeep_Rec at h
  refine yO 59 func47 fun g0 hn hio => ?_
  refine yyy hn 3 [2,3] ?_
  refine ht_seq ?_
  refine ht_joinS h (fun (s4:Bool)=>[(4,vb s4)]) ?_ ?_
  ·rintro s4 h
   refine pt_then (ht_ret ?_)
   obtain rfl:=zi h
   exact pt_ret hio rfl (.tmp _ _ .nil) rfl rfl
  ·intro u5 h hl6 hr7
   refine cond_some h (fun hg1_5 h => ?_) (fun hg1_5 h => ?_)
   ·obtain ⟨v1, hv1, h⟩:=zn h
    refine cond_some h (fun hg1_12 h => ?_) (fun hg1_12 h => ?_)
    ·refine cond_some h (fun hg1_19 h => ?_) (fun hg1_19 h => ?_)
     ·obtain ⟨v2, hv2, h⟩:=zn h
      refine cond_some h (fun hg1_26 h => ?_) (fun hg1_26 h => ?_)
      ·refine cond_some h (fun hg1_33 h => ?_) (fun hg1_33 h => ?_)
       ·refine cond_some h (fun hg1_40 h => ?_) (fun hg1_40 h => ?_)
        ·refine cond_some h (fun hg1_47 h => ?_) (fun hg1_47 h => ?_)
         ·obtain ⟨v3, hv3, h⟩:=zn h
          refine yx hn 6 ?_
          refine yd hg1_5 4 ?_
          refine ys 2 ⟨lk call63 (ok_wherrykeep_Mail _ _ _ hv1)⟩ ?_
          refine yd hg1_12 7 ?_
          refine yd hg1_19 4 ?_
          refine ys 2 ⟨lk call64 (ok_wherrykeep_Ints _ _ _ hv2)⟩ ?_
          refine yd hg1_26 7 ?_
          refine yd hg1_33 7 ?_
          refine yd hg1_40 7 ?_
          refine yd hg1_47 4 ?_
          refine ys 2 ⟨lk call27 (ok_wherrykeep_Bytes _ _ _ hv3)⟩ ?_
          refine ye [4] ?_
          exact hl6 _ (zi h).symm
         ·refine yx hn 6 ?_
          refine yd hg1_5 4 ?_
          refine ys 2 ⟨lk call63 (ok_wherrykeep_Mail _ _ _ hv1)⟩ ?_
          refine yd hg1_12 7 ?_
          refine yd hg1_19 4 ?_
          refine ys 2 ⟨lk call64 (ok_wherrykeep_Ints _ _ _ hv2)⟩ ?_
          refine yd hg1_26 7 ?_
          refine yd hg1_33 7 ?_
          refine yd hg1_40 7 ?_
          refine yd hg1_47 7 ?_
          refine ye [4] ?_
          exact hl6 _ (zi h).symm
        ·refine yx hn 6 ?_
         refine yd hg1_5 4 ?_
         refine ys 2 ⟨lk call63 (ok_wherrykeep_Mail _ _ _ hv1)⟩ ?_
         refine yd hg1_12 7 ?_
         refine yd hg1_19 4 ?_
         refine ys 2 ⟨lk call64 (ok_wherrykeep_Ints _ _ _ hv2)⟩ ?_
         refine yd hg1_26 7 ?_
         refine yd hg1_33 7 ?_
         refine yd hg1_40 14 ?_
         refine ye [4] ?_
         exact hl6 _ (zi h).symm
       ·refine yx hn 6 ?_
        refine yd hg1_5 4 ?_
        refine ys 2 ⟨lk call63 (ok_wherrykeep_Mail _ _ _ hv1)⟩ ?_
        refine yd hg1_12 7 ?_
        refine yd hg1_19 4 ?_
        refine ys 2 ⟨lk call64 (ok_wherrykeep_Ints _ _ _ hv2)⟩ ?_
        refine yd hg1_26 7 ?_
        refine yd hg1_33 21 ?_
        refine ye [4] ?_
        exact hl6 _ (zi h).symm
      ·refine yx hn 6 ?_
       refine yd hg1_5 4 ?_
       refine ys 2 ⟨lk call63 (ok_wherrykeep_Mail _ _ _ hv1)⟩ ?_
       refine yd hg1_12 7 ?_
       refine yd hg1_19 4 ?_
       refine ys 2 ⟨lk call64 (ok_wherrykeep_Ints _ _ _ hv2)⟩ ?_
       refine yd hg1_26 28 ?_
       refine ye [4] ?_
       exact hl6 _ (zi h).symm
     ·refine yx hn 6 ?_
      refine yd hg1_5 4 ?_
      refine ys 2 ⟨lk call63 (ok_wherrykeep_Mail _ _ _ hv1)⟩ ?_
      refine yd hg1_12 7 ?_
      refine yd hg1_19 35 ?_
      refine ye [4] ?_
      exact hl6 _ (zi h).symm
    ·refine yx hn 6 ?_
     refine yd hg1_5 4 ?_
     refine ys 2 ⟨lk call63 (ok_wherrykeep_Mail _ _ _ hv1)⟩ ?_
     refine yd hg1_12 42 ?_
     refine ye [4] ?_
     exact hl6 _ (zi h).symm
   ·refine yx hn 6 ?_
    refine yd hg1_5 49 ?_
    refine ye [4] ?_
    exact hl6 _ (zi h).symm
end Go.Proofs.YtofbofdggabfiaaGreatDoor
