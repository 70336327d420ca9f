/-
  The model's runs are what is told in Lean.
-/
import Derived.Test.YtbioodcjmceefaaProg
import Derived.KernelRfl
import Derived.Test.YtbioodcjmceefaaBG
import Derived.Test.YtbioodcjmceefaaC1
import Derived.Test.YtbioodcjmceefaaBB
import Derived.Test.YtbioodcjmceefaaOkc2
set_option linter.unusedVariables false
set_option linter.unusedSimpArgs false
set_option maxHeartbeats 1000000
namespace Go.Proofs.Ytbioodcjmceefaa
open Go.Abs Go.Abs.Sh Try
theorem ok_wherrykeep_TwinRecs (l : (List T_Rec)) (r : (List T_Rec)) (h : Sh.wherrykeep_TwinRecs l = some r) : FnOK Try.prog 14 [.fr .shr true 15 (List.flatten (List.map T_Rec.ienc l))] (.fr (.own 46) false 15 (List.flatten (List.map T_Rec.ienc r))) := by
  unfold Sh.wherrykeep_TwinRecs at h
  refine yO 20 func14 fun g0 hn hio => ?_
  refine yyy hn 1 [0] ?_
  refine yyy hn 1 [0,3] ?_
  refine ht_seq ?_
  refine yyy hn 1 [0,3,4] ?_
  refine ht_sub (fs := [(0, .fr .shr true 15 (List.flatten (List.map T_Rec.ienc l))), (3, .fr (.own 46) false 15 (List.flatten (List.map T_Rec.ienc []))), (4, .v (.int .i64 0))]) (.same _ (.sub _ (sub_nil_fr 46 false 15) rfl (.same _ .nil))) ?_
  refine ht_loopS h (fun ((s10, s11) : (List T_Rec) × Int) => [(0, .fr .shr true 15 (List.flatten (List.map T_Rec.ienc l))), (3, .fr (.own 46) false 15 (List.flatten (List.map T_Rec.ienc s10))), (4, .v (.int .i64 s11))]) (fun (s13 : (List T_Rec)) => [(3, .fr (.own 46) false 15 (List.flatten (List.map T_Rec.ienc s13)))]) ?_ ?_
  ·rintro s13 h
   refine pt_then ?_
   refine yxx hn 0 ?_
   refine ym 0 ?_
   refine ya 0 ?_
   refine yee [2] ?_
   refine ht_ret ?_
   obtain rfl := Option.some.inj h
   exact pt_ret hio rfl (.tmp _ _ .nil) rfl rfl
  ·rintro u14 hl15 hr16 ⟨s10, s11⟩ rr19 h ho17
   refine ht_seq ?_
   refine yyy hn 4 [0,3,4,8] ?_
   refine ht_cond _ rfl (fun hb20 => ?_) (fun hb20 => ?_)
   ·have h := cond_t hb20 h
    refine ht_skip ?_
    refine pt_then (ht_seq ?_)
    refine ht_block ?_
    obtain ⟨v2, hv2, h⟩ := bind_some h
    obtain ⟨v3, hv3, h⟩ := bind_some h
    obtain ⟨v4, hv4, h⟩ := bind_some h
    obtain ⟨v5, hv5, h⟩ := bind_some h
    refine yx hn 0 ?_
    refine ym 2 ?_
    refine ys 0 ⟨lI hv2⟩ ?_
    refine yS (.agg [.v (.int .i64 v3.Kind), .v (.bool v3.Mail.From.Null), .v (.string v3.Mail.From.Local), .v (.string v3.Mail.From.Domain), .fl .shr 3 (List.flatten (List.map T_Path.enc v3.Mail.To)), .fl .shr 1 (List.map (Value.int .u8) v3.Mail.Body), .v (.bool v3.Mail.Quiet), .v (.string v3.Mail.Helo), .v (.int .i64 v3.Mail.At), .v (.int .i64 v3.Id), .fl .shr 1 (List.map (Value.int .i64) v3.Ids), .v (.int .i64 v3.Origin), .v (.int .i64 v3.Number), .v (.int .i64 v3.Offset), .fl .shr 1 (List.map (Value.int .u8) v3.Data)]) 0 ⟨op_loadA_fr _ _ _ _ _ _ _ _ underlying46 rfl sz46 rfl rfl (gflat_get T_Rec.ilen hv3) (.cons (.v _) (.cons (.v _) (.cons (.v _) (.cons (.v _) (.cons (.fl _ _ rfl) (.cons (.fl _ _ rfl) (.cons (.v _) (.cons (.v _) (.cons (.v _) (.cons (.v _) (.cons (.fl _ _ rfl) (.cons (.v _) (.cons (.v _) (.cons (.v _) (.cons (.fl _ _ rfl) (.nil)))))))))))))))) rfl (by decide)⟩ ?_
    refine ys 0 ⟨lk call40 (ok_wherrykeep_TwinRec _ _ hv4)⟩ ?_
    refine yk [16] [] ?_
    refine yt (17, .fr (.own 46) false 15 (List.flatten (List.map T_Rec.ienc [(T_Rec.mk v4.Kind ((T_Mail.mk (T_Path.mk v4.Mail.From.Null v4.Mail.From.Local v4.Mail.From.Domain) v4.Mail.To v4.Mail.Body v4.Mail.Quiet v4.Mail.Helo v4.Mail.At)) v4.Id v4.Ids v4.Origin v4.Number v4.Offset v4.Data)]))) 0 ⟨op_build1_fr_take _ _ _ 15 (.agg #[.int .i64 0, .bool false, .string ByteArray.empty, .string ByteArray.empty, .slice none 0 0, .slice none 0 0, .bool false, .string ByteArray.empty, .int .i64 0, .int .i64 0, .slice none 0 0, .int .i64 0, .int .i64 0, .int .i64 0, .slice none 0 0]) false _ _ underlying31 sz46 zr46 rfl (.cons (.v _) (.cons (.v _) (.cons (.v _) (.cons (.v _) (.cons (.ro _ _ rfl) (.cons (.ro _ _ rfl) (.cons (.v _) (.cons (.v _) (.cons (.v _) (.cons (.v _) (.cons (.ro _ _ rfl) (.cons (.v _) (.cons (.v _) (.cons (.v _) (.cons (.ro _ _ rfl) (.nil)))))))))))))))) rfl (by decide) (by decide)⟩ ?_
    refine yk [11] [17] ?_
    refine ytt (11, .any) (18, .fr (.own 46) false 15 (List.flatten (List.map T_Rec.ienc v5))) 0 ⟨op_app_fr _ _ _ _ _ el31 rfl rfl (gflat_len T_Rec.ilen _) (gflat_len T_Rec.ilen _) hv5 (gflat_app (app_eq hv5)) (by decide) (by decide)⟩ ?_
    refine ya 0 ?_
    refine ye [0,4,3] ?_
    refine pt_inb ?_
    refine pt_then ?_
    obtain ⟨v6, hv6, h⟩ := bind_some h
    refine yx hn 1 ?_
    refine ys 0 ⟨lb hv6⟩ ?_
    refine yw [4] 1 ?_
    refine ye [0,3,4] ?_
    exact pt_next _ (Option.some.inj h).symm rfl
   ·have h := cond_f hb20 h
    refine ht_exit ?_
    refine pt_x_then ?_
    refine pt_x_then ?_
    refine pt_x_in ?_
    refine pt_pick [1] (by kernel_rfl) (es' := [(_,_)]) rfl ?_
    exact hl15 _ (ho17 _ (Option.some.inj h).symm).symm
theorem ok_wherryref18_Diary_Renew (d : T_wherryref18_Diary) (l : (List T_Rec)) (r : (Int × T_wherryref18_Diary)) (h : Sh.wherryref18_Diary_Renew d l = some r) : FnP Try.prog 20 [.box 67 [.v (.int .i64 d.Limit), .fr (.own 46) false 15 (List.flatten (List.map T_Rec.ienc d.Recs)), .v (.int .i64 d.Sure), .v (.bool d.IsOff), .v (.int .i64 d.Lives), .v (.int .i64 d.Left), .v (.int .i64 d.Keep), .v (.int .i64 d.Kept)], .fr .shr true 15 (List.flatten (List.map T_Rec.ienc l))] [.box 67 [.v (.int .i64 r.2.Limit), .fr (.own 46) false 15 (List.flatten (List.map T_Rec.ienc r.2.Recs)), .v (.int .i64 r.2.Sure), .v (.bool r.2.IsOff), .v (.int .i64 r.2.Lives), .v (.int .i64 r.2.Left), .v (.int .i64 r.2.Keep), .v (.int .i64 r.2.Kept)]] (.v (.int .i64 r.1)) := by
  unfold Sh.wherryref18_Diary_Renew at h
  refine yP 40 func20 fun args0 hargs0 g0 hn hio => ?_
  refine yyy hn 1 [0,1,0] ?_
  refine ht_seq ?_
  refine yyy hn 4 [0,1,8,0] ?_
  refine ht_cond _ rfl (fun hb1 => ?_) (fun hb1 => ?_)
  ·have h := cond_t hb1 h
   refine yyy hn 1 [0,4,0] ?_
   refine ht_ret ?_
   refine pt_pick [1, 0, 2] (by kernel_rfl) (es' := [(_,_),(_,_),(_,_)]) rfl ?_
   refine pt_r_then ?_
   obtain rfl := Option.some.inj h
   exact pt_retP (es := [(4, .v (.int .i64 7))]) (posts := [.box 67 [.v (.int .i64 d.Limit), .fr (.own 46) false 15 (List.flatten (List.map T_Rec.ienc d.Recs)), .v (.int .i64 d.Sure), .v (.bool d.IsOff), .v (.int .i64 d.Lives), .v (.int .i64 d.Left), .v (.int .i64 d.Keep), .v (.int .i64 d.Kept)]]) hio rfl rfl (.tmp _ _ .nil) rfl rfl hargs0 rfl
  ·have h := cond_f hb1 h
   refine ht_skip ?_
   refine pt_then (ht_seq ?_)
   refine ht_seq ?_
   obtain ⟨v2, hv2, h⟩ := bind_some h
   refine wb [[1]] ?_
   refine wN [9] ?_
   refine wo [[],[11,0],[12,0],[13,0],[10,14]] ⟨lk call49 (ok_wherryref18_rooms _ _ hv2)⟩ ?_
   refine wee hn [0,1,15,0] ?_
   refine ht_cond _ rfl (fun hb3 => ?_) (fun hb3 => ?_)
   ·have h := cond_t hb3 h
    refine yyy hn 1 [0,4,0] ?_
    refine ht_ret ?_
    refine pt_pick [1, 0, 2] (by kernel_rfl) (es' := [(_,_),(_,_),(_,_)]) rfl ?_
    refine pt_r_then ?_
    obtain rfl := Option.some.inj h
    exact pt_retP (es := [(4, .v (.int .i64 8))]) (posts := [.box 67 [.v (.int .i64 d.Limit), .fr (.own 46) false 15 (List.flatten (List.map T_Rec.ienc d.Recs)), .v (.int .i64 d.Sure), .v (.bool d.IsOff), .v (.int .i64 d.Lives), .v (.int .i64 d.Left), .v (.int .i64 d.Keep), .v (.int .i64 d.Kept)]]) hio rfl rfl (.tmp _ _ .nil) rfl rfl hargs0 rfl
   ·have h := cond_f hb3 h
    refine ht_skip ?_
    refine pt_then (ht_seq ?_)
    refine ht_seq ?_
    obtain ⟨v4, hv4, h⟩ := bind_some h
    refine yx hn 1 ?_
    refine yQ call45 (ok_wherryref18_Diary_strikes _ _ hv4) 0 [16] 0 ?_
    refine yee [0,1,17,0] ?_
    refine ht_cond _ rfl (fun hb5 => ?_) (fun hb5 => ?_)
    ·have h := cond_t hb5 h
     refine ht_seq ?_
     obtain ⟨v6, hv6, h⟩ := bind_some h
     refine yx hn 5 ?_
     refine yQ call22 (ok_wherryref18_Diary_Crash _ _ _ hv6) 0 [18,22] 0 ?_
     refine yee [0,0] ?_
     refine yyy hn 1 [0,4,0] ?_
     refine ht_ret ?_
     refine pt_pick [1, 0, 2] (by kernel_rfl) (es' := [(_,_),(_,_),(_,_)]) rfl ?_
     refine pt_r_then ?_
     obtain rfl := Option.some.inj h
     exact pt_retP (es := [(4, .v (.int .i64 7))]) (posts := [.box 67 [.v (.int .i64 v6.Limit), .fr (.own 46) false 15 (List.flatten (List.map T_Rec.ienc v6.Recs)), .v (.int .i64 v6.Sure), .v (.bool v6.IsOff), .v (.int .i64 v6.Lives), .v (.int .i64 v6.Left), .v (.int .i64 v6.Keep), .v (.int .i64 v6.Kept)]]) hio rfl rfl (.tmp _ _ .nil) rfl rfl hargs0 rfl
    ·have h := cond_f hb5 h
     refine ht_skip ?_
     refine pt_then (ht_seq ?_)
     obtain ⟨v7, hv7, h⟩ := bind_some h
     refine yx hn 2 ?_
     refine ys 2 ⟨lk call14 (ok_wherrykeep_TwinRecs _ _ hv7)⟩ ?_
     refine yk [26,0] [28] ?_
     refine yt (0, .box 67 [.v (.int .i64 v4.2.Limit), .fr (.own 46) false 15 (List.flatten (List.map T_Rec.ienc v7)), .v (.int .i64 v4.2.Sure), .v (.bool v4.2.IsOff), .v (.int .i64 v4.2.Lives), .v (.int .i64 v4.2.Left), .v (.int .i64 v4.2.Keep), .v (.int .i64 v4.2.Kept)]) 0 ⟨op_store_take _ _ _ _ _ _ _ _ sz31 rfl rfl rfl (zl rfl) rfl rfl⟩ ?_
     refine yee [0,0] ?_
     refine yyy hn 13 [0,0] ?_
     refine yyy hn 1 [0,4,0] ?_
     refine ht_ret ?_
     refine pt_pick [1, 0, 2] (by kernel_rfl) (es' := [(_,_),(_,_),(_,_)]) rfl ?_
     obtain rfl := Option.some.inj h
     exact pt_retP (es := [(4, .v (.int .i64 0))]) (posts := [.box 67 [.v (.int .i64 v4.2.Limit), .fr (.own 46) false 15 (List.flatten (List.map T_Rec.ienc v7)), .v (.int .i64 (v7.length : Int)), .v (.bool v4.2.IsOff), .v (.int .i64 v4.2.Lives), .v (.int .i64 v4.2.Left), .v (.int .i64 v4.2.Keep), .v (.int .i64 0)]]) hio rfl rfl (.tmp _ _ .nil) rfl rfl hargs0 rfl
theorem ok_diary_Diary_Trip (d : T_diary_Diary) (n : Int) (keep : Int) (r : T_diary_Diary) (h : Sh.diary_Diary_Trip d n keep = some r) : FnP Try.prog 23 [.box 64 [.v (.int .i64 d.limit), .fr (.own 46) false 15 (List.flatten (List.map T_Rec.ienc d.recs)), .v (.int .i64 d.used), .v (.int .i64 d.safe), .v (.int .i64 d.kept), .v (.int .i64 d.life), .v (.bool d.off), .v (.int .i64 d.trip), .v (.int .i64 d.tripKeep)], .v (.int .i64 n), .v (.int .i64 keep)] [.box 64 [.v (.int .i64 r.limit), .fr (.own 46) false 15 (List.flatten (List.map T_Rec.ienc r.recs)), .v (.int .i64 r.used), .v (.int .i64 r.safe), .v (.int .i64 r.kept), .v (.int .i64 r.life), .v (.bool r.off), .v (.int .i64 r.trip), .v (.int .i64 r.tripKeep)]] (.tup []) := by
  unfold Sh.diary_Diary_Trip at h
  refine yP 15 func23 fun args0 hargs0 g0 hn hio => ?_
  refine ht_seq ?_
  obtain ⟨v1, hv1, h⟩ := bind_some h
  refine yx hn 2 ?_
  refine yS (.v (.int .i64 v1)) 3 ⟨(Option.some.inj hv1) ▸ op_max _ _ _ _ rfl rfl⟩ ?_
  refine yee [0,2,0] ?_
  refine yy hn 5 [0,0] ?_
  obtain rfl := Option.some.inj h
  exact pt_endP (es := []) (posts := [.box 64 [.v (.int .i64 d.limit), .fr (.own 46) false 15 (List.flatten (List.map T_Rec.ienc d.recs)), .v (.int .i64 d.used), .v (.int .i64 d.safe), .v (.int .i64 d.kept), .v (.int .i64 d.life), .v (.bool d.off), .v (.int .i64 v1), .v (.int .i64 keep)]]) hio rfl rfl .nil rfl rfl hargs0 rfl
theorem ok_wherryref18_Diary_Trip (d : T_wherryref18_Diary) (n : Int) (keep : Int) (r : T_wherryref18_Diary) (h : Sh.wherryref18_Diary_Trip d n keep = some r) : FnP Try.prog 24 [.box 67 [.v (.int .i64 d.Limit), .fr (.own 46) false 15 (List.flatten (List.map T_Rec.ienc d.Recs)), .v (.int .i64 d.Sure), .v (.bool d.IsOff), .v (.int .i64 d.Lives), .v (.int .i64 d.Left), .v (.int .i64 d.Keep), .v (.int .i64 d.Kept)], .v (.int .i64 n), .v (.int .i64 keep)] [.box 67 [.v (.int .i64 r.Limit), .fr (.own 46) false 15 (List.flatten (List.map T_Rec.ienc r.Recs)), .v (.int .i64 r.Sure), .v (.bool r.IsOff), .v (.int .i64 r.Lives), .v (.int .i64 r.Left), .v (.int .i64 r.Keep), .v (.int .i64 r.Kept)]] (.tup []) := by
  unfold Sh.wherryref18_Diary_Trip at h
  refine yP 15 func24 fun args0 hargs0 g0 hn hio => ?_
  obtain ⟨v1, hv1, h⟩ := bind_some h
  refine yx hn 3 ?_
  refine yS (.v (.int .i64 v1)) 7 ⟨(Option.some.inj hv1) ▸ op_max _ _ _ _ rfl rfl⟩ ?_
  refine ye [0,0] ?_
  obtain rfl := Option.some.inj h
  exact pt_endP (es := []) (posts := [.box 67 [.v (.int .i64 d.Limit), .fr (.own 46) false 15 (List.flatten (List.map T_Rec.ienc d.Recs)), .v (.int .i64 d.Sure), .v (.bool d.IsOff), .v (.int .i64 d.Lives), .v (.int .i64 v1), .v (.int .i64 keep), .v (.int .i64 d.Kept)]]) hio rfl rfl .nil rfl rfl hargs0 rfl
theorem ok_diary_Diary_Start (d : T_diary_Diary) (r : T_diary_Diary) (h : Sh.diary_Diary_Start d = some r) : FnP Try.prog 25 [.box 64 [.v (.int .i64 d.limit), .fr (.own 46) false 15 (List.flatten (List.map T_Rec.ienc d.recs)), .v (.int .i64 d.used), .v (.int .i64 d.safe), .v (.int .i64 d.kept), .v (.int .i64 d.life), .v (.bool d.off), .v (.int .i64 d.trip), .v (.int .i64 d.tripKeep)]] [.box 64 [.v (.int .i64 r.limit), .fr (.own 46) false 15 (List.flatten (List.map T_Rec.ienc r.recs)), .v (.int .i64 r.used), .v (.int .i64 r.safe), .v (.int .i64 r.kept), .v (.int .i64 r.life), .v (.bool r.off), .v (.int .i64 r.trip), .v (.int .i64 r.tripKeep)]] (.tup []) := by
  unfold Sh.diary_Diary_Start at h
  refine yP 5 func25 fun args0 hargs0 g0 hn hio => ?_
  refine yy hn 4 [0,0] ?_
  obtain rfl := Option.some.inj h
  exact pt_endP (es := []) (posts := [.box 64 [.v (.int .i64 d.limit), .fr (.own 46) false 15 (List.flatten (List.map T_Rec.ienc d.recs)), .v (.int .i64 d.used), .v (.int .i64 d.safe), .v (.int .i64 d.kept), .v (.int .i64 d.life), .v (.bool false), .v (.int .i64 d.trip), .v (.int .i64 d.tripKeep)]]) hio rfl rfl .nil rfl rfl hargs0 rfl
theorem ok_wherryref18_Diary_Start (d : T_wherryref18_Diary) (r : T_wherryref18_Diary) (h : Sh.wherryref18_Diary_Start d = some r) : FnP Try.prog 26 [.box 67 [.v (.int .i64 d.Limit), .fr (.own 46) false 15 (List.flatten (List.map T_Rec.ienc d.Recs)), .v (.int .i64 d.Sure), .v (.bool d.IsOff), .v (.int .i64 d.Lives), .v (.int .i64 d.Left), .v (.int .i64 d.Keep), .v (.int .i64 d.Kept)]] [.box 67 [.v (.int .i64 r.Limit), .fr (.own 46) false 15 (List.flatten (List.map T_Rec.ienc r.Recs)), .v (.int .i64 r.Sure), .v (.bool r.IsOff), .v (.int .i64 r.Lives), .v (.int .i64 r.Left), .v (.int .i64 r.Keep), .v (.int .i64 r.Kept)]] (.tup []) := by
  unfold Sh.wherryref18_Diary_Start at h
  refine yP 5 func26 fun args0 hargs0 g0 hn hio => ?_
  refine yy hn 4 [0,0] ?_
  obtain rfl := Option.some.inj h
  exact pt_endP (es := []) (posts := [.box 67 [.v (.int .i64 d.Limit), .fr (.own 46) false 15 (List.flatten (List.map T_Rec.ienc d.Recs)), .v (.int .i64 d.Sure), .v (.bool false), .v (.int .i64 d.Lives), .v (.int .i64 d.Left), .v (.int .i64 d.Keep), .v (.int .i64 d.Kept)]]) hio rfl rfl .nil rfl rfl hargs0 rfl
theorem ok_wherrykeep_Path (a : T_Path) (b : T_Path) (r : Bool) (h : Sh.wherrykeep_Path a b = some r) : FnOK Try.prog 64 [.agg [.v (.bool a.Null), .v (.string a.Local), .v (.string a.Domain)], .agg [.v (.bool b.Null), .v (.string b.Local), .v (.string b.Domain)]] (.v (.bool r)) := by
  unfold Sh.wherrykeep_Path at h
  refine yO 24 func64 fun g0 hn hio => ?_
  refine yyy hn 3 [2,3] ?_
  refine ht_seq ?_
  refine ht_joinS h (fun (s2 : Bool) => [(4, .v (.bool s2))]) ?_ ?_
  ·rintro s2 h
   refine pt_then (ht_ret ?_)
   obtain rfl := Option.some.inj h
   exact pt_ret hio rfl (.tmp _ _ .nil) rfl rfl
  ·intro u3 h hl4 hr5
   obtain ⟨v1, hv1, h⟩ := bind_some h
   refine cond_some h (fun hg1_5 h => ?_) (fun hg1_5 h => ?_)
   ·refine cond_some h (fun hg1_12 h => ?_) (fun hg1_12 h => ?_)
    ·refine yx hn 4 ?_
     refine yS (.v (.bool (a.Null == b.Null))) 1 ⟨op_beq _ _ _ _ underlying4 rfl rfl⟩ ?_
     refine yd hg1_5 7 ?_
     refine yd hg1_12 7 ?_
     refine ye [4] ?_
     exact hl4 _ (Option.some.inj h).symm
    ·refine yx hn 4 ?_
     refine yS (.v (.bool (a.Null == b.Null))) 1 ⟨op_beq _ _ _ _ underlying4 rfl rfl⟩ ?_
     refine yd hg1_5 7 ?_
     refine yd hg1_12 7 ?_
     refine ye [4] ?_
     exact hl4 _ (Option.some.inj h).symm
   ·refine yx hn 4 ?_
    refine yS (.v (.bool (a.Null == b.Null))) 1 ⟨op_beq _ _ _ _ underlying4 rfl rfl⟩ ?_
    refine yd hg1_5 14 ?_
    refine ye [4] ?_
    exact hl4 _ (Option.some.inj h).symm
theorem ok_wherrykeep_Paths (a : (List T_Path)) (b : (List T_Path)) (r : Bool) (h : Sh.wherrykeep_Paths a b = some r) : FnOK Try.prog 65 [.fl .shr 3 (List.flatten (List.map T_Path.enc a)), .fl .shr 3 (List.flatten (List.map T_Path.enc b))] (.v (.bool r)) := by
  unfold Sh.wherrykeep_Paths at h
  refine yO 27 func65 fun g0 hn hio => ?_
  refine yyy hn 1 [0,1] ?_
  refine ht_seq ?_
  refine yyy hn 5 [0,1,10] ?_
  refine ht_cond _ rfl (fun hb1 => ?_) (fun hb1 => ?_)
  ·have h := cond_t hb1 h
   refine yyy hn 1 [4] ?_
   refine ht_ret ?_
   refine pt_r_then ?_
   obtain rfl := Option.some.inj h
   exact pt_ret hio rfl (.tmp _ _ .nil) rfl rfl
  ·have h := cond_f hb1 h
   refine ht_skip ?_
   refine pt_then (ht_seq ?_)
   refine yyy hn 1 [0,1,5] ?_
   refine ht_loopS h (fun (s13 : Int) => [(0, .fl .shr 3 (List.flatten (List.map T_Path.enc a))), (1, .fl .shr 3 (List.flatten (List.map T_Path.enc b))), (5, .v (.int .i64 s13))]) (fun (() : Unit) => []) ?_ ?_
   ·rintro ⟨⟩ h
    refine pt_then ?_
    refine yyy hn 1 [4] ?_
    refine ht_ret ?_
    obtain rfl := Option.some.inj h
    exact pt_ret hio rfl (.tmp _ _ .nil) rfl rfl
   ·rintro u16 hl17 hr18 s13 rr21 h ho19
    refine ht_seq ?_
    refine yyy hn 4 [0,1,5,14] ?_
    refine ht_cond _ rfl (fun hb22 => ?_) (fun hb22 => ?_)
    ·have h := cond_t hb22 h
     refine ht_skip ?_
     refine pt_then (ht_seq ?_)
     refine ht_block ?_
     refine ht_seq ?_
     obtain ⟨v3, hv3, h⟩ := bind_some h
     obtain ⟨v4, hv4, h⟩ := bind_some h
     obtain ⟨v5, hv5, h⟩ := bind_some h
     obtain ⟨v6, hv6, h⟩ := bind_some h
     obtain ⟨v7, hv7, h⟩ := bind_some h
     refine wb [[0],[5]] ?_
     refine wN [17,18] ?_
     refine wo [] ⟨lj hv3⟩ ?_
     refine wN [19,17] ?_
     refine wS (.agg [.v (.bool v4.Null), .v (.string v4.Local), .v (.string v4.Domain)]) [[1],[5]] ⟨op_load_eA _ _ _ _ _ _ _ underlying39 rfl sz39 rfl rfl (flat_get T_Path.len hv4) rfl (by decide)⟩ ?_
     refine wN [21,22] ?_
     refine wo [] ⟨lj hv5⟩ ?_
     refine wN [23,21] ?_
     refine wS (.agg [.v (.bool v6.Null), .v (.string v6.Local), .v (.string v6.Domain)]) [] ⟨op_load_eA _ _ _ _ _ _ _ underlying39 rfl sz39 rfl rfl (flat_get T_Path.len hv6) rfl (by decide)⟩ ?_
     refine wN [20,24] ?_
     refine wo [[25]] ⟨lk call64 (ok_wherrykeep_Path _ _ _ hv7)⟩ ?_
     refine wee hn [0,1,5,26] ?_
     refine ht_cond _ rfl (fun hb23 => ?_) (fun hb23 => ?_)
     ·have h := cond_t hb23 h
      refine yyy hn 1 [4] ?_
      refine ht_ret ?_
      refine pt_r_in ?_
      refine pt_r_then ?_
      refine pt_r_then ?_
      refine pt_r_in ?_
      refine pt_r_then ?_
      have h := hr18 _ (ho19 _ (Option.some.inj h).symm).symm
      obtain rfl := Option.some.inj h
      exact pt_ret hio rfl (.tmp _ _ .nil) rfl rfl
     ·have h := cond_f hb23 h
      refine ht_skip ?_
      refine pt_inb ?_
      refine pt_then ?_
      obtain ⟨v9, hv9, h⟩ := bind_some h
      refine yx hn 1 ?_
      refine ys 0 ⟨lb hv9⟩ ?_
      refine yw [5] 1 ?_
      refine ye [0,1,5] ?_
      exact pt_next _ (Option.some.inj h).symm rfl
    ·have h := cond_f hb22 h
     refine ht_exit ?_
     refine pt_x_then ?_
     refine pt_x_then ?_
     refine pt_x_in ?_
     refine pt_pick [] (by kernel_rfl) (es' := []) rfl ?_
     exact hl17 _ (ho19 _ (Option.some.inj h).symm).symm
theorem ok_wherrykeep_Bytes (a : (List Int)) (b : (List Int)) (r : Bool) (h : Sh.wherrykeep_Bytes a b = some r) : FnOK Try.prog 61 [.fl .shr 1 (List.map (Value.int .u8) a), .fl .shr 1 (List.map (Value.int .u8) b)] (.v (.bool r)) := by
  unfold Sh.wherrykeep_Bytes at h
  refine yO 26 func61 fun g0 hn hio => ?_
  refine yyy hn 1 [0,1] ?_
  refine ht_seq ?_
  refine yyy hn 5 [0,1,10] ?_
  refine ht_cond _ rfl (fun hb1 => ?_) (fun hb1 => ?_)
  ·have h := cond_t hb1 h
   refine yyy hn 1 [4] ?_
   refine ht_ret ?_
   refine pt_r_then ?_
   obtain rfl := Option.some.inj h
   exact pt_ret hio rfl (.tmp _ _ .nil) rfl rfl
  ·have h := cond_f hb1 h
   refine ht_skip ?_
   refine pt_then (ht_seq ?_)
   refine yyy hn 1 [0,1,5] ?_
   refine ht_loopS h (fun (s12 : Int) => [(0, .fl .shr 1 (List.map (Value.int .u8) a)), (1, .fl .shr 1 (List.map (Value.int .u8) b)), (5, .v (.int .i64 s12))]) (fun (() : Unit) => []) ?_ ?_
   ·rintro ⟨⟩ h
    refine pt_then ?_
    refine yyy hn 1 [4] ?_
    refine ht_ret ?_
    obtain rfl := Option.some.inj h
    exact pt_ret hio rfl (.tmp _ _ .nil) rfl rfl
   ·rintro u15 hl16 hr17 s12 rr20 h ho18
    refine ht_seq ?_
    refine yyy hn 4 [0,1,5,14] ?_
    refine ht_cond _ rfl (fun hb21 => ?_) (fun hb21 => ?_)
    ·have h := cond_t hb21 h
     refine ht_skip ?_
     refine pt_then (ht_seq ?_)
     refine ht_block ?_
     refine ht_seq ?_
     obtain ⟨v3, hv3, h⟩ := bind_some h
     obtain ⟨v4, hv4, h⟩ := bind_some h
     obtain ⟨v5, hv5, h⟩ := bind_some h
     obtain ⟨v6, hv6, h⟩ := bind_some h
     refine wb [[0],[5]] ?_
     refine wN [17,18] ?_
     refine wo [] ⟨li hv3⟩ ?_
     refine wN [19,17] ?_
     refine wo [[1],[5]] ⟨ll hv4⟩ ?_
     refine wN [21,22] ?_
     refine wo [] ⟨li hv5⟩ ?_
     refine wN [23,21] ?_
     refine wo [[20,24]] ⟨ll hv6⟩ ?_
     refine wee hn [0,1,5,25] ?_
     refine ht_cond _ rfl (fun hb22 => ?_) (fun hb22 => ?_)
     ·have h := cond_t hb22 h
      refine yyy hn 1 [4] ?_
      refine ht_ret ?_
      refine pt_r_in ?_
      refine pt_r_then ?_
      refine pt_r_then ?_
      refine pt_r_in ?_
      refine pt_r_then ?_
      have h := hr17 _ (ho18 _ (Option.some.inj h).symm).symm
      obtain rfl := Option.some.inj h
      exact pt_ret hio rfl (.tmp _ _ .nil) rfl rfl
     ·have h := cond_f hb22 h
      refine ht_skip ?_
      refine pt_inb ?_
      refine pt_then ?_
      obtain ⟨v8, hv8, h⟩ := bind_some h
      refine yx hn 1 ?_
      refine ys 0 ⟨lb hv8⟩ ?_
      refine yw [5] 1 ?_
      refine ye [0,1,5] ?_
      exact pt_next _ (Option.some.inj h).symm rfl
    ·have h := cond_f hb21 h
     refine ht_exit ?_
     refine pt_x_then ?_
     refine pt_x_then ?_
     refine pt_x_in ?_
     refine pt_pick [] (by kernel_rfl) (es' := []) rfl ?_
     exact hl16 _ (ho18 _ (Option.some.inj h).symm).symm
theorem ok_wherrykeep_Mail (a : T_Mail) (b : T_Mail) (r : Bool) (h : Sh.wherrykeep_Mail a b = some r) : FnOK Try.prog 59 [.agg [.v (.bool a.From.Null), .v (.string a.From.Local), .v (.string a.From.Domain), .fl .shr 3 (List.flatten (List.map T_Path.enc a.To)), .fl .shr 1 (List.map (Value.int .u8) a.Body), .v (.bool a.Quiet), .v (.string a.Helo), .v (.int .i64 a.At)], .agg [.v (.bool b.From.Null), .v (.string b.From.Local), .v (.string b.From.Domain), .fl .shr 3 (List.flatten (List.map T_Path.enc b.To)), .fl .shr 1 (List.map (Value.int .u8) b.Body), .v (.bool b.Quiet), .v (.string b.Helo), .v (.int .i64 b.At)]] (.v (.bool r)) := by
  unfold Sh.wherrykeep_Mail at h
  refine yO 45 func59 fun g0 hn hio => ?_
  refine yyy hn 3 [2,3] ?_
  refine ht_seq ?_
  refine ht_joinS h (fun (s5 : Bool) => [(4, .v (.bool s5))]) ?_ ?_
  ·rintro s5 h
   refine pt_then (ht_ret ?_)
   obtain rfl := Option.some.inj h
   exact pt_ret hio rfl (.tmp _ _ .nil) rfl rfl
  ·intro u6 h hl7 hr8
   obtain ⟨v1, hv1, h⟩ := bind_some h
   refine cond_some h (fun hg1_5 h => ?_) (fun hg1_5 h => ?_)
   ·obtain ⟨v2, hv2, h⟩ := bind_some h
    refine cond_some h (fun hg1_12 h => ?_) (fun hg1_12 h => ?_)
    ·obtain ⟨v3, hv3, h⟩ := bind_some h
     refine cond_some h (fun hg1_19 h => ?_) (fun hg1_19 h => ?_)
     ·obtain ⟨v4, hv4, h⟩ := bind_some h
      refine cond_some h (fun hg1_26 h => ?_) (fun hg1_26 h => ?_)
      ·refine cond_some h (fun hg1_33 h => ?_) (fun hg1_33 h => ?_)
       ·refine yx hn 4 ?_
        refine ys 1 ⟨lk call64 (ok_wherrykeep_Path _ _ _ hv1)⟩ ?_
        refine yd hg1_5 4 ?_
        refine ys 2 ⟨lk call65 (ok_wherrykeep_Paths _ _ _ hv2)⟩ ?_
        refine yd hg1_12 4 ?_
        refine ys 2 ⟨lk call61 (ok_wherrykeep_Bytes _ _ _ hv3)⟩ ?_
        refine yd hg1_19 4 ?_
        refine yS (.v (.bool (a.Quiet == b.Quiet))) 2 ⟨op_beq _ _ _ _ underlying4 rfl rfl⟩ ?_
        refine yd hg1_26 7 ?_
        refine yd hg1_33 7 ?_
        refine ye [4] ?_
        exact hl7 _ (Option.some.inj h).symm
       ·refine yx hn 4 ?_
        refine ys 1 ⟨lk call64 (ok_wherrykeep_Path _ _ _ hv1)⟩ ?_
        refine yd hg1_5 4 ?_
        refine ys 2 ⟨lk call65 (ok_wherrykeep_Paths _ _ _ hv2)⟩ ?_
        refine yd hg1_12 4 ?_
        refine ys 2 ⟨lk call61 (ok_wherrykeep_Bytes _ _ _ hv3)⟩ ?_
        refine yd hg1_19 4 ?_
        refine yS (.v (.bool (a.Quiet == b.Quiet))) 2 ⟨op_beq _ _ _ _ underlying4 rfl rfl⟩ ?_
        refine yd hg1_26 7 ?_
        refine yd hg1_33 7 ?_
        refine ye [4] ?_
        exact hl7 _ (Option.some.inj h).symm
      ·refine yx hn 4 ?_
       refine ys 1 ⟨lk call64 (ok_wherrykeep_Path _ _ _ hv1)⟩ ?_
       refine yd hg1_5 4 ?_
       refine ys 2 ⟨lk call65 (ok_wherrykeep_Paths _ _ _ hv2)⟩ ?_
       refine yd hg1_12 4 ?_
       refine ys 2 ⟨lk call61 (ok_wherrykeep_Bytes _ _ _ hv3)⟩ ?_
       refine yd hg1_19 4 ?_
       refine yS (.v (.bool (a.Quiet == b.Quiet))) 2 ⟨op_beq _ _ _ _ underlying4 rfl rfl⟩ ?_
       refine yd hg1_26 14 ?_
       refine ye [4] ?_
       exact hl7 _ (Option.some.inj h).symm
     ·refine yx hn 4 ?_
      refine ys 1 ⟨lk call64 (ok_wherrykeep_Path _ _ _ hv1)⟩ ?_
      refine yd hg1_5 4 ?_
      refine ys 2 ⟨lk call65 (ok_wherrykeep_Paths _ _ _ hv2)⟩ ?_
      refine yd hg1_12 4 ?_
      refine ys 2 ⟨lk call61 (ok_wherrykeep_Bytes _ _ _ hv3)⟩ ?_
      refine yd hg1_19 21 ?_
      refine ye [4] ?_
      exact hl7 _ (Option.some.inj h).symm
    ·refine yx hn 4 ?_
     refine ys 1 ⟨lk call64 (ok_wherrykeep_Path _ _ _ hv1)⟩ ?_
     refine yd hg1_5 4 ?_
     refine ys 2 ⟨lk call65 (ok_wherrykeep_Paths _ _ _ hv2)⟩ ?_
     refine yd hg1_12 28 ?_
     refine ye [4] ?_
     exact hl7 _ (Option.some.inj h).symm
   ·refine yx hn 4 ?_
    refine ys 1 ⟨lk call64 (ok_wherrykeep_Path _ _ _ hv1)⟩ ?_
    refine yd hg1_5 35 ?_
    refine ye [4] ?_
    exact hl7 _ (Option.some.inj h).symm
theorem ok_wherrykeep_Ints (a : (List Int)) (b : (List Int)) (r : Bool) (h : Sh.wherrykeep_Ints a b = some r) : FnOK Try.prog 60 [.fl .shr 1 (List.map (Value.int .i64) a), .fl .shr 1 (List.map (Value.int .i64) b)] (.v (.bool r)) := by
  unfold Sh.wherrykeep_Ints at h
  refine yO 26 func60 fun g0 hn hio => ?_
  refine yyy hn 1 [0,1] ?_
  refine ht_seq ?_
  refine yyy hn 5 [0,1,10] ?_
  refine ht_cond _ rfl (fun hb1 => ?_) (fun hb1 => ?_)
  ·have h := cond_t hb1 h
   refine yyy hn 1 [4] ?_
   refine ht_ret ?_
   refine pt_r_then ?_
   obtain rfl := Option.some.inj h
   exact pt_ret hio rfl (.tmp _ _ .nil) rfl rfl
  ·have h := cond_f hb1 h
   refine ht_skip ?_
   refine pt_then (ht_seq ?_)
   refine yyy hn 1 [0,1,5] ?_
   refine ht_loopS h (fun (s12 : Int) => [(0, .fl .shr 1 (List.map (Value.int .i64) a)), (1, .fl .shr 1 (List.map (Value.int .i64) b)), (5, .v (.int .i64 s12))]) (fun (() : Unit) => []) ?_ ?_
   ·rintro ⟨⟩ h
    refine pt_then ?_
    refine yyy hn 1 [4] ?_
    refine ht_ret ?_
    obtain rfl := Option.some.inj h
    exact pt_ret hio rfl (.tmp _ _ .nil) rfl rfl
   ·rintro u15 hl16 hr17 s12 rr20 h ho18
    refine ht_seq ?_
    refine yyy hn 4 [0,1,5,14] ?_
    refine ht_cond _ rfl (fun hb21 => ?_) (fun hb21 => ?_)
    ·have h := cond_t hb21 h
     refine ht_skip ?_
     refine pt_then (ht_seq ?_)
     refine ht_block ?_
     refine ht_seq ?_
     obtain ⟨v3, hv3, h⟩ := bind_some h
     obtain ⟨v4, hv4, h⟩ := bind_some h
     obtain ⟨v5, hv5, h⟩ := bind_some h
     obtain ⟨v6, hv6, h⟩ := bind_some h
     refine wb [[0],[5]] ?_
     refine wN [17,18] ?_
     refine wo [] ⟨li hv3⟩ ?_
     refine wN [19,17] ?_
     refine wo [[1],[5]] ⟨ll hv4⟩ ?_
     refine wN [21,22] ?_
     refine wo [] ⟨li hv5⟩ ?_
     refine wN [23,21] ?_
     refine wo [[20,24]] ⟨ll hv6⟩ ?_
     refine wee hn [0,1,5,25] ?_
     refine ht_cond _ rfl (fun hb22 => ?_) (fun hb22 => ?_)
     ·have h := cond_t hb22 h
      refine yyy hn 1 [4] ?_
      refine ht_ret ?_
      refine pt_r_in ?_
      refine pt_r_then ?_
      refine pt_r_then ?_
      refine pt_r_in ?_
      refine pt_r_then ?_
      have h := hr17 _ (ho18 _ (Option.some.inj h).symm).symm
      obtain rfl := Option.some.inj h
      exact pt_ret hio rfl (.tmp _ _ .nil) rfl rfl
     ·have h := cond_f hb22 h
      refine ht_skip ?_
      refine pt_inb ?_
      refine pt_then ?_
      obtain ⟨v8, hv8, h⟩ := bind_some h
      refine yx hn 1 ?_
      refine ys 0 ⟨lb hv8⟩ ?_
      refine yw [5] 1 ?_
      refine ye [0,1,5] ?_
      exact pt_next _ (Option.some.inj h).symm rfl
    ·have h := cond_f hb21 h
     refine ht_exit ?_
     refine pt_x_then ?_
     refine pt_x_then ?_
     refine pt_x_in ?_
     refine pt_pick [] (by kernel_rfl) (es' := []) rfl ?_
     exact hl16 _ (ho18 _ (Option.some.inj h).symm).symm
theorem ok_wherrykeep_Rec (a : T_Rec) (b : T_Rec) (r : Bool) (h : Sh.wherrykeep_Rec a b = some r) : FnOK Try.prog 51 [.agg [.v (.int .i64 a.Kind), .v (.bool a.Mail.From.Null), .v (.string a.Mail.From.Local), .v (.string a.Mail.From.Domain), .fl .shr 3 (List.flatten (List.map T_Path.enc a.Mail.To)), .fl .shr 1 (List.map (Value.int .u8) a.Mail.Body), .v (.bool a.Mail.Quiet), .v (.string a.Mail.Helo), .v (.int .i64 a.Mail.At), .v (.int .i64 a.Id), .fl .shr 1 (List.map (Value.int .i64) a.Ids), .v (.int .i64 a.Origin), .v (.int .i64 a.Number), .v (.int .i64 a.Offset), .fl .shr 1 (List.map (Value.int .u8) a.Data)], .agg [.v (.int .i64 b.Kind), .v (.bool b.Mail.From.Null), .v (.string b.Mail.From.Local), .v (.string b.Mail.From.Domain), .fl .shr 3 (List.flatten (List.map T_Path.enc b.Mail.To)), .fl .shr 1 (List.map (Value.int .u8) b.Mail.Body), .v (.bool b.Mail.Quiet), .v (.string b.Mail.Helo), .v (.int .i64 b.Mail.At), .v (.int .i64 b.Id), .fl .shr 1 (List.map (Value.int .i64) b.Ids), .v (.int .i64 b.Origin), .v (.int .i64 b.Number), .v (.int .i64 b.Offset), .fl .shr 1 (List.map (Value.int .u8) b.Data)]] (.v (.bool r)) := by
  unfold Sh.wherrykeep_Rec at h
  refine yO 59 func51 fun g0 hn hio => ?_
  refine yyy hn 3 [2,3] ?_
  refine ht_seq ?_
  refine ht_joinS h (fun (s4 : Bool) => [(4, .v (.bool s4))]) ?_ ?_
  ·rintro s4 h
   refine pt_then (ht_ret ?_)
   obtain rfl := Option.some.inj h
   exact pt_ret hio rfl (.tmp _ _ .nil) rfl rfl
  ·intro u5 h hl6 hr7
   refine cond_some h (fun hg1_5 h => ?_) (fun hg1_5 h => ?_)
   ·obtain ⟨v1, hv1, h⟩ := bind_some h
    refine cond_some h (fun hg1_12 h => ?_) (fun hg1_12 h => ?_)
    ·refine cond_some h (fun hg1_19 h => ?_) (fun hg1_19 h => ?_)
     ·obtain ⟨v2, hv2, h⟩ := bind_some h
      refine cond_some h (fun hg1_26 h => ?_) (fun hg1_26 h => ?_)
      ·refine cond_some h (fun hg1_33 h => ?_) (fun hg1_33 h => ?_)
       ·refine cond_some h (fun hg1_40 h => ?_) (fun hg1_40 h => ?_)
        ·refine cond_some h (fun hg1_47 h => ?_) (fun hg1_47 h => ?_)
         ·obtain ⟨v3, hv3, h⟩ := bind_some h
          refine yx hn 6 ?_
          refine yd hg1_5 4 ?_
          refine ys 2 ⟨lk call59 (ok_wherrykeep_Mail _ _ _ hv1)⟩ ?_
          refine yd hg1_12 7 ?_
          refine yd hg1_19 4 ?_
          refine ys 2 ⟨lk call60 (ok_wherrykeep_Ints _ _ _ hv2)⟩ ?_
          refine yd hg1_26 7 ?_
          refine yd hg1_33 7 ?_
          refine yd hg1_40 7 ?_
          refine yd hg1_47 4 ?_
          refine ys 2 ⟨lk call61 (ok_wherrykeep_Bytes _ _ _ hv3)⟩ ?_
          refine ye [4] ?_
          exact hl6 _ (Option.some.inj h).symm
         ·refine yx hn 6 ?_
          refine yd hg1_5 4 ?_
          refine ys 2 ⟨lk call59 (ok_wherrykeep_Mail _ _ _ hv1)⟩ ?_
          refine yd hg1_12 7 ?_
          refine yd hg1_19 4 ?_
          refine ys 2 ⟨lk call60 (ok_wherrykeep_Ints _ _ _ hv2)⟩ ?_
          refine yd hg1_26 7 ?_
          refine yd hg1_33 7 ?_
          refine yd hg1_40 7 ?_
          refine yd hg1_47 7 ?_
          refine ye [4] ?_
          exact hl6 _ (Option.some.inj h).symm
        ·refine yx hn 6 ?_
         refine yd hg1_5 4 ?_
         refine ys 2 ⟨lk call59 (ok_wherrykeep_Mail _ _ _ hv1)⟩ ?_
         refine yd hg1_12 7 ?_
         refine yd hg1_19 4 ?_
         refine ys 2 ⟨lk call60 (ok_wherrykeep_Ints _ _ _ hv2)⟩ ?_
         refine yd hg1_26 7 ?_
         refine yd hg1_33 7 ?_
         refine yd hg1_40 14 ?_
         refine ye [4] ?_
         exact hl6 _ (Option.some.inj h).symm
       ·refine yx hn 6 ?_
        refine yd hg1_5 4 ?_
        refine ys 2 ⟨lk call59 (ok_wherrykeep_Mail _ _ _ hv1)⟩ ?_
        refine yd hg1_12 7 ?_
        refine yd hg1_19 4 ?_
        refine ys 2 ⟨lk call60 (ok_wherrykeep_Ints _ _ _ hv2)⟩ ?_
        refine yd hg1_26 7 ?_
        refine yd hg1_33 21 ?_
        refine ye [4] ?_
        exact hl6 _ (Option.some.inj h).symm
      ·refine yx hn 6 ?_
       refine yd hg1_5 4 ?_
       refine ys 2 ⟨lk call59 (ok_wherrykeep_Mail _ _ _ hv1)⟩ ?_
       refine yd hg1_12 7 ?_
       refine yd hg1_19 4 ?_
       refine ys 2 ⟨lk call60 (ok_wherrykeep_Ints _ _ _ hv2)⟩ ?_
       refine yd hg1_26 28 ?_
       refine ye [4] ?_
       exact hl6 _ (Option.some.inj h).symm
     ·refine yx hn 6 ?_
      refine yd hg1_5 4 ?_
      refine ys 2 ⟨lk call59 (ok_wherrykeep_Mail _ _ _ hv1)⟩ ?_
      refine yd hg1_12 7 ?_
      refine yd hg1_19 35 ?_
      refine ye [4] ?_
      exact hl6 _ (Option.some.inj h).symm
    ·refine yx hn 6 ?_
     refine yd hg1_5 4 ?_
     refine ys 2 ⟨lk call59 (ok_wherrykeep_Mail _ _ _ hv1)⟩ ?_
     refine yd hg1_12 42 ?_
     refine ye [4] ?_
     exact hl6 _ (Option.some.inj h).symm
   ·refine yx hn 6 ?_
    refine yd hg1_5 49 ?_
    refine ye [4] ?_
    exact hl6 _ (Option.some.inj h).symm
theorem ok_wherrykeep_Recs (a : (List T_Rec)) (b : (List T_Rec)) (r : Bool) (h : Sh.wherrykeep_Recs a b = some r) : FnOK Try.prog 27 [.fr .shr true 15 (List.flatten (List.map T_Rec.ienc a)), .fr .shr true 15 (List.flatten (List.map T_Rec.ienc b))] (.v (.bool r)) := by
  unfold Sh.wherrykeep_Recs at h
  refine yO 27 func27 fun g0 hn hio => ?_
  refine yyy hn 1 [0,1] ?_
  refine ht_seq ?_
  refine yyy hn 5 [0,1,10] ?_
  refine ht_cond _ rfl (fun hb1 => ?_) (fun hb1 => ?_)
  ·have h := cond_t hb1 h
   refine yyy hn 1 [4] ?_
   refine ht_ret ?_
   refine pt_r_then ?_
   obtain rfl := Option.some.inj h
   exact pt_ret hio rfl (.tmp _ _ .nil) rfl rfl
  ·have h := cond_f hb1 h
   refine ht_skip ?_
   refine pt_then (ht_seq ?_)
   refine yyy hn 1 [0,1,5] ?_
   refine ht_loopS h (fun (s13 : Int) => [(0, .fr .shr true 15 (List.flatten (List.map T_Rec.ienc a))), (1, .fr .shr true 15 (List.flatten (List.map T_Rec.ienc b))), (5, .v (.int .i64 s13))]) (fun (() : Unit) => []) ?_ ?_
   ·rintro ⟨⟩ h
    refine pt_then ?_
    refine yyy hn 1 [4] ?_
    refine ht_ret ?_
    obtain rfl := Option.some.inj h
    exact pt_ret hio rfl (.tmp _ _ .nil) rfl rfl
   ·rintro u16 hl17 hr18 s13 rr21 h ho19
    refine ht_seq ?_
    refine yyy hn 4 [0,1,5,14] ?_
    refine ht_cond _ rfl (fun hb22 => ?_) (fun hb22 => ?_)
    ·have h := cond_t hb22 h
     refine ht_skip ?_
     refine pt_then (ht_seq ?_)
     refine ht_block ?_
     refine ht_seq ?_
     obtain ⟨v3, hv3, h⟩ := bind_some h
     obtain ⟨v4, hv4, h⟩ := bind_some h
     obtain ⟨v5, hv5, h⟩ := bind_some h
     obtain ⟨v6, hv6, h⟩ := bind_some h
     obtain ⟨v7, hv7, h⟩ := bind_some h
     refine wb [[0],[5]] ?_
     refine wN [17,18] ?_
     refine wo [] ⟨lI hv3⟩ ?_
     refine wN [19,17] ?_
     refine wS (.agg [.v (.int .i64 v4.Kind), .v (.bool v4.Mail.From.Null), .v (.string v4.Mail.From.Local), .v (.string v4.Mail.From.Domain), .fl .shr 3 (List.flatten (List.map T_Path.enc v4.Mail.To)), .fl .shr 1 (List.map (Value.int .u8) v4.Mail.Body), .v (.bool v4.Mail.Quiet), .v (.string v4.Mail.Helo), .v (.int .i64 v4.Mail.At), .v (.int .i64 v4.Id), .fl .shr 1 (List.map (Value.int .i64) v4.Ids), .v (.int .i64 v4.Origin), .v (.int .i64 v4.Number), .v (.int .i64 v4.Offset), .fl .shr 1 (List.map (Value.int .u8) v4.Data)]) [[1],[5]] ⟨op_loadA_fr _ _ _ _ _ _ _ _ underlying46 rfl sz46 rfl rfl (gflat_get T_Rec.ilen hv4) (.cons (.v _) (.cons (.v _) (.cons (.v _) (.cons (.v _) (.cons (.fl _ _ rfl) (.cons (.fl _ _ rfl) (.cons (.v _) (.cons (.v _) (.cons (.v _) (.cons (.v _) (.cons (.fl _ _ rfl) (.cons (.v _) (.cons (.v _) (.cons (.v _) (.cons (.fl _ _ rfl) (.nil)))))))))))))))) rfl (by decide)⟩ ?_
     refine wN [21,22] ?_
     refine wo [] ⟨lI hv5⟩ ?_
     refine wN [23,21] ?_
     refine wS (.agg [.v (.int .i64 v6.Kind), .v (.bool v6.Mail.From.Null), .v (.string v6.Mail.From.Local), .v (.string v6.Mail.From.Domain), .fl .shr 3 (List.flatten (List.map T_Path.enc v6.Mail.To)), .fl .shr 1 (List.map (Value.int .u8) v6.Mail.Body), .v (.bool v6.Mail.Quiet), .v (.string v6.Mail.Helo), .v (.int .i64 v6.Mail.At), .v (.int .i64 v6.Id), .fl .shr 1 (List.map (Value.int .i64) v6.Ids), .v (.int .i64 v6.Origin), .v (.int .i64 v6.Number), .v (.int .i64 v6.Offset), .fl .shr 1 (List.map (Value.int .u8) v6.Data)]) [] ⟨op_loadA_fr _ _ _ _ _ _ _ _ underlying46 rfl sz46 rfl rfl (gflat_get T_Rec.ilen hv6) (.cons (.v _) (.cons (.v _) (.cons (.v _) (.cons (.v _) (.cons (.fl _ _ rfl) (.cons (.fl _ _ rfl) (.cons (.v _) (.cons (.v _) (.cons (.v _) (.cons (.v _) (.cons (.fl _ _ rfl) (.cons (.v _) (.cons (.v _) (.cons (.v _) (.cons (.fl _ _ rfl) (.nil)))))))))))))))) rfl (by decide)⟩ ?_
     refine wN [20,24] ?_
     refine wo [[25]] ⟨lk call51 (ok_wherrykeep_Rec _ _ _ hv7)⟩ ?_
     refine wee hn [0,1,5,26] ?_
     refine ht_cond _ rfl (fun hb23 => ?_) (fun hb23 => ?_)
     ·have h := cond_t hb23 h
      refine yyy hn 1 [4] ?_
      refine ht_ret ?_
      refine pt_r_in ?_
      refine pt_r_then ?_
      refine pt_r_then ?_
      refine pt_r_in ?_
      refine pt_r_then ?_
      have h := hr18 _ (ho19 _ (Option.some.inj h).symm).symm
      obtain rfl := Option.some.inj h
      exact pt_ret hio rfl (.tmp _ _ .nil) rfl rfl
     ·have h := cond_f hb23 h
      refine ht_skip ?_
      refine pt_inb ?_
      refine pt_then ?_
      obtain ⟨v9, hv9, h⟩ := bind_some h
      refine yx hn 1 ?_
      refine ys 0 ⟨lb hv9⟩ ?_
      refine yw [5] 1 ?_
      refine ye [0,1,5] ?_
      exact pt_next _ (Option.some.inj h).symm rfl
    ·have h := cond_f hb22 h
     refine ht_exit ?_
     refine pt_x_then ?_
     refine pt_x_then ?_
     refine pt_x_in ?_
     refine pt_pick [] (by kernel_rfl) (es' := []) rfl ?_
     exact hl17 _ (ho19 _ (Option.some.inj h).symm).symm
theorem ok_clone_Each_api_Rec_of_clone_Rec_oo (l : (List T_Rec)) (r : (List T_Rec)) (h : Sh.clone_Each_api_Rec_of_clone_Rec_oo l = some r) : FnOK Try.prog 48 [.fr .shr true 15 (List.flatten (List.map T_Rec.ienc l)), .v (.func (.func 41) #[] #[])] (.hid (ownJ 46 15 (List.flatten (List.map oe46 r)))) := by
  unfold Sh.clone_Each_api_Rec_of_clone_Rec_oo at h
  refine yO 22 func48 fun g0 hn hio => ?_
  refine yyy hn 1 [0,1] ?_
  refine yyy hn 1 [0,1,5] ?_
  refine ht_seq ?_
  refine yyy hn 3 [1,5,8,9,10] ?_
  refine ht_sub (fs := [(1, .v (.func (.func 41) #[] #[])), (5, .hid (ownJ 46 15 (List.flatten (List.map oe46 [])))), (8, .fr .shr true 15 (List.flatten (List.map T_Rec.ienc l))), (9, .v (.int .i64 (l.length : Int))), (10, .v (.int .i64 0))]) (.same _ (.sub _ (sub_nil_oe 46 15 oe46) rfl (.same _ (.same _ (.same _ .nil))))) ?_
  refine ht_loopS h (fun ((s10, s11) : (List T_Rec) × Int) => [(1, .v (.func (.func 41) #[] #[])), (5, .hid (ownJ 46 15 (List.flatten (List.map oe46 s10)))), (8, .fr .shr true 15 (List.flatten (List.map T_Rec.ienc l))), (9, .v (.int .i64 (l.length : Int))), (10, .v (.int .i64 s11))]) (fun (s13 : (List T_Rec)) => [(5, .hid (ownJ 46 15 (List.flatten (List.map oe46 s13))))]) ?_ ?_
  ·rintro s13 h
   refine pt_then ?_
   refine yxx hn 0 ?_
   refine ym 0 ?_
   refine ya 0 ?_
   refine yee [4] ?_
   refine ht_ret ?_
   obtain rfl := Option.some.inj h
   exact pt_ret hio rfl (.tmp _ _ .nil) rfl rfl
  ·rintro u14 hl15 hr16 ⟨s10, s11⟩ rr19 h ho17
   refine yyy hn 1 [1,5,8,9,10,11] ?_
   refine ht_seq ?_
   refine ht_cond _ rfl (fun hb20 => ?_) (fun hb20 => ?_)
   ·have h := cond_t hb20 h
    refine ht_skip ?_
    refine pt_then (ht_seq ?_)
    refine ht_block ?_
    refine ht_seq ?_
    obtain ⟨v2, hv2, h⟩ := bind_some h
    obtain ⟨v3, hv3, h⟩ := bind_some h
    refine yx hn 0 ?_
    refine ys 0 ⟨lI hv2⟩ ?_
    refine yS (.agg [.v (.int .i64 v3.Kind), .v (.bool v3.Mail.From.Null), .v (.string v3.Mail.From.Local), .v (.string v3.Mail.From.Domain), .fl .shr 3 (List.flatten (List.map T_Path.enc v3.Mail.To)), .fl .shr 1 (List.map (Value.int .u8) v3.Mail.Body), .v (.bool v3.Mail.Quiet), .v (.string v3.Mail.Helo), .v (.int .i64 v3.Mail.At), .v (.int .i64 v3.Id), .fl .shr 1 (List.map (Value.int .i64) v3.Ids), .v (.int .i64 v3.Origin), .v (.int .i64 v3.Number), .v (.int .i64 v3.Offset), .fl .shr 1 (List.map (Value.int .u8) v3.Data)]) 0 ⟨op_loadA_fr _ _ _ _ _ _ _ _ underlying46 rfl sz46 rfl rfl (gflat_get T_Rec.ilen hv3) (.cons (.v _) (.cons (.v _) (.cons (.v _) (.cons (.v _) (.cons (.fl _ _ rfl) (.cons (.fl _ _ rfl) (.cons (.v _) (.cons (.v _) (.cons (.v _) (.cons (.v _) (.cons (.fl _ _ rfl) (.cons (.v _) (.cons (.v _) (.cons (.v _) (.cons (.fl _ _ rfl) (.nil)))))))))))))))) rfl (by decide)⟩ ?_
    refine yS (.box 46 [.v (.int .i64 0), .v (.bool false), .v (.string (⟨#[]⟩ : ByteArray)), .v (.string (⟨#[]⟩ : ByteArray)), .v (.slice none 0 0), .v (.slice none 0 0), .v (.bool false), .v (.string (⟨#[]⟩ : ByteArray)), .v (.int .i64 0), .v (.int .i64 0), .v (.slice none 0 0), .v (.int .i64 0), .v (.int .i64 0), .v (.int .i64 0), .v (.slice none 0 0)]) 1 ⟨oA (op_alloc _ _ zr46)⟩ ?_
    refine yee [1,5,8,9,10,7] ?_
    obtain ⟨v4, hv4, h⟩ := bind_some h
    obtain ⟨v5, hv5, h⟩ := bind_some h
    refine yx hn 0 ?_
    refine ym 2 ?_
    refine ys 0 ⟨lk call41 (ok_clone_Rec _ _ hv4)⟩ ?_
    refine yk [17] [] ?_
    refine yt (18, .hid (ownJ 46 15 (List.flatten (List.map oe46 [(T_Rec.mk v4.Kind ((T_Mail.mk (T_Path.mk v4.Mail.From.Null v4.Mail.From.Local v4.Mail.From.Domain) v4.Mail.To v4.Mail.Body v4.Mail.Quiet v4.Mail.Helo v4.Mail.At)) v4.Id v4.Ids v4.Origin v4.Number v4.Offset v4.Data)])))) 0 ⟨op_build1_own _ _ _ 15 (.agg #[.int .i64 0, .bool false, .string ByteArray.empty, .string ByteArray.empty, .slice none 0 0, .slice none 0 0, .bool false, .string ByteArray.empty, .int .i64 0, .int .i64 0, .slice none 0 0, .int .i64 0, .int .i64 0, .int .i64 0, .slice none 0 0]) _ (List.flatten (List.map oe46 [(T_Rec.mk v4.Kind ((T_Mail.mk (T_Path.mk v4.Mail.From.Null v4.Mail.From.Local v4.Mail.From.Domain) v4.Mail.To v4.Mail.Body v4.Mail.Quiet v4.Mail.Helo v4.Mail.At)) v4.Id v4.Ids v4.Origin v4.Number v4.Offset v4.Data)])) underlying31 sz46 zr46 rfl rfl rfl (by decide) (by decide) rfl⟩ ?_
    refine yk [14,18] [] ?_
    refine yn [(14, .any), (18, .any), (19, .hid (ownJ 46 15 (List.flatten (List.map oe46 v5))))] 0 ⟨op_app_own _ 19 14 18 el31 (gflat_len oe46_l _) (gflat_len oe46_l _) hv5 (gflat_app (app_eq hv5))⟩ ?_
    refine ya 0 ?_
    refine ye [1,8,9,10,5] ?_
    refine pt_inb ?_
    refine pt_then ?_
    obtain ⟨v6, hv6, h⟩ := bind_some h
    refine yx hn 0 ?_
    refine ys 0 ⟨lb hv6⟩ ?_
    refine yw [10] 1 ?_
    refine ye [1,8,9,5,10] ?_
    refine pt_pick [0, 3, 1, 2, 4] (by kernel_rfl) (es' := [(_,_),(_,_),(_,_),(_,_),(_,_)]) rfl ?_
    exact pt_next _ (Option.some.inj h).symm rfl
   ·have h := cond_f hb20 h
    refine ht_exit ?_
    refine pt_x_then ?_
    refine pt_x_then ?_
    refine pt_x_in ?_
    refine pt_pick [1] (by kernel_rfl) (es' := [(_,_)]) rfl ?_
    exact hl15 _ (ho17 _ (Option.some.inj h).symm).symm
theorem ok_diary_Diary_Read (d : T_diary_Diary) (r : ((List T_Rec) × Int × T_diary_Diary)) (h : Sh.diary_Diary_Read d = some r) : FnP Try.prog 30 [.box 64 [.v (.int .i64 d.limit), .fr (.own 46) false 15 (List.flatten (List.map T_Rec.ienc d.recs)), .v (.int .i64 d.used), .v (.int .i64 d.safe), .v (.int .i64 d.kept), .v (.int .i64 d.life), .v (.bool d.off), .v (.int .i64 d.trip), .v (.int .i64 d.tripKeep)]] [.box 64 [.v (.int .i64 r.2.2.limit), .fr (.own 46) false 15 (List.flatten (List.map T_Rec.ienc r.2.2.recs)), .v (.int .i64 r.2.2.used), .v (.int .i64 r.2.2.safe), .v (.int .i64 r.2.2.kept), .v (.int .i64 r.2.2.life), .v (.bool r.2.2.off), .v (.int .i64 r.2.2.trip), .v (.int .i64 r.2.2.tripKeep)]] (.tup [.hid (ownJ 46 15 (List.flatten (List.map oe46 r.1))), .v (.int .i64 r.2.1)]) := by
  unfold Sh.diary_Diary_Read at h
  refine yP 13 func30 fun args0 hargs0 g0 hn hio => ?_
  refine yyy hn 2 [0,0] ?_
  refine ht_seq ?_
  refine yyy hn 4 [0,7,0] ?_
  refine ht_cond _ rfl (fun hb1 => ?_) (fun hb1 => ?_)
  ·have h := cond_t hb1 h
   refine yyy hn 2 [0,2,3,0] ?_
   refine ht_ret ?_
   refine pt_pick [1, 2, 0, 3] (by kernel_rfl) (es' := [(_,_),(_,_),(_,_),(_,_)]) rfl ?_
   refine pt_sub (fs := [(2, .hid (ownJ 46 15 (List.flatten (List.map oe46 [])))), (3, .v (.int .i64 7)), (0, .box 64 [.v (.int .i64 d.limit), .fr (.own 46) false 15 (List.flatten (List.map T_Rec.ienc d.recs)), .v (.int .i64 d.used), .v (.int .i64 d.safe), .v (.int .i64 d.kept), .v (.int .i64 d.life), .v (.bool d.off), .v (.int .i64 d.trip), .v (.int .i64 d.tripKeep)]), (0, .v (List.getD args0 0 undef))]) (.sub _ (sub_nil_oe 46 15 oe46) rfl (.same _ (.same _ (.same _ .nil)))) ?_
   refine pt_r_then ?_
   obtain rfl := Option.some.inj h
   exact pt_retP (es := [(2, .hid (ownJ 46 15 (List.flatten (List.map oe46 [])))), (3, .v (.int .i64 7))]) (posts := [.box 64 [.v (.int .i64 d.limit), .fr (.own 46) false 15 (List.flatten (List.map T_Rec.ienc d.recs)), .v (.int .i64 d.used), .v (.int .i64 d.safe), .v (.int .i64 d.kept), .v (.int .i64 d.life), .v (.bool d.off), .v (.int .i64 d.trip), .v (.int .i64 d.tripKeep)]]) hio rfl rfl (.tmp _ _ (.tmp _ _ .nil)) rfl rfl hargs0 rfl
  ·have h := cond_f hb1 h
   refine ht_skip ?_
   refine pt_then (ht_seq ?_)
   obtain ⟨v2, hv2, h⟩ := bind_some h
   refine yx hn 4 ?_
   refine yS (.hid (ownJ 46 15 (List.flatten (List.map oe46 v2)))) 0 ⟨op_callO _ _ 48 _ rfl call48 rfl (ok_clone_Each_api_Rec_of_clone_Rec_oo d.recs _ hv2) (oe_closed oe46_c _) (oe_noShr oe46_s _)⟩ ?_
   refine ya 1 ?_
   refine yee [0,2,3,0] ?_
   refine ht_ret ?_
   refine pt_pick [1, 2, 0, 3] (by kernel_rfl) (es' := [(_,_),(_,_),(_,_),(_,_)]) rfl ?_
   obtain rfl := Option.some.inj h
   exact pt_retP (es := [(2, .hid (ownJ 46 15 (List.flatten (List.map oe46 v2)))), (3, .v (.int .i64 0))]) (posts := [.box 64 [.v (.int .i64 d.limit), .fr (.own 46) false 15 (List.flatten (List.map T_Rec.ienc d.recs)), .v (.int .i64 d.used), .v (.int .i64 d.safe), .v (.int .i64 d.kept), .v (.int .i64 d.life), .v (.bool d.off), .v (.int .i64 d.trip), .v (.int .i64 d.tripKeep)]]) hio rfl rfl (.tmp _ _ (.tmp _ _ .nil)) rfl rfl hargs0 rfl
theorem ok_wherryref18_Diary_Read (d : T_wherryref18_Diary) (r : ((List T_Rec) × Int × T_wherryref18_Diary)) (h : Sh.wherryref18_Diary_Read d = some r) : FnP Try.prog 52 [.box 67 [.v (.int .i64 d.Limit), .fr (.own 46) false 15 (List.flatten (List.map T_Rec.ienc d.Recs)), .v (.int .i64 d.Sure), .v (.bool d.IsOff), .v (.int .i64 d.Lives), .v (.int .i64 d.Left), .v (.int .i64 d.Keep), .v (.int .i64 d.Kept)]] [.box 67 [.v (.int .i64 r.2.2.Limit), .fr (.own 46) false 15 (List.flatten (List.map T_Rec.ienc r.2.2.Recs)), .v (.int .i64 r.2.2.Sure), .v (.bool r.2.2.IsOff), .v (.int .i64 r.2.2.Lives), .v (.int .i64 r.2.2.Left), .v (.int .i64 r.2.2.Keep), .v (.int .i64 r.2.2.Kept)]] (.tup [.fr (.own 46) false 15 (List.flatten (List.map T_Rec.ienc r.1)), .v (.int .i64 r.2.1)]) := by
  unfold Sh.wherryref18_Diary_Read at h
  refine yP 13 func52 fun args0 hargs0 g0 hn hio => ?_
  refine yyy hn 2 [0,0] ?_
  refine ht_seq ?_
  refine yyy hn 4 [0,7,0] ?_
  refine ht_cond _ rfl (fun hb1 => ?_) (fun hb1 => ?_)
  ·have h := cond_t hb1 h
   refine yyy hn 2 [0,2,3,0] ?_
   refine ht_ret ?_
   refine pt_pick [1, 2, 0, 3] (by kernel_rfl) (es' := [(_,_),(_,_),(_,_),(_,_)]) rfl ?_
   refine pt_sub (fs := [(2, .fr (.own 46) false 15 (List.flatten (List.map T_Rec.ienc []))), (3, .v (.int .i64 7)), (0, .box 67 [.v (.int .i64 d.Limit), .fr (.own 46) false 15 (List.flatten (List.map T_Rec.ienc d.Recs)), .v (.int .i64 d.Sure), .v (.bool d.IsOff), .v (.int .i64 d.Lives), .v (.int .i64 d.Left), .v (.int .i64 d.Keep), .v (.int .i64 d.Kept)]), (0, .v (List.getD args0 0 undef))]) (.sub _ (sub_nil_fr 46 false 15) rfl (.same _ (.same _ (.same _ .nil)))) ?_
   refine pt_r_then ?_
   obtain rfl := Option.some.inj h
   exact pt_retP (es := [(2, .fr (.own 46) false 15 (List.flatten (List.map T_Rec.ienc []))), (3, .v (.int .i64 7))]) (posts := [.box 67 [.v (.int .i64 d.Limit), .fr (.own 46) false 15 (List.flatten (List.map T_Rec.ienc d.Recs)), .v (.int .i64 d.Sure), .v (.bool d.IsOff), .v (.int .i64 d.Lives), .v (.int .i64 d.Left), .v (.int .i64 d.Keep), .v (.int .i64 d.Kept)]]) hio rfl rfl (.tmp _ _ (.tmp _ _ .nil)) rfl rfl hargs0 rfl
  ·have h := cond_f hb1 h
   refine ht_skip ?_
   refine pt_then (ht_seq ?_)
   obtain ⟨v2, hv2, h⟩ := bind_some h
   refine yx hn 4 ?_
   refine ys 0 ⟨lk call14 (ok_wherrykeep_TwinRecs _ _ hv2)⟩ ?_
   refine ya 1 ?_
   refine yee [0,2,3,0] ?_
   refine ht_ret ?_
   refine pt_pick [1, 2, 0, 3] (by kernel_rfl) (es' := [(_,_),(_,_),(_,_),(_,_)]) rfl ?_
   obtain rfl := Option.some.inj h
   exact pt_retP (es := [(2, .fr (.own 46) false 15 (List.flatten (List.map T_Rec.ienc v2))), (3, .v (.int .i64 0))]) (posts := [.box 67 [.v (.int .i64 d.Limit), .fr (.own 46) false 15 (List.flatten (List.map T_Rec.ienc d.Recs)), .v (.int .i64 d.Sure), .v (.bool d.IsOff), .v (.int .i64 d.Lives), .v (.int .i64 d.Left), .v (.int .i64 d.Keep), .v (.int .i64 d.Kept)]]) hio rfl rfl (.tmp _ _ (.tmp _ _ .nil)) rfl rfl hargs0 rfl
theorem ok_diary_Diary_Off (d : T_diary_Diary) (r : (Bool × T_diary_Diary)) (h : Sh.diary_Diary_Off d = some r) : FnP Try.prog 37 [.box 64 [.v (.int .i64 d.limit), .fr (.own 46) false 15 (List.flatten (List.map T_Rec.ienc d.recs)), .v (.int .i64 d.used), .v (.int .i64 d.safe), .v (.int .i64 d.kept), .v (.int .i64 d.life), .v (.bool d.off), .v (.int .i64 d.trip), .v (.int .i64 d.tripKeep)]] [.box 64 [.v (.int .i64 r.2.limit), .fr (.own 46) false 15 (List.flatten (List.map T_Rec.ienc r.2.recs)), .v (.int .i64 r.2.used), .v (.int .i64 r.2.safe), .v (.int .i64 r.2.kept), .v (.int .i64 r.2.life), .v (.bool r.2.off), .v (.int .i64 r.2.trip), .v (.int .i64 r.2.tripKeep)]] (.v (.bool r.1)) := by
  unfold Sh.diary_Diary_Off at h
  refine yP 7 func37 fun args0 hargs0 g0 hn hio => ?_
  refine yyy hn 1 [0,0] ?_
  refine yyy hn 5 [0,2,0] ?_
  refine ht_ret ?_
  refine pt_pick [1, 0, 2] (by kernel_rfl) (es' := [(_,_),(_,_),(_,_)]) rfl ?_
  obtain rfl := Option.some.inj h
  exact pt_retP (es := [(2, .v (.bool d.off))]) (posts := [.box 64 [.v (.int .i64 d.limit), .fr (.own 46) false 15 (List.flatten (List.map T_Rec.ienc d.recs)), .v (.int .i64 d.used), .v (.int .i64 d.safe), .v (.int .i64 d.kept), .v (.int .i64 d.life), .v (.bool d.off), .v (.int .i64 d.trip), .v (.int .i64 d.tripKeep)]]) hio rfl rfl (.tmp _ _ .nil) rfl rfl hargs0 rfl
theorem ok_diary_Diary_Life (d : T_diary_Diary) (r : (Int × T_diary_Diary)) (h : Sh.diary_Diary_Life d = some r) : FnP Try.prog 36 [.box 64 [.v (.int .i64 d.limit), .fr (.own 46) false 15 (List.flatten (List.map T_Rec.ienc d.recs)), .v (.int .i64 d.used), .v (.int .i64 d.safe), .v (.int .i64 d.kept), .v (.int .i64 d.life), .v (.bool d.off), .v (.int .i64 d.trip), .v (.int .i64 d.tripKeep)]] [.box 64 [.v (.int .i64 r.2.limit), .fr (.own 46) false 15 (List.flatten (List.map T_Rec.ienc r.2.recs)), .v (.int .i64 r.2.used), .v (.int .i64 r.2.safe), .v (.int .i64 r.2.kept), .v (.int .i64 r.2.life), .v (.bool r.2.off), .v (.int .i64 r.2.trip), .v (.int .i64 r.2.tripKeep)]] (.v (.int .i64 r.1)) := by
  unfold Sh.diary_Diary_Life at h
  refine yP 7 func36 fun args0 hargs0 g0 hn hio => ?_
  refine yyy hn 1 [0,0] ?_
  refine yyy hn 5 [0,2,0] ?_
  refine ht_ret ?_
  refine pt_pick [1, 0, 2] (by kernel_rfl) (es' := [(_,_),(_,_),(_,_)]) rfl ?_
  obtain rfl := Option.some.inj h
  exact pt_retP (es := [(2, .v (.int .i64 d.life))]) (posts := [.box 64 [.v (.int .i64 d.limit), .fr (.own 46) false 15 (List.flatten (List.map T_Rec.ienc d.recs)), .v (.int .i64 d.used), .v (.int .i64 d.safe), .v (.int .i64 d.kept), .v (.int .i64 d.life), .v (.bool d.off), .v (.int .i64 d.trip), .v (.int .i64 d.tripKeep)]]) hio rfl rfl (.tmp _ _ .nil) rfl rfl hargs0 rfl
theorem ok_diary_Diary_Len (d : T_diary_Diary) (r : (Int × T_diary_Diary)) (h : Sh.diary_Diary_Len d = some r) : FnP Try.prog 34 [.box 64 [.v (.int .i64 d.limit), .fr (.own 46) false 15 (List.flatten (List.map T_Rec.ienc d.recs)), .v (.int .i64 d.used), .v (.int .i64 d.safe), .v (.int .i64 d.kept), .v (.int .i64 d.life), .v (.bool d.off), .v (.int .i64 d.trip), .v (.int .i64 d.tripKeep)]] [.box 64 [.v (.int .i64 r.2.limit), .fr (.own 46) false 15 (List.flatten (List.map T_Rec.ienc r.2.recs)), .v (.int .i64 r.2.used), .v (.int .i64 r.2.safe), .v (.int .i64 r.2.kept), .v (.int .i64 r.2.life), .v (.bool r.2.off), .v (.int .i64 r.2.trip), .v (.int .i64 r.2.tripKeep)]] (.v (.int .i64 r.1)) := by
  unfold Sh.diary_Diary_Len at h
  refine yP 8 func34 fun args0 hargs0 g0 hn hio => ?_
  refine yyy hn 1 [0,0] ?_
  refine yyy hn 6 [0,2,0] ?_
  refine ht_ret ?_
  refine pt_pick [1, 0, 2] (by kernel_rfl) (es' := [(_,_),(_,_),(_,_)]) rfl ?_
  obtain rfl := Option.some.inj h
  exact pt_retP (es := [(2, .v (.int .i64 (d.recs.length : Int)))]) (posts := [.box 64 [.v (.int .i64 d.limit), .fr (.own 46) false 15 (List.flatten (List.map T_Rec.ienc d.recs)), .v (.int .i64 d.used), .v (.int .i64 d.safe), .v (.int .i64 d.kept), .v (.int .i64 d.life), .v (.bool d.off), .v (.int .i64 d.trip), .v (.int .i64 d.tripKeep)]]) hio rfl rfl (.tmp _ _ .nil) rfl rfl hargs0 rfl
theorem ok_diary_Diary_Safe (d : T_diary_Diary) (r : (Int × T_diary_Diary)) (h : Sh.diary_Diary_Safe d = some r) : FnP Try.prog 31 [.box 64 [.v (.int .i64 d.limit), .fr (.own 46) false 15 (List.flatten (List.map T_Rec.ienc d.recs)), .v (.int .i64 d.used), .v (.int .i64 d.safe), .v (.int .i64 d.kept), .v (.int .i64 d.life), .v (.bool d.off), .v (.int .i64 d.trip), .v (.int .i64 d.tripKeep)]] [.box 64 [.v (.int .i64 r.2.limit), .fr (.own 46) false 15 (List.flatten (List.map T_Rec.ienc r.2.recs)), .v (.int .i64 r.2.used), .v (.int .i64 r.2.safe), .v (.int .i64 r.2.kept), .v (.int .i64 r.2.life), .v (.bool r.2.off), .v (.int .i64 r.2.trip), .v (.int .i64 r.2.tripKeep)]] (.v (.int .i64 r.1)) := by
  unfold Sh.diary_Diary_Safe at h
  refine yP 7 func31 fun args0 hargs0 g0 hn hio => ?_
  refine yyy hn 1 [0,0] ?_
  refine yyy hn 5 [0,2,0] ?_
  refine ht_ret ?_
  refine pt_pick [1, 0, 2] (by kernel_rfl) (es' := [(_,_),(_,_),(_,_)]) rfl ?_
  obtain rfl := Option.some.inj h
  exact pt_retP (es := [(2, .v (.int .i64 d.safe))]) (posts := [.box 64 [.v (.int .i64 d.limit), .fr (.own 46) false 15 (List.flatten (List.map T_Rec.ienc d.recs)), .v (.int .i64 d.used), .v (.int .i64 d.safe), .v (.int .i64 d.kept), .v (.int .i64 d.life), .v (.bool d.off), .v (.int .i64 d.trip), .v (.int .i64 d.tripKeep)]]) hio rfl rfl (.tmp _ _ .nil) rfl rfl hargs0 rfl
end Go.Proofs.Ytbioodcjmceefaa
