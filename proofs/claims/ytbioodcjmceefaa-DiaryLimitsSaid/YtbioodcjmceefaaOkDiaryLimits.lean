/-
  The model's runs are what is told in Lean.
-/
import Derived.Test.YtbioodcjmceefaaProg
import Derived.KernelRfl
import Derived.Test.YtbioodcjmceefaaOkc2
set_option linter.unusedVariables false
set_option linter.unusedSimpArgs false
namespace Go.Proofs.Ytbioodcjmceefaa
open Go.Abs Go.Abs.Sh

set_option maxHeartbeats 1000000 in
theorem ok_wherrylaw18_DiaryLimits (limit : Int) (p_r : T_Rec) (r : Bool) (h : Sh.wherrylaw18_DiaryLimits limit p_r = some r) : FnOK Try.prog 9 [.v (.int .i64 limit), .agg [.v (.int .i64 p_r.Kind), .v (.bool p_r.Mail.From.Null), .v (.string p_r.Mail.From.Local), .v (.string p_r.Mail.From.Domain), .fl .shr 3 (List.flatten (List.map T_Path.enc p_r.Mail.To)), .fl .shr 1 (List.map (Value.int .u8) p_r.Mail.Body), .v (.bool p_r.Mail.Quiet), .v (.string p_r.Mail.Helo), .v (.int .i64 p_r.Mail.At), .v (.int .i64 p_r.Id), .fl .shr 1 (List.map (Value.int .i64) p_r.Ids), .v (.int .i64 p_r.Origin), .v (.int .i64 p_r.Number), .v (.int .i64 p_r.Offset), .fl .shr 1 (List.map (Value.int .u8) p_r.Data)]] (.v (.bool r)) := by
  unfold Sh.wherrylaw18_DiaryLimits at h
  refine fn_ok Try.func9 rfl (Nat.le_of_ble_eq_true rfl) rfl rfl fun g0 hn hio => ?_
  refine ht_seq ?_
  refine ht_seqR hn (El := [_, _, (3, .box 46 [.v (.int .i64 p_r.Kind), .v (.bool p_r.Mail.From.Null), .v (.string p_r.Mail.From.Local), .v (.string p_r.Mail.From.Domain), .fl .shr 3 (List.flatten (List.map T_Path.enc p_r.Mail.To)), .fl .shr 1 (List.map (Value.int .u8) p_r.Mail.Body), .v (.bool p_r.Mail.Quiet), .v (.string p_r.Mail.Helo), .v (.int .i64 p_r.Mail.At), .v (.int .i64 p_r.Id), .fl .shr 1 (List.map (Value.int .i64) p_r.Ids), .v (.int .i64 p_r.Origin), .v (.int .i64 p_r.Number), .v (.int .i64 p_r.Offset), .fl .shr 1 (List.map (Value.int .u8) p_r.Data)]), (4, .v (.bool false))]) (init := [0, 1]) (fin := [0, 2]) (sps := [⟨[1], [], [2], [(.slot 3)]⟩, ⟨[], [], [3], [(.slot 4)]⟩]) (es' := [(_, _), (3, .box 46 [.v (.int .i64 p_r.Kind), .v (.bool p_r.Mail.From.Null), .v (.string p_r.Mail.From.Local), .v (.string p_r.Mail.From.Domain), .fl .shr 3 (List.flatten (List.map T_Path.enc p_r.Mail.To)), .fl .shr 1 (List.map (Value.int .u8) p_r.Mail.Body), .v (.bool p_r.Mail.Quiet), .v (.string p_r.Mail.Helo), .v (.int .i64 p_r.Mail.At), .v (.int .i64 p_r.Id), .fl .shr 1 (List.map (Value.int .i64) p_r.Ids), .v (.int .i64 p_r.Origin), .v (.int .i64 p_r.Number), .v (.int .i64 p_r.Offset), .fl .shr 1 (List.map (Value.int .u8) p_r.Data)])]) (by kernel_rfl) rfl rfl
   ⟨st_plain rfl (op_box _ _ _ _ rfl rfl rfl),
   st_plain rfl (op_assign _ _ _ _ rfl rfl),
   trivial⟩ ?_
  refine pt_then ?_
  refine ht_seq ?_
  refine ht_seq ?_
  obtain ⟨v1, hv1, h⟩ := bind_some h
  refine ht_seqR hn (El := [_, _, (11, .agg [.v (.int .i64 p_r.Kind), .v (.bool p_r.Mail.From.Null), .v (.string p_r.Mail.From.Local), .v (.string p_r.Mail.From.Domain), .fl .shr 3 (List.flatten (List.map T_Path.enc p_r.Mail.To)), .fl .shr 1 (List.map (Value.int .u8) p_r.Mail.Body), .v (.bool p_r.Mail.Quiet), .v (.string p_r.Mail.Helo), .v (.int .i64 p_r.Mail.At), .v (.int .i64 p_r.Id), .fl .shr 1 (List.map (Value.int .i64) p_r.Ids), .v (.int .i64 p_r.Origin), .v (.int .i64 p_r.Number), .v (.int .i64 p_r.Offset), .fl .shr 1 (List.map (Value.int .u8) p_r.Data)]), (12, .fr (.own 46) true 15 (List.flatten (List.map T_Rec.ienc [(T_Rec.mk p_r.Kind ((T_Mail.mk (T_Path.mk p_r.Mail.From.Null p_r.Mail.From.Local p_r.Mail.From.Domain) p_r.Mail.To p_r.Mail.Body p_r.Mail.Quiet p_r.Mail.Helo p_r.Mail.At)) p_r.Id p_r.Ids p_r.Origin p_r.Number p_r.Offset p_r.Data)]))), (13, .v (.bool v1))]) (init := [0, 1]) (fin := [0, 1, 4]) (sps := [⟨[1], [], [2], [(.slot 11)]⟩, ⟨[2], [], [3], [(.slot 12)]⟩, ⟨[3], [], [4], [(.slot 13)]⟩]) (es' := [(_, _), (_, _), (13, .v (.bool v1))]) (by kernel_rfl) rfl rfl
   ⟨st_plain rfl (op_loadA _ _ _ _ _ _ _ Try.underlying46 rfl sz46 rfl rfl (Nat.le_of_ble_eq_true rfl) rfl rfl),
   st_plain rfl (op_build1_fr _ _ _ 15 (.agg #[.int .i64 0, .bool false, .string ByteArray.empty, .string ByteArray.empty, .slice none 0 0, .slice none 0 0, .bool false, .string ByteArray.empty, .int .i64 0, .int .i64 0, .slice none 0 0, .int .i64 0, .int .i64 0, .int .i64 0, .slice none 0 0]) true _ _ Try.underlying31 sz46 zr46 rfl rfl (.cons (.v _) (.cons (.v _) (.cons (.v _) (.cons (.v _) (.cons (.shr _ _ rfl rfl) (.cons (.shr _ _ rfl rfl) (.cons (.v _) (.cons (.v _) (.cons (.v _) (.cons (.v _) (.cons (.shr _ _ rfl rfl) (.cons (.v _) (.cons (.v _) (.cons (.v _) (.cons (.shr _ _ rfl rfl) (.nil)))))))))))))))) rfl (by decide) (by decide)),
   st_plain rfl (op_call _ _ 13 _ _ rfl Try.call13 rfl (ok_wherrylaw18_Heavy [(T_Rec.mk p_r.Kind ((T_Mail.mk (T_Path.mk p_r.Mail.From.Null p_r.Mail.From.Local p_r.Mail.From.Domain) p_r.Mail.To p_r.Mail.Body p_r.Mail.Quiet p_r.Mail.Helo p_r.Mail.At)) p_r.Id p_r.Ids p_r.Origin p_r.Number p_r.Offset p_r.Data)] _ hv1) rfl rfl),
   trivial⟩ ?_
  refine pt_then ?_
  refine ht_cond _ rfl (fun hb2 => ?_) (fun hb2 => ?_)
  ·have h := cond_t hb2 h
   refine ht_seq ?_
   refine ht_seqR hn (El := [_, _, _, (4, .v (.bool true))]) (init := [0, 1, 2]) (fin := [3]) (sps := [⟨[], [], [3], [(.slot 4)]⟩]) (es' := [(4, .v (.bool true))]) (by kernel_rfl) rfl rfl
    ⟨st_plain rfl (op_assign _ _ _ _ rfl rfl),
    trivial⟩ ?_
   refine pt_then ?_
   refine ht_ret ?_
   refine pt_r_then ?_
   obtain rfl := Option.some.inj h
   exact pt_ret hio rfl (.tmp _ _ .nil) rfl rfl
  ·have h := cond_f hb2 h
   refine ht_skip ?_
   refine pt_then ?_
   refine ht_seq ?_
   obtain ⟨v3, hv3, h⟩ := bind_some h
   refine ht_seqR hn (El := [_, _, _, (15, .v (.int .i64 limit)), (16, .tup [.obox (Option.isSome v3.1) 64 [.v (.int .i64 (((Option.getD v3.1 (default : T_diary_Diary))).limit)), .fr (.own 46) false 15 (List.flatten (List.map T_Rec.ienc (((Option.getD v3.1 (default : T_diary_Diary))).recs))), .v (.int .i64 (((Option.getD v3.1 (default : T_diary_Diary))).used)), .v (.int .i64 (((Option.getD v3.1 (default : T_diary_Diary))).safe)), .v (.int .i64 (((Option.getD v3.1 (default : T_diary_Diary))).kept)), .v (.int .i64 (((Option.getD v3.1 (default : T_diary_Diary))).life)), .v (.bool (((Option.getD v3.1 (default : T_diary_Diary))).off)), .v (.int .i64 (((Option.getD v3.1 (default : T_diary_Diary))).trip)), .v (.int .i64 (((Option.getD v3.1 (default : T_diary_Diary))).tripKeep))], .v (.int .i64 v3.2)]), (14, .tup [.obox (Option.isSome v3.1) 64 [.v (.int .i64 (((Option.getD v3.1 (default : T_diary_Diary))).limit)), .fr (.own 46) false 15 (List.flatten (List.map T_Rec.ienc (((Option.getD v3.1 (default : T_diary_Diary))).recs))), .v (.int .i64 (((Option.getD v3.1 (default : T_diary_Diary))).used)), .v (.int .i64 (((Option.getD v3.1 (default : T_diary_Diary))).safe)), .v (.int .i64 (((Option.getD v3.1 (default : T_diary_Diary))).kept)), .v (.int .i64 (((Option.getD v3.1 (default : T_diary_Diary))).life)), .v (.bool (((Option.getD v3.1 (default : T_diary_Diary))).off)), .v (.int .i64 (((Option.getD v3.1 (default : T_diary_Diary))).trip)), .v (.int .i64 (((Option.getD v3.1 (default : T_diary_Diary))).tripKeep))], .v (.int .i64 v3.2)]), (17, .obox (Option.isSome v3.1) 64 [.v (.int .i64 (((Option.getD v3.1 (default : T_diary_Diary))).limit)), .fr (.own 46) false 15 (List.flatten (List.map T_Rec.ienc (((Option.getD v3.1 (default : T_diary_Diary))).recs))), .v (.int .i64 (((Option.getD v3.1 (default : T_diary_Diary))).used)), .v (.int .i64 (((Option.getD v3.1 (default : T_diary_Diary))).safe)), .v (.int .i64 (((Option.getD v3.1 (default : T_diary_Diary))).kept)), .v (.int .i64 (((Option.getD v3.1 (default : T_diary_Diary))).life)), .v (.bool (((Option.getD v3.1 (default : T_diary_Diary))).off)), .v (.int .i64 (((Option.getD v3.1 (default : T_diary_Diary))).trip)), .v (.int .i64 (((Option.getD v3.1 (default : T_diary_Diary))).tripKeep))]), (14, .tup [.any, .v (.int .i64 v3.2)]), (18, .v (.int .i64 v3.2)), (5, .obox (Option.isSome v3.1) 64 [.v (.int .i64 (((Option.getD v3.1 (default : T_diary_Diary))).limit)), .fr (.own 46) false 15 (List.flatten (List.map T_Rec.ienc (((Option.getD v3.1 (default : T_diary_Diary))).recs))), .v (.int .i64 (((Option.getD v3.1 (default : T_diary_Diary))).used)), .v (.int .i64 (((Option.getD v3.1 (default : T_diary_Diary))).safe)), .v (.int .i64 (((Option.getD v3.1 (default : T_diary_Diary))).kept)), .v (.int .i64 (((Option.getD v3.1 (default : T_diary_Diary))).life)), .v (.bool (((Option.getD v3.1 (default : T_diary_Diary))).off)), .v (.int .i64 (((Option.getD v3.1 (default : T_diary_Diary))).trip)), .v (.int .i64 (((Option.getD v3.1 (default : T_diary_Diary))).tripKeep))]), (6, .v (.int .i64 v3.2))]) (init := [0, 1, 2]) (fin := [0, 1, 9, 10]) (sps := [⟨[0], [], [3], [(.slot 15)]⟩, ⟨[3], [], [4], [(.slot 16)]⟩, ⟨[], [4], [5], [(.slot 14)]⟩, ⟨[], [5], [7, 6], [(.slot 17)]⟩, ⟨[7], [], [8], [(.slot 18)]⟩, ⟨[], [6], [9], [(.slot 5)]⟩, ⟨[8], [], [10], [(.slot 6)]⟩]) (es' := [(_, _), (_, _), (5, .obox (Option.isSome v3.1) 64 [.v (.int .i64 (((Option.getD v3.1 (default : T_diary_Diary))).limit)), .fr (.own 46) false 15 (List.flatten (List.map T_Rec.ienc (((Option.getD v3.1 (default : T_diary_Diary))).recs))), .v (.int .i64 (((Option.getD v3.1 (default : T_diary_Diary))).used)), .v (.int .i64 (((Option.getD v3.1 (default : T_diary_Diary))).safe)), .v (.int .i64 (((Option.getD v3.1 (default : T_diary_Diary))).kept)), .v (.int .i64 (((Option.getD v3.1 (default : T_diary_Diary))).life)), .v (.bool (((Option.getD v3.1 (default : T_diary_Diary))).off)), .v (.int .i64 (((Option.getD v3.1 (default : T_diary_Diary))).trip)), .v (.int .i64 (((Option.getD v3.1 (default : T_diary_Diary))).tripKeep))]), (6, .v (.int .i64 v3.2))]) (by kernel_rfl) rfl rfl
    ⟨st_plain rfl (op_move _ _ _ _ rfl rfl),
    st_plain rfl (op_call _ _ 10 _ _ rfl Try.call10 rfl (ok_diary_New limit _ hv3) rfl rfl),
    st_plain rfl (op_move_take _ _ _ _ rfl),
    st_plain rfl (op_extract_take _ _ _ _ _ rfl (Nat.le_of_ble_eq_true rfl) rfl rfl (by decide) rfl),
    st_plain rfl (op_extract _ _ _ _ _ rfl rfl (Nat.le_of_ble_eq_true rfl) rfl rfl),
    st_plain rfl (op_assign_take _ _ _ _ rfl),
    st_plain rfl (op_assign _ _ _ _ rfl rfl),
    trivial⟩ ?_
   refine pt_ob (d := default) (f := fun (v4 : T_diary_Diary) => [.v (.int .i64 v4.limit), .fr (.own 46) false 15 (List.flatten (List.map T_Rec.ienc v4.recs)), .v (.int .i64 v4.used), .v (.int .i64 v4.safe), .v (.int .i64 v4.kept), .v (.int .i64 v4.life), .v (.bool v4.off), .v (.int .i64 v4.trip), .v (.int .i64 v4.tripKeep)]) 2 9 5 64 h (es1 := fun v4 => [(0, .v (.int .i64 limit)), (3, .box 46 [.v (.int .i64 p_r.Kind), .v (.bool p_r.Mail.From.Null), .v (.string p_r.Mail.From.Local), .v (.string p_r.Mail.From.Domain), .fl .shr 3 (List.flatten (List.map T_Path.enc p_r.Mail.To)), .fl .shr 1 (List.map (Value.int .u8) p_r.Mail.Body), .v (.bool p_r.Mail.Quiet), .v (.string p_r.Mail.Helo), .v (.int .i64 p_r.Mail.At), .v (.int .i64 p_r.Id), .fl .shr 1 (List.map (Value.int .i64) p_r.Ids), .v (.int .i64 p_r.Origin), .v (.int .i64 p_r.Number), .v (.int .i64 p_r.Offset), .fl .shr 1 (List.map (Value.int .u8) p_r.Data)]), (5, .box 64 [.v (.int .i64 v4.limit), .fr (.own 46) false 15 (List.flatten (List.map T_Rec.ienc v4.recs)), .v (.int .i64 v4.used), .v (.int .i64 v4.safe), .v (.int .i64 v4.kept), .v (.int .i64 v4.life), .v (.bool v4.off), .v (.int .i64 v4.trip), .v (.int .i64 v4.tripKeep)]), (6, .v (.int .i64 v3.2))]) (es0 := [(0, .v (.int .i64 limit)), (3, .box 46 [.v (.int .i64 p_r.Kind), .v (.bool p_r.Mail.From.Null), .v (.string p_r.Mail.From.Local), .v (.string p_r.Mail.From.Domain), .fl .shr 3 (List.flatten (List.map T_Path.enc p_r.Mail.To)), .fl .shr 1 (List.map (Value.int .u8) p_r.Mail.Body), .v (.bool p_r.Mail.Quiet), .v (.string p_r.Mail.Helo), .v (.int .i64 p_r.Mail.At), .v (.int .i64 p_r.Id), .fl .shr 1 (List.map (Value.int .i64) p_r.Ids), .v (.int .i64 p_r.Origin), .v (.int .i64 p_r.Number), .v (.int .i64 p_r.Offset), .fl .shr 1 (List.map (Value.int .u8) p_r.Data)]), (5, .v (.pointer none)), (6, .v (.int .i64 v3.2))]) rfl (fun _ => rfl) (by kernel_rfl) (fun _ => rfl) (fun _ => rfl) rfl (fun v4 hv5 h => ?_) (fun hv5 h => ?_)
   ·refine pt_then ?_
    refine ht_seq ?_
    refine ht_seq ?_
    refine ht_joinS h (fun (s6 : Bool) => [(0, .v (.int .i64 limit)), (3, .box 46 [.v (.int .i64 p_r.Kind), .v (.bool p_r.Mail.From.Null), .v (.string p_r.Mail.From.Local), .v (.string p_r.Mail.From.Domain), .fl .shr 3 (List.flatten (List.map T_Path.enc p_r.Mail.To)), .fl .shr 1 (List.map (Value.int .u8) p_r.Mail.Body), .v (.bool p_r.Mail.Quiet), .v (.string p_r.Mail.Helo), .v (.int .i64 p_r.Mail.At), .v (.int .i64 p_r.Id), .fl .shr 1 (List.map (Value.int .i64) p_r.Ids), .v (.int .i64 p_r.Origin), .v (.int .i64 p_r.Number), .v (.int .i64 p_r.Offset), .fl .shr 1 (List.map (Value.int .u8) p_r.Data)]), (5, .box 64 [.v (.int .i64 v4.limit), .fr (.own 46) false 15 (List.flatten (List.map T_Rec.ienc v4.recs)), .v (.int .i64 v4.used), .v (.int .i64 v4.safe), .v (.int .i64 v4.kept), .v (.int .i64 v4.life), .v (.bool v4.off), .v (.int .i64 v4.trip), .v (.int .i64 v4.tripKeep)]), (6, .v (.int .i64 v3.2)), (24, .v (.bool s6))]) ?_ ?_
    ·rintro s6 h
     refine pt_then ?_
     refine ht_cond _ rfl (fun hb10 => ?_) (fun hb10 => ?_)
     ·have h := cond_t hb10 h
      refine ht_seq ?_
      refine ht_joinS h (fun (() : Unit) => [(4, .v (.bool false))]) ?_ ?_
      ·rintro ⟨⟩ h
       refine pt_then ?_
       refine ht_ret ?_
       refine pt_r_then ?_
       obtain rfl := Option.some.inj h
       exact pt_ret hio rfl (.tmp _ _ .nil) rfl rfl
      ·intro u11 h hl12 hr13
       refine cond_some h (fun hg5_2 h => ?_) (fun hg5_2 h => ?_)
       ·refine ht_seqR hn (El := (_ :: _ :: _ :: _ :: _ :: (25, .v (.int .i64 v3.2)) :: (26, .v (.bool (v3.2 == 1))) :: (27, .v (.bool true)) :: (28, .box 64 [.v (.int .i64 v4.limit), .fr (.own 46) false 15 (List.flatten (List.map T_Rec.ienc v4.recs)), .v (.int .i64 v4.used), .v (.int .i64 v4.safe), .v (.int .i64 v4.kept), .v (.int .i64 v4.life), .v (.bool v4.off), .v (.int .i64 v4.trip), .v (.int .i64 v4.tripKeep)]) :: (29, .v (.bool false)) :: (30, .v (.bool false)) :: (31, .v (.bool false)) :: (32, .v undef) :: (33, .v (.bool false)) :: (4, .v (.bool false)) :: [])) (init := [0, 1, 2, 3, 4]) (fin := [14]) (sps := [⟨[3], [], [5], [(.slot 25)]⟩, ⟨[5], [], [6], [(.slot 26)]⟩, ⟨[6], [], [7], [(.slot 27)]⟩, ⟨[7], [2], [8], [(.slot 28)]⟩, ⟨[7, 8], [], [9], [(.slot 29)]⟩, ⟨[7, 9], [], [10], [(.slot 30)]⟩, ⟨[10], [], [11], [(.slot 31)]⟩, ⟨[11], [], [12], [(.slot 32)]⟩, ⟨[11], [], [13], [(.slot 33)]⟩, ⟨[13], [], [14], [(.slot 4)]⟩]) (es' := [(4, .v (.bool false))]) (by kernel_rfl) rfl rfl
         ⟨st_plain rfl (op_move _ _ _ _ rfl rfl),
         st_plain rfl (op_bin _ _ _ _ _ rfl rfl rfl),
         st_plain rfl (op_move _ _ _ _ (congrArg (fun b => AV.v (Value.bool b)) hg5_2) rfl),
         st_run 2 27 true rfl rfl rfl (List.Mem.head _) (op_move_take _ _ _ _ rfl),
         st_run 2 27 true rfl rfl rfl (List.Mem.head _) (op_pnil _ _ false (by kernel_rfl) rfl rfl),
         st_plain rfl (op_pick _ _ true _ rfl rfl),
         st_plain rfl (op_move _ _ _ _ rfl rfl),
         st_skip 6 31 _ true rfl rfl rfl rfl (List.Mem.head _),
         st_plain rfl (op_pick _ _ false _ rfl rfl),
         st_plain rfl (op_assign _ _ _ _ rfl rfl),
         trivial⟩ ?_
        exact hl12 _ (Option.some.inj h).symm
       ·refine ht_seqR hn (El := (_ :: _ :: _ :: _ :: _ :: (25, .v (.int .i64 v3.2)) :: (26, .v (.bool (v3.2 == 1))) :: (27, .v (.bool false)) :: (28, .v undef) :: (29, .v undef) :: (30, .v (.bool false)) :: (31, .v (.bool false)) :: (32, .v undef) :: (33, .v (.bool false)) :: (4, .v (.bool false)) :: [])) (init := [0, 1, 2, 3, 4]) (fin := [14]) (sps := [⟨[3], [], [5], [(.slot 25)]⟩, ⟨[5], [], [6], [(.slot 26)]⟩, ⟨[6], [], [7], [(.slot 27)]⟩, ⟨[7], [], [8], [(.slot 28)]⟩, ⟨[7], [], [9], [(.slot 29)]⟩, ⟨[7], [], [10], [(.slot 30)]⟩, ⟨[10], [], [11], [(.slot 31)]⟩, ⟨[11], [], [12], [(.slot 32)]⟩, ⟨[11], [], [13], [(.slot 33)]⟩, ⟨[13], [], [14], [(.slot 4)]⟩]) (es' := [(4, .v (.bool false))]) (by kernel_rfl) rfl rfl
         ⟨st_plain rfl (op_move _ _ _ _ rfl rfl),
         st_plain rfl (op_bin _ _ _ _ _ rfl rfl rfl),
         st_plain rfl (op_move _ _ _ _ (congrArg (fun b => AV.v (Value.bool b)) hg5_2) rfl),
         st_skip 2 27 _ true rfl rfl rfl rfl (List.Mem.head _),
         st_skip 2 27 _ true rfl rfl rfl rfl (List.Mem.head _),
         st_plain rfl (op_pick _ _ false _ rfl rfl),
         st_plain rfl (op_move _ _ _ _ rfl rfl),
         st_skip 6 31 _ true rfl rfl rfl rfl (List.Mem.head _),
         st_plain rfl (op_pick _ _ false _ rfl rfl),
         st_plain rfl (op_assign _ _ _ _ rfl rfl),
         trivial⟩ ?_
        exact hl12 _ (Option.some.inj h).symm
     ·have h := cond_f hb10 h
      refine ht_skip ?_
      refine pt_then ?_
      refine ht_seq ?_
      obtain ⟨v14, hv14, h⟩ := bind_some h
      refine ht_seqR hn (El := [_, _, _, _, _, (35, .v (.int .i64 limit)), (36, .tup [.obox (Option.isSome v14.1) 64 [.v (.int .i64 (((Option.getD v14.1 (default : T_diary_Diary))).limit)), .fr (.own 46) false 15 (List.flatten (List.map T_Rec.ienc (((Option.getD v14.1 (default : T_diary_Diary))).recs))), .v (.int .i64 (((Option.getD v14.1 (default : T_diary_Diary))).used)), .v (.int .i64 (((Option.getD v14.1 (default : T_diary_Diary))).safe)), .v (.int .i64 (((Option.getD v14.1 (default : T_diary_Diary))).kept)), .v (.int .i64 (((Option.getD v14.1 (default : T_diary_Diary))).life)), .v (.bool (((Option.getD v14.1 (default : T_diary_Diary))).off)), .v (.int .i64 (((Option.getD v14.1 (default : T_diary_Diary))).trip)), .v (.int .i64 (((Option.getD v14.1 (default : T_diary_Diary))).tripKeep))], .v (.int .i64 v14.2)]), (34, .tup [.obox (Option.isSome v14.1) 64 [.v (.int .i64 (((Option.getD v14.1 (default : T_diary_Diary))).limit)), .fr (.own 46) false 15 (List.flatten (List.map T_Rec.ienc (((Option.getD v14.1 (default : T_diary_Diary))).recs))), .v (.int .i64 (((Option.getD v14.1 (default : T_diary_Diary))).used)), .v (.int .i64 (((Option.getD v14.1 (default : T_diary_Diary))).safe)), .v (.int .i64 (((Option.getD v14.1 (default : T_diary_Diary))).kept)), .v (.int .i64 (((Option.getD v14.1 (default : T_diary_Diary))).life)), .v (.bool (((Option.getD v14.1 (default : T_diary_Diary))).off)), .v (.int .i64 (((Option.getD v14.1 (default : T_diary_Diary))).trip)), .v (.int .i64 (((Option.getD v14.1 (default : T_diary_Diary))).tripKeep))], .v (.int .i64 v14.2)]), (37, .obox (Option.isSome v14.1) 64 [.v (.int .i64 (((Option.getD v14.1 (default : T_diary_Diary))).limit)), .fr (.own 46) false 15 (List.flatten (List.map T_Rec.ienc (((Option.getD v14.1 (default : T_diary_Diary))).recs))), .v (.int .i64 (((Option.getD v14.1 (default : T_diary_Diary))).used)), .v (.int .i64 (((Option.getD v14.1 (default : T_diary_Diary))).safe)), .v (.int .i64 (((Option.getD v14.1 (default : T_diary_Diary))).kept)), .v (.int .i64 (((Option.getD v14.1 (default : T_diary_Diary))).life)), .v (.bool (((Option.getD v14.1 (default : T_diary_Diary))).off)), .v (.int .i64 (((Option.getD v14.1 (default : T_diary_Diary))).trip)), .v (.int .i64 (((Option.getD v14.1 (default : T_diary_Diary))).tripKeep))]), (34, .tup [.any, .v (.int .i64 v14.2)]), (38, .v (.int .i64 v14.2)), (7, .obox (Option.isSome v14.1) 64 [.v (.int .i64 (((Option.getD v14.1 (default : T_diary_Diary))).limit)), .fr (.own 46) false 15 (List.flatten (List.map T_Rec.ienc (((Option.getD v14.1 (default : T_diary_Diary))).recs))), .v (.int .i64 (((Option.getD v14.1 (default : T_diary_Diary))).used)), .v (.int .i64 (((Option.getD v14.1 (default : T_diary_Diary))).safe)), .v (.int .i64 (((Option.getD v14.1 (default : T_diary_Diary))).kept)), .v (.int .i64 (((Option.getD v14.1 (default : T_diary_Diary))).life)), .v (.bool (((Option.getD v14.1 (default : T_diary_Diary))).off)), .v (.int .i64 (((Option.getD v14.1 (default : T_diary_Diary))).trip)), .v (.int .i64 (((Option.getD v14.1 (default : T_diary_Diary))).tripKeep))]), (8, .v (.int .i64 v14.2))]) (init := [0, 1, 2, 3, 4]) (fin := [0, 1, 2, 3, 11, 12]) (sps := [⟨[0], [], [5], [(.slot 35)]⟩, ⟨[5], [], [6], [(.slot 36)]⟩, ⟨[], [6], [7], [(.slot 34)]⟩, ⟨[], [7], [9, 8], [(.slot 37)]⟩, ⟨[9], [], [10], [(.slot 38)]⟩, ⟨[], [8], [11], [(.slot 7)]⟩, ⟨[10], [], [12], [(.slot 8)]⟩]) (es' := [(_, _), (_, _), (_, _), (_, _), (7, .obox (Option.isSome v14.1) 64 [.v (.int .i64 (((Option.getD v14.1 (default : T_diary_Diary))).limit)), .fr (.own 46) false 15 (List.flatten (List.map T_Rec.ienc (((Option.getD v14.1 (default : T_diary_Diary))).recs))), .v (.int .i64 (((Option.getD v14.1 (default : T_diary_Diary))).used)), .v (.int .i64 (((Option.getD v14.1 (default : T_diary_Diary))).safe)), .v (.int .i64 (((Option.getD v14.1 (default : T_diary_Diary))).kept)), .v (.int .i64 (((Option.getD v14.1 (default : T_diary_Diary))).life)), .v (.bool (((Option.getD v14.1 (default : T_diary_Diary))).off)), .v (.int .i64 (((Option.getD v14.1 (default : T_diary_Diary))).trip)), .v (.int .i64 (((Option.getD v14.1 (default : T_diary_Diary))).tripKeep))]), (8, .v (.int .i64 v14.2))]) (by kernel_rfl) rfl rfl
       ⟨st_plain rfl (op_move _ _ _ _ rfl rfl),
       st_plain rfl (op_call _ _ 10 _ _ rfl Try.call10 rfl (ok_diary_New limit _ hv14) rfl rfl),
       st_plain rfl (op_move_take _ _ _ _ rfl),
       st_plain rfl (op_extract_take _ _ _ _ _ rfl (Nat.le_of_ble_eq_true rfl) rfl rfl (by decide) rfl),
       st_plain rfl (op_extract _ _ _ _ _ rfl rfl (Nat.le_of_ble_eq_true rfl) rfl rfl),
       st_plain rfl (op_assign_take _ _ _ _ rfl),
       st_plain rfl (op_assign _ _ _ _ rfl rfl),
       trivial⟩ ?_
      refine pt_ob (d := default) (f := fun (v15 : T_diary_Diary) => [.v (.int .i64 v15.limit), .fr (.own 46) false 15 (List.flatten (List.map T_Rec.ienc v15.recs)), .v (.int .i64 v15.used), .v (.int .i64 v15.safe), .v (.int .i64 v15.kept), .v (.int .i64 v15.life), .v (.bool v15.off), .v (.int .i64 v15.trip), .v (.int .i64 v15.tripKeep)]) 4 9 7 64 h (es1 := fun v15 => [(0, .v (.int .i64 limit)), (3, .box 46 [.v (.int .i64 p_r.Kind), .v (.bool p_r.Mail.From.Null), .v (.string p_r.Mail.From.Local), .v (.string p_r.Mail.From.Domain), .fl .shr 3 (List.flatten (List.map T_Path.enc p_r.Mail.To)), .fl .shr 1 (List.map (Value.int .u8) p_r.Mail.Body), .v (.bool p_r.Mail.Quiet), .v (.string p_r.Mail.Helo), .v (.int .i64 p_r.Mail.At), .v (.int .i64 p_r.Id), .fl .shr 1 (List.map (Value.int .i64) p_r.Ids), .v (.int .i64 p_r.Origin), .v (.int .i64 p_r.Number), .v (.int .i64 p_r.Offset), .fl .shr 1 (List.map (Value.int .u8) p_r.Data)]), (5, .box 64 [.v (.int .i64 v4.limit), .fr (.own 46) false 15 (List.flatten (List.map T_Rec.ienc v4.recs)), .v (.int .i64 v4.used), .v (.int .i64 v4.safe), .v (.int .i64 v4.kept), .v (.int .i64 v4.life), .v (.bool v4.off), .v (.int .i64 v4.trip), .v (.int .i64 v4.tripKeep)]), (6, .v (.int .i64 v3.2)), (7, .box 64 [.v (.int .i64 v15.limit), .fr (.own 46) false 15 (List.flatten (List.map T_Rec.ienc v15.recs)), .v (.int .i64 v15.used), .v (.int .i64 v15.safe), .v (.int .i64 v15.kept), .v (.int .i64 v15.life), .v (.bool v15.off), .v (.int .i64 v15.trip), .v (.int .i64 v15.tripKeep)]), (8, .v (.int .i64 v14.2))]) (es0 := [(0, .v (.int .i64 limit)), (3, .box 46 [.v (.int .i64 p_r.Kind), .v (.bool p_r.Mail.From.Null), .v (.string p_r.Mail.From.Local), .v (.string p_r.Mail.From.Domain), .fl .shr 3 (List.flatten (List.map T_Path.enc p_r.Mail.To)), .fl .shr 1 (List.map (Value.int .u8) p_r.Mail.Body), .v (.bool p_r.Mail.Quiet), .v (.string p_r.Mail.Helo), .v (.int .i64 p_r.Mail.At), .v (.int .i64 p_r.Id), .fl .shr 1 (List.map (Value.int .i64) p_r.Ids), .v (.int .i64 p_r.Origin), .v (.int .i64 p_r.Number), .v (.int .i64 p_r.Offset), .fl .shr 1 (List.map (Value.int .u8) p_r.Data)]), (5, .box 64 [.v (.int .i64 v4.limit), .fr (.own 46) false 15 (List.flatten (List.map T_Rec.ienc v4.recs)), .v (.int .i64 v4.used), .v (.int .i64 v4.safe), .v (.int .i64 v4.kept), .v (.int .i64 v4.life), .v (.bool v4.off), .v (.int .i64 v4.trip), .v (.int .i64 v4.tripKeep)]), (6, .v (.int .i64 v3.2)), (7, .v (.pointer none)), (8, .v (.int .i64 v14.2))]) rfl (fun _ => rfl) (by kernel_rfl) (fun _ => rfl) (fun _ => rfl) rfl (fun v15 hv16 h => ?_) (fun hv16 h => ?_)
      ·refine pt_then ?_
       refine ht_seq ?_
       refine ht_seq ?_
       refine ht_joinS h (fun (s17 : Bool) => [(0, .v (.int .i64 limit)), (3, .box 46 [.v (.int .i64 p_r.Kind), .v (.bool p_r.Mail.From.Null), .v (.string p_r.Mail.From.Local), .v (.string p_r.Mail.From.Domain), .fl .shr 3 (List.flatten (List.map T_Path.enc p_r.Mail.To)), .fl .shr 1 (List.map (Value.int .u8) p_r.Mail.Body), .v (.bool p_r.Mail.Quiet), .v (.string p_r.Mail.Helo), .v (.int .i64 p_r.Mail.At), .v (.int .i64 p_r.Id), .fl .shr 1 (List.map (Value.int .i64) p_r.Ids), .v (.int .i64 p_r.Origin), .v (.int .i64 p_r.Number), .v (.int .i64 p_r.Offset), .fl .shr 1 (List.map (Value.int .u8) p_r.Data)]), (5, .box 64 [.v (.int .i64 v4.limit), .fr (.own 46) false 15 (List.flatten (List.map T_Rec.ienc v4.recs)), .v (.int .i64 v4.used), .v (.int .i64 v4.safe), .v (.int .i64 v4.kept), .v (.int .i64 v4.life), .v (.bool v4.off), .v (.int .i64 v4.trip), .v (.int .i64 v4.tripKeep)]), (7, .box 64 [.v (.int .i64 v15.limit), .fr (.own 46) false 15 (List.flatten (List.map T_Rec.ienc v15.recs)), .v (.int .i64 v15.used), .v (.int .i64 v15.safe), .v (.int .i64 v15.kept), .v (.int .i64 v15.life), .v (.bool v15.off), .v (.int .i64 v15.trip), .v (.int .i64 v15.tripKeep)]), (52, .v (.bool s17))]) ?_ ?_
       ·rintro s17 h
        refine pt_then ?_
        refine ht_cond _ rfl (fun hb21 => ?_) (fun hb21 => ?_)
        ·have h := cond_t hb21 h
         refine ht_seq ?_
         refine ht_seqR hn (El := [_, _, _, _, _, (4, .v (.bool false))]) (init := [0, 1, 2, 3, 4]) (fin := [5]) (sps := [⟨[], [], [5], [(.slot 4)]⟩]) (es' := [(4, .v (.bool false))]) (by kernel_rfl) rfl rfl
          ⟨st_plain rfl (op_assign _ _ _ _ rfl rfl),
          trivial⟩ ?_
         refine pt_then ?_
         refine ht_ret ?_
         refine pt_r_then ?_
         obtain rfl := Option.some.inj h
         exact pt_ret hio rfl (.tmp _ _ .nil) rfl rfl
        ·have h := cond_f hb21 h
         refine ht_skip ?_
         refine pt_then ?_
         refine ht_seq ?_
         obtain ⟨v22, hv22, h⟩ := bind_some h
         refine ht_seqR hn (El := [_, _, _, _, _, (53, .ptr 5 0), (54, .agg [.v (.int .i64 p_r.Kind), .v (.bool p_r.Mail.From.Null), .v (.string p_r.Mail.From.Local), .v (.string p_r.Mail.From.Domain), .fl .shr 3 (List.flatten (List.map T_Path.enc p_r.Mail.To)), .fl .shr 1 (List.map (Value.int .u8) p_r.Mail.Body), .v (.bool p_r.Mail.Quiet), .v (.string p_r.Mail.Helo), .v (.int .i64 p_r.Mail.At), .v (.int .i64 p_r.Id), .fl .shr 1 (List.map (Value.int .i64) p_r.Ids), .v (.int .i64 p_r.Origin), .v (.int .i64 p_r.Number), .v (.int .i64 p_r.Offset), .fl .shr 1 (List.map (Value.int .u8) p_r.Data)]), (55, .v (.int .i64 v22.1)), (5, .box 64 [.v (.int .i64 v22.2.limit), .fr (.own 46) false 15 (List.flatten (List.map T_Rec.ienc v22.2.recs)), .v (.int .i64 v22.2.used), .v (.int .i64 v22.2.safe), .v (.int .i64 v22.2.kept), .v (.int .i64 v22.2.life), .v (.bool v22.2.off), .v (.int .i64 v22.2.trip), .v (.int .i64 v22.2.tripKeep)]), (9, .v (.int .i64 v22.1))]) (init := [0, 1, 2, 3, 4]) (fin := [0, 1, 8, 3, 9]) (sps := [⟨[2], [], [5], [(.slot 53)]⟩, ⟨[1], [], [6], [(.slot 54)]⟩, ⟨[5, 6], [2], [8, 7], [(.slot 55), (.cell 5 0), (.cell 5 1), (.cell 5 2), (.cell 5 3), (.cell 5 4), (.cell 5 5), (.cell 5 6), (.cell 5 7), (.cell 5 8)]⟩, ⟨[7], [], [9], [(.slot 9)]⟩]) (es' := [(_, _), (_, _), (5, .box 64 [.v (.int .i64 v22.2.limit), .fr (.own 46) false 15 (List.flatten (List.map T_Rec.ienc v22.2.recs)), .v (.int .i64 v22.2.used), .v (.int .i64 v22.2.safe), .v (.int .i64 v22.2.kept), .v (.int .i64 v22.2.life), .v (.bool v22.2.off), .v (.int .i64 v22.2.trip), .v (.int .i64 v22.2.tripKeep)]), (_, _), (9, .v (.int .i64 v22.1))]) (by kernel_rfl) rfl rfl
          ⟨st_plain rfl (op_move _ _ _ _ rfl rfl),
          st_plain rfl (op_loadA _ _ _ _ _ _ _ Try.underlying46 rfl sz46 rfl rfl (Nat.le_of_ble_eq_true rfl) rfl rfl),
          st_plain rfl (op_callP _ _ _ _ 55 15 [.tmp 53] [.tmp 54] _ _ _ rfl Try.call15 rfl rfl rfl (ok_diary_Diary_Put v4 ((T_Rec.mk p_r.Kind ((T_Mail.mk (T_Path.mk p_r.Mail.From.Null p_r.Mail.From.Local p_r.Mail.From.Domain) p_r.Mail.To p_r.Mail.Body p_r.Mail.Quiet p_r.Mail.Helo p_r.Mail.At)) p_r.Id p_r.Ids p_r.Origin p_r.Number p_r.Offset p_r.Data)) _ hv22) (Nat.le_of_ble_eq_true rfl) rfl rfl rfl rfl rfl rfl rfl rfl),
          st_plain rfl (op_assign _ _ _ _ rfl rfl),
          trivial⟩ ?_
         refine pt_then ?_
         refine ht_seq ?_
         refine ht_seqR hn (El := [_, _, _, _, _, (10, .v (.int .i64 0))]) (init := [0, 1, 2, 3, 4]) (fin := [0, 1, 2, 3, 4, 5]) (sps := [⟨[], [], [5], [(.slot 10)]⟩]) (es' := [(_, _), (_, _), (_, _), (_, _), (_, _), (10, .v (.int .i64 0))]) (by kernel_rfl) rfl rfl
          ⟨st_plain rfl (op_assign _ _ _ _ rfl rfl),
          trivial⟩ ?_
         refine pt_then ?_
         refine ht_seq ?_
         refine ht_joinS h (fun (s25 : Int) => [(5, .box 64 [.v (.int .i64 v22.2.limit), .fr (.own 46) false 15 (List.flatten (List.map T_Rec.ienc v22.2.recs)), .v (.int .i64 v22.2.used), .v (.int .i64 v22.2.safe), .v (.int .i64 v22.2.kept), .v (.int .i64 v22.2.life), .v (.bool v22.2.off), .v (.int .i64 v22.2.trip), .v (.int .i64 v22.2.tripKeep)]), (7, .box 64 [.v (.int .i64 v15.limit), .fr (.own 46) false 15 (List.flatten (List.map T_Rec.ienc v15.recs)), .v (.int .i64 v15.used), .v (.int .i64 v15.safe), .v (.int .i64 v15.kept), .v (.int .i64 v15.life), .v (.bool v15.off), .v (.int .i64 v15.trip), .v (.int .i64 v15.tripKeep)]), (9, .v (.int .i64 v22.1)), (10, .v (.int .i64 s25))]) ?_ ?_
         ·rintro s25 h
          refine pt_then ?_
          refine ht_seq ?_
          obtain ⟨v30, hv30, h⟩ := bind_some h
          refine ht_seqR hn (El := [_, _, _, _, (60, .ptr 7 0), (61, .tup []), (7, .box 64 [.v (.int .i64 v30.limit), .fr (.own 46) false 15 (List.flatten (List.map T_Rec.ienc v30.recs)), .v (.int .i64 v30.used), .v (.int .i64 v30.safe), .v (.int .i64 v30.kept), .v (.int .i64 v30.life), .v (.bool v30.off), .v (.int .i64 v30.trip), .v (.int .i64 v30.tripKeep)])]) (init := [0, 1, 2, 3]) (fin := [0, 6, 2, 3]) (sps := [⟨[1], [], [4], [(.slot 60)]⟩, ⟨[4], [1], [6, 5], [(.slot 61), (.cell 7 0), (.cell 7 1), (.cell 7 2), (.cell 7 3), (.cell 7 4), (.cell 7 5), (.cell 7 6), (.cell 7 7), (.cell 7 8)]⟩]) (es' := [(_, _), (7, .box 64 [.v (.int .i64 v30.limit), .fr (.own 46) false 15 (List.flatten (List.map T_Rec.ienc v30.recs)), .v (.int .i64 v30.used), .v (.int .i64 v30.safe), .v (.int .i64 v30.kept), .v (.int .i64 v30.life), .v (.bool v30.off), .v (.int .i64 v30.trip), .v (.int .i64 v30.tripKeep)]), (_, _), (_, _)]) (by kernel_rfl) rfl rfl
           ⟨st_plain rfl (op_move _ _ _ _ rfl rfl),
           st_plain rfl (op_callP _ _ _ _ 61 21 [.tmp 60] [_] _ _ _ rfl Try.call21 rfl rfl rfl (ok_diary_Diary_Crash v15 0 _ hv30) (Nat.le_of_ble_eq_true rfl) rfl rfl rfl rfl rfl rfl rfl rfl),
           trivial⟩ ?_
          refine pt_then ?_
          refine ht_seq ?_
          refine ht_joinS h (fun (s36 : Bool) => [(4, .v (.bool s36))]) ?_ ?_
          ·rintro s36 h
           refine pt_then ?_
           refine ht_ret ?_
           obtain rfl := Option.some.inj h
           exact pt_ret hio rfl (.tmp _ _ .nil) rfl rfl
          ·intro u37 h hl38 hr39
           refine cond_some h (fun hg14_3 h => ?_) (fun hg14_3 h => ?_)
           ·obtain ⟨v31, hv31, h⟩ := bind_some h
            refine cond_some h (fun hg14_8 h => ?_) (fun hg14_8 h => ?_)
            ·obtain ⟨v32, hv32, h⟩ := bind_some h
             refine cond_some h (fun hg14_13 h => ?_) (fun hg14_13 h => ?_)
             ·obtain ⟨v33, hv33, h⟩ := bind_some h
              refine cond_some h (fun hg14_17 h => ?_) (fun hg14_17 h => ?_)
              ·obtain ⟨v34, hv34, h⟩ := bind_some h
               refine cond_some h (fun hg14_22 h => ?_) (fun hg14_22 h => ?_)
               ·obtain ⟨v35, hv35, h⟩ := bind_some h
                refine ht_seqR hn (El := (_ :: _ :: _ :: _ :: (62, .v (.int .i64 v22.1)) :: (63, .v (.int .i64 s25)) :: (64, .v (.bool (v22.1 == s25))) :: (65, .v (.bool true)) :: (66, .ptr 7 0) :: (67, .v (.int .i64 v31.1)) :: (7, .box 64 [.v (.int .i64 v31.2.limit), .fr (.own 46) false 15 (List.flatten (List.map T_Rec.ienc v31.2.recs)), .v (.int .i64 v31.2.used), .v (.int .i64 v31.2.safe), .v (.int .i64 v31.2.kept), .v (.int .i64 v31.2.life), .v (.bool v31.2.off), .v (.int .i64 v31.2.trip), .v (.int .i64 v31.2.tripKeep)]) :: (68, .v (.bool (v31.1 == 0))) :: (69, .v (.bool (v31.1 == 0))) :: (70, .v (.bool true)) :: (71, .ptr 5 0) :: (72, .v (.bool v32.1)) :: (5, .box 64 [.v (.int .i64 v32.2.limit), .fr (.own 46) false 15 (List.flatten (List.map T_Rec.ienc v32.2.recs)), .v (.int .i64 v32.2.used), .v (.int .i64 v32.2.safe), .v (.int .i64 v32.2.kept), .v (.int .i64 v32.2.life), .v (.bool v32.2.off), .v (.int .i64 v32.2.trip), .v (.int .i64 v32.2.tripKeep)]) :: (73, .v (.bool (!v32.1))) :: (74, .v (.bool (!v32.1))) :: (75, .v (.bool true)) :: (76, .box 64 [.v (.int .i64 v31.2.limit), .fr (.own 46) false 15 (List.flatten (List.map T_Rec.ienc v31.2.recs)), .v (.int .i64 v31.2.used), .v (.int .i64 v31.2.safe), .v (.int .i64 v31.2.kept), .v (.int .i64 v31.2.life), .v (.bool v31.2.off), .v (.int .i64 v31.2.trip), .v (.int .i64 v31.2.tripKeep)]) :: (77, .v (.bool v33.1)) :: (76, .box 64 [.v (.int .i64 v33.2.limit), .fr (.own 46) false 15 (List.flatten (List.map T_Rec.ienc v33.2.recs)), .v (.int .i64 v33.2.used), .v (.int .i64 v33.2.safe), .v (.int .i64 v33.2.kept), .v (.int .i64 v33.2.life), .v (.bool v33.2.off), .v (.int .i64 v33.2.trip), .v (.int .i64 v33.2.tripKeep)]) :: (78, .v (.bool v33.1)) :: (79, .v (.bool true)) :: (80, .box 64 [.v (.int .i64 v32.2.limit), .fr (.own 46) false 15 (List.flatten (List.map T_Rec.ienc v32.2.recs)), .v (.int .i64 v32.2.used), .v (.int .i64 v32.2.safe), .v (.int .i64 v32.2.kept), .v (.int .i64 v32.2.life), .v (.bool v32.2.off), .v (.int .i64 v32.2.trip), .v (.int .i64 v32.2.tripKeep)]) :: (81, .v (.int .i64 v34.1)) :: (80, .box 64 [.v (.int .i64 v34.2.limit), .fr (.own 46) false 15 (List.flatten (List.map T_Rec.ienc v34.2.recs)), .v (.int .i64 v34.2.used), .v (.int .i64 v34.2.safe), .v (.int .i64 v34.2.kept), .v (.int .i64 v34.2.life), .v (.bool v34.2.off), .v (.int .i64 v34.2.trip), .v (.int .i64 v34.2.tripKeep)]) :: (82, .v (.bool (v34.1 == 0))) :: (83, .v (.bool (v34.1 == 0))) :: (84, .v (.bool true)) :: (85, .v (.bool v35)) :: (86, .v (.bool v35)) :: (4, .v (.bool v35)) :: [])) (init := [0, 1, 2, 3]) (fin := [33]) (sps := (⟨[2], [], [4], [(.slot 62)]⟩ :: ⟨[3], [], [5], [(.slot 63)]⟩ :: ⟨[4, 5], [], [6], [(.slot 64)]⟩ :: ⟨[6], [], [7], [(.slot 65)]⟩ :: ⟨[7, 1], [], [8], [(.slot 66)]⟩ :: ⟨[7, 8], [1], [10, 9], [(.slot 67), (.cell 7 0), (.cell 7 1), (.cell 7 2), (.cell 7 3), (.cell 7 4), (.cell 7 5), (.cell 7 6), (.cell 7 7), (.cell 7 8)]⟩ :: ⟨[7, 9], [], [11], [(.slot 68)]⟩ :: ⟨[7, 11], [], [12], [(.slot 69)]⟩ :: ⟨[12], [], [13], [(.slot 70)]⟩ :: ⟨[13, 0], [], [14], [(.slot 71)]⟩ :: ⟨[13, 14], [0], [16, 15], [(.slot 72), (.cell 5 0), (.cell 5 1), (.cell 5 2), (.cell 5 3), (.cell 5 4), (.cell 5 5), (.cell 5 6), (.cell 5 7), (.cell 5 8)]⟩ :: ⟨[13, 15], [], [17], [(.slot 73)]⟩ :: ⟨[13, 17], [], [18], [(.slot 74)]⟩ :: ⟨[18], [], [19], [(.slot 75)]⟩ :: ⟨[19], [8, 10], [20], [(.slot 76)]⟩ :: ⟨[19], [20], [22, 21], [(.slot 77), (.cell 76 0), (.cell 76 1), (.cell 76 2), (.cell 76 3), (.cell 76 4), (.cell 76 5), (.cell 76 6), (.cell 76 7), (.cell 76 8)]⟩ :: ⟨[19, 21], [], [23], [(.slot 78)]⟩ :: ⟨[23], [], [24], [(.slot 79)]⟩ :: ⟨[24], [14, 16], [25], [(.slot 80)]⟩ :: ⟨[24], [25], [27, 26], [(.slot 81), (.cell 80 0), (.cell 80 1), (.cell 80 2), (.cell 80 3), (.cell 80 4), (.cell 80 5), (.cell 80 6), (.cell 80 7), (.cell 80 8)]⟩ :: ⟨[24, 26], [], [28], [(.slot 82)]⟩ :: ⟨[24, 28], [], [29], [(.slot 83)]⟩ :: ⟨[29], [], [30], [(.slot 84)]⟩ :: ⟨[30], [], [31], [(.slot 85)]⟩ :: ⟨[30, 31], [], [32], [(.slot 86)]⟩ :: ⟨[32], [], [33], [(.slot 4)]⟩ :: [])) (es' := [(4, .v (.bool v35))]) (by kernel_rfl) rfl rfl
                 ⟨st_plain rfl (op_move _ _ _ _ rfl rfl),
                 st_plain rfl (op_move _ _ _ _ rfl rfl),
                 st_plain rfl (op_bin _ _ _ _ _ rfl rfl rfl),
                 st_plain rfl (op_move _ _ _ _ (congrArg (fun b => AV.v (Value.bool b)) hg14_3) rfl),
                 st_run 3 65 true rfl rfl rfl (List.Mem.head _) (op_move _ _ _ _ rfl rfl),
                 st_run 3 65 true rfl rfl rfl (List.Mem.head _) (op_callP _ _ _ _ 67 34 [.tmp 66] [] _ _ _ rfl Try.call34 rfl rfl rfl (ok_diary_Diary_Len v30 _ hv31) (Nat.le_of_ble_eq_true rfl) rfl rfl rfl rfl rfl rfl rfl rfl),
                 st_run 3 65 true rfl rfl rfl (List.Mem.head _) (op_bin _ _ _ _ _ rfl rfl rfl),
                 st_plain rfl (op_pick _ _ true _ rfl rfl),
                 st_plain rfl (op_move _ _ _ _ (congrArg (fun b => AV.v (Value.bool b)) hg14_8) rfl),
                 st_run 8 70 true rfl rfl rfl (List.Mem.head _) (op_move _ _ _ _ rfl rfl),
                 st_run 8 70 true rfl rfl rfl (List.Mem.head _) (op_callP _ _ _ _ 72 37 [.tmp 71] [] _ _ _ rfl Try.call37 rfl rfl rfl (ok_diary_Diary_Off v22.2 _ hv32) (Nat.le_of_ble_eq_true rfl) rfl rfl rfl rfl rfl rfl rfl rfl),
                 st_run 8 70 true rfl rfl rfl (List.Mem.head _) (op_un _ _ _ _ rfl rfl),
                 st_plain rfl (op_pick _ _ true _ rfl rfl),
                 st_plain rfl (op_move _ _ _ _ (congrArg (fun b => AV.v (Value.bool b)) hg14_13) rfl),
                 st_run 13 75 true rfl rfl rfl (List.Mem.head _) (LOp.drop [_] (op_move_take _ _ _ _ rfl)),
                 st_run 13 75 true rfl rfl rfl (List.Mem.head _) (op_callP _ _ _ _ 77 37 [.tmp 76] [] _ _ _ rfl Try.call37 rfl rfl rfl (ok_diary_Diary_Off v31.2 _ hv33) (Nat.le_of_ble_eq_true rfl) rfl rfl rfl rfl rfl rfl rfl rfl),
                 st_plain rfl (op_pick _ _ true _ rfl rfl),
                 st_plain rfl (op_move _ _ _ _ (congrArg (fun b => AV.v (Value.bool b)) hg14_17) rfl),
                 st_run 17 79 true rfl rfl rfl (List.Mem.head _) (LOp.drop [_] (op_move_take _ _ _ _ rfl)),
                 st_run 17 79 true rfl rfl rfl (List.Mem.head _) (op_callP _ _ _ _ 81 36 [.tmp 80] [] _ _ _ rfl Try.call36 rfl rfl rfl (ok_diary_Diary_Life v32.2 _ hv34) (Nat.le_of_ble_eq_true rfl) rfl rfl rfl rfl rfl rfl rfl rfl),
                 st_run 17 79 true rfl rfl rfl (List.Mem.head _) (op_bin _ _ _ _ _ rfl rfl rfl),
                 st_plain rfl (op_pick _ _ true _ rfl rfl),
                 st_plain rfl (op_move _ _ _ _ (congrArg (fun b => AV.v (Value.bool b)) hg14_22) rfl),
                 st_run 22 84 true rfl rfl rfl (List.Mem.head _) (op_call _ _ 12 _ _ rfl Try.call12 rfl (ok_wherrylaw18_wakes  _ hv35) rfl rfl),
                 st_plain rfl (op_pick _ _ true _ rfl rfl),
                 st_plain rfl (op_assign _ _ _ _ rfl rfl),
                 trivial⟩ ?_
                exact hl38 _ (Option.some.inj h).symm
               ·refine ht_seqR hn (El := (_ :: _ :: _ :: _ :: (62, .v (.int .i64 v22.1)) :: (63, .v (.int .i64 s25)) :: (64, .v (.bool (v22.1 == s25))) :: (65, .v (.bool true)) :: (66, .ptr 7 0) :: (67, .v (.int .i64 v31.1)) :: (7, .box 64 [.v (.int .i64 v31.2.limit), .fr (.own 46) false 15 (List.flatten (List.map T_Rec.ienc v31.2.recs)), .v (.int .i64 v31.2.used), .v (.int .i64 v31.2.safe), .v (.int .i64 v31.2.kept), .v (.int .i64 v31.2.life), .v (.bool v31.2.off), .v (.int .i64 v31.2.trip), .v (.int .i64 v31.2.tripKeep)]) :: (68, .v (.bool (v31.1 == 0))) :: (69, .v (.bool (v31.1 == 0))) :: (70, .v (.bool true)) :: (71, .ptr 5 0) :: (72, .v (.bool v32.1)) :: (5, .box 64 [.v (.int .i64 v32.2.limit), .fr (.own 46) false 15 (List.flatten (List.map T_Rec.ienc v32.2.recs)), .v (.int .i64 v32.2.used), .v (.int .i64 v32.2.safe), .v (.int .i64 v32.2.kept), .v (.int .i64 v32.2.life), .v (.bool v32.2.off), .v (.int .i64 v32.2.trip), .v (.int .i64 v32.2.tripKeep)]) :: (73, .v (.bool (!v32.1))) :: (74, .v (.bool (!v32.1))) :: (75, .v (.bool true)) :: (76, .box 64 [.v (.int .i64 v31.2.limit), .fr (.own 46) false 15 (List.flatten (List.map T_Rec.ienc v31.2.recs)), .v (.int .i64 v31.2.used), .v (.int .i64 v31.2.safe), .v (.int .i64 v31.2.kept), .v (.int .i64 v31.2.life), .v (.bool v31.2.off), .v (.int .i64 v31.2.trip), .v (.int .i64 v31.2.tripKeep)]) :: (77, .v (.bool v33.1)) :: (76, .box 64 [.v (.int .i64 v33.2.limit), .fr (.own 46) false 15 (List.flatten (List.map T_Rec.ienc v33.2.recs)), .v (.int .i64 v33.2.used), .v (.int .i64 v33.2.safe), .v (.int .i64 v33.2.kept), .v (.int .i64 v33.2.life), .v (.bool v33.2.off), .v (.int .i64 v33.2.trip), .v (.int .i64 v33.2.tripKeep)]) :: (78, .v (.bool v33.1)) :: (79, .v (.bool true)) :: (80, .box 64 [.v (.int .i64 v32.2.limit), .fr (.own 46) false 15 (List.flatten (List.map T_Rec.ienc v32.2.recs)), .v (.int .i64 v32.2.used), .v (.int .i64 v32.2.safe), .v (.int .i64 v32.2.kept), .v (.int .i64 v32.2.life), .v (.bool v32.2.off), .v (.int .i64 v32.2.trip), .v (.int .i64 v32.2.tripKeep)]) :: (81, .v (.int .i64 v34.1)) :: (80, .box 64 [.v (.int .i64 v34.2.limit), .fr (.own 46) false 15 (List.flatten (List.map T_Rec.ienc v34.2.recs)), .v (.int .i64 v34.2.used), .v (.int .i64 v34.2.safe), .v (.int .i64 v34.2.kept), .v (.int .i64 v34.2.life), .v (.bool v34.2.off), .v (.int .i64 v34.2.trip), .v (.int .i64 v34.2.tripKeep)]) :: (82, .v (.bool (v34.1 == 0))) :: (83, .v (.bool (v34.1 == 0))) :: (84, .v (.bool false)) :: (85, .v undef) :: (86, .v (.bool false)) :: (4, .v (.bool false)) :: [])) (init := [0, 1, 2, 3]) (fin := [33]) (sps := (⟨[2], [], [4], [(.slot 62)]⟩ :: ⟨[3], [], [5], [(.slot 63)]⟩ :: ⟨[4, 5], [], [6], [(.slot 64)]⟩ :: ⟨[6], [], [7], [(.slot 65)]⟩ :: ⟨[7, 1], [], [8], [(.slot 66)]⟩ :: ⟨[7, 8], [1], [10, 9], [(.slot 67), (.cell 7 0), (.cell 7 1), (.cell 7 2), (.cell 7 3), (.cell 7 4), (.cell 7 5), (.cell 7 6), (.cell 7 7), (.cell 7 8)]⟩ :: ⟨[7, 9], [], [11], [(.slot 68)]⟩ :: ⟨[7, 11], [], [12], [(.slot 69)]⟩ :: ⟨[12], [], [13], [(.slot 70)]⟩ :: ⟨[13, 0], [], [14], [(.slot 71)]⟩ :: ⟨[13, 14], [0], [16, 15], [(.slot 72), (.cell 5 0), (.cell 5 1), (.cell 5 2), (.cell 5 3), (.cell 5 4), (.cell 5 5), (.cell 5 6), (.cell 5 7), (.cell 5 8)]⟩ :: ⟨[13, 15], [], [17], [(.slot 73)]⟩ :: ⟨[13, 17], [], [18], [(.slot 74)]⟩ :: ⟨[18], [], [19], [(.slot 75)]⟩ :: ⟨[19], [8, 10], [20], [(.slot 76)]⟩ :: ⟨[19], [20], [22, 21], [(.slot 77), (.cell 76 0), (.cell 76 1), (.cell 76 2), (.cell 76 3), (.cell 76 4), (.cell 76 5), (.cell 76 6), (.cell 76 7), (.cell 76 8)]⟩ :: ⟨[19, 21], [], [23], [(.slot 78)]⟩ :: ⟨[23], [], [24], [(.slot 79)]⟩ :: ⟨[24], [14, 16], [25], [(.slot 80)]⟩ :: ⟨[24], [25], [27, 26], [(.slot 81), (.cell 80 0), (.cell 80 1), (.cell 80 2), (.cell 80 3), (.cell 80 4), (.cell 80 5), (.cell 80 6), (.cell 80 7), (.cell 80 8)]⟩ :: ⟨[24, 26], [], [28], [(.slot 82)]⟩ :: ⟨[24, 28], [], [29], [(.slot 83)]⟩ :: ⟨[29], [], [30], [(.slot 84)]⟩ :: ⟨[30], [], [31], [(.slot 85)]⟩ :: ⟨[30], [], [32], [(.slot 86)]⟩ :: ⟨[32], [], [33], [(.slot 4)]⟩ :: [])) (es' := [(4, .v (.bool false))]) (by kernel_rfl) rfl rfl
                 ⟨st_plain rfl (op_move _ _ _ _ rfl rfl),
                 st_plain rfl (op_move _ _ _ _ rfl rfl),
                 st_plain rfl (op_bin _ _ _ _ _ rfl rfl rfl),
                 st_plain rfl (op_move _ _ _ _ (congrArg (fun b => AV.v (Value.bool b)) hg14_3) rfl),
                 st_run 3 65 true rfl rfl rfl (List.Mem.head _) (op_move _ _ _ _ rfl rfl),
                 st_run 3 65 true rfl rfl rfl (List.Mem.head _) (op_callP _ _ _ _ 67 34 [.tmp 66] [] _ _ _ rfl Try.call34 rfl rfl rfl (ok_diary_Diary_Len v30 _ hv31) (Nat.le_of_ble_eq_true rfl) rfl rfl rfl rfl rfl rfl rfl rfl),
                 st_run 3 65 true rfl rfl rfl (List.Mem.head _) (op_bin _ _ _ _ _ rfl rfl rfl),
                 st_plain rfl (op_pick _ _ true _ rfl rfl),
                 st_plain rfl (op_move _ _ _ _ (congrArg (fun b => AV.v (Value.bool b)) hg14_8) rfl),
                 st_run 8 70 true rfl rfl rfl (List.Mem.head _) (op_move _ _ _ _ rfl rfl),
                 st_run 8 70 true rfl rfl rfl (List.Mem.head _) (op_callP _ _ _ _ 72 37 [.tmp 71] [] _ _ _ rfl Try.call37 rfl rfl rfl (ok_diary_Diary_Off v22.2 _ hv32) (Nat.le_of_ble_eq_true rfl) rfl rfl rfl rfl rfl rfl rfl rfl),
                 st_run 8 70 true rfl rfl rfl (List.Mem.head _) (op_un _ _ _ _ rfl rfl),
                 st_plain rfl (op_pick _ _ true _ rfl rfl),
                 st_plain rfl (op_move _ _ _ _ (congrArg (fun b => AV.v (Value.bool b)) hg14_13) rfl),
                 st_run 13 75 true rfl rfl rfl (List.Mem.head _) (LOp.drop [_] (op_move_take _ _ _ _ rfl)),
                 st_run 13 75 true rfl rfl rfl (List.Mem.head _) (op_callP _ _ _ _ 77 37 [.tmp 76] [] _ _ _ rfl Try.call37 rfl rfl rfl (ok_diary_Diary_Off v31.2 _ hv33) (Nat.le_of_ble_eq_true rfl) rfl rfl rfl rfl rfl rfl rfl rfl),
                 st_plain rfl (op_pick _ _ true _ rfl rfl),
                 st_plain rfl (op_move _ _ _ _ (congrArg (fun b => AV.v (Value.bool b)) hg14_17) rfl),
                 st_run 17 79 true rfl rfl rfl (List.Mem.head _) (LOp.drop [_] (op_move_take _ _ _ _ rfl)),
                 st_run 17 79 true rfl rfl rfl (List.Mem.head _) (op_callP _ _ _ _ 81 36 [.tmp 80] [] _ _ _ rfl Try.call36 rfl rfl rfl (ok_diary_Diary_Life v32.2 _ hv34) (Nat.le_of_ble_eq_true rfl) rfl rfl rfl rfl rfl rfl rfl rfl),
                 st_run 17 79 true rfl rfl rfl (List.Mem.head _) (op_bin _ _ _ _ _ rfl rfl rfl),
                 st_plain rfl (op_pick _ _ true _ rfl rfl),
                 st_plain rfl (op_move _ _ _ _ (congrArg (fun b => AV.v (Value.bool b)) hg14_22) rfl),
                 st_skip 22 84 _ true rfl rfl rfl rfl (List.Mem.head _),
                 st_plain rfl (op_pick _ _ false _ rfl rfl),
                 st_plain rfl (op_assign _ _ _ _ rfl rfl),
                 trivial⟩ ?_
                exact hl38 _ (Option.some.inj h).symm
              ·refine ht_seqR hn (El := (_ :: _ :: _ :: _ :: (62, .v (.int .i64 v22.1)) :: (63, .v (.int .i64 s25)) :: (64, .v (.bool (v22.1 == s25))) :: (65, .v (.bool true)) :: (66, .ptr 7 0) :: (67, .v (.int .i64 v31.1)) :: (7, .box 64 [.v (.int .i64 v31.2.limit), .fr (.own 46) false 15 (List.flatten (List.map T_Rec.ienc v31.2.recs)), .v (.int .i64 v31.2.used), .v (.int .i64 v31.2.safe), .v (.int .i64 v31.2.kept), .v (.int .i64 v31.2.life), .v (.bool v31.2.off), .v (.int .i64 v31.2.trip), .v (.int .i64 v31.2.tripKeep)]) :: (68, .v (.bool (v31.1 == 0))) :: (69, .v (.bool (v31.1 == 0))) :: (70, .v (.bool true)) :: (71, .ptr 5 0) :: (72, .v (.bool v32.1)) :: (5, .box 64 [.v (.int .i64 v32.2.limit), .fr (.own 46) false 15 (List.flatten (List.map T_Rec.ienc v32.2.recs)), .v (.int .i64 v32.2.used), .v (.int .i64 v32.2.safe), .v (.int .i64 v32.2.kept), .v (.int .i64 v32.2.life), .v (.bool v32.2.off), .v (.int .i64 v32.2.trip), .v (.int .i64 v32.2.tripKeep)]) :: (73, .v (.bool (!v32.1))) :: (74, .v (.bool (!v32.1))) :: (75, .v (.bool true)) :: (76, .box 64 [.v (.int .i64 v31.2.limit), .fr (.own 46) false 15 (List.flatten (List.map T_Rec.ienc v31.2.recs)), .v (.int .i64 v31.2.used), .v (.int .i64 v31.2.safe), .v (.int .i64 v31.2.kept), .v (.int .i64 v31.2.life), .v (.bool v31.2.off), .v (.int .i64 v31.2.trip), .v (.int .i64 v31.2.tripKeep)]) :: (77, .v (.bool v33.1)) :: (76, .box 64 [.v (.int .i64 v33.2.limit), .fr (.own 46) false 15 (List.flatten (List.map T_Rec.ienc v33.2.recs)), .v (.int .i64 v33.2.used), .v (.int .i64 v33.2.safe), .v (.int .i64 v33.2.kept), .v (.int .i64 v33.2.life), .v (.bool v33.2.off), .v (.int .i64 v33.2.trip), .v (.int .i64 v33.2.tripKeep)]) :: (78, .v (.bool v33.1)) :: (79, .v (.bool false)) :: (80, .v undef) :: (81, .v undef) :: (82, .v undef) :: (83, .v (.bool false)) :: (84, .v (.bool false)) :: (85, .v undef) :: (86, .v (.bool false)) :: (4, .v (.bool false)) :: [])) (init := [0, 1, 2, 3]) (fin := [32]) (sps := (⟨[2], [], [4], [(.slot 62)]⟩ :: ⟨[3], [], [5], [(.slot 63)]⟩ :: ⟨[4, 5], [], [6], [(.slot 64)]⟩ :: ⟨[6], [], [7], [(.slot 65)]⟩ :: ⟨[7, 1], [], [8], [(.slot 66)]⟩ :: ⟨[7, 8], [1], [10, 9], [(.slot 67), (.cell 7 0), (.cell 7 1), (.cell 7 2), (.cell 7 3), (.cell 7 4), (.cell 7 5), (.cell 7 6), (.cell 7 7), (.cell 7 8)]⟩ :: ⟨[7, 9], [], [11], [(.slot 68)]⟩ :: ⟨[7, 11], [], [12], [(.slot 69)]⟩ :: ⟨[12], [], [13], [(.slot 70)]⟩ :: ⟨[13, 0], [], [14], [(.slot 71)]⟩ :: ⟨[13, 14], [0], [16, 15], [(.slot 72), (.cell 5 0), (.cell 5 1), (.cell 5 2), (.cell 5 3), (.cell 5 4), (.cell 5 5), (.cell 5 6), (.cell 5 7), (.cell 5 8)]⟩ :: ⟨[13, 15], [], [17], [(.slot 73)]⟩ :: ⟨[13, 17], [], [18], [(.slot 74)]⟩ :: ⟨[18], [], [19], [(.slot 75)]⟩ :: ⟨[19], [8, 10], [20], [(.slot 76)]⟩ :: ⟨[19], [20], [22, 21], [(.slot 77), (.cell 76 0), (.cell 76 1), (.cell 76 2), (.cell 76 3), (.cell 76 4), (.cell 76 5), (.cell 76 6), (.cell 76 7), (.cell 76 8)]⟩ :: ⟨[19, 21], [], [23], [(.slot 78)]⟩ :: ⟨[23], [], [24], [(.slot 79)]⟩ :: ⟨[24], [], [25], [(.slot 80)]⟩ :: ⟨[24], [], [26], [(.slot 81)]⟩ :: ⟨[24], [], [27], [(.slot 82)]⟩ :: ⟨[24], [], [28], [(.slot 83)]⟩ :: ⟨[28], [], [29], [(.slot 84)]⟩ :: ⟨[29], [], [30], [(.slot 85)]⟩ :: ⟨[29], [], [31], [(.slot 86)]⟩ :: ⟨[31], [], [32], [(.slot 4)]⟩ :: [])) (es' := [(4, .v (.bool false))]) (by kernel_rfl) rfl rfl
                ⟨st_plain rfl (op_move _ _ _ _ rfl rfl),
                st_plain rfl (op_move _ _ _ _ rfl rfl),
                st_plain rfl (op_bin _ _ _ _ _ rfl rfl rfl),
                st_plain rfl (op_move _ _ _ _ (congrArg (fun b => AV.v (Value.bool b)) hg14_3) rfl),
                st_run 3 65 true rfl rfl rfl (List.Mem.head _) (op_move _ _ _ _ rfl rfl),
                st_run 3 65 true rfl rfl rfl (List.Mem.head _) (op_callP _ _ _ _ 67 34 [.tmp 66] [] _ _ _ rfl Try.call34 rfl rfl rfl (ok_diary_Diary_Len v30 _ hv31) (Nat.le_of_ble_eq_true rfl) rfl rfl rfl rfl rfl rfl rfl rfl),
                st_run 3 65 true rfl rfl rfl (List.Mem.head _) (op_bin _ _ _ _ _ rfl rfl rfl),
                st_plain rfl (op_pick _ _ true _ rfl rfl),
                st_plain rfl (op_move _ _ _ _ (congrArg (fun b => AV.v (Value.bool b)) hg14_8) rfl),
                st_run 8 70 true rfl rfl rfl (List.Mem.head _) (op_move _ _ _ _ rfl rfl),
                st_run 8 70 true rfl rfl rfl (List.Mem.head _) (op_callP _ _ _ _ 72 37 [.tmp 71] [] _ _ _ rfl Try.call37 rfl rfl rfl (ok_diary_Diary_Off v22.2 _ hv32) (Nat.le_of_ble_eq_true rfl) rfl rfl rfl rfl rfl rfl rfl rfl),
                st_run 8 70 true rfl rfl rfl (List.Mem.head _) (op_un _ _ _ _ rfl rfl),
                st_plain rfl (op_pick _ _ true _ rfl rfl),
                st_plain rfl (op_move _ _ _ _ (congrArg (fun b => AV.v (Value.bool b)) hg14_13) rfl),
                st_run 13 75 true rfl rfl rfl (List.Mem.head _) (LOp.drop [_] (op_move_take _ _ _ _ rfl)),
                st_run 13 75 true rfl rfl rfl (List.Mem.head _) (op_callP _ _ _ _ 77 37 [.tmp 76] [] _ _ _ rfl Try.call37 rfl rfl rfl (ok_diary_Diary_Off v31.2 _ hv33) (Nat.le_of_ble_eq_true rfl) rfl rfl rfl rfl rfl rfl rfl rfl),
                st_plain rfl (op_pick _ _ true _ rfl rfl),
                st_plain rfl (op_move _ _ _ _ (congrArg (fun b => AV.v (Value.bool b)) hg14_17) rfl),
                st_skip 17 79 _ true rfl rfl rfl rfl (List.Mem.head _),
                st_skip 17 79 _ true rfl rfl rfl rfl (List.Mem.head _),
                st_skip 17 79 _ true rfl rfl rfl rfl (List.Mem.head _),
                st_plain rfl (op_pick _ _ false _ rfl rfl),
                st_plain rfl (op_move _ _ _ _ rfl rfl),
                st_skip 22 84 _ true rfl rfl rfl rfl (List.Mem.head _),
                st_plain rfl (op_pick _ _ false _ rfl rfl),
                st_plain rfl (op_assign _ _ _ _ rfl rfl),
                trivial⟩ ?_
               exact hl38 _ (Option.some.inj h).symm
             ·refine ht_seqR hn (El := (_ :: _ :: _ :: _ :: (62, .v (.int .i64 v22.1)) :: (63, .v (.int .i64 s25)) :: (64, .v (.bool (v22.1 == s25))) :: (65, .v (.bool true)) :: (66, .ptr 7 0) :: (67, .v (.int .i64 v31.1)) :: (7, .box 64 [.v (.int .i64 v31.2.limit), .fr (.own 46) false 15 (List.flatten (List.map T_Rec.ienc v31.2.recs)), .v (.int .i64 v31.2.used), .v (.int .i64 v31.2.safe), .v (.int .i64 v31.2.kept), .v (.int .i64 v31.2.life), .v (.bool v31.2.off), .v (.int .i64 v31.2.trip), .v (.int .i64 v31.2.tripKeep)]) :: (68, .v (.bool (v31.1 == 0))) :: (69, .v (.bool (v31.1 == 0))) :: (70, .v (.bool true)) :: (71, .ptr 5 0) :: (72, .v (.bool v32.1)) :: (5, .box 64 [.v (.int .i64 v32.2.limit), .fr (.own 46) false 15 (List.flatten (List.map T_Rec.ienc v32.2.recs)), .v (.int .i64 v32.2.used), .v (.int .i64 v32.2.safe), .v (.int .i64 v32.2.kept), .v (.int .i64 v32.2.life), .v (.bool v32.2.off), .v (.int .i64 v32.2.trip), .v (.int .i64 v32.2.tripKeep)]) :: (73, .v (.bool (!v32.1))) :: (74, .v (.bool (!v32.1))) :: (75, .v (.bool false)) :: (76, .v undef) :: (77, .v undef) :: (78, .v (.bool false)) :: (79, .v (.bool false)) :: (80, .v undef) :: (81, .v undef) :: (82, .v undef) :: (83, .v (.bool false)) :: (84, .v (.bool false)) :: (85, .v undef) :: (86, .v (.bool false)) :: (4, .v (.bool false)) :: [])) (init := [0, 1, 2, 3]) (fin := [31]) (sps := (⟨[2], [], [4], [(.slot 62)]⟩ :: ⟨[3], [], [5], [(.slot 63)]⟩ :: ⟨[4, 5], [], [6], [(.slot 64)]⟩ :: ⟨[6], [], [7], [(.slot 65)]⟩ :: ⟨[7, 1], [], [8], [(.slot 66)]⟩ :: ⟨[7, 8], [1], [10, 9], [(.slot 67), (.cell 7 0), (.cell 7 1), (.cell 7 2), (.cell 7 3), (.cell 7 4), (.cell 7 5), (.cell 7 6), (.cell 7 7), (.cell 7 8)]⟩ :: ⟨[7, 9], [], [11], [(.slot 68)]⟩ :: ⟨[7, 11], [], [12], [(.slot 69)]⟩ :: ⟨[12], [], [13], [(.slot 70)]⟩ :: ⟨[13, 0], [], [14], [(.slot 71)]⟩ :: ⟨[13, 14], [0], [16, 15], [(.slot 72), (.cell 5 0), (.cell 5 1), (.cell 5 2), (.cell 5 3), (.cell 5 4), (.cell 5 5), (.cell 5 6), (.cell 5 7), (.cell 5 8)]⟩ :: ⟨[13, 15], [], [17], [(.slot 73)]⟩ :: ⟨[13, 17], [], [18], [(.slot 74)]⟩ :: ⟨[18], [], [19], [(.slot 75)]⟩ :: ⟨[19], [], [20], [(.slot 76)]⟩ :: ⟨[19], [], [21], [(.slot 77)]⟩ :: ⟨[19], [], [22], [(.slot 78)]⟩ :: ⟨[22], [], [23], [(.slot 79)]⟩ :: ⟨[23], [], [24], [(.slot 80)]⟩ :: ⟨[23], [], [25], [(.slot 81)]⟩ :: ⟨[23], [], [26], [(.slot 82)]⟩ :: ⟨[23], [], [27], [(.slot 83)]⟩ :: ⟨[27], [], [28], [(.slot 84)]⟩ :: ⟨[28], [], [29], [(.slot 85)]⟩ :: ⟨[28], [], [30], [(.slot 86)]⟩ :: ⟨[30], [], [31], [(.slot 4)]⟩ :: [])) (es' := [(4, .v (.bool false))]) (by kernel_rfl) rfl rfl
               ⟨st_plain rfl (op_move _ _ _ _ rfl rfl),
               st_plain rfl (op_move _ _ _ _ rfl rfl),
               st_plain rfl (op_bin _ _ _ _ _ rfl rfl rfl),
               st_plain rfl (op_move _ _ _ _ (congrArg (fun b => AV.v (Value.bool b)) hg14_3) rfl),
               st_run 3 65 true rfl rfl rfl (List.Mem.head _) (op_move _ _ _ _ rfl rfl),
               st_run 3 65 true rfl rfl rfl (List.Mem.head _) (op_callP _ _ _ _ 67 34 [.tmp 66] [] _ _ _ rfl Try.call34 rfl rfl rfl (ok_diary_Diary_Len v30 _ hv31) (Nat.le_of_ble_eq_true rfl) rfl rfl rfl rfl rfl rfl rfl rfl),
               st_run 3 65 true rfl rfl rfl (List.Mem.head _) (op_bin _ _ _ _ _ rfl rfl rfl),
               st_plain rfl (op_pick _ _ true _ rfl rfl),
               st_plain rfl (op_move _ _ _ _ (congrArg (fun b => AV.v (Value.bool b)) hg14_8) rfl),
               st_run 8 70 true rfl rfl rfl (List.Mem.head _) (op_move _ _ _ _ rfl rfl),
               st_run 8 70 true rfl rfl rfl (List.Mem.head _) (op_callP _ _ _ _ 72 37 [.tmp 71] [] _ _ _ rfl Try.call37 rfl rfl rfl (ok_diary_Diary_Off v22.2 _ hv32) (Nat.le_of_ble_eq_true rfl) rfl rfl rfl rfl rfl rfl rfl rfl),
               st_run 8 70 true rfl rfl rfl (List.Mem.head _) (op_un _ _ _ _ rfl rfl),
               st_plain rfl (op_pick _ _ true _ rfl rfl),
               st_plain rfl (op_move _ _ _ _ (congrArg (fun b => AV.v (Value.bool b)) hg14_13) rfl),
               st_skip 13 75 _ true rfl rfl rfl rfl (List.Mem.head _),
               st_skip 13 75 _ true rfl rfl rfl rfl (List.Mem.head _),
               st_plain rfl (op_pick _ _ false _ rfl rfl),
               st_plain rfl (op_move _ _ _ _ rfl rfl),
               st_skip 17 79 _ true rfl rfl rfl rfl (List.Mem.head _),
               st_skip 17 79 _ true rfl rfl rfl rfl (List.Mem.head _),
               st_skip 17 79 _ true rfl rfl rfl rfl (List.Mem.head _),
               st_plain rfl (op_pick _ _ false _ rfl rfl),
               st_plain rfl (op_move _ _ _ _ rfl rfl),
               st_skip 22 84 _ true rfl rfl rfl rfl (List.Mem.head _),
               st_plain rfl (op_pick _ _ false _ rfl rfl),
               st_plain rfl (op_assign _ _ _ _ rfl rfl),
               trivial⟩ ?_
              exact hl38 _ (Option.some.inj h).symm
            ·refine ht_seqR hn (El := (_ :: _ :: _ :: _ :: (62, .v (.int .i64 v22.1)) :: (63, .v (.int .i64 s25)) :: (64, .v (.bool (v22.1 == s25))) :: (65, .v (.bool true)) :: (66, .ptr 7 0) :: (67, .v (.int .i64 v31.1)) :: (7, .box 64 [.v (.int .i64 v31.2.limit), .fr (.own 46) false 15 (List.flatten (List.map T_Rec.ienc v31.2.recs)), .v (.int .i64 v31.2.used), .v (.int .i64 v31.2.safe), .v (.int .i64 v31.2.kept), .v (.int .i64 v31.2.life), .v (.bool v31.2.off), .v (.int .i64 v31.2.trip), .v (.int .i64 v31.2.tripKeep)]) :: (68, .v (.bool (v31.1 == 0))) :: (69, .v (.bool (v31.1 == 0))) :: (70, .v (.bool false)) :: (71, .v undef) :: (72, .v undef) :: (73, .v undef) :: (74, .v (.bool false)) :: (75, .v (.bool false)) :: (76, .v undef) :: (77, .v undef) :: (78, .v (.bool false)) :: (79, .v (.bool false)) :: (80, .v undef) :: (81, .v undef) :: (82, .v undef) :: (83, .v (.bool false)) :: (84, .v (.bool false)) :: (85, .v undef) :: (86, .v (.bool false)) :: (4, .v (.bool false)) :: [])) (init := [0, 1, 2, 3]) (fin := [30]) (sps := (⟨[2], [], [4], [(.slot 62)]⟩ :: ⟨[3], [], [5], [(.slot 63)]⟩ :: ⟨[4, 5], [], [6], [(.slot 64)]⟩ :: ⟨[6], [], [7], [(.slot 65)]⟩ :: ⟨[7, 1], [], [8], [(.slot 66)]⟩ :: ⟨[7, 8], [1], [10, 9], [(.slot 67), (.cell 7 0), (.cell 7 1), (.cell 7 2), (.cell 7 3), (.cell 7 4), (.cell 7 5), (.cell 7 6), (.cell 7 7), (.cell 7 8)]⟩ :: ⟨[7, 9], [], [11], [(.slot 68)]⟩ :: ⟨[7, 11], [], [12], [(.slot 69)]⟩ :: ⟨[12], [], [13], [(.slot 70)]⟩ :: ⟨[13], [], [14], [(.slot 71)]⟩ :: ⟨[13], [], [15], [(.slot 72)]⟩ :: ⟨[13], [], [16], [(.slot 73)]⟩ :: ⟨[13], [], [17], [(.slot 74)]⟩ :: ⟨[17], [], [18], [(.slot 75)]⟩ :: ⟨[18], [], [19], [(.slot 76)]⟩ :: ⟨[18], [], [20], [(.slot 77)]⟩ :: ⟨[18], [], [21], [(.slot 78)]⟩ :: ⟨[21], [], [22], [(.slot 79)]⟩ :: ⟨[22], [], [23], [(.slot 80)]⟩ :: ⟨[22], [], [24], [(.slot 81)]⟩ :: ⟨[22], [], [25], [(.slot 82)]⟩ :: ⟨[22], [], [26], [(.slot 83)]⟩ :: ⟨[26], [], [27], [(.slot 84)]⟩ :: ⟨[27], [], [28], [(.slot 85)]⟩ :: ⟨[27], [], [29], [(.slot 86)]⟩ :: ⟨[29], [], [30], [(.slot 4)]⟩ :: [])) (es' := [(4, .v (.bool false))]) (by kernel_rfl) rfl rfl
              ⟨st_plain rfl (op_move _ _ _ _ rfl rfl),
              st_plain rfl (op_move _ _ _ _ rfl rfl),
              st_plain rfl (op_bin _ _ _ _ _ rfl rfl rfl),
              st_plain rfl (op_move _ _ _ _ (congrArg (fun b => AV.v (Value.bool b)) hg14_3) rfl),
              st_run 3 65 true rfl rfl rfl (List.Mem.head _) (op_move _ _ _ _ rfl rfl),
              st_run 3 65 true rfl rfl rfl (List.Mem.head _) (op_callP _ _ _ _ 67 34 [.tmp 66] [] _ _ _ rfl Try.call34 rfl rfl rfl (ok_diary_Diary_Len v30 _ hv31) (Nat.le_of_ble_eq_true rfl) rfl rfl rfl rfl rfl rfl rfl rfl),
              st_run 3 65 true rfl rfl rfl (List.Mem.head _) (op_bin _ _ _ _ _ rfl rfl rfl),
              st_plain rfl (op_pick _ _ true _ rfl rfl),
              st_plain rfl (op_move _ _ _ _ (congrArg (fun b => AV.v (Value.bool b)) hg14_8) rfl),
              st_skip 8 70 _ true rfl rfl rfl rfl (List.Mem.head _),
              st_skip 8 70 _ true rfl rfl rfl rfl (List.Mem.head _),
              st_skip 8 70 _ true rfl rfl rfl rfl (List.Mem.head _),
              st_plain rfl (op_pick _ _ false _ rfl rfl),
              st_plain rfl (op_move _ _ _ _ rfl rfl),
              st_skip 13 75 _ true rfl rfl rfl rfl (List.Mem.head _),
              st_skip 13 75 _ true rfl rfl rfl rfl (List.Mem.head _),
              st_plain rfl (op_pick _ _ false _ rfl rfl),
              st_plain rfl (op_move _ _ _ _ rfl rfl),
              st_skip 17 79 _ true rfl rfl rfl rfl (List.Mem.head _),
              st_skip 17 79 _ true rfl rfl rfl rfl (List.Mem.head _),
              st_skip 17 79 _ true rfl rfl rfl rfl (List.Mem.head _),
              st_plain rfl (op_pick _ _ false _ rfl rfl),
              st_plain rfl (op_move _ _ _ _ rfl rfl),
              st_skip 22 84 _ true rfl rfl rfl rfl (List.Mem.head _),
              st_plain rfl (op_pick _ _ false _ rfl rfl),
              st_plain rfl (op_assign _ _ _ _ rfl rfl),
              trivial⟩ ?_
             exact hl38 _ (Option.some.inj h).symm
           ·refine ht_seqR hn (El := (_ :: _ :: _ :: _ :: (62, .v (.int .i64 v22.1)) :: (63, .v (.int .i64 s25)) :: (64, .v (.bool (v22.1 == s25))) :: (65, .v (.bool false)) :: (66, .v undef) :: (67, .v undef) :: (68, .v undef) :: (69, .v (.bool false)) :: (70, .v (.bool false)) :: (71, .v undef) :: (72, .v undef) :: (73, .v undef) :: (74, .v (.bool false)) :: (75, .v (.bool false)) :: (76, .v undef) :: (77, .v undef) :: (78, .v (.bool false)) :: (79, .v (.bool false)) :: (80, .v undef) :: (81, .v undef) :: (82, .v undef) :: (83, .v (.bool false)) :: (84, .v (.bool false)) :: (85, .v undef) :: (86, .v (.bool false)) :: (4, .v (.bool false)) :: [])) (init := [0, 1, 2, 3]) (fin := [29]) (sps := (⟨[2], [], [4], [(.slot 62)]⟩ :: ⟨[3], [], [5], [(.slot 63)]⟩ :: ⟨[4, 5], [], [6], [(.slot 64)]⟩ :: ⟨[6], [], [7], [(.slot 65)]⟩ :: ⟨[7], [], [8], [(.slot 66)]⟩ :: ⟨[7], [], [9], [(.slot 67)]⟩ :: ⟨[7], [], [10], [(.slot 68)]⟩ :: ⟨[7], [], [11], [(.slot 69)]⟩ :: ⟨[11], [], [12], [(.slot 70)]⟩ :: ⟨[12], [], [13], [(.slot 71)]⟩ :: ⟨[12], [], [14], [(.slot 72)]⟩ :: ⟨[12], [], [15], [(.slot 73)]⟩ :: ⟨[12], [], [16], [(.slot 74)]⟩ :: ⟨[16], [], [17], [(.slot 75)]⟩ :: ⟨[17], [], [18], [(.slot 76)]⟩ :: ⟨[17], [], [19], [(.slot 77)]⟩ :: ⟨[17], [], [20], [(.slot 78)]⟩ :: ⟨[20], [], [21], [(.slot 79)]⟩ :: ⟨[21], [], [22], [(.slot 80)]⟩ :: ⟨[21], [], [23], [(.slot 81)]⟩ :: ⟨[21], [], [24], [(.slot 82)]⟩ :: ⟨[21], [], [25], [(.slot 83)]⟩ :: ⟨[25], [], [26], [(.slot 84)]⟩ :: ⟨[26], [], [27], [(.slot 85)]⟩ :: ⟨[26], [], [28], [(.slot 86)]⟩ :: ⟨[28], [], [29], [(.slot 4)]⟩ :: [])) (es' := [(4, .v (.bool false))]) (by kernel_rfl) rfl rfl
             ⟨st_plain rfl (op_move _ _ _ _ rfl rfl),
             st_plain rfl (op_move _ _ _ _ rfl rfl),
             st_plain rfl (op_bin _ _ _ _ _ rfl rfl rfl),
             st_plain rfl (op_move _ _ _ _ (congrArg (fun b => AV.v (Value.bool b)) hg14_3) rfl),
             st_skip 3 65 _ true rfl rfl rfl rfl (List.Mem.head _),
             st_skip 3 65 _ true rfl rfl rfl rfl (List.Mem.head _),
             st_skip 3 65 _ true rfl rfl rfl rfl (List.Mem.head _),
             st_plain rfl (op_pick _ _ false _ rfl rfl),
             st_plain rfl (op_move _ _ _ _ rfl rfl),
             st_skip 8 70 _ true rfl rfl rfl rfl (List.Mem.head _),
             st_skip 8 70 _ true rfl rfl rfl rfl (List.Mem.head _),
             st_skip 8 70 _ true rfl rfl rfl rfl (List.Mem.head _),
             st_plain rfl (op_pick _ _ false _ rfl rfl),
             st_plain rfl (op_move _ _ _ _ rfl rfl),
             st_skip 13 75 _ true rfl rfl rfl rfl (List.Mem.head _),
             st_skip 13 75 _ true rfl rfl rfl rfl (List.Mem.head _),
             st_plain rfl (op_pick _ _ false _ rfl rfl),
             st_plain rfl (op_move _ _ _ _ rfl rfl),
             st_skip 17 79 _ true rfl rfl rfl rfl (List.Mem.head _),
             st_skip 17 79 _ true rfl rfl rfl rfl (List.Mem.head _),
             st_skip 17 79 _ true rfl rfl rfl rfl (List.Mem.head _),
             st_plain rfl (op_pick _ _ false _ rfl rfl),
             st_plain rfl (op_move _ _ _ _ rfl rfl),
             st_skip 22 84 _ true rfl rfl rfl rfl (List.Mem.head _),
             st_plain rfl (op_pick _ _ false _ rfl rfl),
             st_plain rfl (op_assign _ _ _ _ rfl rfl),
             trivial⟩ ?_
            exact hl38 _ (Option.some.inj h).symm
         ·intro u26 h hl27 hr28
          refine ht_seq ?_
          obtain ⟨v23, hv23, h⟩ := bind_some h
          refine ht_seqR hn (El := [_, _, _, _, _, _, (56, .agg [.v (.int .i64 p_r.Kind), .v (.bool p_r.Mail.From.Null), .v (.string p_r.Mail.From.Local), .v (.string p_r.Mail.From.Domain), .fl .shr 3 (List.flatten (List.map T_Path.enc p_r.Mail.To)), .fl .shr 1 (List.map (Value.int .u8) p_r.Mail.Body), .v (.bool p_r.Mail.Quiet), .v (.string p_r.Mail.Helo), .v (.int .i64 p_r.Mail.At), .v (.int .i64 p_r.Id), .fl .shr 1 (List.map (Value.int .i64) p_r.Ids), .v (.int .i64 p_r.Origin), .v (.int .i64 p_r.Number), .v (.int .i64 p_r.Offset), .fl .shr 1 (List.map (Value.int .u8) p_r.Data)]), (57, .v (.int .i64 v23)), (58, .v (.int .i64 limit)), (59, .v (.bool ((decide (limit < v23)))))]) (init := [0, 1, 2, 3, 4, 5]) (fin := [2, 3, 4, 5, 9]) (sps := [⟨[1], [], [6], [(.slot 56)]⟩, ⟨[6], [], [7], [(.slot 57)]⟩, ⟨[0], [], [8], [(.slot 58)]⟩, ⟨[7, 8], [], [9], [(.slot 59)]⟩]) (es' := [(_, _), (_, _), (_, _), (_, _), (59, .v (.bool ((decide (limit < v23)))))]) (by kernel_rfl) rfl rfl
           ⟨st_plain rfl (op_loadA _ _ _ _ _ _ _ Try.underlying46 rfl sz46 rfl rfl (Nat.le_of_ble_eq_true rfl) rfl rfl),
           st_plain rfl (op_call _ _ 33 _ _ rfl Try.call33 rfl (ok_diary_Room ((T_Rec.mk p_r.Kind ((T_Mail.mk (T_Path.mk p_r.Mail.From.Null p_r.Mail.From.Local p_r.Mail.From.Domain) p_r.Mail.To p_r.Mail.Body p_r.Mail.Quiet p_r.Mail.Helo p_r.Mail.At)) p_r.Id p_r.Ids p_r.Origin p_r.Number p_r.Offset p_r.Data)) _ hv23) rfl rfl),
           st_plain rfl (op_move _ _ _ _ rfl rfl),
           st_plain rfl (op_bin _ _ _ _ _ rfl rfl rfl),
           trivial⟩ ?_
          refine pt_then ?_
          refine ht_cond _ rfl (fun hb29 => ?_) (fun hb29 => ?_)
          ·have h := cond_t hb29 h
           refine ht_seqR hn (El := [_, _, _, _, _, (10, .v (.int .i64 8))]) (init := [0, 1, 2, 3, 4]) (fin := [0, 1, 2, 5]) (sps := [⟨[], [3], [5], [(.slot 10)]⟩]) (es' := [(_, _), (_, _), (_, _), (10, .v (.int .i64 8))]) (by kernel_rfl) rfl rfl
            ⟨st_plain rfl (LOp.drop [_] (op_assign _ _ _ _ rfl rfl)),
            trivial⟩ ?_
           exact hl27 _ (Option.some.inj h).symm
          ·have h := cond_f hb29 h
           refine ht_skip ?_
           refine pt_pick [0, 1, 2, 3] (by kernel_rfl) (es' := [(_, _), (_, _), (_, _), (_, _)]) rfl ?_
           exact hl27 _ (Option.some.inj h).symm
       ·intro u18 h hl19 hr20
        refine cond_some h (fun hg7_2 h => ?_) (fun hg7_2 h => ?_)
        ·refine ht_seqR hn (El := (_ :: _ :: _ :: _ :: _ :: _ :: (39, .v (.int .i64 v3.2)) :: (40, .v (.bool (v3.2 != 0))) :: (41, .v (.bool true)) :: (42, .v undef) :: (43, .v undef) :: (44, .v (.bool true)) :: (45, .v (.bool true)) :: (46, .v undef) :: (47, .v undef) :: (48, .v (.bool true)) :: (49, .v (.bool true)) :: (50, .v undef) :: (51, .v undef) :: (52, .v (.bool true)) :: [])) (init := [0, 1, 2, 3, 4, 5]) (fin := [0, 1, 2, 4, 19]) (sps := [⟨[3], [], [6], [(.slot 39)]⟩, ⟨[6], [], [7], [(.slot 40)]⟩, ⟨[7], [], [8], [(.slot 41)]⟩, ⟨[8], [], [9], [(.slot 42)]⟩, ⟨[8], [], [10], [(.slot 43)]⟩, ⟨[8], [], [11], [(.slot 44)]⟩, ⟨[11], [], [12], [(.slot 45)]⟩, ⟨[12], [], [13], [(.slot 46)]⟩, ⟨[12], [], [14], [(.slot 47)]⟩, ⟨[12], [], [15], [(.slot 48)]⟩, ⟨[15], [], [16], [(.slot 49)]⟩, ⟨[16], [], [17], [(.slot 50)]⟩, ⟨[16], [], [18], [(.slot 51)]⟩, ⟨[16], [], [19], [(.slot 52)]⟩]) (es' := [(_, _), (_, _), (_, _), (_, _), (52, .v (.bool true))]) (by kernel_rfl) rfl rfl
          ⟨st_plain rfl (op_move _ _ _ _ rfl rfl),
          st_plain rfl (op_bin _ _ _ _ _ rfl rfl rfl),
          st_plain rfl (op_move _ _ _ _ (congrArg (fun b => AV.v (Value.bool b)) hg7_2) rfl),
          st_skip 2 41 _ false rfl rfl rfl rfl (List.Mem.head _),
          st_skip 2 41 _ false rfl rfl rfl rfl (List.Mem.head _),
          st_plain rfl (op_pick _ _ true _ rfl rfl),
          st_plain rfl (op_move _ _ _ _ rfl rfl),
          st_skip 6 45 _ false rfl rfl rfl rfl (List.Mem.head _),
          st_skip 6 45 _ false rfl rfl rfl rfl (List.Mem.head _),
          st_plain rfl (op_pick _ _ true _ rfl rfl),
          st_plain rfl (op_move _ _ _ _ rfl rfl),
          st_skip 10 49 _ false rfl rfl rfl rfl (List.Mem.head _),
          st_skip 10 49 _ false rfl rfl rfl rfl (List.Mem.head _),
          st_plain rfl (op_pick _ _ true _ rfl rfl),
          trivial⟩ ?_
         exact hl19 _ (Option.some.inj h).symm
        ·refine cond_some h (fun hg7_6 h => ?_) (fun hg7_6 h => ?_)
         ·refine ht_seqR hn (El := (_ :: _ :: _ :: _ :: _ :: _ :: (39, .v (.int .i64 v3.2)) :: (40, .v (.bool (v3.2 != 0))) :: (41, .v (.bool false)) :: (42, .v (.int .i64 v14.2)) :: (43, .v (.bool (v14.2 != 0))) :: (44, .v (.bool (v14.2 != 0))) :: (45, .v (.bool true)) :: (46, .v undef) :: (47, .v undef) :: (48, .v (.bool true)) :: (49, .v (.bool true)) :: (50, .v undef) :: (51, .v undef) :: (52, .v (.bool true)) :: [])) (init := [0, 1, 2, 3, 4, 5]) (fin := [0, 1, 2, 4, 19]) (sps := [⟨[3], [], [6], [(.slot 39)]⟩, ⟨[6], [], [7], [(.slot 40)]⟩, ⟨[7], [], [8], [(.slot 41)]⟩, ⟨[8, 5], [], [9], [(.slot 42)]⟩, ⟨[8, 9], [], [10], [(.slot 43)]⟩, ⟨[8, 10], [], [11], [(.slot 44)]⟩, ⟨[11], [], [12], [(.slot 45)]⟩, ⟨[12], [], [13], [(.slot 46)]⟩, ⟨[12], [], [14], [(.slot 47)]⟩, ⟨[12], [], [15], [(.slot 48)]⟩, ⟨[15], [], [16], [(.slot 49)]⟩, ⟨[16], [], [17], [(.slot 50)]⟩, ⟨[16], [], [18], [(.slot 51)]⟩, ⟨[16], [], [19], [(.slot 52)]⟩]) (es' := [(_, _), (_, _), (_, _), (_, _), (52, .v (.bool true))]) (by kernel_rfl) rfl rfl
           ⟨st_plain rfl (op_move _ _ _ _ rfl rfl),
           st_plain rfl (op_bin _ _ _ _ _ rfl rfl rfl),
           st_plain rfl (op_move _ _ _ _ (congrArg (fun b => AV.v (Value.bool b)) hg7_2) rfl),
           st_run 2 41 false rfl rfl rfl (List.Mem.head _) (op_move _ _ _ _ rfl rfl),
           st_run 2 41 false rfl rfl rfl (List.Mem.head _) (op_bin _ _ _ _ _ rfl rfl rfl),
           st_plain rfl (op_pick _ _ false _ rfl rfl),
           st_plain rfl (op_move _ _ _ _ (congrArg (fun b => AV.v (Value.bool b)) hg7_6) rfl),
           st_skip 6 45 _ false rfl rfl rfl rfl (List.Mem.head _),
           st_skip 6 45 _ false rfl rfl rfl rfl (List.Mem.head _),
           st_plain rfl (op_pick _ _ true _ rfl rfl),
           st_plain rfl (op_move _ _ _ _ rfl rfl),
           st_skip 10 49 _ false rfl rfl rfl rfl (List.Mem.head _),
           st_skip 10 49 _ false rfl rfl rfl rfl (List.Mem.head _),
           st_plain rfl (op_pick _ _ true _ rfl rfl),
           trivial⟩ ?_
          exact hl19 _ (Option.some.inj h).symm
         ·refine ht_seqR hn (El := (_ :: _ :: _ :: _ :: _ :: _ :: (39, .v (.int .i64 v3.2)) :: (40, .v (.bool (v3.2 != 0))) :: (41, .v (.bool false)) :: (42, .v (.int .i64 v14.2)) :: (43, .v (.bool (v14.2 != 0))) :: (44, .v (.bool (v14.2 != 0))) :: (45, .v (.bool false)) :: (46, .ptr 5 0) :: (47, .v (.bool false)) :: (48, .v (.bool false)) :: (49, .v (.bool false)) :: (50, .ptr 7 0) :: (51, .v (.bool false)) :: (52, .v (.bool false)) :: [])) (init := [0, 1, 2, 3, 4, 5]) (fin := [0, 1, 2, 4, 19]) (sps := [⟨[3], [], [6], [(.slot 39)]⟩, ⟨[6], [], [7], [(.slot 40)]⟩, ⟨[7], [], [8], [(.slot 41)]⟩, ⟨[8, 5], [], [9], [(.slot 42)]⟩, ⟨[8, 9], [], [10], [(.slot 43)]⟩, ⟨[8, 10], [], [11], [(.slot 44)]⟩, ⟨[11], [], [12], [(.slot 45)]⟩, ⟨[12, 2], [], [13], [(.slot 46)]⟩, ⟨[12, 13, 2], [], [14], [(.slot 47)]⟩, ⟨[12, 14], [], [15], [(.slot 48)]⟩, ⟨[15], [], [16], [(.slot 49)]⟩, ⟨[16, 4], [], [17], [(.slot 50)]⟩, ⟨[16, 17, 4], [], [18], [(.slot 51)]⟩, ⟨[16, 18], [], [19], [(.slot 52)]⟩]) (es' := [(_, _), (_, _), (_, _), (_, _), (52, .v (.bool false))]) (by kernel_rfl) rfl rfl
           ⟨st_plain rfl (op_move _ _ _ _ rfl rfl),
           st_plain rfl (op_bin _ _ _ _ _ rfl rfl rfl),
           st_plain rfl (op_move _ _ _ _ (congrArg (fun b => AV.v (Value.bool b)) hg7_2) rfl),
           st_run 2 41 false rfl rfl rfl (List.Mem.head _) (op_move _ _ _ _ rfl rfl),
           st_run 2 41 false rfl rfl rfl (List.Mem.head _) (op_bin _ _ _ _ _ rfl rfl rfl),
           st_plain rfl (op_pick _ _ false _ rfl rfl),
           st_plain rfl (op_move _ _ _ _ (congrArg (fun b => AV.v (Value.bool b)) hg7_6) rfl),
           st_run 6 45 false rfl rfl rfl (List.Mem.head _) (op_move _ _ _ _ rfl rfl),
           st_run 6 45 false rfl rfl rfl (List.Mem.head _) (op_pnil _ _ false (by kernel_rfl) rfl rfl),
           st_plain rfl (op_pick _ _ false _ rfl rfl),
           st_plain rfl (op_move _ _ _ _ rfl rfl),
           st_run 10 49 false rfl rfl rfl (List.Mem.head _) (op_move _ _ _ _ rfl rfl),
           st_run 10 49 false rfl rfl rfl (List.Mem.head _) (op_pnil _ _ false (by kernel_rfl) rfl rfl),
           st_plain rfl (op_pick _ _ false _ rfl rfl),
           trivial⟩ ?_
          exact hl19 _ (Option.some.inj h).symm
      ·refine pt_then ?_
       refine ht_seq ?_
       refine ht_seq ?_
       refine ht_joinS h (fun (() : Unit) => [(0, .v (.int .i64 limit)), (3, .box 46 [.v (.int .i64 p_r.Kind), .v (.bool p_r.Mail.From.Null), .v (.string p_r.Mail.From.Local), .v (.string p_r.Mail.From.Domain), .fl .shr 3 (List.flatten (List.map T_Path.enc p_r.Mail.To)), .fl .shr 1 (List.map (Value.int .u8) p_r.Mail.Body), .v (.bool p_r.Mail.Quiet), .v (.string p_r.Mail.Helo), .v (.int .i64 p_r.Mail.At), .v (.int .i64 p_r.Id), .fl .shr 1 (List.map (Value.int .i64) p_r.Ids), .v (.int .i64 p_r.Origin), .v (.int .i64 p_r.Number), .v (.int .i64 p_r.Offset), .fl .shr 1 (List.map (Value.int .u8) p_r.Data)]), (5, .box 64 [.v (.int .i64 v4.limit), .fr (.own 46) false 15 (List.flatten (List.map T_Rec.ienc v4.recs)), .v (.int .i64 v4.used), .v (.int .i64 v4.safe), .v (.int .i64 v4.kept), .v (.int .i64 v4.life), .v (.bool v4.off), .v (.int .i64 v4.trip), .v (.int .i64 v4.tripKeep)]), (7, .v (.pointer none)), (52, .v (.bool true))]) ?_ ?_
       ·rintro ⟨⟩ h
        refine pt_then ?_
        refine ht_cond true rfl (fun _ => ?_) (fun hb => by cases hb)
        refine ht_seq ?_
        refine ht_seqR hn (El := [_, _, _, _, _, (4, .v (.bool false))]) (init := [0, 1, 2, 3, 4]) (fin := [5]) (sps := [⟨[], [], [5], [(.slot 4)]⟩]) (es' := [(4, .v (.bool false))]) (by kernel_rfl) rfl rfl
         ⟨st_plain rfl (op_assign _ _ _ _ rfl rfl),
         trivial⟩ ?_
        refine pt_then ?_
        refine ht_ret ?_
        refine pt_r_then ?_
        obtain rfl := Option.some.inj h
        exact pt_ret hio rfl (.tmp _ _ .nil) rfl rfl
       ·intro u40 h hl41 hr42
        refine cond_some h (fun hg7_2 h => ?_) (fun hg7_2 h => ?_)
        ·refine ht_seqR hn (El := (_ :: _ :: _ :: _ :: _ :: _ :: (39, .v (.int .i64 v3.2)) :: (40, .v (.bool (v3.2 != 0))) :: (41, .v (.bool true)) :: (42, .v undef) :: (43, .v undef) :: (44, .v (.bool true)) :: (45, .v (.bool true)) :: (46, .v undef) :: (47, .v undef) :: (48, .v (.bool true)) :: (49, .v (.bool true)) :: (50, .v undef) :: (51, .v undef) :: (52, .v (.bool true)) :: [])) (init := [0, 1, 2, 3, 4, 5]) (fin := [0, 1, 2, 4, 19]) (sps := [⟨[3], [], [6], [(.slot 39)]⟩, ⟨[6], [], [7], [(.slot 40)]⟩, ⟨[7], [], [8], [(.slot 41)]⟩, ⟨[8], [], [9], [(.slot 42)]⟩, ⟨[8], [], [10], [(.slot 43)]⟩, ⟨[8], [], [11], [(.slot 44)]⟩, ⟨[11], [], [12], [(.slot 45)]⟩, ⟨[12], [], [13], [(.slot 46)]⟩, ⟨[12], [], [14], [(.slot 47)]⟩, ⟨[12], [], [15], [(.slot 48)]⟩, ⟨[15], [], [16], [(.slot 49)]⟩, ⟨[16], [], [17], [(.slot 50)]⟩, ⟨[16], [], [18], [(.slot 51)]⟩, ⟨[16], [], [19], [(.slot 52)]⟩]) (es' := [(_, _), (_, _), (_, _), (_, _), (52, .v (.bool true))]) (by kernel_rfl) rfl rfl
          ⟨st_plain rfl (op_move _ _ _ _ rfl rfl),
          st_plain rfl (op_bin _ _ _ _ _ rfl rfl rfl),
          st_plain rfl (op_move _ _ _ _ (congrArg (fun b => AV.v (Value.bool b)) hg7_2) rfl),
          st_skip 2 41 _ false rfl rfl rfl rfl (List.Mem.head _),
          st_skip 2 41 _ false rfl rfl rfl rfl (List.Mem.head _),
          st_plain rfl (op_pick _ _ true _ rfl rfl),
          st_plain rfl (op_move _ _ _ _ rfl rfl),
          st_skip 6 45 _ false rfl rfl rfl rfl (List.Mem.head _),
          st_skip 6 45 _ false rfl rfl rfl rfl (List.Mem.head _),
          st_plain rfl (op_pick _ _ true _ rfl rfl),
          st_plain rfl (op_move _ _ _ _ rfl rfl),
          st_skip 10 49 _ false rfl rfl rfl rfl (List.Mem.head _),
          st_skip 10 49 _ false rfl rfl rfl rfl (List.Mem.head _),
          st_plain rfl (op_pick _ _ true _ rfl rfl),
          trivial⟩ ?_
         exact hl41 _ (Option.some.inj h).symm
        ·refine cond_some h (fun hg7_6 h => ?_) (fun hg7_6 h => ?_)
         ·refine ht_seqR hn (El := (_ :: _ :: _ :: _ :: _ :: _ :: (39, .v (.int .i64 v3.2)) :: (40, .v (.bool (v3.2 != 0))) :: (41, .v (.bool false)) :: (42, .v (.int .i64 v14.2)) :: (43, .v (.bool (v14.2 != 0))) :: (44, .v (.bool (v14.2 != 0))) :: (45, .v (.bool true)) :: (46, .v undef) :: (47, .v undef) :: (48, .v (.bool true)) :: (49, .v (.bool true)) :: (50, .v undef) :: (51, .v undef) :: (52, .v (.bool true)) :: [])) (init := [0, 1, 2, 3, 4, 5]) (fin := [0, 1, 2, 4, 19]) (sps := [⟨[3], [], [6], [(.slot 39)]⟩, ⟨[6], [], [7], [(.slot 40)]⟩, ⟨[7], [], [8], [(.slot 41)]⟩, ⟨[8, 5], [], [9], [(.slot 42)]⟩, ⟨[8, 9], [], [10], [(.slot 43)]⟩, ⟨[8, 10], [], [11], [(.slot 44)]⟩, ⟨[11], [], [12], [(.slot 45)]⟩, ⟨[12], [], [13], [(.slot 46)]⟩, ⟨[12], [], [14], [(.slot 47)]⟩, ⟨[12], [], [15], [(.slot 48)]⟩, ⟨[15], [], [16], [(.slot 49)]⟩, ⟨[16], [], [17], [(.slot 50)]⟩, ⟨[16], [], [18], [(.slot 51)]⟩, ⟨[16], [], [19], [(.slot 52)]⟩]) (es' := [(_, _), (_, _), (_, _), (_, _), (52, .v (.bool true))]) (by kernel_rfl) rfl rfl
           ⟨st_plain rfl (op_move _ _ _ _ rfl rfl),
           st_plain rfl (op_bin _ _ _ _ _ rfl rfl rfl),
           st_plain rfl (op_move _ _ _ _ (congrArg (fun b => AV.v (Value.bool b)) hg7_2) rfl),
           st_run 2 41 false rfl rfl rfl (List.Mem.head _) (op_move _ _ _ _ rfl rfl),
           st_run 2 41 false rfl rfl rfl (List.Mem.head _) (op_bin _ _ _ _ _ rfl rfl rfl),
           st_plain rfl (op_pick _ _ false _ rfl rfl),
           st_plain rfl (op_move _ _ _ _ (congrArg (fun b => AV.v (Value.bool b)) hg7_6) rfl),
           st_skip 6 45 _ false rfl rfl rfl rfl (List.Mem.head _),
           st_skip 6 45 _ false rfl rfl rfl rfl (List.Mem.head _),
           st_plain rfl (op_pick _ _ true _ rfl rfl),
           st_plain rfl (op_move _ _ _ _ rfl rfl),
           st_skip 10 49 _ false rfl rfl rfl rfl (List.Mem.head _),
           st_skip 10 49 _ false rfl rfl rfl rfl (List.Mem.head _),
           st_plain rfl (op_pick _ _ true _ rfl rfl),
           trivial⟩ ?_
          exact hl41 _ (Option.some.inj h).symm
         ·refine ht_seqR hn (El := (_ :: _ :: _ :: _ :: _ :: _ :: (39, .v (.int .i64 v3.2)) :: (40, .v (.bool (v3.2 != 0))) :: (41, .v (.bool false)) :: (42, .v (.int .i64 v14.2)) :: (43, .v (.bool (v14.2 != 0))) :: (44, .v (.bool (v14.2 != 0))) :: (45, .v (.bool false)) :: (46, .ptr 5 0) :: (47, .v (.bool false)) :: (48, .v (.bool false)) :: (49, .v (.bool false)) :: (50, .v (.pointer none)) :: (51, .v (.bool true)) :: (52, .v (.bool true)) :: [])) (init := [0, 1, 2, 3, 4, 5]) (fin := [0, 1, 2, 4, 19]) (sps := [⟨[3], [], [6], [(.slot 39)]⟩, ⟨[6], [], [7], [(.slot 40)]⟩, ⟨[7], [], [8], [(.slot 41)]⟩, ⟨[8, 5], [], [9], [(.slot 42)]⟩, ⟨[8, 9], [], [10], [(.slot 43)]⟩, ⟨[8, 10], [], [11], [(.slot 44)]⟩, ⟨[11], [], [12], [(.slot 45)]⟩, ⟨[12, 2], [], [13], [(.slot 46)]⟩, ⟨[12, 13, 2], [], [14], [(.slot 47)]⟩, ⟨[12, 14], [], [15], [(.slot 48)]⟩, ⟨[15], [], [16], [(.slot 49)]⟩, ⟨[16, 4], [], [17], [(.slot 50)]⟩, ⟨[16, 17], [], [18], [(.slot 51)]⟩, ⟨[16, 18], [], [19], [(.slot 52)]⟩]) (es' := [(_, _), (_, _), (_, _), (_, _), (52, .v (.bool true))]) (by kernel_rfl) rfl rfl
           ⟨st_plain rfl (op_move _ _ _ _ rfl rfl),
           st_plain rfl (op_bin _ _ _ _ _ rfl rfl rfl),
           st_plain rfl (op_move _ _ _ _ (congrArg (fun b => AV.v (Value.bool b)) hg7_2) rfl),
           st_run 2 41 false rfl rfl rfl (List.Mem.head _) (op_move _ _ _ _ rfl rfl),
           st_run 2 41 false rfl rfl rfl (List.Mem.head _) (op_bin _ _ _ _ _ rfl rfl rfl),
           st_plain rfl (op_pick _ _ false _ rfl rfl),
           st_plain rfl (op_move _ _ _ _ (congrArg (fun b => AV.v (Value.bool b)) hg7_6) rfl),
           st_run 6 45 false rfl rfl rfl (List.Mem.head _) (op_move _ _ _ _ rfl rfl),
           st_run 6 45 false rfl rfl rfl (List.Mem.head _) (op_pnil _ _ false (by kernel_rfl) rfl rfl),
           st_plain rfl (op_pick _ _ false _ rfl rfl),
           st_plain rfl (op_move _ _ _ _ rfl rfl),
           st_run 10 49 false rfl rfl rfl (List.Mem.head _) (op_move _ _ _ _ rfl rfl),
           st_run 10 49 false rfl rfl rfl (List.Mem.head _) (op_nilnil _ _ false (by kernel_rfl) rfl rfl),
           st_plain rfl (op_pick _ _ false _ rfl rfl),
           trivial⟩ ?_
          exact hl41 _ (Option.some.inj h).symm
    ·intro u7 h hl8 hr9
     refine cond_some h (fun hg4_2 h => ?_) (fun hg4_2 h => ?_)
     ·refine ht_seqR hn (El := [_, _, _, _, (19, .v (.int .i64 limit)), (20, .v (.bool ((decide (limit < 1))))), (21, .v (.bool true)), (22, .v undef), (23, .v undef), (24, .v (.bool true))]) (init := [0, 1, 2, 3]) (fin := [0, 1, 2, 3, 9]) (sps := [⟨[0], [], [4], [(.slot 19)]⟩, ⟨[4], [], [5], [(.slot 20)]⟩, ⟨[5], [], [6], [(.slot 21)]⟩, ⟨[6], [], [7], [(.slot 22)]⟩, ⟨[6], [], [8], [(.slot 23)]⟩, ⟨[6], [], [9], [(.slot 24)]⟩]) (es' := [(_, _), (_, _), (_, _), (_, _), (24, .v (.bool true))]) (by kernel_rfl) rfl rfl
       ⟨st_plain rfl (op_move _ _ _ _ rfl rfl),
       st_plain rfl (op_bin _ _ _ _ _ rfl rfl rfl),
       st_plain rfl (op_move _ _ _ _ (congrArg (fun b => AV.v (Value.bool b)) hg4_2) rfl),
       st_skip 2 21 _ false rfl rfl rfl rfl (List.Mem.head _),
       st_skip 2 21 _ false rfl rfl rfl rfl (List.Mem.head _),
       st_plain rfl (op_pick _ _ true _ rfl rfl),
       trivial⟩ ?_
      exact hl8 _ (Option.some.inj h).symm
     ·refine ht_seqR hn (El := [_, _, _, _, (19, .v (.int .i64 limit)), (20, .v (.bool ((decide (limit < 1))))), (21, .v (.bool false)), (22, .v (.int .i64 limit)), (23, .v (.bool ((decide (131072 < limit))))), (24, .v (.bool ((decide (131072 < limit)))))]) (init := [0, 1, 2, 3]) (fin := [0, 1, 2, 3, 9]) (sps := [⟨[0], [], [4], [(.slot 19)]⟩, ⟨[4], [], [5], [(.slot 20)]⟩, ⟨[5], [], [6], [(.slot 21)]⟩, ⟨[6, 0], [], [7], [(.slot 22)]⟩, ⟨[6, 7], [], [8], [(.slot 23)]⟩, ⟨[6, 8], [], [9], [(.slot 24)]⟩]) (es' := [(_, _), (_, _), (_, _), (_, _), (24, .v (.bool ((decide (131072 < limit)))))]) (by kernel_rfl) rfl rfl
       ⟨st_plain rfl (op_move _ _ _ _ rfl rfl),
       st_plain rfl (op_bin _ _ _ _ _ rfl rfl rfl),
       st_plain rfl (op_move _ _ _ _ (congrArg (fun b => AV.v (Value.bool b)) hg4_2) rfl),
       st_run 2 21 false rfl rfl rfl (List.Mem.head _) (op_move _ _ _ _ rfl rfl),
       st_run 2 21 false rfl rfl rfl (List.Mem.head _) (op_bin _ _ _ _ _ rfl rfl rfl),
       st_plain rfl (op_pick _ _ false _ rfl rfl),
       trivial⟩ ?_
      exact hl8 _ (Option.some.inj h).symm
   ·refine pt_then ?_
    refine ht_seq ?_
    refine ht_seq ?_
    refine ht_joinS h (fun (s43 : Bool) => [(0, .v (.int .i64 limit)), (3, .box 46 [.v (.int .i64 p_r.Kind), .v (.bool p_r.Mail.From.Null), .v (.string p_r.Mail.From.Local), .v (.string p_r.Mail.From.Domain), .fl .shr 3 (List.flatten (List.map T_Path.enc p_r.Mail.To)), .fl .shr 1 (List.map (Value.int .u8) p_r.Mail.Body), .v (.bool p_r.Mail.Quiet), .v (.string p_r.Mail.Helo), .v (.int .i64 p_r.Mail.At), .v (.int .i64 p_r.Id), .fl .shr 1 (List.map (Value.int .i64) p_r.Ids), .v (.int .i64 p_r.Origin), .v (.int .i64 p_r.Number), .v (.int .i64 p_r.Offset), .fl .shr 1 (List.map (Value.int .u8) p_r.Data)]), (5, .v (.pointer none)), (6, .v (.int .i64 v3.2)), (24, .v (.bool s43))]) ?_ ?_
    ·rintro s43 h
     refine pt_then ?_
     refine ht_cond _ rfl (fun hb47 => ?_) (fun hb47 => ?_)
     ·have h := cond_t hb47 h
      refine ht_seq ?_
      refine ht_joinS h (fun (s49 : Bool) => [(4, .v (.bool s49))]) ?_ ?_
      ·rintro s49 h
       refine pt_then ?_
       refine ht_ret ?_
       refine pt_r_then ?_
       obtain rfl := Option.some.inj h
       exact pt_ret hio rfl (.tmp _ _ .nil) rfl rfl
      ·intro u50 h hl51 hr52
       refine cond_some h (fun hg5_2 h => ?_) (fun hg5_2 h => ?_)
       ·obtain ⟨v48, hv48, h⟩ := bind_some h
        refine ht_seqR hn (El := (_ :: _ :: _ :: _ :: _ :: (25, .v (.int .i64 v3.2)) :: (26, .v (.bool (v3.2 == 1))) :: (27, .v (.bool true)) :: (28, .v (.pointer none)) :: (29, .v (.bool true)) :: (30, .v (.bool true)) :: (31, .v (.bool true)) :: (32, .v (.bool v48)) :: (33, .v (.bool v48)) :: (4, .v (.bool v48)) :: [])) (init := [0, 1, 2, 3, 4]) (fin := [14]) (sps := [⟨[3], [], [5], [(.slot 25)]⟩, ⟨[5], [], [6], [(.slot 26)]⟩, ⟨[6], [], [7], [(.slot 27)]⟩, ⟨[7, 2], [], [8], [(.slot 28)]⟩, ⟨[7, 8], [], [9], [(.slot 29)]⟩, ⟨[7, 9], [], [10], [(.slot 30)]⟩, ⟨[10], [], [11], [(.slot 31)]⟩, ⟨[11], [], [12], [(.slot 32)]⟩, ⟨[11, 12], [], [13], [(.slot 33)]⟩, ⟨[13], [], [14], [(.slot 4)]⟩]) (es' := [(4, .v (.bool v48))]) (by kernel_rfl) rfl rfl
         ⟨st_plain rfl (op_move _ _ _ _ rfl rfl),
         st_plain rfl (op_bin _ _ _ _ _ rfl rfl rfl),
         st_plain rfl (op_move _ _ _ _ (congrArg (fun b => AV.v (Value.bool b)) hg5_2) rfl),
         st_run 2 27 true rfl rfl rfl (List.Mem.head _) (op_move _ _ _ _ rfl rfl),
         st_run 2 27 true rfl rfl rfl (List.Mem.head _) (op_nilnil _ _ false (by kernel_rfl) rfl rfl),
         st_plain rfl (op_pick _ _ true _ rfl rfl),
         st_plain rfl (op_move _ _ _ _ rfl rfl),
         st_run 6 31 true rfl rfl rfl (List.Mem.head _) (op_call _ _ 12 _ _ rfl Try.call12 rfl (ok_wherrylaw18_wakes  _ hv48) rfl rfl),
         st_plain rfl (op_pick _ _ true _ rfl rfl),
         st_plain rfl (op_assign _ _ _ _ rfl rfl),
         trivial⟩ ?_
        exact hl51 _ (Option.some.inj h).symm
       ·refine ht_seqR hn (El := (_ :: _ :: _ :: _ :: _ :: (25, .v (.int .i64 v3.2)) :: (26, .v (.bool (v3.2 == 1))) :: (27, .v (.bool false)) :: (28, .v undef) :: (29, .v undef) :: (30, .v (.bool false)) :: (31, .v (.bool false)) :: (32, .v undef) :: (33, .v (.bool false)) :: (4, .v (.bool false)) :: [])) (init := [0, 1, 2, 3, 4]) (fin := [14]) (sps := [⟨[3], [], [5], [(.slot 25)]⟩, ⟨[5], [], [6], [(.slot 26)]⟩, ⟨[6], [], [7], [(.slot 27)]⟩, ⟨[7], [], [8], [(.slot 28)]⟩, ⟨[7], [], [9], [(.slot 29)]⟩, ⟨[7], [], [10], [(.slot 30)]⟩, ⟨[10], [], [11], [(.slot 31)]⟩, ⟨[11], [], [12], [(.slot 32)]⟩, ⟨[11], [], [13], [(.slot 33)]⟩, ⟨[13], [], [14], [(.slot 4)]⟩]) (es' := [(4, .v (.bool false))]) (by kernel_rfl) rfl rfl
         ⟨st_plain rfl (op_move _ _ _ _ rfl rfl),
         st_plain rfl (op_bin _ _ _ _ _ rfl rfl rfl),
         st_plain rfl (op_move _ _ _ _ (congrArg (fun b => AV.v (Value.bool b)) hg5_2) rfl),
         st_skip 2 27 _ true rfl rfl rfl rfl (List.Mem.head _),
         st_skip 2 27 _ true rfl rfl rfl rfl (List.Mem.head _),
         st_plain rfl (op_pick _ _ false _ rfl rfl),
         st_plain rfl (op_move _ _ _ _ rfl rfl),
         st_skip 6 31 _ true rfl rfl rfl rfl (List.Mem.head _),
         st_plain rfl (op_pick _ _ false _ rfl rfl),
         st_plain rfl (op_assign _ _ _ _ rfl rfl),
         trivial⟩ ?_
        exact hl51 _ (Option.some.inj h).symm
     ·have h := cond_f hb47 h
      refine ht_skip ?_
      refine pt_then ?_
      refine ht_seq ?_
      obtain ⟨v14, hv14, h⟩ := bind_some h
      refine ht_seqR hn (El := [_, _, _, _, _, (35, .v (.int .i64 limit)), (36, .tup [.obox (Option.isSome v14.1) 64 [.v (.int .i64 (((Option.getD v14.1 (default : T_diary_Diary))).limit)), .fr (.own 46) false 15 (List.flatten (List.map T_Rec.ienc (((Option.getD v14.1 (default : T_diary_Diary))).recs))), .v (.int .i64 (((Option.getD v14.1 (default : T_diary_Diary))).used)), .v (.int .i64 (((Option.getD v14.1 (default : T_diary_Diary))).safe)), .v (.int .i64 (((Option.getD v14.1 (default : T_diary_Diary))).kept)), .v (.int .i64 (((Option.getD v14.1 (default : T_diary_Diary))).life)), .v (.bool (((Option.getD v14.1 (default : T_diary_Diary))).off)), .v (.int .i64 (((Option.getD v14.1 (default : T_diary_Diary))).trip)), .v (.int .i64 (((Option.getD v14.1 (default : T_diary_Diary))).tripKeep))], .v (.int .i64 v14.2)]), (34, .tup [.obox (Option.isSome v14.1) 64 [.v (.int .i64 (((Option.getD v14.1 (default : T_diary_Diary))).limit)), .fr (.own 46) false 15 (List.flatten (List.map T_Rec.ienc (((Option.getD v14.1 (default : T_diary_Diary))).recs))), .v (.int .i64 (((Option.getD v14.1 (default : T_diary_Diary))).used)), .v (.int .i64 (((Option.getD v14.1 (default : T_diary_Diary))).safe)), .v (.int .i64 (((Option.getD v14.1 (default : T_diary_Diary))).kept)), .v (.int .i64 (((Option.getD v14.1 (default : T_diary_Diary))).life)), .v (.bool (((Option.getD v14.1 (default : T_diary_Diary))).off)), .v (.int .i64 (((Option.getD v14.1 (default : T_diary_Diary))).trip)), .v (.int .i64 (((Option.getD v14.1 (default : T_diary_Diary))).tripKeep))], .v (.int .i64 v14.2)]), (37, .obox (Option.isSome v14.1) 64 [.v (.int .i64 (((Option.getD v14.1 (default : T_diary_Diary))).limit)), .fr (.own 46) false 15 (List.flatten (List.map T_Rec.ienc (((Option.getD v14.1 (default : T_diary_Diary))).recs))), .v (.int .i64 (((Option.getD v14.1 (default : T_diary_Diary))).used)), .v (.int .i64 (((Option.getD v14.1 (default : T_diary_Diary))).safe)), .v (.int .i64 (((Option.getD v14.1 (default : T_diary_Diary))).kept)), .v (.int .i64 (((Option.getD v14.1 (default : T_diary_Diary))).life)), .v (.bool (((Option.getD v14.1 (default : T_diary_Diary))).off)), .v (.int .i64 (((Option.getD v14.1 (default : T_diary_Diary))).trip)), .v (.int .i64 (((Option.getD v14.1 (default : T_diary_Diary))).tripKeep))]), (34, .tup [.any, .v (.int .i64 v14.2)]), (38, .v (.int .i64 v14.2)), (7, .obox (Option.isSome v14.1) 64 [.v (.int .i64 (((Option.getD v14.1 (default : T_diary_Diary))).limit)), .fr (.own 46) false 15 (List.flatten (List.map T_Rec.ienc (((Option.getD v14.1 (default : T_diary_Diary))).recs))), .v (.int .i64 (((Option.getD v14.1 (default : T_diary_Diary))).used)), .v (.int .i64 (((Option.getD v14.1 (default : T_diary_Diary))).safe)), .v (.int .i64 (((Option.getD v14.1 (default : T_diary_Diary))).kept)), .v (.int .i64 (((Option.getD v14.1 (default : T_diary_Diary))).life)), .v (.bool (((Option.getD v14.1 (default : T_diary_Diary))).off)), .v (.int .i64 (((Option.getD v14.1 (default : T_diary_Diary))).trip)), .v (.int .i64 (((Option.getD v14.1 (default : T_diary_Diary))).tripKeep))]), (8, .v (.int .i64 v14.2))]) (init := [0, 1, 2, 3, 4]) (fin := [0, 1, 2, 3, 11, 12]) (sps := [⟨[0], [], [5], [(.slot 35)]⟩, ⟨[5], [], [6], [(.slot 36)]⟩, ⟨[], [6], [7], [(.slot 34)]⟩, ⟨[], [7], [9, 8], [(.slot 37)]⟩, ⟨[9], [], [10], [(.slot 38)]⟩, ⟨[], [8], [11], [(.slot 7)]⟩, ⟨[10], [], [12], [(.slot 8)]⟩]) (es' := [(_, _), (_, _), (_, _), (_, _), (7, .obox (Option.isSome v14.1) 64 [.v (.int .i64 (((Option.getD v14.1 (default : T_diary_Diary))).limit)), .fr (.own 46) false 15 (List.flatten (List.map T_Rec.ienc (((Option.getD v14.1 (default : T_diary_Diary))).recs))), .v (.int .i64 (((Option.getD v14.1 (default : T_diary_Diary))).used)), .v (.int .i64 (((Option.getD v14.1 (default : T_diary_Diary))).safe)), .v (.int .i64 (((Option.getD v14.1 (default : T_diary_Diary))).kept)), .v (.int .i64 (((Option.getD v14.1 (default : T_diary_Diary))).life)), .v (.bool (((Option.getD v14.1 (default : T_diary_Diary))).off)), .v (.int .i64 (((Option.getD v14.1 (default : T_diary_Diary))).trip)), .v (.int .i64 (((Option.getD v14.1 (default : T_diary_Diary))).tripKeep))]), (8, .v (.int .i64 v14.2))]) (by kernel_rfl) rfl rfl
       ⟨st_plain rfl (op_move _ _ _ _ rfl rfl),
       st_plain rfl (op_call _ _ 10 _ _ rfl Try.call10 rfl (ok_diary_New limit _ hv14) rfl rfl),
       st_plain rfl (op_move_take _ _ _ _ rfl),
       st_plain rfl (op_extract_take _ _ _ _ _ rfl (Nat.le_of_ble_eq_true rfl) rfl rfl (by decide) rfl),
       st_plain rfl (op_extract _ _ _ _ _ rfl rfl (Nat.le_of_ble_eq_true rfl) rfl rfl),
       st_plain rfl (op_assign_take _ _ _ _ rfl),
       st_plain rfl (op_assign _ _ _ _ rfl rfl),
       trivial⟩ ?_
      refine pt_ob (d := default) (f := fun (v53 : T_diary_Diary) => [.v (.int .i64 v53.limit), .fr (.own 46) false 15 (List.flatten (List.map T_Rec.ienc v53.recs)), .v (.int .i64 v53.used), .v (.int .i64 v53.safe), .v (.int .i64 v53.kept), .v (.int .i64 v53.life), .v (.bool v53.off), .v (.int .i64 v53.trip), .v (.int .i64 v53.tripKeep)]) 4 9 7 64 h (es1 := fun v53 => [(0, .v (.int .i64 limit)), (3, .box 46 [.v (.int .i64 p_r.Kind), .v (.bool p_r.Mail.From.Null), .v (.string p_r.Mail.From.Local), .v (.string p_r.Mail.From.Domain), .fl .shr 3 (List.flatten (List.map T_Path.enc p_r.Mail.To)), .fl .shr 1 (List.map (Value.int .u8) p_r.Mail.Body), .v (.bool p_r.Mail.Quiet), .v (.string p_r.Mail.Helo), .v (.int .i64 p_r.Mail.At), .v (.int .i64 p_r.Id), .fl .shr 1 (List.map (Value.int .i64) p_r.Ids), .v (.int .i64 p_r.Origin), .v (.int .i64 p_r.Number), .v (.int .i64 p_r.Offset), .fl .shr 1 (List.map (Value.int .u8) p_r.Data)]), (5, .v (.pointer none)), (6, .v (.int .i64 v3.2)), (7, .box 64 [.v (.int .i64 v53.limit), .fr (.own 46) false 15 (List.flatten (List.map T_Rec.ienc v53.recs)), .v (.int .i64 v53.used), .v (.int .i64 v53.safe), .v (.int .i64 v53.kept), .v (.int .i64 v53.life), .v (.bool v53.off), .v (.int .i64 v53.trip), .v (.int .i64 v53.tripKeep)]), (8, .v (.int .i64 v14.2))]) (es0 := [(0, .v (.int .i64 limit)), (3, .box 46 [.v (.int .i64 p_r.Kind), .v (.bool p_r.Mail.From.Null), .v (.string p_r.Mail.From.Local), .v (.string p_r.Mail.From.Domain), .fl .shr 3 (List.flatten (List.map T_Path.enc p_r.Mail.To)), .fl .shr 1 (List.map (Value.int .u8) p_r.Mail.Body), .v (.bool p_r.Mail.Quiet), .v (.string p_r.Mail.Helo), .v (.int .i64 p_r.Mail.At), .v (.int .i64 p_r.Id), .fl .shr 1 (List.map (Value.int .i64) p_r.Ids), .v (.int .i64 p_r.Origin), .v (.int .i64 p_r.Number), .v (.int .i64 p_r.Offset), .fl .shr 1 (List.map (Value.int .u8) p_r.Data)]), (5, .v (.pointer none)), (6, .v (.int .i64 v3.2)), (7, .v (.pointer none)), (8, .v (.int .i64 v14.2))]) rfl (fun _ => rfl) (by kernel_rfl) (fun _ => rfl) (fun _ => rfl) rfl (fun v53 hv54 h => ?_) (fun hv54 h => ?_)
      ·refine pt_then ?_
       refine ht_seq ?_
       refine ht_seq ?_
       refine ht_joinS h (fun (() : Unit) => [(0, .v (.int .i64 limit)), (3, .box 46 [.v (.int .i64 p_r.Kind), .v (.bool p_r.Mail.From.Null), .v (.string p_r.Mail.From.Local), .v (.string p_r.Mail.From.Domain), .fl .shr 3 (List.flatten (List.map T_Path.enc p_r.Mail.To)), .fl .shr 1 (List.map (Value.int .u8) p_r.Mail.Body), .v (.bool p_r.Mail.Quiet), .v (.string p_r.Mail.Helo), .v (.int .i64 p_r.Mail.At), .v (.int .i64 p_r.Id), .fl .shr 1 (List.map (Value.int .i64) p_r.Ids), .v (.int .i64 p_r.Origin), .v (.int .i64 p_r.Number), .v (.int .i64 p_r.Offset), .fl .shr 1 (List.map (Value.int .u8) p_r.Data)]), (5, .v (.pointer none)), (7, .box 64 [.v (.int .i64 v53.limit), .fr (.own 46) false 15 (List.flatten (List.map T_Rec.ienc v53.recs)), .v (.int .i64 v53.used), .v (.int .i64 v53.safe), .v (.int .i64 v53.kept), .v (.int .i64 v53.life), .v (.bool v53.off), .v (.int .i64 v53.trip), .v (.int .i64 v53.tripKeep)]), (52, .v (.bool true))]) ?_ ?_
       ·rintro ⟨⟩ h
        refine pt_then ?_
        refine ht_cond true rfl (fun _ => ?_) (fun hb => by cases hb)
        refine ht_seq ?_
        refine ht_seqR hn (El := [_, _, _, _, _, (4, .v (.bool false))]) (init := [0, 1, 2, 3, 4]) (fin := [5]) (sps := [⟨[], [], [5], [(.slot 4)]⟩]) (es' := [(4, .v (.bool false))]) (by kernel_rfl) rfl rfl
         ⟨st_plain rfl (op_assign _ _ _ _ rfl rfl),
         trivial⟩ ?_
        refine pt_then ?_
        refine ht_ret ?_
        refine pt_r_then ?_
        obtain rfl := Option.some.inj h
        exact pt_ret hio rfl (.tmp _ _ .nil) rfl rfl
       ·intro u55 h hl56 hr57
        refine cond_some h (fun hg7_2 h => ?_) (fun hg7_2 h => ?_)
        ·refine ht_seqR hn (El := (_ :: _ :: _ :: _ :: _ :: _ :: (39, .v (.int .i64 v3.2)) :: (40, .v (.bool (v3.2 != 0))) :: (41, .v (.bool true)) :: (42, .v undef) :: (43, .v undef) :: (44, .v (.bool true)) :: (45, .v (.bool true)) :: (46, .v undef) :: (47, .v undef) :: (48, .v (.bool true)) :: (49, .v (.bool true)) :: (50, .v undef) :: (51, .v undef) :: (52, .v (.bool true)) :: [])) (init := [0, 1, 2, 3, 4, 5]) (fin := [0, 1, 2, 4, 19]) (sps := [⟨[3], [], [6], [(.slot 39)]⟩, ⟨[6], [], [7], [(.slot 40)]⟩, ⟨[7], [], [8], [(.slot 41)]⟩, ⟨[8], [], [9], [(.slot 42)]⟩, ⟨[8], [], [10], [(.slot 43)]⟩, ⟨[8], [], [11], [(.slot 44)]⟩, ⟨[11], [], [12], [(.slot 45)]⟩, ⟨[12], [], [13], [(.slot 46)]⟩, ⟨[12], [], [14], [(.slot 47)]⟩, ⟨[12], [], [15], [(.slot 48)]⟩, ⟨[15], [], [16], [(.slot 49)]⟩, ⟨[16], [], [17], [(.slot 50)]⟩, ⟨[16], [], [18], [(.slot 51)]⟩, ⟨[16], [], [19], [(.slot 52)]⟩]) (es' := [(_, _), (_, _), (_, _), (_, _), (52, .v (.bool true))]) (by kernel_rfl) rfl rfl
          ⟨st_plain rfl (op_move _ _ _ _ rfl rfl),
          st_plain rfl (op_bin _ _ _ _ _ rfl rfl rfl),
          st_plain rfl (op_move _ _ _ _ (congrArg (fun b => AV.v (Value.bool b)) hg7_2) rfl),
          st_skip 2 41 _ false rfl rfl rfl rfl (List.Mem.head _),
          st_skip 2 41 _ false rfl rfl rfl rfl (List.Mem.head _),
          st_plain rfl (op_pick _ _ true _ rfl rfl),
          st_plain rfl (op_move _ _ _ _ rfl rfl),
          st_skip 6 45 _ false rfl rfl rfl rfl (List.Mem.head _),
          st_skip 6 45 _ false rfl rfl rfl rfl (List.Mem.head _),
          st_plain rfl (op_pick _ _ true _ rfl rfl),
          st_plain rfl (op_move _ _ _ _ rfl rfl),
          st_skip 10 49 _ false rfl rfl rfl rfl (List.Mem.head _),
          st_skip 10 49 _ false rfl rfl rfl rfl (List.Mem.head _),
          st_plain rfl (op_pick _ _ true _ rfl rfl),
          trivial⟩ ?_
         exact hl56 _ (Option.some.inj h).symm
        ·refine cond_some h (fun hg7_6 h => ?_) (fun hg7_6 h => ?_)
         ·refine ht_seqR hn (El := (_ :: _ :: _ :: _ :: _ :: _ :: (39, .v (.int .i64 v3.2)) :: (40, .v (.bool (v3.2 != 0))) :: (41, .v (.bool false)) :: (42, .v (.int .i64 v14.2)) :: (43, .v (.bool (v14.2 != 0))) :: (44, .v (.bool (v14.2 != 0))) :: (45, .v (.bool true)) :: (46, .v undef) :: (47, .v undef) :: (48, .v (.bool true)) :: (49, .v (.bool true)) :: (50, .v undef) :: (51, .v undef) :: (52, .v (.bool true)) :: [])) (init := [0, 1, 2, 3, 4, 5]) (fin := [0, 1, 2, 4, 19]) (sps := [⟨[3], [], [6], [(.slot 39)]⟩, ⟨[6], [], [7], [(.slot 40)]⟩, ⟨[7], [], [8], [(.slot 41)]⟩, ⟨[8, 5], [], [9], [(.slot 42)]⟩, ⟨[8, 9], [], [10], [(.slot 43)]⟩, ⟨[8, 10], [], [11], [(.slot 44)]⟩, ⟨[11], [], [12], [(.slot 45)]⟩, ⟨[12], [], [13], [(.slot 46)]⟩, ⟨[12], [], [14], [(.slot 47)]⟩, ⟨[12], [], [15], [(.slot 48)]⟩, ⟨[15], [], [16], [(.slot 49)]⟩, ⟨[16], [], [17], [(.slot 50)]⟩, ⟨[16], [], [18], [(.slot 51)]⟩, ⟨[16], [], [19], [(.slot 52)]⟩]) (es' := [(_, _), (_, _), (_, _), (_, _), (52, .v (.bool true))]) (by kernel_rfl) rfl rfl
           ⟨st_plain rfl (op_move _ _ _ _ rfl rfl),
           st_plain rfl (op_bin _ _ _ _ _ rfl rfl rfl),
           st_plain rfl (op_move _ _ _ _ (congrArg (fun b => AV.v (Value.bool b)) hg7_2) rfl),
           st_run 2 41 false rfl rfl rfl (List.Mem.head _) (op_move _ _ _ _ rfl rfl),
           st_run 2 41 false rfl rfl rfl (List.Mem.head _) (op_bin _ _ _ _ _ rfl rfl rfl),
           st_plain rfl (op_pick _ _ false _ rfl rfl),
           st_plain rfl (op_move _ _ _ _ (congrArg (fun b => AV.v (Value.bool b)) hg7_6) rfl),
           st_skip 6 45 _ false rfl rfl rfl rfl (List.Mem.head _),
           st_skip 6 45 _ false rfl rfl rfl rfl (List.Mem.head _),
           st_plain rfl (op_pick _ _ true _ rfl rfl),
           st_plain rfl (op_move _ _ _ _ rfl rfl),
           st_skip 10 49 _ false rfl rfl rfl rfl (List.Mem.head _),
           st_skip 10 49 _ false rfl rfl rfl rfl (List.Mem.head _),
           st_plain rfl (op_pick _ _ true _ rfl rfl),
           trivial⟩ ?_
          exact hl56 _ (Option.some.inj h).symm
         ·refine ht_seqR hn (El := (_ :: _ :: _ :: _ :: _ :: _ :: (39, .v (.int .i64 v3.2)) :: (40, .v (.bool (v3.2 != 0))) :: (41, .v (.bool false)) :: (42, .v (.int .i64 v14.2)) :: (43, .v (.bool (v14.2 != 0))) :: (44, .v (.bool (v14.2 != 0))) :: (45, .v (.bool false)) :: (46, .v (.pointer none)) :: (47, .v (.bool true)) :: (48, .v (.bool true)) :: (49, .v (.bool true)) :: (50, .v undef) :: (51, .v undef) :: (52, .v (.bool true)) :: [])) (init := [0, 1, 2, 3, 4, 5]) (fin := [0, 1, 2, 4, 19]) (sps := [⟨[3], [], [6], [(.slot 39)]⟩, ⟨[6], [], [7], [(.slot 40)]⟩, ⟨[7], [], [8], [(.slot 41)]⟩, ⟨[8, 5], [], [9], [(.slot 42)]⟩, ⟨[8, 9], [], [10], [(.slot 43)]⟩, ⟨[8, 10], [], [11], [(.slot 44)]⟩, ⟨[11], [], [12], [(.slot 45)]⟩, ⟨[12, 2], [], [13], [(.slot 46)]⟩, ⟨[12, 13], [], [14], [(.slot 47)]⟩, ⟨[12, 14], [], [15], [(.slot 48)]⟩, ⟨[15], [], [16], [(.slot 49)]⟩, ⟨[16], [], [17], [(.slot 50)]⟩, ⟨[16], [], [18], [(.slot 51)]⟩, ⟨[16], [], [19], [(.slot 52)]⟩]) (es' := [(_, _), (_, _), (_, _), (_, _), (52, .v (.bool true))]) (by kernel_rfl) rfl rfl
           ⟨st_plain rfl (op_move _ _ _ _ rfl rfl),
           st_plain rfl (op_bin _ _ _ _ _ rfl rfl rfl),
           st_plain rfl (op_move _ _ _ _ (congrArg (fun b => AV.v (Value.bool b)) hg7_2) rfl),
           st_run 2 41 false rfl rfl rfl (List.Mem.head _) (op_move _ _ _ _ rfl rfl),
           st_run 2 41 false rfl rfl rfl (List.Mem.head _) (op_bin _ _ _ _ _ rfl rfl rfl),
           st_plain rfl (op_pick _ _ false _ rfl rfl),
           st_plain rfl (op_move _ _ _ _ (congrArg (fun b => AV.v (Value.bool b)) hg7_6) rfl),
           st_run 6 45 false rfl rfl rfl (List.Mem.head _) (op_move _ _ _ _ rfl rfl),
           st_run 6 45 false rfl rfl rfl (List.Mem.head _) (op_nilnil _ _ false (by kernel_rfl) rfl rfl),
           st_plain rfl (op_pick _ _ false _ rfl rfl),
           st_plain rfl (op_move _ _ _ _ rfl rfl),
           st_skip 10 49 _ false rfl rfl rfl rfl (List.Mem.head _),
           st_skip 10 49 _ false rfl rfl rfl rfl (List.Mem.head _),
           st_plain rfl (op_pick _ _ true _ rfl rfl),
           trivial⟩ ?_
          exact hl56 _ (Option.some.inj h).symm
      ·refine pt_then ?_
       refine ht_seq ?_
       refine ht_seq ?_
       refine ht_joinS h (fun (() : Unit) => [(0, .v (.int .i64 limit)), (3, .box 46 [.v (.int .i64 p_r.Kind), .v (.bool p_r.Mail.From.Null), .v (.string p_r.Mail.From.Local), .v (.string p_r.Mail.From.Domain), .fl .shr 3 (List.flatten (List.map T_Path.enc p_r.Mail.To)), .fl .shr 1 (List.map (Value.int .u8) p_r.Mail.Body), .v (.bool p_r.Mail.Quiet), .v (.string p_r.Mail.Helo), .v (.int .i64 p_r.Mail.At), .v (.int .i64 p_r.Id), .fl .shr 1 (List.map (Value.int .i64) p_r.Ids), .v (.int .i64 p_r.Origin), .v (.int .i64 p_r.Number), .v (.int .i64 p_r.Offset), .fl .shr 1 (List.map (Value.int .u8) p_r.Data)]), (5, .v (.pointer none)), (7, .v (.pointer none)), (52, .v (.bool true))]) ?_ ?_
       ·rintro ⟨⟩ h
        refine pt_then ?_
        refine ht_cond true rfl (fun _ => ?_) (fun hb => by cases hb)
        refine ht_seq ?_
        refine ht_seqR hn (El := [_, _, _, _, _, (4, .v (.bool false))]) (init := [0, 1, 2, 3, 4]) (fin := [5]) (sps := [⟨[], [], [5], [(.slot 4)]⟩]) (es' := [(4, .v (.bool false))]) (by kernel_rfl) rfl rfl
         ⟨st_plain rfl (op_assign _ _ _ _ rfl rfl),
         trivial⟩ ?_
        refine pt_then ?_
        refine ht_ret ?_
        refine pt_r_then ?_
        obtain rfl := Option.some.inj h
        exact pt_ret hio rfl (.tmp _ _ .nil) rfl rfl
       ·intro u58 h hl59 hr60
        refine cond_some h (fun hg7_2 h => ?_) (fun hg7_2 h => ?_)
        ·refine ht_seqR hn (El := (_ :: _ :: _ :: _ :: _ :: _ :: (39, .v (.int .i64 v3.2)) :: (40, .v (.bool (v3.2 != 0))) :: (41, .v (.bool true)) :: (42, .v undef) :: (43, .v undef) :: (44, .v (.bool true)) :: (45, .v (.bool true)) :: (46, .v undef) :: (47, .v undef) :: (48, .v (.bool true)) :: (49, .v (.bool true)) :: (50, .v undef) :: (51, .v undef) :: (52, .v (.bool true)) :: [])) (init := [0, 1, 2, 3, 4, 5]) (fin := [0, 1, 2, 4, 19]) (sps := [⟨[3], [], [6], [(.slot 39)]⟩, ⟨[6], [], [7], [(.slot 40)]⟩, ⟨[7], [], [8], [(.slot 41)]⟩, ⟨[8], [], [9], [(.slot 42)]⟩, ⟨[8], [], [10], [(.slot 43)]⟩, ⟨[8], [], [11], [(.slot 44)]⟩, ⟨[11], [], [12], [(.slot 45)]⟩, ⟨[12], [], [13], [(.slot 46)]⟩, ⟨[12], [], [14], [(.slot 47)]⟩, ⟨[12], [], [15], [(.slot 48)]⟩, ⟨[15], [], [16], [(.slot 49)]⟩, ⟨[16], [], [17], [(.slot 50)]⟩, ⟨[16], [], [18], [(.slot 51)]⟩, ⟨[16], [], [19], [(.slot 52)]⟩]) (es' := [(_, _), (_, _), (_, _), (_, _), (52, .v (.bool true))]) (by kernel_rfl) rfl rfl
          ⟨st_plain rfl (op_move _ _ _ _ rfl rfl),
          st_plain rfl (op_bin _ _ _ _ _ rfl rfl rfl),
          st_plain rfl (op_move _ _ _ _ (congrArg (fun b => AV.v (Value.bool b)) hg7_2) rfl),
          st_skip 2 41 _ false rfl rfl rfl rfl (List.Mem.head _),
          st_skip 2 41 _ false rfl rfl rfl rfl (List.Mem.head _),
          st_plain rfl (op_pick _ _ true _ rfl rfl),
          st_plain rfl (op_move _ _ _ _ rfl rfl),
          st_skip 6 45 _ false rfl rfl rfl rfl (List.Mem.head _),
          st_skip 6 45 _ false rfl rfl rfl rfl (List.Mem.head _),
          st_plain rfl (op_pick _ _ true _ rfl rfl),
          st_plain rfl (op_move _ _ _ _ rfl rfl),
          st_skip 10 49 _ false rfl rfl rfl rfl (List.Mem.head _),
          st_skip 10 49 _ false rfl rfl rfl rfl (List.Mem.head _),
          st_plain rfl (op_pick _ _ true _ rfl rfl),
          trivial⟩ ?_
         exact hl59 _ (Option.some.inj h).symm
        ·refine cond_some h (fun hg7_6 h => ?_) (fun hg7_6 h => ?_)
         ·refine ht_seqR hn (El := (_ :: _ :: _ :: _ :: _ :: _ :: (39, .v (.int .i64 v3.2)) :: (40, .v (.bool (v3.2 != 0))) :: (41, .v (.bool false)) :: (42, .v (.int .i64 v14.2)) :: (43, .v (.bool (v14.2 != 0))) :: (44, .v (.bool (v14.2 != 0))) :: (45, .v (.bool true)) :: (46, .v undef) :: (47, .v undef) :: (48, .v (.bool true)) :: (49, .v (.bool true)) :: (50, .v undef) :: (51, .v undef) :: (52, .v (.bool true)) :: [])) (init := [0, 1, 2, 3, 4, 5]) (fin := [0, 1, 2, 4, 19]) (sps := [⟨[3], [], [6], [(.slot 39)]⟩, ⟨[6], [], [7], [(.slot 40)]⟩, ⟨[7], [], [8], [(.slot 41)]⟩, ⟨[8, 5], [], [9], [(.slot 42)]⟩, ⟨[8, 9], [], [10], [(.slot 43)]⟩, ⟨[8, 10], [], [11], [(.slot 44)]⟩, ⟨[11], [], [12], [(.slot 45)]⟩, ⟨[12], [], [13], [(.slot 46)]⟩, ⟨[12], [], [14], [(.slot 47)]⟩, ⟨[12], [], [15], [(.slot 48)]⟩, ⟨[15], [], [16], [(.slot 49)]⟩, ⟨[16], [], [17], [(.slot 50)]⟩, ⟨[16], [], [18], [(.slot 51)]⟩, ⟨[16], [], [19], [(.slot 52)]⟩]) (es' := [(_, _), (_, _), (_, _), (_, _), (52, .v (.bool true))]) (by kernel_rfl) rfl rfl
           ⟨st_plain rfl (op_move _ _ _ _ rfl rfl),
           st_plain rfl (op_bin _ _ _ _ _ rfl rfl rfl),
           st_plain rfl (op_move _ _ _ _ (congrArg (fun b => AV.v (Value.bool b)) hg7_2) rfl),
           st_run 2 41 false rfl rfl rfl (List.Mem.head _) (op_move _ _ _ _ rfl rfl),
           st_run 2 41 false rfl rfl rfl (List.Mem.head _) (op_bin _ _ _ _ _ rfl rfl rfl),
           st_plain rfl (op_pick _ _ false _ rfl rfl),
           st_plain rfl (op_move _ _ _ _ (congrArg (fun b => AV.v (Value.bool b)) hg7_6) rfl),
           st_skip 6 45 _ false rfl rfl rfl rfl (List.Mem.head _),
           st_skip 6 45 _ false rfl rfl rfl rfl (List.Mem.head _),
           st_plain rfl (op_pick _ _ true _ rfl rfl),
           st_plain rfl (op_move _ _ _ _ rfl rfl),
           st_skip 10 49 _ false rfl rfl rfl rfl (List.Mem.head _),
           st_skip 10 49 _ false rfl rfl rfl rfl (List.Mem.head _),
           st_plain rfl (op_pick _ _ true _ rfl rfl),
           trivial⟩ ?_
          exact hl59 _ (Option.some.inj h).symm
         ·refine ht_seqR hn (El := (_ :: _ :: _ :: _ :: _ :: _ :: (39, .v (.int .i64 v3.2)) :: (40, .v (.bool (v3.2 != 0))) :: (41, .v (.bool false)) :: (42, .v (.int .i64 v14.2)) :: (43, .v (.bool (v14.2 != 0))) :: (44, .v (.bool (v14.2 != 0))) :: (45, .v (.bool false)) :: (46, .v (.pointer none)) :: (47, .v (.bool true)) :: (48, .v (.bool true)) :: (49, .v (.bool true)) :: (50, .v undef) :: (51, .v undef) :: (52, .v (.bool true)) :: [])) (init := [0, 1, 2, 3, 4, 5]) (fin := [0, 1, 2, 4, 19]) (sps := [⟨[3], [], [6], [(.slot 39)]⟩, ⟨[6], [], [7], [(.slot 40)]⟩, ⟨[7], [], [8], [(.slot 41)]⟩, ⟨[8, 5], [], [9], [(.slot 42)]⟩, ⟨[8, 9], [], [10], [(.slot 43)]⟩, ⟨[8, 10], [], [11], [(.slot 44)]⟩, ⟨[11], [], [12], [(.slot 45)]⟩, ⟨[12, 2], [], [13], [(.slot 46)]⟩, ⟨[12, 13], [], [14], [(.slot 47)]⟩, ⟨[12, 14], [], [15], [(.slot 48)]⟩, ⟨[15], [], [16], [(.slot 49)]⟩, ⟨[16], [], [17], [(.slot 50)]⟩, ⟨[16], [], [18], [(.slot 51)]⟩, ⟨[16], [], [19], [(.slot 52)]⟩]) (es' := [(_, _), (_, _), (_, _), (_, _), (52, .v (.bool true))]) (by kernel_rfl) rfl rfl
           ⟨st_plain rfl (op_move _ _ _ _ rfl rfl),
           st_plain rfl (op_bin _ _ _ _ _ rfl rfl rfl),
           st_plain rfl (op_move _ _ _ _ (congrArg (fun b => AV.v (Value.bool b)) hg7_2) rfl),
           st_run 2 41 false rfl rfl rfl (List.Mem.head _) (op_move _ _ _ _ rfl rfl),
           st_run 2 41 false rfl rfl rfl (List.Mem.head _) (op_bin _ _ _ _ _ rfl rfl rfl),
           st_plain rfl (op_pick _ _ false _ rfl rfl),
           st_plain rfl (op_move _ _ _ _ (congrArg (fun b => AV.v (Value.bool b)) hg7_6) rfl),
           st_run 6 45 false rfl rfl rfl (List.Mem.head _) (op_move _ _ _ _ rfl rfl),
           st_run 6 45 false rfl rfl rfl (List.Mem.head _) (op_nilnil _ _ false (by kernel_rfl) rfl rfl),
           st_plain rfl (op_pick _ _ false _ rfl rfl),
           st_plain rfl (op_move _ _ _ _ rfl rfl),
           st_skip 10 49 _ false rfl rfl rfl rfl (List.Mem.head _),
           st_skip 10 49 _ false rfl rfl rfl rfl (List.Mem.head _),
           st_plain rfl (op_pick _ _ true _ rfl rfl),
           trivial⟩ ?_
          exact hl59 _ (Option.some.inj h).symm
    ·intro u44 h hl45 hr46
     refine cond_some h (fun hg4_2 h => ?_) (fun hg4_2 h => ?_)
     ·refine ht_seqR hn (El := [_, _, _, _, (19, .v (.int .i64 limit)), (20, .v (.bool ((decide (limit < 1))))), (21, .v (.bool true)), (22, .v undef), (23, .v undef), (24, .v (.bool true))]) (init := [0, 1, 2, 3]) (fin := [0, 1, 2, 3, 9]) (sps := [⟨[0], [], [4], [(.slot 19)]⟩, ⟨[4], [], [5], [(.slot 20)]⟩, ⟨[5], [], [6], [(.slot 21)]⟩, ⟨[6], [], [7], [(.slot 22)]⟩, ⟨[6], [], [8], [(.slot 23)]⟩, ⟨[6], [], [9], [(.slot 24)]⟩]) (es' := [(_, _), (_, _), (_, _), (_, _), (24, .v (.bool true))]) (by kernel_rfl) rfl rfl
       ⟨st_plain rfl (op_move _ _ _ _ rfl rfl),
       st_plain rfl (op_bin _ _ _ _ _ rfl rfl rfl),
       st_plain rfl (op_move _ _ _ _ (congrArg (fun b => AV.v (Value.bool b)) hg4_2) rfl),
       st_skip 2 21 _ false rfl rfl rfl rfl (List.Mem.head _),
       st_skip 2 21 _ false rfl rfl rfl rfl (List.Mem.head _),
       st_plain rfl (op_pick _ _ true _ rfl rfl),
       trivial⟩ ?_
      exact hl45 _ (Option.some.inj h).symm
     ·refine ht_seqR hn (El := [_, _, _, _, (19, .v (.int .i64 limit)), (20, .v (.bool ((decide (limit < 1))))), (21, .v (.bool false)), (22, .v (.int .i64 limit)), (23, .v (.bool ((decide (131072 < limit))))), (24, .v (.bool ((decide (131072 < limit)))))]) (init := [0, 1, 2, 3]) (fin := [0, 1, 2, 3, 9]) (sps := [⟨[0], [], [4], [(.slot 19)]⟩, ⟨[4], [], [5], [(.slot 20)]⟩, ⟨[5], [], [6], [(.slot 21)]⟩, ⟨[6, 0], [], [7], [(.slot 22)]⟩, ⟨[6, 7], [], [8], [(.slot 23)]⟩, ⟨[6, 8], [], [9], [(.slot 24)]⟩]) (es' := [(_, _), (_, _), (_, _), (_, _), (24, .v (.bool ((decide (131072 < limit)))))]) (by kernel_rfl) rfl rfl
       ⟨st_plain rfl (op_move _ _ _ _ rfl rfl),
       st_plain rfl (op_bin _ _ _ _ _ rfl rfl rfl),
       st_plain rfl (op_move _ _ _ _ (congrArg (fun b => AV.v (Value.bool b)) hg4_2) rfl),
       st_run 2 21 false rfl rfl rfl (List.Mem.head _) (op_move _ _ _ _ rfl rfl),
       st_run 2 21 false rfl rfl rfl (List.Mem.head _) (op_bin _ _ _ _ _ rfl rfl rfl),
       st_plain rfl (op_pick _ _ false _ rfl rfl),
       trivial⟩ ?_
      exact hl45 _ (Option.some.inj h).symm

end Go.Proofs.Ytbioodcjmceefaa
