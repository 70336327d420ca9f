/-
  The model's runs are what is told in Lean.
-/
import Derived.Test.YtbioodcjmceefaaProg
import Derived.KernelRfl
import Derived.Test.YtbioodcjmceefaaBG
import Derived.Test.YtbioodcjmceefaaC1
import Derived.Test.YtbioodcjmceefaaBB
import Derived.Test.YtbioodcjmceefaaOkc1
set_option linter.unusedVariables false
set_option linter.unusedSimpArgs false
set_option maxHeartbeats 1000000
namespace Go.Proofs.Ytbioodcjmceefaa
open Go.Abs Go.Abs.Sh Try
theorem ok_diary_Diary_Crash (d : T_diary_Diary) (keep : Int) (r : T_diary_Diary) (h : Sh.diary_Diary_Crash d keep = some r) : FnP Try.prog 21 [.box 64 [.v (.int .i64 d.limit), .fr (.own 46) false 15 (List.flatten (List.map T_Rec.ienc d.recs)), .v (.int .i64 d.used), .v (.int .i64 d.safe), .v (.int .i64 d.kept), .v (.int .i64 d.life), .v (.bool d.off), .v (.int .i64 d.trip), .v (.int .i64 d.tripKeep)], .v (.int .i64 keep)] [.box 64 [.v (.int .i64 r.limit), .fr (.own 46) false 15 (List.flatten (List.map T_Rec.ienc r.recs)), .v (.int .i64 r.used), .v (.int .i64 r.safe), .v (.int .i64 r.kept), .v (.int .i64 r.life), .v (.bool r.off), .v (.int .i64 r.trip), .v (.int .i64 r.tripKeep)]] (.tup []) := by
  unfold Sh.diary_Diary_Crash at h
  refine yP 74 func21 fun args0 hargs0 g0 hn hio => ?_
  refine ht_seq ?_
  refine yyy hn 4 [0,1,8,0] ?_
  refine ht_cond _ rfl (fun hb1 => ?_) (fun hb1 => ?_)
  ·have h := cond_t hb1 h
   refine ht_ret ?_
   refine pt_pick [0, 3] (by kernel_rfl) (es' := [(_,_),(_,_)]) rfl ?_
   refine pt_r_then ?_
   obtain rfl := Option.some.inj h
   exact pt_retP (es := []) (posts := [.box 64 [.v (.int .i64 d.limit), .fr (.own 46) false 15 (List.flatten (List.map T_Rec.ienc d.recs)), .v (.int .i64 d.used), .v (.int .i64 d.safe), .v (.int .i64 d.kept), .v (.int .i64 d.life), .v (.bool d.off), .v (.int .i64 d.trip), .v (.int .i64 d.tripKeep)]]) hio rfl rfl .nil rfl rfl hargs0 rfl
  ·have h := cond_f hb1 h
   refine ht_skip ?_
   refine pt_then (ht_seq ?_)
   obtain ⟨v2, hv2, h⟩ := bind_some h
   obtain ⟨v3, hv3, h⟩ := bind_some h
   obtain ⟨v4, hv4, h⟩ := bind_some h
   refine wb [[1]] ?_
   refine wN [9] ?_
   refine wS (.v (.int .i64 v2)) [[],[11,0],[12,0],[13,0],[14,0],[],[16,0],[17,0],[18,0]] ⟨(Option.some.inj hv2) ▸ op_max _ _ _ _ rfl rfl⟩ ?_
   refine wN [15,19] ?_
   refine wo [] ⟨lb hv3⟩ ?_
   refine wN [10,20] ?_
   refine wS (.v (.int .i64 v4)) [[21]] ⟨(Option.some.inj hv4) ▸ op_min _ _ _ _ rfl rfl⟩ ?_
   refine wee hn [0,4,0] ?_
   refine ht_seq ?_
   refine ht_frzE 0 hio (es' := [(0, .box 64 [.v (.int .i64 d.limit), .fr .ro false 15 (List.flatten (List.map T_Rec.ienc d.recs)), .v (.int .i64 d.used), .v (.int .i64 d.safe), .v (.int .i64 d.kept), .v (.int .i64 d.life), .v (.bool d.off), .v (.int .i64 d.trip), .v (.int .i64 d.tripKeep)]), (4, .v (.int .i64 v4)), (0, .v (List.getD args0 0 undef))]) rfl ?_
   obtain ⟨v5, hv5, h⟩ := bind_some h
   obtain ⟨v6, hv6, h⟩ := bind_some h
   obtain ⟨v7, hv7, h⟩ := bind_some h
   refine wb [[],[],[23,0],[24,0],[25,0],[],[27,0],[28,0],[29,0],[4]] ?_
   refine wN [30,31] ?_
   refine wo [] ⟨lb hv5⟩ ?_
   refine wN [26,32] ?_
   refine wS (.fr .ro false 15 (List.flatten (List.map T_Rec.ienc v6))) [] ⟨op_slice_fr _ _ (Int.toNat 0) (Int.toNat v5) _ underlying31 sz46 (by decide) rfl rfl rfl ⟨_, congrArg (fun j => AV.v (Value.int .i64 j)) (sli_bd hv6).2.1⟩ (sli_bd hv6).2.2.1 (by rw [gflat_len T_Rec.ilen]; exact Nat.mul_le_mul_right _ (sli_bd hv6).2.2.2) (gflat_sli T_Rec.ilen hv6)⟩ ?_
   refine wN [33] ?_
   refine wo [[22,0],[35,0]] ⟨lr call50 (ok_clone_List_api_Rec_ro _ _ hv7)⟩ ?_
   refine wK [34,0] [36] ?_
   refine wt [(0, .box 64 [.v (.int .i64 d.limit), .fr (.own 46) false 15 (List.flatten (List.map T_Rec.ienc v7)), .v (.int .i64 d.used), .v (.int .i64 d.safe), .v (.int .i64 d.kept), .v (.int .i64 d.life), .v (.bool d.off), .v (.int .i64 d.trip), .v (.int .i64 d.tripKeep)])] [] ⟨op_store_take _ _ _ _ _ _ _ _ sz31 rfl rfl rfl (zl rfl) rfl rfl⟩ ?_
   refine wee hn [0,4,0] ?_
   refine ht_seq ?_
   obtain ⟨v8, hv8, h⟩ := bind_some h
   refine yx hn 5 ?_
   refine ys 3 ⟨lk call47 (ok_diary_size _ _ hv8)⟩ ?_
   refine yee [0,4,0] ?_
   refine yyy hn 9 [0,4,0] ?_
   refine ht_seq ?_
   obtain ⟨v9, hv9, h⟩ := bind_some h
   refine yx hn 5 ?_
   refine ys 3 ⟨lb hv9⟩ ?_
   refine yee [0,0] ?_
   refine ht_seq ?_
   obtain ⟨v10, hv10, h⟩ := bind_some h
   refine yx hn 4 ?_
   refine ys 3 ⟨lb hv10⟩ ?_
   refine yee [0,0] ?_
   refine yyy hn 4 [0,0] ?_
   refine yy hn 4 [0,0] ?_
   obtain rfl := Option.some.inj h
   exact pt_endP (es := []) (posts := [.box 64 [.v (.int .i64 d.limit), .fr (.own 46) false 15 (List.flatten (List.map T_Rec.ienc v7)), .v (.int .i64 v8), .v (.int .i64 (v7.length : Int)), .v (.int .i64 v9), .v (.int .i64 v10), .v (.bool true), .v (.int .i64 0), .v (.int .i64 d.tripKeep)]]) hio rfl rfl .nil rfl rfl hargs0 rfl
theorem ok_diary_Diary_step (d : T_diary_Diary) (r : (Int × T_diary_Diary)) (h : Sh.diary_Diary_step d = some r) : FnP Try.prog 42 [.box 64 [.v (.int .i64 d.limit), .fr (.own 46) false 15 (List.flatten (List.map T_Rec.ienc d.recs)), .v (.int .i64 d.used), .v (.int .i64 d.safe), .v (.int .i64 d.kept), .v (.int .i64 d.life), .v (.bool d.off), .v (.int .i64 d.trip), .v (.int .i64 d.tripKeep)]] [.box 64 [.v (.int .i64 r.2.limit), .fr (.own 46) false 15 (List.flatten (List.map T_Rec.ienc r.2.recs)), .v (.int .i64 r.2.used), .v (.int .i64 r.2.safe), .v (.int .i64 r.2.kept), .v (.int .i64 r.2.life), .v (.bool r.2.off), .v (.int .i64 r.2.trip), .v (.int .i64 r.2.tripKeep)]] (.v (.int .i64 r.1)) := by
  unfold Sh.diary_Diary_step at h
  refine yP 26 func42 fun args0 hargs0 g0 hn hio => ?_
  refine yyy hn 1 [0,0] ?_
  refine ht_seq ?_
  refine yyy hn 5 [0,7,0] ?_
  refine ht_cond _ rfl (fun hb1 => ?_) (fun hb1 => ?_)
  ·have h := cond_t hb1 h
   refine yyy hn 1 [0,2,0] ?_
   refine ht_ret ?_
   refine pt_pick [1, 0, 2] (by kernel_rfl) (es' := [(_,_),(_,_),(_,_)]) rfl ?_
   refine pt_r_then ?_
   obtain rfl := Option.some.inj h
   exact pt_retP (es := [(2, .v (.int .i64 0))]) (posts := [.box 64 [.v (.int .i64 d.limit), .fr (.own 46) false 15 (List.flatten (List.map T_Rec.ienc d.recs)), .v (.int .i64 d.used), .v (.int .i64 d.safe), .v (.int .i64 d.kept), .v (.int .i64 d.life), .v (.bool d.off), .v (.int .i64 d.trip), .v (.int .i64 d.tripKeep)]]) hio rfl rfl (.tmp _ _ .nil) rfl rfl hargs0 rfl
  ·have h := cond_f hb1 h
   refine ht_skip ?_
   refine pt_then (ht_seq ?_)
   obtain ⟨v2, hv2, h⟩ := bind_some h
   refine yx hn 4 ?_
   refine ys 3 ⟨lb hv2⟩ ?_
   refine yee [0,0] ?_
   refine ht_seq ?_
   refine yyy hn 5 [0,19,0] ?_
   refine ht_cond _ rfl (fun hb3 => ?_) (fun hb3 => ?_)
   ·have h := cond_t hb3 h
    refine yyy hn 1 [0,2,0] ?_
    refine ht_ret ?_
    refine pt_pick [1, 0, 2] (by kernel_rfl) (es' := [(_,_),(_,_),(_,_)]) rfl ?_
    refine pt_r_then ?_
    obtain rfl := Option.some.inj h
    exact pt_retP (es := [(2, .v (.int .i64 0))]) (posts := [.box 64 [.v (.int .i64 d.limit), .fr (.own 46) false 15 (List.flatten (List.map T_Rec.ienc d.recs)), .v (.int .i64 d.used), .v (.int .i64 d.safe), .v (.int .i64 d.kept), .v (.int .i64 d.life), .v (.bool d.off), .v (.int .i64 v2), .v (.int .i64 d.tripKeep)]]) hio rfl rfl (.tmp _ _ .nil) rfl rfl hargs0 rfl
   ·have h := cond_f hb3 h
    refine ht_skip ?_
    refine pt_then (ht_seq ?_)
    obtain ⟨v4, hv4, h⟩ := bind_some h
    refine yx hn 5 ?_
    refine yQ call21 (ok_diary_Diary_Crash _ _ _ hv4) 0 [20,24] 0 ?_
    refine yee [0,0] ?_
    refine yyy hn 1 [0,2,0] ?_
    refine ht_ret ?_
    refine pt_pick [1, 0, 2] (by kernel_rfl) (es' := [(_,_),(_,_),(_,_)]) rfl ?_
    obtain rfl := Option.some.inj h
    exact pt_retP (es := [(2, .v (.int .i64 7))]) (posts := [.box 64 [.v (.int .i64 v4.limit), .fr (.own 46) false 15 (List.flatten (List.map T_Rec.ienc v4.recs)), .v (.int .i64 v4.used), .v (.int .i64 v4.safe), .v (.int .i64 v4.kept), .v (.int .i64 v4.life), .v (.bool v4.off), .v (.int .i64 v4.trip), .v (.int .i64 v4.tripKeep)]]) hio rfl rfl (.tmp _ _ .nil) rfl rfl hargs0 rfl
theorem ok_diary_Diary_Put (d : T_diary_Diary) (p_r : T_Rec) (r : (Int × T_diary_Diary)) (h : Sh.diary_Diary_Put d p_r = some r) : FnP Try.prog 15 [.box 64 [.v (.int .i64 d.limit), .fr (.own 46) false 15 (List.flatten (List.map T_Rec.ienc d.recs)), .v (.int .i64 d.used), .v (.int .i64 d.safe), .v (.int .i64 d.kept), .v (.int .i64 d.life), .v (.bool d.off), .v (.int .i64 d.trip), .v (.int .i64 d.tripKeep)], .agg [.v (.int .i64 p_r.Kind), .v (.bool p_r.Mail.From.Null), .v (.string p_r.Mail.From.Local), .v (.string p_r.Mail.From.Domain), .fl .shr 3 (List.flatten (List.map T_Path.enc p_r.Mail.To)), .fl .shr 1 (List.map (Value.int .u8) p_r.Mail.Body), .v (.bool p_r.Mail.Quiet), .v (.string p_r.Mail.Helo), .v (.int .i64 p_r.Mail.At), .v (.int .i64 p_r.Id), .fl .shr 1 (List.map (Value.int .i64) p_r.Ids), .v (.int .i64 p_r.Origin), .v (.int .i64 p_r.Number), .v (.int .i64 p_r.Offset), .fl .shr 1 (List.map (Value.int .u8) p_r.Data)]] [.box 64 [.v (.int .i64 r.2.limit), .fr (.own 46) false 15 (List.flatten (List.map T_Rec.ienc r.2.recs)), .v (.int .i64 r.2.used), .v (.int .i64 r.2.safe), .v (.int .i64 r.2.kept), .v (.int .i64 r.2.life), .v (.bool r.2.off), .v (.int .i64 r.2.trip), .v (.int .i64 r.2.tripKeep)]] (.v (.int .i64 r.1)) := by
  unfold Sh.diary_Diary_Put at h
  refine yP 43 func15 fun args0 hargs0 g0 hn hio => ?_
  refine yyy hn 2 [0,3,0] ?_
  refine ht_seq ?_
  refine yyy hn 4 [0,3,8,0] ?_
  refine ht_cond _ rfl (fun hb1 => ?_) (fun hb1 => ?_)
  ·have h := cond_t hb1 h
   refine yyy hn 1 [0,4,0] ?_
   refine ht_ret ?_
   refine pt_pick [1, 0, 2] (by kernel_rfl) (es' := [(_,_),(_,_),(_,_)]) rfl ?_
   refine pt_r_then ?_
   obtain rfl := Option.some.inj h
   exact pt_retP (es := [(4, .v (.int .i64 7))]) (posts := [.box 64 [.v (.int .i64 d.limit), .fr (.own 46) false 15 (List.flatten (List.map T_Rec.ienc d.recs)), .v (.int .i64 d.used), .v (.int .i64 d.safe), .v (.int .i64 d.kept), .v (.int .i64 d.life), .v (.bool d.off), .v (.int .i64 d.trip), .v (.int .i64 d.tripKeep)]]) hio rfl rfl (.tmp _ _ .nil) rfl rfl hargs0 rfl
  ·have h := cond_f hb1 h
   refine ht_skip ?_
   refine pt_then (ht_seq ?_)
   refine ht_seq ?_
   obtain ⟨v2, hv2, h⟩ := bind_some h
   obtain ⟨v3, hv3, h⟩ := bind_some h
   refine wb [[],[9,0],[10,0],[11,0],[3]] ?_
   refine wN [13] ?_
   refine wo [] ⟨lk call33 (ok_diary_Room _ _ hv2)⟩ ?_
   refine wN [12,14] ?_
   refine wo [[],[16,0],[17,0],[18,0],[15,19]] ⟨lb hv3⟩ ?_
   refine wee hn [0,3,20,0] ?_
   refine ht_cond _ rfl (fun hb4 => ?_) (fun hb4 => ?_)
   ·have h := cond_t hb4 h
    refine yyy hn 1 [0,4,0] ?_
    refine ht_ret ?_
    refine pt_pick [1, 0, 2] (by kernel_rfl) (es' := [(_,_),(_,_),(_,_)]) rfl ?_
    refine pt_r_then ?_
    obtain rfl := Option.some.inj h
    exact pt_retP (es := [(4, .v (.int .i64 8))]) (posts := [.box 64 [.v (.int .i64 d.limit), .fr (.own 46) false 15 (List.flatten (List.map T_Rec.ienc d.recs)), .v (.int .i64 d.used), .v (.int .i64 d.safe), .v (.int .i64 d.kept), .v (.int .i64 d.life), .v (.bool d.off), .v (.int .i64 d.trip), .v (.int .i64 d.tripKeep)]]) hio rfl rfl (.tmp _ _ .nil) rfl rfl hargs0 rfl
   ·have h := cond_f hb4 h
    refine ht_skip ?_
    refine pt_then (ht_seq ?_)
    obtain ⟨v5, hv5, h⟩ := bind_some h
    obtain ⟨v6, hv6, h⟩ := bind_some h
    refine wb [[],[],[22,0],[23,0],[24,0],[3]] ?_
    refine wN [26] ?_
    refine wo [] ⟨lk call41 (ok_clone_Rec _ _ hv5)⟩ ?_
    refine wK [27] [] ?_
    refine wt [(28, .fr (.own 46) false 15 (List.flatten (List.map T_Rec.ienc [(T_Rec.mk v5.Kind ((T_Mail.mk (T_Path.mk v5.Mail.From.Null v5.Mail.From.Local v5.Mail.From.Domain) v5.Mail.To v5.Mail.Body v5.Mail.Quiet v5.Mail.Helo v5.Mail.At)) v5.Id v5.Ids v5.Origin v5.Number v5.Offset v5.Data)])))] [] ⟨op_build1_fr_take _ _ _ 15 (.agg #[.int .i64 0, .bool false, .string ByteArray.empty, .string ByteArray.empty, .slice none 0 0, .slice none 0 0, .bool false, .string ByteArray.empty, .int .i64 0, .int .i64 0, .slice none 0 0, .int .i64 0, .int .i64 0, .int .i64 0, .slice none 0 0]) false _ _ underlying31 sz46 zr46 rfl (.cons (.v _) (.cons (.v _) (.cons (.v _) (.cons (.v _) (.cons (.ro _ _ rfl) (.cons (.ro _ _ rfl) (.cons (.v _) (.cons (.v _) (.cons (.v _) (.cons (.v _) (.cons (.ro _ _ rfl) (.cons (.v _) (.cons (.v _) (.cons (.v _) (.cons (.ro _ _ rfl) (.nil)))))))))))))))) rfl (by decide) (by decide)⟩ ?_
    refine wK [0] [25,28] ?_
    refine wt [(0, .box 64 [.v (.int .i64 d.limit), .any, .v (.int .i64 d.used), .v (.int .i64 d.safe), .v (.int .i64 d.kept), .v (.int .i64 d.life), .v (.bool d.off), .v (.int .i64 d.trip), .v (.int .i64 d.tripKeep)]), (29, .fr (.own 46) false 15 (List.flatten (List.map T_Rec.ienc v6)))] [[21,0],[30,0]] ⟨op_app_fr_cell _ 29 0 1 _ _ el31 rfl rfl (zl rfl) rfl (gflat_len T_Rec.ilen _) (gflat_len T_Rec.ilen _) hv6 (gflat_app (app_eq hv6)) (by decide) (by decide) (by decide) rfl rfl⟩ ?_
    refine wK [25,29,0] [31] ?_
    refine wt [(0, .box 64 [.v (.int .i64 d.limit), .fr (.own 46) false 15 (List.flatten (List.map T_Rec.ienc v6)), .v (.int .i64 d.used), .v (.int .i64 d.safe), .v (.int .i64 d.kept), .v (.int .i64 d.life), .v (.bool d.off), .v (.int .i64 d.trip), .v (.int .i64 d.tripKeep)])] [] ⟨LOp.drop [_] (op_store_take _ _ _ _ _ _ _ _ sz31 rfl rfl rfl (zl rfl) rfl rfl)⟩ ?_
    refine wee hn [0,3,0] ?_
    refine ht_seq ?_
    obtain ⟨v7, hv7, h⟩ := bind_some h
    obtain ⟨v8, hv8, h⟩ := bind_some h
    refine wb [[],[32,0],[33,0],[34,0],[3]] ?_
    refine wN [36] ?_
    refine wo [] ⟨lk call33 (ok_diary_Room _ _ hv7)⟩ ?_
    refine wN [35,37] ?_
    refine wo [[32,0],[39,0]] ⟨lb hv8⟩ ?_
    refine wK [0] [40,38] ?_
    refine wt [(0, .box 64 [.v (.int .i64 d.limit), .fr (.own 46) false 15 (List.flatten (List.map T_Rec.ienc v6)), .v (.int .i64 v8), .v (.int .i64 d.safe), .v (.int .i64 d.kept), .v (.int .i64 d.life), .v (.bool d.off), .v (.int .i64 d.trip), .v (.int .i64 d.tripKeep)])] [] ⟨op_store _ _ _ _ _ _ _ _ sz3 rfl rfl rfl rfl (zl rfl) rfl rfl⟩ ?_
    refine wee hn [0,0] ?_
    refine ht_seq ?_
    obtain ⟨v9, hv9, h⟩ := bind_some h
    refine yx hn 1 ?_
    refine yQ call42 (ok_diary_Diary_step _ _ hv9) 0 [41] 1 ?_
    refine yee [0,4,0] ?_
    refine ht_ret ?_
    refine pt_pick [1, 0, 2] (by kernel_rfl) (es' := [(_,_),(_,_),(_,_)]) rfl ?_
    obtain rfl := Option.some.inj h
    exact pt_retP (es := [(4, .v (.int .i64 v9.1))]) (posts := [.box 64 [.v (.int .i64 v9.2.limit), .fr (.own 46) false 15 (List.flatten (List.map T_Rec.ienc v9.2.recs)), .v (.int .i64 v9.2.used), .v (.int .i64 v9.2.safe), .v (.int .i64 v9.2.kept), .v (.int .i64 v9.2.life), .v (.bool v9.2.off), .v (.int .i64 v9.2.trip), .v (.int .i64 v9.2.tripKeep)]]) hio rfl rfl (.tmp _ _ .nil) rfl rfl hargs0 rfl
theorem ok_wherryref18_Room (p_r : T_Rec) (r : Int) (h : Sh.wherryref18_Room p_r = some r) : FnOK Try.prog 44 [.agg [.v (.int .i64 p_r.Kind), .v (.bool p_r.Mail.From.Null), .v (.string p_r.Mail.From.Local), .v (.string p_r.Mail.From.Domain), .fl .shr 3 (List.flatten (List.map T_Path.enc p_r.Mail.To)), .fl .shr 1 (List.map (Value.int .u8) p_r.Mail.Body), .v (.bool p_r.Mail.Quiet), .v (.string p_r.Mail.Helo), .v (.int .i64 p_r.Mail.At), .v (.int .i64 p_r.Id), .fl .shr 1 (List.map (Value.int .i64) p_r.Ids), .v (.int .i64 p_r.Origin), .v (.int .i64 p_r.Number), .v (.int .i64 p_r.Offset), .fl .shr 1 (List.map (Value.int .u8) p_r.Data)]] (.v (.int .i64 r)) := by
  unfold Sh.wherryref18_Room at h
  refine yO 29 func44 fun g0 hn hio => ?_
  refine yyy hn 2 [1] ?_
  refine ht_seq ?_
  obtain ⟨v1, hv1, h⟩ := bind_some h
  obtain ⟨v2, hv2, h⟩ := bind_some h
  obtain ⟨v3, hv3, h⟩ := bind_some h
  obtain ⟨v4, hv4, h⟩ := bind_some h
  obtain ⟨v5, hv5, h⟩ := bind_some h
  obtain ⟨v6, hv6, h⟩ := bind_some h
  obtain ⟨v7, hv7, h⟩ := bind_some h
  obtain ⟨v8, hv8, h⟩ := bind_some h
  refine yx hn 3 ?_
  refine ys 4 ⟨lb hv1⟩ ?_
  refine ys 4 ⟨lb hv2⟩ ?_
  refine ys 4 ⟨lb hv3⟩ ?_
  refine ys 0 ⟨lb hv4⟩ ?_
  refine ys 0 ⟨lb hv5⟩ ?_
  refine ys 3 ⟨lb hv6⟩ ?_
  refine ys 0 ⟨lb hv7⟩ ?_
  refine ys 1 ⟨lb hv8⟩ ?_
  refine yee [2] ?_
  refine ht_ret ?_
  obtain rfl := Option.some.inj h
  exact pt_ret hio rfl (.tmp _ _ .nil) rfl rfl
theorem ok_wherryref18_rooms (l : (List T_Rec)) (r : Int) (h : Sh.wherryref18_rooms l = some r) : FnOK Try.prog 49 [.fr .shr true 15 (List.flatten (List.map T_Rec.ienc l))] (.v (.int .i64 r)) := by
  unfold Sh.wherryref18_rooms at h
  refine yO 19 func49 fun g0 hn hio => ?_
  refine yyy hn 1 [0] ?_
  refine yyy hn 1 [0,3] ?_
  refine ht_seq ?_
  refine yyy hn 1 [0,3,4] ?_
  refine ht_loopS h (fun ((s10, s11) : Int × Int) => [(0, .fr .shr true 15 (List.flatten (List.map T_Rec.ienc l))), (3, .v (.int .i64 s10)), (4, .v (.int .i64 s11))]) (fun (s13 : Int) => [(3, .v (.int .i64 s13))]) ?_ ?_
  ·rintro s13 h
   refine pt_then ?_
   refine yyy hn 2 [2] ?_
   refine ht_ret ?_
   obtain rfl := Option.some.inj h
   exact pt_ret hio rfl (.tmp _ _ .nil) rfl rfl
  ·rintro u14 hl15 hr16 ⟨s10, s11⟩ rr19 h ho17
   refine ht_seq ?_
   refine yyy hn 4 [0,3,4,8] ?_
   refine ht_cond _ rfl (fun hb20 => ?_) (fun hb20 => ?_)
   ·have h := cond_t hb20 h
    refine ht_skip ?_
    refine pt_then (ht_seq ?_)
    refine ht_block ?_
    obtain ⟨v2, hv2, h⟩ := bind_some h
    obtain ⟨v3, hv3, h⟩ := bind_some h
    obtain ⟨v4, hv4, h⟩ := bind_some h
    obtain ⟨v5, hv5, h⟩ := bind_some h
    refine yx hn 3 ?_
    refine ys 0 ⟨lI hv2⟩ ?_
    refine yS (.agg [.v (.int .i64 v3.Kind), .v (.bool v3.Mail.From.Null), .v (.string v3.Mail.From.Local), .v (.string v3.Mail.From.Domain), .fl .shr 3 (List.flatten (List.map T_Path.enc v3.Mail.To)), .fl .shr 1 (List.map (Value.int .u8) v3.Mail.Body), .v (.bool v3.Mail.Quiet), .v (.string v3.Mail.Helo), .v (.int .i64 v3.Mail.At), .v (.int .i64 v3.Id), .fl .shr 1 (List.map (Value.int .i64) v3.Ids), .v (.int .i64 v3.Origin), .v (.int .i64 v3.Number), .v (.int .i64 v3.Offset), .fl .shr 1 (List.map (Value.int .u8) v3.Data)]) 0 ⟨op_loadA_fr _ _ _ _ _ _ _ _ underlying46 rfl sz46 rfl rfl (gflat_get T_Rec.ilen hv3) (.cons (.v _) (.cons (.v _) (.cons (.v _) (.cons (.v _) (.cons (.fl _ _ rfl) (.cons (.fl _ _ rfl) (.cons (.v _) (.cons (.v _) (.cons (.v _) (.cons (.v _) (.cons (.fl _ _ rfl) (.cons (.v _) (.cons (.v _) (.cons (.v _) (.cons (.fl _ _ rfl) (.nil)))))))))))))))) rfl (by decide)⟩ ?_
    refine ys 0 ⟨lk call44 (ok_wherryref18_Room _ _ hv4)⟩ ?_
    refine ys 0 ⟨lb hv5⟩ ?_
    refine yw [3] 1 ?_
    refine ye [0,4,3] ?_
    refine pt_inb ?_
    refine pt_then ?_
    obtain ⟨v6, hv6, h⟩ := bind_some h
    refine yx hn 1 ?_
    refine ys 0 ⟨lb hv6⟩ ?_
    refine yw [4] 1 ?_
    refine ye [0,3,4] ?_
    exact pt_next _ (Option.some.inj h).symm rfl
   ·have h := cond_f hb20 h
    refine ht_exit ?_
    refine pt_x_then ?_
    refine pt_x_then ?_
    refine pt_x_in ?_
    refine pt_pick [1] (by kernel_rfl) (es' := [(_,_)]) rfl ?_
    exact hl15 _ (ho17 _ (Option.some.inj h).symm).symm
theorem ok_wherryref18_Diary_Used_pinr (u : Nat → Value) (d : T_wherryref18_Diary) (r : Int) (h : Sh.wherryref18_Diary_Used_pinr d = some r) : FnP Try.prog 43 [.box 67 [.v (.int .i64 d.Limit), .hid (pinA (u 1) (.fr .shr true 15 (List.flatten (List.map T_Rec.ienc d.Recs)))), .v (.int .i64 d.Sure), .v (.bool d.IsOff), .v (.int .i64 d.Lives), .v (.int .i64 d.Left), .v (.int .i64 d.Keep), .v (.int .i64 d.Kept)]] [.box 67 [.v (.int .i64 d.Limit), .hid (pinA (u 1) (.fr .shr true 15 (List.flatten (List.map T_Rec.ienc d.Recs)))), .v (.int .i64 d.Sure), .v (.bool d.IsOff), .v (.int .i64 d.Lives), .v (.int .i64 d.Left), .v (.int .i64 d.Keep), .v (.int .i64 d.Kept)]] (.v (.int .i64 r)) := by
  unfold Sh.wherryref18_Diary_Used_pinr at h
  refine yP 8 func43 fun args0 hargs0 g0 hn hio => ?_
  refine yyy hn 1 [0,0] ?_
  refine ht_seq ?_
  obtain ⟨v1, hv1, h⟩ := bind_some h
  refine yx hn 3 ?_
  refine yS (.fr .shr true 15 (List.flatten (List.map T_Rec.ienc d.Recs))) 0 ⟨op_load_pa _ _ _ _ _ _ _ underlying31 rfl rfl rfl rfl rfl rfl rfl⟩ ?_
  refine ys 1 ⟨lk call49 (ok_wherryref18_rooms _ _ hv1)⟩ ?_
  refine yee [0,2,0] ?_
  refine ht_ret ?_
  refine pt_pick [1, 0, 2] (by kernel_rfl) (es' := [(_,_),(_,_),(_,_)]) rfl ?_
  obtain rfl := Option.some.inj h
  exact pt_retP (es := [(2, .v (.int .i64 v1))]) (posts := [.box 67 [.v (.int .i64 d.Limit), .hid (pinA (u 1) (.fr .shr true 15 (List.flatten (List.map T_Rec.ienc d.Recs)))), .v (.int .i64 d.Sure), .v (.bool d.IsOff), .v (.int .i64 d.Lives), .v (.int .i64 d.Left), .v (.int .i64 d.Keep), .v (.int .i64 d.Kept)]]) hio rfl rfl (.tmp _ _ .nil) rfl rfl hargs0 rfl
theorem ok_wherryref18_Diary_strikes (d : T_wherryref18_Diary) (r : (Bool × T_wherryref18_Diary)) (h : Sh.wherryref18_Diary_strikes d = some r) : FnP Try.prog 45 [.box 67 [.v (.int .i64 d.Limit), .fr (.own 46) false 15 (List.flatten (List.map T_Rec.ienc d.Recs)), .v (.int .i64 d.Sure), .v (.bool d.IsOff), .v (.int .i64 d.Lives), .v (.int .i64 d.Left), .v (.int .i64 d.Keep), .v (.int .i64 d.Kept)]] [.box 67 [.v (.int .i64 r.2.Limit), .fr (.own 46) false 15 (List.flatten (List.map T_Rec.ienc r.2.Recs)), .v (.int .i64 r.2.Sure), .v (.bool r.2.IsOff), .v (.int .i64 r.2.Lives), .v (.int .i64 r.2.Left), .v (.int .i64 r.2.Keep), .v (.int .i64 r.2.Kept)]] (.v (.bool r.1)) := by
  unfold Sh.wherryref18_Diary_strikes at h
  refine yP 20 func45 fun args0 hargs0 g0 hn hio => ?_
  refine yyy hn 1 [0,0] ?_
  refine ht_seq ?_
  refine yyy hn 5 [0,7,0] ?_
  refine ht_cond _ rfl (fun hb1 => ?_) (fun hb1 => ?_)
  ·have h := cond_t hb1 h
   refine ht_seq ?_
   obtain ⟨v2, hv2, h⟩ := bind_some h
   refine yx hn 4 ?_
   refine ys 3 ⟨lb hv2⟩ ?_
   refine yee [0,0] ?_
   refine yyy hn 6 [0,2,0] ?_
   refine ht_ret ?_
   refine pt_pick [1, 0, 2] (by kernel_rfl) (es' := [(_,_),(_,_),(_,_)]) rfl ?_
   refine pt_r_then ?_
   obtain rfl := Option.some.inj h
   exact pt_retP (es := [(2, .v (.bool (v2 == 0)))]) (posts := [.box 67 [.v (.int .i64 d.Limit), .fr (.own 46) false 15 (List.flatten (List.map T_Rec.ienc d.Recs)), .v (.int .i64 d.Sure), .v (.bool d.IsOff), .v (.int .i64 d.Lives), .v (.int .i64 v2), .v (.int .i64 d.Keep), .v (.int .i64 d.Kept)]]) hio rfl rfl (.tmp _ _ .nil) rfl rfl hargs0 rfl
  ·have h := cond_f hb1 h
   refine ht_skip ?_
   refine pt_then ?_
   refine yyy hn 1 [0,2,0] ?_
   refine ht_ret ?_
   refine pt_pick [1, 0, 2] (by kernel_rfl) (es' := [(_,_),(_,_),(_,_)]) rfl ?_
   obtain rfl := Option.some.inj h
   exact pt_retP (es := [(2, .v (.bool false))]) (posts := [.box 67 [.v (.int .i64 d.Limit), .fr (.own 46) false 15 (List.flatten (List.map T_Rec.ienc d.Recs)), .v (.int .i64 d.Sure), .v (.bool d.IsOff), .v (.int .i64 d.Lives), .v (.int .i64 d.Left), .v (.int .i64 d.Keep), .v (.int .i64 d.Kept)]]) hio rfl rfl (.tmp _ _ .nil) rfl rfl hargs0 rfl
theorem ok_wherryref18_Diary_Crash (d : T_wherryref18_Diary) (keep : Int) (r : T_wherryref18_Diary) (h : Sh.wherryref18_Diary_Crash d keep = some r) : FnP Try.prog 22 [.box 67 [.v (.int .i64 d.Limit), .fr (.own 46) false 15 (List.flatten (List.map T_Rec.ienc d.Recs)), .v (.int .i64 d.Sure), .v (.bool d.IsOff), .v (.int .i64 d.Lives), .v (.int .i64 d.Left), .v (.int .i64 d.Keep), .v (.int .i64 d.Kept)], .v (.int .i64 keep)] [.box 67 [.v (.int .i64 r.Limit), .fr (.own 46) false 15 (List.flatten (List.map T_Rec.ienc r.Recs)), .v (.int .i64 r.Sure), .v (.bool r.IsOff), .v (.int .i64 r.Lives), .v (.int .i64 r.Left), .v (.int .i64 r.Keep), .v (.int .i64 r.Kept)]] (.tup []) := by
  unfold Sh.wherryref18_Diary_Crash at h
  refine yP 70 func22 fun args0 hargs0 g0 hn hio => ?_
  refine ht_seq ?_
  refine yyy hn 4 [0,1,8,0] ?_
  refine ht_cond _ rfl (fun hb1 => ?_) (fun hb1 => ?_)
  ·have h := cond_t hb1 h
   refine ht_ret ?_
   refine pt_pick [0, 3] (by kernel_rfl) (es' := [(_,_),(_,_)]) rfl ?_
   refine pt_r_then ?_
   obtain rfl := Option.some.inj h
   exact pt_retP (es := []) (posts := [.box 67 [.v (.int .i64 d.Limit), .fr (.own 46) false 15 (List.flatten (List.map T_Rec.ienc d.Recs)), .v (.int .i64 d.Sure), .v (.bool d.IsOff), .v (.int .i64 d.Lives), .v (.int .i64 d.Left), .v (.int .i64 d.Keep), .v (.int .i64 d.Kept)]]) hio rfl rfl .nil rfl rfl hargs0 rfl
  ·have h := cond_f hb1 h
   refine ht_skip ?_
   refine pt_then (ht_seq ?_)
   obtain ⟨v2, hv2, h⟩ := bind_some h
   obtain ⟨v3, hv3, h⟩ := bind_some h
   obtain ⟨v4, hv4, h⟩ := bind_some h
   refine wb [[1]] ?_
   refine wN [9] ?_
   refine wS (.v (.int .i64 v2)) [[],[11,0],[12,0],[13,0],[14,0],[],[16,0],[17,0],[18,0]] ⟨(Option.some.inj hv2) ▸ op_max _ _ _ _ rfl rfl⟩ ?_
   refine wN [15,19] ?_
   refine wo [] ⟨lb hv3⟩ ?_
   refine wN [10,20] ?_
   refine wS (.v (.int .i64 v4)) [[21]] ⟨(Option.some.inj hv4) ▸ op_min _ _ _ _ rfl rfl⟩ ?_
   refine wee hn [0,4,0] ?_
   refine ht_seq ?_
   obtain ⟨v5, hv5, h⟩ := bind_some h
   obtain ⟨v6, hv6, h⟩ := bind_some h
   obtain ⟨v7, hv7, h⟩ := bind_some h
   refine wb [[],[],[],[24,0],[25,0],[26,0],[],[28,0],[29,0],[30,0],[4]] ?_
   refine wN [31,32] ?_
   refine wo [] ⟨lb hv5⟩ ?_
   refine wN [27,0,33] ?_
   refine wS (.cut (.cell 0 1) (Int.toNat v5)) [[],[35,0],[36,0],[37,0],[4]] ⟨op_slice_cut _ _ (Int.toNat v5) 15 _ underlying31 sz46 (by decide) rfl rfl ⟨_, congrArg (fun j => AV.v (Value.int .i64 j)) (sli_bd hv6).2.1⟩ (cut_le (gflat_len T_Rec.ilen d.Recs) hv6) rfl⟩ ?_
   refine wN [38,39] ?_
   refine wo [[22,0],[41,0]] ⟨lb hv7⟩ ?_
   refine wK [27,34,0] [42] ?_
   refine wt [(0, .box 67 [.v (.int .i64 d.Limit), .fr (.own 46) false 15 (List.flatten (List.map T_Rec.ienc v6)), .v (.int .i64 d.Sure), .v (.bool d.IsOff), .v (.int .i64 d.Lives), .v (.int .i64 d.Left), .v (.int .i64 d.Keep), .v (.int .i64 d.Kept)])] [[23,0],[43,0]] ⟨LOp.drop [_] (op_store_cut _ _ _ 34 0 1 _ _ _ sz31 rfl rfl rfl rfl (congrArg (fun q => List.set _ 1 q) (cut_fr_eq hv6 T_Rec.ilen)) rfl)⟩ ?_
   refine wK [0] [44,40] ?_
   refine wt [(0, .box 67 [.v (.int .i64 d.Limit), .fr (.own 46) false 15 (List.flatten (List.map T_Rec.ienc v6)), .v (.int .i64 d.Sure), .v (.bool d.IsOff), .v (.int .i64 d.Lives), .v (.int .i64 d.Left), .v (.int .i64 d.Keep), .v (.int .i64 v7)])] [] ⟨op_store _ _ _ _ _ _ _ _ sz3 rfl rfl rfl rfl (zl rfl) rfl rfl⟩ ?_
   refine wee hn [0,0] ?_
   refine yyy hn 9 [0,0] ?_
   obtain ⟨v8, hv8, h⟩ := bind_some h
   refine yx hn 8 ?_
   refine ys 12 ⟨lb hv8⟩ ?_
   refine ye [0,0] ?_
   obtain rfl := Option.some.inj h
   exact pt_endP (es := []) (posts := [.box 67 [.v (.int .i64 d.Limit), .fr (.own 46) false 15 (List.flatten (List.map T_Rec.ienc v6)), .v (.int .i64 (v6.length : Int)), .v (.bool true), .v (.int .i64 v8), .v (.int .i64 0), .v (.int .i64 0), .v (.int .i64 v7)]]) hio rfl rfl .nil rfl rfl hargs0 rfl
theorem ok_wherryref18_Diary_Put (d : T_wherryref18_Diary) (p_r : T_Rec) (r : (Int × T_wherryref18_Diary)) (h : Sh.wherryref18_Diary_Put d p_r = some r) : FnP Try.prog 16 [.box 67 [.v (.int .i64 d.Limit), .fr (.own 46) false 15 (List.flatten (List.map T_Rec.ienc d.Recs)), .v (.int .i64 d.Sure), .v (.bool d.IsOff), .v (.int .i64 d.Lives), .v (.int .i64 d.Left), .v (.int .i64 d.Keep), .v (.int .i64 d.Kept)], .agg [.v (.int .i64 p_r.Kind), .v (.bool p_r.Mail.From.Null), .v (.string p_r.Mail.From.Local), .v (.string p_r.Mail.From.Domain), .fl .shr 3 (List.flatten (List.map T_Path.enc p_r.Mail.To)), .fl .shr 1 (List.map (Value.int .u8) p_r.Mail.Body), .v (.bool p_r.Mail.Quiet), .v (.string p_r.Mail.Helo), .v (.int .i64 p_r.Mail.At), .v (.int .i64 p_r.Id), .fl .shr 1 (List.map (Value.int .i64) p_r.Ids), .v (.int .i64 p_r.Origin), .v (.int .i64 p_r.Number), .v (.int .i64 p_r.Offset), .fl .shr 1 (List.map (Value.int .u8) p_r.Data)]] [.box 67 [.v (.int .i64 r.2.Limit), .fr (.own 46) false 15 (List.flatten (List.map T_Rec.ienc r.2.Recs)), .v (.int .i64 r.2.Sure), .v (.bool r.2.IsOff), .v (.int .i64 r.2.Lives), .v (.int .i64 r.2.Left), .v (.int .i64 r.2.Keep), .v (.int .i64 r.2.Kept)]] (.v (.int .i64 r.1)) := by
  unfold Sh.wherryref18_Diary_Put at h
  refine yP 38 func16 fun args0 hargs0 g0 hn hio => ?_
  refine yyy hn 2 [0,3,0] ?_
  refine ht_seq ?_
  refine yyy hn 4 [0,3,8,0] ?_
  refine ht_cond _ rfl (fun hb1 => ?_) (fun hb1 => ?_)
  ·have h := cond_t hb1 h
   refine yyy hn 1 [0,4,0] ?_
   refine ht_ret ?_
   refine pt_pick [1, 0, 2] (by kernel_rfl) (es' := [(_,_),(_,_),(_,_)]) rfl ?_
   refine pt_r_then ?_
   obtain rfl := Option.some.inj h
   exact pt_retP (es := [(4, .v (.int .i64 7))]) (posts := [.box 67 [.v (.int .i64 d.Limit), .fr (.own 46) false 15 (List.flatten (List.map T_Rec.ienc d.Recs)), .v (.int .i64 d.Sure), .v (.bool d.IsOff), .v (.int .i64 d.Lives), .v (.int .i64 d.Left), .v (.int .i64 d.Keep), .v (.int .i64 d.Kept)]]) hio rfl rfl (.tmp _ _ .nil) rfl rfl hargs0 rfl
  ·have h := cond_f hb1 h
   refine ht_skip ?_
   refine pt_then (ht_seq ?_)
   refine ht_seq ?_
   obtain ⟨v2, hv2, h⟩ := bind_some h
   obtain ⟨v3, hv3, h⟩ := bind_some h
   obtain ⟨v4, hv4, h⟩ := bind_some h
   refine wb [[0]] ?_
   refine wN [9,0] ?_
   refine wS (.v (.int .i64 v2)) [[3]] ⟨op_callNR _ 10 0 43 [] _ rfl call43 rfl rfl rfl rfl (fun u => ok_wherryref18_Diary_Used_pinr u d _ hv2) rfl rfl rfl⟩ ?_
   refine wN [11] ?_
   refine wo [] ⟨lk call44 (ok_wherryref18_Room _ _ hv3)⟩ ?_
   refine wN [10,12] ?_
   refine wo [[],[14,0],[15,0],[16,0],[13,17]] ⟨lb hv4⟩ ?_
   refine wee hn [0,3,18,0] ?_
   refine ht_cond _ rfl (fun hb5 => ?_) (fun hb5 => ?_)
   ·have h := cond_t hb5 h
    refine yyy hn 1 [0,4,0] ?_
    refine ht_ret ?_
    refine pt_pick [1, 0, 2] (by kernel_rfl) (es' := [(_,_),(_,_),(_,_)]) rfl ?_
    refine pt_r_then ?_
    obtain rfl := Option.some.inj h
    exact pt_retP (es := [(4, .v (.int .i64 8))]) (posts := [.box 67 [.v (.int .i64 d.Limit), .fr (.own 46) false 15 (List.flatten (List.map T_Rec.ienc d.Recs)), .v (.int .i64 d.Sure), .v (.bool d.IsOff), .v (.int .i64 d.Lives), .v (.int .i64 d.Left), .v (.int .i64 d.Keep), .v (.int .i64 d.Kept)]]) hio rfl rfl (.tmp _ _ .nil) rfl rfl hargs0 rfl
   ·have h := cond_f hb5 h
    refine ht_skip ?_
    refine pt_then (ht_seq ?_)
    obtain ⟨v6, hv6, h⟩ := bind_some h
    obtain ⟨v7, hv7, h⟩ := bind_some h
    refine wb [[],[],[20,0],[21,0],[22,0],[3]] ?_
    refine wN [24] ?_
    refine wo [] ⟨lk call40 (ok_wherrykeep_TwinRec _ _ hv6)⟩ ?_
    refine wK [25] [] ?_
    refine wt [(26, .fr (.own 46) false 15 (List.flatten (List.map T_Rec.ienc [(T_Rec.mk v6.Kind ((T_Mail.mk (T_Path.mk v6.Mail.From.Null v6.Mail.From.Local v6.Mail.From.Domain) v6.Mail.To v6.Mail.Body v6.Mail.Quiet v6.Mail.Helo v6.Mail.At)) v6.Id v6.Ids v6.Origin v6.Number v6.Offset v6.Data)])))] [] ⟨op_build1_fr_take _ _ _ 15 (.agg #[.int .i64 0, .bool false, .string ByteArray.empty, .string ByteArray.empty, .slice none 0 0, .slice none 0 0, .bool false, .string ByteArray.empty, .int .i64 0, .int .i64 0, .slice none 0 0, .int .i64 0, .int .i64 0, .int .i64 0, .slice none 0 0]) false _ _ underlying31 sz46 zr46 rfl (.cons (.v _) (.cons (.v _) (.cons (.v _) (.cons (.v _) (.cons (.ro _ _ rfl) (.cons (.ro _ _ rfl) (.cons (.v _) (.cons (.v _) (.cons (.v _) (.cons (.v _) (.cons (.ro _ _ rfl) (.cons (.v _) (.cons (.v _) (.cons (.v _) (.cons (.ro _ _ rfl) (.nil)))))))))))))))) rfl (by decide) (by decide)⟩ ?_
    refine wK [0] [23,26] ?_
    refine wt [(0, .box 67 [.v (.int .i64 d.Limit), .any, .v (.int .i64 d.Sure), .v (.bool d.IsOff), .v (.int .i64 d.Lives), .v (.int .i64 d.Left), .v (.int .i64 d.Keep), .v (.int .i64 d.Kept)]), (27, .fr (.own 46) false 15 (List.flatten (List.map T_Rec.ienc v7)))] [[19,0],[28,0]] ⟨op_app_fr_cell _ 27 0 1 _ _ el31 rfl rfl (zl rfl) rfl (gflat_len T_Rec.ilen _) (gflat_len T_Rec.ilen _) hv7 (gflat_app (app_eq hv7)) (by decide) (by decide) (by decide) rfl rfl⟩ ?_
    refine wK [23,27,0] [29] ?_
    refine wt [(0, .box 67 [.v (.int .i64 d.Limit), .fr (.own 46) false 15 (List.flatten (List.map T_Rec.ienc v7)), .v (.int .i64 d.Sure), .v (.bool d.IsOff), .v (.int .i64 d.Lives), .v (.int .i64 d.Left), .v (.int .i64 d.Keep), .v (.int .i64 d.Kept)])] [] ⟨LOp.drop [_] (op_store_take _ _ _ _ _ _ _ _ sz31 rfl rfl rfl (zl rfl) rfl rfl)⟩ ?_
    refine wee hn [0,0] ?_
    refine ht_seq ?_
    refine ht_seq ?_
    obtain ⟨v8, hv8, h⟩ := bind_some h
    refine yx hn 1 ?_
    refine yQ call45 (ok_wherryref18_Diary_strikes _ _ hv8) 0 [30] 0 ?_
    refine yee [0,31,0] ?_
    refine ht_cond _ rfl (fun hb9 => ?_) (fun hb9 => ?_)
    ·have h := cond_t hb9 h
     refine ht_seq ?_
     obtain ⟨v10, hv10, h⟩ := bind_some h
     refine yx hn 5 ?_
     refine yQ call22 (ok_wherryref18_Diary_Crash _ _ _ hv10) 0 [32,36] 0 ?_
     refine yee [0,0] ?_
     refine yyy hn 1 [0,4,0] ?_
     refine ht_ret ?_
     refine pt_pick [1, 0, 2] (by kernel_rfl) (es' := [(_,_),(_,_),(_,_)]) rfl ?_
     refine pt_r_then ?_
     obtain rfl := Option.some.inj h
     exact pt_retP (es := [(4, .v (.int .i64 7))]) (posts := [.box 67 [.v (.int .i64 v10.Limit), .fr (.own 46) false 15 (List.flatten (List.map T_Rec.ienc v10.Recs)), .v (.int .i64 v10.Sure), .v (.bool v10.IsOff), .v (.int .i64 v10.Lives), .v (.int .i64 v10.Left), .v (.int .i64 v10.Keep), .v (.int .i64 v10.Kept)]]) hio rfl rfl (.tmp _ _ .nil) rfl rfl hargs0 rfl
    ·have h := cond_f hb9 h
     refine ht_skip ?_
     refine pt_then ?_
     refine yyy hn 1 [0,4,0] ?_
     refine ht_ret ?_
     refine pt_pick [1, 0, 2] (by kernel_rfl) (es' := [(_,_),(_,_),(_,_)]) rfl ?_
     obtain rfl := Option.some.inj h
     exact pt_retP (es := [(4, .v (.int .i64 0))]) (posts := [.box 67 [.v (.int .i64 v8.2.Limit), .fr (.own 46) false 15 (List.flatten (List.map T_Rec.ienc v8.2.Recs)), .v (.int .i64 v8.2.Sure), .v (.bool v8.2.IsOff), .v (.int .i64 v8.2.Lives), .v (.int .i64 v8.2.Left), .v (.int .i64 v8.2.Keep), .v (.int .i64 v8.2.Kept)]]) hio rfl rfl (.tmp _ _ .nil) rfl rfl hargs0 rfl
theorem ok_diary_Diary_settle (d : T_diary_Diary) (r : T_diary_Diary) (h : Sh.diary_Diary_settle d = some r) : FnP Try.prog 46 [.box 64 [.v (.int .i64 d.limit), .fr (.own 46) false 15 (List.flatten (List.map T_Rec.ienc d.recs)), .v (.int .i64 d.used), .v (.int .i64 d.safe), .v (.int .i64 d.kept), .v (.int .i64 d.life), .v (.bool d.off), .v (.int .i64 d.trip), .v (.int .i64 d.tripKeep)]] [.box 64 [.v (.int .i64 r.limit), .fr (.own 46) false 15 (List.flatten (List.map T_Rec.ienc r.recs)), .v (.int .i64 r.used), .v (.int .i64 r.safe), .v (.int .i64 r.kept), .v (.int .i64 r.life), .v (.bool r.off), .v (.int .i64 r.trip), .v (.int .i64 r.tripKeep)]] (.tup []) := by
  unfold Sh.diary_Diary_settle at h
  refine yP 13 func46 fun args0 hargs0 g0 hn hio => ?_
  refine yyy hn 9 [0,0] ?_
  refine yy hn 4 [0,0] ?_
  obtain rfl := Option.some.inj h
  exact pt_endP (es := []) (posts := [.box 64 [.v (.int .i64 d.limit), .fr (.own 46) false 15 (List.flatten (List.map T_Rec.ienc d.recs)), .v (.int .i64 d.used), .v (.int .i64 (d.recs.length : Int)), .v (.int .i64 0), .v (.int .i64 d.life), .v (.bool d.off), .v (.int .i64 d.trip), .v (.int .i64 d.tripKeep)]]) hio rfl rfl .nil rfl rfl hargs0 rfl
theorem ok_diary_Diary_Sync (d : T_diary_Diary) (r : (Int × T_diary_Diary)) (h : Sh.diary_Diary_Sync d = some r) : FnP Try.prog 17 [.box 64 [.v (.int .i64 d.limit), .fr (.own 46) false 15 (List.flatten (List.map T_Rec.ienc d.recs)), .v (.int .i64 d.used), .v (.int .i64 d.safe), .v (.int .i64 d.kept), .v (.int .i64 d.life), .v (.bool d.off), .v (.int .i64 d.trip), .v (.int .i64 d.tripKeep)]] [.box 64 [.v (.int .i64 r.2.limit), .fr (.own 46) false 15 (List.flatten (List.map T_Rec.ienc r.2.recs)), .v (.int .i64 r.2.used), .v (.int .i64 r.2.safe), .v (.int .i64 r.2.kept), .v (.int .i64 r.2.life), .v (.bool r.2.off), .v (.int .i64 r.2.trip), .v (.int .i64 r.2.tripKeep)]] (.v (.int .i64 r.1)) := by
  unfold Sh.diary_Diary_Sync at h
  refine yP 15 func17 fun args0 hargs0 g0 hn hio => ?_
  refine yyy hn 1 [0,0] ?_
  refine ht_seq ?_
  refine yyy hn 4 [0,7,0] ?_
  refine ht_cond _ rfl (fun hb1 => ?_) (fun hb1 => ?_)
  ·have h := cond_t hb1 h
   refine yyy hn 1 [0,2,0] ?_
   refine ht_ret ?_
   refine pt_pick [1, 0, 2] (by kernel_rfl) (es' := [(_,_),(_,_),(_,_)]) rfl ?_
   refine pt_r_then ?_
   obtain rfl := Option.some.inj h
   exact pt_retP (es := [(2, .v (.int .i64 7))]) (posts := [.box 64 [.v (.int .i64 d.limit), .fr (.own 46) false 15 (List.flatten (List.map T_Rec.ienc d.recs)), .v (.int .i64 d.used), .v (.int .i64 d.safe), .v (.int .i64 d.kept), .v (.int .i64 d.life), .v (.bool d.off), .v (.int .i64 d.trip), .v (.int .i64 d.tripKeep)]]) hio rfl rfl (.tmp _ _ .nil) rfl rfl hargs0 rfl
  ·have h := cond_f hb1 h
   refine ht_skip ?_
   refine pt_then (ht_seq ?_)
   refine ht_seq ?_
   obtain ⟨v2, hv2, h⟩ := bind_some h
   refine yx hn 1 ?_
   refine yQ call42 (ok_diary_Diary_step _ _ hv2) 0 [8] 1 ?_
   refine yee [0,3,0] ?_
   refine yyy hn 2 [0,3,11,0] ?_
   refine ht_cond _ rfl (fun hb3 => ?_) (fun hb3 => ?_)
   ·have h := cond_t hb3 h
    refine yyy hn 2 [0,2,0] ?_
    refine ht_ret ?_
    refine pt_pick [1, 0, 2] (by kernel_rfl) (es' := [(_,_),(_,_),(_,_)]) rfl ?_
    refine pt_r_then ?_
    obtain rfl := Option.some.inj h
    exact pt_retP (es := [(2, .v (.int .i64 v2.1))]) (posts := [.box 64 [.v (.int .i64 v2.2.limit), .fr (.own 46) false 15 (List.flatten (List.map T_Rec.ienc v2.2.recs)), .v (.int .i64 v2.2.used), .v (.int .i64 v2.2.safe), .v (.int .i64 v2.2.kept), .v (.int .i64 v2.2.life), .v (.bool v2.2.off), .v (.int .i64 v2.2.trip), .v (.int .i64 v2.2.tripKeep)]]) hio rfl rfl (.tmp _ _ .nil) rfl rfl hargs0 rfl
   ·have h := cond_f hb3 h
    refine ht_skip ?_
    refine pt_then (ht_seq ?_)
    obtain ⟨v4, hv4, h⟩ := bind_some h
    refine yx hn 1 ?_
    refine yQ call46 (ok_diary_Diary_settle _ _ hv4) 0 [13] 0 ?_
    refine yee [0,0] ?_
    refine yyy hn 1 [0,2,0] ?_
    refine ht_ret ?_
    refine pt_pick [1, 0, 2] (by kernel_rfl) (es' := [(_,_),(_,_),(_,_)]) rfl ?_
    obtain rfl := Option.some.inj h
    exact pt_retP (es := [(2, .v (.int .i64 0))]) (posts := [.box 64 [.v (.int .i64 v4.limit), .fr (.own 46) false 15 (List.flatten (List.map T_Rec.ienc v4.recs)), .v (.int .i64 v4.used), .v (.int .i64 v4.safe), .v (.int .i64 v4.kept), .v (.int .i64 v4.life), .v (.bool v4.off), .v (.int .i64 v4.trip), .v (.int .i64 v4.tripKeep)]]) hio rfl rfl (.tmp _ _ .nil) rfl rfl hargs0 rfl
theorem ok_wherryref18_Diary_Sync (d : T_wherryref18_Diary) (r : (Int × T_wherryref18_Diary)) (h : Sh.wherryref18_Diary_Sync d = some r) : FnP Try.prog 18 [.box 67 [.v (.int .i64 d.Limit), .fr (.own 46) false 15 (List.flatten (List.map T_Rec.ienc d.Recs)), .v (.int .i64 d.Sure), .v (.bool d.IsOff), .v (.int .i64 d.Lives), .v (.int .i64 d.Left), .v (.int .i64 d.Keep), .v (.int .i64 d.Kept)]] [.box 67 [.v (.int .i64 r.2.Limit), .fr (.own 46) false 15 (List.flatten (List.map T_Rec.ienc r.2.Recs)), .v (.int .i64 r.2.Sure), .v (.bool r.2.IsOff), .v (.int .i64 r.2.Lives), .v (.int .i64 r.2.Left), .v (.int .i64 r.2.Keep), .v (.int .i64 r.2.Kept)]] (.v (.int .i64 r.1)) := by
  unfold Sh.wherryref18_Diary_Sync at h
  refine yP 26 func18 fun args0 hargs0 g0 hn hio => ?_
  refine yyy hn 1 [0,0] ?_
  refine ht_seq ?_
  refine yyy hn 4 [0,6,0] ?_
  refine ht_cond _ rfl (fun hb1 => ?_) (fun hb1 => ?_)
  ·have h := cond_t hb1 h
   refine yyy hn 1 [0,2,0] ?_
   refine ht_ret ?_
   refine pt_pick [1, 0, 2] (by kernel_rfl) (es' := [(_,_),(_,_),(_,_)]) rfl ?_
   refine pt_r_then ?_
   obtain rfl := Option.some.inj h
   exact pt_retP (es := [(2, .v (.int .i64 7))]) (posts := [.box 67 [.v (.int .i64 d.Limit), .fr (.own 46) false 15 (List.flatten (List.map T_Rec.ienc d.Recs)), .v (.int .i64 d.Sure), .v (.bool d.IsOff), .v (.int .i64 d.Lives), .v (.int .i64 d.Left), .v (.int .i64 d.Keep), .v (.int .i64 d.Kept)]]) hio rfl rfl (.tmp _ _ .nil) rfl rfl hargs0 rfl
  ·have h := cond_f hb1 h
   refine ht_skip ?_
   refine pt_then (ht_seq ?_)
   refine ht_seq ?_
   obtain ⟨v2, hv2, h⟩ := bind_some h
   refine yx hn 1 ?_
   refine yQ call45 (ok_wherryref18_Diary_strikes _ _ hv2) 0 [7] 0 ?_
   refine yee [0,8,0] ?_
   refine ht_cond _ rfl (fun hb3 => ?_) (fun hb3 => ?_)
   ·have h := cond_t hb3 h
    refine ht_seq ?_
    obtain ⟨v4, hv4, h⟩ := bind_some h
    refine yx hn 5 ?_
    refine yQ call22 (ok_wherryref18_Diary_Crash _ _ _ hv4) 0 [9,13] 0 ?_
    refine yee [0,0] ?_
    refine yyy hn 1 [0,2,0] ?_
    refine ht_ret ?_
    refine pt_pick [1, 0, 2] (by kernel_rfl) (es' := [(_,_),(_,_),(_,_)]) rfl ?_
    refine pt_r_then ?_
    obtain rfl := Option.some.inj h
    exact pt_retP (es := [(2, .v (.int .i64 7))]) (posts := [.box 67 [.v (.int .i64 v4.Limit), .fr (.own 46) false 15 (List.flatten (List.map T_Rec.ienc v4.Recs)), .v (.int .i64 v4.Sure), .v (.bool v4.IsOff), .v (.int .i64 v4.Lives), .v (.int .i64 v4.Left), .v (.int .i64 v4.Keep), .v (.int .i64 v4.Kept)]]) hio rfl rfl (.tmp _ _ .nil) rfl rfl hargs0 rfl
   ·have h := cond_f hb3 h
    refine ht_skip ?_
    refine pt_then ?_
    refine yyy hn 13 [0,0] ?_
    refine yyy hn 1 [0,2,0] ?_
    refine ht_ret ?_
    refine pt_pick [1, 0, 2] (by kernel_rfl) (es' := [(_,_),(_,_),(_,_)]) rfl ?_
    obtain rfl := Option.some.inj h
    exact pt_retP (es := [(2, .v (.int .i64 0))]) (posts := [.box 67 [.v (.int .i64 v2.2.Limit), .fr (.own 46) false 15 (List.flatten (List.map T_Rec.ienc v2.2.Recs)), .v (.int .i64 (v2.2.Recs.length : Int)), .v (.bool v2.2.IsOff), .v (.int .i64 v2.2.Lives), .v (.int .i64 v2.2.Left), .v (.int .i64 v2.2.Keep), .v (.int .i64 0)]]) hio rfl rfl (.tmp _ _ .nil) rfl rfl hargs0 rfl
theorem ok_clone_Each_api_Rec_of_clone_Rec (l : (List T_Rec)) (r : (List T_Rec)) (h : Sh.clone_Each_api_Rec_of_clone_Rec l = some r) : FnOK Try.prog 48 [.fr .shr true 15 (List.flatten (List.map T_Rec.ienc l)), .v (.func (.func 41) #[] #[])] (.fr (.own 46) false 15 (List.flatten (List.map T_Rec.ienc r))) := by
  unfold Sh.clone_Each_api_Rec_of_clone_Rec at h
  refine yO 22 func48 fun g0 hn hio => ?_
  refine yyy hn 1 [0,1] ?_
  refine yyy hn 1 [0,1,5] ?_
  refine ht_seq ?_
  refine yyy hn 3 [1,5,8,9,10] ?_
  refine ht_sub (fs := [(1, .v (.func (.func 41) #[] #[])), (5, .fr (.own 46) false 15 (List.flatten (List.map T_Rec.ienc []))), (8, .fr .shr true 15 (List.flatten (List.map T_Rec.ienc l))), (9, .v (.int .i64 (l.length : Int))), (10, .v (.int .i64 0))]) (.same _ (.sub _ (sub_nil_fr 46 false 15) rfl (.same _ (.same _ (.same _ .nil))))) ?_
  refine ht_loopS h (fun ((s10, s11) : (List T_Rec) × Int) => [(1, .v (.func (.func 41) #[] #[])), (5, .fr (.own 46) false 15 (List.flatten (List.map T_Rec.ienc s10))), (8, .fr .shr true 15 (List.flatten (List.map T_Rec.ienc l))), (9, .v (.int .i64 (l.length : Int))), (10, .v (.int .i64 s11))]) (fun (s13 : (List T_Rec)) => [(5, .fr (.own 46) false 15 (List.flatten (List.map T_Rec.ienc s13)))]) ?_ ?_
  ·rintro s13 h
   refine pt_then ?_
   refine yxx hn 0 ?_
   refine ym 0 ?_
   refine ya 0 ?_
   refine yee [4] ?_
   refine ht_ret ?_
   obtain rfl := Option.some.inj h
   exact pt_ret hio rfl (.tmp _ _ .nil) rfl rfl
  ·rintro u14 hl15 hr16 ⟨s10, s11⟩ rr19 h ho17
   refine yyy hn 1 [1,5,8,9,10,11] ?_
   refine ht_seq ?_
   refine ht_cond _ rfl (fun hb20 => ?_) (fun hb20 => ?_)
   ·have h := cond_t hb20 h
    refine ht_skip ?_
    refine pt_then (ht_seq ?_)
    refine ht_block ?_
    refine ht_seq ?_
    obtain ⟨v2, hv2, h⟩ := bind_some h
    obtain ⟨v3, hv3, h⟩ := bind_some h
    refine yx hn 0 ?_
    refine ys 0 ⟨lI hv2⟩ ?_
    refine yS (.agg [.v (.int .i64 v3.Kind), .v (.bool v3.Mail.From.Null), .v (.string v3.Mail.From.Local), .v (.string v3.Mail.From.Domain), .fl .shr 3 (List.flatten (List.map T_Path.enc v3.Mail.To)), .fl .shr 1 (List.map (Value.int .u8) v3.Mail.Body), .v (.bool v3.Mail.Quiet), .v (.string v3.Mail.Helo), .v (.int .i64 v3.Mail.At), .v (.int .i64 v3.Id), .fl .shr 1 (List.map (Value.int .i64) v3.Ids), .v (.int .i64 v3.Origin), .v (.int .i64 v3.Number), .v (.int .i64 v3.Offset), .fl .shr 1 (List.map (Value.int .u8) v3.Data)]) 0 ⟨op_loadA_fr _ _ _ _ _ _ _ _ underlying46 rfl sz46 rfl rfl (gflat_get T_Rec.ilen hv3) (.cons (.v _) (.cons (.v _) (.cons (.v _) (.cons (.v _) (.cons (.fl _ _ rfl) (.cons (.fl _ _ rfl) (.cons (.v _) (.cons (.v _) (.cons (.v _) (.cons (.v _) (.cons (.fl _ _ rfl) (.cons (.v _) (.cons (.v _) (.cons (.v _) (.cons (.fl _ _ rfl) (.nil)))))))))))))))) rfl (by decide)⟩ ?_
    refine yS (.box 46 [.v (.int .i64 0), .v (.bool false), .v (.string (⟨#[]⟩ : ByteArray)), .v (.string (⟨#[]⟩ : ByteArray)), .v (.slice none 0 0), .v (.slice none 0 0), .v (.bool false), .v (.string (⟨#[]⟩ : ByteArray)), .v (.int .i64 0), .v (.int .i64 0), .v (.slice none 0 0), .v (.int .i64 0), .v (.int .i64 0), .v (.int .i64 0), .v (.slice none 0 0)]) 1 ⟨oA (op_alloc _ _ zr46)⟩ ?_
    refine yee [1,5,8,9,10,7] ?_
    obtain ⟨v4, hv4, h⟩ := bind_some h
    obtain ⟨v5, hv5, h⟩ := bind_some h
    refine yx hn 0 ?_
    refine ym 2 ?_
    refine ys 0 ⟨lk call41 (ok_clone_Rec _ _ hv4)⟩ ?_
    refine yk [17] [] ?_
    refine yt (18, .fr (.own 46) false 15 (List.flatten (List.map T_Rec.ienc [(T_Rec.mk v4.Kind ((T_Mail.mk (T_Path.mk v4.Mail.From.Null v4.Mail.From.Local v4.Mail.From.Domain) v4.Mail.To v4.Mail.Body v4.Mail.Quiet v4.Mail.Helo v4.Mail.At)) v4.Id v4.Ids v4.Origin v4.Number v4.Offset v4.Data)]))) 0 ⟨op_build1_fr_take _ _ _ 15 (.agg #[.int .i64 0, .bool false, .string ByteArray.empty, .string ByteArray.empty, .slice none 0 0, .slice none 0 0, .bool false, .string ByteArray.empty, .int .i64 0, .int .i64 0, .slice none 0 0, .int .i64 0, .int .i64 0, .int .i64 0, .slice none 0 0]) false _ _ underlying31 sz46 zr46 rfl (.cons (.v _) (.cons (.v _) (.cons (.v _) (.cons (.v _) (.cons (.ro _ _ rfl) (.cons (.ro _ _ rfl) (.cons (.v _) (.cons (.v _) (.cons (.v _) (.cons (.v _) (.cons (.ro _ _ rfl) (.cons (.v _) (.cons (.v _) (.cons (.v _) (.cons (.ro _ _ rfl) (.nil)))))))))))))))) rfl (by decide) (by decide)⟩ ?_
    refine yk [14] [18] ?_
    refine ytt (14, .any) (19, .fr (.own 46) false 15 (List.flatten (List.map T_Rec.ienc v5))) 0 ⟨op_app_fr _ _ _ _ _ el31 rfl rfl (gflat_len T_Rec.ilen _) (gflat_len T_Rec.ilen _) hv5 (gflat_app (app_eq hv5)) (by decide) (by decide)⟩ ?_
    refine ya 0 ?_
    refine ye [1,8,9,10,5] ?_
    refine pt_inb ?_
    refine pt_then ?_
    obtain ⟨v6, hv6, h⟩ := bind_some h
    refine yx hn 0 ?_
    refine ys 0 ⟨lb hv6⟩ ?_
    refine yw [10] 1 ?_
    refine ye [1,8,9,5,10] ?_
    refine pt_pick [0, 3, 1, 2, 4] (by kernel_rfl) (es' := [(_,_),(_,_),(_,_),(_,_),(_,_)]) rfl ?_
    exact pt_next _ (Option.some.inj h).symm rfl
   ·have h := cond_f hb20 h
    refine ht_exit ?_
    refine pt_x_then ?_
    refine pt_x_then ?_
    refine pt_x_in ?_
    refine pt_pick [1] (by kernel_rfl) (es' := [(_,_)]) rfl ?_
    exact hl15 _ (ho17 _ (Option.some.inj h).symm).symm
theorem ok_diary_Diary_Renew (d : T_diary_Diary) (l : (List T_Rec)) (r : (Int × T_diary_Diary)) (h : Sh.diary_Diary_Renew d l = some r) : FnP Try.prog 19 [.box 64 [.v (.int .i64 d.limit), .fr (.own 46) false 15 (List.flatten (List.map T_Rec.ienc d.recs)), .v (.int .i64 d.used), .v (.int .i64 d.safe), .v (.int .i64 d.kept), .v (.int .i64 d.life), .v (.bool d.off), .v (.int .i64 d.trip), .v (.int .i64 d.tripKeep)], .fr .shr true 15 (List.flatten (List.map T_Rec.ienc l))] [.box 64 [.v (.int .i64 r.2.limit), .fr (.own 46) false 15 (List.flatten (List.map T_Rec.ienc r.2.recs)), .v (.int .i64 r.2.used), .v (.int .i64 r.2.safe), .v (.int .i64 r.2.kept), .v (.int .i64 r.2.life), .v (.bool r.2.off), .v (.int .i64 r.2.trip), .v (.int .i64 r.2.tripKeep)]] (.v (.int .i64 r.1)) := by
  unfold Sh.diary_Diary_Renew at h
  refine yP 35 func19 fun args0 hargs0 g0 hn hio => ?_
  refine yyy hn 1 [0,1,0] ?_
  refine ht_seq ?_
  refine yyy hn 4 [0,1,10,0] ?_
  refine ht_cond _ rfl (fun hb1 => ?_) (fun hb1 => ?_)
  ·have h := cond_t hb1 h
   refine yyy hn 1 [0,4,0] ?_
   refine ht_ret ?_
   refine pt_pick [1, 0, 2] (by kernel_rfl) (es' := [(_,_),(_,_),(_,_)]) rfl ?_
   refine pt_r_then ?_
   obtain rfl := Option.some.inj h
   exact pt_retP (es := [(4, .v (.int .i64 7))]) (posts := [.box 64 [.v (.int .i64 d.limit), .fr (.own 46) false 15 (List.flatten (List.map T_Rec.ienc d.recs)), .v (.int .i64 d.used), .v (.int .i64 d.safe), .v (.int .i64 d.kept), .v (.int .i64 d.life), .v (.bool d.off), .v (.int .i64 d.trip), .v (.int .i64 d.tripKeep)]]) hio rfl rfl (.tmp _ _ .nil) rfl rfl hargs0 rfl
  ·have h := cond_f hb1 h
   refine ht_skip ?_
   refine pt_then (ht_seq ?_)
   obtain ⟨v2, hv2, h⟩ := bind_some h
   refine yx hn 1 ?_
   refine ys 1 ⟨lk call47 (ok_diary_size _ _ hv2)⟩ ?_
   refine yee [0,1,5,0] ?_
   refine ht_seq ?_
   refine yyy hn 6 [0,1,5,18,0] ?_
   refine ht_cond _ rfl (fun hb3 => ?_) (fun hb3 => ?_)
   ·have h := cond_t hb3 h
    refine yyy hn 1 [0,4,0] ?_
    refine ht_ret ?_
    refine pt_pick [1, 0, 2] (by kernel_rfl) (es' := [(_,_),(_,_),(_,_)]) rfl ?_
    refine pt_r_then ?_
    obtain rfl := Option.some.inj h
    exact pt_retP (es := [(4, .v (.int .i64 8))]) (posts := [.box 64 [.v (.int .i64 d.limit), .fr (.own 46) false 15 (List.flatten (List.map T_Rec.ienc d.recs)), .v (.int .i64 d.used), .v (.int .i64 d.safe), .v (.int .i64 d.kept), .v (.int .i64 d.life), .v (.bool d.off), .v (.int .i64 d.trip), .v (.int .i64 d.tripKeep)]]) hio rfl rfl (.tmp _ _ .nil) rfl rfl hargs0 rfl
   ·have h := cond_f hb3 h
    refine ht_skip ?_
    refine pt_then (ht_seq ?_)
    refine ht_seq ?_
    obtain ⟨v4, hv4, h⟩ := bind_some h
    refine yx hn 1 ?_
    refine yQ call42 (ok_diary_Diary_step _ _ hv4) 0 [19] 1 ?_
    refine yee [0,1,5,6,0] ?_
    refine yyy hn 2 [0,1,5,6,22,0] ?_
    refine ht_cond _ rfl (fun hb5 => ?_) (fun hb5 => ?_)
    ·have h := cond_t hb5 h
     refine yyy hn 2 [0,4,0] ?_
     refine ht_ret ?_
     refine pt_pick [1, 0, 2] (by kernel_rfl) (es' := [(_,_),(_,_),(_,_)]) rfl ?_
     refine pt_r_then ?_
     obtain rfl := Option.some.inj h
     exact pt_retP (es := [(4, .v (.int .i64 v4.1))]) (posts := [.box 64 [.v (.int .i64 v4.2.limit), .fr (.own 46) false 15 (List.flatten (List.map T_Rec.ienc v4.2.recs)), .v (.int .i64 v4.2.used), .v (.int .i64 v4.2.safe), .v (.int .i64 v4.2.kept), .v (.int .i64 v4.2.life), .v (.bool v4.2.off), .v (.int .i64 v4.2.trip), .v (.int .i64 v4.2.tripKeep)]]) hio rfl rfl (.tmp _ _ .nil) rfl rfl hargs0 rfl
    ·have h := cond_f hb5 h
     refine ht_skip ?_
     refine pt_then (ht_seq ?_)
     obtain ⟨v6, hv6, h⟩ := bind_some h
     refine yx hn 2 ?_
     refine ys 2 ⟨lk call48 (ok_clone_Each_api_Rec_of_clone_Rec _ _ hv6)⟩ ?_
     refine yk [26,0] [28] ?_
     refine yt (0, .box 64 [.v (.int .i64 v4.2.limit), .fr (.own 46) false 15 (List.flatten (List.map T_Rec.ienc v6)), .v (.int .i64 v4.2.used), .v (.int .i64 v4.2.safe), .v (.int .i64 v4.2.kept), .v (.int .i64 v4.2.life), .v (.bool v4.2.off), .v (.int .i64 v4.2.trip), .v (.int .i64 v4.2.tripKeep)]) 0 ⟨op_store_take _ _ _ _ _ _ _ _ sz31 rfl rfl rfl (zl rfl) rfl rfl⟩ ?_
     refine yee [0,5,0] ?_
     refine yyy hn 5 [0,0] ?_
     refine ht_seq ?_
     obtain ⟨v7, hv7, h⟩ := bind_some h
     refine yx hn 1 ?_
     refine yQ call46 (ok_diary_Diary_settle _ _ hv7) 0 [33] 0 ?_
     refine yee [0,0] ?_
     refine yyy hn 1 [0,4,0] ?_
     refine ht_ret ?_
     refine pt_pick [1, 0, 2] (by kernel_rfl) (es' := [(_,_),(_,_),(_,_)]) rfl ?_
     obtain rfl := Option.some.inj h
     exact pt_retP (es := [(4, .v (.int .i64 0))]) (posts := [.box 64 [.v (.int .i64 v7.limit), .fr (.own 46) false 15 (List.flatten (List.map T_Rec.ienc v7.recs)), .v (.int .i64 v7.used), .v (.int .i64 v7.safe), .v (.int .i64 v7.kept), .v (.int .i64 v7.life), .v (.bool v7.off), .v (.int .i64 v7.trip), .v (.int .i64 v7.tripKeep)]]) hio rfl rfl (.tmp _ _ .nil) rfl rfl hargs0 rfl
end Go.Proofs.Ytbioodcjmceefaa
