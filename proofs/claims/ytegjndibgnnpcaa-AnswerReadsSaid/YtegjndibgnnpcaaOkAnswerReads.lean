/-
  The model's runs are what is told in Lean.
-/
import Derived.Test.YtegjndibgnnpcaaProg
import Derived.KernelRfl
import Derived.Test.YtegjndibgnnpcaaShelf
import Derived.Test.YtegjndibgnnpcaaOkc2
set_option linter.unusedVariables false
set_option linter.unusedSimpArgs false
namespace Go.Proofs.Ytegjndibgnnpcaa
open Go.Abs Go.Abs.Sh

set_option maxHeartbeats 1000000 in
theorem ok_wherrylaw13_AnswerReads (mx : Int) (b : (List Int)) (r : Bool) (h : Sh.wherrylaw13_AnswerReads b = some r) : FnG Try.prog (GL mx) 5 [.fl .shr 1 (List.map (Value.int .u8) b)] (.v (.bool r)) := by
  unfold Sh.wherrylaw13_AnswerReads at h
  refine fn_okG Try.func5 rfl (Nat.le_of_ble_eq_true rfl) rfl rfl fun g0 hn hio => ?_
  refine ht_seq ?_
  refine ht_seqR hn (El := [_, _, (2, .v (.bool false))]) (init := [0, 1]) (fin := [0, 1]) (sps := [⟨[], [], [2], [(.slot 2)]⟩]) (es' := [(_, _), (_, _)]) (by kernel_rfl) rfl rfl
   ⟨st_plain rfl (op_assign _ _ _ _ rfl rfl),
   trivial⟩ ?_
  refine pt_then ?_
  refine ht_seq ?_
  refine ht_seq ?_
  refine ht_seqR hn (El := [_, _, (8, .fl .shr 1 (List.map (Value.int .u8) b)), (9, .v (.int .i64 (b.length : Int))), (10, .v (.bool ((decide (3000 < (b.length : Int))))))]) (init := [0, 1]) (fin := [0, 1, 4]) (sps := [⟨[0], [], [2], [(.slot 8)]⟩, ⟨[2], [], [3], [(.slot 9)]⟩, ⟨[3], [], [4], [(.slot 10)]⟩]) (es' := [(_, _), (_, _), (10, .v (.bool ((decide (3000 < (b.length : Int))))))]) (by kernel_rfl) rfl rfl
   ⟨st_plain rfl (op_move _ _ _ _ rfl rfl),
   st_plain rfl (op_len_fl _ _ _ Try.underlying25 rfl (by decide) (map_len _)),
   st_plain rfl (op_bin _ _ _ _ _ rfl rfl rfl),
   trivial⟩ ?_
  refine pt_then ?_
  refine ht_cond _ rfl (fun hb1 => ?_) (fun hb1 => ?_)
  ·have h := cond_t hb1 h
   refine ht_seq ?_
   refine ht_seqR hn (El := [_, _, _, (2, .v (.bool true))]) (init := [0, 1, 2]) (fin := [1, 3]) (sps := [⟨[], [], [3], [(.slot 2)]⟩]) (es' := [(_, _), (2, .v (.bool true))]) (by kernel_rfl) rfl rfl
    ⟨st_plain rfl (op_assign _ _ _ _ rfl rfl),
    trivial⟩ ?_
   refine pt_then ?_
   refine ht_ret ?_
   refine pt_pick [1] (by kernel_rfl) (es' := [(_, _)]) rfl ?_
   refine pt_r_then ?_
   obtain rfl := Option.some.inj h
   exact pt_ret hio rfl (.tmp _ _ .nil) rfl rfl
  ·have h := cond_f hb1 h
   refine ht_skip ?_
   refine pt_then ?_
   refine ht_seq ?_
   obtain ⟨v2, hv2, h⟩ := bind_some h
   refine ht_seqR hn (El := [_, _, _, (12, .fl .shr 1 (List.map (Value.int .u8) b)), (13, .tup [.agg [.v (.int .i64 v2.1.Code), .fl (.own 9) 1 (List.map Value.string v2.1.Lines)], .v (.int .i64 v2.2.1), .v (.int .i64 v2.2.2)]), (11, .tup [.agg [.v (.int .i64 v2.1.Code), .fl (.own 9) 1 (List.map Value.string v2.1.Lines)], .v (.int .i64 v2.2.1), .v (.int .i64 v2.2.2)]), (14, .agg [.v (.int .i64 v2.1.Code), .fl (.own 9) 1 (List.map Value.string v2.1.Lines)]), (11, .tup [.any, .v (.int .i64 v2.2.1), .v (.int .i64 v2.2.2)]), (15, .v (.int .i64 v2.2.1)), (16, .v (.int .i64 v2.2.2)), (3, .box 24 [.v (.int .i64 0), .v (.slice none 0 0)]), (3, .box 24 [.v (.int .i64 v2.1.Code), .fl (.own 9) 1 (List.map Value.string v2.1.Lines)]), (4, .v (.int .i64 v2.2.1)), (5, .v (.int .i64 v2.2.2))]) (init := [0, 1, 2]) (fin := [0, 1, 11, 12, 13]) (sps := [⟨[0], [], [3], [(.slot 12)]⟩, ⟨[3, 1], [], [4], [(.slot 13)]⟩, ⟨[], [4], [5], [(.slot 11)]⟩, ⟨[], [5], [7, 6], [(.slot 14)]⟩, ⟨[7], [], [8], [(.slot 15)]⟩, ⟨[7], [], [9], [(.slot 16)]⟩, ⟨[], [], [10], [(.slot 3)]⟩, ⟨[], [6, 10], [11], [.cell 3 0, .cell 3 1]⟩, ⟨[8], [], [12], [(.slot 4)]⟩, ⟨[9], [], [13], [(.slot 5)]⟩]) (es' := [(_, _), (_, _), (3, .box 24 [.v (.int .i64 v2.1.Code), .fl (.own 9) 1 (List.map Value.string v2.1.Lines)]), (4, .v (.int .i64 v2.2.1)), (5, .v (.int .i64 v2.2.2))]) (by kernel_rfl) rfl rfl
    ⟨st_plain rfl (op_move _ _ _ _ rfl rfl),
    st_plain rfl (op_callG _ _ 60 11 _ _ rfl Try.call11 rfl rfl (fun _ h => h) (ok_answer_Read mx b _ hv2) rfl rfl),
    st_plain rfl (op_move_take _ _ _ _ rfl),
    st_plain rfl (op_extract_take _ _ _ _ _ rfl (Nat.le_of_ble_eq_true rfl) rfl rfl (by decide) rfl),
    st_plain rfl (op_extract _ _ _ _ _ rfl rfl (Nat.le_of_ble_eq_true rfl) rfl rfl),
    st_plain rfl (op_extract _ _ _ _ _ rfl rfl (Nat.le_of_ble_eq_true rfl) rfl rfl),
    st_plain rfl (op_alloc _ _ zr24),
    st_plain rfl (op_store_take _ _ _ _ _ _ _ _ sz24 rfl rfl rfl (Nat.le_of_ble_eq_true rfl) rfl rfl),
    st_plain rfl (op_assign _ _ _ _ rfl rfl),
    st_plain rfl (op_assign _ _ _ _ rfl rfl),
    trivial⟩ ?_
   refine pt_then ?_
   refine ht_seq ?_
   refine ht_seq ?_
   refine ht_seqR hn (El := [_, _, _, _, _, (17, .v (.int .i64 v2.2.2)), (18, .v (.bool (v2.2.2 != 0)))]) (init := [0, 1, 2, 3, 4]) (fin := [0, 1, 2, 3, 4, 6]) (sps := [⟨[4], [], [5], [(.slot 17)]⟩, ⟨[5], [], [6], [(.slot 18)]⟩]) (es' := [(_, _), (_, _), (_, _), (_, _), (_, _), (18, .v (.bool (v2.2.2 != 0)))]) (by kernel_rfl) rfl rfl
    ⟨st_plain rfl (op_move _ _ _ _ rfl rfl),
    st_plain rfl (op_bin _ _ _ _ _ rfl rfl rfl),
    trivial⟩ ?_
   refine pt_then ?_
   refine ht_cond _ rfl (fun hb3 => ?_) (fun hb3 => ?_)
   ·have h := cond_t hb3 h
    refine ht_seq ?_
    refine ht_joinS h (fun (s6 : Bool) => [(60, .glob (GL mx)), (2, .v (.bool s6))]) ?_ ?_
    ·rintro s6 h
     refine pt_then ?_
     refine ht_ret ?_
     refine pt_pick [1] (by kernel_rfl) (es' := [(_, _)]) rfl ?_
     refine pt_r_then ?_
     obtain rfl := Option.some.inj h
     exact pt_ret hio rfl (.tmp _ _ .nil) rfl rfl
    ·intro u7 h hl8 hr9
     refine cond_some h (fun hg5_2 h => ?_) (fun hg5_2 h => ?_)
     ·refine cond_some h (fun hg5_6 h => ?_) (fun hg5_6 h => ?_)
      ·obtain ⟨v4, hv4, h⟩ := bind_some h
       refine cond_some h (fun hg5_11 h => ?_) (fun hg5_11 h => ?_)
       ·obtain ⟨v5, hv5, h⟩ := bind_some h
        refine ht_seqR hn (El := (_ :: _ :: _ :: _ :: _ :: _ :: (19, .v (.int .i64 v2.2.2)) :: (20, .v (.bool (v2.2.2 == 3))) :: (21, .v (.bool true)) :: (22, .v (.int .i64 v2.2.1)) :: (23, .v (.bool (v2.2.1 == 0))) :: (24, .v (.bool (v2.2.1 == 0))) :: (25, .v (.bool true)) :: (26, .agg [.v (.int .i64 v2.1.Code), .fl (.own 9) 1 (List.map Value.string v2.1.Lines)]) :: (27, .agg [.v (.int .i64 0), .v (.slice none 0 0)]) :: (28, .v (.bool v4)) :: (29, .v (.bool v4)) :: (30, .v (.bool true)) :: (31, .v (.bool v5)) :: (32, .v (.bool v5)) :: (2, .v (.bool v5)) :: [])) (init := [0, 1, 2, 3, 4, 5]) (fin := [1, 20]) (sps := (⟨[4], [], [6], [(.slot 19)]⟩ :: ⟨[6], [], [7], [(.slot 20)]⟩ :: ⟨[7], [], [8], [(.slot 21)]⟩ :: ⟨[8, 3], [], [9], [(.slot 22)]⟩ :: ⟨[8, 9], [], [10], [(.slot 23)]⟩ :: ⟨[8, 10], [], [11], [(.slot 24)]⟩ :: ⟨[11], [], [12], [(.slot 25)]⟩ :: ⟨[12], [2], [13], [(.slot 26)]⟩ :: ⟨[12], [], [14], [(.slot 27)]⟩ :: ⟨[12, 13, 14], [], [15], [(.slot 28)]⟩ :: ⟨[12, 15], [], [16], [(.slot 29)]⟩ :: ⟨[16], [], [17], [(.slot 30)]⟩ :: ⟨[17, 1], [], [18], [(.slot 31)]⟩ :: ⟨[17, 18], [], [19], [(.slot 32)]⟩ :: ⟨[19], [], [20], [(.slot 2)]⟩ :: [])) (es' := [(_, _), (2, .v (.bool v5))]) (by kernel_rfl) rfl rfl
         ⟨st_plain rfl (op_move _ _ _ _ rfl rfl),
         st_plain rfl (op_bin _ _ _ _ _ rfl rfl rfl),
         st_plain rfl (op_move _ _ _ _ (congrArg (fun b => AV.v (Value.bool b)) hg5_2) rfl),
         st_run 2 21 true rfl rfl rfl (List.Mem.head _) (op_move _ _ _ _ rfl rfl),
         st_run 2 21 true rfl rfl rfl (List.Mem.head _) (op_bin _ _ _ _ _ rfl rfl rfl),
         st_plain rfl (op_pick _ _ true _ rfl rfl),
         st_plain rfl (op_move _ _ _ _ (congrArg (fun b => AV.v (Value.bool b)) hg5_6) rfl),
         st_run 6 25 true rfl rfl rfl (List.Mem.head _) (op_loadA_take _ _ _ _ Try.underlying24 rfl sz24 rfl rfl),
         st_run 6 25 true rfl rfl rfl (List.Mem.head _) (op_build _ _ _ _ [1, 1] _ _ Try.underlying24 zr24 (fs24 _ Try.underlying24) Src.nil rfl rfl rfl),
         st_run 6 25 true rfl rfl rfl (List.Mem.head _) (op_call _ _ 17 _ _ rfl Try.call17 rfl ((ok_wherrykeep_Reply v2.1 (T_Reply.mk 0 []) _ hv4).args (subs_cons (sub_refl _) (subs_cons (sub_agg (subs_cons (sub_refl _) (subs_cons (sub_nil_shr 1) (subs_nil)))) (subs_nil)))) rfl rfl),
         st_plain rfl (op_pick _ _ true _ rfl rfl),
         st_plain rfl (op_move _ _ _ _ (congrArg (fun b => AV.v (Value.bool b)) hg5_11) rfl),
         st_run 11 30 true rfl rfl rfl (List.Mem.head _) (op_callG _ _ 60 19 _ _ rfl Try.call19 rfl rfl (fun _ h => h) (ok_wherrylaw13_wakes mx  _ hv5) rfl rfl),
         st_plain rfl (op_pick _ _ true _ rfl rfl),
         st_plain rfl (op_assign _ _ _ _ rfl rfl),
         trivial⟩ ?_
        exact hl8 _ (Option.some.inj h).symm
       ·refine ht_seqR hn (El := (_ :: _ :: _ :: _ :: _ :: _ :: (19, .v (.int .i64 v2.2.2)) :: (20, .v (.bool (v2.2.2 == 3))) :: (21, .v (.bool true)) :: (22, .v (.int .i64 v2.2.1)) :: (23, .v (.bool (v2.2.1 == 0))) :: (24, .v (.bool (v2.2.1 == 0))) :: (25, .v (.bool true)) :: (26, .agg [.v (.int .i64 v2.1.Code), .fl (.own 9) 1 (List.map Value.string v2.1.Lines)]) :: (27, .agg [.v (.int .i64 0), .v (.slice none 0 0)]) :: (28, .v (.bool v4)) :: (29, .v (.bool v4)) :: (30, .v (.bool false)) :: (31, .v undef) :: (32, .v (.bool false)) :: (2, .v (.bool false)) :: [])) (init := [0, 1, 2, 3, 4, 5]) (fin := [1, 20]) (sps := (⟨[4], [], [6], [(.slot 19)]⟩ :: ⟨[6], [], [7], [(.slot 20)]⟩ :: ⟨[7], [], [8], [(.slot 21)]⟩ :: ⟨[8, 3], [], [9], [(.slot 22)]⟩ :: ⟨[8, 9], [], [10], [(.slot 23)]⟩ :: ⟨[8, 10], [], [11], [(.slot 24)]⟩ :: ⟨[11], [], [12], [(.slot 25)]⟩ :: ⟨[12], [2], [13], [(.slot 26)]⟩ :: ⟨[12], [], [14], [(.slot 27)]⟩ :: ⟨[12, 13, 14], [], [15], [(.slot 28)]⟩ :: ⟨[12, 15], [], [16], [(.slot 29)]⟩ :: ⟨[16], [], [17], [(.slot 30)]⟩ :: ⟨[17], [], [18], [(.slot 31)]⟩ :: ⟨[17], [], [19], [(.slot 32)]⟩ :: ⟨[19], [], [20], [(.slot 2)]⟩ :: [])) (es' := [(_, _), (2, .v (.bool false))]) (by kernel_rfl) rfl rfl
         ⟨st_plain rfl (op_move _ _ _ _ rfl rfl),
         st_plain rfl (op_bin _ _ _ _ _ rfl rfl rfl),
         st_plain rfl (op_move _ _ _ _ (congrArg (fun b => AV.v (Value.bool b)) hg5_2) rfl),
         st_run 2 21 true rfl rfl rfl (List.Mem.head _) (op_move _ _ _ _ rfl rfl),
         st_run 2 21 true rfl rfl rfl (List.Mem.head _) (op_bin _ _ _ _ _ rfl rfl rfl),
         st_plain rfl (op_pick _ _ true _ rfl rfl),
         st_plain rfl (op_move _ _ _ _ (congrArg (fun b => AV.v (Value.bool b)) hg5_6) rfl),
         st_run 6 25 true rfl rfl rfl (List.Mem.head _) (op_loadA_take _ _ _ _ Try.underlying24 rfl sz24 rfl rfl),
         st_run 6 25 true rfl rfl rfl (List.Mem.head _) (op_build _ _ _ _ [1, 1] _ _ Try.underlying24 zr24 (fs24 _ Try.underlying24) Src.nil rfl rfl rfl),
         st_run 6 25 true rfl rfl rfl (List.Mem.head _) (op_call _ _ 17 _ _ rfl Try.call17 rfl ((ok_wherrykeep_Reply v2.1 (T_Reply.mk 0 []) _ hv4).args (subs_cons (sub_refl _) (subs_cons (sub_agg (subs_cons (sub_refl _) (subs_cons (sub_nil_shr 1) (subs_nil)))) (subs_nil)))) rfl rfl),
         st_plain rfl (op_pick _ _ true _ rfl rfl),
         st_plain rfl (op_move _ _ _ _ (congrArg (fun b => AV.v (Value.bool b)) hg5_11) rfl),
         st_skip 11 30 _ true rfl rfl rfl rfl (List.Mem.head _),
         st_plain rfl (op_pick _ _ false _ rfl rfl),
         st_plain rfl (op_assign _ _ _ _ rfl rfl),
         trivial⟩ ?_
        exact hl8 _ (Option.some.inj h).symm
      ·refine ht_seqR hn (El := (_ :: _ :: _ :: _ :: _ :: _ :: (19, .v (.int .i64 v2.2.2)) :: (20, .v (.bool (v2.2.2 == 3))) :: (21, .v (.bool true)) :: (22, .v (.int .i64 v2.2.1)) :: (23, .v (.bool (v2.2.1 == 0))) :: (24, .v (.bool (v2.2.1 == 0))) :: (25, .v (.bool false)) :: (26, .v undef) :: (27, .v undef) :: (28, .v undef) :: (29, .v (.bool false)) :: (30, .v (.bool false)) :: (31, .v undef) :: (32, .v (.bool false)) :: (2, .v (.bool false)) :: [])) (init := [0, 1, 2, 3, 4, 5]) (fin := [1, 20]) (sps := (⟨[4], [], [6], [(.slot 19)]⟩ :: ⟨[6], [], [7], [(.slot 20)]⟩ :: ⟨[7], [], [8], [(.slot 21)]⟩ :: ⟨[8, 3], [], [9], [(.slot 22)]⟩ :: ⟨[8, 9], [], [10], [(.slot 23)]⟩ :: ⟨[8, 10], [], [11], [(.slot 24)]⟩ :: ⟨[11], [], [12], [(.slot 25)]⟩ :: ⟨[12], [], [13], [(.slot 26)]⟩ :: ⟨[12], [], [14], [(.slot 27)]⟩ :: ⟨[12], [], [15], [(.slot 28)]⟩ :: ⟨[12], [], [16], [(.slot 29)]⟩ :: ⟨[16], [], [17], [(.slot 30)]⟩ :: ⟨[17], [], [18], [(.slot 31)]⟩ :: ⟨[17], [], [19], [(.slot 32)]⟩ :: ⟨[19], [], [20], [(.slot 2)]⟩ :: [])) (es' := [(_, _), (2, .v (.bool false))]) (by kernel_rfl) rfl rfl
        ⟨st_plain rfl (op_move _ _ _ _ rfl rfl),
        st_plain rfl (op_bin _ _ _ _ _ rfl rfl rfl),
        st_plain rfl (op_move _ _ _ _ (congrArg (fun b => AV.v (Value.bool b)) hg5_2) rfl),
        st_run 2 21 true rfl rfl rfl (List.Mem.head _) (op_move _ _ _ _ rfl rfl),
        st_run 2 21 true rfl rfl rfl (List.Mem.head _) (op_bin _ _ _ _ _ rfl rfl rfl),
        st_plain rfl (op_pick _ _ true _ rfl rfl),
        st_plain rfl (op_move _ _ _ _ (congrArg (fun b => AV.v (Value.bool b)) hg5_6) rfl),
        st_skip 6 25 _ true rfl rfl rfl rfl (List.Mem.head _),
        st_skip 6 25 _ true rfl rfl rfl rfl (List.Mem.head _),
        st_skip 6 25 _ true rfl rfl rfl rfl (List.Mem.head _),
        st_plain rfl (op_pick _ _ false _ rfl rfl),
        st_plain rfl (op_move _ _ _ _ rfl rfl),
        st_skip 11 30 _ true rfl rfl rfl rfl (List.Mem.head _),
        st_plain rfl (op_pick _ _ false _ rfl rfl),
        st_plain rfl (op_assign _ _ _ _ rfl rfl),
        trivial⟩ ?_
       exact hl8 _ (Option.some.inj h).symm
     ·refine ht_seqR hn (El := (_ :: _ :: _ :: _ :: _ :: _ :: (19, .v (.int .i64 v2.2.2)) :: (20, .v (.bool (v2.2.2 == 3))) :: (21, .v (.bool false)) :: (22, .v undef) :: (23, .v undef) :: (24, .v (.bool false)) :: (25, .v (.bool false)) :: (26, .v undef) :: (27, .v undef) :: (28, .v undef) :: (29, .v (.bool false)) :: (30, .v (.bool false)) :: (31, .v undef) :: (32, .v (.bool false)) :: (2, .v (.bool false)) :: [])) (init := [0, 1, 2, 3, 4, 5]) (fin := [1, 20]) (sps := (⟨[4], [], [6], [(.slot 19)]⟩ :: ⟨[6], [], [7], [(.slot 20)]⟩ :: ⟨[7], [], [8], [(.slot 21)]⟩ :: ⟨[8], [], [9], [(.slot 22)]⟩ :: ⟨[8], [], [10], [(.slot 23)]⟩ :: ⟨[8], [], [11], [(.slot 24)]⟩ :: ⟨[11], [], [12], [(.slot 25)]⟩ :: ⟨[12], [], [13], [(.slot 26)]⟩ :: ⟨[12], [], [14], [(.slot 27)]⟩ :: ⟨[12], [], [15], [(.slot 28)]⟩ :: ⟨[12], [], [16], [(.slot 29)]⟩ :: ⟨[16], [], [17], [(.slot 30)]⟩ :: ⟨[17], [], [18], [(.slot 31)]⟩ :: ⟨[17], [], [19], [(.slot 32)]⟩ :: ⟨[19], [], [20], [(.slot 2)]⟩ :: [])) (es' := [(_, _), (2, .v (.bool false))]) (by kernel_rfl) rfl rfl
       ⟨st_plain rfl (op_move _ _ _ _ rfl rfl),
       st_plain rfl (op_bin _ _ _ _ _ rfl rfl rfl),
       st_plain rfl (op_move _ _ _ _ (congrArg (fun b => AV.v (Value.bool b)) hg5_2) rfl),
       st_skip 2 21 _ true rfl rfl rfl rfl (List.Mem.head _),
       st_skip 2 21 _ true rfl rfl rfl rfl (List.Mem.head _),
       st_plain rfl (op_pick _ _ false _ rfl rfl),
       st_plain rfl (op_move _ _ _ _ rfl rfl),
       st_skip 6 25 _ true rfl rfl rfl rfl (List.Mem.head _),
       st_skip 6 25 _ true rfl rfl rfl rfl (List.Mem.head _),
       st_skip 6 25 _ true rfl rfl rfl rfl (List.Mem.head _),
       st_plain rfl (op_pick _ _ false _ rfl rfl),
       st_plain rfl (op_move _ _ _ _ rfl rfl),
       st_skip 11 30 _ true rfl rfl rfl rfl (List.Mem.head _),
       st_plain rfl (op_pick _ _ false _ rfl rfl),
       st_plain rfl (op_assign _ _ _ _ rfl rfl),
       trivial⟩ ?_
      exact hl8 _ (Option.some.inj h).symm
   ·have h := cond_f hb3 h
    refine ht_skip ?_
    refine pt_then ?_
    refine ht_seq ?_
    obtain ⟨v10, hv10, h⟩ := bind_some h
    refine ht_seqR hn (El := [_, _, _, _, _, _, (34, .agg [.v (.int .i64 v2.1.Code), .fl (.own 9) 1 (List.map Value.string v2.1.Lines)]), (35, .tup [.fl (.own 5) 1 (List.map (Value.int .u8) v10.1), .v (.int .i64 v10.2)]), (33, .tup [.fl (.own 5) 1 (List.map (Value.int .u8) v10.1), .v (.int .i64 v10.2)]), (36, .fl (.own 5) 1 (List.map (Value.int .u8) v10.1)), (33, .tup [.any, .v (.int .i64 v10.2)]), (37, .v (.int .i64 v10.2)), (6, .fl (.own 5) 1 (List.map (Value.int .u8) v10.1)), (7, .v (.int .i64 v10.2))]) (init := [0, 1, 2, 3, 4, 5]) (fin := [0, 1, 3, 12, 13]) (sps := [⟨[], [2], [6], [(.slot 34)]⟩, ⟨[6], [], [7], [(.slot 35)]⟩, ⟨[], [7], [8], [(.slot 33)]⟩, ⟨[], [8], [10, 9], [(.slot 36)]⟩, ⟨[10], [], [11], [(.slot 37)]⟩, ⟨[], [9], [12], [(.slot 6)]⟩, ⟨[11], [], [13], [(.slot 7)]⟩]) (es' := [(_, _), (_, _), (_, _), (6, .fl (.own 5) 1 (List.map (Value.int .u8) v10.1)), (7, .v (.int .i64 v10.2))]) (by kernel_rfl) rfl rfl
     ⟨st_plain rfl (op_loadA_take _ _ _ _ Try.underlying24 rfl sz24 rfl rfl),
     st_plain rfl (op_call _ _ 10 _ _ rfl Try.call10 rfl (ok_answer_Bytes v2.1 _ hv10) rfl rfl),
     st_plain rfl (op_move_take _ _ _ _ rfl),
     st_plain rfl (op_extract_take _ _ _ _ _ rfl (Nat.le_of_ble_eq_true rfl) rfl rfl (by decide) rfl),
     st_plain rfl (op_extract _ _ _ _ _ rfl rfl (Nat.le_of_ble_eq_true rfl) rfl rfl),
     st_plain rfl (op_assign_take _ _ _ _ rfl),
     st_plain rfl (op_assign _ _ _ _ rfl rfl),
     trivial⟩ ?_
    refine pt_then ?_
    refine ht_seq ?_
    refine ht_joinS h (fun (s14 : Bool) => [(60, .glob (GL mx)), (2, .v (.bool s14))]) ?_ ?_
    ·rintro s14 h
     refine pt_then ?_
     refine ht_ret ?_
     refine pt_pick [1] (by kernel_rfl) (es' := [(_, _)]) rfl ?_
     obtain rfl := Option.some.inj h
     exact pt_ret hio rfl (.tmp _ _ .nil) rfl rfl
    ·intro u15 h hl16 hr17
     refine cond_some h (fun hg7_2 h => ?_) (fun hg7_2 h => ?_)
     ·refine cond_some h (fun hg7_8 h => ?_) (fun hg7_8 h => ?_)
      ·refine cond_some h (fun hg7_12 h => ?_) (fun hg7_12 h => ?_)
       ·obtain ⟨v11, hv11, h⟩ := bind_some h
        obtain ⟨v12, hv12, h⟩ := bind_some h
        refine cond_some h (fun hg7_19 h => ?_) (fun hg7_19 h => ?_)
        ·obtain ⟨v13, hv13, h⟩ := bind_some h
         refine ht_seqR hn (El := (_ :: _ :: _ :: _ :: _ :: (38, .v (.int .i64 v10.2)) :: (39, .v (.bool (v10.2 == 0))) :: (40, .v (.bool true)) :: (41, .v (.int .i64 v2.2.1)) :: (42, .fl .shr 1 (List.map (Value.int .u8) b)) :: (43, .v (.int .i64 (b.length : Int))) :: (44, .v (.bool ((decide (v2.2.1 ≤ (b.length : Int)))))) :: (45, .v (.bool ((decide (v2.2.1 ≤ (b.length : Int)))))) :: (46, .v (.bool true)) :: (47, .v (.int .i64 v2.2.1)) :: (48, .v (.bool ((decide (0 < v2.2.1))))) :: (49, .v (.bool ((decide (0 < v2.2.1))))) :: (50, .v (.bool true)) :: (51, .fl (.own 5) 1 (List.map (Value.int .u8) v10.1)) :: (52, .fl .shr 1 (List.map (Value.int .u8) b)) :: (53, .v (.int .i64 v2.2.1)) :: (54, .fl .shr 1 (List.map (Value.int .u8) v11)) :: (55, .v (.bool v12)) :: (56, .v (.bool v12)) :: (57, .v (.bool true)) :: (58, .v (.bool v13)) :: (59, .v (.bool v13)) :: (2, .v (.bool v13)) :: [])) (init := [0, 1, 2, 3, 4]) (fin := [1, 27]) (sps := (⟨[4], [], [5], [(.slot 38)]⟩ :: ⟨[5], [], [6], [(.slot 39)]⟩ :: ⟨[6], [], [7], [(.slot 40)]⟩ :: ⟨[7, 2], [], [8], [(.slot 41)]⟩ :: ⟨[7, 0], [], [9], [(.slot 42)]⟩ :: ⟨[7, 9], [], [10], [(.slot 43)]⟩ :: ⟨[7, 8, 10], [], [11], [(.slot 44)]⟩ :: ⟨[7, 11], [], [12], [(.slot 45)]⟩ :: ⟨[12], [], [13], [(.slot 46)]⟩ :: ⟨[13, 2], [], [14], [(.slot 47)]⟩ :: ⟨[13, 14], [], [15], [(.slot 48)]⟩ :: ⟨[13, 15], [], [16], [(.slot 49)]⟩ :: ⟨[16], [], [17], [(.slot 50)]⟩ :: ⟨[17], [3], [18], [(.slot 51)]⟩ :: ⟨[17, 0], [], [19], [(.slot 52)]⟩ :: ⟨[17, 2], [], [20], [(.slot 53)]⟩ :: ⟨[17, 19, 20], [], [21], [(.slot 54)]⟩ :: ⟨[17, 18, 21], [], [22], [(.slot 55)]⟩ :: ⟨[17, 22], [], [23], [(.slot 56)]⟩ :: ⟨[23], [], [24], [(.slot 57)]⟩ :: ⟨[24, 1], [], [25], [(.slot 58)]⟩ :: ⟨[24, 25], [], [26], [(.slot 59)]⟩ :: ⟨[26], [], [27], [(.slot 2)]⟩ :: [])) (es' := [(_, _), (2, .v (.bool v13))]) (by kernel_rfl) rfl rfl
          ⟨st_plain rfl (op_move _ _ _ _ rfl rfl),
          st_plain rfl (op_bin _ _ _ _ _ rfl rfl rfl),
          st_plain rfl (op_move _ _ _ _ (congrArg (fun b => AV.v (Value.bool b)) hg7_2) rfl),
          st_run 2 40 true rfl rfl rfl (List.Mem.head _) (op_move _ _ _ _ rfl rfl),
          st_run 2 40 true rfl rfl rfl (List.Mem.head _) (op_move _ _ _ _ rfl rfl),
          st_run 2 40 true rfl rfl rfl (List.Mem.head _) (op_len_fl _ _ _ Try.underlying25 rfl (by decide) (map_len _)),
          st_run 2 40 true rfl rfl rfl (List.Mem.head _) (op_bin _ _ _ _ _ rfl rfl rfl),
          st_plain rfl (op_pick _ _ true _ rfl rfl),
          st_plain rfl (op_move _ _ _ _ (congrArg (fun b => AV.v (Value.bool b)) hg7_8) rfl),
          st_run 8 46 true rfl rfl rfl (List.Mem.head _) (op_move _ _ _ _ rfl rfl),
          st_run 8 46 true rfl rfl rfl (List.Mem.head _) (op_bin _ _ _ _ _ rfl rfl rfl),
          st_plain rfl (op_pick _ _ true _ rfl rfl),
          st_plain rfl (op_move _ _ _ _ (congrArg (fun b => AV.v (Value.bool b)) hg7_12) rfl),
          st_run 12 50 true rfl rfl rfl (List.Mem.head _) (op_move_take _ _ _ _ rfl),
          st_run 12 50 true rfl rfl rfl (List.Mem.head _) (op_move _ _ _ _ rfl rfl),
          st_run 12 50 true rfl rfl rfl (List.Mem.head _) (op_move _ _ _ _ rfl rfl),
          st_run 12 50 true rfl rfl rfl (List.Mem.head _) (op_sl _ _ _ 0 v2.2.1 _ Try.underlying25 sz5 rfl rfl rfl ⟨_, rfl⟩ hv11),
          st_run 12 50 true rfl rfl rfl (List.Mem.head _) (op_call _ _ 15 _ _ rfl Try.call15 rfl (ok_wherrykeep_Bytes v10.1 v11 _ hv12) rfl rfl),
          st_plain rfl (op_pick _ _ true _ rfl rfl),
          st_plain rfl (op_move _ _ _ _ (congrArg (fun b => AV.v (Value.bool b)) hg7_19) rfl),
          st_run 19 57 true rfl rfl rfl (List.Mem.head _) (op_callG _ _ 60 19 _ _ rfl Try.call19 rfl rfl (fun _ h => h) (ok_wherrylaw13_wakes mx  _ hv13) rfl rfl),
          st_plain rfl (op_pick _ _ true _ rfl rfl),
          st_plain rfl (op_assign _ _ _ _ rfl rfl),
          trivial⟩ ?_
         exact hl16 _ (Option.some.inj h).symm
        ·refine ht_seqR hn (El := (_ :: _ :: _ :: _ :: _ :: (38, .v (.int .i64 v10.2)) :: (39, .v (.bool (v10.2 == 0))) :: (40, .v (.bool true)) :: (41, .v (.int .i64 v2.2.1)) :: (42, .fl .shr 1 (List.map (Value.int .u8) b)) :: (43, .v (.int .i64 (b.length : Int))) :: (44, .v (.bool ((decide (v2.2.1 ≤ (b.length : Int)))))) :: (45, .v (.bool ((decide (v2.2.1 ≤ (b.length : Int)))))) :: (46, .v (.bool true)) :: (47, .v (.int .i64 v2.2.1)) :: (48, .v (.bool ((decide (0 < v2.2.1))))) :: (49, .v (.bool ((decide (0 < v2.2.1))))) :: (50, .v (.bool true)) :: (51, .fl (.own 5) 1 (List.map (Value.int .u8) v10.1)) :: (52, .fl .shr 1 (List.map (Value.int .u8) b)) :: (53, .v (.int .i64 v2.2.1)) :: (54, .fl .shr 1 (List.map (Value.int .u8) v11)) :: (55, .v (.bool v12)) :: (56, .v (.bool v12)) :: (57, .v (.bool false)) :: (58, .v undef) :: (59, .v (.bool false)) :: (2, .v (.bool false)) :: [])) (init := [0, 1, 2, 3, 4]) (fin := [1, 27]) (sps := (⟨[4], [], [5], [(.slot 38)]⟩ :: ⟨[5], [], [6], [(.slot 39)]⟩ :: ⟨[6], [], [7], [(.slot 40)]⟩ :: ⟨[7, 2], [], [8], [(.slot 41)]⟩ :: ⟨[7, 0], [], [9], [(.slot 42)]⟩ :: ⟨[7, 9], [], [10], [(.slot 43)]⟩ :: ⟨[7, 8, 10], [], [11], [(.slot 44)]⟩ :: ⟨[7, 11], [], [12], [(.slot 45)]⟩ :: ⟨[12], [], [13], [(.slot 46)]⟩ :: ⟨[13, 2], [], [14], [(.slot 47)]⟩ :: ⟨[13, 14], [], [15], [(.slot 48)]⟩ :: ⟨[13, 15], [], [16], [(.slot 49)]⟩ :: ⟨[16], [], [17], [(.slot 50)]⟩ :: ⟨[17], [3], [18], [(.slot 51)]⟩ :: ⟨[17, 0], [], [19], [(.slot 52)]⟩ :: ⟨[17, 2], [], [20], [(.slot 53)]⟩ :: ⟨[17, 19, 20], [], [21], [(.slot 54)]⟩ :: ⟨[17, 18, 21], [], [22], [(.slot 55)]⟩ :: ⟨[17, 22], [], [23], [(.slot 56)]⟩ :: ⟨[23], [], [24], [(.slot 57)]⟩ :: ⟨[24], [], [25], [(.slot 58)]⟩ :: ⟨[24], [], [26], [(.slot 59)]⟩ :: ⟨[26], [], [27], [(.slot 2)]⟩ :: [])) (es' := [(_, _), (2, .v (.bool false))]) (by kernel_rfl) rfl rfl
          ⟨st_plain rfl (op_move _ _ _ _ rfl rfl),
          st_plain rfl (op_bin _ _ _ _ _ rfl rfl rfl),
          st_plain rfl (op_move _ _ _ _ (congrArg (fun b => AV.v (Value.bool b)) hg7_2) rfl),
          st_run 2 40 true rfl rfl rfl (List.Mem.head _) (op_move _ _ _ _ rfl rfl),
          st_run 2 40 true rfl rfl rfl (List.Mem.head _) (op_move _ _ _ _ rfl rfl),
          st_run 2 40 true rfl rfl rfl (List.Mem.head _) (op_len_fl _ _ _ Try.underlying25 rfl (by decide) (map_len _)),
          st_run 2 40 true rfl rfl rfl (List.Mem.head _) (op_bin _ _ _ _ _ rfl rfl rfl),
          st_plain rfl (op_pick _ _ true _ rfl rfl),
          st_plain rfl (op_move _ _ _ _ (congrArg (fun b => AV.v (Value.bool b)) hg7_8) rfl),
          st_run 8 46 true rfl rfl rfl (List.Mem.head _) (op_move _ _ _ _ rfl rfl),
          st_run 8 46 true rfl rfl rfl (List.Mem.head _) (op_bin _ _ _ _ _ rfl rfl rfl),
          st_plain rfl (op_pick _ _ true _ rfl rfl),
          st_plain rfl (op_move _ _ _ _ (congrArg (fun b => AV.v (Value.bool b)) hg7_12) rfl),
          st_run 12 50 true rfl rfl rfl (List.Mem.head _) (op_move_take _ _ _ _ rfl),
          st_run 12 50 true rfl rfl rfl (List.Mem.head _) (op_move _ _ _ _ rfl rfl),
          st_run 12 50 true rfl rfl rfl (List.Mem.head _) (op_move _ _ _ _ rfl rfl),
          st_run 12 50 true rfl rfl rfl (List.Mem.head _) (op_sl _ _ _ 0 v2.2.1 _ Try.underlying25 sz5 rfl rfl rfl ⟨_, rfl⟩ hv11),
          st_run 12 50 true rfl rfl rfl (List.Mem.head _) (op_call _ _ 15 _ _ rfl Try.call15 rfl (ok_wherrykeep_Bytes v10.1 v11 _ hv12) rfl rfl),
          st_plain rfl (op_pick _ _ true _ rfl rfl),
          st_plain rfl (op_move _ _ _ _ (congrArg (fun b => AV.v (Value.bool b)) hg7_19) rfl),
          st_skip 19 57 _ true rfl rfl rfl rfl (List.Mem.head _),
          st_plain rfl (op_pick _ _ false _ rfl rfl),
          st_plain rfl (op_assign _ _ _ _ rfl rfl),
          trivial⟩ ?_
         exact hl16 _ (Option.some.inj h).symm
       ·refine ht_seqR hn (El := (_ :: _ :: _ :: _ :: _ :: (38, .v (.int .i64 v10.2)) :: (39, .v (.bool (v10.2 == 0))) :: (40, .v (.bool true)) :: (41, .v (.int .i64 v2.2.1)) :: (42, .fl .shr 1 (List.map (Value.int .u8) b)) :: (43, .v (.int .i64 (b.length : Int))) :: (44, .v (.bool ((decide (v2.2.1 ≤ (b.length : Int)))))) :: (45, .v (.bool ((decide (v2.2.1 ≤ (b.length : Int)))))) :: (46, .v (.bool true)) :: (47, .v (.int .i64 v2.2.1)) :: (48, .v (.bool ((decide (0 < v2.2.1))))) :: (49, .v (.bool ((decide (0 < v2.2.1))))) :: (50, .v (.bool false)) :: (51, .v undef) :: (52, .v undef) :: (53, .v undef) :: (54, .v undef) :: (55, .v undef) :: (56, .v (.bool false)) :: (57, .v (.bool false)) :: (58, .v undef) :: (59, .v (.bool false)) :: (2, .v (.bool false)) :: [])) (init := [0, 1, 2, 3, 4]) (fin := [1, 27]) (sps := (⟨[4], [], [5], [(.slot 38)]⟩ :: ⟨[5], [], [6], [(.slot 39)]⟩ :: ⟨[6], [], [7], [(.slot 40)]⟩ :: ⟨[7, 2], [], [8], [(.slot 41)]⟩ :: ⟨[7, 0], [], [9], [(.slot 42)]⟩ :: ⟨[7, 9], [], [10], [(.slot 43)]⟩ :: ⟨[7, 8, 10], [], [11], [(.slot 44)]⟩ :: ⟨[7, 11], [], [12], [(.slot 45)]⟩ :: ⟨[12], [], [13], [(.slot 46)]⟩ :: ⟨[13, 2], [], [14], [(.slot 47)]⟩ :: ⟨[13, 14], [], [15], [(.slot 48)]⟩ :: ⟨[13, 15], [], [16], [(.slot 49)]⟩ :: ⟨[16], [], [17], [(.slot 50)]⟩ :: ⟨[17], [], [18], [(.slot 51)]⟩ :: ⟨[17], [], [19], [(.slot 52)]⟩ :: ⟨[17], [], [20], [(.slot 53)]⟩ :: ⟨[17], [], [21], [(.slot 54)]⟩ :: ⟨[17], [], [22], [(.slot 55)]⟩ :: ⟨[17], [], [23], [(.slot 56)]⟩ :: ⟨[23], [], [24], [(.slot 57)]⟩ :: ⟨[24], [], [25], [(.slot 58)]⟩ :: ⟨[24], [], [26], [(.slot 59)]⟩ :: ⟨[26], [], [27], [(.slot 2)]⟩ :: [])) (es' := [(_, _), (2, .v (.bool false))]) (by kernel_rfl) rfl rfl
         ⟨st_plain rfl (op_move _ _ _ _ rfl rfl),
         st_plain rfl (op_bin _ _ _ _ _ rfl rfl rfl),
         st_plain rfl (op_move _ _ _ _ (congrArg (fun b => AV.v (Value.bool b)) hg7_2) rfl),
         st_run 2 40 true rfl rfl rfl (List.Mem.head _) (op_move _ _ _ _ rfl rfl),
         st_run 2 40 true rfl rfl rfl (List.Mem.head _) (op_move _ _ _ _ rfl rfl),
         st_run 2 40 true rfl rfl rfl (List.Mem.head _) (op_len_fl _ _ _ Try.underlying25 rfl (by decide) (map_len _)),
         st_run 2 40 true rfl rfl rfl (List.Mem.head _) (op_bin _ _ _ _ _ rfl rfl rfl),
         st_plain rfl (op_pick _ _ true _ rfl rfl),
         st_plain rfl (op_move _ _ _ _ (congrArg (fun b => AV.v (Value.bool b)) hg7_8) rfl),
         st_run 8 46 true rfl rfl rfl (List.Mem.head _) (op_move _ _ _ _ rfl rfl),
         st_run 8 46 true rfl rfl rfl (List.Mem.head _) (op_bin _ _ _ _ _ rfl rfl rfl),
         st_plain rfl (op_pick _ _ true _ rfl rfl),
         st_plain rfl (op_move _ _ _ _ (congrArg (fun b => AV.v (Value.bool b)) hg7_12) rfl),
         st_skip 12 50 _ true rfl rfl rfl rfl (List.Mem.head _),
         st_skip 12 50 _ true rfl rfl rfl rfl (List.Mem.head _),
         st_skip 12 50 _ true rfl rfl rfl rfl (List.Mem.head _),
         st_skip 12 50 _ true rfl rfl rfl rfl (List.Mem.head _),
         st_skip 12 50 _ true rfl rfl rfl rfl (List.Mem.head _),
         st_plain rfl (op_pick _ _ false _ rfl rfl),
         st_plain rfl (op_move _ _ _ _ rfl rfl),
         st_skip 19 57 _ true rfl rfl rfl rfl (List.Mem.head _),
         st_plain rfl (op_pick _ _ false _ rfl rfl),
         st_plain rfl (op_assign _ _ _ _ rfl rfl),
         trivial⟩ ?_
        exact hl16 _ (Option.some.inj h).symm
      ·refine ht_seqR hn (El := (_ :: _ :: _ :: _ :: _ :: (38, .v (.int .i64 v10.2)) :: (39, .v (.bool (v10.2 == 0))) :: (40, .v (.bool true)) :: (41, .v (.int .i64 v2.2.1)) :: (42, .fl .shr 1 (List.map (Value.int .u8) b)) :: (43, .v (.int .i64 (b.length : Int))) :: (44, .v (.bool ((decide (v2.2.1 ≤ (b.length : Int)))))) :: (45, .v (.bool ((decide (v2.2.1 ≤ (b.length : Int)))))) :: (46, .v (.bool false)) :: (47, .v undef) :: (48, .v undef) :: (49, .v (.bool false)) :: (50, .v (.bool false)) :: (51, .v undef) :: (52, .v undef) :: (53, .v undef) :: (54, .v undef) :: (55, .v undef) :: (56, .v (.bool false)) :: (57, .v (.bool false)) :: (58, .v undef) :: (59, .v (.bool false)) :: (2, .v (.bool false)) :: [])) (init := [0, 1, 2, 3, 4]) (fin := [1, 27]) (sps := (⟨[4], [], [5], [(.slot 38)]⟩ :: ⟨[5], [], [6], [(.slot 39)]⟩ :: ⟨[6], [], [7], [(.slot 40)]⟩ :: ⟨[7, 2], [], [8], [(.slot 41)]⟩ :: ⟨[7, 0], [], [9], [(.slot 42)]⟩ :: ⟨[7, 9], [], [10], [(.slot 43)]⟩ :: ⟨[7, 8, 10], [], [11], [(.slot 44)]⟩ :: ⟨[7, 11], [], [12], [(.slot 45)]⟩ :: ⟨[12], [], [13], [(.slot 46)]⟩ :: ⟨[13], [], [14], [(.slot 47)]⟩ :: ⟨[13], [], [15], [(.slot 48)]⟩ :: ⟨[13], [], [16], [(.slot 49)]⟩ :: ⟨[16], [], [17], [(.slot 50)]⟩ :: ⟨[17], [], [18], [(.slot 51)]⟩ :: ⟨[17], [], [19], [(.slot 52)]⟩ :: ⟨[17], [], [20], [(.slot 53)]⟩ :: ⟨[17], [], [21], [(.slot 54)]⟩ :: ⟨[17], [], [22], [(.slot 55)]⟩ :: ⟨[17], [], [23], [(.slot 56)]⟩ :: ⟨[23], [], [24], [(.slot 57)]⟩ :: ⟨[24], [], [25], [(.slot 58)]⟩ :: ⟨[24], [], [26], [(.slot 59)]⟩ :: ⟨[26], [], [27], [(.slot 2)]⟩ :: [])) (es' := [(_, _), (2, .v (.bool false))]) (by kernel_rfl) rfl rfl
        ⟨st_plain rfl (op_move _ _ _ _ rfl rfl),
        st_plain rfl (op_bin _ _ _ _ _ rfl rfl rfl),
        st_plain rfl (op_move _ _ _ _ (congrArg (fun b => AV.v (Value.bool b)) hg7_2) rfl),
        st_run 2 40 true rfl rfl rfl (List.Mem.head _) (op_move _ _ _ _ rfl rfl),
        st_run 2 40 true rfl rfl rfl (List.Mem.head _) (op_move _ _ _ _ rfl rfl),
        st_run 2 40 true rfl rfl rfl (List.Mem.head _) (op_len_fl _ _ _ Try.underlying25 rfl (by decide) (map_len _)),
        st_run 2 40 true rfl rfl rfl (List.Mem.head _) (op_bin _ _ _ _ _ rfl rfl rfl),
        st_plain rfl (op_pick _ _ true _ rfl rfl),
        st_plain rfl (op_move _ _ _ _ (congrArg (fun b => AV.v (Value.bool b)) hg7_8) rfl),
        st_skip 8 46 _ true rfl rfl rfl rfl (List.Mem.head _),
        st_skip 8 46 _ true rfl rfl rfl rfl (List.Mem.head _),
        st_plain rfl (op_pick _ _ false _ rfl rfl),
        st_plain rfl (op_move _ _ _ _ rfl rfl),
        st_skip 12 50 _ true rfl rfl rfl rfl (List.Mem.head _),
        st_skip 12 50 _ true rfl rfl rfl rfl (List.Mem.head _),
        st_skip 12 50 _ true rfl rfl rfl rfl (List.Mem.head _),
        st_skip 12 50 _ true rfl rfl rfl rfl (List.Mem.head _),
        st_skip 12 50 _ true rfl rfl rfl rfl (List.Mem.head _),
        st_plain rfl (op_pick _ _ false _ rfl rfl),
        st_plain rfl (op_move _ _ _ _ rfl rfl),
        st_skip 19 57 _ true rfl rfl rfl rfl (List.Mem.head _),
        st_plain rfl (op_pick _ _ false _ rfl rfl),
        st_plain rfl (op_assign _ _ _ _ rfl rfl),
        trivial⟩ ?_
       exact hl16 _ (Option.some.inj h).symm
     ·refine ht_seqR hn (El := (_ :: _ :: _ :: _ :: _ :: (38, .v (.int .i64 v10.2)) :: (39, .v (.bool (v10.2 == 0))) :: (40, .v (.bool false)) :: (41, .v undef) :: (42, .v undef) :: (43, .v undef) :: (44, .v undef) :: (45, .v (.bool false)) :: (46, .v (.bool false)) :: (47, .v undef) :: (48, .v undef) :: (49, .v (.bool false)) :: (50, .v (.bool false)) :: (51, .v undef) :: (52, .v undef) :: (53, .v undef) :: (54, .v undef) :: (55, .v undef) :: (56, .v (.bool false)) :: (57, .v (.bool false)) :: (58, .v undef) :: (59, .v (.bool false)) :: (2, .v (.bool false)) :: [])) (init := [0, 1, 2, 3, 4]) (fin := [1, 27]) (sps := (⟨[4], [], [5], [(.slot 38)]⟩ :: ⟨[5], [], [6], [(.slot 39)]⟩ :: ⟨[6], [], [7], [(.slot 40)]⟩ :: ⟨[7], [], [8], [(.slot 41)]⟩ :: ⟨[7], [], [9], [(.slot 42)]⟩ :: ⟨[7], [], [10], [(.slot 43)]⟩ :: ⟨[7], [], [11], [(.slot 44)]⟩ :: ⟨[7], [], [12], [(.slot 45)]⟩ :: ⟨[12], [], [13], [(.slot 46)]⟩ :: ⟨[13], [], [14], [(.slot 47)]⟩ :: ⟨[13], [], [15], [(.slot 48)]⟩ :: ⟨[13], [], [16], [(.slot 49)]⟩ :: ⟨[16], [], [17], [(.slot 50)]⟩ :: ⟨[17], [], [18], [(.slot 51)]⟩ :: ⟨[17], [], [19], [(.slot 52)]⟩ :: ⟨[17], [], [20], [(.slot 53)]⟩ :: ⟨[17], [], [21], [(.slot 54)]⟩ :: ⟨[17], [], [22], [(.slot 55)]⟩ :: ⟨[17], [], [23], [(.slot 56)]⟩ :: ⟨[23], [], [24], [(.slot 57)]⟩ :: ⟨[24], [], [25], [(.slot 58)]⟩ :: ⟨[24], [], [26], [(.slot 59)]⟩ :: ⟨[26], [], [27], [(.slot 2)]⟩ :: [])) (es' := [(_, _), (2, .v (.bool false))]) (by kernel_rfl) rfl rfl
       ⟨st_plain rfl (op_move _ _ _ _ rfl rfl),
       st_plain rfl (op_bin _ _ _ _ _ rfl rfl rfl),
       st_plain rfl (op_move _ _ _ _ (congrArg (fun b => AV.v (Value.bool b)) hg7_2) rfl),
       st_skip 2 40 _ true rfl rfl rfl rfl (List.Mem.head _),
       st_skip 2 40 _ true rfl rfl rfl rfl (List.Mem.head _),
       st_skip 2 40 _ true rfl rfl rfl rfl (List.Mem.head _),
       st_skip 2 40 _ true rfl rfl rfl rfl (List.Mem.head _),
       st_plain rfl (op_pick _ _ false _ rfl rfl),
       st_plain rfl (op_move _ _ _ _ rfl rfl),
       st_skip 8 46 _ true rfl rfl rfl rfl (List.Mem.head _),
       st_skip 8 46 _ true rfl rfl rfl rfl (List.Mem.head _),
       st_plain rfl (op_pick _ _ false _ rfl rfl),
       st_plain rfl (op_move _ _ _ _ rfl rfl),
       st_skip 12 50 _ true rfl rfl rfl rfl (List.Mem.head _),
       st_skip 12 50 _ true rfl rfl rfl rfl (List.Mem.head _),
       st_skip 12 50 _ true rfl rfl rfl rfl (List.Mem.head _),
       st_skip 12 50 _ true rfl rfl rfl rfl (List.Mem.head _),
       st_skip 12 50 _ true rfl rfl rfl rfl (List.Mem.head _),
       st_plain rfl (op_pick _ _ false _ rfl rfl),
       st_plain rfl (op_move _ _ _ _ rfl rfl),
       st_skip 19 57 _ true rfl rfl rfl rfl (List.Mem.head _),
       st_plain rfl (op_pick _ _ false _ rfl rfl),
       st_plain rfl (op_assign _ _ _ _ rfl rfl),
       trivial⟩ ?_
      exact hl16 _ (Option.some.inj h).symm

end Go.Proofs.Ytegjndibgnnpcaa
