/-
  The model's runs are what is told in Lean.
-/
import Derived.Test.YtadkeipbkbkneaaDoorProg
import Derived.KernelRfl
import Derived.Test.YtadkeipbkbkneaaDoorShelf
import Derived.Test.YtadkeipbkbkneaaDoorOkc2
set_option linter.unusedVariables false
set_option linter.unusedSimpArgs false
namespace Go.Proofs.YtadkeipbkbkneaaDoor
open Go.Abs Go.Abs.Sh

set_option maxHeartbeats 1000000 in
theorem ok_wherrylaw10_CramBack (mx : Int) (b : (List Int)) (s : ByteArray) (r : Bool) (h : Sh.wherrylaw10_CramBack b s = some r) : FnG Tryd.prog (GL mx) 4 [.fl .shr 1 (List.map (Value.int .u8) b), .v (.string s)] (.v (.bool r)) := by
  unfold Sh.wherrylaw10_CramBack at h
  refine fn_okG Tryd.func4 rfl (Nat.le_of_ble_eq_true rfl) rfl rfl fun g0 hn hio => ?_
  refine ht_seq ?_
  refine ht_seqR hn (El := [_, _, _, (4, .v (.bool false))]) (init := [0, 1, 2]) (fin := [0, 1, 2]) (sps := [⟨[], [], [3], [(.slot 4)]⟩]) (es' := [(_, _), (_, _), (_, _)]) (by kernel_rfl) rfl rfl
   ⟨st_plain rfl (op_assign _ _ _ _ rfl rfl),
   trivial⟩ ?_
  refine pt_then ?_
  refine ht_seq ?_
  refine ht_seq ?_
  refine ht_joinS h (fun (s1 : Bool) => [(0, .fl .shr 1 (List.map (Value.int .u8) b)), (1, .v (.string s)), (68, .glob (GL mx)), (17, .v (.bool s1))]) ?_ ?_
  ·rintro s1 h
   refine pt_then ?_
   refine ht_cond _ rfl (fun hb5 => ?_) (fun hb5 => ?_)
   ·have h := cond_t hb5 h
    refine ht_seq ?_
    refine ht_seqR hn (El := [_, _, _, _, (4, .v (.bool true))]) (init := [0, 1, 2, 3]) (fin := [2, 4]) (sps := [⟨[], [], [4], [(.slot 4)]⟩]) (es' := [(_, _), (4, .v (.bool true))]) (by kernel_rfl) rfl rfl
     ⟨st_plain rfl (op_assign _ _ _ _ rfl rfl),
     trivial⟩ ?_
    refine pt_then ?_
    refine ht_ret ?_
    refine pt_pick [1] (by kernel_rfl) (es' := [(_, _)]) rfl ?_
    refine pt_r_then ?_
    obtain rfl := Option.some.inj h
    exact pt_ret hio rfl (.tmp _ _ .nil) rfl rfl
   ·have h := cond_f hb5 h
    refine ht_skip ?_
    refine pt_then ?_
    refine ht_seq ?_
    obtain ⟨v6, hv6, h⟩ := bind_some h
    refine ht_seqR hn (El := [_, _, _, _, (18, .fl .shr 1 (List.map (Value.int .u8) b)), (19, .v (.string v6)), (5, .v (.string v6))]) (init := [0, 1, 2, 3]) (fin := [0, 1, 2, 6]) (sps := [⟨[0], [], [4], [(.slot 18)]⟩, ⟨[4], [], [5], [(.slot 19)]⟩, ⟨[5], [], [6], [(.slot 5)]⟩]) (es' := [(_, _), (_, _), (_, _), (5, .v (.string v6))]) (by kernel_rfl) rfl rfl
     ⟨st_plain rfl (op_move _ _ _ _ rfl rfl),
     st_plain rfl (op_call _ _ 12 _ _ rfl Tryd.call12 rfl (ok_cram_Encode b _ hv6) rfl rfl),
     st_plain rfl (op_assign _ _ _ _ rfl rfl),
     trivial⟩ ?_
    refine pt_then ?_
    refine ht_seq ?_
    obtain ⟨v7, hv7, h⟩ := bind_some h
    refine ht_seqR hn (El := [_, _, _, _, (21, .v (.string v6)), (22, .tup [.fl (.own 5) 1 (List.map (Value.int .u8) v7.1), .v (.int .i64 v7.2)]), (20, .tup [.fl (.own 5) 1 (List.map (Value.int .u8) v7.1), .v (.int .i64 v7.2)]), (23, .fl (.own 5) 1 (List.map (Value.int .u8) v7.1)), (20, .tup [.any, .v (.int .i64 v7.2)]), (24, .v (.int .i64 v7.2)), (6, .fl (.own 5) 1 (List.map (Value.int .u8) v7.1)), (7, .v (.int .i64 v7.2))]) (init := [0, 1, 2, 3]) (fin := [0, 1, 2, 3, 10, 11]) (sps := [⟨[3], [], [4], [(.slot 21)]⟩, ⟨[4, 2], [], [5], [(.slot 22)]⟩, ⟨[], [5], [6], [(.slot 20)]⟩, ⟨[], [6], [8, 7], [(.slot 23)]⟩, ⟨[8], [], [9], [(.slot 24)]⟩, ⟨[], [7], [10], [(.slot 6)]⟩, ⟨[9], [], [11], [(.slot 7)]⟩]) (es' := [(_, _), (_, _), (_, _), (_, _), (6, .fl (.own 5) 1 (List.map (Value.int .u8) v7.1)), (7, .v (.int .i64 v7.2))]) (by kernel_rfl) rfl rfl
     ⟨st_plain rfl (op_move _ _ _ _ rfl rfl),
     st_plain rfl (op_callG _ _ 68 9 _ _ rfl Tryd.call9 rfl rfl (fun _ h => h) (ok_cram_Decode mx v6 _ hv7) rfl rfl),
     st_plain rfl (op_move_take _ _ _ _ rfl),
     st_plain rfl (op_extract_take _ _ _ _ _ rfl (Nat.le_of_ble_eq_true rfl) rfl rfl (by decide) rfl),
     st_plain rfl (op_extract _ _ _ _ _ rfl rfl (Nat.le_of_ble_eq_true rfl) rfl rfl),
     st_plain rfl (op_assign_take _ _ _ _ rfl),
     st_plain rfl (op_assign _ _ _ _ rfl rfl),
     trivial⟩ ?_
    refine pt_then ?_
    refine ht_seq ?_
    refine ht_seq ?_
    refine ht_joinS h (fun (s12 : Bool) => [(1, .v (.string s)), (68, .glob (GL mx)), (42, .v (.bool s12))]) ?_ ?_
    ·rintro s12 h
     refine pt_then ?_
     refine ht_cond _ rfl (fun hb16 => ?_) (fun hb16 => ?_)
     ·have h := cond_t hb16 h
      refine ht_seq ?_
      refine ht_seqR hn (El := [_, _, _, (4, .v (.bool false))]) (init := [0, 1, 2]) (fin := [1, 3]) (sps := [⟨[], [], [3], [(.slot 4)]⟩]) (es' := [(_, _), (4, .v (.bool false))]) (by kernel_rfl) rfl rfl
       ⟨st_plain rfl (op_assign _ _ _ _ rfl rfl),
       trivial⟩ ?_
      refine pt_then ?_
      refine ht_ret ?_
      refine pt_pick [1] (by kernel_rfl) (es' := [(_, _)]) rfl ?_
      refine pt_r_then ?_
      obtain rfl := Option.some.inj h
      exact pt_ret hio rfl (.tmp _ _ .nil) rfl rfl
     ·have h := cond_f hb16 h
      refine ht_skip ?_
      refine pt_then ?_
      refine ht_seq ?_
      obtain ⟨v17, hv17, h⟩ := bind_some h
      refine ht_seqR hn (El := [_, _, _, (44, .v (.string s)), (45, .tup [.fl (.own 5) 1 (List.map (Value.int .u8) v17.1), .v (.int .i64 v17.2)]), (43, .tup [.fl (.own 5) 1 (List.map (Value.int .u8) v17.1), .v (.int .i64 v17.2)]), (46, .fl (.own 5) 1 (List.map (Value.int .u8) v17.1)), (43, .tup [.any, .v (.int .i64 v17.2)]), (47, .v (.int .i64 v17.2)), (8, .fl (.own 5) 1 (List.map (Value.int .u8) v17.1)), (9, .v (.int .i64 v17.2))]) (init := [0, 1, 2]) (fin := [0, 1, 9, 10]) (sps := [⟨[0], [], [3], [(.slot 44)]⟩, ⟨[3, 1], [], [4], [(.slot 45)]⟩, ⟨[], [4], [5], [(.slot 43)]⟩, ⟨[], [5], [7, 6], [(.slot 46)]⟩, ⟨[7], [], [8], [(.slot 47)]⟩, ⟨[], [6], [9], [(.slot 8)]⟩, ⟨[8], [], [10], [(.slot 9)]⟩]) (es' := [(_, _), (_, _), (8, .fl (.own 5) 1 (List.map (Value.int .u8) v17.1)), (9, .v (.int .i64 v17.2))]) (by kernel_rfl) rfl rfl
       ⟨st_plain rfl (op_move _ _ _ _ rfl rfl),
       st_plain rfl (op_callG _ _ 68 9 _ _ rfl Tryd.call9 rfl rfl (fun _ h => h) (ok_cram_Decode mx s _ hv17) rfl rfl),
       st_plain rfl (op_move_take _ _ _ _ rfl),
       st_plain rfl (op_extract_take _ _ _ _ _ rfl (Nat.le_of_ble_eq_true rfl) rfl rfl (by decide) rfl),
       st_plain rfl (op_extract _ _ _ _ _ rfl rfl (Nat.le_of_ble_eq_true rfl) rfl rfl),
       st_plain rfl (op_assign_take _ _ _ _ rfl),
       st_plain rfl (op_assign _ _ _ _ rfl rfl),
       trivial⟩ ?_
      refine pt_then ?_
      refine ht_seq ?_
      refine ht_joinS h (fun (s22 : Bool) => [(68, .glob (GL mx)), (4, .v (.bool s22))]) ?_ ?_
      ·rintro s22 h
       refine pt_then ?_
       refine ht_ret ?_
       refine pt_pick [1] (by kernel_rfl) (es' := [(_, _)]) rfl ?_
       obtain rfl := Option.some.inj h
       exact pt_ret hio rfl (.tmp _ _ .nil) rfl rfl
      ·intro u23 h hl24 hr25
       refine cond_some h (fun hg8_2 h => ?_) (fun hg8_2 h => ?_)
       ·obtain ⟨v18, hv18, h⟩ := bind_some h
        refine cond_some h (fun hg8_8 h => ?_) (fun hg8_8 h => ?_)
        ·obtain ⟨v19, hv19, h⟩ := bind_some h
         refine ht_seqR hn (El := (_ :: _ :: _ :: _ :: (48, .v (.int .i64 v17.2)) :: (49, .v (.bool (v17.2 == 0))) :: (50, .v (.bool true)) :: (51, .same (.slot 8)) :: (52, .v (.string v18)) :: (53, .v (.string s)) :: (54, .v (.bool (v18.toList == s.toList))) :: (55, .v (.bool (v18.toList == s.toList))) :: (56, .v (.bool true)) :: (57, .v undef) :: (58, .v undef) :: (59, .v undef) :: (60, .v undef) :: (61, .v undef) :: (62, .v undef) :: (63, .v undef) :: (64, .v (.bool true)) :: (65, .v (.bool true)) :: (66, .v (.bool v19)) :: (67, .v (.bool v19)) :: (4, .v (.bool v19)) :: [])) (init := [0, 1, 2, 3]) (fin := [1, 24]) (sps := (⟨[3], [], [4], [(.slot 48)]⟩ :: ⟨[4], [], [5], [(.slot 49)]⟩ :: ⟨[5], [], [6], [(.slot 50)]⟩ :: ⟨[6, 2], [], [7], [(.slot 51)]⟩ :: ⟨[6, 7, 2], [], [8], [(.slot 52)]⟩ :: ⟨[6, 0], [], [9], [(.slot 53)]⟩ :: ⟨[6, 8, 9], [], [10], [(.slot 54)]⟩ :: ⟨[6, 10], [], [11], [(.slot 55)]⟩ :: ⟨[11], [], [12], [(.slot 56)]⟩ :: ⟨[12], [], [13], [(.slot 57)]⟩ :: ⟨[12], [], [14], [(.slot 58)]⟩ :: ⟨[12], [], [15], [(.slot 59)]⟩ :: ⟨[15], [], [16], [(.slot 60)]⟩ :: ⟨[15], [], [17], [(.slot 61)]⟩ :: ⟨[15], [], [18], [(.slot 62)]⟩ :: ⟨[12], [], [19], [(.slot 63)]⟩ :: ⟨[12], [], [20], [(.slot 64)]⟩ :: ⟨[20], [], [21], [(.slot 65)]⟩ :: ⟨[21, 1], [], [22], [(.slot 66)]⟩ :: ⟨[21, 22], [], [23], [(.slot 67)]⟩ :: ⟨[23], [], [24], [(.slot 4)]⟩ :: [])) (es' := [(_, _), (4, .v (.bool v19))]) (by kernel_rfl) rfl rfl
          ⟨st_plain rfl (op_move _ _ _ _ rfl rfl),
          st_plain rfl (op_bin _ _ _ _ _ rfl rfl rfl),
          st_plain rfl (op_move _ _ _ _ (congrArg (fun b => AV.v (Value.bool b)) hg8_2) rfl),
          st_run 2 50 true rfl rfl rfl (List.Mem.head _) (op_move _ _ _ _ rfl rfl),
          st_run 2 50 true rfl rfl rfl (List.Mem.head _) (op_call _ _ 12 _ _ rfl Tryd.call12 rfl (ok_cram_Encode v17.1 _ hv18) rfl rfl),
          st_run 2 50 true rfl rfl rfl (List.Mem.head _) (op_move _ _ _ _ rfl rfl),
          st_run 2 50 true rfl rfl rfl (List.Mem.head _) (op_bin _ _ _ _ _ rfl rfl rfl),
          st_plain rfl (op_pick _ _ true _ rfl rfl),
          st_plain rfl (op_move _ _ _ _ (congrArg (fun b => AV.v (Value.bool b)) hg8_8) rfl),
          st_skip 8 56 _ false rfl rfl rfl rfl (List.Mem.head _),
          st_skip 8 56 _ false rfl rfl rfl rfl (List.Mem.head _),
          st_skip 8 56 _ false rfl rfl rfl rfl (List.Mem.head _),
          st_skipU 11 59 _ true rfl rfl rfl rfl (List.Mem.head _),
          st_skipU 11 59 _ true rfl rfl rfl rfl (List.Mem.head _),
          st_skipU 11 59 _ true rfl rfl rfl rfl (List.Mem.head _),
          st_skip 8 56 _ false rfl rfl rfl rfl (List.Mem.head _),
          st_plain rfl (op_pick _ _ true _ rfl rfl),
          st_plain rfl (op_move _ _ _ _ rfl rfl),
          st_run 17 65 true rfl rfl rfl (List.Mem.head _) (op_callG _ _ 68 19 _ _ rfl Tryd.call19 rfl rfl (fun _ h => h) (ok_wherrylaw10_wakes mx  _ hv19) rfl rfl),
          st_plain rfl (op_pick _ _ true _ rfl rfl),
          st_plain rfl (op_assign _ _ _ _ rfl rfl),
          trivial⟩ ?_
         exact hl24 _ (Option.some.inj h).symm
        ·refine cond_some h (fun hg8_11 h => ?_) (fun hg8_11 h => ?_)
         ·refine cond_some h (fun hg8_17 h => ?_) (fun hg8_17 h => ?_)
          ·obtain ⟨v20, hv20, h⟩ := bind_some h
           refine ht_seqR hn (El := (_ :: _ :: _ :: _ :: (48, .v (.int .i64 v17.2)) :: (49, .v (.bool (v17.2 == 0))) :: (50, .v (.bool true)) :: (51, .same (.slot 8)) :: (52, .v (.string v18)) :: (53, .v (.string s)) :: (54, .v (.bool (v18.toList == s.toList))) :: (55, .v (.bool (v18.toList == s.toList))) :: (56, .v (.bool false)) :: (57, .v (.int .i64 v17.2)) :: (58, .v (.bool (v17.2 == 5))) :: (59, .v (.bool true)) :: (60, .fl (.own 5) 1 (List.map (Value.int .u8) v17.1)) :: (61, .v (.int .i64 (v17.1.length : Int))) :: (62, .v (.bool (((v17.1.length : Int) == 0)))) :: (63, .v (.bool (((v17.1.length : Int) == 0)))) :: (64, .v (.bool (((v17.1.length : Int) == 0)))) :: (65, .v (.bool true)) :: (66, .v (.bool v20)) :: (67, .v (.bool v20)) :: (4, .v (.bool v20)) :: [])) (init := [0, 1, 2, 3]) (fin := [1, 24]) (sps := (⟨[3], [], [4], [(.slot 48)]⟩ :: ⟨[4], [], [5], [(.slot 49)]⟩ :: ⟨[5], [], [6], [(.slot 50)]⟩ :: ⟨[6, 2], [], [7], [(.slot 51)]⟩ :: ⟨[6, 7, 2], [], [8], [(.slot 52)]⟩ :: ⟨[6, 0], [], [9], [(.slot 53)]⟩ :: ⟨[6, 8, 9], [], [10], [(.slot 54)]⟩ :: ⟨[6, 10], [], [11], [(.slot 55)]⟩ :: ⟨[11], [], [12], [(.slot 56)]⟩ :: ⟨[12, 3], [], [13], [(.slot 57)]⟩ :: ⟨[12, 13], [], [14], [(.slot 58)]⟩ :: ⟨[12, 14], [], [15], [(.slot 59)]⟩ :: ⟨[15], [7, 2], [16], [(.slot 60)]⟩ :: ⟨[15, 16], [], [17], [(.slot 61)]⟩ :: ⟨[15, 17], [], [18], [(.slot 62)]⟩ :: ⟨[12, 15, 18], [], [19], [(.slot 63)]⟩ :: ⟨[12, 19], [], [20], [(.slot 64)]⟩ :: ⟨[20], [], [21], [(.slot 65)]⟩ :: ⟨[21, 1], [], [22], [(.slot 66)]⟩ :: ⟨[21, 22], [], [23], [(.slot 67)]⟩ :: ⟨[23], [], [24], [(.slot 4)]⟩ :: [])) (es' := [(_, _), (4, .v (.bool v20))]) (by kernel_rfl) rfl rfl
            ⟨st_plain rfl (op_move _ _ _ _ rfl rfl),
            st_plain rfl (op_bin _ _ _ _ _ rfl rfl rfl),
            st_plain rfl (op_move _ _ _ _ (congrArg (fun b => AV.v (Value.bool b)) hg8_2) rfl),
            st_run 2 50 true rfl rfl rfl (List.Mem.head _) (op_move _ _ _ _ rfl rfl),
            st_run 2 50 true rfl rfl rfl (List.Mem.head _) (op_call _ _ 12 _ _ rfl Tryd.call12 rfl (ok_cram_Encode v17.1 _ hv18) rfl rfl),
            st_run 2 50 true rfl rfl rfl (List.Mem.head _) (op_move _ _ _ _ rfl rfl),
            st_run 2 50 true rfl rfl rfl (List.Mem.head _) (op_bin _ _ _ _ _ rfl rfl rfl),
            st_plain rfl (op_pick _ _ true _ rfl rfl),
            st_plain rfl (op_move _ _ _ _ (congrArg (fun b => AV.v (Value.bool b)) hg8_8) rfl),
            st_run 8 56 false rfl rfl rfl (List.Mem.head _) (op_move _ _ _ _ rfl rfl),
            st_run 8 56 false rfl rfl rfl (List.Mem.head _) (op_bin _ _ _ _ _ rfl rfl rfl),
            st_run 8 56 false rfl rfl rfl (List.Mem.head _) (op_move _ _ _ _ (congrArg (fun b => AV.v (Value.bool b)) hg8_11) rfl),
            st_run 11 59 true rfl rfl rfl (List.Mem.head _) (LOp.drop [_] (op_move_take _ _ _ _ rfl)),
            st_run 11 59 true rfl rfl rfl (List.Mem.head _) (op_len_fl _ _ _ Tryd.underlying22 rfl (by decide) (map_len _)),
            st_run 11 59 true rfl rfl rfl (List.Mem.head _) (op_bin _ _ _ _ _ rfl rfl rfl),
            st_run 8 56 false rfl rfl rfl (List.Mem.head _) (op_pick _ _ true _ rfl rfl),
            st_plain rfl (op_pick _ _ false _ rfl rfl),
            st_plain rfl (op_move _ _ _ _ (congrArg (fun b => AV.v (Value.bool b)) hg8_17) rfl),
            st_run 17 65 true rfl rfl rfl (List.Mem.head _) (op_callG _ _ 68 19 _ _ rfl Tryd.call19 rfl rfl (fun _ h => h) (ok_wherrylaw10_wakes mx  _ hv20) rfl rfl),
            st_plain rfl (op_pick _ _ true _ rfl rfl),
            st_plain rfl (op_assign _ _ _ _ rfl rfl),
            trivial⟩ ?_
           exact hl24 _ (Option.some.inj h).symm
          ·refine ht_seqR hn (El := (_ :: _ :: _ :: _ :: (48, .v (.int .i64 v17.2)) :: (49, .v (.bool (v17.2 == 0))) :: (50, .v (.bool true)) :: (51, .same (.slot 8)) :: (52, .v (.string v18)) :: (53, .v (.string s)) :: (54, .v (.bool (v18.toList == s.toList))) :: (55, .v (.bool (v18.toList == s.toList))) :: (56, .v (.bool false)) :: (57, .v (.int .i64 v17.2)) :: (58, .v (.bool (v17.2 == 5))) :: (59, .v (.bool true)) :: (60, .fl (.own 5) 1 (List.map (Value.int .u8) v17.1)) :: (61, .v (.int .i64 (v17.1.length : Int))) :: (62, .v (.bool (((v17.1.length : Int) == 0)))) :: (63, .v (.bool (((v17.1.length : Int) == 0)))) :: (64, .v (.bool (((v17.1.length : Int) == 0)))) :: (65, .v (.bool false)) :: (66, .v undef) :: (67, .v (.bool false)) :: (4, .v (.bool false)) :: [])) (init := [0, 1, 2, 3]) (fin := [1, 24]) (sps := (⟨[3], [], [4], [(.slot 48)]⟩ :: ⟨[4], [], [5], [(.slot 49)]⟩ :: ⟨[5], [], [6], [(.slot 50)]⟩ :: ⟨[6, 2], [], [7], [(.slot 51)]⟩ :: ⟨[6, 7, 2], [], [8], [(.slot 52)]⟩ :: ⟨[6, 0], [], [9], [(.slot 53)]⟩ :: ⟨[6, 8, 9], [], [10], [(.slot 54)]⟩ :: ⟨[6, 10], [], [11], [(.slot 55)]⟩ :: ⟨[11], [], [12], [(.slot 56)]⟩ :: ⟨[12, 3], [], [13], [(.slot 57)]⟩ :: ⟨[12, 13], [], [14], [(.slot 58)]⟩ :: ⟨[12, 14], [], [15], [(.slot 59)]⟩ :: ⟨[15], [7, 2], [16], [(.slot 60)]⟩ :: ⟨[15, 16], [], [17], [(.slot 61)]⟩ :: ⟨[15, 17], [], [18], [(.slot 62)]⟩ :: ⟨[12, 15, 18], [], [19], [(.slot 63)]⟩ :: ⟨[12, 19], [], [20], [(.slot 64)]⟩ :: ⟨[20], [], [21], [(.slot 65)]⟩ :: ⟨[21], [], [22], [(.slot 66)]⟩ :: ⟨[21], [], [23], [(.slot 67)]⟩ :: ⟨[23], [], [24], [(.slot 4)]⟩ :: [])) (es' := [(_, _), (4, .v (.bool false))]) (by kernel_rfl) rfl rfl
            ⟨st_plain rfl (op_move _ _ _ _ rfl rfl),
            st_plain rfl (op_bin _ _ _ _ _ rfl rfl rfl),
            st_plain rfl (op_move _ _ _ _ (congrArg (fun b => AV.v (Value.bool b)) hg8_2) rfl),
            st_run 2 50 true rfl rfl rfl (List.Mem.head _) (op_move _ _ _ _ rfl rfl),
            st_run 2 50 true rfl rfl rfl (List.Mem.head _) (op_call _ _ 12 _ _ rfl Tryd.call12 rfl (ok_cram_Encode v17.1 _ hv18) rfl rfl),
            st_run 2 50 true rfl rfl rfl (List.Mem.head _) (op_move _ _ _ _ rfl rfl),
            st_run 2 50 true rfl rfl rfl (List.Mem.head _) (op_bin _ _ _ _ _ rfl rfl rfl),
            st_plain rfl (op_pick _ _ true _ rfl rfl),
            st_plain rfl (op_move _ _ _ _ (congrArg (fun b => AV.v (Value.bool b)) hg8_8) rfl),
            st_run 8 56 false rfl rfl rfl (List.Mem.head _) (op_move _ _ _ _ rfl rfl),
            st_run 8 56 false rfl rfl rfl (List.Mem.head _) (op_bin _ _ _ _ _ rfl rfl rfl),
            st_run 8 56 false rfl rfl rfl (List.Mem.head _) (op_move _ _ _ _ (congrArg (fun b => AV.v (Value.bool b)) hg8_11) rfl),
            st_run 11 59 true rfl rfl rfl (List.Mem.head _) (LOp.drop [_] (op_move_take _ _ _ _ rfl)),
            st_run 11 59 true rfl rfl rfl (List.Mem.head _) (op_len_fl _ _ _ Tryd.underlying22 rfl (by decide) (map_len _)),
            st_run 11 59 true rfl rfl rfl (List.Mem.head _) (op_bin _ _ _ _ _ rfl rfl rfl),
            st_run 8 56 false rfl rfl rfl (List.Mem.head _) (op_pick _ _ true _ rfl rfl),
            st_plain rfl (op_pick _ _ false _ rfl rfl),
            st_plain rfl (op_move _ _ _ _ (congrArg (fun b => AV.v (Value.bool b)) hg8_17) rfl),
            st_skip 17 65 _ true rfl rfl rfl rfl (List.Mem.head _),
            st_plain rfl (op_pick _ _ false _ rfl rfl),
            st_plain rfl (op_assign _ _ _ _ rfl rfl),
            trivial⟩ ?_
           exact hl24 _ (Option.some.inj h).symm
         ·refine ht_seqR hn (El := (_ :: _ :: _ :: _ :: (48, .v (.int .i64 v17.2)) :: (49, .v (.bool (v17.2 == 0))) :: (50, .v (.bool true)) :: (51, .same (.slot 8)) :: (52, .v (.string v18)) :: (53, .v (.string s)) :: (54, .v (.bool (v18.toList == s.toList))) :: (55, .v (.bool (v18.toList == s.toList))) :: (56, .v (.bool false)) :: (57, .v (.int .i64 v17.2)) :: (58, .v (.bool (v17.2 == 5))) :: (59, .v (.bool false)) :: (60, .v undef) :: (61, .v undef) :: (62, .v undef) :: (63, .v (.bool false)) :: (64, .v (.bool false)) :: (65, .v (.bool false)) :: (66, .v undef) :: (67, .v (.bool false)) :: (4, .v (.bool false)) :: [])) (init := [0, 1, 2, 3]) (fin := [1, 24]) (sps := (⟨[3], [], [4], [(.slot 48)]⟩ :: ⟨[4], [], [5], [(.slot 49)]⟩ :: ⟨[5], [], [6], [(.slot 50)]⟩ :: ⟨[6, 2], [], [7], [(.slot 51)]⟩ :: ⟨[6, 7, 2], [], [8], [(.slot 52)]⟩ :: ⟨[6, 0], [], [9], [(.slot 53)]⟩ :: ⟨[6, 8, 9], [], [10], [(.slot 54)]⟩ :: ⟨[6, 10], [], [11], [(.slot 55)]⟩ :: ⟨[11], [], [12], [(.slot 56)]⟩ :: ⟨[12, 3], [], [13], [(.slot 57)]⟩ :: ⟨[12, 13], [], [14], [(.slot 58)]⟩ :: ⟨[12, 14], [], [15], [(.slot 59)]⟩ :: ⟨[15], [], [16], [(.slot 60)]⟩ :: ⟨[15], [], [17], [(.slot 61)]⟩ :: ⟨[15], [], [18], [(.slot 62)]⟩ :: ⟨[12, 15], [], [19], [(.slot 63)]⟩ :: ⟨[12, 19], [], [20], [(.slot 64)]⟩ :: ⟨[20], [], [21], [(.slot 65)]⟩ :: ⟨[21], [], [22], [(.slot 66)]⟩ :: ⟨[21], [], [23], [(.slot 67)]⟩ :: ⟨[23], [], [24], [(.slot 4)]⟩ :: [])) (es' := [(_, _), (4, .v (.bool false))]) (by kernel_rfl) rfl rfl
           ⟨st_plain rfl (op_move _ _ _ _ rfl rfl),
           st_plain rfl (op_bin _ _ _ _ _ rfl rfl rfl),
           st_plain rfl (op_move _ _ _ _ (congrArg (fun b => AV.v (Value.bool b)) hg8_2) rfl),
           st_run 2 50 true rfl rfl rfl (List.Mem.head _) (op_move _ _ _ _ rfl rfl),
           st_run 2 50 true rfl rfl rfl (List.Mem.head _) (op_call _ _ 12 _ _ rfl Tryd.call12 rfl (ok_cram_Encode v17.1 _ hv18) rfl rfl),
           st_run 2 50 true rfl rfl rfl (List.Mem.head _) (op_move _ _ _ _ rfl rfl),
           st_run 2 50 true rfl rfl rfl (List.Mem.head _) (op_bin _ _ _ _ _ rfl rfl rfl),
           st_plain rfl (op_pick _ _ true _ rfl rfl),
           st_plain rfl (op_move _ _ _ _ (congrArg (fun b => AV.v (Value.bool b)) hg8_8) rfl),
           st_run 8 56 false rfl rfl rfl (List.Mem.head _) (op_move _ _ _ _ rfl rfl),
           st_run 8 56 false rfl rfl rfl (List.Mem.head _) (op_bin _ _ _ _ _ rfl rfl rfl),
           st_run 8 56 false rfl rfl rfl (List.Mem.head _) (op_move _ _ _ _ (congrArg (fun b => AV.v (Value.bool b)) hg8_11) rfl),
           st_skip 11 59 _ true rfl rfl rfl rfl (List.Mem.head _),
           st_skip 11 59 _ true rfl rfl rfl rfl (List.Mem.head _),
           st_skip 11 59 _ true rfl rfl rfl rfl (List.Mem.head _),
           st_run 8 56 false rfl rfl rfl (List.Mem.head _) (op_pick _ _ false _ rfl rfl),
           st_plain rfl (op_pick _ _ false _ rfl rfl),
           st_plain rfl (op_move _ _ _ _ rfl rfl),
           st_skip 17 65 _ true rfl rfl rfl rfl (List.Mem.head _),
           st_plain rfl (op_pick _ _ false _ rfl rfl),
           st_plain rfl (op_assign _ _ _ _ rfl rfl),
           trivial⟩ ?_
          exact hl24 _ (Option.some.inj h).symm
       ·refine cond_some h (fun hg8_11 h => ?_) (fun hg8_11 h => ?_)
        ·refine cond_some h (fun hg8_17 h => ?_) (fun hg8_17 h => ?_)
         ·obtain ⟨v21, hv21, h⟩ := bind_some h
          refine ht_seqR hn (El := (_ :: _ :: _ :: _ :: (48, .v (.int .i64 v17.2)) :: (49, .v (.bool (v17.2 == 0))) :: (50, .v (.bool false)) :: (51, .v undef) :: (52, .v undef) :: (53, .v undef) :: (54, .v undef) :: (55, .v (.bool false)) :: (56, .v (.bool false)) :: (57, .v (.int .i64 v17.2)) :: (58, .v (.bool (v17.2 == 5))) :: (59, .v (.bool true)) :: (60, .fl (.own 5) 1 (List.map (Value.int .u8) v17.1)) :: (61, .v (.int .i64 (v17.1.length : Int))) :: (62, .v (.bool (((v17.1.length : Int) == 0)))) :: (63, .v (.bool (((v17.1.length : Int) == 0)))) :: (64, .v (.bool (((v17.1.length : Int) == 0)))) :: (65, .v (.bool true)) :: (66, .v (.bool v21)) :: (67, .v (.bool v21)) :: (4, .v (.bool v21)) :: [])) (init := [0, 1, 2, 3]) (fin := [1, 24]) (sps := (⟨[3], [], [4], [(.slot 48)]⟩ :: ⟨[4], [], [5], [(.slot 49)]⟩ :: ⟨[5], [], [6], [(.slot 50)]⟩ :: ⟨[6], [], [7], [(.slot 51)]⟩ :: ⟨[6], [], [8], [(.slot 52)]⟩ :: ⟨[6], [], [9], [(.slot 53)]⟩ :: ⟨[6], [], [10], [(.slot 54)]⟩ :: ⟨[6], [], [11], [(.slot 55)]⟩ :: ⟨[11], [], [12], [(.slot 56)]⟩ :: ⟨[12, 3], [], [13], [(.slot 57)]⟩ :: ⟨[12, 13], [], [14], [(.slot 58)]⟩ :: ⟨[12, 14], [], [15], [(.slot 59)]⟩ :: ⟨[15], [2], [16], [(.slot 60)]⟩ :: ⟨[15, 16], [], [17], [(.slot 61)]⟩ :: ⟨[15, 17], [], [18], [(.slot 62)]⟩ :: ⟨[12, 15, 18], [], [19], [(.slot 63)]⟩ :: ⟨[12, 19], [], [20], [(.slot 64)]⟩ :: ⟨[20], [], [21], [(.slot 65)]⟩ :: ⟨[21, 1], [], [22], [(.slot 66)]⟩ :: ⟨[21, 22], [], [23], [(.slot 67)]⟩ :: ⟨[23], [], [24], [(.slot 4)]⟩ :: [])) (es' := [(_, _), (4, .v (.bool v21))]) (by kernel_rfl) rfl rfl
           ⟨st_plain rfl (op_move _ _ _ _ rfl rfl),
           st_plain rfl (op_bin _ _ _ _ _ rfl rfl rfl),
           st_plain rfl (op_move _ _ _ _ (congrArg (fun b => AV.v (Value.bool b)) hg8_2) rfl),
           st_skip 2 50 _ true rfl rfl rfl rfl (List.Mem.head _),
           st_skip 2 50 _ true rfl rfl rfl rfl (List.Mem.head _),
           st_skip 2 50 _ true rfl rfl rfl rfl (List.Mem.head _),
           st_skip 2 50 _ true rfl rfl rfl rfl (List.Mem.head _),
           st_plain rfl (op_pick _ _ false _ rfl rfl),
           st_plain rfl (op_move _ _ _ _ rfl rfl),
           st_run 8 56 false rfl rfl rfl (List.Mem.head _) (op_move _ _ _ _ rfl rfl),
           st_run 8 56 false rfl rfl rfl (List.Mem.head _) (op_bin _ _ _ _ _ rfl rfl rfl),
           st_run 8 56 false rfl rfl rfl (List.Mem.head _) (op_move _ _ _ _ (congrArg (fun b => AV.v (Value.bool b)) hg8_11) rfl),
           st_run 11 59 true rfl rfl rfl (List.Mem.head _) (op_move_take _ _ _ _ rfl),
           st_run 11 59 true rfl rfl rfl (List.Mem.head _) (op_len_fl _ _ _ Tryd.underlying22 rfl (by decide) (map_len _)),
           st_run 11 59 true rfl rfl rfl (List.Mem.head _) (op_bin _ _ _ _ _ rfl rfl rfl),
           st_run 8 56 false rfl rfl rfl (List.Mem.head _) (op_pick _ _ true _ rfl rfl),
           st_plain rfl (op_pick _ _ false _ rfl rfl),
           st_plain rfl (op_move _ _ _ _ (congrArg (fun b => AV.v (Value.bool b)) hg8_17) rfl),
           st_run 17 65 true rfl rfl rfl (List.Mem.head _) (op_callG _ _ 68 19 _ _ rfl Tryd.call19 rfl rfl (fun _ h => h) (ok_wherrylaw10_wakes mx  _ hv21) rfl rfl),
           st_plain rfl (op_pick _ _ true _ rfl rfl),
           st_plain rfl (op_assign _ _ _ _ rfl rfl),
           trivial⟩ ?_
          exact hl24 _ (Option.some.inj h).symm
         ·refine ht_seqR hn (El := (_ :: _ :: _ :: _ :: (48, .v (.int .i64 v17.2)) :: (49, .v (.bool (v17.2 == 0))) :: (50, .v (.bool false)) :: (51, .v undef) :: (52, .v undef) :: (53, .v undef) :: (54, .v undef) :: (55, .v (.bool false)) :: (56, .v (.bool false)) :: (57, .v (.int .i64 v17.2)) :: (58, .v (.bool (v17.2 == 5))) :: (59, .v (.bool true)) :: (60, .fl (.own 5) 1 (List.map (Value.int .u8) v17.1)) :: (61, .v (.int .i64 (v17.1.length : Int))) :: (62, .v (.bool (((v17.1.length : Int) == 0)))) :: (63, .v (.bool (((v17.1.length : Int) == 0)))) :: (64, .v (.bool (((v17.1.length : Int) == 0)))) :: (65, .v (.bool false)) :: (66, .v undef) :: (67, .v (.bool false)) :: (4, .v (.bool false)) :: [])) (init := [0, 1, 2, 3]) (fin := [1, 24]) (sps := (⟨[3], [], [4], [(.slot 48)]⟩ :: ⟨[4], [], [5], [(.slot 49)]⟩ :: ⟨[5], [], [6], [(.slot 50)]⟩ :: ⟨[6], [], [7], [(.slot 51)]⟩ :: ⟨[6], [], [8], [(.slot 52)]⟩ :: ⟨[6], [], [9], [(.slot 53)]⟩ :: ⟨[6], [], [10], [(.slot 54)]⟩ :: ⟨[6], [], [11], [(.slot 55)]⟩ :: ⟨[11], [], [12], [(.slot 56)]⟩ :: ⟨[12, 3], [], [13], [(.slot 57)]⟩ :: ⟨[12, 13], [], [14], [(.slot 58)]⟩ :: ⟨[12, 14], [], [15], [(.slot 59)]⟩ :: ⟨[15], [2], [16], [(.slot 60)]⟩ :: ⟨[15, 16], [], [17], [(.slot 61)]⟩ :: ⟨[15, 17], [], [18], [(.slot 62)]⟩ :: ⟨[12, 15, 18], [], [19], [(.slot 63)]⟩ :: ⟨[12, 19], [], [20], [(.slot 64)]⟩ :: ⟨[20], [], [21], [(.slot 65)]⟩ :: ⟨[21], [], [22], [(.slot 66)]⟩ :: ⟨[21], [], [23], [(.slot 67)]⟩ :: ⟨[23], [], [24], [(.slot 4)]⟩ :: [])) (es' := [(_, _), (4, .v (.bool false))]) (by kernel_rfl) rfl rfl
           ⟨st_plain rfl (op_move _ _ _ _ rfl rfl),
           st_plain rfl (op_bin _ _ _ _ _ rfl rfl rfl),
           st_plain rfl (op_move _ _ _ _ (congrArg (fun b => AV.v (Value.bool b)) hg8_2) rfl),
           st_skip 2 50 _ true rfl rfl rfl rfl (List.Mem.head _),
           st_skip 2 50 _ true rfl rfl rfl rfl (List.Mem.head _),
           st_skip 2 50 _ true rfl rfl rfl rfl (List.Mem.head _),
           st_skip 2 50 _ true rfl rfl rfl rfl (List.Mem.head _),
           st_plain rfl (op_pick _ _ false _ rfl rfl),
           st_plain rfl (op_move _ _ _ _ rfl rfl),
           st_run 8 56 false rfl rfl rfl (List.Mem.head _) (op_move _ _ _ _ rfl rfl),
           st_run 8 56 false rfl rfl rfl (List.Mem.head _) (op_bin _ _ _ _ _ rfl rfl rfl),
           st_run 8 56 false rfl rfl rfl (List.Mem.head _) (op_move _ _ _ _ (congrArg (fun b => AV.v (Value.bool b)) hg8_11) rfl),
           st_run 11 59 true rfl rfl rfl (List.Mem.head _) (op_move_take _ _ _ _ rfl),
           st_run 11 59 true rfl rfl rfl (List.Mem.head _) (op_len_fl _ _ _ Tryd.underlying22 rfl (by decide) (map_len _)),
           st_run 11 59 true rfl rfl rfl (List.Mem.head _) (op_bin _ _ _ _ _ rfl rfl rfl),
           st_run 8 56 false rfl rfl rfl (List.Mem.head _) (op_pick _ _ true _ rfl rfl),
           st_plain rfl (op_pick _ _ false _ rfl rfl),
           st_plain rfl (op_move _ _ _ _ (congrArg (fun b => AV.v (Value.bool b)) hg8_17) rfl),
           st_skip 17 65 _ true rfl rfl rfl rfl (List.Mem.head _),
           st_plain rfl (op_pick _ _ false _ rfl rfl),
           st_plain rfl (op_assign _ _ _ _ rfl rfl),
           trivial⟩ ?_
          exact hl24 _ (Option.some.inj h).symm
        ·refine ht_seqR hn (El := (_ :: _ :: _ :: _ :: (48, .v (.int .i64 v17.2)) :: (49, .v (.bool (v17.2 == 0))) :: (50, .v (.bool false)) :: (51, .v undef) :: (52, .v undef) :: (53, .v undef) :: (54, .v undef) :: (55, .v (.bool false)) :: (56, .v (.bool false)) :: (57, .v (.int .i64 v17.2)) :: (58, .v (.bool (v17.2 == 5))) :: (59, .v (.bool false)) :: (60, .v undef) :: (61, .v undef) :: (62, .v undef) :: (63, .v (.bool false)) :: (64, .v (.bool false)) :: (65, .v (.bool false)) :: (66, .v undef) :: (67, .v (.bool false)) :: (4, .v (.bool false)) :: [])) (init := [0, 1, 2, 3]) (fin := [1, 24]) (sps := (⟨[3], [], [4], [(.slot 48)]⟩ :: ⟨[4], [], [5], [(.slot 49)]⟩ :: ⟨[5], [], [6], [(.slot 50)]⟩ :: ⟨[6], [], [7], [(.slot 51)]⟩ :: ⟨[6], [], [8], [(.slot 52)]⟩ :: ⟨[6], [], [9], [(.slot 53)]⟩ :: ⟨[6], [], [10], [(.slot 54)]⟩ :: ⟨[6], [], [11], [(.slot 55)]⟩ :: ⟨[11], [], [12], [(.slot 56)]⟩ :: ⟨[12, 3], [], [13], [(.slot 57)]⟩ :: ⟨[12, 13], [], [14], [(.slot 58)]⟩ :: ⟨[12, 14], [], [15], [(.slot 59)]⟩ :: ⟨[15], [], [16], [(.slot 60)]⟩ :: ⟨[15], [], [17], [(.slot 61)]⟩ :: ⟨[15], [], [18], [(.slot 62)]⟩ :: ⟨[12, 15], [], [19], [(.slot 63)]⟩ :: ⟨[12, 19], [], [20], [(.slot 64)]⟩ :: ⟨[20], [], [21], [(.slot 65)]⟩ :: ⟨[21], [], [22], [(.slot 66)]⟩ :: ⟨[21], [], [23], [(.slot 67)]⟩ :: ⟨[23], [], [24], [(.slot 4)]⟩ :: [])) (es' := [(_, _), (4, .v (.bool false))]) (by kernel_rfl) rfl rfl
          ⟨st_plain rfl (op_move _ _ _ _ rfl rfl),
          st_plain rfl (op_bin _ _ _ _ _ rfl rfl rfl),
          st_plain rfl (op_move _ _ _ _ (congrArg (fun b => AV.v (Value.bool b)) hg8_2) rfl),
          st_skip 2 50 _ true rfl rfl rfl rfl (List.Mem.head _),
          st_skip 2 50 _ true rfl rfl rfl rfl (List.Mem.head _),
          st_skip 2 50 _ true rfl rfl rfl rfl (List.Mem.head _),
          st_skip 2 50 _ true rfl rfl rfl rfl (List.Mem.head _),
          st_plain rfl (op_pick _ _ false _ rfl rfl),
          st_plain rfl (op_move _ _ _ _ rfl rfl),
          st_run 8 56 false rfl rfl rfl (List.Mem.head _) (op_move _ _ _ _ rfl rfl),
          st_run 8 56 false rfl rfl rfl (List.Mem.head _) (op_bin _ _ _ _ _ rfl rfl rfl),
          st_run 8 56 false rfl rfl rfl (List.Mem.head _) (op_move _ _ _ _ (congrArg (fun b => AV.v (Value.bool b)) hg8_11) rfl),
          st_skip 11 59 _ true rfl rfl rfl rfl (List.Mem.head _),
          st_skip 11 59 _ true rfl rfl rfl rfl (List.Mem.head _),
          st_skip 11 59 _ true rfl rfl rfl rfl (List.Mem.head _),
          st_run 8 56 false rfl rfl rfl (List.Mem.head _) (op_pick _ _ false _ rfl rfl),
          st_plain rfl (op_pick _ _ false _ rfl rfl),
          st_plain rfl (op_move _ _ _ _ rfl rfl),
          st_skip 17 65 _ true rfl rfl rfl rfl (List.Mem.head _),
          st_plain rfl (op_pick _ _ false _ rfl rfl),
          st_plain rfl (op_assign _ _ _ _ rfl rfl),
          trivial⟩ ?_
         exact hl24 _ (Option.some.inj h).symm
    ·intro u13 h hl14 hr15
     refine cond_some h (fun hg5_2 h => ?_) (fun hg5_2 h => ?_)
     ·refine ht_seqR hn (El := (_ :: _ :: _ :: _ :: _ :: _ :: (25, .v (.int .i64 v7.2)) :: (26, .v (.bool (v7.2 != 0))) :: (27, .v (.bool true)) :: (28, .v undef) :: (29, .v undef) :: (30, .v undef) :: (31, .v undef) :: (32, .v (.bool true)) :: (33, .v (.bool true)) :: (34, .v undef) :: (35, .v undef) :: (36, .v undef) :: (37, .v undef) :: (38, .v undef) :: (39, .v undef) :: (40, .v undef) :: (41, .v undef) :: (42, .v (.bool true)) :: [])) (init := [0, 1, 2, 3, 4, 5]) (fin := [1, 2, 23]) (sps := (⟨[5], [], [6], [(.slot 25)]⟩ :: ⟨[6], [], [7], [(.slot 26)]⟩ :: ⟨[7], [], [8], [(.slot 27)]⟩ :: ⟨[8], [], [9], [(.slot 28)]⟩ :: ⟨[8], [], [10], [(.slot 29)]⟩ :: ⟨[8], [], [11], [(.slot 30)]⟩ :: ⟨[8], [], [12], [(.slot 31)]⟩ :: ⟨[8], [], [13], [(.slot 32)]⟩ :: ⟨[13], [], [14], [(.slot 33)]⟩ :: ⟨[14], [], [15], [(.slot 34)]⟩ :: ⟨[14], [], [16], [(.slot 35)]⟩ :: ⟨[14], [], [17], [(.slot 36)]⟩ :: ⟨[14], [], [18], [(.slot 37)]⟩ :: ⟨[14], [], [19], [(.slot 38)]⟩ :: ⟨[14], [], [20], [(.slot 39)]⟩ :: ⟨[14], [], [21], [(.slot 40)]⟩ :: ⟨[14], [], [22], [(.slot 41)]⟩ :: ⟨[14], [], [23], [(.slot 42)]⟩ :: [])) (es' := [(_, _), (_, _), (42, .v (.bool true))]) (by kernel_rfl) rfl rfl
       ⟨st_plain rfl (op_move _ _ _ _ rfl rfl),
       st_plain rfl (op_bin _ _ _ _ _ rfl rfl rfl),
       st_plain rfl (op_move _ _ _ _ (congrArg (fun b => AV.v (Value.bool b)) hg5_2) rfl),
       st_skip 2 27 _ false rfl rfl rfl rfl (List.Mem.head _),
       st_skip 2 27 _ false rfl rfl rfl rfl (List.Mem.head _),
       st_skip 2 27 _ false rfl rfl rfl rfl (List.Mem.head _),
       st_skip 2 27 _ false rfl rfl rfl rfl (List.Mem.head _),
       st_plain rfl (op_pick _ _ true _ rfl rfl),
       st_plain rfl (op_move _ _ _ _ rfl rfl),
       st_skip 8 33 _ false rfl rfl rfl rfl (List.Mem.head _),
       st_skip 8 33 _ false rfl rfl rfl rfl (List.Mem.head _),
       st_skip 8 33 _ false rfl rfl rfl rfl (List.Mem.head _),
       st_skip 8 33 _ false rfl rfl rfl rfl (List.Mem.head _),
       st_skip 8 33 _ false rfl rfl rfl rfl (List.Mem.head _),
       st_skip 8 33 _ false rfl rfl rfl rfl (List.Mem.head _),
       st_skip 8 33 _ false rfl rfl rfl rfl (List.Mem.head _),
       st_skip 8 33 _ false rfl rfl rfl rfl (List.Mem.head _),
       st_plain rfl (op_pick _ _ true _ rfl rfl),
       trivial⟩ ?_
      exact hl14 _ (Option.some.inj h).symm
     ·obtain ⟨v8, hv8, h⟩ := bind_some h
      refine cond_some h (fun hg5_8 h => ?_) (fun hg5_8 h => ?_)
      ·refine ht_seqR hn (El := (_ :: _ :: _ :: _ :: _ :: _ :: (25, .v (.int .i64 v7.2)) :: (26, .v (.bool (v7.2 != 0))) :: (27, .v (.bool false)) :: (28, .fl (.own 5) 1 (List.map (Value.int .u8) v7.1)) :: (29, .fl .shr 1 (List.map (Value.int .u8) b)) :: (30, .v (.bool v8)) :: (31, .v (.bool (!v8))) :: (32, .v (.bool (!v8))) :: (33, .v (.bool true)) :: (34, .v undef) :: (35, .v undef) :: (36, .v undef) :: (37, .v undef) :: (38, .v undef) :: (39, .v undef) :: (40, .v undef) :: (41, .v undef) :: (42, .v (.bool true)) :: [])) (init := [0, 1, 2, 3, 4, 5]) (fin := [1, 2, 23]) (sps := (⟨[5], [], [6], [(.slot 25)]⟩ :: ⟨[6], [], [7], [(.slot 26)]⟩ :: ⟨[7], [], [8], [(.slot 27)]⟩ :: ⟨[8], [4], [9], [(.slot 28)]⟩ :: ⟨[8, 0], [], [10], [(.slot 29)]⟩ :: ⟨[8, 9, 10], [], [11], [(.slot 30)]⟩ :: ⟨[8, 11], [], [12], [(.slot 31)]⟩ :: ⟨[8, 12], [], [13], [(.slot 32)]⟩ :: ⟨[13], [], [14], [(.slot 33)]⟩ :: ⟨[14], [], [15], [(.slot 34)]⟩ :: ⟨[14], [], [16], [(.slot 35)]⟩ :: ⟨[14], [], [17], [(.slot 36)]⟩ :: ⟨[14], [], [18], [(.slot 37)]⟩ :: ⟨[14], [], [19], [(.slot 38)]⟩ :: ⟨[14], [], [20], [(.slot 39)]⟩ :: ⟨[14], [], [21], [(.slot 40)]⟩ :: ⟨[14], [], [22], [(.slot 41)]⟩ :: ⟨[14], [], [23], [(.slot 42)]⟩ :: [])) (es' := [(_, _), (_, _), (42, .v (.bool true))]) (by kernel_rfl) rfl rfl
        ⟨st_plain rfl (op_move _ _ _ _ rfl rfl),
        st_plain rfl (op_bin _ _ _ _ _ rfl rfl rfl),
        st_plain rfl (op_move _ _ _ _ (congrArg (fun b => AV.v (Value.bool b)) hg5_2) rfl),
        st_run 2 27 false rfl rfl rfl (List.Mem.head _) (op_move_take _ _ _ _ rfl),
        st_run 2 27 false rfl rfl rfl (List.Mem.head _) (op_move _ _ _ _ rfl rfl),
        st_run 2 27 false rfl rfl rfl (List.Mem.head _) (op_call _ _ 16 _ _ rfl Tryd.call16 rfl (ok_wherrykeep_Bytes v7.1 b _ hv8) rfl rfl),
        st_run 2 27 false rfl rfl rfl (List.Mem.head _) (op_un _ _ _ _ rfl rfl),
        st_plain rfl (op_pick _ _ false _ rfl rfl),
        st_plain rfl (op_move _ _ _ _ (congrArg (fun b => AV.v (Value.bool b)) hg5_8) rfl),
        st_skip 8 33 _ false rfl rfl rfl rfl (List.Mem.head _),
        st_skip 8 33 _ false rfl rfl rfl rfl (List.Mem.head _),
        st_skip 8 33 _ false rfl rfl rfl rfl (List.Mem.head _),
        st_skip 8 33 _ false rfl rfl rfl rfl (List.Mem.head _),
        st_skip 8 33 _ false rfl rfl rfl rfl (List.Mem.head _),
        st_skip 8 33 _ false rfl rfl rfl rfl (List.Mem.head _),
        st_skip 8 33 _ false rfl rfl rfl rfl (List.Mem.head _),
        st_skip 8 33 _ false rfl rfl rfl rfl (List.Mem.head _),
        st_plain rfl (op_pick _ _ true _ rfl rfl),
        trivial⟩ ?_
       exact hl14 _ (Option.some.inj h).symm
      ·obtain ⟨v9, hv9, h⟩ := bind_some h
       obtain ⟨v10, hv10, h⟩ := bind_some h
       obtain ⟨v11, hv11, h⟩ := bind_some h
       refine ht_seqR hn (El := (_ :: _ :: _ :: _ :: _ :: _ :: (25, .v (.int .i64 v7.2)) :: (26, .v (.bool (v7.2 != 0))) :: (27, .v (.bool false)) :: (28, .fl (.own 5) 1 (List.map (Value.int .u8) v7.1)) :: (29, .fl .shr 1 (List.map (Value.int .u8) b)) :: (30, .v (.bool v8)) :: (31, .v (.bool (!v8))) :: (32, .v (.bool (!v8))) :: (33, .v (.bool false)) :: (34, .v (.string v6)) :: (35, .v (.int .i64 (v6.size : Int))) :: (36, .fl .shr 1 (List.map (Value.int .u8) b)) :: (37, .v (.int .i64 (b.length : Int))) :: (38, .v (.int .i64 v9)) :: (39, .v (.int .i64 v10)) :: (40, .v (.int .i64 v11)) :: (41, .v (.bool (((v6.size : Int) != v11)))) :: (42, .v (.bool (((v6.size : Int) != v11)))) :: [])) (init := [0, 1, 2, 3, 4, 5]) (fin := [1, 2, 23]) (sps := (⟨[5], [], [6], [(.slot 25)]⟩ :: ⟨[6], [], [7], [(.slot 26)]⟩ :: ⟨[7], [], [8], [(.slot 27)]⟩ :: ⟨[8], [4], [9], [(.slot 28)]⟩ :: ⟨[8, 0], [], [10], [(.slot 29)]⟩ :: ⟨[8, 9, 10], [], [11], [(.slot 30)]⟩ :: ⟨[8, 11], [], [12], [(.slot 31)]⟩ :: ⟨[8, 12], [], [13], [(.slot 32)]⟩ :: ⟨[13], [], [14], [(.slot 33)]⟩ :: ⟨[14, 3], [], [15], [(.slot 34)]⟩ :: ⟨[14, 15], [], [16], [(.slot 35)]⟩ :: ⟨[14, 0], [], [17], [(.slot 36)]⟩ :: ⟨[14, 17], [], [18], [(.slot 37)]⟩ :: ⟨[14, 18], [], [19], [(.slot 38)]⟩ :: ⟨[14, 19], [], [20], [(.slot 39)]⟩ :: ⟨[14, 20], [], [21], [(.slot 40)]⟩ :: ⟨[14, 16, 21], [], [22], [(.slot 41)]⟩ :: ⟨[14, 22], [], [23], [(.slot 42)]⟩ :: [])) (es' := [(_, _), (_, _), (42, .v (.bool (((v6.size : Int) != v11))))]) (by kernel_rfl) rfl rfl
        ⟨st_plain rfl (op_move _ _ _ _ rfl rfl),
        st_plain rfl (op_bin _ _ _ _ _ rfl rfl rfl),
        st_plain rfl (op_move _ _ _ _ (congrArg (fun b => AV.v (Value.bool b)) hg5_2) rfl),
        st_run 2 27 false rfl rfl rfl (List.Mem.head _) (op_move_take _ _ _ _ rfl),
        st_run 2 27 false rfl rfl rfl (List.Mem.head _) (op_move _ _ _ _ rfl rfl),
        st_run 2 27 false rfl rfl rfl (List.Mem.head _) (op_call _ _ 16 _ _ rfl Tryd.call16 rfl (ok_wherrykeep_Bytes v7.1 b _ hv8) rfl rfl),
        st_run 2 27 false rfl rfl rfl (List.Mem.head _) (op_un _ _ _ _ rfl rfl),
        st_plain rfl (op_pick _ _ false _ rfl rfl),
        st_plain rfl (op_move _ _ _ _ (congrArg (fun b => AV.v (Value.bool b)) hg5_8) rfl),
        st_run 8 33 false rfl rfl rfl (List.Mem.head _) (op_move _ _ _ _ rfl rfl),
        st_run 8 33 false rfl rfl rfl (List.Mem.head _) (op_len_str _ _ _ Tryd.underlying9 rfl),
        st_run 8 33 false rfl rfl rfl (List.Mem.head _) (op_move _ _ _ _ rfl rfl),
        st_run 8 33 false rfl rfl rfl (List.Mem.head _) (op_len_fl _ _ _ Tryd.underlying22 rfl (by decide) (map_len _)),
        st_run 8 33 false rfl rfl rfl (List.Mem.head _) (op_bin _ _ _ _ _ rfl rfl (ibind (f := Value.int .i64) (Option.some.inj hv9))),
        st_run 8 33 false rfl rfl rfl (List.Mem.head _) (op_bin _ _ _ _ _ rfl rfl (quo_ok hv10)),
        st_run 8 33 false rfl rfl rfl (List.Mem.head _) (op_bin _ _ _ _ _ rfl rfl (ibind (f := Value.int .i64) (Option.some.inj hv11))),
        st_run 8 33 false rfl rfl rfl (List.Mem.head _) (op_bin _ _ _ _ _ rfl rfl rfl),
        st_plain rfl (op_pick _ _ false _ rfl rfl),
        trivial⟩ ?_
       exact hl14 _ (Option.some.inj h).symm
  ·intro u2 h hl3 hr4
   refine cond_some h (fun hg1_3 h => ?_) (fun hg1_3 h => ?_)
   ·refine ht_seqR hn (El := [_, _, _, (10, .fl .shr 1 (List.map (Value.int .u8) b)), (11, .v (.int .i64 (b.length : Int))), (12, .v (.bool ((decide (300 < (b.length : Int)))))), (13, .v (.bool true)), (14, .v undef), (15, .v undef), (16, .v undef), (17, .v (.bool true))]) (init := [0, 1, 2]) (fin := [0, 1, 2, 10]) (sps := [⟨[0], [], [3], [(.slot 10)]⟩, ⟨[3], [], [4], [(.slot 11)]⟩, ⟨[4], [], [5], [(.slot 12)]⟩, ⟨[5], [], [6], [(.slot 13)]⟩, ⟨[6], [], [7], [(.slot 14)]⟩, ⟨[6], [], [8], [(.slot 15)]⟩, ⟨[6], [], [9], [(.slot 16)]⟩, ⟨[6], [], [10], [(.slot 17)]⟩]) (es' := [(_, _), (_, _), (_, _), (17, .v (.bool true))]) (by kernel_rfl) rfl rfl
     ⟨st_plain rfl (op_move _ _ _ _ rfl rfl),
     st_plain rfl (op_len_fl _ _ _ Tryd.underlying22 rfl (by decide) (map_len _)),
     st_plain rfl (op_bin _ _ _ _ _ rfl rfl rfl),
     st_plain rfl (op_move _ _ _ _ (congrArg (fun b => AV.v (Value.bool b)) hg1_3) rfl),
     st_skip 3 13 _ false rfl rfl rfl rfl (List.Mem.head _),
     st_skip 3 13 _ false rfl rfl rfl rfl (List.Mem.head _),
     st_skip 3 13 _ false rfl rfl rfl rfl (List.Mem.head _),
     st_plain rfl (op_pick _ _ true _ rfl rfl),
     trivial⟩ ?_
    exact hl3 _ (Option.some.inj h).symm
   ·refine ht_seqR hn (El := [_, _, _, (10, .fl .shr 1 (List.map (Value.int .u8) b)), (11, .v (.int .i64 (b.length : Int))), (12, .v (.bool ((decide (300 < (b.length : Int)))))), (13, .v (.bool false)), (14, .v (.string s)), (15, .v (.int .i64 (s.size : Int))), (16, .v (.bool ((decide (400 < (s.size : Int)))))), (17, .v (.bool ((decide (400 < (s.size : Int))))))]) (init := [0, 1, 2]) (fin := [0, 1, 2, 10]) (sps := [⟨[0], [], [3], [(.slot 10)]⟩, ⟨[3], [], [4], [(.slot 11)]⟩, ⟨[4], [], [5], [(.slot 12)]⟩, ⟨[5], [], [6], [(.slot 13)]⟩, ⟨[6, 1], [], [7], [(.slot 14)]⟩, ⟨[6, 7], [], [8], [(.slot 15)]⟩, ⟨[6, 8], [], [9], [(.slot 16)]⟩, ⟨[6, 9], [], [10], [(.slot 17)]⟩]) (es' := [(_, _), (_, _), (_, _), (17, .v (.bool ((decide (400 < (s.size : Int))))))]) (by kernel_rfl) rfl rfl
     ⟨st_plain rfl (op_move _ _ _ _ rfl rfl),
     st_plain rfl (op_len_fl _ _ _ Tryd.underlying22 rfl (by decide) (map_len _)),
     st_plain rfl (op_bin _ _ _ _ _ rfl rfl rfl),
     st_plain rfl (op_move _ _ _ _ (congrArg (fun b => AV.v (Value.bool b)) hg1_3) rfl),
     st_run 3 13 false rfl rfl rfl (List.Mem.head _) (op_move _ _ _ _ rfl rfl),
     st_run 3 13 false rfl rfl rfl (List.Mem.head _) (op_len_str _ _ _ Tryd.underlying9 rfl),
     st_run 3 13 false rfl rfl rfl (List.Mem.head _) (op_bin _ _ _ _ _ rfl rfl rfl),
     st_plain rfl (op_pick _ _ false _ rfl rfl),
     trivial⟩ ?_
    exact hl3 _ (Option.some.inj h).symm

end Go.Proofs.YtadkeipbkbkneaaDoor
