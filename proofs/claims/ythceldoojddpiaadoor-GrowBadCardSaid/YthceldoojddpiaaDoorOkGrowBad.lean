/-
  The model's runs are what is told in Lean.
-/
import Derived.Test.YthceldoojddpiaaDoorProg
import Derived.KernelRfl
import Derived.Test.YthceldoojddpiaaDoorOkc3
set_option linter.unusedVariables false
set_option linter.unusedSimpArgs false
namespace Go.Proofs.YthceldoojddpiaaDoor
open Go.Abs Go.Abs.Sh

set_option maxHeartbeats 1000000 in
theorem ok_wherrylaw07_GrowBad (mx : Int) (how : Int) (c : Int) (r : Bool) (h : Sh.wherrylaw07_GrowBad how c = some r) : FnG Tryd.prog (GL mx) 8 [.v (.int .i64 how), .v (.int .u8 c)] (.v (.bool r)) := by
  unfold Sh.wherrylaw07_GrowBad at h
  refine fn_okG Tryd.func8 rfl (Nat.le_of_ble_eq_true rfl) rfl rfl fun g0 hn hio => ?_
  refine ht_seq ?_
  refine ht_seqR hn (El := [_, _, _, (4, .v (.bool false))]) (init := [0, 1, 2]) (fin := [0, 1, 2]) (sps := [⟨[], [], [3], [(.slot 4)]⟩]) (es' := [(_, _), (_, _), (_, _)]) (by kernel_rfl) rfl rfl
   ⟨st_plain rfl (op_assign _ _ _ _ rfl rfl),
   trivial⟩ ?_
  refine pt_then ?_
  refine ht_seq ?_
  refine ht_seqR hn (El := [_, _, _, (5, .v (.slice none 0 0))]) (init := [0, 1, 2]) (fin := [0, 1, 2]) (sps := [⟨[], [], [3], [(.slot 5)]⟩]) (es' := [(_, _), (_, _), (_, _)]) (by kernel_rfl) rfl rfl
   ⟨st_plain rfl (op_assign _ _ _ _ rfl rfl),
   trivial⟩ ?_
  refine pt_then ?_
  refine ht_seq ?_
  refine ht_joinS h (fun (s19 : (List Int)) => [(65, .glob (GL mx)), (5, .fl (.own 5) 1 (List.map (Value.int .u8) s19))]) ?_ ?_
  ·rintro s19 h
   refine pt_then ?_
   refine ht_seq ?_
   obtain ⟨v39, hv39, h⟩ := bind_some h
   refine ht_seqR hn (El := [_, _, (38, .same (.slot 5)), (39, .tup [.fl .ro 1 (List.map (Value.int .u8) v39.1), .v (.int .i64 v39.2)]), (37, .tup [.fl .ro 1 (List.map (Value.int .u8) v39.1), .v (.int .i64 v39.2)]), (40, .fl .ro 1 (List.map (Value.int .u8) v39.1)), (41, .v (.int .i64 v39.2)), (6, .fl .ro 1 (List.map (Value.int .u8) v39.1)), (7, .v (.int .i64 v39.2))]) (init := [0, 1]) (fin := [0, 1, 7, 8]) (sps := [⟨[1], [], [2], [(.slot 38)]⟩, ⟨[2, 1, 0], [], [3], [(.slot 39)]⟩, ⟨[], [3], [4], [(.slot 37)]⟩, ⟨[4], [], [5], [(.slot 40)]⟩, ⟨[4], [], [6], [(.slot 41)]⟩, ⟨[5], [], [7], [(.slot 6)]⟩, ⟨[6], [], [8], [(.slot 7)]⟩]) (es' := [(_, _), (_, _), (6, .fl .ro 1 (List.map (Value.int .u8) v39.1)), (7, .v (.int .i64 v39.2))]) (by kernel_rfl) rfl rfl
    ⟨st_plain rfl (op_move _ _ _ _ rfl rfl),
    st_plain rfl (op_callG _ _ 65 11 _ _ rfl Tryd.call11 rfl rfl (fun _ h => h) (ok_grow_Grow mx s19 4096 _ hv39) rfl rfl),
    st_plain rfl (op_move_take _ _ _ _ rfl),
    st_plain rfl (op_extract _ _ _ _ _ rfl rfl (Nat.le_of_ble_eq_true rfl) rfl rfl),
    st_plain rfl (op_extract _ _ _ _ _ rfl rfl (Nat.le_of_ble_eq_true rfl) rfl rfl),
    st_plain rfl (op_assign _ _ _ _ rfl rfl),
    st_plain rfl (op_assign _ _ _ _ rfl rfl),
    trivial⟩ ?_
   refine pt_then ?_
   refine ht_seq ?_
   obtain ⟨v40, hv40, h⟩ := bind_some h
   refine ht_seqR hn (El := [_, _, _, _, (43, .fl (.own 5) 1 (List.map (Value.int .u8) s19)), (44, .tup [.v (.int .i64 v40.1), .v (.int .i64 v40.2)]), (42, .tup [.v (.int .i64 v40.1), .v (.int .i64 v40.2)]), (45, .v (.int .i64 v40.1)), (46, .v (.int .i64 v40.2)), (8, .v (.int .i64 v40.1)), (9, .v (.int .i64 v40.2))]) (init := [0, 1, 2, 3]) (fin := [0, 2, 3, 9, 10]) (sps := [⟨[], [1], [4], [(.slot 43)]⟩, ⟨[4, 0], [], [5], [(.slot 44)]⟩, ⟨[], [5], [6], [(.slot 42)]⟩, ⟨[6], [], [7], [(.slot 45)]⟩, ⟨[6], [], [8], [(.slot 46)]⟩, ⟨[7], [], [9], [(.slot 8)]⟩, ⟨[8], [], [10], [(.slot 9)]⟩]) (es' := [(_, _), (_, _), (_, _), (8, .v (.int .i64 v40.1)), (9, .v (.int .i64 v40.2))]) (by kernel_rfl) rfl rfl
    ⟨st_plain rfl (op_move_take _ _ _ _ rfl),
    st_plain rfl (op_callG _ _ 65 12 _ _ rfl Tryd.call12 rfl rfl (fun _ h => h) (ok_grow_Blocks mx s19 _ hv40) rfl rfl),
    st_plain rfl (op_move_take _ _ _ _ rfl),
    st_plain rfl (op_extract _ _ _ _ _ rfl rfl (Nat.le_of_ble_eq_true rfl) rfl rfl),
    st_plain rfl (op_extract _ _ _ _ _ rfl rfl (Nat.le_of_ble_eq_true rfl) rfl rfl),
    st_plain rfl (op_assign _ _ _ _ rfl rfl),
    st_plain rfl (op_assign _ _ _ _ rfl rfl),
    trivial⟩ ?_
   refine pt_then ?_
   refine ht_seq ?_
   refine ht_joinS h (fun (s42 : Bool) => [(65, .glob (GL mx)), (4, .v (.bool s42))]) ?_ ?_
   ·rintro s42 h
    refine pt_then ?_
    refine ht_ret ?_
    refine pt_pick [1] (by kernel_rfl) (es' := [(_, _)]) rfl ?_
    obtain rfl := Option.some.inj h
    exact pt_ret hio rfl (.tmp _ _ .nil) rfl rfl
   ·intro u43 h hl44 hr45
    refine cond_some h (fun hg18_2 h => ?_) (fun hg18_2 h => ?_)
    ·refine cond_some h (fun hg18_6 h => ?_) (fun hg18_6 h => ?_)
     ·refine cond_some h (fun hg18_11 h => ?_) (fun hg18_11 h => ?_)
      ·refine cond_some h (fun hg18_15 h => ?_) (fun hg18_15 h => ?_)
       ·obtain ⟨v41, hv41, h⟩ := bind_some h
        refine ht_seqR hn (El := (_ :: _ :: _ :: _ :: _ :: (47, .v (.int .i64 v39.2)) :: (48, .v (.bool (v39.2 == 3))) :: (49, .v (.bool true)) :: (50, .v (.int .i64 v40.2)) :: (51, .v (.bool (v40.2 == 3))) :: (52, .v (.bool (v40.2 == 3))) :: (53, .v (.bool true)) :: (54, .fl .ro 1 (List.map (Value.int .u8) v39.1)) :: (55, .v (.int .i64 (v39.1.length : Int))) :: (56, .v (.bool (((v39.1.length : Int) == 0)))) :: (57, .v (.bool (((v39.1.length : Int) == 0)))) :: (58, .v (.bool true)) :: (59, .v (.int .i64 v40.1)) :: (60, .v (.bool (v40.1 == 0))) :: (61, .v (.bool (v40.1 == 0))) :: (62, .v (.bool true)) :: (63, .v (.bool v41)) :: (64, .v (.bool v41)) :: (4, .v (.bool v41)) :: [])) (init := [0, 1, 2, 3, 4]) (fin := [0, 23]) (sps := (⟨[2], [], [5], [(.slot 47)]⟩ :: ⟨[5], [], [6], [(.slot 48)]⟩ :: ⟨[6], [], [7], [(.slot 49)]⟩ :: ⟨[7, 4], [], [8], [(.slot 50)]⟩ :: ⟨[7, 8], [], [9], [(.slot 51)]⟩ :: ⟨[7, 9], [], [10], [(.slot 52)]⟩ :: ⟨[10], [], [11], [(.slot 53)]⟩ :: ⟨[11, 1], [], [12], [(.slot 54)]⟩ :: ⟨[11, 12], [], [13], [(.slot 55)]⟩ :: ⟨[11, 13], [], [14], [(.slot 56)]⟩ :: ⟨[11, 14], [], [15], [(.slot 57)]⟩ :: ⟨[15], [], [16], [(.slot 58)]⟩ :: ⟨[16, 3], [], [17], [(.slot 59)]⟩ :: ⟨[16, 17], [], [18], [(.slot 60)]⟩ :: ⟨[16, 18], [], [19], [(.slot 61)]⟩ :: ⟨[19], [], [20], [(.slot 62)]⟩ :: ⟨[20, 0], [], [21], [(.slot 63)]⟩ :: ⟨[20, 21], [], [22], [(.slot 64)]⟩ :: ⟨[22], [], [23], [(.slot 4)]⟩ :: [])) (es' := [(_, _), (4, .v (.bool v41))]) (by kernel_rfl) rfl rfl
         ⟨st_plain rfl (op_move _ _ _ _ rfl rfl),
         st_plain rfl (op_bin _ _ _ _ _ rfl rfl rfl),
         st_plain rfl (op_move _ _ _ _ (congrArg (fun b => AV.v (Value.bool b)) hg18_2) rfl),
         st_run 2 49 true rfl rfl rfl (List.Mem.head _) (op_move _ _ _ _ rfl rfl),
         st_run 2 49 true rfl rfl rfl (List.Mem.head _) (op_bin _ _ _ _ _ rfl rfl rfl),
         st_plain rfl (op_pick _ _ true _ rfl rfl),
         st_plain rfl (op_move _ _ _ _ (congrArg (fun b => AV.v (Value.bool b)) hg18_6) rfl),
         st_run 6 53 true rfl rfl rfl (List.Mem.head _) (op_move _ _ _ _ rfl rfl),
         st_run 6 53 true rfl rfl rfl (List.Mem.head _) (op_len_fl _ _ _ Tryd.underlying22 rfl (by decide) (map_len _)),
         st_run 6 53 true rfl rfl rfl (List.Mem.head _) (op_bin _ _ _ _ _ rfl rfl rfl),
         st_plain rfl (op_pick _ _ true _ rfl rfl),
         st_plain rfl (op_move _ _ _ _ (congrArg (fun b => AV.v (Value.bool b)) hg18_11) rfl),
         st_run 11 58 true rfl rfl rfl (List.Mem.head _) (op_move _ _ _ _ rfl rfl),
         st_run 11 58 true rfl rfl rfl (List.Mem.head _) (op_bin _ _ _ _ _ rfl rfl rfl),
         st_plain rfl (op_pick _ _ true _ rfl rfl),
         st_plain rfl (op_move _ _ _ _ (congrArg (fun b => AV.v (Value.bool b)) hg18_15) rfl),
         st_run 15 62 true rfl rfl rfl (List.Mem.head _) (op_callG _ _ 65 14 _ _ rfl Tryd.call14 rfl rfl (fun _ h => h) (ok_wherrylaw07_wakes mx  _ hv41) rfl rfl),
         st_plain rfl (op_pick _ _ true _ rfl rfl),
         st_plain rfl (op_assign _ _ _ _ rfl rfl),
         trivial⟩ ?_
        exact hl44 _ (Option.some.inj h).symm
       ·refine ht_seqR hn (El := (_ :: _ :: _ :: _ :: _ :: (47, .v (.int .i64 v39.2)) :: (48, .v (.bool (v39.2 == 3))) :: (49, .v (.bool true)) :: (50, .v (.int .i64 v40.2)) :: (51, .v (.bool (v40.2 == 3))) :: (52, .v (.bool (v40.2 == 3))) :: (53, .v (.bool true)) :: (54, .fl .ro 1 (List.map (Value.int .u8) v39.1)) :: (55, .v (.int .i64 (v39.1.length : Int))) :: (56, .v (.bool (((v39.1.length : Int) == 0)))) :: (57, .v (.bool (((v39.1.length : Int) == 0)))) :: (58, .v (.bool true)) :: (59, .v (.int .i64 v40.1)) :: (60, .v (.bool (v40.1 == 0))) :: (61, .v (.bool (v40.1 == 0))) :: (62, .v (.bool false)) :: (63, .v undef) :: (64, .v (.bool false)) :: (4, .v (.bool false)) :: [])) (init := [0, 1, 2, 3, 4]) (fin := [0, 23]) (sps := (⟨[2], [], [5], [(.slot 47)]⟩ :: ⟨[5], [], [6], [(.slot 48)]⟩ :: ⟨[6], [], [7], [(.slot 49)]⟩ :: ⟨[7, 4], [], [8], [(.slot 50)]⟩ :: ⟨[7, 8], [], [9], [(.slot 51)]⟩ :: ⟨[7, 9], [], [10], [(.slot 52)]⟩ :: ⟨[10], [], [11], [(.slot 53)]⟩ :: ⟨[11, 1], [], [12], [(.slot 54)]⟩ :: ⟨[11, 12], [], [13], [(.slot 55)]⟩ :: ⟨[11, 13], [], [14], [(.slot 56)]⟩ :: ⟨[11, 14], [], [15], [(.slot 57)]⟩ :: ⟨[15], [], [16], [(.slot 58)]⟩ :: ⟨[16, 3], [], [17], [(.slot 59)]⟩ :: ⟨[16, 17], [], [18], [(.slot 60)]⟩ :: ⟨[16, 18], [], [19], [(.slot 61)]⟩ :: ⟨[19], [], [20], [(.slot 62)]⟩ :: ⟨[20], [], [21], [(.slot 63)]⟩ :: ⟨[20], [], [22], [(.slot 64)]⟩ :: ⟨[22], [], [23], [(.slot 4)]⟩ :: [])) (es' := [(_, _), (4, .v (.bool false))]) (by kernel_rfl) rfl rfl
         ⟨st_plain rfl (op_move _ _ _ _ rfl rfl),
         st_plain rfl (op_bin _ _ _ _ _ rfl rfl rfl),
         st_plain rfl (op_move _ _ _ _ (congrArg (fun b => AV.v (Value.bool b)) hg18_2) rfl),
         st_run 2 49 true rfl rfl rfl (List.Mem.head _) (op_move _ _ _ _ rfl rfl),
         st_run 2 49 true rfl rfl rfl (List.Mem.head _) (op_bin _ _ _ _ _ rfl rfl rfl),
         st_plain rfl (op_pick _ _ true _ rfl rfl),
         st_plain rfl (op_move _ _ _ _ (congrArg (fun b => AV.v (Value.bool b)) hg18_6) rfl),
         st_run 6 53 true rfl rfl rfl (List.Mem.head _) (op_move _ _ _ _ rfl rfl),
         st_run 6 53 true rfl rfl rfl (List.Mem.head _) (op_len_fl _ _ _ Tryd.underlying22 rfl (by decide) (map_len _)),
         st_run 6 53 true rfl rfl rfl (List.Mem.head _) (op_bin _ _ _ _ _ rfl rfl rfl),
         st_plain rfl (op_pick _ _ true _ rfl rfl),
         st_plain rfl (op_move _ _ _ _ (congrArg (fun b => AV.v (Value.bool b)) hg18_11) rfl),
         st_run 11 58 true rfl rfl rfl (List.Mem.head _) (op_move _ _ _ _ rfl rfl),
         st_run 11 58 true rfl rfl rfl (List.Mem.head _) (op_bin _ _ _ _ _ rfl rfl rfl),
         st_plain rfl (op_pick _ _ true _ rfl rfl),
         st_plain rfl (op_move _ _ _ _ (congrArg (fun b => AV.v (Value.bool b)) hg18_15) rfl),
         st_skip 15 62 _ true rfl rfl rfl rfl (List.Mem.head _),
         st_plain rfl (op_pick _ _ false _ rfl rfl),
         st_plain rfl (op_assign _ _ _ _ rfl rfl),
         trivial⟩ ?_
        exact hl44 _ (Option.some.inj h).symm
      ·refine ht_seqR hn (El := (_ :: _ :: _ :: _ :: _ :: (47, .v (.int .i64 v39.2)) :: (48, .v (.bool (v39.2 == 3))) :: (49, .v (.bool true)) :: (50, .v (.int .i64 v40.2)) :: (51, .v (.bool (v40.2 == 3))) :: (52, .v (.bool (v40.2 == 3))) :: (53, .v (.bool true)) :: (54, .fl .ro 1 (List.map (Value.int .u8) v39.1)) :: (55, .v (.int .i64 (v39.1.length : Int))) :: (56, .v (.bool (((v39.1.length : Int) == 0)))) :: (57, .v (.bool (((v39.1.length : Int) == 0)))) :: (58, .v (.bool false)) :: (59, .v undef) :: (60, .v undef) :: (61, .v (.bool false)) :: (62, .v (.bool false)) :: (63, .v undef) :: (64, .v (.bool false)) :: (4, .v (.bool false)) :: [])) (init := [0, 1, 2, 3, 4]) (fin := [0, 23]) (sps := (⟨[2], [], [5], [(.slot 47)]⟩ :: ⟨[5], [], [6], [(.slot 48)]⟩ :: ⟨[6], [], [7], [(.slot 49)]⟩ :: ⟨[7, 4], [], [8], [(.slot 50)]⟩ :: ⟨[7, 8], [], [9], [(.slot 51)]⟩ :: ⟨[7, 9], [], [10], [(.slot 52)]⟩ :: ⟨[10], [], [11], [(.slot 53)]⟩ :: ⟨[11, 1], [], [12], [(.slot 54)]⟩ :: ⟨[11, 12], [], [13], [(.slot 55)]⟩ :: ⟨[11, 13], [], [14], [(.slot 56)]⟩ :: ⟨[11, 14], [], [15], [(.slot 57)]⟩ :: ⟨[15], [], [16], [(.slot 58)]⟩ :: ⟨[16], [], [17], [(.slot 59)]⟩ :: ⟨[16], [], [18], [(.slot 60)]⟩ :: ⟨[16], [], [19], [(.slot 61)]⟩ :: ⟨[19], [], [20], [(.slot 62)]⟩ :: ⟨[20], [], [21], [(.slot 63)]⟩ :: ⟨[20], [], [22], [(.slot 64)]⟩ :: ⟨[22], [], [23], [(.slot 4)]⟩ :: [])) (es' := [(_, _), (4, .v (.bool false))]) (by kernel_rfl) rfl rfl
        ⟨st_plain rfl (op_move _ _ _ _ rfl rfl),
        st_plain rfl (op_bin _ _ _ _ _ rfl rfl rfl),
        st_plain rfl (op_move _ _ _ _ (congrArg (fun b => AV.v (Value.bool b)) hg18_2) rfl),
        st_run 2 49 true rfl rfl rfl (List.Mem.head _) (op_move _ _ _ _ rfl rfl),
        st_run 2 49 true rfl rfl rfl (List.Mem.head _) (op_bin _ _ _ _ _ rfl rfl rfl),
        st_plain rfl (op_pick _ _ true _ rfl rfl),
        st_plain rfl (op_move _ _ _ _ (congrArg (fun b => AV.v (Value.bool b)) hg18_6) rfl),
        st_run 6 53 true rfl rfl rfl (List.Mem.head _) (op_move _ _ _ _ rfl rfl),
        st_run 6 53 true rfl rfl rfl (List.Mem.head _) (op_len_fl _ _ _ Tryd.underlying22 rfl (by decide) (map_len _)),
        st_run 6 53 true rfl rfl rfl (List.Mem.head _) (op_bin _ _ _ _ _ rfl rfl rfl),
        st_plain rfl (op_pick _ _ true _ rfl rfl),
        st_plain rfl (op_move _ _ _ _ (congrArg (fun b => AV.v (Value.bool b)) hg18_11) rfl),
        st_skip 11 58 _ true rfl rfl rfl rfl (List.Mem.head _),
        st_skip 11 58 _ true rfl rfl rfl rfl (List.Mem.head _),
        st_plain rfl (op_pick _ _ false _ rfl rfl),
        st_plain rfl (op_move _ _ _ _ rfl rfl),
        st_skip 15 62 _ true rfl rfl rfl rfl (List.Mem.head _),
        st_plain rfl (op_pick _ _ false _ rfl rfl),
        st_plain rfl (op_assign _ _ _ _ rfl rfl),
        trivial⟩ ?_
       exact hl44 _ (Option.some.inj h).symm
     ·refine ht_seqR hn (El := (_ :: _ :: _ :: _ :: _ :: (47, .v (.int .i64 v39.2)) :: (48, .v (.bool (v39.2 == 3))) :: (49, .v (.bool true)) :: (50, .v (.int .i64 v40.2)) :: (51, .v (.bool (v40.2 == 3))) :: (52, .v (.bool (v40.2 == 3))) :: (53, .v (.bool false)) :: (54, .v undef) :: (55, .v undef) :: (56, .v undef) :: (57, .v (.bool false)) :: (58, .v (.bool false)) :: (59, .v undef) :: (60, .v undef) :: (61, .v (.bool false)) :: (62, .v (.bool false)) :: (63, .v undef) :: (64, .v (.bool false)) :: (4, .v (.bool false)) :: [])) (init := [0, 1, 2, 3, 4]) (fin := [0, 23]) (sps := (⟨[2], [], [5], [(.slot 47)]⟩ :: ⟨[5], [], [6], [(.slot 48)]⟩ :: ⟨[6], [], [7], [(.slot 49)]⟩ :: ⟨[7, 4], [], [8], [(.slot 50)]⟩ :: ⟨[7, 8], [], [9], [(.slot 51)]⟩ :: ⟨[7, 9], [], [10], [(.slot 52)]⟩ :: ⟨[10], [], [11], [(.slot 53)]⟩ :: ⟨[11], [], [12], [(.slot 54)]⟩ :: ⟨[11], [], [13], [(.slot 55)]⟩ :: ⟨[11], [], [14], [(.slot 56)]⟩ :: ⟨[11], [], [15], [(.slot 57)]⟩ :: ⟨[15], [], [16], [(.slot 58)]⟩ :: ⟨[16], [], [17], [(.slot 59)]⟩ :: ⟨[16], [], [18], [(.slot 60)]⟩ :: ⟨[16], [], [19], [(.slot 61)]⟩ :: ⟨[19], [], [20], [(.slot 62)]⟩ :: ⟨[20], [], [21], [(.slot 63)]⟩ :: ⟨[20], [], [22], [(.slot 64)]⟩ :: ⟨[22], [], [23], [(.slot 4)]⟩ :: [])) (es' := [(_, _), (4, .v (.bool false))]) (by kernel_rfl) rfl rfl
       ⟨st_plain rfl (op_move _ _ _ _ rfl rfl),
       st_plain rfl (op_bin _ _ _ _ _ rfl rfl rfl),
       st_plain rfl (op_move _ _ _ _ (congrArg (fun b => AV.v (Value.bool b)) hg18_2) rfl),
       st_run 2 49 true rfl rfl rfl (List.Mem.head _) (op_move _ _ _ _ rfl rfl),
       st_run 2 49 true rfl rfl rfl (List.Mem.head _) (op_bin _ _ _ _ _ rfl rfl rfl),
       st_plain rfl (op_pick _ _ true _ rfl rfl),
       st_plain rfl (op_move _ _ _ _ (congrArg (fun b => AV.v (Value.bool b)) hg18_6) rfl),
       st_skip 6 53 _ true rfl rfl rfl rfl (List.Mem.head _),
       st_skip 6 53 _ true rfl rfl rfl rfl (List.Mem.head _),
       st_skip 6 53 _ true rfl rfl rfl rfl (List.Mem.head _),
       st_plain rfl (op_pick _ _ false _ rfl rfl),
       st_plain rfl (op_move _ _ _ _ rfl rfl),
       st_skip 11 58 _ true rfl rfl rfl rfl (List.Mem.head _),
       st_skip 11 58 _ true rfl rfl rfl rfl (List.Mem.head _),
       st_plain rfl (op_pick _ _ false _ rfl rfl),
       st_plain rfl (op_move _ _ _ _ rfl rfl),
       st_skip 15 62 _ true rfl rfl rfl rfl (List.Mem.head _),
       st_plain rfl (op_pick _ _ false _ rfl rfl),
       st_plain rfl (op_assign _ _ _ _ rfl rfl),
       trivial⟩ ?_
      exact hl44 _ (Option.some.inj h).symm
    ·refine ht_seqR hn (El := (_ :: _ :: _ :: _ :: _ :: (47, .v (.int .i64 v39.2)) :: (48, .v (.bool (v39.2 == 3))) :: (49, .v (.bool false)) :: (50, .v undef) :: (51, .v undef) :: (52, .v (.bool false)) :: (53, .v (.bool false)) :: (54, .v undef) :: (55, .v undef) :: (56, .v undef) :: (57, .v (.bool false)) :: (58, .v (.bool false)) :: (59, .v undef) :: (60, .v undef) :: (61, .v (.bool false)) :: (62, .v (.bool false)) :: (63, .v undef) :: (64, .v (.bool false)) :: (4, .v (.bool false)) :: [])) (init := [0, 1, 2, 3, 4]) (fin := [0, 23]) (sps := (⟨[2], [], [5], [(.slot 47)]⟩ :: ⟨[5], [], [6], [(.slot 48)]⟩ :: ⟨[6], [], [7], [(.slot 49)]⟩ :: ⟨[7], [], [8], [(.slot 50)]⟩ :: ⟨[7], [], [9], [(.slot 51)]⟩ :: ⟨[7], [], [10], [(.slot 52)]⟩ :: ⟨[10], [], [11], [(.slot 53)]⟩ :: ⟨[11], [], [12], [(.slot 54)]⟩ :: ⟨[11], [], [13], [(.slot 55)]⟩ :: ⟨[11], [], [14], [(.slot 56)]⟩ :: ⟨[11], [], [15], [(.slot 57)]⟩ :: ⟨[15], [], [16], [(.slot 58)]⟩ :: ⟨[16], [], [17], [(.slot 59)]⟩ :: ⟨[16], [], [18], [(.slot 60)]⟩ :: ⟨[16], [], [19], [(.slot 61)]⟩ :: ⟨[19], [], [20], [(.slot 62)]⟩ :: ⟨[20], [], [21], [(.slot 63)]⟩ :: ⟨[20], [], [22], [(.slot 64)]⟩ :: ⟨[22], [], [23], [(.slot 4)]⟩ :: [])) (es' := [(_, _), (4, .v (.bool false))]) (by kernel_rfl) rfl rfl
      ⟨st_plain rfl (op_move _ _ _ _ rfl rfl),
      st_plain rfl (op_bin _ _ _ _ _ rfl rfl rfl),
      st_plain rfl (op_move _ _ _ _ (congrArg (fun b => AV.v (Value.bool b)) hg18_2) rfl),
      st_skip 2 49 _ true rfl rfl rfl rfl (List.Mem.head _),
      st_skip 2 49 _ true rfl rfl rfl rfl (List.Mem.head _),
      st_plain rfl (op_pick _ _ false _ rfl rfl),
      st_plain rfl (op_move _ _ _ _ rfl rfl),
      st_skip 6 53 _ true rfl rfl rfl rfl (List.Mem.head _),
      st_skip 6 53 _ true rfl rfl rfl rfl (List.Mem.head _),
      st_skip 6 53 _ true rfl rfl rfl rfl (List.Mem.head _),
      st_plain rfl (op_pick _ _ false _ rfl rfl),
      st_plain rfl (op_move _ _ _ _ rfl rfl),
      st_skip 11 58 _ true rfl rfl rfl rfl (List.Mem.head _),
      st_skip 11 58 _ true rfl rfl rfl rfl (List.Mem.head _),
      st_plain rfl (op_pick _ _ false _ rfl rfl),
      st_plain rfl (op_move _ _ _ _ rfl rfl),
      st_skip 15 62 _ true rfl rfl rfl rfl (List.Mem.head _),
      st_plain rfl (op_pick _ _ false _ rfl rfl),
      st_plain rfl (op_assign _ _ _ _ rfl rfl),
      trivial⟩ ?_
     exact hl44 _ (Option.some.inj h).symm
  ·intro u20 h hl21 hr22
   refine ht_seq ?_
   obtain ⟨v1, hv1, h⟩ := bind_some h
   obtain ⟨v2, hv2, h⟩ := bind_some h
   refine ht_seqR hn (El := [_, _, _, (10, .v (.int .i64 how)), (11, .v (.int .u64 v1)), (12, .v (.int .u64 v2))]) (init := [0, 1, 2]) (fin := [1, 2, 5]) (sps := [⟨[0], [], [3], [(.slot 10)]⟩, ⟨[3], [], [4], [(.slot 11)]⟩, ⟨[4], [], [5], [(.slot 12)]⟩]) (es' := [(_, _), (_, _), (12, .v (.int .u64 v2))]) (by kernel_rfl) rfl rfl
    ⟨st_plain rfl (op_move _ _ _ _ rfl rfl),
    st_plain rfl ((Option.some.inj hv1) ▸ op_conv _ _ _ Tryd.underlying3 Tryd.underlying32 rfl),
    st_plain rfl (op_bin _ _ _ _ _ rfl rfl (rem_ok hv2)),
    trivial⟩ ?_
   refine pt_then ?_
   refine ht_joinS h (fun (s29 : (List Int)) => [(65, .glob (GL mx)), (5, .fl (.own 5) 1 (List.map (Value.int .u8) s29))]) ?_ ?_
   ·rintro s29 h
    exact hl21 _ (Option.some.inj h).symm
   ·intro u30 h hl31 hr32
    refine ht_block ?_
    refine ht_seq ?_
    refine ht_seqR hn (El := [_, _, _, (16, .v (.bool (v2 == 0))), (15, .v (.bool (v2 == 0)))]) (init := [0, 1, 2]) (fin := [0, 1, 2, 4]) (sps := [⟨[2], [], [3], [(.slot 16)]⟩, ⟨[3], [], [4], [(.slot 15)]⟩]) (es' := [(_, _), (_, _), (_, _), (15, .v (.bool (v2 == 0)))]) (by kernel_rfl) rfl rfl
     ⟨st_plain rfl (op_bin _ _ _ _ _ rfl rfl rfl),
     st_plain rfl (op_assign _ _ _ _ rfl rfl),
     trivial⟩ ?_
    refine pt_then ?_
    refine ht_cond _ rfl (fun hb33 => ?_) (fun hb33 => ?_)
    ·have h := cond_t hb33 h
     refine ht_seqR hn (El := [_, _, _, _, (17, .v (.int .u8 c)), (18, .fl (.own 5) 1 (List.map (Value.int .u8) [7, c])), (5, .fl (.own 5) 1 (List.map (Value.int .u8) [7, c]))]) (init := [0, 1, 2, 3]) (fin := [1, 6]) (sps := [⟨[0], [], [4], [(.slot 17)]⟩, ⟨[4], [], [5], [(.slot 18)]⟩, ⟨[], [5], [6], [(.slot 5)]⟩]) (es' := [(_, _), (5, .fl (.own 5) 1 (List.map (Value.int .u8) [7, c]))]) (by kernel_rfl) rfl rfl
      ⟨st_plain rfl (op_move _ _ _ _ rfl rfl),
      st_plain rfl (op_buildSlice _ _ 1 (.int .u8 0) (List.map (Value.int .u8) [7, c]) [(0, .int .u8 7), (1, .int .u8 c)] Tryd.underlying22 sz5 zr5 (fun _ V w o a hv hes => by have e1 := rd_v hv hes (x := .tmp 17) rfl; simp only [List.map_toArray, List.map_cons, List.map_nil, e1]; try rfl) (litfill (by simp [Instr.fill, Value.cells]; rfl) (by simp [List.range, List.range.loop] <;> rfl)) (by simp [Value.oneCell']) rfl (by decide) (by decide) (by decide)),
      st_plain rfl (op_assign_take _ _ _ _ rfl),
      trivial⟩ ?_
     refine pt_inb ?_
     exact hl31 _ (Option.some.inj h).symm
    ·have h := cond_f hb33 h
     refine ht_seq ?_
     refine ht_seqR hn (El := [_, _, _, _, (20, .v (.bool (v2 == 1))), (19, .v (.bool (v2 == 1)))]) (init := [0, 1, 2, 3]) (fin := [0, 1, 2, 5]) (sps := [⟨[2], [], [4], [(.slot 20)]⟩, ⟨[4], [], [5], [(.slot 19)]⟩]) (es' := [(_, _), (_, _), (_, _), (19, .v (.bool (v2 == 1)))]) (by kernel_rfl) rfl rfl
      ⟨st_plain rfl (op_bin _ _ _ _ _ rfl rfl rfl),
      st_plain rfl (op_assign _ _ _ _ rfl rfl),
      trivial⟩ ?_
     refine pt_then ?_
     refine ht_cond _ rfl (fun hb34 => ?_) (fun hb34 => ?_)
     ·have h := cond_t hb34 h
      refine ht_seqR hn (El := [_, _, _, _, (21, .v (.int .u8 c)), (22, .fl (.own 5) 1 (List.map (Value.int .u8) [1, 1, 0, 254, 254, c])), (5, .fl (.own 5) 1 (List.map (Value.int .u8) [1, 1, 0, 254, 254, c]))]) (init := [0, 1, 2, 3]) (fin := [1, 6]) (sps := [⟨[0], [], [4], [(.slot 21)]⟩, ⟨[4], [], [5], [(.slot 22)]⟩, ⟨[], [5], [6], [(.slot 5)]⟩]) (es' := [(_, _), (5, .fl (.own 5) 1 (List.map (Value.int .u8) [1, 1, 0, 254, 254, c]))]) (by kernel_rfl) rfl rfl
       ⟨st_plain rfl (op_move _ _ _ _ rfl rfl),
       st_plain rfl (op_buildSlice _ _ 1 (.int .u8 0) (List.map (Value.int .u8) [1, 1, 0, 254, 254, c]) [(0, .int .u8 1), (1, .int .u8 1), (2, .int .u8 0), (3, .int .u8 254), (4, .int .u8 254), (5, .int .u8 c)] Tryd.underlying22 sz5 zr5 (fun _ V w o a hv hes => by have e5 := rd_v hv hes (x := .tmp 21) rfl; simp only [List.map_toArray, List.map_cons, List.map_nil, e5]; try rfl) (litfill (by simp [Instr.fill, Value.cells]; rfl) (by simp [List.range, List.range.loop] <;> rfl)) (by simp [Value.oneCell']) rfl (by decide) (by decide) (by decide)),
       st_plain rfl (op_assign_take _ _ _ _ rfl),
       trivial⟩ ?_
      refine pt_inb ?_
      exact hl31 _ (Option.some.inj h).symm
     ·have h := cond_f hb34 h
      refine ht_seq ?_
      refine ht_seqR hn (El := [_, _, _, _, (24, .v (.bool (v2 == 2))), (23, .v (.bool (v2 == 2)))]) (init := [0, 1, 2, 3]) (fin := [0, 1, 2, 5]) (sps := [⟨[2], [], [4], [(.slot 24)]⟩, ⟨[4], [], [5], [(.slot 23)]⟩]) (es' := [(_, _), (_, _), (_, _), (23, .v (.bool (v2 == 2)))]) (by kernel_rfl) rfl rfl
       ⟨st_plain rfl (op_bin _ _ _ _ _ rfl rfl rfl),
       st_plain rfl (op_assign _ _ _ _ rfl rfl),
       trivial⟩ ?_
      refine pt_then ?_
      refine ht_cond _ rfl (fun hb35 => ?_) (fun hb35 => ?_)
      ·have h := cond_t hb35 h
       refine ht_seqR hn (El := [_, _, _, _, (25, .v (.int .u8 c)), (26, .fl (.own 5) 1 (List.map (Value.int .u8) [9, 1, 0, 254, 255, c])), (5, .fl (.own 5) 1 (List.map (Value.int .u8) [9, 1, 0, 254, 255, c]))]) (init := [0, 1, 2, 3]) (fin := [1, 6]) (sps := [⟨[0], [], [4], [(.slot 25)]⟩, ⟨[4], [], [5], [(.slot 26)]⟩, ⟨[], [5], [6], [(.slot 5)]⟩]) (es' := [(_, _), (5, .fl (.own 5) 1 (List.map (Value.int .u8) [9, 1, 0, 254, 255, c]))]) (by kernel_rfl) rfl rfl
        ⟨st_plain rfl (op_move _ _ _ _ rfl rfl),
        st_plain rfl (op_buildSlice _ _ 1 (.int .u8 0) (List.map (Value.int .u8) [9, 1, 0, 254, 255, c]) [(0, .int .u8 9), (1, .int .u8 1), (2, .int .u8 0), (3, .int .u8 254), (4, .int .u8 255), (5, .int .u8 c)] Tryd.underlying22 sz5 zr5 (fun _ V w o a hv hes => by have e5 := rd_v hv hes (x := .tmp 25) rfl; simp only [List.map_toArray, List.map_cons, List.map_nil, e5]; try rfl) (litfill (by simp [Instr.fill, Value.cells]; rfl) (by simp [List.range, List.range.loop] <;> rfl)) (by simp [Value.oneCell']) rfl (by decide) (by decide) (by decide)),
        st_plain rfl (op_assign_take _ _ _ _ rfl),
        trivial⟩ ?_
       refine pt_inb ?_
       exact hl31 _ (Option.some.inj h).symm
      ·have h := cond_f hb35 h
       refine ht_seq ?_
       refine ht_seqR hn (El := [_, _, _, _, (28, .v (.bool (v2 == 3))), (27, .v (.bool (v2 == 3)))]) (init := [0, 1, 2, 3]) (fin := [0, 1, 2, 5]) (sps := [⟨[2], [], [4], [(.slot 28)]⟩, ⟨[4], [], [5], [(.slot 27)]⟩]) (es' := [(_, _), (_, _), (_, _), (27, .v (.bool (v2 == 3)))]) (by kernel_rfl) rfl rfl
        ⟨st_plain rfl (op_bin _ _ _ _ _ rfl rfl rfl),
        st_plain rfl (op_assign _ _ _ _ rfl rfl),
        trivial⟩ ?_
       refine pt_then ?_
       refine ht_cond _ rfl (fun hb36 => ?_) (fun hb36 => ?_)
       ·have h := cond_t hb36 h
        refine ht_seqR hn (El := [_, _, _, _, (29, .v (.int .u8 c)), (30, .fl (.own 5) 1 (List.map (Value.int .u8) [0, 1, 0, 254, 255, c])), (5, .fl (.own 5) 1 (List.map (Value.int .u8) [0, 1, 0, 254, 255, c]))]) (init := [0, 1, 2, 3]) (fin := [1, 6]) (sps := [⟨[0], [], [4], [(.slot 29)]⟩, ⟨[4], [], [5], [(.slot 30)]⟩, ⟨[], [5], [6], [(.slot 5)]⟩]) (es' := [(_, _), (5, .fl (.own 5) 1 (List.map (Value.int .u8) [0, 1, 0, 254, 255, c]))]) (by kernel_rfl) rfl rfl
         ⟨st_plain rfl (op_move _ _ _ _ rfl rfl),
         st_plain rfl (op_buildSlice _ _ 1 (.int .u8 0) (List.map (Value.int .u8) [0, 1, 0, 254, 255, c]) [(0, .int .u8 0), (1, .int .u8 1), (2, .int .u8 0), (3, .int .u8 254), (4, .int .u8 255), (5, .int .u8 c)] Tryd.underlying22 sz5 zr5 (fun _ V w o a hv hes => by have e5 := rd_v hv hes (x := .tmp 29) rfl; simp only [List.map_toArray, List.map_cons, List.map_nil, e5]; try rfl) (litfill (by simp [Instr.fill, Value.cells]; rfl) (by simp [List.range, List.range.loop] <;> rfl)) (by simp [Value.oneCell']) rfl (by decide) (by decide) (by decide)),
         st_plain rfl (op_assign_take _ _ _ _ rfl),
         trivial⟩ ?_
        refine pt_inb ?_
        exact hl31 _ (Option.some.inj h).symm
       ·have h := cond_f hb36 h
        refine ht_seq ?_
        refine ht_seqR hn (El := [_, _, _, _, (32, .v (.bool (v2 == 4))), (31, .v (.bool (v2 == 4)))]) (init := [0, 1, 2, 3]) (fin := [0, 1, 2, 5]) (sps := [⟨[2], [], [4], [(.slot 32)]⟩, ⟨[4], [], [5], [(.slot 31)]⟩]) (es' := [(_, _), (_, _), (_, _), (31, .v (.bool (v2 == 4)))]) (by kernel_rfl) rfl rfl
         ⟨st_plain rfl (op_bin _ _ _ _ _ rfl rfl rfl),
         st_plain rfl (op_assign _ _ _ _ rfl rfl),
         trivial⟩ ?_
        refine pt_then ?_
        refine ht_cond _ rfl (fun hb37 => ?_) (fun hb37 => ?_)
        ·have h := cond_t hb37 h
         refine ht_seqR hn (El := [_, _, _, _, (33, .fl (.own 5) 1 (List.map (Value.int .u8) [245, 0, 0, 0, 0, 0])), (5, .fl (.own 5) 1 (List.map (Value.int .u8) [245, 0, 0, 0, 0, 0]))]) (init := [0, 1, 2, 3]) (fin := [1, 5]) (sps := [⟨[], [], [4], [(.slot 33)]⟩, ⟨[], [4], [5], [(.slot 5)]⟩]) (es' := [(_, _), (5, .fl (.own 5) 1 (List.map (Value.int .u8) [245, 0, 0, 0, 0, 0]))]) (by kernel_rfl) rfl rfl
          ⟨st_plain rfl (op_buildSlice _ _ 1 (.int .u8 0) (List.map (Value.int .u8) [245, 0, 0, 0, 0, 0]) [(0, .int .u8 245), (1, .int .u8 0), (2, .int .u8 0), (3, .int .u8 0), (4, .int .u8 0), (5, .int .u8 0)] Tryd.underlying22 sz5 zr5 (fun _ V w o a hv hes => by simp only [List.map_toArray, List.map_cons, List.map_nil]; try rfl) (litfill (by simp [Instr.fill, Value.cells]; rfl) (by simp [List.range, List.range.loop] <;> rfl)) (by simp [Value.oneCell']) rfl (by decide) (by decide) (by decide)),
          st_plain rfl (op_assign_take _ _ _ _ rfl),
          trivial⟩ ?_
         refine pt_inb ?_
         exact hl31 _ (Option.some.inj h).symm
        ·have h := cond_f hb37 h
         refine ht_seq ?_
         refine ht_seqR hn (El := [_, _, _, _, (35, .v (.bool (v2 == 5))), (34, .v (.bool (v2 == 5)))]) (init := [0, 1, 2, 3]) (fin := [0, 1, 5]) (sps := [⟨[2], [], [4], [(.slot 35)]⟩, ⟨[4], [], [5], [(.slot 34)]⟩]) (es' := [(_, _), (_, _), (34, .v (.bool (v2 == 5)))]) (by kernel_rfl) rfl rfl
          ⟨st_plain rfl (op_bin _ _ _ _ _ rfl rfl rfl),
          st_plain rfl (op_assign _ _ _ _ rfl rfl),
          trivial⟩ ?_
         refine pt_then ?_
         refine ht_cond _ rfl (fun hb38 => ?_) (fun hb38 => ?_)
         ·have h := cond_t hb38 h
          refine ht_seqR hn (El := [_, _, _, (36, .fl (.own 5) 1 (List.map (Value.int .u8) [5, 0, 0, 0, 0, 0])), (5, .fl (.own 5) 1 (List.map (Value.int .u8) [5, 0, 0, 0, 0, 0]))]) (init := [0, 1, 2]) (fin := [1, 4]) (sps := [⟨[], [], [3], [(.slot 36)]⟩, ⟨[], [3], [4], [(.slot 5)]⟩]) (es' := [(_, _), (5, .fl (.own 5) 1 (List.map (Value.int .u8) [5, 0, 0, 0, 0, 0]))]) (by kernel_rfl) rfl rfl
           ⟨st_plain rfl (op_buildSlice _ _ 1 (.int .u8 0) (List.map (Value.int .u8) [5, 0, 0, 0, 0, 0]) [(0, .int .u8 5), (1, .int .u8 0), (2, .int .u8 0), (3, .int .u8 0), (4, .int .u8 0), (5, .int .u8 0)] Tryd.underlying22 sz5 zr5 (fun _ V w o a hv hes => by simp only [List.map_toArray, List.map_cons, List.map_nil]; try rfl) (litfill (by simp [Instr.fill, Value.cells]; rfl) (by simp [List.range, List.range.loop] <;> rfl)) (by simp [Value.oneCell']) rfl (by decide) (by decide) (by decide)),
           st_plain rfl (op_assign_take _ _ _ _ rfl),
           trivial⟩ ?_
          refine pt_inb ?_
          exact hl31 _ (Option.some.inj h).symm
         ·have h := cond_f hb38 h
          refine ht_seqR hn (El := [_, _, _, (13, .v (.int .u8 c)), (14, .fl (.own 5) 1 (List.map (Value.int .u8) [1, 0, 0, 255, 255, c])), (5, .fl (.own 5) 1 (List.map (Value.int .u8) [1, 0, 0, 255, 255, c]))]) (init := [0, 1, 2]) (fin := [1, 5]) (sps := [⟨[0], [], [3], [(.slot 13)]⟩, ⟨[3], [], [4], [(.slot 14)]⟩, ⟨[], [4], [5], [(.slot 5)]⟩]) (es' := [(_, _), (5, .fl (.own 5) 1 (List.map (Value.int .u8) [1, 0, 0, 255, 255, c]))]) (by kernel_rfl) rfl rfl
           ⟨st_plain rfl (op_move _ _ _ _ rfl rfl),
           st_plain rfl (op_buildSlice _ _ 1 (.int .u8 0) (List.map (Value.int .u8) [1, 0, 0, 255, 255, c]) [(0, .int .u8 1), (1, .int .u8 0), (2, .int .u8 0), (3, .int .u8 255), (4, .int .u8 255), (5, .int .u8 c)] Tryd.underlying22 sz5 zr5 (fun _ V w o a hv hes => by have e5 := rd_v hv hes (x := .tmp 13) rfl; simp only [List.map_toArray, List.map_cons, List.map_nil, e5]; try rfl) (litfill (by simp [Instr.fill, Value.cells]; rfl) (by simp [List.range, List.range.loop] <;> rfl)) (by simp [Value.oneCell']) rfl (by decide) (by decide) (by decide)),
           st_plain rfl (op_assign_take _ _ _ _ rfl),
           trivial⟩ ?_
          refine pt_inb ?_
          exact hl31 _ (Option.some.inj h).symm

end Go.Proofs.YthceldoojddpiaaDoor
