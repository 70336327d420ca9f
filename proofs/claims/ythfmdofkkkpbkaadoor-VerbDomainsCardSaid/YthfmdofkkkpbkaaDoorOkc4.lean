/-
  The model's runs are what is told in Lean.
-/
import Derived.Test.YthfmdofkkkpbkaaDoorProg
import Derived.KernelRfl
import Derived.Test.YthfmdofkkkpbkaaDoorShelf
import Derived.Test.YthfmdofkkkpbkaaDoorOkc3
set_option linter.unusedVariables false
set_option linter.unusedSimpArgs false
namespace Go.Proofs.YthfmdofkkkpbkaaDoor
open Go.Abs Go.Abs.Sh

set_option maxHeartbeats 1000000 in
theorem ok_wherrylaw12_wakes (mx : Int) (r : Bool) (h : Sh.wherrylaw12_wakes  = some r) : FnG Tryd.prog (GL mx) 12 [] (.v (.bool r)) := by
  unfold Sh.wherrylaw12_wakes at h
  refine fn_okG Tryd.func12 rfl (Nat.le_of_ble_eq_true rfl) rfl rfl fun g0 hn hio => ?_
  refine ht_seq ?_
  refine ht_seqR hn (El := [_, (0, .v (.bool false))]) (init := [0]) (fin := [0]) (sps := [⟨[], [], [1], [(.slot 0)]⟩]) (es' := [(_, _)]) (by kernel_rfl) rfl rfl
   ⟨st_plain rfl (op_assign _ _ _ _ rfl rfl),
   trivial⟩ ?_
  refine pt_then ?_
  refine ht_seq ?_
  obtain ⟨v1, hv1, h⟩ := bind_some h
  refine ht_seqR hn (El := [_, (10, .tup [.agg [.v (.int .i64 v1.1.Kind), .v (.string v1.1.Text), .v (.bool v1.1.Path.Null), .v (.string v1.1.Path.Local), .v (.string v1.1.Path.Domain), .fl .ro 2 (List.flatten (List.map T_Param.enc v1.1.Params))], .v (.int .i64 v1.2)]), (9, .tup [.agg [.v (.int .i64 v1.1.Kind), .v (.string v1.1.Text), .v (.bool v1.1.Path.Null), .v (.string v1.1.Path.Local), .v (.string v1.1.Path.Domain), .fl .ro 2 (List.flatten (List.map T_Param.enc v1.1.Params))], .v (.int .i64 v1.2)]), (11, .agg [.v (.int .i64 v1.1.Kind), .v (.string v1.1.Text), .v (.bool v1.1.Path.Null), .v (.string v1.1.Path.Local), .v (.string v1.1.Path.Domain), .fl .ro 2 (List.flatten (List.map T_Param.enc v1.1.Params))]), (12, .v (.int .i64 v1.2)), (1, .box 26 [.v (.int .i64 0), .v (.string (⟨#[]⟩ : ByteArray)), .v (.bool false), .v (.string (⟨#[]⟩ : ByteArray)), .v (.string (⟨#[]⟩ : ByteArray)), .v (.slice none 0 0)]), (1, .box 26 [.v (.int .i64 v1.1.Kind), .v (.string v1.1.Text), .v (.bool v1.1.Path.Null), .v (.string v1.1.Path.Local), .v (.string v1.1.Path.Domain), .fl .ro 2 (List.flatten (List.map T_Param.enc v1.1.Params))]), (2, .v (.int .i64 v1.2))]) (init := [0]) (fin := [0, 6, 7]) (sps := [⟨[0], [], [1], [(.slot 10)]⟩, ⟨[], [1], [2], [(.slot 9)]⟩, ⟨[2], [], [3], [(.slot 11)]⟩, ⟨[2], [], [4], [(.slot 12)]⟩, ⟨[], [], [5], [(.slot 1)]⟩, ⟨[3], [5], [6], [.cell 1 0, .cell 1 1, .cell 1 2, .cell 1 3, .cell 1 4, .cell 1 5]⟩, ⟨[4], [], [7], [(.slot 2)]⟩]) (es' := [(_, _), (1, .box 26 [.v (.int .i64 v1.1.Kind), .v (.string v1.1.Text), .v (.bool v1.1.Path.Null), .v (.string v1.1.Path.Local), .v (.string v1.1.Path.Domain), .fl .ro 2 (List.flatten (List.map T_Param.enc v1.1.Params))]), (2, .v (.int .i64 v1.2))]) (by kernel_rfl) rfl rfl
   ⟨st_plain rfl (op_callG _ _ 58 10 _ _ rfl Tryd.call10 rfl rfl (fun _ h => h) (ok_verb_Parse mx (⟨#[109, 97, 105, 108, 32, 102, 114, 111, 109, 58, 60, 62, 32, 115, 105, 122, 101, 61, 53]⟩ : ByteArray) _ hv1) rfl rfl),
   st_plain rfl (op_move_take _ _ _ _ rfl),
   st_plain rfl (op_extract_no _ _ _ _ _ _ rfl rfl (Nat.le_of_ble_eq_true rfl) rfl rfl),
   st_plain rfl (op_extract _ _ _ _ _ rfl rfl (Nat.le_of_ble_eq_true rfl) rfl rfl),
   st_plain rfl (op_alloc _ _ zr26),
   st_plain rfl (op_store _ _ _ _ _ _ _ _ sz26 rfl rfl rfl rfl (Nat.le_of_ble_eq_true rfl) rfl rfl),
   st_plain rfl (op_assign _ _ _ _ rfl rfl),
   trivial⟩ ?_
  refine pt_then ?_
  refine ht_seq ?_
  obtain ⟨v2, hv2, h⟩ := bind_some h
  refine ht_seqR hn (El := [_, _, _, (14, .agg [.v (.int .i64 v1.1.Kind), .v (.string v1.1.Text), .v (.bool v1.1.Path.Null), .v (.string v1.1.Path.Local), .v (.string v1.1.Path.Domain), .fl .ro 2 (List.flatten (List.map T_Param.enc v1.1.Params))]), (15, .tup [.v (.string v2.1), .v (.int .i64 v2.2)]), (13, .tup [.v (.string v2.1), .v (.int .i64 v2.2)]), (16, .v (.string v2.1)), (17, .v (.int .i64 v2.2)), (3, .v (.string v2.1)), (4, .v (.int .i64 v2.2))]) (init := [0, 1, 2]) (fin := [0, 1, 2, 8, 9]) (sps := [⟨[1], [], [3], [(.slot 14)]⟩, ⟨[3, 0], [], [4], [(.slot 15)]⟩, ⟨[], [4], [5], [(.slot 13)]⟩, ⟨[5], [], [6], [(.slot 16)]⟩, ⟨[5], [], [7], [(.slot 17)]⟩, ⟨[6], [], [8], [(.slot 3)]⟩, ⟨[7], [], [9], [(.slot 4)]⟩]) (es' := [(_, _), (_, _), (_, _), (3, .v (.string v2.1)), (4, .v (.int .i64 v2.2))]) (by kernel_rfl) rfl rfl
   ⟨st_plain rfl (op_loadA _ _ _ _ _ _ _ Tryd.underlying26 rfl sz26 rfl rfl (Nat.le_of_ble_eq_true rfl) rfl rfl),
   st_plain rfl (op_callG _ _ 58 9 _ _ rfl Tryd.call9 rfl rfl (fun _ h => h) (ok_verb_Text mx ((T_Cmd.mk v1.1.Kind v1.1.Text (T_Path.mk v1.1.Path.Null v1.1.Path.Local v1.1.Path.Domain) v1.1.Params)) _ hv2) rfl rfl),
   st_plain rfl (op_move_take _ _ _ _ rfl),
   st_plain rfl (op_extract _ _ _ _ _ rfl rfl (Nat.le_of_ble_eq_true rfl) rfl rfl),
   st_plain rfl (op_extract _ _ _ _ _ rfl rfl (Nat.le_of_ble_eq_true rfl) rfl rfl),
   st_plain rfl (op_assign _ _ _ _ rfl rfl),
   st_plain rfl (op_assign _ _ _ _ rfl rfl),
   trivial⟩ ?_
  refine pt_then ?_
  refine ht_seq ?_
  obtain ⟨v3, hv3, h⟩ := bind_some h
  refine ht_seqR hn (El := [_, _, _, _, _, (19, .agg [.v (.int .i64 v1.1.Kind), .v (.string v1.1.Text), .v (.bool v1.1.Path.Null), .v (.string v1.1.Path.Local), .v (.string v1.1.Path.Domain), .fl .ro 2 (List.flatten (List.map T_Param.enc v1.1.Params))]), (20, .tup [.v (.string v3.1), .v (.bool v3.2)]), (18, .tup [.v (.string v3.1), .v (.bool v3.2)]), (21, .v (.string v3.1)), (22, .v (.bool v3.2)), (5, .v (.string v3.1)), (6, .v (.bool v3.2))]) (init := [0, 1, 2, 3, 4]) (fin := [0, 1, 2, 3, 4, 10, 11]) (sps := [⟨[1], [], [5], [(.slot 19)]⟩, ⟨[5], [], [6], [(.slot 20)]⟩, ⟨[], [6], [7], [(.slot 18)]⟩, ⟨[7], [], [8], [(.slot 21)]⟩, ⟨[7], [], [9], [(.slot 22)]⟩, ⟨[8], [], [10], [(.slot 5)]⟩, ⟨[9], [], [11], [(.slot 6)]⟩]) (es' := [(_, _), (_, _), (_, _), (_, _), (_, _), (5, .v (.string v3.1)), (6, .v (.bool v3.2))]) (by kernel_rfl) rfl rfl
   ⟨st_plain rfl (op_loadA _ _ _ _ _ _ _ Tryd.underlying26 rfl sz26 rfl rfl (Nat.le_of_ble_eq_true rfl) rfl rfl),
   st_plain rfl (op_call _ _ 21 _ _ rfl Tryd.call21 rfl (ok_verb_Param ((T_Cmd.mk v1.1.Kind v1.1.Text (T_Path.mk v1.1.Path.Null v1.1.Path.Local v1.1.Path.Domain) v1.1.Params)) (⟨#[83, 73, 90, 69]⟩ : ByteArray) _ hv3) rfl rfl),
   st_plain rfl (op_move_take _ _ _ _ rfl),
   st_plain rfl (op_extract _ _ _ _ _ rfl rfl (Nat.le_of_ble_eq_true rfl) rfl rfl),
   st_plain rfl (op_extract _ _ _ _ _ rfl rfl (Nat.le_of_ble_eq_true rfl) rfl rfl),
   st_plain rfl (op_assign _ _ _ _ rfl rfl),
   st_plain rfl (op_assign _ _ _ _ rfl rfl),
   trivial⟩ ?_
  refine pt_then ?_
  refine ht_seq ?_
  obtain ⟨v4, hv4, h⟩ := bind_some h
  refine ht_seqR hn (El := [_, _, _, _, _, _, _, (24, .tup [.agg [.v (.int .i64 v4.1.Kind), .v (.string v4.1.Text), .v (.bool v4.1.Path.Null), .v (.string v4.1.Path.Local), .v (.string v4.1.Path.Domain), .fl .ro 2 (List.flatten (List.map T_Param.enc v4.1.Params))], .v (.int .i64 v4.2)]), (23, .tup [.agg [.v (.int .i64 v4.1.Kind), .v (.string v4.1.Text), .v (.bool v4.1.Path.Null), .v (.string v4.1.Path.Local), .v (.string v4.1.Path.Domain), .fl .ro 2 (List.flatten (List.map T_Param.enc v4.1.Params))], .v (.int .i64 v4.2)]), (25, .agg [.v (.int .i64 v4.1.Kind), .v (.string v4.1.Text), .v (.bool v4.1.Path.Null), .v (.string v4.1.Path.Local), .v (.string v4.1.Path.Domain), .fl .ro 2 (List.flatten (List.map T_Param.enc v4.1.Params))]), (26, .v (.int .i64 v4.2)), (7, .box 26 [.v (.int .i64 0), .v (.string (⟨#[]⟩ : ByteArray)), .v (.bool false), .v (.string (⟨#[]⟩ : ByteArray)), .v (.string (⟨#[]⟩ : ByteArray)), .v (.slice none 0 0)]), (7, .box 26 [.v (.int .i64 v4.1.Kind), .v (.string v4.1.Text), .v (.bool v4.1.Path.Null), .v (.string v4.1.Path.Local), .v (.string v4.1.Path.Domain), .fl .ro 2 (List.flatten (List.map T_Param.enc v4.1.Params))]), (8, .v (.int .i64 v4.2))]) (init := [0, 1, 2, 3, 4, 5, 6]) (fin := [0, 1, 2, 3, 4, 5, 6, 13]) (sps := [⟨[0], [], [7], [(.slot 24)]⟩, ⟨[], [7], [8], [(.slot 23)]⟩, ⟨[8], [], [9], [(.slot 25)]⟩, ⟨[8], [], [10], [(.slot 26)]⟩, ⟨[], [], [11], [(.slot 7)]⟩, ⟨[9], [11], [12], [.cell 7 0, .cell 7 1, .cell 7 2, .cell 7 3, .cell 7 4, .cell 7 5]⟩, ⟨[10], [], [13], [(.slot 8)]⟩]) (es' := [(_, _), (_, _), (_, _), (_, _), (_, _), (_, _), (_, _), (8, .v (.int .i64 v4.2))]) (by kernel_rfl) rfl rfl
   ⟨st_plain rfl (op_callG _ _ 58 10 _ _ rfl Tryd.call10 rfl rfl (fun _ h => h) (ok_verb_Parse mx (⟨#[70, 82, 79, 66]⟩ : ByteArray) _ hv4) rfl rfl),
   st_plain rfl (op_move_take _ _ _ _ rfl),
   st_plain rfl (op_extract_no _ _ _ _ _ _ rfl rfl (Nat.le_of_ble_eq_true rfl) rfl rfl),
   st_plain rfl (op_extract _ _ _ _ _ rfl rfl (Nat.le_of_ble_eq_true rfl) rfl rfl),
   st_plain rfl (op_alloc _ _ zr26),
   st_plain rfl (op_store _ _ _ _ _ _ _ _ sz26 rfl rfl rfl rfl (Nat.le_of_ble_eq_true rfl) rfl rfl),
   st_plain rfl (op_assign _ _ _ _ rfl rfl),
   trivial⟩ ?_
  refine pt_then ?_
  refine ht_seq ?_
  refine ht_joinS h (fun (s5 : Bool) => [(58, .glob (GL mx)), (0, .v (.bool s5))]) ?_ ?_
  ·rintro s5 h
   refine pt_then ?_
   refine ht_ret ?_
   refine pt_pick [1] (by kernel_rfl) (es' := [(_, _)]) rfl ?_
   obtain rfl := Option.some.inj h
   exact pt_ret hio rfl (.tmp _ _ .nil) rfl rfl
  ·intro u6 h hl7 hr8
   refine cond_some h (fun hg5_2 h => ?_) (fun hg5_2 h => ?_)
   ·refine cond_some h (fun hg5_6 h => ?_) (fun hg5_6 h => ?_)
    ·refine cond_some h (fun hg5_11 h => ?_) (fun hg5_11 h => ?_)
     ·refine cond_some h (fun hg5_16 h => ?_) (fun hg5_16 h => ?_)
      ·refine cond_some h (fun hg5_20 h => ?_) (fun hg5_20 h => ?_)
       ·refine cond_some h (fun hg5_23 h => ?_) (fun hg5_23 h => ?_)
        ·refine cond_some h (fun hg5_27 h => ?_) (fun hg5_27 h => ?_)
         ·refine ht_seqR hn (El := (_ :: _ :: _ :: _ :: _ :: _ :: _ :: _ :: (27, .v (.int .i64 v1.2)) :: (28, .v (.bool (v1.2 == 0))) :: (29, .v (.bool true)) :: (30, .v (.int .i64 v2.2)) :: (31, .v (.bool (v2.2 == 0))) :: (32, .v (.bool (v2.2 == 0))) :: (33, .v (.bool true)) :: (34, .ptr 1 0) :: (35, .v (.int .i64 v1.1.Kind)) :: (36, .v (.bool (v1.1.Kind == 2))) :: (37, .v (.bool (v1.1.Kind == 2))) :: (38, .v (.bool true)) :: (39, .ptr 1 2) :: (40, .ptr 1 2) :: (41, .v (.bool v1.1.Path.Null)) :: (42, .v (.bool v1.1.Path.Null)) :: (43, .v (.bool true)) :: (44, .v (.string v2.1)) :: (45, .v (.bool ((v2.1.toList == (⟨#[77, 65, 73, 76, 32, 70, 82, 79, 77, 58, 60, 62, 32, 83, 73, 90, 69, 61, 53]⟩ : ByteArray).toList)))) :: (46, .v (.bool ((v2.1.toList == (⟨#[77, 65, 73, 76, 32, 70, 82, 79, 77, 58, 60, 62, 32, 83, 73, 90, 69, 61, 53]⟩ : ByteArray).toList)))) :: (47, .v (.bool true)) :: (48, .v (.bool v3.2)) :: (49, .v (.bool v3.2)) :: (50, .v (.bool true)) :: (51, .v (.string v3.1)) :: (52, .v (.bool ((v3.1.toList == (⟨#[53]⟩ : ByteArray).toList)))) :: (53, .v (.bool ((v3.1.toList == (⟨#[53]⟩ : ByteArray).toList)))) :: (54, .v (.bool true)) :: (55, .v (.int .i64 v4.2)) :: (56, .v (.bool (v4.2 == 500))) :: (57, .v (.bool (v4.2 == 500))) :: (0, .v (.bool (v4.2 == 500))) :: [])) (init := [0, 1, 2, 3, 4, 5, 6, 7]) (fin := [0, 39]) (sps := (⟨[2], [], [8], [(.slot 27)]⟩ :: ⟨[8], [], [9], [(.slot 28)]⟩ :: ⟨[9], [], [10], [(.slot 29)]⟩ :: ⟨[10, 4], [], [11], [(.slot 30)]⟩ :: ⟨[10, 11], [], [12], [(.slot 31)]⟩ :: ⟨[10, 12], [], [13], [(.slot 32)]⟩ :: ⟨[13], [], [14], [(.slot 33)]⟩ :: ⟨[14, 1], [], [15], [(.slot 34)]⟩ :: ⟨[14, 15, 1], [], [16], [(.slot 35)]⟩ :: ⟨[14, 16], [], [17], [(.slot 36)]⟩ :: ⟨[14, 17], [], [18], [(.slot 37)]⟩ :: ⟨[18], [], [19], [(.slot 38)]⟩ :: ⟨[19, 1], [], [20], [(.slot 39)]⟩ :: ⟨[19, 20, 1], [], [21], [(.slot 40)]⟩ :: ⟨[19, 21, 1], [], [22], [(.slot 41)]⟩ :: ⟨[19, 22], [], [23], [(.slot 42)]⟩ :: ⟨[23], [], [24], [(.slot 43)]⟩ :: ⟨[24, 3], [], [25], [(.slot 44)]⟩ :: ⟨[24, 25], [], [26], [(.slot 45)]⟩ :: ⟨[24, 26], [], [27], [(.slot 46)]⟩ :: ⟨[27], [], [28], [(.slot 47)]⟩ :: ⟨[28, 6], [], [29], [(.slot 48)]⟩ :: ⟨[28, 29], [], [30], [(.slot 49)]⟩ :: ⟨[30], [], [31], [(.slot 50)]⟩ :: ⟨[31, 5], [], [32], [(.slot 51)]⟩ :: ⟨[31, 32], [], [33], [(.slot 52)]⟩ :: ⟨[31, 33], [], [34], [(.slot 53)]⟩ :: ⟨[34], [], [35], [(.slot 54)]⟩ :: ⟨[35, 7], [], [36], [(.slot 55)]⟩ :: ⟨[35, 36], [], [37], [(.slot 56)]⟩ :: ⟨[35, 37], [], [38], [(.slot 57)]⟩ :: ⟨[38], [], [39], [(.slot 0)]⟩ :: [])) (es' := [(_, _), (0, .v (.bool (v4.2 == 500)))]) (by kernel_rfl) rfl rfl
           ⟨st_plain rfl (op_move _ _ _ _ rfl rfl),
           st_plain rfl (op_bin _ _ _ _ _ rfl rfl rfl),
           st_plain rfl (op_move _ _ _ _ (congrArg (fun b => AV.v (Value.bool b)) hg5_2) rfl),
           st_run 2 29 true rfl rfl rfl (List.Mem.head _) (op_move _ _ _ _ rfl rfl),
           st_run 2 29 true rfl rfl rfl (List.Mem.head _) (op_bin _ _ _ _ _ rfl rfl rfl),
           st_plain rfl (op_pick _ _ true _ rfl rfl),
           st_plain rfl (op_move _ _ _ _ (congrArg (fun b => AV.v (Value.bool b)) hg5_6) rfl),
           st_run 6 33 true rfl rfl rfl (List.Mem.head _) (op_fieldAddr _ _ _ _ 1 0 _ Tryd.underlying26 rfl sz3 rfl rfl (by decide)),
           st_run 6 33 true rfl rfl rfl (List.Mem.head _) (op_load _ _ _ _ _ _ Tryd.underlying3 rfl rfl rfl (Nat.le_of_ble_eq_true rfl) rfl rfl rfl),
           st_run 6 33 true rfl rfl rfl (List.Mem.head _) (op_bin _ _ _ _ _ rfl rfl rfl),
           st_plain rfl (op_pick _ _ true _ rfl rfl),
           st_plain rfl (op_move _ _ _ _ (congrArg (fun b => AV.v (Value.bool b)) hg5_11) rfl),
           st_run 11 38 true rfl rfl rfl (List.Mem.head _) (op_fieldAddr _ _ _ _ 1 0 _ Tryd.underlying26 rfl sz23 rfl rfl (by decide)),
           st_run 11 38 true rfl rfl rfl (List.Mem.head _) (op_fieldAddr _ _ _ _ 1 2 _ Tryd.underlying23 rfl sz4 rfl rfl (by decide)),
           st_run 11 38 true rfl rfl rfl (List.Mem.head _) (op_load _ _ _ _ _ _ Tryd.underlying4 rfl rfl rfl (Nat.le_of_ble_eq_true rfl) rfl rfl rfl),
           st_plain rfl (op_pick _ _ true _ rfl rfl),
           st_plain rfl (op_move _ _ _ _ (congrArg (fun b => AV.v (Value.bool b)) hg5_16) rfl),
           st_run 16 43 true rfl rfl rfl (List.Mem.head _) (op_move _ _ _ _ rfl rfl),
           st_run 16 43 true rfl rfl rfl (List.Mem.head _) (op_bin _ _ _ _ _ rfl rfl rfl),
           st_plain rfl (op_pick _ _ true _ rfl rfl),
           st_plain rfl (op_move _ _ _ _ (congrArg (fun b => AV.v (Value.bool b)) hg5_20) rfl),
           st_run 20 47 true rfl rfl rfl (List.Mem.head _) (op_move _ _ _ _ rfl rfl),
           st_plain rfl (op_pick _ _ true _ rfl rfl),
           st_plain rfl (op_move _ _ _ _ (congrArg (fun b => AV.v (Value.bool b)) hg5_23) rfl),
           st_run 23 50 true rfl rfl rfl (List.Mem.head _) (op_move _ _ _ _ rfl rfl),
           st_run 23 50 true rfl rfl rfl (List.Mem.head _) (op_bin _ _ _ _ _ rfl rfl rfl),
           st_plain rfl (op_pick _ _ true _ rfl rfl),
           st_plain rfl (op_move _ _ _ _ (congrArg (fun b => AV.v (Value.bool b)) hg5_27) rfl),
           st_run 27 54 true rfl rfl rfl (List.Mem.head _) (op_move _ _ _ _ rfl rfl),
           st_run 27 54 true rfl rfl rfl (List.Mem.head _) (op_bin _ _ _ _ _ rfl rfl rfl),
           st_plain rfl (op_pick _ _ true _ rfl rfl),
           st_plain rfl (op_assign _ _ _ _ rfl rfl),
           trivial⟩ ?_
          exact hl7 _ (Option.some.inj h).symm
         ·refine ht_seqR hn (El := (_ :: _ :: _ :: _ :: _ :: _ :: _ :: _ :: (27, .v (.int .i64 v1.2)) :: (28, .v (.bool (v1.2 == 0))) :: (29, .v (.bool true)) :: (30, .v (.int .i64 v2.2)) :: (31, .v (.bool (v2.2 == 0))) :: (32, .v (.bool (v2.2 == 0))) :: (33, .v (.bool true)) :: (34, .ptr 1 0) :: (35, .v (.int .i64 v1.1.Kind)) :: (36, .v (.bool (v1.1.Kind == 2))) :: (37, .v (.bool (v1.1.Kind == 2))) :: (38, .v (.bool true)) :: (39, .ptr 1 2) :: (40, .ptr 1 2) :: (41, .v (.bool v1.1.Path.Null)) :: (42, .v (.bool v1.1.Path.Null)) :: (43, .v (.bool true)) :: (44, .v (.string v2.1)) :: (45, .v (.bool ((v2.1.toList == (⟨#[77, 65, 73, 76, 32, 70, 82, 79, 77, 58, 60, 62, 32, 83, 73, 90, 69, 61, 53]⟩ : ByteArray).toList)))) :: (46, .v (.bool ((v2.1.toList == (⟨#[77, 65, 73, 76, 32, 70, 82, 79, 77, 58, 60, 62, 32, 83, 73, 90, 69, 61, 53]⟩ : ByteArray).toList)))) :: (47, .v (.bool true)) :: (48, .v (.bool v3.2)) :: (49, .v (.bool v3.2)) :: (50, .v (.bool true)) :: (51, .v (.string v3.1)) :: (52, .v (.bool ((v3.1.toList == (⟨#[53]⟩ : ByteArray).toList)))) :: (53, .v (.bool ((v3.1.toList == (⟨#[53]⟩ : ByteArray).toList)))) :: (54, .v (.bool false)) :: (55, .v undef) :: (56, .v undef) :: (57, .v (.bool false)) :: (0, .v (.bool false)) :: [])) (init := [0, 1, 2, 3, 4, 5, 6, 7]) (fin := [0, 39]) (sps := (⟨[2], [], [8], [(.slot 27)]⟩ :: ⟨[8], [], [9], [(.slot 28)]⟩ :: ⟨[9], [], [10], [(.slot 29)]⟩ :: ⟨[10, 4], [], [11], [(.slot 30)]⟩ :: ⟨[10, 11], [], [12], [(.slot 31)]⟩ :: ⟨[10, 12], [], [13], [(.slot 32)]⟩ :: ⟨[13], [], [14], [(.slot 33)]⟩ :: ⟨[14, 1], [], [15], [(.slot 34)]⟩ :: ⟨[14, 15, 1], [], [16], [(.slot 35)]⟩ :: ⟨[14, 16], [], [17], [(.slot 36)]⟩ :: ⟨[14, 17], [], [18], [(.slot 37)]⟩ :: ⟨[18], [], [19], [(.slot 38)]⟩ :: ⟨[19, 1], [], [20], [(.slot 39)]⟩ :: ⟨[19, 20, 1], [], [21], [(.slot 40)]⟩ :: ⟨[19, 21, 1], [], [22], [(.slot 41)]⟩ :: ⟨[19, 22], [], [23], [(.slot 42)]⟩ :: ⟨[23], [], [24], [(.slot 43)]⟩ :: ⟨[24, 3], [], [25], [(.slot 44)]⟩ :: ⟨[24, 25], [], [26], [(.slot 45)]⟩ :: ⟨[24, 26], [], [27], [(.slot 46)]⟩ :: ⟨[27], [], [28], [(.slot 47)]⟩ :: ⟨[28, 6], [], [29], [(.slot 48)]⟩ :: ⟨[28, 29], [], [30], [(.slot 49)]⟩ :: ⟨[30], [], [31], [(.slot 50)]⟩ :: ⟨[31, 5], [], [32], [(.slot 51)]⟩ :: ⟨[31, 32], [], [33], [(.slot 52)]⟩ :: ⟨[31, 33], [], [34], [(.slot 53)]⟩ :: ⟨[34], [], [35], [(.slot 54)]⟩ :: ⟨[35], [], [36], [(.slot 55)]⟩ :: ⟨[35], [], [37], [(.slot 56)]⟩ :: ⟨[35], [], [38], [(.slot 57)]⟩ :: ⟨[38], [], [39], [(.slot 0)]⟩ :: [])) (es' := [(_, _), (0, .v (.bool false))]) (by kernel_rfl) rfl rfl
           ⟨st_plain rfl (op_move _ _ _ _ rfl rfl),
           st_plain rfl (op_bin _ _ _ _ _ rfl rfl rfl),
           st_plain rfl (op_move _ _ _ _ (congrArg (fun b => AV.v (Value.bool b)) hg5_2) rfl),
           st_run 2 29 true rfl rfl rfl (List.Mem.head _) (op_move _ _ _ _ rfl rfl),
           st_run 2 29 true rfl rfl rfl (List.Mem.head _) (op_bin _ _ _ _ _ rfl rfl rfl),
           st_plain rfl (op_pick _ _ true _ rfl rfl),
           st_plain rfl (op_move _ _ _ _ (congrArg (fun b => AV.v (Value.bool b)) hg5_6) rfl),
           st_run 6 33 true rfl rfl rfl (List.Mem.head _) (op_fieldAddr _ _ _ _ 1 0 _ Tryd.underlying26 rfl sz3 rfl rfl (by decide)),
           st_run 6 33 true rfl rfl rfl (List.Mem.head _) (op_load _ _ _ _ _ _ Tryd.underlying3 rfl rfl rfl (Nat.le_of_ble_eq_true rfl) rfl rfl rfl),
           st_run 6 33 true rfl rfl rfl (List.Mem.head _) (op_bin _ _ _ _ _ rfl rfl rfl),
           st_plain rfl (op_pick _ _ true _ rfl rfl),
           st_plain rfl (op_move _ _ _ _ (congrArg (fun b => AV.v (Value.bool b)) hg5_11) rfl),
           st_run 11 38 true rfl rfl rfl (List.Mem.head _) (op_fieldAddr _ _ _ _ 1 0 _ Tryd.underlying26 rfl sz23 rfl rfl (by decide)),
           st_run 11 38 true rfl rfl rfl (List.Mem.head _) (op_fieldAddr _ _ _ _ 1 2 _ Tryd.underlying23 rfl sz4 rfl rfl (by decide)),
           st_run 11 38 true rfl rfl rfl (List.Mem.head _) (op_load _ _ _ _ _ _ Tryd.underlying4 rfl rfl rfl (Nat.le_of_ble_eq_true rfl) rfl rfl rfl),
           st_plain rfl (op_pick _ _ true _ rfl rfl),
           st_plain rfl (op_move _ _ _ _ (congrArg (fun b => AV.v (Value.bool b)) hg5_16) rfl),
           st_run 16 43 true rfl rfl rfl (List.Mem.head _) (op_move _ _ _ _ rfl rfl),
           st_run 16 43 true rfl rfl rfl (List.Mem.head _) (op_bin _ _ _ _ _ rfl rfl rfl),
           st_plain rfl (op_pick _ _ true _ rfl rfl),
           st_plain rfl (op_move _ _ _ _ (congrArg (fun b => AV.v (Value.bool b)) hg5_20) rfl),
           st_run 20 47 true rfl rfl rfl (List.Mem.head _) (op_move _ _ _ _ rfl rfl),
           st_plain rfl (op_pick _ _ true _ rfl rfl),
           st_plain rfl (op_move _ _ _ _ (congrArg (fun b => AV.v (Value.bool b)) hg5_23) rfl),
           st_run 23 50 true rfl rfl rfl (List.Mem.head _) (op_move _ _ _ _ rfl rfl),
           st_run 23 50 true rfl rfl rfl (List.Mem.head _) (op_bin _ _ _ _ _ rfl rfl rfl),
           st_plain rfl (op_pick _ _ true _ rfl rfl),
           st_plain rfl (op_move _ _ _ _ (congrArg (fun b => AV.v (Value.bool b)) hg5_27) rfl),
           st_skip 27 54 _ true rfl rfl rfl rfl (List.Mem.head _),
           st_skip 27 54 _ true rfl rfl rfl rfl (List.Mem.head _),
           st_plain rfl (op_pick _ _ false _ rfl rfl),
           st_plain rfl (op_assign _ _ _ _ rfl rfl),
           trivial⟩ ?_
          exact hl7 _ (Option.some.inj h).symm
        ·refine ht_seqR hn (El := (_ :: _ :: _ :: _ :: _ :: _ :: _ :: _ :: (27, .v (.int .i64 v1.2)) :: (28, .v (.bool (v1.2 == 0))) :: (29, .v (.bool true)) :: (30, .v (.int .i64 v2.2)) :: (31, .v (.bool (v2.2 == 0))) :: (32, .v (.bool (v2.2 == 0))) :: (33, .v (.bool true)) :: (34, .ptr 1 0) :: (35, .v (.int .i64 v1.1.Kind)) :: (36, .v (.bool (v1.1.Kind == 2))) :: (37, .v (.bool (v1.1.Kind == 2))) :: (38, .v (.bool true)) :: (39, .ptr 1 2) :: (40, .ptr 1 2) :: (41, .v (.bool v1.1.Path.Null)) :: (42, .v (.bool v1.1.Path.Null)) :: (43, .v (.bool true)) :: (44, .v (.string v2.1)) :: (45, .v (.bool ((v2.1.toList == (⟨#[77, 65, 73, 76, 32, 70, 82, 79, 77, 58, 60, 62, 32, 83, 73, 90, 69, 61, 53]⟩ : ByteArray).toList)))) :: (46, .v (.bool ((v2.1.toList == (⟨#[77, 65, 73, 76, 32, 70, 82, 79, 77, 58, 60, 62, 32, 83, 73, 90, 69, 61, 53]⟩ : ByteArray).toList)))) :: (47, .v (.bool true)) :: (48, .v (.bool v3.2)) :: (49, .v (.bool v3.2)) :: (50, .v (.bool false)) :: (51, .v undef) :: (52, .v undef) :: (53, .v (.bool false)) :: (54, .v (.bool false)) :: (55, .v undef) :: (56, .v undef) :: (57, .v (.bool false)) :: (0, .v (.bool false)) :: [])) (init := [0, 1, 2, 3, 4, 5, 6, 7]) (fin := [0, 39]) (sps := (⟨[2], [], [8], [(.slot 27)]⟩ :: ⟨[8], [], [9], [(.slot 28)]⟩ :: ⟨[9], [], [10], [(.slot 29)]⟩ :: ⟨[10, 4], [], [11], [(.slot 30)]⟩ :: ⟨[10, 11], [], [12], [(.slot 31)]⟩ :: ⟨[10, 12], [], [13], [(.slot 32)]⟩ :: ⟨[13], [], [14], [(.slot 33)]⟩ :: ⟨[14, 1], [], [15], [(.slot 34)]⟩ :: ⟨[14, 15, 1], [], [16], [(.slot 35)]⟩ :: ⟨[14, 16], [], [17], [(.slot 36)]⟩ :: ⟨[14, 17], [], [18], [(.slot 37)]⟩ :: ⟨[18], [], [19], [(.slot 38)]⟩ :: ⟨[19, 1], [], [20], [(.slot 39)]⟩ :: ⟨[19, 20, 1], [], [21], [(.slot 40)]⟩ :: ⟨[19, 21, 1], [], [22], [(.slot 41)]⟩ :: ⟨[19, 22], [], [23], [(.slot 42)]⟩ :: ⟨[23], [], [24], [(.slot 43)]⟩ :: ⟨[24, 3], [], [25], [(.slot 44)]⟩ :: ⟨[24, 25], [], [26], [(.slot 45)]⟩ :: ⟨[24, 26], [], [27], [(.slot 46)]⟩ :: ⟨[27], [], [28], [(.slot 47)]⟩ :: ⟨[28, 6], [], [29], [(.slot 48)]⟩ :: ⟨[28, 29], [], [30], [(.slot 49)]⟩ :: ⟨[30], [], [31], [(.slot 50)]⟩ :: ⟨[31], [], [32], [(.slot 51)]⟩ :: ⟨[31], [], [33], [(.slot 52)]⟩ :: ⟨[31], [], [34], [(.slot 53)]⟩ :: ⟨[34], [], [35], [(.slot 54)]⟩ :: ⟨[35], [], [36], [(.slot 55)]⟩ :: ⟨[35], [], [37], [(.slot 56)]⟩ :: ⟨[35], [], [38], [(.slot 57)]⟩ :: ⟨[38], [], [39], [(.slot 0)]⟩ :: [])) (es' := [(_, _), (0, .v (.bool false))]) (by kernel_rfl) rfl rfl
          ⟨st_plain rfl (op_move _ _ _ _ rfl rfl),
          st_plain rfl (op_bin _ _ _ _ _ rfl rfl rfl),
          st_plain rfl (op_move _ _ _ _ (congrArg (fun b => AV.v (Value.bool b)) hg5_2) rfl),
          st_run 2 29 true rfl rfl rfl (List.Mem.head _) (op_move _ _ _ _ rfl rfl),
          st_run 2 29 true rfl rfl rfl (List.Mem.head _) (op_bin _ _ _ _ _ rfl rfl rfl),
          st_plain rfl (op_pick _ _ true _ rfl rfl),
          st_plain rfl (op_move _ _ _ _ (congrArg (fun b => AV.v (Value.bool b)) hg5_6) rfl),
          st_run 6 33 true rfl rfl rfl (List.Mem.head _) (op_fieldAddr _ _ _ _ 1 0 _ Tryd.underlying26 rfl sz3 rfl rfl (by decide)),
          st_run 6 33 true rfl rfl rfl (List.Mem.head _) (op_load _ _ _ _ _ _ Tryd.underlying3 rfl rfl rfl (Nat.le_of_ble_eq_true rfl) rfl rfl rfl),
          st_run 6 33 true rfl rfl rfl (List.Mem.head _) (op_bin _ _ _ _ _ rfl rfl rfl),
          st_plain rfl (op_pick _ _ true _ rfl rfl),
          st_plain rfl (op_move _ _ _ _ (congrArg (fun b => AV.v (Value.bool b)) hg5_11) rfl),
          st_run 11 38 true rfl rfl rfl (List.Mem.head _) (op_fieldAddr _ _ _ _ 1 0 _ Tryd.underlying26 rfl sz23 rfl rfl (by decide)),
          st_run 11 38 true rfl rfl rfl (List.Mem.head _) (op_fieldAddr _ _ _ _ 1 2 _ Tryd.underlying23 rfl sz4 rfl rfl (by decide)),
          st_run 11 38 true rfl rfl rfl (List.Mem.head _) (op_load _ _ _ _ _ _ Tryd.underlying4 rfl rfl rfl (Nat.le_of_ble_eq_true rfl) rfl rfl rfl),
          st_plain rfl (op_pick _ _ true _ rfl rfl),
          st_plain rfl (op_move _ _ _ _ (congrArg (fun b => AV.v (Value.bool b)) hg5_16) rfl),
          st_run 16 43 true rfl rfl rfl (List.Mem.head _) (op_move _ _ _ _ rfl rfl),
          st_run 16 43 true rfl rfl rfl (List.Mem.head _) (op_bin _ _ _ _ _ rfl rfl rfl),
          st_plain rfl (op_pick _ _ true _ rfl rfl),
          st_plain rfl (op_move _ _ _ _ (congrArg (fun b => AV.v (Value.bool b)) hg5_20) rfl),
          st_run 20 47 true rfl rfl rfl (List.Mem.head _) (op_move _ _ _ _ rfl rfl),
          st_plain rfl (op_pick _ _ true _ rfl rfl),
          st_plain rfl (op_move _ _ _ _ (congrArg (fun b => AV.v (Value.bool b)) hg5_23) rfl),
          st_skip 23 50 _ true rfl rfl rfl rfl (List.Mem.head _),
          st_skip 23 50 _ true rfl rfl rfl rfl (List.Mem.head _),
          st_plain rfl (op_pick _ _ false _ rfl rfl),
          st_plain rfl (op_move _ _ _ _ rfl rfl),
          st_skip 27 54 _ true rfl rfl rfl rfl (List.Mem.head _),
          st_skip 27 54 _ true rfl rfl rfl rfl (List.Mem.head _),
          st_plain rfl (op_pick _ _ false _ rfl rfl),
          st_plain rfl (op_assign _ _ _ _ rfl rfl),
          trivial⟩ ?_
         exact hl7 _ (Option.some.inj h).symm
       ·refine ht_seqR hn (El := (_ :: _ :: _ :: _ :: _ :: _ :: _ :: _ :: (27, .v (.int .i64 v1.2)) :: (28, .v (.bool (v1.2 == 0))) :: (29, .v (.bool true)) :: (30, .v (.int .i64 v2.2)) :: (31, .v (.bool (v2.2 == 0))) :: (32, .v (.bool (v2.2 == 0))) :: (33, .v (.bool true)) :: (34, .ptr 1 0) :: (35, .v (.int .i64 v1.1.Kind)) :: (36, .v (.bool (v1.1.Kind == 2))) :: (37, .v (.bool (v1.1.Kind == 2))) :: (38, .v (.bool true)) :: (39, .ptr 1 2) :: (40, .ptr 1 2) :: (41, .v (.bool v1.1.Path.Null)) :: (42, .v (.bool v1.1.Path.Null)) :: (43, .v (.bool true)) :: (44, .v (.string v2.1)) :: (45, .v (.bool ((v2.1.toList == (⟨#[77, 65, 73, 76, 32, 70, 82, 79, 77, 58, 60, 62, 32, 83, 73, 90, 69, 61, 53]⟩ : ByteArray).toList)))) :: (46, .v (.bool ((v2.1.toList == (⟨#[77, 65, 73, 76, 32, 70, 82, 79, 77, 58, 60, 62, 32, 83, 73, 90, 69, 61, 53]⟩ : ByteArray).toList)))) :: (47, .v (.bool false)) :: (48, .v undef) :: (49, .v (.bool false)) :: (50, .v (.bool false)) :: (51, .v undef) :: (52, .v undef) :: (53, .v (.bool false)) :: (54, .v (.bool false)) :: (55, .v undef) :: (56, .v undef) :: (57, .v (.bool false)) :: (0, .v (.bool false)) :: [])) (init := [0, 1, 2, 3, 4, 5, 6, 7]) (fin := [0, 39]) (sps := (⟨[2], [], [8], [(.slot 27)]⟩ :: ⟨[8], [], [9], [(.slot 28)]⟩ :: ⟨[9], [], [10], [(.slot 29)]⟩ :: ⟨[10, 4], [], [11], [(.slot 30)]⟩ :: ⟨[10, 11], [], [12], [(.slot 31)]⟩ :: ⟨[10, 12], [], [13], [(.slot 32)]⟩ :: ⟨[13], [], [14], [(.slot 33)]⟩ :: ⟨[14, 1], [], [15], [(.slot 34)]⟩ :: ⟨[14, 15, 1], [], [16], [(.slot 35)]⟩ :: ⟨[14, 16], [], [17], [(.slot 36)]⟩ :: ⟨[14, 17], [], [18], [(.slot 37)]⟩ :: ⟨[18], [], [19], [(.slot 38)]⟩ :: ⟨[19, 1], [], [20], [(.slot 39)]⟩ :: ⟨[19, 20, 1], [], [21], [(.slot 40)]⟩ :: ⟨[19, 21, 1], [], [22], [(.slot 41)]⟩ :: ⟨[19, 22], [], [23], [(.slot 42)]⟩ :: ⟨[23], [], [24], [(.slot 43)]⟩ :: ⟨[24, 3], [], [25], [(.slot 44)]⟩ :: ⟨[24, 25], [], [26], [(.slot 45)]⟩ :: ⟨[24, 26], [], [27], [(.slot 46)]⟩ :: ⟨[27], [], [28], [(.slot 47)]⟩ :: ⟨[28], [], [29], [(.slot 48)]⟩ :: ⟨[28], [], [30], [(.slot 49)]⟩ :: ⟨[30], [], [31], [(.slot 50)]⟩ :: ⟨[31], [], [32], [(.slot 51)]⟩ :: ⟨[31], [], [33], [(.slot 52)]⟩ :: ⟨[31], [], [34], [(.slot 53)]⟩ :: ⟨[34], [], [35], [(.slot 54)]⟩ :: ⟨[35], [], [36], [(.slot 55)]⟩ :: ⟨[35], [], [37], [(.slot 56)]⟩ :: ⟨[35], [], [38], [(.slot 57)]⟩ :: ⟨[38], [], [39], [(.slot 0)]⟩ :: [])) (es' := [(_, _), (0, .v (.bool false))]) (by kernel_rfl) rfl rfl
         ⟨st_plain rfl (op_move _ _ _ _ rfl rfl),
         st_plain rfl (op_bin _ _ _ _ _ rfl rfl rfl),
         st_plain rfl (op_move _ _ _ _ (congrArg (fun b => AV.v (Value.bool b)) hg5_2) rfl),
         st_run 2 29 true rfl rfl rfl (List.Mem.head _) (op_move _ _ _ _ rfl rfl),
         st_run 2 29 true rfl rfl rfl (List.Mem.head _) (op_bin _ _ _ _ _ rfl rfl rfl),
         st_plain rfl (op_pick _ _ true _ rfl rfl),
         st_plain rfl (op_move _ _ _ _ (congrArg (fun b => AV.v (Value.bool b)) hg5_6) rfl),
         st_run 6 33 true rfl rfl rfl (List.Mem.head _) (op_fieldAddr _ _ _ _ 1 0 _ Tryd.underlying26 rfl sz3 rfl rfl (by decide)),
         st_run 6 33 true rfl rfl rfl (List.Mem.head _) (op_load _ _ _ _ _ _ Tryd.underlying3 rfl rfl rfl (Nat.le_of_ble_eq_true rfl) rfl rfl rfl),
         st_run 6 33 true rfl rfl rfl (List.Mem.head _) (op_bin _ _ _ _ _ rfl rfl rfl),
         st_plain rfl (op_pick _ _ true _ rfl rfl),
         st_plain rfl (op_move _ _ _ _ (congrArg (fun b => AV.v (Value.bool b)) hg5_11) rfl),
         st_run 11 38 true rfl rfl rfl (List.Mem.head _) (op_fieldAddr _ _ _ _ 1 0 _ Tryd.underlying26 rfl sz23 rfl rfl (by decide)),
         st_run 11 38 true rfl rfl rfl (List.Mem.head _) (op_fieldAddr _ _ _ _ 1 2 _ Tryd.underlying23 rfl sz4 rfl rfl (by decide)),
         st_run 11 38 true rfl rfl rfl (List.Mem.head _) (op_load _ _ _ _ _ _ Tryd.underlying4 rfl rfl rfl (Nat.le_of_ble_eq_true rfl) rfl rfl rfl),
         st_plain rfl (op_pick _ _ true _ rfl rfl),
         st_plain rfl (op_move _ _ _ _ (congrArg (fun b => AV.v (Value.bool b)) hg5_16) rfl),
         st_run 16 43 true rfl rfl rfl (List.Mem.head _) (op_move _ _ _ _ rfl rfl),
         st_run 16 43 true rfl rfl rfl (List.Mem.head _) (op_bin _ _ _ _ _ rfl rfl rfl),
         st_plain rfl (op_pick _ _ true _ rfl rfl),
         st_plain rfl (op_move _ _ _ _ (congrArg (fun b => AV.v (Value.bool b)) hg5_20) rfl),
         st_skip 20 47 _ true rfl rfl rfl rfl (List.Mem.head _),
         st_plain rfl (op_pick _ _ false _ rfl rfl),
         st_plain rfl (op_move _ _ _ _ rfl rfl),
         st_skip 23 50 _ true rfl rfl rfl rfl (List.Mem.head _),
         st_skip 23 50 _ true rfl rfl rfl rfl (List.Mem.head _),
         st_plain rfl (op_pick _ _ false _ rfl rfl),
         st_plain rfl (op_move _ _ _ _ rfl rfl),
         st_skip 27 54 _ true rfl rfl rfl rfl (List.Mem.head _),
         st_skip 27 54 _ true rfl rfl rfl rfl (List.Mem.head _),
         st_plain rfl (op_pick _ _ false _ rfl rfl),
         st_plain rfl (op_assign _ _ _ _ rfl rfl),
         trivial⟩ ?_
        exact hl7 _ (Option.some.inj h).symm
      ·refine ht_seqR hn (El := (_ :: _ :: _ :: _ :: _ :: _ :: _ :: _ :: (27, .v (.int .i64 v1.2)) :: (28, .v (.bool (v1.2 == 0))) :: (29, .v (.bool true)) :: (30, .v (.int .i64 v2.2)) :: (31, .v (.bool (v2.2 == 0))) :: (32, .v (.bool (v2.2 == 0))) :: (33, .v (.bool true)) :: (34, .ptr 1 0) :: (35, .v (.int .i64 v1.1.Kind)) :: (36, .v (.bool (v1.1.Kind == 2))) :: (37, .v (.bool (v1.1.Kind == 2))) :: (38, .v (.bool true)) :: (39, .ptr 1 2) :: (40, .ptr 1 2) :: (41, .v (.bool v1.1.Path.Null)) :: (42, .v (.bool v1.1.Path.Null)) :: (43, .v (.bool false)) :: (44, .v undef) :: (45, .v undef) :: (46, .v (.bool false)) :: (47, .v (.bool false)) :: (48, .v undef) :: (49, .v (.bool false)) :: (50, .v (.bool false)) :: (51, .v undef) :: (52, .v undef) :: (53, .v (.bool false)) :: (54, .v (.bool false)) :: (55, .v undef) :: (56, .v undef) :: (57, .v (.bool false)) :: (0, .v (.bool false)) :: [])) (init := [0, 1, 2, 3, 4, 5, 6, 7]) (fin := [0, 39]) (sps := (⟨[2], [], [8], [(.slot 27)]⟩ :: ⟨[8], [], [9], [(.slot 28)]⟩ :: ⟨[9], [], [10], [(.slot 29)]⟩ :: ⟨[10, 4], [], [11], [(.slot 30)]⟩ :: ⟨[10, 11], [], [12], [(.slot 31)]⟩ :: ⟨[10, 12], [], [13], [(.slot 32)]⟩ :: ⟨[13], [], [14], [(.slot 33)]⟩ :: ⟨[14, 1], [], [15], [(.slot 34)]⟩ :: ⟨[14, 15, 1], [], [16], [(.slot 35)]⟩ :: ⟨[14, 16], [], [17], [(.slot 36)]⟩ :: ⟨[14, 17], [], [18], [(.slot 37)]⟩ :: ⟨[18], [], [19], [(.slot 38)]⟩ :: ⟨[19, 1], [], [20], [(.slot 39)]⟩ :: ⟨[19, 20, 1], [], [21], [(.slot 40)]⟩ :: ⟨[19, 21, 1], [], [22], [(.slot 41)]⟩ :: ⟨[19, 22], [], [23], [(.slot 42)]⟩ :: ⟨[23], [], [24], [(.slot 43)]⟩ :: ⟨[24], [], [25], [(.slot 44)]⟩ :: ⟨[24], [], [26], [(.slot 45)]⟩ :: ⟨[24], [], [27], [(.slot 46)]⟩ :: ⟨[27], [], [28], [(.slot 47)]⟩ :: ⟨[28], [], [29], [(.slot 48)]⟩ :: ⟨[28], [], [30], [(.slot 49)]⟩ :: ⟨[30], [], [31], [(.slot 50)]⟩ :: ⟨[31], [], [32], [(.slot 51)]⟩ :: ⟨[31], [], [33], [(.slot 52)]⟩ :: ⟨[31], [], [34], [(.slot 53)]⟩ :: ⟨[34], [], [35], [(.slot 54)]⟩ :: ⟨[35], [], [36], [(.slot 55)]⟩ :: ⟨[35], [], [37], [(.slot 56)]⟩ :: ⟨[35], [], [38], [(.slot 57)]⟩ :: ⟨[38], [], [39], [(.slot 0)]⟩ :: [])) (es' := [(_, _), (0, .v (.bool false))]) (by kernel_rfl) rfl rfl
        ⟨st_plain rfl (op_move _ _ _ _ rfl rfl),
        st_plain rfl (op_bin _ _ _ _ _ rfl rfl rfl),
        st_plain rfl (op_move _ _ _ _ (congrArg (fun b => AV.v (Value.bool b)) hg5_2) rfl),
        st_run 2 29 true rfl rfl rfl (List.Mem.head _) (op_move _ _ _ _ rfl rfl),
        st_run 2 29 true rfl rfl rfl (List.Mem.head _) (op_bin _ _ _ _ _ rfl rfl rfl),
        st_plain rfl (op_pick _ _ true _ rfl rfl),
        st_plain rfl (op_move _ _ _ _ (congrArg (fun b => AV.v (Value.bool b)) hg5_6) rfl),
        st_run 6 33 true rfl rfl rfl (List.Mem.head _) (op_fieldAddr _ _ _ _ 1 0 _ Tryd.underlying26 rfl sz3 rfl rfl (by decide)),
        st_run 6 33 true rfl rfl rfl (List.Mem.head _) (op_load _ _ _ _ _ _ Tryd.underlying3 rfl rfl rfl (Nat.le_of_ble_eq_true rfl) rfl rfl rfl),
        st_run 6 33 true rfl rfl rfl (List.Mem.head _) (op_bin _ _ _ _ _ rfl rfl rfl),
        st_plain rfl (op_pick _ _ true _ rfl rfl),
        st_plain rfl (op_move _ _ _ _ (congrArg (fun b => AV.v (Value.bool b)) hg5_11) rfl),
        st_run 11 38 true rfl rfl rfl (List.Mem.head _) (op_fieldAddr _ _ _ _ 1 0 _ Tryd.underlying26 rfl sz23 rfl rfl (by decide)),
        st_run 11 38 true rfl rfl rfl (List.Mem.head _) (op_fieldAddr _ _ _ _ 1 2 _ Tryd.underlying23 rfl sz4 rfl rfl (by decide)),
        st_run 11 38 true rfl rfl rfl (List.Mem.head _) (op_load _ _ _ _ _ _ Tryd.underlying4 rfl rfl rfl (Nat.le_of_ble_eq_true rfl) rfl rfl rfl),
        st_plain rfl (op_pick _ _ true _ rfl rfl),
        st_plain rfl (op_move _ _ _ _ (congrArg (fun b => AV.v (Value.bool b)) hg5_16) rfl),
        st_skip 16 43 _ true rfl rfl rfl rfl (List.Mem.head _),
        st_skip 16 43 _ true rfl rfl rfl rfl (List.Mem.head _),
        st_plain rfl (op_pick _ _ false _ rfl rfl),
        st_plain rfl (op_move _ _ _ _ rfl rfl),
        st_skip 20 47 _ true rfl rfl rfl rfl (List.Mem.head _),
        st_plain rfl (op_pick _ _ false _ rfl rfl),
        st_plain rfl (op_move _ _ _ _ rfl rfl),
        st_skip 23 50 _ true rfl rfl rfl rfl (List.Mem.head _),
        st_skip 23 50 _ true rfl rfl rfl rfl (List.Mem.head _),
        st_plain rfl (op_pick _ _ false _ rfl rfl),
        st_plain rfl (op_move _ _ _ _ rfl rfl),
        st_skip 27 54 _ true rfl rfl rfl rfl (List.Mem.head _),
        st_skip 27 54 _ true rfl rfl rfl rfl (List.Mem.head _),
        st_plain rfl (op_pick _ _ false _ rfl rfl),
        st_plain rfl (op_assign _ _ _ _ rfl rfl),
        trivial⟩ ?_
       exact hl7 _ (Option.some.inj h).symm
     ·refine ht_seqR hn (El := (_ :: _ :: _ :: _ :: _ :: _ :: _ :: _ :: (27, .v (.int .i64 v1.2)) :: (28, .v (.bool (v1.2 == 0))) :: (29, .v (.bool true)) :: (30, .v (.int .i64 v2.2)) :: (31, .v (.bool (v2.2 == 0))) :: (32, .v (.bool (v2.2 == 0))) :: (33, .v (.bool true)) :: (34, .ptr 1 0) :: (35, .v (.int .i64 v1.1.Kind)) :: (36, .v (.bool (v1.1.Kind == 2))) :: (37, .v (.bool (v1.1.Kind == 2))) :: (38, .v (.bool false)) :: (39, .v undef) :: (40, .v undef) :: (41, .v undef) :: (42, .v (.bool false)) :: (43, .v (.bool false)) :: (44, .v undef) :: (45, .v undef) :: (46, .v (.bool false)) :: (47, .v (.bool false)) :: (48, .v undef) :: (49, .v (.bool false)) :: (50, .v (.bool false)) :: (51, .v undef) :: (52, .v undef) :: (53, .v (.bool false)) :: (54, .v (.bool false)) :: (55, .v undef) :: (56, .v undef) :: (57, .v (.bool false)) :: (0, .v (.bool false)) :: [])) (init := [0, 1, 2, 3, 4, 5, 6, 7]) (fin := [0, 39]) (sps := (⟨[2], [], [8], [(.slot 27)]⟩ :: ⟨[8], [], [9], [(.slot 28)]⟩ :: ⟨[9], [], [10], [(.slot 29)]⟩ :: ⟨[10, 4], [], [11], [(.slot 30)]⟩ :: ⟨[10, 11], [], [12], [(.slot 31)]⟩ :: ⟨[10, 12], [], [13], [(.slot 32)]⟩ :: ⟨[13], [], [14], [(.slot 33)]⟩ :: ⟨[14, 1], [], [15], [(.slot 34)]⟩ :: ⟨[14, 15, 1], [], [16], [(.slot 35)]⟩ :: ⟨[14, 16], [], [17], [(.slot 36)]⟩ :: ⟨[14, 17], [], [18], [(.slot 37)]⟩ :: ⟨[18], [], [19], [(.slot 38)]⟩ :: ⟨[19], [], [20], [(.slot 39)]⟩ :: ⟨[19], [], [21], [(.slot 40)]⟩ :: ⟨[19], [], [22], [(.slot 41)]⟩ :: ⟨[19], [], [23], [(.slot 42)]⟩ :: ⟨[23], [], [24], [(.slot 43)]⟩ :: ⟨[24], [], [25], [(.slot 44)]⟩ :: ⟨[24], [], [26], [(.slot 45)]⟩ :: ⟨[24], [], [27], [(.slot 46)]⟩ :: ⟨[27], [], [28], [(.slot 47)]⟩ :: ⟨[28], [], [29], [(.slot 48)]⟩ :: ⟨[28], [], [30], [(.slot 49)]⟩ :: ⟨[30], [], [31], [(.slot 50)]⟩ :: ⟨[31], [], [32], [(.slot 51)]⟩ :: ⟨[31], [], [33], [(.slot 52)]⟩ :: ⟨[31], [], [34], [(.slot 53)]⟩ :: ⟨[34], [], [35], [(.slot 54)]⟩ :: ⟨[35], [], [36], [(.slot 55)]⟩ :: ⟨[35], [], [37], [(.slot 56)]⟩ :: ⟨[35], [], [38], [(.slot 57)]⟩ :: ⟨[38], [], [39], [(.slot 0)]⟩ :: [])) (es' := [(_, _), (0, .v (.bool false))]) (by kernel_rfl) rfl rfl
       ⟨st_plain rfl (op_move _ _ _ _ rfl rfl),
       st_plain rfl (op_bin _ _ _ _ _ rfl rfl rfl),
       st_plain rfl (op_move _ _ _ _ (congrArg (fun b => AV.v (Value.bool b)) hg5_2) rfl),
       st_run 2 29 true rfl rfl rfl (List.Mem.head _) (op_move _ _ _ _ rfl rfl),
       st_run 2 29 true rfl rfl rfl (List.Mem.head _) (op_bin _ _ _ _ _ rfl rfl rfl),
       st_plain rfl (op_pick _ _ true _ rfl rfl),
       st_plain rfl (op_move _ _ _ _ (congrArg (fun b => AV.v (Value.bool b)) hg5_6) rfl),
       st_run 6 33 true rfl rfl rfl (List.Mem.head _) (op_fieldAddr _ _ _ _ 1 0 _ Tryd.underlying26 rfl sz3 rfl rfl (by decide)),
       st_run 6 33 true rfl rfl rfl (List.Mem.head _) (op_load _ _ _ _ _ _ Tryd.underlying3 rfl rfl rfl (Nat.le_of_ble_eq_true rfl) rfl rfl rfl),
       st_run 6 33 true rfl rfl rfl (List.Mem.head _) (op_bin _ _ _ _ _ rfl rfl rfl),
       st_plain rfl (op_pick _ _ true _ rfl rfl),
       st_plain rfl (op_move _ _ _ _ (congrArg (fun b => AV.v (Value.bool b)) hg5_11) rfl),
       st_skip 11 38 _ true rfl rfl rfl rfl (List.Mem.head _),
       st_skip 11 38 _ true rfl rfl rfl rfl (List.Mem.head _),
       st_skip 11 38 _ true rfl rfl rfl rfl (List.Mem.head _),
       st_plain rfl (op_pick _ _ false _ rfl rfl),
       st_plain rfl (op_move _ _ _ _ rfl rfl),
       st_skip 16 43 _ true rfl rfl rfl rfl (List.Mem.head _),
       st_skip 16 43 _ true rfl rfl rfl rfl (List.Mem.head _),
       st_plain rfl (op_pick _ _ false _ rfl rfl),
       st_plain rfl (op_move _ _ _ _ rfl rfl),
       st_skip 20 47 _ true rfl rfl rfl rfl (List.Mem.head _),
       st_plain rfl (op_pick _ _ false _ rfl rfl),
       st_plain rfl (op_move _ _ _ _ rfl rfl),
       st_skip 23 50 _ true rfl rfl rfl rfl (List.Mem.head _),
       st_skip 23 50 _ true rfl rfl rfl rfl (List.Mem.head _),
       st_plain rfl (op_pick _ _ false _ rfl rfl),
       st_plain rfl (op_move _ _ _ _ rfl rfl),
       st_skip 27 54 _ true rfl rfl rfl rfl (List.Mem.head _),
       st_skip 27 54 _ true rfl rfl rfl rfl (List.Mem.head _),
       st_plain rfl (op_pick _ _ false _ rfl rfl),
       st_plain rfl (op_assign _ _ _ _ rfl rfl),
       trivial⟩ ?_
      exact hl7 _ (Option.some.inj h).symm
    ·refine ht_seqR hn (El := (_ :: _ :: _ :: _ :: _ :: _ :: _ :: _ :: (27, .v (.int .i64 v1.2)) :: (28, .v (.bool (v1.2 == 0))) :: (29, .v (.bool true)) :: (30, .v (.int .i64 v2.2)) :: (31, .v (.bool (v2.2 == 0))) :: (32, .v (.bool (v2.2 == 0))) :: (33, .v (.bool false)) :: (34, .v undef) :: (35, .v undef) :: (36, .v undef) :: (37, .v (.bool false)) :: (38, .v (.bool false)) :: (39, .v undef) :: (40, .v undef) :: (41, .v undef) :: (42, .v (.bool false)) :: (43, .v (.bool false)) :: (44, .v undef) :: (45, .v undef) :: (46, .v (.bool false)) :: (47, .v (.bool false)) :: (48, .v undef) :: (49, .v (.bool false)) :: (50, .v (.bool false)) :: (51, .v undef) :: (52, .v undef) :: (53, .v (.bool false)) :: (54, .v (.bool false)) :: (55, .v undef) :: (56, .v undef) :: (57, .v (.bool false)) :: (0, .v (.bool false)) :: [])) (init := [0, 1, 2, 3, 4, 5, 6, 7]) (fin := [0, 39]) (sps := (⟨[2], [], [8], [(.slot 27)]⟩ :: ⟨[8], [], [9], [(.slot 28)]⟩ :: ⟨[9], [], [10], [(.slot 29)]⟩ :: ⟨[10, 4], [], [11], [(.slot 30)]⟩ :: ⟨[10, 11], [], [12], [(.slot 31)]⟩ :: ⟨[10, 12], [], [13], [(.slot 32)]⟩ :: ⟨[13], [], [14], [(.slot 33)]⟩ :: ⟨[14], [], [15], [(.slot 34)]⟩ :: ⟨[14], [], [16], [(.slot 35)]⟩ :: ⟨[14], [], [17], [(.slot 36)]⟩ :: ⟨[14], [], [18], [(.slot 37)]⟩ :: ⟨[18], [], [19], [(.slot 38)]⟩ :: ⟨[19], [], [20], [(.slot 39)]⟩ :: ⟨[19], [], [21], [(.slot 40)]⟩ :: ⟨[19], [], [22], [(.slot 41)]⟩ :: ⟨[19], [], [23], [(.slot 42)]⟩ :: ⟨[23], [], [24], [(.slot 43)]⟩ :: ⟨[24], [], [25], [(.slot 44)]⟩ :: ⟨[24], [], [26], [(.slot 45)]⟩ :: ⟨[24], [], [27], [(.slot 46)]⟩ :: ⟨[27], [], [28], [(.slot 47)]⟩ :: ⟨[28], [], [29], [(.slot 48)]⟩ :: ⟨[28], [], [30], [(.slot 49)]⟩ :: ⟨[30], [], [31], [(.slot 50)]⟩ :: ⟨[31], [], [32], [(.slot 51)]⟩ :: ⟨[31], [], [33], [(.slot 52)]⟩ :: ⟨[31], [], [34], [(.slot 53)]⟩ :: ⟨[34], [], [35], [(.slot 54)]⟩ :: ⟨[35], [], [36], [(.slot 55)]⟩ :: ⟨[35], [], [37], [(.slot 56)]⟩ :: ⟨[35], [], [38], [(.slot 57)]⟩ :: ⟨[38], [], [39], [(.slot 0)]⟩ :: [])) (es' := [(_, _), (0, .v (.bool false))]) (by kernel_rfl) rfl rfl
      ⟨st_plain rfl (op_move _ _ _ _ rfl rfl),
      st_plain rfl (op_bin _ _ _ _ _ rfl rfl rfl),
      st_plain rfl (op_move _ _ _ _ (congrArg (fun b => AV.v (Value.bool b)) hg5_2) rfl),
      st_run 2 29 true rfl rfl rfl (List.Mem.head _) (op_move _ _ _ _ rfl rfl),
      st_run 2 29 true rfl rfl rfl (List.Mem.head _) (op_bin _ _ _ _ _ rfl rfl rfl),
      st_plain rfl (op_pick _ _ true _ rfl rfl),
      st_plain rfl (op_move _ _ _ _ (congrArg (fun b => AV.v (Value.bool b)) hg5_6) rfl),
      st_skip 6 33 _ true rfl rfl rfl rfl (List.Mem.head _),
      st_skip 6 33 _ true rfl rfl rfl rfl (List.Mem.head _),
      st_skip 6 33 _ true rfl rfl rfl rfl (List.Mem.head _),
      st_plain rfl (op_pick _ _ false _ rfl rfl),
      st_plain rfl (op_move _ _ _ _ rfl rfl),
      st_skip 11 38 _ true rfl rfl rfl rfl (List.Mem.head _),
      st_skip 11 38 _ true rfl rfl rfl rfl (List.Mem.head _),
      st_skip 11 38 _ true rfl rfl rfl rfl (List.Mem.head _),
      st_plain rfl (op_pick _ _ false _ rfl rfl),
      st_plain rfl (op_move _ _ _ _ rfl rfl),
      st_skip 16 43 _ true rfl rfl rfl rfl (List.Mem.head _),
      st_skip 16 43 _ true rfl rfl rfl rfl (List.Mem.head _),
      st_plain rfl (op_pick _ _ false _ rfl rfl),
      st_plain rfl (op_move _ _ _ _ rfl rfl),
      st_skip 20 47 _ true rfl rfl rfl rfl (List.Mem.head _),
      st_plain rfl (op_pick _ _ false _ rfl rfl),
      st_plain rfl (op_move _ _ _ _ rfl rfl),
      st_skip 23 50 _ true rfl rfl rfl rfl (List.Mem.head _),
      st_skip 23 50 _ true rfl rfl rfl rfl (List.Mem.head _),
      st_plain rfl (op_pick _ _ false _ rfl rfl),
      st_plain rfl (op_move _ _ _ _ rfl rfl),
      st_skip 27 54 _ true rfl rfl rfl rfl (List.Mem.head _),
      st_skip 27 54 _ true rfl rfl rfl rfl (List.Mem.head _),
      st_plain rfl (op_pick _ _ false _ rfl rfl),
      st_plain rfl (op_assign _ _ _ _ rfl rfl),
      trivial⟩ ?_
     exact hl7 _ (Option.some.inj h).symm
   ·refine ht_seqR hn (El := (_ :: _ :: _ :: _ :: _ :: _ :: _ :: _ :: (27, .v (.int .i64 v1.2)) :: (28, .v (.bool (v1.2 == 0))) :: (29, .v (.bool false)) :: (30, .v undef) :: (31, .v undef) :: (32, .v (.bool false)) :: (33, .v (.bool false)) :: (34, .v undef) :: (35, .v undef) :: (36, .v undef) :: (37, .v (.bool false)) :: (38, .v (.bool false)) :: (39, .v undef) :: (40, .v undef) :: (41, .v undef) :: (42, .v (.bool false)) :: (43, .v (.bool false)) :: (44, .v undef) :: (45, .v undef) :: (46, .v (.bool false)) :: (47, .v (.bool false)) :: (48, .v undef) :: (49, .v (.bool false)) :: (50, .v (.bool false)) :: (51, .v undef) :: (52, .v undef) :: (53, .v (.bool false)) :: (54, .v (.bool false)) :: (55, .v undef) :: (56, .v undef) :: (57, .v (.bool false)) :: (0, .v (.bool false)) :: [])) (init := [0, 1, 2, 3, 4, 5, 6, 7]) (fin := [0, 39]) (sps := (⟨[2], [], [8], [(.slot 27)]⟩ :: ⟨[8], [], [9], [(.slot 28)]⟩ :: ⟨[9], [], [10], [(.slot 29)]⟩ :: ⟨[10], [], [11], [(.slot 30)]⟩ :: ⟨[10], [], [12], [(.slot 31)]⟩ :: ⟨[10], [], [13], [(.slot 32)]⟩ :: ⟨[13], [], [14], [(.slot 33)]⟩ :: ⟨[14], [], [15], [(.slot 34)]⟩ :: ⟨[14], [], [16], [(.slot 35)]⟩ :: ⟨[14], [], [17], [(.slot 36)]⟩ :: ⟨[14], [], [18], [(.slot 37)]⟩ :: ⟨[18], [], [19], [(.slot 38)]⟩ :: ⟨[19], [], [20], [(.slot 39)]⟩ :: ⟨[19], [], [21], [(.slot 40)]⟩ :: ⟨[19], [], [22], [(.slot 41)]⟩ :: ⟨[19], [], [23], [(.slot 42)]⟩ :: ⟨[23], [], [24], [(.slot 43)]⟩ :: ⟨[24], [], [25], [(.slot 44)]⟩ :: ⟨[24], [], [26], [(.slot 45)]⟩ :: ⟨[24], [], [27], [(.slot 46)]⟩ :: ⟨[27], [], [28], [(.slot 47)]⟩ :: ⟨[28], [], [29], [(.slot 48)]⟩ :: ⟨[28], [], [30], [(.slot 49)]⟩ :: ⟨[30], [], [31], [(.slot 50)]⟩ :: ⟨[31], [], [32], [(.slot 51)]⟩ :: ⟨[31], [], [33], [(.slot 52)]⟩ :: ⟨[31], [], [34], [(.slot 53)]⟩ :: ⟨[34], [], [35], [(.slot 54)]⟩ :: ⟨[35], [], [36], [(.slot 55)]⟩ :: ⟨[35], [], [37], [(.slot 56)]⟩ :: ⟨[35], [], [38], [(.slot 57)]⟩ :: ⟨[38], [], [39], [(.slot 0)]⟩ :: [])) (es' := [(_, _), (0, .v (.bool false))]) (by kernel_rfl) rfl rfl
     ⟨st_plain rfl (op_move _ _ _ _ rfl rfl),
     st_plain rfl (op_bin _ _ _ _ _ rfl rfl rfl),
     st_plain rfl (op_move _ _ _ _ (congrArg (fun b => AV.v (Value.bool b)) hg5_2) rfl),
     st_skip 2 29 _ true rfl rfl rfl rfl (List.Mem.head _),
     st_skip 2 29 _ true rfl rfl rfl rfl (List.Mem.head _),
     st_plain rfl (op_pick _ _ false _ rfl rfl),
     st_plain rfl (op_move _ _ _ _ rfl rfl),
     st_skip 6 33 _ true rfl rfl rfl rfl (List.Mem.head _),
     st_skip 6 33 _ true rfl rfl rfl rfl (List.Mem.head _),
     st_skip 6 33 _ true rfl rfl rfl rfl (List.Mem.head _),
     st_plain rfl (op_pick _ _ false _ rfl rfl),
     st_plain rfl (op_move _ _ _ _ rfl rfl),
     st_skip 11 38 _ true rfl rfl rfl rfl (List.Mem.head _),
     st_skip 11 38 _ true rfl rfl rfl rfl (List.Mem.head _),
     st_skip 11 38 _ true rfl rfl rfl rfl (List.Mem.head _),
     st_plain rfl (op_pick _ _ false _ rfl rfl),
     st_plain rfl (op_move _ _ _ _ rfl rfl),
     st_skip 16 43 _ true rfl rfl rfl rfl (List.Mem.head _),
     st_skip 16 43 _ true rfl rfl rfl rfl (List.Mem.head _),
     st_plain rfl (op_pick _ _ false _ rfl rfl),
     st_plain rfl (op_move _ _ _ _ rfl rfl),
     st_skip 20 47 _ true rfl rfl rfl rfl (List.Mem.head _),
     st_plain rfl (op_pick _ _ false _ rfl rfl),
     st_plain rfl (op_move _ _ _ _ rfl rfl),
     st_skip 23 50 _ true rfl rfl rfl rfl (List.Mem.head _),
     st_skip 23 50 _ true rfl rfl rfl rfl (List.Mem.head _),
     st_plain rfl (op_pick _ _ false _ rfl rfl),
     st_plain rfl (op_move _ _ _ _ rfl rfl),
     st_skip 27 54 _ true rfl rfl rfl rfl (List.Mem.head _),
     st_skip 27 54 _ true rfl rfl rfl rfl (List.Mem.head _),
     st_plain rfl (op_pick _ _ false _ rfl rfl),
     st_plain rfl (op_assign _ _ _ _ rfl rfl),
     trivial⟩ ?_
    exact hl7 _ (Option.some.inj h).symm

set_option maxHeartbeats 1000000 in
theorem ok_wherrykeep_Path (a : T_Path) (b : T_Path) (r : Bool) (h : Sh.wherrykeep_Path a b = some r) : FnOK Tryd.prog 20 [.agg [.v (.bool a.Null), .v (.string a.Local), .v (.string a.Domain)], .agg [.v (.bool b.Null), .v (.string b.Local), .v (.string b.Domain)]] (.v (.bool r)) := by
  unfold Sh.wherrykeep_Path at h
  refine fn_ok Tryd.func20 rfl (Nat.le_of_ble_eq_true rfl) rfl rfl fun g0 hn hio => ?_
  refine ht_seq ?_
  refine ht_seqR hn (El := [_, _, (2, .box 23 [.v (.bool a.Null), .v (.string a.Local), .v (.string a.Domain)]), (3, .box 23 [.v (.bool b.Null), .v (.string b.Local), .v (.string b.Domain)]), (4, .v (.bool false))]) (init := [0, 1]) (fin := [2, 3]) (sps := [⟨[0], [], [2], [(.slot 2)]⟩, ⟨[1], [], [3], [(.slot 3)]⟩, ⟨[], [], [4], [(.slot 4)]⟩]) (es' := [(2, .box 23 [.v (.bool a.Null), .v (.string a.Local), .v (.string a.Domain)]), (3, .box 23 [.v (.bool b.Null), .v (.string b.Local), .v (.string b.Domain)])]) (by kernel_rfl) rfl rfl
   ⟨st_plain rfl (op_box _ _ _ _ rfl rfl rfl),
   st_plain rfl (op_box _ _ _ _ rfl rfl rfl),
   st_plain rfl (op_assign _ _ _ _ rfl rfl),
   trivial⟩ ?_
  refine pt_then ?_
  refine ht_seq ?_
  refine ht_joinS h (fun (s2 : Bool) => [(4, .v (.bool s2))]) ?_ ?_
  ·rintro s2 h
   refine pt_then ?_
   refine ht_ret ?_
   obtain rfl := Option.some.inj h
   exact pt_ret hio rfl (.tmp _ _ .nil) rfl rfl
  ·intro u3 h hl4 hr5
   obtain ⟨v1, hv1, h⟩ := bind_some h
   refine cond_some h (fun hg1_5 h => ?_) (fun hg1_5 h => ?_)
   ·refine cond_some h (fun hg1_12 h => ?_) (fun hg1_12 h => ?_)
    ·refine ht_seqR hn (El := (_ :: _ :: (5, .ptr 2 0) :: (6, .v (.bool a.Null)) :: (7, .ptr 3 0) :: (8, .v (.bool b.Null)) :: (9, .v (.bool (a.Null == b.Null))) :: (10, .v (.bool true)) :: (11, .ptr 2 1) :: (12, .v (.string a.Local)) :: (13, .ptr 3 1) :: (14, .v (.string b.Local)) :: (15, .v (.bool (a.Local.toList == b.Local.toList))) :: (16, .v (.bool (a.Local.toList == b.Local.toList))) :: (17, .v (.bool true)) :: (18, .ptr 2 2) :: (19, .v (.string a.Domain)) :: (20, .ptr 3 2) :: (21, .v (.string b.Domain)) :: (22, .v (.bool (a.Domain.toList == b.Domain.toList))) :: (23, .v (.bool (a.Domain.toList == b.Domain.toList))) :: (4, .v (.bool (a.Domain.toList == b.Domain.toList))) :: [])) (init := [0, 1]) (fin := [21]) (sps := (⟨[0], [], [2], [(.slot 5)]⟩ :: ⟨[2, 0], [], [3], [(.slot 6)]⟩ :: ⟨[1], [], [4], [(.slot 7)]⟩ :: ⟨[4, 1], [], [5], [(.slot 8)]⟩ :: ⟨[3, 5], [], [6], [(.slot 9)]⟩ :: ⟨[6], [], [7], [(.slot 10)]⟩ :: ⟨[7, 0], [], [8], [(.slot 11)]⟩ :: ⟨[7, 8, 0], [], [9], [(.slot 12)]⟩ :: ⟨[7, 1], [], [10], [(.slot 13)]⟩ :: ⟨[7, 10, 1], [], [11], [(.slot 14)]⟩ :: ⟨[7, 9, 11], [], [12], [(.slot 15)]⟩ :: ⟨[7, 12], [], [13], [(.slot 16)]⟩ :: ⟨[13], [], [14], [(.slot 17)]⟩ :: ⟨[14, 0], [], [15], [(.slot 18)]⟩ :: ⟨[14, 15, 0], [], [16], [(.slot 19)]⟩ :: ⟨[14, 1], [], [17], [(.slot 20)]⟩ :: ⟨[14, 17, 1], [], [18], [(.slot 21)]⟩ :: ⟨[14, 16, 18], [], [19], [(.slot 22)]⟩ :: ⟨[14, 19], [], [20], [(.slot 23)]⟩ :: ⟨[20], [], [21], [(.slot 4)]⟩ :: [])) (es' := [(4, .v (.bool (a.Domain.toList == b.Domain.toList)))]) (by kernel_rfl) rfl rfl
      ⟨st_plain rfl (op_fieldAddr _ _ _ _ 2 0 _ Tryd.underlying23 rfl sz4 rfl rfl (by decide)),
      st_plain rfl (op_load _ _ _ _ _ _ Tryd.underlying4 rfl rfl rfl (Nat.le_of_ble_eq_true rfl) rfl rfl rfl),
      st_plain rfl (op_fieldAddr _ _ _ _ 3 0 _ Tryd.underlying23 rfl sz4 rfl rfl (by decide)),
      st_plain rfl (op_load _ _ _ _ _ _ Tryd.underlying4 rfl rfl rfl (Nat.le_of_ble_eq_true rfl) rfl rfl rfl),
      st_plain rfl (op_beq _ _ _ _ Tryd.underlying4 rfl rfl),
      st_plain rfl (op_move _ _ _ _ (congrArg (fun b => AV.v (Value.bool b)) hg1_5) rfl),
      st_run 5 10 true rfl rfl rfl (List.Mem.head _) (op_fieldAddr _ _ _ _ 2 0 _ Tryd.underlying23 rfl sz9 rfl rfl (by decide)),
      st_run 5 10 true rfl rfl rfl (List.Mem.head _) (op_load _ _ _ _ _ _ Tryd.underlying9 rfl rfl rfl (Nat.le_of_ble_eq_true rfl) rfl rfl rfl),
      st_run 5 10 true rfl rfl rfl (List.Mem.head _) (op_fieldAddr _ _ _ _ 3 0 _ Tryd.underlying23 rfl sz9 rfl rfl (by decide)),
      st_run 5 10 true rfl rfl rfl (List.Mem.head _) (op_load _ _ _ _ _ _ Tryd.underlying9 rfl rfl rfl (Nat.le_of_ble_eq_true rfl) rfl rfl rfl),
      st_run 5 10 true rfl rfl rfl (List.Mem.head _) (op_bin _ _ _ _ _ rfl rfl rfl),
      st_plain rfl (op_pick _ _ true _ rfl rfl),
      st_plain rfl (op_move _ _ _ _ (congrArg (fun b => AV.v (Value.bool b)) hg1_12) rfl),
      st_run 12 17 true rfl rfl rfl (List.Mem.head _) (op_fieldAddr _ _ _ _ 2 0 _ Tryd.underlying23 rfl sz9 rfl rfl (by decide)),
      st_run 12 17 true rfl rfl rfl (List.Mem.head _) (op_load _ _ _ _ _ _ Tryd.underlying9 rfl rfl rfl (Nat.le_of_ble_eq_true rfl) rfl rfl rfl),
      st_run 12 17 true rfl rfl rfl (List.Mem.head _) (op_fieldAddr _ _ _ _ 3 0 _ Tryd.underlying23 rfl sz9 rfl rfl (by decide)),
      st_run 12 17 true rfl rfl rfl (List.Mem.head _) (op_load _ _ _ _ _ _ Tryd.underlying9 rfl rfl rfl (Nat.le_of_ble_eq_true rfl) rfl rfl rfl),
      st_run 12 17 true rfl rfl rfl (List.Mem.head _) (op_bin _ _ _ _ _ rfl rfl rfl),
      st_plain rfl (op_pick _ _ true _ rfl rfl),
      st_plain rfl (op_assign _ _ _ _ rfl rfl),
      trivial⟩ ?_
     exact hl4 _ (Option.some.inj h).symm
    ·refine ht_seqR hn (El := (_ :: _ :: (5, .ptr 2 0) :: (6, .v (.bool a.Null)) :: (7, .ptr 3 0) :: (8, .v (.bool b.Null)) :: (9, .v (.bool (a.Null == b.Null))) :: (10, .v (.bool true)) :: (11, .ptr 2 1) :: (12, .v (.string a.Local)) :: (13, .ptr 3 1) :: (14, .v (.string b.Local)) :: (15, .v (.bool (a.Local.toList == b.Local.toList))) :: (16, .v (.bool (a.Local.toList == b.Local.toList))) :: (17, .v (.bool false)) :: (18, .v undef) :: (19, .v undef) :: (20, .v undef) :: (21, .v undef) :: (22, .v undef) :: (23, .v (.bool false)) :: (4, .v (.bool false)) :: [])) (init := [0, 1]) (fin := [21]) (sps := (⟨[0], [], [2], [(.slot 5)]⟩ :: ⟨[2, 0], [], [3], [(.slot 6)]⟩ :: ⟨[1], [], [4], [(.slot 7)]⟩ :: ⟨[4, 1], [], [5], [(.slot 8)]⟩ :: ⟨[3, 5], [], [6], [(.slot 9)]⟩ :: ⟨[6], [], [7], [(.slot 10)]⟩ :: ⟨[7, 0], [], [8], [(.slot 11)]⟩ :: ⟨[7, 8, 0], [], [9], [(.slot 12)]⟩ :: ⟨[7, 1], [], [10], [(.slot 13)]⟩ :: ⟨[7, 10, 1], [], [11], [(.slot 14)]⟩ :: ⟨[7, 9, 11], [], [12], [(.slot 15)]⟩ :: ⟨[7, 12], [], [13], [(.slot 16)]⟩ :: ⟨[13], [], [14], [(.slot 17)]⟩ :: ⟨[14], [], [15], [(.slot 18)]⟩ :: ⟨[14], [], [16], [(.slot 19)]⟩ :: ⟨[14], [], [17], [(.slot 20)]⟩ :: ⟨[14], [], [18], [(.slot 21)]⟩ :: ⟨[14], [], [19], [(.slot 22)]⟩ :: ⟨[14], [], [20], [(.slot 23)]⟩ :: ⟨[20], [], [21], [(.slot 4)]⟩ :: [])) (es' := [(4, .v (.bool false))]) (by kernel_rfl) rfl rfl
      ⟨st_plain rfl (op_fieldAddr _ _ _ _ 2 0 _ Tryd.underlying23 rfl sz4 rfl rfl (by decide)),
      st_plain rfl (op_load _ _ _ _ _ _ Tryd.underlying4 rfl rfl rfl (Nat.le_of_ble_eq_true rfl) rfl rfl rfl),
      st_plain rfl (op_fieldAddr _ _ _ _ 3 0 _ Tryd.underlying23 rfl sz4 rfl rfl (by decide)),
      st_plain rfl (op_load _ _ _ _ _ _ Tryd.underlying4 rfl rfl rfl (Nat.le_of_ble_eq_true rfl) rfl rfl rfl),
      st_plain rfl (op_beq _ _ _ _ Tryd.underlying4 rfl rfl),
      st_plain rfl (op_move _ _ _ _ (congrArg (fun b => AV.v (Value.bool b)) hg1_5) rfl),
      st_run 5 10 true rfl rfl rfl (List.Mem.head _) (op_fieldAddr _ _ _ _ 2 0 _ Tryd.underlying23 rfl sz9 rfl rfl (by decide)),
      st_run 5 10 true rfl rfl rfl (List.Mem.head _) (op_load _ _ _ _ _ _ Tryd.underlying9 rfl rfl rfl (Nat.le_of_ble_eq_true rfl) rfl rfl rfl),
      st_run 5 10 true rfl rfl rfl (List.Mem.head _) (op_fieldAddr _ _ _ _ 3 0 _ Tryd.underlying23 rfl sz9 rfl rfl (by decide)),
      st_run 5 10 true rfl rfl rfl (List.Mem.head _) (op_load _ _ _ _ _ _ Tryd.underlying9 rfl rfl rfl (Nat.le_of_ble_eq_true rfl) rfl rfl rfl),
      st_run 5 10 true rfl rfl rfl (List.Mem.head _) (op_bin _ _ _ _ _ rfl rfl rfl),
      st_plain rfl (op_pick _ _ true _ rfl rfl),
      st_plain rfl (op_move _ _ _ _ (congrArg (fun b => AV.v (Value.bool b)) hg1_12) rfl),
      st_skip 12 17 _ true rfl rfl rfl rfl (List.Mem.head _),
      st_skip 12 17 _ true rfl rfl rfl rfl (List.Mem.head _),
      st_skip 12 17 _ true rfl rfl rfl rfl (List.Mem.head _),
      st_skip 12 17 _ true rfl rfl rfl rfl (List.Mem.head _),
      st_skip 12 17 _ true rfl rfl rfl rfl (List.Mem.head _),
      st_plain rfl (op_pick _ _ false _ rfl rfl),
      st_plain rfl (op_assign _ _ _ _ rfl rfl),
      trivial⟩ ?_
     exact hl4 _ (Option.some.inj h).symm
   ·refine ht_seqR hn (El := (_ :: _ :: (5, .ptr 2 0) :: (6, .v (.bool a.Null)) :: (7, .ptr 3 0) :: (8, .v (.bool b.Null)) :: (9, .v (.bool (a.Null == b.Null))) :: (10, .v (.bool false)) :: (11, .v undef) :: (12, .v undef) :: (13, .v undef) :: (14, .v undef) :: (15, .v undef) :: (16, .v (.bool false)) :: (17, .v (.bool false)) :: (18, .v undef) :: (19, .v undef) :: (20, .v undef) :: (21, .v undef) :: (22, .v undef) :: (23, .v (.bool false)) :: (4, .v (.bool false)) :: [])) (init := [0, 1]) (fin := [21]) (sps := (⟨[0], [], [2], [(.slot 5)]⟩ :: ⟨[2, 0], [], [3], [(.slot 6)]⟩ :: ⟨[1], [], [4], [(.slot 7)]⟩ :: ⟨[4, 1], [], [5], [(.slot 8)]⟩ :: ⟨[3, 5], [], [6], [(.slot 9)]⟩ :: ⟨[6], [], [7], [(.slot 10)]⟩ :: ⟨[7], [], [8], [(.slot 11)]⟩ :: ⟨[7], [], [9], [(.slot 12)]⟩ :: ⟨[7], [], [10], [(.slot 13)]⟩ :: ⟨[7], [], [11], [(.slot 14)]⟩ :: ⟨[7], [], [12], [(.slot 15)]⟩ :: ⟨[7], [], [13], [(.slot 16)]⟩ :: ⟨[13], [], [14], [(.slot 17)]⟩ :: ⟨[14], [], [15], [(.slot 18)]⟩ :: ⟨[14], [], [16], [(.slot 19)]⟩ :: ⟨[14], [], [17], [(.slot 20)]⟩ :: ⟨[14], [], [18], [(.slot 21)]⟩ :: ⟨[14], [], [19], [(.slot 22)]⟩ :: ⟨[14], [], [20], [(.slot 23)]⟩ :: ⟨[20], [], [21], [(.slot 4)]⟩ :: [])) (es' := [(4, .v (.bool false))]) (by kernel_rfl) rfl rfl
     ⟨st_plain rfl (op_fieldAddr _ _ _ _ 2 0 _ Tryd.underlying23 rfl sz4 rfl rfl (by decide)),
     st_plain rfl (op_load _ _ _ _ _ _ Tryd.underlying4 rfl rfl rfl (Nat.le_of_ble_eq_true rfl) rfl rfl rfl),
     st_plain rfl (op_fieldAddr _ _ _ _ 3 0 _ Tryd.underlying23 rfl sz4 rfl rfl (by decide)),
     st_plain rfl (op_load _ _ _ _ _ _ Tryd.underlying4 rfl rfl rfl (Nat.le_of_ble_eq_true rfl) rfl rfl rfl),
     st_plain rfl (op_beq _ _ _ _ Tryd.underlying4 rfl rfl),
     st_plain rfl (op_move _ _ _ _ (congrArg (fun b => AV.v (Value.bool b)) hg1_5) rfl),
     st_skip 5 10 _ true rfl rfl rfl rfl (List.Mem.head _),
     st_skip 5 10 _ true rfl rfl rfl rfl (List.Mem.head _),
     st_skip 5 10 _ true rfl rfl rfl rfl (List.Mem.head _),
     st_skip 5 10 _ true rfl rfl rfl rfl (List.Mem.head _),
     st_skip 5 10 _ true rfl rfl rfl rfl (List.Mem.head _),
     st_plain rfl (op_pick _ _ false _ rfl rfl),
     st_plain rfl (op_move _ _ _ _ rfl rfl),
     st_skip 12 17 _ true rfl rfl rfl rfl (List.Mem.head _),
     st_skip 12 17 _ true rfl rfl rfl rfl (List.Mem.head _),
     st_skip 12 17 _ true rfl rfl rfl rfl (List.Mem.head _),
     st_skip 12 17 _ true rfl rfl rfl rfl (List.Mem.head _),
     st_skip 12 17 _ true rfl rfl rfl rfl (List.Mem.head _),
     st_plain rfl (op_pick _ _ false _ rfl rfl),
     st_plain rfl (op_assign _ _ _ _ rfl rfl),
     trivial⟩ ?_
    exact hl4 _ (Option.some.inj h).symm

set_option maxHeartbeats 1000000 in
theorem ok_wherrykeep_Cmd (a : T_Cmd) (b : T_Cmd) (r : Bool) (h : Sh.wherrykeep_Cmd a b = some r) : FnOK Tryd.prog 11 [.agg [.v (.int .i64 a.Kind), .v (.string a.Text), .v (.bool a.Path.Null), .v (.string a.Path.Local), .v (.string a.Path.Domain), .fl .shr 2 (List.flatten (List.map T_Param.enc a.Params))], .agg [.v (.int .i64 b.Kind), .v (.string b.Text), .v (.bool b.Path.Null), .v (.string b.Path.Local), .v (.string b.Path.Domain), .fl .shr 2 (List.flatten (List.map T_Param.enc b.Params))]] (.v (.bool r)) := by
  unfold Sh.wherrykeep_Cmd at h
  refine fn_ok Tryd.func11 rfl (Nat.le_of_ble_eq_true rfl) rfl rfl fun g0 hn hio => ?_
  refine ht_seq ?_
  refine ht_seqR hn (El := [_, _, (2, .box 26 [.v (.int .i64 a.Kind), .v (.string a.Text), .v (.bool a.Path.Null), .v (.string a.Path.Local), .v (.string a.Path.Domain), .fl .shr 2 (List.flatten (List.map T_Param.enc a.Params))]), (3, .box 26 [.v (.int .i64 b.Kind), .v (.string b.Text), .v (.bool b.Path.Null), .v (.string b.Path.Local), .v (.string b.Path.Domain), .fl .shr 2 (List.flatten (List.map T_Param.enc b.Params))]), (4, .v (.bool false))]) (init := [0, 1]) (fin := [2, 3]) (sps := [⟨[0], [], [2], [(.slot 2)]⟩, ⟨[1], [], [3], [(.slot 3)]⟩, ⟨[], [], [4], [(.slot 4)]⟩]) (es' := [(2, .box 26 [.v (.int .i64 a.Kind), .v (.string a.Text), .v (.bool a.Path.Null), .v (.string a.Path.Local), .v (.string a.Path.Domain), .fl .shr 2 (List.flatten (List.map T_Param.enc a.Params))]), (3, .box 26 [.v (.int .i64 b.Kind), .v (.string b.Text), .v (.bool b.Path.Null), .v (.string b.Path.Local), .v (.string b.Path.Domain), .fl .shr 2 (List.flatten (List.map T_Param.enc b.Params))])]) (by kernel_rfl) rfl rfl
   ⟨st_plain rfl (op_box _ _ _ _ rfl rfl rfl),
   st_plain rfl (op_box _ _ _ _ rfl rfl rfl),
   st_plain rfl (op_assign _ _ _ _ rfl rfl),
   trivial⟩ ?_
  refine pt_then ?_
  refine ht_seq ?_
  refine ht_seq ?_
  refine ht_joinS h (fun (s2 : Bool) => [(2, .box 26 [.v (.int .i64 a.Kind), .v (.string a.Text), .v (.bool a.Path.Null), .v (.string a.Path.Local), .v (.string a.Path.Domain), .fl .shr 2 (List.flatten (List.map T_Param.enc a.Params))]), (3, .box 26 [.v (.int .i64 b.Kind), .v (.string b.Text), .v (.bool b.Path.Null), .v (.string b.Path.Local), .v (.string b.Path.Domain), .fl .shr 2 (List.flatten (List.map T_Param.enc b.Params))]), (34, .v (.bool s2))]) ?_ ?_
  ·rintro s2 h
   refine pt_then ?_
   refine ht_cond _ rfl (fun hb6 => ?_) (fun hb6 => ?_)
   ·have h := cond_t hb6 h
    refine ht_seq ?_
    refine ht_seqR hn (El := [_, _, _, (4, .v (.bool false))]) (init := [0, 1, 2]) (fin := [3]) (sps := [⟨[], [], [3], [(.slot 4)]⟩]) (es' := [(4, .v (.bool false))]) (by kernel_rfl) rfl rfl
     ⟨st_plain rfl (op_assign _ _ _ _ rfl rfl),
     trivial⟩ ?_
    refine pt_then ?_
    refine ht_ret ?_
    refine pt_r_then ?_
    obtain rfl := Option.some.inj h
    exact pt_ret hio rfl (.tmp _ _ .nil) rfl rfl
   ·have h := cond_f hb6 h
    refine ht_skip ?_
    refine pt_then ?_
    refine ht_seq ?_
    refine ht_seq ?_
    refine ht_seqR hn (El := [_, _, _, (5, .v (.int .i64 0))]) (init := [0, 1, 2]) (fin := [0, 1, 3]) (sps := [⟨[], [], [3], [(.slot 5)]⟩]) (es' := [(_, _), (_, _), (5, .v (.int .i64 0))]) (by kernel_rfl) rfl rfl
     ⟨st_plain rfl (op_assign _ _ _ _ rfl rfl),
     trivial⟩ ?_
    refine pt_then ?_
    refine ht_loopS h (fun (s29 : Int) => [(2, .box 26 [.v (.int .i64 a.Kind), .v (.string a.Text), .v (.bool a.Path.Null), .v (.string a.Path.Local), .v (.string a.Path.Domain), .fl .shr 2 (List.flatten (List.map T_Param.enc a.Params))]), (3, .box 26 [.v (.int .i64 b.Kind), .v (.string b.Text), .v (.bool b.Path.Null), .v (.string b.Path.Local), .v (.string b.Path.Domain), .fl .shr 2 (List.flatten (List.map T_Param.enc b.Params))]), (5, .v (.int .i64 s29))]) (fun (() : Unit) => []) ?_ ?_
    ·rintro ⟨⟩ h
     refine pt_then ?_
     refine ht_seq ?_
     refine ht_seqR hn (El := [(4, .v (.bool true))]) (init := []) (fin := [0]) (sps := [⟨[], [], [0], [(.slot 4)]⟩]) (es' := [(4, .v (.bool true))]) (by kernel_rfl) rfl rfl
      ⟨st_plain rfl (op_assign _ _ _ _ rfl rfl),
      trivial⟩ ?_
     refine pt_then ?_
     refine ht_ret ?_
     obtain rfl := Option.some.inj h
     exact pt_ret hio rfl (.tmp _ _ .nil) rfl rfl
    ·rintro u36 hl37 hr38 s29 rr41 h ho39
     refine ht_seq ?_
     refine ht_seq ?_
     refine ht_seqR hn (El := [_, _, _, (35, .v (.int .i64 s29)), (36, .ptr 2 5), (37, .fl .shr 2 (List.flatten (List.map T_Param.enc a.Params))), (38, .v (.int .i64 (a.Params.length : Int))), (39, .v (.bool ((decide (s29 < (a.Params.length : Int))))))]) (init := [0, 1, 2]) (fin := [0, 1, 2, 7]) (sps := [⟨[2], [], [3], [(.slot 35)]⟩, ⟨[0], [], [4], [(.slot 36)]⟩, ⟨[4, 0], [], [5], [(.slot 37)]⟩, ⟨[5], [], [6], [(.slot 38)]⟩, ⟨[3, 6], [], [7], [(.slot 39)]⟩]) (es' := [(_, _), (_, _), (_, _), (39, .v (.bool ((decide (s29 < (a.Params.length : Int))))))]) (by kernel_rfl) rfl rfl
      ⟨st_plain rfl (op_move _ _ _ _ rfl rfl),
      st_plain rfl (op_fieldAddr _ _ _ _ 2 0 _ Tryd.underlying26 rfl sz24 rfl rfl (by decide)),
      st_plain rfl (op_load _ _ _ _ _ _ Tryd.underlying24 rfl rfl rfl (Nat.le_of_ble_eq_true rfl) rfl rfl rfl),
      st_plain rfl (op_len_fl _ _ _ Tryd.underlying24 rfl (by decide) (flat_len T_Param.len _)),
      st_plain rfl (op_bin _ _ _ _ _ rfl rfl rfl),
      trivial⟩ ?_
     refine pt_then ?_
     refine ht_cond _ rfl (fun hb42 => ?_) (fun hb42 => ?_)
     ·have h := cond_t hb42 h
      refine ht_skip ?_
      refine pt_then ?_
      refine ht_seq ?_
      refine ht_block ?_
      refine ht_seq ?_
      refine ht_joinS h (fun (s43 : Bool) => [(2, .box 26 [.v (.int .i64 a.Kind), .v (.string a.Text), .v (.bool a.Path.Null), .v (.string a.Path.Local), .v (.string a.Path.Domain), .fl .shr 2 (List.flatten (List.map T_Param.enc a.Params))]), (3, .box 26 [.v (.int .i64 b.Kind), .v (.string b.Text), .v (.bool b.Path.Null), .v (.string b.Path.Local), .v (.string b.Path.Domain), .fl .shr 2 (List.flatten (List.map T_Param.enc b.Params))]), (5, .v (.int .i64 s29)), (69, .v (.bool s43))]) ?_ ?_
      ·rintro s43 h
       refine pt_then ?_
       refine ht_cond _ rfl (fun hb47 => ?_) (fun hb47 => ?_)
       ·have h := cond_t hb47 h
        refine ht_seq ?_
        refine ht_seqR hn (El := [_, _, _, _, (4, .v (.bool false))]) (init := [0, 1, 2, 3]) (fin := [4]) (sps := [⟨[], [], [4], [(.slot 4)]⟩]) (es' := [(4, .v (.bool false))]) (by kernel_rfl) rfl rfl
         ⟨st_plain rfl (op_assign _ _ _ _ rfl rfl),
         trivial⟩ ?_
        refine pt_then ?_
        refine ht_ret ?_
        refine pt_r_in ?_
        refine pt_r_then ?_
        refine pt_r_then ?_
        refine pt_r_in ?_
        refine pt_r_then ?_
        have h := hr38 _ (ho39 _ (Option.some.inj h).symm).symm
        obtain rfl := Option.some.inj h
        exact pt_ret hio rfl (.tmp _ _ .nil) rfl rfl
       ·have h := cond_f hb47 h
        refine ht_skip ?_
        refine pt_inb ?_
        refine pt_then ?_
        obtain ⟨v21, hv21, h⟩ := bind_some h
        refine ht_seqR hn (El := [_, _, _, _, (40, .v (.int .i64 s29)), (41, .v (.int .i64 v21)), (5, .v (.int .i64 v21))]) (init := [0, 1, 2, 3]) (fin := [0, 1, 6]) (sps := [⟨[2], [], [4], [(.slot 40)]⟩, ⟨[4], [], [5], [(.slot 41)]⟩, ⟨[5], [2], [6], [(.slot 5)]⟩]) (es' := [(_, _), (_, _), (5, .v (.int .i64 v21))]) (by kernel_rfl) rfl rfl
         ⟨st_plain rfl (op_move _ _ _ _ rfl rfl),
         st_plain rfl (op_bin _ _ _ _ _ rfl rfl (ibind (f := Value.int .i64) (Option.some.inj hv21))),
         st_plain rfl (LOp.drop [_] (op_assign _ _ _ _ rfl rfl)),
         trivial⟩ ?_
        exact pt_next _ (Option.some.inj h).symm rfl
      ·intro u44 h hl45 hr46
       obtain ⟨v8, hv8, h⟩ := bind_some h
       obtain ⟨v9, hv9, h⟩ := bind_some h
       obtain ⟨v10, hv10, h⟩ := bind_some h
       obtain ⟨v11, hv11, h⟩ := bind_some h
       refine cond_some h (fun hg6_13 h => ?_) (fun hg6_13 h => ?_)
       ·refine ht_anyR (by kernel_rfl) hn (El := (_ :: _ :: _ :: _ :: (42, .ptr 2 5) :: (43, .fl .shr 2 (List.flatten (List.map T_Param.enc a.Params))) :: (44, .v (.int .i64 s29)) :: (45, .eref (.slot 43) (v8 * 2)) :: (46, .eref (.slot 43) (v8 * 2 + 0)) :: (47, .v (.string v9.Key)) :: (48, .ptr 3 5) :: (49, .fl .shr 2 (List.flatten (List.map T_Param.enc b.Params))) :: (50, .v (.int .i64 s29)) :: (51, .eref (.slot 49) (v10 * 2)) :: (52, .eref (.slot 49) (v10 * 2 + 0)) :: (53, .v (.string v11.Key)) :: (54, .v (.bool ((!(v9.Key.toList == v11.Key.toList))))) :: (55, .v (.bool true)) :: (56, .v undef) :: (57, .v undef) :: (58, .v undef) :: (59, .v undef) :: (60, .v undef) :: (61, .v undef) :: (62, .v undef) :: (63, .v undef) :: (64, .v undef) :: (65, .v undef) :: (66, .v undef) :: (67, .v undef) :: (68, .v undef) :: (69, .v (.bool true)) :: [])) (init := [0, 1, 2, 3]) (fin := [0, 1, 2, 31]) (sps := (⟨[0], [], [4], [(.slot 42)]⟩ :: ⟨[4, 0], [], [5], [(.slot 43)]⟩ :: ⟨[2], [], [6], [(.slot 44)]⟩ :: ⟨[5, 6], [], [7], [(.slot 45)]⟩ :: ⟨[7, 5], [], [8], [(.slot 46)]⟩ :: ⟨[8, 5], [], [9], [(.slot 47)]⟩ :: ⟨[1], [], [10], [(.slot 48)]⟩ :: ⟨[10, 1], [], [11], [(.slot 49)]⟩ :: ⟨[2], [], [12], [(.slot 50)]⟩ :: ⟨[11, 12], [], [13], [(.slot 51)]⟩ :: ⟨[13, 11], [], [14], [(.slot 52)]⟩ :: ⟨[14, 11], [], [15], [(.slot 53)]⟩ :: ⟨[9, 15], [], [16], [(.slot 54)]⟩ :: ⟨[16], [], [17], [(.slot 55)]⟩ :: ⟨[17], [], [18], [(.slot 56)]⟩ :: ⟨[17], [], [19], [(.slot 57)]⟩ :: ⟨[17], [], [20], [(.slot 58)]⟩ :: ⟨[17], [], [21], [(.slot 59)]⟩ :: ⟨[17], [], [22], [(.slot 60)]⟩ :: ⟨[17], [], [23], [(.slot 61)]⟩ :: ⟨[17], [], [24], [(.slot 62)]⟩ :: ⟨[17], [], [25], [(.slot 63)]⟩ :: ⟨[17], [], [26], [(.slot 64)]⟩ :: ⟨[17], [], [27], [(.slot 65)]⟩ :: ⟨[17], [], [28], [(.slot 66)]⟩ :: ⟨[17], [], [29], [(.slot 67)]⟩ :: ⟨[17], [], [30], [(.slot 68)]⟩ :: ⟨[17], [], [31], [(.slot 69)]⟩ :: [])) (es' := [(_, _), (_, _), (_, _), (69, .v (.bool true))]) (by kernel_rfl) rfl rfl
         ⟨st_plain rfl (op_fieldAddr _ _ _ _ 2 0 _ Tryd.underlying26 rfl sz24 rfl rfl (by decide)),
         st_plain rfl (op_load _ _ _ _ _ _ Tryd.underlying24 rfl rfl rfl (Nat.le_of_ble_eq_true rfl) rfl rfl rfl),
         st_plain rfl (op_move _ _ _ _ rfl rfl),
         st_plain rfl (op_ix _ _ _ _ _ _ _ _ Tryd.underlying24 sz46 (by decide) rfl rfl rfl (ix_ok hv8).1 (flat_lt T_Param.len (ix_ok hv8).2) rfl),
         st_plain rfl (op_fieldAddr_e _ _ _ _ _ _ _ Tryd.underlying46 rfl sz9 rfl rfl rfl),
         st_plain rfl (op_load_e _ _ _ _ _ _ Tryd.underlying9 rfl rfl rfl (flat_cell T_Param.len hv9 rfl)),
         st_plain rfl (op_fieldAddr _ _ _ _ 3 0 _ Tryd.underlying26 rfl sz24 rfl rfl (by decide)),
         st_plain rfl (op_load _ _ _ _ _ _ Tryd.underlying24 rfl rfl rfl (Nat.le_of_ble_eq_true rfl) rfl rfl rfl),
         st_plain rfl (op_move _ _ _ _ rfl rfl),
         st_plain rfl (op_ix _ _ _ _ _ _ _ _ Tryd.underlying24 sz46 (by decide) rfl rfl rfl (ix_ok hv10).1 (flat_lt T_Param.len (ix_ok hv10).2) rfl),
         st_plain rfl (op_fieldAddr_e _ _ _ _ _ _ _ Tryd.underlying46 rfl sz9 rfl rfl rfl),
         st_plain rfl (op_load_e _ _ _ _ _ _ Tryd.underlying9 rfl rfl rfl (flat_cell T_Param.len hv11 rfl)),
         st_plain rfl (op_bin _ _ _ _ _ rfl rfl rfl),
         st_plain rfl (op_move _ _ _ _ (congrArg (fun b => AV.v (Value.bool b)) hg6_13) rfl),
         st_skip 13 55 _ false rfl rfl rfl rfl (List.Mem.head _),
         st_skip 13 55 _ false rfl rfl rfl rfl (List.Mem.head _),
         st_skip 13 55 _ false rfl rfl rfl rfl (List.Mem.head _),
         st_skip 13 55 _ false rfl rfl rfl rfl (List.Mem.head _),
         st_skip 13 55 _ false rfl rfl rfl rfl (List.Mem.head _),
         st_skip 13 55 _ false rfl rfl rfl rfl (List.Mem.head _),
         st_skip 13 55 _ false rfl rfl rfl rfl (List.Mem.head _),
         st_skip 13 55 _ false rfl rfl rfl rfl (List.Mem.head _),
         st_skip 13 55 _ false rfl rfl rfl rfl (List.Mem.head _),
         st_skip 13 55 _ false rfl rfl rfl rfl (List.Mem.head _),
         st_skip 13 55 _ false rfl rfl rfl rfl (List.Mem.head _),
         st_skip 13 55 _ false rfl rfl rfl rfl (List.Mem.head _),
         st_skip 13 55 _ false rfl rfl rfl rfl (List.Mem.head _),
         st_plain rfl (op_pick _ _ true _ rfl rfl),
         trivial⟩ ?_
        exact hl45 _ (Option.some.inj h).symm
       ·obtain ⟨v12, hv12, h⟩ := bind_some h
        obtain ⟨v13, hv13, h⟩ := bind_some h
        obtain ⟨v14, hv14, h⟩ := bind_some h
        obtain ⟨v15, hv15, h⟩ := bind_some h
        refine ht_anyR (by kernel_rfl) hn (El := (_ :: _ :: _ :: _ :: (42, .ptr 2 5) :: (43, .fl .shr 2 (List.flatten (List.map T_Param.enc a.Params))) :: (44, .v (.int .i64 s29)) :: (45, .eref (.slot 43) (v8 * 2)) :: (46, .eref (.slot 43) (v8 * 2 + 0)) :: (47, .v (.string v9.Key)) :: (48, .ptr 3 5) :: (49, .fl .shr 2 (List.flatten (List.map T_Param.enc b.Params))) :: (50, .v (.int .i64 s29)) :: (51, .eref (.slot 49) (v10 * 2)) :: (52, .eref (.slot 49) (v10 * 2 + 0)) :: (53, .v (.string v11.Key)) :: (54, .v (.bool ((!(v9.Key.toList == v11.Key.toList))))) :: (55, .v (.bool false)) :: (56, .ptr 2 5) :: (57, .fl .shr 2 (List.flatten (List.map T_Param.enc a.Params))) :: (58, .v (.int .i64 s29)) :: (59, .eref (.slot 57) (v12 * 2)) :: (60, .eref (.slot 57) (v12 * 2 + 1)) :: (61, .v (.string v13.Val)) :: (62, .ptr 3 5) :: (63, .fl .shr 2 (List.flatten (List.map T_Param.enc b.Params))) :: (64, .v (.int .i64 s29)) :: (65, .eref (.slot 63) (v14 * 2)) :: (66, .eref (.slot 63) (v14 * 2 + 1)) :: (67, .v (.string v15.Val)) :: (68, .v (.bool ((!(v13.Val.toList == v15.Val.toList))))) :: (69, .v (.bool ((!(v13.Val.toList == v15.Val.toList))))) :: [])) (init := [0, 1, 2, 3]) (fin := [0, 1, 2, 31]) (sps := (⟨[0], [], [4], [(.slot 42)]⟩ :: ⟨[4, 0], [], [5], [(.slot 43)]⟩ :: ⟨[2], [], [6], [(.slot 44)]⟩ :: ⟨[5, 6], [], [7], [(.slot 45)]⟩ :: ⟨[7, 5], [], [8], [(.slot 46)]⟩ :: ⟨[8, 5], [], [9], [(.slot 47)]⟩ :: ⟨[1], [], [10], [(.slot 48)]⟩ :: ⟨[10, 1], [], [11], [(.slot 49)]⟩ :: ⟨[2], [], [12], [(.slot 50)]⟩ :: ⟨[11, 12], [], [13], [(.slot 51)]⟩ :: ⟨[13, 11], [], [14], [(.slot 52)]⟩ :: ⟨[14, 11], [], [15], [(.slot 53)]⟩ :: ⟨[9, 15], [], [16], [(.slot 54)]⟩ :: ⟨[16], [], [17], [(.slot 55)]⟩ :: ⟨[17, 0], [], [18], [(.slot 56)]⟩ :: ⟨[17, 18, 0], [], [19], [(.slot 57)]⟩ :: ⟨[17, 2], [], [20], [(.slot 58)]⟩ :: ⟨[17, 19, 20], [], [21], [(.slot 59)]⟩ :: ⟨[17, 21, 19], [], [22], [(.slot 60)]⟩ :: ⟨[17, 22, 19], [], [23], [(.slot 61)]⟩ :: ⟨[17, 1], [], [24], [(.slot 62)]⟩ :: ⟨[17, 24, 1], [], [25], [(.slot 63)]⟩ :: ⟨[17, 2], [], [26], [(.slot 64)]⟩ :: ⟨[17, 25, 26], [], [27], [(.slot 65)]⟩ :: ⟨[17, 27, 25], [], [28], [(.slot 66)]⟩ :: ⟨[17, 28, 25], [], [29], [(.slot 67)]⟩ :: ⟨[17, 23, 29], [], [30], [(.slot 68)]⟩ :: ⟨[17, 30], [], [31], [(.slot 69)]⟩ :: [])) (es' := [(_, _), (_, _), (_, _), (69, .v (.bool ((!(v13.Val.toList == v15.Val.toList)))))]) (by kernel_rfl) rfl rfl
         ⟨st_plain rfl (op_fieldAddr _ _ _ _ 2 0 _ Tryd.underlying26 rfl sz24 rfl rfl (by decide)),
         st_plain rfl (op_load _ _ _ _ _ _ Tryd.underlying24 rfl rfl rfl (Nat.le_of_ble_eq_true rfl) rfl rfl rfl),
         st_plain rfl (op_move _ _ _ _ rfl rfl),
         st_plain rfl (op_ix _ _ _ _ _ _ _ _ Tryd.underlying24 sz46 (by decide) rfl rfl rfl (ix_ok hv8).1 (flat_lt T_Param.len (ix_ok hv8).2) rfl),
         st_plain rfl (op_fieldAddr_e _ _ _ _ _ _ _ Tryd.underlying46 rfl sz9 rfl rfl rfl),
         st_plain rfl (op_load_e _ _ _ _ _ _ Tryd.underlying9 rfl rfl rfl (flat_cell T_Param.len hv9 rfl)),
         st_plain rfl (op_fieldAddr _ _ _ _ 3 0 _ Tryd.underlying26 rfl sz24 rfl rfl (by decide)),
         st_plain rfl (op_load _ _ _ _ _ _ Tryd.underlying24 rfl rfl rfl (Nat.le_of_ble_eq_true rfl) rfl rfl rfl),
         st_plain rfl (op_move _ _ _ _ rfl rfl),
         st_plain rfl (op_ix _ _ _ _ _ _ _ _ Tryd.underlying24 sz46 (by decide) rfl rfl rfl (ix_ok hv10).1 (flat_lt T_Param.len (ix_ok hv10).2) rfl),
         st_plain rfl (op_fieldAddr_e _ _ _ _ _ _ _ Tryd.underlying46 rfl sz9 rfl rfl rfl),
         st_plain rfl (op_load_e _ _ _ _ _ _ Tryd.underlying9 rfl rfl rfl (flat_cell T_Param.len hv11 rfl)),
         st_plain rfl (op_bin _ _ _ _ _ rfl rfl rfl),
         st_plain rfl (op_move _ _ _ _ (congrArg (fun b => AV.v (Value.bool b)) hg6_13) rfl),
         st_run 13 55 false rfl rfl rfl (List.Mem.head _) (op_fieldAddr _ _ _ _ 2 0 _ Tryd.underlying26 rfl sz24 rfl rfl (by decide)),
         st_run 13 55 false rfl rfl rfl (List.Mem.head _) (op_load _ _ _ _ _ _ Tryd.underlying24 rfl rfl rfl (Nat.le_of_ble_eq_true rfl) rfl rfl rfl),
         st_run 13 55 false rfl rfl rfl (List.Mem.head _) (op_move _ _ _ _ rfl rfl),
         st_run 13 55 false rfl rfl rfl (List.Mem.head _) (op_ix _ _ _ _ _ _ _ _ Tryd.underlying24 sz46 (by decide) rfl rfl rfl (ix_ok hv12).1 (flat_lt T_Param.len (ix_ok hv12).2) rfl),
         st_run 13 55 false rfl rfl rfl (List.Mem.head _) (op_fieldAddr_e _ _ _ _ _ _ _ Tryd.underlying46 rfl sz9 rfl rfl rfl),
         st_run 13 55 false rfl rfl rfl (List.Mem.head _) (op_load_e _ _ _ _ _ _ Tryd.underlying9 rfl rfl rfl (flat_cell T_Param.len hv13 rfl)),
         st_run 13 55 false rfl rfl rfl (List.Mem.head _) (op_fieldAddr _ _ _ _ 3 0 _ Tryd.underlying26 rfl sz24 rfl rfl (by decide)),
         st_run 13 55 false rfl rfl rfl (List.Mem.head _) (op_load _ _ _ _ _ _ Tryd.underlying24 rfl rfl rfl (Nat.le_of_ble_eq_true rfl) rfl rfl rfl),
         st_run 13 55 false rfl rfl rfl (List.Mem.head _) (op_move _ _ _ _ rfl rfl),
         st_run 13 55 false rfl rfl rfl (List.Mem.head _) (op_ix _ _ _ _ _ _ _ _ Tryd.underlying24 sz46 (by decide) rfl rfl rfl (ix_ok hv14).1 (flat_lt T_Param.len (ix_ok hv14).2) rfl),
         st_run 13 55 false rfl rfl rfl (List.Mem.head _) (op_fieldAddr_e _ _ _ _ _ _ _ Tryd.underlying46 rfl sz9 rfl rfl rfl),
         st_run 13 55 false rfl rfl rfl (List.Mem.head _) (op_load_e _ _ _ _ _ _ Tryd.underlying9 rfl rfl rfl (flat_cell T_Param.len hv15 rfl)),
         st_run 13 55 false rfl rfl rfl (List.Mem.head _) (op_bin _ _ _ _ _ rfl rfl rfl),
         st_plain rfl (op_pick _ _ false _ rfl rfl),
         trivial⟩ ?_
        exact hl45 _ (Option.some.inj h).symm
     ·have h := cond_f hb42 h
      refine ht_exit ?_
      refine pt_x_then ?_
      refine pt_x_then ?_
      refine pt_x_in ?_
      refine pt_pick [] (by kernel_rfl) (es' := []) rfl ?_
      exact hl37 _ (ho39 _ (Option.some.inj h).symm).symm
  ·intro u3 h hl4 hr5
   refine cond_some h (fun hg1_5 h => ?_) (fun hg1_5 h => ?_)
   ·refine ht_seqR hn (El := (_ :: _ :: (6, .ptr 2 0) :: (7, .v (.int .i64 a.Kind)) :: (8, .ptr 3 0) :: (9, .v (.int .i64 b.Kind)) :: (10, .v (.bool (a.Kind != b.Kind))) :: (11, .v (.bool true)) :: (12, .v undef) :: (13, .v undef) :: (14, .v undef) :: (15, .v undef) :: (16, .v undef) :: (17, .v (.bool true)) :: (18, .v (.bool true)) :: (19, .v undef) :: (20, .v undef) :: (21, .v undef) :: (22, .v undef) :: (23, .v undef) :: (24, .v undef) :: (25, .v (.bool true)) :: (26, .v (.bool true)) :: (27, .v undef) :: (28, .v undef) :: (29, .v undef) :: (30, .v undef) :: (31, .v undef) :: (32, .v undef) :: (33, .v undef) :: (34, .v (.bool true)) :: [])) (init := [0, 1]) (fin := [0, 1, 30]) (sps := (⟨[0], [], [2], [(.slot 6)]⟩ :: ⟨[2, 0], [], [3], [(.slot 7)]⟩ :: ⟨[1], [], [4], [(.slot 8)]⟩ :: ⟨[4, 1], [], [5], [(.slot 9)]⟩ :: ⟨[3, 5], [], [6], [(.slot 10)]⟩ :: ⟨[6], [], [7], [(.slot 11)]⟩ :: ⟨[7], [], [8], [(.slot 12)]⟩ :: ⟨[7], [], [9], [(.slot 13)]⟩ :: ⟨[7], [], [10], [(.slot 14)]⟩ :: ⟨[7], [], [11], [(.slot 15)]⟩ :: ⟨[7], [], [12], [(.slot 16)]⟩ :: ⟨[7], [], [13], [(.slot 17)]⟩ :: ⟨[13], [], [14], [(.slot 18)]⟩ :: ⟨[14], [], [15], [(.slot 19)]⟩ :: ⟨[14], [], [16], [(.slot 20)]⟩ :: ⟨[14], [], [17], [(.slot 21)]⟩ :: ⟨[14], [], [18], [(.slot 22)]⟩ :: ⟨[14], [], [19], [(.slot 23)]⟩ :: ⟨[14], [], [20], [(.slot 24)]⟩ :: ⟨[14], [], [21], [(.slot 25)]⟩ :: ⟨[21], [], [22], [(.slot 26)]⟩ :: ⟨[22], [], [23], [(.slot 27)]⟩ :: ⟨[22], [], [24], [(.slot 28)]⟩ :: ⟨[22], [], [25], [(.slot 29)]⟩ :: ⟨[22], [], [26], [(.slot 30)]⟩ :: ⟨[22], [], [27], [(.slot 31)]⟩ :: ⟨[22], [], [28], [(.slot 32)]⟩ :: ⟨[22], [], [29], [(.slot 33)]⟩ :: ⟨[22], [], [30], [(.slot 34)]⟩ :: [])) (es' := [(_, _), (_, _), (34, .v (.bool true))]) (by kernel_rfl) rfl rfl
     ⟨st_plain rfl (op_fieldAddr _ _ _ _ 2 0 _ Tryd.underlying26 rfl sz3 rfl rfl (by decide)),
     st_plain rfl (op_load _ _ _ _ _ _ Tryd.underlying3 rfl rfl rfl (Nat.le_of_ble_eq_true rfl) rfl rfl rfl),
     st_plain rfl (op_fieldAddr _ _ _ _ 3 0 _ Tryd.underlying26 rfl sz3 rfl rfl (by decide)),
     st_plain rfl (op_load _ _ _ _ _ _ Tryd.underlying3 rfl rfl rfl (Nat.le_of_ble_eq_true rfl) rfl rfl rfl),
     st_plain rfl (op_bin _ _ _ _ _ rfl rfl rfl),
     st_plain rfl (op_move _ _ _ _ (congrArg (fun b => AV.v (Value.bool b)) hg1_5) rfl),
     st_skip 5 11 _ false rfl rfl rfl rfl (List.Mem.head _),
     st_skip 5 11 _ false rfl rfl rfl rfl (List.Mem.head _),
     st_skip 5 11 _ false rfl rfl rfl rfl (List.Mem.head _),
     st_skip 5 11 _ false rfl rfl rfl rfl (List.Mem.head _),
     st_skip 5 11 _ false rfl rfl rfl rfl (List.Mem.head _),
     st_plain rfl (op_pick _ _ true _ rfl rfl),
     st_plain rfl (op_move _ _ _ _ rfl rfl),
     st_skip 12 18 _ false rfl rfl rfl rfl (List.Mem.head _),
     st_skip 12 18 _ false rfl rfl rfl rfl (List.Mem.head _),
     st_skip 12 18 _ false rfl rfl rfl rfl (List.Mem.head _),
     st_skip 12 18 _ false rfl rfl rfl rfl (List.Mem.head _),
     st_skip 12 18 _ false rfl rfl rfl rfl (List.Mem.head _),
     st_skip 12 18 _ false rfl rfl rfl rfl (List.Mem.head _),
     st_plain rfl (op_pick _ _ true _ rfl rfl),
     st_plain rfl (op_move _ _ _ _ rfl rfl),
     st_skip 20 26 _ false rfl rfl rfl rfl (List.Mem.head _),
     st_skip 20 26 _ false rfl rfl rfl rfl (List.Mem.head _),
     st_skip 20 26 _ false rfl rfl rfl rfl (List.Mem.head _),
     st_skip 20 26 _ false rfl rfl rfl rfl (List.Mem.head _),
     st_skip 20 26 _ false rfl rfl rfl rfl (List.Mem.head _),
     st_skip 20 26 _ false rfl rfl rfl rfl (List.Mem.head _),
     st_skip 20 26 _ false rfl rfl rfl rfl (List.Mem.head _),
     st_plain rfl (op_pick _ _ true _ rfl rfl),
     trivial⟩ ?_
    exact hl4 _ (Option.some.inj h).symm
   ·refine cond_some h (fun hg1_12 h => ?_) (fun hg1_12 h => ?_)
    ·refine ht_seqR hn (El := (_ :: _ :: (6, .ptr 2 0) :: (7, .v (.int .i64 a.Kind)) :: (8, .ptr 3 0) :: (9, .v (.int .i64 b.Kind)) :: (10, .v (.bool (a.Kind != b.Kind))) :: (11, .v (.bool false)) :: (12, .ptr 2 1) :: (13, .v (.string a.Text)) :: (14, .ptr 3 1) :: (15, .v (.string b.Text)) :: (16, .v (.bool ((!(a.Text.toList == b.Text.toList))))) :: (17, .v (.bool ((!(a.Text.toList == b.Text.toList))))) :: (18, .v (.bool true)) :: (19, .v undef) :: (20, .v undef) :: (21, .v undef) :: (22, .v undef) :: (23, .v undef) :: (24, .v undef) :: (25, .v (.bool true)) :: (26, .v (.bool true)) :: (27, .v undef) :: (28, .v undef) :: (29, .v undef) :: (30, .v undef) :: (31, .v undef) :: (32, .v undef) :: (33, .v undef) :: (34, .v (.bool true)) :: [])) (init := [0, 1]) (fin := [0, 1, 30]) (sps := (⟨[0], [], [2], [(.slot 6)]⟩ :: ⟨[2, 0], [], [3], [(.slot 7)]⟩ :: ⟨[1], [], [4], [(.slot 8)]⟩ :: ⟨[4, 1], [], [5], [(.slot 9)]⟩ :: ⟨[3, 5], [], [6], [(.slot 10)]⟩ :: ⟨[6], [], [7], [(.slot 11)]⟩ :: ⟨[7, 0], [], [8], [(.slot 12)]⟩ :: ⟨[7, 8, 0], [], [9], [(.slot 13)]⟩ :: ⟨[7, 1], [], [10], [(.slot 14)]⟩ :: ⟨[7, 10, 1], [], [11], [(.slot 15)]⟩ :: ⟨[7, 9, 11], [], [12], [(.slot 16)]⟩ :: ⟨[7, 12], [], [13], [(.slot 17)]⟩ :: ⟨[13], [], [14], [(.slot 18)]⟩ :: ⟨[14], [], [15], [(.slot 19)]⟩ :: ⟨[14], [], [16], [(.slot 20)]⟩ :: ⟨[14], [], [17], [(.slot 21)]⟩ :: ⟨[14], [], [18], [(.slot 22)]⟩ :: ⟨[14], [], [19], [(.slot 23)]⟩ :: ⟨[14], [], [20], [(.slot 24)]⟩ :: ⟨[14], [], [21], [(.slot 25)]⟩ :: ⟨[21], [], [22], [(.slot 26)]⟩ :: ⟨[22], [], [23], [(.slot 27)]⟩ :: ⟨[22], [], [24], [(.slot 28)]⟩ :: ⟨[22], [], [25], [(.slot 29)]⟩ :: ⟨[22], [], [26], [(.slot 30)]⟩ :: ⟨[22], [], [27], [(.slot 31)]⟩ :: ⟨[22], [], [28], [(.slot 32)]⟩ :: ⟨[22], [], [29], [(.slot 33)]⟩ :: ⟨[22], [], [30], [(.slot 34)]⟩ :: [])) (es' := [(_, _), (_, _), (34, .v (.bool true))]) (by kernel_rfl) rfl rfl
      ⟨st_plain rfl (op_fieldAddr _ _ _ _ 2 0 _ Tryd.underlying26 rfl sz3 rfl rfl (by decide)),
      st_plain rfl (op_load _ _ _ _ _ _ Tryd.underlying3 rfl rfl rfl (Nat.le_of_ble_eq_true rfl) rfl rfl rfl),
      st_plain rfl (op_fieldAddr _ _ _ _ 3 0 _ Tryd.underlying26 rfl sz3 rfl rfl (by decide)),
      st_plain rfl (op_load _ _ _ _ _ _ Tryd.underlying3 rfl rfl rfl (Nat.le_of_ble_eq_true rfl) rfl rfl rfl),
      st_plain rfl (op_bin _ _ _ _ _ rfl rfl rfl),
      st_plain rfl (op_move _ _ _ _ (congrArg (fun b => AV.v (Value.bool b)) hg1_5) rfl),
      st_run 5 11 false rfl rfl rfl (List.Mem.head _) (op_fieldAddr _ _ _ _ 2 0 _ Tryd.underlying26 rfl sz9 rfl rfl (by decide)),
      st_run 5 11 false rfl rfl rfl (List.Mem.head _) (op_load _ _ _ _ _ _ Tryd.underlying9 rfl rfl rfl (Nat.le_of_ble_eq_true rfl) rfl rfl rfl),
      st_run 5 11 false rfl rfl rfl (List.Mem.head _) (op_fieldAddr _ _ _ _ 3 0 _ Tryd.underlying26 rfl sz9 rfl rfl (by decide)),
      st_run 5 11 false rfl rfl rfl (List.Mem.head _) (op_load _ _ _ _ _ _ Tryd.underlying9 rfl rfl rfl (Nat.le_of_ble_eq_true rfl) rfl rfl rfl),
      st_run 5 11 false rfl rfl rfl (List.Mem.head _) (op_bin _ _ _ _ _ rfl rfl rfl),
      st_plain rfl (op_pick _ _ false _ rfl rfl),
      st_plain rfl (op_move _ _ _ _ (congrArg (fun b => AV.v (Value.bool b)) hg1_12) rfl),
      st_skip 12 18 _ false rfl rfl rfl rfl (List.Mem.head _),
      st_skip 12 18 _ false rfl rfl rfl rfl (List.Mem.head _),
      st_skip 12 18 _ false rfl rfl rfl rfl (List.Mem.head _),
      st_skip 12 18 _ false rfl rfl rfl rfl (List.Mem.head _),
      st_skip 12 18 _ false rfl rfl rfl rfl (List.Mem.head _),
      st_skip 12 18 _ false rfl rfl rfl rfl (List.Mem.head _),
      st_plain rfl (op_pick _ _ true _ rfl rfl),
      st_plain rfl (op_move _ _ _ _ rfl rfl),
      st_skip 20 26 _ false rfl rfl rfl rfl (List.Mem.head _),
      st_skip 20 26 _ false rfl rfl rfl rfl (List.Mem.head _),
      st_skip 20 26 _ false rfl rfl rfl rfl (List.Mem.head _),
      st_skip 20 26 _ false rfl rfl rfl rfl (List.Mem.head _),
      st_skip 20 26 _ false rfl rfl rfl rfl (List.Mem.head _),
      st_skip 20 26 _ false rfl rfl rfl rfl (List.Mem.head _),
      st_skip 20 26 _ false rfl rfl rfl rfl (List.Mem.head _),
      st_plain rfl (op_pick _ _ true _ rfl rfl),
      trivial⟩ ?_
     exact hl4 _ (Option.some.inj h).symm
    ·obtain ⟨v1, hv1, h⟩ := bind_some h
     refine cond_some h (fun hg1_20 h => ?_) (fun hg1_20 h => ?_)
     ·refine ht_seqR hn (El := (_ :: _ :: (6, .ptr 2 0) :: (7, .v (.int .i64 a.Kind)) :: (8, .ptr 3 0) :: (9, .v (.int .i64 b.Kind)) :: (10, .v (.bool (a.Kind != b.Kind))) :: (11, .v (.bool false)) :: (12, .ptr 2 1) :: (13, .v (.string a.Text)) :: (14, .ptr 3 1) :: (15, .v (.string b.Text)) :: (16, .v (.bool ((!(a.Text.toList == b.Text.toList))))) :: (17, .v (.bool ((!(a.Text.toList == b.Text.toList))))) :: (18, .v (.bool false)) :: (19, .ptr 2 2) :: (20, .agg [.v (.bool a.Path.Null), .v (.string a.Path.Local), .v (.string a.Path.Domain)]) :: (21, .ptr 3 2) :: (22, .agg [.v (.bool b.Path.Null), .v (.string b.Path.Local), .v (.string b.Path.Domain)]) :: (23, .v (.bool v1)) :: (24, .v (.bool (!v1))) :: (25, .v (.bool (!v1))) :: (26, .v (.bool true)) :: (27, .v undef) :: (28, .v undef) :: (29, .v undef) :: (30, .v undef) :: (31, .v undef) :: (32, .v undef) :: (33, .v undef) :: (34, .v (.bool true)) :: [])) (init := [0, 1]) (fin := [0, 1, 30]) (sps := (⟨[0], [], [2], [(.slot 6)]⟩ :: ⟨[2, 0], [], [3], [(.slot 7)]⟩ :: ⟨[1], [], [4], [(.slot 8)]⟩ :: ⟨[4, 1], [], [5], [(.slot 9)]⟩ :: ⟨[3, 5], [], [6], [(.slot 10)]⟩ :: ⟨[6], [], [7], [(.slot 11)]⟩ :: ⟨[7, 0], [], [8], [(.slot 12)]⟩ :: ⟨[7, 8, 0], [], [9], [(.slot 13)]⟩ :: ⟨[7, 1], [], [10], [(.slot 14)]⟩ :: ⟨[7, 10, 1], [], [11], [(.slot 15)]⟩ :: ⟨[7, 9, 11], [], [12], [(.slot 16)]⟩ :: ⟨[7, 12], [], [13], [(.slot 17)]⟩ :: ⟨[13], [], [14], [(.slot 18)]⟩ :: ⟨[14, 0], [], [15], [(.slot 19)]⟩ :: ⟨[14, 15, 0], [], [16], [(.slot 20)]⟩ :: ⟨[14, 1], [], [17], [(.slot 21)]⟩ :: ⟨[14, 17, 1], [], [18], [(.slot 22)]⟩ :: ⟨[14, 16, 18], [], [19], [(.slot 23)]⟩ :: ⟨[14, 19], [], [20], [(.slot 24)]⟩ :: ⟨[14, 20], [], [21], [(.slot 25)]⟩ :: ⟨[21], [], [22], [(.slot 26)]⟩ :: ⟨[22], [], [23], [(.slot 27)]⟩ :: ⟨[22], [], [24], [(.slot 28)]⟩ :: ⟨[22], [], [25], [(.slot 29)]⟩ :: ⟨[22], [], [26], [(.slot 30)]⟩ :: ⟨[22], [], [27], [(.slot 31)]⟩ :: ⟨[22], [], [28], [(.slot 32)]⟩ :: ⟨[22], [], [29], [(.slot 33)]⟩ :: ⟨[22], [], [30], [(.slot 34)]⟩ :: [])) (es' := [(_, _), (_, _), (34, .v (.bool true))]) (by kernel_rfl) rfl rfl
       ⟨st_plain rfl (op_fieldAddr _ _ _ _ 2 0 _ Tryd.underlying26 rfl sz3 rfl rfl (by decide)),
       st_plain rfl (op_load _ _ _ _ _ _ Tryd.underlying3 rfl rfl rfl (Nat.le_of_ble_eq_true rfl) rfl rfl rfl),
       st_plain rfl (op_fieldAddr _ _ _ _ 3 0 _ Tryd.underlying26 rfl sz3 rfl rfl (by decide)),
       st_plain rfl (op_load _ _ _ _ _ _ Tryd.underlying3 rfl rfl rfl (Nat.le_of_ble_eq_true rfl) rfl rfl rfl),
       st_plain rfl (op_bin _ _ _ _ _ rfl rfl rfl),
       st_plain rfl (op_move _ _ _ _ (congrArg (fun b => AV.v (Value.bool b)) hg1_5) rfl),
       st_run 5 11 false rfl rfl rfl (List.Mem.head _) (op_fieldAddr _ _ _ _ 2 0 _ Tryd.underlying26 rfl sz9 rfl rfl (by decide)),
       st_run 5 11 false rfl rfl rfl (List.Mem.head _) (op_load _ _ _ _ _ _ Tryd.underlying9 rfl rfl rfl (Nat.le_of_ble_eq_true rfl) rfl rfl rfl),
       st_run 5 11 false rfl rfl rfl (List.Mem.head _) (op_fieldAddr _ _ _ _ 3 0 _ Tryd.underlying26 rfl sz9 rfl rfl (by decide)),
       st_run 5 11 false rfl rfl rfl (List.Mem.head _) (op_load _ _ _ _ _ _ Tryd.underlying9 rfl rfl rfl (Nat.le_of_ble_eq_true rfl) rfl rfl rfl),
       st_run 5 11 false rfl rfl rfl (List.Mem.head _) (op_bin _ _ _ _ _ rfl rfl rfl),
       st_plain rfl (op_pick _ _ false _ rfl rfl),
       st_plain rfl (op_move _ _ _ _ (congrArg (fun b => AV.v (Value.bool b)) hg1_12) rfl),
       st_run 12 18 false rfl rfl rfl (List.Mem.head _) (op_fieldAddr _ _ _ _ 2 0 _ Tryd.underlying26 rfl sz23 rfl rfl (by decide)),
       st_run 12 18 false rfl rfl rfl (List.Mem.head _) (op_loadA _ _ _ _ _ _ _ Tryd.underlying23 rfl sz23 rfl rfl (Nat.le_of_ble_eq_true rfl) rfl rfl),
       st_run 12 18 false rfl rfl rfl (List.Mem.head _) (op_fieldAddr _ _ _ _ 3 0 _ Tryd.underlying26 rfl sz23 rfl rfl (by decide)),
       st_run 12 18 false rfl rfl rfl (List.Mem.head _) (op_loadA _ _ _ _ _ _ _ Tryd.underlying23 rfl sz23 rfl rfl (Nat.le_of_ble_eq_true rfl) rfl rfl),
       st_run 12 18 false rfl rfl rfl (List.Mem.head _) (op_call _ _ 20 _ _ rfl Tryd.call20 rfl (ok_wherrykeep_Path (T_Path.mk a.Path.Null a.Path.Local a.Path.Domain) (T_Path.mk b.Path.Null b.Path.Local b.Path.Domain) _ hv1) rfl rfl),
       st_run 12 18 false rfl rfl rfl (List.Mem.head _) (op_un _ _ _ _ rfl rfl),
       st_plain rfl (op_pick _ _ false _ rfl rfl),
       st_plain rfl (op_move _ _ _ _ (congrArg (fun b => AV.v (Value.bool b)) hg1_20) rfl),
       st_skip 20 26 _ false rfl rfl rfl rfl (List.Mem.head _),
       st_skip 20 26 _ false rfl rfl rfl rfl (List.Mem.head _),
       st_skip 20 26 _ false rfl rfl rfl rfl (List.Mem.head _),
       st_skip 20 26 _ false rfl rfl rfl rfl (List.Mem.head _),
       st_skip 20 26 _ false rfl rfl rfl rfl (List.Mem.head _),
       st_skip 20 26 _ false rfl rfl rfl rfl (List.Mem.head _),
       st_skip 20 26 _ false rfl rfl rfl rfl (List.Mem.head _),
       st_plain rfl (op_pick _ _ true _ rfl rfl),
       trivial⟩ ?_
      exact hl4 _ (Option.some.inj h).symm
     ·refine ht_seqR hn (El := (_ :: _ :: (6, .ptr 2 0) :: (7, .v (.int .i64 a.Kind)) :: (8, .ptr 3 0) :: (9, .v (.int .i64 b.Kind)) :: (10, .v (.bool (a.Kind != b.Kind))) :: (11, .v (.bool false)) :: (12, .ptr 2 1) :: (13, .v (.string a.Text)) :: (14, .ptr 3 1) :: (15, .v (.string b.Text)) :: (16, .v (.bool ((!(a.Text.toList == b.Text.toList))))) :: (17, .v (.bool ((!(a.Text.toList == b.Text.toList))))) :: (18, .v (.bool false)) :: (19, .ptr 2 2) :: (20, .agg [.v (.bool a.Path.Null), .v (.string a.Path.Local), .v (.string a.Path.Domain)]) :: (21, .ptr 3 2) :: (22, .agg [.v (.bool b.Path.Null), .v (.string b.Path.Local), .v (.string b.Path.Domain)]) :: (23, .v (.bool v1)) :: (24, .v (.bool (!v1))) :: (25, .v (.bool (!v1))) :: (26, .v (.bool false)) :: (27, .ptr 2 5) :: (28, .fl .shr 2 (List.flatten (List.map T_Param.enc a.Params))) :: (29, .v (.int .i64 (a.Params.length : Int))) :: (30, .ptr 3 5) :: (31, .fl .shr 2 (List.flatten (List.map T_Param.enc b.Params))) :: (32, .v (.int .i64 (b.Params.length : Int))) :: (33, .v (.bool (((a.Params.length : Int) != (b.Params.length : Int))))) :: (34, .v (.bool (((a.Params.length : Int) != (b.Params.length : Int))))) :: [])) (init := [0, 1]) (fin := [0, 1, 30]) (sps := (⟨[0], [], [2], [(.slot 6)]⟩ :: ⟨[2, 0], [], [3], [(.slot 7)]⟩ :: ⟨[1], [], [4], [(.slot 8)]⟩ :: ⟨[4, 1], [], [5], [(.slot 9)]⟩ :: ⟨[3, 5], [], [6], [(.slot 10)]⟩ :: ⟨[6], [], [7], [(.slot 11)]⟩ :: ⟨[7, 0], [], [8], [(.slot 12)]⟩ :: ⟨[7, 8, 0], [], [9], [(.slot 13)]⟩ :: ⟨[7, 1], [], [10], [(.slot 14)]⟩ :: ⟨[7, 10, 1], [], [11], [(.slot 15)]⟩ :: ⟨[7, 9, 11], [], [12], [(.slot 16)]⟩ :: ⟨[7, 12], [], [13], [(.slot 17)]⟩ :: ⟨[13], [], [14], [(.slot 18)]⟩ :: ⟨[14, 0], [], [15], [(.slot 19)]⟩ :: ⟨[14, 15, 0], [], [16], [(.slot 20)]⟩ :: ⟨[14, 1], [], [17], [(.slot 21)]⟩ :: ⟨[14, 17, 1], [], [18], [(.slot 22)]⟩ :: ⟨[14, 16, 18], [], [19], [(.slot 23)]⟩ :: ⟨[14, 19], [], [20], [(.slot 24)]⟩ :: ⟨[14, 20], [], [21], [(.slot 25)]⟩ :: ⟨[21], [], [22], [(.slot 26)]⟩ :: ⟨[22, 0], [], [23], [(.slot 27)]⟩ :: ⟨[22, 23, 0], [], [24], [(.slot 28)]⟩ :: ⟨[22, 24], [], [25], [(.slot 29)]⟩ :: ⟨[22, 1], [], [26], [(.slot 30)]⟩ :: ⟨[22, 26, 1], [], [27], [(.slot 31)]⟩ :: ⟨[22, 27], [], [28], [(.slot 32)]⟩ :: ⟨[22, 25, 28], [], [29], [(.slot 33)]⟩ :: ⟨[22, 29], [], [30], [(.slot 34)]⟩ :: [])) (es' := [(_, _), (_, _), (34, .v (.bool (((a.Params.length : Int) != (b.Params.length : Int)))))]) (by kernel_rfl) rfl rfl
       ⟨st_plain rfl (op_fieldAddr _ _ _ _ 2 0 _ Tryd.underlying26 rfl sz3 rfl rfl (by decide)),
       st_plain rfl (op_load _ _ _ _ _ _ Tryd.underlying3 rfl rfl rfl (Nat.le_of_ble_eq_true rfl) rfl rfl rfl),
       st_plain rfl (op_fieldAddr _ _ _ _ 3 0 _ Tryd.underlying26 rfl sz3 rfl rfl (by decide)),
       st_plain rfl (op_load _ _ _ _ _ _ Tryd.underlying3 rfl rfl rfl (Nat.le_of_ble_eq_true rfl) rfl rfl rfl),
       st_plain rfl (op_bin _ _ _ _ _ rfl rfl rfl),
       st_plain rfl (op_move _ _ _ _ (congrArg (fun b => AV.v (Value.bool b)) hg1_5) rfl),
       st_run 5 11 false rfl rfl rfl (List.Mem.head _) (op_fieldAddr _ _ _ _ 2 0 _ Tryd.underlying26 rfl sz9 rfl rfl (by decide)),
       st_run 5 11 false rfl rfl rfl (List.Mem.head _) (op_load _ _ _ _ _ _ Tryd.underlying9 rfl rfl rfl (Nat.le_of_ble_eq_true rfl) rfl rfl rfl),
       st_run 5 11 false rfl rfl rfl (List.Mem.head _) (op_fieldAddr _ _ _ _ 3 0 _ Tryd.underlying26 rfl sz9 rfl rfl (by decide)),
       st_run 5 11 false rfl rfl rfl (List.Mem.head _) (op_load _ _ _ _ _ _ Tryd.underlying9 rfl rfl rfl (Nat.le_of_ble_eq_true rfl) rfl rfl rfl),
       st_run 5 11 false rfl rfl rfl (List.Mem.head _) (op_bin _ _ _ _ _ rfl rfl rfl),
       st_plain rfl (op_pick _ _ false _ rfl rfl),
       st_plain rfl (op_move _ _ _ _ (congrArg (fun b => AV.v (Value.bool b)) hg1_12) rfl),
       st_run 12 18 false rfl rfl rfl (List.Mem.head _) (op_fieldAddr _ _ _ _ 2 0 _ Tryd.underlying26 rfl sz23 rfl rfl (by decide)),
       st_run 12 18 false rfl rfl rfl (List.Mem.head _) (op_loadA _ _ _ _ _ _ _ Tryd.underlying23 rfl sz23 rfl rfl (Nat.le_of_ble_eq_true rfl) rfl rfl),
       st_run 12 18 false rfl rfl rfl (List.Mem.head _) (op_fieldAddr _ _ _ _ 3 0 _ Tryd.underlying26 rfl sz23 rfl rfl (by decide)),
       st_run 12 18 false rfl rfl rfl (List.Mem.head _) (op_loadA _ _ _ _ _ _ _ Tryd.underlying23 rfl sz23 rfl rfl (Nat.le_of_ble_eq_true rfl) rfl rfl),
       st_run 12 18 false rfl rfl rfl (List.Mem.head _) (op_call _ _ 20 _ _ rfl Tryd.call20 rfl (ok_wherrykeep_Path (T_Path.mk a.Path.Null a.Path.Local a.Path.Domain) (T_Path.mk b.Path.Null b.Path.Local b.Path.Domain) _ hv1) rfl rfl),
       st_run 12 18 false rfl rfl rfl (List.Mem.head _) (op_un _ _ _ _ rfl rfl),
       st_plain rfl (op_pick _ _ false _ rfl rfl),
       st_plain rfl (op_move _ _ _ _ (congrArg (fun b => AV.v (Value.bool b)) hg1_20) rfl),
       st_run 20 26 false rfl rfl rfl (List.Mem.head _) (op_fieldAddr _ _ _ _ 2 0 _ Tryd.underlying26 rfl sz24 rfl rfl (by decide)),
       st_run 20 26 false rfl rfl rfl (List.Mem.head _) (op_load _ _ _ _ _ _ Tryd.underlying24 rfl rfl rfl (Nat.le_of_ble_eq_true rfl) rfl rfl rfl),
       st_run 20 26 false rfl rfl rfl (List.Mem.head _) (op_len_fl _ _ _ Tryd.underlying24 rfl (by decide) (flat_len T_Param.len _)),
       st_run 20 26 false rfl rfl rfl (List.Mem.head _) (op_fieldAddr _ _ _ _ 3 0 _ Tryd.underlying26 rfl sz24 rfl rfl (by decide)),
       st_run 20 26 false rfl rfl rfl (List.Mem.head _) (op_load _ _ _ _ _ _ Tryd.underlying24 rfl rfl rfl (Nat.le_of_ble_eq_true rfl) rfl rfl rfl),
       st_run 20 26 false rfl rfl rfl (List.Mem.head _) (op_len_fl _ _ _ Tryd.underlying24 rfl (by decide) (flat_len T_Param.len _)),
       st_run 20 26 false rfl rfl rfl (List.Mem.head _) (op_bin _ _ _ _ _ rfl rfl rfl),
       st_plain rfl (op_pick _ _ false _ rfl rfl),
       trivial⟩ ?_
      exact hl4 _ (Option.some.inj h).symm

end Go.Proofs.YthfmdofkkkpbkaaDoor
