/-
  The model's runs are what is told in Lean.
-/
import Derived.Test.YthfmdofkkkpbkaaDoorProg
import Derived.KernelRfl
import Derived.Test.YthfmdofkkkpbkaaDoorShelf
import Derived.Test.YthfmdofkkkpbkaaDoorOkc3
set_option linter.unusedVariables false
set_option linter.unusedSimpArgs false
namespace Go.Proofs.YthfmdofkkkpbkaaDoor
open Go.Abs Go.Abs.Sh

set_option maxHeartbeats 1000000 in
theorem ok_wherrylaw12_wakes (mx : Int) (r : Bool) (h : Sh.wherrylaw12_wakes  = some r) : FnG Tryd.prog (GL mx) 12 [] (.v (.bool r)) := by
  unfold Sh.wherrylaw12_wakes at h
  refine fn_okG Tryd.func12 rfl (Nat.le_of_ble_eq_true rfl) rfl rfl fun g0 hn hio => ?_
  refine ht_seq ?_
  refine ht_seqR hn (El := [_, (0, .v (.bool false))]) (init := [0]) (fin := [0]) (sps := [⟨[], [], [1], [(.slot 0)]⟩]) (es' := [(_, _)]) (by kernel_rfl) rfl rfl
   ⟨st_plain rfl (op_assign _ _ _ _ rfl rfl),
   trivial⟩ ?_
  refine pt_then ?_
  refine ht_seq ?_
  obtain ⟨v1, hv1, h⟩ := bind_some h
  refine ht_seqR hn (El := [_, (10, .tup [.agg [.v (.int .i64 v1.1.Kind), .v (.string v1.1.Text), .v (.bool v1.1.Path.Null), .v (.string v1.1.Path.Local), .v (.string v1.1.Path.Domain), .fl .ro 2 (List.flatten (List.map T_Param.enc v1.1.Params))], .v (.int .i64 v1.2)]), (9, .tup [.agg [.v (.int .i64 v1.1.Kind), .v (.string v1.1.Text), .v (.bool v1.1.Path.Null), .v (.string v1.1.Path.Local), .v (.string v1.1.Path.Domain), .fl .ro 2 (List.flatten (List.map T_Param.enc v1.1.Params))], .v (.int .i64 v1.2)]), (11, .agg [.v (.int .i64 v1.1.Kind), .v (.string v1.1.Text), .v (.bool v1.1.Path.Null), .v (.string v1.1.Path.Local), .v (.string v1.1.Path.Domain), .fl .ro 2 (List.flatten (List.map T_Param.enc v1.1.Params))]), (12, .v (.int .i64 v1.2)), (1, .box 26 [.v (.int .i64 0), .v (.string (⟨#[]⟩ : ByteArray)), .v (.bool false), .v (.string (⟨#[]⟩ : ByteArray)), .v (.string (⟨#[]⟩ : ByteArray)), .v (.slice none 0 0)]), (1, .box 26 [.v (.int .i64 v1.1.Kind), .v (.string v1.1.Text), .v (.bool v1.1.Path.Null), .v (.string v1.1.Path.Local), .v (.string v1.1.Path.Domain), .fl .ro 2 (List.flatten (List.map T_Param.enc v1.1.Params))]), (2, .v (.int .i64 v1.2))]) (init := [0]) (fin := [0, 6, 7]) (sps := [⟨[0], [], [1], [(.slot 10)]⟩, ⟨[], [1], [2], [(.slot 9)]⟩, ⟨[2], [], [3], [(.slot 11)]⟩, ⟨[2], [], [4], [(.slot 12)]⟩, ⟨[], [], [5], [(.slot 1)]⟩, ⟨[3], [5], [6], [.cell 1 0, .cell 1 1, .cell 1 2, .cell 1 3, .cell 1 4, .cell 1 5]⟩, ⟨[4], [], [7], [(.slot 2)]⟩]) (es' := [(_, _), (1, .box 26 [.v (.int .i64 v1.1.Kind), .v (.string v1.1.Text), .v (.bool v1.1.Path.Null), .v (.string v1.1.Path.Local), .v (.string v1.1.Path.Domain), .fl .ro 2 (List.flatten (List.map T_Param.enc v1.1.Params))]), (2, .v (.int .i64 v1.2))]) (by kernel_rfl) rfl rfl
   ⟨st_plain rfl (op_callG _ _ 58 10 _ _ rfl Tryd.call10 rfl rfl (fun _ h => h) (ok_verb_Parse mx (⟨#[109, 97, 105, 108, 32, 102, 114, 111, 109, 58, 60, 62, 32, 115, 105, 122, 101, 61, 53]⟩ : ByteArray) _ hv1) rfl rfl),
   st_plain rfl (op_move_take _ _ _ _ rfl),
   st_plain rfl (op_extract_no _ _ _ _ _ _ rfl rfl (Nat.le_of_ble_eq_true rfl) rfl rfl),
   st_plain rfl (op_extract _ _ _ _ _ rfl rfl (Nat.le_of_ble_eq_true rfl) rfl rfl),
   st_plain rfl (op_alloc _ _ zr26),
   st_plain rfl (op_store _ _ _ _ _ _ _ _ sz26 rfl rfl rfl rfl (Nat.le_of_ble_eq_true rfl) rfl rfl),
   st_plain rfl (op_assign _ _ _ _ rfl rfl),
   trivial⟩ ?_
  refine pt_then ?_
  refine ht_seq ?_
  obtain ⟨v2, hv2, h⟩ := bind_some h
  refine ht_seqR hn (El := [_, _, _, (14, .agg [.v (.int .i64 v1.1.Kind), .v (.string v1.1.Text), .v (.bool v1.1.Path.Null), .v (.string v1.1.Path.Local), .v (.string v1.1.Path.Domain), .fl .ro 2 (List.flatten (List.map T_Param.enc v1.1.Params))]), (15, .tup [.v (.string v2.1), .v (.int .i64 v2.2)]), (13, .tup [.v (.string v2.1), .v (.int .i64 v2.2)]), (16, .v (.string v2.1)), (17, .v (.int .i64 v2.2)), (3, .v (.string v2.1)), (4, .v (.int .i64 v2.2))]) (init := [0, 1, 2]) (fin := [0, 1, 2, 8, 9]) (sps := [⟨[1], [], [3], [(.slot 14)]⟩, ⟨[3, 0], [], [4], [(.slot 15)]⟩, ⟨[], [4], [5], [(.slot 13)]⟩, ⟨[5], [], [6], [(.slot 16)]⟩, ⟨[5], [], [7], [(.slot 17)]⟩, ⟨[6], [], [8], [(.slot 3)]⟩, ⟨[7], [], [9], [(.slot 4)]⟩]) (es' := [(_, _), (_, _), (_, _), (3, .v (.string v2.1)), (4, .v (.int .i64 v2.2))]) (by kernel_rfl) rfl rfl
   ⟨st_plain rfl (op_loadA _ _ _ _ _ _ _ Tryd.underlying26 rfl sz26 rfl rfl (Nat.le_of_ble_eq_true rfl) rfl rfl),
   st_plain rfl (op_callG _ _ 58 9 _ _ rfl Tryd.call9 rfl rfl (fun _ h => h) (ok_verb_Text mx ((T_Cmd.mk v1.1.Kind v1.1.Text (T_Path.mk v1.1.Path.Null v1.1.Path.Local v1.1.Path.Domain) v1.1.Params)) _ hv2) rfl rfl),
   st_plain rfl (op_move_take _ _ _ _ rfl),
   st_plain rfl (op_extract _ _ _ _ _ rfl rfl (Nat.le_of_ble_eq_true rfl) rfl rfl),
   st_plain rfl (op_extract _ _ _ _ _ rfl rfl (Nat.le_of_ble_eq_true rfl) rfl rfl),
   st_plain rfl (op_assign _ _ _ _ rfl rfl),
   st_plain rfl (op_assign _ _ _ _ rfl rfl),
   trivial⟩ ?_
  refine pt_then ?_
  refine ht_seq ?_
  obtain ⟨v3, hv3, h⟩ := bind_some h
  refine ht_seqR hn (El := [_, _, _, _, _, (19, .agg [.v (.int .i64 v1.1.Kind), .v (.string v1.1.Text), .v (.bool v1.1.Path.Null), .v (.string v1.1.Path.Local), .v (.string v1.1.Path.Domain), .fl .ro 2 (List.flatten (List.map T_Param.enc v1.1.Params))]), (20, .tup [.v (.string v3.1), .v (.bool v3.2)]), (18, .tup [.v (.string v3.1), .v (.bool v3.2)]), (21, .v (.string v3.1)), (22, .v (.bool v3.2)), (5, .v (.string v3.1)), (6, .v (.bool v3.2))]) (init := [0, 1, 2, 3, 4]) (fin := [0, 1, 2, 3, 4, 10, 11]) (sps := [⟨[1], [], [5], [(.slot 19)]⟩, ⟨[5], [], [6], [(.slot 20)]⟩, ⟨[], [6], [7], [(.slot 18)]⟩, ⟨[7], [], [8], [(.slot 21)]⟩, ⟨[7], [], [9], [(.slot 22)]⟩, ⟨[8], [], [10], [(.slot 5)]⟩, ⟨[9], [], [11], [(.slot 6)]⟩]) (es' := [(_, _), (_, _), (_, _), (_, _), (_, _), (5, .v (.string v3.1)), (6, .v (.bool v3.2))]) (by kernel_rfl) rfl rfl
   ⟨st_plain rfl (op_loadA _ _ _ _ _ _ _ Tryd.underlying26 rfl sz26 rfl rfl (Nat.le_of_ble_eq_true rfl) rfl rfl),
   st_plain rfl (op_call _ _ 21 _ _ rfl Tryd.call21 rfl (ok_verb_Param ((T_Cmd.mk v1.1.Kind v1.1.Text (T_Path.mk v1.1.Path.Null v1.1.Path.Local v1.1.Path.Domain) v1.1.Params)) (⟨#[83, 73, 90, 69]⟩ : ByteArray) _ hv3) rfl rfl),
   st_plain rfl (op_move_take _ _ _ _ rfl),
   st_plain rfl (op_extract _ _ _ _ _ rfl rfl (Nat.le_of_ble_eq_true rfl) rfl rfl),
   st_plain rfl (op_extract _ _ _ _ _ rfl rfl (Nat.le_of_ble_eq_true rfl) rfl rfl),
   st_plain rfl (op_assign _ _ _ _ rfl rfl),
   st_plain rfl (op_assign _ _ _ _ rfl rfl),
   trivial⟩ ?_
  refine pt_then ?_
  refine ht_seq ?_
  obtain ⟨v4, hv4, h⟩ := bind_some h
  refine ht_seqR hn (El := [_, _, _, _, _, _, _, (24, .tup [.agg [.v (.int .i64 v4.1.Kind), .v (.string v4.1.Text), .v (.bool v4.1.Path.Null), .v (.string v4.1.Path.Local), .v (.string v4.1.Path.Domain), .fl .ro 2 (List.flatten (List.map T_Param.enc v4.1.Params))], .v (.int .i64 v4.2)]), (23, .tup [.agg [.v (.int .i64 v4.1.Kind), .v (.string v4.1.Text), .v (.bool v4.1.Path.Null), .v (.string v4.1.Path.Local), .v (.string v4.1.Path.Domain), .fl .ro 2 (List.flatten (List.map T_Param.enc v4.1.Params))], .v (.int .i64 v4.2)]), (25, .agg [.v (.int .i64 v4.1.Kind), .v (.string v4.1.Text), .v (.bool v4.1.Path.Null), .v (.string v4.1.Path.Local), .v (.string v4.1.Path.Domain), .fl .ro 2 (List.flatten (List.map T_Param.enc v4.1.Params))]), (26, .v (.int .i64 v4.2)), (7, .box 26 [.v (.int .i64 0), .v (.string (⟨#[]⟩ : ByteArray)), .v (.bool false), .v (.string (⟨#[]⟩ : ByteArray)), .v (.string (⟨#[]⟩ : ByteArray)), .v (.slice none 0 0)]), (7, .box 26 [.v (.int .i64 v4.1.Kind), .v (.string v4.1.Text), .v (.bool v4.1.Path.Null), .v (.string v4.1.Path.Local), .v (.string v4.1.Path.Domain), .fl .ro 2 (List.flatten (List.map T_Param.enc v4.1.Params))]), (8, .v (.int .i64 v4.2))]) (init := [0, 1, 2, 3, 4, 5, 6]) (fin := [0, 1, 2, 3, 4, 5, 6, 13]) (sps := [⟨[0], [], [7], [(.slot 24)]⟩, ⟨[], [7], [8], [(.slot 23)]⟩, ⟨[8], [], [9], [(.slot 25)]⟩, ⟨[8], [], [10], [(.slot 26)]⟩, ⟨[], [], [11], [(.slot 7)]⟩, ⟨[9], [11], [12], [.cell 7 0, .cell 7 1, .cell 7 2, .cell 7 3, .cell 7 4, .cell 7 5]⟩, ⟨[10], [], [13], [(.slot 8)]⟩]) (es' := [(_, _), (_, _), (_, _), (_, _), (_, _), (_, _), (_, _), (8, .v (.int .i64 v4.2))]) (by kernel_rfl) rfl rfl
   ⟨st_plain rfl (op_callG _ _ 58 10 _ _ rfl Tryd.call10 rfl rfl (fun _ h => h) (ok_verb_Parse mx (⟨#[70, 82, 79, 66]⟩ : ByteArray) _ hv4) rfl rfl),
   st_plain rfl (op_move_take _ _ _ _ rfl),
   st_plain rfl (op_extract_no _ _ _ _ _ _ rfl rfl (Nat.le_of_ble_eq_true rfl) rfl rfl),
   st_plain rfl (op_extract _ _ _ _ _ rfl rfl (Nat.le_of_ble_eq_true rfl) rfl rfl),
   st_plain rfl (op_alloc _ _ zr26),
   st_plain rfl (op_store _ _ _ _ _ _ _ _ sz26 rfl rfl rfl rfl (Nat.le_of_ble_eq_true rfl) rfl rfl),
   st_plain rfl (op_assign _ _ _ _ rfl rfl),
   trivial⟩ ?_
  refine pt_then ?_
  refine ht_seq ?_
  refine ht_joinS h (fun (s5 : Bool) => [(58, .glob (GL mx)), (0, .v (.bool s5))]) ?_ ?_
  ·rintro s5 h
   refine pt_then ?_
   refine ht_ret ?_
   refine pt_pick [1] (by kernel_rfl) (es' := [(_, _)]) rfl ?_
   obtain rfl := Option.some.inj h
   exact pt_ret hio rfl (.tmp _ _ .nil) rfl rfl
  ·intro u6 h hl7 hr8
   refine cond_some h (fun hg5_2 h => ?_) (fun hg5_2 h => ?_)
   ·refine cond_some h (fun hg5_6 h => ?_) (fun hg5_6 h => ?_)
    ·refine cond_some h (fun hg5_11 h => ?_) (fun hg5_11 h => ?_)
     ·refine cond_some h (fun hg5_16 h => ?_) (fun hg5_16 h => ?_)
      ·refine cond_some h (fun hg5_20 h => ?_) (fun hg5_20 h => ?_)
       ·refine cond_some h (fun hg5_23 h => ?_) (fun hg5_23 h => ?_)
        ·refine cond_some h (fun hg5_27 h => ?_) (fun hg5_27 h => ?_)
         ·refine ht_seqR hn (El := (_ :: _ :: _ :: _ :: _ :: _ :: _ :: _ :: (27, .v (.int .i64 v1.2)) :: (28, .v (.bool (v1.2 == 0))) :: (29, .v (.bool true)) :: (30, .v (.int .i64 v2.2)) :: (31, .v (.bool (v2.2 == 0))) :: (32, .v (.bool (v2.2 == 0))) :: (33, .v (.bool true)) :: (34, .ptr 1 0) :: (35, .v (.int .i64 v1.1.Kind)) :: (36, .v (.bool (v1.1.Kind == 2))) :: (37, .v (.bool (v1.1.Kind == 2))) :: (38, .v (.bool true)) :: (39, .ptr 1 2) :: (40, .ptr 1 2) :: (41, .v (.bool v1.1.Path.Null)) :: (42, .v (.bool v1.1.Path.Null)) :: (43, .v (.bool true)) :: (44, .v (.string v2.1)) :: (45, .v (.bool ((v2.1.toList == (⟨#[77, 65, 73, 76, 32, 70, 82, 79, 77, 58, 60, 62, 32, 83, 73, 90, 69, 61, 53]⟩ : ByteArray).toList)))) :: (46, .v (.bool ((v2.1.toList == (⟨#[77, 65, 73, 76, 32, 70, 82, 79, 77, 58, 60, 62, 32, 83, 73, 90, 69, 61, 53]⟩ : ByteArray).toList)))) :: (47, .v (.bool true)) :: (48, .v (.bool v3.2)) :: (49, .v (.bool v3.2)) :: (50, .v (.bool true)) :: (51, .v (.string v3.1)) :: (52, .v (.bool ((v3.1.toList == (⟨#[53]⟩ : ByteArray).toList)))) :: (53, .v (.bool ((v3.1.toList == (⟨#[53]⟩ : ByteArray).toList)))) :: (54, .v (.bool true)) :: (55, .v (.int .i64 v4.2)) :: (56, .v (.bool (v4.2 == 500))) :: (57, .v (.bool (v4.2 == 500))) :: (0, .v (.bool (v4.2 == 500))) :: [])) (init := [0, 1, 2, 3, 4, 5, 6, 7]) (fin := [0, 39]) (sps := (⟨[2], [], [8], [(.slot 27)]⟩ :: ⟨[8], [], [9], [(.slot 28)]⟩ :: ⟨[9], [], [10], [(.slot 29)]⟩ :: ⟨[10, 4], [], [11], [(.slot 30)]⟩ :: ⟨[10, 11], [], [12], [(.slot 31)]⟩ :: ⟨[10, 12], [], [13], [(.slot 32)]⟩ :: ⟨[13], [], [14], [(.slot 33)]⟩ :: ⟨[14, 1], [], [15], [(.slot 34)]⟩ :: ⟨[14, 15, 1], [], [16], [(.slot 35)]⟩ :: ⟨[14, 16], [], [17], [(.slot 36)]⟩ :: ⟨[14, 17], [], [18], [(.slot 37)]⟩ :: ⟨[18], [], [19], [(.slot 38)]⟩ :: ⟨[19, 1], [], [20], [(.slot 39)]⟩ :: ⟨[19, 20, 1], [], [21], [(.slot 40)]⟩ :: ⟨[19, 21, 1], [], [22], [(.slot 41)]⟩ :: ⟨[19, 22], [], [23], [(.slot 42)]⟩ :: ⟨[23], [], [24], [(.slot 43)]⟩ :: ⟨[24, 3], [], [25], [(.slot 44)]⟩ :: ⟨[24, 25], [], [26], [(.slot 45)]⟩ :: ⟨[24, 26], [], [27], [(.slot 46)]⟩ :: ⟨[27], [], [28], [(.slot 47)]⟩ :: ⟨[28, 6], [], [29], [(.slot 48)]⟩ :: ⟨[28, 29], [], [30], [(.slot 49)]⟩ :: ⟨[30], [], [31], [(.slot 50)]⟩ :: ⟨[31, 5], [], [32], [(.slot 51)]⟩ :: ⟨[31, 32], [], [33], [(.slot 52)]⟩ :: ⟨[31, 33], [], [34], [(.slot 53)]⟩ :: ⟨[34], [], [35], [(.slot 54)]⟩ :: ⟨[35, 7], [], [36], [(.slot 55)]⟩ :: ⟨[35, 36], [], [37], [(.slot 56)]⟩ :: ⟨[35, 37], [], [38], [(.slot 57)]⟩ :: ⟨[38], [], [39], [(.slot 0)]⟩ :: [])) (es' := [(_, _), (0, .v (.bool (v4.2 == 500)))]) (by kernel_rfl) rfl rfl
           ⟨st_plain rfl (op_move _ _ _ _ rfl rfl),
           st_plain rfl (op_bin _ _ _ _ _ rfl rfl rfl),
           st_plain rfl (op_move _ _ _ _ (congrArg (fun b => AV.v (Value.bool b)) hg5_2) rfl),
           st_run 2 29 true rfl rfl rfl (List.Mem.head _) (op_move _ _ _ _ rfl rfl),
           st_run 2 29 true rfl rfl rfl (List.Mem.head _) (op_bin _ _ _ _ _ rfl rfl rfl),
           st_plain rfl (op_pick _ _ true _ rfl rfl),
           st_plain rfl (op_move _ _ _ _ (congrArg (fun b => AV.v (Value.bool b)) hg5_6) rfl),
           st_run 6 33 true rfl rfl rfl (List.Mem.head _) (op_fieldAddr _ _ _ _ 1 0 _ Tryd.underlying26 rfl sz3 rfl rfl (by decide)),
           st_run 6 33 true rfl rfl rfl (List.Mem.head _) (op_load _ _ _ _ _ _ Tryd.underlying3 rfl rfl rfl (Nat.le_of_ble_eq_true rfl) rfl rfl rfl),
           st_run 6 33 true rfl rfl rfl (List.Mem.head _) (op_bin _ _ _ _ _ rfl rfl rfl),
           st_plain rfl (op_pick _ _ true _ rfl rfl),
           st_plain rfl (op_move _ _ _ _ (congrArg (fun b => AV.v (Value.bool b)) hg5_11) rfl),
           st_run 11 38 true rfl rfl rfl (List.Mem.head _) (op_fieldAddr _ _ _ _ 1 0 _ Tryd.underlying26 rfl sz23 rfl rfl (by decide)),
           st_run 11 38 true rfl rfl rfl (List.Mem.head _) (op_fieldAddr _ _ _ _ 1 2 _ Tryd.underlying23 rfl sz4 rfl rfl (by decide)),
           st_run 11 38 true rfl rfl rfl (List.Mem.head _) (op_load _ _ _ _ _ _ Tryd.underlying4 rfl rfl rfl (Nat.le_of_ble_eq_true rfl) rfl rfl rfl),
           st_plain rfl (op_pick _ _ true _ rfl rfl),
           st_plain rfl (op_move _ _ _ _ (congrArg (fun b => AV.v (Value.bool b)) hg5_16) rfl),
           st_run 16 43 true rfl rfl rfl (List.Mem.head _) (op_move _ _ _ _ rfl rfl),
           st_run 16 43 true rfl rfl rfl (List.Mem.head _) (op_bin _ _ _ _ _ rfl rfl rfl),
           st_plain rfl (op_pick _ _ true _ rfl rfl),
           st_plain rfl (op_move _ _ _ _ (congrArg (fun b => AV.v (Value.bool b)) hg5_20) rfl),
           st_run 20 47 true rfl rfl rfl (List.Mem.head _) (op_move _ _ _ _ rfl rfl),
           st_plain rfl (op_pick _ _ true _ rfl rfl),
           st_plain rfl (op_move _ _ _ _ (congrArg (fun b => AV.v (Value.bool b)) hg5_23) rfl),
           st_run 23 50 true rfl rfl rfl (List.Mem.head _) (op_move _ _ _ _ rfl rfl),
           st_run 23 50 true rfl rfl rfl (List.Mem.head _) (op_bin _ _ _ _ _ rfl rfl rfl),
           st_plain rfl (op_pick _ _ true _ rfl rfl),
           st_plain rfl (op_move _ _ _ _ (congrArg (fun b => AV.v (Value.bool b)) hg5_27) rfl),
           st_run 27 54 true rfl rfl rfl (List.Mem.head _) (op_move _ _ _ _ rfl rfl),
           st_run 27 54 true rfl rfl rfl (List.Mem.head _) (op_bin _ _ _ _ _ rfl rfl rfl),
           st_plain rfl (op_pick _ _ true _ rfl rfl),
           st_plain rfl (op_assign _ _ _ _ rfl rfl),
           trivial⟩ ?_
          exact hl7 _ (Option.some.inj h).symm
         ·refine ht_seqR hn (El := (_ :: _ :: _ :: _ :: _ :: _ :: _ :: _ :: (27, .v (.int .i64 v1.2)) :: (28, .v (.bool (v1.2 == 0))) :: (29, .v (.bool true)) :: (30, .v (.int .i64 v2.2)) :: (31, .v (.bool (v2.2 == 0))) :: (32, .v (.bool (v2.2 == 0))) :: (33, .v (.bool true)) :: (34, .ptr 1 0) :: (35, .v (.int .i64 v1.1.Kind)) :: (36, .v (.bool (v1.1.Kind == 2))) :: (37, .v (.bool (v1.1.Kind == 2))) :: (38, .v (.bool true)) :: (39, .ptr 1 2) :: (40, .ptr 1 2) :: (41, .v (.bool v1.1.Path.Null)) :: (42, .v (.bool v1.1.Path.Null)) :: (43, .v (.bool true)) :: (44, .v (.string v2.1)) :: (45, .v (.bool ((v2.1.toList == (⟨#[77, 65, 73, 76, 32, 70, 82, 79, 77, 58, 60, 62, 32, 83, 73, 90, 69, 61, 53]⟩ : ByteArray).toList)))) :: (46, .v (.bool ((v2.1.toList == (⟨#[77, 65, 73, 76, 32, 70, 82, 79, 77, 58, 60, 62, 32, 83, 73, 90, 69, 61, 53]⟩ : ByteArray).toList)))) :: (47, .v (.bool true)) :: (48, .v (.bool v3.2)) :: (49, .v (.bool v3.2)) :: (50, .v (.bool true)) :: (51, .v (.string v3.1)) :: (52, .v (.bool ((v3.1.toList == (⟨#[53]⟩ : ByteArray).toList)))) :: (53, .v (.bool ((v3.1.toList == (⟨#[53]⟩ : ByteArray).toList)))) :: (54, .v (.bool false)) :: (55, .v undef) :: (56, .v undef) :: (57, .v (.bool false)) :: (0, .v (.bool false)) :: [])) (init := [0, 1, 2, 3, 4, 5, 6, 7]) (fin := [0, 39]) (sps := (⟨[2], [], [8], [(.slot 27)]⟩ :: ⟨[8], [], [9], [(.slot 28)]⟩ :: ⟨[9], [], [10], [(.slot 29)]⟩ :: ⟨[10, 4], [], [11], [(.slot 30)]⟩ :: ⟨[10, 11], [], [12], [(.slot 31)]⟩ :: ⟨[10, 12], [], [13], [(.slot 32)]⟩ :: ⟨[13], [], [14], [(.slot 33)]⟩ :: ⟨[14, 1], [], [15], [(.slot 34)]⟩ :: ⟨[14, 15, 1], [], [16], [(.slot 35)]⟩ :: ⟨[14, 16], [], [17], [(.slot 36)]⟩ :: ⟨[14, 17], [], [18], [(.slot 37)]⟩ :: ⟨[18], [], [19], [(.slot 38)]⟩ :: ⟨[19, 1], [], [20], [(.slot 39)]⟩ :: ⟨[19, 20, 1], [], [21], [(.slot 40)]⟩ :: ⟨[19, 21, 1], [], [22], [(.slot 41)]⟩ :: ⟨[19, 22], [], [23], [(.slot 42)]⟩ :: ⟨[23], [], [24], [(.slot 43)]⟩ :: ⟨[24, 3], [], [25], [(.slot 44)]⟩ :: ⟨[24, 25], [], [26], [(.slot 45)]⟩ :: ⟨[24, 26], [], [27], [(.slot 46)]⟩ :: ⟨[27], [], [28], [(.slot 47)]⟩ :: ⟨[28, 6], [], [29], [(.slot 48)]⟩ :: ⟨[28, 29], [], [30], [(.slot 49)]⟩ :: ⟨[30], [], [31], [(.slot 50)]⟩ :: ⟨[31, 5], [], [32], [(.slot 51)]⟩ :: ⟨[31, 32], [], [33], [(.slot 52)]⟩ :: ⟨[31, 33], [], [34], [(.slot 53)]⟩ :: ⟨[34], [], [35], [(.slot 54)]⟩ :: ⟨[35], [], [36], [(.slot 55)]⟩ :: ⟨[35], [], [37], [(.slot 56)]⟩ :: ⟨[35], [], [38], [(.slot 57)]⟩ :: ⟨[38], [], [39], [(.slot 0)]⟩ :: [])) (es' := [(_, _), (0, .v (.bool false))]) (by kernel_rfl) rfl rfl
           ⟨st_plain rfl (op_move _ _ _ _ rfl rfl),
           st_plain rfl (op_bin _ _ _ _ _ rfl rfl rfl),
           st_plain rfl (op_move _ _ _ _ (congrArg (fun b => AV.v (Value.bool b)) hg5_2) rfl),
           st_run 2 29 true rfl rfl rfl (List.Mem.head _) (op_move _ _ _ _ rfl rfl),
           st_run 2 29 true rfl rfl rfl (List.Mem.head _) (op_bin _ _ _ _ _ rfl rfl rfl),
           st_plain rfl (op_pick _ _ true _ rfl rfl),
           st_plain rfl (op_move _ _ _ _ (congrArg (fun b => AV.v (Value.bool b)) hg5_6) rfl),
           st_run 6 33 true rfl rfl rfl (List.Mem.head _) (op_fieldAddr _ _ _ _ 1 0 _ Tryd.underlying26 rfl sz3 rfl rfl (by decide)),
           st_run 6 33 true rfl rfl rfl (List.Mem.head _) (op_load _ _ _ _ _ _ Tryd.underlying3 rfl rfl rfl (Nat.le_of_ble_eq_true rfl) rfl rfl rfl),
           st_run 6 33 true rfl rfl rfl (List.Mem.head _) (op_bin _ _ _ _ _ rfl rfl rfl),
           st_plain rfl (op_pick _ _ true _ rfl rfl),
           st_plain rfl (op_move _ _ _ _ (congrArg (fun b => AV.v (Value.bool b)) hg5_11) rfl),
           st_run 11 38 true rfl rfl rfl (List.Mem.head _) (op_fieldAddr _ _ _ _ 1 0 _ Tryd.underlying26 rfl sz23 rfl rfl (by decide)),
           st_run 11 38 true rfl rfl rfl (List.Mem.head _) (op_fieldAddr _ _ _ _ 1 2 _ Tryd.underlying23 rfl sz4 rfl rfl (by decide)),
           st_run 11 38 true rfl rfl rfl (List.Mem.head _) (op_load _ _ _ _ _ _ Tryd.underlying4 rfl rfl rfl (Nat.le_of_ble_eq_true rfl) rfl rfl rfl),
           st_plain rfl (op_pick _ _ true _ rfl rfl),
           st_plain rfl (op_move _ _ _ _ (congrArg (fun b => AV.v (Value.bool b)) hg5_16) rfl),
           st_run 16 43 true rfl rfl rfl (List.Mem.head _) (op_move _ _ _ _ rfl rfl),
           st_run 16 43 true rfl rfl rfl (List.Mem.head _) (op_bin _ _ _ _ _ rfl rfl rfl),
           st_plain rfl (op_pick _ _ true _ rfl rfl),
           st_plain rfl (op_move _ _ _ _ (congrArg (fun b => AV.v (Value.bool b)) hg5_20) rfl),
           st_run 20 47 true rfl rfl rfl (List.Mem.head _) (op_move _ _ _ _ rfl rfl),
           st_plain rfl (op_pick _ _ true _ rfl rfl),
           st_plain rfl (op_move _ _ _ _ (congrArg (fun b => AV.v (Value.bool b)) hg5_23) rfl),
           st_run 23 50 true rfl rfl rfl (List.Mem.head _) (op_move _ _ _ _ rfl rfl),
           st_run 23 50 true rfl rfl rfl (List.Mem.head _) (op_bin _ _ _ _ _ rfl rfl rfl),
           st_plain rfl (op_pick _ _ true _ rfl rfl),
           st_plain rfl (op_move _ _ _ _ (congrArg (fun b => AV.v (Value.bool b)) hg5_27) rfl),
           st_skip 27 54 _ true rfl rfl rfl rfl (List.Mem.head _),
           st_skip 27 54 _ true rfl rfl rfl rfl (List.Mem.head _),
           st_plain rfl (op_pick _ _ false _ rfl rfl),
           st_plain rfl (op_assign _ _ _ _ rfl rfl),
           trivial⟩ ?_
          exact hl7 _ (Option.some.inj h).symm
        ·refine ht_seqR hn (El := (_ :: _ :: _ :: _ :: _ :: _ :: _ :: _ :: (27, .v (.int .i64 v1.2)) :: (28, .v (.bool (v1.2 == 0))) :: (29, .v (.bool true)) :: (30, .v (.int .i64 v2.2)) :: (31, .v (.bool (v2.2 == 0))) :: (32, .v (.bool (v2.2 == 0))) :: (33, .v (.bool true)) :: (34, .ptr 1 0) :: (35, .v (.int .i64 v1.1.Kind)) :: (36, .v (.bool (v1.1.Kind == 2))) :: (37, .v (.bool (v1.1.Kind == 2))) :: (38, .v (.bool true)) :: (39, .ptr 1 2) :: (40, .ptr 1 2) :: (41, .v (.bool v1.1.Path.Null)) :: (42, .v (.bool v1.1.Path.Null)) :: (43, .v (.bool true)) :: (44, .v (.string v2.1)) :: (45, .v (.bool ((v2.1.toList == (⟨#[77, 65, 73, 76, 32, 70, 82, 79, 77, 58, 60, 62, 32, 83, 73, 90, 69, 61, 53]⟩ : ByteArray).toList)))) :: (46, .v (.bool ((v2.1.toList == (⟨#[77, 65, 73, 76, 32, 70, 82, 79, 77, 58, 60, 62, 32, 83, 73, 90, 69, 61, 53]⟩ : ByteArray).toList)))) :: (47, .v (.bool true)) :: (48, .v (.bool v3.2)) :: (49, .v (.bool v3.2)) :: (50, .v (.bool false)) :: (51, .v undef) :: (52, .v undef) :: (53, .v (.bool false)) :: (54, .v (.bool false)) :: (55, .v undef) :: (56, .v undef) :: (57, .v (.bool false)) :: (0, .v (.bool false)) :: [])) (init := [0, 1, 2, 3, 4, 5, 6, 7]) (fin := [0, 39]) (sps := (⟨[2], [], [8], [(.slot 27)]⟩ :: ⟨[8], [], [9], [(.slot 28)]⟩ :: ⟨[9], [], [10], [(.slot 29)]⟩ :: ⟨[10, 4], [], [11], [(.slot 30)]⟩ :: ⟨[10, 11], [], [12], [(.slot 31)]⟩ :: ⟨[10, 12], [], [13], [(.slot 32)]⟩ :: ⟨[13], [], [14], [(.slot 33)]⟩ :: ⟨[14, 1], [], [15], [(.slot 34)]⟩ :: ⟨[14, 15, 1], [], [16], [(.slot 35)]⟩ :: ⟨[14, 16], [], [17], [(.slot 36)]⟩ :: ⟨[14, 17], [], [18], [(.slot 37)]⟩ :: ⟨[18], [], [19], [(.slot 38)]⟩ :: ⟨[19, 1], [], [20], [(.slot 39)]⟩ :: ⟨[19, 20, 1], [], [21], [(.slot 40)]⟩ :: ⟨[19, 21, 1], [], [22], [(.slot 41)]⟩ :: ⟨[19, 22], [], [23], [(.slot 42)]⟩ :: ⟨[23], [], [24], [(.slot 43)]⟩ :: ⟨[24, 3], [], [25], [(.slot 44)]⟩ :: ⟨[24, 25], [], [26], [(.slot 45)]⟩ :: ⟨[24, 26], [], [27], [(.slot 46)]⟩ :: ⟨[27], [], [28], [(.slot 47)]⟩ :: ⟨[28, 6], [], [29], [(.slot 48)]⟩ :: ⟨[28, 29], [], [30], [(.slot 49)]⟩ :: ⟨[30], [], [31], [(.slot 50)]⟩ :: ⟨[31], [], [32], [(.slot 51)]⟩ :: ⟨[31], [], [33], [(.slot 52)]⟩ :: ⟨[31], [], [34], [(.slot 53)]⟩ :: ⟨[34], [], [35], [(.slot 54)]⟩ :: ⟨[35], [], [36], [(.slot 55)]⟩ :: ⟨[35], [], [37], [(.slot 56)]⟩ :: ⟨[35], [], [38], [(.slot 57)]⟩ :: ⟨[38], [], [39], [(.slot 0)]⟩ :: [])) (es' := [(_, _), (0, .v (.bool false))]) (by kernel_rfl) rfl rfl
          ⟨st_plain rfl (op_move _ _ _ _ rfl rfl),
          st_plain rfl (op_bin _ _ _ _ _ rfl rfl rfl),
          st_plain rfl (op_move _ _ _ _ (congrArg (fun b => AV.v (Value.bool b)) hg5_2) rfl),
          st_run 2 29 true rfl rfl rfl (List.Mem.head _) (op_move _ _ _ _ rfl rfl),
          st_run 2 29 true rfl rfl rfl (List.Mem.head _) (op_bin _ _ _ _ _ rfl rfl rfl),
          st_plain rfl (op_pick _ _ true _ rfl rfl),
          st_plain rfl (op_move _ _ _ _ (congrArg (fun b => AV.v (Value.bool b)) hg5_6) rfl),
          st_run 6 33 true rfl rfl rfl (List.Mem.head _) (op_fieldAddr _ _ _ _ 1 0 _ Tryd.underlying26 rfl sz3 rfl rfl (by decide)),
          st_run 6 33 true rfl rfl rfl (List.Mem.head _) (op_load _ _ _ _ _ _ Tryd.underlying3 rfl rfl rfl (Nat.le_of_ble_eq_true rfl) rfl rfl rfl),
          st_run 6 33 true rfl rfl rfl (List.Mem.head _) (op_bin _ _ _ _ _ rfl rfl rfl),
          st_plain rfl (op_pick _ _ true _ rfl rfl),
          st_plain rfl (op_move _ _ _ _ (congrArg (fun b => AV.v (Value.bool b)) hg5_11) rfl),
          st_run 11 38 true rfl rfl rfl (List.Mem.head _) (op_fieldAddr _ _ _ _ 1 0 _ Tryd.underlying26 rfl sz23 rfl rfl (by decide)),
          st_run 11 38 true rfl rfl rfl (List.Mem.head _) (op_fieldAddr _ _ _ _ 1 2 _ Tryd.underlying23 rfl sz4 rfl rfl (by decide)),
          st_run 11 38 true rfl rfl rfl (List.Mem.head _) (op_load _ _ _ _ _ _ Tryd.underlying4 rfl rfl rfl (Nat.le_of_ble_eq_true rfl) rfl rfl rfl),
          st_plain rfl (op_pick _ _ true _ rfl rfl),
          st_plain rfl (op_move _ _ _ _ (congrArg (fun b => AV.v (Value.bool b)) hg5_16) rfl),
          st_run 16 43 true rfl rfl rfl (List.Mem.head _) (op_move _ _ _ _ rfl rfl),
          st_run 16 43 true rfl rfl rfl (List.Mem.head _) (op_bin _ _ _ _ _ rfl rfl rfl),
          st_plain rfl (op_pick _ _ true _ rfl rfl),
          st_plain rfl (op_move _ _ _ _ (congrArg (fun b => AV.v (Value.bool b)) hg5_20) rfl),
          st_run 20 47 true rfl rfl rfl (List.Mem.head _) (op_move _ _ _ _ rfl rfl),
          st_plain rfl (op_pick _ _ true _ rfl rfl),
          st_plain rfl (op_move _ _ _ _ (congrArg (fun b => AV.v (Value.bool b)) hg5_23) rfl),
          st_skip 23 50 _ true rfl rfl rfl rfl (List.Mem.head _),
          st_skip 23 50 _ true rfl rfl rfl rfl (List.Mem.head _),
          st_plain rfl (op_pick _ _ false _ rfl rfl),
          st_plain rfl (op_move _ _ _ _ rfl rfl),
          st_skip 27 54 _ true rfl rfl rfl rfl (List.Mem.head _),
          st_skip 27 54 _ true rfl rfl rfl rfl (List.Mem.head _),
          st_plain rfl (op_pick _ _ false _ rfl rfl),
          st_plain rfl (op_assign _ _ _ _ rfl rfl),
          trivial⟩ ?_
         exact hl7 _ (Option.some.inj h).symm
       ·refine ht_seqR hn (El := (_ :: _ :: _ :: _ :: _ :: _ :: _ :: _ :: (27, .v (.int .i64 v1.2)) :: (28, .v (.bool (v1.2 == 0))) :: (29, .v (.bool true)) :: (30, .v (.int .i64 v2.2)) :: (31, .v (.bool (v2.2 == 0))) :: (32, .v (.bool (v2.2 == 0))) :: (33, .v (.bool true)) :: (34, .ptr 1 0) :: (35, .v (.int .i64 v1.1.Kind)) :: (36, .v (.bool (v1.1.Kind == 2))) :: (37, .v (.bool (v1.1.Kind == 2))) :: (38, .v (.bool true)) :: (39, .ptr 1 2) :: (40, .ptr 1 2) :: (41, .v (.bool v1.1.Path.Null)) :: (42, .v (.bool v1.1.Path.Null)) :: (43, .v (.bool true)) :: (44, .v (.string v2.1)) :: (45, .v (.bool ((v2.1.toList == (⟨#[77, 65, 73, 76, 32, 70, 82, 79, 77, 58, 60, 62, 32, 83, 73, 90, 69, 61, 53]⟩ : ByteArray).toList)))) :: (46, .v (.bool ((v2.1.toList == (⟨#[77, 65, 73, 76, 32, 70, 82, 79, 77, 58, 60, 62, 32, 83, 73, 90, 69, 61, 53]⟩ : ByteArray).toList)))) :: (47, .v (.bool false)) :: (48, .v undef) :: (49, .v (.bool false)) :: (50, .v (.bool false)) :: (51, .v undef) :: (52, .v undef) :: (53, .v (.bool false)) :: (54, .v (.bool false)) :: (55, .v undef) :: (56, .v undef) :: (57, .v (.bool false)) :: (0, .v (.bool false)) :: [])) (init := [0, 1, 2, 3, 4, 5, 6, 7]) (fin := [0, 39]) (sps := (⟨[2], [], [8], [(.slot 27)]⟩ :: ⟨[8], [], [9], [(.slot 28)]⟩ :: ⟨[9], [], [10], [(.slot 29)]⟩ :: ⟨[10, 4], [], [11], [(.slot 30)]⟩ :: ⟨[10, 11], [], [12], [(.slot 31)]⟩ :: ⟨[10, 12], [], [13], [(.slot 32)]⟩ :: ⟨[13], [], [14], [(.slot 33)]⟩ :: ⟨[14, 1], [], [15], [(.slot 34)]⟩ :: ⟨[14, 15, 1], [], [16], [(.slot 35)]⟩ :: ⟨[14, 16], [], [17], [(.slot 36)]⟩ :: ⟨[14, 17], [], [18], [(.slot 37)]⟩ :: ⟨[18], [], [19], [(.slot 38)]⟩ :: ⟨[19, 1], [], [20], [(.slot 39)]⟩ :: ⟨[19, 20, 1], [], [21], [(.slot 40)]⟩ :: ⟨[19, 21, 1], [], [22], [(.slot 41)]⟩ :: ⟨[19, 22], [], [23], [(.slot 42)]⟩ :: ⟨[23], [], [24], [(.slot 43)]⟩ :: ⟨[24, 3], [], [25], [(.slot 44)]⟩ :: ⟨[24, 25], [], [26], [(.slot 45)]⟩ :: ⟨[24, 26], [], [27], [(.slot 46)]⟩ :: ⟨[27], [], [28], [(.slot 47)]⟩ :: ⟨[28], [], [29], [(.slot 48)]⟩ :: ⟨[28], [], [30], [(.slot 49)]⟩ :: ⟨[30], [], [31], [(.slot 50)]⟩ :: ⟨[31], [], [32], [(.slot 51)]⟩ :: ⟨[31], [], [33], [(.slot 52)]⟩ :: ⟨[31], [], [34], [(.slot 53)]⟩ :: ⟨[34], [], [35], [(.slot 54)]⟩ :: ⟨[35], [], [36], [(.slot 55)]⟩ :: ⟨[35], [], [37], [(.slot 56)]⟩ :: ⟨[35], [], [38], [(.slot 57)]⟩ :: ⟨[38], [], [39], [(.slot 0)]⟩ :: [])) (es' := [(_, _), (0, .v (.bool false))]) (by kernel_rfl) rfl rfl
         ⟨st_plain rfl (op_move _ _ _ _ rfl rfl),
         st_plain rfl (op_bin _ _ _ _ _ rfl rfl rfl),
         st_plain rfl (op_move _ _ _ _ (congrArg (fun b => AV.v (Value.bool b)) hg5_2) rfl),
         st_run 2 29 true rfl rfl rfl (List.Mem.head _) (op_move _ _ _ _ rfl rfl),
         st_run 2 29 true rfl rfl rfl (List.Mem.head _) (op_bin _ _ _ _ _ rfl rfl rfl),
         st_plain rfl (op_pick _ _ true _ rfl rfl),
         st_plain rfl (op_move _ _ _ _ (congrArg (fun b => AV.v (Value.bool b)) hg5_6) rfl),
         st_run 6 33 true rfl rfl rfl (List.Mem.head _) (op_fieldAddr _ _ _ _ 1 0 _ Tryd.underlying26 rfl sz3 rfl rfl (by decide)),
         st_run 6 33 true rfl rfl rfl (List.Mem.head _) (op_load _ _ _ _ _ _ Tryd.underlying3 rfl rfl rfl (Nat.le_of_ble_eq_true rfl) rfl rfl rfl),
         st_run 6 33 true rfl rfl rfl (List.Mem.head _) (op_bin _ _ _ _ _ rfl rfl rfl),
         st_plain rfl (op_pick _ _ true _ rfl rfl),
         st_plain rfl (op_move _ _ _ _ (congrArg (fun b => AV.v (Value.bool b)) hg5_11) rfl),
         st_run 11 38 true rfl rfl rfl (List.Mem.head _) (op_fieldAddr _ _ _ _ 1 0 _ Tryd.underlying26 rfl sz23 rfl rfl (by decide)),
         st_run 11 38 true rfl rfl rfl (List.Mem.head _) (op_fieldAddr _ _ _ _ 1 2 _ Tryd.underlying23 rfl sz4 rfl rfl (by decide)),
         st_run 11 38 true rfl rfl rfl (List.Mem.head _) (op_load _ _ _ _ _ _ Tryd.underlying4 rfl rfl rfl (Nat.le_of_ble_eq_true rfl) rfl rfl rfl),
         st_plain rfl (op_pick _ _ true _ rfl rfl),
         st_plain rfl (op_move _ _ _ _ (congrArg (fun b => AV.v (Value.bool b)) hg5_16) rfl),
         st_run 16 43 true rfl rfl rfl (List.Mem.head _) (op_move _ _ _ _ rfl rfl),
         st_run 16 43 true rfl rfl rfl (List.Mem.head _) (op_bin _ _ _ _ _ rfl rfl rfl),
         st_plain rfl (op_pick _ _ true _ rfl rfl),
         st_plain rfl (op_move _ _ _ _ (congrArg (fun b => AV.v (Value.bool b)) hg5_20) rfl),
         st_skip 20 47 _ true rfl rfl rfl rfl (List.Mem.head _),
         st_plain rfl (op_pick _ _ false _ rfl rfl),
         st_plain rfl (op_move _ _ _ _ rfl rfl),
         st_skip 23 50 _ true rfl rfl rfl rfl (List.Mem.head _),
         st_skip 23 50 _ true rfl rfl rfl rfl (List.Mem.head _),
         st_plain rfl (op_pick _ _ false _ rfl rfl),
         st_plain rfl (op_move _ _ _ _ rfl rfl),
         st_skip 27 54 _ true rfl rfl rfl rfl (List.Mem.head _),
         st_skip 27 54 _ true rfl rfl rfl rfl (List.Mem.head _),
         st_plain rfl (op_pick _ _ false _ rfl rfl),
         st_plain rfl (op_assign _ _ _ _ rfl rfl),
         trivial⟩ ?_
        exact hl7 _ (Option.some.inj h).symm
      ·refine ht_seqR hn (El := (_ :: _ :: _ :: _ :: _ :: _ :: _ :: _ :: (27, .v (.int .i64 v1.2)) :: (28, .v (.bool (v1.2 == 0))) :: (29, .v (.bool true)) :: (30, .v (.int .i64 v2.2)) :: (31, .v (.bool (v2.2 == 0))) :: (32, .v (.bool (v2.2 == 0))) :: (33, .v (.bool true)) :: (34, .ptr 1 0) :: (35, .v (.int .i64 v1.1.Kind)) :: (36, .v (.bool (v1.1.Kind == 2))) :: (37, .v (.bool (v1.1.Kind == 2))) :: (38, .v (.bool true)) :: (39, .ptr 1 2) :: (40, .ptr 1 2) :: (41, .v (.bool v1.1.Path.Null)) :: (42, .v (.bool v1.1.Path.Null)) :: (43, .v (.bool false)) :: (44, .v undef) :: (45, .v undef) :: (46, .v (.bool false)) :: (47, .v (.bool false)) :: (48, .v undef) :: (49, .v (.bool false)) :: (50, .v (.bool false)) :: (51, .v undef) :: (52, .v undef) :: (53, .v (.bool false)) :: (54, .v (.bool false)) :: (55, .v undef) :: (56, .v undef) :: (57, .v (.bool false)) :: (0, .v (.bool false)) :: [])) (init := [0, 1, 2, 3, 4, 5, 6, 7]) (fin := [0, 39]) (sps := (⟨[2], [], [8], [(.slot 27)]⟩ :: ⟨[8], [], [9], [(.slot 28)]⟩ :: ⟨[9], [], [10], [(.slot 29)]⟩ :: ⟨[10, 4], [], [11], [(.slot 30)]⟩ :: ⟨[10, 11], [], [12], [(.slot 31)]⟩ :: ⟨[10, 12], [], [13], [(.slot 32)]⟩ :: ⟨[13], [], [14], [(.slot 33)]⟩ :: ⟨[14, 1], [], [15], [(.slot 34)]⟩ :: ⟨[14, 15, 1], [], [16], [(.slot 35)]⟩ :: ⟨[14, 16], [], [17], [(.slot 36)]⟩ :: ⟨[14, 17], [], [18], [(.slot 37)]⟩ :: ⟨[18], [], [19], [(.slot 38)]⟩ :: ⟨[19, 1], [], [20], [(.slot 39)]⟩ :: ⟨[19, 20, 1], [], [21], [(.slot 40)]⟩ :: ⟨[19, 21, 1], [], [22], [(.slot 41)]⟩ :: ⟨[19, 22], [], [23], [(.slot 42)]⟩ :: ⟨[23], [], [24], [(.slot 43)]⟩ :: ⟨[24], [], [25], [(.slot 44)]⟩ :: ⟨[24], [], [26], [(.slot 45)]⟩ :: ⟨[24], [], [27], [(.slot 46)]⟩ :: ⟨[27], [], [28], [(.slot 47)]⟩ :: ⟨[28], [], [29], [(.slot 48)]⟩ :: ⟨[28], [], [30], [(.slot 49)]⟩ :: ⟨[30], [], [31], [(.slot 50)]⟩ :: ⟨[31], [], [32], [(.slot 51)]⟩ :: ⟨[31], [], [33], [(.slot 52)]⟩ :: ⟨[31], [], [34], [(.slot 53)]⟩ :: ⟨[34], [], [35], [(.slot 54)]⟩ :: ⟨[35], [], [36], [(.slot 55)]⟩ :: ⟨[35], [], [37], [(.slot 56)]⟩ :: ⟨[35], [], [38], [(.slot 57)]⟩ :: ⟨[38], [], [39], [(.slot 0)]⟩ :: [])) (es' := [(_, _), (0, .v (.bool false))]) (by kernel_rfl) rfl rfl
        ⟨st_plain rfl (op_move _ _ _ _ rfl rfl),
        st_plain rfl (op_bin _ _ _ _ _ rfl rfl rfl),
        st_plain rfl (op_move _ _ _ _ (congrArg (fun b => AV.v (Value.bool b)) hg5_2) rfl),
        st_run 2 29 true rfl rfl rfl (List.Mem.head _) (op_move _ _ _ _ rfl rfl),
        st_run 2 29 true rfl rfl rfl (List.Mem.head _) (op_bin _ _ _ _ _ rfl rfl rfl),
        st_plain rfl (op_pick _ _ true _ rfl rfl),
        st_plain rfl (op_move _ _ _ _ (congrArg (fun b => AV.v (Value.bool b)) hg5_6) rfl),
        st_run 6 33 true rfl rfl rfl (List.Mem.head _) (op_fieldAddr _ _ _ _ 1 0 _ Tryd.underlying26 rfl sz3 rfl rfl (by decide)),
        st_run 6 33 true rfl rfl rfl (List.Mem.head _) (op_load _ _ _ _ _ _ Tryd.underlying3 rfl rfl rfl (Nat.le_of_ble_eq_true rfl) rfl rfl rfl),
        st_run 6 33 true rfl rfl rfl (List.Mem.head _) (op_bin _ _ _ _ _ rfl rfl rfl),
        st_plain rfl (op_pick _ _ true _ rfl rfl),
        st_plain rfl (op_move _ _ _ _ (congrArg (fun b => AV.v (Value.bool b)) hg5_11) rfl),
        st_run 11 38 true rfl rfl rfl (List.Mem.head _) (op_fieldAddr _ _ _ _ 1 0 _ Tryd.underlying26 rfl sz23 rfl rfl (by decide)),
        st_run 11 38 true rfl rfl rfl (List.Mem.head _) (op_fieldAddr _ _ _ _ 1 2 _ Tryd.underlying23 rfl sz4 rfl rfl (by decide)),
        st_run 11 38 true rfl rfl rfl (List.Mem.head _) (op_load _ _ _ _ _ _ Tryd.underlying4 rfl rfl rfl (Nat.le_of_ble_eq_true rfl) rfl rfl rfl),
        st_plain rfl (op_pick _ _ true _ rfl rfl),
        st_plain rfl (op_move _ _ _ _ (congrArg (fun b => AV.v (Value.bool b)) hg5_16) rfl),
        st_skip 16 43 _ true rfl rfl rfl rfl (List.Mem.head _),
        st_skip 16 43 _ true rfl rfl rfl rfl (List.Mem.head _),
        st_plain rfl (op_pick _ _ false _ rfl rfl),
        st_plain rfl (op_move _ _ _ _ rfl rfl),
        st_skip 20 47 _ true rfl rfl rfl rfl (List.Mem.head _),
        st_plain rfl (op_pick _ _ false _ rfl rfl),
        st_plain rfl (op_move _ _ _ _ rfl rfl),
        st_skip 23 50 _ true rfl rfl rfl rfl (List.Mem.head _),
        st_skip 23 50 _ true rfl rfl rfl rfl (List.Mem.head _),
        st_plain rfl (op_pick _ _ false _ rfl rfl),
        st_plain rfl (op_move _ _ _ _ rfl rfl),
        st_skip 27 54 _ true rfl rfl rfl rfl (List.Mem.head _),
        st_skip 27 54 _ true rfl rfl rfl rfl (List.Mem.head _),
        st_plain rfl (op_pick _ _ false _ rfl rfl),
        st_plain rfl (op_assign _ _ _ _ rfl rfl),
        trivial⟩ ?_
       exact hl7 _ (Option.some.inj h).symm
     ·refine ht_seqR hn (El := (_ :: _ :: _ :: _ :: _ :: _ :: _ :: _ :: (27, .v (.int .i64 v1.2)) :: (28, .v (.bool (v1.2 == 0))) :: (29, .v (.bool true)) :: (30, .v (.int .i64 v2.2)) :: (31, .v (.bool (v2.2 == 0))) :: (32, .v (.bool (v2.2 == 0))) :: (33, .v (.bool true)) :: (34, .ptr 1 0) :: (35, .v (.int .i64 v1.1.Kind)) :: (36, .v (.bool (v1.1.Kind == 2))) :: (37, .v (.bool (v1.1.Kind == 2))) :: (38, .v (.bool false)) :: (39, .v undef) :: (40, .v undef) :: (41, .v undef) :: (42, .v (.bool false)) :: (43, .v (.bool false)) :: (44, .v undef) :: (45, .v undef) :: (46, .v (.bool false)) :: (47, .v (.bool false)) :: (48, .v undef) :: (49, .v (.bool false)) :: (50, .v (.bool false)) :: (51, .v undef) :: (52, .v undef) :: (53, .v (.bool false)) :: (54, .v (.bool false)) :: (55, .v undef) :: (56, .v undef) :: (57, .v (.bool false)) :: (0, .v (.bool false)) :: [])) (init := [0, 1, 2, 3, 4, 5, 6, 7]) (fin := [0, 39]) (sps := (⟨[2], [], [8], [(.slot 27)]⟩ :: ⟨[8], [], [9], [(.slot 28)]⟩ :: ⟨[9], [], [10], [(.slot 29)]⟩ :: ⟨[10, 4], [], [11], [(.slot 30)]⟩ :: ⟨[10, 11], [], [12], [(.slot 31)]⟩ :: ⟨[10, 12], [], [13], [(.slot 32)]⟩ :: ⟨[13], [], [14], [(.slot 33)]⟩ :: ⟨[14, 1], [], [15], [(.slot 34)]⟩ :: ⟨[14, 15, 1], [], [16], [(.slot 35)]⟩ :: ⟨[14, 16], [], [17], [(.slot 36)]⟩ :: ⟨[14, 17], [], [18], [(.slot 37)]⟩ :: ⟨[18], [], [19], [(.slot 38)]⟩ :: ⟨[19], [], [20], [(.slot 39)]⟩ :: ⟨[19], [], [21], [(.slot 40)]⟩ :: ⟨[19], [], [22], [(.slot 41)]⟩ :: ⟨[19], [], [23], [(.slot 42)]⟩ :: ⟨[23], [], [24], [(.slot 43)]⟩ :: ⟨[24], [], [25], [(.slot 44)]⟩ :: ⟨[24], [], [26], [(.slot 45)]⟩ :: ⟨[24], [], [27], [(.slot 46)]⟩ :: ⟨[27], [], [28], [(.slot 47)]⟩ :: ⟨[28], [], [29], [(.slot 48)]⟩ :: ⟨[28], [], [30], [(.slot 49)]⟩ :: ⟨[30], [], [31], [(.slot 50)]⟩ :: ⟨[31], [], [32], [(.slot 51)]⟩ :: ⟨[31], [], [33], [(.slot 52)]⟩ :: ⟨[31], [], [34], [(.slot 53)]⟩ :: ⟨[34], [], [35], [(.slot 54)]⟩ :: ⟨[35], [], [36], [(.slot 55)]⟩ :: ⟨[35], [], [37], [(.slot 56)]⟩ :: ⟨[35], [], [38], [(.slot 57)]⟩ :: ⟨[38], [], [39], [(.slot 0)]⟩ :: [])) (es' := [(_, _), (0, .v (.bool false))]) (by kernel_rfl) rfl rfl
       ⟨st_plain rfl (op_move _ _ _ _ rfl rfl),
       st_plain rfl (op_bin _ _ _ _ _ rfl rfl rfl),
       st_plain rfl (op_move _ _ _ _ (congrArg (fun b => AV.v (Value.bool b)) hg5_2) rfl),
       st_run 2 29 true rfl rfl rfl (List.Mem.head _) (op_move _ _ _ _ rfl rfl),
       st_run 2 29 true rfl rfl rfl (List.Mem.head _) (op_bin _ _ _ _ _ rfl rfl rfl),
       st_plain rfl (op_pick _ _ true _ rfl rfl),
       st_plain rfl (op_move _ _ _ _ (congrArg (fun b => AV.v (Value.bool b)) hg5_6) rfl),
       st_run 6 33 true rfl rfl rfl (List.Mem.head _) (op_fieldAddr _ _ _ _ 1 0 _ Tryd.underlying26 rfl sz3 rfl rfl (by decide)),
       st_run 6 33 true rfl rfl rfl (List.Mem.head _) (op_load _ _ _ _ _ _ Tryd.underlying3 rfl rfl rfl (Nat.le_of_ble_eq_true rfl) rfl rfl rfl),
       st_run 6 33 true rfl rfl rfl (List.Mem.head _) (op_bin _ _ _ _ _ rfl rfl rfl),
       st_plain rfl (op_pick _ _ true _ rfl rfl),
       st_plain rfl (op_move _ _ _ _ (congrArg (fun b => AV.v (Value.bool b)) hg5_11) rfl),
       st_skip 11 38 _ true rfl rfl rfl rfl (List.Mem.head _),
       st_skip 11 38 _ true rfl rfl rfl rfl (List.Mem.head _),
       st_skip 11 38 _ true rfl rfl rfl rfl (List.Mem.head _),
       st_plain rfl (op_pick _ _ false _ rfl rfl),
       st_plain rfl (op_move _ _ _ _ rfl rfl),
       st_skip 16 43 _ true rfl rfl rfl rfl (List.Mem.head _),
       st_skip 16 43 _ true rfl rfl rfl rfl (List.Mem.head _),
       st_plain rfl (op_pick _ _ false _ rfl rfl),
       st_plain rfl (op_move _ _ _ _ rfl rfl),
       st_skip 20 47 _ true rfl rfl rfl rfl (List.Mem.head _),
       st_plain rfl (op_pick _ _ false _ rfl rfl),
       st_plain rfl (op_move _ _ _ _ rfl rfl),
       st_skip 23 50 _ true rfl rfl rfl rfl (List.Mem.head _),
       st_skip 23 50 _ true rfl rfl rfl rfl (List.Mem.head _),
       st_plain rfl (op_pick _ _ false _ rfl rfl),
       st_plain rfl (op_move _ _ _ _ rfl rfl),
       st_skip 27 54 _ true rfl rfl rfl rfl (List.Mem.head _),
       st_skip 27 54 _ true rfl rfl rfl rfl (List.Mem.head _),
       st_plain rfl (op_pick _ _ false _ rfl rfl),
       st_plain rfl (op_assign _ _ _ _ rfl rfl),
       trivial⟩ ?_
      exact hl7 _ (Option.some.inj h).symm
    ·refine ht_seqR hn (El := (_ :: _ :: _ :: _ :: _ :: _ :: _ :: _ :: (27, .v (.int .i64 v1.2)) :: (28, .v (.bool (v1.2 == 0))) :: (29, .v (.bool true)) :: (30, .v (.int .i64 v2.2)) :: (31, .v (.bool (v2.2 == 0))) :: (32, .v (.bool (v2.2 == 0))) :: (33, .v (.bool false)) :: (34, .v undef) :: (35, .v undef) :: (36, .v undef) :: (37, .v (.bool false)) :: (38, .v (.bool false)) :: (39, .v undef) :: (40, .v undef) :: (41, .v undef) :: (42, .v (.bool false)) :: (43, .v (.bool false)) :: (44, .v undef) :: (45, .v undef) :: (46, .v (.bool false)) :: (47, .v (.bool false)) :: (48, .v undef) :: (49, .v (.bool false)) :: (50, .v (.bool false)) :: (51, .v undef) :: (52, .v undef) :: (53, .v (.bool false)) :: (54, .v (.bool false)) :: (55, .v undef) :: (56, .v undef) :: (57, .v (.bool false)) :: (0, .v (.bool false)) :: [])) (init := [0, 1, 2, 3, 4, 5, 6, 7]) (fin := [0, 39]) (sps := (⟨[2], [], [8], [(.slot 27)]⟩ :: ⟨[8], [], [9], [(.slot 28)]⟩ :: ⟨[9], [], [10], [(.slot 29)]⟩ :: ⟨[10, 4], [], [11], [(.slot 30)]⟩ :: ⟨[10, 11], [], [12], [(.slot 31)]⟩ :: ⟨[10, 12], [], [13], [(.slot 32)]⟩ :: ⟨[13], [], [14], [(.slot 33)]⟩ :: ⟨[14], [], [15], [(.slot 34)]⟩ :: ⟨[14], [], [16], [(.slot 35)]⟩ :: ⟨[14], [], [17], [(.slot 36)]⟩ :: ⟨[14], [], [18], [(.slot 37)]⟩ :: ⟨[18], [], [19], [(.slot 38)]⟩ :: ⟨[19], [], [20], [(.slot 39)]⟩ :: ⟨[19], [], [21], [(.slot 40)]⟩ :: ⟨[19], [], [22], [(.slot 41)]⟩ :: ⟨[19], [], [23], [(.slot 42)]⟩ :: ⟨[23], [], [24], [(.slot 43)]⟩ :: ⟨[24], [], [25], [(.slot 44)]⟩ :: ⟨[24], [], [26], [(.slot 45)]⟩ :: ⟨[24], [], [27], [(.slot 46)]⟩ :: ⟨[27], [], [28], [(.slot 47)]⟩ :: ⟨[28], [], [29], [(.slot 48)]⟩ :: ⟨[28], [], [30], [(.slot 49)]⟩ :: ⟨[30], [], [31], [(.slot 50)]⟩ :: ⟨[31], [], [32], [(.slot 51)]⟩ :: ⟨[31], [], [33], [(.slot 52)]⟩ :: ⟨[31], [], [34], [(.slot 53)]⟩ :: ⟨[34], [], [35], [(.slot 54)]⟩ :: ⟨[35], [], [36], [(.slot 55)]⟩ :: ⟨[35], [], [37], [(.slot 56)]⟩ :: ⟨[35], [], [38], [(.slot 57)]⟩ :: ⟨[38], [], [39], [(.slot 0)]⟩ :: [])) (es' := [(_, _), (0, .v (.bool false))]) (by kernel_rfl) rfl rfl
      ⟨st_plain rfl (op_move _ _ _ _ rfl rfl),
      st_plain rfl (op_bin _ _ _ _ _ rfl rfl rfl),
      st_plain rfl (op_move _ _ _ _ (congrArg (fun b => AV.v (Value.bool b)) hg5_2) rfl),
      st_run 2 29 true rfl rfl rfl (List.Mem.head _) (op_move _ _ _ _ rfl rfl),
      st_run 2 29 true rfl rfl rfl (List.Mem.head _) (op_bin _ _ _ _ _ rfl rfl rfl),
      st_plain rfl (op_pick _ _ true _ rfl rfl),
      st_plain rfl (op_move _ _ _ _ (congrArg (fun b => AV.v (Value.bool b)) hg5_6) rfl),
      st_skip 6 33 _ true rfl rfl rfl rfl (List.Mem.head _),
      st_skip 6 33 _ true rfl rfl rfl rfl (List.Mem.head _),
      st_skip 6 33 _ true rfl rfl rfl rfl (List.Mem.head _),
      st_plain rfl (op_pick _ _ false _ rfl rfl),
      st_plain rfl (op_move _ _ _ _ rfl rfl),
      st_skip 11 38 _ true rfl rfl rfl rfl (List.Mem.head _),
      st_skip 11 38 _ true rfl rfl rfl rfl (List.Mem.head _),
      st_skip 11 38 _ true rfl rfl rfl rfl (List.Mem.head _),
      st_plain rfl (op_pick _ _ false _ rfl rfl),
      st_plain rfl (op_move _ _ _ _ rfl rfl),
      st_skip 16 43 _ true rfl rfl rfl rfl (List.Mem.head _),
      st_skip 16 43 _ true rfl rfl rfl rfl (List.Mem.head _),
      st_plain rfl (op_pick _ _ false _ rfl rfl),
      st_plain rfl (op_move _ _ _ _ rfl rfl),
      st_skip 20 47 _ true rfl rfl rfl rfl (List.Mem.head _),
      st_plain rfl (op_pick _ _ false _ rfl rfl),
      st_plain rfl (op_move _ _ _ _ rfl rfl),
      st_skip 23 50 _ true rfl rfl rfl rfl (List.Mem.head _),
      st_skip 23 50 _ true rfl rfl rfl rfl (List.Mem.head _),
      st_plain rfl (op_pick _ _ false _ rfl rfl),
      st_plain rfl (op_move _ _ _ _ rfl rfl),
      st_skip 27 54 _ true rfl rfl rfl rfl (List.Mem.head _),
      st_skip 27 54 _ true rfl rfl rfl rfl (List.Mem.head _),
      st_plain rfl (op_pick _ _ false _ rfl rfl),
      st_plain rfl (op_assign _ _ _ _ rfl rfl),
      trivial⟩ ?_
     exact hl7 _ (Option.some.inj h).symm
   ·refine ht_seqR hn (El := (_ :: _ :: _ :: _ :: _ :: _ :: _ :: _ :: (27, .v (.int .i64 v1.2)) :: (28, .v (.bool (v1.2 == 0))) :: (29, .v (.bool false)) :: (30, .v undef) :: (31, .v undef) :: (32, .v (.bool false)) :: (33, .v (.bool false)) :: (34, .v undef) :: (35, .v undef) :: (36, .v undef) :: (37, .v (.bool false)) :: (38, .v (.bool false)) :: (39, .v undef) :: (40, .v undef) :: (41, .v undef) :: (42, .v (.bool false)) :: (43, .v (.bool false)) :: (44, .v undef) :: (45, .v undef) :: (46, .v (.bool false)) :: (47, .v (.bool false)) :: (48, .v undef) :: (49, .v (.bool false)) :: (50, .v (.bool false)) :: (51, .v undef) :: (52, .v undef) :: (53, .v (.bool false)) :: (54, .v (.bool false)) :: (55, .v undef) :: (56, .v undef) :: (57, .v (.bool false)) :: (0, .v (.bool false)) :: [])) (init := [0, 1, 2, 3, 4, 5, 6, 7]) (fin := [0, 39]) (sps := (⟨[2], [], [8], [(.slot 27)]⟩ :: ⟨[8], [], [9], [(.slot 28)]⟩ :: ⟨[9], [], [10], [(.slot 29)]⟩ :: ⟨[10], [], [11], [(.slot 30)]⟩ :: ⟨[10], [], [12], [(.slot 31)]⟩ :: ⟨[10], [], [13], [(.slot 32)]⟩ :: ⟨[13], [], [14], [(.slot 33)]⟩ :: ⟨[14], [], [15], [(.slot 34)]⟩ :: ⟨[14], [], [16], [(.slot 35)]⟩ :: ⟨[14], [], [17], [(.slot 36)]⟩ :: ⟨[14], [], [18], [(.slot 37)]⟩ :: ⟨[18], [], [19], [(.slot 38)]⟩ :: ⟨[19], [], [20], [(.slot 39)]⟩ :: ⟨[19], [], [21], [(.slot 40)]⟩ :: ⟨[19], [], [22], [(.slot 41)]⟩ :: ⟨[19], [], [23], [(.slot 42)]⟩ :: ⟨[23], [], [24], [(.slot 43)]⟩ :: ⟨[24], [], [25], [(.slot 44)]⟩ :: ⟨[24], [], [26], [(.slot 45)]⟩ :: ⟨[24], [], [27], [(.slot 46)]⟩ :: ⟨[27], [], [28], [(.slot 47)]⟩ :: ⟨[28], [], [29], [(.slot 48)]⟩ :: ⟨[28], [], [30], [(.slot 49)]⟩ :: ⟨[30], [], [31], [(.slot 50)]⟩ :: ⟨[31], [], [32], [(.slot 51)]⟩ :: ⟨[31], [], [33], [(.slot 52)]⟩ :: ⟨[31], [], [34], [(.slot 53)]⟩ :: ⟨[34], [], [35], [(.slot 54)]⟩ :: ⟨[35], [], [36], [(.slot 55)]⟩ :: ⟨[35], [], [37], [(.slot 56)]⟩ :: ⟨[35], [], [38], [(.slot 57)]⟩ :: ⟨[38], [], [39], [(.slot 0)]⟩ :: [])) (es' := [(_, _), (0, .v (.bool false))]) (by kernel_rfl) rfl rfl
     ⟨st_plain rfl (op_move _ _ _ _ rfl rfl),
     st_plain rfl (op_bin _ _ _ _ _ rfl rfl rfl),
     st_plain rfl (op_move _ _ _ _ (congrArg (fun b => AV.v (Value.bool b)) hg5_2) rfl),
     st_skip 2 29 _ true rfl rfl rfl rfl (List.Mem.head _),
     st_skip 2 29 _ true rfl rfl rfl rfl (List.Mem.head _),
     st_plain rfl (op_pick _ _ false _ rfl rfl),
     st_plain rfl (op_move _ _ _ _ rfl rfl),
     st_skip 6 33 _ true rfl rfl rfl rfl (List.Mem.head _),
     st_skip 6 33 _ true rfl rfl rfl rfl (List.Mem.head _),
     st_skip 6 33 _ true rfl rfl rfl rfl (List.Mem.head _),
     st_plain rfl (op_pick _ _ false _ rfl rfl),
     st_plain rfl (op_move _ _ _ _ rfl rfl),
     st_skip 11 38 _ true rfl rfl rfl rfl (List.Mem.head _),
     st_skip 11 38 _ true rfl rfl rfl rfl (List.Mem.head _),
     st_skip 11 38 _ true rfl rfl rfl rfl (List.Mem.head _),
     st_plain rfl (op_pick _ _ false _ rfl rfl),
     st_plain rfl (op_move _ _ _ _ rfl rfl),
     st_skip 16 43 _ true rfl rfl rfl rfl (List.Mem.head _),
     st_skip 16 43 _ true rfl rfl rfl rfl (List.Mem.head _),
     st_plain rfl (op_pick _ _ false _ rfl rfl),
     st_plain rfl (op_move _ _ _ _ rfl rfl),
     st_skip 20 47 _ true rfl rfl rfl rfl (List.Mem.head _),
     st_plain rfl (op_pick _ _ false _ rfl rfl),
     st_plain rfl (op_move _ _ _ _ rfl rfl),
     st_skip 23 50 _ true rfl rfl rfl rfl (List.Mem.head _),
     st_skip 23 50 _ true rfl rfl rfl rfl (List.Mem.head _),
     st_plain rfl (op_pick _ _ false _ rfl rfl),
     st_plain rfl (op_move _ _ _ _ rfl rfl),
     st_skip 27 54 _ true rfl rfl rfl rfl (List.Mem.head _),
     st_skip 27 54 _ true rfl rfl rfl rfl (List.Mem.head _),
     st_plain rfl (op_pick _ _ false _ rfl rfl),
     st_plain rfl (op_assign _ _ _ _ rfl rfl),
     trivial⟩ ?_
    exact hl7 _ (Option.some.inj h).symm

end Go.Proofs.YthfmdofkkkpbkaaDoor
