/-
  The model's runs are what is told in Lean.
-/
import Derived.Test.YthfmdofkkkpbkaaDoorProg
import Derived.KernelRfl
import Derived.Test.YthfmdofkkkpbkaaDoorShelf
import Derived.Test.YthfmdofkkkpbkaaDoorOkc3
set_option linter.unusedVariables false
set_option linter.unusedSimpArgs false
namespace Go.Proofs.YthfmdofkkkpbkaaDoor
open Go.Abs Go.Abs.Sh
set_option maxHeartbeats 1000000 in
theorem ok_wherrylaw12_wakes (mx : Int) (r : Bool) (h : Sh.wherrylaw12_wakes  = some r) : FnG Tryd.prog (GL mx) 12 [] (.v (.bool r)) := by
  unfold Sh.wherrylaw12_wakes at h
  refine fn_okG Tryd.func12 rfl (Nat.le_of_ble_eq_true rfl) rfl rfl fun g0 hn hio => ?_
  refine ht_seq ?_
  refine ht_seqR hn (El := [_, (0, .v (.bool false))]) (init := [0]) (fin := [0]) (sps := [⟨[], [], [1], [(.slot 0)]⟩]) (es' := [(_, _)]) (by kernel_rfl) rfl rfl
   ⟨st_plain rfl (op_assign _ _ _ _ rfl rfl),
   trivial⟩ ?_
  refine pt_then ?_
  refine ht_seq ?_
  obtain ⟨v1, hv1, h⟩ := bind_some h
  refine ht_seqR hn (El := [_, (10, .tup [.agg [.v (.int .i64 v1.1.Kind), .v (.string v1.1.Text), .v (.bool v1.1.Path.Null), .v (.string v1.1.Path.Local), .v (.string v1.1.Path.Domain), .fl .ro 2 (List.flatten (List.map T_Param.enc v1.1.Params))], .v (.int .i64 v1.2)]), (9, .tup [.agg [.v (.int .i64 v1.1.Kind), .v (.string v1.1.Text), .v (.bool v1.1.Path.Null), .v (.string v1.1.Path.Local), .v (.string v1.1.Path.Domain), .fl .ro 2 (List.flatten (List.map T_Param.enc v1.1.Params))], .v (.int .i64 v1.2)]), (11, .agg [.v (.int .i64 v1.1.Kind), .v (.string v1.1.Text), .v (.bool v1.1.Path.Null), .v (.string v1.1.Path.Local), .v (.string v1.1.Path.Domain), .fl .ro 2 (List.flatten (List.map T_Param.enc v1.1.Params))]), (12, .v (.int .i64 v1.2)), (1, .box 26 [.v (.int .i64 0), .v (.string (⟨#[]⟩ : ByteArray)), .v (.bool false), .v (.string (⟨#[]⟩ : ByteArray)), .v (.string (⟨#[]⟩ : ByteArray)), .v (.slice none 0 0)]), (1, .box 26 [.v (.int .i64 v1.1.Kind), .v (.string v1.1.Text), .v (.bool v1.1.Path.Null), .v (.string v1.1.Path.Local), .v (.string v1.1.Path.Domain), .fl .ro 2 (List.flatten (List.map T_Param.enc v1.1.Params))]), (2, .v (.int .i64 v1.2))]) (init := [0]) (fin := [0, 6, 7]) (sps := [⟨[0], [], [1], [(.slot 10)]⟩, ⟨[], [1], [2], [(.slot 9)]⟩, ⟨[2], [], [3], [(.slot 11)]⟩, ⟨[2], [], [4], [(.slot 12)]⟩, ⟨[], [], [5], [(.slot 1)]⟩, ⟨[3], [5], [6], [.cell 1 0, .cell 1 1, .cell 1 2, .cell 1 3, .cell 1 4, .cell 1 5]⟩, ⟨[4], [], [7], [(.slot 2)]⟩]) (es' := [(_, _), (1, .box 26 [.v (.int .i64 v1.1.Kind), .v (.string v1.1.Text), .v (.bool v1.1.Path.Null), .v (.string v1.1.Path.Local), .v (.string v1.1.Path.Domain), .fl .ro 2 (List.flatten (List.map T_Param.enc v1.1.Params))]), (2, .v (.int .i64 v1.2))]) (by kernel_rfl) rfl rfl
   ⟨st_plain rfl (op_callG _ _ 58 10 _ _ rfl Tryd.call10 rfl rfl (fun _ h => h) (ok_verb_Parse mx (⟨#[109, 97, 105, 108, 32, 102, 114, 111, 109, 58, 60, 62, 32, 115, 105, 122, 101, 61, 53]⟩ : ByteArray) _ hv1) rfl rfl),
   st_plain rfl (op_move_take _ _ _ _ rfl),
   st_plain rfl (op_extract_no _ _ _ _ _ _ rfl rfl (Nat.le_of_ble_eq_true rfl) rfl rfl),
   st_plain rfl (op_extract _ _ _ _ _ rfl rfl (Nat.le_of_ble_eq_true rfl) rfl rfl),
   st_plain rfl (op_alloc _ _ zr26),
   st_plain rfl (op_store _ _ _ _ _ _ _ _ sz26 rfl rfl rfl rfl (Nat.le_of_ble_eq_true rfl) rfl rfl),
   st_plain rfl (op_assign _ _ _ _ rfl rfl),
   trivial⟩ ?_
  refine pt_then ?_
  refine ht_seq ?_
  obtain ⟨v2, hv2, h⟩ := bind_some h
  refine ht_seqR hn (El := [_, _, _, (14, .agg [.v (.int .i64 v1.1.Kind), .v (.string v1.1.Text), .v (.bool v1.1.Path.Null), .v (.string v1.1.Path.Local), .v (.string v1.1.Path.Domain), .fl .ro 2 (List.flatten (List.map T_Param.enc v1.1.Params))]), (15, .tup [.v (.string v2.1), .v (.int .i64 v2.2)]), (13, .tup [.v (.string v2.1), .v (.int .i64 v2.2)]), (16, .v (.string v2.1)), (17, .v (.int .i64 v2.2)), (3, .v (.string v2.1)), (4, .v (.int .i64 v2.2))]) (init := [0, 1, 2]) (fin := [0, 1, 2, 8, 9]) (sps := [⟨[1], [], [3], [(.slot 14)]⟩, ⟨[3, 0], [], [4], [(.slot 15)]⟩, ⟨[], [4], [5], [(.slot 13)]⟩, ⟨[5], [], [6], [(.slot 16)]⟩, ⟨[5], [], [7], [(.slot 17)]⟩, ⟨[6], [], [8], [(.slot 3)]⟩, ⟨[7], [], [9], [(.slot 4)]⟩]) (es' := [(_, _), (_, _), (_, _), (3, .v (.string v2.1)), (4, .v (.int .i64 v2.2))]) (by kernel_rfl) rfl rfl
   ⟨st_plain rfl (op_loadA _ _ _ _ _ _ _ Tryd.underlying26 rfl sz26 rfl rfl (Nat.le_of_ble_eq_true rfl) rfl rfl),
   st_plain rfl (op_callG _ _ 58 9 _ _ rfl Tryd.call9 rfl rfl (fun _ h => h) (ok_verb_Text mx ((T_Cmd.mk v1.1.Kind v1.1.Text (T_Path.mk v1.1.Path.Null v1.1.Path.Local v1.1.Path.Domain) v1.1.Params)) _ hv2) rfl rfl),
   st_plain rfl (op_move_take _ _ _ _ rfl),
   st_plain rfl (op_extract _ _ _ _ _ rfl rfl (Nat.le_of_ble_eq_true rfl) rfl rfl),
   st_plain rfl (op_extract _ _ _ _ _ rfl rfl (Nat.le_of_ble_eq_true rfl) rfl rfl),
   st_plain rfl (op_assign _ _ _ _ rfl rfl),
   st_plain rfl (op_assign _ _ _ _ rfl rfl),
   trivial⟩ ?_
  refine pt_then ?_
  refine ht_seq ?_
  obtain ⟨v3, hv3, h⟩ := bind_some h
  refine ht_seqR hn (El := [_, _, _, _, _, (19, .agg [.v (.int .i64 v1.1.Kind), .v (.string v1.1.Text), .v (.bool v1.1.Path.Null), .v (.string v1.1.Path.Local), .v (.string v1.1.Path.Domain), .fl .ro 2 (List.flatten (List.map T_Param.enc v1.1.Params))]), (20, .tup [.v (.string v3.1), .v (.bool v3.2)]), (18, .tup [.v (.string v3.1), .v (.bool v3.2)]), (21, .v (.string v3.1)), (22, .v (.bool v3.2)), (5, .v (.string v3.1)), (6, .v (.bool v3.2))]) (init := [0, 1, 2, 3, 4]) (fin := [0, 1, 2, 3, 4, 10, 11]) (sps := [⟨[1], [], [5], [(.slot 19)]⟩, ⟨[5], [], [6], [(.slot 20)]⟩, ⟨[], [6], [7], [(.slot 18)]⟩, ⟨[7], [], [8], [(.slot 21)]⟩, ⟨[7], [], [9], [(.slot 22)]⟩, ⟨[8], [], [10], [(.slot 5)]⟩, ⟨[9], [], [11], [(.slot 6)]⟩]) (es' := [(_, _), (_, _), (_, _), (_, _), (_, _), (5, .v (.string v3.1)), (6, .v (.bool v3.2))]) (by kernel_rfl) rfl rfl
   ⟨st_plain rfl (op_loadA _ _ _ _ _ _ _ Tryd.underlying26 rfl sz26 rfl rfl (Nat.le_of_ble_eq_true rfl) rfl rfl),
   st_plain rfl (op_call _ _ 21 _ _ rfl Tryd.call21 rfl (ok_verb_Param ((T_Cmd.mk v1.1.Kind v1.1.Text (T_Path.mk v1.1.Path.Null v1.1.Path.Local v1.1.Path.Domain) v1.1.Params)) (⟨#[83, 73, 90, 69]⟩ : ByteArray) _ hv3) rfl rfl),
   st_plain rfl (op_move_take _ _ _ _ rfl),
   st_plain rfl (op_extract _ _ _ _ _ rfl rfl (Nat.le_of_ble_eq_true rfl) rfl rfl),
   st_plain rfl (op_extract _ _ _ _ _ rfl rfl (Nat.le_of_ble_eq_true rfl) rfl rfl),
   st_plain rfl (op_assign _ _ _ _ rfl rfl),
   st_plain rfl (op_assign _ _ _ _ rfl rfl),
   trivial⟩ ?_
  refine pt_then ?_
  refine ht_seq ?_
  obtain ⟨v4, hv4, h⟩ := bind_some h
  refine ht_seqR hn (El := [_, _, _, _, _, _, _, (24, .tup [.agg [.v (.int .i64 v4.1.Kind), .v (.string v4.1.Text), .v (.bool v4.1.Path.Null), .v (.string v4.1.Path.Local), .v (.string v4.1.Path.Domain), .fl .ro 2 (List.flatten (List.map T_Param.enc v4.1.Params))], .v (.int .i64 v4.2)]), (23, .tup [.agg [.v (.int .i64 v4.1.Kind), .v (.string v4.1.Text), .v (.bool v4.1.Path.Null), .v (.string v4.1.Path.Local), .v (.string v4.1.Path.Domain), .fl .ro 2 (List.flatten (List.map T_Param.enc v4.1.Params))], .v (.int .i64 v4.2)]), (25, .agg [.v (.int .i64 v4.1.Kind), .v (.string v4.1.Text), .v (.bool v4.1.Path.Null), .v (.string v4.1.Path.Local), .v (.string v4.1.Path.Domain), .fl .ro 2 (List.flatten (List.map T_Param.enc v4.1.Params))]), (26, .v (.int .i64 v4.2)), (7, .box 26 [.v (.int .i64 0), .v (.string (⟨#[]⟩ : ByteArray)), .v (.bool false), .v (.string (⟨#[]⟩ : ByteArray)), .v (.string (⟨#[]⟩ : ByteArray)), .v (.slice none 0 0)]), (7, .box 26 [.v (.int .i64 v4.1.Kind), .v (.string v4.1.Text), .v (.bool v4.1.Path.Null), .v (.string v4.1.Path.Local), .v (.string v4.1.Path.Domain), .fl .ro 2 (List.flatten (List.map T_Param.enc v4.1.Params))]), (8, .v (.int .i64 v4.2))]) (init := [0, 1, 2, 3, 4, 5, 6]) (fin := [0, 1, 2, 3, 4, 5, 6, 13]) (sps := [⟨[0], [], [7], [(.slot 24)]⟩, ⟨[], [7], [8], [(.slot 23)]⟩, ⟨[8], [], [9], [(.slot 25)]⟩, ⟨[8], [], [10], [(.slot 26)]⟩, ⟨[], [], [11], [(.slot 7)]⟩, ⟨[9], [11], [12], [.cell 7 0, .cell 7 1, .cell 7 2, .cell 7 3, .cell 7 4, .cell 7 5]⟩, ⟨[10], [], [13], [(.slot 8)]⟩]) (es' := [(_, _), (_, _), (_, _), (_, _), (_, _), (_, _), (_, _), (8, .v (.int .i64 v4.2))]) (by kernel_rfl) rfl rfl
   ⟨st_plain rfl (op_callG _ _ 58 10 _ _ rfl Tryd.call10 rfl rfl (fun _ h => h) (ok_verb_Parse mx (⟨#[70, 82, 79, 66]⟩ : ByteArray) _ hv4) rfl rfl),
   st_plain rfl (op_move_take _ _ _ _ rfl),
   st_plain rfl (op_extract_no _ _ _ _ _ _ rfl rfl (Nat.le_of_ble_eq_true rfl) rfl rfl),
   st_plain rfl (op_extract _ _ _ _ _ rfl rfl (Nat.le_of_ble_eq_true rfl) rfl rfl),
   st_plain rfl (op_alloc _ _ zr26),
   st_plain rfl (op_store _ _ _ _ _ _ _ _ sz26 rfl rfl rfl rfl (Nat.le_of_ble_eq_true rfl) rfl rfl),
   st_plain rfl (op_assign _ _ _ _ rfl rfl),
   trivial⟩ ?_
  refine pt_then ?_
  refine ht_seq ?_
  refine ht_joinS h (fun (s5 : Bool) => [(58, .glob (GL mx)), (0, .v (.bool s5))]) ?_ ?_
  ·rintro s5 h
   refine pt_then ?_
   refine ht_ret ?_
   refine pt_pick [1] (by kernel_rfl) (es' := [(_, _)]) rfl ?_
   obtain rfl := Option.some.inj h
   exact pt_ret hio rfl (.tmp _ _ .nil) rfl rfl
  ·intro u6 h hl7 hr8
   refine cond_some h (fun hg5_2 h => ?_) (fun hg5_2 h => ?_)
   ·refine cond_some h (fun hg5_6 h => ?_) (fun hg5_6 h => ?_)
    ·refine cond_some h (fun hg5_11 h => ?_) (fun hg5_11 h => ?_)
     ·refine cond_some h (fun hg5_16 h => ?_) (fun hg5_16 h => ?_)
      ·refine cond_some h (fun hg5_20 h => ?_) (fun hg5_20 h => ?_)
       ·refine cond_some h (fun hg5_23 h => ?_) (fun hg5_23 h => ?_)
        ·refine cond_some h (fun hg5_27 h => ?_) (fun hg5_27 h => ?_)
         ·refine ht_seqR hn (El := (_ :: _ :: _ :: _ :: _ :: _ :: _ :: _ :: (27, .v (.int .i64 v1.2)) :: (28, .v (.bool (v1.2 == 0))) :: (29, .v (.bool true)) :: (30, .v (.int .i64 v2.2)) :: (31, .v (.bool (v2.2 == 0))) :: (32, .v (.bool (v2.2 == 0))) :: (33, .v (.bool true)) :: (34, .ptr 1 0) :: (35, .v (.int .i64 v1.1.Kind)) :: (36, .v (.bool (v1.1.Kind == 2))) :: (37, .v (.bool (v1.1.Kind == 2))) :: (38, .v (.bool true)) :: (39, .ptr 1 2) :: (40, .ptr 1 2) :: (41, .v (.bool v1.1.Path.Null)) :: (42, .v (.bool v1.1.Path.Null)) :: (43, .v (.bool true)) :: (44, .v (.string v2.1)) :: (45, .v (.bool ((v2.1.toList == (⟨#[77, 65, 73, 76, 32, 70, 82, 79, 77, 58, 60, 62, 32, 83, 73, 90, 69, 61, 53]⟩ : ByteArray).toList)))) :: (46, .v (.bool ((v2.1.toList == (⟨#[77, 65, 73, 76, 32, 70, 82, 79, 77, 58, 60, 62, 32, 83, 73, 90, 69, 61, 53]⟩ : ByteArray).toList)))) :: (47, .v (.bool true)) :: (48, .v (.bool v3.2)) :: (49, .v (.bool v3.2)) :: (50, .v (.bool true)) :: (51, .v (.string v3.1)) :: (52, .v (.bool ((v3.1.toList == (⟨#[53]⟩ : ByteArray).toList)))) :: (53, .v (.bool ((v3.1.toList == (⟨#[53]⟩ : ByteArray).toList)))) :: (54, .v (.bool true)) :: (55, .v (.int .i64 v4.2)) :: (56, .v (.bool (v4.2 == 500))) :: (57, .v (.bool (v4.2 == 500))) :: (0, .v (.bool (v4.2 == 500))) :: [])) (init := [0, 1, 2, 3, 4, 5, 6, 7]) (fin := [0, 39]) (sps := (⟨[2], [], [8], [(.slot 27)]⟩ :: ⟨[8], [], [9], [(.slot 28)]⟩ :: ⟨[9], [], [10], [(.slot 29)]⟩ :: ⟨[10, 4], [], [11], [(.slot 30)]⟩ :: ⟨[10, 11], [], [12], [(.slot 31)]⟩ :: ⟨[10, 12], [], [13], [(.slot 32)]⟩ :: ⟨[13], [], [14], [(.slot 33)]⟩ :: ⟨[14, 1], [], [15], [(.slot 34)]⟩ :: ⟨[14, 15, 1], [], [16], [(.slot 35)]⟩ :: ⟨[14, 16], [], [17], [(.slot 36)]⟩ :: ⟨[14, 17], [], [18], [(.slot 37)]⟩ :: ⟨[18], [], [19], [(.slot 38)]⟩ :: ⟨[19, 1], [], [20], [(.slot 39)]⟩ :: ⟨[19, 20, 1], [], [21], [(.slot 40)]⟩ :: ⟨[19, 21, 1], [], [22], [(.slot 41)]⟩ :: ⟨[19, 22], [], [23], [(.slot 42)]⟩ :: ⟨[23], [], [24], [(.slot 43)]⟩ :: ⟨[24, 3], [], [25], [(.slot 44)]⟩ :: ⟨[24, 25], [], [26], [(.slot 45)]⟩ :: ⟨[24, 26], [], [27], [(.slot 46)]⟩ :: ⟨[27], [], [28], [(.slot 47)]⟩ :: ⟨[28, 6], [], [29], [(.slot 48)]⟩ :: ⟨[28, 29], [], [30], [(.slot 49)]⟩ :: ⟨[30], [], [31], [(.slot 50)]⟩ :: ⟨[31, 5], [], [32], [(.slot 51)]⟩ :: ⟨[31, 32], [], [33], [(.slot 52)]⟩ :: ⟨[31, 33], [], [34], [(.slot 53)]⟩ :: ⟨[34], [], [35], [(.slot 54)]⟩ :: ⟨[35, 7], [], [36], [(.slot 55)]⟩ :: ⟨[35, 36], [], [37], [(.slot 56)]⟩ :: ⟨[35, 37], [], [38], [(.slot 57)]⟩ :: ⟨[38], [], [39], [(.slot 0)]⟩ :: [])) (es' := [(_, _), (0, .v (.bool (v4.2 == 500)))]) (by kernel_rfl) rfl rfl
           ⟨st_plain rfl (op_move _ _ _ _ rfl rfl),
           st_plain rfl (op_bin _ _ _ _ _ rfl rfl rfl),
           st_plain rfl (op_move _ _ _ _ (congrArg (fun b => AV.v (Value.bool b)) hg5_2) rfl),
           st_run 2 29 true rfl rfl rfl (List.Mem.head _) (op_move _ _ _ _ rfl rfl),
           st_run 2 29 true rfl rfl rfl (List.Mem.head _) (op_bin _ _ _ _ _ rfl rfl rfl),
           st_plain rfl (op_pick _ _ true _ rfl rfl),
           st_plain rfl (op_move _ _ _ _ (congrArg (fun b => AV.v (Value.bool b)) hg5_6) rfl),
           st_run 6 33 true rfl rfl rfl (List.Mem.head _) (op_fieldAddr _ _ _ _ 1 0 _ Tryd.underlying26 rfl sz3 rfl rfl (by decide)),
           st_run 6 33 true rfl rfl rfl (List.Mem.head _) (op_load _ _ _ _ _ _ Tryd.underlying3 rfl rfl rfl (Nat.le_of_ble_eq_true rfl) rfl rfl rfl),
           st_run 6 33 true rfl rfl rfl (List.Mem.head _) (op_bin _ _ _ _ _ rfl rfl rfl),
           st_plain rfl (op_pick _ _ true _ rfl rfl),
           st_plain rfl (op_move _ _ _ _ (congrArg (fun b => AV.v (Value.bool b)) hg5_11) rfl),
           st_run 11 38 true rfl rfl rfl (List.Mem.head _) (op_fieldAddr _ _ _ _ 1 0 _ Tryd.underlying26 rfl sz23 rfl rfl (by decide)),
           st_run 11 38 true rfl rfl rfl (List.Mem.head _) (op_fieldAddr _ _ _ _ 1 2 _ Tryd.underlying23 rfl sz4 rfl rfl (by decide)),
           st_run 11 38 true rfl rfl rfl (List.Mem.head _) (op_load _ _ _ _ _ _ Tryd.underlying4 rfl rfl rfl (Nat.le_of_ble_eq_true rfl) rfl rfl rfl),
           st_plain rfl (op_pick _ _ true _ rfl rfl),
           st_plain rfl (op_move _ _ _ _ (congrArg (fun b => AV.v (Value.bool b)) hg5_16) rfl),
           st_run 16 43 true rfl rfl rfl (List.Mem.head _) (op_move _ _ _ _ rfl rfl),
           st_run 16 43 true rfl rfl rfl (List.Mem.head _) (op_bin _ _ _ _ _ rfl rfl rfl),
           st_plain rfl (op_pick _ _ true _ rfl rfl),
           st_plain rfl (op_move _ _ _ _ (congrArg (fun b => AV.v (Value.bool b)) hg5_20) rfl),
           st_run 20 47 true rfl rfl rfl (List.Mem.head _) (op_move _ _ _ _ rfl rfl),
           st_plain rfl (op_pick _ _ true _ rfl rfl),
           st_plain rfl (op_move _ _ _ _ (congrArg (fun b => AV.v (Value.bool b)) hg5_23) rfl),
           st_run 23 50 true rfl rfl rfl (List.Mem.head _) (op_move _ _ _ _ rfl rfl),
           st_run 23 50 true rfl rfl rfl (List.Mem.head _) (op_bin _ _ _ _ _ rfl rfl rfl),
           st_plain rfl (op_pick _ _ true _ rfl rfl),
           st_plain rfl (op_move _ _ _ _ (congrArg (fun b => AV.v (Value.bool b)) hg5_27) rfl),
           st_run 27 54 true rfl rfl rfl (List.Mem.head _) (op_move _ _ _ _ rfl rfl),
           st_run 27 54 true rfl rfl rfl (List.Mem.head _) (op_bin _ _ _ _ _ rfl rfl rfl),
           st_plain rfl (op_pick _ _ true _ rfl rfl),
           st_plain rfl (op_assign _ _ _ _ rfl rfl),
           trivial⟩ ?_
          exact hl7 _ (Option.some.inj h).symm
         ·refine ht_seqR hn (El := (_ :: _ :: _ :: _ :: _ :: _ :: _ :: _ :: (27, .v (.int .i64 v1.2)) :: (28, .v (.bool (v1.2 == 0))) :: (29, .v (.bool true)) :: (30, .v (.int .i64 v2.2)) :: (31, .v (.bool (v2.2 == 0))) :: (32, .v (.bool (v2.2 == 0))) :: (33, .v (.bool true)) :: (34, .ptr 1 0) :: (35, .v (.int .i64 v1.1.Kind)) :: (36, .v (.bool (v1.1.Kind == 2))) :: (37, .v (.bool (v1.1.Kind == 2))) :: (38, .v (.bool true)) :: (39, .ptr 1 2) :: (40, .ptr 1 2) :: (41, .v (.bool v1.1.Path.Null)) :: (42, .v (.bool v1.1.Path.Null)) :: (43, .v (.bool true)) :: (44, .v (.string v2.1)) :: (45, .v (.bool ((v2.1.toList == (⟨#[77, 65, 73, 76, 32, 70, 82, 79, 77, 58, 60, 62, 32, 83, 73, 90, 69, 61, 53]⟩ : ByteArray).toList)))) :: (46, .v (.bool ((v2.1.toList == (⟨#[77, 65, 73, 76, 32, 70, 82, 79, 77, 58, 60, 62, 32, 83, 73, 90, 69, 61, 53]⟩ : ByteArray).toList)))) :: (47, .v (.bool true)) :: (48, .v (.bool v3.2)) :: (49, .v (.bool v3.2)) :: (50, .v (.bool true)) :: (51, .v (.string v3.1)) :: (52, .v (.bool ((v3.1.toList == (⟨#[53]⟩ : ByteArray).toList)))) :: (53, .v (.bool ((v3.1.toList == (⟨#[53]⟩ : ByteArray).toList)))) :: (54, .v (.bool false)) :: (55, .v undef) :: (56, .v undef) :: (57, .v (.bool false)) :: (0, .v (.bool false)) :: [])) (init := [0, 1, 2, 3, 4, 5, 6, 7]) (fin := [0, 39]) (sps := (⟨[2], [], [8], [(.slot 27)]⟩ :: ⟨[8], [], [9], [(.slot 28)]⟩ :: ⟨[9], [], [10], [(.slot 29)]⟩ :: ⟨[10, 4], [], [11], [(.slot 30)]⟩ :: ⟨[10, 11], [], [12], [(.slot 31)]⟩ :: ⟨[10, 12], [], [13], [(.slot 32)]⟩ :: ⟨[13], [], [14], [(.slot 33)]⟩ :: ⟨[14, 1], [], [15], [(.slot 34)]⟩ :: ⟨[14, 15, 1], [], [16], [(.slot 35)]⟩ :: ⟨[14, 16], [], [17], [(.slot 36)]⟩ :: ⟨[14, 17], [], [18], [(.slot 37)]⟩ :: ⟨[18], [], [19], [(.slot 38)]⟩ :: ⟨[19, 1], [], [20], [(.slot 39)]⟩ :: ⟨[19, 20, 1], [], [21], [(.slot 40)]⟩ :: ⟨[19, 21, 1], [], [22], [(.slot 41)]⟩ :: ⟨[19, 22], [], [23], [(.slot 42)]⟩ :: ⟨[23], [], [24], [(.slot 43)]⟩ :: ⟨[24, 3], [], [25], [(.slot 44)]⟩ :: ⟨[24, 25], [], [26], [(.slot 45)]⟩ :: ⟨[24, 26], [], [27], [(.slot 46)]⟩ :: ⟨[27], [], [28], [(.slot 47)]⟩ :: ⟨[28, 6], [], [29], [(.slot 48)]⟩ :: ⟨[28, 29], [], [30], [(.slot 49)]⟩ :: ⟨[30], [], [31], [(.slot 50)]⟩ :: ⟨[31, 5], [], [32], [(.slot 51)]⟩ :: ⟨[31, 32], [], [33], [(.slot 52)]⟩ :: ⟨[31, 33], [], [34], [(.slot 53)]⟩ :: ⟨[34], [], [35], [(.slot 54)]⟩ :: ⟨[35], [], [36], [(.slot 55)]⟩ :: ⟨[35], [], [37], [(.slot 56)]⟩ :: ⟨[35], [], [38], [(.slot 57)]⟩ :: ⟨[38], [], [39], [(.slot 0)]⟩ :: [])) (es' := [(_, _), (0, .v (.bool false))]) (by kernel_rfl) rfl rfl
           ⟨st_plain rfl (op_move _ _ _ _ rfl rfl),
           st_plain rfl (op_bin _ _ _ _ _ rfl rfl rfl),
           st_plain rfl (op_move _ _ _ _ (congrArg (fun b => AV.v (Value.bool b)) hg5_2) rfl),
           st_run 2 29 true rfl rfl rfl (List.Mem.head _) (op_move _ _ _ _ rfl rfl),
           st_run 2 29 true rfl rfl rfl (List.Mem.head _) (op_bin _ _ _ _ _ rfl rfl rfl),
           st_plain rfl (op_pick _ _ true _ rfl rfl),
           st_plain rfl (op_move _ _ _ _ (congrArg (fun b => AV.v (Value.bool b)) hg5_6) rfl),
           st_run 6 33 true rfl rfl rfl (List.Mem.head _) (op_fieldAddr _ _ _ _ 1 0 _ Tryd.underlying26 rfl sz3 rfl rfl (by decide)),
           st_run 6 33 true rfl rfl rfl (List.Mem.head _) (op_load _ _ _ _ _ _ Tryd.underlying3 rfl rfl rfl (Nat.le_of_ble_eq_true rfl) rfl rfl rfl),
           st_run 6 33 true rfl rfl rfl (List.Mem.head _) (op_bin _ _ _ _ _ rfl rfl rfl),
           st_plain rfl (op_pick _ _ true _ rfl rfl),
           st_plain rfl (op_move _ _ _ _ (congrArg (fun b => AV.v (Value.bool b)) hg5_11) rfl),
           st_run 11 38 true rfl rfl rfl (List.Mem.head _) (op_fieldAddr _ _ _ _ 1 0 _ Tryd.underlying26 rfl sz23 rfl rfl (by decide)),
           st_run 11 38 true rfl rfl rfl (List.Mem.head _) (op_fieldAddr _ _ _ _ 1 2 _ Tryd.underlying23 rfl sz4 rfl rfl (by decide)),
           st_run 11 38 true rfl rfl rfl (List.Mem.head _) (op_load _ _ _ _ _ _ Tryd.underlying4 rfl rfl rfl (Nat.le_of_ble_eq_true rfl) rfl rfl rfl),
           st_plain rfl (op_pick _ _ true _ rfl rfl),
           st_plain rfl (op_move _ _ _ _ (congrArg (fun b => AV.v (Value.bool b)) hg5_16) rfl),
           st_run 16 43 true rfl rfl rfl (List.Mem.head _) (op_move _ _ _ _ rfl rfl),
           st_run 16 43 true rfl rfl rfl (List.Mem.head _) (op_bin _ _ _ _ _ rfl rfl rfl),
           st_plain rfl (op_pick _ _ true _ rfl rfl),
           st_plain rfl (op_move _ _ _ _ (congrArg (fun b => AV.v (Value.bool b)) hg5_20) rfl),
           st_run 20 47 true rfl rfl rfl (List.Mem.head _) (op_move _ _ _ _ rfl rfl),
           st_plain rfl (op_pick _ _ true _ rfl rfl),
           st_plain rfl (op_move _ _ _ _ (congrArg (fun b => AV.v (Value.bool b)) hg5_23) rfl),
           st_run 23 50 true rfl rfl rfl (List.Mem.head _) (op_move _ _ _ _ rfl rfl),
           st_run 23 50 true rfl rfl rfl (List.Mem.head _) (op_bin _ _ _ _ _ rfl rfl rfl),
           st_plain rfl (op_pick _ _ true _ rfl rfl),
           st_plain rfl (op_move _ _ _ _ (congrArg (fun b => AV.v (Value.bool b)) hg5_27) rfl),
           st_skip 27 54 _ true rfl rfl rfl rfl (List.Mem.head _),
           st_skip 27 54 _ true rfl rfl rfl rfl (List.Mem.head _),
           st_plain rfl (op_pick _ _ false _ rfl rfl),
           st_plain rfl (op_assign _ _ _ _ rfl rfl),
           trivial⟩ ?_
          exact hl7 _ (Option.some.inj h).symm
        ·refine ht_seqR hn (El := (_ :: _ :: _ :: _ :: _ :: _ :: _ :: _ :: (27, .v (.int .i64 v1.2)) :: (28, .v (.bool (v1.2 == 0))) :: (29, .v (.bool true)) :: (30, .v (.int .i64 v2.2)) :: (31, .v (.bool (v2.2 == 0))) :: (32, .v (.bool (v2.2 == 0))) :: (33, .v (.bool true)) :: (34, .ptr 1 0) :: (35, .v (.int .i64 v1.1.Kind)) :: (36, .v (.bool (v1.1.Kind == 2))) :: (37, .v (.bool (v1.1.Kind == 2))) :: (38, .v (.bool true)) :: (39, .ptr 1 2) :: (40, .ptr 1 2) :: (41, .v (.bool v1.1.Path.Null)) :: (42, .v (.bool v1.1.Path.Null)) :: (43, .v (.bool true)) :: (44, .v (.string v2.1)) :: (45, .v (.bool ((v2.1.toList == (⟨#[77, 65, 73, 76, 32, 70, 82, 79, 77, 58, 60, 62, 32, 83, 73, 90, 69, 61, 53]⟩ : ByteArray).toList)))) :: (46, .v (.bool ((v2.1.toList == (⟨#[77, 65, 73, 76, 32, 70, 82, 79, 77, 58, 60, 62, 32, 83, 73, 90, 69, 61, 53]⟩ : ByteArray).toList)))) :: (47, .v (.bool true)) :: (48, .v (.bool v3.2)) :: (49, .v (.bool v3.2)) :: (50, .v (.bool false)) :: (51, .v undef) :: (52, .v undef) :: (53, .v (.bool false)) :: (54, .v (.bool false)) :: (55, .v undef) :: (56, .v undef) :: (57, .v (.bool false)) :: (0, .v (.bool false)) :: [])) (init := [0, 1, 2, 3, 4, 5, 6, 7]) (fin := [0, 39]) (sps := (⟨[2], [], [8], [(.slot 27)]⟩ :: ⟨[8], [], [9], [(.slot 28)]⟩ :: ⟨[9], [], [10], [(.slot 29)]⟩ :: ⟨[10, 4], [], [11], [(.slot 30)]⟩ :: ⟨[10, 11], [], [12], [(.slot 31)]⟩ :: ⟨[10, 12], [], [13], [(.slot 32)]⟩ :: ⟨[13], [], [14], [(.slot 33)]⟩ :: ⟨[14, 1], [], [15], [(.slot 34)]⟩ :: ⟨[14, 15, 1], [], [16], [(.slot 35)]⟩ :: ⟨[14, 16], [], [17], [(.slot 36)]⟩ :: ⟨[14, 17], [], [18], [(.slot 37)]⟩ :: ⟨[18], [], [19], [(.slot 38)]⟩ :: ⟨[19, 1], [], [20], [(.slot 39)]⟩ :: ⟨[19, 20, 1], [], [21], [(.slot 40)]⟩ :: ⟨[19, 21, 1], [], [22], [(.slot 41)]⟩ :: ⟨[19, 22], [], [23], [(.slot 42)]⟩ :: ⟨[23], [], [24], [(.slot 43)]⟩ :: ⟨[24, 3], [], [25], [(.slot 44)]⟩ :: ⟨[24, 25], [], [26], [(.slot 45)]⟩ :: ⟨[24, 26], [], [27], [(.slot 46)]⟩ :: ⟨[27], [], [28], [(.slot 47)]⟩ :: ⟨[28, 6], [], [29], [(.slot 48)]⟩ :: ⟨[28, 29], [], [30], [(.slot 49)]⟩ :: ⟨[30], [], [31], [(.slot 50)]⟩ :: ⟨[31], [], [32], [(.slot 51)]⟩ :: ⟨[31], [], [33], [(.slot 52)]⟩ :: ⟨[31], [], [34], [(.slot 53)]⟩ :: ⟨[34], [], [35], [(.slot 54)]⟩ :: ⟨[35], [], [36], [(.slot 55)]⟩ :: ⟨[35], [], [37], [(.slot 56)]⟩ :: ⟨[35], [], [38], [(.slot 57)]⟩ :: ⟨[38], [], [39], [(.slot 0)]⟩ :: [])) (es' := [(_, _), (0, .v (.bool false))]) (by kernel_rfl) rfl rfl
          ⟨st_plain rfl (op_move _ _ _ _ rfl rfl),
          st_plain rfl (op_bin _ _ _ _ _ rfl rfl rfl),
          st_plain rfl (op_move _ _ _ _ (congrArg (fun b => AV.v (Value.bool b)) hg5_2) rfl),
          st_run 2 29 true rfl rfl rfl (List.Mem.head _) (op_move _ _ _ _ rfl rfl),
          st_run 2 29 true rfl rfl rfl (List.Mem.head _) (op_bin _ _ _ _ _ rfl rfl rfl),
          st_plain rfl (op_pick _ _ true _ rfl rfl),
          st_plain rfl (op_move _ _ _ _ (congrArg (fun b => AV.v (Value.bool b)) hg5_6) rfl),
          st_run 6 33 true rfl rfl rfl (List.Mem.head _) (op_fieldAddr _ _ _ _ 1 0 _ Tryd.underlying26 rfl sz3 rfl rfl (by decide)),
          st_run 6 33 true rfl rfl rfl (List.Mem.head _) (op_load _ _ _ _ _ _ Tryd.underlying3 rfl rfl rfl (Nat.le_of_ble_eq_true rfl) rfl rfl rfl),
          st_run 6 33 true rfl rfl rfl (List.Mem.head _) (op_bin _ _ _ _ _ rfl rfl rfl),
          st_plain rfl (op_pick _ _ true _ rfl rfl),
          st_plain rfl (op_move _ _ _ _ (congrArg (fun b => AV.v (Value.bool b)) hg5_11) rfl),
          st_run 11 38 true rfl rfl rfl (List.Mem.head _) (op_fieldAddr _ _ _ _ 1 0 _ Tryd.underlying26 rfl sz23 rfl rfl (by decide)),
          st_run 11 38 true rfl rfl rfl (List.Mem.head _) (op_fieldAddr _ _ _ _ 1 2 _ Tryd.underlying23 rfl sz4 rfl rfl (by decide)),
          st_run 11 38 true rfl rfl rfl (List.Mem.head _) (op_load _ _ _ _ _ _ Tryd.underlying4 rfl rfl rfl (Nat.le_of_ble_eq_true rfl) rfl rfl rfl),
          st_plain rfl (op_pick _ _ true _ rfl rfl),
          st_plain rfl (op_move _ _ _ _ (congrArg (fun b => AV.v (Value.bool b)) hg5_16) rfl),
          st_run 16 43 true rfl rfl rfl (List.Mem.head _) (op_move _ _ _ _ rfl rfl),
          st_run 16 43 true rfl rfl rfl (List.Mem.head _) (op_bin _ _ _ _ _ rfl rfl rfl),
          st_plain rfl (op_pick _ _ true _ rfl rfl),
          st_plain rfl (op_move _ _ _ _ (congrArg (fun b => AV.v (Value.bool b)) hg5_20) rfl),
          st_run 20 47 true rfl rfl rfl (List.Mem.head _) (op_move _ _ _ _ rfl rfl),
          st_plain rfl (op_pick _ _ true _ rfl rfl),
          st_plain rfl (op_move _ _ _ _ (congrArg (fun b => AV.v (Value.bool b)) hg5_23) rfl),
          st_skip 23 50 _ true rfl rfl rfl rfl (List.Mem.head _),
          st_skip 23 50 _ true rfl rfl rfl rfl (List.Mem.head _),
          st_plain rfl (op_pick _ _ false _ rfl rfl),
          st_plain rfl (op_move _ _ _ _ rfl rfl),
          st_skip 27 54 _ true rfl rfl rfl rfl (List.Mem.head _),
          st_skip 27 54 _ true rfl rfl rfl rfl (List.Mem.head _),
          st_plain rfl (op_pick _ _ false _ rfl rfl),
          st_plain rfl (op_assign _ _ _ _ rfl rfl),
          trivial⟩ ?_
         exact hl7 _ (Option.some.inj h).symm
       ·refine ht_seqR hn (El := (_ :: _ :: _ :: _ :: _ :: _ :: _ :: _ :: (27, .v (.int .i64 v1.2)) :: (28, .v (.bool (v1.2 == 0))) :: (29, .v (.bool true)) :: (30, .v (.int .i64 v2.2)) :: (31, .v (.bool (v2.2 == 0))) :: (32, .v (.bool (v2.2 == 0))) :: (33, .v (.bool true)) :: (34, .ptr 1 0) :: (35, .v (.int .i64 v1.1.Kind)) :: (36, .v (.bool (v1.1.Kind == 2))) :: (37, .v (.bool (v1.1.Kind == 2))) :: (38, .v (.bool true)) :: (39, .ptr 1 2) :: (40, .ptr 1 2) :: (41, .v (.bool v1.1.Path.Null)) :: (42, .v (.bool v1.1.Path.Null)) :: (43, .v (.bool true)) :: (44, .v (.string v2.1)) :: (45, .v (.bool ((v2.1.toList == (⟨#[77, 65, 73, 76, 32, 70, 82, 79, 77, 58, 60, 62, 32, 83, 73, 90, 69, 61, 53]⟩ : ByteArray).toList)))) :: (46, .v (.bool ((v2.1.toList == (⟨#[77, 65, 73, 76, 32, 70, 82, 79, 77, 58, 60, 62, 32, 83, 73, 90, 69, 61, 53]⟩ : ByteArray).toList)))) :: (47, .v (.bool false)) :: (48, .v undef) :: (49, .v (.bool false)) :: (50, .v (.bool false)) :: (51, .v undef) :: (52, .v undef) :: (53, .v (.bool false)) :: (54, .v (.bool false)) :: (55, .v undef) :: (56, .v undef) :: (57, .v (.bool false)) :: (0, .v (.bool false)) :: [])) (init := [0, 1, 2, 3, 4, 5, 6, 7]) (fin := [0, 39]) (sps := (⟨[2], [], [8], [(.slot 27)]⟩ :: ⟨[8], [], [9], [(.slot 28)]⟩ :: ⟨[9], [], [10], [(.slot 29)]⟩ :: ⟨[10, 4], [], [11], [(.slot 30)]⟩ :: ⟨[10, 11], [], [12], [(.slot 31)]⟩ :: ⟨[10, 12], [], [13], [(.slot 32)]⟩ :: ⟨[13], [], [14], [(.slot 33)]⟩ :: ⟨[14, 1], [], [15], [(.slot 34)]⟩ :: ⟨[14, 15, 1], [], [16], [(.slot 35)]⟩ :: ⟨[14, 16], [], [17], [(.slot 36)]⟩ :: ⟨[14, 17], [], [18], [(.slot 37)]⟩ :: ⟨[18], [], [19], [(.slot 38)]⟩ :: ⟨[19, 1], [], [20], [(.slot 39)]⟩ :: ⟨[19, 20, 1], [], [21], [(.slot 40)]⟩ :: ⟨[19, 21, 1], [], [22], [(.slot 41)]⟩ :: ⟨[19, 22], [], [23], [(.slot 42)]⟩ :: ⟨[23], [], [24], [(.slot 43)]⟩ :: ⟨[24, 3], [], [25], [(.slot 44)]⟩ :: ⟨[24, 25], [], [26], [(.slot 45)]⟩ :: ⟨[24, 26], [], [27], [(.slot 46)]⟩ :: ⟨[27], [], [28], [(.slot 47)]⟩ :: ⟨[28], [], [29], [(.slot 48)]⟩ :: ⟨[28], [], [30], [(.slot 49)]⟩ :: ⟨[30], [], [31], [(.slot 50)]⟩ :: ⟨[31], [], [32], [(.slot 51)]⟩ :: ⟨[31], [], [33], [(.slot 52)]⟩ :: ⟨[31], [], [34], [(.slot 53)]⟩ :: ⟨[34], [], [35], [(.slot 54)]⟩ :: ⟨[35], [], [36], [(.slot 55)]⟩ :: ⟨[35], [], [37], [(.slot 56)]⟩ :: ⟨[35], [], [38], [(.slot 57)]⟩ :: ⟨[38], [], [39], [(.slot 0)]⟩ :: [])) (es' := [(_, _), (0, .v (.bool false))]) (by kernel_rfl) rfl rfl
         ⟨st_plain rfl (op_move _ _ _ _ rfl rfl),
         st_plain rfl (op_bin _ _ _ _ _ rfl rfl rfl),
         st_plain rfl (op_move _ _ _ _ (congrArg (fun b => AV.v (Value.bool b)) hg5_2) rfl),
         st_run 2 29 true rfl rfl rfl (List.Mem.head _) (op_move _ _ _ _ rfl rfl),
         st_run 2 29 true rfl rfl rfl (List.Mem.head _) (op_bin _ _ _ _ _ rfl rfl rfl),
         st_plain rfl (op_pick _ _ true _ rfl rfl),
         st_plain rfl (op_move _ _ _ _ (congrArg (fun b => AV.v (Value.bool b)) hg5_6) rfl),
         st_run 6 33 true rfl rfl rfl (List.Mem.head _) (op_fieldAddr _ _ _ _ 1 0 _ Tryd.underlying26 rfl sz3 rfl rfl (by decide)),
         st_run 6 33 true rfl rfl rfl (List.Mem.head _) (op_load _ _ _ _ _ _ Tryd.underlying3 rfl rfl rfl (Nat.le_of_ble_eq_true rfl) rfl rfl rfl),
         st_run 6 33 true rfl rfl rfl (List.Mem.head _) (op_bin _ _ _ _ _ rfl rfl rfl),
         st_plain rfl (op_pick _ _ true _ rfl rfl),
         st_plain rfl (op_move _ _ _ _ (congrArg (fun b => AV.v (Value.bool b)) hg5_11) rfl),
         st_run 11 38 true rfl rfl rfl (List.Mem.head _) (op_fieldAddr _ _ _ _ 1 0 _ Tryd.underlying26 rfl sz23 rfl rfl (by decide)),
         st_run 11 38 true rfl rfl rfl (List.Mem.head _) (op_fieldAddr _ _ _ _ 1 2 _ Tryd.underlying23 rfl sz4 rfl rfl (by decide)),
         st_run 11 38 true rfl rfl rfl (List.Mem.head _) (op_load _ _ _ _ _ _ Tryd.underlying4 rfl rfl rfl (Nat.le_of_ble_eq_true rfl) rfl rfl rfl),
         st_plain rfl (op_pick _ _ true _ rfl rfl),
         st_plain rfl (op_move _ _ _ _ (congrArg (fun b => AV.v (Value.bool b)) hg5_16) rfl),
         st_run 16 43 true rfl rfl rfl (List.Mem.head _) (op_move _ _ _ _ rfl rfl),
         st_run 16 43 true rfl rfl rfl (List.Mem.head _) (op_bin _ _ _ _ _ rfl rfl rfl),
         st_plain rfl (op_pick _ _ true _ rfl rfl),
         st_plain rfl (op_move _ _ _ _ (congrArg (fun b => AV.v (Value.bool b)) hg5_20) rfl),
         st_skip 20 47 _ true rfl rfl rfl rfl (List.Mem.head _),
         st_plain rfl (op_pick _ _ false _ rfl rfl),
         st_plain rfl (op_move _ _ _ _ rfl rfl),
         st_skip 23 50 _ true rfl rfl rfl rfl (List.Mem.head _),
         st_skip 23 50 _ true rfl rfl rfl rfl (List.Mem.head _),
         st_plain rfl (op_pick _ _ false _ rfl rfl),
         st_plain rfl (op_move _ _ _ _ rfl rfl),
         st_skip 27 54 _ true rfl rfl rfl rfl (List.Mem.head _),
         st_skip 27 54 _ true rfl rfl rfl rfl (List.Mem.head _),
         st_plain rfl (op_pick _ _ false _ rfl rfl),
         st_plain rfl (op_assign _ _ _ _ rfl rfl),
         trivial⟩ ?_
        exact hl7 _ (Option.some.inj h).symm
      ·refine ht_seqR hn (El := (_ :: _ :: _ :: _ :: _ :: _ :: _ :: _ :: (27, .v (.int .i64 v1.2)) :: (28, .v (.bool (v1.2 == 0))) :: (29, .v (.bool true)) :: (30, .v (.int .i64 v2.2)) :: (31, .v (.bool (v2.2 == 0))) :: (32, .v (.bool (v2.2 == 0))) :: (33, .v (.bool true)) :: (34, .ptr 1 0) :: (35, .v (.int .i64 v1.1.Kind)) :: (36, .v (.bool (v1.1.Kind == 2))) :: (37, .v (.bool (v1.1.Kind == 2))) :: (38, .v (.bool true)) :: (39, .ptr 1 2) :: (40, .ptr 1 2) :: (41, .v (.bool v1.1.Path.Null)) :: (42, .v (.bool v1.1.Path.Null)) :: (43, .v (.bool false)) :: (44, .v undef) :: (45, .v undef) :: (46, .v (.bool false)) :: (47, .v (.bool false)) :: (48, .v undef) :: (49, .v (.bool false)) :: (50, .v (.bool false)) :: (51, .v undef) :: (52, .v undef) :: (53, .v (.bool false)) :: (54, .v (.bool false)) :: (55, .v undef) :: (56, .v undef) :: (57, .v (.bool false)) :: (0, .v (.bool false)) :: [])) (init := [0, 1, 2, 3, 4, 5, 6, 7]) (fin := [0, 39]) (sps := (⟨[2], [], [8], [(.slot 27)]⟩ :: ⟨[8], [], [9], [(.slot 28)]⟩ :: ⟨[9], [], [10], [(.slot 29)]⟩ :: ⟨[10, 4], [], [11], [(.slot 30)]⟩ :: ⟨[10, 11], [], [12], [(.slot 31)]⟩ :: ⟨[10, 12], [], [13], [(.slot 32)]⟩ :: ⟨[13], [], [14], [(.slot 33)]⟩ :: ⟨[14, 1], [], [15], [(.slot 34)]⟩ :: ⟨[14, 15, 1], [], [16], [(.slot 35)]⟩ :: ⟨[14, 16], [], [17], [(.slot 36)]⟩ :: ⟨[14, 17], [], [18], [(.slot 37)]⟩ :: ⟨[18], [], [19], [(.slot 38)]⟩ :: ⟨[19, 1], [], [20], [(.slot 39)]⟩ :: ⟨[19, 20, 1], [], [21], [(.slot 40)]⟩ :: ⟨[19, 21, 1], [], [22], [(.slot 41)]⟩ :: ⟨[19, 22], [], [23], [(.slot 42)]⟩ :: ⟨[23], [], [24], [(.slot 43)]⟩ :: ⟨[24], [], [25], [(.slot 44)]⟩ :: ⟨[24], [], [26], [(.slot 45)]⟩ :: ⟨[24], [], [27], [(.slot 46)]⟩ :: ⟨[27], [], [28], [(.slot 47)]⟩ :: ⟨[28], [], [29], [(.slot 48)]⟩ :: ⟨[28], [], [30], [(.slot 49)]⟩ :: ⟨[30], [], [31], [(.slot 50)]⟩ :: ⟨[31], [], [32], [(.slot 51)]⟩ :: ⟨[31], [], [33], [(.slot 52)]⟩ :: ⟨[31], [], [34], [(.slot 53)]⟩ :: ⟨[34], [], [35], [(.slot 54)]⟩ :: ⟨[35], [], [36], [(.slot 55)]⟩ :: ⟨[35], [], [37], [(.slot 56)]⟩ :: ⟨[35], [], [38], [(.slot 57)]⟩ :: ⟨[38], [], [39], [(.slot 0)]⟩ :: [])) (es' := [(_, _), (0, .v (.bool false))]) (by kernel_rfl) rfl rfl
        ⟨st_plain rfl (op_move _ _ _ _ rfl rfl),
        st_plain rfl (op_bin _ _ _ _ _ rfl rfl rfl),
        st_plain rfl (op_move _ _ _ _ (congrArg (fun b => AV.v (Value.bool b)) hg5_2) rfl),
        st_run 2 29 true rfl rfl rfl (List.Mem.head _) (op_move _ _ _ _ rfl rfl),
        st_run 2 29 true rfl rfl rfl (List.Mem.head _) (op_bin _ _ _ _ _ rfl rfl rfl),
        st_plain rfl (op_pick _ _ true _ rfl rfl),
        st_plain rfl (op_move _ _ _ _ (congrArg (fun b => AV.v (Value.bool b)) hg5_6) rfl),
        st_run 6 33 true rfl rfl rfl (List.Mem.head _) (op_fieldAddr _ _ _ _ 1 0 _ Tryd.underlying26 rfl sz3 rfl rfl (by decide)),
        st_run 6 33 true rfl rfl rfl (List.Mem.head _) (op_load _ _ _ _ _ _ Tryd.underlying3 rfl rfl rfl (Nat.le_of_ble_eq_true rfl) rfl rfl rfl),
        st_run 6 33 true rfl rfl rfl (List.Mem.head _) (op_bin _ _ _ _ _ rfl rfl rfl),
        st_plain rfl (op_pick _ _ true _ rfl rfl),
        st_plain rfl (op_move _ _ _ _ (congrArg (fun b => AV.v (Value.bool b)) hg5_11) rfl),
        st_run 11 38 true rfl rfl rfl (List.Mem.head _) (op_fieldAddr _ _ _ _ 1 0 _ Tryd.underlying26 rfl sz23 rfl rfl (by decide)),
        st_run 11 38 true rfl rfl rfl (List.Mem.head _) (op_fieldAddr _ _ _ _ 1 2 _ Tryd.underlying23 rfl sz4 rfl rfl (by decide)),
        st_run 11 38 true rfl rfl rfl (List.Mem.head _) (op_load _ _ _ _ _ _ Tryd.underlying4 rfl rfl rfl (Nat.le_of_ble_eq_true rfl) rfl rfl rfl),
        st_plain rfl (op_pick _ _ true _ rfl rfl),
        st_plain rfl (op_move _ _ _ _ (congrArg (fun b => AV.v (Value.bool b)) hg5_16) rfl),
        st_skip 16 43 _ true rfl rfl rfl rfl (List.Mem.head _),
        st_skip 16 43 _ true rfl rfl rfl rfl (List.Mem.head _),
        st_plain rfl (op_pick _ _ false _ rfl rfl),
        st_plain rfl (op_move _ _ _ _ rfl rfl),
        st_skip 20 47 _ true rfl rfl rfl rfl (List.Mem.head _),
        st_plain rfl (op_pick _ _ false _ rfl rfl),
        st_plain rfl (op_move _ _ _ _ rfl rfl),
        st_skip 23 50 _ true rfl rfl rfl rfl (List.Mem.head _),
        st_skip 23 50 _ true rfl rfl rfl rfl (List.Mem.head _),
        st_plain rfl (op_pick _ _ false _ rfl rfl),
        st_plain rfl (op_move _ _ _ _ rfl rfl),
        st_skip 27 54 _ true rfl rfl rfl rfl (List.Mem.head _),
        st_skip 27 54 _ true rfl rfl rfl rfl (List.Mem.head _),
        st_plain rfl (op_pick _ _ false _ rfl rfl),
        st_plain rfl (op_assign _ _ _ _ rfl rfl),
        trivial⟩ ?_
       exact hl7 _ (Option.some.inj h).symm
     ·refine ht_seqR hn (El := (_ :: _ :: _ :: _ :: _ :: _ :: _ :: _ :: (27, .v (.int .i64 v1.2)) :: (28, .v (.bool (v1.2 == 0))) :: (29, .v (.bool true)) :: (30, .v (.int .i64 v2.2)) :: (31, .v (.bool (v2.2 == 0))) :: (32, .v (.bool (v2.2 == 0))) :: (33, .v (.bool true)) :: (34, .ptr 1 0) :: (35, .v (.int .i64 v1.1.Kind)) :: (36, .v (.bool (v1.1.Kind == 2))) :: (37, .v (.bool (v1.1.Kind == 2))) :: (38, .v (.bool false)) :: (39, .v undef) :: (40, .v undef) :: (41, .v undef) :: (42, .v (.bool false)) :: (43, .v (.bool false)) :: (44, .v undef) :: (45, .v undef) :: (46, .v (.bool false)) :: (47, .v (.bool false)) :: (48, .v undef) :: (49, .v (.bool false)) :: (50, .v (.bool false)) :: (51, .v undef) :: (52, .v undef) :: (53, .v (.bool false)) :: (54, .v (.bool false)) :: (55, .v undef) :: (56, .v undef) :: (57, .v (.bool false)) :: (0, .v (.bool false)) :: [])) (init := [0, 1, 2, 3, 4, 5, 6, 7]) (fin := [0, 39]) (sps := (⟨[2], [], [8], [(.slot 27)]⟩ :: ⟨[8], [], [9], [(.slot 28)]⟩ :: ⟨[9], [], [10], [(.slot 29)]⟩ :: ⟨[10, 4], [], [11], [(.slot 30)]⟩ :: ⟨[10, 11], [], [12], [(.slot 31)]⟩ :: ⟨[10, 12], [], [13], [(.slot 32)]⟩ :: ⟨[13], [], [14], [(.slot 33)]⟩ :: ⟨[14, 1], [], [15], [(.slot 34)]⟩ :: ⟨[14, 15, 1], [], [16], [(.slot 35)]⟩ :: ⟨[14, 16], [], [17], [(.slot 36)]⟩ :: ⟨[14, 17], [], [18], [(.slot 37)]⟩ :: ⟨[18], [], [19], [(.slot 38)]⟩ :: ⟨[19], [], [20], [(.slot 39)]⟩ :: ⟨[19], [], [21], [(.slot 40)]⟩ :: ⟨[19], [], [22], [(.slot 41)]⟩ :: ⟨[19], [], [23], [(.slot 42)]⟩ :: ⟨[23], [], [24], [(.slot 43)]⟩ :: ⟨[24], [], [25], [(.slot 44)]⟩ :: ⟨[24], [], [26], [(.slot 45)]⟩ :: ⟨[24], [], [27], [(.slot 46)]⟩ :: ⟨[27], [], [28], [(.slot 47)]⟩ :: ⟨[28], [], [29], [(.slot 48)]⟩ :: ⟨[28], [], [30], [(.slot 49)]⟩ :: ⟨[30], [], [31], [(.slot 50)]⟩ :: ⟨[31], [], [32], [(.slot 51)]⟩ :: ⟨[31], [], [33], [(.slot 52)]⟩ :: ⟨[31], [], [34], [(.slot 53)]⟩ :: ⟨[34], [], [35], [(.slot 54)]⟩ :: ⟨[35], [], [36], [(.slot 55)]⟩ :: ⟨[35], [], [37], [(.slot 56)]⟩ :: ⟨[35], [], [38], [(.slot 57)]⟩ :: ⟨[38], [], [39], [(.slot 0)]⟩ :: [])) (es' := [(_, _), (0, .v (.bool false))]) (by kernel_rfl) rfl rfl
       ⟨st_plain rfl (op_move _ _ _ _ rfl rfl),
       st_plain rfl (op_bin _ _ _ _ _ rfl rfl rfl),
       st_plain rfl (op_move _ _ _ _ (congrArg (fun b => AV.v (Value.bool b)) hg5_2) rfl),
       st_run 2 29 true rfl rfl rfl (List.Mem.head _) (op_move _ _ _ _ rfl rfl),
       st_run 2 29 true rfl rfl rfl (List.Mem.head _) (op_bin _ _ _ _ _ rfl rfl rfl),
       st_plain rfl (op_pick _ _ true _ rfl rfl),
       st_plain rfl (op_move _ _ _ _ (congrArg (fun b => AV.v (Value.bool b)) hg5_6) rfl),
       st_run 6 33 true rfl rfl rfl (List.Mem.head _) (op_fieldAddr _ _ _ _ 1 0 _ Tryd.underlying26 rfl sz3 rfl rfl (by decide)),
       st_run 6 33 true rfl rfl rfl (List.Mem.head _) (op_load _ _ _ _ _ _ Tryd.underlying3 rfl rfl rfl (Nat.le_of_ble_eq_true rfl) rfl rfl rfl),
       st_run 6 33 true rfl rfl rfl (List.Mem.head _) (op_bin _ _ _ _ _ rfl rfl rfl),
       st_plain rfl (op_pick _ _ true _ rfl rfl),
       st_plain rfl (op_move _ _ _ _ (congrArg (fun b => AV.v (Value.bool b)) hg5_11) rfl),
       st_skip 11 38 _ true rfl rfl rfl rfl (List.Mem.head _),
       st_skip 11 38 _ true rfl rfl rfl rfl (List.Mem.head _),
       st_skip 11 38 _ true rfl rfl rfl rfl (List.Mem.head _),
       st_plain rfl (op_pick _ _ false _ rfl rfl),
       st_plain rfl (op_move _ _ _ _ rfl rfl),
       st_skip 16 43 _ true rfl rfl rfl rfl (List.Mem.head _),
       st_skip 16 43 _ true rfl rfl rfl rfl (List.Mem.head _),
       st_plain rfl (op_pick _ _ false _ rfl rfl),
       st_plain rfl (op_move _ _ _ _ rfl rfl),
       st_skip 20 47 _ true rfl rfl rfl rfl (List.Mem.head _),
       st_plain rfl (op_pick _ _ false _ rfl rfl),
       st_plain rfl (op_move _ _ _ _ rfl rfl),
       st_skip 23 50 _ true rfl rfl rfl rfl (List.Mem.head _),
       st_skip 23 50 _ true rfl rfl rfl rfl (List.Mem.head _),
       st_plain rfl (op_pick _ _ false _ rfl rfl),
       st_plain rfl (op_move _ _ _ _ rfl rfl),
       st_skip 27 54 _ true rfl rfl rfl rfl (List.Mem.head _),
       st_skip 27 54 _ true rfl rfl rfl rfl (List.Mem.head _),
       st_plain rfl (op_pick _ _ false _ rfl rfl),
       st_plain rfl (op_assign _ _ _ _ rfl rfl),
       trivial⟩ ?_
      exact hl7 _ (Option.some.inj h).symm
    ·refine ht_seqR hn (El := (_ :: _ :: _ :: _ :: _ :: _ :: _ :: _ :: (27, .v (.int .i64 v1.2)) :: (28, .v (.bool (v1.2 == 0))) :: (29, .v (.bool true)) :: (30, .v (.int .i64 v2.2)) :: (31, .v (.bool (v2.2 == 0))) :: (32, .v (.bool (v2.2 == 0))) :: (33, .v (.bool false)) :: (34, .v undef) :: (35, .v undef) :: (36, .v undef) :: (37, .v (.bool false)) :: (38, .v (.bool false)) :: (39, .v undef) :: (40, .v undef) :: (41, .v undef) :: (42, .v (.bool false)) :: (43, .v (.bool false)) :: (44, .v undef) :: (45, .v undef) :: (46, .v (.bool false)) :: (47, .v (.bool false)) :: (48, .v undef) :: (49, .v (.bool false)) :: (50, .v (.bool false)) :: (51, .v undef) :: (52, .v undef) :: (53, .v (.bool false)) :: (54, .v (.bool false)) :: (55, .v undef) :: (56, .v undef) :: (57, .v (.bool false)) :: (0, .v (.bool false)) :: [])) (init := [0, 1, 2, 3, 4, 5, 6, 7]) (fin := [0, 39]) (sps := (⟨[2], [], [8], [(.slot 27)]⟩ :: ⟨[8], [], [9], [(.slot 28)]⟩ :: ⟨[9], [], [10], [(.slot 29)]⟩ :: ⟨[10, 4], [], [11], [(.slot 30)]⟩ :: ⟨[10, 11], [], [12], [(.slot 31)]⟩ :: ⟨[10, 12], [], [13], [(.slot 32)]⟩ :: ⟨[13], [], [14], [(.slot 33)]⟩ :: ⟨[14], [], [15], [(.slot 34)]⟩ :: ⟨[14], [], [16], [(.slot 35)]⟩ :: ⟨[14], [], [17], [(.slot 36)]⟩ :: ⟨[14], [], [18], [(.slot 37)]⟩ :: ⟨[18], [], [19], [(.slot 38)]⟩ :: ⟨[19], [], [20], [(.slot 39)]⟩ :: ⟨[19], [], [21], [(.slot 40)]⟩ :: ⟨[19], [], [22], [(.slot 41)]⟩ :: ⟨[19], [], [23], [(.slot 42)]⟩ :: ⟨[23], [], [24], [(.slot 43)]⟩ :: ⟨[24], [], [25], [(.slot 44)]⟩ :: ⟨[24], [], [26], [(.slot 45)]⟩ :: ⟨[24], [], [27], [(.slot 46)]⟩ :: ⟨[27], [], [28], [(.slot 47)]⟩ :: ⟨[28], [], [29], [(.slot 48)]⟩ :: ⟨[28], [], [30], [(.slot 49)]⟩ :: ⟨[30], [], [31], [(.slot 50)]⟩ :: ⟨[31], [], [32], [(.slot 51)]⟩ :: ⟨[31], [], [33], [(.slot 52)]⟩ :: ⟨[31], [], [34], [(.slot 53)]⟩ :: ⟨[34], [], [35], [(.slot 54)]⟩ :: ⟨[35], [], [36], [(.slot 55)]⟩ :: ⟨[35], [], [37], [(.slot 56)]⟩ :: ⟨[35], [], [38], [(.slot 57)]⟩ :: ⟨[38], [], [39], [(.slot 0)]⟩ :: [])) (es' := [(_, _), (0, .v (.bool false))]) (by kernel_rfl) rfl rfl
      ⟨st_plain rfl (op_move _ _ _ _ rfl rfl),
      st_plain rfl (op_bin _ _ _ _ _ rfl rfl rfl),
      st_plain rfl (op_move _ _ _ _ (congrArg (fun b => AV.v (Value.bool b)) hg5_2) rfl),
      st_run 2 29 true rfl rfl rfl (List.Mem.head _) (op_move _ _ _ _ rfl rfl),
      st_run 2 29 true rfl rfl rfl (List.Mem.head _) (op_bin _ _ _ _ _ rfl rfl rfl),
      st_plain rfl (op_pick _ _ true _ rfl rfl),
      st_plain rfl (op_move _ _ _ _ (congrArg (fun b => AV.v (Value.bool b)) hg5_6) rfl),
      st_skip 6 33 _ true rfl rfl rfl rfl (List.Mem.head _),
      st_skip 6 33 _ true rfl rfl rfl rfl (List.Mem.head _),
      st_skip 6 33 _ true rfl rfl rfl rfl (List.Mem.head _),
      st_plain rfl (op_pick _ _ false _ rfl rfl),
      st_plain rfl (op_move _ _ _ _ rfl rfl),
      st_skip 11 38 _ true rfl rfl rfl rfl (List.Mem.head _),
      st_skip 11 38 _ true rfl rfl rfl rfl (List.Mem.head _),
      st_skip 11 38 _ true rfl rfl rfl rfl (List.Mem.head _),
      st_plain rfl (op_pick _ _ false _ rfl rfl),
      st_plain rfl (op_move _ _ _ _ rfl rfl),
      st_skip 16 43 _ true rfl rfl rfl rfl (List.Mem.head _),
      st_skip 16 43 _ true rfl rfl rfl rfl (List.Mem.head _),
      st_plain rfl (op_pick _ _ false _ rfl rfl),
      st_plain rfl (op_move _ _ _ _ rfl rfl),
      st_skip 20 47 _ true rfl rfl rfl rfl (List.Mem.head _),
      st_plain rfl (op_pick _ _ false _ rfl rfl),
      st_plain rfl (op_move _ _ _ _ rfl rfl),
      st_skip 23 50 _ true rfl rfl rfl rfl (List.Mem.head _),
      st_skip 23 50 _ true rfl rfl rfl rfl (List.Mem.head _),
      st_plain rfl (op_pick _ _ false _ rfl rfl),
      st_plain rfl (op_move _ _ _ _ rfl rfl),
      st_skip 27 54 _ true rfl rfl rfl rfl (List.Mem.head _),
      st_skip 27 54 _ true rfl rfl rfl rfl (List.Mem.head _),
      st_plain rfl (op_pick _ _ false _ rfl rfl),
      st_plain rfl (op_assign _ _ _ _ rfl rfl),
      trivial⟩ ?_
     exact hl7 _ (Option.some.inj h).symm
   ·refine ht_seqR hn (El := (_ :: _ :: _ :: _ :: _ :: _ :: _ :: _ :: (27, .v (.int .i64 v1.2)) :: (28, .v (.bool (v1.2 == 0))) :: (29, .v (.bool false)) :: (30, .v undef) :: (31, .v undef) :: (32, .v (.bool false)) :: (33, .v (.bool false)) :: (34, .v undef) :: (35, .v undef) :: (36, .v undef) :: (37, .v (.bool false)) :: (38, .v (.bool false)) :: (39, .v undef) :: (40, .v undef) :: (41, .v undef) :: (42, .v (.bool false)) :: (43, .v (.bool false)) :: (44, .v undef) :: (45, .v undef) :: (46, .v (.bool false)) :: (47, .v (.bool false)) :: (48, .v undef) :: (49, .v (.bool false)) :: (50, .v (.bool false)) :: (51, .v undef) :: (52, .v undef) :: (53, .v (.bool false)) :: (54, .v (.bool false)) :: (55, .v undef) :: (56, .v undef) :: (57, .v (.bool false)) :: (0, .v (.bool false)) :: [])) (init := [0, 1, 2, 3, 4, 5, 6, 7]) (fin := [0, 39]) (sps := (⟨[2], [], [8], [(.slot 27)]⟩ :: ⟨[8], [], [9], [(.slot 28)]⟩ :: ⟨[9], [], [10], [(.slot 29)]⟩ :: ⟨[10], [], [11], [(.slot 30)]⟩ :: ⟨[10], [], [12], [(.slot 31)]⟩ :: ⟨[10], [], [13], [(.slot 32)]⟩ :: ⟨[13], [], [14], [(.slot 33)]⟩ :: ⟨[14], [], [15], [(.slot 34)]⟩ :: ⟨[14], [], [16], [(.slot 35)]⟩ :: ⟨[14], [], [17], [(.slot 36)]⟩ :: ⟨[14], [], [18], [(.slot 37)]⟩ :: ⟨[18], [], [19], [(.slot 38)]⟩ :: ⟨[19], [], [20], [(.slot 39)]⟩ :: ⟨[19], [], [21], [(.slot 40)]⟩ :: ⟨[19], [], [22], [(.slot 41)]⟩ :: ⟨[19], [], [23], [(.slot 42)]⟩ :: ⟨[23], [], [24], [(.slot 43)]⟩ :: ⟨[24], [], [25], [(.slot 44)]⟩ :: ⟨[24], [], [26], [(.slot 45)]⟩ :: ⟨[24], [], [27], [(.slot 46)]⟩ :: ⟨[27], [], [28], [(.slot 47)]⟩ :: ⟨[28], [], [29], [(.slot 48)]⟩ :: ⟨[28], [], [30], [(.slot 49)]⟩ :: ⟨[30], [], [31], [(.slot 50)]⟩ :: ⟨[31], [], [32], [(.slot 51)]⟩ :: ⟨[31], [], [33], [(.slot 52)]⟩ :: ⟨[31], [], [34], [(.slot 53)]⟩ :: ⟨[34], [], [35], [(.slot 54)]⟩ :: ⟨[35], [], [36], [(.slot 55)]⟩ :: ⟨[35], [], [37], [(.slot 56)]⟩ :: ⟨[35], [], [38], [(.slot 57)]⟩ :: ⟨[38], [], [39], [(.slot 0)]⟩ :: [])) (es' := [(_, _), (0, .v (.bool false))]) (by kernel_rfl) rfl rfl
     ⟨st_plain rfl (op_move _ _ _ _ rfl rfl),
     st_plain rfl (op_bin _ _ _ _ _ rfl rfl rfl),
     st_plain rfl (op_move _ _ _ _ (congrArg (fun b => AV.v (Value.bool b)) hg5_2) rfl),
     st_skip 2 29 _ true rfl rfl rfl rfl (List.Mem.head _),
     st_skip 2 29 _ true rfl rfl rfl rfl (List.Mem.head _),
     st_plain rfl (op_pick _ _ false _ rfl rfl),
     st_plain rfl (op_move _ _ _ _ rfl rfl),
     st_skip 6 33 _ true rfl rfl rfl rfl (List.Mem.head _),
     st_skip 6 33 _ true rfl rfl rfl rfl (List.Mem.head _),
     st_skip 6 33 _ true rfl rfl rfl rfl (List.Mem.head _),
     st_plain rfl (op_pick _ _ false _ rfl rfl),
     st_plain rfl (op_move _ _ _ _ rfl rfl),
     st_skip 11 38 _ true rfl rfl rfl rfl (List.Mem.head _),
     st_skip 11 38 _ true rfl rfl rfl rfl (List.Mem.head _),
     st_skip 11 38 _ true rfl rfl rfl rfl (List.Mem.head _),
     st_plain rfl (op_pick _ _ false _ rfl rfl),
     st_plain rfl (op_move _ _ _ _ rfl rfl),
     st_skip 16 43 _ true rfl rfl rfl rfl (List.Mem.head _),
     st_skip 16 43 _ true rfl rfl rfl rfl (List.Mem.head _),
     st_plain rfl (op_pick _ _ false _ rfl rfl),
     st_plain rfl (op_move _ _ _ _ rfl rfl),
     st_skip 20 47 _ true rfl rfl rfl rfl (List.Mem.head _),
     st_plain rfl (op_pick _ _ false _ rfl rfl),
     st_plain rfl (op_move _ _ _ _ rfl rfl),
     st_skip 23 50 _ true rfl rfl rfl rfl (List.Mem.head _),
     st_skip 23 50 _ true rfl rfl rfl rfl (List.Mem.head _),
     st_plain rfl (op_pick _ _ false _ rfl rfl),
     st_plain rfl (op_move _ _ _ _ rfl rfl),
     st_skip 27 54 _ true rfl rfl rfl rfl (List.Mem.head _),
     st_skip 27 54 _ true rfl rfl rfl rfl (List.Mem.head _),
     st_plain rfl (op_pick _ _ false _ rfl rfl),
     st_plain rfl (op_assign _ _ _ _ rfl rfl),
     trivial⟩ ?_
    exact hl7 _ (Option.some.inj h).symm
set_option maxHeartbeats 1000000 in
theorem ok_wherrylaw12_heavy (c : T_Cmd) (r : Bool) (h : Sh.wherrylaw12_heavy c = some r) : FnOK Tryd.prog 8 [.agg [.v (.int .i64 c.Kind), .v (.string c.Text), .v (.bool c.Path.Null), .v (.string c.Path.Local), .v (.string c.Path.Domain), .fl .shr 2 (List.flatten (List.map T_Param.enc c.Params))]] (.v (.bool r)) := by
  unfold Sh.wherrylaw12_heavy at h
  refine fn_ok Tryd.func8 rfl (Nat.le_of_ble_eq_true rfl) rfl rfl fun g0 hn hio => ?_
  refine ht_seq ?_
  refine ht_seqR hn (El := [_, (1, .box 26 [.v (.int .i64 c.Kind), .v (.string c.Text), .v (.bool c.Path.Null), .v (.string c.Path.Local), .v (.string c.Path.Domain), .fl .shr 2 (List.flatten (List.map T_Param.enc c.Params))]), (2, .v (.bool false))]) (init := [0]) (fin := [1]) (sps := [⟨[0], [], [1], [(.slot 1)]⟩, ⟨[], [], [2], [(.slot 2)]⟩]) (es' := [(1, .box 26 [.v (.int .i64 c.Kind), .v (.string c.Text), .v (.bool c.Path.Null), .v (.string c.Path.Local), .v (.string c.Path.Domain), .fl .shr 2 (List.flatten (List.map T_Param.enc c.Params))])]) (by kernel_rfl) rfl rfl
   ⟨st_plain rfl (op_box _ _ _ _ rfl rfl rfl),
   st_plain rfl (op_assign _ _ _ _ rfl rfl),
   trivial⟩ ?_
  refine pt_then ?_
  refine ht_seq ?_
  obtain ⟨v1, hv1, h⟩ := bind_some h
  obtain ⟨v2, hv2, h⟩ := bind_some h
  refine ht_seqR hn (El := (_ :: (5, .ptr 1 1) :: (6, .v (.string c.Text)) :: (7, .v (.int .i64 (c.Text.size : Int))) :: (8, .ptr 1 2) :: (9, .ptr 1 3) :: (10, .v (.string c.Path.Local)) :: (11, .v (.int .i64 (c.Path.Local.size : Int))) :: (12, .v (.int .i64 v1)) :: (13, .ptr 1 2) :: (14, .ptr 1 4) :: (15, .v (.string c.Path.Domain)) :: (16, .v (.int .i64 (c.Path.Domain.size : Int))) :: (17, .v (.int .i64 v2)) :: (3, .v (.int .i64 v2)) :: [])) (init := [0]) (fin := [0, 14]) (sps := [⟨[0], [], [1], [(.slot 5)]⟩, ⟨[1, 0], [], [2], [(.slot 6)]⟩, ⟨[2], [], [3], [(.slot 7)]⟩, ⟨[0], [], [4], [(.slot 8)]⟩, ⟨[4, 0], [], [5], [(.slot 9)]⟩, ⟨[5, 0], [], [6], [(.slot 10)]⟩, ⟨[6], [], [7], [(.slot 11)]⟩, ⟨[3, 7], [], [8], [(.slot 12)]⟩, ⟨[0], [], [9], [(.slot 13)]⟩, ⟨[9, 0], [], [10], [(.slot 14)]⟩, ⟨[10, 0], [], [11], [(.slot 15)]⟩, ⟨[11], [], [12], [(.slot 16)]⟩, ⟨[8, 12], [], [13], [(.slot 17)]⟩, ⟨[13], [], [14], [(.slot 3)]⟩]) (es' := [(_, _), (3, .v (.int .i64 v2))]) (by kernel_rfl) rfl rfl
   ⟨st_plain rfl (op_fieldAddr _ _ _ _ 1 0 _ Tryd.underlying26 rfl sz9 rfl rfl (by decide)),
   st_plain rfl (op_load _ _ _ _ _ _ Tryd.underlying9 rfl rfl rfl (Nat.le_of_ble_eq_true rfl) rfl rfl rfl),
   st_plain rfl (op_len_str _ _ _ Tryd.underlying9 rfl),
   st_plain rfl (op_fieldAddr _ _ _ _ 1 0 _ Tryd.underlying26 rfl sz23 rfl rfl (by decide)),
   st_plain rfl (op_fieldAddr _ _ _ _ 1 2 _ Tryd.underlying23 rfl sz9 rfl rfl (by decide)),
   st_plain rfl (op_load _ _ _ _ _ _ Tryd.underlying9 rfl rfl rfl (Nat.le_of_ble_eq_true rfl) rfl rfl rfl),
   st_plain rfl (op_len_str _ _ _ Tryd.underlying9 rfl),
   st_plain rfl (op_bin _ _ _ _ _ rfl rfl (ibind (f := Value.int .i64) (Option.some.inj hv1))),
   st_plain rfl (op_fieldAddr _ _ _ _ 1 0 _ Tryd.underlying26 rfl sz23 rfl rfl (by decide)),
   st_plain rfl (op_fieldAddr _ _ _ _ 1 2 _ Tryd.underlying23 rfl sz9 rfl rfl (by decide)),
   st_plain rfl (op_load _ _ _ _ _ _ Tryd.underlying9 rfl rfl rfl (Nat.le_of_ble_eq_true rfl) rfl rfl rfl),
   st_plain rfl (op_len_str _ _ _ Tryd.underlying9 rfl),
   st_plain rfl (op_bin _ _ _ _ _ rfl rfl (ibind (f := Value.int .i64) (Option.some.inj hv2))),
   st_plain rfl (op_assign _ _ _ _ rfl rfl),
   trivial⟩ ?_
  refine pt_then ?_
  refine ht_seq ?_
  refine ht_seq ?_
  refine ht_seqR hn (El := [_, _, (4, .v (.int .i64 0))]) (init := [0, 1]) (fin := [0, 1, 2]) (sps := [⟨[], [], [2], [(.slot 4)]⟩]) (es' := [(_, _), (_, _), (4, .v (.int .i64 0))]) (by kernel_rfl) rfl rfl
   ⟨st_plain rfl (op_assign _ _ _ _ rfl rfl),
   trivial⟩ ?_
  refine pt_then ?_
  refine ht_loopS h (fun ((s14, s15) : Int × Int) => [(1, .box 26 [.v (.int .i64 c.Kind), .v (.string c.Text), .v (.bool c.Path.Null), .v (.string c.Path.Local), .v (.string c.Path.Domain), .fl .shr 2 (List.flatten (List.map T_Param.enc c.Params))]), (3, .v (.int .i64 s14)), (4, .v (.int .i64 s15))]) (fun (s17 : Int) => [(1, .box 26 [.v (.int .i64 c.Kind), .v (.string c.Text), .v (.bool c.Path.Null), .v (.string c.Path.Local), .v (.string c.Path.Domain), .fl .shr 2 (List.flatten (List.map T_Param.enc c.Params))]), (3, .v (.int .i64 s17))]) ?_ ?_
  ·rintro s17 h
   refine pt_then ?_
   refine ht_seq ?_
   refine ht_joinS h (fun (s25 : Bool) => [(2, .v (.bool s25))]) ?_ ?_
   ·rintro s25 h
    refine pt_then ?_
    refine ht_ret ?_
    obtain rfl := Option.some.inj h
    exact pt_ret hio rfl (.tmp _ _ .nil) rfl rfl
   ·intro u26 h hl27 hr28
    refine cond_some h (fun hg6_2 h => ?_) (fun hg6_2 h => ?_)
    ·refine ht_seqR hn (El := [_, _, (42, .v (.int .i64 s17)), (43, .v (.bool ((decide (3000 < s17))))), (44, .v (.bool true)), (45, .v undef), (46, .v undef), (47, .v undef), (48, .v undef), (49, .v (.bool true)), (2, .v (.bool true))]) (init := [0, 1]) (fin := [10]) (sps := [⟨[1], [], [2], [(.slot 42)]⟩, ⟨[2], [], [3], [(.slot 43)]⟩, ⟨[3], [], [4], [(.slot 44)]⟩, ⟨[4], [], [5], [(.slot 45)]⟩, ⟨[4], [], [6], [(.slot 46)]⟩, ⟨[4], [], [7], [(.slot 47)]⟩, ⟨[4], [], [8], [(.slot 48)]⟩, ⟨[4], [], [9], [(.slot 49)]⟩, ⟨[9], [], [10], [(.slot 2)]⟩]) (es' := [(2, .v (.bool true))]) (by kernel_rfl) rfl rfl
      ⟨st_plain rfl (op_move _ _ _ _ rfl rfl),
      st_plain rfl (op_bin _ _ _ _ _ rfl rfl rfl),
      st_plain rfl (op_move _ _ _ _ (congrArg (fun b => AV.v (Value.bool b)) hg6_2) rfl),
      st_skip 2 44 _ false rfl rfl rfl rfl (List.Mem.head _),
      st_skip 2 44 _ false rfl rfl rfl rfl (List.Mem.head _),
      st_skip 2 44 _ false rfl rfl rfl rfl (List.Mem.head _),
      st_skip 2 44 _ false rfl rfl rfl rfl (List.Mem.head _),
      st_plain rfl (op_pick _ _ true _ rfl rfl),
      st_plain rfl (op_assign _ _ _ _ rfl rfl),
      trivial⟩ ?_
     exact hl27 _ (Option.some.inj h).symm
    ·refine ht_seqR hn (El := [_, _, (42, .v (.int .i64 s17)), (43, .v (.bool ((decide (3000 < s17))))), (44, .v (.bool false)), (45, .ptr 1 5), (46, .fl .shr 2 (List.flatten (List.map T_Param.enc c.Params))), (47, .v (.int .i64 (c.Params.length : Int))), (48, .v (.bool ((decide (20 < (c.Params.length : Int)))))), (49, .v (.bool ((decide (20 < (c.Params.length : Int)))))), (2, .v (.bool ((decide (20 < (c.Params.length : Int))))))]) (init := [0, 1]) (fin := [10]) (sps := [⟨[1], [], [2], [(.slot 42)]⟩, ⟨[2], [], [3], [(.slot 43)]⟩, ⟨[3], [], [4], [(.slot 44)]⟩, ⟨[4, 0], [], [5], [(.slot 45)]⟩, ⟨[4, 5, 0], [], [6], [(.slot 46)]⟩, ⟨[4, 6], [], [7], [(.slot 47)]⟩, ⟨[4, 7], [], [8], [(.slot 48)]⟩, ⟨[4, 8], [], [9], [(.slot 49)]⟩, ⟨[9], [], [10], [(.slot 2)]⟩]) (es' := [(2, .v (.bool ((decide (20 < (c.Params.length : Int))))))]) (by kernel_rfl) rfl rfl
      ⟨st_plain rfl (op_move _ _ _ _ rfl rfl),
      st_plain rfl (op_bin _ _ _ _ _ rfl rfl rfl),
      st_plain rfl (op_move _ _ _ _ (congrArg (fun b => AV.v (Value.bool b)) hg6_2) rfl),
      st_run 2 44 false rfl rfl rfl (List.Mem.head _) (op_fieldAddr _ _ _ _ 1 0 _ Tryd.underlying26 rfl sz24 rfl rfl (by decide)),
      st_run 2 44 false rfl rfl rfl (List.Mem.head _) (op_load _ _ _ _ _ _ Tryd.underlying24 rfl rfl rfl (Nat.le_of_ble_eq_true rfl) rfl rfl rfl),
      st_run 2 44 false rfl rfl rfl (List.Mem.head _) (op_len_fl _ _ _ Tryd.underlying24 rfl (by decide) (flat_len T_Param.len _)),
      st_run 2 44 false rfl rfl rfl (List.Mem.head _) (op_bin _ _ _ _ _ rfl rfl rfl),
      st_plain rfl (op_pick _ _ false _ rfl rfl),
      st_plain rfl (op_assign _ _ _ _ rfl rfl),
      trivial⟩ ?_
     exact hl27 _ (Option.some.inj h).symm
  ·rintro u18 hl19 hr20 ⟨s14, s15⟩ rr23 h ho21
   refine ht_seq ?_
   refine ht_seq ?_
   refine ht_seqR hn (El := [_, _, _, (18, .v (.int .i64 s15)), (19, .ptr 1 5), (20, .fl .shr 2 (List.flatten (List.map T_Param.enc c.Params))), (21, .v (.int .i64 (c.Params.length : Int))), (22, .v (.bool ((decide (s15 < (c.Params.length : Int))))))]) (init := [0, 1, 2]) (fin := [0, 1, 2, 7]) (sps := [⟨[2], [], [3], [(.slot 18)]⟩, ⟨[0], [], [4], [(.slot 19)]⟩, ⟨[4, 0], [], [5], [(.slot 20)]⟩, ⟨[5], [], [6], [(.slot 21)]⟩, ⟨[3, 6], [], [7], [(.slot 22)]⟩]) (es' := [(_, _), (_, _), (_, _), (22, .v (.bool ((decide (s15 < (c.Params.length : Int))))))]) (by kernel_rfl) rfl rfl
    ⟨st_plain rfl (op_move _ _ _ _ rfl rfl),
    st_plain rfl (op_fieldAddr _ _ _ _ 1 0 _ Tryd.underlying26 rfl sz24 rfl rfl (by decide)),
    st_plain rfl (op_load _ _ _ _ _ _ Tryd.underlying24 rfl rfl rfl (Nat.le_of_ble_eq_true rfl) rfl rfl rfl),
    st_plain rfl (op_len_fl _ _ _ Tryd.underlying24 rfl (by decide) (flat_len T_Param.len _)),
    st_plain rfl (op_bin _ _ _ _ _ rfl rfl rfl),
    trivial⟩ ?_
   refine pt_then ?_
   refine ht_cond _ rfl (fun hb24 => ?_) (fun hb24 => ?_)
   ·have h := cond_t hb24 h
    refine ht_skip ?_
    refine pt_then ?_
    refine ht_seq ?_
    refine ht_block ?_
    obtain ⟨v4, hv4, h⟩ := bind_some h
    obtain ⟨v5, hv5, h⟩ := bind_some h
    obtain ⟨v6, hv6, h⟩ := bind_some h
    obtain ⟨v7, hv7, h⟩ := bind_some h
    obtain ⟨v8, hv8, h⟩ := bind_some h
    obtain ⟨v9, hv9, h⟩ := bind_some h
    refine ht_anyR (by kernel_rfl) hn (El := (_ :: _ :: _ :: _ :: (25, .v (.int .i64 s14)) :: (26, .ptr 1 5) :: (27, .fl .shr 2 (List.flatten (List.map T_Param.enc c.Params))) :: (28, .v (.int .i64 s15)) :: (29, .eref (.slot 27) (v4 * 2)) :: (30, .eref (.slot 27) (v4 * 2 + 0)) :: (31, .v (.string v5.Key)) :: (32, .v (.int .i64 (v5.Key.size : Int))) :: (33, .v (.int .i64 v6)) :: (34, .ptr 1 5) :: (35, .fl .shr 2 (List.flatten (List.map T_Param.enc c.Params))) :: (36, .v (.int .i64 s15)) :: (37, .eref (.slot 35) (v7 * 2)) :: (38, .eref (.slot 35) (v7 * 2 + 1)) :: (39, .v (.string v8.Val)) :: (40, .v (.int .i64 (v8.Val.size : Int))) :: (41, .v (.int .i64 v9)) :: (3, .v (.int .i64 v9)) :: [])) (init := [0, 1, 2, 3]) (fin := [0, 2, 21]) (sps := (⟨[1], [], [4], [(.slot 25)]⟩ :: ⟨[0], [], [5], [(.slot 26)]⟩ :: ⟨[5, 0], [], [6], [(.slot 27)]⟩ :: ⟨[2], [], [7], [(.slot 28)]⟩ :: ⟨[6, 7], [], [8], [(.slot 29)]⟩ :: ⟨[8, 6], [], [9], [(.slot 30)]⟩ :: ⟨[9, 6], [], [10], [(.slot 31)]⟩ :: ⟨[10], [], [11], [(.slot 32)]⟩ :: ⟨[4, 11], [], [12], [(.slot 33)]⟩ :: ⟨[0], [], [13], [(.slot 34)]⟩ :: ⟨[13, 0], [], [14], [(.slot 35)]⟩ :: ⟨[2], [], [15], [(.slot 36)]⟩ :: ⟨[14, 15], [], [16], [(.slot 37)]⟩ :: ⟨[16, 14], [], [17], [(.slot 38)]⟩ :: ⟨[17, 14], [], [18], [(.slot 39)]⟩ :: ⟨[18], [], [19], [(.slot 40)]⟩ :: ⟨[12, 19], [], [20], [(.slot 41)]⟩ :: ⟨[20], [1], [21], [(.slot 3)]⟩ :: [])) (es' := [(_, _), (_, _), (3, .v (.int .i64 v9))]) (by kernel_rfl) rfl rfl
     ⟨st_plain rfl (op_move _ _ _ _ rfl rfl),
     st_plain rfl (op_fieldAddr _ _ _ _ 1 0 _ Tryd.underlying26 rfl sz24 rfl rfl (by decide)),
     st_plain rfl (op_load _ _ _ _ _ _ Tryd.underlying24 rfl rfl rfl (Nat.le_of_ble_eq_true rfl) rfl rfl rfl),
     st_plain rfl (op_move _ _ _ _ rfl rfl),
     st_plain rfl (op_ix _ _ _ _ _ _ _ _ Tryd.underlying24 sz46 (by decide) rfl rfl rfl (ix_ok hv4).1 (flat_lt T_Param.len (ix_ok hv4).2) rfl),
     st_plain rfl (op_fieldAddr_e _ _ _ _ _ _ _ Tryd.underlying46 rfl sz9 rfl rfl rfl),
     st_plain rfl (op_load_e _ _ _ _ _ _ Tryd.underlying9 rfl rfl rfl (flat_cell T_Param.len hv5 rfl)),
     st_plain rfl (op_len_str _ _ _ Tryd.underlying9 rfl),
     st_plain rfl (op_bin _ _ _ _ _ rfl rfl (ibind (f := Value.int .i64) (Option.some.inj hv6))),
     st_plain rfl (op_fieldAddr _ _ _ _ 1 0 _ Tryd.underlying26 rfl sz24 rfl rfl (by decide)),
     st_plain rfl (op_load _ _ _ _ _ _ Tryd.underlying24 rfl rfl rfl (Nat.le_of_ble_eq_true rfl) rfl rfl rfl),
     st_plain rfl (op_move _ _ _ _ rfl rfl),
     st_plain rfl (op_ix _ _ _ _ _ _ _ _ Tryd.underlying24 sz46 (by decide) rfl rfl rfl (ix_ok hv7).1 (flat_lt T_Param.len (ix_ok hv7).2) rfl),
     st_plain rfl (op_fieldAddr_e _ _ _ _ _ _ _ Tryd.underlying46 rfl sz9 rfl rfl rfl),
     st_plain rfl (op_load_e _ _ _ _ _ _ Tryd.underlying9 rfl rfl rfl (flat_cell T_Param.len hv8 rfl)),
     st_plain rfl (op_len_str _ _ _ Tryd.underlying9 rfl),
     st_plain rfl (op_bin _ _ _ _ _ rfl rfl (ibind (f := Value.int .i64) (Option.some.inj hv9))),
     st_plain rfl (LOp.drop [_] (op_assign _ _ _ _ rfl rfl)),
     trivial⟩ ?_
    refine pt_inb ?_
    refine pt_then ?_
    obtain ⟨v10, hv10, h⟩ := bind_some h
    refine ht_seqR hn (El := [_, _, _, (23, .v (.int .i64 s15)), (24, .v (.int .i64 v10)), (4, .v (.int .i64 v10))]) (init := [0, 1, 2]) (fin := [0, 2, 5]) (sps := [⟨[1], [], [3], [(.slot 23)]⟩, ⟨[3], [], [4], [(.slot 24)]⟩, ⟨[4], [1], [5], [(.slot 4)]⟩]) (es' := [(_, _), (_, _), (4, .v (.int .i64 v10))]) (by kernel_rfl) rfl rfl
     ⟨st_plain rfl (op_move _ _ _ _ rfl rfl),
     st_plain rfl (op_bin _ _ _ _ _ rfl rfl (ibind (f := Value.int .i64) (Option.some.inj hv10))),
     st_plain rfl (LOp.drop [_] (op_assign _ _ _ _ rfl rfl)),
     trivial⟩ ?_
    exact pt_next _ (Option.some.inj h).symm rfl
   ·have h := cond_f hb24 h
    refine ht_exit ?_
    refine pt_x_then ?_
    refine pt_x_then ?_
    refine pt_x_in ?_
    refine pt_pick [0, 1] (by kernel_rfl) (es' := [(_, _), (_, _)]) rfl ?_
    exact hl19 _ (ho21 _ (Option.some.inj h).symm).symm
set_option maxHeartbeats 1000000 in
theorem ok_wherryref11_digit (c : Int) (r : Bool) (h : Sh.wherryref11_digit c = some r) : FnOK Tryd.prog 24 [.v (.int .u8 c)] (.v (.bool r)) := by
  unfold Sh.wherryref11_digit at h
  refine fn_ok Tryd.func24 rfl (Nat.le_of_ble_eq_true rfl) rfl rfl fun g0 hn hio => ?_
  refine ht_seq ?_
  refine ht_seqR hn (El := [_, (2, .v (.bool false))]) (init := [0]) (fin := [0]) (sps := [⟨[], [], [1], [(.slot 2)]⟩]) (es' := [(_, _)]) (by kernel_rfl) rfl rfl
   ⟨st_plain rfl (op_assign _ _ _ _ rfl rfl),
   trivial⟩ ?_
  refine pt_then ?_
  refine ht_seq ?_
  refine ht_joinS h (fun (s1 : Bool) => [(2, .v (.bool s1))]) ?_ ?_
  ·rintro s1 h
   refine pt_then ?_
   refine ht_ret ?_
   obtain rfl := Option.some.inj h
   exact pt_ret hio rfl (.tmp _ _ .nil) rfl rfl
  ·intro u2 h hl3 hr4
   refine cond_some h (fun hg1_2 h => ?_) (fun hg1_2 h => ?_)
   ·refine ht_seqR hn (El := [_, (3, .v (.int .u8 c)), (4, .v (.bool ((decide (48 ≤ c))))), (5, .v (.bool true)), (6, .v (.int .u8 c)), (7, .v (.bool ((decide (c ≤ 57))))), (8, .v (.bool ((decide (c ≤ 57))))), (2, .v (.bool ((decide (c ≤ 57)))))]) (init := [0]) (fin := [7]) (sps := [⟨[0], [], [1], [(.slot 3)]⟩, ⟨[1], [], [2], [(.slot 4)]⟩, ⟨[2], [], [3], [(.slot 5)]⟩, ⟨[3, 0], [], [4], [(.slot 6)]⟩, ⟨[3, 4], [], [5], [(.slot 7)]⟩, ⟨[3, 5], [], [6], [(.slot 8)]⟩, ⟨[6], [], [7], [(.slot 2)]⟩]) (es' := [(2, .v (.bool ((decide (c ≤ 57)))))]) (by kernel_rfl) rfl rfl
     ⟨st_plain rfl (op_move _ _ _ _ rfl rfl),
     st_plain rfl (op_bin _ _ _ _ _ rfl rfl rfl),
     st_plain rfl (op_move _ _ _ _ (congrArg (fun b => AV.v (Value.bool b)) hg1_2) rfl),
     st_run 2 5 true rfl rfl rfl (List.Mem.head _) (op_move _ _ _ _ rfl rfl),
     st_run 2 5 true rfl rfl rfl (List.Mem.head _) (op_bin _ _ _ _ _ rfl rfl rfl),
     st_plain rfl (op_pick _ _ true _ rfl rfl),
     st_plain rfl (op_assign _ _ _ _ rfl rfl),
     trivial⟩ ?_
    exact hl3 _ (Option.some.inj h).symm
   ·refine ht_seqR hn (El := [_, (3, .v (.int .u8 c)), (4, .v (.bool ((decide (48 ≤ c))))), (5, .v (.bool false)), (6, .v undef), (7, .v undef), (8, .v (.bool false)), (2, .v (.bool false))]) (init := [0]) (fin := [7]) (sps := [⟨[0], [], [1], [(.slot 3)]⟩, ⟨[1], [], [2], [(.slot 4)]⟩, ⟨[2], [], [3], [(.slot 5)]⟩, ⟨[3], [], [4], [(.slot 6)]⟩, ⟨[3], [], [5], [(.slot 7)]⟩, ⟨[3], [], [6], [(.slot 8)]⟩, ⟨[6], [], [7], [(.slot 2)]⟩]) (es' := [(2, .v (.bool false))]) (by kernel_rfl) rfl rfl
     ⟨st_plain rfl (op_move _ _ _ _ rfl rfl),
     st_plain rfl (op_bin _ _ _ _ _ rfl rfl rfl),
     st_plain rfl (op_move _ _ _ _ (congrArg (fun b => AV.v (Value.bool b)) hg1_2) rfl),
     st_skip 2 5 _ true rfl rfl rfl rfl (List.Mem.head _),
     st_skip 2 5 _ true rfl rfl rfl rfl (List.Mem.head _),
     st_plain rfl (op_pick _ _ false _ rfl rfl),
     st_plain rfl (op_assign _ _ _ _ rfl rfl),
     trivial⟩ ?_
    exact hl3 _ (Option.some.inj h).symm
set_option maxHeartbeats 1000000 in
theorem ok_wherryref11_in (n : Int) (lo : Int) (hi : Int) (r : Bool) (h : Sh.wherryref11_in n lo hi = some r) : FnOK Tryd.prog 22 [.v (.int .i64 n), .v (.int .i64 lo), .v (.int .i64 hi)] (.v (.bool r)) := by
  unfold Sh.wherryref11_in at h
  refine fn_ok Tryd.func22 rfl (Nat.le_of_ble_eq_true rfl) rfl rfl fun g0 hn hio => ?_
  refine ht_seq ?_
  refine ht_seqR hn (El := [_, _, _, (6, .v (.bool false))]) (init := [0, 1, 2]) (fin := [0, 1, 2]) (sps := [⟨[], [], [3], [(.slot 6)]⟩]) (es' := [(_, _), (_, _), (_, _)]) (by kernel_rfl) rfl rfl
   ⟨st_plain rfl (op_assign _ _ _ _ rfl rfl),
   trivial⟩ ?_
  refine pt_then ?_
  refine ht_seq ?_
  refine ht_joinS h (fun (s1 : Bool) => [(6, .v (.bool s1))]) ?_ ?_
  ·rintro s1 h
   refine pt_then ?_
   refine ht_ret ?_
   obtain rfl := Option.some.inj h
   exact pt_ret hio rfl (.tmp _ _ .nil) rfl rfl
  ·intro u2 h hl3 hr4
   refine cond_some h (fun hg1_3 h => ?_) (fun hg1_3 h => ?_)
   ·refine ht_seqR hn (El := [_, _, _, (7, .v (.int .i64 n)), (8, .v (.int .i64 lo)), (9, .v (.bool ((decide (lo ≤ n))))), (10, .v (.bool true)), (11, .v (.int .i64 n)), (12, .v (.int .i64 hi)), (13, .v (.bool ((decide (n ≤ hi))))), (14, .v (.bool ((decide (n ≤ hi))))), (6, .v (.bool ((decide (n ≤ hi)))))]) (init := [0, 1, 2]) (fin := [11]) (sps := [⟨[0], [], [3], [(.slot 7)]⟩, ⟨[1], [], [4], [(.slot 8)]⟩, ⟨[3, 4], [], [5], [(.slot 9)]⟩, ⟨[5], [], [6], [(.slot 10)]⟩, ⟨[6, 0], [], [7], [(.slot 11)]⟩, ⟨[6, 2], [], [8], [(.slot 12)]⟩, ⟨[6, 7, 8], [], [9], [(.slot 13)]⟩, ⟨[6, 9], [], [10], [(.slot 14)]⟩, ⟨[10], [], [11], [(.slot 6)]⟩]) (es' := [(6, .v (.bool ((decide (n ≤ hi)))))]) (by kernel_rfl) rfl rfl
     ⟨st_plain rfl (op_move _ _ _ _ rfl rfl),
     st_plain rfl (op_move _ _ _ _ rfl rfl),
     st_plain rfl (op_bin _ _ _ _ _ rfl rfl rfl),
     st_plain rfl (op_move _ _ _ _ (congrArg (fun b => AV.v (Value.bool b)) hg1_3) rfl),
     st_run 3 10 true rfl rfl rfl (List.Mem.head _) (op_move _ _ _ _ rfl rfl),
     st_run 3 10 true rfl rfl rfl (List.Mem.head _) (op_move _ _ _ _ rfl rfl),
     st_run 3 10 true rfl rfl rfl (List.Mem.head _) (op_bin _ _ _ _ _ rfl rfl rfl),
     st_plain rfl (op_pick _ _ true _ rfl rfl),
     st_plain rfl (op_assign _ _ _ _ rfl rfl),
     trivial⟩ ?_
    exact hl3 _ (Option.some.inj h).symm
   ·refine ht_seqR hn (El := [_, _, _, (7, .v (.int .i64 n)), (8, .v (.int .i64 lo)), (9, .v (.bool ((decide (lo ≤ n))))), (10, .v (.bool false)), (11, .v undef), (12, .v undef), (13, .v undef), (14, .v (.bool false)), (6, .v (.bool false))]) (init := [0, 1, 2]) (fin := [11]) (sps := [⟨[0], [], [3], [(.slot 7)]⟩, ⟨[1], [], [4], [(.slot 8)]⟩, ⟨[3, 4], [], [5], [(.slot 9)]⟩, ⟨[5], [], [6], [(.slot 10)]⟩, ⟨[6], [], [7], [(.slot 11)]⟩, ⟨[6], [], [8], [(.slot 12)]⟩, ⟨[6], [], [9], [(.slot 13)]⟩, ⟨[6], [], [10], [(.slot 14)]⟩, ⟨[10], [], [11], [(.slot 6)]⟩]) (es' := [(6, .v (.bool false))]) (by kernel_rfl) rfl rfl
     ⟨st_plain rfl (op_move _ _ _ _ rfl rfl),
     st_plain rfl (op_move _ _ _ _ rfl rfl),
     st_plain rfl (op_bin _ _ _ _ _ rfl rfl rfl),
     st_plain rfl (op_move _ _ _ _ (congrArg (fun b => AV.v (Value.bool b)) hg1_3) rfl),
     st_skip 3 10 _ true rfl rfl rfl rfl (List.Mem.head _),
     st_skip 3 10 _ true rfl rfl rfl rfl (List.Mem.head _),
     st_skip 3 10 _ true rfl rfl rfl rfl (List.Mem.head _),
     st_plain rfl (op_pick _ _ false _ rfl rfl),
     st_plain rfl (op_assign _ _ _ _ rfl rfl),
     trivial⟩ ?_
    exact hl3 _ (Option.some.inj h).symm
set_option maxHeartbeats 1000000 in
theorem ok_wherryref11_letter (c : Int) (r : Bool) (h : Sh.wherryref11_letter c = some r) : FnOK Tryd.prog 23 [.v (.int .u8 c)] (.v (.bool r)) := by
  unfold Sh.wherryref11_letter at h
  refine fn_ok Tryd.func23 rfl (Nat.le_of_ble_eq_true rfl) rfl rfl fun g0 hn hio => ?_
  refine ht_seq ?_
  refine ht_seqR hn (El := [_, (2, .v (.bool false))]) (init := [0]) (fin := [0]) (sps := [⟨[], [], [1], [(.slot 2)]⟩]) (es' := [(_, _)]) (by kernel_rfl) rfl rfl
   ⟨st_plain rfl (op_assign _ _ _ _ rfl rfl),
   trivial⟩ ?_
  refine pt_then ?_
  refine ht_seq ?_
  refine ht_joinS h (fun (s1 : Bool) => [(2, .v (.bool s1))]) ?_ ?_
  ·rintro s1 h
   refine pt_then ?_
   refine ht_ret ?_
   obtain rfl := Option.some.inj h
   exact pt_ret hio rfl (.tmp _ _ .nil) rfl rfl
  ·intro u2 h hl3 hr4
   refine cond_some h (fun hg1_2 h => ?_) (fun hg1_2 h => ?_)
   ·refine cond_some h (fun hg1_6 h => ?_) (fun hg1_6 h => ?_)
    ·refine ht_seqR hn (El := (_ :: (3, .v (.int .u8 c)) :: (4, .v (.bool ((decide (97 ≤ c))))) :: (5, .v (.bool true)) :: (6, .v (.int .u8 c)) :: (7, .v (.bool ((decide (c ≤ 122))))) :: (8, .v (.bool ((decide (c ≤ 122))))) :: (9, .v (.bool true)) :: (10, .v undef) :: (11, .v undef) :: (12, .v undef) :: (13, .v undef) :: (14, .v undef) :: (15, .v undef) :: (16, .v (.bool true)) :: (2, .v (.bool true)) :: [])) (init := [0]) (fin := [15]) (sps := (⟨[0], [], [1], [(.slot 3)]⟩ :: ⟨[1], [], [2], [(.slot 4)]⟩ :: ⟨[2], [], [3], [(.slot 5)]⟩ :: ⟨[3, 0], [], [4], [(.slot 6)]⟩ :: ⟨[3, 4], [], [5], [(.slot 7)]⟩ :: ⟨[3, 5], [], [6], [(.slot 8)]⟩ :: ⟨[6], [], [7], [(.slot 9)]⟩ :: ⟨[7], [], [8], [(.slot 10)]⟩ :: ⟨[7], [], [9], [(.slot 11)]⟩ :: ⟨[7], [], [10], [(.slot 12)]⟩ :: ⟨[10], [], [11], [(.slot 13)]⟩ :: ⟨[10], [], [12], [(.slot 14)]⟩ :: ⟨[7], [], [13], [(.slot 15)]⟩ :: ⟨[7], [], [14], [(.slot 16)]⟩ :: ⟨[14], [], [15], [(.slot 2)]⟩ :: [])) (es' := [(2, .v (.bool true))]) (by kernel_rfl) rfl rfl
      ⟨st_plain rfl (op_move _ _ _ _ rfl rfl),
      st_plain rfl (op_bin _ _ _ _ _ rfl rfl rfl),
      st_plain rfl (op_move _ _ _ _ (congrArg (fun b => AV.v (Value.bool b)) hg1_2) rfl),
      st_run 2 5 true rfl rfl rfl (List.Mem.head _) (op_move _ _ _ _ rfl rfl),
      st_run 2 5 true rfl rfl rfl (List.Mem.head _) (op_bin _ _ _ _ _ rfl rfl rfl),
      st_plain rfl (op_pick _ _ true _ rfl rfl),
      st_plain rfl (op_move _ _ _ _ (congrArg (fun b => AV.v (Value.bool b)) hg1_6) rfl),
      st_skip 6 9 _ false rfl rfl rfl rfl (List.Mem.head _),
      st_skip 6 9 _ false rfl rfl rfl rfl (List.Mem.head _),
      st_skip 6 9 _ false rfl rfl rfl rfl (List.Mem.head _),
      st_skipU 9 12 _ true rfl rfl rfl rfl (List.Mem.head _),
      st_skipU 9 12 _ true rfl rfl rfl rfl (List.Mem.head _),
      st_skip 6 9 _ false rfl rfl rfl rfl (List.Mem.head _),
      st_plain rfl (op_pick _ _ true _ rfl rfl),
      st_plain rfl (op_assign _ _ _ _ rfl rfl),
      trivial⟩ ?_
     exact hl3 _ (Option.some.inj h).symm
    ·refine cond_some h (fun hg1_9 h => ?_) (fun hg1_9 h => ?_)
     ·refine ht_seqR hn (El := (_ :: (3, .v (.int .u8 c)) :: (4, .v (.bool ((decide (97 ≤ c))))) :: (5, .v (.bool true)) :: (6, .v (.int .u8 c)) :: (7, .v (.bool ((decide (c ≤ 122))))) :: (8, .v (.bool ((decide (c ≤ 122))))) :: (9, .v (.bool false)) :: (10, .v (.int .u8 c)) :: (11, .v (.bool ((decide (65 ≤ c))))) :: (12, .v (.bool true)) :: (13, .v (.int .u8 c)) :: (14, .v (.bool ((decide (c ≤ 90))))) :: (15, .v (.bool ((decide (c ≤ 90))))) :: (16, .v (.bool ((decide (c ≤ 90))))) :: (2, .v (.bool ((decide (c ≤ 90))))) :: [])) (init := [0]) (fin := [15]) (sps := (⟨[0], [], [1], [(.slot 3)]⟩ :: ⟨[1], [], [2], [(.slot 4)]⟩ :: ⟨[2], [], [3], [(.slot 5)]⟩ :: ⟨[3, 0], [], [4], [(.slot 6)]⟩ :: ⟨[3, 4], [], [5], [(.slot 7)]⟩ :: ⟨[3, 5], [], [6], [(.slot 8)]⟩ :: ⟨[6], [], [7], [(.slot 9)]⟩ :: ⟨[7, 0], [], [8], [(.slot 10)]⟩ :: ⟨[7, 8], [], [9], [(.slot 11)]⟩ :: ⟨[7, 9], [], [10], [(.slot 12)]⟩ :: ⟨[10, 0], [], [11], [(.slot 13)]⟩ :: ⟨[10, 11], [], [12], [(.slot 14)]⟩ :: ⟨[7, 10, 12], [], [13], [(.slot 15)]⟩ :: ⟨[7, 13], [], [14], [(.slot 16)]⟩ :: ⟨[14], [], [15], [(.slot 2)]⟩ :: [])) (es' := [(2, .v (.bool ((decide (c ≤ 90)))))]) (by kernel_rfl) rfl rfl
       ⟨st_plain rfl (op_move _ _ _ _ rfl rfl),
       st_plain rfl (op_bin _ _ _ _ _ rfl rfl rfl),
       st_plain rfl (op_move _ _ _ _ (congrArg (fun b => AV.v (Value.bool b)) hg1_2) rfl),
       st_run 2 5 true rfl rfl rfl (List.Mem.head _) (op_move _ _ _ _ rfl rfl),
       st_run 2 5 true rfl rfl rfl (List.Mem.head _) (op_bin _ _ _ _ _ rfl rfl rfl),
       st_plain rfl (op_pick _ _ true _ rfl rfl),
       st_plain rfl (op_move _ _ _ _ (congrArg (fun b => AV.v (Value.bool b)) hg1_6) rfl),
       st_run 6 9 false rfl rfl rfl (List.Mem.head _) (op_move _ _ _ _ rfl rfl),
       st_run 6 9 false rfl rfl rfl (List.Mem.head _) (op_bin _ _ _ _ _ rfl rfl rfl),
       st_run 6 9 false rfl rfl rfl (List.Mem.head _) (op_move _ _ _ _ (congrArg (fun b => AV.v (Value.bool b)) hg1_9) rfl),
       st_run 9 12 true rfl rfl rfl (List.Mem.head _) (op_move _ _ _ _ rfl rfl),
       st_run 9 12 true rfl rfl rfl (List.Mem.head _) (op_bin _ _ _ _ _ rfl rfl rfl),
       st_run 6 9 false rfl rfl rfl (List.Mem.head _) (op_pick _ _ true _ rfl rfl),
       st_plain rfl (op_pick _ _ false _ rfl rfl),
       st_plain rfl (op_assign _ _ _ _ rfl rfl),
       trivial⟩ ?_
      exact hl3 _ (Option.some.inj h).symm
     ·refine ht_seqR hn (El := (_ :: (3, .v (.int .u8 c)) :: (4, .v (.bool ((decide (97 ≤ c))))) :: (5, .v (.bool true)) :: (6, .v (.int .u8 c)) :: (7, .v (.bool ((decide (c ≤ 122))))) :: (8, .v (.bool ((decide (c ≤ 122))))) :: (9, .v (.bool false)) :: (10, .v (.int .u8 c)) :: (11, .v (.bool ((decide (65 ≤ c))))) :: (12, .v (.bool false)) :: (13, .v undef) :: (14, .v undef) :: (15, .v (.bool false)) :: (16, .v (.bool false)) :: (2, .v (.bool false)) :: [])) (init := [0]) (fin := [15]) (sps := (⟨[0], [], [1], [(.slot 3)]⟩ :: ⟨[1], [], [2], [(.slot 4)]⟩ :: ⟨[2], [], [3], [(.slot 5)]⟩ :: ⟨[3, 0], [], [4], [(.slot 6)]⟩ :: ⟨[3, 4], [], [5], [(.slot 7)]⟩ :: ⟨[3, 5], [], [6], [(.slot 8)]⟩ :: ⟨[6], [], [7], [(.slot 9)]⟩ :: ⟨[7, 0], [], [8], [(.slot 10)]⟩ :: ⟨[7, 8], [], [9], [(.slot 11)]⟩ :: ⟨[7, 9], [], [10], [(.slot 12)]⟩ :: ⟨[10], [], [11], [(.slot 13)]⟩ :: ⟨[10], [], [12], [(.slot 14)]⟩ :: ⟨[7, 10], [], [13], [(.slot 15)]⟩ :: ⟨[7, 13], [], [14], [(.slot 16)]⟩ :: ⟨[14], [], [15], [(.slot 2)]⟩ :: [])) (es' := [(2, .v (.bool false))]) (by kernel_rfl) rfl rfl
       ⟨st_plain rfl (op_move _ _ _ _ rfl rfl),
       st_plain rfl (op_bin _ _ _ _ _ rfl rfl rfl),
       st_plain rfl (op_move _ _ _ _ (congrArg (fun b => AV.v (Value.bool b)) hg1_2) rfl),
       st_run 2 5 true rfl rfl rfl (List.Mem.head _) (op_move _ _ _ _ rfl rfl),
       st_run 2 5 true rfl rfl rfl (List.Mem.head _) (op_bin _ _ _ _ _ rfl rfl rfl),
       st_plain rfl (op_pick _ _ true _ rfl rfl),
       st_plain rfl (op_move _ _ _ _ (congrArg (fun b => AV.v (Value.bool b)) hg1_6) rfl),
       st_run 6 9 false rfl rfl rfl (List.Mem.head _) (op_move _ _ _ _ rfl rfl),
       st_run 6 9 false rfl rfl rfl (List.Mem.head _) (op_bin _ _ _ _ _ rfl rfl rfl),
       st_run 6 9 false rfl rfl rfl (List.Mem.head _) (op_move _ _ _ _ (congrArg (fun b => AV.v (Value.bool b)) hg1_9) rfl),
       st_skip 9 12 _ true rfl rfl rfl rfl (List.Mem.head _),
       st_skip 9 12 _ true rfl rfl rfl rfl (List.Mem.head _),
       st_run 6 9 false rfl rfl rfl (List.Mem.head _) (op_pick _ _ false _ rfl rfl),
       st_plain rfl (op_pick _ _ false _ rfl rfl),
       st_plain rfl (op_assign _ _ _ _ rfl rfl),
       trivial⟩ ?_
      exact hl3 _ (Option.some.inj h).symm
   ·refine cond_some h (fun hg1_9 h => ?_) (fun hg1_9 h => ?_)
    ·refine ht_seqR hn (El := (_ :: (3, .v (.int .u8 c)) :: (4, .v (.bool ((decide (97 ≤ c))))) :: (5, .v (.bool false)) :: (6, .v undef) :: (7, .v undef) :: (8, .v (.bool false)) :: (9, .v (.bool false)) :: (10, .v (.int .u8 c)) :: (11, .v (.bool ((decide (65 ≤ c))))) :: (12, .v (.bool true)) :: (13, .v (.int .u8 c)) :: (14, .v (.bool ((decide (c ≤ 90))))) :: (15, .v (.bool ((decide (c ≤ 90))))) :: (16, .v (.bool ((decide (c ≤ 90))))) :: (2, .v (.bool ((decide (c ≤ 90))))) :: [])) (init := [0]) (fin := [15]) (sps := (⟨[0], [], [1], [(.slot 3)]⟩ :: ⟨[1], [], [2], [(.slot 4)]⟩ :: ⟨[2], [], [3], [(.slot 5)]⟩ :: ⟨[3], [], [4], [(.slot 6)]⟩ :: ⟨[3], [], [5], [(.slot 7)]⟩ :: ⟨[3], [], [6], [(.slot 8)]⟩ :: ⟨[6], [], [7], [(.slot 9)]⟩ :: ⟨[7, 0], [], [8], [(.slot 10)]⟩ :: ⟨[7, 8], [], [9], [(.slot 11)]⟩ :: ⟨[7, 9], [], [10], [(.slot 12)]⟩ :: ⟨[10, 0], [], [11], [(.slot 13)]⟩ :: ⟨[10, 11], [], [12], [(.slot 14)]⟩ :: ⟨[7, 10, 12], [], [13], [(.slot 15)]⟩ :: ⟨[7, 13], [], [14], [(.slot 16)]⟩ :: ⟨[14], [], [15], [(.slot 2)]⟩ :: [])) (es' := [(2, .v (.bool ((decide (c ≤ 90)))))]) (by kernel_rfl) rfl rfl
      ⟨st_plain rfl (op_move _ _ _ _ rfl rfl),
      st_plain rfl (op_bin _ _ _ _ _ rfl rfl rfl),
      st_plain rfl (op_move _ _ _ _ (congrArg (fun b => AV.v (Value.bool b)) hg1_2) rfl),
      st_skip 2 5 _ true rfl rfl rfl rfl (List.Mem.head _),
      st_skip 2 5 _ true rfl rfl rfl rfl (List.Mem.head _),
      st_plain rfl (op_pick _ _ false _ rfl rfl),
      st_plain rfl (op_move _ _ _ _ rfl rfl),
      st_run 6 9 false rfl rfl rfl (List.Mem.head _) (op_move _ _ _ _ rfl rfl),
      st_run 6 9 false rfl rfl rfl (List.Mem.head _) (op_bin _ _ _ _ _ rfl rfl rfl),
      st_run 6 9 false rfl rfl rfl (List.Mem.head _) (op_move _ _ _ _ (congrArg (fun b => AV.v (Value.bool b)) hg1_9) rfl),
      st_run 9 12 true rfl rfl rfl (List.Mem.head _) (op_move _ _ _ _ rfl rfl),
      st_run 9 12 true rfl rfl rfl (List.Mem.head _) (op_bin _ _ _ _ _ rfl rfl rfl),
      st_run 6 9 false rfl rfl rfl (List.Mem.head _) (op_pick _ _ true _ rfl rfl),
      st_plain rfl (op_pick _ _ false _ rfl rfl),
      st_plain rfl (op_assign _ _ _ _ rfl rfl),
      trivial⟩ ?_
     exact hl3 _ (Option.some.inj h).symm
    ·refine ht_seqR hn (El := (_ :: (3, .v (.int .u8 c)) :: (4, .v (.bool ((decide (97 ≤ c))))) :: (5, .v (.bool false)) :: (6, .v undef) :: (7, .v undef) :: (8, .v (.bool false)) :: (9, .v (.bool false)) :: (10, .v (.int .u8 c)) :: (11, .v (.bool ((decide (65 ≤ c))))) :: (12, .v (.bool false)) :: (13, .v undef) :: (14, .v undef) :: (15, .v (.bool false)) :: (16, .v (.bool false)) :: (2, .v (.bool false)) :: [])) (init := [0]) (fin := [15]) (sps := (⟨[0], [], [1], [(.slot 3)]⟩ :: ⟨[1], [], [2], [(.slot 4)]⟩ :: ⟨[2], [], [3], [(.slot 5)]⟩ :: ⟨[3], [], [4], [(.slot 6)]⟩ :: ⟨[3], [], [5], [(.slot 7)]⟩ :: ⟨[3], [], [6], [(.slot 8)]⟩ :: ⟨[6], [], [7], [(.slot 9)]⟩ :: ⟨[7, 0], [], [8], [(.slot 10)]⟩ :: ⟨[7, 8], [], [9], [(.slot 11)]⟩ :: ⟨[7, 9], [], [10], [(.slot 12)]⟩ :: ⟨[10], [], [11], [(.slot 13)]⟩ :: ⟨[10], [], [12], [(.slot 14)]⟩ :: ⟨[7, 10], [], [13], [(.slot 15)]⟩ :: ⟨[7, 13], [], [14], [(.slot 16)]⟩ :: ⟨[14], [], [15], [(.slot 2)]⟩ :: [])) (es' := [(2, .v (.bool false))]) (by kernel_rfl) rfl rfl
      ⟨st_plain rfl (op_move _ _ _ _ rfl rfl),
      st_plain rfl (op_bin _ _ _ _ _ rfl rfl rfl),
      st_plain rfl (op_move _ _ _ _ (congrArg (fun b => AV.v (Value.bool b)) hg1_2) rfl),
      st_skip 2 5 _ true rfl rfl rfl rfl (List.Mem.head _),
      st_skip 2 5 _ true rfl rfl rfl rfl (List.Mem.head _),
      st_plain rfl (op_pick _ _ false _ rfl rfl),
      st_plain rfl (op_move _ _ _ _ rfl rfl),
      st_run 6 9 false rfl rfl rfl (List.Mem.head _) (op_move _ _ _ _ rfl rfl),
      st_run 6 9 false rfl rfl rfl (List.Mem.head _) (op_bin _ _ _ _ _ rfl rfl rfl),
      st_run 6 9 false rfl rfl rfl (List.Mem.head _) (op_move _ _ _ _ (congrArg (fun b => AV.v (Value.bool b)) hg1_9) rfl),
      st_skip 9 12 _ true rfl rfl rfl rfl (List.Mem.head _),
      st_skip 9 12 _ true rfl rfl rfl rfl (List.Mem.head _),
      st_run 6 9 false rfl rfl rfl (List.Mem.head _) (op_pick _ _ false _ rfl rfl),
      st_plain rfl (op_pick _ _ false _ rfl rfl),
      st_plain rfl (op_assign _ _ _ _ rfl rfl),
      trivial⟩ ?_
     exact hl3 _ (Option.some.inj h).symm
set_option maxHeartbeats 1000000 in
theorem ok_wherryref11_Domain (s : ByteArray) (r : Bool) (h : Sh.wherryref11_Domain s = some r) : FnOK Tryd.prog 13 [.v (.string s)] (.v (.bool r)) := by
  unfold Sh.wherryref11_Domain at h
  refine fn_ok Tryd.func13 rfl (Nat.le_of_ble_eq_true rfl) rfl rfl fun g0 hn hio => ?_
  refine ht_seq ?_
  refine ht_seqR hn (El := [_, (2, .v (.bool false))]) (init := [0]) (fin := [0]) (sps := [⟨[], [], [1], [(.slot 2)]⟩]) (es' := [(_, _)]) (by kernel_rfl) rfl rfl
   ⟨st_plain rfl (op_assign _ _ _ _ rfl rfl),
   trivial⟩ ?_
  refine pt_then ?_
  refine ht_seq ?_
  refine ht_seq ?_
  obtain ⟨v1, hv1, h⟩ := bind_some h
  refine ht_seqR hn (El := [_, (5, .v (.string s)), (6, .v (.int .i64 (s.size : Int))), (7, .v (.bool v1)), (8, .v (.bool (!v1)))]) (init := [0]) (fin := [0, 4]) (sps := [⟨[0], [], [1], [(.slot 5)]⟩, ⟨[1], [], [2], [(.slot 6)]⟩, ⟨[2], [], [3], [(.slot 7)]⟩, ⟨[3], [], [4], [(.slot 8)]⟩]) (es' := [(_, _), (8, .v (.bool (!v1)))]) (by kernel_rfl) rfl rfl
   ⟨st_plain rfl (op_move _ _ _ _ rfl rfl),
   st_plain rfl (op_len_str _ _ _ Tryd.underlying9 rfl),
   st_plain rfl (op_call _ _ 22 _ _ rfl Tryd.call22 rfl (ok_wherryref11_in (s.size : Int) 1 255 _ hv1) rfl rfl),
   st_plain rfl (op_un _ _ _ _ rfl rfl),
   trivial⟩ ?_
  refine pt_then ?_
  refine ht_cond _ rfl (fun hb2 => ?_) (fun hb2 => ?_)
  ·have h := cond_t hb2 h
   refine ht_seq ?_
   refine ht_seqR hn (El := [_, _, (2, .v (.bool false))]) (init := [0, 1]) (fin := [2]) (sps := [⟨[], [], [2], [(.slot 2)]⟩]) (es' := [(2, .v (.bool false))]) (by kernel_rfl) rfl rfl
    ⟨st_plain rfl (op_assign _ _ _ _ rfl rfl),
    trivial⟩ ?_
   refine pt_then ?_
   refine ht_ret ?_
   refine pt_r_then ?_
   obtain rfl := Option.some.inj h
   exact pt_ret hio rfl (.tmp _ _ .nil) rfl rfl
  ·have h := cond_f hb2 h
   refine ht_skip ?_
   refine pt_then ?_
   refine ht_seq ?_
   refine ht_seqR hn (El := [_, _, (3, .v (.int .i64 0))]) (init := [0, 1]) (fin := [0, 2]) (sps := [⟨[], [], [2], [(.slot 3)]⟩]) (es' := [(_, _), (3, .v (.int .i64 0))]) (by kernel_rfl) rfl rfl
    ⟨st_plain rfl (op_assign _ _ _ _ rfl rfl),
    trivial⟩ ?_
   refine pt_then ?_
   refine ht_seq ?_
   refine ht_seq ?_
   refine ht_seqR hn (El := [_, _, (4, .v (.int .i64 0))]) (init := [0, 1]) (fin := [0, 1, 2]) (sps := [⟨[], [], [2], [(.slot 4)]⟩]) (es' := [(_, _), (_, _), (4, .v (.int .i64 0))]) (by kernel_rfl) rfl rfl
    ⟨st_plain rfl (op_assign _ _ _ _ rfl rfl),
    trivial⟩ ?_
   refine pt_then ?_
   refine ht_loopS h (fun ((s88, s89) : Int × Int) => [(0, .v (.string s)), (3, .v (.int .i64 s88)), (4, .v (.int .i64 s89))]) (fun (() : Unit) => []) ?_ ?_
   ·rintro ⟨⟩ h
    refine pt_then ?_
    refine ht_seq ?_
    refine ht_seqR hn (El := [(2, .v (.bool true))]) (init := []) (fin := [0]) (sps := [⟨[], [], [0], [(.slot 2)]⟩]) (es' := [(2, .v (.bool true))]) (by kernel_rfl) rfl rfl
     ⟨st_plain rfl (op_assign _ _ _ _ rfl rfl),
     trivial⟩ ?_
    refine pt_then ?_
    refine ht_ret ?_
    obtain rfl := Option.some.inj h
    exact pt_ret hio rfl (.tmp _ _ .nil) rfl rfl
   ·rintro u125 hl126 hr127 ⟨s88, s89⟩ rr130 h ho128
    refine ht_seq ?_
    refine ht_seq ?_
    refine ht_seqR hn (El := [_, _, _, (9, .v (.int .i64 s89)), (10, .v (.string s)), (11, .v (.int .i64 (s.size : Int))), (12, .v (.bool ((decide (s89 ≤ (s.size : Int))))))]) (init := [0, 1, 2]) (fin := [0, 1, 2, 6]) (sps := [⟨[2], [], [3], [(.slot 9)]⟩, ⟨[0], [], [4], [(.slot 10)]⟩, ⟨[4], [], [5], [(.slot 11)]⟩, ⟨[3, 5], [], [6], [(.slot 12)]⟩]) (es' := [(_, _), (_, _), (_, _), (12, .v (.bool ((decide (s89 ≤ (s.size : Int))))))]) (by kernel_rfl) rfl rfl
     ⟨st_plain rfl (op_move _ _ _ _ rfl rfl),
     st_plain rfl (op_move _ _ _ _ rfl rfl),
     st_plain rfl (op_len_str _ _ _ Tryd.underlying9 rfl),
     st_plain rfl (op_bin _ _ _ _ _ rfl rfl rfl),
     trivial⟩ ?_
    refine pt_then ?_
    refine ht_cond _ rfl (fun hb131 => ?_) (fun hb131 => ?_)
    ·have h := cond_t hb131 h
     refine ht_skip ?_
     refine pt_then ?_
     refine ht_seq ?_
     refine ht_joinS h (fun (s147 : Int) => [(0, .v (.string s)), (3, .v (.int .i64 s147)), (4, .v (.int .i64 s89))]) ?_ ?_
     ·rintro s147 h
      refine pt_then ?_
      obtain ⟨v50, hv50, h⟩ := bind_some h
      refine ht_seqR hn (El := [_, _, _, (13, .v (.int .i64 s89)), (14, .v (.int .i64 v50)), (4, .v (.int .i64 v50))]) (init := [0, 1, 2]) (fin := [0, 1, 5]) (sps := [⟨[2], [], [3], [(.slot 13)]⟩, ⟨[3], [], [4], [(.slot 14)]⟩, ⟨[4], [2], [5], [(.slot 4)]⟩]) (es' := [(_, _), (_, _), (4, .v (.int .i64 v50))]) (by kernel_rfl) rfl rfl
       ⟨st_plain rfl (op_move _ _ _ _ rfl rfl),
       st_plain rfl (op_bin _ _ _ _ _ rfl rfl (ibind (f := Value.int .i64) (Option.some.inj hv50))),
       st_plain rfl (LOp.drop [_] (op_assign _ _ _ _ rfl rfl)),
       trivial⟩ ?_
      exact pt_next _ (Option.some.inj h).symm rfl
     ·intro u148 h hl149 hr150
      refine ht_block ?_
      refine ht_seq ?_
      refine ht_seq ?_
      refine ht_joinS h (fun (s151 : Bool) => [(0, .v (.string s)), (3, .v (.int .i64 s88)), (4, .v (.int .i64 s89)), (24, .v (.bool s151))]) ?_ ?_
      ·rintro s151 h
       refine pt_then ?_
       refine ht_cond _ rfl (fun hb155 => ?_) (fun hb155 => ?_)
       ·have h := cond_t hb155 h
        refine ht_seq ?_
        refine ht_seq ?_
        refine ht_joinS h (fun (s156 : Bool) => [(0, .v (.string s)), (3, .v (.int .i64 s88)), (4, .v (.int .i64 s89)), (42, .v (.bool s156))]) ?_ ?_
        ·rintro s156 h
         refine pt_then ?_
         refine ht_cond _ rfl (fun hb160 => ?_) (fun hb160 => ?_)
         ·have h := cond_t hb160 h
          refine ht_seq ?_
          refine ht_seqR hn (El := [_, _, _, _, (2, .v (.bool false))]) (init := [0, 1, 2, 3]) (fin := [4]) (sps := [⟨[], [], [4], [(.slot 2)]⟩]) (es' := [(2, .v (.bool false))]) (by kernel_rfl) rfl rfl
           ⟨st_plain rfl (op_assign _ _ _ _ rfl rfl),
           trivial⟩ ?_
          refine pt_then ?_
          refine ht_ret ?_
          refine pt_r_then ?_
          refine pt_r_then ?_
          refine pt_r_in ?_
          refine pt_r_then ?_
          refine pt_r_then ?_
          refine pt_r_in ?_
          refine pt_r_then ?_
          have h := hr150 _ (Option.some.inj h).symm
          have h := hr127 _ (ho128 _ (Option.some.inj h).symm).symm
          obtain rfl := Option.some.inj h
          exact pt_ret hio rfl (.tmp _ _ .nil) rfl rfl
         ·have h := cond_f hb160 h
          refine ht_skip ?_
          refine pt_then ?_
          refine ht_exit ?_
          refine pt_x_then ?_
          refine pt_x_in ?_
          refine pt_pick [0, 1, 2] (by kernel_rfl) (es' := [(_, _), (_, _), (_, _)]) rfl ?_
          exact hl149 _ (Option.some.inj h).symm
        ·intro u157 h hl158 hr159
         obtain ⟨v10, hv10, h⟩ := bind_some h
         obtain ⟨v11, hv11, h⟩ := bind_some h
         refine cond_some h (fun hg8_5 h => ?_) (fun hg8_5 h => ?_)
         ·obtain ⟨v12, hv12, h⟩ := bind_some h
          obtain ⟨v13, hv13, h⟩ := bind_some h
          refine cond_some h (fun hg8_12 h => ?_) (fun hg8_12 h => ?_)
          ·obtain ⟨v14, hv14, h⟩ := bind_some h
           refine ht_seqR hn (El := (_ :: _ :: _ :: _ :: (25, .v (.string s)) :: (26, .v (.int .i64 s89)) :: (27, .v (.int .u8 v10)) :: (28, .v (.bool v11)) :: (29, .v (.bool (!v11))) :: (30, .v (.bool true)) :: (31, .v (.string s)) :: (32, .v (.int .i64 s89)) :: (33, .v (.int .u8 v12)) :: (34, .v (.bool v13)) :: (35, .v (.bool (!v13))) :: (36, .v (.bool (!v13))) :: (37, .v (.bool true)) :: (38, .v (.string s)) :: (39, .v (.int .i64 s89)) :: (40, .v (.int .u8 v14)) :: (41, .v (.bool (v14 != 45))) :: (42, .v (.bool (v14 != 45))) :: [])) (init := [0, 1, 2, 3]) (fin := [0, 1, 2, 21]) (sps := (⟨[0], [], [4], [(.slot 25)]⟩ :: ⟨[2], [], [5], [(.slot 26)]⟩ :: ⟨[4, 5], [], [6], [(.slot 27)]⟩ :: ⟨[6], [], [7], [(.slot 28)]⟩ :: ⟨[7], [], [8], [(.slot 29)]⟩ :: ⟨[8], [], [9], [(.slot 30)]⟩ :: ⟨[9, 0], [], [10], [(.slot 31)]⟩ :: ⟨[9, 2], [], [11], [(.slot 32)]⟩ :: ⟨[9, 10, 11], [], [12], [(.slot 33)]⟩ :: ⟨[9, 12], [], [13], [(.slot 34)]⟩ :: ⟨[9, 13], [], [14], [(.slot 35)]⟩ :: ⟨[9, 14], [], [15], [(.slot 36)]⟩ :: ⟨[15], [], [16], [(.slot 37)]⟩ :: ⟨[16, 0], [], [17], [(.slot 38)]⟩ :: ⟨[16, 2], [], [18], [(.slot 39)]⟩ :: ⟨[16, 17, 18], [], [19], [(.slot 40)]⟩ :: ⟨[16, 19], [], [20], [(.slot 41)]⟩ :: ⟨[16, 20], [], [21], [(.slot 42)]⟩ :: [])) (es' := [(_, _), (_, _), (_, _), (42, .v (.bool (v14 != 45)))]) (by kernel_rfl) rfl rfl
            ⟨st_plain rfl (op_move _ _ _ _ rfl rfl),
            st_plain rfl (op_move _ _ _ _ rfl rfl),
            st_plain rfl (op_chr _ _ _ s89 _ Tryd.underlying9 rfl rfl hv10),
            st_plain rfl (op_call _ _ 23 _ _ rfl Tryd.call23 rfl (ok_wherryref11_letter v10 _ hv11) rfl rfl),
            st_plain rfl (op_un _ _ _ _ rfl rfl),
            st_plain rfl (op_move _ _ _ _ (congrArg (fun b => AV.v (Value.bool b)) hg8_5) rfl),
            st_run 5 30 true rfl rfl rfl (List.Mem.head _) (op_move _ _ _ _ rfl rfl),
            st_run 5 30 true rfl rfl rfl (List.Mem.head _) (op_move _ _ _ _ rfl rfl),
            st_run 5 30 true rfl rfl rfl (List.Mem.head _) (op_chr _ _ _ s89 _ Tryd.underlying9 rfl rfl hv12),
            st_run 5 30 true rfl rfl rfl (List.Mem.head _) (op_call _ _ 24 _ _ rfl Tryd.call24 rfl (ok_wherryref11_digit v12 _ hv13) rfl rfl),
            st_run 5 30 true rfl rfl rfl (List.Mem.head _) (op_un _ _ _ _ rfl rfl),
            st_plain rfl (op_pick _ _ true _ rfl rfl),
            st_plain rfl (op_move _ _ _ _ (congrArg (fun b => AV.v (Value.bool b)) hg8_12) rfl),
            st_run 12 37 true rfl rfl rfl (List.Mem.head _) (op_move _ _ _ _ rfl rfl),
            st_run 12 37 true rfl rfl rfl (List.Mem.head _) (op_move _ _ _ _ rfl rfl),
            st_run 12 37 true rfl rfl rfl (List.Mem.head _) (op_chr _ _ _ s89 _ Tryd.underlying9 rfl rfl hv14),
            st_run 12 37 true rfl rfl rfl (List.Mem.head _) (op_bin _ _ _ _ _ rfl rfl rfl),
            st_plain rfl (op_pick _ _ true _ rfl rfl),
            trivial⟩ ?_
           exact hl158 _ (Option.some.inj h).symm
          ·refine ht_seqR hn (El := (_ :: _ :: _ :: _ :: (25, .v (.string s)) :: (26, .v (.int .i64 s89)) :: (27, .v (.int .u8 v10)) :: (28, .v (.bool v11)) :: (29, .v (.bool (!v11))) :: (30, .v (.bool true)) :: (31, .v (.string s)) :: (32, .v (.int .i64 s89)) :: (33, .v (.int .u8 v12)) :: (34, .v (.bool v13)) :: (35, .v (.bool (!v13))) :: (36, .v (.bool (!v13))) :: (37, .v (.bool false)) :: (38, .v undef) :: (39, .v undef) :: (40, .v undef) :: (41, .v undef) :: (42, .v (.bool false)) :: [])) (init := [0, 1, 2, 3]) (fin := [0, 1, 2, 21]) (sps := (⟨[0], [], [4], [(.slot 25)]⟩ :: ⟨[2], [], [5], [(.slot 26)]⟩ :: ⟨[4, 5], [], [6], [(.slot 27)]⟩ :: ⟨[6], [], [7], [(.slot 28)]⟩ :: ⟨[7], [], [8], [(.slot 29)]⟩ :: ⟨[8], [], [9], [(.slot 30)]⟩ :: ⟨[9, 0], [], [10], [(.slot 31)]⟩ :: ⟨[9, 2], [], [11], [(.slot 32)]⟩ :: ⟨[9, 10, 11], [], [12], [(.slot 33)]⟩ :: ⟨[9, 12], [], [13], [(.slot 34)]⟩ :: ⟨[9, 13], [], [14], [(.slot 35)]⟩ :: ⟨[9, 14], [], [15], [(.slot 36)]⟩ :: ⟨[15], [], [16], [(.slot 37)]⟩ :: ⟨[16], [], [17], [(.slot 38)]⟩ :: ⟨[16], [], [18], [(.slot 39)]⟩ :: ⟨[16], [], [19], [(.slot 40)]⟩ :: ⟨[16], [], [20], [(.slot 41)]⟩ :: ⟨[16], [], [21], [(.slot 42)]⟩ :: [])) (es' := [(_, _), (_, _), (_, _), (42, .v (.bool false))]) (by kernel_rfl) rfl rfl
            ⟨st_plain rfl (op_move _ _ _ _ rfl rfl),
            st_plain rfl (op_move _ _ _ _ rfl rfl),
            st_plain rfl (op_chr _ _ _ s89 _ Tryd.underlying9 rfl rfl hv10),
            st_plain rfl (op_call _ _ 23 _ _ rfl Tryd.call23 rfl (ok_wherryref11_letter v10 _ hv11) rfl rfl),
            st_plain rfl (op_un _ _ _ _ rfl rfl),
            st_plain rfl (op_move _ _ _ _ (congrArg (fun b => AV.v (Value.bool b)) hg8_5) rfl),
            st_run 5 30 true rfl rfl rfl (List.Mem.head _) (op_move _ _ _ _ rfl rfl),
            st_run 5 30 true rfl rfl rfl (List.Mem.head _) (op_move _ _ _ _ rfl rfl),
            st_run 5 30 true rfl rfl rfl (List.Mem.head _) (op_chr _ _ _ s89 _ Tryd.underlying9 rfl rfl hv12),
            st_run 5 30 true rfl rfl rfl (List.Mem.head _) (op_call _ _ 24 _ _ rfl Tryd.call24 rfl (ok_wherryref11_digit v12 _ hv13) rfl rfl),
            st_run 5 30 true rfl rfl rfl (List.Mem.head _) (op_un _ _ _ _ rfl rfl),
            st_plain rfl (op_pick _ _ true _ rfl rfl),
            st_plain rfl (op_move _ _ _ _ (congrArg (fun b => AV.v (Value.bool b)) hg8_12) rfl),
            st_skip 12 37 _ true rfl rfl rfl rfl (List.Mem.head _),
            st_skip 12 37 _ true rfl rfl rfl rfl (List.Mem.head _),
            st_skip 12 37 _ true rfl rfl rfl rfl (List.Mem.head _),
            st_skip 12 37 _ true rfl rfl rfl rfl (List.Mem.head _),
            st_plain rfl (op_pick _ _ false _ rfl rfl),
            trivial⟩ ?_
           exact hl158 _ (Option.some.inj h).symm
         ·refine ht_seqR hn (El := (_ :: _ :: _ :: _ :: (25, .v (.string s)) :: (26, .v (.int .i64 s89)) :: (27, .v (.int .u8 v10)) :: (28, .v (.bool v11)) :: (29, .v (.bool (!v11))) :: (30, .v (.bool false)) :: (31, .v undef) :: (32, .v undef) :: (33, .v undef) :: (34, .v undef) :: (35, .v undef) :: (36, .v (.bool false)) :: (37, .v (.bool false)) :: (38, .v undef) :: (39, .v undef) :: (40, .v undef) :: (41, .v undef) :: (42, .v (.bool false)) :: [])) (init := [0, 1, 2, 3]) (fin := [0, 1, 2, 21]) (sps := (⟨[0], [], [4], [(.slot 25)]⟩ :: ⟨[2], [], [5], [(.slot 26)]⟩ :: ⟨[4, 5], [], [6], [(.slot 27)]⟩ :: ⟨[6], [], [7], [(.slot 28)]⟩ :: ⟨[7], [], [8], [(.slot 29)]⟩ :: ⟨[8], [], [9], [(.slot 30)]⟩ :: ⟨[9], [], [10], [(.slot 31)]⟩ :: ⟨[9], [], [11], [(.slot 32)]⟩ :: ⟨[9], [], [12], [(.slot 33)]⟩ :: ⟨[9], [], [13], [(.slot 34)]⟩ :: ⟨[9], [], [14], [(.slot 35)]⟩ :: ⟨[9], [], [15], [(.slot 36)]⟩ :: ⟨[15], [], [16], [(.slot 37)]⟩ :: ⟨[16], [], [17], [(.slot 38)]⟩ :: ⟨[16], [], [18], [(.slot 39)]⟩ :: ⟨[16], [], [19], [(.slot 40)]⟩ :: ⟨[16], [], [20], [(.slot 41)]⟩ :: ⟨[16], [], [21], [(.slot 42)]⟩ :: [])) (es' := [(_, _), (_, _), (_, _), (42, .v (.bool false))]) (by kernel_rfl) rfl rfl
           ⟨st_plain rfl (op_move _ _ _ _ rfl rfl),
           st_plain rfl (op_move _ _ _ _ rfl rfl),
           st_plain rfl (op_chr _ _ _ s89 _ Tryd.underlying9 rfl rfl hv10),
           st_plain rfl (op_call _ _ 23 _ _ rfl Tryd.call23 rfl (ok_wherryref11_letter v10 _ hv11) rfl rfl),
           st_plain rfl (op_un _ _ _ _ rfl rfl),
           st_plain rfl (op_move _ _ _ _ (congrArg (fun b => AV.v (Value.bool b)) hg8_5) rfl),
           st_skip 5 30 _ true rfl rfl rfl rfl (List.Mem.head _),
           st_skip 5 30 _ true rfl rfl rfl rfl (List.Mem.head _),
           st_skip 5 30 _ true rfl rfl rfl rfl (List.Mem.head _),
           st_skip 5 30 _ true rfl rfl rfl rfl (List.Mem.head _),
           st_skip 5 30 _ true rfl rfl rfl rfl (List.Mem.head _),
           st_plain rfl (op_pick _ _ false _ rfl rfl),
           st_plain rfl (op_move _ _ _ _ rfl rfl),
           st_skip 12 37 _ true rfl rfl rfl rfl (List.Mem.head _),
           st_skip 12 37 _ true rfl rfl rfl rfl (List.Mem.head _),
           st_skip 12 37 _ true rfl rfl rfl rfl (List.Mem.head _),
           st_skip 12 37 _ true rfl rfl rfl rfl (List.Mem.head _),
           st_plain rfl (op_pick _ _ false _ rfl rfl),
           trivial⟩ ?_
          exact hl158 _ (Option.some.inj h).symm
       ·have h := cond_f hb155 h
        refine ht_skip ?_
        refine pt_then ?_
        refine ht_seq ?_
        refine ht_seq ?_
        refine ht_joinS h (fun (s161 : Bool) => [(0, .v (.string s)), (4, .v (.int .i64 s89)), (60, .v (.bool s161))]) ?_ ?_
        ·rintro s161 h
         refine pt_then ?_
         refine ht_cond _ rfl (fun hb165 => ?_) (fun hb165 => ?_)
         ·have h := cond_t hb165 h
          refine ht_seq ?_
          refine ht_seqR hn (El := [_, _, _, (2, .v (.bool false))]) (init := [0, 1, 2]) (fin := [3]) (sps := [⟨[], [], [3], [(.slot 2)]⟩]) (es' := [(2, .v (.bool false))]) (by kernel_rfl) rfl rfl
           ⟨st_plain rfl (op_assign _ _ _ _ rfl rfl),
           trivial⟩ ?_
          refine pt_then ?_
          refine ht_ret ?_
          refine pt_r_then ?_
          refine pt_r_in ?_
          refine pt_r_then ?_
          refine pt_r_then ?_
          refine pt_r_in ?_
          refine pt_r_then ?_
          have h := hr150 _ (Option.some.inj h).symm
          have h := hr127 _ (ho128 _ (Option.some.inj h).symm).symm
          obtain rfl := Option.some.inj h
          exact pt_ret hio rfl (.tmp _ _ .nil) rfl rfl
         ·have h := cond_f hb165 h
          refine ht_skip ?_
          refine pt_then ?_
          obtain ⟨v30, hv30, h⟩ := bind_some h
          refine ht_seqR hn (El := [_, _, _, (61, .v (.int .i64 s89)), (62, .v (.int .i64 v30)), (3, .v (.int .i64 v30))]) (init := [0, 1, 2]) (fin := [0, 1, 5]) (sps := [⟨[1], [], [3], [(.slot 61)]⟩, ⟨[3], [], [4], [(.slot 62)]⟩, ⟨[4], [], [5], [(.slot 3)]⟩]) (es' := [(_, _), (_, _), (3, .v (.int .i64 v30))]) (by kernel_rfl) rfl rfl
           ⟨st_plain rfl (op_move _ _ _ _ rfl rfl),
           st_plain rfl (op_bin _ _ _ _ _ rfl rfl (ibind (f := Value.int .i64) (Option.some.inj hv30))),
           st_plain rfl (op_assign _ _ _ _ rfl rfl),
           trivial⟩ ?_
          refine pt_inb ?_
          refine pt_pick [0, 2, 1] (by kernel_rfl) (es' := [(_, _), (_, _), (_, _)]) rfl ?_
          exact hl149 _ (Option.some.inj h).symm
        ·intro u162 h hl163 hr164
         obtain ⟨v20, hv20, h⟩ := bind_some h
         obtain ⟨v21, hv21, h⟩ := bind_some h
         refine cond_some h (fun hg10_5 h => ?_) (fun hg10_5 h => ?_)
         ·refine ht_seqR hn (El := (_ :: _ :: _ :: _ :: (43, .v (.int .i64 s89)) :: (44, .v (.int .i64 s88)) :: (45, .v (.int .i64 v20)) :: (46, .v (.bool v21)) :: (47, .v (.bool (!v21))) :: (48, .v (.bool true)) :: (49, .v undef) :: (50, .v undef) :: (51, .v undef) :: (52, .v undef) :: (53, .v (.bool true)) :: (54, .v (.bool true)) :: (55, .v undef) :: (56, .v undef) :: (57, .v undef) :: (58, .v undef) :: (59, .v undef) :: (60, .v (.bool true)) :: [])) (init := [0, 1, 2, 3]) (fin := [0, 2, 21]) (sps := (⟨[2], [], [4], [(.slot 43)]⟩ :: ⟨[1], [], [5], [(.slot 44)]⟩ :: ⟨[4, 5], [], [6], [(.slot 45)]⟩ :: ⟨[6], [], [7], [(.slot 46)]⟩ :: ⟨[7], [], [8], [(.slot 47)]⟩ :: ⟨[8], [], [9], [(.slot 48)]⟩ :: ⟨[9], [], [10], [(.slot 49)]⟩ :: ⟨[9], [], [11], [(.slot 50)]⟩ :: ⟨[9], [], [12], [(.slot 51)]⟩ :: ⟨[9], [], [13], [(.slot 52)]⟩ :: ⟨[9], [], [14], [(.slot 53)]⟩ :: ⟨[14], [], [15], [(.slot 54)]⟩ :: ⟨[15], [], [16], [(.slot 55)]⟩ :: ⟨[15], [], [17], [(.slot 56)]⟩ :: ⟨[15], [], [18], [(.slot 57)]⟩ :: ⟨[15], [], [19], [(.slot 58)]⟩ :: ⟨[15], [], [20], [(.slot 59)]⟩ :: ⟨[15], [], [21], [(.slot 60)]⟩ :: [])) (es' := [(_, _), (_, _), (60, .v (.bool true))]) (by kernel_rfl) rfl rfl
           ⟨st_plain rfl (op_move _ _ _ _ rfl rfl),
           st_plain rfl (op_move _ _ _ _ rfl rfl),
           st_plain rfl (op_bin _ _ _ _ _ rfl rfl (ibind (f := Value.int .i64) (Option.some.inj hv20))),
           st_plain rfl (op_call _ _ 22 _ _ rfl Tryd.call22 rfl (ok_wherryref11_in v20 1 63 _ hv21) rfl rfl),
           st_plain rfl (op_un _ _ _ _ rfl rfl),
           st_plain rfl (op_move _ _ _ _ (congrArg (fun b => AV.v (Value.bool b)) hg10_5) rfl),
           st_skip 5 48 _ false rfl rfl rfl rfl (List.Mem.head _),
           st_skip 5 48 _ false rfl rfl rfl rfl (List.Mem.head _),
           st_skip 5 48 _ false rfl rfl rfl rfl (List.Mem.head _),
           st_skip 5 48 _ false rfl rfl rfl rfl (List.Mem.head _),
           st_plain rfl (op_pick _ _ true _ rfl rfl),
           st_plain rfl (op_move _ _ _ _ rfl rfl),
           st_skip 11 54 _ false rfl rfl rfl rfl (List.Mem.head _),
           st_skip 11 54 _ false rfl rfl rfl rfl (List.Mem.head _),
           st_skip 11 54 _ false rfl rfl rfl rfl (List.Mem.head _),
           st_skip 11 54 _ false rfl rfl rfl rfl (List.Mem.head _),
           st_skip 11 54 _ false rfl rfl rfl rfl (List.Mem.head _),
           st_plain rfl (op_pick _ _ true _ rfl rfl),
           trivial⟩ ?_
          exact hl163 _ (Option.some.inj h).symm
         ·obtain ⟨v22, hv22, h⟩ := bind_some h
          refine cond_some h (fun hg10_11 h => ?_) (fun hg10_11 h => ?_)
          ·refine ht_seqR hn (El := (_ :: _ :: _ :: _ :: (43, .v (.int .i64 s89)) :: (44, .v (.int .i64 s88)) :: (45, .v (.int .i64 v20)) :: (46, .v (.bool v21)) :: (47, .v (.bool (!v21))) :: (48, .v (.bool false)) :: (49, .v (.string s)) :: (50, .v (.int .i64 s88)) :: (51, .v (.int .u8 v22)) :: (52, .v (.bool (v22 == 45))) :: (53, .v (.bool (v22 == 45))) :: (54, .v (.bool true)) :: (55, .v undef) :: (56, .v undef) :: (57, .v undef) :: (58, .v undef) :: (59, .v undef) :: (60, .v (.bool true)) :: [])) (init := [0, 1, 2, 3]) (fin := [0, 2, 21]) (sps := (⟨[2], [], [4], [(.slot 43)]⟩ :: ⟨[1], [], [5], [(.slot 44)]⟩ :: ⟨[4, 5], [], [6], [(.slot 45)]⟩ :: ⟨[6], [], [7], [(.slot 46)]⟩ :: ⟨[7], [], [8], [(.slot 47)]⟩ :: ⟨[8], [], [9], [(.slot 48)]⟩ :: ⟨[9, 0], [], [10], [(.slot 49)]⟩ :: ⟨[9, 1], [], [11], [(.slot 50)]⟩ :: ⟨[9, 10, 11], [], [12], [(.slot 51)]⟩ :: ⟨[9, 12], [], [13], [(.slot 52)]⟩ :: ⟨[9, 13], [], [14], [(.slot 53)]⟩ :: ⟨[14], [], [15], [(.slot 54)]⟩ :: ⟨[15], [], [16], [(.slot 55)]⟩ :: ⟨[15], [], [17], [(.slot 56)]⟩ :: ⟨[15], [], [18], [(.slot 57)]⟩ :: ⟨[15], [], [19], [(.slot 58)]⟩ :: ⟨[15], [], [20], [(.slot 59)]⟩ :: ⟨[15], [], [21], [(.slot 60)]⟩ :: [])) (es' := [(_, _), (_, _), (60, .v (.bool true))]) (by kernel_rfl) rfl rfl
            ⟨st_plain rfl (op_move _ _ _ _ rfl rfl),
            st_plain rfl (op_move _ _ _ _ rfl rfl),
            st_plain rfl (op_bin _ _ _ _ _ rfl rfl (ibind (f := Value.int .i64) (Option.some.inj hv20))),
            st_plain rfl (op_call _ _ 22 _ _ rfl Tryd.call22 rfl (ok_wherryref11_in v20 1 63 _ hv21) rfl rfl),
            st_plain rfl (op_un _ _ _ _ rfl rfl),
            st_plain rfl (op_move _ _ _ _ (congrArg (fun b => AV.v (Value.bool b)) hg10_5) rfl),
            st_run 5 48 false rfl rfl rfl (List.Mem.head _) (op_move _ _ _ _ rfl rfl),
            st_run 5 48 false rfl rfl rfl (List.Mem.head _) (op_move _ _ _ _ rfl rfl),
            st_run 5 48 false rfl rfl rfl (List.Mem.head _) (op_chr _ _ _ s88 _ Tryd.underlying9 rfl rfl hv22),
            st_run 5 48 false rfl rfl rfl (List.Mem.head _) (op_bin _ _ _ _ _ rfl rfl rfl),
            st_plain rfl (op_pick _ _ false _ rfl rfl),
            st_plain rfl (op_move _ _ _ _ (congrArg (fun b => AV.v (Value.bool b)) hg10_11) rfl),
            st_skip 11 54 _ false rfl rfl rfl rfl (List.Mem.head _),
            st_skip 11 54 _ false rfl rfl rfl rfl (List.Mem.head _),
            st_skip 11 54 _ false rfl rfl rfl rfl (List.Mem.head _),
            st_skip 11 54 _ false rfl rfl rfl rfl (List.Mem.head _),
            st_skip 11 54 _ false rfl rfl rfl rfl (List.Mem.head _),
            st_plain rfl (op_pick _ _ true _ rfl rfl),
            trivial⟩ ?_
           exact hl163 _ (Option.some.inj h).symm
          ·obtain ⟨v23, hv23, h⟩ := bind_some h
           obtain ⟨v24, hv24, h⟩ := bind_some h
           refine ht_seqR hn (El := (_ :: _ :: _ :: _ :: (43, .v (.int .i64 s89)) :: (44, .v (.int .i64 s88)) :: (45, .v (.int .i64 v20)) :: (46, .v (.bool v21)) :: (47, .v (.bool (!v21))) :: (48, .v (.bool false)) :: (49, .v (.string s)) :: (50, .v (.int .i64 s88)) :: (51, .v (.int .u8 v22)) :: (52, .v (.bool (v22 == 45))) :: (53, .v (.bool (v22 == 45))) :: (54, .v (.bool false)) :: (55, .v (.string s)) :: (56, .v (.int .i64 s89)) :: (57, .v (.int .i64 v23)) :: (58, .v (.int .u8 v24)) :: (59, .v (.bool (v24 == 45))) :: (60, .v (.bool (v24 == 45))) :: [])) (init := [0, 1, 2, 3]) (fin := [0, 2, 21]) (sps := (⟨[2], [], [4], [(.slot 43)]⟩ :: ⟨[1], [], [5], [(.slot 44)]⟩ :: ⟨[4, 5], [], [6], [(.slot 45)]⟩ :: ⟨[6], [], [7], [(.slot 46)]⟩ :: ⟨[7], [], [8], [(.slot 47)]⟩ :: ⟨[8], [], [9], [(.slot 48)]⟩ :: ⟨[9, 0], [], [10], [(.slot 49)]⟩ :: ⟨[9, 1], [], [11], [(.slot 50)]⟩ :: ⟨[9, 10, 11], [], [12], [(.slot 51)]⟩ :: ⟨[9, 12], [], [13], [(.slot 52)]⟩ :: ⟨[9, 13], [], [14], [(.slot 53)]⟩ :: ⟨[14], [], [15], [(.slot 54)]⟩ :: ⟨[15, 0], [], [16], [(.slot 55)]⟩ :: ⟨[15, 2], [], [17], [(.slot 56)]⟩ :: ⟨[15, 17], [], [18], [(.slot 57)]⟩ :: ⟨[15, 16, 18], [], [19], [(.slot 58)]⟩ :: ⟨[15, 19], [], [20], [(.slot 59)]⟩ :: ⟨[15, 20], [], [21], [(.slot 60)]⟩ :: [])) (es' := [(_, _), (_, _), (60, .v (.bool (v24 == 45)))]) (by kernel_rfl) rfl rfl
            ⟨st_plain rfl (op_move _ _ _ _ rfl rfl),
            st_plain rfl (op_move _ _ _ _ rfl rfl),
            st_plain rfl (op_bin _ _ _ _ _ rfl rfl (ibind (f := Value.int .i64) (Option.some.inj hv20))),
            st_plain rfl (op_call _ _ 22 _ _ rfl Tryd.call22 rfl (ok_wherryref11_in v20 1 63 _ hv21) rfl rfl),
            st_plain rfl (op_un _ _ _ _ rfl rfl),
            st_plain rfl (op_move _ _ _ _ (congrArg (fun b => AV.v (Value.bool b)) hg10_5) rfl),
            st_run 5 48 false rfl rfl rfl (List.Mem.head _) (op_move _ _ _ _ rfl rfl),
            st_run 5 48 false rfl rfl rfl (List.Mem.head _) (op_move _ _ _ _ rfl rfl),
            st_run 5 48 false rfl rfl rfl (List.Mem.head _) (op_chr _ _ _ s88 _ Tryd.underlying9 rfl rfl hv22),
            st_run 5 48 false rfl rfl rfl (List.Mem.head _) (op_bin _ _ _ _ _ rfl rfl rfl),
            st_plain rfl (op_pick _ _ false _ rfl rfl),
            st_plain rfl (op_move _ _ _ _ (congrArg (fun b => AV.v (Value.bool b)) hg10_11) rfl),
            st_run 11 54 false rfl rfl rfl (List.Mem.head _) (op_move _ _ _ _ rfl rfl),
            st_run 11 54 false rfl rfl rfl (List.Mem.head _) (op_move _ _ _ _ rfl rfl),
            st_run 11 54 false rfl rfl rfl (List.Mem.head _) (op_bin _ _ _ _ _ rfl rfl (ibind (f := Value.int .i64) (Option.some.inj hv23))),
            st_run 11 54 false rfl rfl rfl (List.Mem.head _) (op_chr _ _ _ v23 _ Tryd.underlying9 rfl rfl hv24),
            st_run 11 54 false rfl rfl rfl (List.Mem.head _) (op_bin _ _ _ _ _ rfl rfl rfl),
            st_plain rfl (op_pick _ _ false _ rfl rfl),
            trivial⟩ ?_
           exact hl163 _ (Option.some.inj h).symm
      ·intro u152 h hl153 hr154
       refine cond_some h (fun hg7_4 h => ?_) (fun hg7_4 h => ?_)
       ·obtain ⟨v4, hv4, h⟩ := bind_some h
        refine ht_seqR hn (El := [_, _, _, _, (15, .v (.int .i64 s89)), (16, .v (.string s)), (17, .v (.int .i64 (s.size : Int))), (18, .v (.bool ((decide (s89 < (s.size : Int)))))), (19, .v (.bool true)), (20, .v (.string s)), (21, .v (.int .i64 s89)), (22, .v (.int .u8 v4)), (23, .v (.bool (v4 != 46))), (24, .v (.bool (v4 != 46)))]) (init := [0, 1, 2, 3]) (fin := [0, 1, 2, 13]) (sps := [⟨[2], [], [4], [(.slot 15)]⟩, ⟨[0], [], [5], [(.slot 16)]⟩, ⟨[5], [], [6], [(.slot 17)]⟩, ⟨[4, 6], [], [7], [(.slot 18)]⟩, ⟨[7], [], [8], [(.slot 19)]⟩, ⟨[8, 0], [], [9], [(.slot 20)]⟩, ⟨[8, 2], [], [10], [(.slot 21)]⟩, ⟨[8, 9, 10], [], [11], [(.slot 22)]⟩, ⟨[8, 11], [], [12], [(.slot 23)]⟩, ⟨[8, 12], [], [13], [(.slot 24)]⟩]) (es' := [(_, _), (_, _), (_, _), (24, .v (.bool (v4 != 46)))]) (by kernel_rfl) rfl rfl
         ⟨st_plain rfl (op_move _ _ _ _ rfl rfl),
         st_plain rfl (op_move _ _ _ _ rfl rfl),
         st_plain rfl (op_len_str _ _ _ Tryd.underlying9 rfl),
         st_plain rfl (op_bin _ _ _ _ _ rfl rfl rfl),
         st_plain rfl (op_move _ _ _ _ (congrArg (fun b => AV.v (Value.bool b)) hg7_4) rfl),
         st_run 4 19 true rfl rfl rfl (List.Mem.head _) (op_move _ _ _ _ rfl rfl),
         st_run 4 19 true rfl rfl rfl (List.Mem.head _) (op_move _ _ _ _ rfl rfl),
         st_run 4 19 true rfl rfl rfl (List.Mem.head _) (op_chr _ _ _ s89 _ Tryd.underlying9 rfl rfl hv4),
         st_run 4 19 true rfl rfl rfl (List.Mem.head _) (op_bin _ _ _ _ _ rfl rfl rfl),
         st_plain rfl (op_pick _ _ true _ rfl rfl),
         trivial⟩ ?_
        exact hl153 _ (Option.some.inj h).symm
       ·refine ht_seqR hn (El := [_, _, _, _, (15, .v (.int .i64 s89)), (16, .v (.string s)), (17, .v (.int .i64 (s.size : Int))), (18, .v (.bool ((decide (s89 < (s.size : Int)))))), (19, .v (.bool false)), (20, .v undef), (21, .v undef), (22, .v undef), (23, .v undef), (24, .v (.bool false))]) (init := [0, 1, 2, 3]) (fin := [0, 1, 2, 13]) (sps := [⟨[2], [], [4], [(.slot 15)]⟩, ⟨[0], [], [5], [(.slot 16)]⟩, ⟨[5], [], [6], [(.slot 17)]⟩, ⟨[4, 6], [], [7], [(.slot 18)]⟩, ⟨[7], [], [8], [(.slot 19)]⟩, ⟨[8], [], [9], [(.slot 20)]⟩, ⟨[8], [], [10], [(.slot 21)]⟩, ⟨[8], [], [11], [(.slot 22)]⟩, ⟨[8], [], [12], [(.slot 23)]⟩, ⟨[8], [], [13], [(.slot 24)]⟩]) (es' := [(_, _), (_, _), (_, _), (24, .v (.bool false))]) (by kernel_rfl) rfl rfl
         ⟨st_plain rfl (op_move _ _ _ _ rfl rfl),
         st_plain rfl (op_move _ _ _ _ rfl rfl),
         st_plain rfl (op_len_str _ _ _ Tryd.underlying9 rfl),
         st_plain rfl (op_bin _ _ _ _ _ rfl rfl rfl),
         st_plain rfl (op_move _ _ _ _ (congrArg (fun b => AV.v (Value.bool b)) hg7_4) rfl),
         st_skip 4 19 _ true rfl rfl rfl rfl (List.Mem.head _),
         st_skip 4 19 _ true rfl rfl rfl rfl (List.Mem.head _),
         st_skip 4 19 _ true rfl rfl rfl rfl (List.Mem.head _),
         st_skip 4 19 _ true rfl rfl rfl rfl (List.Mem.head _),
         st_plain rfl (op_pick _ _ false _ rfl rfl),
         trivial⟩ ?_
        exact hl153 _ (Option.some.inj h).symm
    ·have h := cond_f hb131 h
     refine ht_exit ?_
     refine pt_x_then ?_
     refine pt_x_then ?_
     refine pt_x_in ?_
     refine pt_pick [] (by kernel_rfl) (es' := []) rfl ?_
     exact hl126 _ (ho128 _ (Option.some.inj h).symm).symm
end Go.Proofs.YthfmdofkkkpbkaaDoor
