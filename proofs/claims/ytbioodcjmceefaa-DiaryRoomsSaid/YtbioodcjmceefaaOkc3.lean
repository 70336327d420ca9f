/-
  The model's runs are what is told in Lean.
-/
import Derived.Test.YtbioodcjmceefaaProg
import Derived.KernelRfl
import Derived.Test.YtbioodcjmceefaaOkc2
set_option linter.unusedVariables false
set_option linter.unusedSimpArgs false
namespace Go.Proofs.Ytbioodcjmceefaa
open Go.Abs Go.Abs.Sh

set_option maxHeartbeats 1000000 in
theorem ok_wherrykeep_Rec (a : T_Rec) (b : T_Rec) (r : Bool) (h : Sh.wherrykeep_Rec a b = some r) : FnOK Try.prog 51 [.agg [.v (.int .i64 a.Kind), .v (.bool a.Mail.From.Null), .v (.string a.Mail.From.Local), .v (.string a.Mail.From.Domain), .fl .shr 3 (List.flatten (List.map T_Path.enc a.Mail.To)), .fl .shr 1 (List.map (Value.int .u8) a.Mail.Body), .v (.bool a.Mail.Quiet), .v (.string a.Mail.Helo), .v (.int .i64 a.Mail.At), .v (.int .i64 a.Id), .fl .shr 1 (List.map (Value.int .i64) a.Ids), .v (.int .i64 a.Origin), .v (.int .i64 a.Number), .v (.int .i64 a.Offset), .fl .shr 1 (List.map (Value.int .u8) a.Data)], .agg [.v (.int .i64 b.Kind), .v (.bool b.Mail.From.Null), .v (.string b.Mail.From.Local), .v (.string b.Mail.From.Domain), .fl .shr 3 (List.flatten (List.map T_Path.enc b.Mail.To)), .fl .shr 1 (List.map (Value.int .u8) b.Mail.Body), .v (.bool b.Mail.Quiet), .v (.string b.Mail.Helo), .v (.int .i64 b.Mail.At), .v (.int .i64 b.Id), .fl .shr 1 (List.map (Value.int .i64) b.Ids), .v (.int .i64 b.Origin), .v (.int .i64 b.Number), .v (.int .i64 b.Offset), .fl .shr 1 (List.map (Value.int .u8) b.Data)]] (.v (.bool r)) := by
  unfold Sh.wherrykeep_Rec at h
  refine fn_ok Try.func51 rfl (Nat.le_of_ble_eq_true rfl) rfl rfl fun g0 hn hio => ?_
  refine ht_seq ?_
  refine ht_seqR hn (El := [_, _, (2, .box 46 [.v (.int .i64 a.Kind), .v (.bool a.Mail.From.Null), .v (.string a.Mail.From.Local), .v (.string a.Mail.From.Domain), .fl .shr 3 (List.flatten (List.map T_Path.enc a.Mail.To)), .fl .shr 1 (List.map (Value.int .u8) a.Mail.Body), .v (.bool a.Mail.Quiet), .v (.string a.Mail.Helo), .v (.int .i64 a.Mail.At), .v (.int .i64 a.Id), .fl .shr 1 (List.map (Value.int .i64) a.Ids), .v (.int .i64 a.Origin), .v (.int .i64 a.Number), .v (.int .i64 a.Offset), .fl .shr 1 (List.map (Value.int .u8) a.Data)]), (3, .box 46 [.v (.int .i64 b.Kind), .v (.bool b.Mail.From.Null), .v (.string b.Mail.From.Local), .v (.string b.Mail.From.Domain), .fl .shr 3 (List.flatten (List.map T_Path.enc b.Mail.To)), .fl .shr 1 (List.map (Value.int .u8) b.Mail.Body), .v (.bool b.Mail.Quiet), .v (.string b.Mail.Helo), .v (.int .i64 b.Mail.At), .v (.int .i64 b.Id), .fl .shr 1 (List.map (Value.int .i64) b.Ids), .v (.int .i64 b.Origin), .v (.int .i64 b.Number), .v (.int .i64 b.Offset), .fl .shr 1 (List.map (Value.int .u8) b.Data)]), (4, .v (.bool false))]) (init := [0, 1]) (fin := [2, 3]) (sps := [⟨[0], [], [2], [(.slot 2)]⟩, ⟨[1], [], [3], [(.slot 3)]⟩, ⟨[], [], [4], [(.slot 4)]⟩]) (es' := [(2, .box 46 [.v (.int .i64 a.Kind), .v (.bool a.Mail.From.Null), .v (.string a.Mail.From.Local), .v (.string a.Mail.From.Domain), .fl .shr 3 (List.flatten (List.map T_Path.enc a.Mail.To)), .fl .shr 1 (List.map (Value.int .u8) a.Mail.Body), .v (.bool a.Mail.Quiet), .v (.string a.Mail.Helo), .v (.int .i64 a.Mail.At), .v (.int .i64 a.Id), .fl .shr 1 (List.map (Value.int .i64) a.Ids), .v (.int .i64 a.Origin), .v (.int .i64 a.Number), .v (.int .i64 a.Offset), .fl .shr 1 (List.map (Value.int .u8) a.Data)]), (3, .box 46 [.v (.int .i64 b.Kind), .v (.bool b.Mail.From.Null), .v (.string b.Mail.From.Local), .v (.string b.Mail.From.Domain), .fl .shr 3 (List.flatten (List.map T_Path.enc b.Mail.To)), .fl .shr 1 (List.map (Value.int .u8) b.Mail.Body), .v (.bool b.Mail.Quiet), .v (.string b.Mail.Helo), .v (.int .i64 b.Mail.At), .v (.int .i64 b.Id), .fl .shr 1 (List.map (Value.int .i64) b.Ids), .v (.int .i64 b.Origin), .v (.int .i64 b.Number), .v (.int .i64 b.Offset), .fl .shr 1 (List.map (Value.int .u8) b.Data)])]) (by kernel_rfl) rfl rfl
   ⟨st_plain rfl (op_box _ _ _ _ rfl rfl rfl),
   st_plain rfl (op_box _ _ _ _ rfl rfl rfl),
   st_plain rfl (op_assign _ _ _ _ rfl rfl),
   trivial⟩ ?_
  refine pt_then ?_
  refine ht_seq ?_
  refine ht_joinS h (fun (s4 : Bool) => [(4, .v (.bool s4))]) ?_ ?_
  ·rintro s4 h
   refine pt_then ?_
   refine ht_ret ?_
   obtain rfl := Option.some.inj h
   exact pt_ret hio rfl (.tmp _ _ .nil) rfl rfl
  ·intro u5 h hl6 hr7
   refine cond_some h (fun hg1_5 h => ?_) (fun hg1_5 h => ?_)
   ·obtain ⟨v1, hv1, h⟩ := bind_some h
    refine cond_some h (fun hg1_12 h => ?_) (fun hg1_12 h => ?_)
    ·refine cond_some h (fun hg1_19 h => ?_) (fun hg1_19 h => ?_)
     ·obtain ⟨v2, hv2, h⟩ := bind_some h
      refine cond_some h (fun hg1_26 h => ?_) (fun hg1_26 h => ?_)
      ·refine cond_some h (fun hg1_33 h => ?_) (fun hg1_33 h => ?_)
       ·refine cond_some h (fun hg1_40 h => ?_) (fun hg1_40 h => ?_)
        ·refine cond_some h (fun hg1_47 h => ?_) (fun hg1_47 h => ?_)
         ·obtain ⟨v3, hv3, h⟩ := bind_some h
          refine ht_seqR hn (El := (_ :: _ :: (5, .ptr 2 0) :: (6, .v (.int .i64 a.Kind)) :: (7, .ptr 3 0) :: (8, .v (.int .i64 b.Kind)) :: (9, .v (.bool (a.Kind == b.Kind))) :: (10, .v (.bool true)) :: (11, .ptr 2 1) :: (12, .agg [.v (.bool a.Mail.From.Null), .v (.string a.Mail.From.Local), .v (.string a.Mail.From.Domain), .fl .shr 3 (List.flatten (List.map T_Path.enc a.Mail.To)), .fl .shr 1 (List.map (Value.int .u8) a.Mail.Body), .v (.bool a.Mail.Quiet), .v (.string a.Mail.Helo), .v (.int .i64 a.Mail.At)]) :: (13, .ptr 3 1) :: (14, .agg [.v (.bool b.Mail.From.Null), .v (.string b.Mail.From.Local), .v (.string b.Mail.From.Domain), .fl .shr 3 (List.flatten (List.map T_Path.enc b.Mail.To)), .fl .shr 1 (List.map (Value.int .u8) b.Mail.Body), .v (.bool b.Mail.Quiet), .v (.string b.Mail.Helo), .v (.int .i64 b.Mail.At)]) :: (15, .v (.bool v1)) :: (16, .v (.bool v1)) :: (17, .v (.bool true)) :: (18, .ptr 2 9) :: (19, .v (.int .i64 a.Id)) :: (20, .ptr 3 9) :: (21, .v (.int .i64 b.Id)) :: (22, .v (.bool (a.Id == b.Id))) :: (23, .v (.bool (a.Id == b.Id))) :: (24, .v (.bool true)) :: (25, .ptr 2 10) :: (26, .fl .shr 1 (List.map (Value.int .i64) a.Ids)) :: (27, .ptr 3 10) :: (28, .fl .shr 1 (List.map (Value.int .i64) b.Ids)) :: (29, .v (.bool v2)) :: (30, .v (.bool v2)) :: (31, .v (.bool true)) :: (32, .ptr 2 11) :: (33, .v (.int .i64 a.Origin)) :: (34, .ptr 3 11) :: (35, .v (.int .i64 b.Origin)) :: (36, .v (.bool (a.Origin == b.Origin))) :: (37, .v (.bool (a.Origin == b.Origin))) :: (38, .v (.bool true)) :: (39, .ptr 2 12) :: (40, .v (.int .i64 a.Number)) :: (41, .ptr 3 12) :: (42, .v (.int .i64 b.Number)) :: (43, .v (.bool (a.Number == b.Number))) :: (44, .v (.bool (a.Number == b.Number))) :: (45, .v (.bool true)) :: (46, .ptr 2 13) :: (47, .v (.int .i64 a.Offset)) :: (48, .ptr 3 13) :: (49, .v (.int .i64 b.Offset)) :: (50, .v (.bool (a.Offset == b.Offset))) :: (51, .v (.bool (a.Offset == b.Offset))) :: (52, .v (.bool true)) :: (53, .ptr 2 14) :: (54, .fl .shr 1 (List.map (Value.int .u8) a.Data)) :: (55, .ptr 3 14) :: (56, .fl .shr 1 (List.map (Value.int .u8) b.Data)) :: (57, .v (.bool v3)) :: (58, .v (.bool v3)) :: (4, .v (.bool v3)) :: [])) (init := [0, 1]) (fin := [56]) (sps := (⟨[0], [], [2], [(.slot 5)]⟩ :: ⟨[2, 0], [], [3], [(.slot 6)]⟩ :: ⟨[1], [], [4], [(.slot 7)]⟩ :: ⟨[4, 1], [], [5], [(.slot 8)]⟩ :: ⟨[3, 5], [], [6], [(.slot 9)]⟩ :: ⟨[6], [], [7], [(.slot 10)]⟩ :: ⟨[7, 0], [], [8], [(.slot 11)]⟩ :: ⟨[7, 8, 0], [], [9], [(.slot 12)]⟩ :: ⟨[7, 1], [], [10], [(.slot 13)]⟩ :: ⟨[7, 10, 1], [], [11], [(.slot 14)]⟩ :: ⟨[7, 9, 11], [], [12], [(.slot 15)]⟩ :: ⟨[7, 12], [], [13], [(.slot 16)]⟩ :: ⟨[13], [], [14], [(.slot 17)]⟩ :: ⟨[14, 0], [], [15], [(.slot 18)]⟩ :: ⟨[14, 15, 0], [], [16], [(.slot 19)]⟩ :: ⟨[14, 1], [], [17], [(.slot 20)]⟩ :: ⟨[14, 17, 1], [], [18], [(.slot 21)]⟩ :: ⟨[14, 16, 18], [], [19], [(.slot 22)]⟩ :: ⟨[14, 19], [], [20], [(.slot 23)]⟩ :: ⟨[20], [], [21], [(.slot 24)]⟩ :: ⟨[21, 0], [], [22], [(.slot 25)]⟩ :: ⟨[21, 22, 0], [], [23], [(.slot 26)]⟩ :: ⟨[21, 1], [], [24], [(.slot 27)]⟩ :: ⟨[21, 24, 1], [], [25], [(.slot 28)]⟩ :: ⟨[21, 23, 25], [], [26], [(.slot 29)]⟩ :: ⟨[21, 26], [], [27], [(.slot 30)]⟩ :: ⟨[27], [], [28], [(.slot 31)]⟩ :: ⟨[28, 0], [], [29], [(.slot 32)]⟩ :: ⟨[28, 29, 0], [], [30], [(.slot 33)]⟩ :: ⟨[28, 1], [], [31], [(.slot 34)]⟩ :: ⟨[28, 31, 1], [], [32], [(.slot 35)]⟩ :: ⟨[28, 30, 32], [], [33], [(.slot 36)]⟩ :: ⟨[28, 33], [], [34], [(.slot 37)]⟩ :: ⟨[34], [], [35], [(.slot 38)]⟩ :: ⟨[35, 0], [], [36], [(.slot 39)]⟩ :: ⟨[35, 36, 0], [], [37], [(.slot 40)]⟩ :: ⟨[35, 1], [], [38], [(.slot 41)]⟩ :: ⟨[35, 38, 1], [], [39], [(.slot 42)]⟩ :: ⟨[35, 37, 39], [], [40], [(.slot 43)]⟩ :: ⟨[35, 40], [], [41], [(.slot 44)]⟩ :: ⟨[41], [], [42], [(.slot 45)]⟩ :: ⟨[42, 0], [], [43], [(.slot 46)]⟩ :: ⟨[42, 43, 0], [], [44], [(.slot 47)]⟩ :: ⟨[42, 1], [], [45], [(.slot 48)]⟩ :: ⟨[42, 45, 1], [], [46], [(.slot 49)]⟩ :: ⟨[42, 44, 46], [], [47], [(.slot 50)]⟩ :: ⟨[42, 47], [], [48], [(.slot 51)]⟩ :: ⟨[48], [], [49], [(.slot 52)]⟩ :: ⟨[49, 0], [], [50], [(.slot 53)]⟩ :: ⟨[49, 50, 0], [], [51], [(.slot 54)]⟩ :: ⟨[49, 1], [], [52], [(.slot 55)]⟩ :: ⟨[49, 52, 1], [], [53], [(.slot 56)]⟩ :: ⟨[49, 51, 53], [], [54], [(.slot 57)]⟩ :: ⟨[49, 54], [], [55], [(.slot 58)]⟩ :: ⟨[55], [], [56], [(.slot 4)]⟩ :: [])) (es' := [(4, .v (.bool v3))]) (by kernel_rfl) rfl rfl
           ⟨st_plain rfl (op_fieldAddr _ _ _ _ 2 0 _ Try.underlying46 rfl sz3 rfl rfl (by decide)),
           st_plain rfl (op_load _ _ _ _ _ _ Try.underlying3 rfl rfl rfl (Nat.le_of_ble_eq_true rfl) rfl rfl rfl),
           st_plain rfl (op_fieldAddr _ _ _ _ 3 0 _ Try.underlying46 rfl sz3 rfl rfl (by decide)),
           st_plain rfl (op_load _ _ _ _ _ _ Try.underlying3 rfl rfl rfl (Nat.le_of_ble_eq_true rfl) rfl rfl rfl),
           st_plain rfl (op_bin _ _ _ _ _ rfl rfl rfl),
           st_plain rfl (op_move _ _ _ _ (congrArg (fun b => AV.v (Value.bool b)) hg1_5) rfl),
           st_run 5 10 true rfl rfl rfl (List.Mem.head _) (op_fieldAddr _ _ _ _ 2 0 _ Try.underlying46 rfl sz43 rfl rfl (by decide)),
           st_run 5 10 true rfl rfl rfl (List.Mem.head _) (op_loadA _ _ _ _ _ _ _ Try.underlying43 rfl sz43 rfl rfl (Nat.le_of_ble_eq_true rfl) rfl rfl),
           st_run 5 10 true rfl rfl rfl (List.Mem.head _) (op_fieldAddr _ _ _ _ 3 0 _ Try.underlying46 rfl sz43 rfl rfl (by decide)),
           st_run 5 10 true rfl rfl rfl (List.Mem.head _) (op_loadA _ _ _ _ _ _ _ Try.underlying43 rfl sz43 rfl rfl (Nat.le_of_ble_eq_true rfl) rfl rfl),
           st_run 5 10 true rfl rfl rfl (List.Mem.head _) (op_call _ _ 59 _ _ rfl Try.call59 rfl (ok_wherrykeep_Mail ((T_Mail.mk (T_Path.mk a.Mail.From.Null a.Mail.From.Local a.Mail.From.Domain) a.Mail.To a.Mail.Body a.Mail.Quiet a.Mail.Helo a.Mail.At)) ((T_Mail.mk (T_Path.mk b.Mail.From.Null b.Mail.From.Local b.Mail.From.Domain) b.Mail.To b.Mail.Body b.Mail.Quiet b.Mail.Helo b.Mail.At)) _ hv1) rfl rfl),
           st_plain rfl (op_pick _ _ true _ rfl rfl),
           st_plain rfl (op_move _ _ _ _ (congrArg (fun b => AV.v (Value.bool b)) hg1_12) rfl),
           st_run 12 17 true rfl rfl rfl (List.Mem.head _) (op_fieldAddr _ _ _ _ 2 0 _ Try.underlying46 rfl sz3 rfl rfl (by decide)),
           st_run 12 17 true rfl rfl rfl (List.Mem.head _) (op_load _ _ _ _ _ _ Try.underlying3 rfl rfl rfl (Nat.le_of_ble_eq_true rfl) rfl rfl rfl),
           st_run 12 17 true rfl rfl rfl (List.Mem.head _) (op_fieldAddr _ _ _ _ 3 0 _ Try.underlying46 rfl sz3 rfl rfl (by decide)),
           st_run 12 17 true rfl rfl rfl (List.Mem.head _) (op_load _ _ _ _ _ _ Try.underlying3 rfl rfl rfl (Nat.le_of_ble_eq_true rfl) rfl rfl rfl),
           st_run 12 17 true rfl rfl rfl (List.Mem.head _) (op_bin _ _ _ _ _ rfl rfl rfl),
           st_plain rfl (op_pick _ _ true _ rfl rfl),
           st_plain rfl (op_move _ _ _ _ (congrArg (fun b => AV.v (Value.bool b)) hg1_19) rfl),
           st_run 19 24 true rfl rfl rfl (List.Mem.head _) (op_fieldAddr _ _ _ _ 2 0 _ Try.underlying46 rfl sz44 rfl rfl (by decide)),
           st_run 19 24 true rfl rfl rfl (List.Mem.head _) (op_load _ _ _ _ _ _ Try.underlying44 rfl rfl rfl (Nat.le_of_ble_eq_true rfl) rfl rfl rfl),
           st_run 19 24 true rfl rfl rfl (List.Mem.head _) (op_fieldAddr _ _ _ _ 3 0 _ Try.underlying46 rfl sz44 rfl rfl (by decide)),
           st_run 19 24 true rfl rfl rfl (List.Mem.head _) (op_load _ _ _ _ _ _ Try.underlying44 rfl rfl rfl (Nat.le_of_ble_eq_true rfl) rfl rfl rfl),
           st_run 19 24 true rfl rfl rfl (List.Mem.head _) (op_call _ _ 60 _ _ rfl Try.call60 rfl (ok_wherrykeep_Ints a.Ids b.Ids _ hv2) rfl rfl),
           st_plain rfl (op_pick _ _ true _ rfl rfl),
           st_plain rfl (op_move _ _ _ _ (congrArg (fun b => AV.v (Value.bool b)) hg1_26) rfl),
           st_run 26 31 true rfl rfl rfl (List.Mem.head _) (op_fieldAddr _ _ _ _ 2 0 _ Try.underlying46 rfl sz3 rfl rfl (by decide)),
           st_run 26 31 true rfl rfl rfl (List.Mem.head _) (op_load _ _ _ _ _ _ Try.underlying3 rfl rfl rfl (Nat.le_of_ble_eq_true rfl) rfl rfl rfl),
           st_run 26 31 true rfl rfl rfl (List.Mem.head _) (op_fieldAddr _ _ _ _ 3 0 _ Try.underlying46 rfl sz3 rfl rfl (by decide)),
           st_run 26 31 true rfl rfl rfl (List.Mem.head _) (op_load _ _ _ _ _ _ Try.underlying3 rfl rfl rfl (Nat.le_of_ble_eq_true rfl) rfl rfl rfl),
           st_run 26 31 true rfl rfl rfl (List.Mem.head _) (op_bin _ _ _ _ _ rfl rfl rfl),
           st_plain rfl (op_pick _ _ true _ rfl rfl),
           st_plain rfl (op_move _ _ _ _ (congrArg (fun b => AV.v (Value.bool b)) hg1_33) rfl),
           st_run 33 38 true rfl rfl rfl (List.Mem.head _) (op_fieldAddr _ _ _ _ 2 0 _ Try.underlying46 rfl sz3 rfl rfl (by decide)),
           st_run 33 38 true rfl rfl rfl (List.Mem.head _) (op_load _ _ _ _ _ _ Try.underlying3 rfl rfl rfl (Nat.le_of_ble_eq_true rfl) rfl rfl rfl),
           st_run 33 38 true rfl rfl rfl (List.Mem.head _) (op_fieldAddr _ _ _ _ 3 0 _ Try.underlying46 rfl sz3 rfl rfl (by decide)),
           st_run 33 38 true rfl rfl rfl (List.Mem.head _) (op_load _ _ _ _ _ _ Try.underlying3 rfl rfl rfl (Nat.le_of_ble_eq_true rfl) rfl rfl rfl),
           st_run 33 38 true rfl rfl rfl (List.Mem.head _) (op_bin _ _ _ _ _ rfl rfl rfl),
           st_plain rfl (op_pick _ _ true _ rfl rfl),
           st_plain rfl (op_move _ _ _ _ (congrArg (fun b => AV.v (Value.bool b)) hg1_40) rfl),
           st_run 40 45 true rfl rfl rfl (List.Mem.head _) (op_fieldAddr _ _ _ _ 2 0 _ Try.underlying46 rfl sz3 rfl rfl (by decide)),
           st_run 40 45 true rfl rfl rfl (List.Mem.head _) (op_load _ _ _ _ _ _ Try.underlying3 rfl rfl rfl (Nat.le_of_ble_eq_true rfl) rfl rfl rfl),
           st_run 40 45 true rfl rfl rfl (List.Mem.head _) (op_fieldAddr _ _ _ _ 3 0 _ Try.underlying46 rfl sz3 rfl rfl (by decide)),
           st_run 40 45 true rfl rfl rfl (List.Mem.head _) (op_load _ _ _ _ _ _ Try.underlying3 rfl rfl rfl (Nat.le_of_ble_eq_true rfl) rfl rfl rfl),
           st_run 40 45 true rfl rfl rfl (List.Mem.head _) (op_bin _ _ _ _ _ rfl rfl rfl),
           st_plain rfl (op_pick _ _ true _ rfl rfl),
           st_plain rfl (op_move _ _ _ _ (congrArg (fun b => AV.v (Value.bool b)) hg1_47) rfl),
           st_run 47 52 true rfl rfl rfl (List.Mem.head _) (op_fieldAddr _ _ _ _ 2 0 _ Try.underlying46 rfl sz41 rfl rfl (by decide)),
           st_run 47 52 true rfl rfl rfl (List.Mem.head _) (op_load _ _ _ _ _ _ Try.underlying41 rfl rfl rfl (Nat.le_of_ble_eq_true rfl) rfl rfl rfl),
           st_run 47 52 true rfl rfl rfl (List.Mem.head _) (op_fieldAddr _ _ _ _ 3 0 _ Try.underlying46 rfl sz41 rfl rfl (by decide)),
           st_run 47 52 true rfl rfl rfl (List.Mem.head _) (op_load _ _ _ _ _ _ Try.underlying41 rfl rfl rfl (Nat.le_of_ble_eq_true rfl) rfl rfl rfl),
           st_run 47 52 true rfl rfl rfl (List.Mem.head _) (op_call _ _ 61 _ _ rfl Try.call61 rfl (ok_wherrykeep_Bytes a.Data b.Data _ hv3) rfl rfl),
           st_plain rfl (op_pick _ _ true _ rfl rfl),
           st_plain rfl (op_assign _ _ _ _ rfl rfl),
           trivial⟩ ?_
          exact hl6 _ (Option.some.inj h).symm
         ·refine ht_seqR hn (El := (_ :: _ :: (5, .ptr 2 0) :: (6, .v (.int .i64 a.Kind)) :: (7, .ptr 3 0) :: (8, .v (.int .i64 b.Kind)) :: (9, .v (.bool (a.Kind == b.Kind))) :: (10, .v (.bool true)) :: (11, .ptr 2 1) :: (12, .agg [.v (.bool a.Mail.From.Null), .v (.string a.Mail.From.Local), .v (.string a.Mail.From.Domain), .fl .shr 3 (List.flatten (List.map T_Path.enc a.Mail.To)), .fl .shr 1 (List.map (Value.int .u8) a.Mail.Body), .v (.bool a.Mail.Quiet), .v (.string a.Mail.Helo), .v (.int .i64 a.Mail.At)]) :: (13, .ptr 3 1) :: (14, .agg [.v (.bool b.Mail.From.Null), .v (.string b.Mail.From.Local), .v (.string b.Mail.From.Domain), .fl .shr 3 (List.flatten (List.map T_Path.enc b.Mail.To)), .fl .shr 1 (List.map (Value.int .u8) b.Mail.Body), .v (.bool b.Mail.Quiet), .v (.string b.Mail.Helo), .v (.int .i64 b.Mail.At)]) :: (15, .v (.bool v1)) :: (16, .v (.bool v1)) :: (17, .v (.bool true)) :: (18, .ptr 2 9) :: (19, .v (.int .i64 a.Id)) :: (20, .ptr 3 9) :: (21, .v (.int .i64 b.Id)) :: (22, .v (.bool (a.Id == b.Id))) :: (23, .v (.bool (a.Id == b.Id))) :: (24, .v (.bool true)) :: (25, .ptr 2 10) :: (26, .fl .shr 1 (List.map (Value.int .i64) a.Ids)) :: (27, .ptr 3 10) :: (28, .fl .shr 1 (List.map (Value.int .i64) b.Ids)) :: (29, .v (.bool v2)) :: (30, .v (.bool v2)) :: (31, .v (.bool true)) :: (32, .ptr 2 11) :: (33, .v (.int .i64 a.Origin)) :: (34, .ptr 3 11) :: (35, .v (.int .i64 b.Origin)) :: (36, .v (.bool (a.Origin == b.Origin))) :: (37, .v (.bool (a.Origin == b.Origin))) :: (38, .v (.bool true)) :: (39, .ptr 2 12) :: (40, .v (.int .i64 a.Number)) :: (41, .ptr 3 12) :: (42, .v (.int .i64 b.Number)) :: (43, .v (.bool (a.Number == b.Number))) :: (44, .v (.bool (a.Number == b.Number))) :: (45, .v (.bool true)) :: (46, .ptr 2 13) :: (47, .v (.int .i64 a.Offset)) :: (48, .ptr 3 13) :: (49, .v (.int .i64 b.Offset)) :: (50, .v (.bool (a.Offset == b.Offset))) :: (51, .v (.bool (a.Offset == b.Offset))) :: (52, .v (.bool false)) :: (53, .v undef) :: (54, .v undef) :: (55, .v undef) :: (56, .v undef) :: (57, .v undef) :: (58, .v (.bool false)) :: (4, .v (.bool false)) :: [])) (init := [0, 1]) (fin := [56]) (sps := (⟨[0], [], [2], [(.slot 5)]⟩ :: ⟨[2, 0], [], [3], [(.slot 6)]⟩ :: ⟨[1], [], [4], [(.slot 7)]⟩ :: ⟨[4, 1], [], [5], [(.slot 8)]⟩ :: ⟨[3, 5], [], [6], [(.slot 9)]⟩ :: ⟨[6], [], [7], [(.slot 10)]⟩ :: ⟨[7, 0], [], [8], [(.slot 11)]⟩ :: ⟨[7, 8, 0], [], [9], [(.slot 12)]⟩ :: ⟨[7, 1], [], [10], [(.slot 13)]⟩ :: ⟨[7, 10, 1], [], [11], [(.slot 14)]⟩ :: ⟨[7, 9, 11], [], [12], [(.slot 15)]⟩ :: ⟨[7, 12], [], [13], [(.slot 16)]⟩ :: ⟨[13], [], [14], [(.slot 17)]⟩ :: ⟨[14, 0], [], [15], [(.slot 18)]⟩ :: ⟨[14, 15, 0], [], [16], [(.slot 19)]⟩ :: ⟨[14, 1], [], [17], [(.slot 20)]⟩ :: ⟨[14, 17, 1], [], [18], [(.slot 21)]⟩ :: ⟨[14, 16, 18], [], [19], [(.slot 22)]⟩ :: ⟨[14, 19], [], [20], [(.slot 23)]⟩ :: ⟨[20], [], [21], [(.slot 24)]⟩ :: ⟨[21, 0], [], [22], [(.slot 25)]⟩ :: ⟨[21, 22, 0], [], [23], [(.slot 26)]⟩ :: ⟨[21, 1], [], [24], [(.slot 27)]⟩ :: ⟨[21, 24, 1], [], [25], [(.slot 28)]⟩ :: ⟨[21, 23, 25], [], [26], [(.slot 29)]⟩ :: ⟨[21, 26], [], [27], [(.slot 30)]⟩ :: ⟨[27], [], [28], [(.slot 31)]⟩ :: ⟨[28, 0], [], [29], [(.slot 32)]⟩ :: ⟨[28, 29, 0], [], [30], [(.slot 33)]⟩ :: ⟨[28, 1], [], [31], [(.slot 34)]⟩ :: ⟨[28, 31, 1], [], [32], [(.slot 35)]⟩ :: ⟨[28, 30, 32], [], [33], [(.slot 36)]⟩ :: ⟨[28, 33], [], [34], [(.slot 37)]⟩ :: ⟨[34], [], [35], [(.slot 38)]⟩ :: ⟨[35, 0], [], [36], [(.slot 39)]⟩ :: ⟨[35, 36, 0], [], [37], [(.slot 40)]⟩ :: ⟨[35, 1], [], [38], [(.slot 41)]⟩ :: ⟨[35, 38, 1], [], [39], [(.slot 42)]⟩ :: ⟨[35, 37, 39], [], [40], [(.slot 43)]⟩ :: ⟨[35, 40], [], [41], [(.slot 44)]⟩ :: ⟨[41], [], [42], [(.slot 45)]⟩ :: ⟨[42, 0], [], [43], [(.slot 46)]⟩ :: ⟨[42, 43, 0], [], [44], [(.slot 47)]⟩ :: ⟨[42, 1], [], [45], [(.slot 48)]⟩ :: ⟨[42, 45, 1], [], [46], [(.slot 49)]⟩ :: ⟨[42, 44, 46], [], [47], [(.slot 50)]⟩ :: ⟨[42, 47], [], [48], [(.slot 51)]⟩ :: ⟨[48], [], [49], [(.slot 52)]⟩ :: ⟨[49], [], [50], [(.slot 53)]⟩ :: ⟨[49], [], [51], [(.slot 54)]⟩ :: ⟨[49], [], [52], [(.slot 55)]⟩ :: ⟨[49], [], [53], [(.slot 56)]⟩ :: ⟨[49], [], [54], [(.slot 57)]⟩ :: ⟨[49], [], [55], [(.slot 58)]⟩ :: ⟨[55], [], [56], [(.slot 4)]⟩ :: [])) (es' := [(4, .v (.bool false))]) (by kernel_rfl) rfl rfl
           ⟨st_plain rfl (op_fieldAddr _ _ _ _ 2 0 _ Try.underlying46 rfl sz3 rfl rfl (by decide)),
           st_plain rfl (op_load _ _ _ _ _ _ Try.underlying3 rfl rfl rfl (Nat.le_of_ble_eq_true rfl) rfl rfl rfl),
           st_plain rfl (op_fieldAddr _ _ _ _ 3 0 _ Try.underlying46 rfl sz3 rfl rfl (by decide)),
           st_plain rfl (op_load _ _ _ _ _ _ Try.underlying3 rfl rfl rfl (Nat.le_of_ble_eq_true rfl) rfl rfl rfl),
           st_plain rfl (op_bin _ _ _ _ _ rfl rfl rfl),
           st_plain rfl (op_move _ _ _ _ (congrArg (fun b => AV.v (Value.bool b)) hg1_5) rfl),
           st_run 5 10 true rfl rfl rfl (List.Mem.head _) (op_fieldAddr _ _ _ _ 2 0 _ Try.underlying46 rfl sz43 rfl rfl (by decide)),
           st_run 5 10 true rfl rfl rfl (List.Mem.head _) (op_loadA _ _ _ _ _ _ _ Try.underlying43 rfl sz43 rfl rfl (Nat.le_of_ble_eq_true rfl) rfl rfl),
           st_run 5 10 true rfl rfl rfl (List.Mem.head _) (op_fieldAddr _ _ _ _ 3 0 _ Try.underlying46 rfl sz43 rfl rfl (by decide)),
           st_run 5 10 true rfl rfl rfl (List.Mem.head _) (op_loadA _ _ _ _ _ _ _ Try.underlying43 rfl sz43 rfl rfl (Nat.le_of_ble_eq_true rfl) rfl rfl),
           st_run 5 10 true rfl rfl rfl (List.Mem.head _) (op_call _ _ 59 _ _ rfl Try.call59 rfl (ok_wherrykeep_Mail ((T_Mail.mk (T_Path.mk a.Mail.From.Null a.Mail.From.Local a.Mail.From.Domain) a.Mail.To a.Mail.Body a.Mail.Quiet a.Mail.Helo a.Mail.At)) ((T_Mail.mk (T_Path.mk b.Mail.From.Null b.Mail.From.Local b.Mail.From.Domain) b.Mail.To b.Mail.Body b.Mail.Quiet b.Mail.Helo b.Mail.At)) _ hv1) rfl rfl),
           st_plain rfl (op_pick _ _ true _ rfl rfl),
           st_plain rfl (op_move _ _ _ _ (congrArg (fun b => AV.v (Value.bool b)) hg1_12) rfl),
           st_run 12 17 true rfl rfl rfl (List.Mem.head _) (op_fieldAddr _ _ _ _ 2 0 _ Try.underlying46 rfl sz3 rfl rfl (by decide)),
           st_run 12 17 true rfl rfl rfl (List.Mem.head _) (op_load _ _ _ _ _ _ Try.underlying3 rfl rfl rfl (Nat.le_of_ble_eq_true rfl) rfl rfl rfl),
           st_run 12 17 true rfl rfl rfl (List.Mem.head _) (op_fieldAddr _ _ _ _ 3 0 _ Try.underlying46 rfl sz3 rfl rfl (by decide)),
           st_run 12 17 true rfl rfl rfl (List.Mem.head _) (op_load _ _ _ _ _ _ Try.underlying3 rfl rfl rfl (Nat.le_of_ble_eq_true rfl) rfl rfl rfl),
           st_run 12 17 true rfl rfl rfl (List.Mem.head _) (op_bin _ _ _ _ _ rfl rfl rfl),
           st_plain rfl (op_pick _ _ true _ rfl rfl),
           st_plain rfl (op_move _ _ _ _ (congrArg (fun b => AV.v (Value.bool b)) hg1_19) rfl),
           st_run 19 24 true rfl rfl rfl (List.Mem.head _) (op_fieldAddr _ _ _ _ 2 0 _ Try.underlying46 rfl sz44 rfl rfl (by decide)),
           st_run 19 24 true rfl rfl rfl (List.Mem.head _) (op_load _ _ _ _ _ _ Try.underlying44 rfl rfl rfl (Nat.le_of_ble_eq_true rfl) rfl rfl rfl),
           st_run 19 24 true rfl rfl rfl (List.Mem.head _) (op_fieldAddr _ _ _ _ 3 0 _ Try.underlying46 rfl sz44 rfl rfl (by decide)),
           st_run 19 24 true rfl rfl rfl (List.Mem.head _) (op_load _ _ _ _ _ _ Try.underlying44 rfl rfl rfl (Nat.le_of_ble_eq_true rfl) rfl rfl rfl),
           st_run 19 24 true rfl rfl rfl (List.Mem.head _) (op_call _ _ 60 _ _ rfl Try.call60 rfl (ok_wherrykeep_Ints a.Ids b.Ids _ hv2) rfl rfl),
           st_plain rfl (op_pick _ _ true _ rfl rfl),
           st_plain rfl (op_move _ _ _ _ (congrArg (fun b => AV.v (Value.bool b)) hg1_26) rfl),
           st_run 26 31 true rfl rfl rfl (List.Mem.head _) (op_fieldAddr _ _ _ _ 2 0 _ Try.underlying46 rfl sz3 rfl rfl (by decide)),
           st_run 26 31 true rfl rfl rfl (List.Mem.head _) (op_load _ _ _ _ _ _ Try.underlying3 rfl rfl rfl (Nat.le_of_ble_eq_true rfl) rfl rfl rfl),
           st_run 26 31 true rfl rfl rfl (List.Mem.head _) (op_fieldAddr _ _ _ _ 3 0 _ Try.underlying46 rfl sz3 rfl rfl (by decide)),
           st_run 26 31 true rfl rfl rfl (List.Mem.head _) (op_load _ _ _ _ _ _ Try.underlying3 rfl rfl rfl (Nat.le_of_ble_eq_true rfl) rfl rfl rfl),
           st_run 26 31 true rfl rfl rfl (List.Mem.head _) (op_bin _ _ _ _ _ rfl rfl rfl),
           st_plain rfl (op_pick _ _ true _ rfl rfl),
           st_plain rfl (op_move _ _ _ _ (congrArg (fun b => AV.v (Value.bool b)) hg1_33) rfl),
           st_run 33 38 true rfl rfl rfl (List.Mem.head _) (op_fieldAddr _ _ _ _ 2 0 _ Try.underlying46 rfl sz3 rfl rfl (by decide)),
           st_run 33 38 true rfl rfl rfl (List.Mem.head _) (op_load _ _ _ _ _ _ Try.underlying3 rfl rfl rfl (Nat.le_of_ble_eq_true rfl) rfl rfl rfl),
           st_run 33 38 true rfl rfl rfl (List.Mem.head _) (op_fieldAddr _ _ _ _ 3 0 _ Try.underlying46 rfl sz3 rfl rfl (by decide)),
           st_run 33 38 true rfl rfl rfl (List.Mem.head _) (op_load _ _ _ _ _ _ Try.underlying3 rfl rfl rfl (Nat.le_of_ble_eq_true rfl) rfl rfl rfl),
           st_run 33 38 true rfl rfl rfl (List.Mem.head _) (op_bin _ _ _ _ _ rfl rfl rfl),
           st_plain rfl (op_pick _ _ true _ rfl rfl),
           st_plain rfl (op_move _ _ _ _ (congrArg (fun b => AV.v (Value.bool b)) hg1_40) rfl),
           st_run 40 45 true rfl rfl rfl (List.Mem.head _) (op_fieldAddr _ _ _ _ 2 0 _ Try.underlying46 rfl sz3 rfl rfl (by decide)),
           st_run 40 45 true rfl rfl rfl (List.Mem.head _) (op_load _ _ _ _ _ _ Try.underlying3 rfl rfl rfl (Nat.le_of_ble_eq_true rfl) rfl rfl rfl),
           st_run 40 45 true rfl rfl rfl (List.Mem.head _) (op_fieldAddr _ _ _ _ 3 0 _ Try.underlying46 rfl sz3 rfl rfl (by decide)),
           st_run 40 45 true rfl rfl rfl (List.Mem.head _) (op_load _ _ _ _ _ _ Try.underlying3 rfl rfl rfl (Nat.le_of_ble_eq_true rfl) rfl rfl rfl),
           st_run 40 45 true rfl rfl rfl (List.Mem.head _) (op_bin _ _ _ _ _ rfl rfl rfl),
           st_plain rfl (op_pick _ _ true _ rfl rfl),
           st_plain rfl (op_move _ _ _ _ (congrArg (fun b => AV.v (Value.bool b)) hg1_47) rfl),
           st_skip 47 52 _ true rfl rfl rfl rfl (List.Mem.head _),
           st_skip 47 52 _ true rfl rfl rfl rfl (List.Mem.head _),
           st_skip 47 52 _ true rfl rfl rfl rfl (List.Mem.head _),
           st_skip 47 52 _ true rfl rfl rfl rfl (List.Mem.head _),
           st_skip 47 52 _ true rfl rfl rfl rfl (List.Mem.head _),
           st_plain rfl (op_pick _ _ false _ rfl rfl),
           st_plain rfl (op_assign _ _ _ _ rfl rfl),
           trivial⟩ ?_
          exact hl6 _ (Option.some.inj h).symm
        ·refine ht_seqR hn (El := (_ :: _ :: (5, .ptr 2 0) :: (6, .v (.int .i64 a.Kind)) :: (7, .ptr 3 0) :: (8, .v (.int .i64 b.Kind)) :: (9, .v (.bool (a.Kind == b.Kind))) :: (10, .v (.bool true)) :: (11, .ptr 2 1) :: (12, .agg [.v (.bool a.Mail.From.Null), .v (.string a.Mail.From.Local), .v (.string a.Mail.From.Domain), .fl .shr 3 (List.flatten (List.map T_Path.enc a.Mail.To)), .fl .shr 1 (List.map (Value.int .u8) a.Mail.Body), .v (.bool a.Mail.Quiet), .v (.string a.Mail.Helo), .v (.int .i64 a.Mail.At)]) :: (13, .ptr 3 1) :: (14, .agg [.v (.bool b.Mail.From.Null), .v (.string b.Mail.From.Local), .v (.string b.Mail.From.Domain), .fl .shr 3 (List.flatten (List.map T_Path.enc b.Mail.To)), .fl .shr 1 (List.map (Value.int .u8) b.Mail.Body), .v (.bool b.Mail.Quiet), .v (.string b.Mail.Helo), .v (.int .i64 b.Mail.At)]) :: (15, .v (.bool v1)) :: (16, .v (.bool v1)) :: (17, .v (.bool true)) :: (18, .ptr 2 9) :: (19, .v (.int .i64 a.Id)) :: (20, .ptr 3 9) :: (21, .v (.int .i64 b.Id)) :: (22, .v (.bool (a.Id == b.Id))) :: (23, .v (.bool (a.Id == b.Id))) :: (24, .v (.bool true)) :: (25, .ptr 2 10) :: (26, .fl .shr 1 (List.map (Value.int .i64) a.Ids)) :: (27, .ptr 3 10) :: (28, .fl .shr 1 (List.map (Value.int .i64) b.Ids)) :: (29, .v (.bool v2)) :: (30, .v (.bool v2)) :: (31, .v (.bool true)) :: (32, .ptr 2 11) :: (33, .v (.int .i64 a.Origin)) :: (34, .ptr 3 11) :: (35, .v (.int .i64 b.Origin)) :: (36, .v (.bool (a.Origin == b.Origin))) :: (37, .v (.bool (a.Origin == b.Origin))) :: (38, .v (.bool true)) :: (39, .ptr 2 12) :: (40, .v (.int .i64 a.Number)) :: (41, .ptr 3 12) :: (42, .v (.int .i64 b.Number)) :: (43, .v (.bool (a.Number == b.Number))) :: (44, .v (.bool (a.Number == b.Number))) :: (45, .v (.bool false)) :: (46, .v undef) :: (47, .v undef) :: (48, .v undef) :: (49, .v undef) :: (50, .v undef) :: (51, .v (.bool false)) :: (52, .v (.bool false)) :: (53, .v undef) :: (54, .v undef) :: (55, .v undef) :: (56, .v undef) :: (57, .v undef) :: (58, .v (.bool false)) :: (4, .v (.bool false)) :: [])) (init := [0, 1]) (fin := [56]) (sps := (⟨[0], [], [2], [(.slot 5)]⟩ :: ⟨[2, 0], [], [3], [(.slot 6)]⟩ :: ⟨[1], [], [4], [(.slot 7)]⟩ :: ⟨[4, 1], [], [5], [(.slot 8)]⟩ :: ⟨[3, 5], [], [6], [(.slot 9)]⟩ :: ⟨[6], [], [7], [(.slot 10)]⟩ :: ⟨[7, 0], [], [8], [(.slot 11)]⟩ :: ⟨[7, 8, 0], [], [9], [(.slot 12)]⟩ :: ⟨[7, 1], [], [10], [(.slot 13)]⟩ :: ⟨[7, 10, 1], [], [11], [(.slot 14)]⟩ :: ⟨[7, 9, 11], [], [12], [(.slot 15)]⟩ :: ⟨[7, 12], [], [13], [(.slot 16)]⟩ :: ⟨[13], [], [14], [(.slot 17)]⟩ :: ⟨[14, 0], [], [15], [(.slot 18)]⟩ :: ⟨[14, 15, 0], [], [16], [(.slot 19)]⟩ :: ⟨[14, 1], [], [17], [(.slot 20)]⟩ :: ⟨[14, 17, 1], [], [18], [(.slot 21)]⟩ :: ⟨[14, 16, 18], [], [19], [(.slot 22)]⟩ :: ⟨[14, 19], [], [20], [(.slot 23)]⟩ :: ⟨[20], [], [21], [(.slot 24)]⟩ :: ⟨[21, 0], [], [22], [(.slot 25)]⟩ :: ⟨[21, 22, 0], [], [23], [(.slot 26)]⟩ :: ⟨[21, 1], [], [24], [(.slot 27)]⟩ :: ⟨[21, 24, 1], [], [25], [(.slot 28)]⟩ :: ⟨[21, 23, 25], [], [26], [(.slot 29)]⟩ :: ⟨[21, 26], [], [27], [(.slot 30)]⟩ :: ⟨[27], [], [28], [(.slot 31)]⟩ :: ⟨[28, 0], [], [29], [(.slot 32)]⟩ :: ⟨[28, 29, 0], [], [30], [(.slot 33)]⟩ :: ⟨[28, 1], [], [31], [(.slot 34)]⟩ :: ⟨[28, 31, 1], [], [32], [(.slot 35)]⟩ :: ⟨[28, 30, 32], [], [33], [(.slot 36)]⟩ :: ⟨[28, 33], [], [34], [(.slot 37)]⟩ :: ⟨[34], [], [35], [(.slot 38)]⟩ :: ⟨[35, 0], [], [36], [(.slot 39)]⟩ :: ⟨[35, 36, 0], [], [37], [(.slot 40)]⟩ :: ⟨[35, 1], [], [38], [(.slot 41)]⟩ :: ⟨[35, 38, 1], [], [39], [(.slot 42)]⟩ :: ⟨[35, 37, 39], [], [40], [(.slot 43)]⟩ :: ⟨[35, 40], [], [41], [(.slot 44)]⟩ :: ⟨[41], [], [42], [(.slot 45)]⟩ :: ⟨[42], [], [43], [(.slot 46)]⟩ :: ⟨[42], [], [44], [(.slot 47)]⟩ :: ⟨[42], [], [45], [(.slot 48)]⟩ :: ⟨[42], [], [46], [(.slot 49)]⟩ :: ⟨[42], [], [47], [(.slot 50)]⟩ :: ⟨[42], [], [48], [(.slot 51)]⟩ :: ⟨[48], [], [49], [(.slot 52)]⟩ :: ⟨[49], [], [50], [(.slot 53)]⟩ :: ⟨[49], [], [51], [(.slot 54)]⟩ :: ⟨[49], [], [52], [(.slot 55)]⟩ :: ⟨[49], [], [53], [(.slot 56)]⟩ :: ⟨[49], [], [54], [(.slot 57)]⟩ :: ⟨[49], [], [55], [(.slot 58)]⟩ :: ⟨[55], [], [56], [(.slot 4)]⟩ :: [])) (es' := [(4, .v (.bool false))]) (by kernel_rfl) rfl rfl
          ⟨st_plain rfl (op_fieldAddr _ _ _ _ 2 0 _ Try.underlying46 rfl sz3 rfl rfl (by decide)),
          st_plain rfl (op_load _ _ _ _ _ _ Try.underlying3 rfl rfl rfl (Nat.le_of_ble_eq_true rfl) rfl rfl rfl),
          st_plain rfl (op_fieldAddr _ _ _ _ 3 0 _ Try.underlying46 rfl sz3 rfl rfl (by decide)),
          st_plain rfl (op_load _ _ _ _ _ _ Try.underlying3 rfl rfl rfl (Nat.le_of_ble_eq_true rfl) rfl rfl rfl),
          st_plain rfl (op_bin _ _ _ _ _ rfl rfl rfl),
          st_plain rfl (op_move _ _ _ _ (congrArg (fun b => AV.v (Value.bool b)) hg1_5) rfl),
          st_run 5 10 true rfl rfl rfl (List.Mem.head _) (op_fieldAddr _ _ _ _ 2 0 _ Try.underlying46 rfl sz43 rfl rfl (by decide)),
          st_run 5 10 true rfl rfl rfl (List.Mem.head _) (op_loadA _ _ _ _ _ _ _ Try.underlying43 rfl sz43 rfl rfl (Nat.le_of_ble_eq_true rfl) rfl rfl),
          st_run 5 10 true rfl rfl rfl (List.Mem.head _) (op_fieldAddr _ _ _ _ 3 0 _ Try.underlying46 rfl sz43 rfl rfl (by decide)),
          st_run 5 10 true rfl rfl rfl (List.Mem.head _) (op_loadA _ _ _ _ _ _ _ Try.underlying43 rfl sz43 rfl rfl (Nat.le_of_ble_eq_true rfl) rfl rfl),
          st_run 5 10 true rfl rfl rfl (List.Mem.head _) (op_call _ _ 59 _ _ rfl Try.call59 rfl (ok_wherrykeep_Mail ((T_Mail.mk (T_Path.mk a.Mail.From.Null a.Mail.From.Local a.Mail.From.Domain) a.Mail.To a.Mail.Body a.Mail.Quiet a.Mail.Helo a.Mail.At)) ((T_Mail.mk (T_Path.mk b.Mail.From.Null b.Mail.From.Local b.Mail.From.Domain) b.Mail.To b.Mail.Body b.Mail.Quiet b.Mail.Helo b.Mail.At)) _ hv1) rfl rfl),
          st_plain rfl (op_pick _ _ true _ rfl rfl),
          st_plain rfl (op_move _ _ _ _ (congrArg (fun b => AV.v (Value.bool b)) hg1_12) rfl),
          st_run 12 17 true rfl rfl rfl (List.Mem.head _) (op_fieldAddr _ _ _ _ 2 0 _ Try.underlying46 rfl sz3 rfl rfl (by decide)),
          st_run 12 17 true rfl rfl rfl (List.Mem.head _) (op_load _ _ _ _ _ _ Try.underlying3 rfl rfl rfl (Nat.le_of_ble_eq_true rfl) rfl rfl rfl),
          st_run 12 17 true rfl rfl rfl (List.Mem.head _) (op_fieldAddr _ _ _ _ 3 0 _ Try.underlying46 rfl sz3 rfl rfl (by decide)),
          st_run 12 17 true rfl rfl rfl (List.Mem.head _) (op_load _ _ _ _ _ _ Try.underlying3 rfl rfl rfl (Nat.le_of_ble_eq_true rfl) rfl rfl rfl),
          st_run 12 17 true rfl rfl rfl (List.Mem.head _) (op_bin _ _ _ _ _ rfl rfl rfl),
          st_plain rfl (op_pick _ _ true _ rfl rfl),
          st_plain rfl (op_move _ _ _ _ (congrArg (fun b => AV.v (Value.bool b)) hg1_19) rfl),
          st_run 19 24 true rfl rfl rfl (List.Mem.head _) (op_fieldAddr _ _ _ _ 2 0 _ Try.underlying46 rfl sz44 rfl rfl (by decide)),
          st_run 19 24 true rfl rfl rfl (List.Mem.head _) (op_load _ _ _ _ _ _ Try.underlying44 rfl rfl rfl (Nat.le_of_ble_eq_true rfl) rfl rfl rfl),
          st_run 19 24 true rfl rfl rfl (List.Mem.head _) (op_fieldAddr _ _ _ _ 3 0 _ Try.underlying46 rfl sz44 rfl rfl (by decide)),
          st_run 19 24 true rfl rfl rfl (List.Mem.head _) (op_load _ _ _ _ _ _ Try.underlying44 rfl rfl rfl (Nat.le_of_ble_eq_true rfl) rfl rfl rfl),
          st_run 19 24 true rfl rfl rfl (List.Mem.head _) (op_call _ _ 60 _ _ rfl Try.call60 rfl (ok_wherrykeep_Ints a.Ids b.Ids _ hv2) rfl rfl),
          st_plain rfl (op_pick _ _ true _ rfl rfl),
          st_plain rfl (op_move _ _ _ _ (congrArg (fun b => AV.v (Value.bool b)) hg1_26) rfl),
          st_run 26 31 true rfl rfl rfl (List.Mem.head _) (op_fieldAddr _ _ _ _ 2 0 _ Try.underlying46 rfl sz3 rfl rfl (by decide)),
          st_run 26 31 true rfl rfl rfl (List.Mem.head _) (op_load _ _ _ _ _ _ Try.underlying3 rfl rfl rfl (Nat.le_of_ble_eq_true rfl) rfl rfl rfl),
          st_run 26 31 true rfl rfl rfl (List.Mem.head _) (op_fieldAddr _ _ _ _ 3 0 _ Try.underlying46 rfl sz3 rfl rfl (by decide)),
          st_run 26 31 true rfl rfl rfl (List.Mem.head _) (op_load _ _ _ _ _ _ Try.underlying3 rfl rfl rfl (Nat.le_of_ble_eq_true rfl) rfl rfl rfl),
          st_run 26 31 true rfl rfl rfl (List.Mem.head _) (op_bin _ _ _ _ _ rfl rfl rfl),
          st_plain rfl (op_pick _ _ true _ rfl rfl),
          st_plain rfl (op_move _ _ _ _ (congrArg (fun b => AV.v (Value.bool b)) hg1_33) rfl),
          st_run 33 38 true rfl rfl rfl (List.Mem.head _) (op_fieldAddr _ _ _ _ 2 0 _ Try.underlying46 rfl sz3 rfl rfl (by decide)),
          st_run 33 38 true rfl rfl rfl (List.Mem.head _) (op_load _ _ _ _ _ _ Try.underlying3 rfl rfl rfl (Nat.le_of_ble_eq_true rfl) rfl rfl rfl),
          st_run 33 38 true rfl rfl rfl (List.Mem.head _) (op_fieldAddr _ _ _ _ 3 0 _ Try.underlying46 rfl sz3 rfl rfl (by decide)),
          st_run 33 38 true rfl rfl rfl (List.Mem.head _) (op_load _ _ _ _ _ _ Try.underlying3 rfl rfl rfl (Nat.le_of_ble_eq_true rfl) rfl rfl rfl),
          st_run 33 38 true rfl rfl rfl (List.Mem.head _) (op_bin _ _ _ _ _ rfl rfl rfl),
          st_plain rfl (op_pick _ _ true _ rfl rfl),
          st_plain rfl (op_move _ _ _ _ (congrArg (fun b => AV.v (Value.bool b)) hg1_40) rfl),
          st_skip 40 45 _ true rfl rfl rfl rfl (List.Mem.head _),
          st_skip 40 45 _ true rfl rfl rfl rfl (List.Mem.head _),
          st_skip 40 45 _ true rfl rfl rfl rfl (List.Mem.head _),
          st_skip 40 45 _ true rfl rfl rfl rfl (List.Mem.head _),
          st_skip 40 45 _ true rfl rfl rfl rfl (List.Mem.head _),
          st_plain rfl (op_pick _ _ false _ rfl rfl),
          st_plain rfl (op_move _ _ _ _ rfl rfl),
          st_skip 47 52 _ true rfl rfl rfl rfl (List.Mem.head _),
          st_skip 47 52 _ true rfl rfl rfl rfl (List.Mem.head _),
          st_skip 47 52 _ true rfl rfl rfl rfl (List.Mem.head _),
          st_skip 47 52 _ true rfl rfl rfl rfl (List.Mem.head _),
          st_skip 47 52 _ true rfl rfl rfl rfl (List.Mem.head _),
          st_plain rfl (op_pick _ _ false _ rfl rfl),
          st_plain rfl (op_assign _ _ _ _ rfl rfl),
          trivial⟩ ?_
         exact hl6 _ (Option.some.inj h).symm
       ·refine ht_seqR hn (El := (_ :: _ :: (5, .ptr 2 0) :: (6, .v (.int .i64 a.Kind)) :: (7, .ptr 3 0) :: (8, .v (.int .i64 b.Kind)) :: (9, .v (.bool (a.Kind == b.Kind))) :: (10, .v (.bool true)) :: (11, .ptr 2 1) :: (12, .agg [.v (.bool a.Mail.From.Null), .v (.string a.Mail.From.Local), .v (.string a.Mail.From.Domain), .fl .shr 3 (List.flatten (List.map T_Path.enc a.Mail.To)), .fl .shr 1 (List.map (Value.int .u8) a.Mail.Body), .v (.bool a.Mail.Quiet), .v (.string a.Mail.Helo), .v (.int .i64 a.Mail.At)]) :: (13, .ptr 3 1) :: (14, .agg [.v (.bool b.Mail.From.Null), .v (.string b.Mail.From.Local), .v (.string b.Mail.From.Domain), .fl .shr 3 (List.flatten (List.map T_Path.enc b.Mail.To)), .fl .shr 1 (List.map (Value.int .u8) b.Mail.Body), .v (.bool b.Mail.Quiet), .v (.string b.Mail.Helo), .v (.int .i64 b.Mail.At)]) :: (15, .v (.bool v1)) :: (16, .v (.bool v1)) :: (17, .v (.bool true)) :: (18, .ptr 2 9) :: (19, .v (.int .i64 a.Id)) :: (20, .ptr 3 9) :: (21, .v (.int .i64 b.Id)) :: (22, .v (.bool (a.Id == b.Id))) :: (23, .v (.bool (a.Id == b.Id))) :: (24, .v (.bool true)) :: (25, .ptr 2 10) :: (26, .fl .shr 1 (List.map (Value.int .i64) a.Ids)) :: (27, .ptr 3 10) :: (28, .fl .shr 1 (List.map (Value.int .i64) b.Ids)) :: (29, .v (.bool v2)) :: (30, .v (.bool v2)) :: (31, .v (.bool true)) :: (32, .ptr 2 11) :: (33, .v (.int .i64 a.Origin)) :: (34, .ptr 3 11) :: (35, .v (.int .i64 b.Origin)) :: (36, .v (.bool (a.Origin == b.Origin))) :: (37, .v (.bool (a.Origin == b.Origin))) :: (38, .v (.bool false)) :: (39, .v undef) :: (40, .v undef) :: (41, .v undef) :: (42, .v undef) :: (43, .v undef) :: (44, .v (.bool false)) :: (45, .v (.bool false)) :: (46, .v undef) :: (47, .v undef) :: (48, .v undef) :: (49, .v undef) :: (50, .v undef) :: (51, .v (.bool false)) :: (52, .v (.bool false)) :: (53, .v undef) :: (54, .v undef) :: (55, .v undef) :: (56, .v undef) :: (57, .v undef) :: (58, .v (.bool false)) :: (4, .v (.bool false)) :: [])) (init := [0, 1]) (fin := [56]) (sps := (⟨[0], [], [2], [(.slot 5)]⟩ :: ⟨[2, 0], [], [3], [(.slot 6)]⟩ :: ⟨[1], [], [4], [(.slot 7)]⟩ :: ⟨[4, 1], [], [5], [(.slot 8)]⟩ :: ⟨[3, 5], [], [6], [(.slot 9)]⟩ :: ⟨[6], [], [7], [(.slot 10)]⟩ :: ⟨[7, 0], [], [8], [(.slot 11)]⟩ :: ⟨[7, 8, 0], [], [9], [(.slot 12)]⟩ :: ⟨[7, 1], [], [10], [(.slot 13)]⟩ :: ⟨[7, 10, 1], [], [11], [(.slot 14)]⟩ :: ⟨[7, 9, 11], [], [12], [(.slot 15)]⟩ :: ⟨[7, 12], [], [13], [(.slot 16)]⟩ :: ⟨[13], [], [14], [(.slot 17)]⟩ :: ⟨[14, 0], [], [15], [(.slot 18)]⟩ :: ⟨[14, 15, 0], [], [16], [(.slot 19)]⟩ :: ⟨[14, 1], [], [17], [(.slot 20)]⟩ :: ⟨[14, 17, 1], [], [18], [(.slot 21)]⟩ :: ⟨[14, 16, 18], [], [19], [(.slot 22)]⟩ :: ⟨[14, 19], [], [20], [(.slot 23)]⟩ :: ⟨[20], [], [21], [(.slot 24)]⟩ :: ⟨[21, 0], [], [22], [(.slot 25)]⟩ :: ⟨[21, 22, 0], [], [23], [(.slot 26)]⟩ :: ⟨[21, 1], [], [24], [(.slot 27)]⟩ :: ⟨[21, 24, 1], [], [25], [(.slot 28)]⟩ :: ⟨[21, 23, 25], [], [26], [(.slot 29)]⟩ :: ⟨[21, 26], [], [27], [(.slot 30)]⟩ :: ⟨[27], [], [28], [(.slot 31)]⟩ :: ⟨[28, 0], [], [29], [(.slot 32)]⟩ :: ⟨[28, 29, 0], [], [30], [(.slot 33)]⟩ :: ⟨[28, 1], [], [31], [(.slot 34)]⟩ :: ⟨[28, 31, 1], [], [32], [(.slot 35)]⟩ :: ⟨[28, 30, 32], [], [33], [(.slot 36)]⟩ :: ⟨[28, 33], [], [34], [(.slot 37)]⟩ :: ⟨[34], [], [35], [(.slot 38)]⟩ :: ⟨[35], [], [36], [(.slot 39)]⟩ :: ⟨[35], [], [37], [(.slot 40)]⟩ :: ⟨[35], [], [38], [(.slot 41)]⟩ :: ⟨[35], [], [39], [(.slot 42)]⟩ :: ⟨[35], [], [40], [(.slot 43)]⟩ :: ⟨[35], [], [41], [(.slot 44)]⟩ :: ⟨[41], [], [42], [(.slot 45)]⟩ :: ⟨[42], [], [43], [(.slot 46)]⟩ :: ⟨[42], [], [44], [(.slot 47)]⟩ :: ⟨[42], [], [45], [(.slot 48)]⟩ :: ⟨[42], [], [46], [(.slot 49)]⟩ :: ⟨[42], [], [47], [(.slot 50)]⟩ :: ⟨[42], [], [48], [(.slot 51)]⟩ :: ⟨[48], [], [49], [(.slot 52)]⟩ :: ⟨[49], [], [50], [(.slot 53)]⟩ :: ⟨[49], [], [51], [(.slot 54)]⟩ :: ⟨[49], [], [52], [(.slot 55)]⟩ :: ⟨[49], [], [53], [(.slot 56)]⟩ :: ⟨[49], [], [54], [(.slot 57)]⟩ :: ⟨[49], [], [55], [(.slot 58)]⟩ :: ⟨[55], [], [56], [(.slot 4)]⟩ :: [])) (es' := [(4, .v (.bool false))]) (by kernel_rfl) rfl rfl
         ⟨st_plain rfl (op_fieldAddr _ _ _ _ 2 0 _ Try.underlying46 rfl sz3 rfl rfl (by decide)),
         st_plain rfl (op_load _ _ _ _ _ _ Try.underlying3 rfl rfl rfl (Nat.le_of_ble_eq_true rfl) rfl rfl rfl),
         st_plain rfl (op_fieldAddr _ _ _ _ 3 0 _ Try.underlying46 rfl sz3 rfl rfl (by decide)),
         st_plain rfl (op_load _ _ _ _ _ _ Try.underlying3 rfl rfl rfl (Nat.le_of_ble_eq_true rfl) rfl rfl rfl),
         st_plain rfl (op_bin _ _ _ _ _ rfl rfl rfl),
         st_plain rfl (op_move _ _ _ _ (congrArg (fun b => AV.v (Value.bool b)) hg1_5) rfl),
         st_run 5 10 true rfl rfl rfl (List.Mem.head _) (op_fieldAddr _ _ _ _ 2 0 _ Try.underlying46 rfl sz43 rfl rfl (by decide)),
         st_run 5 10 true rfl rfl rfl (List.Mem.head _) (op_loadA _ _ _ _ _ _ _ Try.underlying43 rfl sz43 rfl rfl (Nat.le_of_ble_eq_true rfl) rfl rfl),
         st_run 5 10 true rfl rfl rfl (List.Mem.head _) (op_fieldAddr _ _ _ _ 3 0 _ Try.underlying46 rfl sz43 rfl rfl (by decide)),
         st_run 5 10 true rfl rfl rfl (List.Mem.head _) (op_loadA _ _ _ _ _ _ _ Try.underlying43 rfl sz43 rfl rfl (Nat.le_of_ble_eq_true rfl) rfl rfl),
         st_run 5 10 true rfl rfl rfl (List.Mem.head _) (op_call _ _ 59 _ _ rfl Try.call59 rfl (ok_wherrykeep_Mail ((T_Mail.mk (T_Path.mk a.Mail.From.Null a.Mail.From.Local a.Mail.From.Domain) a.Mail.To a.Mail.Body a.Mail.Quiet a.Mail.Helo a.Mail.At)) ((T_Mail.mk (T_Path.mk b.Mail.From.Null b.Mail.From.Local b.Mail.From.Domain) b.Mail.To b.Mail.Body b.Mail.Quiet b.Mail.Helo b.Mail.At)) _ hv1) rfl rfl),
         st_plain rfl (op_pick _ _ true _ rfl rfl),
         st_plain rfl (op_move _ _ _ _ (congrArg (fun b => AV.v (Value.bool b)) hg1_12) rfl),
         st_run 12 17 true rfl rfl rfl (List.Mem.head _) (op_fieldAddr _ _ _ _ 2 0 _ Try.underlying46 rfl sz3 rfl rfl (by decide)),
         st_run 12 17 true rfl rfl rfl (List.Mem.head _) (op_load _ _ _ _ _ _ Try.underlying3 rfl rfl rfl (Nat.le_of_ble_eq_true rfl) rfl rfl rfl),
         st_run 12 17 true rfl rfl rfl (List.Mem.head _) (op_fieldAddr _ _ _ _ 3 0 _ Try.underlying46 rfl sz3 rfl rfl (by decide)),
         st_run 12 17 true rfl rfl rfl (List.Mem.head _) (op_load _ _ _ _ _ _ Try.underlying3 rfl rfl rfl (Nat.le_of_ble_eq_true rfl) rfl rfl rfl),
         st_run 12 17 true rfl rfl rfl (List.Mem.head _) (op_bin _ _ _ _ _ rfl rfl rfl),
         st_plain rfl (op_pick _ _ true _ rfl rfl),
         st_plain rfl (op_move _ _ _ _ (congrArg (fun b => AV.v (Value.bool b)) hg1_19) rfl),
         st_run 19 24 true rfl rfl rfl (List.Mem.head _) (op_fieldAddr _ _ _ _ 2 0 _ Try.underlying46 rfl sz44 rfl rfl (by decide)),
         st_run 19 24 true rfl rfl rfl (List.Mem.head _) (op_load _ _ _ _ _ _ Try.underlying44 rfl rfl rfl (Nat.le_of_ble_eq_true rfl) rfl rfl rfl),
         st_run 19 24 true rfl rfl rfl (List.Mem.head _) (op_fieldAddr _ _ _ _ 3 0 _ Try.underlying46 rfl sz44 rfl rfl (by decide)),
         st_run 19 24 true rfl rfl rfl (List.Mem.head _) (op_load _ _ _ _ _ _ Try.underlying44 rfl rfl rfl (Nat.le_of_ble_eq_true rfl) rfl rfl rfl),
         st_run 19 24 true rfl rfl rfl (List.Mem.head _) (op_call _ _ 60 _ _ rfl Try.call60 rfl (ok_wherrykeep_Ints a.Ids b.Ids _ hv2) rfl rfl),
         st_plain rfl (op_pick _ _ true _ rfl rfl),
         st_plain rfl (op_move _ _ _ _ (congrArg (fun b => AV.v (Value.bool b)) hg1_26) rfl),
         st_run 26 31 true rfl rfl rfl (List.Mem.head _) (op_fieldAddr _ _ _ _ 2 0 _ Try.underlying46 rfl sz3 rfl rfl (by decide)),
         st_run 26 31 true rfl rfl rfl (List.Mem.head _) (op_load _ _ _ _ _ _ Try.underlying3 rfl rfl rfl (Nat.le_of_ble_eq_true rfl) rfl rfl rfl),
         st_run 26 31 true rfl rfl rfl (List.Mem.head _) (op_fieldAddr _ _ _ _ 3 0 _ Try.underlying46 rfl sz3 rfl rfl (by decide)),
         st_run 26 31 true rfl rfl rfl (List.Mem.head _) (op_load _ _ _ _ _ _ Try.underlying3 rfl rfl rfl (Nat.le_of_ble_eq_true rfl) rfl rfl rfl),
         st_run 26 31 true rfl rfl rfl (List.Mem.head _) (op_bin _ _ _ _ _ rfl rfl rfl),
         st_plain rfl (op_pick _ _ true _ rfl rfl),
         st_plain rfl (op_move _ _ _ _ (congrArg (fun b => AV.v (Value.bool b)) hg1_33) rfl),
         st_skip 33 38 _ true rfl rfl rfl rfl (List.Mem.head _),
         st_skip 33 38 _ true rfl rfl rfl rfl (List.Mem.head _),
         st_skip 33 38 _ true rfl rfl rfl rfl (List.Mem.head _),
         st_skip 33 38 _ true rfl rfl rfl rfl (List.Mem.head _),
         st_skip 33 38 _ true rfl rfl rfl rfl (List.Mem.head _),
         st_plain rfl (op_pick _ _ false _ rfl rfl),
         st_plain rfl (op_move _ _ _ _ rfl rfl),
         st_skip 40 45 _ true rfl rfl rfl rfl (List.Mem.head _),
         st_skip 40 45 _ true rfl rfl rfl rfl (List.Mem.head _),
         st_skip 40 45 _ true rfl rfl rfl rfl (List.Mem.head _),
         st_skip 40 45 _ true rfl rfl rfl rfl (List.Mem.head _),
         st_skip 40 45 _ true rfl rfl rfl rfl (List.Mem.head _),
         st_plain rfl (op_pick _ _ false _ rfl rfl),
         st_plain rfl (op_move _ _ _ _ rfl rfl),
         st_skip 47 52 _ true rfl rfl rfl rfl (List.Mem.head _),
         st_skip 47 52 _ true rfl rfl rfl rfl (List.Mem.head _),
         st_skip 47 52 _ true rfl rfl rfl rfl (List.Mem.head _),
         st_skip 47 52 _ true rfl rfl rfl rfl (List.Mem.head _),
         st_skip 47 52 _ true rfl rfl rfl rfl (List.Mem.head _),
         st_plain rfl (op_pick _ _ false _ rfl rfl),
         st_plain rfl (op_assign _ _ _ _ rfl rfl),
         trivial⟩ ?_
        exact hl6 _ (Option.some.inj h).symm
      ·refine ht_seqR hn (El := (_ :: _ :: (5, .ptr 2 0) :: (6, .v (.int .i64 a.Kind)) :: (7, .ptr 3 0) :: (8, .v (.int .i64 b.Kind)) :: (9, .v (.bool (a.Kind == b.Kind))) :: (10, .v (.bool true)) :: (11, .ptr 2 1) :: (12, .agg [.v (.bool a.Mail.From.Null), .v (.string a.Mail.From.Local), .v (.string a.Mail.From.Domain), .fl .shr 3 (List.flatten (List.map T_Path.enc a.Mail.To)), .fl .shr 1 (List.map (Value.int .u8) a.Mail.Body), .v (.bool a.Mail.Quiet), .v (.string a.Mail.Helo), .v (.int .i64 a.Mail.At)]) :: (13, .ptr 3 1) :: (14, .agg [.v (.bool b.Mail.From.Null), .v (.string b.Mail.From.Local), .v (.string b.Mail.From.Domain), .fl .shr 3 (List.flatten (List.map T_Path.enc b.Mail.To)), .fl .shr 1 (List.map (Value.int .u8) b.Mail.Body), .v (.bool b.Mail.Quiet), .v (.string b.Mail.Helo), .v (.int .i64 b.Mail.At)]) :: (15, .v (.bool v1)) :: (16, .v (.bool v1)) :: (17, .v (.bool true)) :: (18, .ptr 2 9) :: (19, .v (.int .i64 a.Id)) :: (20, .ptr 3 9) :: (21, .v (.int .i64 b.Id)) :: (22, .v (.bool (a.Id == b.Id))) :: (23, .v (.bool (a.Id == b.Id))) :: (24, .v (.bool true)) :: (25, .ptr 2 10) :: (26, .fl .shr 1 (List.map (Value.int .i64) a.Ids)) :: (27, .ptr 3 10) :: (28, .fl .shr 1 (List.map (Value.int .i64) b.Ids)) :: (29, .v (.bool v2)) :: (30, .v (.bool v2)) :: (31, .v (.bool false)) :: (32, .v undef) :: (33, .v undef) :: (34, .v undef) :: (35, .v undef) :: (36, .v undef) :: (37, .v (.bool false)) :: (38, .v (.bool false)) :: (39, .v undef) :: (40, .v undef) :: (41, .v undef) :: (42, .v undef) :: (43, .v undef) :: (44, .v (.bool false)) :: (45, .v (.bool false)) :: (46, .v undef) :: (47, .v undef) :: (48, .v undef) :: (49, .v undef) :: (50, .v undef) :: (51, .v (.bool false)) :: (52, .v (.bool false)) :: (53, .v undef) :: (54, .v undef) :: (55, .v undef) :: (56, .v undef) :: (57, .v undef) :: (58, .v (.bool false)) :: (4, .v (.bool false)) :: [])) (init := [0, 1]) (fin := [56]) (sps := (⟨[0], [], [2], [(.slot 5)]⟩ :: ⟨[2, 0], [], [3], [(.slot 6)]⟩ :: ⟨[1], [], [4], [(.slot 7)]⟩ :: ⟨[4, 1], [], [5], [(.slot 8)]⟩ :: ⟨[3, 5], [], [6], [(.slot 9)]⟩ :: ⟨[6], [], [7], [(.slot 10)]⟩ :: ⟨[7, 0], [], [8], [(.slot 11)]⟩ :: ⟨[7, 8, 0], [], [9], [(.slot 12)]⟩ :: ⟨[7, 1], [], [10], [(.slot 13)]⟩ :: ⟨[7, 10, 1], [], [11], [(.slot 14)]⟩ :: ⟨[7, 9, 11], [], [12], [(.slot 15)]⟩ :: ⟨[7, 12], [], [13], [(.slot 16)]⟩ :: ⟨[13], [], [14], [(.slot 17)]⟩ :: ⟨[14, 0], [], [15], [(.slot 18)]⟩ :: ⟨[14, 15, 0], [], [16], [(.slot 19)]⟩ :: ⟨[14, 1], [], [17], [(.slot 20)]⟩ :: ⟨[14, 17, 1], [], [18], [(.slot 21)]⟩ :: ⟨[14, 16, 18], [], [19], [(.slot 22)]⟩ :: ⟨[14, 19], [], [20], [(.slot 23)]⟩ :: ⟨[20], [], [21], [(.slot 24)]⟩ :: ⟨[21, 0], [], [22], [(.slot 25)]⟩ :: ⟨[21, 22, 0], [], [23], [(.slot 26)]⟩ :: ⟨[21, 1], [], [24], [(.slot 27)]⟩ :: ⟨[21, 24, 1], [], [25], [(.slot 28)]⟩ :: ⟨[21, 23, 25], [], [26], [(.slot 29)]⟩ :: ⟨[21, 26], [], [27], [(.slot 30)]⟩ :: ⟨[27], [], [28], [(.slot 31)]⟩ :: ⟨[28], [], [29], [(.slot 32)]⟩ :: ⟨[28], [], [30], [(.slot 33)]⟩ :: ⟨[28], [], [31], [(.slot 34)]⟩ :: ⟨[28], [], [32], [(.slot 35)]⟩ :: ⟨[28], [], [33], [(.slot 36)]⟩ :: ⟨[28], [], [34], [(.slot 37)]⟩ :: ⟨[34], [], [35], [(.slot 38)]⟩ :: ⟨[35], [], [36], [(.slot 39)]⟩ :: ⟨[35], [], [37], [(.slot 40)]⟩ :: ⟨[35], [], [38], [(.slot 41)]⟩ :: ⟨[35], [], [39], [(.slot 42)]⟩ :: ⟨[35], [], [40], [(.slot 43)]⟩ :: ⟨[35], [], [41], [(.slot 44)]⟩ :: ⟨[41], [], [42], [(.slot 45)]⟩ :: ⟨[42], [], [43], [(.slot 46)]⟩ :: ⟨[42], [], [44], [(.slot 47)]⟩ :: ⟨[42], [], [45], [(.slot 48)]⟩ :: ⟨[42], [], [46], [(.slot 49)]⟩ :: ⟨[42], [], [47], [(.slot 50)]⟩ :: ⟨[42], [], [48], [(.slot 51)]⟩ :: ⟨[48], [], [49], [(.slot 52)]⟩ :: ⟨[49], [], [50], [(.slot 53)]⟩ :: ⟨[49], [], [51], [(.slot 54)]⟩ :: ⟨[49], [], [52], [(.slot 55)]⟩ :: ⟨[49], [], [53], [(.slot 56)]⟩ :: ⟨[49], [], [54], [(.slot 57)]⟩ :: ⟨[49], [], [55], [(.slot 58)]⟩ :: ⟨[55], [], [56], [(.slot 4)]⟩ :: [])) (es' := [(4, .v (.bool false))]) (by kernel_rfl) rfl rfl
        ⟨st_plain rfl (op_fieldAddr _ _ _ _ 2 0 _ Try.underlying46 rfl sz3 rfl rfl (by decide)),
        st_plain rfl (op_load _ _ _ _ _ _ Try.underlying3 rfl rfl rfl (Nat.le_of_ble_eq_true rfl) rfl rfl rfl),
        st_plain rfl (op_fieldAddr _ _ _ _ 3 0 _ Try.underlying46 rfl sz3 rfl rfl (by decide)),
        st_plain rfl (op_load _ _ _ _ _ _ Try.underlying3 rfl rfl rfl (Nat.le_of_ble_eq_true rfl) rfl rfl rfl),
        st_plain rfl (op_bin _ _ _ _ _ rfl rfl rfl),
        st_plain rfl (op_move _ _ _ _ (congrArg (fun b => AV.v (Value.bool b)) hg1_5) rfl),
        st_run 5 10 true rfl rfl rfl (List.Mem.head _) (op_fieldAddr _ _ _ _ 2 0 _ Try.underlying46 rfl sz43 rfl rfl (by decide)),
        st_run 5 10 true rfl rfl rfl (List.Mem.head _) (op_loadA _ _ _ _ _ _ _ Try.underlying43 rfl sz43 rfl rfl (Nat.le_of_ble_eq_true rfl) rfl rfl),
        st_run 5 10 true rfl rfl rfl (List.Mem.head _) (op_fieldAddr _ _ _ _ 3 0 _ Try.underlying46 rfl sz43 rfl rfl (by decide)),
        st_run 5 10 true rfl rfl rfl (List.Mem.head _) (op_loadA _ _ _ _ _ _ _ Try.underlying43 rfl sz43 rfl rfl (Nat.le_of_ble_eq_true rfl) rfl rfl),
        st_run 5 10 true rfl rfl rfl (List.Mem.head _) (op_call _ _ 59 _ _ rfl Try.call59 rfl (ok_wherrykeep_Mail ((T_Mail.mk (T_Path.mk a.Mail.From.Null a.Mail.From.Local a.Mail.From.Domain) a.Mail.To a.Mail.Body a.Mail.Quiet a.Mail.Helo a.Mail.At)) ((T_Mail.mk (T_Path.mk b.Mail.From.Null b.Mail.From.Local b.Mail.From.Domain) b.Mail.To b.Mail.Body b.Mail.Quiet b.Mail.Helo b.Mail.At)) _ hv1) rfl rfl),
        st_plain rfl (op_pick _ _ true _ rfl rfl),
        st_plain rfl (op_move _ _ _ _ (congrArg (fun b => AV.v (Value.bool b)) hg1_12) rfl),
        st_run 12 17 true rfl rfl rfl (List.Mem.head _) (op_fieldAddr _ _ _ _ 2 0 _ Try.underlying46 rfl sz3 rfl rfl (by decide)),
        st_run 12 17 true rfl rfl rfl (List.Mem.head _) (op_load _ _ _ _ _ _ Try.underlying3 rfl rfl rfl (Nat.le_of_ble_eq_true rfl) rfl rfl rfl),
        st_run 12 17 true rfl rfl rfl (List.Mem.head _) (op_fieldAddr _ _ _ _ 3 0 _ Try.underlying46 rfl sz3 rfl rfl (by decide)),
        st_run 12 17 true rfl rfl rfl (List.Mem.head _) (op_load _ _ _ _ _ _ Try.underlying3 rfl rfl rfl (Nat.le_of_ble_eq_true rfl) rfl rfl rfl),
        st_run 12 17 true rfl rfl rfl (List.Mem.head _) (op_bin _ _ _ _ _ rfl rfl rfl),
        st_plain rfl (op_pick _ _ true _ rfl rfl),
        st_plain rfl (op_move _ _ _ _ (congrArg (fun b => AV.v (Value.bool b)) hg1_19) rfl),
        st_run 19 24 true rfl rfl rfl (List.Mem.head _) (op_fieldAddr _ _ _ _ 2 0 _ Try.underlying46 rfl sz44 rfl rfl (by decide)),
        st_run 19 24 true rfl rfl rfl (List.Mem.head _) (op_load _ _ _ _ _ _ Try.underlying44 rfl rfl rfl (Nat.le_of_ble_eq_true rfl) rfl rfl rfl),
        st_run 19 24 true rfl rfl rfl (List.Mem.head _) (op_fieldAddr _ _ _ _ 3 0 _ Try.underlying46 rfl sz44 rfl rfl (by decide)),
        st_run 19 24 true rfl rfl rfl (List.Mem.head _) (op_load _ _ _ _ _ _ Try.underlying44 rfl rfl rfl (Nat.le_of_ble_eq_true rfl) rfl rfl rfl),
        st_run 19 24 true rfl rfl rfl (List.Mem.head _) (op_call _ _ 60 _ _ rfl Try.call60 rfl (ok_wherrykeep_Ints a.Ids b.Ids _ hv2) rfl rfl),
        st_plain rfl (op_pick _ _ true _ rfl rfl),
        st_plain rfl (op_move _ _ _ _ (congrArg (fun b => AV.v (Value.bool b)) hg1_26) rfl),
        st_skip 26 31 _ true rfl rfl rfl rfl (List.Mem.head _),
        st_skip 26 31 _ true rfl rfl rfl rfl (List.Mem.head _),
        st_skip 26 31 _ true rfl rfl rfl rfl (List.Mem.head _),
        st_skip 26 31 _ true rfl rfl rfl rfl (List.Mem.head _),
        st_skip 26 31 _ true rfl rfl rfl rfl (List.Mem.head _),
        st_plain rfl (op_pick _ _ false _ rfl rfl),
        st_plain rfl (op_move _ _ _ _ rfl rfl),
        st_skip 33 38 _ true rfl rfl rfl rfl (List.Mem.head _),
        st_skip 33 38 _ true rfl rfl rfl rfl (List.Mem.head _),
        st_skip 33 38 _ true rfl rfl rfl rfl (List.Mem.head _),
        st_skip 33 38 _ true rfl rfl rfl rfl (List.Mem.head _),
        st_skip 33 38 _ true rfl rfl rfl rfl (List.Mem.head _),
        st_plain rfl (op_pick _ _ false _ rfl rfl),
        st_plain rfl (op_move _ _ _ _ rfl rfl),
        st_skip 40 45 _ true rfl rfl rfl rfl (List.Mem.head _),
        st_skip 40 45 _ true rfl rfl rfl rfl (List.Mem.head _),
        st_skip 40 45 _ true rfl rfl rfl rfl (List.Mem.head _),
        st_skip 40 45 _ true rfl rfl rfl rfl (List.Mem.head _),
        st_skip 40 45 _ true rfl rfl rfl rfl (List.Mem.head _),
        st_plain rfl (op_pick _ _ false _ rfl rfl),
        st_plain rfl (op_move _ _ _ _ rfl rfl),
        st_skip 47 52 _ true rfl rfl rfl rfl (List.Mem.head _),
        st_skip 47 52 _ true rfl rfl rfl rfl (List.Mem.head _),
        st_skip 47 52 _ true rfl rfl rfl rfl (List.Mem.head _),
        st_skip 47 52 _ true rfl rfl rfl rfl (List.Mem.head _),
        st_skip 47 52 _ true rfl rfl rfl rfl (List.Mem.head _),
        st_plain rfl (op_pick _ _ false _ rfl rfl),
        st_plain rfl (op_assign _ _ _ _ rfl rfl),
        trivial⟩ ?_
       exact hl6 _ (Option.some.inj h).symm
     ·refine ht_seqR hn (El := (_ :: _ :: (5, .ptr 2 0) :: (6, .v (.int .i64 a.Kind)) :: (7, .ptr 3 0) :: (8, .v (.int .i64 b.Kind)) :: (9, .v (.bool (a.Kind == b.Kind))) :: (10, .v (.bool true)) :: (11, .ptr 2 1) :: (12, .agg [.v (.bool a.Mail.From.Null), .v (.string a.Mail.From.Local), .v (.string a.Mail.From.Domain), .fl .shr 3 (List.flatten (List.map T_Path.enc a.Mail.To)), .fl .shr 1 (List.map (Value.int .u8) a.Mail.Body), .v (.bool a.Mail.Quiet), .v (.string a.Mail.Helo), .v (.int .i64 a.Mail.At)]) :: (13, .ptr 3 1) :: (14, .agg [.v (.bool b.Mail.From.Null), .v (.string b.Mail.From.Local), .v (.string b.Mail.From.Domain), .fl .shr 3 (List.flatten (List.map T_Path.enc b.Mail.To)), .fl .shr 1 (List.map (Value.int .u8) b.Mail.Body), .v (.bool b.Mail.Quiet), .v (.string b.Mail.Helo), .v (.int .i64 b.Mail.At)]) :: (15, .v (.bool v1)) :: (16, .v (.bool v1)) :: (17, .v (.bool true)) :: (18, .ptr 2 9) :: (19, .v (.int .i64 a.Id)) :: (20, .ptr 3 9) :: (21, .v (.int .i64 b.Id)) :: (22, .v (.bool (a.Id == b.Id))) :: (23, .v (.bool (a.Id == b.Id))) :: (24, .v (.bool false)) :: (25, .v undef) :: (26, .v undef) :: (27, .v undef) :: (28, .v undef) :: (29, .v undef) :: (30, .v (.bool false)) :: (31, .v (.bool false)) :: (32, .v undef) :: (33, .v undef) :: (34, .v undef) :: (35, .v undef) :: (36, .v undef) :: (37, .v (.bool false)) :: (38, .v (.bool false)) :: (39, .v undef) :: (40, .v undef) :: (41, .v undef) :: (42, .v undef) :: (43, .v undef) :: (44, .v (.bool false)) :: (45, .v (.bool false)) :: (46, .v undef) :: (47, .v undef) :: (48, .v undef) :: (49, .v undef) :: (50, .v undef) :: (51, .v (.bool false)) :: (52, .v (.bool false)) :: (53, .v undef) :: (54, .v undef) :: (55, .v undef) :: (56, .v undef) :: (57, .v undef) :: (58, .v (.bool false)) :: (4, .v (.bool false)) :: [])) (init := [0, 1]) (fin := [56]) (sps := (⟨[0], [], [2], [(.slot 5)]⟩ :: ⟨[2, 0], [], [3], [(.slot 6)]⟩ :: ⟨[1], [], [4], [(.slot 7)]⟩ :: ⟨[4, 1], [], [5], [(.slot 8)]⟩ :: ⟨[3, 5], [], [6], [(.slot 9)]⟩ :: ⟨[6], [], [7], [(.slot 10)]⟩ :: ⟨[7, 0], [], [8], [(.slot 11)]⟩ :: ⟨[7, 8, 0], [], [9], [(.slot 12)]⟩ :: ⟨[7, 1], [], [10], [(.slot 13)]⟩ :: ⟨[7, 10, 1], [], [11], [(.slot 14)]⟩ :: ⟨[7, 9, 11], [], [12], [(.slot 15)]⟩ :: ⟨[7, 12], [], [13], [(.slot 16)]⟩ :: ⟨[13], [], [14], [(.slot 17)]⟩ :: ⟨[14, 0], [], [15], [(.slot 18)]⟩ :: ⟨[14, 15, 0], [], [16], [(.slot 19)]⟩ :: ⟨[14, 1], [], [17], [(.slot 20)]⟩ :: ⟨[14, 17, 1], [], [18], [(.slot 21)]⟩ :: ⟨[14, 16, 18], [], [19], [(.slot 22)]⟩ :: ⟨[14, 19], [], [20], [(.slot 23)]⟩ :: ⟨[20], [], [21], [(.slot 24)]⟩ :: ⟨[21], [], [22], [(.slot 25)]⟩ :: ⟨[21], [], [23], [(.slot 26)]⟩ :: ⟨[21], [], [24], [(.slot 27)]⟩ :: ⟨[21], [], [25], [(.slot 28)]⟩ :: ⟨[21], [], [26], [(.slot 29)]⟩ :: ⟨[21], [], [27], [(.slot 30)]⟩ :: ⟨[27], [], [28], [(.slot 31)]⟩ :: ⟨[28], [], [29], [(.slot 32)]⟩ :: ⟨[28], [], [30], [(.slot 33)]⟩ :: ⟨[28], [], [31], [(.slot 34)]⟩ :: ⟨[28], [], [32], [(.slot 35)]⟩ :: ⟨[28], [], [33], [(.slot 36)]⟩ :: ⟨[28], [], [34], [(.slot 37)]⟩ :: ⟨[34], [], [35], [(.slot 38)]⟩ :: ⟨[35], [], [36], [(.slot 39)]⟩ :: ⟨[35], [], [37], [(.slot 40)]⟩ :: ⟨[35], [], [38], [(.slot 41)]⟩ :: ⟨[35], [], [39], [(.slot 42)]⟩ :: ⟨[35], [], [40], [(.slot 43)]⟩ :: ⟨[35], [], [41], [(.slot 44)]⟩ :: ⟨[41], [], [42], [(.slot 45)]⟩ :: ⟨[42], [], [43], [(.slot 46)]⟩ :: ⟨[42], [], [44], [(.slot 47)]⟩ :: ⟨[42], [], [45], [(.slot 48)]⟩ :: ⟨[42], [], [46], [(.slot 49)]⟩ :: ⟨[42], [], [47], [(.slot 50)]⟩ :: ⟨[42], [], [48], [(.slot 51)]⟩ :: ⟨[48], [], [49], [(.slot 52)]⟩ :: ⟨[49], [], [50], [(.slot 53)]⟩ :: ⟨[49], [], [51], [(.slot 54)]⟩ :: ⟨[49], [], [52], [(.slot 55)]⟩ :: ⟨[49], [], [53], [(.slot 56)]⟩ :: ⟨[49], [], [54], [(.slot 57)]⟩ :: ⟨[49], [], [55], [(.slot 58)]⟩ :: ⟨[55], [], [56], [(.slot 4)]⟩ :: [])) (es' := [(4, .v (.bool false))]) (by kernel_rfl) rfl rfl
       ⟨st_plain rfl (op_fieldAddr _ _ _ _ 2 0 _ Try.underlying46 rfl sz3 rfl rfl (by decide)),
       st_plain rfl (op_load _ _ _ _ _ _ Try.underlying3 rfl rfl rfl (Nat.le_of_ble_eq_true rfl) rfl rfl rfl),
       st_plain rfl (op_fieldAddr _ _ _ _ 3 0 _ Try.underlying46 rfl sz3 rfl rfl (by decide)),
       st_plain rfl (op_load _ _ _ _ _ _ Try.underlying3 rfl rfl rfl (Nat.le_of_ble_eq_true rfl) rfl rfl rfl),
       st_plain rfl (op_bin _ _ _ _ _ rfl rfl rfl),
       st_plain rfl (op_move _ _ _ _ (congrArg (fun b => AV.v (Value.bool b)) hg1_5) rfl),
       st_run 5 10 true rfl rfl rfl (List.Mem.head _) (op_fieldAddr _ _ _ _ 2 0 _ Try.underlying46 rfl sz43 rfl rfl (by decide)),
       st_run 5 10 true rfl rfl rfl (List.Mem.head _) (op_loadA _ _ _ _ _ _ _ Try.underlying43 rfl sz43 rfl rfl (Nat.le_of_ble_eq_true rfl) rfl rfl),
       st_run 5 10 true rfl rfl rfl (List.Mem.head _) (op_fieldAddr _ _ _ _ 3 0 _ Try.underlying46 rfl sz43 rfl rfl (by decide)),
       st_run 5 10 true rfl rfl rfl (List.Mem.head _) (op_loadA _ _ _ _ _ _ _ Try.underlying43 rfl sz43 rfl rfl (Nat.le_of_ble_eq_true rfl) rfl rfl),
       st_run 5 10 true rfl rfl rfl (List.Mem.head _) (op_call _ _ 59 _ _ rfl Try.call59 rfl (ok_wherrykeep_Mail ((T_Mail.mk (T_Path.mk a.Mail.From.Null a.Mail.From.Local a.Mail.From.Domain) a.Mail.To a.Mail.Body a.Mail.Quiet a.Mail.Helo a.Mail.At)) ((T_Mail.mk (T_Path.mk b.Mail.From.Null b.Mail.From.Local b.Mail.From.Domain) b.Mail.To b.Mail.Body b.Mail.Quiet b.Mail.Helo b.Mail.At)) _ hv1) rfl rfl),
       st_plain rfl (op_pick _ _ true _ rfl rfl),
       st_plain rfl (op_move _ _ _ _ (congrArg (fun b => AV.v (Value.bool b)) hg1_12) rfl),
       st_run 12 17 true rfl rfl rfl (List.Mem.head _) (op_fieldAddr _ _ _ _ 2 0 _ Try.underlying46 rfl sz3 rfl rfl (by decide)),
       st_run 12 17 true rfl rfl rfl (List.Mem.head _) (op_load _ _ _ _ _ _ Try.underlying3 rfl rfl rfl (Nat.le_of_ble_eq_true rfl) rfl rfl rfl),
       st_run 12 17 true rfl rfl rfl (List.Mem.head _) (op_fieldAddr _ _ _ _ 3 0 _ Try.underlying46 rfl sz3 rfl rfl (by decide)),
       st_run 12 17 true rfl rfl rfl (List.Mem.head _) (op_load _ _ _ _ _ _ Try.underlying3 rfl rfl rfl (Nat.le_of_ble_eq_true rfl) rfl rfl rfl),
       st_run 12 17 true rfl rfl rfl (List.Mem.head _) (op_bin _ _ _ _ _ rfl rfl rfl),
       st_plain rfl (op_pick _ _ true _ rfl rfl),
       st_plain rfl (op_move _ _ _ _ (congrArg (fun b => AV.v (Value.bool b)) hg1_19) rfl),
       st_skip 19 24 _ true rfl rfl rfl rfl (List.Mem.head _),
       st_skip 19 24 _ true rfl rfl rfl rfl (List.Mem.head _),
       st_skip 19 24 _ true rfl rfl rfl rfl (List.Mem.head _),
       st_skip 19 24 _ true rfl rfl rfl rfl (List.Mem.head _),
       st_skip 19 24 _ true rfl rfl rfl rfl (List.Mem.head _),
       st_plain rfl (op_pick _ _ false _ rfl rfl),
       st_plain rfl (op_move _ _ _ _ rfl rfl),
       st_skip 26 31 _ true rfl rfl rfl rfl (List.Mem.head _),
       st_skip 26 31 _ true rfl rfl rfl rfl (List.Mem.head _),
       st_skip 26 31 _ true rfl rfl rfl rfl (List.Mem.head _),
       st_skip 26 31 _ true rfl rfl rfl rfl (List.Mem.head _),
       st_skip 26 31 _ true rfl rfl rfl rfl (List.Mem.head _),
       st_plain rfl (op_pick _ _ false _ rfl rfl),
       st_plain rfl (op_move _ _ _ _ rfl rfl),
       st_skip 33 38 _ true rfl rfl rfl rfl (List.Mem.head _),
       st_skip 33 38 _ true rfl rfl rfl rfl (List.Mem.head _),
       st_skip 33 38 _ true rfl rfl rfl rfl (List.Mem.head _),
       st_skip 33 38 _ true rfl rfl rfl rfl (List.Mem.head _),
       st_skip 33 38 _ true rfl rfl rfl rfl (List.Mem.head _),
       st_plain rfl (op_pick _ _ false _ rfl rfl),
       st_plain rfl (op_move _ _ _ _ rfl rfl),
       st_skip 40 45 _ true rfl rfl rfl rfl (List.Mem.head _),
       st_skip 40 45 _ true rfl rfl rfl rfl (List.Mem.head _),
       st_skip 40 45 _ true rfl rfl rfl rfl (List.Mem.head _),
       st_skip 40 45 _ true rfl rfl rfl rfl (List.Mem.head _),
       st_skip 40 45 _ true rfl rfl rfl rfl (List.Mem.head _),
       st_plain rfl (op_pick _ _ false _ rfl rfl),
       st_plain rfl (op_move _ _ _ _ rfl rfl),
       st_skip 47 52 _ true rfl rfl rfl rfl (List.Mem.head _),
       st_skip 47 52 _ true rfl rfl rfl rfl (List.Mem.head _),
       st_skip 47 52 _ true rfl rfl rfl rfl (List.Mem.head _),
       st_skip 47 52 _ true rfl rfl rfl rfl (List.Mem.head _),
       st_skip 47 52 _ true rfl rfl rfl rfl (List.Mem.head _),
       st_plain rfl (op_pick _ _ false _ rfl rfl),
       st_plain rfl (op_assign _ _ _ _ rfl rfl),
       trivial⟩ ?_
      exact hl6 _ (Option.some.inj h).symm
    ·refine ht_seqR hn (El := (_ :: _ :: (5, .ptr 2 0) :: (6, .v (.int .i64 a.Kind)) :: (7, .ptr 3 0) :: (8, .v (.int .i64 b.Kind)) :: (9, .v (.bool (a.Kind == b.Kind))) :: (10, .v (.bool true)) :: (11, .ptr 2 1) :: (12, .agg [.v (.bool a.Mail.From.Null), .v (.string a.Mail.From.Local), .v (.string a.Mail.From.Domain), .fl .shr 3 (List.flatten (List.map T_Path.enc a.Mail.To)), .fl .shr 1 (List.map (Value.int .u8) a.Mail.Body), .v (.bool a.Mail.Quiet), .v (.string a.Mail.Helo), .v (.int .i64 a.Mail.At)]) :: (13, .ptr 3 1) :: (14, .agg [.v (.bool b.Mail.From.Null), .v (.string b.Mail.From.Local), .v (.string b.Mail.From.Domain), .fl .shr 3 (List.flatten (List.map T_Path.enc b.Mail.To)), .fl .shr 1 (List.map (Value.int .u8) b.Mail.Body), .v (.bool b.Mail.Quiet), .v (.string b.Mail.Helo), .v (.int .i64 b.Mail.At)]) :: (15, .v (.bool v1)) :: (16, .v (.bool v1)) :: (17, .v (.bool false)) :: (18, .v undef) :: (19, .v undef) :: (20, .v undef) :: (21, .v undef) :: (22, .v undef) :: (23, .v (.bool false)) :: (24, .v (.bool false)) :: (25, .v undef) :: (26, .v undef) :: (27, .v undef) :: (28, .v undef) :: (29, .v undef) :: (30, .v (.bool false)) :: (31, .v (.bool false)) :: (32, .v undef) :: (33, .v undef) :: (34, .v undef) :: (35, .v undef) :: (36, .v undef) :: (37, .v (.bool false)) :: (38, .v (.bool false)) :: (39, .v undef) :: (40, .v undef) :: (41, .v undef) :: (42, .v undef) :: (43, .v undef) :: (44, .v (.bool false)) :: (45, .v (.bool false)) :: (46, .v undef) :: (47, .v undef) :: (48, .v undef) :: (49, .v undef) :: (50, .v undef) :: (51, .v (.bool false)) :: (52, .v (.bool false)) :: (53, .v undef) :: (54, .v undef) :: (55, .v undef) :: (56, .v undef) :: (57, .v undef) :: (58, .v (.bool false)) :: (4, .v (.bool false)) :: [])) (init := [0, 1]) (fin := [56]) (sps := (⟨[0], [], [2], [(.slot 5)]⟩ :: ⟨[2, 0], [], [3], [(.slot 6)]⟩ :: ⟨[1], [], [4], [(.slot 7)]⟩ :: ⟨[4, 1], [], [5], [(.slot 8)]⟩ :: ⟨[3, 5], [], [6], [(.slot 9)]⟩ :: ⟨[6], [], [7], [(.slot 10)]⟩ :: ⟨[7, 0], [], [8], [(.slot 11)]⟩ :: ⟨[7, 8, 0], [], [9], [(.slot 12)]⟩ :: ⟨[7, 1], [], [10], [(.slot 13)]⟩ :: ⟨[7, 10, 1], [], [11], [(.slot 14)]⟩ :: ⟨[7, 9, 11], [], [12], [(.slot 15)]⟩ :: ⟨[7, 12], [], [13], [(.slot 16)]⟩ :: ⟨[13], [], [14], [(.slot 17)]⟩ :: ⟨[14], [], [15], [(.slot 18)]⟩ :: ⟨[14], [], [16], [(.slot 19)]⟩ :: ⟨[14], [], [17], [(.slot 20)]⟩ :: ⟨[14], [], [18], [(.slot 21)]⟩ :: ⟨[14], [], [19], [(.slot 22)]⟩ :: ⟨[14], [], [20], [(.slot 23)]⟩ :: ⟨[20], [], [21], [(.slot 24)]⟩ :: ⟨[21], [], [22], [(.slot 25)]⟩ :: ⟨[21], [], [23], [(.slot 26)]⟩ :: ⟨[21], [], [24], [(.slot 27)]⟩ :: ⟨[21], [], [25], [(.slot 28)]⟩ :: ⟨[21], [], [26], [(.slot 29)]⟩ :: ⟨[21], [], [27], [(.slot 30)]⟩ :: ⟨[27], [], [28], [(.slot 31)]⟩ :: ⟨[28], [], [29], [(.slot 32)]⟩ :: ⟨[28], [], [30], [(.slot 33)]⟩ :: ⟨[28], [], [31], [(.slot 34)]⟩ :: ⟨[28], [], [32], [(.slot 35)]⟩ :: ⟨[28], [], [33], [(.slot 36)]⟩ :: ⟨[28], [], [34], [(.slot 37)]⟩ :: ⟨[34], [], [35], [(.slot 38)]⟩ :: ⟨[35], [], [36], [(.slot 39)]⟩ :: ⟨[35], [], [37], [(.slot 40)]⟩ :: ⟨[35], [], [38], [(.slot 41)]⟩ :: ⟨[35], [], [39], [(.slot 42)]⟩ :: ⟨[35], [], [40], [(.slot 43)]⟩ :: ⟨[35], [], [41], [(.slot 44)]⟩ :: ⟨[41], [], [42], [(.slot 45)]⟩ :: ⟨[42], [], [43], [(.slot 46)]⟩ :: ⟨[42], [], [44], [(.slot 47)]⟩ :: ⟨[42], [], [45], [(.slot 48)]⟩ :: ⟨[42], [], [46], [(.slot 49)]⟩ :: ⟨[42], [], [47], [(.slot 50)]⟩ :: ⟨[42], [], [48], [(.slot 51)]⟩ :: ⟨[48], [], [49], [(.slot 52)]⟩ :: ⟨[49], [], [50], [(.slot 53)]⟩ :: ⟨[49], [], [51], [(.slot 54)]⟩ :: ⟨[49], [], [52], [(.slot 55)]⟩ :: ⟨[49], [], [53], [(.slot 56)]⟩ :: ⟨[49], [], [54], [(.slot 57)]⟩ :: ⟨[49], [], [55], [(.slot 58)]⟩ :: ⟨[55], [], [56], [(.slot 4)]⟩ :: [])) (es' := [(4, .v (.bool false))]) (by kernel_rfl) rfl rfl
      ⟨st_plain rfl (op_fieldAddr _ _ _ _ 2 0 _ Try.underlying46 rfl sz3 rfl rfl (by decide)),
      st_plain rfl (op_load _ _ _ _ _ _ Try.underlying3 rfl rfl rfl (Nat.le_of_ble_eq_true rfl) rfl rfl rfl),
      st_plain rfl (op_fieldAddr _ _ _ _ 3 0 _ Try.underlying46 rfl sz3 rfl rfl (by decide)),
      st_plain rfl (op_load _ _ _ _ _ _ Try.underlying3 rfl rfl rfl (Nat.le_of_ble_eq_true rfl) rfl rfl rfl),
      st_plain rfl (op_bin _ _ _ _ _ rfl rfl rfl),
      st_plain rfl (op_move _ _ _ _ (congrArg (fun b => AV.v (Value.bool b)) hg1_5) rfl),
      st_run 5 10 true rfl rfl rfl (List.Mem.head _) (op_fieldAddr _ _ _ _ 2 0 _ Try.underlying46 rfl sz43 rfl rfl (by decide)),
      st_run 5 10 true rfl rfl rfl (List.Mem.head _) (op_loadA _ _ _ _ _ _ _ Try.underlying43 rfl sz43 rfl rfl (Nat.le_of_ble_eq_true rfl) rfl rfl),
      st_run 5 10 true rfl rfl rfl (List.Mem.head _) (op_fieldAddr _ _ _ _ 3 0 _ Try.underlying46 rfl sz43 rfl rfl (by decide)),
      st_run 5 10 true rfl rfl rfl (List.Mem.head _) (op_loadA _ _ _ _ _ _ _ Try.underlying43 rfl sz43 rfl rfl (Nat.le_of_ble_eq_true rfl) rfl rfl),
      st_run 5 10 true rfl rfl rfl (List.Mem.head _) (op_call _ _ 59 _ _ rfl Try.call59 rfl (ok_wherrykeep_Mail ((T_Mail.mk (T_Path.mk a.Mail.From.Null a.Mail.From.Local a.Mail.From.Domain) a.Mail.To a.Mail.Body a.Mail.Quiet a.Mail.Helo a.Mail.At)) ((T_Mail.mk (T_Path.mk b.Mail.From.Null b.Mail.From.Local b.Mail.From.Domain) b.Mail.To b.Mail.Body b.Mail.Quiet b.Mail.Helo b.Mail.At)) _ hv1) rfl rfl),
      st_plain rfl (op_pick _ _ true _ rfl rfl),
      st_plain rfl (op_move _ _ _ _ (congrArg (fun b => AV.v (Value.bool b)) hg1_12) rfl),
      st_skip 12 17 _ true rfl rfl rfl rfl (List.Mem.head _),
      st_skip 12 17 _ true rfl rfl rfl rfl (List.Mem.head _),
      st_skip 12 17 _ true rfl rfl rfl rfl (List.Mem.head _),
      st_skip 12 17 _ true rfl rfl rfl rfl (List.Mem.head _),
      st_skip 12 17 _ true rfl rfl rfl rfl (List.Mem.head _),
      st_plain rfl (op_pick _ _ false _ rfl rfl),
      st_plain rfl (op_move _ _ _ _ rfl rfl),
      st_skip 19 24 _ true rfl rfl rfl rfl (List.Mem.head _),
      st_skip 19 24 _ true rfl rfl rfl rfl (List.Mem.head _),
      st_skip 19 24 _ true rfl rfl rfl rfl (List.Mem.head _),
      st_skip 19 24 _ true rfl rfl rfl rfl (List.Mem.head _),
      st_skip 19 24 _ true rfl rfl rfl rfl (List.Mem.head _),
      st_plain rfl (op_pick _ _ false _ rfl rfl),
      st_plain rfl (op_move _ _ _ _ rfl rfl),
      st_skip 26 31 _ true rfl rfl rfl rfl (List.Mem.head _),
      st_skip 26 31 _ true rfl rfl rfl rfl (List.Mem.head _),
      st_skip 26 31 _ true rfl rfl rfl rfl (List.Mem.head _),
      st_skip 26 31 _ true rfl rfl rfl rfl (List.Mem.head _),
      st_skip 26 31 _ true rfl rfl rfl rfl (List.Mem.head _),
      st_plain rfl (op_pick _ _ false _ rfl rfl),
      st_plain rfl (op_move _ _ _ _ rfl rfl),
      st_skip 33 38 _ true rfl rfl rfl rfl (List.Mem.head _),
      st_skip 33 38 _ true rfl rfl rfl rfl (List.Mem.head _),
      st_skip 33 38 _ true rfl rfl rfl rfl (List.Mem.head _),
      st_skip 33 38 _ true rfl rfl rfl rfl (List.Mem.head _),
      st_skip 33 38 _ true rfl rfl rfl rfl (List.Mem.head _),
      st_plain rfl (op_pick _ _ false _ rfl rfl),
      st_plain rfl (op_move _ _ _ _ rfl rfl),
      st_skip 40 45 _ true rfl rfl rfl rfl (List.Mem.head _),
      st_skip 40 45 _ true rfl rfl rfl rfl (List.Mem.head _),
      st_skip 40 45 _ true rfl rfl rfl rfl (List.Mem.head _),
      st_skip 40 45 _ true rfl rfl rfl rfl (List.Mem.head _),
      st_skip 40 45 _ true rfl rfl rfl rfl (List.Mem.head _),
      st_plain rfl (op_pick _ _ false _ rfl rfl),
      st_plain rfl (op_move _ _ _ _ rfl rfl),
      st_skip 47 52 _ true rfl rfl rfl rfl (List.Mem.head _),
      st_skip 47 52 _ true rfl rfl rfl rfl (List.Mem.head _),
      st_skip 47 52 _ true rfl rfl rfl rfl (List.Mem.head _),
      st_skip 47 52 _ true rfl rfl rfl rfl (List.Mem.head _),
      st_skip 47 52 _ true rfl rfl rfl rfl (List.Mem.head _),
      st_plain rfl (op_pick _ _ false _ rfl rfl),
      st_plain rfl (op_assign _ _ _ _ rfl rfl),
      trivial⟩ ?_
     exact hl6 _ (Option.some.inj h).symm
   ·refine ht_seqR hn (El := (_ :: _ :: (5, .ptr 2 0) :: (6, .v (.int .i64 a.Kind)) :: (7, .ptr 3 0) :: (8, .v (.int .i64 b.Kind)) :: (9, .v (.bool (a.Kind == b.Kind))) :: (10, .v (.bool false)) :: (11, .v undef) :: (12, .v undef) :: (13, .v undef) :: (14, .v undef) :: (15, .v undef) :: (16, .v (.bool false)) :: (17, .v (.bool false)) :: (18, .v undef) :: (19, .v undef) :: (20, .v undef) :: (21, .v undef) :: (22, .v undef) :: (23, .v (.bool false)) :: (24, .v (.bool false)) :: (25, .v undef) :: (26, .v undef) :: (27, .v undef) :: (28, .v undef) :: (29, .v undef) :: (30, .v (.bool false)) :: (31, .v (.bool false)) :: (32, .v undef) :: (33, .v undef) :: (34, .v undef) :: (35, .v undef) :: (36, .v undef) :: (37, .v (.bool false)) :: (38, .v (.bool false)) :: (39, .v undef) :: (40, .v undef) :: (41, .v undef) :: (42, .v undef) :: (43, .v undef) :: (44, .v (.bool false)) :: (45, .v (.bool false)) :: (46, .v undef) :: (47, .v undef) :: (48, .v undef) :: (49, .v undef) :: (50, .v undef) :: (51, .v (.bool false)) :: (52, .v (.bool false)) :: (53, .v undef) :: (54, .v undef) :: (55, .v undef) :: (56, .v undef) :: (57, .v undef) :: (58, .v (.bool false)) :: (4, .v (.bool false)) :: [])) (init := [0, 1]) (fin := [56]) (sps := (⟨[0], [], [2], [(.slot 5)]⟩ :: ⟨[2, 0], [], [3], [(.slot 6)]⟩ :: ⟨[1], [], [4], [(.slot 7)]⟩ :: ⟨[4, 1], [], [5], [(.slot 8)]⟩ :: ⟨[3, 5], [], [6], [(.slot 9)]⟩ :: ⟨[6], [], [7], [(.slot 10)]⟩ :: ⟨[7], [], [8], [(.slot 11)]⟩ :: ⟨[7], [], [9], [(.slot 12)]⟩ :: ⟨[7], [], [10], [(.slot 13)]⟩ :: ⟨[7], [], [11], [(.slot 14)]⟩ :: ⟨[7], [], [12], [(.slot 15)]⟩ :: ⟨[7], [], [13], [(.slot 16)]⟩ :: ⟨[13], [], [14], [(.slot 17)]⟩ :: ⟨[14], [], [15], [(.slot 18)]⟩ :: ⟨[14], [], [16], [(.slot 19)]⟩ :: ⟨[14], [], [17], [(.slot 20)]⟩ :: ⟨[14], [], [18], [(.slot 21)]⟩ :: ⟨[14], [], [19], [(.slot 22)]⟩ :: ⟨[14], [], [20], [(.slot 23)]⟩ :: ⟨[20], [], [21], [(.slot 24)]⟩ :: ⟨[21], [], [22], [(.slot 25)]⟩ :: ⟨[21], [], [23], [(.slot 26)]⟩ :: ⟨[21], [], [24], [(.slot 27)]⟩ :: ⟨[21], [], [25], [(.slot 28)]⟩ :: ⟨[21], [], [26], [(.slot 29)]⟩ :: ⟨[21], [], [27], [(.slot 30)]⟩ :: ⟨[27], [], [28], [(.slot 31)]⟩ :: ⟨[28], [], [29], [(.slot 32)]⟩ :: ⟨[28], [], [30], [(.slot 33)]⟩ :: ⟨[28], [], [31], [(.slot 34)]⟩ :: ⟨[28], [], [32], [(.slot 35)]⟩ :: ⟨[28], [], [33], [(.slot 36)]⟩ :: ⟨[28], [], [34], [(.slot 37)]⟩ :: ⟨[34], [], [35], [(.slot 38)]⟩ :: ⟨[35], [], [36], [(.slot 39)]⟩ :: ⟨[35], [], [37], [(.slot 40)]⟩ :: ⟨[35], [], [38], [(.slot 41)]⟩ :: ⟨[35], [], [39], [(.slot 42)]⟩ :: ⟨[35], [], [40], [(.slot 43)]⟩ :: ⟨[35], [], [41], [(.slot 44)]⟩ :: ⟨[41], [], [42], [(.slot 45)]⟩ :: ⟨[42], [], [43], [(.slot 46)]⟩ :: ⟨[42], [], [44], [(.slot 47)]⟩ :: ⟨[42], [], [45], [(.slot 48)]⟩ :: ⟨[42], [], [46], [(.slot 49)]⟩ :: ⟨[42], [], [47], [(.slot 50)]⟩ :: ⟨[42], [], [48], [(.slot 51)]⟩ :: ⟨[48], [], [49], [(.slot 52)]⟩ :: ⟨[49], [], [50], [(.slot 53)]⟩ :: ⟨[49], [], [51], [(.slot 54)]⟩ :: ⟨[49], [], [52], [(.slot 55)]⟩ :: ⟨[49], [], [53], [(.slot 56)]⟩ :: ⟨[49], [], [54], [(.slot 57)]⟩ :: ⟨[49], [], [55], [(.slot 58)]⟩ :: ⟨[55], [], [56], [(.slot 4)]⟩ :: [])) (es' := [(4, .v (.bool false))]) (by kernel_rfl) rfl rfl
     ⟨st_plain rfl (op_fieldAddr _ _ _ _ 2 0 _ Try.underlying46 rfl sz3 rfl rfl (by decide)),
     st_plain rfl (op_load _ _ _ _ _ _ Try.underlying3 rfl rfl rfl (Nat.le_of_ble_eq_true rfl) rfl rfl rfl),
     st_plain rfl (op_fieldAddr _ _ _ _ 3 0 _ Try.underlying46 rfl sz3 rfl rfl (by decide)),
     st_plain rfl (op_load _ _ _ _ _ _ Try.underlying3 rfl rfl rfl (Nat.le_of_ble_eq_true rfl) rfl rfl rfl),
     st_plain rfl (op_bin _ _ _ _ _ rfl rfl rfl),
     st_plain rfl (op_move _ _ _ _ (congrArg (fun b => AV.v (Value.bool b)) hg1_5) rfl),
     st_skip 5 10 _ true rfl rfl rfl rfl (List.Mem.head _),
     st_skip 5 10 _ true rfl rfl rfl rfl (List.Mem.head _),
     st_skip 5 10 _ true rfl rfl rfl rfl (List.Mem.head _),
     st_skip 5 10 _ true rfl rfl rfl rfl (List.Mem.head _),
     st_skip 5 10 _ true rfl rfl rfl rfl (List.Mem.head _),
     st_plain rfl (op_pick _ _ false _ rfl rfl),
     st_plain rfl (op_move _ _ _ _ rfl rfl),
     st_skip 12 17 _ true rfl rfl rfl rfl (List.Mem.head _),
     st_skip 12 17 _ true rfl rfl rfl rfl (List.Mem.head _),
     st_skip 12 17 _ true rfl rfl rfl rfl (List.Mem.head _),
     st_skip 12 17 _ true rfl rfl rfl rfl (List.Mem.head _),
     st_skip 12 17 _ true rfl rfl rfl rfl (List.Mem.head _),
     st_plain rfl (op_pick _ _ false _ rfl rfl),
     st_plain rfl (op_move _ _ _ _ rfl rfl),
     st_skip 19 24 _ true rfl rfl rfl rfl (List.Mem.head _),
     st_skip 19 24 _ true rfl rfl rfl rfl (List.Mem.head _),
     st_skip 19 24 _ true rfl rfl rfl rfl (List.Mem.head _),
     st_skip 19 24 _ true rfl rfl rfl rfl (List.Mem.head _),
     st_skip 19 24 _ true rfl rfl rfl rfl (List.Mem.head _),
     st_plain rfl (op_pick _ _ false _ rfl rfl),
     st_plain rfl (op_move _ _ _ _ rfl rfl),
     st_skip 26 31 _ true rfl rfl rfl rfl (List.Mem.head _),
     st_skip 26 31 _ true rfl rfl rfl rfl (List.Mem.head _),
     st_skip 26 31 _ true rfl rfl rfl rfl (List.Mem.head _),
     st_skip 26 31 _ true rfl rfl rfl rfl (List.Mem.head _),
     st_skip 26 31 _ true rfl rfl rfl rfl (List.Mem.head _),
     st_plain rfl (op_pick _ _ false _ rfl rfl),
     st_plain rfl (op_move _ _ _ _ rfl rfl),
     st_skip 33 38 _ true rfl rfl rfl rfl (List.Mem.head _),
     st_skip 33 38 _ true rfl rfl rfl rfl (List.Mem.head _),
     st_skip 33 38 _ true rfl rfl rfl rfl (List.Mem.head _),
     st_skip 33 38 _ true rfl rfl rfl rfl (List.Mem.head _),
     st_skip 33 38 _ true rfl rfl rfl rfl (List.Mem.head _),
     st_plain rfl (op_pick _ _ false _ rfl rfl),
     st_plain rfl (op_move _ _ _ _ rfl rfl),
     st_skip 40 45 _ true rfl rfl rfl rfl (List.Mem.head _),
     st_skip 40 45 _ true rfl rfl rfl rfl (List.Mem.head _),
     st_skip 40 45 _ true rfl rfl rfl rfl (List.Mem.head _),
     st_skip 40 45 _ true rfl rfl rfl rfl (List.Mem.head _),
     st_skip 40 45 _ true rfl rfl rfl rfl (List.Mem.head _),
     st_plain rfl (op_pick _ _ false _ rfl rfl),
     st_plain rfl (op_move _ _ _ _ rfl rfl),
     st_skip 47 52 _ true rfl rfl rfl rfl (List.Mem.head _),
     st_skip 47 52 _ true rfl rfl rfl rfl (List.Mem.head _),
     st_skip 47 52 _ true rfl rfl rfl rfl (List.Mem.head _),
     st_skip 47 52 _ true rfl rfl rfl rfl (List.Mem.head _),
     st_skip 47 52 _ true rfl rfl rfl rfl (List.Mem.head _),
     st_plain rfl (op_pick _ _ false _ rfl rfl),
     st_plain rfl (op_assign _ _ _ _ rfl rfl),
     trivial⟩ ?_
    exact hl6 _ (Option.some.inj h).symm

set_option maxHeartbeats 1000000 in
theorem ok_wherrykeep_Recs (a : (List T_Rec)) (b : (List T_Rec)) (r : Bool) (h : Sh.wherrykeep_Recs a b = some r) : FnOK Try.prog 27 [.fr .shr true 15 (List.flatten (List.map T_Rec.ienc a)), .fr .shr true 15 (List.flatten (List.map T_Rec.ienc b))] (.v (.bool r)) := by
  unfold Sh.wherrykeep_Recs at h
  refine fn_ok Try.func27 rfl (Nat.le_of_ble_eq_true rfl) rfl rfl fun g0 hn hio => ?_
  refine ht_seq ?_
  refine ht_seqR hn (El := [_, _, (4, .v (.bool false))]) (init := [0, 1]) (fin := [0, 1]) (sps := [⟨[], [], [2], [(.slot 4)]⟩]) (es' := [(_, _), (_, _)]) (by kernel_rfl) rfl rfl
   ⟨st_plain rfl (op_assign _ _ _ _ rfl rfl),
   trivial⟩ ?_
  refine pt_then ?_
  refine ht_seq ?_
  refine ht_seq ?_
  refine ht_seqR hn (El := [_, _, (6, .fr .shr true 15 (List.flatten (List.map T_Rec.ienc a))), (7, .v (.int .i64 (a.length : Int))), (8, .fr .shr true 15 (List.flatten (List.map T_Rec.ienc b))), (9, .v (.int .i64 (b.length : Int))), (10, .v (.bool (((a.length : Int) != (b.length : Int)))))]) (init := [0, 1]) (fin := [0, 1, 6]) (sps := [⟨[0], [], [2], [(.slot 6)]⟩, ⟨[2], [], [3], [(.slot 7)]⟩, ⟨[1], [], [4], [(.slot 8)]⟩, ⟨[4], [], [5], [(.slot 9)]⟩, ⟨[3, 5], [], [6], [(.slot 10)]⟩]) (es' := [(_, _), (_, _), (10, .v (.bool (((a.length : Int) != (b.length : Int)))))]) (by kernel_rfl) rfl rfl
   ⟨st_plain rfl (op_move _ _ _ _ rfl rfl),
   st_plain rfl (op_len_fr _ _ _ Try.underlying31 rfl (by decide) (gflat_len T_Rec.ilen _)),
   st_plain rfl (op_move _ _ _ _ rfl rfl),
   st_plain rfl (op_len_fr _ _ _ Try.underlying31 rfl (by decide) (gflat_len T_Rec.ilen _)),
   st_plain rfl (op_bin _ _ _ _ _ rfl rfl rfl),
   trivial⟩ ?_
  refine pt_then ?_
  refine ht_cond _ rfl (fun hb1 => ?_) (fun hb1 => ?_)
  ·have h := cond_t hb1 h
   refine ht_seq ?_
   refine ht_seqR hn (El := [_, _, _, (4, .v (.bool false))]) (init := [0, 1, 2]) (fin := [3]) (sps := [⟨[], [], [3], [(.slot 4)]⟩]) (es' := [(4, .v (.bool false))]) (by kernel_rfl) rfl rfl
    ⟨st_plain rfl (op_assign _ _ _ _ rfl rfl),
    trivial⟩ ?_
   refine pt_then ?_
   refine ht_ret ?_
   refine pt_r_then ?_
   obtain rfl := Option.some.inj h
   exact pt_ret hio rfl (.tmp _ _ .nil) rfl rfl
  ·have h := cond_f hb1 h
   refine ht_skip ?_
   refine pt_then ?_
   refine ht_seq ?_
   refine ht_seq ?_
   refine ht_seqR hn (El := [_, _, _, (5, .v (.int .i64 0))]) (init := [0, 1, 2]) (fin := [0, 1, 3]) (sps := [⟨[], [], [3], [(.slot 5)]⟩]) (es' := [(_, _), (_, _), (5, .v (.int .i64 0))]) (by kernel_rfl) rfl rfl
    ⟨st_plain rfl (op_assign _ _ _ _ rfl rfl),
    trivial⟩ ?_
   refine pt_then ?_
   refine ht_loopS h (fun (s13 : Int) => [(0, .fr .shr true 15 (List.flatten (List.map T_Rec.ienc a))), (1, .fr .shr true 15 (List.flatten (List.map T_Rec.ienc b))), (5, .v (.int .i64 s13))]) (fun (() : Unit) => []) ?_ ?_
   ·rintro ⟨⟩ h
    refine pt_then ?_
    refine ht_seq ?_
    refine ht_seqR hn (El := [(4, .v (.bool true))]) (init := []) (fin := [0]) (sps := [⟨[], [], [0], [(.slot 4)]⟩]) (es' := [(4, .v (.bool true))]) (by kernel_rfl) rfl rfl
     ⟨st_plain rfl (op_assign _ _ _ _ rfl rfl),
     trivial⟩ ?_
    refine pt_then ?_
    refine ht_ret ?_
    obtain rfl := Option.some.inj h
    exact pt_ret hio rfl (.tmp _ _ .nil) rfl rfl
   ·rintro u16 hl17 hr18 s13 rr21 h ho19
    refine ht_seq ?_
    refine ht_seq ?_
    refine ht_seqR hn (El := [_, _, _, (11, .v (.int .i64 s13)), (12, .fr .shr true 15 (List.flatten (List.map T_Rec.ienc a))), (13, .v (.int .i64 (a.length : Int))), (14, .v (.bool ((decide (s13 < (a.length : Int))))))]) (init := [0, 1, 2]) (fin := [0, 1, 2, 6]) (sps := [⟨[2], [], [3], [(.slot 11)]⟩, ⟨[0], [], [4], [(.slot 12)]⟩, ⟨[4], [], [5], [(.slot 13)]⟩, ⟨[3, 5], [], [6], [(.slot 14)]⟩]) (es' := [(_, _), (_, _), (_, _), (14, .v (.bool ((decide (s13 < (a.length : Int))))))]) (by kernel_rfl) rfl rfl
     ⟨st_plain rfl (op_move _ _ _ _ rfl rfl),
     st_plain rfl (op_move _ _ _ _ rfl rfl),
     st_plain rfl (op_len_fr _ _ _ Try.underlying31 rfl (by decide) (gflat_len T_Rec.ilen _)),
     st_plain rfl (op_bin _ _ _ _ _ rfl rfl rfl),
     trivial⟩ ?_
    refine pt_then ?_
    refine ht_cond _ rfl (fun hb22 => ?_) (fun hb22 => ?_)
    ·have h := cond_t hb22 h
     refine ht_skip ?_
     refine pt_then ?_
     refine ht_seq ?_
     refine ht_block ?_
     refine ht_seq ?_
     obtain ⟨v3, hv3, h⟩ := bind_some h
     obtain ⟨v4, hv4, h⟩ := bind_some h
     obtain ⟨v5, hv5, h⟩ := bind_some h
     obtain ⟨v6, hv6, h⟩ := bind_some h
     obtain ⟨v7, hv7, h⟩ := bind_some h
     refine ht_anyR (by kernel_rfl) hn (El := [_, _, _, _, (17, .fr .shr true 15 (List.flatten (List.map T_Rec.ienc a))), (18, .v (.int .i64 s13)), (19, .eref (.slot 17) (v3 * 15)), (20, .agg [.v (.int .i64 v4.Kind), .v (.bool v4.Mail.From.Null), .v (.string v4.Mail.From.Local), .v (.string v4.Mail.From.Domain), .fl .shr 3 (List.flatten (List.map T_Path.enc v4.Mail.To)), .fl .shr 1 (List.map (Value.int .u8) v4.Mail.Body), .v (.bool v4.Mail.Quiet), .v (.string v4.Mail.Helo), .v (.int .i64 v4.Mail.At), .v (.int .i64 v4.Id), .fl .shr 1 (List.map (Value.int .i64) v4.Ids), .v (.int .i64 v4.Origin), .v (.int .i64 v4.Number), .v (.int .i64 v4.Offset), .fl .shr 1 (List.map (Value.int .u8) v4.Data)]), (21, .fr .shr true 15 (List.flatten (List.map T_Rec.ienc b))), (22, .v (.int .i64 s13)), (23, .eref (.slot 21) (v5 * 15)), (24, .agg [.v (.int .i64 v6.Kind), .v (.bool v6.Mail.From.Null), .v (.string v6.Mail.From.Local), .v (.string v6.Mail.From.Domain), .fl .shr 3 (List.flatten (List.map T_Path.enc v6.Mail.To)), .fl .shr 1 (List.map (Value.int .u8) v6.Mail.Body), .v (.bool v6.Mail.Quiet), .v (.string v6.Mail.Helo), .v (.int .i64 v6.Mail.At), .v (.int .i64 v6.Id), .fl .shr 1 (List.map (Value.int .i64) v6.Ids), .v (.int .i64 v6.Origin), .v (.int .i64 v6.Number), .v (.int .i64 v6.Offset), .fl .shr 1 (List.map (Value.int .u8) v6.Data)]), (25, .v (.bool v7)), (26, .v (.bool (!v7)))]) (init := [0, 1, 2, 3]) (fin := [0, 1, 2, 13]) (sps := [⟨[0], [], [4], [(.slot 17)]⟩, ⟨[2], [], [5], [(.slot 18)]⟩, ⟨[4, 5], [], [6], [(.slot 19)]⟩, ⟨[6, 4], [], [7], [(.slot 20)]⟩, ⟨[1], [], [8], [(.slot 21)]⟩, ⟨[2], [], [9], [(.slot 22)]⟩, ⟨[8, 9], [], [10], [(.slot 23)]⟩, ⟨[10, 8], [], [11], [(.slot 24)]⟩, ⟨[7, 11], [], [12], [(.slot 25)]⟩, ⟨[12], [], [13], [(.slot 26)]⟩]) (es' := [(_, _), (_, _), (_, _), (26, .v (.bool (!v7)))]) (by kernel_rfl) rfl rfl
      ⟨st_plain rfl (op_move _ _ _ _ rfl rfl),
      st_plain rfl (op_move _ _ _ _ rfl rfl),
      st_plain rfl (op_ix_fr _ _ _ _ _ _ _ _ Try.underlying31 sz46 (by decide) rfl rfl rfl (ix_ok hv3).1 (gflat_lt T_Rec.ilen (ix_ok hv3).2) rfl),
      st_plain rfl (op_loadA_fr _ _ _ _ _ _ _ _ Try.underlying46 rfl sz46 rfl rfl (gflat_get T_Rec.ilen hv4) (.cons (.v _) (.cons (.v _) (.cons (.v _) (.cons (.v _) (.cons (.fl _ _ rfl) (.cons (.fl _ _ rfl) (.cons (.v _) (.cons (.v _) (.cons (.v _) (.cons (.v _) (.cons (.fl _ _ rfl) (.cons (.v _) (.cons (.v _) (.cons (.v _) (.cons (.fl _ _ rfl) (.nil)))))))))))))))) rfl (by decide)),
      st_plain rfl (op_move _ _ _ _ rfl rfl),
      st_plain rfl (op_move _ _ _ _ rfl rfl),
      st_plain rfl (op_ix_fr _ _ _ _ _ _ _ _ Try.underlying31 sz46 (by decide) rfl rfl rfl (ix_ok hv5).1 (gflat_lt T_Rec.ilen (ix_ok hv5).2) rfl),
      st_plain rfl (op_loadA_fr _ _ _ _ _ _ _ _ Try.underlying46 rfl sz46 rfl rfl (gflat_get T_Rec.ilen hv6) (.cons (.v _) (.cons (.v _) (.cons (.v _) (.cons (.v _) (.cons (.fl _ _ rfl) (.cons (.fl _ _ rfl) (.cons (.v _) (.cons (.v _) (.cons (.v _) (.cons (.v _) (.cons (.fl _ _ rfl) (.cons (.v _) (.cons (.v _) (.cons (.v _) (.cons (.fl _ _ rfl) (.nil)))))))))))))))) rfl (by decide)),
      st_plain rfl (op_call _ _ 51 _ _ rfl Try.call51 rfl (ok_wherrykeep_Rec ((T_Rec.mk v4.Kind ((T_Mail.mk (T_Path.mk v4.Mail.From.Null v4.Mail.From.Local v4.Mail.From.Domain) v4.Mail.To v4.Mail.Body v4.Mail.Quiet v4.Mail.Helo v4.Mail.At)) v4.Id v4.Ids v4.Origin v4.Number v4.Offset v4.Data)) ((T_Rec.mk v6.Kind ((T_Mail.mk (T_Path.mk v6.Mail.From.Null v6.Mail.From.Local v6.Mail.From.Domain) v6.Mail.To v6.Mail.Body v6.Mail.Quiet v6.Mail.Helo v6.Mail.At)) v6.Id v6.Ids v6.Origin v6.Number v6.Offset v6.Data)) _ hv7) rfl rfl),
      st_plain rfl (op_un _ _ _ _ rfl rfl),
      trivial⟩ ?_
     refine pt_then ?_
     refine ht_cond _ rfl (fun hb23 => ?_) (fun hb23 => ?_)
     ·have h := cond_t hb23 h
      refine ht_seq ?_
      refine ht_seqR hn (El := [_, _, _, _, (4, .v (.bool false))]) (init := [0, 1, 2, 3]) (fin := [4]) (sps := [⟨[], [], [4], [(.slot 4)]⟩]) (es' := [(4, .v (.bool false))]) (by kernel_rfl) rfl rfl
       ⟨st_plain rfl (op_assign _ _ _ _ rfl rfl),
       trivial⟩ ?_
      refine pt_then ?_
      refine ht_ret ?_
      refine pt_r_in ?_
      refine pt_r_then ?_
      refine pt_r_then ?_
      refine pt_r_in ?_
      refine pt_r_then ?_
      have h := hr18 _ (ho19 _ (Option.some.inj h).symm).symm
      obtain rfl := Option.some.inj h
      exact pt_ret hio rfl (.tmp _ _ .nil) rfl rfl
     ·have h := cond_f hb23 h
      refine ht_skip ?_
      refine pt_inb ?_
      refine pt_then ?_
      obtain ⟨v9, hv9, h⟩ := bind_some h
      refine ht_seqR hn (El := [_, _, _, _, (15, .v (.int .i64 s13)), (16, .v (.int .i64 v9)), (5, .v (.int .i64 v9))]) (init := [0, 1, 2, 3]) (fin := [0, 1, 6]) (sps := [⟨[2], [], [4], [(.slot 15)]⟩, ⟨[4], [], [5], [(.slot 16)]⟩, ⟨[5], [2], [6], [(.slot 5)]⟩]) (es' := [(_, _), (_, _), (5, .v (.int .i64 v9))]) (by kernel_rfl) rfl rfl
       ⟨st_plain rfl (op_move _ _ _ _ rfl rfl),
       st_plain rfl (op_bin _ _ _ _ _ rfl rfl (ibind (f := Value.int .i64) (Option.some.inj hv9))),
       st_plain rfl (LOp.drop [_] (op_assign _ _ _ _ rfl rfl)),
       trivial⟩ ?_
      exact pt_next _ (Option.some.inj h).symm rfl
    ·have h := cond_f hb22 h
     refine ht_exit ?_
     refine pt_x_then ?_
     refine pt_x_then ?_
     refine pt_x_in ?_
     refine pt_pick [] (by kernel_rfl) (es' := []) rfl ?_
     exact hl17 _ (ho19 _ (Option.some.inj h).symm).symm

set_option maxHeartbeats 1000000 in
theorem ok_diary_Diary_Len (d : T_diary_Diary) (r : (Int × T_diary_Diary)) (h : Sh.diary_Diary_Len d = some r) : FnP Try.prog 34 [.box 64 [.v (.int .i64 d.limit), .fr (.own 46) false 15 (List.flatten (List.map T_Rec.ienc d.recs)), .v (.int .i64 d.used), .v (.int .i64 d.safe), .v (.int .i64 d.kept), .v (.int .i64 d.life), .v (.bool d.off), .v (.int .i64 d.trip), .v (.int .i64 d.tripKeep)]] [.box 64 [.v (.int .i64 r.2.limit), .fr (.own 46) false 15 (List.flatten (List.map T_Rec.ienc r.2.recs)), .v (.int .i64 r.2.used), .v (.int .i64 r.2.safe), .v (.int .i64 r.2.kept), .v (.int .i64 r.2.life), .v (.bool r.2.off), .v (.int .i64 r.2.trip), .v (.int .i64 r.2.tripKeep)]] (.v (.int .i64 r.1)) := by
  unfold Sh.diary_Diary_Len at h
  refine fn_okP Try.func34 rfl (Nat.le_of_ble_eq_true rfl) rfl (Nat.le_of_ble_eq_true rfl) fun args0 hargs0 g0 hn hio => ?_
  refine ht_seq ?_
  refine ht_seqR hn (El := [_, _, (2, .v (.int .i64 0))]) (init := [0, 1]) (fin := [0, 1]) (sps := [⟨[], [], [2], [(.slot 2)]⟩]) (es' := [(_, _), (_, _)]) (by kernel_rfl) rfl rfl
   ⟨st_plain rfl (op_assign _ _ _ _ rfl rfl),
   trivial⟩ ?_
  refine pt_then ?_
  refine ht_seq ?_
  refine ht_seqR hn (El := [_, _, (3, .ptr 0 0), (4, .ptr 0 0), (5, .ptr 0 1), (6, .same (.cell 0 1)), (7, .v (.int .i64 (d.recs.length : Int))), (2, .v (.int .i64 (d.recs.length : Int)))]) (init := [0, 1]) (fin := [0, 1, 7]) (sps := [⟨[0], [], [2], [(.slot 3)]⟩, ⟨[2, 0], [], [3], [(.slot 4)]⟩, ⟨[3, 0], [], [4], [(.slot 5)]⟩, ⟨[4, 0], [], [5], [(.slot 6)]⟩, ⟨[5, 0], [], [6], [(.slot 7)]⟩, ⟨[6], [], [7], [(.slot 2)]⟩]) (es' := [(_, _), (_, _), (2, .v (.int .i64 (d.recs.length : Int)))]) (by kernel_rfl) rfl rfl
   ⟨st_plain rfl (op_move _ _ _ _ rfl rfl),
   st_plain rfl (op_nilCheck _ _ _ 0 0 rfl (by decide)),
   st_plain rfl (op_fieldAddr _ _ _ _ 0 0 _ Try.underlying64 rfl sz31 rfl rfl (by decide)),
   st_plain rfl (op_load _ _ _ _ _ _ Try.underlying31 rfl rfl rfl (Nat.le_of_ble_eq_true rfl) rfl rfl rfl),
   st_plain rfl (op_len_fr _ _ _ Try.underlying31 rfl (by decide) (gflat_len T_Rec.ilen _)),
   st_plain rfl (op_assign _ _ _ _ rfl rfl),
   trivial⟩ ?_
  refine pt_then ?_
  refine ht_ret ?_
  refine pt_pick [2, 0, 1] (by kernel_rfl) (es' := [(_, _), (_, _), (_, _)]) rfl ?_
  obtain rfl := Option.some.inj h
  exact pt_retP (es := [(2, .v (.int .i64 (d.recs.length : Int)))]) (posts := [.box 64 [.v (.int .i64 d.limit), .fr (.own 46) false 15 (List.flatten (List.map T_Rec.ienc d.recs)), .v (.int .i64 d.used), .v (.int .i64 d.safe), .v (.int .i64 d.kept), .v (.int .i64 d.life), .v (.bool d.off), .v (.int .i64 d.trip), .v (.int .i64 d.tripKeep)]]) hio rfl rfl (.tmp _ _ .nil) rfl rfl hargs0 rfl

set_option maxHeartbeats 1000000 in
theorem ok_diary_Diary_Renew (d : T_diary_Diary) (l : (List T_Rec)) (r : (Int × T_diary_Diary)) (h : Sh.diary_Diary_Renew d l = some r) : FnP Try.prog 19 [.box 64 [.v (.int .i64 d.limit), .fr (.own 46) false 15 (List.flatten (List.map T_Rec.ienc d.recs)), .v (.int .i64 d.used), .v (.int .i64 d.safe), .v (.int .i64 d.kept), .v (.int .i64 d.life), .v (.bool d.off), .v (.int .i64 d.trip), .v (.int .i64 d.tripKeep)], .fr .shr true 15 (List.flatten (List.map T_Rec.ienc l))] [.box 64 [.v (.int .i64 r.2.limit), .fr (.own 46) false 15 (List.flatten (List.map T_Rec.ienc r.2.recs)), .v (.int .i64 r.2.used), .v (.int .i64 r.2.safe), .v (.int .i64 r.2.kept), .v (.int .i64 r.2.life), .v (.bool r.2.off), .v (.int .i64 r.2.trip), .v (.int .i64 r.2.tripKeep)]] (.v (.int .i64 r.1)) := by
  unfold Sh.diary_Diary_Renew at h
  refine fn_okP Try.func19 rfl (Nat.le_of_ble_eq_true rfl) rfl (Nat.le_of_ble_eq_true rfl) fun args0 hargs0 g0 hn hio => ?_
  refine ht_seq ?_
  refine ht_seqR hn (El := [_, _, _, (4, .v (.int .i64 0))]) (init := [0, 1, 2]) (fin := [0, 1, 2]) (sps := [⟨[], [], [3], [(.slot 4)]⟩]) (es' := [(_, _), (_, _), (_, _)]) (by kernel_rfl) rfl rfl
   ⟨st_plain rfl (op_assign _ _ _ _ rfl rfl),
   trivial⟩ ?_
  refine pt_then ?_
  refine ht_seq ?_
  refine ht_seq ?_
  refine ht_seqR hn (El := [_, _, _, (7, .ptr 0 0), (8, .ptr 0 0), (9, .ptr 0 6), (10, .v (.bool d.off))]) (init := [0, 1, 2]) (fin := [0, 1, 2, 6]) (sps := [⟨[0], [], [3], [(.slot 7)]⟩, ⟨[3, 0], [], [4], [(.slot 8)]⟩, ⟨[4, 0], [], [5], [(.slot 9)]⟩, ⟨[5, 0], [], [6], [(.slot 10)]⟩]) (es' := [(_, _), (_, _), (_, _), (10, .v (.bool d.off))]) (by kernel_rfl) rfl rfl
   ⟨st_plain rfl (op_move _ _ _ _ rfl rfl),
   st_plain rfl (op_nilCheck _ _ _ 0 0 rfl (by decide)),
   st_plain rfl (op_fieldAddr _ _ _ _ 0 0 _ Try.underlying64 rfl sz4 rfl rfl (by decide)),
   st_plain rfl (op_load _ _ _ _ _ _ Try.underlying4 rfl rfl rfl (Nat.le_of_ble_eq_true rfl) rfl rfl rfl),
   trivial⟩ ?_
  refine pt_then ?_
  refine ht_cond _ rfl (fun hb1 => ?_) (fun hb1 => ?_)
  ·have h := cond_t hb1 h
   refine ht_seq ?_
   refine ht_seqR hn (El := [_, _, _, _, (4, .v (.int .i64 7))]) (init := [0, 1, 2, 3]) (fin := [0, 2, 4]) (sps := [⟨[], [], [4], [(.slot 4)]⟩]) (es' := [(_, _), (_, _), (4, .v (.int .i64 7))]) (by kernel_rfl) rfl rfl
    ⟨st_plain rfl (op_assign _ _ _ _ rfl rfl),
    trivial⟩ ?_
   refine pt_then ?_
   refine ht_ret ?_
   refine pt_pick [2, 0, 1] (by kernel_rfl) (es' := [(_, _), (_, _), (_, _)]) rfl ?_
   refine pt_r_then ?_
   obtain rfl := Option.some.inj h
   exact pt_retP (es := [(4, .v (.int .i64 7))]) (posts := [.box 64 [.v (.int .i64 d.limit), .fr (.own 46) false 15 (List.flatten (List.map T_Rec.ienc d.recs)), .v (.int .i64 d.used), .v (.int .i64 d.safe), .v (.int .i64 d.kept), .v (.int .i64 d.life), .v (.bool d.off), .v (.int .i64 d.trip), .v (.int .i64 d.tripKeep)]]) hio rfl rfl (.tmp _ _ .nil) rfl rfl hargs0 rfl
  ·have h := cond_f hb1 h
   refine ht_skip ?_
   refine pt_then ?_
   refine ht_seq ?_
   obtain ⟨v2, hv2, h⟩ := bind_some h
   refine ht_seqR hn (El := [_, _, _, _, (11, .fr .shr true 15 (List.flatten (List.map T_Rec.ienc l))), (12, .v (.int .i64 v2)), (5, .v (.int .i64 v2))]) (init := [0, 1, 2, 3]) (fin := [0, 1, 2, 6]) (sps := [⟨[1], [], [4], [(.slot 11)]⟩, ⟨[4], [], [5], [(.slot 12)]⟩, ⟨[5], [], [6], [(.slot 5)]⟩]) (es' := [(_, _), (_, _), (_, _), (5, .v (.int .i64 v2))]) (by kernel_rfl) rfl rfl
    ⟨st_plain rfl (op_move _ _ _ _ rfl rfl),
    st_plain rfl (op_call _ _ 47 _ _ rfl Try.call47 rfl (ok_diary_size l _ hv2) rfl rfl),
    st_plain rfl (op_assign _ _ _ _ rfl rfl),
    trivial⟩ ?_
   refine pt_then ?_
   refine ht_seq ?_
   refine ht_seq ?_
   refine ht_seqR hn (El := [_, _, _, _, (13, .v (.int .i64 v2)), (14, .ptr 0 0), (15, .ptr 0 0), (16, .ptr 0 0), (17, .v (.int .i64 d.limit)), (18, .v (.bool ((decide (d.limit < v2)))))]) (init := [0, 1, 2, 3]) (fin := [0, 1, 2, 3, 9]) (sps := [⟨[3], [], [4], [(.slot 13)]⟩, ⟨[0], [], [5], [(.slot 14)]⟩, ⟨[5, 0], [], [6], [(.slot 15)]⟩, ⟨[6, 0], [], [7], [(.slot 16)]⟩, ⟨[7, 0], [], [8], [(.slot 17)]⟩, ⟨[4, 8], [], [9], [(.slot 18)]⟩]) (es' := [(_, _), (_, _), (_, _), (_, _), (18, .v (.bool ((decide (d.limit < v2)))))]) (by kernel_rfl) rfl rfl
    ⟨st_plain rfl (op_move _ _ _ _ rfl rfl),
    st_plain rfl (op_move _ _ _ _ rfl rfl),
    st_plain rfl (op_nilCheck _ _ _ 0 0 rfl (by decide)),
    st_plain rfl (op_fieldAddr _ _ _ _ 0 0 _ Try.underlying64 rfl sz3 rfl rfl (by decide)),
    st_plain rfl (op_load _ _ _ _ _ _ Try.underlying3 rfl rfl rfl (Nat.le_of_ble_eq_true rfl) rfl rfl rfl),
    st_plain rfl (op_bin _ _ _ _ _ rfl rfl rfl),
    trivial⟩ ?_
   refine pt_then ?_
   refine ht_cond _ rfl (fun hb3 => ?_) (fun hb3 => ?_)
   ·have h := cond_t hb3 h
    refine ht_seq ?_
    refine ht_seqR hn (El := [_, _, _, _, _, (4, .v (.int .i64 8))]) (init := [0, 1, 2, 3, 4]) (fin := [0, 2, 5]) (sps := [⟨[], [], [5], [(.slot 4)]⟩]) (es' := [(_, _), (_, _), (4, .v (.int .i64 8))]) (by kernel_rfl) rfl rfl
     ⟨st_plain rfl (op_assign _ _ _ _ rfl rfl),
     trivial⟩ ?_
    refine pt_then ?_
    refine ht_ret ?_
    refine pt_pick [2, 0, 1] (by kernel_rfl) (es' := [(_, _), (_, _), (_, _)]) rfl ?_
    refine pt_r_then ?_
    obtain rfl := Option.some.inj h
    exact pt_retP (es := [(4, .v (.int .i64 8))]) (posts := [.box 64 [.v (.int .i64 d.limit), .fr (.own 46) false 15 (List.flatten (List.map T_Rec.ienc d.recs)), .v (.int .i64 d.used), .v (.int .i64 d.safe), .v (.int .i64 d.kept), .v (.int .i64 d.life), .v (.bool d.off), .v (.int .i64 d.trip), .v (.int .i64 d.tripKeep)]]) hio rfl rfl (.tmp _ _ .nil) rfl rfl hargs0 rfl
   ·have h := cond_f hb3 h
    refine ht_skip ?_
    refine pt_then ?_
    refine ht_seq ?_
    refine ht_seq ?_
    obtain ⟨v4, hv4, h⟩ := bind_some h
    refine ht_seqR hn (El := [_, _, _, _, _, (19, .ptr 0 0), (20, .v (.int .i64 v4.1)), (0, .box 64 [.v (.int .i64 v4.2.limit), .fr (.own 46) false 15 (List.flatten (List.map T_Rec.ienc v4.2.recs)), .v (.int .i64 v4.2.used), .v (.int .i64 v4.2.safe), .v (.int .i64 v4.2.kept), .v (.int .i64 v4.2.life), .v (.bool v4.2.off), .v (.int .i64 v4.2.trip), .v (.int .i64 v4.2.tripKeep)]), (6, .v (.int .i64 v4.1))]) (init := [0, 1, 2, 3, 4]) (fin := [7, 1, 2, 3, 8]) (sps := [⟨[0], [], [5], [(.slot 19)]⟩, ⟨[5], [0], [7, 6], [(.slot 20), (.cell 0 0), (.cell 0 1), (.cell 0 2), (.cell 0 3), (.cell 0 4), (.cell 0 5), (.cell 0 6), (.cell 0 7), (.cell 0 8)]⟩, ⟨[6], [], [8], [(.slot 6)]⟩]) (es' := [(0, .box 64 [.v (.int .i64 v4.2.limit), .fr (.own 46) false 15 (List.flatten (List.map T_Rec.ienc v4.2.recs)), .v (.int .i64 v4.2.used), .v (.int .i64 v4.2.safe), .v (.int .i64 v4.2.kept), .v (.int .i64 v4.2.life), .v (.bool v4.2.off), .v (.int .i64 v4.2.trip), .v (.int .i64 v4.2.tripKeep)]), (_, _), (_, _), (_, _), (6, .v (.int .i64 v4.1))]) (by kernel_rfl) rfl rfl
     ⟨st_plain rfl (op_move _ _ _ _ rfl rfl),
     st_plain rfl (op_callP _ _ _ _ 20 42 [.tmp 19] [] _ _ _ rfl Try.call42 rfl rfl rfl (ok_diary_Diary_step d _ hv4) (Nat.le_of_ble_eq_true rfl) rfl rfl rfl rfl rfl rfl rfl rfl),
     st_plain rfl (op_assign _ _ _ _ rfl rfl),
     trivial⟩ ?_
    refine pt_then ?_
    refine ht_seq ?_
    refine ht_seqR hn (El := [_, _, _, _, _, (21, .v (.int .i64 v4.1)), (22, .v (.bool (v4.1 != 0)))]) (init := [0, 1, 2, 3, 4]) (fin := [0, 1, 2, 3, 4, 6]) (sps := [⟨[4], [], [5], [(.slot 21)]⟩, ⟨[5], [], [6], [(.slot 22)]⟩]) (es' := [(_, _), (_, _), (_, _), (_, _), (_, _), (22, .v (.bool (v4.1 != 0)))]) (by kernel_rfl) rfl rfl
     ⟨st_plain rfl (op_move _ _ _ _ rfl rfl),
     st_plain rfl (op_bin _ _ _ _ _ rfl rfl rfl),
     trivial⟩ ?_
    refine pt_then ?_
    refine ht_cond _ rfl (fun hb5 => ?_) (fun hb5 => ?_)
    ·have h := cond_t hb5 h
     refine ht_seq ?_
     refine ht_seqR hn (El := [_, _, _, _, _, _, (23, .v (.int .i64 v4.1)), (4, .v (.int .i64 v4.1))]) (init := [0, 1, 2, 3, 4, 5]) (fin := [0, 2, 7]) (sps := [⟨[4], [], [6], [(.slot 23)]⟩, ⟨[6], [], [7], [(.slot 4)]⟩]) (es' := [(_, _), (_, _), (4, .v (.int .i64 v4.1))]) (by kernel_rfl) rfl rfl
      ⟨st_plain rfl (op_move _ _ _ _ rfl rfl),
      st_plain rfl (op_assign _ _ _ _ rfl rfl),
      trivial⟩ ?_
     refine pt_then ?_
     refine ht_ret ?_
     refine pt_pick [2, 0, 1] (by kernel_rfl) (es' := [(_, _), (_, _), (_, _)]) rfl ?_
     refine pt_r_then ?_
     obtain rfl := Option.some.inj h
     exact pt_retP (es := [(4, .v (.int .i64 v4.1))]) (posts := [.box 64 [.v (.int .i64 v4.2.limit), .fr (.own 46) false 15 (List.flatten (List.map T_Rec.ienc v4.2.recs)), .v (.int .i64 v4.2.used), .v (.int .i64 v4.2.safe), .v (.int .i64 v4.2.kept), .v (.int .i64 v4.2.life), .v (.bool v4.2.off), .v (.int .i64 v4.2.trip), .v (.int .i64 v4.2.tripKeep)]]) hio rfl rfl (.tmp _ _ .nil) rfl rfl hargs0 rfl
    ·have h := cond_f hb5 h
     refine ht_skip ?_
     refine pt_then ?_
     refine ht_seq ?_
     obtain ⟨v6, hv6, h⟩ := bind_some h
     refine ht_seqR hn (El := [_, _, _, _, _, _, (24, .ptr 0 0), (25, .fr .shr true 15 (List.flatten (List.map T_Rec.ienc l))), (26, .fr (.own 46) false 15 (List.flatten (List.map T_Rec.ienc v6))), (27, .ptr 0 0), (28, .ptr 0 1), (0, .box 64 [.v (.int .i64 v4.2.limit), .fr (.own 46) false 15 (List.flatten (List.map T_Rec.ienc v6)), .v (.int .i64 v4.2.used), .v (.int .i64 v4.2.safe), .v (.int .i64 v4.2.kept), .v (.int .i64 v4.2.life), .v (.bool v4.2.off), .v (.int .i64 v4.2.trip), .v (.int .i64 v4.2.tripKeep)])]) (init := [0, 1, 2, 3, 4, 5]) (fin := [11, 2, 3]) (sps := [⟨[0], [], [6], [(.slot 24)]⟩, ⟨[1], [], [7], [(.slot 25)]⟩, ⟨[7], [], [8], [(.slot 26)]⟩, ⟨[6, 0], [], [9], [(.slot 27)]⟩, ⟨[9, 0], [], [10], [(.slot 28)]⟩, ⟨[10], [8, 0], [11], [.cell 0 1]⟩]) (es' := [(0, .box 64 [.v (.int .i64 v4.2.limit), .fr (.own 46) false 15 (List.flatten (List.map T_Rec.ienc v6)), .v (.int .i64 v4.2.used), .v (.int .i64 v4.2.safe), .v (.int .i64 v4.2.kept), .v (.int .i64 v4.2.life), .v (.bool v4.2.off), .v (.int .i64 v4.2.trip), .v (.int .i64 v4.2.tripKeep)]), (_, _), (_, _)]) (by kernel_rfl) rfl rfl
      ⟨st_plain rfl (op_move _ _ _ _ rfl rfl),
      st_plain rfl (op_move _ _ _ _ rfl rfl),
      st_plain rfl (op_call _ _ 48 _ _ rfl Try.call48 rfl (ok_clone_Each_api_Rec_of_clone_Rec l _ hv6) rfl rfl),
      st_plain rfl (op_nilCheck _ _ _ 0 0 rfl (by decide)),
      st_plain rfl (op_fieldAddr _ _ _ _ 0 0 _ Try.underlying64 rfl sz31 rfl rfl (by decide)),
      st_plain rfl (op_store_take _ _ _ _ _ _ _ _ sz31 rfl rfl rfl (Nat.le_of_ble_eq_true rfl) rfl rfl),
      trivial⟩ ?_
     refine pt_then ?_
     refine ht_seq ?_
     refine ht_seqR hn (El := [_, _, _, (29, .ptr 0 0), (30, .v (.int .i64 v2)), (31, .ptr 0 0), (32, .ptr 0 2), (0, .box 64 [.v (.int .i64 v4.2.limit), .fr (.own 46) false 15 (List.flatten (List.map T_Rec.ienc v6)), .v (.int .i64 v2), .v (.int .i64 v4.2.safe), .v (.int .i64 v4.2.kept), .v (.int .i64 v4.2.life), .v (.bool v4.2.off), .v (.int .i64 v4.2.trip), .v (.int .i64 v4.2.tripKeep)])]) (init := [0, 1, 2]) (fin := [7, 1]) (sps := [⟨[0], [], [3], [(.slot 29)]⟩, ⟨[2], [], [4], [(.slot 30)]⟩, ⟨[3, 0], [], [5], [(.slot 31)]⟩, ⟨[5, 0], [], [6], [(.slot 32)]⟩, ⟨[6, 4], [0], [7], [.cell 0 2]⟩]) (es' := [(0, .box 64 [.v (.int .i64 v4.2.limit), .fr (.own 46) false 15 (List.flatten (List.map T_Rec.ienc v6)), .v (.int .i64 v2), .v (.int .i64 v4.2.safe), .v (.int .i64 v4.2.kept), .v (.int .i64 v4.2.life), .v (.bool v4.2.off), .v (.int .i64 v4.2.trip), .v (.int .i64 v4.2.tripKeep)]), (_, _)]) (by kernel_rfl) rfl rfl
      ⟨st_plain rfl (op_move _ _ _ _ rfl rfl),
      st_plain rfl (op_move _ _ _ _ rfl rfl),
      st_plain rfl (op_nilCheck _ _ _ 0 0 rfl (by decide)),
      st_plain rfl (op_fieldAddr _ _ _ _ 0 0 _ Try.underlying64 rfl sz3 rfl rfl (by decide)),
      st_plain rfl (op_store _ _ _ _ _ _ _ _ sz3 rfl rfl rfl rfl (Nat.le_of_ble_eq_true rfl) rfl rfl),
      trivial⟩ ?_
     refine pt_then ?_
     refine ht_seq ?_
     obtain ⟨v7, hv7, h⟩ := bind_some h
     refine ht_seqR hn (El := [_, _, (33, .ptr 0 0), (34, .tup []), (0, .box 64 [.v (.int .i64 v7.limit), .fr (.own 46) false 15 (List.flatten (List.map T_Rec.ienc v7.recs)), .v (.int .i64 v7.used), .v (.int .i64 v7.safe), .v (.int .i64 v7.kept), .v (.int .i64 v7.life), .v (.bool v7.off), .v (.int .i64 v7.trip), .v (.int .i64 v7.tripKeep)])]) (init := [0, 1]) (fin := [4, 1]) (sps := [⟨[0], [], [2], [(.slot 33)]⟩, ⟨[2], [0], [4, 3], [(.slot 34), (.cell 0 0), (.cell 0 1), (.cell 0 2), (.cell 0 3), (.cell 0 4), (.cell 0 5), (.cell 0 6), (.cell 0 7), (.cell 0 8)]⟩]) (es' := [(0, .box 64 [.v (.int .i64 v7.limit), .fr (.own 46) false 15 (List.flatten (List.map T_Rec.ienc v7.recs)), .v (.int .i64 v7.used), .v (.int .i64 v7.safe), .v (.int .i64 v7.kept), .v (.int .i64 v7.life), .v (.bool v7.off), .v (.int .i64 v7.trip), .v (.int .i64 v7.tripKeep)]), (_, _)]) (by kernel_rfl) rfl rfl
      ⟨st_plain rfl (op_move _ _ _ _ rfl rfl),
      st_plain rfl (op_callP _ _ _ _ 34 46 [.tmp 33] [] _ _ _ rfl Try.call46 rfl rfl rfl (ok_diary_Diary_settle (T_diary_Diary.mk v4.2.limit v6 v2 v4.2.safe v4.2.kept v4.2.life v4.2.off v4.2.trip v4.2.tripKeep) _ hv7) (Nat.le_of_ble_eq_true rfl) rfl rfl rfl rfl rfl rfl rfl rfl),
      trivial⟩ ?_
     refine pt_then ?_
     refine ht_seq ?_
     refine ht_seqR hn (El := [_, _, (4, .v (.int .i64 0))]) (init := [0, 1]) (fin := [0, 1, 2]) (sps := [⟨[], [], [2], [(.slot 4)]⟩]) (es' := [(_, _), (_, _), (4, .v (.int .i64 0))]) (by kernel_rfl) rfl rfl
      ⟨st_plain rfl (op_assign _ _ _ _ rfl rfl),
      trivial⟩ ?_
     refine pt_then ?_
     refine ht_ret ?_
     refine pt_pick [2, 0, 1] (by kernel_rfl) (es' := [(_, _), (_, _), (_, _)]) rfl ?_
     obtain rfl := Option.some.inj h
     exact pt_retP (es := [(4, .v (.int .i64 0))]) (posts := [.box 64 [.v (.int .i64 v7.limit), .fr (.own 46) false 15 (List.flatten (List.map T_Rec.ienc v7.recs)), .v (.int .i64 v7.used), .v (.int .i64 v7.safe), .v (.int .i64 v7.kept), .v (.int .i64 v7.life), .v (.bool v7.off), .v (.int .i64 v7.trip), .v (.int .i64 v7.tripKeep)]]) hio rfl rfl (.tmp _ _ .nil) rfl rfl hargs0 rfl

set_option maxHeartbeats 1000000 in
theorem ok_diary_Diary_Safe (d : T_diary_Diary) (r : (Int × T_diary_Diary)) (h : Sh.diary_Diary_Safe d = some r) : FnP Try.prog 31 [.box 64 [.v (.int .i64 d.limit), .fr (.own 46) false 15 (List.flatten (List.map T_Rec.ienc d.recs)), .v (.int .i64 d.used), .v (.int .i64 d.safe), .v (.int .i64 d.kept), .v (.int .i64 d.life), .v (.bool d.off), .v (.int .i64 d.trip), .v (.int .i64 d.tripKeep)]] [.box 64 [.v (.int .i64 r.2.limit), .fr (.own 46) false 15 (List.flatten (List.map T_Rec.ienc r.2.recs)), .v (.int .i64 r.2.used), .v (.int .i64 r.2.safe), .v (.int .i64 r.2.kept), .v (.int .i64 r.2.life), .v (.bool r.2.off), .v (.int .i64 r.2.trip), .v (.int .i64 r.2.tripKeep)]] (.v (.int .i64 r.1)) := by
  unfold Sh.diary_Diary_Safe at h
  refine fn_okP Try.func31 rfl (Nat.le_of_ble_eq_true rfl) rfl (Nat.le_of_ble_eq_true rfl) fun args0 hargs0 g0 hn hio => ?_
  refine ht_seq ?_
  refine ht_seqR hn (El := [_, _, (2, .v (.int .i64 0))]) (init := [0, 1]) (fin := [0, 1]) (sps := [⟨[], [], [2], [(.slot 2)]⟩]) (es' := [(_, _), (_, _)]) (by kernel_rfl) rfl rfl
   ⟨st_plain rfl (op_assign _ _ _ _ rfl rfl),
   trivial⟩ ?_
  refine pt_then ?_
  refine ht_seq ?_
  refine ht_seqR hn (El := [_, _, (3, .ptr 0 0), (4, .ptr 0 0), (5, .ptr 0 3), (6, .v (.int .i64 d.safe)), (2, .v (.int .i64 d.safe))]) (init := [0, 1]) (fin := [0, 1, 6]) (sps := [⟨[0], [], [2], [(.slot 3)]⟩, ⟨[2, 0], [], [3], [(.slot 4)]⟩, ⟨[3, 0], [], [4], [(.slot 5)]⟩, ⟨[4, 0], [], [5], [(.slot 6)]⟩, ⟨[5], [], [6], [(.slot 2)]⟩]) (es' := [(_, _), (_, _), (2, .v (.int .i64 d.safe))]) (by kernel_rfl) rfl rfl
   ⟨st_plain rfl (op_move _ _ _ _ rfl rfl),
   st_plain rfl (op_nilCheck _ _ _ 0 0 rfl (by decide)),
   st_plain rfl (op_fieldAddr _ _ _ _ 0 0 _ Try.underlying64 rfl sz3 rfl rfl (by decide)),
   st_plain rfl (op_load _ _ _ _ _ _ Try.underlying3 rfl rfl rfl (Nat.le_of_ble_eq_true rfl) rfl rfl rfl),
   st_plain rfl (op_assign _ _ _ _ rfl rfl),
   trivial⟩ ?_
  refine pt_then ?_
  refine ht_ret ?_
  refine pt_pick [2, 0, 1] (by kernel_rfl) (es' := [(_, _), (_, _), (_, _)]) rfl ?_
  obtain rfl := Option.some.inj h
  exact pt_retP (es := [(2, .v (.int .i64 d.safe))]) (posts := [.box 64 [.v (.int .i64 d.limit), .fr (.own 46) false 15 (List.flatten (List.map T_Rec.ienc d.recs)), .v (.int .i64 d.used), .v (.int .i64 d.safe), .v (.int .i64 d.kept), .v (.int .i64 d.life), .v (.bool d.off), .v (.int .i64 d.trip), .v (.int .i64 d.tripKeep)]]) hio rfl rfl (.tmp _ _ .nil) rfl rfl hargs0 rfl

set_option maxHeartbeats 1000000 in
theorem ok_diary_Diary_Off (d : T_diary_Diary) (r : (Bool × T_diary_Diary)) (h : Sh.diary_Diary_Off d = some r) : FnP Try.prog 37 [.box 64 [.v (.int .i64 d.limit), .fr (.own 46) false 15 (List.flatten (List.map T_Rec.ienc d.recs)), .v (.int .i64 d.used), .v (.int .i64 d.safe), .v (.int .i64 d.kept), .v (.int .i64 d.life), .v (.bool d.off), .v (.int .i64 d.trip), .v (.int .i64 d.tripKeep)]] [.box 64 [.v (.int .i64 r.2.limit), .fr (.own 46) false 15 (List.flatten (List.map T_Rec.ienc r.2.recs)), .v (.int .i64 r.2.used), .v (.int .i64 r.2.safe), .v (.int .i64 r.2.kept), .v (.int .i64 r.2.life), .v (.bool r.2.off), .v (.int .i64 r.2.trip), .v (.int .i64 r.2.tripKeep)]] (.v (.bool r.1)) := by
  unfold Sh.diary_Diary_Off at h
  refine fn_okP Try.func37 rfl (Nat.le_of_ble_eq_true rfl) rfl (Nat.le_of_ble_eq_true rfl) fun args0 hargs0 g0 hn hio => ?_
  refine ht_seq ?_
  refine ht_seqR hn (El := [_, _, (2, .v (.bool false))]) (init := [0, 1]) (fin := [0, 1]) (sps := [⟨[], [], [2], [(.slot 2)]⟩]) (es' := [(_, _), (_, _)]) (by kernel_rfl) rfl rfl
   ⟨st_plain rfl (op_assign _ _ _ _ rfl rfl),
   trivial⟩ ?_
  refine pt_then ?_
  refine ht_seq ?_
  refine ht_seqR hn (El := [_, _, (3, .ptr 0 0), (4, .ptr 0 0), (5, .ptr 0 6), (6, .v (.bool d.off)), (2, .v (.bool d.off))]) (init := [0, 1]) (fin := [0, 1, 6]) (sps := [⟨[0], [], [2], [(.slot 3)]⟩, ⟨[2, 0], [], [3], [(.slot 4)]⟩, ⟨[3, 0], [], [4], [(.slot 5)]⟩, ⟨[4, 0], [], [5], [(.slot 6)]⟩, ⟨[5], [], [6], [(.slot 2)]⟩]) (es' := [(_, _), (_, _), (2, .v (.bool d.off))]) (by kernel_rfl) rfl rfl
   ⟨st_plain rfl (op_move _ _ _ _ rfl rfl),
   st_plain rfl (op_nilCheck _ _ _ 0 0 rfl (by decide)),
   st_plain rfl (op_fieldAddr _ _ _ _ 0 0 _ Try.underlying64 rfl sz4 rfl rfl (by decide)),
   st_plain rfl (op_load _ _ _ _ _ _ Try.underlying4 rfl rfl rfl (Nat.le_of_ble_eq_true rfl) rfl rfl rfl),
   st_plain rfl (op_assign _ _ _ _ rfl rfl),
   trivial⟩ ?_
  refine pt_then ?_
  refine ht_ret ?_
  refine pt_pick [2, 0, 1] (by kernel_rfl) (es' := [(_, _), (_, _), (_, _)]) rfl ?_
  obtain rfl := Option.some.inj h
  exact pt_retP (es := [(2, .v (.bool d.off))]) (posts := [.box 64 [.v (.int .i64 d.limit), .fr (.own 46) false 15 (List.flatten (List.map T_Rec.ienc d.recs)), .v (.int .i64 d.used), .v (.int .i64 d.safe), .v (.int .i64 d.kept), .v (.int .i64 d.life), .v (.bool d.off), .v (.int .i64 d.trip), .v (.int .i64 d.tripKeep)]]) hio rfl rfl (.tmp _ _ .nil) rfl rfl hargs0 rfl

set_option maxHeartbeats 1000000 in
theorem ok_wherrykeep_TwinPaths (l : (List T_Path)) (r : (List T_Path)) (h : Sh.wherrykeep_TwinPaths l = some r) : FnOK Try.prog 62 [.fl .shr 3 (List.flatten (List.map T_Path.enc l))] (.fl (.own 39) 3 (List.flatten (List.map T_Path.enc r))) := by
  unfold Sh.wherrykeep_TwinPaths at h
  refine fn_ok Try.func62 rfl (Nat.le_of_ble_eq_true rfl) rfl rfl fun g0 hn hio => ?_
  refine ht_seq ?_
  refine ht_seqR hn (El := [_, (2, .v (.slice none 0 0))]) (init := [0]) (fin := [0]) (sps := [⟨[], [], [1], [(.slot 2)]⟩]) (es' := [(_, _)]) (by kernel_rfl) rfl rfl
   ⟨st_plain rfl (op_assign _ _ _ _ rfl rfl),
   trivial⟩ ?_
  refine pt_then ?_
  refine ht_seq ?_
  refine ht_seqR hn (El := [_, (3, .v (.slice none 0 0))]) (init := [0]) (fin := [0, 1]) (sps := [⟨[], [], [1], [(.slot 3)]⟩]) (es' := [(_, _), (3, .v (.slice none 0 0))]) (by kernel_rfl) rfl rfl
   ⟨st_plain rfl (op_assign _ _ _ _ rfl rfl),
   trivial⟩ ?_
  refine pt_then ?_
  refine ht_seq ?_
  obtain ⟨v1, hv1, h⟩ := bind_some h
  refine ht_seqR hn (El := [_, _, (4, .v (.slice none 0 0)), (5, .fl .shr 3 (List.flatten (List.map T_Path.enc l))), (6, .fl (.own 39) 3 (List.flatten (List.map T_Path.enc v1))), (2, .fl (.own 39) 3 (List.flatten (List.map T_Path.enc v1)))]) (init := [0, 1]) (fin := [5]) (sps := [⟨[1], [], [2], [(.slot 4)]⟩, ⟨[0], [], [3], [(.slot 5)]⟩, ⟨[2, 3], [], [4], [(.slot 6)]⟩, ⟨[], [4], [5], [(.slot 2)]⟩]) (es' := [(2, .fl (.own 39) 3 (List.flatten (List.map T_Path.enc v1)))]) (by kernel_rfl) rfl rfl
   ⟨st_plain rfl (op_move _ _ _ _ rfl rfl),
   st_plain rfl (op_move _ _ _ _ rfl rfl),
   st_plain rfl (op_app_nil _ _ _ _ el40 rfl rfl (flat_len T_Path.len _) hv1 (congrArg (fun l => List.flatten (List.map _ l)) (app_nil_eq hv1))),
   st_plain rfl (op_assign_take _ _ _ _ rfl),
   trivial⟩ ?_
  refine pt_then ?_
  refine ht_ret ?_
  obtain rfl := Option.some.inj h
  exact pt_ret hio rfl (.tmp _ _ .nil) rfl rfl

set_option maxHeartbeats 1000000 in
theorem ok_wherrykeep_Twin (l : (List Int)) (r : (List Int)) (h : Sh.wherrykeep_Twin l = some r) : FnOK Try.prog 55 [.fl .shr 1 (List.map (Value.int .u8) l)] (.fl (.own 5) 1 (List.map (Value.int .u8) r)) := by
  unfold Sh.wherrykeep_Twin at h
  refine fn_ok Try.func55 rfl (Nat.le_of_ble_eq_true rfl) rfl rfl fun g0 hn hio => ?_
  refine ht_seq ?_
  refine ht_seqR hn (El := [_, (2, .v (.slice none 0 0))]) (init := [0]) (fin := [0]) (sps := [⟨[], [], [1], [(.slot 2)]⟩]) (es' := [(_, _)]) (by kernel_rfl) rfl rfl
   ⟨st_plain rfl (op_assign _ _ _ _ rfl rfl),
   trivial⟩ ?_
  refine pt_then ?_
  refine ht_seq ?_
  refine ht_seqR hn (El := [_, (3, .v (.slice none 0 0))]) (init := [0]) (fin := [0, 1]) (sps := [⟨[], [], [1], [(.slot 3)]⟩]) (es' := [(_, _), (3, .v (.slice none 0 0))]) (by kernel_rfl) rfl rfl
   ⟨st_plain rfl (op_assign _ _ _ _ rfl rfl),
   trivial⟩ ?_
  refine pt_then ?_
  refine ht_seq ?_
  obtain ⟨v1, hv1, h⟩ := bind_some h
  refine ht_seqR hn (El := [_, _, (4, .v (.slice none 0 0)), (5, .fl .shr 1 (List.map (Value.int .u8) l)), (6, .fl (.own 5) 1 (List.map (Value.int .u8) v1)), (2, .fl (.own 5) 1 (List.map (Value.int .u8) v1))]) (init := [0, 1]) (fin := [5]) (sps := [⟨[1], [], [2], [(.slot 4)]⟩, ⟨[0], [], [3], [(.slot 5)]⟩, ⟨[2, 3], [], [4], [(.slot 6)]⟩, ⟨[], [4], [5], [(.slot 2)]⟩]) (es' := [(2, .fl (.own 5) 1 (List.map (Value.int .u8) v1))]) (by kernel_rfl) rfl rfl
   ⟨st_plain rfl (op_move _ _ _ _ rfl rfl),
   st_plain rfl (op_move _ _ _ _ rfl rfl),
   st_plain rfl (op_app_nil _ _ _ _ el41 rfl rfl (map_len _) hv1 (congrArg (List.map _) (app_nil_eq hv1))),
   st_plain rfl (op_assign_take _ _ _ _ rfl),
   trivial⟩ ?_
  refine pt_then ?_
  refine ht_ret ?_
  obtain rfl := Option.some.inj h
  exact pt_ret hio rfl (.tmp _ _ .nil) rfl rfl

set_option maxHeartbeats 1000000 in
theorem ok_wherrykeep_TwinMail (m : T_Mail) (r : T_Mail) (h : Sh.wherrykeep_TwinMail m = some r) : FnOK Try.prog 53 [.agg [.v (.bool m.From.Null), .v (.string m.From.Local), .v (.string m.From.Domain), .fl .shr 3 (List.flatten (List.map T_Path.enc m.To)), .fl .shr 1 (List.map (Value.int .u8) m.Body), .v (.bool m.Quiet), .v (.string m.Helo), .v (.int .i64 m.At)]] (.agg [.v (.bool r.From.Null), .v (.string r.From.Local), .v (.string r.From.Domain), .fl (.own 39) 3 (List.flatten (List.map T_Path.enc r.To)), .fl (.own 5) 1 (List.map (Value.int .u8) r.Body), .v (.bool r.Quiet), .v (.string r.Helo), .v (.int .i64 r.At)]) := by
  unfold Sh.wherrykeep_TwinMail at h
  refine fn_ok Try.func53 rfl (Nat.le_of_ble_eq_true rfl) rfl rfl fun g0 hn hio => ?_
  refine ht_seq ?_
  refine ht_seqR hn (El := [_, (1, .box 43 [.v (.bool m.From.Null), .v (.string m.From.Local), .v (.string m.From.Domain), .fl .shr 3 (List.flatten (List.map T_Path.enc m.To)), .fl .shr 1 (List.map (Value.int .u8) m.Body), .v (.bool m.Quiet), .v (.string m.Helo), .v (.int .i64 m.At)]), (2, .box 43 [.v (.bool false), .v (.string (⟨#[]⟩ : ByteArray)), .v (.string (⟨#[]⟩ : ByteArray)), .v (.slice none 0 0), .v (.slice none 0 0), .v (.bool false), .v (.string (⟨#[]⟩ : ByteArray)), .v (.int .i64 0)])]) (init := [0]) (fin := [1, 2]) (sps := [⟨[0], [], [1], [(.slot 1)]⟩, ⟨[], [], [2], [(.slot 2)]⟩]) (es' := [(1, .box 43 [.v (.bool m.From.Null), .v (.string m.From.Local), .v (.string m.From.Domain), .fl .shr 3 (List.flatten (List.map T_Path.enc m.To)), .fl .shr 1 (List.map (Value.int .u8) m.Body), .v (.bool m.Quiet), .v (.string m.Helo), .v (.int .i64 m.At)]), (2, .box 43 [.v (.bool false), .v (.string (⟨#[]⟩ : ByteArray)), .v (.string (⟨#[]⟩ : ByteArray)), .v (.slice none 0 0), .v (.slice none 0 0), .v (.bool false), .v (.string (⟨#[]⟩ : ByteArray)), .v (.int .i64 0)])]) (by kernel_rfl) rfl rfl
   ⟨st_plain rfl (op_box _ _ _ _ rfl rfl rfl),
   st_plain rfl (op_alloc _ _ zr43),
   trivial⟩ ?_
  refine pt_then ?_
  refine ht_seq ?_
  obtain ⟨v1, hv1, h⟩ := bind_some h
  obtain ⟨v2, hv2, h⟩ := bind_some h
  refine ht_anyR (by kernel_rfl) hn (El := [_, _, (3, .ptr 1 3), (4, .fl .shr 3 (List.flatten (List.map T_Path.enc m.To))), (5, .fl (.own 39) 3 (List.flatten (List.map T_Path.enc v1))), (6, .ptr 1 4), (7, .fl .shr 1 (List.map (Value.int .u8) m.Body)), (8, .fl (.own 5) 1 (List.map (Value.int .u8) v2)), (9, .ptr 1 3), (1, .box 43 [.v (.bool m.From.Null), .v (.string m.From.Local), .v (.string m.From.Domain), .fl (.own 39) 3 (List.flatten (List.map T_Path.enc v1)), .fl .shr 1 (List.map (Value.int .u8) m.Body), .v (.bool m.Quiet), .v (.string m.Helo), .v (.int .i64 m.At)]), (10, .ptr 1 4), (1, .box 43 [.v (.bool m.From.Null), .v (.string m.From.Local), .v (.string m.From.Domain), .fl (.own 39) 3 (List.flatten (List.map T_Path.enc v1)), .fl (.own 5) 1 (List.map (Value.int .u8) v2), .v (.bool m.Quiet), .v (.string m.Helo), .v (.int .i64 m.At)])]) (init := [0, 1]) (fin := [11, 1]) (sps := [⟨[0], [], [2], [(.slot 3)]⟩, ⟨[2, 0], [], [3], [(.slot 4)]⟩, ⟨[3], [], [4], [(.slot 5)]⟩, ⟨[0], [], [5], [(.slot 6)]⟩, ⟨[5, 0], [], [6], [(.slot 7)]⟩, ⟨[6], [], [7], [(.slot 8)]⟩, ⟨[0], [], [8], [(.slot 9)]⟩, ⟨[8], [4, 0], [9], [.cell 1 3]⟩, ⟨[9], [], [10], [(.slot 10)]⟩, ⟨[10], [7, 9], [11], [.cell 1 4]⟩]) (es' := [(1, .box 43 [.v (.bool m.From.Null), .v (.string m.From.Local), .v (.string m.From.Domain), .fl (.own 39) 3 (List.flatten (List.map T_Path.enc v1)), .fl (.own 5) 1 (List.map (Value.int .u8) v2), .v (.bool m.Quiet), .v (.string m.Helo), .v (.int .i64 m.At)]), (_, _)]) (by kernel_rfl) rfl rfl
   ⟨st_plain rfl (op_fieldAddr _ _ _ _ 1 0 _ Try.underlying43 rfl sz40 rfl rfl (by decide)),
   st_plain rfl (op_load _ _ _ _ _ _ Try.underlying40 rfl rfl rfl (Nat.le_of_ble_eq_true rfl) rfl rfl rfl),
   st_plain rfl (op_call _ _ 62 _ _ rfl Try.call62 rfl (ok_wherrykeep_TwinPaths m.To _ hv1) rfl rfl),
   st_plain rfl (op_fieldAddr _ _ _ _ 1 0 _ Try.underlying43 rfl sz41 rfl rfl (by decide)),
   st_plain rfl (op_load _ _ _ _ _ _ Try.underlying41 rfl rfl rfl (Nat.le_of_ble_eq_true rfl) rfl rfl rfl),
   st_plain rfl (op_call _ _ 55 _ _ rfl Try.call55 rfl (ok_wherrykeep_Twin m.Body _ hv2) rfl rfl),
   st_plain rfl (op_fieldAddr _ _ _ _ 1 0 _ Try.underlying43 rfl sz40 rfl rfl (by decide)),
   st_plain rfl (op_store_take _ _ _ _ _ _ _ _ sz40 rfl rfl rfl (Nat.le_of_ble_eq_true rfl) rfl rfl),
   st_plain rfl (op_fieldAddr _ _ _ _ 1 0 _ Try.underlying43 rfl sz41 rfl rfl (by decide)),
   st_plain rfl (op_store_take _ _ _ _ _ _ _ _ sz41 rfl rfl rfl (Nat.le_of_ble_eq_true rfl) rfl rfl),
   trivial⟩ ?_
  refine pt_then ?_
  refine ht_seq ?_
  refine ht_seqR hn (El := [_, _, (11, .agg [.v (.bool m.From.Null), .v (.string m.From.Local), .v (.string m.From.Domain), .fl (.own 39) 3 (List.flatten (List.map T_Path.enc v1)), .fl (.own 5) 1 (List.map (Value.int .u8) v2), .v (.bool m.Quiet), .v (.string m.Helo), .v (.int .i64 m.At)]), (2, .box 43 [.v (.bool m.From.Null), .v (.string m.From.Local), .v (.string m.From.Domain), .fl (.own 39) 3 (List.flatten (List.map T_Path.enc v1)), .fl (.own 5) 1 (List.map (Value.int .u8) v2), .v (.bool m.Quiet), .v (.string m.Helo), .v (.int .i64 m.At)])]) (init := [0, 1]) (fin := [3]) (sps := [⟨[], [0], [2], [(.slot 11)]⟩, ⟨[], [2, 1], [3], [.cell 2 0, .cell 2 1, .cell 2 2, .cell 2 3, .cell 2 4, .cell 2 5, .cell 2 6, .cell 2 7]⟩]) (es' := [(2, .box 43 [.v (.bool m.From.Null), .v (.string m.From.Local), .v (.string m.From.Domain), .fl (.own 39) 3 (List.flatten (List.map T_Path.enc v1)), .fl (.own 5) 1 (List.map (Value.int .u8) v2), .v (.bool m.Quiet), .v (.string m.Helo), .v (.int .i64 m.At)])]) (by kernel_rfl) rfl rfl
   ⟨st_plain rfl (op_loadA_take _ _ _ _ Try.underlying43 rfl sz43 rfl rfl),
   st_plain rfl (op_store_take _ _ _ _ _ _ _ _ sz43 rfl rfl rfl (Nat.le_of_ble_eq_true rfl) rfl rfl),
   trivial⟩ ?_
  refine pt_then ?_
  refine ht_ret ?_
  obtain rfl := Option.some.inj h
  exact pt_ret hio rfl (.cellA _ _ _ _ Try.underlying43 rfl sz43 .nil) rfl rfl

set_option maxHeartbeats 1000000 in
theorem ok_wherrykeep_TwinInts (l : (List Int)) (r : (List Int)) (h : Sh.wherrykeep_TwinInts l = some r) : FnOK Try.prog 54 [.fl .shr 1 (List.map (Value.int .i64) l)] (.fl (.own 3) 1 (List.map (Value.int .i64) r)) := by
  unfold Sh.wherrykeep_TwinInts at h
  refine fn_ok Try.func54 rfl (Nat.le_of_ble_eq_true rfl) rfl rfl fun g0 hn hio => ?_
  refine ht_seq ?_
  refine ht_seqR hn (El := [_, (2, .v (.slice none 0 0))]) (init := [0]) (fin := [0]) (sps := [⟨[], [], [1], [(.slot 2)]⟩]) (es' := [(_, _)]) (by kernel_rfl) rfl rfl
   ⟨st_plain rfl (op_assign _ _ _ _ rfl rfl),
   trivial⟩ ?_
  refine pt_then ?_
  refine ht_seq ?_
  refine ht_seqR hn (El := [_, (3, .v (.slice none 0 0))]) (init := [0]) (fin := [0, 1]) (sps := [⟨[], [], [1], [(.slot 3)]⟩]) (es' := [(_, _), (3, .v (.slice none 0 0))]) (by kernel_rfl) rfl rfl
   ⟨st_plain rfl (op_assign _ _ _ _ rfl rfl),
   trivial⟩ ?_
  refine pt_then ?_
  refine ht_seq ?_
  obtain ⟨v1, hv1, h⟩ := bind_some h
  refine ht_seqR hn (El := [_, _, (4, .v (.slice none 0 0)), (5, .fl .shr 1 (List.map (Value.int .i64) l)), (6, .fl (.own 3) 1 (List.map (Value.int .i64) v1)), (2, .fl (.own 3) 1 (List.map (Value.int .i64) v1))]) (init := [0, 1]) (fin := [5]) (sps := [⟨[1], [], [2], [(.slot 4)]⟩, ⟨[0], [], [3], [(.slot 5)]⟩, ⟨[2, 3], [], [4], [(.slot 6)]⟩, ⟨[], [4], [5], [(.slot 2)]⟩]) (es' := [(2, .fl (.own 3) 1 (List.map (Value.int .i64) v1))]) (by kernel_rfl) rfl rfl
   ⟨st_plain rfl (op_move _ _ _ _ rfl rfl),
   st_plain rfl (op_move _ _ _ _ rfl rfl),
   st_plain rfl (op_app_nil _ _ _ _ el44 rfl rfl (map_len _) hv1 (congrArg (List.map _) (app_nil_eq hv1))),
   st_plain rfl (op_assign_take _ _ _ _ rfl),
   trivial⟩ ?_
  refine pt_then ?_
  refine ht_ret ?_
  obtain rfl := Option.some.inj h
  exact pt_ret hio rfl (.tmp _ _ .nil) rfl rfl

set_option maxHeartbeats 1000000 in
theorem ok_wherrykeep_TwinRec (p_r : T_Rec) (r : T_Rec) (h : Sh.wherrykeep_TwinRec p_r = some r) : FnOK Try.prog 40 [.agg [.v (.int .i64 p_r.Kind), .v (.bool p_r.Mail.From.Null), .v (.string p_r.Mail.From.Local), .v (.string p_r.Mail.From.Domain), .fl .shr 3 (List.flatten (List.map T_Path.enc p_r.Mail.To)), .fl .shr 1 (List.map (Value.int .u8) p_r.Mail.Body), .v (.bool p_r.Mail.Quiet), .v (.string p_r.Mail.Helo), .v (.int .i64 p_r.Mail.At), .v (.int .i64 p_r.Id), .fl .shr 1 (List.map (Value.int .i64) p_r.Ids), .v (.int .i64 p_r.Origin), .v (.int .i64 p_r.Number), .v (.int .i64 p_r.Offset), .fl .shr 1 (List.map (Value.int .u8) p_r.Data)]] (.agg [.v (.int .i64 r.Kind), .v (.bool r.Mail.From.Null), .v (.string r.Mail.From.Local), .v (.string r.Mail.From.Domain), .fl (.own 39) 3 (List.flatten (List.map T_Path.enc r.Mail.To)), .fl (.own 5) 1 (List.map (Value.int .u8) r.Mail.Body), .v (.bool r.Mail.Quiet), .v (.string r.Mail.Helo), .v (.int .i64 r.Mail.At), .v (.int .i64 r.Id), .fl (.own 3) 1 (List.map (Value.int .i64) r.Ids), .v (.int .i64 r.Origin), .v (.int .i64 r.Number), .v (.int .i64 r.Offset), .fl (.own 5) 1 (List.map (Value.int .u8) r.Data)]) := by
  unfold Sh.wherrykeep_TwinRec at h
  refine fn_ok Try.func40 rfl (Nat.le_of_ble_eq_true rfl) rfl rfl fun g0 hn hio => ?_
  refine ht_seq ?_
  refine ht_seqR hn (El := [_, (1, .box 46 [.v (.int .i64 p_r.Kind), .v (.bool p_r.Mail.From.Null), .v (.string p_r.Mail.From.Local), .v (.string p_r.Mail.From.Domain), .fl .shr 3 (List.flatten (List.map T_Path.enc p_r.Mail.To)), .fl .shr 1 (List.map (Value.int .u8) p_r.Mail.Body), .v (.bool p_r.Mail.Quiet), .v (.string p_r.Mail.Helo), .v (.int .i64 p_r.Mail.At), .v (.int .i64 p_r.Id), .fl .shr 1 (List.map (Value.int .i64) p_r.Ids), .v (.int .i64 p_r.Origin), .v (.int .i64 p_r.Number), .v (.int .i64 p_r.Offset), .fl .shr 1 (List.map (Value.int .u8) p_r.Data)]), (2, .box 46 [.v (.int .i64 0), .v (.bool false), .v (.string (⟨#[]⟩ : ByteArray)), .v (.string (⟨#[]⟩ : ByteArray)), .v (.slice none 0 0), .v (.slice none 0 0), .v (.bool false), .v (.string (⟨#[]⟩ : ByteArray)), .v (.int .i64 0), .v (.int .i64 0), .v (.slice none 0 0), .v (.int .i64 0), .v (.int .i64 0), .v (.int .i64 0), .v (.slice none 0 0)])]) (init := [0]) (fin := [1, 2]) (sps := [⟨[0], [], [1], [(.slot 1)]⟩, ⟨[], [], [2], [(.slot 2)]⟩]) (es' := [(1, .box 46 [.v (.int .i64 p_r.Kind), .v (.bool p_r.Mail.From.Null), .v (.string p_r.Mail.From.Local), .v (.string p_r.Mail.From.Domain), .fl .shr 3 (List.flatten (List.map T_Path.enc p_r.Mail.To)), .fl .shr 1 (List.map (Value.int .u8) p_r.Mail.Body), .v (.bool p_r.Mail.Quiet), .v (.string p_r.Mail.Helo), .v (.int .i64 p_r.Mail.At), .v (.int .i64 p_r.Id), .fl .shr 1 (List.map (Value.int .i64) p_r.Ids), .v (.int .i64 p_r.Origin), .v (.int .i64 p_r.Number), .v (.int .i64 p_r.Offset), .fl .shr 1 (List.map (Value.int .u8) p_r.Data)]), (2, .box 46 [.v (.int .i64 0), .v (.bool false), .v (.string (⟨#[]⟩ : ByteArray)), .v (.string (⟨#[]⟩ : ByteArray)), .v (.slice none 0 0), .v (.slice none 0 0), .v (.bool false), .v (.string (⟨#[]⟩ : ByteArray)), .v (.int .i64 0), .v (.int .i64 0), .v (.slice none 0 0), .v (.int .i64 0), .v (.int .i64 0), .v (.int .i64 0), .v (.slice none 0 0)])]) (by kernel_rfl) rfl rfl
   ⟨st_plain rfl (op_box _ _ _ _ rfl rfl rfl),
   st_plain rfl (op_alloc _ _ zr46),
   trivial⟩ ?_
  refine pt_then ?_
  refine ht_seq ?_
  obtain ⟨v1, hv1, h⟩ := bind_some h
  obtain ⟨v2, hv2, h⟩ := bind_some h
  obtain ⟨v3, hv3, h⟩ := bind_some h
  refine ht_anyR (by kernel_rfl) hn (El := (_ :: _ :: (3, .ptr 1 1) :: (4, .agg [.v (.bool p_r.Mail.From.Null), .v (.string p_r.Mail.From.Local), .v (.string p_r.Mail.From.Domain), .fl .shr 3 (List.flatten (List.map T_Path.enc p_r.Mail.To)), .fl .shr 1 (List.map (Value.int .u8) p_r.Mail.Body), .v (.bool p_r.Mail.Quiet), .v (.string p_r.Mail.Helo), .v (.int .i64 p_r.Mail.At)]) :: (5, .agg [.v (.bool v1.From.Null), .v (.string v1.From.Local), .v (.string v1.From.Domain), .fl (.own 39) 3 (List.flatten (List.map T_Path.enc v1.To)), .fl (.own 5) 1 (List.map (Value.int .u8) v1.Body), .v (.bool v1.Quiet), .v (.string v1.Helo), .v (.int .i64 v1.At)]) :: (6, .ptr 1 10) :: (7, .fl .shr 1 (List.map (Value.int .i64) p_r.Ids)) :: (8, .fl (.own 3) 1 (List.map (Value.int .i64) v2)) :: (9, .ptr 1 14) :: (10, .fl .shr 1 (List.map (Value.int .u8) p_r.Data)) :: (11, .fl (.own 5) 1 (List.map (Value.int .u8) v3)) :: (12, .ptr 1 1) :: (1, .box 46 [.v (.int .i64 p_r.Kind), .v (.bool v1.From.Null), .v (.string v1.From.Local), .v (.string v1.From.Domain), .fl (.own 39) 3 (List.flatten (List.map T_Path.enc v1.To)), .fl (.own 5) 1 (List.map (Value.int .u8) v1.Body), .v (.bool v1.Quiet), .v (.string v1.Helo), .v (.int .i64 v1.At), .v (.int .i64 p_r.Id), .fl .shr 1 (List.map (Value.int .i64) p_r.Ids), .v (.int .i64 p_r.Origin), .v (.int .i64 p_r.Number), .v (.int .i64 p_r.Offset), .fl .shr 1 (List.map (Value.int .u8) p_r.Data)]) :: (13, .ptr 1 10) :: (1, .box 46 [.v (.int .i64 p_r.Kind), .v (.bool v1.From.Null), .v (.string v1.From.Local), .v (.string v1.From.Domain), .fl (.own 39) 3 (List.flatten (List.map T_Path.enc v1.To)), .fl (.own 5) 1 (List.map (Value.int .u8) v1.Body), .v (.bool v1.Quiet), .v (.string v1.Helo), .v (.int .i64 v1.At), .v (.int .i64 p_r.Id), .fl (.own 3) 1 (List.map (Value.int .i64) v2), .v (.int .i64 p_r.Origin), .v (.int .i64 p_r.Number), .v (.int .i64 p_r.Offset), .fl .shr 1 (List.map (Value.int .u8) p_r.Data)]) :: (14, .ptr 1 14) :: (1, .box 46 [.v (.int .i64 p_r.Kind), .v (.bool v1.From.Null), .v (.string v1.From.Local), .v (.string v1.From.Domain), .fl (.own 39) 3 (List.flatten (List.map T_Path.enc v1.To)), .fl (.own 5) 1 (List.map (Value.int .u8) v1.Body), .v (.bool v1.Quiet), .v (.string v1.Helo), .v (.int .i64 v1.At), .v (.int .i64 p_r.Id), .fl (.own 3) 1 (List.map (Value.int .i64) v2), .v (.int .i64 p_r.Origin), .v (.int .i64 p_r.Number), .v (.int .i64 p_r.Offset), .fl (.own 5) 1 (List.map (Value.int .u8) v3)]) :: [])) (init := [0, 1]) (fin := [16, 1]) (sps := (⟨[0], [], [2], [(.slot 3)]⟩ :: ⟨[2, 0], [], [3], [(.slot 4)]⟩ :: ⟨[3], [], [4], [(.slot 5)]⟩ :: ⟨[0], [], [5], [(.slot 6)]⟩ :: ⟨[5, 0], [], [6], [(.slot 7)]⟩ :: ⟨[6], [], [7], [(.slot 8)]⟩ :: ⟨[0], [], [8], [(.slot 9)]⟩ :: ⟨[8, 0], [], [9], [(.slot 10)]⟩ :: ⟨[9], [], [10], [(.slot 11)]⟩ :: ⟨[0], [], [11], [(.slot 12)]⟩ :: ⟨[11], [4, 0], [12], [.cell 1 1, .cell 1 2, .cell 1 3, .cell 1 4, .cell 1 5, .cell 1 6, .cell 1 7, .cell 1 8]⟩ :: ⟨[12], [], [13], [(.slot 13)]⟩ :: ⟨[13], [7, 12], [14], [.cell 1 10]⟩ :: ⟨[14], [], [15], [(.slot 14)]⟩ :: ⟨[15], [10, 14], [16], [.cell 1 14]⟩ :: [])) (es' := [(1, .box 46 [.v (.int .i64 p_r.Kind), .v (.bool v1.From.Null), .v (.string v1.From.Local), .v (.string v1.From.Domain), .fl (.own 39) 3 (List.flatten (List.map T_Path.enc v1.To)), .fl (.own 5) 1 (List.map (Value.int .u8) v1.Body), .v (.bool v1.Quiet), .v (.string v1.Helo), .v (.int .i64 v1.At), .v (.int .i64 p_r.Id), .fl (.own 3) 1 (List.map (Value.int .i64) v2), .v (.int .i64 p_r.Origin), .v (.int .i64 p_r.Number), .v (.int .i64 p_r.Offset), .fl (.own 5) 1 (List.map (Value.int .u8) v3)]), (_, _)]) (by kernel_rfl) rfl rfl
   ⟨st_plain rfl (op_fieldAddr _ _ _ _ 1 0 _ Try.underlying46 rfl sz43 rfl rfl (by decide)),
   st_plain rfl (op_loadA _ _ _ _ _ _ _ Try.underlying43 rfl sz43 rfl rfl (Nat.le_of_ble_eq_true rfl) rfl rfl),
   st_plain rfl (op_call _ _ 53 _ _ rfl Try.call53 rfl (ok_wherrykeep_TwinMail ((T_Mail.mk (T_Path.mk p_r.Mail.From.Null p_r.Mail.From.Local p_r.Mail.From.Domain) p_r.Mail.To p_r.Mail.Body p_r.Mail.Quiet p_r.Mail.Helo p_r.Mail.At)) _ hv1) rfl rfl),
   st_plain rfl (op_fieldAddr _ _ _ _ 1 0 _ Try.underlying46 rfl sz44 rfl rfl (by decide)),
   st_plain rfl (op_load _ _ _ _ _ _ Try.underlying44 rfl rfl rfl (Nat.le_of_ble_eq_true rfl) rfl rfl rfl),
   st_plain rfl (op_call _ _ 54 _ _ rfl Try.call54 rfl (ok_wherrykeep_TwinInts p_r.Ids _ hv2) rfl rfl),
   st_plain rfl (op_fieldAddr _ _ _ _ 1 0 _ Try.underlying46 rfl sz41 rfl rfl (by decide)),
   st_plain rfl (op_load _ _ _ _ _ _ Try.underlying41 rfl rfl rfl (Nat.le_of_ble_eq_true rfl) rfl rfl rfl),
   st_plain rfl (op_call _ _ 55 _ _ rfl Try.call55 rfl (ok_wherrykeep_Twin p_r.Data _ hv3) rfl rfl),
   st_plain rfl (op_fieldAddr _ _ _ _ 1 0 _ Try.underlying46 rfl sz43 rfl rfl (by decide)),
   st_plain rfl (op_store_take _ _ _ _ _ _ _ _ sz43 rfl rfl rfl (Nat.le_of_ble_eq_true rfl) rfl rfl),
   st_plain rfl (op_fieldAddr _ _ _ _ 1 0 _ Try.underlying46 rfl sz44 rfl rfl (by decide)),
   st_plain rfl (op_store_take _ _ _ _ _ _ _ _ sz44 rfl rfl rfl (Nat.le_of_ble_eq_true rfl) rfl rfl),
   st_plain rfl (op_fieldAddr _ _ _ _ 1 0 _ Try.underlying46 rfl sz41 rfl rfl (by decide)),
   st_plain rfl (op_store_take _ _ _ _ _ _ _ _ sz41 rfl rfl rfl (Nat.le_of_ble_eq_true rfl) rfl rfl),
   trivial⟩ ?_
  refine pt_then ?_
  refine ht_seq ?_
  refine ht_seqR hn (El := [_, _, (15, .agg [.v (.int .i64 p_r.Kind), .v (.bool v1.From.Null), .v (.string v1.From.Local), .v (.string v1.From.Domain), .fl (.own 39) 3 (List.flatten (List.map T_Path.enc v1.To)), .fl (.own 5) 1 (List.map (Value.int .u8) v1.Body), .v (.bool v1.Quiet), .v (.string v1.Helo), .v (.int .i64 v1.At), .v (.int .i64 p_r.Id), .fl (.own 3) 1 (List.map (Value.int .i64) v2), .v (.int .i64 p_r.Origin), .v (.int .i64 p_r.Number), .v (.int .i64 p_r.Offset), .fl (.own 5) 1 (List.map (Value.int .u8) v3)]), (2, .box 46 [.v (.int .i64 p_r.Kind), .v (.bool v1.From.Null), .v (.string v1.From.Local), .v (.string v1.From.Domain), .fl (.own 39) 3 (List.flatten (List.map T_Path.enc v1.To)), .fl (.own 5) 1 (List.map (Value.int .u8) v1.Body), .v (.bool v1.Quiet), .v (.string v1.Helo), .v (.int .i64 v1.At), .v (.int .i64 p_r.Id), .fl (.own 3) 1 (List.map (Value.int .i64) v2), .v (.int .i64 p_r.Origin), .v (.int .i64 p_r.Number), .v (.int .i64 p_r.Offset), .fl (.own 5) 1 (List.map (Value.int .u8) v3)])]) (init := [0, 1]) (fin := [3]) (sps := [⟨[], [0], [2], [(.slot 15)]⟩, ⟨[], [2, 1], [3], [.cell 2 0, .cell 2 1, .cell 2 2, .cell 2 3, .cell 2 4, .cell 2 5, .cell 2 6, .cell 2 7, .cell 2 8, .cell 2 9, .cell 2 10, .cell 2 11, .cell 2 12, .cell 2 13, .cell 2 14]⟩]) (es' := [(2, .box 46 [.v (.int .i64 p_r.Kind), .v (.bool v1.From.Null), .v (.string v1.From.Local), .v (.string v1.From.Domain), .fl (.own 39) 3 (List.flatten (List.map T_Path.enc v1.To)), .fl (.own 5) 1 (List.map (Value.int .u8) v1.Body), .v (.bool v1.Quiet), .v (.string v1.Helo), .v (.int .i64 v1.At), .v (.int .i64 p_r.Id), .fl (.own 3) 1 (List.map (Value.int .i64) v2), .v (.int .i64 p_r.Origin), .v (.int .i64 p_r.Number), .v (.int .i64 p_r.Offset), .fl (.own 5) 1 (List.map (Value.int .u8) v3)])]) (by kernel_rfl) rfl rfl
   ⟨st_plain rfl (op_loadA_take _ _ _ _ Try.underlying46 rfl sz46 rfl rfl),
   st_plain rfl (op_store_take _ _ _ _ _ _ _ _ sz46 rfl rfl rfl (Nat.le_of_ble_eq_true rfl) rfl rfl),
   trivial⟩ ?_
  refine pt_then ?_
  refine ht_ret ?_
  obtain rfl := Option.some.inj h
  exact pt_ret hio rfl (.cellA _ _ _ _ Try.underlying46 rfl sz46 .nil) rfl rfl

set_option maxHeartbeats 1000000 in
theorem ok_wherrykeep_TwinRecs (l : (List T_Rec)) (r : (List T_Rec)) (h : Sh.wherrykeep_TwinRecs l = some r) : FnOK Try.prog 14 [.fr .shr true 15 (List.flatten (List.map T_Rec.ienc l))] (.fr (.own 46) false 15 (List.flatten (List.map T_Rec.ienc r))) := by
  unfold Sh.wherrykeep_TwinRecs at h
  refine fn_ok Try.func14 rfl (Nat.le_of_ble_eq_true rfl) rfl rfl fun g0 hn hio => ?_
  refine ht_seq ?_
  refine ht_seqR hn (El := [_, (2, .v (.slice none 0 0))]) (init := [0]) (fin := [0]) (sps := [⟨[], [], [1], [(.slot 2)]⟩]) (es' := [(_, _)]) (by kernel_rfl) rfl rfl
   ⟨st_plain rfl (op_assign _ _ _ _ rfl rfl),
   trivial⟩ ?_
  refine pt_then ?_
  refine ht_seq ?_
  refine ht_seqR hn (El := [_, (3, .v (.slice none 0 0))]) (init := [0]) (fin := [0, 1]) (sps := [⟨[], [], [1], [(.slot 3)]⟩]) (es' := [(_, _), (3, .v (.slice none 0 0))]) (by kernel_rfl) rfl rfl
   ⟨st_plain rfl (op_assign _ _ _ _ rfl rfl),
   trivial⟩ ?_
  refine pt_then ?_
  refine ht_seq ?_
  refine ht_seq ?_
  refine ht_seqR hn (El := [_, _, (4, .v (.int .i64 0))]) (init := [0, 1]) (fin := [0, 1, 2]) (sps := [⟨[], [], [2], [(.slot 4)]⟩]) (es' := [(_, _), (_, _), (4, .v (.int .i64 0))]) (by kernel_rfl) rfl rfl
   ⟨st_plain rfl (op_assign _ _ _ _ rfl rfl),
   trivial⟩ ?_
  refine pt_then ?_
  refine ht_sub (fs := [(0, .fr .shr true 15 (List.flatten (List.map T_Rec.ienc l))), (3, .fr (.own 46) false 15 (List.flatten (List.map T_Rec.ienc []))), (4, .v (.int .i64 0))]) (.same _ (.sub _ (sub_nil_fr 46 false 15) rfl (.same _ .nil))) ?_
  refine ht_loopS h (fun ((s10, s11) : (List T_Rec) × Int) => [(0, .fr .shr true 15 (List.flatten (List.map T_Rec.ienc l))), (3, .fr (.own 46) false 15 (List.flatten (List.map T_Rec.ienc s10))), (4, .v (.int .i64 s11))]) (fun (s13 : (List T_Rec)) => [(3, .fr (.own 46) false 15 (List.flatten (List.map T_Rec.ienc s13)))]) ?_ ?_
  ·rintro s13 h
   refine pt_then ?_
   refine ht_seq ?_
   refine ht_seqR hn (El := [_, (19, .fr (.own 46) false 15 (List.flatten (List.map T_Rec.ienc s13))), (2, .fr (.own 46) false 15 (List.flatten (List.map T_Rec.ienc s13)))]) (init := [0]) (fin := [2]) (sps := [⟨[], [0], [1], [(.slot 19)]⟩, ⟨[], [1], [2], [(.slot 2)]⟩]) (es' := [(2, .fr (.own 46) false 15 (List.flatten (List.map T_Rec.ienc s13)))]) (by kernel_rfl) rfl rfl
    ⟨st_plain rfl (op_move_take _ _ _ _ rfl),
    st_plain rfl (op_assign_take _ _ _ _ rfl),
    trivial⟩ ?_
   refine pt_then ?_
   refine ht_ret ?_
   obtain rfl := Option.some.inj h
   exact pt_ret hio rfl (.tmp _ _ .nil) rfl rfl
  ·rintro u14 hl15 hr16 ⟨s10, s11⟩ rr19 h ho17
   refine ht_seq ?_
   refine ht_seq ?_
   refine ht_seqR hn (El := [_, _, _, (5, .v (.int .i64 s11)), (6, .fr .shr true 15 (List.flatten (List.map T_Rec.ienc l))), (7, .v (.int .i64 (l.length : Int))), (8, .v (.bool ((decide (s11 < (l.length : Int))))))]) (init := [0, 1, 2]) (fin := [0, 1, 2, 6]) (sps := [⟨[2], [], [3], [(.slot 5)]⟩, ⟨[0], [], [4], [(.slot 6)]⟩, ⟨[4], [], [5], [(.slot 7)]⟩, ⟨[3, 5], [], [6], [(.slot 8)]⟩]) (es' := [(_, _), (_, _), (_, _), (8, .v (.bool ((decide (s11 < (l.length : Int))))))]) (by kernel_rfl) rfl rfl
    ⟨st_plain rfl (op_move _ _ _ _ rfl rfl),
    st_plain rfl (op_move _ _ _ _ rfl rfl),
    st_plain rfl (op_len_fr _ _ _ Try.underlying31 rfl (by decide) (gflat_len T_Rec.ilen _)),
    st_plain rfl (op_bin _ _ _ _ _ rfl rfl rfl),
    trivial⟩ ?_
   refine pt_then ?_
   refine ht_cond _ rfl (fun hb20 => ?_) (fun hb20 => ?_)
   ·have h := cond_t hb20 h
    refine ht_skip ?_
    refine pt_then ?_
    refine ht_seq ?_
    refine ht_block ?_
    obtain ⟨v2, hv2, h⟩ := bind_some h
    obtain ⟨v3, hv3, h⟩ := bind_some h
    obtain ⟨v4, hv4, h⟩ := bind_some h
    obtain ⟨v5, hv5, h⟩ := bind_some h
    refine ht_seqR hn (El := [_, _, _, _, (11, .fr (.own 46) false 15 (List.flatten (List.map T_Rec.ienc s10))), (12, .fr .shr true 15 (List.flatten (List.map T_Rec.ienc l))), (13, .v (.int .i64 s11)), (14, .eref (.slot 12) (v2 * 15)), (15, .agg [.v (.int .i64 v3.Kind), .v (.bool v3.Mail.From.Null), .v (.string v3.Mail.From.Local), .v (.string v3.Mail.From.Domain), .fl .shr 3 (List.flatten (List.map T_Path.enc v3.Mail.To)), .fl .shr 1 (List.map (Value.int .u8) v3.Mail.Body), .v (.bool v3.Mail.Quiet), .v (.string v3.Mail.Helo), .v (.int .i64 v3.Mail.At), .v (.int .i64 v3.Id), .fl .shr 1 (List.map (Value.int .i64) v3.Ids), .v (.int .i64 v3.Origin), .v (.int .i64 v3.Number), .v (.int .i64 v3.Offset), .fl .shr 1 (List.map (Value.int .u8) v3.Data)]), (16, .agg [.v (.int .i64 v4.Kind), .v (.bool v4.Mail.From.Null), .v (.string v4.Mail.From.Local), .v (.string v4.Mail.From.Domain), .fl (.own 39) 3 (List.flatten (List.map T_Path.enc v4.Mail.To)), .fl (.own 5) 1 (List.map (Value.int .u8) v4.Mail.Body), .v (.bool v4.Mail.Quiet), .v (.string v4.Mail.Helo), .v (.int .i64 v4.Mail.At), .v (.int .i64 v4.Id), .fl (.own 3) 1 (List.map (Value.int .i64) v4.Ids), .v (.int .i64 v4.Origin), .v (.int .i64 v4.Number), .v (.int .i64 v4.Offset), .fl (.own 5) 1 (List.map (Value.int .u8) v4.Data)]), (17, .fr (.own 46) false 15 (List.flatten (List.map T_Rec.ienc [(T_Rec.mk v4.Kind ((T_Mail.mk (T_Path.mk v4.Mail.From.Null v4.Mail.From.Local v4.Mail.From.Domain) v4.Mail.To v4.Mail.Body v4.Mail.Quiet v4.Mail.Helo v4.Mail.At)) v4.Id v4.Ids v4.Origin v4.Number v4.Offset v4.Data)]))), (18, .fr (.own 46) false 15 (List.flatten (List.map T_Rec.ienc v5))), (11, .any), (3, .fr (.own 46) false 15 (List.flatten (List.map T_Rec.ienc v5)))]) (init := [0, 1, 2, 3]) (fin := [0, 2, 13]) (sps := [⟨[], [1], [4], [(.slot 11)]⟩, ⟨[0], [], [5], [(.slot 12)]⟩, ⟨[2], [], [6], [(.slot 13)]⟩, ⟨[5, 6], [], [7], [(.slot 14)]⟩, ⟨[7, 5], [], [8], [(.slot 15)]⟩, ⟨[8], [], [9], [(.slot 16)]⟩, ⟨[], [9], [10], [(.slot 17)]⟩, ⟨[10], [4], [12, 11], [(.slot 18)]⟩, ⟨[], [11], [13], [(.slot 3)]⟩]) (es' := [(_, _), (_, _), (3, .fr (.own 46) false 15 (List.flatten (List.map T_Rec.ienc v5)))]) (by kernel_rfl) rfl rfl
     ⟨st_plain rfl (op_move_take _ _ _ _ rfl),
     st_plain rfl (op_move _ _ _ _ rfl rfl),
     st_plain rfl (op_move _ _ _ _ rfl rfl),
     st_plain rfl (op_ix_fr _ _ _ _ _ _ _ _ Try.underlying31 sz46 (by decide) rfl rfl rfl (ix_ok hv2).1 (gflat_lt T_Rec.ilen (ix_ok hv2).2) rfl),
     st_plain rfl (op_loadA_fr _ _ _ _ _ _ _ _ Try.underlying46 rfl sz46 rfl rfl (gflat_get T_Rec.ilen hv3) (.cons (.v _) (.cons (.v _) (.cons (.v _) (.cons (.v _) (.cons (.fl _ _ rfl) (.cons (.fl _ _ rfl) (.cons (.v _) (.cons (.v _) (.cons (.v _) (.cons (.v _) (.cons (.fl _ _ rfl) (.cons (.v _) (.cons (.v _) (.cons (.v _) (.cons (.fl _ _ rfl) (.nil)))))))))))))))) rfl (by decide)),
     st_plain rfl (op_call _ _ 40 _ _ rfl Try.call40 rfl (ok_wherrykeep_TwinRec ((T_Rec.mk v3.Kind ((T_Mail.mk (T_Path.mk v3.Mail.From.Null v3.Mail.From.Local v3.Mail.From.Domain) v3.Mail.To v3.Mail.Body v3.Mail.Quiet v3.Mail.Helo v3.Mail.At)) v3.Id v3.Ids v3.Origin v3.Number v3.Offset v3.Data)) _ hv4) rfl rfl),
     st_plain rfl (op_build1_fr_take _ _ _ 15 (.agg #[.int .i64 0, .bool false, .string ByteArray.empty, .string ByteArray.empty, .slice none 0 0, .slice none 0 0, .bool false, .string ByteArray.empty, .int .i64 0, .int .i64 0, .slice none 0 0, .int .i64 0, .int .i64 0, .int .i64 0, .slice none 0 0]) false _ _ Try.underlying31 sz46 zr46 rfl (.cons (.v _) (.cons (.v _) (.cons (.v _) (.cons (.v _) (.cons (.ro _ _ rfl) (.cons (.ro _ _ rfl) (.cons (.v _) (.cons (.v _) (.cons (.v _) (.cons (.v _) (.cons (.ro _ _ rfl) (.cons (.v _) (.cons (.v _) (.cons (.v _) (.cons (.ro _ _ rfl) (.nil)))))))))))))))) rfl (by decide) (by decide)),
     st_plain rfl (op_app_fr _ _ _ _ _ el31 rfl rfl (gflat_len T_Rec.ilen _) (gflat_len T_Rec.ilen _) hv5 (gflat_app (app_eq hv5)) (by decide) (by decide)),
     st_plain rfl (op_assign_take _ _ _ _ rfl),
     trivial⟩ ?_
    refine pt_inb ?_
    refine pt_then ?_
    obtain ⟨v6, hv6, h⟩ := bind_some h
    refine ht_seqR hn (El := [_, _, _, (9, .v (.int .i64 s11)), (10, .v (.int .i64 v6)), (4, .v (.int .i64 v6))]) (init := [0, 1, 2]) (fin := [0, 2, 5]) (sps := [⟨[1], [], [3], [(.slot 9)]⟩, ⟨[3], [], [4], [(.slot 10)]⟩, ⟨[4], [1], [5], [(.slot 4)]⟩]) (es' := [(_, _), (_, _), (4, .v (.int .i64 v6))]) (by kernel_rfl) rfl rfl
     ⟨st_plain rfl (op_move _ _ _ _ rfl rfl),
     st_plain rfl (op_bin _ _ _ _ _ rfl rfl (ibind (f := Value.int .i64) (Option.some.inj hv6))),
     st_plain rfl (LOp.drop [_] (op_assign _ _ _ _ rfl rfl)),
     trivial⟩ ?_
    exact pt_next _ (Option.some.inj h).symm rfl
   ·have h := cond_f hb20 h
    refine ht_exit ?_
    refine pt_x_then ?_
    refine pt_x_then ?_
    refine pt_x_in ?_
    refine pt_pick [1] (by kernel_rfl) (es' := [(_, _)]) rfl ?_
    exact hl15 _ (ho17 _ (Option.some.inj h).symm).symm

end Go.Proofs.Ytbioodcjmceefaa
