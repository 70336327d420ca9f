/-
  The model's runs are what is told in Lean.
-/
import Derived.Test.YtdligpdfcfbgpaaProg
import Derived.KernelRfl
import Derived.Test.YtdligpdfcfbgpaaOkc1
set_option linter.unusedVariables false
set_option linter.unusedSimpArgs false
namespace Go.Proofs.Ytdligpdfcfbgpaa
open Go.Abs Go.Abs.Sh

set_option maxHeartbeats 1000000 in
theorem ok_wherrylaw21_wakes (r : Bool) (h : Sh.wherrylaw21_wakes  = some r) : FnOK Try.prog 21 [] (.v (.bool r)) := by
  unfold Sh.wherrylaw21_wakes at h
  refine fn_ok Try.func21 rfl (Nat.le_of_ble_eq_true rfl) rfl rfl fun g0 hn hio => ?_
  refine ht_seq ?_
  refine ht_seqR hn (El := [(0, .v (.bool false))]) (init := []) (fin := []) (sps := [⟨[], [], [0], [(.slot 0)]⟩]) (es' := []) (by kernel_rfl) rfl rfl
   ⟨st_plain rfl (op_assign _ _ _ _ rfl rfl),
   trivial⟩ ?_
  refine pt_then ?_
  refine ht_seq ?_
  obtain ⟨v1, hv1, h⟩ := bind_some h
  refine ht_seqR hn (El := [(7, .fl (.own 5) 1 (List.map (Value.int .u8) [7])), (8, .tup [.agg [.v (.int .i64 v1.1.Number), .fl (.own 5) 1 (List.map (Value.int .u8) v1.1.Data), .v (.bool v1.1.Ready), .v (.int .i64 v1.1.Base), .v (.int .i64 v1.1.Next), .v (.int .i64 v1.1.Wait), .v (.bool v1.1.Over)], .v (.int .i64 v1.2)]), (6, .tup [.agg [.v (.int .i64 v1.1.Number), .fl (.own 5) 1 (List.map (Value.int .u8) v1.1.Data), .v (.bool v1.1.Ready), .v (.int .i64 v1.1.Base), .v (.int .i64 v1.1.Next), .v (.int .i64 v1.1.Wait), .v (.bool v1.1.Over)], .v (.int .i64 v1.2)]), (9, .agg [.v (.int .i64 v1.1.Number), .fl (.own 5) 1 (List.map (Value.int .u8) v1.1.Data), .v (.bool v1.1.Ready), .v (.int .i64 v1.1.Base), .v (.int .i64 v1.1.Next), .v (.int .i64 v1.1.Wait), .v (.bool v1.1.Over)]), (6, .tup [.any, .v (.int .i64 v1.2)]), (10, .v (.int .i64 v1.2)), (1, .box 24 [.v (.int .i64 0), .v (.slice none 0 0), .v (.bool false), .v (.int .i64 0), .v (.int .i64 0), .v (.int .i64 0), .v (.bool false)]), (1, .box 24 [.v (.int .i64 v1.1.Number), .fl (.own 5) 1 (List.map (Value.int .u8) v1.1.Data), .v (.bool v1.1.Ready), .v (.int .i64 v1.1.Base), .v (.int .i64 v1.1.Next), .v (.int .i64 v1.1.Wait), .v (.bool v1.1.Over)]), (2, .v (.int .i64 v1.2))]) (init := []) (fin := [7, 8]) (sps := [⟨[], [], [0], [(.slot 7)]⟩, ⟨[0], [], [1], [(.slot 8)]⟩, ⟨[], [1], [2], [(.slot 6)]⟩, ⟨[], [2], [4, 3], [(.slot 9)]⟩, ⟨[4], [], [5], [(.slot 10)]⟩, ⟨[], [], [6], [(.slot 1)]⟩, ⟨[], [3, 6], [7], [.cell 1 0, .cell 1 1, .cell 1 2, .cell 1 3, .cell 1 4, .cell 1 5, .cell 1 6]⟩, ⟨[5], [], [8], [(.slot 2)]⟩]) (es' := [(1, .box 24 [.v (.int .i64 v1.1.Number), .fl (.own 5) 1 (List.map (Value.int .u8) v1.1.Data), .v (.bool v1.1.Ready), .v (.int .i64 v1.1.Base), .v (.int .i64 v1.1.Next), .v (.int .i64 v1.1.Wait), .v (.bool v1.1.Over)]), (2, .v (.int .i64 v1.2))]) (by kernel_rfl) rfl rfl
   ⟨st_plain rfl (op_buildSlice _ _ 1 (.int .u8 0) (List.map (Value.int .u8) [7]) [(0, .int .u8 7)] Try.underlying22 sz5 zr5 (fun _ V w o a hv hes => by simp only [List.map_toArray, List.map_cons, List.map_nil]; try rfl) (litfill (by simp [Instr.fill, Value.cells]; rfl) (by simp [List.range, List.range.loop])) (by simp [Value.oneCell']) rfl (by decide) (by decide) (by decide)),
   st_plain rfl (op_call _ _ 16 _ _ rfl Try.call16 rfl (ok_sender_New 1 [7] _ hv1) rfl rfl),
   st_plain rfl (op_move_take _ _ _ _ rfl),
   st_plain rfl (op_extract_take _ _ _ _ _ rfl (Nat.le_of_ble_eq_true rfl) rfl rfl (by decide) rfl),
   st_plain rfl (op_extract _ _ _ _ _ rfl rfl (Nat.le_of_ble_eq_true rfl) rfl rfl),
   st_plain rfl (op_alloc _ _ zr24),
   st_plain rfl (op_store_take _ _ _ _ _ _ _ _ sz24 rfl rfl rfl (Nat.le_of_ble_eq_true rfl) rfl rfl),
   st_plain rfl (op_assign _ _ _ _ rfl rfl),
   trivial⟩ ?_
  refine pt_then ?_
  refine ht_seq ?_
  obtain ⟨v2, hv2, h⟩ := bind_some h
  refine ht_seqR hn (El := [_, _, (12, .agg [.v (.int .i64 v1.1.Number), .same (.cell 1 1), .v (.bool v1.1.Ready), .v (.int .i64 v1.1.Base), .v (.int .i64 v1.1.Next), .v (.int .i64 v1.1.Wait), .v (.bool v1.1.Over)]), (13, .tup [.agg [.v (.int .i64 v2.1.Number), .fl (.own 5) 1 (List.map (Value.int .u8) v2.1.Data), .v (.bool v2.1.Ready), .v (.int .i64 v2.1.Base), .v (.int .i64 v2.1.Next), .v (.int .i64 v2.1.Wait), .v (.bool v2.1.Over)], .fr (.own 26) false 5 (List.flatten (List.map T_Frame.ienc v2.2.1)), .v (.int .i64 v2.2.2)]), (11, .tup [.agg [.v (.int .i64 v2.1.Number), .fl (.own 5) 1 (List.map (Value.int .u8) v2.1.Data), .v (.bool v2.1.Ready), .v (.int .i64 v2.1.Base), .v (.int .i64 v2.1.Next), .v (.int .i64 v2.1.Wait), .v (.bool v2.1.Over)], .fr (.own 26) false 5 (List.flatten (List.map T_Frame.ienc v2.2.1)), .v (.int .i64 v2.2.2)]), (14, .agg [.v (.int .i64 v2.1.Number), .fl (.own 5) 1 (List.map (Value.int .u8) v2.1.Data), .v (.bool v2.1.Ready), .v (.int .i64 v2.1.Base), .v (.int .i64 v2.1.Next), .v (.int .i64 v2.1.Wait), .v (.bool v2.1.Over)]), (11, .tup [.any, .fr (.own 26) false 5 (List.flatten (List.map T_Frame.ienc v2.2.1)), .v (.int .i64 v2.2.2)]), (15, .fr (.own 26) false 5 (List.flatten (List.map T_Frame.ienc v2.2.1))), (11, .tup [.any, .any, .v (.int .i64 v2.2.2)]), (16, .v (.int .i64 v2.2.2)), (3, .box 24 [.v (.int .i64 0), .v (.slice none 0 0), .v (.bool false), .v (.int .i64 0), .v (.int .i64 0), .v (.int .i64 0), .v (.bool false)]), (3, .box 24 [.v (.int .i64 v2.1.Number), .fl (.own 5) 1 (List.map (Value.int .u8) v2.1.Data), .v (.bool v2.1.Ready), .v (.int .i64 v2.1.Base), .v (.int .i64 v2.1.Next), .v (.int .i64 v2.1.Wait), .v (.bool v2.1.Over)]), (4, .fr (.own 26) false 5 (List.flatten (List.map T_Frame.ienc v2.2.1))), (5, .v (.int .i64 v2.2.2))]) (init := [0, 1]) (fin := [0, 1, 11, 12, 13]) (sps := [⟨[0], [], [2], [(.slot 12)]⟩, ⟨[2, 0], [], [3], [(.slot 13)]⟩, ⟨[], [3], [4], [(.slot 11)]⟩, ⟨[], [4], [6, 5], [(.slot 14)]⟩, ⟨[], [6], [8, 7], [(.slot 15)]⟩, ⟨[8], [], [9], [(.slot 16)]⟩, ⟨[], [], [10], [(.slot 3)]⟩, ⟨[], [5, 10], [11], [.cell 3 0, .cell 3 1, .cell 3 2, .cell 3 3, .cell 3 4, .cell 3 5, .cell 3 6]⟩, ⟨[], [7], [12], [(.slot 4)]⟩, ⟨[9], [], [13], [(.slot 5)]⟩]) (es' := [(_, _), (_, _), (3, .box 24 [.v (.int .i64 v2.1.Number), .fl (.own 5) 1 (List.map (Value.int .u8) v2.1.Data), .v (.bool v2.1.Ready), .v (.int .i64 v2.1.Base), .v (.int .i64 v2.1.Next), .v (.int .i64 v2.1.Wait), .v (.bool v2.1.Over)]), (4, .fr (.own 26) false 5 (List.flatten (List.map T_Frame.ienc v2.2.1))), (5, .v (.int .i64 v2.2.2))]) (by kernel_rfl) rfl rfl
   ⟨st_plain rfl (op_loadA _ _ _ _ _ _ _ Try.underlying24 rfl sz24 rfl rfl (Nat.le_of_ble_eq_true rfl) rfl rfl),
   st_plain rfl (op_call _ _ 14 _ _ rfl Try.call14 rfl (ok_sender_Tick v1.1 _ hv2) rfl rfl),
   st_plain rfl (op_move_take _ _ _ _ rfl),
   st_plain rfl (op_extract_take _ _ _ _ _ rfl (Nat.le_of_ble_eq_true rfl) rfl rfl (by decide) rfl),
   st_plain rfl (op_extract_take _ _ _ _ _ rfl (Nat.le_of_ble_eq_true rfl) rfl rfl (by decide) rfl),
   st_plain rfl (op_extract _ _ _ _ _ rfl rfl (Nat.le_of_ble_eq_true rfl) rfl rfl),
   st_plain rfl (op_alloc _ _ zr24),
   st_plain rfl (op_store_take _ _ _ _ _ _ _ _ sz24 rfl rfl rfl (Nat.le_of_ble_eq_true rfl) rfl rfl),
   st_plain rfl (op_assign_take _ _ _ _ rfl),
   st_plain rfl (op_assign _ _ _ _ rfl rfl),
   trivial⟩ ?_
  refine pt_then ?_
  refine ht_seq ?_
  refine ht_joinS h (fun (s8 : Bool) => [(0, .v (.bool s8))]) ?_ ?_
  ·rintro s8 h
   refine pt_then ?_
   refine ht_ret ?_
   obtain rfl := Option.some.inj h
   exact pt_ret hio rfl (.tmp _ _ .nil) rfl rfl
  ·intro u9 h hl10 hr11
   refine cond_some h (fun hg3_2 h => ?_) (fun hg3_2 h => ?_)
   ·refine cond_some h (fun hg3_6 h => ?_) (fun hg3_6 h => ?_)
    ·refine cond_some h (fun hg3_11 h => ?_) (fun hg3_11 h => ?_)
     ·obtain ⟨v3, hv3, h⟩ := bind_some h
      obtain ⟨v4, hv4, h⟩ := bind_some h
      refine cond_some h (fun hg3_18 h => ?_) (fun hg3_18 h => ?_)
      ·obtain ⟨v5, hv5, h⟩ := bind_some h
       obtain ⟨v6, hv6, h⟩ := bind_some h
       refine cond_some h (fun hg3_25 h => ?_) (fun hg3_25 h => ?_)
       ·refine cond_some h (fun hg3_30 h => ?_) (fun hg3_30 h => ?_)
        ·obtain ⟨v7, hv7, h⟩ := bind_some h
         refine ht_seqR hn (El := (_ :: _ :: _ :: _ :: _ :: (17, .v (.int .i64 v1.2)) :: (18, .v (.bool (v1.2 == 0))) :: (19, .v (.bool true)) :: (20, .v (.int .i64 v2.2.2)) :: (21, .v (.bool (v2.2.2 == 0))) :: (22, .v (.bool (v2.2.2 == 0))) :: (23, .v (.bool true)) :: (24, .same (.slot 4)) :: (25, .v (.int .i64 (v2.2.1.length : Int))) :: (26, .v (.bool (((v2.2.1.length : Int) == 1)))) :: (27, .v (.bool (((v2.2.1.length : Int) == 1)))) :: (28, .v (.bool true)) :: (29, .same (.slot 4)) :: (30, .eref (.slot 4) (v3 * 5)) :: (31, .eref (.slot 4) (v3 * 5 + 0)) :: (32, .v (.int .i64 v4.Kind)) :: (33, .v (.bool (v4.Kind == 1))) :: (34, .v (.bool (v4.Kind == 1))) :: (35, .v (.bool true)) :: (36, .fr (.own 26) false 5 (List.flatten (List.map T_Frame.ienc v2.2.1))) :: (37, .eref (.slot 36) (v5 * 5)) :: (38, .eref (.slot 36) (v5 * 5 + 2)) :: (39, .v (.int .i64 v6.Offset)) :: (40, .v (.bool (v6.Offset == 1))) :: (41, .v (.bool (v6.Offset == 1))) :: (42, .v (.bool true)) :: (43, .ptr 3 5) :: (44, .v (.int .i64 v2.1.Wait)) :: (45, .v (.bool (v2.1.Wait == 3))) :: (46, .v (.bool (v2.1.Wait == 3))) :: (47, .v (.bool true)) :: (48, .agg [.v (.int .i64 v1.1.Number), .fl (.own 5) 1 (List.map (Value.int .u8) v1.1.Data), .v (.bool v1.1.Ready), .v (.int .i64 v1.1.Base), .v (.int .i64 v1.1.Next), .v (.int .i64 v1.1.Wait), .v (.bool v1.1.Over)]) :: (49, .v (.int .i64 v7)) :: (50, .v (.bool (v7 == 1))) :: (51, .v (.bool (v7 == 1))) :: (0, .v (.bool (v7 == 1))) :: [])) (init := [0, 1, 2, 3, 4]) (fin := [40]) (sps := (⟨[1], [], [5], [(.slot 17)]⟩ :: ⟨[5], [], [6], [(.slot 18)]⟩ :: ⟨[6], [], [7], [(.slot 19)]⟩ :: ⟨[7, 4], [], [8], [(.slot 20)]⟩ :: ⟨[7, 8], [], [9], [(.slot 21)]⟩ :: ⟨[7, 9], [], [10], [(.slot 22)]⟩ :: ⟨[10], [], [11], [(.slot 23)]⟩ :: ⟨[11, 3], [], [12], [(.slot 24)]⟩ :: ⟨[11, 12, 3], [], [13], [(.slot 25)]⟩ :: ⟨[11, 13], [], [14], [(.slot 26)]⟩ :: ⟨[11, 14], [], [15], [(.slot 27)]⟩ :: ⟨[15], [], [16], [(.slot 28)]⟩ :: ⟨[16, 3], [], [17], [(.slot 29)]⟩ :: ⟨[16, 17, 3], [], [18], [(.slot 30)]⟩ :: ⟨[16, 18, 3], [], [19], [(.slot 31)]⟩ :: ⟨[16, 19, 3], [], [20], [(.slot 32)]⟩ :: ⟨[16, 20], [], [21], [(.slot 33)]⟩ :: ⟨[16, 21], [], [22], [(.slot 34)]⟩ :: ⟨[22], [], [23], [(.slot 35)]⟩ :: ⟨[23], [12, 17, 18, 19, 3], [24], [(.slot 36)]⟩ :: ⟨[23, 24], [], [25], [(.slot 37)]⟩ :: ⟨[23, 25, 24], [], [26], [(.slot 38)]⟩ :: ⟨[23, 26, 24], [], [27], [(.slot 39)]⟩ :: ⟨[23, 27], [], [28], [(.slot 40)]⟩ :: ⟨[23, 28], [], [29], [(.slot 41)]⟩ :: ⟨[29], [], [30], [(.slot 42)]⟩ :: ⟨[30, 2], [], [31], [(.slot 43)]⟩ :: ⟨[30, 31, 2], [], [32], [(.slot 44)]⟩ :: ⟨[30, 32], [], [33], [(.slot 45)]⟩ :: ⟨[30, 33], [], [34], [(.slot 46)]⟩ :: ⟨[34], [], [35], [(.slot 47)]⟩ :: ⟨[35], [0], [36], [(.slot 48)]⟩ :: ⟨[35, 36], [], [37], [(.slot 49)]⟩ :: ⟨[35, 37], [], [38], [(.slot 50)]⟩ :: ⟨[35, 38], [], [39], [(.slot 51)]⟩ :: ⟨[39], [], [40], [(.slot 0)]⟩ :: [])) (es' := [(0, .v (.bool (v7 == 1)))]) (by kernel_rfl) rfl rfl
          ⟨st_plain rfl (op_move _ _ _ _ rfl rfl),
          st_plain rfl (op_bin _ _ _ _ _ rfl rfl rfl),
          st_plain rfl (op_move _ _ _ _ (congrArg (fun b => AV.v (Value.bool b)) hg3_2) rfl),
          st_run 2 19 true rfl rfl rfl (List.Mem.head _) (op_move _ _ _ _ rfl rfl),
          st_run 2 19 true rfl rfl rfl (List.Mem.head _) (op_bin _ _ _ _ _ rfl rfl rfl),
          st_plain rfl (op_pick _ _ true _ rfl rfl),
          st_plain rfl (op_move _ _ _ _ (congrArg (fun b => AV.v (Value.bool b)) hg3_6) rfl),
          st_run 6 23 true rfl rfl rfl (List.Mem.head _) (op_move _ _ _ _ rfl rfl),
          st_run 6 23 true rfl rfl rfl (List.Mem.head _) (op_len_fr _ _ _ Try.underlying31 rfl (by decide) (gflat_len T_Frame.ilen _)),
          st_run 6 23 true rfl rfl rfl (List.Mem.head _) (op_bin _ _ _ _ _ rfl rfl rfl),
          st_plain rfl (op_pick _ _ true _ rfl rfl),
          st_plain rfl (op_move _ _ _ _ (congrArg (fun b => AV.v (Value.bool b)) hg3_11) rfl),
          st_run 11 28 true rfl rfl rfl (List.Mem.head _) (op_move _ _ _ _ rfl rfl),
          st_run 11 28 true rfl rfl rfl (List.Mem.head _) (op_ix_fr _ _ _ _ _ _ _ _ Try.underlying31 sz26 (by decide) rfl rfl rfl (ix_ok hv3).1 (gflat_lt T_Frame.ilen (ix_ok hv3).2) rfl),
          st_run 11 28 true rfl rfl rfl (List.Mem.head _) (op_fieldAddr_e _ _ _ _ _ _ _ Try.underlying26 rfl sz3 rfl rfl rfl),
          st_run 11 28 true rfl rfl rfl (List.Mem.head _) (op_load_fr _ _ _ _ _ _ _ Try.underlying3 rfl rfl rfl (gflat_cell T_Frame.ilen hv4 rfl) (.v _)),
          st_run 11 28 true rfl rfl rfl (List.Mem.head _) (op_bin _ _ _ _ _ rfl rfl rfl),
          st_plain rfl (op_pick _ _ true _ rfl rfl),
          st_plain rfl (op_move _ _ _ _ (congrArg (fun b => AV.v (Value.bool b)) hg3_18) rfl),
          st_run 18 35 true rfl rfl rfl (List.Mem.head _) (LOp.drop [_] (LOp.drop [_] (LOp.drop [_] (LOp.drop [_] (op_move_take _ _ _ _ rfl))))),
          st_run 18 35 true rfl rfl rfl (List.Mem.head _) (op_ix_fr _ _ _ _ _ _ _ _ Try.underlying31 sz26 (by decide) rfl rfl rfl (ix_ok hv5).1 (gflat_lt T_Frame.ilen (ix_ok hv5).2) rfl),
          st_run 18 35 true rfl rfl rfl (List.Mem.head _) (op_fieldAddr_e _ _ _ _ _ _ _ Try.underlying26 rfl sz3 rfl rfl rfl),
          st_run 18 35 true rfl rfl rfl (List.Mem.head _) (op_load_fr _ _ _ _ _ _ _ Try.underlying3 rfl rfl rfl (gflat_cell T_Frame.ilen hv6 rfl) (.v _)),
          st_run 18 35 true rfl rfl rfl (List.Mem.head _) (op_bin _ _ _ _ _ rfl rfl rfl),
          st_plain rfl (op_pick _ _ true _ rfl rfl),
          st_plain rfl (op_move _ _ _ _ (congrArg (fun b => AV.v (Value.bool b)) hg3_25) rfl),
          st_run 25 42 true rfl rfl rfl (List.Mem.head _) (op_fieldAddr _ _ _ _ 3 0 _ Try.underlying24 rfl sz3 rfl rfl (by decide)),
          st_run 25 42 true rfl rfl rfl (List.Mem.head _) (op_load _ _ _ _ _ _ Try.underlying3 rfl rfl rfl (Nat.le_of_ble_eq_true rfl) rfl rfl rfl),
          st_run 25 42 true rfl rfl rfl (List.Mem.head _) (op_bin _ _ _ _ _ rfl rfl rfl),
          st_plain rfl (op_pick _ _ true _ rfl rfl),
          st_plain rfl (op_move _ _ _ _ (congrArg (fun b => AV.v (Value.bool b)) hg3_30) rfl),
          st_run 30 47 true rfl rfl rfl (List.Mem.head _) (op_loadA_take _ _ _ _ Try.underlying24 rfl sz24 rfl rfl),
          st_run 30 47 true rfl rfl rfl (List.Mem.head _) (op_call _ _ 18 _ _ rfl Try.call18 rfl (ok_sender_Pieces v1.1 _ hv7) rfl rfl),
          st_run 30 47 true rfl rfl rfl (List.Mem.head _) (op_bin _ _ _ _ _ rfl rfl rfl),
          st_plain rfl (op_pick _ _ true _ rfl rfl),
          st_plain rfl (op_assign _ _ _ _ rfl rfl),
          trivial⟩ ?_
         exact hl10 _ (Option.some.inj h).symm
        ·refine ht_seqR hn (El := (_ :: _ :: _ :: _ :: _ :: (17, .v (.int .i64 v1.2)) :: (18, .v (.bool (v1.2 == 0))) :: (19, .v (.bool true)) :: (20, .v (.int .i64 v2.2.2)) :: (21, .v (.bool (v2.2.2 == 0))) :: (22, .v (.bool (v2.2.2 == 0))) :: (23, .v (.bool true)) :: (24, .same (.slot 4)) :: (25, .v (.int .i64 (v2.2.1.length : Int))) :: (26, .v (.bool (((v2.2.1.length : Int) == 1)))) :: (27, .v (.bool (((v2.2.1.length : Int) == 1)))) :: (28, .v (.bool true)) :: (29, .same (.slot 4)) :: (30, .eref (.slot 4) (v3 * 5)) :: (31, .eref (.slot 4) (v3 * 5 + 0)) :: (32, .v (.int .i64 v4.Kind)) :: (33, .v (.bool (v4.Kind == 1))) :: (34, .v (.bool (v4.Kind == 1))) :: (35, .v (.bool true)) :: (36, .fr (.own 26) false 5 (List.flatten (List.map T_Frame.ienc v2.2.1))) :: (37, .eref (.slot 36) (v5 * 5)) :: (38, .eref (.slot 36) (v5 * 5 + 2)) :: (39, .v (.int .i64 v6.Offset)) :: (40, .v (.bool (v6.Offset == 1))) :: (41, .v (.bool (v6.Offset == 1))) :: (42, .v (.bool true)) :: (43, .ptr 3 5) :: (44, .v (.int .i64 v2.1.Wait)) :: (45, .v (.bool (v2.1.Wait == 3))) :: (46, .v (.bool (v2.1.Wait == 3))) :: (47, .v (.bool false)) :: (48, .v undef) :: (49, .v undef) :: (50, .v undef) :: (51, .v (.bool false)) :: (0, .v (.bool false)) :: [])) (init := [0, 1, 2, 3, 4]) (fin := [40]) (sps := (⟨[1], [], [5], [(.slot 17)]⟩ :: ⟨[5], [], [6], [(.slot 18)]⟩ :: ⟨[6], [], [7], [(.slot 19)]⟩ :: ⟨[7, 4], [], [8], [(.slot 20)]⟩ :: ⟨[7, 8], [], [9], [(.slot 21)]⟩ :: ⟨[7, 9], [], [10], [(.slot 22)]⟩ :: ⟨[10], [], [11], [(.slot 23)]⟩ :: ⟨[11, 3], [], [12], [(.slot 24)]⟩ :: ⟨[11, 12, 3], [], [13], [(.slot 25)]⟩ :: ⟨[11, 13], [], [14], [(.slot 26)]⟩ :: ⟨[11, 14], [], [15], [(.slot 27)]⟩ :: ⟨[15], [], [16], [(.slot 28)]⟩ :: ⟨[16, 3], [], [17], [(.slot 29)]⟩ :: ⟨[16, 17, 3], [], [18], [(.slot 30)]⟩ :: ⟨[16, 18, 3], [], [19], [(.slot 31)]⟩ :: ⟨[16, 19, 3], [], [20], [(.slot 32)]⟩ :: ⟨[16, 20], [], [21], [(.slot 33)]⟩ :: ⟨[16, 21], [], [22], [(.slot 34)]⟩ :: ⟨[22], [], [23], [(.slot 35)]⟩ :: ⟨[23], [12, 17, 18, 19, 3], [24], [(.slot 36)]⟩ :: ⟨[23, 24], [], [25], [(.slot 37)]⟩ :: ⟨[23, 25, 24], [], [26], [(.slot 38)]⟩ :: ⟨[23, 26, 24], [], [27], [(.slot 39)]⟩ :: ⟨[23, 27], [], [28], [(.slot 40)]⟩ :: ⟨[23, 28], [], [29], [(.slot 41)]⟩ :: ⟨[29], [], [30], [(.slot 42)]⟩ :: ⟨[30, 2], [], [31], [(.slot 43)]⟩ :: ⟨[30, 31, 2], [], [32], [(.slot 44)]⟩ :: ⟨[30, 32], [], [33], [(.slot 45)]⟩ :: ⟨[30, 33], [], [34], [(.slot 46)]⟩ :: ⟨[34], [], [35], [(.slot 47)]⟩ :: ⟨[35], [], [36], [(.slot 48)]⟩ :: ⟨[35], [], [37], [(.slot 49)]⟩ :: ⟨[35], [], [38], [(.slot 50)]⟩ :: ⟨[35], [], [39], [(.slot 51)]⟩ :: ⟨[39], [], [40], [(.slot 0)]⟩ :: [])) (es' := [(0, .v (.bool false))]) (by kernel_rfl) rfl rfl
          ⟨st_plain rfl (op_move _ _ _ _ rfl rfl),
          st_plain rfl (op_bin _ _ _ _ _ rfl rfl rfl),
          st_plain rfl (op_move _ _ _ _ (congrArg (fun b => AV.v (Value.bool b)) hg3_2) rfl),
          st_run 2 19 true rfl rfl rfl (List.Mem.head _) (op_move _ _ _ _ rfl rfl),
          st_run 2 19 true rfl rfl rfl (List.Mem.head _) (op_bin _ _ _ _ _ rfl rfl rfl),
          st_plain rfl (op_pick _ _ true _ rfl rfl),
          st_plain rfl (op_move _ _ _ _ (congrArg (fun b => AV.v (Value.bool b)) hg3_6) rfl),
          st_run 6 23 true rfl rfl rfl (List.Mem.head _) (op_move _ _ _ _ rfl rfl),
          st_run 6 23 true rfl rfl rfl (List.Mem.head _) (op_len_fr _ _ _ Try.underlying31 rfl (by decide) (gflat_len T_Frame.ilen _)),
          st_run 6 23 true rfl rfl rfl (List.Mem.head _) (op_bin _ _ _ _ _ rfl rfl rfl),
          st_plain rfl (op_pick _ _ true _ rfl rfl),
          st_plain rfl (op_move _ _ _ _ (congrArg (fun b => AV.v (Value.bool b)) hg3_11) rfl),
          st_run 11 28 true rfl rfl rfl (List.Mem.head _) (op_move _ _ _ _ rfl rfl),
          st_run 11 28 true rfl rfl rfl (List.Mem.head _) (op_ix_fr _ _ _ _ _ _ _ _ Try.underlying31 sz26 (by decide) rfl rfl rfl (ix_ok hv3).1 (gflat_lt T_Frame.ilen (ix_ok hv3).2) rfl),
          st_run 11 28 true rfl rfl rfl (List.Mem.head _) (op_fieldAddr_e _ _ _ _ _ _ _ Try.underlying26 rfl sz3 rfl rfl rfl),
          st_run 11 28 true rfl rfl rfl (List.Mem.head _) (op_load_fr _ _ _ _ _ _ _ Try.underlying3 rfl rfl rfl (gflat_cell T_Frame.ilen hv4 rfl) (.v _)),
          st_run 11 28 true rfl rfl rfl (List.Mem.head _) (op_bin _ _ _ _ _ rfl rfl rfl),
          st_plain rfl (op_pick _ _ true _ rfl rfl),
          st_plain rfl (op_move _ _ _ _ (congrArg (fun b => AV.v (Value.bool b)) hg3_18) rfl),
          st_run 18 35 true rfl rfl rfl (List.Mem.head _) (LOp.drop [_] (LOp.drop [_] (LOp.drop [_] (LOp.drop [_] (op_move_take _ _ _ _ rfl))))),
          st_run 18 35 true rfl rfl rfl (List.Mem.head _) (op_ix_fr _ _ _ _ _ _ _ _ Try.underlying31 sz26 (by decide) rfl rfl rfl (ix_ok hv5).1 (gflat_lt T_Frame.ilen (ix_ok hv5).2) rfl),
          st_run 18 35 true rfl rfl rfl (List.Mem.head _) (op_fieldAddr_e _ _ _ _ _ _ _ Try.underlying26 rfl sz3 rfl rfl rfl),
          st_run 18 35 true rfl rfl rfl (List.Mem.head _) (op_load_fr _ _ _ _ _ _ _ Try.underlying3 rfl rfl rfl (gflat_cell T_Frame.ilen hv6 rfl) (.v _)),
          st_run 18 35 true rfl rfl rfl (List.Mem.head _) (op_bin _ _ _ _ _ rfl rfl rfl),
          st_plain rfl (op_pick _ _ true _ rfl rfl),
          st_plain rfl (op_move _ _ _ _ (congrArg (fun b => AV.v (Value.bool b)) hg3_25) rfl),
          st_run 25 42 true rfl rfl rfl (List.Mem.head _) (op_fieldAddr _ _ _ _ 3 0 _ Try.underlying24 rfl sz3 rfl rfl (by decide)),
          st_run 25 42 true rfl rfl rfl (List.Mem.head _) (op_load _ _ _ _ _ _ Try.underlying3 rfl rfl rfl (Nat.le_of_ble_eq_true rfl) rfl rfl rfl),
          st_run 25 42 true rfl rfl rfl (List.Mem.head _) (op_bin _ _ _ _ _ rfl rfl rfl),
          st_plain rfl (op_pick _ _ true _ rfl rfl),
          st_plain rfl (op_move _ _ _ _ (congrArg (fun b => AV.v (Value.bool b)) hg3_30) rfl),
          st_skip 30 47 _ true rfl rfl rfl rfl (List.Mem.head _),
          st_skip 30 47 _ true rfl rfl rfl rfl (List.Mem.head _),
          st_skip 30 47 _ true rfl rfl rfl rfl (List.Mem.head _),
          st_plain rfl (op_pick _ _ false _ rfl rfl),
          st_plain rfl (op_assign _ _ _ _ rfl rfl),
          trivial⟩ ?_
         exact hl10 _ (Option.some.inj h).symm
       ·refine ht_seqR hn (El := (_ :: _ :: _ :: _ :: _ :: (17, .v (.int .i64 v1.2)) :: (18, .v (.bool (v1.2 == 0))) :: (19, .v (.bool true)) :: (20, .v (.int .i64 v2.2.2)) :: (21, .v (.bool (v2.2.2 == 0))) :: (22, .v (.bool (v2.2.2 == 0))) :: (23, .v (.bool true)) :: (24, .same (.slot 4)) :: (25, .v (.int .i64 (v2.2.1.length : Int))) :: (26, .v (.bool (((v2.2.1.length : Int) == 1)))) :: (27, .v (.bool (((v2.2.1.length : Int) == 1)))) :: (28, .v (.bool true)) :: (29, .same (.slot 4)) :: (30, .eref (.slot 4) (v3 * 5)) :: (31, .eref (.slot 4) (v3 * 5 + 0)) :: (32, .v (.int .i64 v4.Kind)) :: (33, .v (.bool (v4.Kind == 1))) :: (34, .v (.bool (v4.Kind == 1))) :: (35, .v (.bool true)) :: (36, .fr (.own 26) false 5 (List.flatten (List.map T_Frame.ienc v2.2.1))) :: (37, .eref (.slot 36) (v5 * 5)) :: (38, .eref (.slot 36) (v5 * 5 + 2)) :: (39, .v (.int .i64 v6.Offset)) :: (40, .v (.bool (v6.Offset == 1))) :: (41, .v (.bool (v6.Offset == 1))) :: (42, .v (.bool false)) :: (43, .v undef) :: (44, .v undef) :: (45, .v undef) :: (46, .v (.bool false)) :: (47, .v (.bool false)) :: (48, .v undef) :: (49, .v undef) :: (50, .v undef) :: (51, .v (.bool false)) :: (0, .v (.bool false)) :: [])) (init := [0, 1, 2, 3, 4]) (fin := [40]) (sps := (⟨[1], [], [5], [(.slot 17)]⟩ :: ⟨[5], [], [6], [(.slot 18)]⟩ :: ⟨[6], [], [7], [(.slot 19)]⟩ :: ⟨[7, 4], [], [8], [(.slot 20)]⟩ :: ⟨[7, 8], [], [9], [(.slot 21)]⟩ :: ⟨[7, 9], [], [10], [(.slot 22)]⟩ :: ⟨[10], [], [11], [(.slot 23)]⟩ :: ⟨[11, 3], [], [12], [(.slot 24)]⟩ :: ⟨[11, 12, 3], [], [13], [(.slot 25)]⟩ :: ⟨[11, 13], [], [14], [(.slot 26)]⟩ :: ⟨[11, 14], [], [15], [(.slot 27)]⟩ :: ⟨[15], [], [16], [(.slot 28)]⟩ :: ⟨[16, 3], [], [17], [(.slot 29)]⟩ :: ⟨[16, 17, 3], [], [18], [(.slot 30)]⟩ :: ⟨[16, 18, 3], [], [19], [(.slot 31)]⟩ :: ⟨[16, 19, 3], [], [20], [(.slot 32)]⟩ :: ⟨[16, 20], [], [21], [(.slot 33)]⟩ :: ⟨[16, 21], [], [22], [(.slot 34)]⟩ :: ⟨[22], [], [23], [(.slot 35)]⟩ :: ⟨[23], [12, 17, 18, 19, 3], [24], [(.slot 36)]⟩ :: ⟨[23, 24], [], [25], [(.slot 37)]⟩ :: ⟨[23, 25, 24], [], [26], [(.slot 38)]⟩ :: ⟨[23, 26, 24], [], [27], [(.slot 39)]⟩ :: ⟨[23, 27], [], [28], [(.slot 40)]⟩ :: ⟨[23, 28], [], [29], [(.slot 41)]⟩ :: ⟨[29], [], [30], [(.slot 42)]⟩ :: ⟨[30], [], [31], [(.slot 43)]⟩ :: ⟨[30], [], [32], [(.slot 44)]⟩ :: ⟨[30], [], [33], [(.slot 45)]⟩ :: ⟨[30], [], [34], [(.slot 46)]⟩ :: ⟨[34], [], [35], [(.slot 47)]⟩ :: ⟨[35], [], [36], [(.slot 48)]⟩ :: ⟨[35], [], [37], [(.slot 49)]⟩ :: ⟨[35], [], [38], [(.slot 50)]⟩ :: ⟨[35], [], [39], [(.slot 51)]⟩ :: ⟨[39], [], [40], [(.slot 0)]⟩ :: [])) (es' := [(0, .v (.bool false))]) (by kernel_rfl) rfl rfl
         ⟨st_plain rfl (op_move _ _ _ _ rfl rfl),
         st_plain rfl (op_bin _ _ _ _ _ rfl rfl rfl),
         st_plain rfl (op_move _ _ _ _ (congrArg (fun b => AV.v (Value.bool b)) hg3_2) rfl),
         st_run 2 19 true rfl rfl rfl (List.Mem.head _) (op_move _ _ _ _ rfl rfl),
         st_run 2 19 true rfl rfl rfl (List.Mem.head _) (op_bin _ _ _ _ _ rfl rfl rfl),
         st_plain rfl (op_pick _ _ true _ rfl rfl),
         st_plain rfl (op_move _ _ _ _ (congrArg (fun b => AV.v (Value.bool b)) hg3_6) rfl),
         st_run 6 23 true rfl rfl rfl (List.Mem.head _) (op_move _ _ _ _ rfl rfl),
         st_run 6 23 true rfl rfl rfl (List.Mem.head _) (op_len_fr _ _ _ Try.underlying31 rfl (by decide) (gflat_len T_Frame.ilen _)),
         st_run 6 23 true rfl rfl rfl (List.Mem.head _) (op_bin _ _ _ _ _ rfl rfl rfl),
         st_plain rfl (op_pick _ _ true _ rfl rfl),
         st_plain rfl (op_move _ _ _ _ (congrArg (fun b => AV.v (Value.bool b)) hg3_11) rfl),
         st_run 11 28 true rfl rfl rfl (List.Mem.head _) (op_move _ _ _ _ rfl rfl),
         st_run 11 28 true rfl rfl rfl (List.Mem.head _) (op_ix_fr _ _ _ _ _ _ _ _ Try.underlying31 sz26 (by decide) rfl rfl rfl (ix_ok hv3).1 (gflat_lt T_Frame.ilen (ix_ok hv3).2) rfl),
         st_run 11 28 true rfl rfl rfl (List.Mem.head _) (op_fieldAddr_e _ _ _ _ _ _ _ Try.underlying26 rfl sz3 rfl rfl rfl),
         st_run 11 28 true rfl rfl rfl (List.Mem.head _) (op_load_fr _ _ _ _ _ _ _ Try.underlying3 rfl rfl rfl (gflat_cell T_Frame.ilen hv4 rfl) (.v _)),
         st_run 11 28 true rfl rfl rfl (List.Mem.head _) (op_bin _ _ _ _ _ rfl rfl rfl),
         st_plain rfl (op_pick _ _ true _ rfl rfl),
         st_plain rfl (op_move _ _ _ _ (congrArg (fun b => AV.v (Value.bool b)) hg3_18) rfl),
         st_run 18 35 true rfl rfl rfl (List.Mem.head _) (LOp.drop [_] (LOp.drop [_] (LOp.drop [_] (LOp.drop [_] (op_move_take _ _ _ _ rfl))))),
         st_run 18 35 true rfl rfl rfl (List.Mem.head _) (op_ix_fr _ _ _ _ _ _ _ _ Try.underlying31 sz26 (by decide) rfl rfl rfl (ix_ok hv5).1 (gflat_lt T_Frame.ilen (ix_ok hv5).2) rfl),
         st_run 18 35 true rfl rfl rfl (List.Mem.head _) (op_fieldAddr_e _ _ _ _ _ _ _ Try.underlying26 rfl sz3 rfl rfl rfl),
         st_run 18 35 true rfl rfl rfl (List.Mem.head _) (op_load_fr _ _ _ _ _ _ _ Try.underlying3 rfl rfl rfl (gflat_cell T_Frame.ilen hv6 rfl) (.v _)),
         st_run 18 35 true rfl rfl rfl (List.Mem.head _) (op_bin _ _ _ _ _ rfl rfl rfl),
         st_plain rfl (op_pick _ _ true _ rfl rfl),
         st_plain rfl (op_move _ _ _ _ (congrArg (fun b => AV.v (Value.bool b)) hg3_25) rfl),
         st_skip 25 42 _ true rfl rfl rfl rfl (List.Mem.head _),
         st_skip 25 42 _ true rfl rfl rfl rfl (List.Mem.head _),
         st_skip 25 42 _ true rfl rfl rfl rfl (List.Mem.head _),
         st_plain rfl (op_pick _ _ false _ rfl rfl),
         st_plain rfl (op_move _ _ _ _ rfl rfl),
         st_skip 30 47 _ true rfl rfl rfl rfl (List.Mem.head _),
         st_skip 30 47 _ true rfl rfl rfl rfl (List.Mem.head _),
         st_skip 30 47 _ true rfl rfl rfl rfl (List.Mem.head _),
         st_plain rfl (op_pick _ _ false _ rfl rfl),
         st_plain rfl (op_assign _ _ _ _ rfl rfl),
         trivial⟩ ?_
        exact hl10 _ (Option.some.inj h).symm
      ·refine ht_seqR hn (El := (_ :: _ :: _ :: _ :: _ :: (17, .v (.int .i64 v1.2)) :: (18, .v (.bool (v1.2 == 0))) :: (19, .v (.bool true)) :: (20, .v (.int .i64 v2.2.2)) :: (21, .v (.bool (v2.2.2 == 0))) :: (22, .v (.bool (v2.2.2 == 0))) :: (23, .v (.bool true)) :: (24, .same (.slot 4)) :: (25, .v (.int .i64 (v2.2.1.length : Int))) :: (26, .v (.bool (((v2.2.1.length : Int) == 1)))) :: (27, .v (.bool (((v2.2.1.length : Int) == 1)))) :: (28, .v (.bool true)) :: (29, .same (.slot 4)) :: (30, .eref (.slot 4) (v3 * 5)) :: (31, .eref (.slot 4) (v3 * 5 + 0)) :: (32, .v (.int .i64 v4.Kind)) :: (33, .v (.bool (v4.Kind == 1))) :: (34, .v (.bool (v4.Kind == 1))) :: (35, .v (.bool false)) :: (36, .v undef) :: (37, .v undef) :: (38, .v undef) :: (39, .v undef) :: (40, .v undef) :: (41, .v (.bool false)) :: (42, .v (.bool false)) :: (43, .v undef) :: (44, .v undef) :: (45, .v undef) :: (46, .v (.bool false)) :: (47, .v (.bool false)) :: (48, .v undef) :: (49, .v undef) :: (50, .v undef) :: (51, .v (.bool false)) :: (0, .v (.bool false)) :: [])) (init := [0, 1, 2, 3, 4]) (fin := [40]) (sps := (⟨[1], [], [5], [(.slot 17)]⟩ :: ⟨[5], [], [6], [(.slot 18)]⟩ :: ⟨[6], [], [7], [(.slot 19)]⟩ :: ⟨[7, 4], [], [8], [(.slot 20)]⟩ :: ⟨[7, 8], [], [9], [(.slot 21)]⟩ :: ⟨[7, 9], [], [10], [(.slot 22)]⟩ :: ⟨[10], [], [11], [(.slot 23)]⟩ :: ⟨[11, 3], [], [12], [(.slot 24)]⟩ :: ⟨[11, 12, 3], [], [13], [(.slot 25)]⟩ :: ⟨[11, 13], [], [14], [(.slot 26)]⟩ :: ⟨[11, 14], [], [15], [(.slot 27)]⟩ :: ⟨[15], [], [16], [(.slot 28)]⟩ :: ⟨[16, 3], [], [17], [(.slot 29)]⟩ :: ⟨[16, 17, 3], [], [18], [(.slot 30)]⟩ :: ⟨[16, 18, 3], [], [19], [(.slot 31)]⟩ :: ⟨[16, 19, 3], [], [20], [(.slot 32)]⟩ :: ⟨[16, 20], [], [21], [(.slot 33)]⟩ :: ⟨[16, 21], [], [22], [(.slot 34)]⟩ :: ⟨[22], [], [23], [(.slot 35)]⟩ :: ⟨[23], [], [24], [(.slot 36)]⟩ :: ⟨[23], [], [25], [(.slot 37)]⟩ :: ⟨[23], [], [26], [(.slot 38)]⟩ :: ⟨[23], [], [27], [(.slot 39)]⟩ :: ⟨[23], [], [28], [(.slot 40)]⟩ :: ⟨[23], [], [29], [(.slot 41)]⟩ :: ⟨[29], [], [30], [(.slot 42)]⟩ :: ⟨[30], [], [31], [(.slot 43)]⟩ :: ⟨[30], [], [32], [(.slot 44)]⟩ :: ⟨[30], [], [33], [(.slot 45)]⟩ :: ⟨[30], [], [34], [(.slot 46)]⟩ :: ⟨[34], [], [35], [(.slot 47)]⟩ :: ⟨[35], [], [36], [(.slot 48)]⟩ :: ⟨[35], [], [37], [(.slot 49)]⟩ :: ⟨[35], [], [38], [(.slot 50)]⟩ :: ⟨[35], [], [39], [(.slot 51)]⟩ :: ⟨[39], [], [40], [(.slot 0)]⟩ :: [])) (es' := [(0, .v (.bool false))]) (by kernel_rfl) rfl rfl
        ⟨st_plain rfl (op_move _ _ _ _ rfl rfl),
        st_plain rfl (op_bin _ _ _ _ _ rfl rfl rfl),
        st_plain rfl (op_move _ _ _ _ (congrArg (fun b => AV.v (Value.bool b)) hg3_2) rfl),
        st_run 2 19 true rfl rfl rfl (List.Mem.head _) (op_move _ _ _ _ rfl rfl),
        st_run 2 19 true rfl rfl rfl (List.Mem.head _) (op_bin _ _ _ _ _ rfl rfl rfl),
        st_plain rfl (op_pick _ _ true _ rfl rfl),
        st_plain rfl (op_move _ _ _ _ (congrArg (fun b => AV.v (Value.bool b)) hg3_6) rfl),
        st_run 6 23 true rfl rfl rfl (List.Mem.head _) (op_move _ _ _ _ rfl rfl),
        st_run 6 23 true rfl rfl rfl (List.Mem.head _) (op_len_fr _ _ _ Try.underlying31 rfl (by decide) (gflat_len T_Frame.ilen _)),
        st_run 6 23 true rfl rfl rfl (List.Mem.head _) (op_bin _ _ _ _ _ rfl rfl rfl),
        st_plain rfl (op_pick _ _ true _ rfl rfl),
        st_plain rfl (op_move _ _ _ _ (congrArg (fun b => AV.v (Value.bool b)) hg3_11) rfl),
        st_run 11 28 true rfl rfl rfl (List.Mem.head _) (op_move _ _ _ _ rfl rfl),
        st_run 11 28 true rfl rfl rfl (List.Mem.head _) (op_ix_fr _ _ _ _ _ _ _ _ Try.underlying31 sz26 (by decide) rfl rfl rfl (ix_ok hv3).1 (gflat_lt T_Frame.ilen (ix_ok hv3).2) rfl),
        st_run 11 28 true rfl rfl rfl (List.Mem.head _) (op_fieldAddr_e _ _ _ _ _ _ _ Try.underlying26 rfl sz3 rfl rfl rfl),
        st_run 11 28 true rfl rfl rfl (List.Mem.head _) (op_load_fr _ _ _ _ _ _ _ Try.underlying3 rfl rfl rfl (gflat_cell T_Frame.ilen hv4 rfl) (.v _)),
        st_run 11 28 true rfl rfl rfl (List.Mem.head _) (op_bin _ _ _ _ _ rfl rfl rfl),
        st_plain rfl (op_pick _ _ true _ rfl rfl),
        st_plain rfl (op_move _ _ _ _ (congrArg (fun b => AV.v (Value.bool b)) hg3_18) rfl),
        st_skip 18 35 _ true rfl rfl rfl rfl (List.Mem.head _),
        st_skip 18 35 _ true rfl rfl rfl rfl (List.Mem.head _),
        st_skip 18 35 _ true rfl rfl rfl rfl (List.Mem.head _),
        st_skip 18 35 _ true rfl rfl rfl rfl (List.Mem.head _),
        st_skip 18 35 _ true rfl rfl rfl rfl (List.Mem.head _),
        st_plain rfl (op_pick _ _ false _ rfl rfl),
        st_plain rfl (op_move _ _ _ _ rfl rfl),
        st_skip 25 42 _ true rfl rfl rfl rfl (List.Mem.head _),
        st_skip 25 42 _ true rfl rfl rfl rfl (List.Mem.head _),
        st_skip 25 42 _ true rfl rfl rfl rfl (List.Mem.head _),
        st_plain rfl (op_pick _ _ false _ rfl rfl),
        st_plain rfl (op_move _ _ _ _ rfl rfl),
        st_skip 30 47 _ true rfl rfl rfl rfl (List.Mem.head _),
        st_skip 30 47 _ true rfl rfl rfl rfl (List.Mem.head _),
        st_skip 30 47 _ true rfl rfl rfl rfl (List.Mem.head _),
        st_plain rfl (op_pick _ _ false _ rfl rfl),
        st_plain rfl (op_assign _ _ _ _ rfl rfl),
        trivial⟩ ?_
       exact hl10 _ (Option.some.inj h).symm
     ·refine ht_seqR hn (El := (_ :: _ :: _ :: _ :: _ :: (17, .v (.int .i64 v1.2)) :: (18, .v (.bool (v1.2 == 0))) :: (19, .v (.bool true)) :: (20, .v (.int .i64 v2.2.2)) :: (21, .v (.bool (v2.2.2 == 0))) :: (22, .v (.bool (v2.2.2 == 0))) :: (23, .v (.bool true)) :: (24, .same (.slot 4)) :: (25, .v (.int .i64 (v2.2.1.length : Int))) :: (26, .v (.bool (((v2.2.1.length : Int) == 1)))) :: (27, .v (.bool (((v2.2.1.length : Int) == 1)))) :: (28, .v (.bool false)) :: (29, .v undef) :: (30, .v undef) :: (31, .v undef) :: (32, .v undef) :: (33, .v undef) :: (34, .v (.bool false)) :: (35, .v (.bool false)) :: (36, .v undef) :: (37, .v undef) :: (38, .v undef) :: (39, .v undef) :: (40, .v undef) :: (41, .v (.bool false)) :: (42, .v (.bool false)) :: (43, .v undef) :: (44, .v undef) :: (45, .v undef) :: (46, .v (.bool false)) :: (47, .v (.bool false)) :: (48, .v undef) :: (49, .v undef) :: (50, .v undef) :: (51, .v (.bool false)) :: (0, .v (.bool false)) :: [])) (init := [0, 1, 2, 3, 4]) (fin := [40]) (sps := (⟨[1], [], [5], [(.slot 17)]⟩ :: ⟨[5], [], [6], [(.slot 18)]⟩ :: ⟨[6], [], [7], [(.slot 19)]⟩ :: ⟨[7, 4], [], [8], [(.slot 20)]⟩ :: ⟨[7, 8], [], [9], [(.slot 21)]⟩ :: ⟨[7, 9], [], [10], [(.slot 22)]⟩ :: ⟨[10], [], [11], [(.slot 23)]⟩ :: ⟨[11, 3], [], [12], [(.slot 24)]⟩ :: ⟨[11, 12, 3], [], [13], [(.slot 25)]⟩ :: ⟨[11, 13], [], [14], [(.slot 26)]⟩ :: ⟨[11, 14], [], [15], [(.slot 27)]⟩ :: ⟨[15], [], [16], [(.slot 28)]⟩ :: ⟨[16], [], [17], [(.slot 29)]⟩ :: ⟨[16], [], [18], [(.slot 30)]⟩ :: ⟨[16], [], [19], [(.slot 31)]⟩ :: ⟨[16], [], [20], [(.slot 32)]⟩ :: ⟨[16], [], [21], [(.slot 33)]⟩ :: ⟨[16], [], [22], [(.slot 34)]⟩ :: ⟨[22], [], [23], [(.slot 35)]⟩ :: ⟨[23], [], [24], [(.slot 36)]⟩ :: ⟨[23], [], [25], [(.slot 37)]⟩ :: ⟨[23], [], [26], [(.slot 38)]⟩ :: ⟨[23], [], [27], [(.slot 39)]⟩ :: ⟨[23], [], [28], [(.slot 40)]⟩ :: ⟨[23], [], [29], [(.slot 41)]⟩ :: ⟨[29], [], [30], [(.slot 42)]⟩ :: ⟨[30], [], [31], [(.slot 43)]⟩ :: ⟨[30], [], [32], [(.slot 44)]⟩ :: ⟨[30], [], [33], [(.slot 45)]⟩ :: ⟨[30], [], [34], [(.slot 46)]⟩ :: ⟨[34], [], [35], [(.slot 47)]⟩ :: ⟨[35], [], [36], [(.slot 48)]⟩ :: ⟨[35], [], [37], [(.slot 49)]⟩ :: ⟨[35], [], [38], [(.slot 50)]⟩ :: ⟨[35], [], [39], [(.slot 51)]⟩ :: ⟨[39], [], [40], [(.slot 0)]⟩ :: [])) (es' := [(0, .v (.bool false))]) (by kernel_rfl) rfl rfl
       ⟨st_plain rfl (op_move _ _ _ _ rfl rfl),
       st_plain rfl (op_bin _ _ _ _ _ rfl rfl rfl),
       st_plain rfl (op_move _ _ _ _ (congrArg (fun b => AV.v (Value.bool b)) hg3_2) rfl),
       st_run 2 19 true rfl rfl rfl (List.Mem.head _) (op_move _ _ _ _ rfl rfl),
       st_run 2 19 true rfl rfl rfl (List.Mem.head _) (op_bin _ _ _ _ _ rfl rfl rfl),
       st_plain rfl (op_pick _ _ true _ rfl rfl),
       st_plain rfl (op_move _ _ _ _ (congrArg (fun b => AV.v (Value.bool b)) hg3_6) rfl),
       st_run 6 23 true rfl rfl rfl (List.Mem.head _) (op_move _ _ _ _ rfl rfl),
       st_run 6 23 true rfl rfl rfl (List.Mem.head _) (op_len_fr _ _ _ Try.underlying31 rfl (by decide) (gflat_len T_Frame.ilen _)),
       st_run 6 23 true rfl rfl rfl (List.Mem.head _) (op_bin _ _ _ _ _ rfl rfl rfl),
       st_plain rfl (op_pick _ _ true _ rfl rfl),
       st_plain rfl (op_move _ _ _ _ (congrArg (fun b => AV.v (Value.bool b)) hg3_11) rfl),
       st_skip 11 28 _ true rfl rfl rfl rfl (List.Mem.head _),
       st_skip 11 28 _ true rfl rfl rfl rfl (List.Mem.head _),
       st_skip 11 28 _ true rfl rfl rfl rfl (List.Mem.head _),
       st_skip 11 28 _ true rfl rfl rfl rfl (List.Mem.head _),
       st_skip 11 28 _ true rfl rfl rfl rfl (List.Mem.head _),
       st_plain rfl (op_pick _ _ false _ rfl rfl),
       st_plain rfl (op_move _ _ _ _ rfl rfl),
       st_skip 18 35 _ true rfl rfl rfl rfl (List.Mem.head _),
       st_skip 18 35 _ true rfl rfl rfl rfl (List.Mem.head _),
       st_skip 18 35 _ true rfl rfl rfl rfl (List.Mem.head _),
       st_skip 18 35 _ true rfl rfl rfl rfl (List.Mem.head _),
       st_skip 18 35 _ true rfl rfl rfl rfl (List.Mem.head _),
       st_plain rfl (op_pick _ _ false _ rfl rfl),
       st_plain rfl (op_move _ _ _ _ rfl rfl),
       st_skip 25 42 _ true rfl rfl rfl rfl (List.Mem.head _),
       st_skip 25 42 _ true rfl rfl rfl rfl (List.Mem.head _),
       st_skip 25 42 _ true rfl rfl rfl rfl (List.Mem.head _),
       st_plain rfl (op_pick _ _ false _ rfl rfl),
       st_plain rfl (op_move _ _ _ _ rfl rfl),
       st_skip 30 47 _ true rfl rfl rfl rfl (List.Mem.head _),
       st_skip 30 47 _ true rfl rfl rfl rfl (List.Mem.head _),
       st_skip 30 47 _ true rfl rfl rfl rfl (List.Mem.head _),
       st_plain rfl (op_pick _ _ false _ rfl rfl),
       st_plain rfl (op_assign _ _ _ _ rfl rfl),
       trivial⟩ ?_
      exact hl10 _ (Option.some.inj h).symm
    ·refine ht_seqR hn (El := (_ :: _ :: _ :: _ :: _ :: (17, .v (.int .i64 v1.2)) :: (18, .v (.bool (v1.2 == 0))) :: (19, .v (.bool true)) :: (20, .v (.int .i64 v2.2.2)) :: (21, .v (.bool (v2.2.2 == 0))) :: (22, .v (.bool (v2.2.2 == 0))) :: (23, .v (.bool false)) :: (24, .v undef) :: (25, .v undef) :: (26, .v undef) :: (27, .v (.bool false)) :: (28, .v (.bool false)) :: (29, .v undef) :: (30, .v undef) :: (31, .v undef) :: (32, .v undef) :: (33, .v undef) :: (34, .v (.bool false)) :: (35, .v (.bool false)) :: (36, .v undef) :: (37, .v undef) :: (38, .v undef) :: (39, .v undef) :: (40, .v undef) :: (41, .v (.bool false)) :: (42, .v (.bool false)) :: (43, .v undef) :: (44, .v undef) :: (45, .v undef) :: (46, .v (.bool false)) :: (47, .v (.bool false)) :: (48, .v undef) :: (49, .v undef) :: (50, .v undef) :: (51, .v (.bool false)) :: (0, .v (.bool false)) :: [])) (init := [0, 1, 2, 3, 4]) (fin := [40]) (sps := (⟨[1], [], [5], [(.slot 17)]⟩ :: ⟨[5], [], [6], [(.slot 18)]⟩ :: ⟨[6], [], [7], [(.slot 19)]⟩ :: ⟨[7, 4], [], [8], [(.slot 20)]⟩ :: ⟨[7, 8], [], [9], [(.slot 21)]⟩ :: ⟨[7, 9], [], [10], [(.slot 22)]⟩ :: ⟨[10], [], [11], [(.slot 23)]⟩ :: ⟨[11], [], [12], [(.slot 24)]⟩ :: ⟨[11], [], [13], [(.slot 25)]⟩ :: ⟨[11], [], [14], [(.slot 26)]⟩ :: ⟨[11], [], [15], [(.slot 27)]⟩ :: ⟨[15], [], [16], [(.slot 28)]⟩ :: ⟨[16], [], [17], [(.slot 29)]⟩ :: ⟨[16], [], [18], [(.slot 30)]⟩ :: ⟨[16], [], [19], [(.slot 31)]⟩ :: ⟨[16], [], [20], [(.slot 32)]⟩ :: ⟨[16], [], [21], [(.slot 33)]⟩ :: ⟨[16], [], [22], [(.slot 34)]⟩ :: ⟨[22], [], [23], [(.slot 35)]⟩ :: ⟨[23], [], [24], [(.slot 36)]⟩ :: ⟨[23], [], [25], [(.slot 37)]⟩ :: ⟨[23], [], [26], [(.slot 38)]⟩ :: ⟨[23], [], [27], [(.slot 39)]⟩ :: ⟨[23], [], [28], [(.slot 40)]⟩ :: ⟨[23], [], [29], [(.slot 41)]⟩ :: ⟨[29], [], [30], [(.slot 42)]⟩ :: ⟨[30], [], [31], [(.slot 43)]⟩ :: ⟨[30], [], [32], [(.slot 44)]⟩ :: ⟨[30], [], [33], [(.slot 45)]⟩ :: ⟨[30], [], [34], [(.slot 46)]⟩ :: ⟨[34], [], [35], [(.slot 47)]⟩ :: ⟨[35], [], [36], [(.slot 48)]⟩ :: ⟨[35], [], [37], [(.slot 49)]⟩ :: ⟨[35], [], [38], [(.slot 50)]⟩ :: ⟨[35], [], [39], [(.slot 51)]⟩ :: ⟨[39], [], [40], [(.slot 0)]⟩ :: [])) (es' := [(0, .v (.bool false))]) (by kernel_rfl) rfl rfl
      ⟨st_plain rfl (op_move _ _ _ _ rfl rfl),
      st_plain rfl (op_bin _ _ _ _ _ rfl rfl rfl),
      st_plain rfl (op_move _ _ _ _ (congrArg (fun b => AV.v (Value.bool b)) hg3_2) rfl),
      st_run 2 19 true rfl rfl rfl (List.Mem.head _) (op_move _ _ _ _ rfl rfl),
      st_run 2 19 true rfl rfl rfl (List.Mem.head _) (op_bin _ _ _ _ _ rfl rfl rfl),
      st_plain rfl (op_pick _ _ true _ rfl rfl),
      st_plain rfl (op_move _ _ _ _ (congrArg (fun b => AV.v (Value.bool b)) hg3_6) rfl),
      st_skip 6 23 _ true rfl rfl rfl rfl (List.Mem.head _),
      st_skip 6 23 _ true rfl rfl rfl rfl (List.Mem.head _),
      st_skip 6 23 _ true rfl rfl rfl rfl (List.Mem.head _),
      st_plain rfl (op_pick _ _ false _ rfl rfl),
      st_plain rfl (op_move _ _ _ _ rfl rfl),
      st_skip 11 28 _ true rfl rfl rfl rfl (List.Mem.head _),
      st_skip 11 28 _ true rfl rfl rfl rfl (List.Mem.head _),
      st_skip 11 28 _ true rfl rfl rfl rfl (List.Mem.head _),
      st_skip 11 28 _ true rfl rfl rfl rfl (List.Mem.head _),
      st_skip 11 28 _ true rfl rfl rfl rfl (List.Mem.head _),
      st_plain rfl (op_pick _ _ false _ rfl rfl),
      st_plain rfl (op_move _ _ _ _ rfl rfl),
      st_skip 18 35 _ true rfl rfl rfl rfl (List.Mem.head _),
      st_skip 18 35 _ true rfl rfl rfl rfl (List.Mem.head _),
      st_skip 18 35 _ true rfl rfl rfl rfl (List.Mem.head _),
      st_skip 18 35 _ true rfl rfl rfl rfl (List.Mem.head _),
      st_skip 18 35 _ true rfl rfl rfl rfl (List.Mem.head _),
      st_plain rfl (op_pick _ _ false _ rfl rfl),
      st_plain rfl (op_move _ _ _ _ rfl rfl),
      st_skip 25 42 _ true rfl rfl rfl rfl (List.Mem.head _),
      st_skip 25 42 _ true rfl rfl rfl rfl (List.Mem.head _),
      st_skip 25 42 _ true rfl rfl rfl rfl (List.Mem.head _),
      st_plain rfl (op_pick _ _ false _ rfl rfl),
      st_plain rfl (op_move _ _ _ _ rfl rfl),
      st_skip 30 47 _ true rfl rfl rfl rfl (List.Mem.head _),
      st_skip 30 47 _ true rfl rfl rfl rfl (List.Mem.head _),
      st_skip 30 47 _ true rfl rfl rfl rfl (List.Mem.head _),
      st_plain rfl (op_pick _ _ false _ rfl rfl),
      st_plain rfl (op_assign _ _ _ _ rfl rfl),
      trivial⟩ ?_
     exact hl10 _ (Option.some.inj h).symm
   ·refine ht_seqR hn (El := (_ :: _ :: _ :: _ :: _ :: (17, .v (.int .i64 v1.2)) :: (18, .v (.bool (v1.2 == 0))) :: (19, .v (.bool false)) :: (20, .v undef) :: (21, .v undef) :: (22, .v (.bool false)) :: (23, .v (.bool false)) :: (24, .v undef) :: (25, .v undef) :: (26, .v undef) :: (27, .v (.bool false)) :: (28, .v (.bool false)) :: (29, .v undef) :: (30, .v undef) :: (31, .v undef) :: (32, .v undef) :: (33, .v undef) :: (34, .v (.bool false)) :: (35, .v (.bool false)) :: (36, .v undef) :: (37, .v undef) :: (38, .v undef) :: (39, .v undef) :: (40, .v undef) :: (41, .v (.bool false)) :: (42, .v (.bool false)) :: (43, .v undef) :: (44, .v undef) :: (45, .v undef) :: (46, .v (.bool false)) :: (47, .v (.bool false)) :: (48, .v undef) :: (49, .v undef) :: (50, .v undef) :: (51, .v (.bool false)) :: (0, .v (.bool false)) :: [])) (init := [0, 1, 2, 3, 4]) (fin := [40]) (sps := (⟨[1], [], [5], [(.slot 17)]⟩ :: ⟨[5], [], [6], [(.slot 18)]⟩ :: ⟨[6], [], [7], [(.slot 19)]⟩ :: ⟨[7], [], [8], [(.slot 20)]⟩ :: ⟨[7], [], [9], [(.slot 21)]⟩ :: ⟨[7], [], [10], [(.slot 22)]⟩ :: ⟨[10], [], [11], [(.slot 23)]⟩ :: ⟨[11], [], [12], [(.slot 24)]⟩ :: ⟨[11], [], [13], [(.slot 25)]⟩ :: ⟨[11], [], [14], [(.slot 26)]⟩ :: ⟨[11], [], [15], [(.slot 27)]⟩ :: ⟨[15], [], [16], [(.slot 28)]⟩ :: ⟨[16], [], [17], [(.slot 29)]⟩ :: ⟨[16], [], [18], [(.slot 30)]⟩ :: ⟨[16], [], [19], [(.slot 31)]⟩ :: ⟨[16], [], [20], [(.slot 32)]⟩ :: ⟨[16], [], [21], [(.slot 33)]⟩ :: ⟨[16], [], [22], [(.slot 34)]⟩ :: ⟨[22], [], [23], [(.slot 35)]⟩ :: ⟨[23], [], [24], [(.slot 36)]⟩ :: ⟨[23], [], [25], [(.slot 37)]⟩ :: ⟨[23], [], [26], [(.slot 38)]⟩ :: ⟨[23], [], [27], [(.slot 39)]⟩ :: ⟨[23], [], [28], [(.slot 40)]⟩ :: ⟨[23], [], [29], [(.slot 41)]⟩ :: ⟨[29], [], [30], [(.slot 42)]⟩ :: ⟨[30], [], [31], [(.slot 43)]⟩ :: ⟨[30], [], [32], [(.slot 44)]⟩ :: ⟨[30], [], [33], [(.slot 45)]⟩ :: ⟨[30], [], [34], [(.slot 46)]⟩ :: ⟨[34], [], [35], [(.slot 47)]⟩ :: ⟨[35], [], [36], [(.slot 48)]⟩ :: ⟨[35], [], [37], [(.slot 49)]⟩ :: ⟨[35], [], [38], [(.slot 50)]⟩ :: ⟨[35], [], [39], [(.slot 51)]⟩ :: ⟨[39], [], [40], [(.slot 0)]⟩ :: [])) (es' := [(0, .v (.bool false))]) (by kernel_rfl) rfl rfl
     ⟨st_plain rfl (op_move _ _ _ _ rfl rfl),
     st_plain rfl (op_bin _ _ _ _ _ rfl rfl rfl),
     st_plain rfl (op_move _ _ _ _ (congrArg (fun b => AV.v (Value.bool b)) hg3_2) rfl),
     st_skip 2 19 _ true rfl rfl rfl rfl (List.Mem.head _),
     st_skip 2 19 _ true rfl rfl rfl rfl (List.Mem.head _),
     st_plain rfl (op_pick _ _ false _ rfl rfl),
     st_plain rfl (op_move _ _ _ _ rfl rfl),
     st_skip 6 23 _ true rfl rfl rfl rfl (List.Mem.head _),
     st_skip 6 23 _ true rfl rfl rfl rfl (List.Mem.head _),
     st_skip 6 23 _ true rfl rfl rfl rfl (List.Mem.head _),
     st_plain rfl (op_pick _ _ false _ rfl rfl),
     st_plain rfl (op_move _ _ _ _ rfl rfl),
     st_skip 11 28 _ true rfl rfl rfl rfl (List.Mem.head _),
     st_skip 11 28 _ true rfl rfl rfl rfl (List.Mem.head _),
     st_skip 11 28 _ true rfl rfl rfl rfl (List.Mem.head _),
     st_skip 11 28 _ true rfl rfl rfl rfl (List.Mem.head _),
     st_skip 11 28 _ true rfl rfl rfl rfl (List.Mem.head _),
     st_plain rfl (op_pick _ _ false _ rfl rfl),
     st_plain rfl (op_move _ _ _ _ rfl rfl),
     st_skip 18 35 _ true rfl rfl rfl rfl (List.Mem.head _),
     st_skip 18 35 _ true rfl rfl rfl rfl (List.Mem.head _),
     st_skip 18 35 _ true rfl rfl rfl rfl (List.Mem.head _),
     st_skip 18 35 _ true rfl rfl rfl rfl (List.Mem.head _),
     st_skip 18 35 _ true rfl rfl rfl rfl (List.Mem.head _),
     st_plain rfl (op_pick _ _ false _ rfl rfl),
     st_plain rfl (op_move _ _ _ _ rfl rfl),
     st_skip 25 42 _ true rfl rfl rfl rfl (List.Mem.head _),
     st_skip 25 42 _ true rfl rfl rfl rfl (List.Mem.head _),
     st_skip 25 42 _ true rfl rfl rfl rfl (List.Mem.head _),
     st_plain rfl (op_pick _ _ false _ rfl rfl),
     st_plain rfl (op_move _ _ _ _ rfl rfl),
     st_skip 30 47 _ true rfl rfl rfl rfl (List.Mem.head _),
     st_skip 30 47 _ true rfl rfl rfl rfl (List.Mem.head _),
     st_skip 30 47 _ true rfl rfl rfl rfl (List.Mem.head _),
     st_plain rfl (op_pick _ _ false _ rfl rfl),
     st_plain rfl (op_assign _ _ _ _ rfl rfl),
     trivial⟩ ?_
    exact hl10 _ (Option.some.inj h).symm

set_option maxHeartbeats 1000000 in
theorem ok_wherrykeep_Bytes (a : (List Int)) (b : (List Int)) (r : Bool) (h : Sh.wherrykeep_Bytes a b = some r) : FnOK Try.prog 28 [.fl .shr 1 (List.map (Value.int .u8) a), .fl .shr 1 (List.map (Value.int .u8) b)] (.v (.bool r)) := by
  unfold Sh.wherrykeep_Bytes at h
  refine fn_ok Try.func28 rfl (Nat.le_of_ble_eq_true rfl) rfl rfl fun g0 hn hio => ?_
  refine ht_seq ?_
  refine ht_seqR hn (El := [_, _, (4, .v (.bool false))]) (init := [0, 1]) (fin := [0, 1]) (sps := [⟨[], [], [2], [(.slot 4)]⟩]) (es' := [(_, _), (_, _)]) (by kernel_rfl) rfl rfl
   ⟨st_plain rfl (op_assign _ _ _ _ rfl rfl),
   trivial⟩ ?_
  refine pt_then ?_
  refine ht_seq ?_
  refine ht_seq ?_
  refine ht_seqR hn (El := [_, _, (6, .fl .shr 1 (List.map (Value.int .u8) a)), (7, .v (.int .i64 (a.length : Int))), (8, .fl .shr 1 (List.map (Value.int .u8) b)), (9, .v (.int .i64 (b.length : Int))), (10, .v (.bool (((a.length : Int) != (b.length : Int)))))]) (init := [0, 1]) (fin := [0, 1, 6]) (sps := [⟨[0], [], [2], [(.slot 6)]⟩, ⟨[2], [], [3], [(.slot 7)]⟩, ⟨[1], [], [4], [(.slot 8)]⟩, ⟨[4], [], [5], [(.slot 9)]⟩, ⟨[3, 5], [], [6], [(.slot 10)]⟩]) (es' := [(_, _), (_, _), (10, .v (.bool (((a.length : Int) != (b.length : Int)))))]) (by kernel_rfl) rfl rfl
   ⟨st_plain rfl (op_move _ _ _ _ rfl rfl),
   st_plain rfl (op_len_fl _ _ _ Try.underlying22 rfl (by decide) (map_len _)),
   st_plain rfl (op_move _ _ _ _ rfl rfl),
   st_plain rfl (op_len_fl _ _ _ Try.underlying22 rfl (by decide) (map_len _)),
   st_plain rfl (op_bin _ _ _ _ _ rfl rfl rfl),
   trivial⟩ ?_
  refine pt_then ?_
  refine ht_cond _ rfl (fun hb1 => ?_) (fun hb1 => ?_)
  ·have h := cond_t hb1 h
   refine ht_seq ?_
   refine ht_seqR hn (El := [_, _, _, (4, .v (.bool false))]) (init := [0, 1, 2]) (fin := [3]) (sps := [⟨[], [], [3], [(.slot 4)]⟩]) (es' := [(4, .v (.bool false))]) (by kernel_rfl) rfl rfl
    ⟨st_plain rfl (op_assign _ _ _ _ rfl rfl),
    trivial⟩ ?_
   refine pt_then ?_
   refine ht_ret ?_
   refine pt_r_then ?_
   obtain rfl := Option.some.inj h
   exact pt_ret hio rfl (.tmp _ _ .nil) rfl rfl
  ·have h := cond_f hb1 h
   refine ht_skip ?_
   refine pt_then ?_
   refine ht_seq ?_
   refine ht_seq ?_
   refine ht_seqR hn (El := [_, _, _, (5, .v (.int .i64 0))]) (init := [0, 1, 2]) (fin := [0, 1, 3]) (sps := [⟨[], [], [3], [(.slot 5)]⟩]) (es' := [(_, _), (_, _), (5, .v (.int .i64 0))]) (by kernel_rfl) rfl rfl
    ⟨st_plain rfl (op_assign _ _ _ _ rfl rfl),
    trivial⟩ ?_
   refine pt_then ?_
   refine ht_loopS h (fun (s12 : Int) => [(0, .fl .shr 1 (List.map (Value.int .u8) a)), (1, .fl .shr 1 (List.map (Value.int .u8) b)), (5, .v (.int .i64 s12))]) (fun (() : Unit) => []) ?_ ?_
   ·rintro ⟨⟩ h
    refine pt_then ?_
    refine ht_seq ?_
    refine ht_seqR hn (El := [(4, .v (.bool true))]) (init := []) (fin := [0]) (sps := [⟨[], [], [0], [(.slot 4)]⟩]) (es' := [(4, .v (.bool true))]) (by kernel_rfl) rfl rfl
     ⟨st_plain rfl (op_assign _ _ _ _ rfl rfl),
     trivial⟩ ?_
    refine pt_then ?_
    refine ht_ret ?_
    obtain rfl := Option.some.inj h
    exact pt_ret hio rfl (.tmp _ _ .nil) rfl rfl
   ·rintro u15 hl16 hr17 s12 rr20 h ho18
    refine ht_seq ?_
    refine ht_seq ?_
    refine ht_seqR hn (El := [_, _, _, (11, .v (.int .i64 s12)), (12, .fl .shr 1 (List.map (Value.int .u8) a)), (13, .v (.int .i64 (a.length : Int))), (14, .v (.bool ((decide (s12 < (a.length : Int))))))]) (init := [0, 1, 2]) (fin := [0, 1, 2, 6]) (sps := [⟨[2], [], [3], [(.slot 11)]⟩, ⟨[0], [], [4], [(.slot 12)]⟩, ⟨[4], [], [5], [(.slot 13)]⟩, ⟨[3, 5], [], [6], [(.slot 14)]⟩]) (es' := [(_, _), (_, _), (_, _), (14, .v (.bool ((decide (s12 < (a.length : Int))))))]) (by kernel_rfl) rfl rfl
     ⟨st_plain rfl (op_move _ _ _ _ rfl rfl),
     st_plain rfl (op_move _ _ _ _ rfl rfl),
     st_plain rfl (op_len_fl _ _ _ Try.underlying22 rfl (by decide) (map_len _)),
     st_plain rfl (op_bin _ _ _ _ _ rfl rfl rfl),
     trivial⟩ ?_
    refine pt_then ?_
    refine ht_cond _ rfl (fun hb21 => ?_) (fun hb21 => ?_)
    ·have h := cond_t hb21 h
     refine ht_skip ?_
     refine pt_then ?_
     refine ht_seq ?_
     refine ht_block ?_
     refine ht_seq ?_
     obtain ⟨v3, hv3, h⟩ := bind_some h
     obtain ⟨v4, hv4, h⟩ := bind_some h
     obtain ⟨v5, hv5, h⟩ := bind_some h
     obtain ⟨v6, hv6, h⟩ := bind_some h
     refine ht_anyR (by kernel_rfl) hn (El := [_, _, _, _, (17, .fl .shr 1 (List.map (Value.int .u8) a)), (18, .v (.int .i64 s12)), (19, .eref (.slot 17) (v3 * 1)), (20, .v (.int .u8 v4)), (21, .fl .shr 1 (List.map (Value.int .u8) b)), (22, .v (.int .i64 s12)), (23, .eref (.slot 21) (v5 * 1)), (24, .v (.int .u8 v6)), (25, .v (.bool (v4 != v6)))]) (init := [0, 1, 2, 3]) (fin := [0, 1, 2, 12]) (sps := [⟨[0], [], [4], [(.slot 17)]⟩, ⟨[2], [], [5], [(.slot 18)]⟩, ⟨[4, 5], [], [6], [(.slot 19)]⟩, ⟨[6, 4], [], [7], [(.slot 20)]⟩, ⟨[1], [], [8], [(.slot 21)]⟩, ⟨[2], [], [9], [(.slot 22)]⟩, ⟨[8, 9], [], [10], [(.slot 23)]⟩, ⟨[10, 8], [], [11], [(.slot 24)]⟩, ⟨[7, 11], [], [12], [(.slot 25)]⟩]) (es' := [(_, _), (_, _), (_, _), (25, .v (.bool (v4 != v6)))]) (by kernel_rfl) rfl rfl
      ⟨st_plain rfl (op_move _ _ _ _ rfl rfl),
      st_plain rfl (op_move _ _ _ _ rfl rfl),
      st_plain rfl (op_ix _ _ _ _ _ _ _ _ Try.underlying22 sz5 (by decide) rfl rfl rfl (ix_ok hv3).1 (map_lt (ix_ok hv3).2) rfl),
      st_plain rfl (op_load_e _ _ _ _ _ _ Try.underlying5 rfl rfl rfl (map_get hv4)),
      st_plain rfl (op_move _ _ _ _ rfl rfl),
      st_plain rfl (op_move _ _ _ _ rfl rfl),
      st_plain rfl (op_ix _ _ _ _ _ _ _ _ Try.underlying22 sz5 (by decide) rfl rfl rfl (ix_ok hv5).1 (map_lt (ix_ok hv5).2) rfl),
      st_plain rfl (op_load_e _ _ _ _ _ _ Try.underlying5 rfl rfl rfl (map_get hv6)),
      st_plain rfl (op_bin _ _ _ _ _ rfl rfl rfl),
      trivial⟩ ?_
     refine pt_then ?_
     refine ht_cond _ rfl (fun hb22 => ?_) (fun hb22 => ?_)
     ·have h := cond_t hb22 h
      refine ht_seq ?_
      refine ht_seqR hn (El := [_, _, _, _, (4, .v (.bool false))]) (init := [0, 1, 2, 3]) (fin := [4]) (sps := [⟨[], [], [4], [(.slot 4)]⟩]) (es' := [(4, .v (.bool false))]) (by kernel_rfl) rfl rfl
       ⟨st_plain rfl (op_assign _ _ _ _ rfl rfl),
       trivial⟩ ?_
      refine pt_then ?_
      refine ht_ret ?_
      refine pt_r_in ?_
      refine pt_r_then ?_
      refine pt_r_then ?_
      refine pt_r_in ?_
      refine pt_r_then ?_
      have h := hr17 _ (ho18 _ (Option.some.inj h).symm).symm
      obtain rfl := Option.some.inj h
      exact pt_ret hio rfl (.tmp _ _ .nil) rfl rfl
     ·have h := cond_f hb22 h
      refine ht_skip ?_
      refine pt_inb ?_
      refine pt_then ?_
      obtain ⟨v8, hv8, h⟩ := bind_some h
      refine ht_seqR hn (El := [_, _, _, _, (15, .v (.int .i64 s12)), (16, .v (.int .i64 v8)), (5, .v (.int .i64 v8))]) (init := [0, 1, 2, 3]) (fin := [0, 1, 6]) (sps := [⟨[2], [], [4], [(.slot 15)]⟩, ⟨[4], [], [5], [(.slot 16)]⟩, ⟨[5], [2], [6], [(.slot 5)]⟩]) (es' := [(_, _), (_, _), (5, .v (.int .i64 v8))]) (by kernel_rfl) rfl rfl
       ⟨st_plain rfl (op_move _ _ _ _ rfl rfl),
       st_plain rfl (op_bin _ _ _ _ _ rfl rfl (ibind (f := Value.int .i64) (Option.some.inj hv8))),
       st_plain rfl (LOp.drop [_] (op_assign _ _ _ _ rfl rfl)),
       trivial⟩ ?_
      exact pt_next _ (Option.some.inj h).symm rfl
    ·have h := cond_f hb21 h
     refine ht_exit ?_
     refine pt_x_then ?_
     refine pt_x_then ?_
     refine pt_x_in ?_
     refine pt_pick [] (by kernel_rfl) (es' := []) rfl ?_
     exact hl16 _ (ho18 _ (Option.some.inj h).symm).symm

set_option maxHeartbeats 1000000 in
theorem ok_wherrykeep_Frame (a : T_Frame) (b : T_Frame) (r : Bool) (h : Sh.wherrykeep_Frame a b = some r) : FnOK Try.prog 27 [.agg [.v (.int .i64 a.Kind), .v (.int .i64 a.Number), .v (.int .i64 a.Offset), .v (.int .i64 a.Seq), .fl .shr 1 (List.map (Value.int .u8) a.Data)], .agg [.v (.int .i64 b.Kind), .v (.int .i64 b.Number), .v (.int .i64 b.Offset), .v (.int .i64 b.Seq), .fl .shr 1 (List.map (Value.int .u8) b.Data)]] (.v (.bool r)) := by
  unfold Sh.wherrykeep_Frame at h
  refine fn_ok Try.func27 rfl (Nat.le_of_ble_eq_true rfl) rfl rfl fun g0 hn hio => ?_
  refine ht_seq ?_
  refine ht_seqR hn (El := [_, _, (2, .box 26 [.v (.int .i64 a.Kind), .v (.int .i64 a.Number), .v (.int .i64 a.Offset), .v (.int .i64 a.Seq), .fl .shr 1 (List.map (Value.int .u8) a.Data)]), (3, .box 26 [.v (.int .i64 b.Kind), .v (.int .i64 b.Number), .v (.int .i64 b.Offset), .v (.int .i64 b.Seq), .fl .shr 1 (List.map (Value.int .u8) b.Data)]), (4, .v (.bool false))]) (init := [0, 1]) (fin := [2, 3]) (sps := [⟨[0], [], [2], [(.slot 2)]⟩, ⟨[1], [], [3], [(.slot 3)]⟩, ⟨[], [], [4], [(.slot 4)]⟩]) (es' := [(2, .box 26 [.v (.int .i64 a.Kind), .v (.int .i64 a.Number), .v (.int .i64 a.Offset), .v (.int .i64 a.Seq), .fl .shr 1 (List.map (Value.int .u8) a.Data)]), (3, .box 26 [.v (.int .i64 b.Kind), .v (.int .i64 b.Number), .v (.int .i64 b.Offset), .v (.int .i64 b.Seq), .fl .shr 1 (List.map (Value.int .u8) b.Data)])]) (by kernel_rfl) rfl rfl
   ⟨st_plain rfl (op_box _ _ _ _ rfl rfl rfl),
   st_plain rfl (op_box _ _ _ _ rfl rfl rfl),
   st_plain rfl (op_assign _ _ _ _ rfl rfl),
   trivial⟩ ?_
  refine pt_then ?_
  refine ht_seq ?_
  refine ht_joinS h (fun (s2 : Bool) => [(4, .v (.bool s2))]) ?_ ?_
  ·rintro s2 h
   refine pt_then ?_
   refine ht_ret ?_
   obtain rfl := Option.some.inj h
   exact pt_ret hio rfl (.tmp _ _ .nil) rfl rfl
  ·intro u3 h hl4 hr5
   refine cond_some h (fun hg1_5 h => ?_) (fun hg1_5 h => ?_)
   ·refine cond_some h (fun hg1_12 h => ?_) (fun hg1_12 h => ?_)
    ·refine cond_some h (fun hg1_19 h => ?_) (fun hg1_19 h => ?_)
     ·refine cond_some h (fun hg1_26 h => ?_) (fun hg1_26 h => ?_)
      ·obtain ⟨v1, hv1, h⟩ := bind_some h
       refine ht_seqR hn (El := (_ :: _ :: (5, .ptr 2 0) :: (6, .v (.int .i64 a.Kind)) :: (7, .ptr 3 0) :: (8, .v (.int .i64 b.Kind)) :: (9, .v (.bool (a.Kind == b.Kind))) :: (10, .v (.bool true)) :: (11, .ptr 2 1) :: (12, .v (.int .i64 a.Number)) :: (13, .ptr 3 1) :: (14, .v (.int .i64 b.Number)) :: (15, .v (.bool (a.Number == b.Number))) :: (16, .v (.bool (a.Number == b.Number))) :: (17, .v (.bool true)) :: (18, .ptr 2 2) :: (19, .v (.int .i64 a.Offset)) :: (20, .ptr 3 2) :: (21, .v (.int .i64 b.Offset)) :: (22, .v (.bool (a.Offset == b.Offset))) :: (23, .v (.bool (a.Offset == b.Offset))) :: (24, .v (.bool true)) :: (25, .ptr 2 3) :: (26, .v (.int .i64 a.Seq)) :: (27, .ptr 3 3) :: (28, .v (.int .i64 b.Seq)) :: (29, .v (.bool (a.Seq == b.Seq))) :: (30, .v (.bool (a.Seq == b.Seq))) :: (31, .v (.bool true)) :: (32, .ptr 2 4) :: (33, .fl .shr 1 (List.map (Value.int .u8) a.Data)) :: (34, .ptr 3 4) :: (35, .fl .shr 1 (List.map (Value.int .u8) b.Data)) :: (36, .v (.bool v1)) :: (37, .v (.bool v1)) :: (4, .v (.bool v1)) :: [])) (init := [0, 1]) (fin := [35]) (sps := (⟨[0], [], [2], [(.slot 5)]⟩ :: ⟨[2, 0], [], [3], [(.slot 6)]⟩ :: ⟨[1], [], [4], [(.slot 7)]⟩ :: ⟨[4, 1], [], [5], [(.slot 8)]⟩ :: ⟨[3, 5], [], [6], [(.slot 9)]⟩ :: ⟨[6], [], [7], [(.slot 10)]⟩ :: ⟨[7, 0], [], [8], [(.slot 11)]⟩ :: ⟨[7, 8, 0], [], [9], [(.slot 12)]⟩ :: ⟨[7, 1], [], [10], [(.slot 13)]⟩ :: ⟨[7, 10, 1], [], [11], [(.slot 14)]⟩ :: ⟨[7, 9, 11], [], [12], [(.slot 15)]⟩ :: ⟨[7, 12], [], [13], [(.slot 16)]⟩ :: ⟨[13], [], [14], [(.slot 17)]⟩ :: ⟨[14, 0], [], [15], [(.slot 18)]⟩ :: ⟨[14, 15, 0], [], [16], [(.slot 19)]⟩ :: ⟨[14, 1], [], [17], [(.slot 20)]⟩ :: ⟨[14, 17, 1], [], [18], [(.slot 21)]⟩ :: ⟨[14, 16, 18], [], [19], [(.slot 22)]⟩ :: ⟨[14, 19], [], [20], [(.slot 23)]⟩ :: ⟨[20], [], [21], [(.slot 24)]⟩ :: ⟨[21, 0], [], [22], [(.slot 25)]⟩ :: ⟨[21, 22, 0], [], [23], [(.slot 26)]⟩ :: ⟨[21, 1], [], [24], [(.slot 27)]⟩ :: ⟨[21, 24, 1], [], [25], [(.slot 28)]⟩ :: ⟨[21, 23, 25], [], [26], [(.slot 29)]⟩ :: ⟨[21, 26], [], [27], [(.slot 30)]⟩ :: ⟨[27], [], [28], [(.slot 31)]⟩ :: ⟨[28, 0], [], [29], [(.slot 32)]⟩ :: ⟨[28, 29, 0], [], [30], [(.slot 33)]⟩ :: ⟨[28, 1], [], [31], [(.slot 34)]⟩ :: ⟨[28, 31, 1], [], [32], [(.slot 35)]⟩ :: ⟨[28, 30, 32], [], [33], [(.slot 36)]⟩ :: ⟨[28, 33], [], [34], [(.slot 37)]⟩ :: ⟨[34], [], [35], [(.slot 4)]⟩ :: [])) (es' := [(4, .v (.bool v1))]) (by kernel_rfl) rfl rfl
        ⟨st_plain rfl (op_fieldAddr _ _ _ _ 2 0 _ Try.underlying26 rfl sz3 rfl rfl (by decide)),
        st_plain rfl (op_load _ _ _ _ _ _ Try.underlying3 rfl rfl rfl (Nat.le_of_ble_eq_true rfl) rfl rfl rfl),
        st_plain rfl (op_fieldAddr _ _ _ _ 3 0 _ Try.underlying26 rfl sz3 rfl rfl (by decide)),
        st_plain rfl (op_load _ _ _ _ _ _ Try.underlying3 rfl rfl rfl (Nat.le_of_ble_eq_true rfl) rfl rfl rfl),
        st_plain rfl (op_bin _ _ _ _ _ rfl rfl rfl),
        st_plain rfl (op_move _ _ _ _ (congrArg (fun b => AV.v (Value.bool b)) hg1_5) rfl),
        st_run 5 10 true rfl rfl rfl (List.Mem.head _) (op_fieldAddr _ _ _ _ 2 0 _ Try.underlying26 rfl sz3 rfl rfl (by decide)),
        st_run 5 10 true rfl rfl rfl (List.Mem.head _) (op_load _ _ _ _ _ _ Try.underlying3 rfl rfl rfl (Nat.le_of_ble_eq_true rfl) rfl rfl rfl),
        st_run 5 10 true rfl rfl rfl (List.Mem.head _) (op_fieldAddr _ _ _ _ 3 0 _ Try.underlying26 rfl sz3 rfl rfl (by decide)),
        st_run 5 10 true rfl rfl rfl (List.Mem.head _) (op_load _ _ _ _ _ _ Try.underlying3 rfl rfl rfl (Nat.le_of_ble_eq_true rfl) rfl rfl rfl),
        st_run 5 10 true rfl rfl rfl (List.Mem.head _) (op_bin _ _ _ _ _ rfl rfl rfl),
        st_plain rfl (op_pick _ _ true _ rfl rfl),
        st_plain rfl (op_move _ _ _ _ (congrArg (fun b => AV.v (Value.bool b)) hg1_12) rfl),
        st_run 12 17 true rfl rfl rfl (List.Mem.head _) (op_fieldAddr _ _ _ _ 2 0 _ Try.underlying26 rfl sz3 rfl rfl (by decide)),
        st_run 12 17 true rfl rfl rfl (List.Mem.head _) (op_load _ _ _ _ _ _ Try.underlying3 rfl rfl rfl (Nat.le_of_ble_eq_true rfl) rfl rfl rfl),
        st_run 12 17 true rfl rfl rfl (List.Mem.head _) (op_fieldAddr _ _ _ _ 3 0 _ Try.underlying26 rfl sz3 rfl rfl (by decide)),
        st_run 12 17 true rfl rfl rfl (List.Mem.head _) (op_load _ _ _ _ _ _ Try.underlying3 rfl rfl rfl (Nat.le_of_ble_eq_true rfl) rfl rfl rfl),
        st_run 12 17 true rfl rfl rfl (List.Mem.head _) (op_bin _ _ _ _ _ rfl rfl rfl),
        st_plain rfl (op_pick _ _ true _ rfl rfl),
        st_plain rfl (op_move _ _ _ _ (congrArg (fun b => AV.v (Value.bool b)) hg1_19) rfl),
        st_run 19 24 true rfl rfl rfl (List.Mem.head _) (op_fieldAddr _ _ _ _ 2 0 _ Try.underlying26 rfl sz3 rfl rfl (by decide)),
        st_run 19 24 true rfl rfl rfl (List.Mem.head _) (op_load _ _ _ _ _ _ Try.underlying3 rfl rfl rfl (Nat.le_of_ble_eq_true rfl) rfl rfl rfl),
        st_run 19 24 true rfl rfl rfl (List.Mem.head _) (op_fieldAddr _ _ _ _ 3 0 _ Try.underlying26 rfl sz3 rfl rfl (by decide)),
        st_run 19 24 true rfl rfl rfl (List.Mem.head _) (op_load _ _ _ _ _ _ Try.underlying3 rfl rfl rfl (Nat.le_of_ble_eq_true rfl) rfl rfl rfl),
        st_run 19 24 true rfl rfl rfl (List.Mem.head _) (op_bin _ _ _ _ _ rfl rfl rfl),
        st_plain rfl (op_pick _ _ true _ rfl rfl),
        st_plain rfl (op_move _ _ _ _ (congrArg (fun b => AV.v (Value.bool b)) hg1_26) rfl),
        st_run 26 31 true rfl rfl rfl (List.Mem.head _) (op_fieldAddr _ _ _ _ 2 0 _ Try.underlying26 rfl sz22 rfl rfl (by decide)),
        st_run 26 31 true rfl rfl rfl (List.Mem.head _) (op_load _ _ _ _ _ _ Try.underlying22 rfl rfl rfl (Nat.le_of_ble_eq_true rfl) rfl rfl rfl),
        st_run 26 31 true rfl rfl rfl (List.Mem.head _) (op_fieldAddr _ _ _ _ 3 0 _ Try.underlying26 rfl sz22 rfl rfl (by decide)),
        st_run 26 31 true rfl rfl rfl (List.Mem.head _) (op_load _ _ _ _ _ _ Try.underlying22 rfl rfl rfl (Nat.le_of_ble_eq_true rfl) rfl rfl rfl),
        st_run 26 31 true rfl rfl rfl (List.Mem.head _) (op_call _ _ 28 _ _ rfl Try.call28 rfl (ok_wherrykeep_Bytes a.Data b.Data _ hv1) rfl rfl),
        st_plain rfl (op_pick _ _ true _ rfl rfl),
        st_plain rfl (op_assign _ _ _ _ rfl rfl),
        trivial⟩ ?_
       exact hl4 _ (Option.some.inj h).symm
      ·refine ht_seqR hn (El := (_ :: _ :: (5, .ptr 2 0) :: (6, .v (.int .i64 a.Kind)) :: (7, .ptr 3 0) :: (8, .v (.int .i64 b.Kind)) :: (9, .v (.bool (a.Kind == b.Kind))) :: (10, .v (.bool true)) :: (11, .ptr 2 1) :: (12, .v (.int .i64 a.Number)) :: (13, .ptr 3 1) :: (14, .v (.int .i64 b.Number)) :: (15, .v (.bool (a.Number == b.Number))) :: (16, .v (.bool (a.Number == b.Number))) :: (17, .v (.bool true)) :: (18, .ptr 2 2) :: (19, .v (.int .i64 a.Offset)) :: (20, .ptr 3 2) :: (21, .v (.int .i64 b.Offset)) :: (22, .v (.bool (a.Offset == b.Offset))) :: (23, .v (.bool (a.Offset == b.Offset))) :: (24, .v (.bool true)) :: (25, .ptr 2 3) :: (26, .v (.int .i64 a.Seq)) :: (27, .ptr 3 3) :: (28, .v (.int .i64 b.Seq)) :: (29, .v (.bool (a.Seq == b.Seq))) :: (30, .v (.bool (a.Seq == b.Seq))) :: (31, .v (.bool false)) :: (32, .v undef) :: (33, .v undef) :: (34, .v undef) :: (35, .v undef) :: (36, .v undef) :: (37, .v (.bool false)) :: (4, .v (.bool false)) :: [])) (init := [0, 1]) (fin := [35]) (sps := (⟨[0], [], [2], [(.slot 5)]⟩ :: ⟨[2, 0], [], [3], [(.slot 6)]⟩ :: ⟨[1], [], [4], [(.slot 7)]⟩ :: ⟨[4, 1], [], [5], [(.slot 8)]⟩ :: ⟨[3, 5], [], [6], [(.slot 9)]⟩ :: ⟨[6], [], [7], [(.slot 10)]⟩ :: ⟨[7, 0], [], [8], [(.slot 11)]⟩ :: ⟨[7, 8, 0], [], [9], [(.slot 12)]⟩ :: ⟨[7, 1], [], [10], [(.slot 13)]⟩ :: ⟨[7, 10, 1], [], [11], [(.slot 14)]⟩ :: ⟨[7, 9, 11], [], [12], [(.slot 15)]⟩ :: ⟨[7, 12], [], [13], [(.slot 16)]⟩ :: ⟨[13], [], [14], [(.slot 17)]⟩ :: ⟨[14, 0], [], [15], [(.slot 18)]⟩ :: ⟨[14, 15, 0], [], [16], [(.slot 19)]⟩ :: ⟨[14, 1], [], [17], [(.slot 20)]⟩ :: ⟨[14, 17, 1], [], [18], [(.slot 21)]⟩ :: ⟨[14, 16, 18], [], [19], [(.slot 22)]⟩ :: ⟨[14, 19], [], [20], [(.slot 23)]⟩ :: ⟨[20], [], [21], [(.slot 24)]⟩ :: ⟨[21, 0], [], [22], [(.slot 25)]⟩ :: ⟨[21, 22, 0], [], [23], [(.slot 26)]⟩ :: ⟨[21, 1], [], [24], [(.slot 27)]⟩ :: ⟨[21, 24, 1], [], [25], [(.slot 28)]⟩ :: ⟨[21, 23, 25], [], [26], [(.slot 29)]⟩ :: ⟨[21, 26], [], [27], [(.slot 30)]⟩ :: ⟨[27], [], [28], [(.slot 31)]⟩ :: ⟨[28], [], [29], [(.slot 32)]⟩ :: ⟨[28], [], [30], [(.slot 33)]⟩ :: ⟨[28], [], [31], [(.slot 34)]⟩ :: ⟨[28], [], [32], [(.slot 35)]⟩ :: ⟨[28], [], [33], [(.slot 36)]⟩ :: ⟨[28], [], [34], [(.slot 37)]⟩ :: ⟨[34], [], [35], [(.slot 4)]⟩ :: [])) (es' := [(4, .v (.bool false))]) (by kernel_rfl) rfl rfl
        ⟨st_plain rfl (op_fieldAddr _ _ _ _ 2 0 _ Try.underlying26 rfl sz3 rfl rfl (by decide)),
        st_plain rfl (op_load _ _ _ _ _ _ Try.underlying3 rfl rfl rfl (Nat.le_of_ble_eq_true rfl) rfl rfl rfl),
        st_plain rfl (op_fieldAddr _ _ _ _ 3 0 _ Try.underlying26 rfl sz3 rfl rfl (by decide)),
        st_plain rfl (op_load _ _ _ _ _ _ Try.underlying3 rfl rfl rfl (Nat.le_of_ble_eq_true rfl) rfl rfl rfl),
        st_plain rfl (op_bin _ _ _ _ _ rfl rfl rfl),
        st_plain rfl (op_move _ _ _ _ (congrArg (fun b => AV.v (Value.bool b)) hg1_5) rfl),
        st_run 5 10 true rfl rfl rfl (List.Mem.head _) (op_fieldAddr _ _ _ _ 2 0 _ Try.underlying26 rfl sz3 rfl rfl (by decide)),
        st_run 5 10 true rfl rfl rfl (List.Mem.head _) (op_load _ _ _ _ _ _ Try.underlying3 rfl rfl rfl (Nat.le_of_ble_eq_true rfl) rfl rfl rfl),
        st_run 5 10 true rfl rfl rfl (List.Mem.head _) (op_fieldAddr _ _ _ _ 3 0 _ Try.underlying26 rfl sz3 rfl rfl (by decide)),
        st_run 5 10 true rfl rfl rfl (List.Mem.head _) (op_load _ _ _ _ _ _ Try.underlying3 rfl rfl rfl (Nat.le_of_ble_eq_true rfl) rfl rfl rfl),
        st_run 5 10 true rfl rfl rfl (List.Mem.head _) (op_bin _ _ _ _ _ rfl rfl rfl),
        st_plain rfl (op_pick _ _ true _ rfl rfl),
        st_plain rfl (op_move _ _ _ _ (congrArg (fun b => AV.v (Value.bool b)) hg1_12) rfl),
        st_run 12 17 true rfl rfl rfl (List.Mem.head _) (op_fieldAddr _ _ _ _ 2 0 _ Try.underlying26 rfl sz3 rfl rfl (by decide)),
        st_run 12 17 true rfl rfl rfl (List.Mem.head _) (op_load _ _ _ _ _ _ Try.underlying3 rfl rfl rfl (Nat.le_of_ble_eq_true rfl) rfl rfl rfl),
        st_run 12 17 true rfl rfl rfl (List.Mem.head _) (op_fieldAddr _ _ _ _ 3 0 _ Try.underlying26 rfl sz3 rfl rfl (by decide)),
        st_run 12 17 true rfl rfl rfl (List.Mem.head _) (op_load _ _ _ _ _ _ Try.underlying3 rfl rfl rfl (Nat.le_of_ble_eq_true rfl) rfl rfl rfl),
        st_run 12 17 true rfl rfl rfl (List.Mem.head _) (op_bin _ _ _ _ _ rfl rfl rfl),
        st_plain rfl (op_pick _ _ true _ rfl rfl),
        st_plain rfl (op_move _ _ _ _ (congrArg (fun b => AV.v (Value.bool b)) hg1_19) rfl),
        st_run 19 24 true rfl rfl rfl (List.Mem.head _) (op_fieldAddr _ _ _ _ 2 0 _ Try.underlying26 rfl sz3 rfl rfl (by decide)),
        st_run 19 24 true rfl rfl rfl (List.Mem.head _) (op_load _ _ _ _ _ _ Try.underlying3 rfl rfl rfl (Nat.le_of_ble_eq_true rfl) rfl rfl rfl),
        st_run 19 24 true rfl rfl rfl (List.Mem.head _) (op_fieldAddr _ _ _ _ 3 0 _ Try.underlying26 rfl sz3 rfl rfl (by decide)),
        st_run 19 24 true rfl rfl rfl (List.Mem.head _) (op_load _ _ _ _ _ _ Try.underlying3 rfl rfl rfl (Nat.le_of_ble_eq_true rfl) rfl rfl rfl),
        st_run 19 24 true rfl rfl rfl (List.Mem.head _) (op_bin _ _ _ _ _ rfl rfl rfl),
        st_plain rfl (op_pick _ _ true _ rfl rfl),
        st_plain rfl (op_move _ _ _ _ (congrArg (fun b => AV.v (Value.bool b)) hg1_26) rfl),
        st_skip 26 31 _ true rfl rfl rfl rfl (List.Mem.head _),
        st_skip 26 31 _ true rfl rfl rfl rfl (List.Mem.head _),
        st_skip 26 31 _ true rfl rfl rfl rfl (List.Mem.head _),
        st_skip 26 31 _ true rfl rfl rfl rfl (List.Mem.head _),
        st_skip 26 31 _ true rfl rfl rfl rfl (List.Mem.head _),
        st_plain rfl (op_pick _ _ false _ rfl rfl),
        st_plain rfl (op_assign _ _ _ _ rfl rfl),
        trivial⟩ ?_
       exact hl4 _ (Option.some.inj h).symm
     ·refine ht_seqR hn (El := (_ :: _ :: (5, .ptr 2 0) :: (6, .v (.int .i64 a.Kind)) :: (7, .ptr 3 0) :: (8, .v (.int .i64 b.Kind)) :: (9, .v (.bool (a.Kind == b.Kind))) :: (10, .v (.bool true)) :: (11, .ptr 2 1) :: (12, .v (.int .i64 a.Number)) :: (13, .ptr 3 1) :: (14, .v (.int .i64 b.Number)) :: (15, .v (.bool (a.Number == b.Number))) :: (16, .v (.bool (a.Number == b.Number))) :: (17, .v (.bool true)) :: (18, .ptr 2 2) :: (19, .v (.int .i64 a.Offset)) :: (20, .ptr 3 2) :: (21, .v (.int .i64 b.Offset)) :: (22, .v (.bool (a.Offset == b.Offset))) :: (23, .v (.bool (a.Offset == b.Offset))) :: (24, .v (.bool false)) :: (25, .v undef) :: (26, .v undef) :: (27, .v undef) :: (28, .v undef) :: (29, .v undef) :: (30, .v (.bool false)) :: (31, .v (.bool false)) :: (32, .v undef) :: (33, .v undef) :: (34, .v undef) :: (35, .v undef) :: (36, .v undef) :: (37, .v (.bool false)) :: (4, .v (.bool false)) :: [])) (init := [0, 1]) (fin := [35]) (sps := (⟨[0], [], [2], [(.slot 5)]⟩ :: ⟨[2, 0], [], [3], [(.slot 6)]⟩ :: ⟨[1], [], [4], [(.slot 7)]⟩ :: ⟨[4, 1], [], [5], [(.slot 8)]⟩ :: ⟨[3, 5], [], [6], [(.slot 9)]⟩ :: ⟨[6], [], [7], [(.slot 10)]⟩ :: ⟨[7, 0], [], [8], [(.slot 11)]⟩ :: ⟨[7, 8, 0], [], [9], [(.slot 12)]⟩ :: ⟨[7, 1], [], [10], [(.slot 13)]⟩ :: ⟨[7, 10, 1], [], [11], [(.slot 14)]⟩ :: ⟨[7, 9, 11], [], [12], [(.slot 15)]⟩ :: ⟨[7, 12], [], [13], [(.slot 16)]⟩ :: ⟨[13], [], [14], [(.slot 17)]⟩ :: ⟨[14, 0], [], [15], [(.slot 18)]⟩ :: ⟨[14, 15, 0], [], [16], [(.slot 19)]⟩ :: ⟨[14, 1], [], [17], [(.slot 20)]⟩ :: ⟨[14, 17, 1], [], [18], [(.slot 21)]⟩ :: ⟨[14, 16, 18], [], [19], [(.slot 22)]⟩ :: ⟨[14, 19], [], [20], [(.slot 23)]⟩ :: ⟨[20], [], [21], [(.slot 24)]⟩ :: ⟨[21], [], [22], [(.slot 25)]⟩ :: ⟨[21], [], [23], [(.slot 26)]⟩ :: ⟨[21], [], [24], [(.slot 27)]⟩ :: ⟨[21], [], [25], [(.slot 28)]⟩ :: ⟨[21], [], [26], [(.slot 29)]⟩ :: ⟨[21], [], [27], [(.slot 30)]⟩ :: ⟨[27], [], [28], [(.slot 31)]⟩ :: ⟨[28], [], [29], [(.slot 32)]⟩ :: ⟨[28], [], [30], [(.slot 33)]⟩ :: ⟨[28], [], [31], [(.slot 34)]⟩ :: ⟨[28], [], [32], [(.slot 35)]⟩ :: ⟨[28], [], [33], [(.slot 36)]⟩ :: ⟨[28], [], [34], [(.slot 37)]⟩ :: ⟨[34], [], [35], [(.slot 4)]⟩ :: [])) (es' := [(4, .v (.bool false))]) (by kernel_rfl) rfl rfl
       ⟨st_plain rfl (op_fieldAddr _ _ _ _ 2 0 _ Try.underlying26 rfl sz3 rfl rfl (by decide)),
       st_plain rfl (op_load _ _ _ _ _ _ Try.underlying3 rfl rfl rfl (Nat.le_of_ble_eq_true rfl) rfl rfl rfl),
       st_plain rfl (op_fieldAddr _ _ _ _ 3 0 _ Try.underlying26 rfl sz3 rfl rfl (by decide)),
       st_plain rfl (op_load _ _ _ _ _ _ Try.underlying3 rfl rfl rfl (Nat.le_of_ble_eq_true rfl) rfl rfl rfl),
       st_plain rfl (op_bin _ _ _ _ _ rfl rfl rfl),
       st_plain rfl (op_move _ _ _ _ (congrArg (fun b => AV.v (Value.bool b)) hg1_5) rfl),
       st_run 5 10 true rfl rfl rfl (List.Mem.head _) (op_fieldAddr _ _ _ _ 2 0 _ Try.underlying26 rfl sz3 rfl rfl (by decide)),
       st_run 5 10 true rfl rfl rfl (List.Mem.head _) (op_load _ _ _ _ _ _ Try.underlying3 rfl rfl rfl (Nat.le_of_ble_eq_true rfl) rfl rfl rfl),
       st_run 5 10 true rfl rfl rfl (List.Mem.head _) (op_fieldAddr _ _ _ _ 3 0 _ Try.underlying26 rfl sz3 rfl rfl (by decide)),
       st_run 5 10 true rfl rfl rfl (List.Mem.head _) (op_load _ _ _ _ _ _ Try.underlying3 rfl rfl rfl (Nat.le_of_ble_eq_true rfl) rfl rfl rfl),
       st_run 5 10 true rfl rfl rfl (List.Mem.head _) (op_bin _ _ _ _ _ rfl rfl rfl),
       st_plain rfl (op_pick _ _ true _ rfl rfl),
       st_plain rfl (op_move _ _ _ _ (congrArg (fun b => AV.v (Value.bool b)) hg1_12) rfl),
       st_run 12 17 true rfl rfl rfl (List.Mem.head _) (op_fieldAddr _ _ _ _ 2 0 _ Try.underlying26 rfl sz3 rfl rfl (by decide)),
       st_run 12 17 true rfl rfl rfl (List.Mem.head _) (op_load _ _ _ _ _ _ Try.underlying3 rfl rfl rfl (Nat.le_of_ble_eq_true rfl) rfl rfl rfl),
       st_run 12 17 true rfl rfl rfl (List.Mem.head _) (op_fieldAddr _ _ _ _ 3 0 _ Try.underlying26 rfl sz3 rfl rfl (by decide)),
       st_run 12 17 true rfl rfl rfl (List.Mem.head _) (op_load _ _ _ _ _ _ Try.underlying3 rfl rfl rfl (Nat.le_of_ble_eq_true rfl) rfl rfl rfl),
       st_run 12 17 true rfl rfl rfl (List.Mem.head _) (op_bin _ _ _ _ _ rfl rfl rfl),
       st_plain rfl (op_pick _ _ true _ rfl rfl),
       st_plain rfl (op_move _ _ _ _ (congrArg (fun b => AV.v (Value.bool b)) hg1_19) rfl),
       st_skip 19 24 _ true rfl rfl rfl rfl (List.Mem.head _),
       st_skip 19 24 _ true rfl rfl rfl rfl (List.Mem.head _),
       st_skip 19 24 _ true rfl rfl rfl rfl (List.Mem.head _),
       st_skip 19 24 _ true rfl rfl rfl rfl (List.Mem.head _),
       st_skip 19 24 _ true rfl rfl rfl rfl (List.Mem.head _),
       st_plain rfl (op_pick _ _ false _ rfl rfl),
       st_plain rfl (op_move _ _ _ _ rfl rfl),
       st_skip 26 31 _ true rfl rfl rfl rfl (List.Mem.head _),
       st_skip 26 31 _ true rfl rfl rfl rfl (List.Mem.head _),
       st_skip 26 31 _ true rfl rfl rfl rfl (List.Mem.head _),
       st_skip 26 31 _ true rfl rfl rfl rfl (List.Mem.head _),
       st_skip 26 31 _ true rfl rfl rfl rfl (List.Mem.head _),
       st_plain rfl (op_pick _ _ false _ rfl rfl),
       st_plain rfl (op_assign _ _ _ _ rfl rfl),
       trivial⟩ ?_
      exact hl4 _ (Option.some.inj h).symm
    ·refine ht_seqR hn (El := (_ :: _ :: (5, .ptr 2 0) :: (6, .v (.int .i64 a.Kind)) :: (7, .ptr 3 0) :: (8, .v (.int .i64 b.Kind)) :: (9, .v (.bool (a.Kind == b.Kind))) :: (10, .v (.bool true)) :: (11, .ptr 2 1) :: (12, .v (.int .i64 a.Number)) :: (13, .ptr 3 1) :: (14, .v (.int .i64 b.Number)) :: (15, .v (.bool (a.Number == b.Number))) :: (16, .v (.bool (a.Number == b.Number))) :: (17, .v (.bool false)) :: (18, .v undef) :: (19, .v undef) :: (20, .v undef) :: (21, .v undef) :: (22, .v undef) :: (23, .v (.bool false)) :: (24, .v (.bool false)) :: (25, .v undef) :: (26, .v undef) :: (27, .v undef) :: (28, .v undef) :: (29, .v undef) :: (30, .v (.bool false)) :: (31, .v (.bool false)) :: (32, .v undef) :: (33, .v undef) :: (34, .v undef) :: (35, .v undef) :: (36, .v undef) :: (37, .v (.bool false)) :: (4, .v (.bool false)) :: [])) (init := [0, 1]) (fin := [35]) (sps := (⟨[0], [], [2], [(.slot 5)]⟩ :: ⟨[2, 0], [], [3], [(.slot 6)]⟩ :: ⟨[1], [], [4], [(.slot 7)]⟩ :: ⟨[4, 1], [], [5], [(.slot 8)]⟩ :: ⟨[3, 5], [], [6], [(.slot 9)]⟩ :: ⟨[6], [], [7], [(.slot 10)]⟩ :: ⟨[7, 0], [], [8], [(.slot 11)]⟩ :: ⟨[7, 8, 0], [], [9], [(.slot 12)]⟩ :: ⟨[7, 1], [], [10], [(.slot 13)]⟩ :: ⟨[7, 10, 1], [], [11], [(.slot 14)]⟩ :: ⟨[7, 9, 11], [], [12], [(.slot 15)]⟩ :: ⟨[7, 12], [], [13], [(.slot 16)]⟩ :: ⟨[13], [], [14], [(.slot 17)]⟩ :: ⟨[14], [], [15], [(.slot 18)]⟩ :: ⟨[14], [], [16], [(.slot 19)]⟩ :: ⟨[14], [], [17], [(.slot 20)]⟩ :: ⟨[14], [], [18], [(.slot 21)]⟩ :: ⟨[14], [], [19], [(.slot 22)]⟩ :: ⟨[14], [], [20], [(.slot 23)]⟩ :: ⟨[20], [], [21], [(.slot 24)]⟩ :: ⟨[21], [], [22], [(.slot 25)]⟩ :: ⟨[21], [], [23], [(.slot 26)]⟩ :: ⟨[21], [], [24], [(.slot 27)]⟩ :: ⟨[21], [], [25], [(.slot 28)]⟩ :: ⟨[21], [], [26], [(.slot 29)]⟩ :: ⟨[21], [], [27], [(.slot 30)]⟩ :: ⟨[27], [], [28], [(.slot 31)]⟩ :: ⟨[28], [], [29], [(.slot 32)]⟩ :: ⟨[28], [], [30], [(.slot 33)]⟩ :: ⟨[28], [], [31], [(.slot 34)]⟩ :: ⟨[28], [], [32], [(.slot 35)]⟩ :: ⟨[28], [], [33], [(.slot 36)]⟩ :: ⟨[28], [], [34], [(.slot 37)]⟩ :: ⟨[34], [], [35], [(.slot 4)]⟩ :: [])) (es' := [(4, .v (.bool false))]) (by kernel_rfl) rfl rfl
      ⟨st_plain rfl (op_fieldAddr _ _ _ _ 2 0 _ Try.underlying26 rfl sz3 rfl rfl (by decide)),
      st_plain rfl (op_load _ _ _ _ _ _ Try.underlying3 rfl rfl rfl (Nat.le_of_ble_eq_true rfl) rfl rfl rfl),
      st_plain rfl (op_fieldAddr _ _ _ _ 3 0 _ Try.underlying26 rfl sz3 rfl rfl (by decide)),
      st_plain rfl (op_load _ _ _ _ _ _ Try.underlying3 rfl rfl rfl (Nat.le_of_ble_eq_true rfl) rfl rfl rfl),
      st_plain rfl (op_bin _ _ _ _ _ rfl rfl rfl),
      st_plain rfl (op_move _ _ _ _ (congrArg (fun b => AV.v (Value.bool b)) hg1_5) rfl),
      st_run 5 10 true rfl rfl rfl (List.Mem.head _) (op_fieldAddr _ _ _ _ 2 0 _ Try.underlying26 rfl sz3 rfl rfl (by decide)),
      st_run 5 10 true rfl rfl rfl (List.Mem.head _) (op_load _ _ _ _ _ _ Try.underlying3 rfl rfl rfl (Nat.le_of_ble_eq_true rfl) rfl rfl rfl),
      st_run 5 10 true rfl rfl rfl (List.Mem.head _) (op_fieldAddr _ _ _ _ 3 0 _ Try.underlying26 rfl sz3 rfl rfl (by decide)),
      st_run 5 10 true rfl rfl rfl (List.Mem.head _) (op_load _ _ _ _ _ _ Try.underlying3 rfl rfl rfl (Nat.le_of_ble_eq_true rfl) rfl rfl rfl),
      st_run 5 10 true rfl rfl rfl (List.Mem.head _) (op_bin _ _ _ _ _ rfl rfl rfl),
      st_plain rfl (op_pick _ _ true _ rfl rfl),
      st_plain rfl (op_move _ _ _ _ (congrArg (fun b => AV.v (Value.bool b)) hg1_12) rfl),
      st_skip 12 17 _ true rfl rfl rfl rfl (List.Mem.head _),
      st_skip 12 17 _ true rfl rfl rfl rfl (List.Mem.head _),
      st_skip 12 17 _ true rfl rfl rfl rfl (List.Mem.head _),
      st_skip 12 17 _ true rfl rfl rfl rfl (List.Mem.head _),
      st_skip 12 17 _ true rfl rfl rfl rfl (List.Mem.head _),
      st_plain rfl (op_pick _ _ false _ rfl rfl),
      st_plain rfl (op_move _ _ _ _ rfl rfl),
      st_skip 19 24 _ true rfl rfl rfl rfl (List.Mem.head _),
      st_skip 19 24 _ true rfl rfl rfl rfl (List.Mem.head _),
      st_skip 19 24 _ true rfl rfl rfl rfl (List.Mem.head _),
      st_skip 19 24 _ true rfl rfl rfl rfl (List.Mem.head _),
      st_skip 19 24 _ true rfl rfl rfl rfl (List.Mem.head _),
      st_plain rfl (op_pick _ _ false _ rfl rfl),
      st_plain rfl (op_move _ _ _ _ rfl rfl),
      st_skip 26 31 _ true rfl rfl rfl rfl (List.Mem.head _),
      st_skip 26 31 _ true rfl rfl rfl rfl (List.Mem.head _),
      st_skip 26 31 _ true rfl rfl rfl rfl (List.Mem.head _),
      st_skip 26 31 _ true rfl rfl rfl rfl (List.Mem.head _),
      st_skip 26 31 _ true rfl rfl rfl rfl (List.Mem.head _),
      st_plain rfl (op_pick _ _ false _ rfl rfl),
      st_plain rfl (op_assign _ _ _ _ rfl rfl),
      trivial⟩ ?_
     exact hl4 _ (Option.some.inj h).symm
   ·refine ht_seqR hn (El := (_ :: _ :: (5, .ptr 2 0) :: (6, .v (.int .i64 a.Kind)) :: (7, .ptr 3 0) :: (8, .v (.int .i64 b.Kind)) :: (9, .v (.bool (a.Kind == b.Kind))) :: (10, .v (.bool false)) :: (11, .v undef) :: (12, .v undef) :: (13, .v undef) :: (14, .v undef) :: (15, .v undef) :: (16, .v (.bool false)) :: (17, .v (.bool false)) :: (18, .v undef) :: (19, .v undef) :: (20, .v undef) :: (21, .v undef) :: (22, .v undef) :: (23, .v (.bool false)) :: (24, .v (.bool false)) :: (25, .v undef) :: (26, .v undef) :: (27, .v undef) :: (28, .v undef) :: (29, .v undef) :: (30, .v (.bool false)) :: (31, .v (.bool false)) :: (32, .v undef) :: (33, .v undef) :: (34, .v undef) :: (35, .v undef) :: (36, .v undef) :: (37, .v (.bool false)) :: (4, .v (.bool false)) :: [])) (init := [0, 1]) (fin := [35]) (sps := (⟨[0], [], [2], [(.slot 5)]⟩ :: ⟨[2, 0], [], [3], [(.slot 6)]⟩ :: ⟨[1], [], [4], [(.slot 7)]⟩ :: ⟨[4, 1], [], [5], [(.slot 8)]⟩ :: ⟨[3, 5], [], [6], [(.slot 9)]⟩ :: ⟨[6], [], [7], [(.slot 10)]⟩ :: ⟨[7], [], [8], [(.slot 11)]⟩ :: ⟨[7], [], [9], [(.slot 12)]⟩ :: ⟨[7], [], [10], [(.slot 13)]⟩ :: ⟨[7], [], [11], [(.slot 14)]⟩ :: ⟨[7], [], [12], [(.slot 15)]⟩ :: ⟨[7], [], [13], [(.slot 16)]⟩ :: ⟨[13], [], [14], [(.slot 17)]⟩ :: ⟨[14], [], [15], [(.slot 18)]⟩ :: ⟨[14], [], [16], [(.slot 19)]⟩ :: ⟨[14], [], [17], [(.slot 20)]⟩ :: ⟨[14], [], [18], [(.slot 21)]⟩ :: ⟨[14], [], [19], [(.slot 22)]⟩ :: ⟨[14], [], [20], [(.slot 23)]⟩ :: ⟨[20], [], [21], [(.slot 24)]⟩ :: ⟨[21], [], [22], [(.slot 25)]⟩ :: ⟨[21], [], [23], [(.slot 26)]⟩ :: ⟨[21], [], [24], [(.slot 27)]⟩ :: ⟨[21], [], [25], [(.slot 28)]⟩ :: ⟨[21], [], [26], [(.slot 29)]⟩ :: ⟨[21], [], [27], [(.slot 30)]⟩ :: ⟨[27], [], [28], [(.slot 31)]⟩ :: ⟨[28], [], [29], [(.slot 32)]⟩ :: ⟨[28], [], [30], [(.slot 33)]⟩ :: ⟨[28], [], [31], [(.slot 34)]⟩ :: ⟨[28], [], [32], [(.slot 35)]⟩ :: ⟨[28], [], [33], [(.slot 36)]⟩ :: ⟨[28], [], [34], [(.slot 37)]⟩ :: ⟨[34], [], [35], [(.slot 4)]⟩ :: [])) (es' := [(4, .v (.bool false))]) (by kernel_rfl) rfl rfl
     ⟨st_plain rfl (op_fieldAddr _ _ _ _ 2 0 _ Try.underlying26 rfl sz3 rfl rfl (by decide)),
     st_plain rfl (op_load _ _ _ _ _ _ Try.underlying3 rfl rfl rfl (Nat.le_of_ble_eq_true rfl) rfl rfl rfl),
     st_plain rfl (op_fieldAddr _ _ _ _ 3 0 _ Try.underlying26 rfl sz3 rfl rfl (by decide)),
     st_plain rfl (op_load _ _ _ _ _ _ Try.underlying3 rfl rfl rfl (Nat.le_of_ble_eq_true rfl) rfl rfl rfl),
     st_plain rfl (op_bin _ _ _ _ _ rfl rfl rfl),
     st_plain rfl (op_move _ _ _ _ (congrArg (fun b => AV.v (Value.bool b)) hg1_5) rfl),
     st_skip 5 10 _ true rfl rfl rfl rfl (List.Mem.head _),
     st_skip 5 10 _ true rfl rfl rfl rfl (List.Mem.head _),
     st_skip 5 10 _ true rfl rfl rfl rfl (List.Mem.head _),
     st_skip 5 10 _ true rfl rfl rfl rfl (List.Mem.head _),
     st_skip 5 10 _ true rfl rfl rfl rfl (List.Mem.head _),
     st_plain rfl (op_pick _ _ false _ rfl rfl),
     st_plain rfl (op_move _ _ _ _ rfl rfl),
     st_skip 12 17 _ true rfl rfl rfl rfl (List.Mem.head _),
     st_skip 12 17 _ true rfl rfl rfl rfl (List.Mem.head _),
     st_skip 12 17 _ true rfl rfl rfl rfl (List.Mem.head _),
     st_skip 12 17 _ true rfl rfl rfl rfl (List.Mem.head _),
     st_skip 12 17 _ true rfl rfl rfl rfl (List.Mem.head _),
     st_plain rfl (op_pick _ _ false _ rfl rfl),
     st_plain rfl (op_move _ _ _ _ rfl rfl),
     st_skip 19 24 _ true rfl rfl rfl rfl (List.Mem.head _),
     st_skip 19 24 _ true rfl rfl rfl rfl (List.Mem.head _),
     st_skip 19 24 _ true rfl rfl rfl rfl (List.Mem.head _),
     st_skip 19 24 _ true rfl rfl rfl rfl (List.Mem.head _),
     st_skip 19 24 _ true rfl rfl rfl rfl (List.Mem.head _),
     st_plain rfl (op_pick _ _ false _ rfl rfl),
     st_plain rfl (op_move _ _ _ _ rfl rfl),
     st_skip 26 31 _ true rfl rfl rfl rfl (List.Mem.head _),
     st_skip 26 31 _ true rfl rfl rfl rfl (List.Mem.head _),
     st_skip 26 31 _ true rfl rfl rfl rfl (List.Mem.head _),
     st_skip 26 31 _ true rfl rfl rfl rfl (List.Mem.head _),
     st_skip 26 31 _ true rfl rfl rfl rfl (List.Mem.head _),
     st_plain rfl (op_pick _ _ false _ rfl rfl),
     st_plain rfl (op_assign _ _ _ _ rfl rfl),
     trivial⟩ ?_
    exact hl4 _ (Option.some.inj h).symm

set_option maxHeartbeats 1000000 in
theorem ok_wherryref18_Frame (f : T_Frame) (r : Bool) (h : Sh.wherryref18_Frame f = some r) : FnOK Try.prog 24 [.agg [.v (.int .i64 f.Kind), .v (.int .i64 f.Number), .v (.int .i64 f.Offset), .v (.int .i64 f.Seq), .fl .shr 1 (List.map (Value.int .u8) f.Data)]] (.v (.bool r)) := by
  unfold Sh.wherryref18_Frame at h
  refine fn_ok Try.func24 rfl (Nat.le_of_ble_eq_true rfl) rfl rfl fun g0 hn hio => ?_
  refine ht_seq ?_
  refine ht_seqR hn (El := [_, (1, .box 26 [.v (.int .i64 f.Kind), .v (.int .i64 f.Number), .v (.int .i64 f.Offset), .v (.int .i64 f.Seq), .fl .shr 1 (List.map (Value.int .u8) f.Data)]), (2, .v (.bool false))]) (init := [0]) (fin := [1]) (sps := [⟨[0], [], [1], [(.slot 1)]⟩, ⟨[], [], [2], [(.slot 2)]⟩]) (es' := [(1, .box 26 [.v (.int .i64 f.Kind), .v (.int .i64 f.Number), .v (.int .i64 f.Offset), .v (.int .i64 f.Seq), .fl .shr 1 (List.map (Value.int .u8) f.Data)])]) (by kernel_rfl) rfl rfl
   ⟨st_plain rfl (op_box _ _ _ _ rfl rfl rfl),
   st_plain rfl (op_assign _ _ _ _ rfl rfl),
   trivial⟩ ?_
  refine pt_then ?_
  refine ht_seq ?_
  refine ht_seqR hn (El := [_, (5, .ptr 1 0), (6, .v (.int .i64 f.Kind)), (7, .ptr 1 1), (8, .v (.int .i64 f.Number)), (9, .agg [.v (.int .i64 f.Kind), .v (.int .i64 f.Number), .v (.int .i64 0), .v (.int .i64 0), .v (.slice none 0 0)]), (3, .box 26 [.v (.int .i64 0), .v (.int .i64 0), .v (.int .i64 0), .v (.int .i64 0), .v (.slice none 0 0)]), (3, .box 26 [.v (.int .i64 f.Kind), .v (.int .i64 f.Number), .v (.int .i64 0), .v (.int .i64 0), .v (.slice none 0 0)])]) (init := [0]) (fin := [0, 7]) (sps := [⟨[0], [], [1], [(.slot 5)]⟩, ⟨[1, 0], [], [2], [(.slot 6)]⟩, ⟨[0], [], [3], [(.slot 7)]⟩, ⟨[3, 0], [], [4], [(.slot 8)]⟩, ⟨[2, 4], [], [5], [(.slot 9)]⟩, ⟨[], [], [6], [(.slot 3)]⟩, ⟨[5], [6], [7], [.cell 3 0, .cell 3 1, .cell 3 2, .cell 3 3, .cell 3 4]⟩]) (es' := [(_, _), (3, .box 26 [.v (.int .i64 f.Kind), .v (.int .i64 f.Number), .v (.int .i64 0), .v (.int .i64 0), .v (.slice none 0 0)])]) (by kernel_rfl) rfl rfl
   ⟨st_plain rfl (op_fieldAddr _ _ _ _ 1 0 _ Try.underlying26 rfl sz3 rfl rfl (by decide)),
   st_plain rfl (op_load _ _ _ _ _ _ Try.underlying3 rfl rfl rfl (Nat.le_of_ble_eq_true rfl) rfl rfl rfl),
   st_plain rfl (op_fieldAddr _ _ _ _ 1 0 _ Try.underlying26 rfl sz3 rfl rfl (by decide)),
   st_plain rfl (op_load _ _ _ _ _ _ Try.underlying3 rfl rfl rfl (Nat.le_of_ble_eq_true rfl) rfl rfl rfl),
   st_plain rfl (op_build _ _ _ _ [1, 1, 1, 1, 1] _ _ Try.underlying26 zr26 (fs26 _ Try.underlying26) (.copy _ (.copy _ Src.nil)) rfl rfl rfl),
   st_plain rfl (op_alloc _ _ zr26),
   st_plain rfl (op_store _ _ _ _ _ _ _ _ sz26 rfl rfl rfl rfl (Nat.le_of_ble_eq_true rfl) rfl rfl),
   trivial⟩ ?_
  refine pt_then ?_
  refine ht_seq ?_
  obtain ⟨v1, hv1, h⟩ := bind_some h
  refine ht_seqR hn (El := [_, _, (10, .ptr 1 1), (11, .v (.int .i64 f.Number)), (12, .v (.bool v1)), (4, .v (.bool v1))]) (init := [0, 1]) (fin := [0, 1, 5]) (sps := [⟨[0], [], [2], [(.slot 10)]⟩, ⟨[2, 0], [], [3], [(.slot 11)]⟩, ⟨[3], [], [4], [(.slot 12)]⟩, ⟨[4], [], [5], [(.slot 4)]⟩]) (es' := [(_, _), (_, _), (4, .v (.bool v1))]) (by kernel_rfl) rfl rfl
   ⟨st_plain rfl (op_fieldAddr _ _ _ _ 1 0 _ Try.underlying26 rfl sz3 rfl rfl (by decide)),
   st_plain rfl (op_load _ _ _ _ _ _ Try.underlying3 rfl rfl rfl (Nat.le_of_ble_eq_true rfl) rfl rfl rfl),
   st_plain rfl (op_call _ _ 30 _ _ rfl Try.call30 rfl (ok_wherryref18_in f.Number 1 65535 _ hv1) rfl rfl),
   st_plain rfl (op_assign _ _ _ _ rfl rfl),
   trivial⟩ ?_
  refine pt_then ?_
  refine ht_seq ?_
  refine ht_joinS h (fun ((s58, s59, s60, s61) : Int × Int × (List Int) × Bool) => [(1, .box 26 [.v (.int .i64 f.Kind), .v (.int .i64 f.Number), .v (.int .i64 f.Offset), .v (.int .i64 f.Seq), .fl .shr 1 (List.map (Value.int .u8) f.Data)]), (3, .box 26 [.v (.int .i64 f.Kind), .v (.int .i64 f.Number), .v (.int .i64 s58), .v (.int .i64 s59), .fl .shr 1 (List.map (Value.int .u8) s60)]), (4, .v (.bool s61))]) ?_ ?_
  ·rintro ⟨s58, s59, s60, s61⟩ h
   refine pt_then ?_
   refine ht_seq ?_
   refine ht_joinS h (fun (s117 : Bool) => [(2, .v (.bool s117))]) ?_ ?_
   ·rintro s117 h
    refine pt_then ?_
    refine ht_ret ?_
    obtain rfl := Option.some.inj h
    exact pt_ret hio rfl (.tmp _ _ .nil) rfl rfl
   ·intro u118 h hl119 hr120
    refine cond_some h (fun hg16_1 h => ?_) (fun hg16_1 h => ?_)
    ·obtain ⟨v116, hv116, h⟩ := bind_some h
     refine ht_seqR hn (El := [_, _, _, (68, .v (.bool s61)), (69, .v (.bool true)), (70, .agg [.v (.int .i64 f.Kind), .v (.int .i64 f.Number), .v (.int .i64 s58), .v (.int .i64 s59), .fl .shr 1 (List.map (Value.int .u8) s60)]), (71, .agg [.v (.int .i64 f.Kind), .v (.int .i64 f.Number), .v (.int .i64 f.Offset), .v (.int .i64 f.Seq), .fl .shr 1 (List.map (Value.int .u8) f.Data)]), (72, .v (.bool v116)), (73, .v (.bool v116)), (2, .v (.bool v116))]) (init := [0, 1, 2]) (fin := [9]) (sps := [⟨[2], [], [3], [(.slot 68)]⟩, ⟨[3], [], [4], [(.slot 69)]⟩, ⟨[4, 1], [], [5], [(.slot 70)]⟩, ⟨[4, 0], [], [6], [(.slot 71)]⟩, ⟨[4, 5, 6], [], [7], [(.slot 72)]⟩, ⟨[4, 7], [], [8], [(.slot 73)]⟩, ⟨[8], [], [9], [(.slot 2)]⟩]) (es' := [(2, .v (.bool v116))]) (by kernel_rfl) rfl rfl
      ⟨st_plain rfl (op_move _ _ _ _ rfl rfl),
      st_plain rfl (op_move _ _ _ _ (congrArg (fun b => AV.v (Value.bool b)) hg16_1) rfl),
      st_run 1 69 true rfl rfl rfl (List.Mem.head _) (op_loadA _ _ _ _ _ _ _ Try.underlying26 rfl sz26 rfl rfl (Nat.le_of_ble_eq_true rfl) rfl rfl),
      st_run 1 69 true rfl rfl rfl (List.Mem.head _) (op_loadA _ _ _ _ _ _ _ Try.underlying26 rfl sz26 rfl rfl (Nat.le_of_ble_eq_true rfl) rfl rfl),
      st_run 1 69 true rfl rfl rfl (List.Mem.head _) (op_call _ _ 27 _ _ rfl Try.call27 rfl (ok_wherrykeep_Frame (T_Frame.mk f.Kind f.Number s58 s59 s60) f _ hv116) rfl rfl),
      st_plain rfl (op_pick _ _ true _ rfl rfl),
      st_plain rfl (op_assign _ _ _ _ rfl rfl),
      trivial⟩ ?_
     exact hl119 _ (Option.some.inj h).symm
    ·refine ht_seqR hn (El := [_, _, _, (68, .v (.bool s61)), (69, .v (.bool false)), (70, .v undef), (71, .v undef), (72, .v undef), (73, .v (.bool false)), (2, .v (.bool false))]) (init := [0, 1, 2]) (fin := [9]) (sps := [⟨[2], [], [3], [(.slot 68)]⟩, ⟨[3], [], [4], [(.slot 69)]⟩, ⟨[4], [], [5], [(.slot 70)]⟩, ⟨[4], [], [6], [(.slot 71)]⟩, ⟨[4], [], [7], [(.slot 72)]⟩, ⟨[4], [], [8], [(.slot 73)]⟩, ⟨[8], [], [9], [(.slot 2)]⟩]) (es' := [(2, .v (.bool false))]) (by kernel_rfl) rfl rfl
      ⟨st_plain rfl (op_move _ _ _ _ rfl rfl),
      st_plain rfl (op_move _ _ _ _ (congrArg (fun b => AV.v (Value.bool b)) hg16_1) rfl),
      st_skip 1 69 _ true rfl rfl rfl rfl (List.Mem.head _),
      st_skip 1 69 _ true rfl rfl rfl rfl (List.Mem.head _),
      st_skip 1 69 _ true rfl rfl rfl rfl (List.Mem.head _),
      st_plain rfl (op_pick _ _ false _ rfl rfl),
      st_plain rfl (op_assign _ _ _ _ rfl rfl),
      trivial⟩ ?_
     exact hl119 _ (Option.some.inj h).symm
  ·intro u62 h hl63 hr64
   refine ht_seq ?_
   refine ht_seqR hn (El := [_, _, _, (13, .ptr 1 0), (14, .v (.int .i64 f.Kind))]) (init := [0, 1, 2]) (fin := [0, 1, 2, 4]) (sps := [⟨[0], [], [3], [(.slot 13)]⟩, ⟨[3, 0], [], [4], [(.slot 14)]⟩]) (es' := [(_, _), (_, _), (_, _), (14, .v (.int .i64 f.Kind))]) (by kernel_rfl) rfl rfl
    ⟨st_plain rfl (op_fieldAddr _ _ _ _ 1 0 _ Try.underlying26 rfl sz3 rfl rfl (by decide)),
    st_plain rfl (op_load _ _ _ _ _ _ Try.underlying3 rfl rfl rfl (Nat.le_of_ble_eq_true rfl) rfl rfl rfl),
    trivial⟩ ?_
   refine pt_then ?_
   refine ht_joinS h (fun ((s87, s88, s89, s90) : Int × Int × (List Int) × Bool) => [(1, .box 26 [.v (.int .i64 f.Kind), .v (.int .i64 f.Number), .v (.int .i64 f.Offset), .v (.int .i64 f.Seq), .fl .shr 1 (List.map (Value.int .u8) f.Data)]), (3, .box 26 [.v (.int .i64 f.Kind), .v (.int .i64 f.Number), .v (.int .i64 s87), .v (.int .i64 s88), .fl .shr 1 (List.map (Value.int .u8) s89)]), (4, .v (.bool s90))]) ?_ ?_
   ·rintro ⟨s87, s88, s89, s90⟩ h
    exact hl63 _ (Option.some.inj h).symm
   ·intro u91 h hl92 hr93
    refine ht_block ?_
    refine ht_seq ?_
    refine ht_joinS h (fun (s95 : Bool) => [(1, .box 26 [.v (.int .i64 f.Kind), .v (.int .i64 f.Number), .v (.int .i64 f.Offset), .v (.int .i64 f.Seq), .fl .shr 1 (List.map (Value.int .u8) f.Data)]), (3, .box 26 [.v (.int .i64 f.Kind), .v (.int .i64 f.Number), .v (.int .i64 0), .v (.int .i64 0), .v (.slice none 0 0)]), (4, .v (.bool v1)), (14, .v (.int .i64 f.Kind)), (15, .v (.bool s95))]) ?_ ?_
    ·rintro s95 h
     refine pt_then ?_
     refine ht_cond _ rfl (fun hb100 => ?_) (fun hb100 => ?_)
     ·have h := cond_t hb100 h
      refine ht_seq ?_
      refine ht_seqR hn (El := [_, _, _, _, _, (18, .ptr 1 2), (19, .v (.int .i64 f.Offset)), (20, .ptr 3 2), (3, .box 26 [.v (.int .i64 f.Kind), .v (.int .i64 f.Number), .v (.int .i64 f.Offset), .v (.int .i64 0), .v (.slice none 0 0)])]) (init := [0, 1, 2, 3, 4]) (fin := [0, 8, 2]) (sps := [⟨[0], [], [5], [(.slot 18)]⟩, ⟨[5, 0], [], [6], [(.slot 19)]⟩, ⟨[1], [], [7], [(.slot 20)]⟩, ⟨[7, 6], [1], [8], [.cell 3 2]⟩]) (es' := [(_, _), (3, .box 26 [.v (.int .i64 f.Kind), .v (.int .i64 f.Number), .v (.int .i64 f.Offset), .v (.int .i64 0), .v (.slice none 0 0)]), (_, _)]) (by kernel_rfl) rfl rfl
       ⟨st_plain rfl (op_fieldAddr _ _ _ _ 1 0 _ Try.underlying26 rfl sz3 rfl rfl (by decide)),
       st_plain rfl (op_load _ _ _ _ _ _ Try.underlying3 rfl rfl rfl (Nat.le_of_ble_eq_true rfl) rfl rfl rfl),
       st_plain rfl (op_fieldAddr _ _ _ _ 3 0 _ Try.underlying26 rfl sz3 rfl rfl (by decide)),
       st_plain rfl (op_store _ _ _ _ _ _ _ _ sz3 rfl rfl rfl rfl (Nat.le_of_ble_eq_true rfl) rfl rfl),
       trivial⟩ ?_
      refine pt_then ?_
      refine ht_joinS h (fun (s101 : Bool) => [(1, .box 26 [.v (.int .i64 f.Kind), .v (.int .i64 f.Number), .v (.int .i64 f.Offset), .v (.int .i64 f.Seq), .fl .shr 1 (List.map (Value.int .u8) f.Data)]), (3, .box 26 [.v (.int .i64 f.Kind), .v (.int .i64 f.Number), .v (.int .i64 f.Offset), .v (.int .i64 0), .v (.slice none 0 0)]), (4, .v (.bool s101))]) ?_ ?_
      ·rintro s101 h
       refine pt_inb ?_
       refine pt_sub (fs := [(1, .box 26 [.v (.int .i64 f.Kind), .v (.int .i64 f.Number), .v (.int .i64 f.Offset), .v (.int .i64 f.Seq), .fl .shr 1 (List.map (Value.int .u8) f.Data)]), (3, .box 26 [.v (.int .i64 f.Kind), .v (.int .i64 f.Number), .v (.int .i64 f.Offset), .v (.int .i64 0), .fl .shr 1 (List.map (Value.int .u8) [])]), (4, .v (.bool s101))]) (.same _ (.box _ _ (subs_cons (sub_refl _) (subs_cons (sub_refl _) (subs_cons (sub_refl _) (subs_cons (sub_refl _) (subs_cons (sub_nil_shr 1) (subs_nil)))))) rfl (.same _ .nil))) ?_
       exact hl92 _ (Option.some.inj h).symm
      ·intro u102 h hl103 hr104
       refine cond_some h (fun hg8_1 h => ?_) (fun hg8_1 h => ?_)
       ·obtain ⟨v9, hv9, h⟩ := bind_some h
        refine ht_seqR hn (El := [_, _, _, (21, .v (.bool v1)), (22, .v (.bool true)), (23, .ptr 1 2), (24, .v (.int .i64 f.Offset)), (25, .v (.bool v9)), (26, .v (.bool v9)), (4, .v (.bool v9))]) (init := [0, 1, 2]) (fin := [0, 1, 9]) (sps := [⟨[2], [], [3], [(.slot 21)]⟩, ⟨[3], [], [4], [(.slot 22)]⟩, ⟨[4, 0], [], [5], [(.slot 23)]⟩, ⟨[4, 5, 0], [], [6], [(.slot 24)]⟩, ⟨[4, 6], [], [7], [(.slot 25)]⟩, ⟨[4, 7], [], [8], [(.slot 26)]⟩, ⟨[8], [2], [9], [(.slot 4)]⟩]) (es' := [(_, _), (_, _), (4, .v (.bool v9))]) (by kernel_rfl) rfl rfl
         ⟨st_plain rfl (op_move _ _ _ _ rfl rfl),
         st_plain rfl (op_move _ _ _ _ (congrArg (fun b => AV.v (Value.bool b)) hg8_1) rfl),
         st_run 1 22 true rfl rfl rfl (List.Mem.head _) (op_fieldAddr _ _ _ _ 1 0 _ Try.underlying26 rfl sz3 rfl rfl (by decide)),
         st_run 1 22 true rfl rfl rfl (List.Mem.head _) (op_load _ _ _ _ _ _ Try.underlying3 rfl rfl rfl (Nat.le_of_ble_eq_true rfl) rfl rfl rfl),
         st_run 1 22 true rfl rfl rfl (List.Mem.head _) (op_call _ _ 30 _ _ rfl Try.call30 rfl (ok_wherryref18_in f.Offset 0 5000 _ hv9) rfl rfl),
         st_plain rfl (op_pick _ _ true _ rfl rfl),
         st_plain rfl (LOp.drop [_] (op_assign _ _ _ _ rfl rfl)),
         trivial⟩ ?_
        exact hl103 _ (Option.some.inj h).symm
       ·refine ht_seqR hn (El := [_, _, _, (21, .v (.bool v1)), (22, .v (.bool false)), (23, .v undef), (24, .v undef), (25, .v undef), (26, .v (.bool false)), (4, .v (.bool false))]) (init := [0, 1, 2]) (fin := [0, 1, 9]) (sps := [⟨[2], [], [3], [(.slot 21)]⟩, ⟨[3], [], [4], [(.slot 22)]⟩, ⟨[4], [], [5], [(.slot 23)]⟩, ⟨[4], [], [6], [(.slot 24)]⟩, ⟨[4], [], [7], [(.slot 25)]⟩, ⟨[4], [], [8], [(.slot 26)]⟩, ⟨[8], [2], [9], [(.slot 4)]⟩]) (es' := [(_, _), (_, _), (4, .v (.bool false))]) (by kernel_rfl) rfl rfl
         ⟨st_plain rfl (op_move _ _ _ _ rfl rfl),
         st_plain rfl (op_move _ _ _ _ (congrArg (fun b => AV.v (Value.bool b)) hg8_1) rfl),
         st_skip 1 22 _ true rfl rfl rfl rfl (List.Mem.head _),
         st_skip 1 22 _ true rfl rfl rfl rfl (List.Mem.head _),
         st_skip 1 22 _ true rfl rfl rfl rfl (List.Mem.head _),
         st_plain rfl (op_pick _ _ false _ rfl rfl),
         st_plain rfl (LOp.drop [_] (op_assign _ _ _ _ rfl rfl)),
         trivial⟩ ?_
        exact hl103 _ (Option.some.inj h).symm
     ·have h := cond_f hb100 h
      refine ht_seq ?_
      refine ht_seqR hn (El := [_, _, _, _, _, (28, .v (.bool (f.Kind == 3))), (27, .v (.bool (f.Kind == 3)))]) (init := [0, 1, 2, 3, 4]) (fin := [0, 1, 2, 3, 6]) (sps := [⟨[3], [], [5], [(.slot 28)]⟩, ⟨[5], [], [6], [(.slot 27)]⟩]) (es' := [(_, _), (_, _), (_, _), (_, _), (27, .v (.bool (f.Kind == 3)))]) (by kernel_rfl) rfl rfl
       ⟨st_plain rfl (op_bin _ _ _ _ _ rfl rfl rfl),
       st_plain rfl (op_assign _ _ _ _ rfl rfl),
       trivial⟩ ?_
      refine pt_then ?_
      refine ht_cond _ rfl (fun hb105 => ?_) (fun hb105 => ?_)
      ·have h := cond_t hb105 h
       refine ht_seq ?_
       refine ht_anyR (by kernel_rfl) hn (El := (_ :: _ :: _ :: _ :: _ :: (29, .ptr 1 2) :: (30, .v (.int .i64 f.Offset)) :: (31, .ptr 1 3) :: (32, .v (.int .i64 f.Seq)) :: (33, .ptr 1 4) :: (34, .fl .shr 1 (List.map (Value.int .u8) f.Data)) :: (35, .ptr 3 2) :: (3, .box 26 [.v (.int .i64 f.Kind), .v (.int .i64 f.Number), .v (.int .i64 f.Offset), .v (.int .i64 0), .v (.slice none 0 0)]) :: (36, .ptr 3 3) :: (3, .box 26 [.v (.int .i64 f.Kind), .v (.int .i64 f.Number), .v (.int .i64 f.Offset), .v (.int .i64 f.Seq), .v (.slice none 0 0)]) :: (37, .ptr 3 4) :: (3, .box 26 [.v (.int .i64 f.Kind), .v (.int .i64 f.Number), .v (.int .i64 f.Offset), .v (.int .i64 f.Seq), .fl .shr 1 (List.map (Value.int .u8) f.Data)]) :: [])) (init := [0, 1, 2, 3, 4]) (fin := [0, 16, 2]) (sps := [⟨[0], [], [5], [(.slot 29)]⟩, ⟨[5, 0], [], [6], [(.slot 30)]⟩, ⟨[0], [], [7], [(.slot 31)]⟩, ⟨[7, 0], [], [8], [(.slot 32)]⟩, ⟨[0], [], [9], [(.slot 33)]⟩, ⟨[9, 0], [], [10], [(.slot 34)]⟩, ⟨[1], [], [11], [(.slot 35)]⟩, ⟨[11, 6], [1], [12], [.cell 3 2]⟩, ⟨[12], [], [13], [(.slot 36)]⟩, ⟨[13, 8], [12], [14], [.cell 3 3]⟩, ⟨[14], [], [15], [(.slot 37)]⟩, ⟨[15, 10], [14], [16], [.cell 3 4]⟩]) (es' := [(_, _), (3, .box 26 [.v (.int .i64 f.Kind), .v (.int .i64 f.Number), .v (.int .i64 f.Offset), .v (.int .i64 f.Seq), .fl .shr 1 (List.map (Value.int .u8) f.Data)]), (_, _)]) (by kernel_rfl) rfl rfl
        ⟨st_plain rfl (op_fieldAddr _ _ _ _ 1 0 _ Try.underlying26 rfl sz3 rfl rfl (by decide)),
        st_plain rfl (op_load _ _ _ _ _ _ Try.underlying3 rfl rfl rfl (Nat.le_of_ble_eq_true rfl) rfl rfl rfl),
        st_plain rfl (op_fieldAddr _ _ _ _ 1 0 _ Try.underlying26 rfl sz3 rfl rfl (by decide)),
        st_plain rfl (op_load _ _ _ _ _ _ Try.underlying3 rfl rfl rfl (Nat.le_of_ble_eq_true rfl) rfl rfl rfl),
        st_plain rfl (op_fieldAddr _ _ _ _ 1 0 _ Try.underlying26 rfl sz22 rfl rfl (by decide)),
        st_plain rfl (op_load _ _ _ _ _ _ Try.underlying22 rfl rfl rfl (Nat.le_of_ble_eq_true rfl) rfl rfl rfl),
        st_plain rfl (op_fieldAddr _ _ _ _ 3 0 _ Try.underlying26 rfl sz3 rfl rfl (by decide)),
        st_plain rfl (op_store _ _ _ _ _ _ _ _ sz3 rfl rfl rfl rfl (Nat.le_of_ble_eq_true rfl) rfl rfl),
        st_plain rfl (op_fieldAddr _ _ _ _ 3 0 _ Try.underlying26 rfl sz3 rfl rfl (by decide)),
        st_plain rfl (op_store _ _ _ _ _ _ _ _ sz3 rfl rfl rfl rfl (Nat.le_of_ble_eq_true rfl) rfl rfl),
        st_plain rfl (op_fieldAddr _ _ _ _ 3 0 _ Try.underlying26 rfl sz22 rfl rfl (by decide)),
        st_plain rfl (op_store _ _ _ _ _ _ _ _ sz22 rfl rfl rfl rfl (Nat.le_of_ble_eq_true rfl) rfl rfl),
        trivial⟩ ?_
       refine pt_then ?_
       refine ht_joinS h (fun (s106 : Bool) => [(1, .box 26 [.v (.int .i64 f.Kind), .v (.int .i64 f.Number), .v (.int .i64 f.Offset), .v (.int .i64 f.Seq), .fl .shr 1 (List.map (Value.int .u8) f.Data)]), (3, .box 26 [.v (.int .i64 f.Kind), .v (.int .i64 f.Number), .v (.int .i64 f.Offset), .v (.int .i64 f.Seq), .fl .shr 1 (List.map (Value.int .u8) f.Data)]), (4, .v (.bool s106))]) ?_ ?_
       ·rintro s106 h
        refine pt_inb ?_
        exact hl92 _ (Option.some.inj h).symm
       ·intro u107 h hl108 hr109
        refine cond_some h (fun hg11_1 h => ?_) (fun hg11_1 h => ?_)
        ·obtain ⟨v15, hv15, h⟩ := bind_some h
         refine cond_some h (fun hg11_6 h => ?_) (fun hg11_6 h => ?_)
         ·obtain ⟨v16, hv16, h⟩ := bind_some h
          refine cond_some h (fun hg11_11 h => ?_) (fun hg11_11 h => ?_)
          ·obtain ⟨v17, hv17, h⟩ := bind_some h
           refine ht_seqR hn (El := (_ :: _ :: _ :: (38, .v (.bool v1)) :: (39, .v (.bool true)) :: (40, .ptr 1 2) :: (41, .v (.int .i64 f.Offset)) :: (42, .v (.bool v15)) :: (43, .v (.bool v15)) :: (44, .v (.bool true)) :: (45, .ptr 1 3) :: (46, .v (.int .i64 f.Seq)) :: (47, .v (.bool v16)) :: (48, .v (.bool v16)) :: (49, .v (.bool true)) :: (50, .ptr 1 4) :: (51, .fl .shr 1 (List.map (Value.int .u8) f.Data)) :: (52, .v (.int .i64 (f.Data.length : Int))) :: (53, .v (.bool v17)) :: (54, .v (.bool v17)) :: (4, .v (.bool v17)) :: [])) (init := [0, 1, 2]) (fin := [0, 1, 20]) (sps := (⟨[2], [], [3], [(.slot 38)]⟩ :: ⟨[3], [], [4], [(.slot 39)]⟩ :: ⟨[4, 0], [], [5], [(.slot 40)]⟩ :: ⟨[4, 5, 0], [], [6], [(.slot 41)]⟩ :: ⟨[4, 6], [], [7], [(.slot 42)]⟩ :: ⟨[4, 7], [], [8], [(.slot 43)]⟩ :: ⟨[8], [], [9], [(.slot 44)]⟩ :: ⟨[9, 0], [], [10], [(.slot 45)]⟩ :: ⟨[9, 10, 0], [], [11], [(.slot 46)]⟩ :: ⟨[9, 11], [], [12], [(.slot 47)]⟩ :: ⟨[9, 12], [], [13], [(.slot 48)]⟩ :: ⟨[13], [], [14], [(.slot 49)]⟩ :: ⟨[14, 0], [], [15], [(.slot 50)]⟩ :: ⟨[14, 15, 0], [], [16], [(.slot 51)]⟩ :: ⟨[14, 16], [], [17], [(.slot 52)]⟩ :: ⟨[14, 17], [], [18], [(.slot 53)]⟩ :: ⟨[14, 18], [], [19], [(.slot 54)]⟩ :: ⟨[19], [2], [20], [(.slot 4)]⟩ :: [])) (es' := [(_, _), (_, _), (4, .v (.bool v17))]) (by kernel_rfl) rfl rfl
            ⟨st_plain rfl (op_move _ _ _ _ rfl rfl),
            st_plain rfl (op_move _ _ _ _ (congrArg (fun b => AV.v (Value.bool b)) hg11_1) rfl),
            st_run 1 39 true rfl rfl rfl (List.Mem.head _) (op_fieldAddr _ _ _ _ 1 0 _ Try.underlying26 rfl sz3 rfl rfl (by decide)),
            st_run 1 39 true rfl rfl rfl (List.Mem.head _) (op_load _ _ _ _ _ _ Try.underlying3 rfl rfl rfl (Nat.le_of_ble_eq_true rfl) rfl rfl rfl),
            st_run 1 39 true rfl rfl rfl (List.Mem.head _) (op_call _ _ 30 _ _ rfl Try.call30 rfl (ok_wherryref18_in f.Offset 0 5000 _ hv15) rfl rfl),
            st_plain rfl (op_pick _ _ true _ rfl rfl),
            st_plain rfl (op_move _ _ _ _ (congrArg (fun b => AV.v (Value.bool b)) hg11_6) rfl),
            st_run 6 44 true rfl rfl rfl (List.Mem.head _) (op_fieldAddr _ _ _ _ 1 0 _ Try.underlying26 rfl sz3 rfl rfl (by decide)),
            st_run 6 44 true rfl rfl rfl (List.Mem.head _) (op_load _ _ _ _ _ _ Try.underlying3 rfl rfl rfl (Nat.le_of_ble_eq_true rfl) rfl rfl rfl),
            st_run 6 44 true rfl rfl rfl (List.Mem.head _) (op_call _ _ 30 _ _ rfl Try.call30 rfl (ok_wherryref18_in f.Seq 0 7 _ hv16) rfl rfl),
            st_plain rfl (op_pick _ _ true _ rfl rfl),
            st_plain rfl (op_move _ _ _ _ (congrArg (fun b => AV.v (Value.bool b)) hg11_11) rfl),
            st_run 11 49 true rfl rfl rfl (List.Mem.head _) (op_fieldAddr _ _ _ _ 1 0 _ Try.underlying26 rfl sz22 rfl rfl (by decide)),
            st_run 11 49 true rfl rfl rfl (List.Mem.head _) (op_load _ _ _ _ _ _ Try.underlying22 rfl rfl rfl (Nat.le_of_ble_eq_true rfl) rfl rfl rfl),
            st_run 11 49 true rfl rfl rfl (List.Mem.head _) (op_len_fl _ _ _ Try.underlying22 rfl (by decide) (map_len _)),
            st_run 11 49 true rfl rfl rfl (List.Mem.head _) (op_call _ _ 30 _ _ rfl Try.call30 rfl (ok_wherryref18_in (f.Data.length : Int) 1 48 _ hv17) rfl rfl),
            st_plain rfl (op_pick _ _ true _ rfl rfl),
            st_plain rfl (LOp.drop [_] (op_assign _ _ _ _ rfl rfl)),
            trivial⟩ ?_
           exact hl108 _ (Option.some.inj h).symm
          ·refine ht_seqR hn (El := (_ :: _ :: _ :: (38, .v (.bool v1)) :: (39, .v (.bool true)) :: (40, .ptr 1 2) :: (41, .v (.int .i64 f.Offset)) :: (42, .v (.bool v15)) :: (43, .v (.bool v15)) :: (44, .v (.bool true)) :: (45, .ptr 1 3) :: (46, .v (.int .i64 f.Seq)) :: (47, .v (.bool v16)) :: (48, .v (.bool v16)) :: (49, .v (.bool false)) :: (50, .v undef) :: (51, .v undef) :: (52, .v undef) :: (53, .v undef) :: (54, .v (.bool false)) :: (4, .v (.bool false)) :: [])) (init := [0, 1, 2]) (fin := [0, 1, 20]) (sps := (⟨[2], [], [3], [(.slot 38)]⟩ :: ⟨[3], [], [4], [(.slot 39)]⟩ :: ⟨[4, 0], [], [5], [(.slot 40)]⟩ :: ⟨[4, 5, 0], [], [6], [(.slot 41)]⟩ :: ⟨[4, 6], [], [7], [(.slot 42)]⟩ :: ⟨[4, 7], [], [8], [(.slot 43)]⟩ :: ⟨[8], [], [9], [(.slot 44)]⟩ :: ⟨[9, 0], [], [10], [(.slot 45)]⟩ :: ⟨[9, 10, 0], [], [11], [(.slot 46)]⟩ :: ⟨[9, 11], [], [12], [(.slot 47)]⟩ :: ⟨[9, 12], [], [13], [(.slot 48)]⟩ :: ⟨[13], [], [14], [(.slot 49)]⟩ :: ⟨[14], [], [15], [(.slot 50)]⟩ :: ⟨[14], [], [16], [(.slot 51)]⟩ :: ⟨[14], [], [17], [(.slot 52)]⟩ :: ⟨[14], [], [18], [(.slot 53)]⟩ :: ⟨[14], [], [19], [(.slot 54)]⟩ :: ⟨[19], [2], [20], [(.slot 4)]⟩ :: [])) (es' := [(_, _), (_, _), (4, .v (.bool false))]) (by kernel_rfl) rfl rfl
            ⟨st_plain rfl (op_move _ _ _ _ rfl rfl),
            st_plain rfl (op_move _ _ _ _ (congrArg (fun b => AV.v (Value.bool b)) hg11_1) rfl),
            st_run 1 39 true rfl rfl rfl (List.Mem.head _) (op_fieldAddr _ _ _ _ 1 0 _ Try.underlying26 rfl sz3 rfl rfl (by decide)),
            st_run 1 39 true rfl rfl rfl (List.Mem.head _) (op_load _ _ _ _ _ _ Try.underlying3 rfl rfl rfl (Nat.le_of_ble_eq_true rfl) rfl rfl rfl),
            st_run 1 39 true rfl rfl rfl (List.Mem.head _) (op_call _ _ 30 _ _ rfl Try.call30 rfl (ok_wherryref18_in f.Offset 0 5000 _ hv15) rfl rfl),
            st_plain rfl (op_pick _ _ true _ rfl rfl),
            st_plain rfl (op_move _ _ _ _ (congrArg (fun b => AV.v (Value.bool b)) hg11_6) rfl),
            st_run 6 44 true rfl rfl rfl (List.Mem.head _) (op_fieldAddr _ _ _ _ 1 0 _ Try.underlying26 rfl sz3 rfl rfl (by decide)),
            st_run 6 44 true rfl rfl rfl (List.Mem.head _) (op_load _ _ _ _ _ _ Try.underlying3 rfl rfl rfl (Nat.le_of_ble_eq_true rfl) rfl rfl rfl),
            st_run 6 44 true rfl rfl rfl (List.Mem.head _) (op_call _ _ 30 _ _ rfl Try.call30 rfl (ok_wherryref18_in f.Seq 0 7 _ hv16) rfl rfl),
            st_plain rfl (op_pick _ _ true _ rfl rfl),
            st_plain rfl (op_move _ _ _ _ (congrArg (fun b => AV.v (Value.bool b)) hg11_11) rfl),
            st_skip 11 49 _ true rfl rfl rfl rfl (List.Mem.head _),
            st_skip 11 49 _ true rfl rfl rfl rfl (List.Mem.head _),
            st_skip 11 49 _ true rfl rfl rfl rfl (List.Mem.head _),
            st_skip 11 49 _ true rfl rfl rfl rfl (List.Mem.head _),
            st_plain rfl (op_pick _ _ false _ rfl rfl),
            st_plain rfl (LOp.drop [_] (op_assign _ _ _ _ rfl rfl)),
            trivial⟩ ?_
           exact hl108 _ (Option.some.inj h).symm
         ·refine ht_seqR hn (El := (_ :: _ :: _ :: (38, .v (.bool v1)) :: (39, .v (.bool true)) :: (40, .ptr 1 2) :: (41, .v (.int .i64 f.Offset)) :: (42, .v (.bool v15)) :: (43, .v (.bool v15)) :: (44, .v (.bool false)) :: (45, .v undef) :: (46, .v undef) :: (47, .v undef) :: (48, .v (.bool false)) :: (49, .v (.bool false)) :: (50, .v undef) :: (51, .v undef) :: (52, .v undef) :: (53, .v undef) :: (54, .v (.bool false)) :: (4, .v (.bool false)) :: [])) (init := [0, 1, 2]) (fin := [0, 1, 20]) (sps := (⟨[2], [], [3], [(.slot 38)]⟩ :: ⟨[3], [], [4], [(.slot 39)]⟩ :: ⟨[4, 0], [], [5], [(.slot 40)]⟩ :: ⟨[4, 5, 0], [], [6], [(.slot 41)]⟩ :: ⟨[4, 6], [], [7], [(.slot 42)]⟩ :: ⟨[4, 7], [], [8], [(.slot 43)]⟩ :: ⟨[8], [], [9], [(.slot 44)]⟩ :: ⟨[9], [], [10], [(.slot 45)]⟩ :: ⟨[9], [], [11], [(.slot 46)]⟩ :: ⟨[9], [], [12], [(.slot 47)]⟩ :: ⟨[9], [], [13], [(.slot 48)]⟩ :: ⟨[13], [], [14], [(.slot 49)]⟩ :: ⟨[14], [], [15], [(.slot 50)]⟩ :: ⟨[14], [], [16], [(.slot 51)]⟩ :: ⟨[14], [], [17], [(.slot 52)]⟩ :: ⟨[14], [], [18], [(.slot 53)]⟩ :: ⟨[14], [], [19], [(.slot 54)]⟩ :: ⟨[19], [2], [20], [(.slot 4)]⟩ :: [])) (es' := [(_, _), (_, _), (4, .v (.bool false))]) (by kernel_rfl) rfl rfl
           ⟨st_plain rfl (op_move _ _ _ _ rfl rfl),
           st_plain rfl (op_move _ _ _ _ (congrArg (fun b => AV.v (Value.bool b)) hg11_1) rfl),
           st_run 1 39 true rfl rfl rfl (List.Mem.head _) (op_fieldAddr _ _ _ _ 1 0 _ Try.underlying26 rfl sz3 rfl rfl (by decide)),
           st_run 1 39 true rfl rfl rfl (List.Mem.head _) (op_load _ _ _ _ _ _ Try.underlying3 rfl rfl rfl (Nat.le_of_ble_eq_true rfl) rfl rfl rfl),
           st_run 1 39 true rfl rfl rfl (List.Mem.head _) (op_call _ _ 30 _ _ rfl Try.call30 rfl (ok_wherryref18_in f.Offset 0 5000 _ hv15) rfl rfl),
           st_plain rfl (op_pick _ _ true _ rfl rfl),
           st_plain rfl (op_move _ _ _ _ (congrArg (fun b => AV.v (Value.bool b)) hg11_6) rfl),
           st_skip 6 44 _ true rfl rfl rfl rfl (List.Mem.head _),
           st_skip 6 44 _ true rfl rfl rfl rfl (List.Mem.head _),
           st_skip 6 44 _ true rfl rfl rfl rfl (List.Mem.head _),
           st_plain rfl (op_pick _ _ false _ rfl rfl),
           st_plain rfl (op_move _ _ _ _ rfl rfl),
           st_skip 11 49 _ true rfl rfl rfl rfl (List.Mem.head _),
           st_skip 11 49 _ true rfl rfl rfl rfl (List.Mem.head _),
           st_skip 11 49 _ true rfl rfl rfl rfl (List.Mem.head _),
           st_skip 11 49 _ true rfl rfl rfl rfl (List.Mem.head _),
           st_plain rfl (op_pick _ _ false _ rfl rfl),
           st_plain rfl (LOp.drop [_] (op_assign _ _ _ _ rfl rfl)),
           trivial⟩ ?_
          exact hl108 _ (Option.some.inj h).symm
        ·refine ht_seqR hn (El := (_ :: _ :: _ :: (38, .v (.bool v1)) :: (39, .v (.bool false)) :: (40, .v undef) :: (41, .v undef) :: (42, .v undef) :: (43, .v (.bool false)) :: (44, .v (.bool false)) :: (45, .v undef) :: (46, .v undef) :: (47, .v undef) :: (48, .v (.bool false)) :: (49, .v (.bool false)) :: (50, .v undef) :: (51, .v undef) :: (52, .v undef) :: (53, .v undef) :: (54, .v (.bool false)) :: (4, .v (.bool false)) :: [])) (init := [0, 1, 2]) (fin := [0, 1, 20]) (sps := (⟨[2], [], [3], [(.slot 38)]⟩ :: ⟨[3], [], [4], [(.slot 39)]⟩ :: ⟨[4], [], [5], [(.slot 40)]⟩ :: ⟨[4], [], [6], [(.slot 41)]⟩ :: ⟨[4], [], [7], [(.slot 42)]⟩ :: ⟨[4], [], [8], [(.slot 43)]⟩ :: ⟨[8], [], [9], [(.slot 44)]⟩ :: ⟨[9], [], [10], [(.slot 45)]⟩ :: ⟨[9], [], [11], [(.slot 46)]⟩ :: ⟨[9], [], [12], [(.slot 47)]⟩ :: ⟨[9], [], [13], [(.slot 48)]⟩ :: ⟨[13], [], [14], [(.slot 49)]⟩ :: ⟨[14], [], [15], [(.slot 50)]⟩ :: ⟨[14], [], [16], [(.slot 51)]⟩ :: ⟨[14], [], [17], [(.slot 52)]⟩ :: ⟨[14], [], [18], [(.slot 53)]⟩ :: ⟨[14], [], [19], [(.slot 54)]⟩ :: ⟨[19], [2], [20], [(.slot 4)]⟩ :: [])) (es' := [(_, _), (_, _), (4, .v (.bool false))]) (by kernel_rfl) rfl rfl
          ⟨st_plain rfl (op_move _ _ _ _ rfl rfl),
          st_plain rfl (op_move _ _ _ _ (congrArg (fun b => AV.v (Value.bool b)) hg11_1) rfl),
          st_skip 1 39 _ true rfl rfl rfl rfl (List.Mem.head _),
          st_skip 1 39 _ true rfl rfl rfl rfl (List.Mem.head _),
          st_skip 1 39 _ true rfl rfl rfl rfl (List.Mem.head _),
          st_plain rfl (op_pick _ _ false _ rfl rfl),
          st_plain rfl (op_move _ _ _ _ rfl rfl),
          st_skip 6 44 _ true rfl rfl rfl rfl (List.Mem.head _),
          st_skip 6 44 _ true rfl rfl rfl rfl (List.Mem.head _),
          st_skip 6 44 _ true rfl rfl rfl rfl (List.Mem.head _),
          st_plain rfl (op_pick _ _ false _ rfl rfl),
          st_plain rfl (op_move _ _ _ _ rfl rfl),
          st_skip 11 49 _ true rfl rfl rfl rfl (List.Mem.head _),
          st_skip 11 49 _ true rfl rfl rfl rfl (List.Mem.head _),
          st_skip 11 49 _ true rfl rfl rfl rfl (List.Mem.head _),
          st_skip 11 49 _ true rfl rfl rfl rfl (List.Mem.head _),
          st_plain rfl (op_pick _ _ false _ rfl rfl),
          st_plain rfl (LOp.drop [_] (op_assign _ _ _ _ rfl rfl)),
          trivial⟩ ?_
         exact hl108 _ (Option.some.inj h).symm
      ·have h := cond_f hb105 h
       refine ht_seq ?_
       refine ht_seqR hn (El := [_, _, _, _, _, (56, .v (.bool (f.Kind == 4))), (55, .v (.bool (f.Kind == 4)))]) (init := [0, 1, 2, 3, 4]) (fin := [0, 1, 2, 3, 6]) (sps := [⟨[3], [], [5], [(.slot 56)]⟩, ⟨[5], [], [6], [(.slot 55)]⟩]) (es' := [(_, _), (_, _), (_, _), (_, _), (55, .v (.bool (f.Kind == 4)))]) (by kernel_rfl) rfl rfl
        ⟨st_plain rfl (op_bin _ _ _ _ _ rfl rfl rfl),
        st_plain rfl (op_assign _ _ _ _ rfl rfl),
        trivial⟩ ?_
       refine pt_then ?_
       refine ht_cond _ rfl (fun hb110 => ?_) (fun hb110 => ?_)
       ·have h := cond_t hb110 h
        refine ht_seq ?_
        refine ht_seqR hn (El := [_, _, _, _, _, (57, .ptr 1 3), (58, .v (.int .i64 f.Seq)), (59, .ptr 3 3), (3, .box 26 [.v (.int .i64 f.Kind), .v (.int .i64 f.Number), .v (.int .i64 0), .v (.int .i64 f.Seq), .v (.slice none 0 0)])]) (init := [0, 1, 2, 3, 4]) (fin := [0, 8, 2]) (sps := [⟨[0], [], [5], [(.slot 57)]⟩, ⟨[5, 0], [], [6], [(.slot 58)]⟩, ⟨[1], [], [7], [(.slot 59)]⟩, ⟨[7, 6], [1], [8], [.cell 3 3]⟩]) (es' := [(_, _), (3, .box 26 [.v (.int .i64 f.Kind), .v (.int .i64 f.Number), .v (.int .i64 0), .v (.int .i64 f.Seq), .v (.slice none 0 0)]), (_, _)]) (by kernel_rfl) rfl rfl
         ⟨st_plain rfl (op_fieldAddr _ _ _ _ 1 0 _ Try.underlying26 rfl sz3 rfl rfl (by decide)),
         st_plain rfl (op_load _ _ _ _ _ _ Try.underlying3 rfl rfl rfl (Nat.le_of_ble_eq_true rfl) rfl rfl rfl),
         st_plain rfl (op_fieldAddr _ _ _ _ 3 0 _ Try.underlying26 rfl sz3 rfl rfl (by decide)),
         st_plain rfl (op_store _ _ _ _ _ _ _ _ sz3 rfl rfl rfl rfl (Nat.le_of_ble_eq_true rfl) rfl rfl),
         trivial⟩ ?_
        refine pt_then ?_
        refine ht_joinS h (fun (s111 : Bool) => [(1, .box 26 [.v (.int .i64 f.Kind), .v (.int .i64 f.Number), .v (.int .i64 f.Offset), .v (.int .i64 f.Seq), .fl .shr 1 (List.map (Value.int .u8) f.Data)]), (3, .box 26 [.v (.int .i64 f.Kind), .v (.int .i64 f.Number), .v (.int .i64 0), .v (.int .i64 f.Seq), .v (.slice none 0 0)]), (4, .v (.bool s111))]) ?_ ?_
        ·rintro s111 h
         refine pt_inb ?_
         refine pt_sub (fs := [(1, .box 26 [.v (.int .i64 f.Kind), .v (.int .i64 f.Number), .v (.int .i64 f.Offset), .v (.int .i64 f.Seq), .fl .shr 1 (List.map (Value.int .u8) f.Data)]), (3, .box 26 [.v (.int .i64 f.Kind), .v (.int .i64 f.Number), .v (.int .i64 0), .v (.int .i64 f.Seq), .fl .shr 1 (List.map (Value.int .u8) [])]), (4, .v (.bool s111))]) (.same _ (.box _ _ (subs_cons (sub_refl _) (subs_cons (sub_refl _) (subs_cons (sub_refl _) (subs_cons (sub_refl _) (subs_cons (sub_nil_shr 1) (subs_nil)))))) rfl (.same _ .nil))) ?_
         exact hl92 _ (Option.some.inj h).symm
        ·intro u112 h hl113 hr114
         refine cond_some h (fun hg14_1 h => ?_) (fun hg14_1 h => ?_)
         ·obtain ⟨v23, hv23, h⟩ := bind_some h
          refine ht_seqR hn (El := [_, _, _, (60, .v (.bool v1)), (61, .v (.bool true)), (62, .ptr 1 3), (63, .v (.int .i64 f.Seq)), (64, .v (.bool v23)), (65, .v (.bool v23)), (4, .v (.bool v23))]) (init := [0, 1, 2]) (fin := [0, 1, 9]) (sps := [⟨[2], [], [3], [(.slot 60)]⟩, ⟨[3], [], [4], [(.slot 61)]⟩, ⟨[4, 0], [], [5], [(.slot 62)]⟩, ⟨[4, 5, 0], [], [6], [(.slot 63)]⟩, ⟨[4, 6], [], [7], [(.slot 64)]⟩, ⟨[4, 7], [], [8], [(.slot 65)]⟩, ⟨[8], [2], [9], [(.slot 4)]⟩]) (es' := [(_, _), (_, _), (4, .v (.bool v23))]) (by kernel_rfl) rfl rfl
           ⟨st_plain rfl (op_move _ _ _ _ rfl rfl),
           st_plain rfl (op_move _ _ _ _ (congrArg (fun b => AV.v (Value.bool b)) hg14_1) rfl),
           st_run 1 61 true rfl rfl rfl (List.Mem.head _) (op_fieldAddr _ _ _ _ 1 0 _ Try.underlying26 rfl sz3 rfl rfl (by decide)),
           st_run 1 61 true rfl rfl rfl (List.Mem.head _) (op_load _ _ _ _ _ _ Try.underlying3 rfl rfl rfl (Nat.le_of_ble_eq_true rfl) rfl rfl rfl),
           st_run 1 61 true rfl rfl rfl (List.Mem.head _) (op_call _ _ 30 _ _ rfl Try.call30 rfl (ok_wherryref18_in f.Seq 0 7 _ hv23) rfl rfl),
           st_plain rfl (op_pick _ _ true _ rfl rfl),
           st_plain rfl (LOp.drop [_] (op_assign _ _ _ _ rfl rfl)),
           trivial⟩ ?_
          exact hl113 _ (Option.some.inj h).symm
         ·refine ht_seqR hn (El := [_, _, _, (60, .v (.bool v1)), (61, .v (.bool false)), (62, .v undef), (63, .v undef), (64, .v undef), (65, .v (.bool false)), (4, .v (.bool false))]) (init := [0, 1, 2]) (fin := [0, 1, 9]) (sps := [⟨[2], [], [3], [(.slot 60)]⟩, ⟨[3], [], [4], [(.slot 61)]⟩, ⟨[4], [], [5], [(.slot 62)]⟩, ⟨[4], [], [6], [(.slot 63)]⟩, ⟨[4], [], [7], [(.slot 64)]⟩, ⟨[4], [], [8], [(.slot 65)]⟩, ⟨[8], [2], [9], [(.slot 4)]⟩]) (es' := [(_, _), (_, _), (4, .v (.bool false))]) (by kernel_rfl) rfl rfl
           ⟨st_plain rfl (op_move _ _ _ _ rfl rfl),
           st_plain rfl (op_move _ _ _ _ (congrArg (fun b => AV.v (Value.bool b)) hg14_1) rfl),
           st_skip 1 61 _ true rfl rfl rfl rfl (List.Mem.head _),
           st_skip 1 61 _ true rfl rfl rfl rfl (List.Mem.head _),
           st_skip 1 61 _ true rfl rfl rfl rfl (List.Mem.head _),
           st_plain rfl (op_pick _ _ false _ rfl rfl),
           st_plain rfl (LOp.drop [_] (op_assign _ _ _ _ rfl rfl)),
           trivial⟩ ?_
          exact hl113 _ (Option.some.inj h).symm
       ·have h := cond_f hb110 h
        refine ht_seq ?_
        refine ht_seqR hn (El := [_, _, _, _, _, (67, .v (.bool (f.Kind == 5))), (66, .v (.bool (f.Kind == 5)))]) (init := [0, 1, 2, 3, 4]) (fin := [0, 1, 2, 6]) (sps := [⟨[3], [], [5], [(.slot 67)]⟩, ⟨[5], [], [6], [(.slot 66)]⟩]) (es' := [(_, _), (_, _), (_, _), (66, .v (.bool (f.Kind == 5)))]) (by kernel_rfl) rfl rfl
         ⟨st_plain rfl (op_bin _ _ _ _ _ rfl rfl rfl),
         st_plain rfl (op_assign _ _ _ _ rfl rfl),
         trivial⟩ ?_
        refine pt_then ?_
        refine ht_cond _ rfl (fun hb115 => ?_) (fun hb115 => ?_)
        ·have h := cond_t hb115 h
         refine ht_skip ?_
         refine pt_inb ?_
         refine pt_pick [0, 1, 2] (by kernel_rfl) (es' := [(_, _), (_, _), (_, _)]) rfl ?_
         refine pt_sub (fs := [(1, .box 26 [.v (.int .i64 f.Kind), .v (.int .i64 f.Number), .v (.int .i64 f.Offset), .v (.int .i64 f.Seq), .fl .shr 1 (List.map (Value.int .u8) f.Data)]), (3, .box 26 [.v (.int .i64 f.Kind), .v (.int .i64 f.Number), .v (.int .i64 0), .v (.int .i64 0), .fl .shr 1 (List.map (Value.int .u8) [])]), (4, .v (.bool v1))]) (.same _ (.box _ _ (subs_cons (sub_refl _) (subs_cons (sub_refl _) (subs_cons (sub_refl _) (subs_cons (sub_refl _) (subs_cons (sub_nil_shr 1) (subs_nil)))))) rfl (.same _ .nil))) ?_
         exact hl92 _ (Option.some.inj h).symm
        ·have h := cond_f hb115 h
         refine ht_seqR hn (El := [_, _, _, _, (4, .v (.bool false))]) (init := [0, 1, 2, 3]) (fin := [0, 1, 4]) (sps := [⟨[], [2], [4], [(.slot 4)]⟩]) (es' := [(_, _), (_, _), (4, .v (.bool false))]) (by kernel_rfl) rfl rfl
          ⟨st_plain rfl (LOp.drop [_] (op_assign _ _ _ _ rfl rfl)),
          trivial⟩ ?_
         refine pt_inb ?_
         refine pt_sub (fs := [(1, .box 26 [.v (.int .i64 f.Kind), .v (.int .i64 f.Number), .v (.int .i64 f.Offset), .v (.int .i64 f.Seq), .fl .shr 1 (List.map (Value.int .u8) f.Data)]), (3, .box 26 [.v (.int .i64 f.Kind), .v (.int .i64 f.Number), .v (.int .i64 0), .v (.int .i64 0), .fl .shr 1 (List.map (Value.int .u8) [])]), (4, .v (.bool false))]) (.same _ (.box _ _ (subs_cons (sub_refl _) (subs_cons (sub_refl _) (subs_cons (sub_refl _) (subs_cons (sub_refl _) (subs_cons (sub_nil_shr 1) (subs_nil)))))) rfl (.same _ .nil))) ?_
         exact hl92 _ (Option.some.inj h).symm
    ·intro u96 h hl97 hr98
     refine ht_seq ?_
     refine ht_seqR hn (El := [_, _, _, _, (16, .v (.bool (f.Kind == 1))), (15, .v (.bool (f.Kind == 1)))]) (init := [0, 1, 2, 3]) (fin := [0, 1, 2, 3, 5]) (sps := [⟨[3], [], [4], [(.slot 16)]⟩, ⟨[4], [], [5], [(.slot 15)]⟩]) (es' := [(_, _), (_, _), (_, _), (_, _), (15, .v (.bool (f.Kind == 1)))]) (by kernel_rfl) rfl rfl
      ⟨st_plain rfl (op_bin _ _ _ _ _ rfl rfl rfl),
      st_plain rfl (op_assign _ _ _ _ rfl rfl),
      trivial⟩ ?_
     refine pt_then ?_
     refine ht_cond _ rfl (fun hb99 => ?_) (fun hb99 => ?_)
     ·have h := cond_t hb99 h
      refine ht_skip ?_
      exact hl97 _ (Option.some.inj h).symm
     ·have h := cond_f hb99 h
      refine ht_seqR hn (El := [_, _, _, _, _, (17, .v (.bool (f.Kind == 2))), (15, .v (.bool (f.Kind == 2)))]) (init := [0, 1, 2, 3, 4]) (fin := [0, 1, 2, 3, 6]) (sps := [⟨[3], [], [5], [(.slot 17)]⟩, ⟨[5], [4], [6], [(.slot 15)]⟩]) (es' := [(_, _), (_, _), (_, _), (_, _), (15, .v (.bool (f.Kind == 2)))]) (by kernel_rfl) rfl rfl
       ⟨st_plain rfl (op_bin _ _ _ _ _ rfl rfl rfl),
       st_plain rfl (LOp.drop [_] (op_assign _ _ _ _ rfl rfl)),
       trivial⟩ ?_
      exact hl97 _ (Option.some.inj h).symm

set_option maxHeartbeats 1000000 in
theorem ok_frame_Check (f : T_Frame) (r : Int) (h : Sh.frame_Check f = some r) : FnOK Try.prog 36 [.agg [.v (.int .i64 f.Kind), .v (.int .i64 f.Number), .v (.int .i64 f.Offset), .v (.int .i64 f.Seq), .fl .shr 1 (List.map (Value.int .u8) f.Data)]] (.v (.int .i64 r)) := by
  unfold Sh.frame_Check at h
  refine fn_ok Try.func36 rfl (Nat.le_of_ble_eq_true rfl) rfl rfl fun g0 hn hio => ?_
  refine ht_seq ?_
  refine ht_seqR hn (El := [_, (1, .box 26 [.v (.int .i64 f.Kind), .v (.int .i64 f.Number), .v (.int .i64 f.Offset), .v (.int .i64 f.Seq), .fl .shr 1 (List.map (Value.int .u8) f.Data)]), (2, .v (.int .i64 0))]) (init := [0]) (fin := [1]) (sps := [⟨[0], [], [1], [(.slot 1)]⟩, ⟨[], [], [2], [(.slot 2)]⟩]) (es' := [(1, .box 26 [.v (.int .i64 f.Kind), .v (.int .i64 f.Number), .v (.int .i64 f.Offset), .v (.int .i64 f.Seq), .fl .shr 1 (List.map (Value.int .u8) f.Data)])]) (by kernel_rfl) rfl rfl
   ⟨st_plain rfl (op_box _ _ _ _ rfl rfl rfl),
   st_plain rfl (op_assign _ _ _ _ rfl rfl),
   trivial⟩ ?_
  refine pt_then ?_
  refine ht_seq ?_
  refine ht_anyR (by kernel_rfl) hn (El := [_, (9, .ptr 1 2), (10, .v (.int .i64 f.Offset)), (11, .v (.bool (f.Offset == 0))), (12, .ptr 1 3), (13, .v (.int .i64 f.Seq)), (14, .v (.bool (f.Seq == 0))), (15, .ptr 1 4), (16, .fl .shr 1 (List.map (Value.int .u8) f.Data)), (17, .v (.int .i64 (f.Data.length : Int))), (18, .v (.bool (((f.Data.length : Int) == 0)))), (3, .v (.bool (f.Offset == 0))), (4, .v (.bool (f.Seq == 0))), (5, .v (.bool (((f.Data.length : Int) == 0))))]) (init := [0]) (fin := [0, 11, 12, 13]) (sps := [⟨[0], [], [1], [(.slot 9)]⟩, ⟨[1, 0], [], [2], [(.slot 10)]⟩, ⟨[2], [], [3], [(.slot 11)]⟩, ⟨[0], [], [4], [(.slot 12)]⟩, ⟨[4, 0], [], [5], [(.slot 13)]⟩, ⟨[5], [], [6], [(.slot 14)]⟩, ⟨[0], [], [7], [(.slot 15)]⟩, ⟨[7, 0], [], [8], [(.slot 16)]⟩, ⟨[8], [], [9], [(.slot 17)]⟩, ⟨[9], [], [10], [(.slot 18)]⟩, ⟨[3], [], [11], [(.slot 3)]⟩, ⟨[6], [], [12], [(.slot 4)]⟩, ⟨[10], [], [13], [(.slot 5)]⟩]) (es' := [(_, _), (3, .v (.bool (f.Offset == 0))), (4, .v (.bool (f.Seq == 0))), (5, .v (.bool (((f.Data.length : Int) == 0))))]) (by kernel_rfl) rfl rfl
   ⟨st_plain rfl (op_fieldAddr _ _ _ _ 1 0 _ Try.underlying26 rfl sz3 rfl rfl (by decide)),
   st_plain rfl (op_load _ _ _ _ _ _ Try.underlying3 rfl rfl rfl (Nat.le_of_ble_eq_true rfl) rfl rfl rfl),
   st_plain rfl (op_bin _ _ _ _ _ rfl rfl rfl),
   st_plain rfl (op_fieldAddr _ _ _ _ 1 0 _ Try.underlying26 rfl sz3 rfl rfl (by decide)),
   st_plain rfl (op_load _ _ _ _ _ _ Try.underlying3 rfl rfl rfl (Nat.le_of_ble_eq_true rfl) rfl rfl rfl),
   st_plain rfl (op_bin _ _ _ _ _ rfl rfl rfl),
   st_plain rfl (op_fieldAddr _ _ _ _ 1 0 _ Try.underlying26 rfl sz22 rfl rfl (by decide)),
   st_plain rfl (op_load _ _ _ _ _ _ Try.underlying22 rfl rfl rfl (Nat.le_of_ble_eq_true rfl) rfl rfl rfl),
   st_plain rfl (op_len_fl _ _ _ Try.underlying22 rfl (by decide) (map_len _)),
   st_plain rfl (op_bin _ _ _ _ _ rfl rfl rfl),
   st_plain rfl (op_assign _ _ _ _ rfl rfl),
   st_plain rfl (op_assign _ _ _ _ rfl rfl),
   st_plain rfl (op_assign _ _ _ _ rfl rfl),
   trivial⟩ ?_
  refine pt_then ?_
  refine ht_seq ?_
  refine ht_joinS h (fun (s1 : Bool) => [(1, .box 26 [.v (.int .i64 f.Kind), .v (.int .i64 f.Number), .v (.int .i64 f.Offset), .v (.int .i64 f.Seq), .fl .shr 1 (List.map (Value.int .u8) f.Data)]), (3, .v (.bool (f.Offset == 0))), (4, .v (.bool (f.Seq == 0))), (5, .v (.bool (((f.Data.length : Int) == 0)))), (6, .v (.bool s1))]) ?_ ?_
  ·rintro s1 h
   refine pt_then ?_
   refine ht_seq ?_
   refine ht_joinS h (fun (s5 : Bool) => [(1, .box 26 [.v (.int .i64 f.Kind), .v (.int .i64 f.Number), .v (.int .i64 f.Offset), .v (.int .i64 f.Seq), .fl .shr 1 (List.map (Value.int .u8) f.Data)]), (3, .v (.bool (f.Offset == 0))), (4, .v (.bool (f.Seq == 0))), (5, .v (.bool (((f.Data.length : Int) == 0)))), (6, .v (.bool s1)), (7, .v (.bool s5))]) ?_ ?_
   ·rintro s5 h
    refine pt_then ?_
    refine ht_seq ?_
    refine ht_seqR hn (El := [_, _, _, _, _, _, (8, .v (.bool false))]) (init := [0, 1, 2, 3, 4, 5]) (fin := [0, 1, 2, 3, 4, 5, 6]) (sps := [⟨[], [], [6], [(.slot 8)]⟩]) (es' := [(_, _), (_, _), (_, _), (_, _), (_, _), (_, _), (8, .v (.bool false))]) (by kernel_rfl) rfl rfl
     ⟨st_plain rfl (op_assign _ _ _ _ rfl rfl),
     trivial⟩ ?_
    refine pt_then ?_
    refine ht_seq ?_
    refine ht_joinS h (fun (s65 : Bool) => [(1, .box 26 [.v (.int .i64 f.Kind), .v (.int .i64 f.Number), .v (.int .i64 f.Offset), .v (.int .i64 f.Seq), .fl .shr 1 (List.map (Value.int .u8) f.Data)]), (8, .v (.bool s65))]) ?_ ?_
    ·rintro s65 h
     refine pt_then ?_
     refine ht_seq ?_
     refine ht_seq ?_
     refine ht_joinS h (fun (s125 : Bool) => [(92, .v (.bool s125))]) ?_ ?_
     ·rintro s125 h
      refine pt_then ?_
      refine ht_cond _ rfl (fun hb129 => ?_) (fun hb129 => ?_)
      ·have h := cond_t hb129 h
       refine ht_seq ?_
       refine ht_seqR hn (El := [_, (2, .v (.int .i64 1))]) (init := [0]) (fin := [1]) (sps := [⟨[], [], [1], [(.slot 2)]⟩]) (es' := [(2, .v (.int .i64 1))]) (by kernel_rfl) rfl rfl
        ⟨st_plain rfl (op_assign _ _ _ _ rfl rfl),
        trivial⟩ ?_
       refine pt_then ?_
       refine ht_ret ?_
       refine pt_r_then ?_
       obtain rfl := Option.some.inj h
       exact pt_ret hio rfl (.tmp _ _ .nil) rfl rfl
      ·have h := cond_f hb129 h
       refine ht_skip ?_
       refine pt_then ?_
       refine ht_seq ?_
       refine ht_seqR hn (El := [_, (2, .v (.int .i64 0))]) (init := [0]) (fin := [1]) (sps := [⟨[], [], [1], [(.slot 2)]⟩]) (es' := [(2, .v (.int .i64 0))]) (by kernel_rfl) rfl rfl
        ⟨st_plain rfl (op_assign _ _ _ _ rfl rfl),
        trivial⟩ ?_
       refine pt_then ?_
       refine ht_ret ?_
       obtain rfl := Option.some.inj h
       exact pt_ret hio rfl (.tmp _ _ .nil) rfl rfl
     ·intro u126 h hl127 hr128
      refine cond_some h (fun hg15_2 h => ?_) (fun hg15_2 h => ?_)
      ·refine ht_seqR hn (El := [_, _, (81, .v (.bool s65)), (82, .v (.bool (!s65))), (83, .v (.bool true)), (84, .v undef), (85, .v undef), (86, .v undef), (87, .v (.bool true)), (88, .v (.bool true)), (89, .v undef), (90, .v undef), (91, .v undef), (92, .v (.bool true))]) (init := [0, 1]) (fin := [13]) (sps := [⟨[1], [], [2], [(.slot 81)]⟩, ⟨[2], [], [3], [(.slot 82)]⟩, ⟨[3], [], [4], [(.slot 83)]⟩, ⟨[4], [], [5], [(.slot 84)]⟩, ⟨[4], [], [6], [(.slot 85)]⟩, ⟨[4], [], [7], [(.slot 86)]⟩, ⟨[4], [], [8], [(.slot 87)]⟩, ⟨[8], [], [9], [(.slot 88)]⟩, ⟨[9], [], [10], [(.slot 89)]⟩, ⟨[9], [], [11], [(.slot 90)]⟩, ⟨[9], [], [12], [(.slot 91)]⟩, ⟨[9], [], [13], [(.slot 92)]⟩]) (es' := [(92, .v (.bool true))]) (by kernel_rfl) rfl rfl
        ⟨st_plain rfl (op_move _ _ _ _ rfl rfl),
        st_plain rfl (op_un _ _ _ _ rfl rfl),
        st_plain rfl (op_move _ _ _ _ (congrArg (fun b => AV.v (Value.bool b)) hg15_2) rfl),
        st_skip 2 83 _ false rfl rfl rfl rfl (List.Mem.head _),
        st_skip 2 83 _ false rfl rfl rfl rfl (List.Mem.head _),
        st_skip 2 83 _ false rfl rfl rfl rfl (List.Mem.head _),
        st_plain rfl (op_pick _ _ true _ rfl rfl),
        st_plain rfl (op_move _ _ _ _ rfl rfl),
        st_skip 7 88 _ false rfl rfl rfl rfl (List.Mem.head _),
        st_skip 7 88 _ false rfl rfl rfl rfl (List.Mem.head _),
        st_skip 7 88 _ false rfl rfl rfl rfl (List.Mem.head _),
        st_plain rfl (op_pick _ _ true _ rfl rfl),
        trivial⟩ ?_
       exact hl127 _ (Option.some.inj h).symm
      ·refine cond_some h (fun hg15_7 h => ?_) (fun hg15_7 h => ?_)
       ·refine ht_seqR hn (El := [_, _, (81, .v (.bool s65)), (82, .v (.bool (!s65))), (83, .v (.bool false)), (84, .ptr 1 1), (85, .v (.int .i64 f.Number)), (86, .v (.bool ((decide (f.Number < 1))))), (87, .v (.bool ((decide (f.Number < 1))))), (88, .v (.bool true)), (89, .v undef), (90, .v undef), (91, .v undef), (92, .v (.bool true))]) (init := [0, 1]) (fin := [13]) (sps := [⟨[1], [], [2], [(.slot 81)]⟩, ⟨[2], [], [3], [(.slot 82)]⟩, ⟨[3], [], [4], [(.slot 83)]⟩, ⟨[4, 0], [], [5], [(.slot 84)]⟩, ⟨[4, 5, 0], [], [6], [(.slot 85)]⟩, ⟨[4, 6], [], [7], [(.slot 86)]⟩, ⟨[4, 7], [], [8], [(.slot 87)]⟩, ⟨[8], [], [9], [(.slot 88)]⟩, ⟨[9], [], [10], [(.slot 89)]⟩, ⟨[9], [], [11], [(.slot 90)]⟩, ⟨[9], [], [12], [(.slot 91)]⟩, ⟨[9], [], [13], [(.slot 92)]⟩]) (es' := [(92, .v (.bool true))]) (by kernel_rfl) rfl rfl
         ⟨st_plain rfl (op_move _ _ _ _ rfl rfl),
         st_plain rfl (op_un _ _ _ _ rfl rfl),
         st_plain rfl (op_move _ _ _ _ (congrArg (fun b => AV.v (Value.bool b)) hg15_2) rfl),
         st_run 2 83 false rfl rfl rfl (List.Mem.head _) (op_fieldAddr _ _ _ _ 1 0 _ Try.underlying26 rfl sz3 rfl rfl (by decide)),
         st_run 2 83 false rfl rfl rfl (List.Mem.head _) (op_load _ _ _ _ _ _ Try.underlying3 rfl rfl rfl (Nat.le_of_ble_eq_true rfl) rfl rfl rfl),
         st_run 2 83 false rfl rfl rfl (List.Mem.head _) (op_bin _ _ _ _ _ rfl rfl rfl),
         st_plain rfl (op_pick _ _ false _ rfl rfl),
         st_plain rfl (op_move _ _ _ _ (congrArg (fun b => AV.v (Value.bool b)) hg15_7) rfl),
         st_skip 7 88 _ false rfl rfl rfl rfl (List.Mem.head _),
         st_skip 7 88 _ false rfl rfl rfl rfl (List.Mem.head _),
         st_skip 7 88 _ false rfl rfl rfl rfl (List.Mem.head _),
         st_plain rfl (op_pick _ _ true _ rfl rfl),
         trivial⟩ ?_
        exact hl127 _ (Option.some.inj h).symm
       ·refine ht_seqR hn (El := [_, _, (81, .v (.bool s65)), (82, .v (.bool (!s65))), (83, .v (.bool false)), (84, .ptr 1 1), (85, .v (.int .i64 f.Number)), (86, .v (.bool ((decide (f.Number < 1))))), (87, .v (.bool ((decide (f.Number < 1))))), (88, .v (.bool false)), (89, .ptr 1 1), (90, .v (.int .i64 f.Number)), (91, .v (.bool ((decide (65535 < f.Number))))), (92, .v (.bool ((decide (65535 < f.Number)))))]) (init := [0, 1]) (fin := [13]) (sps := [⟨[1], [], [2], [(.slot 81)]⟩, ⟨[2], [], [3], [(.slot 82)]⟩, ⟨[3], [], [4], [(.slot 83)]⟩, ⟨[4, 0], [], [5], [(.slot 84)]⟩, ⟨[4, 5, 0], [], [6], [(.slot 85)]⟩, ⟨[4, 6], [], [7], [(.slot 86)]⟩, ⟨[4, 7], [], [8], [(.slot 87)]⟩, ⟨[8], [], [9], [(.slot 88)]⟩, ⟨[9, 0], [], [10], [(.slot 89)]⟩, ⟨[9, 10, 0], [], [11], [(.slot 90)]⟩, ⟨[9, 11], [], [12], [(.slot 91)]⟩, ⟨[9, 12], [], [13], [(.slot 92)]⟩]) (es' := [(92, .v (.bool ((decide (65535 < f.Number)))))]) (by kernel_rfl) rfl rfl
         ⟨st_plain rfl (op_move _ _ _ _ rfl rfl),
         st_plain rfl (op_un _ _ _ _ rfl rfl),
         st_plain rfl (op_move _ _ _ _ (congrArg (fun b => AV.v (Value.bool b)) hg15_2) rfl),
         st_run 2 83 false rfl rfl rfl (List.Mem.head _) (op_fieldAddr _ _ _ _ 1 0 _ Try.underlying26 rfl sz3 rfl rfl (by decide)),
         st_run 2 83 false rfl rfl rfl (List.Mem.head _) (op_load _ _ _ _ _ _ Try.underlying3 rfl rfl rfl (Nat.le_of_ble_eq_true rfl) rfl rfl rfl),
         st_run 2 83 false rfl rfl rfl (List.Mem.head _) (op_bin _ _ _ _ _ rfl rfl rfl),
         st_plain rfl (op_pick _ _ false _ rfl rfl),
         st_plain rfl (op_move _ _ _ _ (congrArg (fun b => AV.v (Value.bool b)) hg15_7) rfl),
         st_run 7 88 false rfl rfl rfl (List.Mem.head _) (op_fieldAddr _ _ _ _ 1 0 _ Try.underlying26 rfl sz3 rfl rfl (by decide)),
         st_run 7 88 false rfl rfl rfl (List.Mem.head _) (op_load _ _ _ _ _ _ Try.underlying3 rfl rfl rfl (Nat.le_of_ble_eq_true rfl) rfl rfl rfl),
         st_run 7 88 false rfl rfl rfl (List.Mem.head _) (op_bin _ _ _ _ _ rfl rfl rfl),
         st_plain rfl (op_pick _ _ false _ rfl rfl),
         trivial⟩ ?_
        exact hl127 _ (Option.some.inj h).symm
    ·intro u66 h hl67 hr68
     refine ht_seq ?_
     refine ht_seqR hn (El := [_, _, _, _, _, _, _, (35, .ptr 1 0), (36, .v (.int .i64 f.Kind))]) (init := [0, 1, 2, 3, 4, 5, 6]) (fin := [0, 1, 2, 3, 4, 5, 6, 8]) (sps := [⟨[0], [], [7], [(.slot 35)]⟩, ⟨[7, 0], [], [8], [(.slot 36)]⟩]) (es' := [(_, _), (_, _), (_, _), (_, _), (_, _), (_, _), (_, _), (36, .v (.int .i64 f.Kind))]) (by kernel_rfl) rfl rfl
      ⟨st_plain rfl (op_fieldAddr _ _ _ _ 1 0 _ Try.underlying26 rfl sz3 rfl rfl (by decide)),
      st_plain rfl (op_load _ _ _ _ _ _ Try.underlying3 rfl rfl rfl (Nat.le_of_ble_eq_true rfl) rfl rfl rfl),
      trivial⟩ ?_
     refine pt_then ?_
     refine ht_joinS h (fun (s95 : Bool) => [(1, .box 26 [.v (.int .i64 f.Kind), .v (.int .i64 f.Number), .v (.int .i64 f.Offset), .v (.int .i64 f.Seq), .fl .shr 1 (List.map (Value.int .u8) f.Data)]), (8, .v (.bool s95))]) ?_ ?_
     ·rintro s95 h
      exact hl67 _ (Option.some.inj h).symm
     ·intro u96 h hl97 hr98
      refine ht_block ?_
      refine ht_seq ?_
      refine ht_joinS h (fun (s100 : Bool) => [(1, .box 26 [.v (.int .i64 f.Kind), .v (.int .i64 f.Number), .v (.int .i64 f.Offset), .v (.int .i64 f.Seq), .fl .shr 1 (List.map (Value.int .u8) f.Data)]), (3, .v (.bool (f.Offset == 0))), (4, .v (.bool (f.Seq == 0))), (5, .v (.bool (((f.Data.length : Int) == 0)))), (6, .v (.bool s1)), (7, .v (.bool s5)), (8, .v (.bool false)), (36, .v (.int .i64 f.Kind)), (37, .v (.bool s100))]) ?_ ?_
      ·rintro s100 h
       refine pt_then ?_
       refine ht_cond _ rfl (fun hb105 => ?_) (fun hb105 => ?_)
       ·have h := cond_t hb105 h
        refine ht_joinS h (fun (s106 : Bool) => [(1, .box 26 [.v (.int .i64 f.Kind), .v (.int .i64 f.Number), .v (.int .i64 f.Offset), .v (.int .i64 f.Seq), .fl .shr 1 (List.map (Value.int .u8) f.Data)]), (8, .v (.bool s106))]) ?_ ?_
        ·rintro s106 h
         refine pt_inb ?_
         exact hl97 _ (Option.some.inj h).symm
        ·intro u107 h hl108 hr109
         refine cond_some h (fun hg8_1 h => ?_) (fun hg8_1 h => ?_)
         ·refine cond_some h (fun hg8_4 h => ?_) (fun hg8_4 h => ?_)
          ·refine ht_seqR hn (El := (_ :: _ :: _ :: _ :: _ :: _ :: _ :: _ :: _ :: (40, .v (.bool s1)) :: (41, .v (.bool true)) :: (42, .v (.bool (f.Seq == 0))) :: (43, .v (.bool (f.Seq == 0))) :: (44, .v (.bool true)) :: (45, .v (.bool (((f.Data.length : Int) == 0)))) :: (46, .v (.bool (((f.Data.length : Int) == 0)))) :: (8, .v (.bool (((f.Data.length : Int) == 0)))) :: [])) (init := [0, 1, 2, 3, 4, 5, 6, 7, 8]) (fin := [0, 16]) (sps := [⟨[4], [], [9], [(.slot 40)]⟩, ⟨[9], [], [10], [(.slot 41)]⟩, ⟨[10, 2], [], [11], [(.slot 42)]⟩, ⟨[10, 11], [], [12], [(.slot 43)]⟩, ⟨[12], [], [13], [(.slot 44)]⟩, ⟨[13, 3], [], [14], [(.slot 45)]⟩, ⟨[13, 14], [], [15], [(.slot 46)]⟩, ⟨[15], [6], [16], [(.slot 8)]⟩]) (es' := [(_, _), (8, .v (.bool (((f.Data.length : Int) == 0))))]) (by kernel_rfl) rfl rfl
            ⟨st_plain rfl (op_move _ _ _ _ rfl rfl),
            st_plain rfl (op_move _ _ _ _ (congrArg (fun b => AV.v (Value.bool b)) hg8_1) rfl),
            st_run 1 41 true rfl rfl rfl (List.Mem.head _) (op_move _ _ _ _ rfl rfl),
            st_plain rfl (op_pick _ _ true _ rfl rfl),
            st_plain rfl (op_move _ _ _ _ (congrArg (fun b => AV.v (Value.bool b)) hg8_4) rfl),
            st_run 4 44 true rfl rfl rfl (List.Mem.head _) (op_move _ _ _ _ rfl rfl),
            st_plain rfl (op_pick _ _ true _ rfl rfl),
            st_plain rfl (LOp.drop [_] (op_assign _ _ _ _ rfl rfl)),
            trivial⟩ ?_
           exact hl108 _ (Option.some.inj h).symm
          ·refine ht_seqR hn (El := (_ :: _ :: _ :: _ :: _ :: _ :: _ :: _ :: _ :: (40, .v (.bool s1)) :: (41, .v (.bool true)) :: (42, .v (.bool (f.Seq == 0))) :: (43, .v (.bool (f.Seq == 0))) :: (44, .v (.bool false)) :: (45, .v undef) :: (46, .v (.bool false)) :: (8, .v (.bool false)) :: [])) (init := [0, 1, 2, 3, 4, 5, 6, 7, 8]) (fin := [0, 16]) (sps := [⟨[4], [], [9], [(.slot 40)]⟩, ⟨[9], [], [10], [(.slot 41)]⟩, ⟨[10, 2], [], [11], [(.slot 42)]⟩, ⟨[10, 11], [], [12], [(.slot 43)]⟩, ⟨[12], [], [13], [(.slot 44)]⟩, ⟨[13], [], [14], [(.slot 45)]⟩, ⟨[13], [], [15], [(.slot 46)]⟩, ⟨[15], [6], [16], [(.slot 8)]⟩]) (es' := [(_, _), (8, .v (.bool false))]) (by kernel_rfl) rfl rfl
            ⟨st_plain rfl (op_move _ _ _ _ rfl rfl),
            st_plain rfl (op_move _ _ _ _ (congrArg (fun b => AV.v (Value.bool b)) hg8_1) rfl),
            st_run 1 41 true rfl rfl rfl (List.Mem.head _) (op_move _ _ _ _ rfl rfl),
            st_plain rfl (op_pick _ _ true _ rfl rfl),
            st_plain rfl (op_move _ _ _ _ (congrArg (fun b => AV.v (Value.bool b)) hg8_4) rfl),
            st_skip 4 44 _ true rfl rfl rfl rfl (List.Mem.head _),
            st_plain rfl (op_pick _ _ false _ rfl rfl),
            st_plain rfl (LOp.drop [_] (op_assign _ _ _ _ rfl rfl)),
            trivial⟩ ?_
           exact hl108 _ (Option.some.inj h).symm
         ·refine ht_seqR hn (El := (_ :: _ :: _ :: _ :: _ :: _ :: _ :: _ :: _ :: (40, .v (.bool s1)) :: (41, .v (.bool false)) :: (42, .v undef) :: (43, .v (.bool false)) :: (44, .v (.bool false)) :: (45, .v undef) :: (46, .v (.bool false)) :: (8, .v (.bool false)) :: [])) (init := [0, 1, 2, 3, 4, 5, 6, 7, 8]) (fin := [0, 16]) (sps := [⟨[4], [], [9], [(.slot 40)]⟩, ⟨[9], [], [10], [(.slot 41)]⟩, ⟨[10], [], [11], [(.slot 42)]⟩, ⟨[10], [], [12], [(.slot 43)]⟩, ⟨[12], [], [13], [(.slot 44)]⟩, ⟨[13], [], [14], [(.slot 45)]⟩, ⟨[13], [], [15], [(.slot 46)]⟩, ⟨[15], [6], [16], [(.slot 8)]⟩]) (es' := [(_, _), (8, .v (.bool false))]) (by kernel_rfl) rfl rfl
           ⟨st_plain rfl (op_move _ _ _ _ rfl rfl),
           st_plain rfl (op_move _ _ _ _ (congrArg (fun b => AV.v (Value.bool b)) hg8_1) rfl),
           st_skip 1 41 _ true rfl rfl rfl rfl (List.Mem.head _),
           st_plain rfl (op_pick _ _ false _ rfl rfl),
           st_plain rfl (op_move _ _ _ _ rfl rfl),
           st_skip 4 44 _ true rfl rfl rfl rfl (List.Mem.head _),
           st_plain rfl (op_pick _ _ false _ rfl rfl),
           st_plain rfl (LOp.drop [_] (op_assign _ _ _ _ rfl rfl)),
           trivial⟩ ?_
          exact hl108 _ (Option.some.inj h).symm
       ·have h := cond_f hb105 h
        refine ht_seq ?_
        refine ht_seqR hn (El := [_, _, _, _, _, _, _, _, _, (48, .v (.bool (f.Kind == 3))), (47, .v (.bool (f.Kind == 3)))]) (init := [0, 1, 2, 3, 4, 5, 6, 7, 8]) (fin := [0, 1, 2, 3, 4, 5, 6, 7, 10]) (sps := [⟨[7], [], [9], [(.slot 48)]⟩, ⟨[9], [], [10], [(.slot 47)]⟩]) (es' := [(_, _), (_, _), (_, _), (_, _), (_, _), (_, _), (_, _), (_, _), (47, .v (.bool (f.Kind == 3)))]) (by kernel_rfl) rfl rfl
         ⟨st_plain rfl (op_bin _ _ _ _ _ rfl rfl rfl),
         st_plain rfl (op_assign _ _ _ _ rfl rfl),
         trivial⟩ ?_
        refine pt_then ?_
        refine ht_cond _ rfl (fun hb110 => ?_) (fun hb110 => ?_)
        ·have h := cond_t hb110 h
         refine ht_joinS h (fun (s111 : Bool) => [(1, .box 26 [.v (.int .i64 f.Kind), .v (.int .i64 f.Number), .v (.int .i64 f.Offset), .v (.int .i64 f.Seq), .fl .shr 1 (List.map (Value.int .u8) f.Data)]), (8, .v (.bool s111))]) ?_ ?_
         ·rintro s111 h
          refine pt_inb ?_
          exact hl97 _ (Option.some.inj h).symm
         ·intro u112 h hl113 hr114
          refine cond_some h (fun hg10_1 h => ?_) (fun hg10_1 h => ?_)
          ·refine cond_some h (fun hg10_4 h => ?_) (fun hg10_4 h => ?_)
           ·refine cond_some h (fun hg10_8 h => ?_) (fun hg10_8 h => ?_)
            ·refine ht_seqR hn (El := (_ :: _ :: _ :: _ :: _ :: _ :: _ :: _ :: _ :: (49, .v (.bool s1)) :: (50, .v (.bool true)) :: (51, .v (.bool s5)) :: (52, .v (.bool s5)) :: (53, .v (.bool true)) :: (54, .v (.bool (((f.Data.length : Int) == 0)))) :: (55, .v (.bool ((!(((f.Data.length : Int) == 0)))))) :: (56, .v (.bool ((!(((f.Data.length : Int) == 0)))))) :: (57, .v (.bool true)) :: (58, .ptr 1 4) :: (59, .fl .shr 1 (List.map (Value.int .u8) f.Data)) :: (60, .v (.int .i64 (f.Data.length : Int))) :: (61, .v (.bool ((decide ((f.Data.length : Int) ≤ 48))))) :: (62, .v (.bool ((decide ((f.Data.length : Int) ≤ 48))))) :: (8, .v (.bool ((decide ((f.Data.length : Int) ≤ 48))))) :: [])) (init := [0, 1, 2, 3, 4, 5, 6, 7, 8]) (fin := [0, 23]) (sps := (⟨[4], [], [9], [(.slot 49)]⟩ :: ⟨[9], [], [10], [(.slot 50)]⟩ :: ⟨[10, 5], [], [11], [(.slot 51)]⟩ :: ⟨[10, 11], [], [12], [(.slot 52)]⟩ :: ⟨[12], [], [13], [(.slot 53)]⟩ :: ⟨[13, 3], [], [14], [(.slot 54)]⟩ :: ⟨[13, 14], [], [15], [(.slot 55)]⟩ :: ⟨[13, 15], [], [16], [(.slot 56)]⟩ :: ⟨[16], [], [17], [(.slot 57)]⟩ :: ⟨[17, 0], [], [18], [(.slot 58)]⟩ :: ⟨[17, 18, 0], [], [19], [(.slot 59)]⟩ :: ⟨[17, 19], [], [20], [(.slot 60)]⟩ :: ⟨[17, 20], [], [21], [(.slot 61)]⟩ :: ⟨[17, 21], [], [22], [(.slot 62)]⟩ :: ⟨[22], [6], [23], [(.slot 8)]⟩ :: [])) (es' := [(_, _), (8, .v (.bool ((decide ((f.Data.length : Int) ≤ 48)))))]) (by kernel_rfl) rfl rfl
              ⟨st_plain rfl (op_move _ _ _ _ rfl rfl),
              st_plain rfl (op_move _ _ _ _ (congrArg (fun b => AV.v (Value.bool b)) hg10_1) rfl),
              st_run 1 50 true rfl rfl rfl (List.Mem.head _) (op_move _ _ _ _ rfl rfl),
              st_plain rfl (op_pick _ _ true _ rfl rfl),
              st_plain rfl (op_move _ _ _ _ (congrArg (fun b => AV.v (Value.bool b)) hg10_4) rfl),
              st_run 4 53 true rfl rfl rfl (List.Mem.head _) (op_move _ _ _ _ rfl rfl),
              st_run 4 53 true rfl rfl rfl (List.Mem.head _) (op_un _ _ _ _ rfl rfl),
              st_plain rfl (op_pick _ _ true _ rfl rfl),
              st_plain rfl (op_move _ _ _ _ (congrArg (fun b => AV.v (Value.bool b)) hg10_8) rfl),
              st_run 8 57 true rfl rfl rfl (List.Mem.head _) (op_fieldAddr _ _ _ _ 1 0 _ Try.underlying26 rfl sz22 rfl rfl (by decide)),
              st_run 8 57 true rfl rfl rfl (List.Mem.head _) (op_load _ _ _ _ _ _ Try.underlying22 rfl rfl rfl (Nat.le_of_ble_eq_true rfl) rfl rfl rfl),
              st_run 8 57 true rfl rfl rfl (List.Mem.head _) (op_len_fl _ _ _ Try.underlying22 rfl (by decide) (map_len _)),
              st_run 8 57 true rfl rfl rfl (List.Mem.head _) (op_bin _ _ _ _ _ rfl rfl rfl),
              st_plain rfl (op_pick _ _ true _ rfl rfl),
              st_plain rfl (LOp.drop [_] (op_assign _ _ _ _ rfl rfl)),
              trivial⟩ ?_
             exact hl113 _ (Option.some.inj h).symm
            ·refine ht_seqR hn (El := (_ :: _ :: _ :: _ :: _ :: _ :: _ :: _ :: _ :: (49, .v (.bool s1)) :: (50, .v (.bool true)) :: (51, .v (.bool s5)) :: (52, .v (.bool s5)) :: (53, .v (.bool true)) :: (54, .v (.bool (((f.Data.length : Int) == 0)))) :: (55, .v (.bool ((!(((f.Data.length : Int) == 0)))))) :: (56, .v (.bool ((!(((f.Data.length : Int) == 0)))))) :: (57, .v (.bool false)) :: (58, .v undef) :: (59, .v undef) :: (60, .v undef) :: (61, .v undef) :: (62, .v (.bool false)) :: (8, .v (.bool false)) :: [])) (init := [0, 1, 2, 3, 4, 5, 6, 7, 8]) (fin := [0, 23]) (sps := (⟨[4], [], [9], [(.slot 49)]⟩ :: ⟨[9], [], [10], [(.slot 50)]⟩ :: ⟨[10, 5], [], [11], [(.slot 51)]⟩ :: ⟨[10, 11], [], [12], [(.slot 52)]⟩ :: ⟨[12], [], [13], [(.slot 53)]⟩ :: ⟨[13, 3], [], [14], [(.slot 54)]⟩ :: ⟨[13, 14], [], [15], [(.slot 55)]⟩ :: ⟨[13, 15], [], [16], [(.slot 56)]⟩ :: ⟨[16], [], [17], [(.slot 57)]⟩ :: ⟨[17], [], [18], [(.slot 58)]⟩ :: ⟨[17], [], [19], [(.slot 59)]⟩ :: ⟨[17], [], [20], [(.slot 60)]⟩ :: ⟨[17], [], [21], [(.slot 61)]⟩ :: ⟨[17], [], [22], [(.slot 62)]⟩ :: ⟨[22], [6], [23], [(.slot 8)]⟩ :: [])) (es' := [(_, _), (8, .v (.bool false))]) (by kernel_rfl) rfl rfl
              ⟨st_plain rfl (op_move _ _ _ _ rfl rfl),
              st_plain rfl (op_move _ _ _ _ (congrArg (fun b => AV.v (Value.bool b)) hg10_1) rfl),
              st_run 1 50 true rfl rfl rfl (List.Mem.head _) (op_move _ _ _ _ rfl rfl),
              st_plain rfl (op_pick _ _ true _ rfl rfl),
              st_plain rfl (op_move _ _ _ _ (congrArg (fun b => AV.v (Value.bool b)) hg10_4) rfl),
              st_run 4 53 true rfl rfl rfl (List.Mem.head _) (op_move _ _ _ _ rfl rfl),
              st_run 4 53 true rfl rfl rfl (List.Mem.head _) (op_un _ _ _ _ rfl rfl),
              st_plain rfl (op_pick _ _ true _ rfl rfl),
              st_plain rfl (op_move _ _ _ _ (congrArg (fun b => AV.v (Value.bool b)) hg10_8) rfl),
              st_skip 8 57 _ true rfl rfl rfl rfl (List.Mem.head _),
              st_skip 8 57 _ true rfl rfl rfl rfl (List.Mem.head _),
              st_skip 8 57 _ true rfl rfl rfl rfl (List.Mem.head _),
              st_skip 8 57 _ true rfl rfl rfl rfl (List.Mem.head _),
              st_plain rfl (op_pick _ _ false _ rfl rfl),
              st_plain rfl (LOp.drop [_] (op_assign _ _ _ _ rfl rfl)),
              trivial⟩ ?_
             exact hl113 _ (Option.some.inj h).symm
           ·refine ht_seqR hn (El := (_ :: _ :: _ :: _ :: _ :: _ :: _ :: _ :: _ :: (49, .v (.bool s1)) :: (50, .v (.bool true)) :: (51, .v (.bool s5)) :: (52, .v (.bool s5)) :: (53, .v (.bool false)) :: (54, .v undef) :: (55, .v undef) :: (56, .v (.bool false)) :: (57, .v (.bool false)) :: (58, .v undef) :: (59, .v undef) :: (60, .v undef) :: (61, .v undef) :: (62, .v (.bool false)) :: (8, .v (.bool false)) :: [])) (init := [0, 1, 2, 3, 4, 5, 6, 7, 8]) (fin := [0, 23]) (sps := (⟨[4], [], [9], [(.slot 49)]⟩ :: ⟨[9], [], [10], [(.slot 50)]⟩ :: ⟨[10, 5], [], [11], [(.slot 51)]⟩ :: ⟨[10, 11], [], [12], [(.slot 52)]⟩ :: ⟨[12], [], [13], [(.slot 53)]⟩ :: ⟨[13], [], [14], [(.slot 54)]⟩ :: ⟨[13], [], [15], [(.slot 55)]⟩ :: ⟨[13], [], [16], [(.slot 56)]⟩ :: ⟨[16], [], [17], [(.slot 57)]⟩ :: ⟨[17], [], [18], [(.slot 58)]⟩ :: ⟨[17], [], [19], [(.slot 59)]⟩ :: ⟨[17], [], [20], [(.slot 60)]⟩ :: ⟨[17], [], [21], [(.slot 61)]⟩ :: ⟨[17], [], [22], [(.slot 62)]⟩ :: ⟨[22], [6], [23], [(.slot 8)]⟩ :: [])) (es' := [(_, _), (8, .v (.bool false))]) (by kernel_rfl) rfl rfl
             ⟨st_plain rfl (op_move _ _ _ _ rfl rfl),
             st_plain rfl (op_move _ _ _ _ (congrArg (fun b => AV.v (Value.bool b)) hg10_1) rfl),
             st_run 1 50 true rfl rfl rfl (List.Mem.head _) (op_move _ _ _ _ rfl rfl),
             st_plain rfl (op_pick _ _ true _ rfl rfl),
             st_plain rfl (op_move _ _ _ _ (congrArg (fun b => AV.v (Value.bool b)) hg10_4) rfl),
             st_skip 4 53 _ true rfl rfl rfl rfl (List.Mem.head _),
             st_skip 4 53 _ true rfl rfl rfl rfl (List.Mem.head _),
             st_plain rfl (op_pick _ _ false _ rfl rfl),
             st_plain rfl (op_move _ _ _ _ rfl rfl),
             st_skip 8 57 _ true rfl rfl rfl rfl (List.Mem.head _),
             st_skip 8 57 _ true rfl rfl rfl rfl (List.Mem.head _),
             st_skip 8 57 _ true rfl rfl rfl rfl (List.Mem.head _),
             st_skip 8 57 _ true rfl rfl rfl rfl (List.Mem.head _),
             st_plain rfl (op_pick _ _ false _ rfl rfl),
             st_plain rfl (LOp.drop [_] (op_assign _ _ _ _ rfl rfl)),
             trivial⟩ ?_
            exact hl113 _ (Option.some.inj h).symm
          ·refine ht_seqR hn (El := (_ :: _ :: _ :: _ :: _ :: _ :: _ :: _ :: _ :: (49, .v (.bool s1)) :: (50, .v (.bool false)) :: (51, .v undef) :: (52, .v (.bool false)) :: (53, .v (.bool false)) :: (54, .v undef) :: (55, .v undef) :: (56, .v (.bool false)) :: (57, .v (.bool false)) :: (58, .v undef) :: (59, .v undef) :: (60, .v undef) :: (61, .v undef) :: (62, .v (.bool false)) :: (8, .v (.bool false)) :: [])) (init := [0, 1, 2, 3, 4, 5, 6, 7, 8]) (fin := [0, 23]) (sps := (⟨[4], [], [9], [(.slot 49)]⟩ :: ⟨[9], [], [10], [(.slot 50)]⟩ :: ⟨[10], [], [11], [(.slot 51)]⟩ :: ⟨[10], [], [12], [(.slot 52)]⟩ :: ⟨[12], [], [13], [(.slot 53)]⟩ :: ⟨[13], [], [14], [(.slot 54)]⟩ :: ⟨[13], [], [15], [(.slot 55)]⟩ :: ⟨[13], [], [16], [(.slot 56)]⟩ :: ⟨[16], [], [17], [(.slot 57)]⟩ :: ⟨[17], [], [18], [(.slot 58)]⟩ :: ⟨[17], [], [19], [(.slot 59)]⟩ :: ⟨[17], [], [20], [(.slot 60)]⟩ :: ⟨[17], [], [21], [(.slot 61)]⟩ :: ⟨[17], [], [22], [(.slot 62)]⟩ :: ⟨[22], [6], [23], [(.slot 8)]⟩ :: [])) (es' := [(_, _), (8, .v (.bool false))]) (by kernel_rfl) rfl rfl
            ⟨st_plain rfl (op_move _ _ _ _ rfl rfl),
            st_plain rfl (op_move _ _ _ _ (congrArg (fun b => AV.v (Value.bool b)) hg10_1) rfl),
            st_skip 1 50 _ true rfl rfl rfl rfl (List.Mem.head _),
            st_plain rfl (op_pick _ _ false _ rfl rfl),
            st_plain rfl (op_move _ _ _ _ rfl rfl),
            st_skip 4 53 _ true rfl rfl rfl rfl (List.Mem.head _),
            st_skip 4 53 _ true rfl rfl rfl rfl (List.Mem.head _),
            st_plain rfl (op_pick _ _ false _ rfl rfl),
            st_plain rfl (op_move _ _ _ _ rfl rfl),
            st_skip 8 57 _ true rfl rfl rfl rfl (List.Mem.head _),
            st_skip 8 57 _ true rfl rfl rfl rfl (List.Mem.head _),
            st_skip 8 57 _ true rfl rfl rfl rfl (List.Mem.head _),
            st_skip 8 57 _ true rfl rfl rfl rfl (List.Mem.head _),
            st_plain rfl (op_pick _ _ false _ rfl rfl),
            st_plain rfl (LOp.drop [_] (op_assign _ _ _ _ rfl rfl)),
            trivial⟩ ?_
           exact hl113 _ (Option.some.inj h).symm
        ·have h := cond_f hb110 h
         refine ht_seq ?_
         refine ht_seqR hn (El := [_, _, _, _, _, _, _, _, _, (64, .v (.bool (f.Kind == 4))), (63, .v (.bool (f.Kind == 4)))]) (init := [0, 1, 2, 3, 4, 5, 6, 7, 8]) (fin := [0, 1, 2, 3, 5, 6, 7, 10]) (sps := [⟨[7], [], [9], [(.slot 64)]⟩, ⟨[9], [], [10], [(.slot 63)]⟩]) (es' := [(_, _), (_, _), (_, _), (_, _), (_, _), (_, _), (_, _), (63, .v (.bool (f.Kind == 4)))]) (by kernel_rfl) rfl rfl
          ⟨st_plain rfl (op_bin _ _ _ _ _ rfl rfl rfl),
          st_plain rfl (op_assign _ _ _ _ rfl rfl),
          trivial⟩ ?_
         refine pt_then ?_
         refine ht_cond _ rfl (fun hb115 => ?_) (fun hb115 => ?_)
         ·have h := cond_t hb115 h
          refine ht_joinS h (fun (s116 : Bool) => [(1, .box 26 [.v (.int .i64 f.Kind), .v (.int .i64 f.Number), .v (.int .i64 f.Offset), .v (.int .i64 f.Seq), .fl .shr 1 (List.map (Value.int .u8) f.Data)]), (8, .v (.bool s116))]) ?_ ?_
          ·rintro s116 h
           refine pt_inb ?_
           exact hl97 _ (Option.some.inj h).symm
          ·intro u117 h hl118 hr119
           refine cond_some h (fun hg12_1 h => ?_) (fun hg12_1 h => ?_)
           ·refine cond_some h (fun hg12_4 h => ?_) (fun hg12_4 h => ?_)
            ·refine ht_seqR hn (El := (_ :: _ :: _ :: _ :: _ :: _ :: _ :: _ :: (65, .v (.bool (f.Offset == 0))) :: (66, .v (.bool true)) :: (67, .v (.bool s5)) :: (68, .v (.bool s5)) :: (69, .v (.bool true)) :: (70, .v (.bool (((f.Data.length : Int) == 0)))) :: (71, .v (.bool (((f.Data.length : Int) == 0)))) :: (8, .v (.bool (((f.Data.length : Int) == 0)))) :: [])) (init := [0, 1, 2, 3, 4, 5, 6, 7]) (fin := [0, 15]) (sps := [⟨[1], [], [8], [(.slot 65)]⟩, ⟨[8], [], [9], [(.slot 66)]⟩, ⟨[9, 4], [], [10], [(.slot 67)]⟩, ⟨[9, 10], [], [11], [(.slot 68)]⟩, ⟨[11], [], [12], [(.slot 69)]⟩, ⟨[12, 3], [], [13], [(.slot 70)]⟩, ⟨[12, 13], [], [14], [(.slot 71)]⟩, ⟨[14], [5], [15], [(.slot 8)]⟩]) (es' := [(_, _), (8, .v (.bool (((f.Data.length : Int) == 0))))]) (by kernel_rfl) rfl rfl
              ⟨st_plain rfl (op_move _ _ _ _ rfl rfl),
              st_plain rfl (op_move _ _ _ _ (congrArg (fun b => AV.v (Value.bool b)) hg12_1) rfl),
              st_run 1 66 true rfl rfl rfl (List.Mem.head _) (op_move _ _ _ _ rfl rfl),
              st_plain rfl (op_pick _ _ true _ rfl rfl),
              st_plain rfl (op_move _ _ _ _ (congrArg (fun b => AV.v (Value.bool b)) hg12_4) rfl),
              st_run 4 69 true rfl rfl rfl (List.Mem.head _) (op_move _ _ _ _ rfl rfl),
              st_plain rfl (op_pick _ _ true _ rfl rfl),
              st_plain rfl (LOp.drop [_] (op_assign _ _ _ _ rfl rfl)),
              trivial⟩ ?_
             exact hl118 _ (Option.some.inj h).symm
            ·refine ht_seqR hn (El := (_ :: _ :: _ :: _ :: _ :: _ :: _ :: _ :: (65, .v (.bool (f.Offset == 0))) :: (66, .v (.bool true)) :: (67, .v (.bool s5)) :: (68, .v (.bool s5)) :: (69, .v (.bool false)) :: (70, .v undef) :: (71, .v (.bool false)) :: (8, .v (.bool false)) :: [])) (init := [0, 1, 2, 3, 4, 5, 6, 7]) (fin := [0, 15]) (sps := [⟨[1], [], [8], [(.slot 65)]⟩, ⟨[8], [], [9], [(.slot 66)]⟩, ⟨[9, 4], [], [10], [(.slot 67)]⟩, ⟨[9, 10], [], [11], [(.slot 68)]⟩, ⟨[11], [], [12], [(.slot 69)]⟩, ⟨[12], [], [13], [(.slot 70)]⟩, ⟨[12], [], [14], [(.slot 71)]⟩, ⟨[14], [5], [15], [(.slot 8)]⟩]) (es' := [(_, _), (8, .v (.bool false))]) (by kernel_rfl) rfl rfl
              ⟨st_plain rfl (op_move _ _ _ _ rfl rfl),
              st_plain rfl (op_move _ _ _ _ (congrArg (fun b => AV.v (Value.bool b)) hg12_1) rfl),
              st_run 1 66 true rfl rfl rfl (List.Mem.head _) (op_move _ _ _ _ rfl rfl),
              st_plain rfl (op_pick _ _ true _ rfl rfl),
              st_plain rfl (op_move _ _ _ _ (congrArg (fun b => AV.v (Value.bool b)) hg12_4) rfl),
              st_skip 4 69 _ true rfl rfl rfl rfl (List.Mem.head _),
              st_plain rfl (op_pick _ _ false _ rfl rfl),
              st_plain rfl (LOp.drop [_] (op_assign _ _ _ _ rfl rfl)),
              trivial⟩ ?_
             exact hl118 _ (Option.some.inj h).symm
           ·refine ht_seqR hn (El := (_ :: _ :: _ :: _ :: _ :: _ :: _ :: _ :: (65, .v (.bool (f.Offset == 0))) :: (66, .v (.bool false)) :: (67, .v undef) :: (68, .v (.bool false)) :: (69, .v (.bool false)) :: (70, .v undef) :: (71, .v (.bool false)) :: (8, .v (.bool false)) :: [])) (init := [0, 1, 2, 3, 4, 5, 6, 7]) (fin := [0, 15]) (sps := [⟨[1], [], [8], [(.slot 65)]⟩, ⟨[8], [], [9], [(.slot 66)]⟩, ⟨[9], [], [10], [(.slot 67)]⟩, ⟨[9], [], [11], [(.slot 68)]⟩, ⟨[11], [], [12], [(.slot 69)]⟩, ⟨[12], [], [13], [(.slot 70)]⟩, ⟨[12], [], [14], [(.slot 71)]⟩, ⟨[14], [5], [15], [(.slot 8)]⟩]) (es' := [(_, _), (8, .v (.bool false))]) (by kernel_rfl) rfl rfl
             ⟨st_plain rfl (op_move _ _ _ _ rfl rfl),
             st_plain rfl (op_move _ _ _ _ (congrArg (fun b => AV.v (Value.bool b)) hg12_1) rfl),
             st_skip 1 66 _ true rfl rfl rfl rfl (List.Mem.head _),
             st_plain rfl (op_pick _ _ false _ rfl rfl),
             st_plain rfl (op_move _ _ _ _ rfl rfl),
             st_skip 4 69 _ true rfl rfl rfl rfl (List.Mem.head _),
             st_plain rfl (op_pick _ _ false _ rfl rfl),
             st_plain rfl (LOp.drop [_] (op_assign _ _ _ _ rfl rfl)),
             trivial⟩ ?_
            exact hl118 _ (Option.some.inj h).symm
         ·have h := cond_f hb115 h
          refine ht_seq ?_
          refine ht_seqR hn (El := [_, _, _, _, _, _, _, _, (73, .v (.bool (f.Kind == 5))), (72, .v (.bool (f.Kind == 5)))]) (init := [0, 1, 2, 3, 4, 5, 6, 7]) (fin := [0, 1, 2, 3, 5, 9]) (sps := [⟨[6], [], [8], [(.slot 73)]⟩, ⟨[8], [], [9], [(.slot 72)]⟩]) (es' := [(_, _), (_, _), (_, _), (_, _), (_, _), (72, .v (.bool (f.Kind == 5)))]) (by kernel_rfl) rfl rfl
           ⟨st_plain rfl (op_bin _ _ _ _ _ rfl rfl rfl),
           st_plain rfl (op_assign _ _ _ _ rfl rfl),
           trivial⟩ ?_
          refine pt_then ?_
          refine ht_cond _ rfl (fun hb120 => ?_) (fun hb120 => ?_)
          ·have h := cond_t hb120 h
           refine ht_joinS h (fun (s121 : Bool) => [(1, .box 26 [.v (.int .i64 f.Kind), .v (.int .i64 f.Number), .v (.int .i64 f.Offset), .v (.int .i64 f.Seq), .fl .shr 1 (List.map (Value.int .u8) f.Data)]), (8, .v (.bool s121))]) ?_ ?_
           ·rintro s121 h
            refine pt_inb ?_
            exact hl97 _ (Option.some.inj h).symm
           ·intro u122 h hl123 hr124
            refine cond_some h (fun hg14_1 h => ?_) (fun hg14_1 h => ?_)
            ·refine cond_some h (fun hg14_4 h => ?_) (fun hg14_4 h => ?_)
             ·refine ht_seqR hn (El := [_, _, _, _, _, _, (74, .v (.bool (f.Offset == 0))), (75, .v (.bool true)), (76, .v (.bool (f.Seq == 0))), (77, .v (.bool (f.Seq == 0))), (78, .v (.bool true)), (79, .v (.bool (((f.Data.length : Int) == 0)))), (80, .v (.bool (((f.Data.length : Int) == 0)))), (8, .v (.bool (((f.Data.length : Int) == 0))))]) (init := [0, 1, 2, 3, 4, 5]) (fin := [0, 13]) (sps := [⟨[1], [], [6], [(.slot 74)]⟩, ⟨[6], [], [7], [(.slot 75)]⟩, ⟨[7, 2], [], [8], [(.slot 76)]⟩, ⟨[7, 8], [], [9], [(.slot 77)]⟩, ⟨[9], [], [10], [(.slot 78)]⟩, ⟨[10, 3], [], [11], [(.slot 79)]⟩, ⟨[10, 11], [], [12], [(.slot 80)]⟩, ⟨[12], [4], [13], [(.slot 8)]⟩]) (es' := [(_, _), (8, .v (.bool (((f.Data.length : Int) == 0))))]) (by kernel_rfl) rfl rfl
               ⟨st_plain rfl (op_move _ _ _ _ rfl rfl),
               st_plain rfl (op_move _ _ _ _ (congrArg (fun b => AV.v (Value.bool b)) hg14_1) rfl),
               st_run 1 75 true rfl rfl rfl (List.Mem.head _) (op_move _ _ _ _ rfl rfl),
               st_plain rfl (op_pick _ _ true _ rfl rfl),
               st_plain rfl (op_move _ _ _ _ (congrArg (fun b => AV.v (Value.bool b)) hg14_4) rfl),
               st_run 4 78 true rfl rfl rfl (List.Mem.head _) (op_move _ _ _ _ rfl rfl),
               st_plain rfl (op_pick _ _ true _ rfl rfl),
               st_plain rfl (LOp.drop [_] (op_assign _ _ _ _ rfl rfl)),
               trivial⟩ ?_
              exact hl123 _ (Option.some.inj h).symm
             ·refine ht_seqR hn (El := [_, _, _, _, _, _, (74, .v (.bool (f.Offset == 0))), (75, .v (.bool true)), (76, .v (.bool (f.Seq == 0))), (77, .v (.bool (f.Seq == 0))), (78, .v (.bool false)), (79, .v undef), (80, .v (.bool false)), (8, .v (.bool false))]) (init := [0, 1, 2, 3, 4, 5]) (fin := [0, 13]) (sps := [⟨[1], [], [6], [(.slot 74)]⟩, ⟨[6], [], [7], [(.slot 75)]⟩, ⟨[7, 2], [], [8], [(.slot 76)]⟩, ⟨[7, 8], [], [9], [(.slot 77)]⟩, ⟨[9], [], [10], [(.slot 78)]⟩, ⟨[10], [], [11], [(.slot 79)]⟩, ⟨[10], [], [12], [(.slot 80)]⟩, ⟨[12], [4], [13], [(.slot 8)]⟩]) (es' := [(_, _), (8, .v (.bool false))]) (by kernel_rfl) rfl rfl
               ⟨st_plain rfl (op_move _ _ _ _ rfl rfl),
               st_plain rfl (op_move _ _ _ _ (congrArg (fun b => AV.v (Value.bool b)) hg14_1) rfl),
               st_run 1 75 true rfl rfl rfl (List.Mem.head _) (op_move _ _ _ _ rfl rfl),
               st_plain rfl (op_pick _ _ true _ rfl rfl),
               st_plain rfl (op_move _ _ _ _ (congrArg (fun b => AV.v (Value.bool b)) hg14_4) rfl),
               st_skip 4 78 _ true rfl rfl rfl rfl (List.Mem.head _),
               st_plain rfl (op_pick _ _ false _ rfl rfl),
               st_plain rfl (LOp.drop [_] (op_assign _ _ _ _ rfl rfl)),
               trivial⟩ ?_
              exact hl123 _ (Option.some.inj h).symm
            ·refine ht_seqR hn (El := [_, _, _, _, _, _, (74, .v (.bool (f.Offset == 0))), (75, .v (.bool false)), (76, .v undef), (77, .v (.bool false)), (78, .v (.bool false)), (79, .v undef), (80, .v (.bool false)), (8, .v (.bool false))]) (init := [0, 1, 2, 3, 4, 5]) (fin := [0, 13]) (sps := [⟨[1], [], [6], [(.slot 74)]⟩, ⟨[6], [], [7], [(.slot 75)]⟩, ⟨[7], [], [8], [(.slot 76)]⟩, ⟨[7], [], [9], [(.slot 77)]⟩, ⟨[9], [], [10], [(.slot 78)]⟩, ⟨[10], [], [11], [(.slot 79)]⟩, ⟨[10], [], [12], [(.slot 80)]⟩, ⟨[12], [4], [13], [(.slot 8)]⟩]) (es' := [(_, _), (8, .v (.bool false))]) (by kernel_rfl) rfl rfl
              ⟨st_plain rfl (op_move _ _ _ _ rfl rfl),
              st_plain rfl (op_move _ _ _ _ (congrArg (fun b => AV.v (Value.bool b)) hg14_1) rfl),
              st_skip 1 75 _ true rfl rfl rfl rfl (List.Mem.head _),
              st_plain rfl (op_pick _ _ false _ rfl rfl),
              st_plain rfl (op_move _ _ _ _ rfl rfl),
              st_skip 4 78 _ true rfl rfl rfl rfl (List.Mem.head _),
              st_plain rfl (op_pick _ _ false _ rfl rfl),
              st_plain rfl (LOp.drop [_] (op_assign _ _ _ _ rfl rfl)),
              trivial⟩ ?_
             exact hl123 _ (Option.some.inj h).symm
          ·have h := cond_f hb120 h
           refine ht_skip ?_
           refine pt_inb ?_
           refine pt_pick [0, 4] (by kernel_rfl) (es' := [(_, _), (_, _)]) rfl ?_
           exact hl97 _ (Option.some.inj h).symm
      ·intro u101 h hl102 hr103
       refine ht_seq ?_
       refine ht_seqR hn (El := [_, _, _, _, _, _, _, _, (38, .v (.bool (f.Kind == 1))), (37, .v (.bool (f.Kind == 1)))]) (init := [0, 1, 2, 3, 4, 5, 6, 7]) (fin := [0, 1, 2, 3, 4, 5, 6, 7, 9]) (sps := [⟨[7], [], [8], [(.slot 38)]⟩, ⟨[8], [], [9], [(.slot 37)]⟩]) (es' := [(_, _), (_, _), (_, _), (_, _), (_, _), (_, _), (_, _), (_, _), (37, .v (.bool (f.Kind == 1)))]) (by kernel_rfl) rfl rfl
        ⟨st_plain rfl (op_bin _ _ _ _ _ rfl rfl rfl),
        st_plain rfl (op_assign _ _ _ _ rfl rfl),
        trivial⟩ ?_
       refine pt_then ?_
       refine ht_cond _ rfl (fun hb104 => ?_) (fun hb104 => ?_)
       ·have h := cond_t hb104 h
        refine ht_skip ?_
        exact hl102 _ (Option.some.inj h).symm
       ·have h := cond_f hb104 h
        refine ht_seqR hn (El := [_, _, _, _, _, _, _, _, _, (39, .v (.bool (f.Kind == 2))), (37, .v (.bool (f.Kind == 2)))]) (init := [0, 1, 2, 3, 4, 5, 6, 7, 8]) (fin := [0, 1, 2, 3, 4, 5, 6, 7, 10]) (sps := [⟨[7], [], [9], [(.slot 39)]⟩, ⟨[9], [8], [10], [(.slot 37)]⟩]) (es' := [(_, _), (_, _), (_, _), (_, _), (_, _), (_, _), (_, _), (_, _), (37, .v (.bool (f.Kind == 2)))]) (by kernel_rfl) rfl rfl
         ⟨st_plain rfl (op_bin _ _ _ _ _ rfl rfl rfl),
         st_plain rfl (LOp.drop [_] (op_assign _ _ _ _ rfl rfl)),
         trivial⟩ ?_
        exact hl102 _ (Option.some.inj h).symm
   ·intro u6 h hl7 hr8
    refine cond_some h (fun hg3_3 h => ?_) (fun hg3_3 h => ?_)
    ·refine ht_seqR hn (El := [_, _, _, _, _, (27, .ptr 1 3), (28, .v (.int .i64 f.Seq)), (29, .v (.bool ((decide (0 ≤ f.Seq))))), (30, .v (.bool true)), (31, .ptr 1 3), (32, .v (.int .i64 f.Seq)), (33, .v (.bool ((decide (f.Seq ≤ 7))))), (34, .v (.bool ((decide (f.Seq ≤ 7))))), (7, .v (.bool ((decide (f.Seq ≤ 7)))))]) (init := [0, 1, 2, 3, 4]) (fin := [0, 1, 2, 3, 4, 13]) (sps := [⟨[0], [], [5], [(.slot 27)]⟩, ⟨[5, 0], [], [6], [(.slot 28)]⟩, ⟨[6], [], [7], [(.slot 29)]⟩, ⟨[7], [], [8], [(.slot 30)]⟩, ⟨[8, 0], [], [9], [(.slot 31)]⟩, ⟨[8, 9, 0], [], [10], [(.slot 32)]⟩, ⟨[8, 10], [], [11], [(.slot 33)]⟩, ⟨[8, 11], [], [12], [(.slot 34)]⟩, ⟨[12], [], [13], [(.slot 7)]⟩]) (es' := [(_, _), (_, _), (_, _), (_, _), (_, _), (7, .v (.bool ((decide (f.Seq ≤ 7)))))]) (by kernel_rfl) rfl rfl
      ⟨st_plain rfl (op_fieldAddr _ _ _ _ 1 0 _ Try.underlying26 rfl sz3 rfl rfl (by decide)),
      st_plain rfl (op_load _ _ _ _ _ _ Try.underlying3 rfl rfl rfl (Nat.le_of_ble_eq_true rfl) rfl rfl rfl),
      st_plain rfl (op_bin _ _ _ _ _ rfl rfl rfl),
      st_plain rfl (op_move _ _ _ _ (congrArg (fun b => AV.v (Value.bool b)) hg3_3) rfl),
      st_run 3 30 true rfl rfl rfl (List.Mem.head _) (op_fieldAddr _ _ _ _ 1 0 _ Try.underlying26 rfl sz3 rfl rfl (by decide)),
      st_run 3 30 true rfl rfl rfl (List.Mem.head _) (op_load _ _ _ _ _ _ Try.underlying3 rfl rfl rfl (Nat.le_of_ble_eq_true rfl) rfl rfl rfl),
      st_run 3 30 true rfl rfl rfl (List.Mem.head _) (op_bin _ _ _ _ _ rfl rfl rfl),
      st_plain rfl (op_pick _ _ true _ rfl rfl),
      st_plain rfl (op_assign _ _ _ _ rfl rfl),
      trivial⟩ ?_
     exact hl7 _ (Option.some.inj h).symm
    ·refine ht_seqR hn (El := [_, _, _, _, _, (27, .ptr 1 3), (28, .v (.int .i64 f.Seq)), (29, .v (.bool ((decide (0 ≤ f.Seq))))), (30, .v (.bool false)), (31, .v undef), (32, .v undef), (33, .v undef), (34, .v (.bool false)), (7, .v (.bool false))]) (init := [0, 1, 2, 3, 4]) (fin := [0, 1, 2, 3, 4, 13]) (sps := [⟨[0], [], [5], [(.slot 27)]⟩, ⟨[5, 0], [], [6], [(.slot 28)]⟩, ⟨[6], [], [7], [(.slot 29)]⟩, ⟨[7], [], [8], [(.slot 30)]⟩, ⟨[8], [], [9], [(.slot 31)]⟩, ⟨[8], [], [10], [(.slot 32)]⟩, ⟨[8], [], [11], [(.slot 33)]⟩, ⟨[8], [], [12], [(.slot 34)]⟩, ⟨[12], [], [13], [(.slot 7)]⟩]) (es' := [(_, _), (_, _), (_, _), (_, _), (_, _), (7, .v (.bool false))]) (by kernel_rfl) rfl rfl
      ⟨st_plain rfl (op_fieldAddr _ _ _ _ 1 0 _ Try.underlying26 rfl sz3 rfl rfl (by decide)),
      st_plain rfl (op_load _ _ _ _ _ _ Try.underlying3 rfl rfl rfl (Nat.le_of_ble_eq_true rfl) rfl rfl rfl),
      st_plain rfl (op_bin _ _ _ _ _ rfl rfl rfl),
      st_plain rfl (op_move _ _ _ _ (congrArg (fun b => AV.v (Value.bool b)) hg3_3) rfl),
      st_skip 3 30 _ true rfl rfl rfl rfl (List.Mem.head _),
      st_skip 3 30 _ true rfl rfl rfl rfl (List.Mem.head _),
      st_skip 3 30 _ true rfl rfl rfl rfl (List.Mem.head _),
      st_plain rfl (op_pick _ _ false _ rfl rfl),
      st_plain rfl (op_assign _ _ _ _ rfl rfl),
      trivial⟩ ?_
     exact hl7 _ (Option.some.inj h).symm
  ·intro u2 h hl3 hr4
   refine cond_some h (fun hg2_3 h => ?_) (fun hg2_3 h => ?_)
   ·refine ht_seqR hn (El := [_, _, _, _, (19, .ptr 1 2), (20, .v (.int .i64 f.Offset)), (21, .v (.bool ((decide (0 ≤ f.Offset))))), (22, .v (.bool true)), (23, .ptr 1 2), (24, .v (.int .i64 f.Offset)), (25, .v (.bool ((decide (f.Offset ≤ 5000))))), (26, .v (.bool ((decide (f.Offset ≤ 5000))))), (6, .v (.bool ((decide (f.Offset ≤ 5000)))))]) (init := [0, 1, 2, 3]) (fin := [0, 1, 2, 3, 12]) (sps := [⟨[0], [], [4], [(.slot 19)]⟩, ⟨[4, 0], [], [5], [(.slot 20)]⟩, ⟨[5], [], [6], [(.slot 21)]⟩, ⟨[6], [], [7], [(.slot 22)]⟩, ⟨[7, 0], [], [8], [(.slot 23)]⟩, ⟨[7, 8, 0], [], [9], [(.slot 24)]⟩, ⟨[7, 9], [], [10], [(.slot 25)]⟩, ⟨[7, 10], [], [11], [(.slot 26)]⟩, ⟨[11], [], [12], [(.slot 6)]⟩]) (es' := [(_, _), (_, _), (_, _), (_, _), (6, .v (.bool ((decide (f.Offset ≤ 5000)))))]) (by kernel_rfl) rfl rfl
     ⟨st_plain rfl (op_fieldAddr _ _ _ _ 1 0 _ Try.underlying26 rfl sz3 rfl rfl (by decide)),
     st_plain rfl (op_load _ _ _ _ _ _ Try.underlying3 rfl rfl rfl (Nat.le_of_ble_eq_true rfl) rfl rfl rfl),
     st_plain rfl (op_bin _ _ _ _ _ rfl rfl rfl),
     st_plain rfl (op_move _ _ _ _ (congrArg (fun b => AV.v (Value.bool b)) hg2_3) rfl),
     st_run 3 22 true rfl rfl rfl (List.Mem.head _) (op_fieldAddr _ _ _ _ 1 0 _ Try.underlying26 rfl sz3 rfl rfl (by decide)),
     st_run 3 22 true rfl rfl rfl (List.Mem.head _) (op_load _ _ _ _ _ _ Try.underlying3 rfl rfl rfl (Nat.le_of_ble_eq_true rfl) rfl rfl rfl),
     st_run 3 22 true rfl rfl rfl (List.Mem.head _) (op_bin _ _ _ _ _ rfl rfl rfl),
     st_plain rfl (op_pick _ _ true _ rfl rfl),
     st_plain rfl (op_assign _ _ _ _ rfl rfl),
     trivial⟩ ?_
    exact hl3 _ (Option.some.inj h).symm
   ·refine ht_seqR hn (El := [_, _, _, _, (19, .ptr 1 2), (20, .v (.int .i64 f.Offset)), (21, .v (.bool ((decide (0 ≤ f.Offset))))), (22, .v (.bool false)), (23, .v undef), (24, .v undef), (25, .v undef), (26, .v (.bool false)), (6, .v (.bool false))]) (init := [0, 1, 2, 3]) (fin := [0, 1, 2, 3, 12]) (sps := [⟨[0], [], [4], [(.slot 19)]⟩, ⟨[4, 0], [], [5], [(.slot 20)]⟩, ⟨[5], [], [6], [(.slot 21)]⟩, ⟨[6], [], [7], [(.slot 22)]⟩, ⟨[7], [], [8], [(.slot 23)]⟩, ⟨[7], [], [9], [(.slot 24)]⟩, ⟨[7], [], [10], [(.slot 25)]⟩, ⟨[7], [], [11], [(.slot 26)]⟩, ⟨[11], [], [12], [(.slot 6)]⟩]) (es' := [(_, _), (_, _), (_, _), (_, _), (6, .v (.bool false))]) (by kernel_rfl) rfl rfl
     ⟨st_plain rfl (op_fieldAddr _ _ _ _ 1 0 _ Try.underlying26 rfl sz3 rfl rfl (by decide)),
     st_plain rfl (op_load _ _ _ _ _ _ Try.underlying3 rfl rfl rfl (Nat.le_of_ble_eq_true rfl) rfl rfl rfl),
     st_plain rfl (op_bin _ _ _ _ _ rfl rfl rfl),
     st_plain rfl (op_move _ _ _ _ (congrArg (fun b => AV.v (Value.bool b)) hg2_3) rfl),
     st_skip 3 22 _ true rfl rfl rfl rfl (List.Mem.head _),
     st_skip 3 22 _ true rfl rfl rfl rfl (List.Mem.head _),
     st_skip 3 22 _ true rfl rfl rfl rfl (List.Mem.head _),
     st_plain rfl (op_pick _ _ false _ rfl rfl),
     st_plain rfl (op_assign _ _ _ _ rfl rfl),
     trivial⟩ ?_
    exact hl3 _ (Option.some.inj h).symm

set_option maxHeartbeats 1000000 in
theorem ok_sender_ready (s : T_Send) (offset : Int) (r : (Bool × T_Send)) (h : Sh.sender_ready s offset = some r) : FnP Try.prog 37 [.box 24 [.v (.int .i64 s.Number), .fl (.own 5) 1 (List.map (Value.int .u8) s.Data), .v (.bool s.Ready), .v (.int .i64 s.Base), .v (.int .i64 s.Next), .v (.int .i64 s.Wait), .v (.bool s.Over)], .v (.int .i64 offset)] [.box 24 [.v (.int .i64 r.2.Number), .fl (.own 5) 1 (List.map (Value.int .u8) r.2.Data), .v (.bool r.2.Ready), .v (.int .i64 r.2.Base), .v (.int .i64 r.2.Next), .v (.int .i64 r.2.Wait), .v (.bool r.2.Over)]] (.v (.bool r.1)) := by
  unfold Sh.sender_ready at h
  refine fn_okP Try.func37 rfl (Nat.le_of_ble_eq_true rfl) rfl (Nat.le_of_ble_eq_true rfl) fun args0 hargs0 g0 hn hio => ?_
  refine ht_seq ?_
  refine ht_seqR hn (El := [_, _, _, (4, .v (.bool false))]) (init := [0, 1, 2]) (fin := [0, 1, 2]) (sps := [⟨[], [], [3], [(.slot 4)]⟩]) (es' := [(_, _), (_, _), (_, _)]) (by kernel_rfl) rfl rfl
   ⟨st_plain rfl (op_assign _ _ _ _ rfl rfl),
   trivial⟩ ?_
  refine pt_then ?_
  refine ht_seq ?_
  refine ht_seqR hn (El := [_, _, _, (7, .v (.int .i64 offset)), (8, .ptr 0 0), (9, .ptr 0 0), (10, .ptr 0 1), (11, .same (.cell 0 1)), (12, .v (.int .i64 (s.Data.length : Int))), (13, .v (.bool ((offset == (s.Data.length : Int))))), (5, .v (.bool ((offset == (s.Data.length : Int)))))]) (init := [0, 1, 2]) (fin := [0, 1, 2, 10]) (sps := [⟨[1], [], [3], [(.slot 7)]⟩, ⟨[0], [], [4], [(.slot 8)]⟩, ⟨[4, 0], [], [5], [(.slot 9)]⟩, ⟨[5, 0], [], [6], [(.slot 10)]⟩, ⟨[6, 0], [], [7], [(.slot 11)]⟩, ⟨[7, 0], [], [8], [(.slot 12)]⟩, ⟨[3, 8], [], [9], [(.slot 13)]⟩, ⟨[9], [], [10], [(.slot 5)]⟩]) (es' := [(_, _), (_, _), (_, _), (5, .v (.bool ((offset == (s.Data.length : Int)))))]) (by kernel_rfl) rfl rfl
   ⟨st_plain rfl (op_move _ _ _ _ rfl rfl),
   st_plain rfl (op_move _ _ _ _ rfl rfl),
   st_plain rfl (op_nilCheck _ _ _ 0 0 rfl (by decide)),
   st_plain rfl (op_fieldAddr _ _ _ _ 0 0 _ Try.underlying24 rfl sz22 rfl rfl (by decide)),
   st_plain rfl (op_load _ _ _ _ _ _ Try.underlying22 rfl rfl rfl (Nat.le_of_ble_eq_true rfl) rfl rfl rfl),
   st_plain rfl (op_len_fl _ _ _ Try.underlying22 rfl (by decide) (map_len _)),
   st_plain rfl (op_bin _ _ _ _ _ rfl rfl rfl),
   st_plain rfl (op_assign _ _ _ _ rfl rfl),
   trivial⟩ ?_
  refine pt_then ?_
  refine ht_seq ?_
  refine ht_seq ?_
  refine ht_joinS h (fun (s2 : Bool) => [(0, .box 24 [.v (.int .i64 s.Number), .fl (.own 5) 1 (List.map (Value.int .u8) s.Data), .v (.bool s.Ready), .v (.int .i64 s.Base), .v (.int .i64 s.Next), .v (.int .i64 s.Wait), .v (.bool s.Over)]), (1, .v (.int .i64 offset)), (0, .v (List.getD args0 0 undef)), (5, .v (.bool ((offset == (s.Data.length : Int))))), (29, .v (.bool s2))]) ?_ ?_
  ·rintro s2 h
   refine pt_then ?_
   refine ht_cond _ rfl (fun hb6 => ?_) (fun hb6 => ?_)
   ·have h := cond_t hb6 h
    refine ht_seq ?_
    refine ht_seqR hn (El := [_, _, _, _, _, (4, .v (.bool false))]) (init := [0, 1, 2, 3, 4]) (fin := [0, 2, 5]) (sps := [⟨[], [], [5], [(.slot 4)]⟩]) (es' := [(_, _), (_, _), (4, .v (.bool false))]) (by kernel_rfl) rfl rfl
     ⟨st_plain rfl (op_assign _ _ _ _ rfl rfl),
     trivial⟩ ?_
    refine pt_then ?_
    refine ht_ret ?_
    refine pt_pick [2, 0, 1] (by kernel_rfl) (es' := [(_, _), (_, _), (_, _)]) rfl ?_
    refine pt_r_then ?_
    obtain rfl := Option.some.inj h
    exact pt_retP (es := [(4, .v (.bool false))]) (posts := [.box 24 [.v (.int .i64 s.Number), .fl (.own 5) 1 (List.map (Value.int .u8) s.Data), .v (.bool s.Ready), .v (.int .i64 s.Base), .v (.int .i64 s.Next), .v (.int .i64 s.Wait), .v (.bool s.Over)]]) hio rfl rfl (.tmp _ _ .nil) rfl rfl hargs0 rfl
   ·have h := cond_f hb6 h
    refine ht_skip ?_
    refine pt_then ?_
    refine ht_seq ?_
    obtain ⟨v7, hv7, h⟩ := bind_some h
    refine ht_seqR hn (El := [_, _, _, _, _, (30, .v (.int .i64 offset)), (31, .v (.int .i64 v7)), (6, .v (.int .i64 v7))]) (init := [0, 1, 2, 3, 4]) (fin := [0, 2, 3, 7]) (sps := [⟨[1], [], [5], [(.slot 30)]⟩, ⟨[5], [], [6], [(.slot 31)]⟩, ⟨[6], [], [7], [(.slot 6)]⟩]) (es' := [(_, _), (_, _), (_, _), (6, .v (.int .i64 v7))]) (by kernel_rfl) rfl rfl
     ⟨st_plain rfl (op_move _ _ _ _ rfl rfl),
     st_plain rfl (op_bin _ _ _ _ _ rfl rfl (quo_ok hv7)),
     st_plain rfl (op_assign _ _ _ _ rfl rfl),
     trivial⟩ ?_
    refine pt_then ?_
    refine ht_seq ?_
    refine ht_joinS h (fun (s10 : Int) => [(0, .box 24 [.v (.int .i64 s.Number), .fl (.own 5) 1 (List.map (Value.int .u8) s.Data), .v (.bool s.Ready), .v (.int .i64 s.Base), .v (.int .i64 s.Next), .v (.int .i64 s.Wait), .v (.bool s.Over)]), (0, .v (List.getD args0 0 undef)), (6, .v (.int .i64 s10))]) ?_ ?_
    ·rintro s10 h
     refine pt_then ?_
     refine ht_seq ?_
     refine ht_seqR hn (El := (_ :: _ :: _ :: (37, .ptr 0 0) :: (38, .ptr 0 0) :: (39, .ptr 0 0) :: (40, .ptr 0 0) :: (41, .v (.int .i64 s10)) :: (42, .v (.int .i64 s10)) :: (43, .ptr 0 0) :: (44, .ptr 0 2) :: (0, .box 24 [.v (.int .i64 s.Number), .fl (.own 5) 1 (List.map (Value.int .u8) s.Data), .v (.bool true), .v (.int .i64 s.Base), .v (.int .i64 s.Next), .v (.int .i64 s.Wait), .v (.bool s.Over)]) :: (45, .ptr 0 0) :: (46, .ptr 0 3) :: (0, .box 24 [.v (.int .i64 s.Number), .fl (.own 5) 1 (List.map (Value.int .u8) s.Data), .v (.bool true), .v (.int .i64 s10), .v (.int .i64 s.Next), .v (.int .i64 s.Wait), .v (.bool s.Over)]) :: (47, .ptr 0 0) :: (48, .ptr 0 4) :: (0, .box 24 [.v (.int .i64 s.Number), .fl (.own 5) 1 (List.map (Value.int .u8) s.Data), .v (.bool true), .v (.int .i64 s10), .v (.int .i64 s10), .v (.int .i64 s.Wait), .v (.bool s.Over)]) :: (49, .ptr 0 0) :: (50, .ptr 0 5) :: (0, .box 24 [.v (.int .i64 s.Number), .fl (.own 5) 1 (List.map (Value.int .u8) s.Data), .v (.bool true), .v (.int .i64 s10), .v (.int .i64 s10), .v (.int .i64 0), .v (.bool s.Over)]) :: [])) (init := [0, 1, 2]) (fin := [20, 1]) (sps := (⟨[0], [], [3], [(.slot 37)]⟩ :: ⟨[0], [], [4], [(.slot 38)]⟩ :: ⟨[0], [], [5], [(.slot 39)]⟩ :: ⟨[0], [], [6], [(.slot 40)]⟩ :: ⟨[2], [], [7], [(.slot 41)]⟩ :: ⟨[2], [], [8], [(.slot 42)]⟩ :: ⟨[3, 0], [], [9], [(.slot 43)]⟩ :: ⟨[9, 0], [], [10], [(.slot 44)]⟩ :: ⟨[10], [0], [11], [.cell 0 2]⟩ :: ⟨[4, 11], [], [12], [(.slot 45)]⟩ :: ⟨[12, 11], [], [13], [(.slot 46)]⟩ :: ⟨[13, 7], [11], [14], [.cell 0 3]⟩ :: ⟨[5, 14], [], [15], [(.slot 47)]⟩ :: ⟨[15, 14], [], [16], [(.slot 48)]⟩ :: ⟨[16, 8], [14], [17], [.cell 0 4]⟩ :: ⟨[6, 17], [], [18], [(.slot 49)]⟩ :: ⟨[18, 17], [], [19], [(.slot 50)]⟩ :: ⟨[19], [17], [20], [.cell 0 5]⟩ :: [])) (es' := [(0, .box 24 [.v (.int .i64 s.Number), .fl (.own 5) 1 (List.map (Value.int .u8) s.Data), .v (.bool true), .v (.int .i64 s10), .v (.int .i64 s10), .v (.int .i64 0), .v (.bool s.Over)]), (_, _)]) (by kernel_rfl) rfl rfl
      ⟨st_plain rfl (op_move _ _ _ _ rfl rfl),
      st_plain rfl (op_move _ _ _ _ rfl rfl),
      st_plain rfl (op_move _ _ _ _ rfl rfl),
      st_plain rfl (op_move _ _ _ _ rfl rfl),
      st_plain rfl (op_move _ _ _ _ rfl rfl),
      st_plain rfl (op_move _ _ _ _ rfl rfl),
      st_plain rfl (op_nilCheck _ _ _ 0 0 rfl (by decide)),
      st_plain rfl (op_fieldAddr _ _ _ _ 0 0 _ Try.underlying24 rfl sz4 rfl rfl (by decide)),
      st_plain rfl (op_store _ _ _ _ _ _ _ _ sz4 rfl rfl rfl rfl (Nat.le_of_ble_eq_true rfl) rfl rfl),
      st_plain rfl (op_nilCheck _ _ _ 0 0 rfl (by decide)),
      st_plain rfl (op_fieldAddr _ _ _ _ 0 0 _ Try.underlying24 rfl sz3 rfl rfl (by decide)),
      st_plain rfl (op_store _ _ _ _ _ _ _ _ sz3 rfl rfl rfl rfl (Nat.le_of_ble_eq_true rfl) rfl rfl),
      st_plain rfl (op_nilCheck _ _ _ 0 0 rfl (by decide)),
      st_plain rfl (op_fieldAddr _ _ _ _ 0 0 _ Try.underlying24 rfl sz3 rfl rfl (by decide)),
      st_plain rfl (op_store _ _ _ _ _ _ _ _ sz3 rfl rfl rfl rfl (Nat.le_of_ble_eq_true rfl) rfl rfl),
      st_plain rfl (op_nilCheck _ _ _ 0 0 rfl (by decide)),
      st_plain rfl (op_fieldAddr _ _ _ _ 0 0 _ Try.underlying24 rfl sz3 rfl rfl (by decide)),
      st_plain rfl (op_store _ _ _ _ _ _ _ _ sz3 rfl rfl rfl rfl (Nat.le_of_ble_eq_true rfl) rfl rfl),
      trivial⟩ ?_
     refine pt_then ?_
     refine ht_seq ?_
     refine ht_seqR hn (El := [_, _, (4, .v (.bool true))]) (init := [0, 1]) (fin := [0, 1, 2]) (sps := [⟨[], [], [2], [(.slot 4)]⟩]) (es' := [(_, _), (_, _), (4, .v (.bool true))]) (by kernel_rfl) rfl rfl
      ⟨st_plain rfl (op_assign _ _ _ _ rfl rfl),
      trivial⟩ ?_
     refine pt_then ?_
     refine ht_ret ?_
     refine pt_pick [2, 0, 1] (by kernel_rfl) (es' := [(_, _), (_, _), (_, _)]) rfl ?_
     obtain rfl := Option.some.inj h
     exact pt_retP (es := [(4, .v (.bool true))]) (posts := [.box 24 [.v (.int .i64 s.Number), .fl (.own 5) 1 (List.map (Value.int .u8) s.Data), .v (.bool true), .v (.int .i64 s10), .v (.int .i64 s10), .v (.int .i64 0), .v (.bool s.Over)]]) hio rfl rfl (.tmp _ _ .nil) rfl rfl hargs0 rfl
    ·intro u11 h hl12 hr13
     refine ht_seq ?_
     refine ht_seqR hn (El := [_, _, _, _, (32, .v (.bool ((offset == (s.Data.length : Int)))))]) (init := [0, 1, 2, 3]) (fin := [0, 1, 3, 4]) (sps := [⟨[2], [], [4], [(.slot 32)]⟩]) (es' := [(_, _), (_, _), (_, _), (32, .v (.bool ((offset == (s.Data.length : Int)))))]) (by kernel_rfl) rfl rfl
      ⟨st_plain rfl (op_move _ _ _ _ rfl rfl),
      trivial⟩ ?_
     refine pt_then ?_
     refine ht_cond _ rfl (fun hb14 => ?_) (fun hb14 => ?_)
     ·have h := cond_t hb14 h
      obtain ⟨v9, hv9, h⟩ := bind_some h
      refine ht_seqR hn (El := [_, _, _, _, (33, .ptr 0 0), (34, .ptr 0 0), (35, .agg [.v (.int .i64 s.Number), .same (.cell 0 1), .v (.bool s.Ready), .v (.int .i64 s.Base), .v (.int .i64 s.Next), .v (.int .i64 s.Wait), .v (.bool s.Over)]), (36, .v (.int .i64 v9)), (6, .v (.int .i64 v9))]) (init := [0, 1, 2, 3]) (fin := [0, 1, 8]) (sps := [⟨[0], [], [4], [(.slot 33)]⟩, ⟨[4, 0], [], [5], [(.slot 34)]⟩, ⟨[5, 0], [], [6], [(.slot 35)]⟩, ⟨[6, 0], [], [7], [(.slot 36)]⟩, ⟨[7], [2], [8], [(.slot 6)]⟩]) (es' := [(_, _), (_, _), (6, .v (.int .i64 v9))]) (by kernel_rfl) rfl rfl
       ⟨st_plain rfl (op_move _ _ _ _ rfl rfl),
       st_plain rfl (op_nilCheck _ _ _ 0 0 rfl (by decide)),
       st_plain rfl (op_loadA _ _ _ _ _ _ _ Try.underlying24 rfl sz24 rfl rfl (Nat.le_of_ble_eq_true rfl) rfl rfl),
       st_plain rfl (op_call _ _ 33 _ _ rfl Try.call33 rfl (ok_sender_pieces s _ hv9) rfl rfl),
       st_plain rfl (LOp.drop [_] (op_assign _ _ _ _ rfl rfl)),
       trivial⟩ ?_
      exact hl12 _ (Option.some.inj h).symm
     ·have h := cond_f hb14 h
      refine ht_skip ?_
      refine pt_pick [0, 1, 2] (by kernel_rfl) (es' := [(_, _), (_, _), (_, _)]) rfl ?_
      exact hl12 _ (Option.some.inj h).symm
  ·intro u3 h hl4 hr5
   refine cond_some h (fun hg2_2 h => ?_) (fun hg2_2 h => ?_)
   ·refine cond_some h (fun hg2_10 h => ?_) (fun hg2_10 h => ?_)
    ·refine ht_seqR hn (El := (_ :: _ :: _ :: _ :: (14, .v (.bool ((offset == (s.Data.length : Int))))) :: (15, .v (.bool ((!((offset == (s.Data.length : Int))))))) :: (16, .v (.bool true)) :: (17, .v (.int .i64 offset)) :: (18, .ptr 0 0) :: (19, .ptr 0 0) :: (20, .ptr 0 1) :: (21, .same (.cell 0 1)) :: (22, .v (.int .i64 (s.Data.length : Int))) :: (23, .v (.bool ((decide ((s.Data.length : Int) < offset))))) :: (24, .v (.bool true)) :: (25, .v undef) :: (26, .v undef) :: (27, .v undef) :: (28, .v (.bool true)) :: (29, .v (.bool true)) :: [])) (init := [0, 1, 2, 3]) (fin := [0, 1, 2, 3, 19]) (sps := (⟨[3], [], [4], [(.slot 14)]⟩ :: ⟨[4], [], [5], [(.slot 15)]⟩ :: ⟨[5], [], [6], [(.slot 16)]⟩ :: ⟨[6, 1], [], [7], [(.slot 17)]⟩ :: ⟨[6, 0], [], [8], [(.slot 18)]⟩ :: ⟨[6, 8, 0], [], [9], [(.slot 19)]⟩ :: ⟨[6, 9, 0], [], [10], [(.slot 20)]⟩ :: ⟨[6, 10, 0], [], [11], [(.slot 21)]⟩ :: ⟨[6, 11, 0], [], [12], [(.slot 22)]⟩ :: ⟨[6, 7, 12], [], [13], [(.slot 23)]⟩ :: ⟨[6, 13], [], [14], [(.slot 24)]⟩ :: ⟨[14], [], [15], [(.slot 25)]⟩ :: ⟨[14], [], [16], [(.slot 26)]⟩ :: ⟨[14], [], [17], [(.slot 27)]⟩ :: ⟨[6, 14], [], [18], [(.slot 28)]⟩ :: ⟨[6, 18], [], [19], [(.slot 29)]⟩ :: [])) (es' := [(_, _), (_, _), (_, _), (_, _), (29, .v (.bool true))]) (by kernel_rfl) rfl rfl
      ⟨st_plain rfl (op_move _ _ _ _ rfl rfl),
      st_plain rfl (op_un _ _ _ _ rfl rfl),
      st_plain rfl (op_move _ _ _ _ (congrArg (fun b => AV.v (Value.bool b)) hg2_2) rfl),
      st_run 2 16 true rfl rfl rfl (List.Mem.head _) (op_move _ _ _ _ rfl rfl),
      st_run 2 16 true rfl rfl rfl (List.Mem.head _) (op_move _ _ _ _ rfl rfl),
      st_run 2 16 true rfl rfl rfl (List.Mem.head _) (op_nilCheck _ _ _ 0 0 rfl (by decide)),
      st_run 2 16 true rfl rfl rfl (List.Mem.head _) (op_fieldAddr _ _ _ _ 0 0 _ Try.underlying24 rfl sz22 rfl rfl (by decide)),
      st_run 2 16 true rfl rfl rfl (List.Mem.head _) (op_load _ _ _ _ _ _ Try.underlying22 rfl rfl rfl (Nat.le_of_ble_eq_true rfl) rfl rfl rfl),
      st_run 2 16 true rfl rfl rfl (List.Mem.head _) (op_len_fl _ _ _ Try.underlying22 rfl (by decide) (map_len _)),
      st_run 2 16 true rfl rfl rfl (List.Mem.head _) (op_bin _ _ _ _ _ rfl rfl rfl),
      st_run 2 16 true rfl rfl rfl (List.Mem.head _) (op_move _ _ _ _ (congrArg (fun b => AV.v (Value.bool b)) hg2_10) rfl),
      st_skip 10 24 _ false rfl rfl rfl rfl (List.Mem.head _),
      st_skip 10 24 _ false rfl rfl rfl rfl (List.Mem.head _),
      st_skip 10 24 _ false rfl rfl rfl rfl (List.Mem.head _),
      st_run 2 16 true rfl rfl rfl (List.Mem.head _) (op_pick _ _ true _ rfl rfl),
      st_plain rfl (op_pick _ _ true _ rfl rfl),
      trivial⟩ ?_
     exact hl4 _ (Option.some.inj h).symm
    ·obtain ⟨v1, hv1, h⟩ := bind_some h
     refine ht_seqR hn (El := (_ :: _ :: _ :: _ :: (14, .v (.bool ((offset == (s.Data.length : Int))))) :: (15, .v (.bool ((!((offset == (s.Data.length : Int))))))) :: (16, .v (.bool true)) :: (17, .v (.int .i64 offset)) :: (18, .ptr 0 0) :: (19, .ptr 0 0) :: (20, .ptr 0 1) :: (21, .same (.cell 0 1)) :: (22, .v (.int .i64 (s.Data.length : Int))) :: (23, .v (.bool ((decide ((s.Data.length : Int) < offset))))) :: (24, .v (.bool false)) :: (25, .v (.int .i64 offset)) :: (26, .v (.int .i64 v1)) :: (27, .v (.bool (v1 != 0))) :: (28, .v (.bool (v1 != 0))) :: (29, .v (.bool (v1 != 0))) :: [])) (init := [0, 1, 2, 3]) (fin := [0, 1, 2, 3, 19]) (sps := (⟨[3], [], [4], [(.slot 14)]⟩ :: ⟨[4], [], [5], [(.slot 15)]⟩ :: ⟨[5], [], [6], [(.slot 16)]⟩ :: ⟨[6, 1], [], [7], [(.slot 17)]⟩ :: ⟨[6, 0], [], [8], [(.slot 18)]⟩ :: ⟨[6, 8, 0], [], [9], [(.slot 19)]⟩ :: ⟨[6, 9, 0], [], [10], [(.slot 20)]⟩ :: ⟨[6, 10, 0], [], [11], [(.slot 21)]⟩ :: ⟨[6, 11, 0], [], [12], [(.slot 22)]⟩ :: ⟨[6, 7, 12], [], [13], [(.slot 23)]⟩ :: ⟨[6, 13], [], [14], [(.slot 24)]⟩ :: ⟨[14, 1], [], [15], [(.slot 25)]⟩ :: ⟨[14, 15], [], [16], [(.slot 26)]⟩ :: ⟨[14, 16], [], [17], [(.slot 27)]⟩ :: ⟨[6, 14, 17], [], [18], [(.slot 28)]⟩ :: ⟨[6, 18], [], [19], [(.slot 29)]⟩ :: [])) (es' := [(_, _), (_, _), (_, _), (_, _), (29, .v (.bool (v1 != 0)))]) (by kernel_rfl) rfl rfl
      ⟨st_plain rfl (op_move _ _ _ _ rfl rfl),
      st_plain rfl (op_un _ _ _ _ rfl rfl),
      st_plain rfl (op_move _ _ _ _ (congrArg (fun b => AV.v (Value.bool b)) hg2_2) rfl),
      st_run 2 16 true rfl rfl rfl (List.Mem.head _) (op_move _ _ _ _ rfl rfl),
      st_run 2 16 true rfl rfl rfl (List.Mem.head _) (op_move _ _ _ _ rfl rfl),
      st_run 2 16 true rfl rfl rfl (List.Mem.head _) (op_nilCheck _ _ _ 0 0 rfl (by decide)),
      st_run 2 16 true rfl rfl rfl (List.Mem.head _) (op_fieldAddr _ _ _ _ 0 0 _ Try.underlying24 rfl sz22 rfl rfl (by decide)),
      st_run 2 16 true rfl rfl rfl (List.Mem.head _) (op_load _ _ _ _ _ _ Try.underlying22 rfl rfl rfl (Nat.le_of_ble_eq_true rfl) rfl rfl rfl),
      st_run 2 16 true rfl rfl rfl (List.Mem.head _) (op_len_fl _ _ _ Try.underlying22 rfl (by decide) (map_len _)),
      st_run 2 16 true rfl rfl rfl (List.Mem.head _) (op_bin _ _ _ _ _ rfl rfl rfl),
      st_run 2 16 true rfl rfl rfl (List.Mem.head _) (op_move _ _ _ _ (congrArg (fun b => AV.v (Value.bool b)) hg2_10) rfl),
      st_run 10 24 false rfl rfl rfl (List.Mem.head _) (op_move _ _ _ _ rfl rfl),
      st_run 10 24 false rfl rfl rfl (List.Mem.head _) (op_bin _ _ _ _ _ rfl rfl (rem_ok hv1)),
      st_run 10 24 false rfl rfl rfl (List.Mem.head _) (op_bin _ _ _ _ _ rfl rfl rfl),
      st_run 2 16 true rfl rfl rfl (List.Mem.head _) (op_pick _ _ false _ rfl rfl),
      st_plain rfl (op_pick _ _ true _ rfl rfl),
      trivial⟩ ?_
     exact hl4 _ (Option.some.inj h).symm
   ·refine ht_seqR hn (El := (_ :: _ :: _ :: _ :: (14, .v (.bool ((offset == (s.Data.length : Int))))) :: (15, .v (.bool ((!((offset == (s.Data.length : Int))))))) :: (16, .v (.bool false)) :: (17, .v undef) :: (18, .v undef) :: (19, .v undef) :: (20, .v undef) :: (21, .v undef) :: (22, .v undef) :: (23, .v undef) :: (24, .v undef) :: (25, .v undef) :: (26, .v undef) :: (27, .v undef) :: (28, .v undef) :: (29, .v (.bool false)) :: [])) (init := [0, 1, 2, 3]) (fin := [0, 1, 2, 3, 19]) (sps := (⟨[3], [], [4], [(.slot 14)]⟩ :: ⟨[4], [], [5], [(.slot 15)]⟩ :: ⟨[5], [], [6], [(.slot 16)]⟩ :: ⟨[6], [], [7], [(.slot 17)]⟩ :: ⟨[6], [], [8], [(.slot 18)]⟩ :: ⟨[6], [], [9], [(.slot 19)]⟩ :: ⟨[6], [], [10], [(.slot 20)]⟩ :: ⟨[6], [], [11], [(.slot 21)]⟩ :: ⟨[6], [], [12], [(.slot 22)]⟩ :: ⟨[6], [], [13], [(.slot 23)]⟩ :: ⟨[6], [], [14], [(.slot 24)]⟩ :: ⟨[14], [], [15], [(.slot 25)]⟩ :: ⟨[14], [], [16], [(.slot 26)]⟩ :: ⟨[14], [], [17], [(.slot 27)]⟩ :: ⟨[6], [], [18], [(.slot 28)]⟩ :: ⟨[6], [], [19], [(.slot 29)]⟩ :: [])) (es' := [(_, _), (_, _), (_, _), (_, _), (29, .v (.bool false))]) (by kernel_rfl) rfl rfl
     ⟨st_plain rfl (op_move _ _ _ _ rfl rfl),
     st_plain rfl (op_un _ _ _ _ rfl rfl),
     st_plain rfl (op_move _ _ _ _ (congrArg (fun b => AV.v (Value.bool b)) hg2_2) rfl),
     st_skip 2 16 _ true rfl rfl rfl rfl (List.Mem.head _),
     st_skip 2 16 _ true rfl rfl rfl rfl (List.Mem.head _),
     st_skip 2 16 _ true rfl rfl rfl rfl (List.Mem.head _),
     st_skip 2 16 _ true rfl rfl rfl rfl (List.Mem.head _),
     st_skip 2 16 _ true rfl rfl rfl rfl (List.Mem.head _),
     st_skip 2 16 _ true rfl rfl rfl rfl (List.Mem.head _),
     st_skip 2 16 _ true rfl rfl rfl rfl (List.Mem.head _),
     st_skip 2 16 _ true rfl rfl rfl rfl (List.Mem.head _),
     st_skipU 10 24 _ false rfl rfl rfl rfl (List.Mem.head _),
     st_skipU 10 24 _ false rfl rfl rfl rfl (List.Mem.head _),
     st_skipU 10 24 _ false rfl rfl rfl rfl (List.Mem.head _),
     st_skip 2 16 _ true rfl rfl rfl rfl (List.Mem.head _),
     st_plain rfl (op_pick _ _ false _ rfl rfl),
     trivial⟩ ?_
    exact hl4 _ (Option.some.inj h).symm

set_option maxHeartbeats 1000000 in
theorem ok_sender_ack (s : T_Send) (seq : Int) (r : (Bool × T_Send)) (h : Sh.sender_ack s seq = some r) : FnP Try.prog 38 [.box 24 [.v (.int .i64 s.Number), .fl (.own 5) 1 (List.map (Value.int .u8) s.Data), .v (.bool s.Ready), .v (.int .i64 s.Base), .v (.int .i64 s.Next), .v (.int .i64 s.Wait), .v (.bool s.Over)], .v (.int .i64 seq)] [.box 24 [.v (.int .i64 r.2.Number), .fl (.own 5) 1 (List.map (Value.int .u8) r.2.Data), .v (.bool r.2.Ready), .v (.int .i64 r.2.Base), .v (.int .i64 r.2.Next), .v (.int .i64 r.2.Wait), .v (.bool r.2.Over)]] (.v (.bool r.1)) := by
  unfold Sh.sender_ack at h
  refine fn_okP Try.func38 rfl (Nat.le_of_ble_eq_true rfl) rfl (Nat.le_of_ble_eq_true rfl) fun args0 hargs0 g0 hn hio => ?_
  refine ht_seq ?_
  refine ht_seqR hn (El := [_, _, _, (4, .v (.bool false))]) (init := [0, 1, 2]) (fin := [0, 1, 2]) (sps := [⟨[], [], [3], [(.slot 4)]⟩]) (es' := [(_, _), (_, _), (_, _)]) (by kernel_rfl) rfl rfl
   ⟨st_plain rfl (op_assign _ _ _ _ rfl rfl),
   trivial⟩ ?_
  refine pt_then ?_
  refine ht_seq ?_
  refine ht_seq ?_
  refine ht_seqR hn (El := [_, _, _, (6, .ptr 0 0), (7, .ptr 0 0), (8, .ptr 0 2), (9, .v (.bool s.Ready)), (10, .v (.bool (!s.Ready)))]) (init := [0, 1, 2]) (fin := [0, 1, 2, 7]) (sps := [⟨[0], [], [3], [(.slot 6)]⟩, ⟨[3, 0], [], [4], [(.slot 7)]⟩, ⟨[4, 0], [], [5], [(.slot 8)]⟩, ⟨[5, 0], [], [6], [(.slot 9)]⟩, ⟨[6], [], [7], [(.slot 10)]⟩]) (es' := [(_, _), (_, _), (_, _), (10, .v (.bool (!s.Ready)))]) (by kernel_rfl) rfl rfl
   ⟨st_plain rfl (op_move _ _ _ _ rfl rfl),
   st_plain rfl (op_nilCheck _ _ _ 0 0 rfl (by decide)),
   st_plain rfl (op_fieldAddr _ _ _ _ 0 0 _ Try.underlying24 rfl sz4 rfl rfl (by decide)),
   st_plain rfl (op_load _ _ _ _ _ _ Try.underlying4 rfl rfl rfl (Nat.le_of_ble_eq_true rfl) rfl rfl rfl),
   st_plain rfl (op_un _ _ _ _ rfl rfl),
   trivial⟩ ?_
  refine pt_then ?_
  refine ht_cond _ rfl (fun hb1 => ?_) (fun hb1 => ?_)
  ·have h := cond_t hb1 h
   refine ht_seq ?_
   refine ht_seqR hn (El := [_, _, _, _, (4, .v (.bool false))]) (init := [0, 1, 2, 3]) (fin := [0, 2, 4]) (sps := [⟨[], [], [4], [(.slot 4)]⟩]) (es' := [(_, _), (_, _), (4, .v (.bool false))]) (by kernel_rfl) rfl rfl
    ⟨st_plain rfl (op_assign _ _ _ _ rfl rfl),
    trivial⟩ ?_
   refine pt_then ?_
   refine ht_ret ?_
   refine pt_pick [2, 0, 1] (by kernel_rfl) (es' := [(_, _), (_, _), (_, _)]) rfl ?_
   refine pt_r_then ?_
   obtain rfl := Option.some.inj h
   exact pt_retP (es := [(4, .v (.bool false))]) (posts := [.box 24 [.v (.int .i64 s.Number), .fl (.own 5) 1 (List.map (Value.int .u8) s.Data), .v (.bool s.Ready), .v (.int .i64 s.Base), .v (.int .i64 s.Next), .v (.int .i64 s.Wait), .v (.bool s.Over)]]) hio rfl rfl (.tmp _ _ .nil) rfl rfl hargs0 rfl
  ·have h := cond_f hb1 h
   refine ht_skip ?_
   refine pt_then ?_
   refine ht_seq ?_
   refine ht_seq ?_
   obtain ⟨v2, hv2, h⟩ := bind_some h
   refine ht_seqR hn (El := [_, _, _, _, (11, .ptr 0 0), (12, .ptr 0 0), (13, .ptr 0 3), (14, .v (.int .i64 s.Base)), (15, .v (.int .i64 v2)), (5, .v (.int .i64 v2))]) (init := [0, 1, 2, 3]) (fin := [0, 1, 2, 9]) (sps := [⟨[0], [], [4], [(.slot 11)]⟩, ⟨[4, 0], [], [5], [(.slot 12)]⟩, ⟨[5, 0], [], [6], [(.slot 13)]⟩, ⟨[6, 0], [], [7], [(.slot 14)]⟩, ⟨[7], [], [8], [(.slot 15)]⟩, ⟨[8], [], [9], [(.slot 5)]⟩]) (es' := [(_, _), (_, _), (_, _), (5, .v (.int .i64 v2))]) (by kernel_rfl) rfl rfl
    ⟨st_plain rfl (op_move _ _ _ _ rfl rfl),
    st_plain rfl (op_nilCheck _ _ _ 0 0 rfl (by decide)),
    st_plain rfl (op_fieldAddr _ _ _ _ 0 0 _ Try.underlying24 rfl sz3 rfl rfl (by decide)),
    st_plain rfl (op_load _ _ _ _ _ _ Try.underlying3 rfl rfl rfl (Nat.le_of_ble_eq_true rfl) rfl rfl rfl),
    st_plain rfl (op_bin _ _ _ _ _ rfl rfl (ibind (f := Value.int .i64) (Option.some.inj hv2))),
    st_plain rfl (op_assign _ _ _ _ rfl rfl),
    trivial⟩ ?_
   refine pt_then ?_
   refine ht_loopS h (fun (s10 : Int) => [(0, .box 24 [.v (.int .i64 s.Number), .fl (.own 5) 1 (List.map (Value.int .u8) s.Data), .v (.bool s.Ready), .v (.int .i64 s.Base), .v (.int .i64 s.Next), .v (.int .i64 s.Wait), .v (.bool s.Over)]), (1, .v (.int .i64 seq)), (0, .v (List.getD args0 0 undef)), (5, .v (.int .i64 s10))]) (fun (() : Unit) => [(0, .box 24 [.v (.int .i64 s.Number), .fl (.own 5) 1 (List.map (Value.int .u8) s.Data), .v (.bool s.Ready), .v (.int .i64 s.Base), .v (.int .i64 s.Next), .v (.int .i64 s.Wait), .v (.bool s.Over)]), (0, .v (List.getD args0 0 undef))]) ?_ ?_
   ·rintro ⟨⟩ h
    refine pt_then ?_
    refine ht_seq ?_
    refine ht_seqR hn (El := [_, _, (4, .v (.bool false))]) (init := [0, 1]) (fin := [0, 1, 2]) (sps := [⟨[], [], [2], [(.slot 4)]⟩]) (es' := [(_, _), (_, _), (4, .v (.bool false))]) (by kernel_rfl) rfl rfl
     ⟨st_plain rfl (op_assign _ _ _ _ rfl rfl),
     trivial⟩ ?_
    refine pt_then ?_
    refine ht_ret ?_
    refine pt_pick [2, 0, 1] (by kernel_rfl) (es' := [(_, _), (_, _), (_, _)]) rfl ?_
    obtain rfl := Option.some.inj h
    exact pt_retP (es := [(4, .v (.bool false))]) (posts := [.box 24 [.v (.int .i64 s.Number), .fl (.own 5) 1 (List.map (Value.int .u8) s.Data), .v (.bool s.Ready), .v (.int .i64 s.Base), .v (.int .i64 s.Next), .v (.int .i64 s.Wait), .v (.bool s.Over)]]) hio rfl rfl (.tmp _ _ .nil) rfl rfl hargs0 rfl
   ·rintro u13 hl14 hr15 s10 rr18 h ho16
    refine ht_seq ?_
    refine ht_seq ?_
    refine ht_seqR hn (El := [_, _, _, _, (16, .v (.int .i64 s10)), (17, .ptr 0 0), (18, .ptr 0 0), (19, .ptr 0 4), (20, .v (.int .i64 s.Next)), (21, .v (.bool ((decide (s10 ≤ s.Next)))))]) (init := [0, 1, 2, 3]) (fin := [0, 1, 2, 3, 9]) (sps := [⟨[3], [], [4], [(.slot 16)]⟩, ⟨[0], [], [5], [(.slot 17)]⟩, ⟨[5, 0], [], [6], [(.slot 18)]⟩, ⟨[6, 0], [], [7], [(.slot 19)]⟩, ⟨[7, 0], [], [8], [(.slot 20)]⟩, ⟨[4, 8], [], [9], [(.slot 21)]⟩]) (es' := [(_, _), (_, _), (_, _), (_, _), (21, .v (.bool ((decide (s10 ≤ s.Next)))))]) (by kernel_rfl) rfl rfl
     ⟨st_plain rfl (op_move _ _ _ _ rfl rfl),
     st_plain rfl (op_move _ _ _ _ rfl rfl),
     st_plain rfl (op_nilCheck _ _ _ 0 0 rfl (by decide)),
     st_plain rfl (op_fieldAddr _ _ _ _ 0 0 _ Try.underlying24 rfl sz3 rfl rfl (by decide)),
     st_plain rfl (op_load _ _ _ _ _ _ Try.underlying3 rfl rfl rfl (Nat.le_of_ble_eq_true rfl) rfl rfl rfl),
     st_plain rfl (op_bin _ _ _ _ _ rfl rfl rfl),
     trivial⟩ ?_
    refine pt_then ?_
    refine ht_cond _ rfl (fun hb19 => ?_) (fun hb19 => ?_)
    ·have h := cond_t hb19 h
     refine ht_skip ?_
     refine pt_then ?_
     refine ht_seq ?_
     refine ht_block ?_
     refine ht_seq ?_
     obtain ⟨v4, hv4, h⟩ := bind_some h
     refine ht_seqR hn (El := [_, _, _, _, _, (24, .v (.int .i64 s10)), (25, .v (.int .i64 v4)), (26, .v (.int .i64 seq)), (27, .v (.bool (v4 == seq)))]) (init := [0, 1, 2, 3, 4]) (fin := [0, 1, 2, 3, 8]) (sps := [⟨[3], [], [5], [(.slot 24)]⟩, ⟨[5], [], [6], [(.slot 25)]⟩, ⟨[1], [], [7], [(.slot 26)]⟩, ⟨[6, 7], [], [8], [(.slot 27)]⟩]) (es' := [(_, _), (_, _), (_, _), (_, _), (27, .v (.bool (v4 == seq)))]) (by kernel_rfl) rfl rfl
      ⟨st_plain rfl (op_move _ _ _ _ rfl rfl),
      st_plain rfl (op_bin _ _ _ _ _ rfl rfl (rem_ok hv4)),
      st_plain rfl (op_move _ _ _ _ rfl rfl),
      st_plain rfl (op_bin _ _ _ _ _ rfl rfl rfl),
      trivial⟩ ?_
     refine pt_then ?_
     refine ht_cond _ rfl (fun hb20 => ?_) (fun hb20 => ?_)
     ·have h := cond_t hb20 h
      refine ht_seq ?_
      refine ht_seqR hn (El := [_, _, _, _, _, (28, .ptr 0 0), (29, .ptr 0 0), (30, .v (.int .i64 s10)), (31, .ptr 0 0), (32, .ptr 0 3), (0, .box 24 [.v (.int .i64 s.Number), .fl (.own 5) 1 (List.map (Value.int .u8) s.Data), .v (.bool s.Ready), .v (.int .i64 s10), .v (.int .i64 s.Next), .v (.int .i64 s.Wait), .v (.bool s.Over)]), (33, .ptr 0 0), (34, .ptr 0 5), (0, .box 24 [.v (.int .i64 s.Number), .fl (.own 5) 1 (List.map (Value.int .u8) s.Data), .v (.bool s.Ready), .v (.int .i64 s10), .v (.int .i64 s.Next), .v (.int .i64 3), .v (.bool s.Over)])]) (init := [0, 1, 2, 3, 4]) (fin := [13, 2]) (sps := [⟨[0], [], [5], [(.slot 28)]⟩, ⟨[0], [], [6], [(.slot 29)]⟩, ⟨[3], [], [7], [(.slot 30)]⟩, ⟨[5, 0], [], [8], [(.slot 31)]⟩, ⟨[8, 0], [], [9], [(.slot 32)]⟩, ⟨[9, 7], [0], [10], [.cell 0 3]⟩, ⟨[6, 10], [], [11], [(.slot 33)]⟩, ⟨[11, 10], [], [12], [(.slot 34)]⟩, ⟨[12], [10], [13], [.cell 0 5]⟩]) (es' := [(0, .box 24 [.v (.int .i64 s.Number), .fl (.own 5) 1 (List.map (Value.int .u8) s.Data), .v (.bool s.Ready), .v (.int .i64 s10), .v (.int .i64 s.Next), .v (.int .i64 3), .v (.bool s.Over)]), (_, _)]) (by kernel_rfl) rfl rfl
       ⟨st_plain rfl (op_move _ _ _ _ rfl rfl),
       st_plain rfl (op_move _ _ _ _ rfl rfl),
       st_plain rfl (op_move _ _ _ _ rfl rfl),
       st_plain rfl (op_nilCheck _ _ _ 0 0 rfl (by decide)),
       st_plain rfl (op_fieldAddr _ _ _ _ 0 0 _ Try.underlying24 rfl sz3 rfl rfl (by decide)),
       st_plain rfl (op_store _ _ _ _ _ _ _ _ sz3 rfl rfl rfl rfl (Nat.le_of_ble_eq_true rfl) rfl rfl),
       st_plain rfl (op_nilCheck _ _ _ 0 0 rfl (by decide)),
       st_plain rfl (op_fieldAddr _ _ _ _ 0 0 _ Try.underlying24 rfl sz3 rfl rfl (by decide)),
       st_plain rfl (op_store _ _ _ _ _ _ _ _ sz3 rfl rfl rfl rfl (Nat.le_of_ble_eq_true rfl) rfl rfl),
       trivial⟩ ?_
      refine pt_then ?_
      refine ht_seq ?_
      refine ht_seqR hn (El := [_, _, (4, .v (.bool true))]) (init := [0, 1]) (fin := [0, 1, 2]) (sps := [⟨[], [], [2], [(.slot 4)]⟩]) (es' := [(_, _), (_, _), (4, .v (.bool true))]) (by kernel_rfl) rfl rfl
       ⟨st_plain rfl (op_assign _ _ _ _ rfl rfl),
       trivial⟩ ?_
      refine pt_then ?_
      refine ht_ret ?_
      refine pt_pick [2, 0, 1] (by kernel_rfl) (es' := [(_, _), (_, _), (_, _)]) rfl ?_
      refine pt_r_in ?_
      refine pt_r_then ?_
      refine pt_r_then ?_
      refine pt_r_in ?_
      refine pt_r_then ?_
      have h := hr15 _ (ho16 _ (Option.some.inj h).symm).symm
      obtain rfl := Option.some.inj h
      exact pt_retP (es := [(4, .v (.bool true))]) (posts := [.box 24 [.v (.int .i64 s.Number), .fl (.own 5) 1 (List.map (Value.int .u8) s.Data), .v (.bool s.Ready), .v (.int .i64 s10), .v (.int .i64 s.Next), .v (.int .i64 3), .v (.bool s.Over)]]) hio rfl rfl (.tmp _ _ .nil) rfl rfl hargs0 rfl
     ·have h := cond_f hb20 h
      refine ht_skip ?_
      refine pt_inb ?_
      refine pt_then ?_
      obtain ⟨v6, hv6, h⟩ := bind_some h
      refine ht_seqR hn (El := [_, _, _, _, _, (22, .v (.int .i64 s10)), (23, .v (.int .i64 v6)), (5, .v (.int .i64 v6))]) (init := [0, 1, 2, 3, 4]) (fin := [0, 1, 2, 7]) (sps := [⟨[3], [], [5], [(.slot 22)]⟩, ⟨[5], [], [6], [(.slot 23)]⟩, ⟨[6], [3], [7], [(.slot 5)]⟩]) (es' := [(_, _), (_, _), (_, _), (5, .v (.int .i64 v6))]) (by kernel_rfl) rfl rfl
       ⟨st_plain rfl (op_move _ _ _ _ rfl rfl),
       st_plain rfl (op_bin _ _ _ _ _ rfl rfl (ibind (f := Value.int .i64) (Option.some.inj hv6))),
       st_plain rfl (LOp.drop [_] (op_assign _ _ _ _ rfl rfl)),
       trivial⟩ ?_
      exact pt_next _ (Option.some.inj h).symm rfl
    ·have h := cond_f hb19 h
     refine ht_exit ?_
     refine pt_x_then ?_
     refine pt_x_then ?_
     refine pt_x_in ?_
     refine pt_pick [0, 2] (by kernel_rfl) (es' := [(_, _), (_, _)]) rfl ?_
     exact hl14 _ (ho16 _ (Option.some.inj h).symm).symm

end Go.Proofs.Ytdligpdfcfbgpaa
