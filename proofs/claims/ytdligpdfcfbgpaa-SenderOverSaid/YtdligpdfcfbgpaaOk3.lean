/-
  The model's runs are what is told in Lean.
-/
import Derived.Test.YtdligpdfcfbgpaaProg
import Derived.KernelRfl
import Derived.Test.YtdligpdfcfbgpaaOk2
set_option linter.unusedVariables false
set_option linter.unusedSimpArgs false
namespace Go.Proofs.Ytdligpdfcfbgpaa
open Go.Abs Go.Abs.Sh

set_option maxHeartbeats 1000000 in
theorem ok_wherrylaw21_wakes (r : Bool) (h : Sh.wherrylaw21_wakes  = some r) : FnOK Try.prog 21 [] (.v (.bool r)) := by
  unfold Sh.wherrylaw21_wakes at h
  refine fn_ok Try.func21 rfl (Nat.le_of_ble_eq_true rfl) rfl rfl fun g0 hn hio => ?_
  refine ht_seq ?_
  refine ht_seqR hn (El := [(0, .v (.bool false))]) (init := []) (fin := []) (sps := [⟨[], [], [0], [(.slot 0)]⟩]) (es' := []) (by kernel_rfl) rfl rfl
    ⟨st_plain rfl (op_assign _ _ _ _ rfl rfl),
      trivial⟩ ?_
  refine pt_then ?_
  refine ht_seq ?_
  obtain ⟨v1, hv1, h⟩ := bind_some h
  refine ht_seqR hn (El := [(7, .fl (.own 5) 1 (List.map (Value.int .u8) [7])), (8, .tup [.agg [.v (.int .i64 v1.1.Number), .fl (.own 5) 1 (List.map (Value.int .u8) v1.1.Data), .v (.bool v1.1.Ready), .v (.int .i64 v1.1.Base), .v (.int .i64 v1.1.Next), .v (.int .i64 v1.1.Wait), .v (.bool v1.1.Over)], .v (.int .i64 v1.2)]), (6, .tup [.agg [.v (.int .i64 v1.1.Number), .fl (.own 5) 1 (List.map (Value.int .u8) v1.1.Data), .v (.bool v1.1.Ready), .v (.int .i64 v1.1.Base), .v (.int .i64 v1.1.Next), .v (.int .i64 v1.1.Wait), .v (.bool v1.1.Over)], .v (.int .i64 v1.2)]), (9, .agg [.v (.int .i64 v1.1.Number), .fl (.own 5) 1 (List.map (Value.int .u8) v1.1.Data), .v (.bool v1.1.Ready), .v (.int .i64 v1.1.Base), .v (.int .i64 v1.1.Next), .v (.int .i64 v1.1.Wait), .v (.bool v1.1.Over)]), (6, .tup [.any, .v (.int .i64 v1.2)]), (10, .v (.int .i64 v1.2)), (1, .box 24 [.v (.int .i64 0), .v (.slice none 0 0), .v (.bool false), .v (.int .i64 0), .v (.int .i64 0), .v (.int .i64 0), .v (.bool false)]), (1, .box 24 [.v (.int .i64 v1.1.Number), .fl (.own 5) 1 (List.map (Value.int .u8) v1.1.Data), .v (.bool v1.1.Ready), .v (.int .i64 v1.1.Base), .v (.int .i64 v1.1.Next), .v (.int .i64 v1.1.Wait), .v (.bool v1.1.Over)]), (2, .v (.int .i64 v1.2))]) (init := []) (fin := [7, 8]) (sps := [⟨[], [], [0], [(.slot 7)]⟩, ⟨[0], [], [1], [(.slot 8)]⟩, ⟨[], [1], [2], [(.slot 6)]⟩, ⟨[], [2], [4, 3], [(.slot 9)]⟩, ⟨[4], [], [5], [(.slot 10)]⟩, ⟨[], [], [6], [(.slot 1)]⟩, ⟨[], [3, 6], [7], [.cell 1 0, .cell 1 1, .cell 1 2, .cell 1 3, .cell 1 4, .cell 1 5, .cell 1 6]⟩, ⟨[5], [], [8], [(.slot 2)]⟩]) (es' := [(1, .box 24 [.v (.int .i64 v1.1.Number), .fl (.own 5) 1 (List.map (Value.int .u8) v1.1.Data), .v (.bool v1.1.Ready), .v (.int .i64 v1.1.Base), .v (.int .i64 v1.1.Next), .v (.int .i64 v1.1.Wait), .v (.bool v1.1.Over)]), (2, .v (.int .i64 v1.2))]) (by kernel_rfl) rfl rfl
    ⟨st_plain rfl (op_buildSlice _ _ 1 (.int .u8 0) (List.map (Value.int .u8) [7]) [(0, .int .u8 7)] Try.underlying22 sz5 zr5 (fun _ V w o a hv hes => by simp only [List.map_toArray, List.map_cons, List.map_nil]; try rfl) (litfill (by simp [Instr.fill, Value.cells]; rfl) (by simp [List.range, List.range.loop])) (by simp [Value.oneCell']) rfl (by decide) (by decide) (by decide)),
      st_plain rfl (op_call _ _ 16 _ _ rfl Try.call16 rfl (ok_sender_New 1 [7] _ hv1) rfl rfl),
      st_plain rfl (op_move_take _ _ _ _ rfl),
      st_plain rfl (op_extract_take _ _ _ _ _ rfl (Nat.le_of_ble_eq_true rfl) rfl rfl (by decide) rfl),
      st_plain rfl (op_extract _ _ _ _ _ rfl rfl (Nat.le_of_ble_eq_true rfl) rfl rfl),
      st_plain rfl (op_alloc _ _ zr24),
      st_plain rfl (op_store_take _ _ _ _ _ _ _ _ sz24 rfl rfl rfl (Nat.le_of_ble_eq_true rfl) rfl rfl),
      st_plain rfl (op_assign _ _ _ _ rfl rfl),
      trivial⟩ ?_
  refine pt_then ?_
  refine ht_seq ?_
  obtain ⟨v2, hv2, h⟩ := bind_some h
  refine ht_seqR hn (El := [_, _, (12, .agg [.v (.int .i64 v1.1.Number), .same (.cell 1 1), .v (.bool v1.1.Ready), .v (.int .i64 v1.1.Base), .v (.int .i64 v1.1.Next), .v (.int .i64 v1.1.Wait), .v (.bool v1.1.Over)]), (13, .tup [.agg [.v (.int .i64 v2.1.Number), .fl (.own 5) 1 (List.map (Value.int .u8) v2.1.Data), .v (.bool v2.1.Ready), .v (.int .i64 v2.1.Base), .v (.int .i64 v2.1.Next), .v (.int .i64 v2.1.Wait), .v (.bool v2.1.Over)], .fr (.own 26) false 5 (List.flatten (List.map T_Frame.ienc v2.2.1)), .v (.int .i64 v2.2.2)]), (11, .tup [.agg [.v (.int .i64 v2.1.Number), .fl (.own 5) 1 (List.map (Value.int .u8) v2.1.Data), .v (.bool v2.1.Ready), .v (.int .i64 v2.1.Base), .v (.int .i64 v2.1.Next), .v (.int .i64 v2.1.Wait), .v (.bool v2.1.Over)], .fr (.own 26) false 5 (List.flatten (List.map T_Frame.ienc v2.2.1)), .v (.int .i64 v2.2.2)]), (14, .agg [.v (.int .i64 v2.1.Number), .fl (.own 5) 1 (List.map (Value.int .u8) v2.1.Data), .v (.bool v2.1.Ready), .v (.int .i64 v2.1.Base), .v (.int .i64 v2.1.Next), .v (.int .i64 v2.1.Wait), .v (.bool v2.1.Over)]), (11, .tup [.any, .fr (.own 26) false 5 (List.flatten (List.map T_Frame.ienc v2.2.1)), .v (.int .i64 v2.2.2)]), (15, .fr (.own 26) false 5 (List.flatten (List.map T_Frame.ienc v2.2.1))), (11, .tup [.any, .any, .v (.int .i64 v2.2.2)]), (16, .v (.int .i64 v2.2.2)), (3, .box 24 [.v (.int .i64 0), .v (.slice none 0 0), .v (.bool false), .v (.int .i64 0), .v (.int .i64 0), .v (.int .i64 0), .v (.bool false)]), (3, .box 24 [.v (.int .i64 v2.1.Number), .fl (.own 5) 1 (List.map (Value.int .u8) v2.1.Data), .v (.bool v2.1.Ready), .v (.int .i64 v2.1.Base), .v (.int .i64 v2.1.Next), .v (.int .i64 v2.1.Wait), .v (.bool v2.1.Over)]), (4, .fr (.own 26) false 5 (List.flatten (List.map T_Frame.ienc v2.2.1))), (5, .v (.int .i64 v2.2.2))]) (init := [0, 1]) (fin := [0, 1, 11, 12, 13]) (sps := [⟨[0], [], [2], [(.slot 12)]⟩, ⟨[2, 0], [], [3], [(.slot 13)]⟩, ⟨[], [3], [4], [(.slot 11)]⟩, ⟨[], [4], [6, 5], [(.slot 14)]⟩, ⟨[], [6], [8, 7], [(.slot 15)]⟩, ⟨[8], [], [9], [(.slot 16)]⟩, ⟨[], [], [10], [(.slot 3)]⟩, ⟨[], [5, 10], [11], [.cell 3 0, .cell 3 1, .cell 3 2, .cell 3 3, .cell 3 4, .cell 3 5, .cell 3 6]⟩, ⟨[], [7], [12], [(.slot 4)]⟩, ⟨[9], [], [13], [(.slot 5)]⟩]) (es' := [(_, _), (_, _), (3, .box 24 [.v (.int .i64 v2.1.Number), .fl (.own 5) 1 (List.map (Value.int .u8) v2.1.Data), .v (.bool v2.1.Ready), .v (.int .i64 v2.1.Base), .v (.int .i64 v2.1.Next), .v (.int .i64 v2.1.Wait), .v (.bool v2.1.Over)]), (4, .fr (.own 26) false 5 (List.flatten (List.map T_Frame.ienc v2.2.1))), (5, .v (.int .i64 v2.2.2))]) (by kernel_rfl) rfl rfl
    ⟨st_plain rfl (op_loadA _ _ _ _ _ _ _ Try.underlying24 rfl sz24 rfl rfl (Nat.le_of_ble_eq_true rfl) rfl rfl),
      st_plain rfl (op_call _ _ 14 _ _ rfl Try.call14 rfl (ok_sender_Tick v1.1 _ hv2) rfl rfl),
      st_plain rfl (op_move_take _ _ _ _ rfl),
      st_plain rfl (op_extract_take _ _ _ _ _ rfl (Nat.le_of_ble_eq_true rfl) rfl rfl (by decide) rfl),
      st_plain rfl (op_extract_take _ _ _ _ _ rfl (Nat.le_of_ble_eq_true rfl) rfl rfl (by decide) rfl),
      st_plain rfl (op_extract _ _ _ _ _ rfl rfl (Nat.le_of_ble_eq_true rfl) rfl rfl),
      st_plain rfl (op_alloc _ _ zr24),
      st_plain rfl (op_store_take _ _ _ _ _ _ _ _ sz24 rfl rfl rfl (Nat.le_of_ble_eq_true rfl) rfl rfl),
      st_plain rfl (op_assign_take _ _ _ _ rfl),
      st_plain rfl (op_assign _ _ _ _ rfl rfl),
      trivial⟩ ?_
  refine pt_then ?_
  refine ht_seq ?_
  refine ht_joinS h (fun (s8 : Bool) => [(0, .v (.bool s8))]) ?_ ?_
  · rintro s8 h
    refine pt_then ?_
    refine ht_ret ?_
    obtain rfl := Option.some.inj h
    exact pt_ret hio rfl (.tmp _ _ .nil) rfl rfl
  · intro u9 h hl10 hr11
    refine cond_some h (fun hg3_2 h => ?_) (fun hg3_2 h => ?_)
    · refine cond_some h (fun hg3_6 h => ?_) (fun hg3_6 h => ?_)
      · refine cond_some h (fun hg3_11 h => ?_) (fun hg3_11 h => ?_)
        · obtain ⟨v3, hv3, h⟩ := bind_some h
          obtain ⟨v4, hv4, h⟩ := bind_some h
          refine cond_some h (fun hg3_18 h => ?_) (fun hg3_18 h => ?_)
          · obtain ⟨v5, hv5, h⟩ := bind_some h
            obtain ⟨v6, hv6, h⟩ := bind_some h
            refine cond_some h (fun hg3_25 h => ?_) (fun hg3_25 h => ?_)
            · refine cond_some h (fun hg3_30 h => ?_) (fun hg3_30 h => ?_)
              · obtain ⟨v7, hv7, h⟩ := bind_some h
                refine ht_seqR hn (El := (_ :: _ :: _ :: _ :: _ :: (17, .v (.int .i64 v1.2)) :: (18, .v (.bool (v1.2 == 0))) :: (19, .v (.bool true)) :: (20, .v (.int .i64 v2.2.2)) :: (21, .v (.bool (v2.2.2 == 0))) :: (22, .v (.bool (v2.2.2 == 0))) :: (23, .v (.bool true)) :: (24, .same (.slot 4)) :: (25, .v (.int .i64 (v2.2.1.length : Int))) :: (26, .v (.bool (((v2.2.1.length : Int) == 1)))) :: (27, .v (.bool (((v2.2.1.length : Int) == 1)))) :: (28, .v (.bool true)) :: (29, .same (.slot 4)) :: (30, .eref (.slot 4) (v3 * 5)) :: (31, .eref (.slot 4) (v3 * 5 + 0)) :: (32, .v (.int .i64 v4.Kind)) :: (33, .v (.bool (v4.Kind == 1))) :: (34, .v (.bool (v4.Kind == 1))) :: (35, .v (.bool true)) :: (36, .fr (.own 26) false 5 (List.flatten (List.map T_Frame.ienc v2.2.1))) :: (37, .eref (.slot 36) (v5 * 5)) :: (38, .eref (.slot 36) (v5 * 5 + 2)) :: (39, .v (.int .i64 v6.Offset)) :: (40, .v (.bool (v6.Offset == 1))) :: (41, .v (.bool (v6.Offset == 1))) :: (42, .v (.bool true)) :: (43, .ptr 3 5) :: (44, .v (.int .i64 v2.1.Wait)) :: (45, .v (.bool (v2.1.Wait == 3))) :: (46, .v (.bool (v2.1.Wait == 3))) :: (47, .v (.bool true)) :: (48, .agg [.v (.int .i64 v1.1.Number), .fl (.own 5) 1 (List.map (Value.int .u8) v1.1.Data), .v (.bool v1.1.Ready), .v (.int .i64 v1.1.Base), .v (.int .i64 v1.1.Next), .v (.int .i64 v1.1.Wait), .v (.bool v1.1.Over)]) :: (49, .v (.int .i64 v7)) :: (50, .v (.bool (v7 == 1))) :: (51, .v (.bool (v7 == 1))) :: (0, .v (.bool (v7 == 1))) :: [])) (init := [0, 1, 2, 3, 4]) (fin := [40]) (sps := (⟨[1], [], [5], [(.slot 17)]⟩ :: ⟨[5], [], [6], [(.slot 18)]⟩ :: ⟨[6], [], [7], [(.slot 19)]⟩ :: ⟨[7, 4], [], [8], [(.slot 20)]⟩ :: ⟨[7, 8], [], [9], [(.slot 21)]⟩ :: ⟨[7, 9], [], [10], [(.slot 22)]⟩ :: ⟨[10], [], [11], [(.slot 23)]⟩ :: ⟨[11, 3], [], [12], [(.slot 24)]⟩ :: ⟨[11, 12, 3], [], [13], [(.slot 25)]⟩ :: ⟨[11, 13], [], [14], [(.slot 26)]⟩ :: ⟨[11, 14], [], [15], [(.slot 27)]⟩ :: ⟨[15], [], [16], [(.slot 28)]⟩ :: ⟨[16, 3], [], [17], [(.slot 29)]⟩ :: ⟨[16, 17, 3], [], [18], [(.slot 30)]⟩ :: ⟨[16, 18, 3], [], [19], [(.slot 31)]⟩ :: ⟨[16, 19, 3], [], [20], [(.slot 32)]⟩ :: ⟨[16, 20], [], [21], [(.slot 33)]⟩ :: ⟨[16, 21], [], [22], [(.slot 34)]⟩ :: ⟨[22], [], [23], [(.slot 35)]⟩ :: ⟨[23], [12, 17, 18, 19, 3], [24], [(.slot 36)]⟩ :: ⟨[23, 24], [], [25], [(.slot 37)]⟩ :: ⟨[23, 25, 24], [], [26], [(.slot 38)]⟩ :: ⟨[23, 26, 24], [], [27], [(.slot 39)]⟩ :: ⟨[23, 27], [], [28], [(.slot 40)]⟩ :: ⟨[23, 28], [], [29], [(.slot 41)]⟩ :: ⟨[29], [], [30], [(.slot 42)]⟩ :: ⟨[30, 2], [], [31], [(.slot 43)]⟩ :: ⟨[30, 31, 2], [], [32], [(.slot 44)]⟩ :: ⟨[30, 32], [], [33], [(.slot 45)]⟩ :: ⟨[30, 33], [], [34], [(.slot 46)]⟩ :: ⟨[34], [], [35], [(.slot 47)]⟩ :: ⟨[35], [0], [36], [(.slot 48)]⟩ :: ⟨[35, 36], [], [37], [(.slot 49)]⟩ :: ⟨[35, 37], [], [38], [(.slot 50)]⟩ :: ⟨[35, 38], [], [39], [(.slot 51)]⟩ :: ⟨[39], [], [40], [(.slot 0)]⟩ :: [])) (es' := [(0, .v (.bool (v7 == 1)))]) (by kernel_rfl) rfl rfl
                  ⟨st_plain rfl (op_move _ _ _ _ rfl rfl),
                    st_plain rfl (op_bin _ _ _ _ _ rfl rfl rfl),
                    st_plain rfl (op_move _ _ _ _ (congrArg (fun b => AV.v (Value.bool b)) hg3_2) rfl),
                    st_run 2 19 true rfl rfl rfl (List.Mem.head _) (op_move _ _ _ _ rfl rfl),
                    st_run 2 19 true rfl rfl rfl (List.Mem.head _) (op_bin _ _ _ _ _ rfl rfl rfl),
                    st_plain rfl (op_pick _ _ true _ rfl rfl),
                    st_plain rfl (op_move _ _ _ _ (congrArg (fun b => AV.v (Value.bool b)) hg3_6) rfl),
                    st_run 6 23 true rfl rfl rfl (List.Mem.head _) (op_move _ _ _ _ rfl rfl),
                    st_run 6 23 true rfl rfl rfl (List.Mem.head _) (op_len_fr _ _ _ Try.underlying31 rfl (by decide) (gflat_len T_Frame.ilen _)),
                    st_run 6 23 true rfl rfl rfl (List.Mem.head _) (op_bin _ _ _ _ _ rfl rfl rfl),
                    st_plain rfl (op_pick _ _ true _ rfl rfl),
                    st_plain rfl (op_move _ _ _ _ (congrArg (fun b => AV.v (Value.bool b)) hg3_11) rfl),
                    st_run 11 28 true rfl rfl rfl (List.Mem.head _) (op_move _ _ _ _ rfl rfl),
                    st_run 11 28 true rfl rfl rfl (List.Mem.head _) (op_ix_fr _ _ _ _ _ _ _ _ Try.underlying31 sz26 (by decide) rfl rfl rfl (ix_ok hv3).1 (gflat_lt T_Frame.ilen (ix_ok hv3).2) rfl),
                    st_run 11 28 true rfl rfl rfl (List.Mem.head _) (op_fieldAddr_e _ _ _ _ _ _ _ Try.underlying26 rfl sz3 rfl rfl rfl),
                    st_run 11 28 true rfl rfl rfl (List.Mem.head _) (op_load_fr _ _ _ _ _ _ _ Try.underlying3 rfl rfl rfl (gflat_cell T_Frame.ilen hv4 rfl) (.v _)),
                    st_run 11 28 true rfl rfl rfl (List.Mem.head _) (op_bin _ _ _ _ _ rfl rfl rfl),
                    st_plain rfl (op_pick _ _ true _ rfl rfl),
                    st_plain rfl (op_move _ _ _ _ (congrArg (fun b => AV.v (Value.bool b)) hg3_18) rfl),
                    st_run 18 35 true rfl rfl rfl (List.Mem.head _) (LOp.drop [_] (LOp.drop [_] (LOp.drop [_] (LOp.drop [_] (op_move_take _ _ _ _ rfl))))),
                    st_run 18 35 true rfl rfl rfl (List.Mem.head _) (op_ix_fr _ _ _ _ _ _ _ _ Try.underlying31 sz26 (by decide) rfl rfl rfl (ix_ok hv5).1 (gflat_lt T_Frame.ilen (ix_ok hv5).2) rfl),
                    st_run 18 35 true rfl rfl rfl (List.Mem.head _) (op_fieldAddr_e _ _ _ _ _ _ _ Try.underlying26 rfl sz3 rfl rfl rfl),
                    st_run 18 35 true rfl rfl rfl (List.Mem.head _) (op_load_fr _ _ _ _ _ _ _ Try.underlying3 rfl rfl rfl (gflat_cell T_Frame.ilen hv6 rfl) (.v _)),
                    st_run 18 35 true rfl rfl rfl (List.Mem.head _) (op_bin _ _ _ _ _ rfl rfl rfl),
                    st_plain rfl (op_pick _ _ true _ rfl rfl),
                    st_plain rfl (op_move _ _ _ _ (congrArg (fun b => AV.v (Value.bool b)) hg3_25) rfl),
                    st_run 25 42 true rfl rfl rfl (List.Mem.head _) (op_fieldAddr _ _ _ _ 3 0 _ Try.underlying24 rfl sz3 rfl rfl (by decide)),
                    st_run 25 42 true rfl rfl rfl (List.Mem.head _) (op_load _ _ _ _ _ _ Try.underlying3 rfl rfl rfl (Nat.le_of_ble_eq_true rfl) rfl rfl rfl),
                    st_run 25 42 true rfl rfl rfl (List.Mem.head _) (op_bin _ _ _ _ _ rfl rfl rfl),
                    st_plain rfl (op_pick _ _ true _ rfl rfl),
                    st_plain rfl (op_move _ _ _ _ (congrArg (fun b => AV.v (Value.bool b)) hg3_30) rfl),
                    st_run 30 47 true rfl rfl rfl (List.Mem.head _) (op_loadA_take _ _ _ _ Try.underlying24 rfl sz24 rfl rfl),
                    st_run 30 47 true rfl rfl rfl (List.Mem.head _) (op_call _ _ 18 _ _ rfl Try.call18 rfl (ok_sender_Pieces v1.1 _ hv7) rfl rfl),
                    st_run 30 47 true rfl rfl rfl (List.Mem.head _) (op_bin _ _ _ _ _ rfl rfl rfl),
                    st_plain rfl (op_pick _ _ true _ rfl rfl),
                    st_plain rfl (op_assign _ _ _ _ rfl rfl),
                    trivial⟩ ?_
                exact hl10 _ (Option.some.inj h).symm
              · refine ht_seqR hn (El := (_ :: _ :: _ :: _ :: _ :: (17, .v (.int .i64 v1.2)) :: (18, .v (.bool (v1.2 == 0))) :: (19, .v (.bool true)) :: (20, .v (.int .i64 v2.2.2)) :: (21, .v (.bool (v2.2.2 == 0))) :: (22, .v (.bool (v2.2.2 == 0))) :: (23, .v (.bool true)) :: (24, .same (.slot 4)) :: (25, .v (.int .i64 (v2.2.1.length : Int))) :: (26, .v (.bool (((v2.2.1.length : Int) == 1)))) :: (27, .v (.bool (((v2.2.1.length : Int) == 1)))) :: (28, .v (.bool true)) :: (29, .same (.slot 4)) :: (30, .eref (.slot 4) (v3 * 5)) :: (31, .eref (.slot 4) (v3 * 5 + 0)) :: (32, .v (.int .i64 v4.Kind)) :: (33, .v (.bool (v4.Kind == 1))) :: (34, .v (.bool (v4.Kind == 1))) :: (35, .v (.bool true)) :: (36, .fr (.own 26) false 5 (List.flatten (List.map T_Frame.ienc v2.2.1))) :: (37, .eref (.slot 36) (v5 * 5)) :: (38, .eref (.slot 36) (v5 * 5 + 2)) :: (39, .v (.int .i64 v6.Offset)) :: (40, .v (.bool (v6.Offset == 1))) :: (41, .v (.bool (v6.Offset == 1))) :: (42, .v (.bool true)) :: (43, .ptr 3 5) :: (44, .v (.int .i64 v2.1.Wait)) :: (45, .v (.bool (v2.1.Wait == 3))) :: (46, .v (.bool (v2.1.Wait == 3))) :: (47, .v (.bool false)) :: (48, .v undef) :: (49, .v undef) :: (50, .v undef) :: (51, .v (.bool false)) :: (0, .v (.bool false)) :: [])) (init := [0, 1, 2, 3, 4]) (fin := [40]) (sps := (⟨[1], [], [5], [(.slot 17)]⟩ :: ⟨[5], [], [6], [(.slot 18)]⟩ :: ⟨[6], [], [7], [(.slot 19)]⟩ :: ⟨[7, 4], [], [8], [(.slot 20)]⟩ :: ⟨[7, 8], [], [9], [(.slot 21)]⟩ :: ⟨[7, 9], [], [10], [(.slot 22)]⟩ :: ⟨[10], [], [11], [(.slot 23)]⟩ :: ⟨[11, 3], [], [12], [(.slot 24)]⟩ :: ⟨[11, 12, 3], [], [13], [(.slot 25)]⟩ :: ⟨[11, 13], [], [14], [(.slot 26)]⟩ :: ⟨[11, 14], [], [15], [(.slot 27)]⟩ :: ⟨[15], [], [16], [(.slot 28)]⟩ :: ⟨[16, 3], [], [17], [(.slot 29)]⟩ :: ⟨[16, 17, 3], [], [18], [(.slot 30)]⟩ :: ⟨[16, 18, 3], [], [19], [(.slot 31)]⟩ :: ⟨[16, 19, 3], [], [20], [(.slot 32)]⟩ :: ⟨[16, 20], [], [21], [(.slot 33)]⟩ :: ⟨[16, 21], [], [22], [(.slot 34)]⟩ :: ⟨[22], [], [23], [(.slot 35)]⟩ :: ⟨[23], [12, 17, 18, 19, 3], [24], [(.slot 36)]⟩ :: ⟨[23, 24], [], [25], [(.slot 37)]⟩ :: ⟨[23, 25, 24], [], [26], [(.slot 38)]⟩ :: ⟨[23, 26, 24], [], [27], [(.slot 39)]⟩ :: ⟨[23, 27], [], [28], [(.slot 40)]⟩ :: ⟨[23, 28], [], [29], [(.slot 41)]⟩ :: ⟨[29], [], [30], [(.slot 42)]⟩ :: ⟨[30, 2], [], [31], [(.slot 43)]⟩ :: ⟨[30, 31, 2], [], [32], [(.slot 44)]⟩ :: ⟨[30, 32], [], [33], [(.slot 45)]⟩ :: ⟨[30, 33], [], [34], [(.slot 46)]⟩ :: ⟨[34], [], [35], [(.slot 47)]⟩ :: ⟨[35], [], [36], [(.slot 48)]⟩ :: ⟨[35], [], [37], [(.slot 49)]⟩ :: ⟨[35], [], [38], [(.slot 50)]⟩ :: ⟨[35], [], [39], [(.slot 51)]⟩ :: ⟨[39], [], [40], [(.slot 0)]⟩ :: [])) (es' := [(0, .v (.bool false))]) (by kernel_rfl) rfl rfl
                  ⟨st_plain rfl (op_move _ _ _ _ rfl rfl),
                    st_plain rfl (op_bin _ _ _ _ _ rfl rfl rfl),
                    st_plain rfl (op_move _ _ _ _ (congrArg (fun b => AV.v (Value.bool b)) hg3_2) rfl),
                    st_run 2 19 true rfl rfl rfl (List.Mem.head _) (op_move _ _ _ _ rfl rfl),
                    st_run 2 19 true rfl rfl rfl (List.Mem.head _) (op_bin _ _ _ _ _ rfl rfl rfl),
                    st_plain rfl (op_pick _ _ true _ rfl rfl),
                    st_plain rfl (op_move _ _ _ _ (congrArg (fun b => AV.v (Value.bool b)) hg3_6) rfl),
                    st_run 6 23 true rfl rfl rfl (List.Mem.head _) (op_move _ _ _ _ rfl rfl),
                    st_run 6 23 true rfl rfl rfl (List.Mem.head _) (op_len_fr _ _ _ Try.underlying31 rfl (by decide) (gflat_len T_Frame.ilen _)),
                    st_run 6 23 true rfl rfl rfl (List.Mem.head _) (op_bin _ _ _ _ _ rfl rfl rfl),
                    st_plain rfl (op_pick _ _ true _ rfl rfl),
                    st_plain rfl (op_move _ _ _ _ (congrArg (fun b => AV.v (Value.bool b)) hg3_11) rfl),
                    st_run 11 28 true rfl rfl rfl (List.Mem.head _) (op_move _ _ _ _ rfl rfl),
                    st_run 11 28 true rfl rfl rfl (List.Mem.head _) (op_ix_fr _ _ _ _ _ _ _ _ Try.underlying31 sz26 (by decide) rfl rfl rfl (ix_ok hv3).1 (gflat_lt T_Frame.ilen (ix_ok hv3).2) rfl),
                    st_run 11 28 true rfl rfl rfl (List.Mem.head _) (op_fieldAddr_e _ _ _ _ _ _ _ Try.underlying26 rfl sz3 rfl rfl rfl),
                    st_run 11 28 true rfl rfl rfl (List.Mem.head _) (op_load_fr _ _ _ _ _ _ _ Try.underlying3 rfl rfl rfl (gflat_cell T_Frame.ilen hv4 rfl) (.v _)),
                    st_run 11 28 true rfl rfl rfl (List.Mem.head _) (op_bin _ _ _ _ _ rfl rfl rfl),
                    st_plain rfl (op_pick _ _ true _ rfl rfl),
                    st_plain rfl (op_move _ _ _ _ (congrArg (fun b => AV.v (Value.bool b)) hg3_18) rfl),
                    st_run 18 35 true rfl rfl rfl (List.Mem.head _) (LOp.drop [_] (LOp.drop [_] (LOp.drop [_] (LOp.drop [_] (op_move_take _ _ _ _ rfl))))),
                    st_run 18 35 true rfl rfl rfl (List.Mem.head _) (op_ix_fr _ _ _ _ _ _ _ _ Try.underlying31 sz26 (by decide) rfl rfl rfl (ix_ok hv5).1 (gflat_lt T_Frame.ilen (ix_ok hv5).2) rfl),
                    st_run 18 35 true rfl rfl rfl (List.Mem.head _) (op_fieldAddr_e _ _ _ _ _ _ _ Try.underlying26 rfl sz3 rfl rfl rfl),
                    st_run 18 35 true rfl rfl rfl (List.Mem.head _) (op_load_fr _ _ _ _ _ _ _ Try.underlying3 rfl rfl rfl (gflat_cell T_Frame.ilen hv6 rfl) (.v _)),
                    st_run 18 35 true rfl rfl rfl (List.Mem.head _) (op_bin _ _ _ _ _ rfl rfl rfl),
                    st_plain rfl (op_pick _ _ true _ rfl rfl),
                    st_plain rfl (op_move _ _ _ _ (congrArg (fun b => AV.v (Value.bool b)) hg3_25) rfl),
                    st_run 25 42 true rfl rfl rfl (List.Mem.head _) (op_fieldAddr _ _ _ _ 3 0 _ Try.underlying24 rfl sz3 rfl rfl (by decide)),
                    st_run 25 42 true rfl rfl rfl (List.Mem.head _) (op_load _ _ _ _ _ _ Try.underlying3 rfl rfl rfl (Nat.le_of_ble_eq_true rfl) rfl rfl rfl),
                    st_run 25 42 true rfl rfl rfl (List.Mem.head _) (op_bin _ _ _ _ _ rfl rfl rfl),
                    st_plain rfl (op_pick _ _ true _ rfl rfl),
                    st_plain rfl (op_move _ _ _ _ (congrArg (fun b => AV.v (Value.bool b)) hg3_30) rfl),
                    st_skip 30 47 _ true rfl rfl rfl rfl (List.Mem.head _),
                    st_skip 30 47 _ true rfl rfl rfl rfl (List.Mem.head _),
                    st_skip 30 47 _ true rfl rfl rfl rfl (List.Mem.head _),
                    st_plain rfl (op_pick _ _ false _ rfl rfl),
                    st_plain rfl (op_assign _ _ _ _ rfl rfl),
                    trivial⟩ ?_
                exact hl10 _ (Option.some.inj h).symm
            · refine ht_seqR hn (El := (_ :: _ :: _ :: _ :: _ :: (17, .v (.int .i64 v1.2)) :: (18, .v (.bool (v1.2 == 0))) :: (19, .v (.bool true)) :: (20, .v (.int .i64 v2.2.2)) :: (21, .v (.bool (v2.2.2 == 0))) :: (22, .v (.bool (v2.2.2 == 0))) :: (23, .v (.bool true)) :: (24, .same (.slot 4)) :: (25, .v (.int .i64 (v2.2.1.length : Int))) :: (26, .v (.bool (((v2.2.1.length : Int) == 1)))) :: (27, .v (.bool (((v2.2.1.length : Int) == 1)))) :: (28, .v (.bool true)) :: (29, .same (.slot 4)) :: (30, .eref (.slot 4) (v3 * 5)) :: (31, .eref (.slot 4) (v3 * 5 + 0)) :: (32, .v (.int .i64 v4.Kind)) :: (33, .v (.bool (v4.Kind == 1))) :: (34, .v (.bool (v4.Kind == 1))) :: (35, .v (.bool true)) :: (36, .fr (.own 26) false 5 (List.flatten (List.map T_Frame.ienc v2.2.1))) :: (37, .eref (.slot 36) (v5 * 5)) :: (38, .eref (.slot 36) (v5 * 5 + 2)) :: (39, .v (.int .i64 v6.Offset)) :: (40, .v (.bool (v6.Offset == 1))) :: (41, .v (.bool (v6.Offset == 1))) :: (42, .v (.bool false)) :: (43, .v undef) :: (44, .v undef) :: (45, .v undef) :: (46, .v (.bool false)) :: (47, .v (.bool false)) :: (48, .v undef) :: (49, .v undef) :: (50, .v undef) :: (51, .v (.bool false)) :: (0, .v (.bool false)) :: [])) (init := [0, 1, 2, 3, 4]) (fin := [40]) (sps := (⟨[1], [], [5], [(.slot 17)]⟩ :: ⟨[5], [], [6], [(.slot 18)]⟩ :: ⟨[6], [], [7], [(.slot 19)]⟩ :: ⟨[7, 4], [], [8], [(.slot 20)]⟩ :: ⟨[7, 8], [], [9], [(.slot 21)]⟩ :: ⟨[7, 9], [], [10], [(.slot 22)]⟩ :: ⟨[10], [], [11], [(.slot 23)]⟩ :: ⟨[11, 3], [], [12], [(.slot 24)]⟩ :: ⟨[11, 12, 3], [], [13], [(.slot 25)]⟩ :: ⟨[11, 13], [], [14], [(.slot 26)]⟩ :: ⟨[11, 14], [], [15], [(.slot 27)]⟩ :: ⟨[15], [], [16], [(.slot 28)]⟩ :: ⟨[16, 3], [], [17], [(.slot 29)]⟩ :: ⟨[16, 17, 3], [], [18], [(.slot 30)]⟩ :: ⟨[16, 18, 3], [], [19], [(.slot 31)]⟩ :: ⟨[16, 19, 3], [], [20], [(.slot 32)]⟩ :: ⟨[16, 20], [], [21], [(.slot 33)]⟩ :: ⟨[16, 21], [], [22], [(.slot 34)]⟩ :: ⟨[22], [], [23], [(.slot 35)]⟩ :: ⟨[23], [12, 17, 18, 19, 3], [24], [(.slot 36)]⟩ :: ⟨[23, 24], [], [25], [(.slot 37)]⟩ :: ⟨[23, 25, 24], [], [26], [(.slot 38)]⟩ :: ⟨[23, 26, 24], [], [27], [(.slot 39)]⟩ :: ⟨[23, 27], [], [28], [(.slot 40)]⟩ :: ⟨[23, 28], [], [29], [(.slot 41)]⟩ :: ⟨[29], [], [30], [(.slot 42)]⟩ :: ⟨[30], [], [31], [(.slot 43)]⟩ :: ⟨[30], [], [32], [(.slot 44)]⟩ :: ⟨[30], [], [33], [(.slot 45)]⟩ :: ⟨[30], [], [34], [(.slot 46)]⟩ :: ⟨[34], [], [35], [(.slot 47)]⟩ :: ⟨[35], [], [36], [(.slot 48)]⟩ :: ⟨[35], [], [37], [(.slot 49)]⟩ :: ⟨[35], [], [38], [(.slot 50)]⟩ :: ⟨[35], [], [39], [(.slot 51)]⟩ :: ⟨[39], [], [40], [(.slot 0)]⟩ :: [])) (es' := [(0, .v (.bool false))]) (by kernel_rfl) rfl rfl
                ⟨st_plain rfl (op_move _ _ _ _ rfl rfl),
                  st_plain rfl (op_bin _ _ _ _ _ rfl rfl rfl),
                  st_plain rfl (op_move _ _ _ _ (congrArg (fun b => AV.v (Value.bool b)) hg3_2) rfl),
                  st_run 2 19 true rfl rfl rfl (List.Mem.head _) (op_move _ _ _ _ rfl rfl),
                  st_run 2 19 true rfl rfl rfl (List.Mem.head _) (op_bin _ _ _ _ _ rfl rfl rfl),
                  st_plain rfl (op_pick _ _ true _ rfl rfl),
                  st_plain rfl (op_move _ _ _ _ (congrArg (fun b => AV.v (Value.bool b)) hg3_6) rfl),
                  st_run 6 23 true rfl rfl rfl (List.Mem.head _) (op_move _ _ _ _ rfl rfl),
                  st_run 6 23 true rfl rfl rfl (List.Mem.head _) (op_len_fr _ _ _ Try.underlying31 rfl (by decide) (gflat_len T_Frame.ilen _)),
                  st_run 6 23 true rfl rfl rfl (List.Mem.head _) (op_bin _ _ _ _ _ rfl rfl rfl),
                  st_plain rfl (op_pick _ _ true _ rfl rfl),
                  st_plain rfl (op_move _ _ _ _ (congrArg (fun b => AV.v (Value.bool b)) hg3_11) rfl),
                  st_run 11 28 true rfl rfl rfl (List.Mem.head _) (op_move _ _ _ _ rfl rfl),
                  st_run 11 28 true rfl rfl rfl (List.Mem.head _) (op_ix_fr _ _ _ _ _ _ _ _ Try.underlying31 sz26 (by decide) rfl rfl rfl (ix_ok hv3).1 (gflat_lt T_Frame.ilen (ix_ok hv3).2) rfl),
                  st_run 11 28 true rfl rfl rfl (List.Mem.head _) (op_fieldAddr_e _ _ _ _ _ _ _ Try.underlying26 rfl sz3 rfl rfl rfl),
                  st_run 11 28 true rfl rfl rfl (List.Mem.head _) (op_load_fr _ _ _ _ _ _ _ Try.underlying3 rfl rfl rfl (gflat_cell T_Frame.ilen hv4 rfl) (.v _)),
                  st_run 11 28 true rfl rfl rfl (List.Mem.head _) (op_bin _ _ _ _ _ rfl rfl rfl),
                  st_plain rfl (op_pick _ _ true _ rfl rfl),
                  st_plain rfl (op_move _ _ _ _ (congrArg (fun b => AV.v (Value.bool b)) hg3_18) rfl),
                  st_run 18 35 true rfl rfl rfl (List.Mem.head _) (LOp.drop [_] (LOp.drop [_] (LOp.drop [_] (LOp.drop [_] (op_move_take _ _ _ _ rfl))))),
                  st_run 18 35 true rfl rfl rfl (List.Mem.head _) (op_ix_fr _ _ _ _ _ _ _ _ Try.underlying31 sz26 (by decide) rfl rfl rfl (ix_ok hv5).1 (gflat_lt T_Frame.ilen (ix_ok hv5).2) rfl),
                  st_run 18 35 true rfl rfl rfl (List.Mem.head _) (op_fieldAddr_e _ _ _ _ _ _ _ Try.underlying26 rfl sz3 rfl rfl rfl),
                  st_run 18 35 true rfl rfl rfl (List.Mem.head _) (op_load_fr _ _ _ _ _ _ _ Try.underlying3 rfl rfl rfl (gflat_cell T_Frame.ilen hv6 rfl) (.v _)),
                  st_run 18 35 true rfl rfl rfl (List.Mem.head _) (op_bin _ _ _ _ _ rfl rfl rfl),
                  st_plain rfl (op_pick _ _ true _ rfl rfl),
                  st_plain rfl (op_move _ _ _ _ (congrArg (fun b => AV.v (Value.bool b)) hg3_25) rfl),
                  st_skip 25 42 _ true rfl rfl rfl rfl (List.Mem.head _),
                  st_skip 25 42 _ true rfl rfl rfl rfl (List.Mem.head _),
                  st_skip 25 42 _ true rfl rfl rfl rfl (List.Mem.head _),
                  st_plain rfl (op_pick _ _ false _ rfl rfl),
                  st_plain rfl (op_move _ _ _ _ rfl rfl),
                  st_skip 30 47 _ true rfl rfl rfl rfl (List.Mem.head _),
                  st_skip 30 47 _ true rfl rfl rfl rfl (List.Mem.head _),
                  st_skip 30 47 _ true rfl rfl rfl rfl (List.Mem.head _),
                  st_plain rfl (op_pick _ _ false _ rfl rfl),
                  st_plain rfl (op_assign _ _ _ _ rfl rfl),
                  trivial⟩ ?_
              exact hl10 _ (Option.some.inj h).symm
          · refine ht_seqR hn (El := (_ :: _ :: _ :: _ :: _ :: (17, .v (.int .i64 v1.2)) :: (18, .v (.bool (v1.2 == 0))) :: (19, .v (.bool true)) :: (20, .v (.int .i64 v2.2.2)) :: (21, .v (.bool (v2.2.2 == 0))) :: (22, .v (.bool (v2.2.2 == 0))) :: (23, .v (.bool true)) :: (24, .same (.slot 4)) :: (25, .v (.int .i64 (v2.2.1.length : Int))) :: (26, .v (.bool (((v2.2.1.length : Int) == 1)))) :: (27, .v (.bool (((v2.2.1.length : Int) == 1)))) :: (28, .v (.bool true)) :: (29, .same (.slot 4)) :: (30, .eref (.slot 4) (v3 * 5)) :: (31, .eref (.slot 4) (v3 * 5 + 0)) :: (32, .v (.int .i64 v4.Kind)) :: (33, .v (.bool (v4.Kind == 1))) :: (34, .v (.bool (v4.Kind == 1))) :: (35, .v (.bool false)) :: (36, .v undef) :: (37, .v undef) :: (38, .v undef) :: (39, .v undef) :: (40, .v undef) :: (41, .v (.bool false)) :: (42, .v (.bool false)) :: (43, .v undef) :: (44, .v undef) :: (45, .v undef) :: (46, .v (.bool false)) :: (47, .v (.bool false)) :: (48, .v undef) :: (49, .v undef) :: (50, .v undef) :: (51, .v (.bool false)) :: (0, .v (.bool false)) :: [])) (init := [0, 1, 2, 3, 4]) (fin := [40]) (sps := (⟨[1], [], [5], [(.slot 17)]⟩ :: ⟨[5], [], [6], [(.slot 18)]⟩ :: ⟨[6], [], [7], [(.slot 19)]⟩ :: ⟨[7, 4], [], [8], [(.slot 20)]⟩ :: ⟨[7, 8], [], [9], [(.slot 21)]⟩ :: ⟨[7, 9], [], [10], [(.slot 22)]⟩ :: ⟨[10], [], [11], [(.slot 23)]⟩ :: ⟨[11, 3], [], [12], [(.slot 24)]⟩ :: ⟨[11, 12, 3], [], [13], [(.slot 25)]⟩ :: ⟨[11, 13], [], [14], [(.slot 26)]⟩ :: ⟨[11, 14], [], [15], [(.slot 27)]⟩ :: ⟨[15], [], [16], [(.slot 28)]⟩ :: ⟨[16, 3], [], [17], [(.slot 29)]⟩ :: ⟨[16, 17, 3], [], [18], [(.slot 30)]⟩ :: ⟨[16, 18, 3], [], [19], [(.slot 31)]⟩ :: ⟨[16, 19, 3], [], [20], [(.slot 32)]⟩ :: ⟨[16, 20], [], [21], [(.slot 33)]⟩ :: ⟨[16, 21], [], [22], [(.slot 34)]⟩ :: ⟨[22], [], [23], [(.slot 35)]⟩ :: ⟨[23], [], [24], [(.slot 36)]⟩ :: ⟨[23], [], [25], [(.slot 37)]⟩ :: ⟨[23], [], [26], [(.slot 38)]⟩ :: ⟨[23], [], [27], [(.slot 39)]⟩ :: ⟨[23], [], [28], [(.slot 40)]⟩ :: ⟨[23], [], [29], [(.slot 41)]⟩ :: ⟨[29], [], [30], [(.slot 42)]⟩ :: ⟨[30], [], [31], [(.slot 43)]⟩ :: ⟨[30], [], [32], [(.slot 44)]⟩ :: ⟨[30], [], [33], [(.slot 45)]⟩ :: ⟨[30], [], [34], [(.slot 46)]⟩ :: ⟨[34], [], [35], [(.slot 47)]⟩ :: ⟨[35], [], [36], [(.slot 48)]⟩ :: ⟨[35], [], [37], [(.slot 49)]⟩ :: ⟨[35], [], [38], [(.slot 50)]⟩ :: ⟨[35], [], [39], [(.slot 51)]⟩ :: ⟨[39], [], [40], [(.slot 0)]⟩ :: [])) (es' := [(0, .v (.bool false))]) (by kernel_rfl) rfl rfl
              ⟨st_plain rfl (op_move _ _ _ _ rfl rfl),
                st_plain rfl (op_bin _ _ _ _ _ rfl rfl rfl),
                st_plain rfl (op_move _ _ _ _ (congrArg (fun b => AV.v (Value.bool b)) hg3_2) rfl),
                st_run 2 19 true rfl rfl rfl (List.Mem.head _) (op_move _ _ _ _ rfl rfl),
                st_run 2 19 true rfl rfl rfl (List.Mem.head _) (op_bin _ _ _ _ _ rfl rfl rfl),
                st_plain rfl (op_pick _ _ true _ rfl rfl),
                st_plain rfl (op_move _ _ _ _ (congrArg (fun b => AV.v (Value.bool b)) hg3_6) rfl),
                st_run 6 23 true rfl rfl rfl (List.Mem.head _) (op_move _ _ _ _ rfl rfl),
                st_run 6 23 true rfl rfl rfl (List.Mem.head _) (op_len_fr _ _ _ Try.underlying31 rfl (by decide) (gflat_len T_Frame.ilen _)),
                st_run 6 23 true rfl rfl rfl (List.Mem.head _) (op_bin _ _ _ _ _ rfl rfl rfl),
                st_plain rfl (op_pick _ _ true _ rfl rfl),
                st_plain rfl (op_move _ _ _ _ (congrArg (fun b => AV.v (Value.bool b)) hg3_11) rfl),
                st_run 11 28 true rfl rfl rfl (List.Mem.head _) (op_move _ _ _ _ rfl rfl),
                st_run 11 28 true rfl rfl rfl (List.Mem.head _) (op_ix_fr _ _ _ _ _ _ _ _ Try.underlying31 sz26 (by decide) rfl rfl rfl (ix_ok hv3).1 (gflat_lt T_Frame.ilen (ix_ok hv3).2) rfl),
                st_run 11 28 true rfl rfl rfl (List.Mem.head _) (op_fieldAddr_e _ _ _ _ _ _ _ Try.underlying26 rfl sz3 rfl rfl rfl),
                st_run 11 28 true rfl rfl rfl (List.Mem.head _) (op_load_fr _ _ _ _ _ _ _ Try.underlying3 rfl rfl rfl (gflat_cell T_Frame.ilen hv4 rfl) (.v _)),
                st_run 11 28 true rfl rfl rfl (List.Mem.head _) (op_bin _ _ _ _ _ rfl rfl rfl),
                st_plain rfl (op_pick _ _ true _ rfl rfl),
                st_plain rfl (op_move _ _ _ _ (congrArg (fun b => AV.v (Value.bool b)) hg3_18) rfl),
                st_skip 18 35 _ true rfl rfl rfl rfl (List.Mem.head _),
                st_skip 18 35 _ true rfl rfl rfl rfl (List.Mem.head _),
                st_skip 18 35 _ true rfl rfl rfl rfl (List.Mem.head _),
                st_skip 18 35 _ true rfl rfl rfl rfl (List.Mem.head _),
                st_skip 18 35 _ true rfl rfl rfl rfl (List.Mem.head _),
                st_plain rfl (op_pick _ _ false _ rfl rfl),
                st_plain rfl (op_move _ _ _ _ rfl rfl),
                st_skip 25 42 _ true rfl rfl rfl rfl (List.Mem.head _),
                st_skip 25 42 _ true rfl rfl rfl rfl (List.Mem.head _),
                st_skip 25 42 _ true rfl rfl rfl rfl (List.Mem.head _),
                st_plain rfl (op_pick _ _ false _ rfl rfl),
                st_plain rfl (op_move _ _ _ _ rfl rfl),
                st_skip 30 47 _ true rfl rfl rfl rfl (List.Mem.head _),
                st_skip 30 47 _ true rfl rfl rfl rfl (List.Mem.head _),
                st_skip 30 47 _ true rfl rfl rfl rfl (List.Mem.head _),
                st_plain rfl (op_pick _ _ false _ rfl rfl),
                st_plain rfl (op_assign _ _ _ _ rfl rfl),
                trivial⟩ ?_
            exact hl10 _ (Option.some.inj h).symm
        · refine ht_seqR hn (El := (_ :: _ :: _ :: _ :: _ :: (17, .v (.int .i64 v1.2)) :: (18, .v (.bool (v1.2 == 0))) :: (19, .v (.bool true)) :: (20, .v (.int .i64 v2.2.2)) :: (21, .v (.bool (v2.2.2 == 0))) :: (22, .v (.bool (v2.2.2 == 0))) :: (23, .v (.bool true)) :: (24, .same (.slot 4)) :: (25, .v (.int .i64 (v2.2.1.length : Int))) :: (26, .v (.bool (((v2.2.1.length : Int) == 1)))) :: (27, .v (.bool (((v2.2.1.length : Int) == 1)))) :: (28, .v (.bool false)) :: (29, .v undef) :: (30, .v undef) :: (31, .v undef) :: (32, .v undef) :: (33, .v undef) :: (34, .v (.bool false)) :: (35, .v (.bool false)) :: (36, .v undef) :: (37, .v undef) :: (38, .v undef) :: (39, .v undef) :: (40, .v undef) :: (41, .v (.bool false)) :: (42, .v (.bool false)) :: (43, .v undef) :: (44, .v undef) :: (45, .v undef) :: (46, .v (.bool false)) :: (47, .v (.bool false)) :: (48, .v undef) :: (49, .v undef) :: (50, .v undef) :: (51, .v (.bool false)) :: (0, .v (.bool false)) :: [])) (init := [0, 1, 2, 3, 4]) (fin := [40]) (sps := (⟨[1], [], [5], [(.slot 17)]⟩ :: ⟨[5], [], [6], [(.slot 18)]⟩ :: ⟨[6], [], [7], [(.slot 19)]⟩ :: ⟨[7, 4], [], [8], [(.slot 20)]⟩ :: ⟨[7, 8], [], [9], [(.slot 21)]⟩ :: ⟨[7, 9], [], [10], [(.slot 22)]⟩ :: ⟨[10], [], [11], [(.slot 23)]⟩ :: ⟨[11, 3], [], [12], [(.slot 24)]⟩ :: ⟨[11, 12, 3], [], [13], [(.slot 25)]⟩ :: ⟨[11, 13], [], [14], [(.slot 26)]⟩ :: ⟨[11, 14], [], [15], [(.slot 27)]⟩ :: ⟨[15], [], [16], [(.slot 28)]⟩ :: ⟨[16], [], [17], [(.slot 29)]⟩ :: ⟨[16], [], [18], [(.slot 30)]⟩ :: ⟨[16], [], [19], [(.slot 31)]⟩ :: ⟨[16], [], [20], [(.slot 32)]⟩ :: ⟨[16], [], [21], [(.slot 33)]⟩ :: ⟨[16], [], [22], [(.slot 34)]⟩ :: ⟨[22], [], [23], [(.slot 35)]⟩ :: ⟨[23], [], [24], [(.slot 36)]⟩ :: ⟨[23], [], [25], [(.slot 37)]⟩ :: ⟨[23], [], [26], [(.slot 38)]⟩ :: ⟨[23], [], [27], [(.slot 39)]⟩ :: ⟨[23], [], [28], [(.slot 40)]⟩ :: ⟨[23], [], [29], [(.slot 41)]⟩ :: ⟨[29], [], [30], [(.slot 42)]⟩ :: ⟨[30], [], [31], [(.slot 43)]⟩ :: ⟨[30], [], [32], [(.slot 44)]⟩ :: ⟨[30], [], [33], [(.slot 45)]⟩ :: ⟨[30], [], [34], [(.slot 46)]⟩ :: ⟨[34], [], [35], [(.slot 47)]⟩ :: ⟨[35], [], [36], [(.slot 48)]⟩ :: ⟨[35], [], [37], [(.slot 49)]⟩ :: ⟨[35], [], [38], [(.slot 50)]⟩ :: ⟨[35], [], [39], [(.slot 51)]⟩ :: ⟨[39], [], [40], [(.slot 0)]⟩ :: [])) (es' := [(0, .v (.bool false))]) (by kernel_rfl) rfl rfl
            ⟨st_plain rfl (op_move _ _ _ _ rfl rfl),
              st_plain rfl (op_bin _ _ _ _ _ rfl rfl rfl),
              st_plain rfl (op_move _ _ _ _ (congrArg (fun b => AV.v (Value.bool b)) hg3_2) rfl),
              st_run 2 19 true rfl rfl rfl (List.Mem.head _) (op_move _ _ _ _ rfl rfl),
              st_run 2 19 true rfl rfl rfl (List.Mem.head _) (op_bin _ _ _ _ _ rfl rfl rfl),
              st_plain rfl (op_pick _ _ true _ rfl rfl),
              st_plain rfl (op_move _ _ _ _ (congrArg (fun b => AV.v (Value.bool b)) hg3_6) rfl),
              st_run 6 23 true rfl rfl rfl (List.Mem.head _) (op_move _ _ _ _ rfl rfl),
              st_run 6 23 true rfl rfl rfl (List.Mem.head _) (op_len_fr _ _ _ Try.underlying31 rfl (by decide) (gflat_len T_Frame.ilen _)),
              st_run 6 23 true rfl rfl rfl (List.Mem.head _) (op_bin _ _ _ _ _ rfl rfl rfl),
              st_plain rfl (op_pick _ _ true _ rfl rfl),
              st_plain rfl (op_move _ _ _ _ (congrArg (fun b => AV.v (Value.bool b)) hg3_11) rfl),
              st_skip 11 28 _ true rfl rfl rfl rfl (List.Mem.head _),
              st_skip 11 28 _ true rfl rfl rfl rfl (List.Mem.head _),
              st_skip 11 28 _ true rfl rfl rfl rfl (List.Mem.head _),
              st_skip 11 28 _ true rfl rfl rfl rfl (List.Mem.head _),
              st_skip 11 28 _ true rfl rfl rfl rfl (List.Mem.head _),
              st_plain rfl (op_pick _ _ false _ rfl rfl),
              st_plain rfl (op_move _ _ _ _ rfl rfl),
              st_skip 18 35 _ true rfl rfl rfl rfl (List.Mem.head _),
              st_skip 18 35 _ true rfl rfl rfl rfl (List.Mem.head _),
              st_skip 18 35 _ true rfl rfl rfl rfl (List.Mem.head _),
              st_skip 18 35 _ true rfl rfl rfl rfl (List.Mem.head _),
              st_skip 18 35 _ true rfl rfl rfl rfl (List.Mem.head _),
              st_plain rfl (op_pick _ _ false _ rfl rfl),
              st_plain rfl (op_move _ _ _ _ rfl rfl),
              st_skip 25 42 _ true rfl rfl rfl rfl (List.Mem.head _),
              st_skip 25 42 _ true rfl rfl rfl rfl (List.Mem.head _),
              st_skip 25 42 _ true rfl rfl rfl rfl (List.Mem.head _),
              st_plain rfl (op_pick _ _ false _ rfl rfl),
              st_plain rfl (op_move _ _ _ _ rfl rfl),
              st_skip 30 47 _ true rfl rfl rfl rfl (List.Mem.head _),
              st_skip 30 47 _ true rfl rfl rfl rfl (List.Mem.head _),
              st_skip 30 47 _ true rfl rfl rfl rfl (List.Mem.head _),
              st_plain rfl (op_pick _ _ false _ rfl rfl),
              st_plain rfl (op_assign _ _ _ _ rfl rfl),
              trivial⟩ ?_
          exact hl10 _ (Option.some.inj h).symm
      · refine ht_seqR hn (El := (_ :: _ :: _ :: _ :: _ :: (17, .v (.int .i64 v1.2)) :: (18, .v (.bool (v1.2 == 0))) :: (19, .v (.bool true)) :: (20, .v (.int .i64 v2.2.2)) :: (21, .v (.bool (v2.2.2 == 0))) :: (22, .v (.bool (v2.2.2 == 0))) :: (23, .v (.bool false)) :: (24, .v undef) :: (25, .v undef) :: (26, .v undef) :: (27, .v (.bool false)) :: (28, .v (.bool false)) :: (29, .v undef) :: (30, .v undef) :: (31, .v undef) :: (32, .v undef) :: (33, .v undef) :: (34, .v (.bool false)) :: (35, .v (.bool false)) :: (36, .v undef) :: (37, .v undef) :: (38, .v undef) :: (39, .v undef) :: (40, .v undef) :: (41, .v (.bool false)) :: (42, .v (.bool false)) :: (43, .v undef) :: (44, .v undef) :: (45, .v undef) :: (46, .v (.bool false)) :: (47, .v (.bool false)) :: (48, .v undef) :: (49, .v undef) :: (50, .v undef) :: (51, .v (.bool false)) :: (0, .v (.bool false)) :: [])) (init := [0, 1, 2, 3, 4]) (fin := [40]) (sps := (⟨[1], [], [5], [(.slot 17)]⟩ :: ⟨[5], [], [6], [(.slot 18)]⟩ :: ⟨[6], [], [7], [(.slot 19)]⟩ :: ⟨[7, 4], [], [8], [(.slot 20)]⟩ :: ⟨[7, 8], [], [9], [(.slot 21)]⟩ :: ⟨[7, 9], [], [10], [(.slot 22)]⟩ :: ⟨[10], [], [11], [(.slot 23)]⟩ :: ⟨[11], [], [12], [(.slot 24)]⟩ :: ⟨[11], [], [13], [(.slot 25)]⟩ :: ⟨[11], [], [14], [(.slot 26)]⟩ :: ⟨[11], [], [15], [(.slot 27)]⟩ :: ⟨[15], [], [16], [(.slot 28)]⟩ :: ⟨[16], [], [17], [(.slot 29)]⟩ :: ⟨[16], [], [18], [(.slot 30)]⟩ :: ⟨[16], [], [19], [(.slot 31)]⟩ :: ⟨[16], [], [20], [(.slot 32)]⟩ :: ⟨[16], [], [21], [(.slot 33)]⟩ :: ⟨[16], [], [22], [(.slot 34)]⟩ :: ⟨[22], [], [23], [(.slot 35)]⟩ :: ⟨[23], [], [24], [(.slot 36)]⟩ :: ⟨[23], [], [25], [(.slot 37)]⟩ :: ⟨[23], [], [26], [(.slot 38)]⟩ :: ⟨[23], [], [27], [(.slot 39)]⟩ :: ⟨[23], [], [28], [(.slot 40)]⟩ :: ⟨[23], [], [29], [(.slot 41)]⟩ :: ⟨[29], [], [30], [(.slot 42)]⟩ :: ⟨[30], [], [31], [(.slot 43)]⟩ :: ⟨[30], [], [32], [(.slot 44)]⟩ :: ⟨[30], [], [33], [(.slot 45)]⟩ :: ⟨[30], [], [34], [(.slot 46)]⟩ :: ⟨[34], [], [35], [(.slot 47)]⟩ :: ⟨[35], [], [36], [(.slot 48)]⟩ :: ⟨[35], [], [37], [(.slot 49)]⟩ :: ⟨[35], [], [38], [(.slot 50)]⟩ :: ⟨[35], [], [39], [(.slot 51)]⟩ :: ⟨[39], [], [40], [(.slot 0)]⟩ :: [])) (es' := [(0, .v (.bool false))]) (by kernel_rfl) rfl rfl
          ⟨st_plain rfl (op_move _ _ _ _ rfl rfl),
            st_plain rfl (op_bin _ _ _ _ _ rfl rfl rfl),
            st_plain rfl (op_move _ _ _ _ (congrArg (fun b => AV.v (Value.bool b)) hg3_2) rfl),
            st_run 2 19 true rfl rfl rfl (List.Mem.head _) (op_move _ _ _ _ rfl rfl),
            st_run 2 19 true rfl rfl rfl (List.Mem.head _) (op_bin _ _ _ _ _ rfl rfl rfl),
            st_plain rfl (op_pick _ _ true _ rfl rfl),
            st_plain rfl (op_move _ _ _ _ (congrArg (fun b => AV.v (Value.bool b)) hg3_6) rfl),
            st_skip 6 23 _ true rfl rfl rfl rfl (List.Mem.head _),
            st_skip 6 23 _ true rfl rfl rfl rfl (List.Mem.head _),
            st_skip 6 23 _ true rfl rfl rfl rfl (List.Mem.head _),
            st_plain rfl (op_pick _ _ false _ rfl rfl),
            st_plain rfl (op_move _ _ _ _ rfl rfl),
            st_skip 11 28 _ true rfl rfl rfl rfl (List.Mem.head _),
            st_skip 11 28 _ true rfl rfl rfl rfl (List.Mem.head _),
            st_skip 11 28 _ true rfl rfl rfl rfl (List.Mem.head _),
            st_skip 11 28 _ true rfl rfl rfl rfl (List.Mem.head _),
            st_skip 11 28 _ true rfl rfl rfl rfl (List.Mem.head _),
            st_plain rfl (op_pick _ _ false _ rfl rfl),
            st_plain rfl (op_move _ _ _ _ rfl rfl),
            st_skip 18 35 _ true rfl rfl rfl rfl (List.Mem.head _),
            st_skip 18 35 _ true rfl rfl rfl rfl (List.Mem.head _),
            st_skip 18 35 _ true rfl rfl rfl rfl (List.Mem.head _),
            st_skip 18 35 _ true rfl rfl rfl rfl (List.Mem.head _),
            st_skip 18 35 _ true rfl rfl rfl rfl (List.Mem.head _),
            st_plain rfl (op_pick _ _ false _ rfl rfl),
            st_plain rfl (op_move _ _ _ _ rfl rfl),
            st_skip 25 42 _ true rfl rfl rfl rfl (List.Mem.head _),
            st_skip 25 42 _ true rfl rfl rfl rfl (List.Mem.head _),
            st_skip 25 42 _ true rfl rfl rfl rfl (List.Mem.head _),
            st_plain rfl (op_pick _ _ false _ rfl rfl),
            st_plain rfl (op_move _ _ _ _ rfl rfl),
            st_skip 30 47 _ true rfl rfl rfl rfl (List.Mem.head _),
            st_skip 30 47 _ true rfl rfl rfl rfl (List.Mem.head _),
            st_skip 30 47 _ true rfl rfl rfl rfl (List.Mem.head _),
            st_plain rfl (op_pick _ _ false _ rfl rfl),
            st_plain rfl (op_assign _ _ _ _ rfl rfl),
            trivial⟩ ?_
        exact hl10 _ (Option.some.inj h).symm
    · refine ht_seqR hn (El := (_ :: _ :: _ :: _ :: _ :: (17, .v (.int .i64 v1.2)) :: (18, .v (.bool (v1.2 == 0))) :: (19, .v (.bool false)) :: (20, .v undef) :: (21, .v undef) :: (22, .v (.bool false)) :: (23, .v (.bool false)) :: (24, .v undef) :: (25, .v undef) :: (26, .v undef) :: (27, .v (.bool false)) :: (28, .v (.bool false)) :: (29, .v undef) :: (30, .v undef) :: (31, .v undef) :: (32, .v undef) :: (33, .v undef) :: (34, .v (.bool false)) :: (35, .v (.bool false)) :: (36, .v undef) :: (37, .v undef) :: (38, .v undef) :: (39, .v undef) :: (40, .v undef) :: (41, .v (.bool false)) :: (42, .v (.bool false)) :: (43, .v undef) :: (44, .v undef) :: (45, .v undef) :: (46, .v (.bool false)) :: (47, .v (.bool false)) :: (48, .v undef) :: (49, .v undef) :: (50, .v undef) :: (51, .v (.bool false)) :: (0, .v (.bool false)) :: [])) (init := [0, 1, 2, 3, 4]) (fin := [40]) (sps := (⟨[1], [], [5], [(.slot 17)]⟩ :: ⟨[5], [], [6], [(.slot 18)]⟩ :: ⟨[6], [], [7], [(.slot 19)]⟩ :: ⟨[7], [], [8], [(.slot 20)]⟩ :: ⟨[7], [], [9], [(.slot 21)]⟩ :: ⟨[7], [], [10], [(.slot 22)]⟩ :: ⟨[10], [], [11], [(.slot 23)]⟩ :: ⟨[11], [], [12], [(.slot 24)]⟩ :: ⟨[11], [], [13], [(.slot 25)]⟩ :: ⟨[11], [], [14], [(.slot 26)]⟩ :: ⟨[11], [], [15], [(.slot 27)]⟩ :: ⟨[15], [], [16], [(.slot 28)]⟩ :: ⟨[16], [], [17], [(.slot 29)]⟩ :: ⟨[16], [], [18], [(.slot 30)]⟩ :: ⟨[16], [], [19], [(.slot 31)]⟩ :: ⟨[16], [], [20], [(.slot 32)]⟩ :: ⟨[16], [], [21], [(.slot 33)]⟩ :: ⟨[16], [], [22], [(.slot 34)]⟩ :: ⟨[22], [], [23], [(.slot 35)]⟩ :: ⟨[23], [], [24], [(.slot 36)]⟩ :: ⟨[23], [], [25], [(.slot 37)]⟩ :: ⟨[23], [], [26], [(.slot 38)]⟩ :: ⟨[23], [], [27], [(.slot 39)]⟩ :: ⟨[23], [], [28], [(.slot 40)]⟩ :: ⟨[23], [], [29], [(.slot 41)]⟩ :: ⟨[29], [], [30], [(.slot 42)]⟩ :: ⟨[30], [], [31], [(.slot 43)]⟩ :: ⟨[30], [], [32], [(.slot 44)]⟩ :: ⟨[30], [], [33], [(.slot 45)]⟩ :: ⟨[30], [], [34], [(.slot 46)]⟩ :: ⟨[34], [], [35], [(.slot 47)]⟩ :: ⟨[35], [], [36], [(.slot 48)]⟩ :: ⟨[35], [], [37], [(.slot 49)]⟩ :: ⟨[35], [], [38], [(.slot 50)]⟩ :: ⟨[35], [], [39], [(.slot 51)]⟩ :: ⟨[39], [], [40], [(.slot 0)]⟩ :: [])) (es' := [(0, .v (.bool false))]) (by kernel_rfl) rfl rfl
        ⟨st_plain rfl (op_move _ _ _ _ rfl rfl),
          st_plain rfl (op_bin _ _ _ _ _ rfl rfl rfl),
          st_plain rfl (op_move _ _ _ _ (congrArg (fun b => AV.v (Value.bool b)) hg3_2) rfl),
          st_skip 2 19 _ true rfl rfl rfl rfl (List.Mem.head _),
          st_skip 2 19 _ true rfl rfl rfl rfl (List.Mem.head _),
          st_plain rfl (op_pick _ _ false _ rfl rfl),
          st_plain rfl (op_move _ _ _ _ rfl rfl),
          st_skip 6 23 _ true rfl rfl rfl rfl (List.Mem.head _),
          st_skip 6 23 _ true rfl rfl rfl rfl (List.Mem.head _),
          st_skip 6 23 _ true rfl rfl rfl rfl (List.Mem.head _),
          st_plain rfl (op_pick _ _ false _ rfl rfl),
          st_plain rfl (op_move _ _ _ _ rfl rfl),
          st_skip 11 28 _ true rfl rfl rfl rfl (List.Mem.head _),
          st_skip 11 28 _ true rfl rfl rfl rfl (List.Mem.head _),
          st_skip 11 28 _ true rfl rfl rfl rfl (List.Mem.head _),
          st_skip 11 28 _ true rfl rfl rfl rfl (List.Mem.head _),
          st_skip 11 28 _ true rfl rfl rfl rfl (List.Mem.head _),
          st_plain rfl (op_pick _ _ false _ rfl rfl),
          st_plain rfl (op_move _ _ _ _ rfl rfl),
          st_skip 18 35 _ true rfl rfl rfl rfl (List.Mem.head _),
          st_skip 18 35 _ true rfl rfl rfl rfl (List.Mem.head _),
          st_skip 18 35 _ true rfl rfl rfl rfl (List.Mem.head _),
          st_skip 18 35 _ true rfl rfl rfl rfl (List.Mem.head _),
          st_skip 18 35 _ true rfl rfl rfl rfl (List.Mem.head _),
          st_plain rfl (op_pick _ _ false _ rfl rfl),
          st_plain rfl (op_move _ _ _ _ rfl rfl),
          st_skip 25 42 _ true rfl rfl rfl rfl (List.Mem.head _),
          st_skip 25 42 _ true rfl rfl rfl rfl (List.Mem.head _),
          st_skip 25 42 _ true rfl rfl rfl rfl (List.Mem.head _),
          st_plain rfl (op_pick _ _ false _ rfl rfl),
          st_plain rfl (op_move _ _ _ _ rfl rfl),
          st_skip 30 47 _ true rfl rfl rfl rfl (List.Mem.head _),
          st_skip 30 47 _ true rfl rfl rfl rfl (List.Mem.head _),
          st_skip 30 47 _ true rfl rfl rfl rfl (List.Mem.head _),
          st_plain rfl (op_pick _ _ false _ rfl rfl),
          st_plain rfl (op_assign _ _ _ _ rfl rfl),
          trivial⟩ ?_
      exact hl10 _ (Option.some.inj h).symm

set_option maxHeartbeats 1000000 in
theorem ok_wherrykeep_Frame (a : T_Frame) (b : T_Frame) (r : Bool) (h : Sh.wherrykeep_Frame a b = some r) : FnOK Try.prog 27 [.agg [.v (.int .i64 a.Kind), .v (.int .i64 a.Number), .v (.int .i64 a.Offset), .v (.int .i64 a.Seq), .fl .shr 1 (List.map (Value.int .u8) a.Data)], .agg [.v (.int .i64 b.Kind), .v (.int .i64 b.Number), .v (.int .i64 b.Offset), .v (.int .i64 b.Seq), .fl .shr 1 (List.map (Value.int .u8) b.Data)]] (.v (.bool r)) := by
  unfold Sh.wherrykeep_Frame at h
  refine fn_ok Try.func27 rfl (Nat.le_of_ble_eq_true rfl) rfl rfl fun g0 hn hio => ?_
  refine ht_seq ?_
  refine ht_seqR hn (El := [_, _, (2, .box 26 [.v (.int .i64 a.Kind), .v (.int .i64 a.Number), .v (.int .i64 a.Offset), .v (.int .i64 a.Seq), .fl .shr 1 (List.map (Value.int .u8) a.Data)]), (3, .box 26 [.v (.int .i64 b.Kind), .v (.int .i64 b.Number), .v (.int .i64 b.Offset), .v (.int .i64 b.Seq), .fl .shr 1 (List.map (Value.int .u8) b.Data)]), (4, .v (.bool false))]) (init := [0, 1]) (fin := [2, 3]) (sps := [⟨[0], [], [2], [(.slot 2)]⟩, ⟨[1], [], [3], [(.slot 3)]⟩, ⟨[], [], [4], [(.slot 4)]⟩]) (es' := [(2, .box 26 [.v (.int .i64 a.Kind), .v (.int .i64 a.Number), .v (.int .i64 a.Offset), .v (.int .i64 a.Seq), .fl .shr 1 (List.map (Value.int .u8) a.Data)]), (3, .box 26 [.v (.int .i64 b.Kind), .v (.int .i64 b.Number), .v (.int .i64 b.Offset), .v (.int .i64 b.Seq), .fl .shr 1 (List.map (Value.int .u8) b.Data)])]) (by kernel_rfl) rfl rfl
    ⟨st_plain rfl (op_box _ _ _ _ rfl rfl rfl),
      st_plain rfl (op_box _ _ _ _ rfl rfl rfl),
      st_plain rfl (op_assign _ _ _ _ rfl rfl),
      trivial⟩ ?_
  refine pt_then ?_
  refine ht_seq ?_
  refine ht_joinS h (fun (s2 : Bool) => [(4, .v (.bool s2))]) ?_ ?_
  · rintro s2 h
    refine pt_then ?_
    refine ht_ret ?_
    obtain rfl := Option.some.inj h
    exact pt_ret hio rfl (.tmp _ _ .nil) rfl rfl
  · intro u3 h hl4 hr5
    refine cond_some h (fun hg1_5 h => ?_) (fun hg1_5 h => ?_)
    · refine cond_some h (fun hg1_12 h => ?_) (fun hg1_12 h => ?_)
      · refine cond_some h (fun hg1_19 h => ?_) (fun hg1_19 h => ?_)
        · refine cond_some h (fun hg1_26 h => ?_) (fun hg1_26 h => ?_)
          · obtain ⟨v1, hv1, h⟩ := bind_some h
            refine ht_seqR hn (El := (_ :: _ :: (5, .ptr 2 0) :: (6, .v (.int .i64 a.Kind)) :: (7, .ptr 3 0) :: (8, .v (.int .i64 b.Kind)) :: (9, .v (.bool (a.Kind == b.Kind))) :: (10, .v (.bool true)) :: (11, .ptr 2 1) :: (12, .v (.int .i64 a.Number)) :: (13, .ptr 3 1) :: (14, .v (.int .i64 b.Number)) :: (15, .v (.bool (a.Number == b.Number))) :: (16, .v (.bool (a.Number == b.Number))) :: (17, .v (.bool true)) :: (18, .ptr 2 2) :: (19, .v (.int .i64 a.Offset)) :: (20, .ptr 3 2) :: (21, .v (.int .i64 b.Offset)) :: (22, .v (.bool (a.Offset == b.Offset))) :: (23, .v (.bool (a.Offset == b.Offset))) :: (24, .v (.bool true)) :: (25, .ptr 2 3) :: (26, .v (.int .i64 a.Seq)) :: (27, .ptr 3 3) :: (28, .v (.int .i64 b.Seq)) :: (29, .v (.bool (a.Seq == b.Seq))) :: (30, .v (.bool (a.Seq == b.Seq))) :: (31, .v (.bool true)) :: (32, .ptr 2 4) :: (33, .fl .shr 1 (List.map (Value.int .u8) a.Data)) :: (34, .ptr 3 4) :: (35, .fl .shr 1 (List.map (Value.int .u8) b.Data)) :: (36, .v (.bool v1)) :: (37, .v (.bool v1)) :: (4, .v (.bool v1)) :: [])) (init := [0, 1]) (fin := [35]) (sps := (⟨[0], [], [2], [(.slot 5)]⟩ :: ⟨[2, 0], [], [3], [(.slot 6)]⟩ :: ⟨[1], [], [4], [(.slot 7)]⟩ :: ⟨[4, 1], [], [5], [(.slot 8)]⟩ :: ⟨[3, 5], [], [6], [(.slot 9)]⟩ :: ⟨[6], [], [7], [(.slot 10)]⟩ :: ⟨[7, 0], [], [8], [(.slot 11)]⟩ :: ⟨[7, 8, 0], [], [9], [(.slot 12)]⟩ :: ⟨[7, 1], [], [10], [(.slot 13)]⟩ :: ⟨[7, 10, 1], [], [11], [(.slot 14)]⟩ :: ⟨[7, 9, 11], [], [12], [(.slot 15)]⟩ :: ⟨[7, 12], [], [13], [(.slot 16)]⟩ :: ⟨[13], [], [14], [(.slot 17)]⟩ :: ⟨[14, 0], [], [15], [(.slot 18)]⟩ :: ⟨[14, 15, 0], [], [16], [(.slot 19)]⟩ :: ⟨[14, 1], [], [17], [(.slot 20)]⟩ :: ⟨[14, 17, 1], [], [18], [(.slot 21)]⟩ :: ⟨[14, 16, 18], [], [19], [(.slot 22)]⟩ :: ⟨[14, 19], [], [20], [(.slot 23)]⟩ :: ⟨[20], [], [21], [(.slot 24)]⟩ :: ⟨[21, 0], [], [22], [(.slot 25)]⟩ :: ⟨[21, 22, 0], [], [23], [(.slot 26)]⟩ :: ⟨[21, 1], [], [24], [(.slot 27)]⟩ :: ⟨[21, 24, 1], [], [25], [(.slot 28)]⟩ :: ⟨[21, 23, 25], [], [26], [(.slot 29)]⟩ :: ⟨[21, 26], [], [27], [(.slot 30)]⟩ :: ⟨[27], [], [28], [(.slot 31)]⟩ :: ⟨[28, 0], [], [29], [(.slot 32)]⟩ :: ⟨[28, 29, 0], [], [30], [(.slot 33)]⟩ :: ⟨[28, 1], [], [31], [(.slot 34)]⟩ :: ⟨[28, 31, 1], [], [32], [(.slot 35)]⟩ :: ⟨[28, 30, 32], [], [33], [(.slot 36)]⟩ :: ⟨[28, 33], [], [34], [(.slot 37)]⟩ :: ⟨[34], [], [35], [(.slot 4)]⟩ :: [])) (es' := [(4, .v (.bool v1))]) (by kernel_rfl) rfl rfl
              ⟨st_plain rfl (op_fieldAddr _ _ _ _ 2 0 _ Try.underlying26 rfl sz3 rfl rfl (by decide)),
                st_plain rfl (op_load _ _ _ _ _ _ Try.underlying3 rfl rfl rfl (Nat.le_of_ble_eq_true rfl) rfl rfl rfl),
                st_plain rfl (op_fieldAddr _ _ _ _ 3 0 _ Try.underlying26 rfl sz3 rfl rfl (by decide)),
                st_plain rfl (op_load _ _ _ _ _ _ Try.underlying3 rfl rfl rfl (Nat.le_of_ble_eq_true rfl) rfl rfl rfl),
                st_plain rfl (op_bin _ _ _ _ _ rfl rfl rfl),
                st_plain rfl (op_move _ _ _ _ (congrArg (fun b => AV.v (Value.bool b)) hg1_5) rfl),
                st_run 5 10 true rfl rfl rfl (List.Mem.head _) (op_fieldAddr _ _ _ _ 2 0 _ Try.underlying26 rfl sz3 rfl rfl (by decide)),
                st_run 5 10 true rfl rfl rfl (List.Mem.head _) (op_load _ _ _ _ _ _ Try.underlying3 rfl rfl rfl (Nat.le_of_ble_eq_true rfl) rfl rfl rfl),
                st_run 5 10 true rfl rfl rfl (List.Mem.head _) (op_fieldAddr _ _ _ _ 3 0 _ Try.underlying26 rfl sz3 rfl rfl (by decide)),
                st_run 5 10 true rfl rfl rfl (List.Mem.head _) (op_load _ _ _ _ _ _ Try.underlying3 rfl rfl rfl (Nat.le_of_ble_eq_true rfl) rfl rfl rfl),
                st_run 5 10 true rfl rfl rfl (List.Mem.head _) (op_bin _ _ _ _ _ rfl rfl rfl),
                st_plain rfl (op_pick _ _ true _ rfl rfl),
                st_plain rfl (op_move _ _ _ _ (congrArg (fun b => AV.v (Value.bool b)) hg1_12) rfl),
                st_run 12 17 true rfl rfl rfl (List.Mem.head _) (op_fieldAddr _ _ _ _ 2 0 _ Try.underlying26 rfl sz3 rfl rfl (by decide)),
                st_run 12 17 true rfl rfl rfl (List.Mem.head _) (op_load _ _ _ _ _ _ Try.underlying3 rfl rfl rfl (Nat.le_of_ble_eq_true rfl) rfl rfl rfl),
                st_run 12 17 true rfl rfl rfl (List.Mem.head _) (op_fieldAddr _ _ _ _ 3 0 _ Try.underlying26 rfl sz3 rfl rfl (by decide)),
                st_run 12 17 true rfl rfl rfl (List.Mem.head _) (op_load _ _ _ _ _ _ Try.underlying3 rfl rfl rfl (Nat.le_of_ble_eq_true rfl) rfl rfl rfl),
                st_run 12 17 true rfl rfl rfl (List.Mem.head _) (op_bin _ _ _ _ _ rfl rfl rfl),
                st_plain rfl (op_pick _ _ true _ rfl rfl),
                st_plain rfl (op_move _ _ _ _ (congrArg (fun b => AV.v (Value.bool b)) hg1_19) rfl),
                st_run 19 24 true rfl rfl rfl (List.Mem.head _) (op_fieldAddr _ _ _ _ 2 0 _ Try.underlying26 rfl sz3 rfl rfl (by decide)),
                st_run 19 24 true rfl rfl rfl (List.Mem.head _) (op_load _ _ _ _ _ _ Try.underlying3 rfl rfl rfl (Nat.le_of_ble_eq_true rfl) rfl rfl rfl),
                st_run 19 24 true rfl rfl rfl (List.Mem.head _) (op_fieldAddr _ _ _ _ 3 0 _ Try.underlying26 rfl sz3 rfl rfl (by decide)),
                st_run 19 24 true rfl rfl rfl (List.Mem.head _) (op_load _ _ _ _ _ _ Try.underlying3 rfl rfl rfl (Nat.le_of_ble_eq_true rfl) rfl rfl rfl),
                st_run 19 24 true rfl rfl rfl (List.Mem.head _) (op_bin _ _ _ _ _ rfl rfl rfl),
                st_plain rfl (op_pick _ _ true _ rfl rfl),
                st_plain rfl (op_move _ _ _ _ (congrArg (fun b => AV.v (Value.bool b)) hg1_26) rfl),
                st_run 26 31 true rfl rfl rfl (List.Mem.head _) (op_fieldAddr _ _ _ _ 2 0 _ Try.underlying26 rfl sz22 rfl rfl (by decide)),
                st_run 26 31 true rfl rfl rfl (List.Mem.head _) (op_load _ _ _ _ _ _ Try.underlying22 rfl rfl rfl (Nat.le_of_ble_eq_true rfl) rfl rfl rfl),
                st_run 26 31 true rfl rfl rfl (List.Mem.head _) (op_fieldAddr _ _ _ _ 3 0 _ Try.underlying26 rfl sz22 rfl rfl (by decide)),
                st_run 26 31 true rfl rfl rfl (List.Mem.head _) (op_load _ _ _ _ _ _ Try.underlying22 rfl rfl rfl (Nat.le_of_ble_eq_true rfl) rfl rfl rfl),
                st_run 26 31 true rfl rfl rfl (List.Mem.head _) (op_call _ _ 28 _ _ rfl Try.call28 rfl (ok_wherrykeep_Bytes a.Data b.Data _ hv1) rfl rfl),
                st_plain rfl (op_pick _ _ true _ rfl rfl),
                st_plain rfl (op_assign _ _ _ _ rfl rfl),
                trivial⟩ ?_
            exact hl4 _ (Option.some.inj h).symm
          · refine ht_seqR hn (El := (_ :: _ :: (5, .ptr 2 0) :: (6, .v (.int .i64 a.Kind)) :: (7, .ptr 3 0) :: (8, .v (.int .i64 b.Kind)) :: (9, .v (.bool (a.Kind == b.Kind))) :: (10, .v (.bool true)) :: (11, .ptr 2 1) :: (12, .v (.int .i64 a.Number)) :: (13, .ptr 3 1) :: (14, .v (.int .i64 b.Number)) :: (15, .v (.bool (a.Number == b.Number))) :: (16, .v (.bool (a.Number == b.Number))) :: (17, .v (.bool true)) :: (18, .ptr 2 2) :: (19, .v (.int .i64 a.Offset)) :: (20, .ptr 3 2) :: (21, .v (.int .i64 b.Offset)) :: (22, .v (.bool (a.Offset == b.Offset))) :: (23, .v (.bool (a.Offset == b.Offset))) :: (24, .v (.bool true)) :: (25, .ptr 2 3) :: (26, .v (.int .i64 a.Seq)) :: (27, .ptr 3 3) :: (28, .v (.int .i64 b.Seq)) :: (29, .v (.bool (a.Seq == b.Seq))) :: (30, .v (.bool (a.Seq == b.Seq))) :: (31, .v (.bool false)) :: (32, .v undef) :: (33, .v undef) :: (34, .v undef) :: (35, .v undef) :: (36, .v undef) :: (37, .v (.bool false)) :: (4, .v (.bool false)) :: [])) (init := [0, 1]) (fin := [35]) (sps := (⟨[0], [], [2], [(.slot 5)]⟩ :: ⟨[2, 0], [], [3], [(.slot 6)]⟩ :: ⟨[1], [], [4], [(.slot 7)]⟩ :: ⟨[4, 1], [], [5], [(.slot 8)]⟩ :: ⟨[3, 5], [], [6], [(.slot 9)]⟩ :: ⟨[6], [], [7], [(.slot 10)]⟩ :: ⟨[7, 0], [], [8], [(.slot 11)]⟩ :: ⟨[7, 8, 0], [], [9], [(.slot 12)]⟩ :: ⟨[7, 1], [], [10], [(.slot 13)]⟩ :: ⟨[7, 10, 1], [], [11], [(.slot 14)]⟩ :: ⟨[7, 9, 11], [], [12], [(.slot 15)]⟩ :: ⟨[7, 12], [], [13], [(.slot 16)]⟩ :: ⟨[13], [], [14], [(.slot 17)]⟩ :: ⟨[14, 0], [], [15], [(.slot 18)]⟩ :: ⟨[14, 15, 0], [], [16], [(.slot 19)]⟩ :: ⟨[14, 1], [], [17], [(.slot 20)]⟩ :: ⟨[14, 17, 1], [], [18], [(.slot 21)]⟩ :: ⟨[14, 16, 18], [], [19], [(.slot 22)]⟩ :: ⟨[14, 19], [], [20], [(.slot 23)]⟩ :: ⟨[20], [], [21], [(.slot 24)]⟩ :: ⟨[21, 0], [], [22], [(.slot 25)]⟩ :: ⟨[21, 22, 0], [], [23], [(.slot 26)]⟩ :: ⟨[21, 1], [], [24], [(.slot 27)]⟩ :: ⟨[21, 24, 1], [], [25], [(.slot 28)]⟩ :: ⟨[21, 23, 25], [], [26], [(.slot 29)]⟩ :: ⟨[21, 26], [], [27], [(.slot 30)]⟩ :: ⟨[27], [], [28], [(.slot 31)]⟩ :: ⟨[28], [], [29], [(.slot 32)]⟩ :: ⟨[28], [], [30], [(.slot 33)]⟩ :: ⟨[28], [], [31], [(.slot 34)]⟩ :: ⟨[28], [], [32], [(.slot 35)]⟩ :: ⟨[28], [], [33], [(.slot 36)]⟩ :: ⟨[28], [], [34], [(.slot 37)]⟩ :: ⟨[34], [], [35], [(.slot 4)]⟩ :: [])) (es' := [(4, .v (.bool false))]) (by kernel_rfl) rfl rfl
              ⟨st_plain rfl (op_fieldAddr _ _ _ _ 2 0 _ Try.underlying26 rfl sz3 rfl rfl (by decide)),
                st_plain rfl (op_load _ _ _ _ _ _ Try.underlying3 rfl rfl rfl (Nat.le_of_ble_eq_true rfl) rfl rfl rfl),
                st_plain rfl (op_fieldAddr _ _ _ _ 3 0 _ Try.underlying26 rfl sz3 rfl rfl (by decide)),
                st_plain rfl (op_load _ _ _ _ _ _ Try.underlying3 rfl rfl rfl (Nat.le_of_ble_eq_true rfl) rfl rfl rfl),
                st_plain rfl (op_bin _ _ _ _ _ rfl rfl rfl),
                st_plain rfl (op_move _ _ _ _ (congrArg (fun b => AV.v (Value.bool b)) hg1_5) rfl),
                st_run 5 10 true rfl rfl rfl (List.Mem.head _) (op_fieldAddr _ _ _ _ 2 0 _ Try.underlying26 rfl sz3 rfl rfl (by decide)),
                st_run 5 10 true rfl rfl rfl (List.Mem.head _) (op_load _ _ _ _ _ _ Try.underlying3 rfl rfl rfl (Nat.le_of_ble_eq_true rfl) rfl rfl rfl),
                st_run 5 10 true rfl rfl rfl (List.Mem.head _) (op_fieldAddr _ _ _ _ 3 0 _ Try.underlying26 rfl sz3 rfl rfl (by decide)),
                st_run 5 10 true rfl rfl rfl (List.Mem.head _) (op_load _ _ _ _ _ _ Try.underlying3 rfl rfl rfl (Nat.le_of_ble_eq_true rfl) rfl rfl rfl),
                st_run 5 10 true rfl rfl rfl (List.Mem.head _) (op_bin _ _ _ _ _ rfl rfl rfl),
                st_plain rfl (op_pick _ _ true _ rfl rfl),
                st_plain rfl (op_move _ _ _ _ (congrArg (fun b => AV.v (Value.bool b)) hg1_12) rfl),
                st_run 12 17 true rfl rfl rfl (List.Mem.head _) (op_fieldAddr _ _ _ _ 2 0 _ Try.underlying26 rfl sz3 rfl rfl (by decide)),
                st_run 12 17 true rfl rfl rfl (List.Mem.head _) (op_load _ _ _ _ _ _ Try.underlying3 rfl rfl rfl (Nat.le_of_ble_eq_true rfl) rfl rfl rfl),
                st_run 12 17 true rfl rfl rfl (List.Mem.head _) (op_fieldAddr _ _ _ _ 3 0 _ Try.underlying26 rfl sz3 rfl rfl (by decide)),
                st_run 12 17 true rfl rfl rfl (List.Mem.head _) (op_load _ _ _ _ _ _ Try.underlying3 rfl rfl rfl (Nat.le_of_ble_eq_true rfl) rfl rfl rfl),
                st_run 12 17 true rfl rfl rfl (List.Mem.head _) (op_bin _ _ _ _ _ rfl rfl rfl),
                st_plain rfl (op_pick _ _ true _ rfl rfl),
                st_plain rfl (op_move _ _ _ _ (congrArg (fun b => AV.v (Value.bool b)) hg1_19) rfl),
                st_run 19 24 true rfl rfl rfl (List.Mem.head _) (op_fieldAddr _ _ _ _ 2 0 _ Try.underlying26 rfl sz3 rfl rfl (by decide)),
                st_run 19 24 true rfl rfl rfl (List.Mem.head _) (op_load _ _ _ _ _ _ Try.underlying3 rfl rfl rfl (Nat.le_of_ble_eq_true rfl) rfl rfl rfl),
                st_run 19 24 true rfl rfl rfl (List.Mem.head _) (op_fieldAddr _ _ _ _ 3 0 _ Try.underlying26 rfl sz3 rfl rfl (by decide)),
                st_run 19 24 true rfl rfl rfl (List.Mem.head _) (op_load _ _ _ _ _ _ Try.underlying3 rfl rfl rfl (Nat.le_of_ble_eq_true rfl) rfl rfl rfl),
                st_run 19 24 true rfl rfl rfl (List.Mem.head _) (op_bin _ _ _ _ _ rfl rfl rfl),
                st_plain rfl (op_pick _ _ true _ rfl rfl),
                st_plain rfl (op_move _ _ _ _ (congrArg (fun b => AV.v (Value.bool b)) hg1_26) rfl),
                st_skip 26 31 _ true rfl rfl rfl rfl (List.Mem.head _),
                st_skip 26 31 _ true rfl rfl rfl rfl (List.Mem.head _),
                st_skip 26 31 _ true rfl rfl rfl rfl (List.Mem.head _),
                st_skip 26 31 _ true rfl rfl rfl rfl (List.Mem.head _),
                st_skip 26 31 _ true rfl rfl rfl rfl (List.Mem.head _),
                st_plain rfl (op_pick _ _ false _ rfl rfl),
                st_plain rfl (op_assign _ _ _ _ rfl rfl),
                trivial⟩ ?_
            exact hl4 _ (Option.some.inj h).symm
        · refine ht_seqR hn (El := (_ :: _ :: (5, .ptr 2 0) :: (6, .v (.int .i64 a.Kind)) :: (7, .ptr 3 0) :: (8, .v (.int .i64 b.Kind)) :: (9, .v (.bool (a.Kind == b.Kind))) :: (10, .v (.bool true)) :: (11, .ptr 2 1) :: (12, .v (.int .i64 a.Number)) :: (13, .ptr 3 1) :: (14, .v (.int .i64 b.Number)) :: (15, .v (.bool (a.Number == b.Number))) :: (16, .v (.bool (a.Number == b.Number))) :: (17, .v (.bool true)) :: (18, .ptr 2 2) :: (19, .v (.int .i64 a.Offset)) :: (20, .ptr 3 2) :: (21, .v (.int .i64 b.Offset)) :: (22, .v (.bool (a.Offset == b.Offset))) :: (23, .v (.bool (a.Offset == b.Offset))) :: (24, .v (.bool false)) :: (25, .v undef) :: (26, .v undef) :: (27, .v undef) :: (28, .v undef) :: (29, .v undef) :: (30, .v (.bool false)) :: (31, .v (.bool false)) :: (32, .v undef) :: (33, .v undef) :: (34, .v undef) :: (35, .v undef) :: (36, .v undef) :: (37, .v (.bool false)) :: (4, .v (.bool false)) :: [])) (init := [0, 1]) (fin := [35]) (sps := (⟨[0], [], [2], [(.slot 5)]⟩ :: ⟨[2, 0], [], [3], [(.slot 6)]⟩ :: ⟨[1], [], [4], [(.slot 7)]⟩ :: ⟨[4, 1], [], [5], [(.slot 8)]⟩ :: ⟨[3, 5], [], [6], [(.slot 9)]⟩ :: ⟨[6], [], [7], [(.slot 10)]⟩ :: ⟨[7, 0], [], [8], [(.slot 11)]⟩ :: ⟨[7, 8, 0], [], [9], [(.slot 12)]⟩ :: ⟨[7, 1], [], [10], [(.slot 13)]⟩ :: ⟨[7, 10, 1], [], [11], [(.slot 14)]⟩ :: ⟨[7, 9, 11], [], [12], [(.slot 15)]⟩ :: ⟨[7, 12], [], [13], [(.slot 16)]⟩ :: ⟨[13], [], [14], [(.slot 17)]⟩ :: ⟨[14, 0], [], [15], [(.slot 18)]⟩ :: ⟨[14, 15, 0], [], [16], [(.slot 19)]⟩ :: ⟨[14, 1], [], [17], [(.slot 20)]⟩ :: ⟨[14, 17, 1], [], [18], [(.slot 21)]⟩ :: ⟨[14, 16, 18], [], [19], [(.slot 22)]⟩ :: ⟨[14, 19], [], [20], [(.slot 23)]⟩ :: ⟨[20], [], [21], [(.slot 24)]⟩ :: ⟨[21], [], [22], [(.slot 25)]⟩ :: ⟨[21], [], [23], [(.slot 26)]⟩ :: ⟨[21], [], [24], [(.slot 27)]⟩ :: ⟨[21], [], [25], [(.slot 28)]⟩ :: ⟨[21], [], [26], [(.slot 29)]⟩ :: ⟨[21], [], [27], [(.slot 30)]⟩ :: ⟨[27], [], [28], [(.slot 31)]⟩ :: ⟨[28], [], [29], [(.slot 32)]⟩ :: ⟨[28], [], [30], [(.slot 33)]⟩ :: ⟨[28], [], [31], [(.slot 34)]⟩ :: ⟨[28], [], [32], [(.slot 35)]⟩ :: ⟨[28], [], [33], [(.slot 36)]⟩ :: ⟨[28], [], [34], [(.slot 37)]⟩ :: ⟨[34], [], [35], [(.slot 4)]⟩ :: [])) (es' := [(4, .v (.bool false))]) (by kernel_rfl) rfl rfl
            ⟨st_plain rfl (op_fieldAddr _ _ _ _ 2 0 _ Try.underlying26 rfl sz3 rfl rfl (by decide)),
              st_plain rfl (op_load _ _ _ _ _ _ Try.underlying3 rfl rfl rfl (Nat.le_of_ble_eq_true rfl) rfl rfl rfl),
              st_plain rfl (op_fieldAddr _ _ _ _ 3 0 _ Try.underlying26 rfl sz3 rfl rfl (by decide)),
              st_plain rfl (op_load _ _ _ _ _ _ Try.underlying3 rfl rfl rfl (Nat.le_of_ble_eq_true rfl) rfl rfl rfl),
              st_plain rfl (op_bin _ _ _ _ _ rfl rfl rfl),
              st_plain rfl (op_move _ _ _ _ (congrArg (fun b => AV.v (Value.bool b)) hg1_5) rfl),
              st_run 5 10 true rfl rfl rfl (List.Mem.head _) (op_fieldAddr _ _ _ _ 2 0 _ Try.underlying26 rfl sz3 rfl rfl (by decide)),
              st_run 5 10 true rfl rfl rfl (List.Mem.head _) (op_load _ _ _ _ _ _ Try.underlying3 rfl rfl rfl (Nat.le_of_ble_eq_true rfl) rfl rfl rfl),
              st_run 5 10 true rfl rfl rfl (List.Mem.head _) (op_fieldAddr _ _ _ _ 3 0 _ Try.underlying26 rfl sz3 rfl rfl (by decide)),
              st_run 5 10 true rfl rfl rfl (List.Mem.head _) (op_load _ _ _ _ _ _ Try.underlying3 rfl rfl rfl (Nat.le_of_ble_eq_true rfl) rfl rfl rfl),
              st_run 5 10 true rfl rfl rfl (List.Mem.head _) (op_bin _ _ _ _ _ rfl rfl rfl),
              st_plain rfl (op_pick _ _ true _ rfl rfl),
              st_plain rfl (op_move _ _ _ _ (congrArg (fun b => AV.v (Value.bool b)) hg1_12) rfl),
              st_run 12 17 true rfl rfl rfl (List.Mem.head _) (op_fieldAddr _ _ _ _ 2 0 _ Try.underlying26 rfl sz3 rfl rfl (by decide)),
              st_run 12 17 true rfl rfl rfl (List.Mem.head _) (op_load _ _ _ _ _ _ Try.underlying3 rfl rfl rfl (Nat.le_of_ble_eq_true rfl) rfl rfl rfl),
              st_run 12 17 true rfl rfl rfl (List.Mem.head _) (op_fieldAddr _ _ _ _ 3 0 _ Try.underlying26 rfl sz3 rfl rfl (by decide)),
              st_run 12 17 true rfl rfl rfl (List.Mem.head _) (op_load _ _ _ _ _ _ Try.underlying3 rfl rfl rfl (Nat.le_of_ble_eq_true rfl) rfl rfl rfl),
              st_run 12 17 true rfl rfl rfl (List.Mem.head _) (op_bin _ _ _ _ _ rfl rfl rfl),
              st_plain rfl (op_pick _ _ true _ rfl rfl),
              st_plain rfl (op_move _ _ _ _ (congrArg (fun b => AV.v (Value.bool b)) hg1_19) rfl),
              st_skip 19 24 _ true rfl rfl rfl rfl (List.Mem.head _),
              st_skip 19 24 _ true rfl rfl rfl rfl (List.Mem.head _),
              st_skip 19 24 _ true rfl rfl rfl rfl (List.Mem.head _),
              st_skip 19 24 _ true rfl rfl rfl rfl (List.Mem.head _),
              st_skip 19 24 _ true rfl rfl rfl rfl (List.Mem.head _),
              st_plain rfl (op_pick _ _ false _ rfl rfl),
              st_plain rfl (op_move _ _ _ _ rfl rfl),
              st_skip 26 31 _ true rfl rfl rfl rfl (List.Mem.head _),
              st_skip 26 31 _ true rfl rfl rfl rfl (List.Mem.head _),
              st_skip 26 31 _ true rfl rfl rfl rfl (List.Mem.head _),
              st_skip 26 31 _ true rfl rfl rfl rfl (List.Mem.head _),
              st_skip 26 31 _ true rfl rfl rfl rfl (List.Mem.head _),
              st_plain rfl (op_pick _ _ false _ rfl rfl),
              st_plain rfl (op_assign _ _ _ _ rfl rfl),
              trivial⟩ ?_
          exact hl4 _ (Option.some.inj h).symm
      · refine ht_seqR hn (El := (_ :: _ :: (5, .ptr 2 0) :: (6, .v (.int .i64 a.Kind)) :: (7, .ptr 3 0) :: (8, .v (.int .i64 b.Kind)) :: (9, .v (.bool (a.Kind == b.Kind))) :: (10, .v (.bool true)) :: (11, .ptr 2 1) :: (12, .v (.int .i64 a.Number)) :: (13, .ptr 3 1) :: (14, .v (.int .i64 b.Number)) :: (15, .v (.bool (a.Number == b.Number))) :: (16, .v (.bool (a.Number == b.Number))) :: (17, .v (.bool false)) :: (18, .v undef) :: (19, .v undef) :: (20, .v undef) :: (21, .v undef) :: (22, .v undef) :: (23, .v (.bool false)) :: (24, .v (.bool false)) :: (25, .v undef) :: (26, .v undef) :: (27, .v undef) :: (28, .v undef) :: (29, .v undef) :: (30, .v (.bool false)) :: (31, .v (.bool false)) :: (32, .v undef) :: (33, .v undef) :: (34, .v undef) :: (35, .v undef) :: (36, .v undef) :: (37, .v (.bool false)) :: (4, .v (.bool false)) :: [])) (init := [0, 1]) (fin := [35]) (sps := (⟨[0], [], [2], [(.slot 5)]⟩ :: ⟨[2, 0], [], [3], [(.slot 6)]⟩ :: ⟨[1], [], [4], [(.slot 7)]⟩ :: ⟨[4, 1], [], [5], [(.slot 8)]⟩ :: ⟨[3, 5], [], [6], [(.slot 9)]⟩ :: ⟨[6], [], [7], [(.slot 10)]⟩ :: ⟨[7, 0], [], [8], [(.slot 11)]⟩ :: ⟨[7, 8, 0], [], [9], [(.slot 12)]⟩ :: ⟨[7, 1], [], [10], [(.slot 13)]⟩ :: ⟨[7, 10, 1], [], [11], [(.slot 14)]⟩ :: ⟨[7, 9, 11], [], [12], [(.slot 15)]⟩ :: ⟨[7, 12], [], [13], [(.slot 16)]⟩ :: ⟨[13], [], [14], [(.slot 17)]⟩ :: ⟨[14], [], [15], [(.slot 18)]⟩ :: ⟨[14], [], [16], [(.slot 19)]⟩ :: ⟨[14], [], [17], [(.slot 20)]⟩ :: ⟨[14], [], [18], [(.slot 21)]⟩ :: ⟨[14], [], [19], [(.slot 22)]⟩ :: ⟨[14], [], [20], [(.slot 23)]⟩ :: ⟨[20], [], [21], [(.slot 24)]⟩ :: ⟨[21], [], [22], [(.slot 25)]⟩ :: ⟨[21], [], [23], [(.slot 26)]⟩ :: ⟨[21], [], [24], [(.slot 27)]⟩ :: ⟨[21], [], [25], [(.slot 28)]⟩ :: ⟨[21], [], [26], [(.slot 29)]⟩ :: ⟨[21], [], [27], [(.slot 30)]⟩ :: ⟨[27], [], [28], [(.slot 31)]⟩ :: ⟨[28], [], [29], [(.slot 32)]⟩ :: ⟨[28], [], [30], [(.slot 33)]⟩ :: ⟨[28], [], [31], [(.slot 34)]⟩ :: ⟨[28], [], [32], [(.slot 35)]⟩ :: ⟨[28], [], [33], [(.slot 36)]⟩ :: ⟨[28], [], [34], [(.slot 37)]⟩ :: ⟨[34], [], [35], [(.slot 4)]⟩ :: [])) (es' := [(4, .v (.bool false))]) (by kernel_rfl) rfl rfl
          ⟨st_plain rfl (op_fieldAddr _ _ _ _ 2 0 _ Try.underlying26 rfl sz3 rfl rfl (by decide)),
            st_plain rfl (op_load _ _ _ _ _ _ Try.underlying3 rfl rfl rfl (Nat.le_of_ble_eq_true rfl) rfl rfl rfl),
            st_plain rfl (op_fieldAddr _ _ _ _ 3 0 _ Try.underlying26 rfl sz3 rfl rfl (by decide)),
            st_plain rfl (op_load _ _ _ _ _ _ Try.underlying3 rfl rfl rfl (Nat.le_of_ble_eq_true rfl) rfl rfl rfl),
            st_plain rfl (op_bin _ _ _ _ _ rfl rfl rfl),
            st_plain rfl (op_move _ _ _ _ (congrArg (fun b => AV.v (Value.bool b)) hg1_5) rfl),
            st_run 5 10 true rfl rfl rfl (List.Mem.head _) (op_fieldAddr _ _ _ _ 2 0 _ Try.underlying26 rfl sz3 rfl rfl (by decide)),
            st_run 5 10 true rfl rfl rfl (List.Mem.head _) (op_load _ _ _ _ _ _ Try.underlying3 rfl rfl rfl (Nat.le_of_ble_eq_true rfl) rfl rfl rfl),
            st_run 5 10 true rfl rfl rfl (List.Mem.head _) (op_fieldAddr _ _ _ _ 3 0 _ Try.underlying26 rfl sz3 rfl rfl (by decide)),
            st_run 5 10 true rfl rfl rfl (List.Mem.head _) (op_load _ _ _ _ _ _ Try.underlying3 rfl rfl rfl (Nat.le_of_ble_eq_true rfl) rfl rfl rfl),
            st_run 5 10 true rfl rfl rfl (List.Mem.head _) (op_bin _ _ _ _ _ rfl rfl rfl),
            st_plain rfl (op_pick _ _ true _ rfl rfl),
            st_plain rfl (op_move _ _ _ _ (congrArg (fun b => AV.v (Value.bool b)) hg1_12) rfl),
            st_skip 12 17 _ true rfl rfl rfl rfl (List.Mem.head _),
            st_skip 12 17 _ true rfl rfl rfl rfl (List.Mem.head _),
            st_skip 12 17 _ true rfl rfl rfl rfl (List.Mem.head _),
            st_skip 12 17 _ true rfl rfl rfl rfl (List.Mem.head _),
            st_skip 12 17 _ true rfl rfl rfl rfl (List.Mem.head _),
            st_plain rfl (op_pick _ _ false _ rfl rfl),
            st_plain rfl (op_move _ _ _ _ rfl rfl),
            st_skip 19 24 _ true rfl rfl rfl rfl (List.Mem.head _),
            st_skip 19 24 _ true rfl rfl rfl rfl (List.Mem.head _),
            st_skip 19 24 _ true rfl rfl rfl rfl (List.Mem.head _),
            st_skip 19 24 _ true rfl rfl rfl rfl (List.Mem.head _),
            st_skip 19 24 _ true rfl rfl rfl rfl (List.Mem.head _),
            st_plain rfl (op_pick _ _ false _ rfl rfl),
            st_plain rfl (op_move _ _ _ _ rfl rfl),
            st_skip 26 31 _ true rfl rfl rfl rfl (List.Mem.head _),
            st_skip 26 31 _ true rfl rfl rfl rfl (List.Mem.head _),
            st_skip 26 31 _ true rfl rfl rfl rfl (List.Mem.head _),
            st_skip 26 31 _ true rfl rfl rfl rfl (List.Mem.head _),
            st_skip 26 31 _ true rfl rfl rfl rfl (List.Mem.head _),
            st_plain rfl (op_pick _ _ false _ rfl rfl),
            st_plain rfl (op_assign _ _ _ _ rfl rfl),
            trivial⟩ ?_
        exact hl4 _ (Option.some.inj h).symm
    · refine ht_seqR hn (El := (_ :: _ :: (5, .ptr 2 0) :: (6, .v (.int .i64 a.Kind)) :: (7, .ptr 3 0) :: (8, .v (.int .i64 b.Kind)) :: (9, .v (.bool (a.Kind == b.Kind))) :: (10, .v (.bool false)) :: (11, .v undef) :: (12, .v undef) :: (13, .v undef) :: (14, .v undef) :: (15, .v undef) :: (16, .v (.bool false)) :: (17, .v (.bool false)) :: (18, .v undef) :: (19, .v undef) :: (20, .v undef) :: (21, .v undef) :: (22, .v undef) :: (23, .v (.bool false)) :: (24, .v (.bool false)) :: (25, .v undef) :: (26, .v undef) :: (27, .v undef) :: (28, .v undef) :: (29, .v undef) :: (30, .v (.bool false)) :: (31, .v (.bool false)) :: (32, .v undef) :: (33, .v undef) :: (34, .v undef) :: (35, .v undef) :: (36, .v undef) :: (37, .v (.bool false)) :: (4, .v (.bool false)) :: [])) (init := [0, 1]) (fin := [35]) (sps := (⟨[0], [], [2], [(.slot 5)]⟩ :: ⟨[2, 0], [], [3], [(.slot 6)]⟩ :: ⟨[1], [], [4], [(.slot 7)]⟩ :: ⟨[4, 1], [], [5], [(.slot 8)]⟩ :: ⟨[3, 5], [], [6], [(.slot 9)]⟩ :: ⟨[6], [], [7], [(.slot 10)]⟩ :: ⟨[7], [], [8], [(.slot 11)]⟩ :: ⟨[7], [], [9], [(.slot 12)]⟩ :: ⟨[7], [], [10], [(.slot 13)]⟩ :: ⟨[7], [], [11], [(.slot 14)]⟩ :: ⟨[7], [], [12], [(.slot 15)]⟩ :: ⟨[7], [], [13], [(.slot 16)]⟩ :: ⟨[13], [], [14], [(.slot 17)]⟩ :: ⟨[14], [], [15], [(.slot 18)]⟩ :: ⟨[14], [], [16], [(.slot 19)]⟩ :: ⟨[14], [], [17], [(.slot 20)]⟩ :: ⟨[14], [], [18], [(.slot 21)]⟩ :: ⟨[14], [], [19], [(.slot 22)]⟩ :: ⟨[14], [], [20], [(.slot 23)]⟩ :: ⟨[20], [], [21], [(.slot 24)]⟩ :: ⟨[21], [], [22], [(.slot 25)]⟩ :: ⟨[21], [], [23], [(.slot 26)]⟩ :: ⟨[21], [], [24], [(.slot 27)]⟩ :: ⟨[21], [], [25], [(.slot 28)]⟩ :: ⟨[21], [], [26], [(.slot 29)]⟩ :: ⟨[21], [], [27], [(.slot 30)]⟩ :: ⟨[27], [], [28], [(.slot 31)]⟩ :: ⟨[28], [], [29], [(.slot 32)]⟩ :: ⟨[28], [], [30], [(.slot 33)]⟩ :: ⟨[28], [], [31], [(.slot 34)]⟩ :: ⟨[28], [], [32], [(.slot 35)]⟩ :: ⟨[28], [], [33], [(.slot 36)]⟩ :: ⟨[28], [], [34], [(.slot 37)]⟩ :: ⟨[34], [], [35], [(.slot 4)]⟩ :: [])) (es' := [(4, .v (.bool false))]) (by kernel_rfl) rfl rfl
        ⟨st_plain rfl (op_fieldAddr _ _ _ _ 2 0 _ Try.underlying26 rfl sz3 rfl rfl (by decide)),
          st_plain rfl (op_load _ _ _ _ _ _ Try.underlying3 rfl rfl rfl (Nat.le_of_ble_eq_true rfl) rfl rfl rfl),
          st_plain rfl (op_fieldAddr _ _ _ _ 3 0 _ Try.underlying26 rfl sz3 rfl rfl (by decide)),
          st_plain rfl (op_load _ _ _ _ _ _ Try.underlying3 rfl rfl rfl (Nat.le_of_ble_eq_true rfl) rfl rfl rfl),
          st_plain rfl (op_bin _ _ _ _ _ rfl rfl rfl),
          st_plain rfl (op_move _ _ _ _ (congrArg (fun b => AV.v (Value.bool b)) hg1_5) rfl),
          st_skip 5 10 _ true rfl rfl rfl rfl (List.Mem.head _),
          st_skip 5 10 _ true rfl rfl rfl rfl (List.Mem.head _),
          st_skip 5 10 _ true rfl rfl rfl rfl (List.Mem.head _),
          st_skip 5 10 _ true rfl rfl rfl rfl (List.Mem.head _),
          st_skip 5 10 _ true rfl rfl rfl rfl (List.Mem.head _),
          st_plain rfl (op_pick _ _ false _ rfl rfl),
          st_plain rfl (op_move _ _ _ _ rfl rfl),
          st_skip 12 17 _ true rfl rfl rfl rfl (List.Mem.head _),
          st_skip 12 17 _ true rfl rfl rfl rfl (List.Mem.head _),
          st_skip 12 17 _ true rfl rfl rfl rfl (List.Mem.head _),
          st_skip 12 17 _ true rfl rfl rfl rfl (List.Mem.head _),
          st_skip 12 17 _ true rfl rfl rfl rfl (List.Mem.head _),
          st_plain rfl (op_pick _ _ false _ rfl rfl),
          st_plain rfl (op_move _ _ _ _ rfl rfl),
          st_skip 19 24 _ true rfl rfl rfl rfl (List.Mem.head _),
          st_skip 19 24 _ true rfl rfl rfl rfl (List.Mem.head _),
          st_skip 19 24 _ true rfl rfl rfl rfl (List.Mem.head _),
          st_skip 19 24 _ true rfl rfl rfl rfl (List.Mem.head _),
          st_skip 19 24 _ true rfl rfl rfl rfl (List.Mem.head _),
          st_plain rfl (op_pick _ _ false _ rfl rfl),
          st_plain rfl (op_move _ _ _ _ rfl rfl),
          st_skip 26 31 _ true rfl rfl rfl rfl (List.Mem.head _),
          st_skip 26 31 _ true rfl rfl rfl rfl (List.Mem.head _),
          st_skip 26 31 _ true rfl rfl rfl rfl (List.Mem.head _),
          st_skip 26 31 _ true rfl rfl rfl rfl (List.Mem.head _),
          st_skip 26 31 _ true rfl rfl rfl rfl (List.Mem.head _),
          st_plain rfl (op_pick _ _ false _ rfl rfl),
          st_plain rfl (op_assign _ _ _ _ rfl rfl),
          trivial⟩ ?_
      exact hl4 _ (Option.some.inj h).symm

set_option maxHeartbeats 1000000 in
theorem ok_wherryref18_Frame (f : T_Frame) (r : Bool) (h : Sh.wherryref18_Frame f = some r) : FnOK Try.prog 24 [.agg [.v (.int .i64 f.Kind), .v (.int .i64 f.Number), .v (.int .i64 f.Offset), .v (.int .i64 f.Seq), .fl .shr 1 (List.map (Value.int .u8) f.Data)]] (.v (.bool r)) := by
  unfold Sh.wherryref18_Frame at h
  refine fn_ok Try.func24 rfl (Nat.le_of_ble_eq_true rfl) rfl rfl fun g0 hn hio => ?_
  refine ht_seq ?_
  refine ht_seqR hn (El := [_, (1, .box 26 [.v (.int .i64 f.Kind), .v (.int .i64 f.Number), .v (.int .i64 f.Offset), .v (.int .i64 f.Seq), .fl .shr 1 (List.map (Value.int .u8) f.Data)]), (2, .v (.bool false))]) (init := [0]) (fin := [1]) (sps := [⟨[0], [], [1], [(.slot 1)]⟩, ⟨[], [], [2], [(.slot 2)]⟩]) (es' := [(1, .box 26 [.v (.int .i64 f.Kind), .v (.int .i64 f.Number), .v (.int .i64 f.Offset), .v (.int .i64 f.Seq), .fl .shr 1 (List.map (Value.int .u8) f.Data)])]) (by kernel_rfl) rfl rfl
    ⟨st_plain rfl (op_box _ _ _ _ rfl rfl rfl),
      st_plain rfl (op_assign _ _ _ _ rfl rfl),
      trivial⟩ ?_
  refine pt_then ?_
  refine ht_seq ?_
  refine ht_seqR hn (El := [_, (5, .ptr 1 0), (6, .v (.int .i64 f.Kind)), (7, .ptr 1 1), (8, .v (.int .i64 f.Number)), (9, .agg [.v (.int .i64 f.Kind), .v (.int .i64 f.Number), .v (.int .i64 0), .v (.int .i64 0), .v (.slice none 0 0)]), (3, .box 26 [.v (.int .i64 0), .v (.int .i64 0), .v (.int .i64 0), .v (.int .i64 0), .v (.slice none 0 0)]), (3, .box 26 [.v (.int .i64 f.Kind), .v (.int .i64 f.Number), .v (.int .i64 0), .v (.int .i64 0), .v (.slice none 0 0)])]) (init := [0]) (fin := [0, 7]) (sps := [⟨[0], [], [1], [(.slot 5)]⟩, ⟨[1, 0], [], [2], [(.slot 6)]⟩, ⟨[0], [], [3], [(.slot 7)]⟩, ⟨[3, 0], [], [4], [(.slot 8)]⟩, ⟨[2, 4], [], [5], [(.slot 9)]⟩, ⟨[], [], [6], [(.slot 3)]⟩, ⟨[5], [6], [7], [.cell 3 0, .cell 3 1, .cell 3 2, .cell 3 3, .cell 3 4]⟩]) (es' := [(_, _), (3, .box 26 [.v (.int .i64 f.Kind), .v (.int .i64 f.Number), .v (.int .i64 0), .v (.int .i64 0), .v (.slice none 0 0)])]) (by kernel_rfl) rfl rfl
    ⟨st_plain rfl (op_fieldAddr _ _ _ _ 1 0 _ Try.underlying26 rfl sz3 rfl rfl (by decide)),
      st_plain rfl (op_load _ _ _ _ _ _ Try.underlying3 rfl rfl rfl (Nat.le_of_ble_eq_true rfl) rfl rfl rfl),
      st_plain rfl (op_fieldAddr _ _ _ _ 1 0 _ Try.underlying26 rfl sz3 rfl rfl (by decide)),
      st_plain rfl (op_load _ _ _ _ _ _ Try.underlying3 rfl rfl rfl (Nat.le_of_ble_eq_true rfl) rfl rfl rfl),
      st_plain rfl (op_build _ _ _ _ [1, 1, 1, 1, 1] _ _ Try.underlying26 zr26 (fs26 _ Try.underlying26) (.copy _ (.copy _ Src.nil)) rfl rfl rfl),
      st_plain rfl (op_alloc _ _ zr26),
      st_plain rfl (op_store _ _ _ _ _ _ _ _ sz26 rfl rfl rfl rfl (Nat.le_of_ble_eq_true rfl) rfl rfl),
      trivial⟩ ?_
  refine pt_then ?_
  refine ht_seq ?_
  obtain ⟨v1, hv1, h⟩ := bind_some h
  refine ht_seqR hn (El := [_, _, (10, .ptr 1 1), (11, .v (.int .i64 f.Number)), (12, .v (.bool v1)), (4, .v (.bool v1))]) (init := [0, 1]) (fin := [0, 1, 5]) (sps := [⟨[0], [], [2], [(.slot 10)]⟩, ⟨[2, 0], [], [3], [(.slot 11)]⟩, ⟨[3], [], [4], [(.slot 12)]⟩, ⟨[4], [], [5], [(.slot 4)]⟩]) (es' := [(_, _), (_, _), (4, .v (.bool v1))]) (by kernel_rfl) rfl rfl
    ⟨st_plain rfl (op_fieldAddr _ _ _ _ 1 0 _ Try.underlying26 rfl sz3 rfl rfl (by decide)),
      st_plain rfl (op_load _ _ _ _ _ _ Try.underlying3 rfl rfl rfl (Nat.le_of_ble_eq_true rfl) rfl rfl rfl),
      st_plain rfl (op_call _ _ 30 _ _ rfl Try.call30 rfl (ok_wherryref18_in f.Number 1 65535 _ hv1) rfl rfl),
      st_plain rfl (op_assign _ _ _ _ rfl rfl),
      trivial⟩ ?_
  refine pt_then ?_
  refine ht_seq ?_
  refine ht_joinS h (fun ((s58, s59, s60, s61) : Int × Int × (List Int) × Bool) => [(1, .box 26 [.v (.int .i64 f.Kind), .v (.int .i64 f.Number), .v (.int .i64 f.Offset), .v (.int .i64 f.Seq), .fl .shr 1 (List.map (Value.int .u8) f.Data)]), (3, .box 26 [.v (.int .i64 f.Kind), .v (.int .i64 f.Number), .v (.int .i64 s58), .v (.int .i64 s59), .fl .shr 1 (List.map (Value.int .u8) s60)]), (4, .v (.bool s61))]) ?_ ?_
  · rintro ⟨s58, s59, s60, s61⟩ h
    refine pt_then ?_
    refine ht_seq ?_
    refine ht_joinS h (fun (s117 : Bool) => [(2, .v (.bool s117))]) ?_ ?_
    · rintro s117 h
      refine pt_then ?_
      refine ht_ret ?_
      obtain rfl := Option.some.inj h
      exact pt_ret hio rfl (.tmp _ _ .nil) rfl rfl
    · intro u118 h hl119 hr120
      refine cond_some h (fun hg16_1 h => ?_) (fun hg16_1 h => ?_)
      · obtain ⟨v116, hv116, h⟩ := bind_some h
        refine ht_seqR hn (El := [_, _, _, (68, .v (.bool s61)), (69, .v (.bool true)), (70, .agg [.v (.int .i64 f.Kind), .v (.int .i64 f.Number), .v (.int .i64 s58), .v (.int .i64 s59), .fl .shr 1 (List.map (Value.int .u8) s60)]), (71, .agg [.v (.int .i64 f.Kind), .v (.int .i64 f.Number), .v (.int .i64 f.Offset), .v (.int .i64 f.Seq), .fl .shr 1 (List.map (Value.int .u8) f.Data)]), (72, .v (.bool v116)), (73, .v (.bool v116)), (2, .v (.bool v116))]) (init := [0, 1, 2]) (fin := [9]) (sps := [⟨[2], [], [3], [(.slot 68)]⟩, ⟨[3], [], [4], [(.slot 69)]⟩, ⟨[4, 1], [], [5], [(.slot 70)]⟩, ⟨[4, 0], [], [6], [(.slot 71)]⟩, ⟨[4, 5, 6], [], [7], [(.slot 72)]⟩, ⟨[4, 7], [], [8], [(.slot 73)]⟩, ⟨[8], [], [9], [(.slot 2)]⟩]) (es' := [(2, .v (.bool v116))]) (by kernel_rfl) rfl rfl
          ⟨st_plain rfl (op_move _ _ _ _ rfl rfl),
            st_plain rfl (op_move _ _ _ _ (congrArg (fun b => AV.v (Value.bool b)) hg16_1) rfl),
            st_run 1 69 true rfl rfl rfl (List.Mem.head _) (op_loadA _ _ _ _ _ _ _ Try.underlying26 rfl sz26 rfl rfl (Nat.le_of_ble_eq_true rfl) rfl rfl),
            st_run 1 69 true rfl rfl rfl (List.Mem.head _) (op_loadA _ _ _ _ _ _ _ Try.underlying26 rfl sz26 rfl rfl (Nat.le_of_ble_eq_true rfl) rfl rfl),
            st_run 1 69 true rfl rfl rfl (List.Mem.head _) (op_call _ _ 27 _ _ rfl Try.call27 rfl (ok_wherrykeep_Frame (T_Frame.mk f.Kind f.Number s58 s59 s60) f _ hv116) rfl rfl),
            st_plain rfl (op_pick _ _ true _ rfl rfl),
            st_plain rfl (op_assign _ _ _ _ rfl rfl),
            trivial⟩ ?_
        exact hl119 _ (Option.some.inj h).symm
      · refine ht_seqR hn (El := [_, _, _, (68, .v (.bool s61)), (69, .v (.bool false)), (70, .v undef), (71, .v undef), (72, .v undef), (73, .v (.bool false)), (2, .v (.bool false))]) (init := [0, 1, 2]) (fin := [9]) (sps := [⟨[2], [], [3], [(.slot 68)]⟩, ⟨[3], [], [4], [(.slot 69)]⟩, ⟨[4], [], [5], [(.slot 70)]⟩, ⟨[4], [], [6], [(.slot 71)]⟩, ⟨[4], [], [7], [(.slot 72)]⟩, ⟨[4], [], [8], [(.slot 73)]⟩, ⟨[8], [], [9], [(.slot 2)]⟩]) (es' := [(2, .v (.bool false))]) (by kernel_rfl) rfl rfl
          ⟨st_plain rfl (op_move _ _ _ _ rfl rfl),
            st_plain rfl (op_move _ _ _ _ (congrArg (fun b => AV.v (Value.bool b)) hg16_1) rfl),
            st_skip 1 69 _ true rfl rfl rfl rfl (List.Mem.head _),
            st_skip 1 69 _ true rfl rfl rfl rfl (List.Mem.head _),
            st_skip 1 69 _ true rfl rfl rfl rfl (List.Mem.head _),
            st_plain rfl (op_pick _ _ false _ rfl rfl),
            st_plain rfl (op_assign _ _ _ _ rfl rfl),
            trivial⟩ ?_
        exact hl119 _ (Option.some.inj h).symm
  · intro u62 h hl63 hr64
    refine ht_seq ?_
    refine ht_seqR hn (El := [_, _, _, (13, .ptr 1 0), (14, .v (.int .i64 f.Kind))]) (init := [0, 1, 2]) (fin := [0, 1, 2, 4]) (sps := [⟨[0], [], [3], [(.slot 13)]⟩, ⟨[3, 0], [], [4], [(.slot 14)]⟩]) (es' := [(_, _), (_, _), (_, _), (14, .v (.int .i64 f.Kind))]) (by kernel_rfl) rfl rfl
      ⟨st_plain rfl (op_fieldAddr _ _ _ _ 1 0 _ Try.underlying26 rfl sz3 rfl rfl (by decide)),
        st_plain rfl (op_load _ _ _ _ _ _ Try.underlying3 rfl rfl rfl (Nat.le_of_ble_eq_true rfl) rfl rfl rfl),
        trivial⟩ ?_
    refine pt_then ?_
    refine ht_joinS h (fun ((s87, s88, s89, s90) : Int × Int × (List Int) × Bool) => [(1, .box 26 [.v (.int .i64 f.Kind), .v (.int .i64 f.Number), .v (.int .i64 f.Offset), .v (.int .i64 f.Seq), .fl .shr 1 (List.map (Value.int .u8) f.Data)]), (3, .box 26 [.v (.int .i64 f.Kind), .v (.int .i64 f.Number), .v (.int .i64 s87), .v (.int .i64 s88), .fl .shr 1 (List.map (Value.int .u8) s89)]), (4, .v (.bool s90))]) ?_ ?_
    · rintro ⟨s87, s88, s89, s90⟩ h
      exact hl63 _ (Option.some.inj h).symm
    · intro u91 h hl92 hr93
      refine ht_block ?_
      refine ht_seq ?_
      refine ht_joinS h (fun (s95 : Bool) => [(1, .box 26 [.v (.int .i64 f.Kind), .v (.int .i64 f.Number), .v (.int .i64 f.Offset), .v (.int .i64 f.Seq), .fl .shr 1 (List.map (Value.int .u8) f.Data)]), (3, .box 26 [.v (.int .i64 f.Kind), .v (.int .i64 f.Number), .v (.int .i64 0), .v (.int .i64 0), .v (.slice none 0 0)]), (4, .v (.bool v1)), (14, .v (.int .i64 f.Kind)), (15, .v (.bool s95))]) ?_ ?_
      · rintro s95 h
        refine pt_then ?_
        refine ht_cond _ rfl (fun hb100 => ?_) (fun hb100 => ?_)
        · have h := cond_t hb100 h
          refine ht_seq ?_
          refine ht_seqR hn (El := [_, _, _, _, _, (18, .ptr 1 2), (19, .v (.int .i64 f.Offset)), (20, .ptr 3 2), (3, .box 26 [.v (.int .i64 f.Kind), .v (.int .i64 f.Number), .v (.int .i64 f.Offset), .v (.int .i64 0), .v (.slice none 0 0)])]) (init := [0, 1, 2, 3, 4]) (fin := [0, 8, 2]) (sps := [⟨[0], [], [5], [(.slot 18)]⟩, ⟨[5, 0], [], [6], [(.slot 19)]⟩, ⟨[1], [], [7], [(.slot 20)]⟩, ⟨[7, 6], [1], [8], [.cell 3 2]⟩]) (es' := [(_, _), (3, .box 26 [.v (.int .i64 f.Kind), .v (.int .i64 f.Number), .v (.int .i64 f.Offset), .v (.int .i64 0), .v (.slice none 0 0)]), (_, _)]) (by kernel_rfl) rfl rfl
            ⟨st_plain rfl (op_fieldAddr _ _ _ _ 1 0 _ Try.underlying26 rfl sz3 rfl rfl (by decide)),
              st_plain rfl (op_load _ _ _ _ _ _ Try.underlying3 rfl rfl rfl (Nat.le_of_ble_eq_true rfl) rfl rfl rfl),
              st_plain rfl (op_fieldAddr _ _ _ _ 3 0 _ Try.underlying26 rfl sz3 rfl rfl (by decide)),
              st_plain rfl (op_store _ _ _ _ _ _ _ _ sz3 rfl rfl rfl rfl (Nat.le_of_ble_eq_true rfl) rfl rfl),
              trivial⟩ ?_
          refine pt_then ?_
          refine ht_joinS h (fun (s101 : Bool) => [(1, .box 26 [.v (.int .i64 f.Kind), .v (.int .i64 f.Number), .v (.int .i64 f.Offset), .v (.int .i64 f.Seq), .fl .shr 1 (List.map (Value.int .u8) f.Data)]), (3, .box 26 [.v (.int .i64 f.Kind), .v (.int .i64 f.Number), .v (.int .i64 f.Offset), .v (.int .i64 0), .v (.slice none 0 0)]), (4, .v (.bool s101))]) ?_ ?_
          · rintro s101 h
            refine pt_inb ?_
            refine pt_sub (fs := [(1, .box 26 [.v (.int .i64 f.Kind), .v (.int .i64 f.Number), .v (.int .i64 f.Offset), .v (.int .i64 f.Seq), .fl .shr 1 (List.map (Value.int .u8) f.Data)]), (3, .box 26 [.v (.int .i64 f.Kind), .v (.int .i64 f.Number), .v (.int .i64 f.Offset), .v (.int .i64 0), .fl .shr 1 (List.map (Value.int .u8) [])]), (4, .v (.bool s101))]) (.same _ (.box _ _ (subs_cons (sub_refl _) (subs_cons (sub_refl _) (subs_cons (sub_refl _) (subs_cons (sub_refl _) (subs_cons (sub_nil_shr 1) (subs_nil)))))) rfl (.same _ .nil))) ?_
            exact hl92 _ (Option.some.inj h).symm
          · intro u102 h hl103 hr104
            refine cond_some h (fun hg8_1 h => ?_) (fun hg8_1 h => ?_)
            · obtain ⟨v9, hv9, h⟩ := bind_some h
              refine ht_seqR hn (El := [_, _, _, (21, .v (.bool v1)), (22, .v (.bool true)), (23, .ptr 1 2), (24, .v (.int .i64 f.Offset)), (25, .v (.bool v9)), (26, .v (.bool v9)), (4, .v (.bool v9))]) (init := [0, 1, 2]) (fin := [0, 1, 9]) (sps := [⟨[2], [], [3], [(.slot 21)]⟩, ⟨[3], [], [4], [(.slot 22)]⟩, ⟨[4, 0], [], [5], [(.slot 23)]⟩, ⟨[4, 5, 0], [], [6], [(.slot 24)]⟩, ⟨[4, 6], [], [7], [(.slot 25)]⟩, ⟨[4, 7], [], [8], [(.slot 26)]⟩, ⟨[8], [2], [9], [(.slot 4)]⟩]) (es' := [(_, _), (_, _), (4, .v (.bool v9))]) (by kernel_rfl) rfl rfl
                ⟨st_plain rfl (op_move _ _ _ _ rfl rfl),
                  st_plain rfl (op_move _ _ _ _ (congrArg (fun b => AV.v (Value.bool b)) hg8_1) rfl),
                  st_run 1 22 true rfl rfl rfl (List.Mem.head _) (op_fieldAddr _ _ _ _ 1 0 _ Try.underlying26 rfl sz3 rfl rfl (by decide)),
                  st_run 1 22 true rfl rfl rfl (List.Mem.head _) (op_load _ _ _ _ _ _ Try.underlying3 rfl rfl rfl (Nat.le_of_ble_eq_true rfl) rfl rfl rfl),
                  st_run 1 22 true rfl rfl rfl (List.Mem.head _) (op_call _ _ 30 _ _ rfl Try.call30 rfl (ok_wherryref18_in f.Offset 0 5000 _ hv9) rfl rfl),
                  st_plain rfl (op_pick _ _ true _ rfl rfl),
                  st_plain rfl (LOp.drop [_] (op_assign _ _ _ _ rfl rfl)),
                  trivial⟩ ?_
              exact hl103 _ (Option.some.inj h).symm
            · refine ht_seqR hn (El := [_, _, _, (21, .v (.bool v1)), (22, .v (.bool false)), (23, .v undef), (24, .v undef), (25, .v undef), (26, .v (.bool false)), (4, .v (.bool false))]) (init := [0, 1, 2]) (fin := [0, 1, 9]) (sps := [⟨[2], [], [3], [(.slot 21)]⟩, ⟨[3], [], [4], [(.slot 22)]⟩, ⟨[4], [], [5], [(.slot 23)]⟩, ⟨[4], [], [6], [(.slot 24)]⟩, ⟨[4], [], [7], [(.slot 25)]⟩, ⟨[4], [], [8], [(.slot 26)]⟩, ⟨[8], [2], [9], [(.slot 4)]⟩]) (es' := [(_, _), (_, _), (4, .v (.bool false))]) (by kernel_rfl) rfl rfl
                ⟨st_plain rfl (op_move _ _ _ _ rfl rfl),
                  st_plain rfl (op_move _ _ _ _ (congrArg (fun b => AV.v (Value.bool b)) hg8_1) rfl),
                  st_skip 1 22 _ true rfl rfl rfl rfl (List.Mem.head _),
                  st_skip 1 22 _ true rfl rfl rfl rfl (List.Mem.head _),
                  st_skip 1 22 _ true rfl rfl rfl rfl (List.Mem.head _),
                  st_plain rfl (op_pick _ _ false _ rfl rfl),
                  st_plain rfl (LOp.drop [_] (op_assign _ _ _ _ rfl rfl)),
                  trivial⟩ ?_
              exact hl103 _ (Option.some.inj h).symm
        · have h := cond_f hb100 h
          refine ht_seq ?_
          refine ht_seqR hn (El := [_, _, _, _, _, (28, .v (.bool (f.Kind == 3))), (27, .v (.bool (f.Kind == 3)))]) (init := [0, 1, 2, 3, 4]) (fin := [0, 1, 2, 3, 6]) (sps := [⟨[3], [], [5], [(.slot 28)]⟩, ⟨[5], [], [6], [(.slot 27)]⟩]) (es' := [(_, _), (_, _), (_, _), (_, _), (27, .v (.bool (f.Kind == 3)))]) (by kernel_rfl) rfl rfl
            ⟨st_plain rfl (op_bin _ _ _ _ _ rfl rfl rfl),
              st_plain rfl (op_assign _ _ _ _ rfl rfl),
              trivial⟩ ?_
          refine pt_then ?_
          refine ht_cond _ rfl (fun hb105 => ?_) (fun hb105 => ?_)
          · have h := cond_t hb105 h
            refine ht_seq ?_
            refine ht_anyR (by kernel_rfl) hn (El := (_ :: _ :: _ :: _ :: _ :: (29, .ptr 1 2) :: (30, .v (.int .i64 f.Offset)) :: (31, .ptr 1 3) :: (32, .v (.int .i64 f.Seq)) :: (33, .ptr 1 4) :: (34, .fl .shr 1 (List.map (Value.int .u8) f.Data)) :: (35, .ptr 3 2) :: (3, .box 26 [.v (.int .i64 f.Kind), .v (.int .i64 f.Number), .v (.int .i64 f.Offset), .v (.int .i64 0), .v (.slice none 0 0)]) :: (36, .ptr 3 3) :: (3, .box 26 [.v (.int .i64 f.Kind), .v (.int .i64 f.Number), .v (.int .i64 f.Offset), .v (.int .i64 f.Seq), .v (.slice none 0 0)]) :: (37, .ptr 3 4) :: (3, .box 26 [.v (.int .i64 f.Kind), .v (.int .i64 f.Number), .v (.int .i64 f.Offset), .v (.int .i64 f.Seq), .fl .shr 1 (List.map (Value.int .u8) f.Data)]) :: [])) (init := [0, 1, 2, 3, 4]) (fin := [0, 16, 2]) (sps := [⟨[0], [], [5], [(.slot 29)]⟩, ⟨[5, 0], [], [6], [(.slot 30)]⟩, ⟨[0], [], [7], [(.slot 31)]⟩, ⟨[7, 0], [], [8], [(.slot 32)]⟩, ⟨[0], [], [9], [(.slot 33)]⟩, ⟨[9, 0], [], [10], [(.slot 34)]⟩, ⟨[1], [], [11], [(.slot 35)]⟩, ⟨[11, 6], [1], [12], [.cell 3 2]⟩, ⟨[12], [], [13], [(.slot 36)]⟩, ⟨[13, 8], [12], [14], [.cell 3 3]⟩, ⟨[14], [], [15], [(.slot 37)]⟩, ⟨[15, 10], [14], [16], [.cell 3 4]⟩]) (es' := [(_, _), (3, .box 26 [.v (.int .i64 f.Kind), .v (.int .i64 f.Number), .v (.int .i64 f.Offset), .v (.int .i64 f.Seq), .fl .shr 1 (List.map (Value.int .u8) f.Data)]), (_, _)]) (by kernel_rfl) rfl rfl
              ⟨st_plain rfl (op_fieldAddr _ _ _ _ 1 0 _ Try.underlying26 rfl sz3 rfl rfl (by decide)),
                st_plain rfl (op_load _ _ _ _ _ _ Try.underlying3 rfl rfl rfl (Nat.le_of_ble_eq_true rfl) rfl rfl rfl),
                st_plain rfl (op_fieldAddr _ _ _ _ 1 0 _ Try.underlying26 rfl sz3 rfl rfl (by decide)),
                st_plain rfl (op_load _ _ _ _ _ _ Try.underlying3 rfl rfl rfl (Nat.le_of_ble_eq_true rfl) rfl rfl rfl),
                st_plain rfl (op_fieldAddr _ _ _ _ 1 0 _ Try.underlying26 rfl sz22 rfl rfl (by decide)),
                st_plain rfl (op_load _ _ _ _ _ _ Try.underlying22 rfl rfl rfl (Nat.le_of_ble_eq_true rfl) rfl rfl rfl),
                st_plain rfl (op_fieldAddr _ _ _ _ 3 0 _ Try.underlying26 rfl sz3 rfl rfl (by decide)),
                st_plain rfl (op_store _ _ _ _ _ _ _ _ sz3 rfl rfl rfl rfl (Nat.le_of_ble_eq_true rfl) rfl rfl),
                st_plain rfl (op_fieldAddr _ _ _ _ 3 0 _ Try.underlying26 rfl sz3 rfl rfl (by decide)),
                st_plain rfl (op_store _ _ _ _ _ _ _ _ sz3 rfl rfl rfl rfl (Nat.le_of_ble_eq_true rfl) rfl rfl),
                st_plain rfl (op_fieldAddr _ _ _ _ 3 0 _ Try.underlying26 rfl sz22 rfl rfl (by decide)),
                st_plain rfl (op_store _ _ _ _ _ _ _ _ sz22 rfl rfl rfl rfl (Nat.le_of_ble_eq_true rfl) rfl rfl),
                trivial⟩ ?_
            refine pt_then ?_
            refine ht_joinS h (fun (s106 : Bool) => [(1, .box 26 [.v (.int .i64 f.Kind), .v (.int .i64 f.Number), .v (.int .i64 f.Offset), .v (.int .i64 f.Seq), .fl .shr 1 (List.map (Value.int .u8) f.Data)]), (3, .box 26 [.v (.int .i64 f.Kind), .v (.int .i64 f.Number), .v (.int .i64 f.Offset), .v (.int .i64 f.Seq), .fl .shr 1 (List.map (Value.int .u8) f.Data)]), (4, .v (.bool s106))]) ?_ ?_
            · rintro s106 h
              refine pt_inb ?_
              exact hl92 _ (Option.some.inj h).symm
            · intro u107 h hl108 hr109
              refine cond_some h (fun hg11_1 h => ?_) (fun hg11_1 h => ?_)
              · obtain ⟨v15, hv15, h⟩ := bind_some h
                refine cond_some h (fun hg11_6 h => ?_) (fun hg11_6 h => ?_)
                · obtain ⟨v16, hv16, h⟩ := bind_some h
                  refine cond_some h (fun hg11_11 h => ?_) (fun hg11_11 h => ?_)
                  · obtain ⟨v17, hv17, h⟩ := bind_some h
                    refine ht_seqR hn (El := (_ :: _ :: _ :: (38, .v (.bool v1)) :: (39, .v (.bool true)) :: (40, .ptr 1 2) :: (41, .v (.int .i64 f.Offset)) :: (42, .v (.bool v15)) :: (43, .v (.bool v15)) :: (44, .v (.bool true)) :: (45, .ptr 1 3) :: (46, .v (.int .i64 f.Seq)) :: (47, .v (.bool v16)) :: (48, .v (.bool v16)) :: (49, .v (.bool true)) :: (50, .ptr 1 4) :: (51, .fl .shr 1 (List.map (Value.int .u8) f.Data)) :: (52, .v (.int .i64 (f.Data.length : Int))) :: (53, .v (.bool v17)) :: (54, .v (.bool v17)) :: (4, .v (.bool v17)) :: [])) (init := [0, 1, 2]) (fin := [0, 1, 20]) (sps := (⟨[2], [], [3], [(.slot 38)]⟩ :: ⟨[3], [], [4], [(.slot 39)]⟩ :: ⟨[4, 0], [], [5], [(.slot 40)]⟩ :: ⟨[4, 5, 0], [], [6], [(.slot 41)]⟩ :: ⟨[4, 6], [], [7], [(.slot 42)]⟩ :: ⟨[4, 7], [], [8], [(.slot 43)]⟩ :: ⟨[8], [], [9], [(.slot 44)]⟩ :: ⟨[9, 0], [], [10], [(.slot 45)]⟩ :: ⟨[9, 10, 0], [], [11], [(.slot 46)]⟩ :: ⟨[9, 11], [], [12], [(.slot 47)]⟩ :: ⟨[9, 12], [], [13], [(.slot 48)]⟩ :: ⟨[13], [], [14], [(.slot 49)]⟩ :: ⟨[14, 0], [], [15], [(.slot 50)]⟩ :: ⟨[14, 15, 0], [], [16], [(.slot 51)]⟩ :: ⟨[14, 16], [], [17], [(.slot 52)]⟩ :: ⟨[14, 17], [], [18], [(.slot 53)]⟩ :: ⟨[14, 18], [], [19], [(.slot 54)]⟩ :: ⟨[19], [2], [20], [(.slot 4)]⟩ :: [])) (es' := [(_, _), (_, _), (4, .v (.bool v17))]) (by kernel_rfl) rfl rfl
                      ⟨st_plain rfl (op_move _ _ _ _ rfl rfl),
                        st_plain rfl (op_move _ _ _ _ (congrArg (fun b => AV.v (Value.bool b)) hg11_1) rfl),
                        st_run 1 39 true rfl rfl rfl (List.Mem.head _) (op_fieldAddr _ _ _ _ 1 0 _ Try.underlying26 rfl sz3 rfl rfl (by decide)),
                        st_run 1 39 true rfl rfl rfl (List.Mem.head _) (op_load _ _ _ _ _ _ Try.underlying3 rfl rfl rfl (Nat.le_of_ble_eq_true rfl) rfl rfl rfl),
                        st_run 1 39 true rfl rfl rfl (List.Mem.head _) (op_call _ _ 30 _ _ rfl Try.call30 rfl (ok_wherryref18_in f.Offset 0 5000 _ hv15) rfl rfl),
                        st_plain rfl (op_pick _ _ true _ rfl rfl),
                        st_plain rfl (op_move _ _ _ _ (congrArg (fun b => AV.v (Value.bool b)) hg11_6) rfl),
                        st_run 6 44 true rfl rfl rfl (List.Mem.head _) (op_fieldAddr _ _ _ _ 1 0 _ Try.underlying26 rfl sz3 rfl rfl (by decide)),
                        st_run 6 44 true rfl rfl rfl (List.Mem.head _) (op_load _ _ _ _ _ _ Try.underlying3 rfl rfl rfl (Nat.le_of_ble_eq_true rfl) rfl rfl rfl),
                        st_run 6 44 true rfl rfl rfl (List.Mem.head _) (op_call _ _ 30 _ _ rfl Try.call30 rfl (ok_wherryref18_in f.Seq 0 7 _ hv16) rfl rfl),
                        st_plain rfl (op_pick _ _ true _ rfl rfl),
                        st_plain rfl (op_move _ _ _ _ (congrArg (fun b => AV.v (Value.bool b)) hg11_11) rfl),
                        st_run 11 49 true rfl rfl rfl (List.Mem.head _) (op_fieldAddr _ _ _ _ 1 0 _ Try.underlying26 rfl sz22 rfl rfl (by decide)),
                        st_run 11 49 true rfl rfl rfl (List.Mem.head _) (op_load _ _ _ _ _ _ Try.underlying22 rfl rfl rfl (Nat.le_of_ble_eq_true rfl) rfl rfl rfl),
                        st_run 11 49 true rfl rfl rfl (List.Mem.head _) (op_len_fl _ _ _ Try.underlying22 rfl (by decide) (map_len _)),
                        st_run 11 49 true rfl rfl rfl (List.Mem.head _) (op_call _ _ 30 _ _ rfl Try.call30 rfl (ok_wherryref18_in (f.Data.length : Int) 1 48 _ hv17) rfl rfl),
                        st_plain rfl (op_pick _ _ true _ rfl rfl),
                        st_plain rfl (LOp.drop [_] (op_assign _ _ _ _ rfl rfl)),
                        trivial⟩ ?_
                    exact hl108 _ (Option.some.inj h).symm
                  · refine ht_seqR hn (El := (_ :: _ :: _ :: (38, .v (.bool v1)) :: (39, .v (.bool true)) :: (40, .ptr 1 2) :: (41, .v (.int .i64 f.Offset)) :: (42, .v (.bool v15)) :: (43, .v (.bool v15)) :: (44, .v (.bool true)) :: (45, .ptr 1 3) :: (46, .v (.int .i64 f.Seq)) :: (47, .v (.bool v16)) :: (48, .v (.bool v16)) :: (49, .v (.bool false)) :: (50, .v undef) :: (51, .v undef) :: (52, .v undef) :: (53, .v undef) :: (54, .v (.bool false)) :: (4, .v (.bool false)) :: [])) (init := [0, 1, 2]) (fin := [0, 1, 20]) (sps := (⟨[2], [], [3], [(.slot 38)]⟩ :: ⟨[3], [], [4], [(.slot 39)]⟩ :: ⟨[4, 0], [], [5], [(.slot 40)]⟩ :: ⟨[4, 5, 0], [], [6], [(.slot 41)]⟩ :: ⟨[4, 6], [], [7], [(.slot 42)]⟩ :: ⟨[4, 7], [], [8], [(.slot 43)]⟩ :: ⟨[8], [], [9], [(.slot 44)]⟩ :: ⟨[9, 0], [], [10], [(.slot 45)]⟩ :: ⟨[9, 10, 0], [], [11], [(.slot 46)]⟩ :: ⟨[9, 11], [], [12], [(.slot 47)]⟩ :: ⟨[9, 12], [], [13], [(.slot 48)]⟩ :: ⟨[13], [], [14], [(.slot 49)]⟩ :: ⟨[14], [], [15], [(.slot 50)]⟩ :: ⟨[14], [], [16], [(.slot 51)]⟩ :: ⟨[14], [], [17], [(.slot 52)]⟩ :: ⟨[14], [], [18], [(.slot 53)]⟩ :: ⟨[14], [], [19], [(.slot 54)]⟩ :: ⟨[19], [2], [20], [(.slot 4)]⟩ :: [])) (es' := [(_, _), (_, _), (4, .v (.bool false))]) (by kernel_rfl) rfl rfl
                      ⟨st_plain rfl (op_move _ _ _ _ rfl rfl),
                        st_plain rfl (op_move _ _ _ _ (congrArg (fun b => AV.v (Value.bool b)) hg11_1) rfl),
                        st_run 1 39 true rfl rfl rfl (List.Mem.head _) (op_fieldAddr _ _ _ _ 1 0 _ Try.underlying26 rfl sz3 rfl rfl (by decide)),
                        st_run 1 39 true rfl rfl rfl (List.Mem.head _) (op_load _ _ _ _ _ _ Try.underlying3 rfl rfl rfl (Nat.le_of_ble_eq_true rfl) rfl rfl rfl),
                        st_run 1 39 true rfl rfl rfl (List.Mem.head _) (op_call _ _ 30 _ _ rfl Try.call30 rfl (ok_wherryref18_in f.Offset 0 5000 _ hv15) rfl rfl),
                        st_plain rfl (op_pick _ _ true _ rfl rfl),
                        st_plain rfl (op_move _ _ _ _ (congrArg (fun b => AV.v (Value.bool b)) hg11_6) rfl),
                        st_run 6 44 true rfl rfl rfl (List.Mem.head _) (op_fieldAddr _ _ _ _ 1 0 _ Try.underlying26 rfl sz3 rfl rfl (by decide)),
                        st_run 6 44 true rfl rfl rfl (List.Mem.head _) (op_load _ _ _ _ _ _ Try.underlying3 rfl rfl rfl (Nat.le_of_ble_eq_true rfl) rfl rfl rfl),
                        st_run 6 44 true rfl rfl rfl (List.Mem.head _) (op_call _ _ 30 _ _ rfl Try.call30 rfl (ok_wherryref18_in f.Seq 0 7 _ hv16) rfl rfl),
                        st_plain rfl (op_pick _ _ true _ rfl rfl),
                        st_plain rfl (op_move _ _ _ _ (congrArg (fun b => AV.v (Value.bool b)) hg11_11) rfl),
                        st_skip 11 49 _ true rfl rfl rfl rfl (List.Mem.head _),
                        st_skip 11 49 _ true rfl rfl rfl rfl (List.Mem.head _),
                        st_skip 11 49 _ true rfl rfl rfl rfl (List.Mem.head _),
                        st_skip 11 49 _ true rfl rfl rfl rfl (List.Mem.head _),
                        st_plain rfl (op_pick _ _ false _ rfl rfl),
                        st_plain rfl (LOp.drop [_] (op_assign _ _ _ _ rfl rfl)),
                        trivial⟩ ?_
                    exact hl108 _ (Option.some.inj h).symm
                · refine ht_seqR hn (El := (_ :: _ :: _ :: (38, .v (.bool v1)) :: (39, .v (.bool true)) :: (40, .ptr 1 2) :: (41, .v (.int .i64 f.Offset)) :: (42, .v (.bool v15)) :: (43, .v (.bool v15)) :: (44, .v (.bool false)) :: (45, .v undef) :: (46, .v undef) :: (47, .v undef) :: (48, .v (.bool false)) :: (49, .v (.bool false)) :: (50, .v undef) :: (51, .v undef) :: (52, .v undef) :: (53, .v undef) :: (54, .v (.bool false)) :: (4, .v (.bool false)) :: [])) (init := [0, 1, 2]) (fin := [0, 1, 20]) (sps := (⟨[2], [], [3], [(.slot 38)]⟩ :: ⟨[3], [], [4], [(.slot 39)]⟩ :: ⟨[4, 0], [], [5], [(.slot 40)]⟩ :: ⟨[4, 5, 0], [], [6], [(.slot 41)]⟩ :: ⟨[4, 6], [], [7], [(.slot 42)]⟩ :: ⟨[4, 7], [], [8], [(.slot 43)]⟩ :: ⟨[8], [], [9], [(.slot 44)]⟩ :: ⟨[9], [], [10], [(.slot 45)]⟩ :: ⟨[9], [], [11], [(.slot 46)]⟩ :: ⟨[9], [], [12], [(.slot 47)]⟩ :: ⟨[9], [], [13], [(.slot 48)]⟩ :: ⟨[13], [], [14], [(.slot 49)]⟩ :: ⟨[14], [], [15], [(.slot 50)]⟩ :: ⟨[14], [], [16], [(.slot 51)]⟩ :: ⟨[14], [], [17], [(.slot 52)]⟩ :: ⟨[14], [], [18], [(.slot 53)]⟩ :: ⟨[14], [], [19], [(.slot 54)]⟩ :: ⟨[19], [2], [20], [(.slot 4)]⟩ :: [])) (es' := [(_, _), (_, _), (4, .v (.bool false))]) (by kernel_rfl) rfl rfl
                    ⟨st_plain rfl (op_move _ _ _ _ rfl rfl),
                      st_plain rfl (op_move _ _ _ _ (congrArg (fun b => AV.v (Value.bool b)) hg11_1) rfl),
                      st_run 1 39 true rfl rfl rfl (List.Mem.head _) (op_fieldAddr _ _ _ _ 1 0 _ Try.underlying26 rfl sz3 rfl rfl (by decide)),
                      st_run 1 39 true rfl rfl rfl (List.Mem.head _) (op_load _ _ _ _ _ _ Try.underlying3 rfl rfl rfl (Nat.le_of_ble_eq_true rfl) rfl rfl rfl),
                      st_run 1 39 true rfl rfl rfl (List.Mem.head _) (op_call _ _ 30 _ _ rfl Try.call30 rfl (ok_wherryref18_in f.Offset 0 5000 _ hv15) rfl rfl),
                      st_plain rfl (op_pick _ _ true _ rfl rfl),
                      st_plain rfl (op_move _ _ _ _ (congrArg (fun b => AV.v (Value.bool b)) hg11_6) rfl),
                      st_skip 6 44 _ true rfl rfl rfl rfl (List.Mem.head _),
                      st_skip 6 44 _ true rfl rfl rfl rfl (List.Mem.head _),
                      st_skip 6 44 _ true rfl rfl rfl rfl (List.Mem.head _),
                      st_plain rfl (op_pick _ _ false _ rfl rfl),
                      st_plain rfl (op_move _ _ _ _ rfl rfl),
                      st_skip 11 49 _ true rfl rfl rfl rfl (List.Mem.head _),
                      st_skip 11 49 _ true rfl rfl rfl rfl (List.Mem.head _),
                      st_skip 11 49 _ true rfl rfl rfl rfl (List.Mem.head _),
                      st_skip 11 49 _ true rfl rfl rfl rfl (List.Mem.head _),
                      st_plain rfl (op_pick _ _ false _ rfl rfl),
                      st_plain rfl (LOp.drop [_] (op_assign _ _ _ _ rfl rfl)),
                      trivial⟩ ?_
                  exact hl108 _ (Option.some.inj h).symm
              · refine ht_seqR hn (El := (_ :: _ :: _ :: (38, .v (.bool v1)) :: (39, .v (.bool false)) :: (40, .v undef) :: (41, .v undef) :: (42, .v undef) :: (43, .v (.bool false)) :: (44, .v (.bool false)) :: (45, .v undef) :: (46, .v undef) :: (47, .v undef) :: (48, .v (.bool false)) :: (49, .v (.bool false)) :: (50, .v undef) :: (51, .v undef) :: (52, .v undef) :: (53, .v undef) :: (54, .v (.bool false)) :: (4, .v (.bool false)) :: [])) (init := [0, 1, 2]) (fin := [0, 1, 20]) (sps := (⟨[2], [], [3], [(.slot 38)]⟩ :: ⟨[3], [], [4], [(.slot 39)]⟩ :: ⟨[4], [], [5], [(.slot 40)]⟩ :: ⟨[4], [], [6], [(.slot 41)]⟩ :: ⟨[4], [], [7], [(.slot 42)]⟩ :: ⟨[4], [], [8], [(.slot 43)]⟩ :: ⟨[8], [], [9], [(.slot 44)]⟩ :: ⟨[9], [], [10], [(.slot 45)]⟩ :: ⟨[9], [], [11], [(.slot 46)]⟩ :: ⟨[9], [], [12], [(.slot 47)]⟩ :: ⟨[9], [], [13], [(.slot 48)]⟩ :: ⟨[13], [], [14], [(.slot 49)]⟩ :: ⟨[14], [], [15], [(.slot 50)]⟩ :: ⟨[14], [], [16], [(.slot 51)]⟩ :: ⟨[14], [], [17], [(.slot 52)]⟩ :: ⟨[14], [], [18], [(.slot 53)]⟩ :: ⟨[14], [], [19], [(.slot 54)]⟩ :: ⟨[19], [2], [20], [(.slot 4)]⟩ :: [])) (es' := [(_, _), (_, _), (4, .v (.bool false))]) (by kernel_rfl) rfl rfl
                  ⟨st_plain rfl (op_move _ _ _ _ rfl rfl),
                    st_plain rfl (op_move _ _ _ _ (congrArg (fun b => AV.v (Value.bool b)) hg11_1) rfl),
                    st_skip 1 39 _ true rfl rfl rfl rfl (List.Mem.head _),
                    st_skip 1 39 _ true rfl rfl rfl rfl (List.Mem.head _),
                    st_skip 1 39 _ true rfl rfl rfl rfl (List.Mem.head _),
                    st_plain rfl (op_pick _ _ false _ rfl rfl),
                    st_plain rfl (op_move _ _ _ _ rfl rfl),
                    st_skip 6 44 _ true rfl rfl rfl rfl (List.Mem.head _),
                    st_skip 6 44 _ true rfl rfl rfl rfl (List.Mem.head _),
                    st_skip 6 44 _ true rfl rfl rfl rfl (List.Mem.head _),
                    st_plain rfl (op_pick _ _ false _ rfl rfl),
                    st_plain rfl (op_move _ _ _ _ rfl rfl),
                    st_skip 11 49 _ true rfl rfl rfl rfl (List.Mem.head _),
                    st_skip 11 49 _ true rfl rfl rfl rfl (List.Mem.head _),
                    st_skip 11 49 _ true rfl rfl rfl rfl (List.Mem.head _),
                    st_skip 11 49 _ true rfl rfl rfl rfl (List.Mem.head _),
                    st_plain rfl (op_pick _ _ false _ rfl rfl),
                    st_plain rfl (LOp.drop [_] (op_assign _ _ _ _ rfl rfl)),
                    trivial⟩ ?_
                exact hl108 _ (Option.some.inj h).symm
          · have h := cond_f hb105 h
            refine ht_seq ?_
            refine ht_seqR hn (El := [_, _, _, _, _, (56, .v (.bool (f.Kind == 4))), (55, .v (.bool (f.Kind == 4)))]) (init := [0, 1, 2, 3, 4]) (fin := [0, 1, 2, 3, 6]) (sps := [⟨[3], [], [5], [(.slot 56)]⟩, ⟨[5], [], [6], [(.slot 55)]⟩]) (es' := [(_, _), (_, _), (_, _), (_, _), (55, .v (.bool (f.Kind == 4)))]) (by kernel_rfl) rfl rfl
              ⟨st_plain rfl (op_bin _ _ _ _ _ rfl rfl rfl),
                st_plain rfl (op_assign _ _ _ _ rfl rfl),
                trivial⟩ ?_
            refine pt_then ?_
            refine ht_cond _ rfl (fun hb110 => ?_) (fun hb110 => ?_)
            · have h := cond_t hb110 h
              refine ht_seq ?_
              refine ht_seqR hn (El := [_, _, _, _, _, (57, .ptr 1 3), (58, .v (.int .i64 f.Seq)), (59, .ptr 3 3), (3, .box 26 [.v (.int .i64 f.Kind), .v (.int .i64 f.Number), .v (.int .i64 0), .v (.int .i64 f.Seq), .v (.slice none 0 0)])]) (init := [0, 1, 2, 3, 4]) (fin := [0, 8, 2]) (sps := [⟨[0], [], [5], [(.slot 57)]⟩, ⟨[5, 0], [], [6], [(.slot 58)]⟩, ⟨[1], [], [7], [(.slot 59)]⟩, ⟨[7, 6], [1], [8], [.cell 3 3]⟩]) (es' := [(_, _), (3, .box 26 [.v (.int .i64 f.Kind), .v (.int .i64 f.Number), .v (.int .i64 0), .v (.int .i64 f.Seq), .v (.slice none 0 0)]), (_, _)]) (by kernel_rfl) rfl rfl
                ⟨st_plain rfl (op_fieldAddr _ _ _ _ 1 0 _ Try.underlying26 rfl sz3 rfl rfl (by decide)),
                  st_plain rfl (op_load _ _ _ _ _ _ Try.underlying3 rfl rfl rfl (Nat.le_of_ble_eq_true rfl) rfl rfl rfl),
                  st_plain rfl (op_fieldAddr _ _ _ _ 3 0 _ Try.underlying26 rfl sz3 rfl rfl (by decide)),
                  st_plain rfl (op_store _ _ _ _ _ _ _ _ sz3 rfl rfl rfl rfl (Nat.le_of_ble_eq_true rfl) rfl rfl),
                  trivial⟩ ?_
              refine pt_then ?_
              refine ht_joinS h (fun (s111 : Bool) => [(1, .box 26 [.v (.int .i64 f.Kind), .v (.int .i64 f.Number), .v (.int .i64 f.Offset), .v (.int .i64 f.Seq), .fl .shr 1 (List.map (Value.int .u8) f.Data)]), (3, .box 26 [.v (.int .i64 f.Kind), .v (.int .i64 f.Number), .v (.int .i64 0), .v (.int .i64 f.Seq), .v (.slice none 0 0)]), (4, .v (.bool s111))]) ?_ ?_
              · rintro s111 h
                refine pt_inb ?_
                refine pt_sub (fs := [(1, .box 26 [.v (.int .i64 f.Kind), .v (.int .i64 f.Number), .v (.int .i64 f.Offset), .v (.int .i64 f.Seq), .fl .shr 1 (List.map (Value.int .u8) f.Data)]), (3, .box 26 [.v (.int .i64 f.Kind), .v (.int .i64 f.Number), .v (.int .i64 0), .v (.int .i64 f.Seq), .fl .shr 1 (List.map (Value.int .u8) [])]), (4, .v (.bool s111))]) (.same _ (.box _ _ (subs_cons (sub_refl _) (subs_cons (sub_refl _) (subs_cons (sub_refl _) (subs_cons (sub_refl _) (subs_cons (sub_nil_shr 1) (subs_nil)))))) rfl (.same _ .nil))) ?_
                exact hl92 _ (Option.some.inj h).symm
              · intro u112 h hl113 hr114
                refine cond_some h (fun hg14_1 h => ?_) (fun hg14_1 h => ?_)
                · obtain ⟨v23, hv23, h⟩ := bind_some h
                  refine ht_seqR hn (El := [_, _, _, (60, .v (.bool v1)), (61, .v (.bool true)), (62, .ptr 1 3), (63, .v (.int .i64 f.Seq)), (64, .v (.bool v23)), (65, .v (.bool v23)), (4, .v (.bool v23))]) (init := [0, 1, 2]) (fin := [0, 1, 9]) (sps := [⟨[2], [], [3], [(.slot 60)]⟩, ⟨[3], [], [4], [(.slot 61)]⟩, ⟨[4, 0], [], [5], [(.slot 62)]⟩, ⟨[4, 5, 0], [], [6], [(.slot 63)]⟩, ⟨[4, 6], [], [7], [(.slot 64)]⟩, ⟨[4, 7], [], [8], [(.slot 65)]⟩, ⟨[8], [2], [9], [(.slot 4)]⟩]) (es' := [(_, _), (_, _), (4, .v (.bool v23))]) (by kernel_rfl) rfl rfl
                    ⟨st_plain rfl (op_move _ _ _ _ rfl rfl),
                      st_plain rfl (op_move _ _ _ _ (congrArg (fun b => AV.v (Value.bool b)) hg14_1) rfl),
                      st_run 1 61 true rfl rfl rfl (List.Mem.head _) (op_fieldAddr _ _ _ _ 1 0 _ Try.underlying26 rfl sz3 rfl rfl (by decide)),
                      st_run 1 61 true rfl rfl rfl (List.Mem.head _) (op_load _ _ _ _ _ _ Try.underlying3 rfl rfl rfl (Nat.le_of_ble_eq_true rfl) rfl rfl rfl),
                      st_run 1 61 true rfl rfl rfl (List.Mem.head _) (op_call _ _ 30 _ _ rfl Try.call30 rfl (ok_wherryref18_in f.Seq 0 7 _ hv23) rfl rfl),
                      st_plain rfl (op_pick _ _ true _ rfl rfl),
                      st_plain rfl (LOp.drop [_] (op_assign _ _ _ _ rfl rfl)),
                      trivial⟩ ?_
                  exact hl113 _ (Option.some.inj h).symm
                · refine ht_seqR hn (El := [_, _, _, (60, .v (.bool v1)), (61, .v (.bool false)), (62, .v undef), (63, .v undef), (64, .v undef), (65, .v (.bool false)), (4, .v (.bool false))]) (init := [0, 1, 2]) (fin := [0, 1, 9]) (sps := [⟨[2], [], [3], [(.slot 60)]⟩, ⟨[3], [], [4], [(.slot 61)]⟩, ⟨[4], [], [5], [(.slot 62)]⟩, ⟨[4], [], [6], [(.slot 63)]⟩, ⟨[4], [], [7], [(.slot 64)]⟩, ⟨[4], [], [8], [(.slot 65)]⟩, ⟨[8], [2], [9], [(.slot 4)]⟩]) (es' := [(_, _), (_, _), (4, .v (.bool false))]) (by kernel_rfl) rfl rfl
                    ⟨st_plain rfl (op_move _ _ _ _ rfl rfl),
                      st_plain rfl (op_move _ _ _ _ (congrArg (fun b => AV.v (Value.bool b)) hg14_1) rfl),
                      st_skip 1 61 _ true rfl rfl rfl rfl (List.Mem.head _),
                      st_skip 1 61 _ true rfl rfl rfl rfl (List.Mem.head _),
                      st_skip 1 61 _ true rfl rfl rfl rfl (List.Mem.head _),
                      st_plain rfl (op_pick _ _ false _ rfl rfl),
                      st_plain rfl (LOp.drop [_] (op_assign _ _ _ _ rfl rfl)),
                      trivial⟩ ?_
                  exact hl113 _ (Option.some.inj h).symm
            · have h := cond_f hb110 h
              refine ht_seq ?_
              refine ht_seqR hn (El := [_, _, _, _, _, (67, .v (.bool (f.Kind == 5))), (66, .v (.bool (f.Kind == 5)))]) (init := [0, 1, 2, 3, 4]) (fin := [0, 1, 2, 6]) (sps := [⟨[3], [], [5], [(.slot 67)]⟩, ⟨[5], [], [6], [(.slot 66)]⟩]) (es' := [(_, _), (_, _), (_, _), (66, .v (.bool (f.Kind == 5)))]) (by kernel_rfl) rfl rfl
                ⟨st_plain rfl (op_bin _ _ _ _ _ rfl rfl rfl),
                  st_plain rfl (op_assign _ _ _ _ rfl rfl),
                  trivial⟩ ?_
              refine pt_then ?_
              refine ht_cond _ rfl (fun hb115 => ?_) (fun hb115 => ?_)
              · have h := cond_t hb115 h
                refine ht_skip ?_
                refine pt_inb ?_
                refine pt_pick [0, 1, 2] (by kernel_rfl) (es' := [(_, _), (_, _), (_, _)]) rfl ?_
                refine pt_sub (fs := [(1, .box 26 [.v (.int .i64 f.Kind), .v (.int .i64 f.Number), .v (.int .i64 f.Offset), .v (.int .i64 f.Seq), .fl .shr 1 (List.map (Value.int .u8) f.Data)]), (3, .box 26 [.v (.int .i64 f.Kind), .v (.int .i64 f.Number), .v (.int .i64 0), .v (.int .i64 0), .fl .shr 1 (List.map (Value.int .u8) [])]), (4, .v (.bool v1))]) (.same _ (.box _ _ (subs_cons (sub_refl _) (subs_cons (sub_refl _) (subs_cons (sub_refl _) (subs_cons (sub_refl _) (subs_cons (sub_nil_shr 1) (subs_nil)))))) rfl (.same _ .nil))) ?_
                exact hl92 _ (Option.some.inj h).symm
              · have h := cond_f hb115 h
                refine ht_seqR hn (El := [_, _, _, _, (4, .v (.bool false))]) (init := [0, 1, 2, 3]) (fin := [0, 1, 4]) (sps := [⟨[], [2], [4], [(.slot 4)]⟩]) (es' := [(_, _), (_, _), (4, .v (.bool false))]) (by kernel_rfl) rfl rfl
                  ⟨st_plain rfl (LOp.drop [_] (op_assign _ _ _ _ rfl rfl)),
                    trivial⟩ ?_
                refine pt_inb ?_
                refine pt_sub (fs := [(1, .box 26 [.v (.int .i64 f.Kind), .v (.int .i64 f.Number), .v (.int .i64 f.Offset), .v (.int .i64 f.Seq), .fl .shr 1 (List.map (Value.int .u8) f.Data)]), (3, .box 26 [.v (.int .i64 f.Kind), .v (.int .i64 f.Number), .v (.int .i64 0), .v (.int .i64 0), .fl .shr 1 (List.map (Value.int .u8) [])]), (4, .v (.bool false))]) (.same _ (.box _ _ (subs_cons (sub_refl _) (subs_cons (sub_refl _) (subs_cons (sub_refl _) (subs_cons (sub_refl _) (subs_cons (sub_nil_shr 1) (subs_nil)))))) rfl (.same _ .nil))) ?_
                exact hl92 _ (Option.some.inj h).symm
      · intro u96 h hl97 hr98
        refine ht_seq ?_
        refine ht_seqR hn (El := [_, _, _, _, (16, .v (.bool (f.Kind == 1))), (15, .v (.bool (f.Kind == 1)))]) (init := [0, 1, 2, 3]) (fin := [0, 1, 2, 3, 5]) (sps := [⟨[3], [], [4], [(.slot 16)]⟩, ⟨[4], [], [5], [(.slot 15)]⟩]) (es' := [(_, _), (_, _), (_, _), (_, _), (15, .v (.bool (f.Kind == 1)))]) (by kernel_rfl) rfl rfl
          ⟨st_plain rfl (op_bin _ _ _ _ _ rfl rfl rfl),
            st_plain rfl (op_assign _ _ _ _ rfl rfl),
            trivial⟩ ?_
        refine pt_then ?_
        refine ht_cond _ rfl (fun hb99 => ?_) (fun hb99 => ?_)
        · have h := cond_t hb99 h
          refine ht_skip ?_
          exact hl97 _ (Option.some.inj h).symm
        · have h := cond_f hb99 h
          refine ht_seqR hn (El := [_, _, _, _, _, (17, .v (.bool (f.Kind == 2))), (15, .v (.bool (f.Kind == 2)))]) (init := [0, 1, 2, 3, 4]) (fin := [0, 1, 2, 3, 6]) (sps := [⟨[3], [], [5], [(.slot 17)]⟩, ⟨[5], [4], [6], [(.slot 15)]⟩]) (es' := [(_, _), (_, _), (_, _), (_, _), (15, .v (.bool (f.Kind == 2)))]) (by kernel_rfl) rfl rfl
            ⟨st_plain rfl (op_bin _ _ _ _ _ rfl rfl rfl),
              st_plain rfl (LOp.drop [_] (op_assign _ _ _ _ rfl rfl)),
              trivial⟩ ?_
          exact hl97 _ (Option.some.inj h).symm

set_option maxHeartbeats 1000000 in
theorem ok_wherrylaw21_SenderOver (s : T_Send) (f : T_Frame) (r : Bool) (h : Sh.wherrylaw21_SenderOver s f = some r) : FnOK Try.prog 7 [.agg [.v (.int .i64 s.Number), .fl .shr 1 (List.map (Value.int .u8) s.Data), .v (.bool s.Ready), .v (.int .i64 s.Base), .v (.int .i64 s.Next), .v (.int .i64 s.Wait), .v (.bool s.Over)], .agg [.v (.int .i64 f.Kind), .v (.int .i64 f.Number), .v (.int .i64 f.Offset), .v (.int .i64 f.Seq), .fl .shr 1 (List.map (Value.int .u8) f.Data)]] (.v (.bool r)) := by
  unfold Sh.wherrylaw21_SenderOver at h
  refine fn_ok Try.func7 rfl (Nat.le_of_ble_eq_true rfl) rfl rfl fun g0 hn hio => ?_
  refine ht_seq ?_
  refine ht_seqR hn (El := [_, _, (2, .box 24 [.v (.int .i64 s.Number), .fl .shr 1 (List.map (Value.int .u8) s.Data), .v (.bool s.Ready), .v (.int .i64 s.Base), .v (.int .i64 s.Next), .v (.int .i64 s.Wait), .v (.bool s.Over)]), (3, .box 26 [.v (.int .i64 f.Kind), .v (.int .i64 f.Number), .v (.int .i64 f.Offset), .v (.int .i64 f.Seq), .fl .shr 1 (List.map (Value.int .u8) f.Data)]), (4, .v (.bool false))]) (init := [0, 1]) (fin := [2, 3]) (sps := [⟨[0], [], [2], [(.slot 2)]⟩, ⟨[1], [], [3], [(.slot 3)]⟩, ⟨[], [], [4], [(.slot 4)]⟩]) (es' := [(2, .box 24 [.v (.int .i64 s.Number), .fl .shr 1 (List.map (Value.int .u8) s.Data), .v (.bool s.Ready), .v (.int .i64 s.Base), .v (.int .i64 s.Next), .v (.int .i64 s.Wait), .v (.bool s.Over)]), (3, .box 26 [.v (.int .i64 f.Kind), .v (.int .i64 f.Number), .v (.int .i64 f.Offset), .v (.int .i64 f.Seq), .fl .shr 1 (List.map (Value.int .u8) f.Data)])]) (by kernel_rfl) rfl rfl
    ⟨st_plain rfl (op_box _ _ _ _ rfl rfl rfl),
      st_plain rfl (op_box _ _ _ _ rfl rfl rfl),
      st_plain rfl (op_assign _ _ _ _ rfl rfl),
      trivial⟩ ?_
  refine pt_then ?_
  refine ht_seq ?_
  refine ht_seq ?_
  refine ht_joinS h (fun (s2 : Bool) => [(2, .box 24 [.v (.int .i64 s.Number), .fl .shr 1 (List.map (Value.int .u8) s.Data), .v (.bool s.Ready), .v (.int .i64 s.Base), .v (.int .i64 s.Next), .v (.int .i64 s.Wait), .v (.bool s.Over)]), (3, .box 26 [.v (.int .i64 f.Kind), .v (.int .i64 f.Number), .v (.int .i64 f.Offset), .v (.int .i64 f.Seq), .fl .shr 1 (List.map (Value.int .u8) f.Data)]), (26, .v (.bool s2))]) ?_ ?_
  · rintro s2 h
    refine pt_then ?_
    refine ht_cond _ rfl (fun hb6 => ?_) (fun hb6 => ?_)
    · have h := cond_t hb6 h
      refine ht_seq ?_
      refine ht_seqR hn (El := [_, _, _, (4, .v (.bool true))]) (init := [0, 1, 2]) (fin := [3]) (sps := [⟨[], [], [3], [(.slot 4)]⟩]) (es' := [(4, .v (.bool true))]) (by kernel_rfl) rfl rfl
        ⟨st_plain rfl (op_assign _ _ _ _ rfl rfl),
          trivial⟩ ?_
      refine pt_then ?_
      refine ht_ret ?_
      refine pt_r_then ?_
      obtain rfl := Option.some.inj h
      exact pt_ret hio rfl (.tmp _ _ .nil) rfl rfl
    · have h := cond_f hb6 h
      refine ht_skip ?_
      refine pt_then ?_
      refine ht_seq ?_
      obtain ⟨v7, hv7, h⟩ := bind_some h
      refine ht_seqR hn (El := (_ :: _ :: _ :: (28, .agg [.v (.int .i64 s.Number), .fl .shr 1 (List.map (Value.int .u8) s.Data), .v (.bool s.Ready), .v (.int .i64 s.Base), .v (.int .i64 s.Next), .v (.int .i64 s.Wait), .v (.bool s.Over)]) :: (29, .ptr 2 0) :: (30, .v (.int .i64 s.Number)) :: (31, .agg [.v (.int .i64 5), .v (.int .i64 s.Number), .v (.int .i64 0), .v (.int .i64 0), .v (.slice none 0 0)]) :: (32, .tup [.agg [.v (.int .i64 v7.1.Number), .fl (.own 5) 1 (List.map (Value.int .u8) v7.1.Data), .v (.bool v7.1.Ready), .v (.int .i64 v7.1.Base), .v (.int .i64 v7.1.Next), .v (.int .i64 v7.1.Wait), .v (.bool v7.1.Over)], .v (.int .i64 v7.2)]) :: (27, .tup [.agg [.v (.int .i64 v7.1.Number), .fl (.own 5) 1 (List.map (Value.int .u8) v7.1.Data), .v (.bool v7.1.Ready), .v (.int .i64 v7.1.Base), .v (.int .i64 v7.1.Next), .v (.int .i64 v7.1.Wait), .v (.bool v7.1.Over)], .v (.int .i64 v7.2)]) :: (33, .agg [.v (.int .i64 v7.1.Number), .fl (.own 5) 1 (List.map (Value.int .u8) v7.1.Data), .v (.bool v7.1.Ready), .v (.int .i64 v7.1.Base), .v (.int .i64 v7.1.Next), .v (.int .i64 v7.1.Wait), .v (.bool v7.1.Over)]) :: (27, .tup [.any, .v (.int .i64 v7.2)]) :: (34, .v (.int .i64 v7.2)) :: (5, .box 24 [.v (.int .i64 0), .v (.slice none 0 0), .v (.bool false), .v (.int .i64 0), .v (.int .i64 0), .v (.int .i64 0), .v (.bool false)]) :: (5, .box 24 [.v (.int .i64 v7.1.Number), .fl (.own 5) 1 (List.map (Value.int .u8) v7.1.Data), .v (.bool v7.1.Ready), .v (.int .i64 v7.1.Base), .v (.int .i64 v7.1.Next), .v (.int .i64 v7.1.Wait), .v (.bool v7.1.Over)]) :: (6, .v (.int .i64 v7.2)) :: [])) (init := [0, 1, 2]) (fin := [0, 1, 13, 14]) (sps := [⟨[0], [], [3], [(.slot 28)]⟩, ⟨[0], [], [4], [(.slot 29)]⟩, ⟨[4, 0], [], [5], [(.slot 30)]⟩, ⟨[5], [], [6], [(.slot 31)]⟩, ⟨[3, 6], [], [7], [(.slot 32)]⟩, ⟨[], [7], [8], [(.slot 27)]⟩, ⟨[], [8], [10, 9], [(.slot 33)]⟩, ⟨[10], [], [11], [(.slot 34)]⟩, ⟨[], [], [12], [(.slot 5)]⟩, ⟨[], [9, 12], [13], [.cell 5 0, .cell 5 1, .cell 5 2, .cell 5 3, .cell 5 4, .cell 5 5, .cell 5 6]⟩, ⟨[11], [], [14], [(.slot 6)]⟩]) (es' := [(_, _), (_, _), (5, .box 24 [.v (.int .i64 v7.1.Number), .fl (.own 5) 1 (List.map (Value.int .u8) v7.1.Data), .v (.bool v7.1.Ready), .v (.int .i64 v7.1.Base), .v (.int .i64 v7.1.Next), .v (.int .i64 v7.1.Wait), .v (.bool v7.1.Over)]), (6, .v (.int .i64 v7.2))]) (by kernel_rfl) rfl rfl
        ⟨st_plain rfl (op_loadA _ _ _ _ _ _ _ Try.underlying24 rfl sz24 rfl rfl (Nat.le_of_ble_eq_true rfl) rfl rfl),
          st_plain rfl (op_fieldAddr _ _ _ _ 2 0 _ Try.underlying24 rfl sz3 rfl rfl (by decide)),
          st_plain rfl (op_load _ _ _ _ _ _ Try.underlying3 rfl rfl rfl (Nat.le_of_ble_eq_true rfl) rfl rfl rfl),
          st_plain rfl (op_build _ _ _ _ [1, 1, 1, 1, 1] _ _ Try.underlying26 zr26 (fs26 _ Try.underlying26) (.copy _ (.copy _ Src.nil)) rfl rfl rfl),
          st_plain rfl (op_call _ _ 15 _ _ rfl Try.call15 rfl ((ok_sender_Hear s (T_Frame.mk 5 s.Number 0 0 []) _ hv7).args (subs_cons (sub_refl _) (subs_cons (sub_agg (subs_cons (sub_refl _) (subs_cons (sub_refl _) (subs_cons (sub_refl _) (subs_cons (sub_refl _) (subs_cons (sub_nil_shr 1) (subs_nil))))))) (subs_nil)))) rfl rfl),
          st_plain rfl (op_move_take _ _ _ _ rfl),
          st_plain rfl (op_extract_take _ _ _ _ _ rfl (Nat.le_of_ble_eq_true rfl) rfl rfl (by decide) rfl),
          st_plain rfl (op_extract _ _ _ _ _ rfl rfl (Nat.le_of_ble_eq_true rfl) rfl rfl),
          st_plain rfl (op_alloc _ _ zr24),
          st_plain rfl (op_store_take _ _ _ _ _ _ _ _ sz24 rfl rfl rfl (Nat.le_of_ble_eq_true rfl) rfl rfl),
          st_plain rfl (op_assign _ _ _ _ rfl rfl),
          trivial⟩ ?_
      refine pt_then ?_
      refine ht_seq ?_
      refine ht_seq ?_
      refine ht_seqR hn (El := [_, _, _, _, (35, .ptr 2 6), (36, .v (.bool s.Over))]) (init := [0, 1, 2, 3]) (fin := [1, 2, 3, 5]) (sps := [⟨[0], [], [4], [(.slot 35)]⟩, ⟨[4, 0], [], [5], [(.slot 36)]⟩]) (es' := [(_, _), (_, _), (_, _), (36, .v (.bool s.Over))]) (by kernel_rfl) rfl rfl
        ⟨st_plain rfl (op_fieldAddr _ _ _ _ 2 0 _ Try.underlying24 rfl sz4 rfl rfl (by decide)),
          st_plain rfl (op_load _ _ _ _ _ _ Try.underlying4 rfl rfl rfl (Nat.le_of_ble_eq_true rfl) rfl rfl rfl),
          trivial⟩ ?_
      refine pt_then ?_
      refine ht_cond _ rfl (fun hb8 => ?_) (fun hb8 => ?_)
      · have h := cond_t hb8 h
        refine ht_seq ?_
        refine ht_joinS h (fun (s11 : Bool) => [(4, .v (.bool s11))]) ?_ ?_
        · rintro s11 h
          refine pt_then ?_
          refine ht_ret ?_
          refine pt_r_then ?_
          obtain rfl := Option.some.inj h
          exact pt_ret hio rfl (.tmp _ _ .nil) rfl rfl
        · intro u12 h hl13 hr14
          refine cond_some h (fun hg5_2 h => ?_) (fun hg5_2 h => ?_)
          · obtain ⟨v9, hv9, h⟩ := bind_some h
            refine cond_some h (fun hg5_7 h => ?_) (fun hg5_7 h => ?_)
            · obtain ⟨v10, hv10, h⟩ := bind_some h
              refine ht_seqR hn (El := (_ :: _ :: _ :: _ :: (37, .v (.int .i64 v7.2)) :: (38, .v (.bool (v7.2 == 11))) :: (39, .v (.bool true)) :: (40, .agg [.v (.int .i64 v7.1.Number), .fl (.own 5) 1 (List.map (Value.int .u8) v7.1.Data), .v (.bool v7.1.Ready), .v (.int .i64 v7.1.Base), .v (.int .i64 v7.1.Next), .v (.int .i64 v7.1.Wait), .v (.bool v7.1.Over)]) :: (41, .agg [.v (.int .i64 0), .v (.slice none 0 0), .v (.bool false), .v (.int .i64 0), .v (.int .i64 0), .v (.int .i64 0), .v (.bool false)]) :: (42, .v (.bool v9)) :: (43, .v (.bool v9)) :: (44, .v (.bool true)) :: (45, .v (.bool v10)) :: (46, .v (.bool v10)) :: (4, .v (.bool v10)) :: [])) (init := [0, 1, 2, 3]) (fin := [14]) (sps := [⟨[2], [], [4], [(.slot 37)]⟩, ⟨[4], [], [5], [(.slot 38)]⟩, ⟨[5], [], [6], [(.slot 39)]⟩, ⟨[6], [1], [7], [(.slot 40)]⟩, ⟨[6], [], [8], [(.slot 41)]⟩, ⟨[6, 7, 8], [], [9], [(.slot 42)]⟩, ⟨[6, 9], [], [10], [(.slot 43)]⟩, ⟨[10], [], [11], [(.slot 44)]⟩, ⟨[11], [], [12], [(.slot 45)]⟩, ⟨[11, 12], [], [13], [(.slot 46)]⟩, ⟨[13], [], [14], [(.slot 4)]⟩]) (es' := [(4, .v (.bool v10))]) (by kernel_rfl) rfl rfl
                ⟨st_plain rfl (op_move _ _ _ _ rfl rfl),
                  st_plain rfl (op_bin _ _ _ _ _ rfl rfl rfl),
                  st_plain rfl (op_move _ _ _ _ (congrArg (fun b => AV.v (Value.bool b)) hg5_2) rfl),
                  st_run 2 39 true rfl rfl rfl (List.Mem.head _) (op_loadA_take _ _ _ _ Try.underlying24 rfl sz24 rfl rfl),
                  st_run 2 39 true rfl rfl rfl (List.Mem.head _) (op_build _ _ _ _ [1, 1, 1, 1, 1, 1, 1] _ _ Try.underlying24 zr24 (fs24 _ Try.underlying24) Src.nil rfl rfl rfl),
                  st_run 2 39 true rfl rfl rfl (List.Mem.head _) (op_call _ _ 20 _ _ rfl Try.call20 rfl ((ok_wherrykeep_Send v7.1 (T_Send.mk 0 [] false 0 0 0 false) _ hv9).args (subs_cons (sub_refl _) (subs_cons (sub_agg (subs_cons (sub_refl _) (subs_cons (sub_nil_shr 1) (subs_cons (sub_refl _) (subs_cons (sub_refl _) (subs_cons (sub_refl _) (subs_cons (sub_refl _) (subs_cons (sub_refl _) (subs_nil))))))))) (subs_nil)))) rfl rfl),
                  st_plain rfl (op_pick _ _ true _ rfl rfl),
                  st_plain rfl (op_move _ _ _ _ (congrArg (fun b => AV.v (Value.bool b)) hg5_7) rfl),
                  st_run 7 44 true rfl rfl rfl (List.Mem.head _) (op_call _ _ 21 _ _ rfl Try.call21 rfl (ok_wherrylaw21_wakes  _ hv10) rfl rfl),
                  st_plain rfl (op_pick _ _ true _ rfl rfl),
                  st_plain rfl (op_assign _ _ _ _ rfl rfl),
                  trivial⟩ ?_
              exact hl13 _ (Option.some.inj h).symm
            · refine ht_seqR hn (El := (_ :: _ :: _ :: _ :: (37, .v (.int .i64 v7.2)) :: (38, .v (.bool (v7.2 == 11))) :: (39, .v (.bool true)) :: (40, .agg [.v (.int .i64 v7.1.Number), .fl (.own 5) 1 (List.map (Value.int .u8) v7.1.Data), .v (.bool v7.1.Ready), .v (.int .i64 v7.1.Base), .v (.int .i64 v7.1.Next), .v (.int .i64 v7.1.Wait), .v (.bool v7.1.Over)]) :: (41, .agg [.v (.int .i64 0), .v (.slice none 0 0), .v (.bool false), .v (.int .i64 0), .v (.int .i64 0), .v (.int .i64 0), .v (.bool false)]) :: (42, .v (.bool v9)) :: (43, .v (.bool v9)) :: (44, .v (.bool false)) :: (45, .v undef) :: (46, .v (.bool false)) :: (4, .v (.bool false)) :: [])) (init := [0, 1, 2, 3]) (fin := [14]) (sps := [⟨[2], [], [4], [(.slot 37)]⟩, ⟨[4], [], [5], [(.slot 38)]⟩, ⟨[5], [], [6], [(.slot 39)]⟩, ⟨[6], [1], [7], [(.slot 40)]⟩, ⟨[6], [], [8], [(.slot 41)]⟩, ⟨[6, 7, 8], [], [9], [(.slot 42)]⟩, ⟨[6, 9], [], [10], [(.slot 43)]⟩, ⟨[10], [], [11], [(.slot 44)]⟩, ⟨[11], [], [12], [(.slot 45)]⟩, ⟨[11], [], [13], [(.slot 46)]⟩, ⟨[13], [], [14], [(.slot 4)]⟩]) (es' := [(4, .v (.bool false))]) (by kernel_rfl) rfl rfl
                ⟨st_plain rfl (op_move _ _ _ _ rfl rfl),
                  st_plain rfl (op_bin _ _ _ _ _ rfl rfl rfl),
                  st_plain rfl (op_move _ _ _ _ (congrArg (fun b => AV.v (Value.bool b)) hg5_2) rfl),
                  st_run 2 39 true rfl rfl rfl (List.Mem.head _) (op_loadA_take _ _ _ _ Try.underlying24 rfl sz24 rfl rfl),
                  st_run 2 39 true rfl rfl rfl (List.Mem.head _) (op_build _ _ _ _ [1, 1, 1, 1, 1, 1, 1] _ _ Try.underlying24 zr24 (fs24 _ Try.underlying24) Src.nil rfl rfl rfl),
                  st_run 2 39 true rfl rfl rfl (List.Mem.head _) (op_call _ _ 20 _ _ rfl Try.call20 rfl ((ok_wherrykeep_Send v7.1 (T_Send.mk 0 [] false 0 0 0 false) _ hv9).args (subs_cons (sub_refl _) (subs_cons (sub_agg (subs_cons (sub_refl _) (subs_cons (sub_nil_shr 1) (subs_cons (sub_refl _) (subs_cons (sub_refl _) (subs_cons (sub_refl _) (subs_cons (sub_refl _) (subs_cons (sub_refl _) (subs_nil))))))))) (subs_nil)))) rfl rfl),
                  st_plain rfl (op_pick _ _ true _ rfl rfl),
                  st_plain rfl (op_move _ _ _ _ (congrArg (fun b => AV.v (Value.bool b)) hg5_7) rfl),
                  st_skip 7 44 _ true rfl rfl rfl rfl (List.Mem.head _),
                  st_plain rfl (op_pick _ _ false _ rfl rfl),
                  st_plain rfl (op_assign _ _ _ _ rfl rfl),
                  trivial⟩ ?_
              exact hl13 _ (Option.some.inj h).symm
          · refine ht_seqR hn (El := (_ :: _ :: _ :: _ :: (37, .v (.int .i64 v7.2)) :: (38, .v (.bool (v7.2 == 11))) :: (39, .v (.bool false)) :: (40, .v undef) :: (41, .v undef) :: (42, .v undef) :: (43, .v (.bool false)) :: (44, .v (.bool false)) :: (45, .v undef) :: (46, .v (.bool false)) :: (4, .v (.bool false)) :: [])) (init := [0, 1, 2, 3]) (fin := [14]) (sps := [⟨[2], [], [4], [(.slot 37)]⟩, ⟨[4], [], [5], [(.slot 38)]⟩, ⟨[5], [], [6], [(.slot 39)]⟩, ⟨[6], [], [7], [(.slot 40)]⟩, ⟨[6], [], [8], [(.slot 41)]⟩, ⟨[6], [], [9], [(.slot 42)]⟩, ⟨[6], [], [10], [(.slot 43)]⟩, ⟨[10], [], [11], [(.slot 44)]⟩, ⟨[11], [], [12], [(.slot 45)]⟩, ⟨[11], [], [13], [(.slot 46)]⟩, ⟨[13], [], [14], [(.slot 4)]⟩]) (es' := [(4, .v (.bool false))]) (by kernel_rfl) rfl rfl
              ⟨st_plain rfl (op_move _ _ _ _ rfl rfl),
                st_plain rfl (op_bin _ _ _ _ _ rfl rfl rfl),
                st_plain rfl (op_move _ _ _ _ (congrArg (fun b => AV.v (Value.bool b)) hg5_2) rfl),
                st_skip 2 39 _ true rfl rfl rfl rfl (List.Mem.head _),
                st_skip 2 39 _ true rfl rfl rfl rfl (List.Mem.head _),
                st_skip 2 39 _ true rfl rfl rfl rfl (List.Mem.head _),
                st_plain rfl (op_pick _ _ false _ rfl rfl),
                st_plain rfl (op_move _ _ _ _ rfl rfl),
                st_skip 7 44 _ true rfl rfl rfl rfl (List.Mem.head _),
                st_plain rfl (op_pick _ _ false _ rfl rfl),
                st_plain rfl (op_assign _ _ _ _ rfl rfl),
                trivial⟩ ?_
            exact hl13 _ (Option.some.inj h).symm
      · have h := cond_f hb8 h
        refine ht_skip ?_
        refine pt_then ?_
        refine ht_seq ?_
        refine ht_seq ?_
        refine ht_joinS h (fun (s15 : Bool) => [(3, .box 26 [.v (.int .i64 f.Kind), .v (.int .i64 f.Number), .v (.int .i64 f.Offset), .v (.int .i64 f.Seq), .fl .shr 1 (List.map (Value.int .u8) f.Data)]), (5, .box 24 [.v (.int .i64 v7.1.Number), .fl (.own 5) 1 (List.map (Value.int .u8) v7.1.Data), .v (.bool v7.1.Ready), .v (.int .i64 v7.1.Base), .v (.int .i64 v7.1.Next), .v (.int .i64 v7.1.Wait), .v (.bool v7.1.Over)]), (53, .v (.bool s15))]) ?_ ?_
        · rintro s15 h
          refine pt_then ?_
          refine ht_cond _ rfl (fun hb19 => ?_) (fun hb19 => ?_)
          · have h := cond_t hb19 h
            refine ht_seq ?_
            refine ht_seqR hn (El := [_, _, _, (4, .v (.bool false))]) (init := [0, 1, 2]) (fin := [3]) (sps := [⟨[], [], [3], [(.slot 4)]⟩]) (es' := [(4, .v (.bool false))]) (by kernel_rfl) rfl rfl
              ⟨st_plain rfl (op_assign _ _ _ _ rfl rfl),
                trivial⟩ ?_
            refine pt_then ?_
            refine ht_ret ?_
            refine pt_r_then ?_
            obtain rfl := Option.some.inj h
            exact pt_ret hio rfl (.tmp _ _ .nil) rfl rfl
          · have h := cond_f hb19 h
            refine ht_skip ?_
            refine pt_then ?_
            refine ht_seq ?_
            obtain ⟨v20, hv20, h⟩ := bind_some h
            refine ht_seqR hn (El := [_, _, _, (55, .agg [.v (.int .i64 v7.1.Number), .same (.cell 5 1), .v (.bool v7.1.Ready), .v (.int .i64 v7.1.Base), .v (.int .i64 v7.1.Next), .v (.int .i64 v7.1.Wait), .v (.bool v7.1.Over)]), (56, .agg [.v (.int .i64 f.Kind), .v (.int .i64 f.Number), .v (.int .i64 f.Offset), .v (.int .i64 f.Seq), .fl .shr 1 (List.map (Value.int .u8) f.Data)]), (57, .tup [.agg [.v (.int .i64 v20.1.Number), .fl (.own 5) 1 (List.map (Value.int .u8) v20.1.Data), .v (.bool v20.1.Ready), .v (.int .i64 v20.1.Base), .v (.int .i64 v20.1.Next), .v (.int .i64 v20.1.Wait), .v (.bool v20.1.Over)], .v (.int .i64 v20.2)]), (54, .tup [.agg [.v (.int .i64 v20.1.Number), .fl (.own 5) 1 (List.map (Value.int .u8) v20.1.Data), .v (.bool v20.1.Ready), .v (.int .i64 v20.1.Base), .v (.int .i64 v20.1.Next), .v (.int .i64 v20.1.Wait), .v (.bool v20.1.Over)], .v (.int .i64 v20.2)]), (58, .agg [.v (.int .i64 v20.1.Number), .fl (.own 5) 1 (List.map (Value.int .u8) v20.1.Data), .v (.bool v20.1.Ready), .v (.int .i64 v20.1.Base), .v (.int .i64 v20.1.Next), .v (.int .i64 v20.1.Wait), .v (.bool v20.1.Over)]), (54, .tup [.any, .v (.int .i64 v20.2)]), (59, .v (.int .i64 v20.2)), (7, .box 24 [.v (.int .i64 0), .v (.slice none 0 0), .v (.bool false), .v (.int .i64 0), .v (.int .i64 0), .v (.int .i64 0), .v (.bool false)]), (7, .box 24 [.v (.int .i64 v20.1.Number), .fl (.own 5) 1 (List.map (Value.int .u8) v20.1.Data), .v (.bool v20.1.Ready), .v (.int .i64 v20.1.Base), .v (.int .i64 v20.1.Next), .v (.int .i64 v20.1.Wait), .v (.bool v20.1.Over)]), (8, .v (.int .i64 v20.2))]) (init := [0, 1, 2]) (fin := [0, 1, 11, 12]) (sps := [⟨[1], [], [3], [(.slot 55)]⟩, ⟨[0], [], [4], [(.slot 56)]⟩, ⟨[3, 1, 4], [], [5], [(.slot 57)]⟩, ⟨[], [5], [6], [(.slot 54)]⟩, ⟨[], [6], [8, 7], [(.slot 58)]⟩, ⟨[8], [], [9], [(.slot 59)]⟩, ⟨[], [], [10], [(.slot 7)]⟩, ⟨[], [7, 10], [11], [.cell 7 0, .cell 7 1, .cell 7 2, .cell 7 3, .cell 7 4, .cell 7 5, .cell 7 6]⟩, ⟨[9], [], [12], [(.slot 8)]⟩]) (es' := [(_, _), (_, _), (7, .box 24 [.v (.int .i64 v20.1.Number), .fl (.own 5) 1 (List.map (Value.int .u8) v20.1.Data), .v (.bool v20.1.Ready), .v (.int .i64 v20.1.Base), .v (.int .i64 v20.1.Next), .v (.int .i64 v20.1.Wait), .v (.bool v20.1.Over)]), (8, .v (.int .i64 v20.2))]) (by kernel_rfl) rfl rfl
              ⟨st_plain rfl (op_loadA _ _ _ _ _ _ _ Try.underlying24 rfl sz24 rfl rfl (Nat.le_of_ble_eq_true rfl) rfl rfl),
                st_plain rfl (op_loadA _ _ _ _ _ _ _ Try.underlying26 rfl sz26 rfl rfl (Nat.le_of_ble_eq_true rfl) rfl rfl),
                st_plain rfl (op_call _ _ 15 _ _ rfl Try.call15 rfl (ok_sender_Hear v7.1 f _ hv20) rfl rfl),
                st_plain rfl (op_move_take _ _ _ _ rfl),
                st_plain rfl (op_extract_take _ _ _ _ _ rfl (Nat.le_of_ble_eq_true rfl) rfl rfl (by decide) rfl),
                st_plain rfl (op_extract _ _ _ _ _ rfl rfl (Nat.le_of_ble_eq_true rfl) rfl rfl),
                st_plain rfl (op_alloc _ _ zr24),
                st_plain rfl (op_store_take _ _ _ _ _ _ _ _ sz24 rfl rfl rfl (Nat.le_of_ble_eq_true rfl) rfl rfl),
                st_plain rfl (op_assign _ _ _ _ rfl rfl),
                trivial⟩ ?_
            refine pt_then ?_
            refine ht_seq ?_
            obtain ⟨v21, hv21, h⟩ := bind_some h
            refine ht_seqR hn (El := (_ :: _ :: _ :: _ :: (61, .agg [.v (.int .i64 v7.1.Number), .same (.cell 5 1), .v (.bool v7.1.Ready), .v (.int .i64 v7.1.Base), .v (.int .i64 v7.1.Next), .v (.int .i64 v7.1.Wait), .v (.bool v7.1.Over)]) :: (62, .tup [.agg [.v (.int .i64 v21.1.Number), .fl (.own 5) 1 (List.map (Value.int .u8) v21.1.Data), .v (.bool v21.1.Ready), .v (.int .i64 v21.1.Base), .v (.int .i64 v21.1.Next), .v (.int .i64 v21.1.Wait), .v (.bool v21.1.Over)], .fr (.own 26) false 5 (List.flatten (List.map T_Frame.ienc v21.2.1)), .v (.int .i64 v21.2.2)]) :: (60, .tup [.agg [.v (.int .i64 v21.1.Number), .fl (.own 5) 1 (List.map (Value.int .u8) v21.1.Data), .v (.bool v21.1.Ready), .v (.int .i64 v21.1.Base), .v (.int .i64 v21.1.Next), .v (.int .i64 v21.1.Wait), .v (.bool v21.1.Over)], .fr (.own 26) false 5 (List.flatten (List.map T_Frame.ienc v21.2.1)), .v (.int .i64 v21.2.2)]) :: (63, .agg [.v (.int .i64 v21.1.Number), .fl (.own 5) 1 (List.map (Value.int .u8) v21.1.Data), .v (.bool v21.1.Ready), .v (.int .i64 v21.1.Base), .v (.int .i64 v21.1.Next), .v (.int .i64 v21.1.Wait), .v (.bool v21.1.Over)]) :: (60, .tup [.any, .fr (.own 26) false 5 (List.flatten (List.map T_Frame.ienc v21.2.1)), .v (.int .i64 v21.2.2)]) :: (64, .fr (.own 26) false 5 (List.flatten (List.map T_Frame.ienc v21.2.1))) :: (60, .tup [.any, .any, .v (.int .i64 v21.2.2)]) :: (65, .v (.int .i64 v21.2.2)) :: (9, .box 24 [.v (.int .i64 0), .v (.slice none 0 0), .v (.bool false), .v (.int .i64 0), .v (.int .i64 0), .v (.int .i64 0), .v (.bool false)]) :: (9, .box 24 [.v (.int .i64 v21.1.Number), .fl (.own 5) 1 (List.map (Value.int .u8) v21.1.Data), .v (.bool v21.1.Ready), .v (.int .i64 v21.1.Base), .v (.int .i64 v21.1.Next), .v (.int .i64 v21.1.Wait), .v (.bool v21.1.Over)]) :: (10, .fr (.own 26) false 5 (List.flatten (List.map T_Frame.ienc v21.2.1))) :: (11, .v (.int .i64 v21.2.2)) :: [])) (init := [0, 1, 2, 3]) (fin := [0, 1, 2, 3, 13, 14, 15]) (sps := [⟨[1], [], [4], [(.slot 61)]⟩, ⟨[4, 1], [], [5], [(.slot 62)]⟩, ⟨[], [5], [6], [(.slot 60)]⟩, ⟨[], [6], [8, 7], [(.slot 63)]⟩, ⟨[], [8], [10, 9], [(.slot 64)]⟩, ⟨[10], [], [11], [(.slot 65)]⟩, ⟨[], [], [12], [(.slot 9)]⟩, ⟨[], [7, 12], [13], [.cell 9 0, .cell 9 1, .cell 9 2, .cell 9 3, .cell 9 4, .cell 9 5, .cell 9 6]⟩, ⟨[], [9], [14], [(.slot 10)]⟩, ⟨[11], [], [15], [(.slot 11)]⟩]) (es' := [(_, _), (_, _), (_, _), (_, _), (9, .box 24 [.v (.int .i64 v21.1.Number), .fl (.own 5) 1 (List.map (Value.int .u8) v21.1.Data), .v (.bool v21.1.Ready), .v (.int .i64 v21.1.Base), .v (.int .i64 v21.1.Next), .v (.int .i64 v21.1.Wait), .v (.bool v21.1.Over)]), (10, .fr (.own 26) false 5 (List.flatten (List.map T_Frame.ienc v21.2.1))), (11, .v (.int .i64 v21.2.2))]) (by kernel_rfl) rfl rfl
              ⟨st_plain rfl (op_loadA _ _ _ _ _ _ _ Try.underlying24 rfl sz24 rfl rfl (Nat.le_of_ble_eq_true rfl) rfl rfl),
                st_plain rfl (op_call _ _ 14 _ _ rfl Try.call14 rfl (ok_sender_Tick v7.1 _ hv21) rfl rfl),
                st_plain rfl (op_move_take _ _ _ _ rfl),
                st_plain rfl (op_extract_take _ _ _ _ _ rfl (Nat.le_of_ble_eq_true rfl) rfl rfl (by decide) rfl),
                st_plain rfl (op_extract_take _ _ _ _ _ rfl (Nat.le_of_ble_eq_true rfl) rfl rfl (by decide) rfl),
                st_plain rfl (op_extract _ _ _ _ _ rfl rfl (Nat.le_of_ble_eq_true rfl) rfl rfl),
                st_plain rfl (op_alloc _ _ zr24),
                st_plain rfl (op_store_take _ _ _ _ _ _ _ _ sz24 rfl rfl rfl (Nat.le_of_ble_eq_true rfl) rfl rfl),
                st_plain rfl (op_assign_take _ _ _ _ rfl),
                st_plain rfl (op_assign _ _ _ _ rfl rfl),
                trivial⟩ ?_
            refine pt_then ?_
            refine ht_seq ?_
            refine ht_seq ?_
            refine ht_joinS h (fun (s25 : Bool) => [(5, .box 24 [.v (.int .i64 v7.1.Number), .fl (.own 5) 1 (List.map (Value.int .u8) v7.1.Data), .v (.bool v7.1.Ready), .v (.int .i64 v7.1.Base), .v (.int .i64 v7.1.Next), .v (.int .i64 v7.1.Wait), .v (.bool v7.1.Over)]), (7, .box 24 [.v (.int .i64 v20.1.Number), .fl (.own 5) 1 (List.map (Value.int .u8) v20.1.Data), .v (.bool v20.1.Ready), .v (.int .i64 v20.1.Base), .v (.int .i64 v20.1.Next), .v (.int .i64 v20.1.Wait), .v (.bool v20.1.Over)]), (9, .box 24 [.v (.int .i64 v21.1.Number), .fl (.own 5) 1 (List.map (Value.int .u8) v21.1.Data), .v (.bool v21.1.Ready), .v (.int .i64 v21.1.Base), .v (.int .i64 v21.1.Next), .v (.int .i64 v21.1.Wait), .v (.bool v21.1.Over)]), (10, .fr (.own 26) false 5 (List.flatten (List.map T_Frame.ienc v21.2.1))), (11, .v (.int .i64 v21.2.2)), (80, .v (.bool s25))]) ?_ ?_
            · rintro s25 h
              refine pt_then ?_
              refine ht_cond _ rfl (fun hb29 => ?_) (fun hb29 => ?_)
              · have h := cond_t hb29 h
                refine ht_seq ?_
                refine ht_seqR hn (El := [_, _, _, _, _, _, (4, .v (.bool false))]) (init := [0, 1, 2, 3, 4, 5]) (fin := [6]) (sps := [⟨[], [], [6], [(.slot 4)]⟩]) (es' := [(4, .v (.bool false))]) (by kernel_rfl) rfl rfl
                  ⟨st_plain rfl (op_assign _ _ _ _ rfl rfl),
                    trivial⟩ ?_
                refine pt_then ?_
                refine ht_ret ?_
                refine pt_r_then ?_
                obtain rfl := Option.some.inj h
                exact pt_ret hio rfl (.tmp _ _ .nil) rfl rfl
              · have h := cond_f hb29 h
                refine ht_skip ?_
                refine pt_then ?_
                refine ht_seq ?_
                refine ht_joinS h (fun (s33 : Bool) => [(4, .v (.bool s33))]) ?_ ?_
                · rintro s33 h
                  refine pt_then ?_
                  refine ht_ret ?_
                  obtain rfl := Option.some.inj h
                  exact pt_ret hio rfl (.tmp _ _ .nil) rfl rfl
                · intro u34 h hl35 hr36
                  obtain ⟨v30, hv30, h⟩ := bind_some h
                  refine cond_some h (fun hg12_3 h => ?_) (fun hg12_3 h => ?_)
                  · refine cond_some h (fun hg12_7 h => ?_) (fun hg12_7 h => ?_)
                    · refine cond_some h (fun hg12_12 h => ?_) (fun hg12_12 h => ?_)
                      · obtain ⟨v31, hv31, h⟩ := bind_some h
                        refine cond_some h (fun hg12_17 h => ?_) (fun hg12_17 h => ?_)
                        · obtain ⟨v32, hv32, h⟩ := bind_some h
                          refine ht_seqR hn (El := (_ :: _ :: _ :: _ :: _ :: _ :: (81, .agg [.v (.int .i64 v20.1.Number), .fl (.own 5) 1 (List.map (Value.int .u8) v20.1.Data), .v (.bool v20.1.Ready), .v (.int .i64 v20.1.Base), .v (.int .i64 v20.1.Next), .v (.int .i64 v20.1.Wait), .v (.bool v20.1.Over)]) :: (82, .agg [.v (.int .i64 0), .v (.slice none 0 0), .v (.bool false), .v (.int .i64 0), .v (.int .i64 0), .v (.int .i64 0), .v (.bool false)]) :: (83, .v (.bool v30)) :: (84, .v (.bool true)) :: (85, .v (.int .i64 v21.2.2)) :: (86, .v (.bool (v21.2.2 == 0))) :: (87, .v (.bool (v21.2.2 == 0))) :: (88, .v (.bool true)) :: (89, .fr (.own 26) false 5 (List.flatten (List.map T_Frame.ienc v21.2.1))) :: (90, .v (.int .i64 (v21.2.1.length : Int))) :: (91, .v (.bool (((v21.2.1.length : Int) == 0)))) :: (92, .v (.bool (((v21.2.1.length : Int) == 0)))) :: (93, .v (.bool true)) :: (94, .agg [.v (.int .i64 v21.1.Number), .fl (.own 5) 1 (List.map (Value.int .u8) v21.1.Data), .v (.bool v21.1.Ready), .v (.int .i64 v21.1.Base), .v (.int .i64 v21.1.Next), .v (.int .i64 v21.1.Wait), .v (.bool v21.1.Over)]) :: (95, .agg [.v (.int .i64 v7.1.Number), .fl (.own 5) 1 (List.map (Value.int .u8) v7.1.Data), .v (.bool v7.1.Ready), .v (.int .i64 v7.1.Base), .v (.int .i64 v7.1.Next), .v (.int .i64 v7.1.Wait), .v (.bool v7.1.Over)]) :: (96, .v (.bool v31)) :: (97, .v (.bool v31)) :: (98, .v (.bool true)) :: (99, .v (.bool v32)) :: (100, .v (.bool v32)) :: (4, .v (.bool v32)) :: [])) (init := [0, 1, 2, 3, 4, 5]) (fin := [26]) (sps := (⟨[], [1], [6], [(.slot 81)]⟩ :: ⟨[], [], [7], [(.slot 82)]⟩ :: ⟨[6, 7], [], [8], [(.slot 83)]⟩ :: ⟨[8], [], [9], [(.slot 84)]⟩ :: ⟨[9, 4], [], [10], [(.slot 85)]⟩ :: ⟨[9, 10], [], [11], [(.slot 86)]⟩ :: ⟨[9, 11], [], [12], [(.slot 87)]⟩ :: ⟨[12], [], [13], [(.slot 88)]⟩ :: ⟨[13], [3], [14], [(.slot 89)]⟩ :: ⟨[13, 14], [], [15], [(.slot 90)]⟩ :: ⟨[13, 15], [], [16], [(.slot 91)]⟩ :: ⟨[13, 16], [], [17], [(.slot 92)]⟩ :: ⟨[17], [], [18], [(.slot 93)]⟩ :: ⟨[18], [2], [19], [(.slot 94)]⟩ :: ⟨[18], [0], [20], [(.slot 95)]⟩ :: ⟨[18, 19, 20], [], [21], [(.slot 96)]⟩ :: ⟨[18, 21], [], [22], [(.slot 97)]⟩ :: ⟨[22], [], [23], [(.slot 98)]⟩ :: ⟨[23], [], [24], [(.slot 99)]⟩ :: ⟨[23, 24], [], [25], [(.slot 100)]⟩ :: ⟨[25], [], [26], [(.slot 4)]⟩ :: [])) (es' := [(4, .v (.bool v32))]) (by kernel_rfl) rfl rfl
                            ⟨st_plain rfl (op_loadA_take _ _ _ _ Try.underlying24 rfl sz24 rfl rfl),
                              st_plain rfl (op_build _ _ _ _ [1, 1, 1, 1, 1, 1, 1] _ _ Try.underlying24 zr24 (fs24 _ Try.underlying24) Src.nil rfl rfl rfl),
                              st_plain rfl (op_call _ _ 20 _ _ rfl Try.call20 rfl ((ok_wherrykeep_Send v20.1 (T_Send.mk 0 [] false 0 0 0 false) _ hv30).args (subs_cons (sub_refl _) (subs_cons (sub_agg (subs_cons (sub_refl _) (subs_cons (sub_nil_shr 1) (subs_cons (sub_refl _) (subs_cons (sub_refl _) (subs_cons (sub_refl _) (subs_cons (sub_refl _) (subs_cons (sub_refl _) (subs_nil))))))))) (subs_nil)))) rfl rfl),
                              st_plain rfl (op_move _ _ _ _ (congrArg (fun b => AV.v (Value.bool b)) hg12_3) rfl),
                              st_run 3 84 true rfl rfl rfl (List.Mem.head _) (op_move _ _ _ _ rfl rfl),
                              st_run 3 84 true rfl rfl rfl (List.Mem.head _) (op_bin _ _ _ _ _ rfl rfl rfl),
                              st_plain rfl (op_pick _ _ true _ rfl rfl),
                              st_plain rfl (op_move _ _ _ _ (congrArg (fun b => AV.v (Value.bool b)) hg12_7) rfl),
                              st_run 7 88 true rfl rfl rfl (List.Mem.head _) (op_move_take _ _ _ _ rfl),
                              st_run 7 88 true rfl rfl rfl (List.Mem.head _) (op_len_fr _ _ _ Try.underlying31 rfl (by decide) (gflat_len T_Frame.ilen _)),
                              st_run 7 88 true rfl rfl rfl (List.Mem.head _) (op_bin _ _ _ _ _ rfl rfl rfl),
                              st_plain rfl (op_pick _ _ true _ rfl rfl),
                              st_plain rfl (op_move _ _ _ _ (congrArg (fun b => AV.v (Value.bool b)) hg12_12) rfl),
                              st_run 12 93 true rfl rfl rfl (List.Mem.head _) (op_loadA_take _ _ _ _ Try.underlying24 rfl sz24 rfl rfl),
                              st_run 12 93 true rfl rfl rfl (List.Mem.head _) (op_loadA_take _ _ _ _ Try.underlying24 rfl sz24 rfl rfl),
                              st_run 12 93 true rfl rfl rfl (List.Mem.head _) (op_call _ _ 20 _ _ rfl Try.call20 rfl (ok_wherrykeep_Send v21.1 v7.1 _ hv31) rfl rfl),
                              st_plain rfl (op_pick _ _ true _ rfl rfl),
                              st_plain rfl (op_move _ _ _ _ (congrArg (fun b => AV.v (Value.bool b)) hg12_17) rfl),
                              st_run 17 98 true rfl rfl rfl (List.Mem.head _) (op_call _ _ 21 _ _ rfl Try.call21 rfl (ok_wherrylaw21_wakes  _ hv32) rfl rfl),
                              st_plain rfl (op_pick _ _ true _ rfl rfl),
                              st_plain rfl (op_assign _ _ _ _ rfl rfl),
                              trivial⟩ ?_
                          exact hl35 _ (Option.some.inj h).symm
                        · refine ht_seqR hn (El := (_ :: _ :: _ :: _ :: _ :: _ :: (81, .agg [.v (.int .i64 v20.1.Number), .fl (.own 5) 1 (List.map (Value.int .u8) v20.1.Data), .v (.bool v20.1.Ready), .v (.int .i64 v20.1.Base), .v (.int .i64 v20.1.Next), .v (.int .i64 v20.1.Wait), .v (.bool v20.1.Over)]) :: (82, .agg [.v (.int .i64 0), .v (.slice none 0 0), .v (.bool false), .v (.int .i64 0), .v (.int .i64 0), .v (.int .i64 0), .v (.bool false)]) :: (83, .v (.bool v30)) :: (84, .v (.bool true)) :: (85, .v (.int .i64 v21.2.2)) :: (86, .v (.bool (v21.2.2 == 0))) :: (87, .v (.bool (v21.2.2 == 0))) :: (88, .v (.bool true)) :: (89, .fr (.own 26) false 5 (List.flatten (List.map T_Frame.ienc v21.2.1))) :: (90, .v (.int .i64 (v21.2.1.length : Int))) :: (91, .v (.bool (((v21.2.1.length : Int) == 0)))) :: (92, .v (.bool (((v21.2.1.length : Int) == 0)))) :: (93, .v (.bool true)) :: (94, .agg [.v (.int .i64 v21.1.Number), .fl (.own 5) 1 (List.map (Value.int .u8) v21.1.Data), .v (.bool v21.1.Ready), .v (.int .i64 v21.1.Base), .v (.int .i64 v21.1.Next), .v (.int .i64 v21.1.Wait), .v (.bool v21.1.Over)]) :: (95, .agg [.v (.int .i64 v7.1.Number), .fl (.own 5) 1 (List.map (Value.int .u8) v7.1.Data), .v (.bool v7.1.Ready), .v (.int .i64 v7.1.Base), .v (.int .i64 v7.1.Next), .v (.int .i64 v7.1.Wait), .v (.bool v7.1.Over)]) :: (96, .v (.bool v31)) :: (97, .v (.bool v31)) :: (98, .v (.bool false)) :: (99, .v undef) :: (100, .v (.bool false)) :: (4, .v (.bool false)) :: [])) (init := [0, 1, 2, 3, 4, 5]) (fin := [26]) (sps := (⟨[], [1], [6], [(.slot 81)]⟩ :: ⟨[], [], [7], [(.slot 82)]⟩ :: ⟨[6, 7], [], [8], [(.slot 83)]⟩ :: ⟨[8], [], [9], [(.slot 84)]⟩ :: ⟨[9, 4], [], [10], [(.slot 85)]⟩ :: ⟨[9, 10], [], [11], [(.slot 86)]⟩ :: ⟨[9, 11], [], [12], [(.slot 87)]⟩ :: ⟨[12], [], [13], [(.slot 88)]⟩ :: ⟨[13], [3], [14], [(.slot 89)]⟩ :: ⟨[13, 14], [], [15], [(.slot 90)]⟩ :: ⟨[13, 15], [], [16], [(.slot 91)]⟩ :: ⟨[13, 16], [], [17], [(.slot 92)]⟩ :: ⟨[17], [], [18], [(.slot 93)]⟩ :: ⟨[18], [2], [19], [(.slot 94)]⟩ :: ⟨[18], [0], [20], [(.slot 95)]⟩ :: ⟨[18, 19, 20], [], [21], [(.slot 96)]⟩ :: ⟨[18, 21], [], [22], [(.slot 97)]⟩ :: ⟨[22], [], [23], [(.slot 98)]⟩ :: ⟨[23], [], [24], [(.slot 99)]⟩ :: ⟨[23], [], [25], [(.slot 100)]⟩ :: ⟨[25], [], [26], [(.slot 4)]⟩ :: [])) (es' := [(4, .v (.bool false))]) (by kernel_rfl) rfl rfl
                            ⟨st_plain rfl (op_loadA_take _ _ _ _ Try.underlying24 rfl sz24 rfl rfl),
                              st_plain rfl (op_build _ _ _ _ [1, 1, 1, 1, 1, 1, 1] _ _ Try.underlying24 zr24 (fs24 _ Try.underlying24) Src.nil rfl rfl rfl),
                              st_plain rfl (op_call _ _ 20 _ _ rfl Try.call20 rfl ((ok_wherrykeep_Send v20.1 (T_Send.mk 0 [] false 0 0 0 false) _ hv30).args (subs_cons (sub_refl _) (subs_cons (sub_agg (subs_cons (sub_refl _) (subs_cons (sub_nil_shr 1) (subs_cons (sub_refl _) (subs_cons (sub_refl _) (subs_cons (sub_refl _) (subs_cons (sub_refl _) (subs_cons (sub_refl _) (subs_nil))))))))) (subs_nil)))) rfl rfl),
                              st_plain rfl (op_move _ _ _ _ (congrArg (fun b => AV.v (Value.bool b)) hg12_3) rfl),
                              st_run 3 84 true rfl rfl rfl (List.Mem.head _) (op_move _ _ _ _ rfl rfl),
                              st_run 3 84 true rfl rfl rfl (List.Mem.head _) (op_bin _ _ _ _ _ rfl rfl rfl),
                              st_plain rfl (op_pick _ _ true _ rfl rfl),
                              st_plain rfl (op_move _ _ _ _ (congrArg (fun b => AV.v (Value.bool b)) hg12_7) rfl),
                              st_run 7 88 true rfl rfl rfl (List.Mem.head _) (op_move_take _ _ _ _ rfl),
                              st_run 7 88 true rfl rfl rfl (List.Mem.head _) (op_len_fr _ _ _ Try.underlying31 rfl (by decide) (gflat_len T_Frame.ilen _)),
                              st_run 7 88 true rfl rfl rfl (List.Mem.head _) (op_bin _ _ _ _ _ rfl rfl rfl),
                              st_plain rfl (op_pick _ _ true _ rfl rfl),
                              st_plain rfl (op_move _ _ _ _ (congrArg (fun b => AV.v (Value.bool b)) hg12_12) rfl),
                              st_run 12 93 true rfl rfl rfl (List.Mem.head _) (op_loadA_take _ _ _ _ Try.underlying24 rfl sz24 rfl rfl),
                              st_run 12 93 true rfl rfl rfl (List.Mem.head _) (op_loadA_take _ _ _ _ Try.underlying24 rfl sz24 rfl rfl),
                              st_run 12 93 true rfl rfl rfl (List.Mem.head _) (op_call _ _ 20 _ _ rfl Try.call20 rfl (ok_wherrykeep_Send v21.1 v7.1 _ hv31) rfl rfl),
                              st_plain rfl (op_pick _ _ true _ rfl rfl),
                              st_plain rfl (op_move _ _ _ _ (congrArg (fun b => AV.v (Value.bool b)) hg12_17) rfl),
                              st_skip 17 98 _ true rfl rfl rfl rfl (List.Mem.head _),
                              st_plain rfl (op_pick _ _ false _ rfl rfl),
                              st_plain rfl (op_assign _ _ _ _ rfl rfl),
                              trivial⟩ ?_
                          exact hl35 _ (Option.some.inj h).symm
                      · refine ht_seqR hn (El := (_ :: _ :: _ :: _ :: _ :: _ :: (81, .agg [.v (.int .i64 v20.1.Number), .fl (.own 5) 1 (List.map (Value.int .u8) v20.1.Data), .v (.bool v20.1.Ready), .v (.int .i64 v20.1.Base), .v (.int .i64 v20.1.Next), .v (.int .i64 v20.1.Wait), .v (.bool v20.1.Over)]) :: (82, .agg [.v (.int .i64 0), .v (.slice none 0 0), .v (.bool false), .v (.int .i64 0), .v (.int .i64 0), .v (.int .i64 0), .v (.bool false)]) :: (83, .v (.bool v30)) :: (84, .v (.bool true)) :: (85, .v (.int .i64 v21.2.2)) :: (86, .v (.bool (v21.2.2 == 0))) :: (87, .v (.bool (v21.2.2 == 0))) :: (88, .v (.bool true)) :: (89, .fr (.own 26) false 5 (List.flatten (List.map T_Frame.ienc v21.2.1))) :: (90, .v (.int .i64 (v21.2.1.length : Int))) :: (91, .v (.bool (((v21.2.1.length : Int) == 0)))) :: (92, .v (.bool (((v21.2.1.length : Int) == 0)))) :: (93, .v (.bool false)) :: (94, .v undef) :: (95, .v undef) :: (96, .v undef) :: (97, .v (.bool false)) :: (98, .v (.bool false)) :: (99, .v undef) :: (100, .v (.bool false)) :: (4, .v (.bool false)) :: [])) (init := [0, 1, 2, 3, 4, 5]) (fin := [26]) (sps := (⟨[], [1], [6], [(.slot 81)]⟩ :: ⟨[], [], [7], [(.slot 82)]⟩ :: ⟨[6, 7], [], [8], [(.slot 83)]⟩ :: ⟨[8], [], [9], [(.slot 84)]⟩ :: ⟨[9, 4], [], [10], [(.slot 85)]⟩ :: ⟨[9, 10], [], [11], [(.slot 86)]⟩ :: ⟨[9, 11], [], [12], [(.slot 87)]⟩ :: ⟨[12], [], [13], [(.slot 88)]⟩ :: ⟨[13], [3], [14], [(.slot 89)]⟩ :: ⟨[13, 14], [], [15], [(.slot 90)]⟩ :: ⟨[13, 15], [], [16], [(.slot 91)]⟩ :: ⟨[13, 16], [], [17], [(.slot 92)]⟩ :: ⟨[17], [], [18], [(.slot 93)]⟩ :: ⟨[18], [], [19], [(.slot 94)]⟩ :: ⟨[18], [], [20], [(.slot 95)]⟩ :: ⟨[18], [], [21], [(.slot 96)]⟩ :: ⟨[18], [], [22], [(.slot 97)]⟩ :: ⟨[22], [], [23], [(.slot 98)]⟩ :: ⟨[23], [], [24], [(.slot 99)]⟩ :: ⟨[23], [], [25], [(.slot 100)]⟩ :: ⟨[25], [], [26], [(.slot 4)]⟩ :: [])) (es' := [(4, .v (.bool false))]) (by kernel_rfl) rfl rfl
                          ⟨st_plain rfl (op_loadA_take _ _ _ _ Try.underlying24 rfl sz24 rfl rfl),
                            st_plain rfl (op_build _ _ _ _ [1, 1, 1, 1, 1, 1, 1] _ _ Try.underlying24 zr24 (fs24 _ Try.underlying24) Src.nil rfl rfl rfl),
                            st_plain rfl (op_call _ _ 20 _ _ rfl Try.call20 rfl ((ok_wherrykeep_Send v20.1 (T_Send.mk 0 [] false 0 0 0 false) _ hv30).args (subs_cons (sub_refl _) (subs_cons (sub_agg (subs_cons (sub_refl _) (subs_cons (sub_nil_shr 1) (subs_cons (sub_refl _) (subs_cons (sub_refl _) (subs_cons (sub_refl _) (subs_cons (sub_refl _) (subs_cons (sub_refl _) (subs_nil))))))))) (subs_nil)))) rfl rfl),
                            st_plain rfl (op_move _ _ _ _ (congrArg (fun b => AV.v (Value.bool b)) hg12_3) rfl),
                            st_run 3 84 true rfl rfl rfl (List.Mem.head _) (op_move _ _ _ _ rfl rfl),
                            st_run 3 84 true rfl rfl rfl (List.Mem.head _) (op_bin _ _ _ _ _ rfl rfl rfl),
                            st_plain rfl (op_pick _ _ true _ rfl rfl),
                            st_plain rfl (op_move _ _ _ _ (congrArg (fun b => AV.v (Value.bool b)) hg12_7) rfl),
                            st_run 7 88 true rfl rfl rfl (List.Mem.head _) (op_move_take _ _ _ _ rfl),
                            st_run 7 88 true rfl rfl rfl (List.Mem.head _) (op_len_fr _ _ _ Try.underlying31 rfl (by decide) (gflat_len T_Frame.ilen _)),
                            st_run 7 88 true rfl rfl rfl (List.Mem.head _) (op_bin _ _ _ _ _ rfl rfl rfl),
                            st_plain rfl (op_pick _ _ true _ rfl rfl),
                            st_plain rfl (op_move _ _ _ _ (congrArg (fun b => AV.v (Value.bool b)) hg12_12) rfl),
                            st_skip 12 93 _ true rfl rfl rfl rfl (List.Mem.head _),
                            st_skip 12 93 _ true rfl rfl rfl rfl (List.Mem.head _),
                            st_skip 12 93 _ true rfl rfl rfl rfl (List.Mem.head _),
                            st_plain rfl (op_pick _ _ false _ rfl rfl),
                            st_plain rfl (op_move _ _ _ _ rfl rfl),
                            st_skip 17 98 _ true rfl rfl rfl rfl (List.Mem.head _),
                            st_plain rfl (op_pick _ _ false _ rfl rfl),
                            st_plain rfl (op_assign _ _ _ _ rfl rfl),
                            trivial⟩ ?_
                        exact hl35 _ (Option.some.inj h).symm
                    · refine ht_seqR hn (El := (_ :: _ :: _ :: _ :: _ :: _ :: (81, .agg [.v (.int .i64 v20.1.Number), .fl (.own 5) 1 (List.map (Value.int .u8) v20.1.Data), .v (.bool v20.1.Ready), .v (.int .i64 v20.1.Base), .v (.int .i64 v20.1.Next), .v (.int .i64 v20.1.Wait), .v (.bool v20.1.Over)]) :: (82, .agg [.v (.int .i64 0), .v (.slice none 0 0), .v (.bool false), .v (.int .i64 0), .v (.int .i64 0), .v (.int .i64 0), .v (.bool false)]) :: (83, .v (.bool v30)) :: (84, .v (.bool true)) :: (85, .v (.int .i64 v21.2.2)) :: (86, .v (.bool (v21.2.2 == 0))) :: (87, .v (.bool (v21.2.2 == 0))) :: (88, .v (.bool false)) :: (89, .v undef) :: (90, .v undef) :: (91, .v undef) :: (92, .v (.bool false)) :: (93, .v (.bool false)) :: (94, .v undef) :: (95, .v undef) :: (96, .v undef) :: (97, .v (.bool false)) :: (98, .v (.bool false)) :: (99, .v undef) :: (100, .v (.bool false)) :: (4, .v (.bool false)) :: [])) (init := [0, 1, 2, 3, 4, 5]) (fin := [26]) (sps := (⟨[], [1], [6], [(.slot 81)]⟩ :: ⟨[], [], [7], [(.slot 82)]⟩ :: ⟨[6, 7], [], [8], [(.slot 83)]⟩ :: ⟨[8], [], [9], [(.slot 84)]⟩ :: ⟨[9, 4], [], [10], [(.slot 85)]⟩ :: ⟨[9, 10], [], [11], [(.slot 86)]⟩ :: ⟨[9, 11], [], [12], [(.slot 87)]⟩ :: ⟨[12], [], [13], [(.slot 88)]⟩ :: ⟨[13], [], [14], [(.slot 89)]⟩ :: ⟨[13], [], [15], [(.slot 90)]⟩ :: ⟨[13], [], [16], [(.slot 91)]⟩ :: ⟨[13], [], [17], [(.slot 92)]⟩ :: ⟨[17], [], [18], [(.slot 93)]⟩ :: ⟨[18], [], [19], [(.slot 94)]⟩ :: ⟨[18], [], [20], [(.slot 95)]⟩ :: ⟨[18], [], [21], [(.slot 96)]⟩ :: ⟨[18], [], [22], [(.slot 97)]⟩ :: ⟨[22], [], [23], [(.slot 98)]⟩ :: ⟨[23], [], [24], [(.slot 99)]⟩ :: ⟨[23], [], [25], [(.slot 100)]⟩ :: ⟨[25], [], [26], [(.slot 4)]⟩ :: [])) (es' := [(4, .v (.bool false))]) (by kernel_rfl) rfl rfl
                        ⟨st_plain rfl (op_loadA_take _ _ _ _ Try.underlying24 rfl sz24 rfl rfl),
                          st_plain rfl (op_build _ _ _ _ [1, 1, 1, 1, 1, 1, 1] _ _ Try.underlying24 zr24 (fs24 _ Try.underlying24) Src.nil rfl rfl rfl),
                          st_plain rfl (op_call _ _ 20 _ _ rfl Try.call20 rfl ((ok_wherrykeep_Send v20.1 (T_Send.mk 0 [] false 0 0 0 false) _ hv30).args (subs_cons (sub_refl _) (subs_cons (sub_agg (subs_cons (sub_refl _) (subs_cons (sub_nil_shr 1) (subs_cons (sub_refl _) (subs_cons (sub_refl _) (subs_cons (sub_refl _) (subs_cons (sub_refl _) (subs_cons (sub_refl _) (subs_nil))))))))) (subs_nil)))) rfl rfl),
                          st_plain rfl (op_move _ _ _ _ (congrArg (fun b => AV.v (Value.bool b)) hg12_3) rfl),
                          st_run 3 84 true rfl rfl rfl (List.Mem.head _) (op_move _ _ _ _ rfl rfl),
                          st_run 3 84 true rfl rfl rfl (List.Mem.head _) (op_bin _ _ _ _ _ rfl rfl rfl),
                          st_plain rfl (op_pick _ _ true _ rfl rfl),
                          st_plain rfl (op_move _ _ _ _ (congrArg (fun b => AV.v (Value.bool b)) hg12_7) rfl),
                          st_skip 7 88 _ true rfl rfl rfl rfl (List.Mem.head _),
                          st_skip 7 88 _ true rfl rfl rfl rfl (List.Mem.head _),
                          st_skip 7 88 _ true rfl rfl rfl rfl (List.Mem.head _),
                          st_plain rfl (op_pick _ _ false _ rfl rfl),
                          st_plain rfl (op_move _ _ _ _ rfl rfl),
                          st_skip 12 93 _ true rfl rfl rfl rfl (List.Mem.head _),
                          st_skip 12 93 _ true rfl rfl rfl rfl (List.Mem.head _),
                          st_skip 12 93 _ true rfl rfl rfl rfl (List.Mem.head _),
                          st_plain rfl (op_pick _ _ false _ rfl rfl),
                          st_plain rfl (op_move _ _ _ _ rfl rfl),
                          st_skip 17 98 _ true rfl rfl rfl rfl (List.Mem.head _),
                          st_plain rfl (op_pick _ _ false _ rfl rfl),
                          st_plain rfl (op_assign _ _ _ _ rfl rfl),
                          trivial⟩ ?_
                      exact hl35 _ (Option.some.inj h).symm
                  · refine ht_seqR hn (El := (_ :: _ :: _ :: _ :: _ :: _ :: (81, .agg [.v (.int .i64 v20.1.Number), .fl (.own 5) 1 (List.map (Value.int .u8) v20.1.Data), .v (.bool v20.1.Ready), .v (.int .i64 v20.1.Base), .v (.int .i64 v20.1.Next), .v (.int .i64 v20.1.Wait), .v (.bool v20.1.Over)]) :: (82, .agg [.v (.int .i64 0), .v (.slice none 0 0), .v (.bool false), .v (.int .i64 0), .v (.int .i64 0), .v (.int .i64 0), .v (.bool false)]) :: (83, .v (.bool v30)) :: (84, .v (.bool false)) :: (85, .v undef) :: (86, .v undef) :: (87, .v (.bool false)) :: (88, .v (.bool false)) :: (89, .v undef) :: (90, .v undef) :: (91, .v undef) :: (92, .v (.bool false)) :: (93, .v (.bool false)) :: (94, .v undef) :: (95, .v undef) :: (96, .v undef) :: (97, .v (.bool false)) :: (98, .v (.bool false)) :: (99, .v undef) :: (100, .v (.bool false)) :: (4, .v (.bool false)) :: [])) (init := [0, 1, 2, 3, 4, 5]) (fin := [26]) (sps := (⟨[], [1], [6], [(.slot 81)]⟩ :: ⟨[], [], [7], [(.slot 82)]⟩ :: ⟨[6, 7], [], [8], [(.slot 83)]⟩ :: ⟨[8], [], [9], [(.slot 84)]⟩ :: ⟨[9], [], [10], [(.slot 85)]⟩ :: ⟨[9], [], [11], [(.slot 86)]⟩ :: ⟨[9], [], [12], [(.slot 87)]⟩ :: ⟨[12], [], [13], [(.slot 88)]⟩ :: ⟨[13], [], [14], [(.slot 89)]⟩ :: ⟨[13], [], [15], [(.slot 90)]⟩ :: ⟨[13], [], [16], [(.slot 91)]⟩ :: ⟨[13], [], [17], [(.slot 92)]⟩ :: ⟨[17], [], [18], [(.slot 93)]⟩ :: ⟨[18], [], [19], [(.slot 94)]⟩ :: ⟨[18], [], [20], [(.slot 95)]⟩ :: ⟨[18], [], [21], [(.slot 96)]⟩ :: ⟨[18], [], [22], [(.slot 97)]⟩ :: ⟨[22], [], [23], [(.slot 98)]⟩ :: ⟨[23], [], [24], [(.slot 99)]⟩ :: ⟨[23], [], [25], [(.slot 100)]⟩ :: ⟨[25], [], [26], [(.slot 4)]⟩ :: [])) (es' := [(4, .v (.bool false))]) (by kernel_rfl) rfl rfl
                      ⟨st_plain rfl (op_loadA_take _ _ _ _ Try.underlying24 rfl sz24 rfl rfl),
                        st_plain rfl (op_build _ _ _ _ [1, 1, 1, 1, 1, 1, 1] _ _ Try.underlying24 zr24 (fs24 _ Try.underlying24) Src.nil rfl rfl rfl),
                        st_plain rfl (op_call _ _ 20 _ _ rfl Try.call20 rfl ((ok_wherrykeep_Send v20.1 (T_Send.mk 0 [] false 0 0 0 false) _ hv30).args (subs_cons (sub_refl _) (subs_cons (sub_agg (subs_cons (sub_refl _) (subs_cons (sub_nil_shr 1) (subs_cons (sub_refl _) (subs_cons (sub_refl _) (subs_cons (sub_refl _) (subs_cons (sub_refl _) (subs_cons (sub_refl _) (subs_nil))))))))) (subs_nil)))) rfl rfl),
                        st_plain rfl (op_move _ _ _ _ (congrArg (fun b => AV.v (Value.bool b)) hg12_3) rfl),
                        st_skip 3 84 _ true rfl rfl rfl rfl (List.Mem.head _),
                        st_skip 3 84 _ true rfl rfl rfl rfl (List.Mem.head _),
                        st_plain rfl (op_pick _ _ false _ rfl rfl),
                        st_plain rfl (op_move _ _ _ _ rfl rfl),
                        st_skip 7 88 _ true rfl rfl rfl rfl (List.Mem.head _),
                        st_skip 7 88 _ true rfl rfl rfl rfl (List.Mem.head _),
                        st_skip 7 88 _ true rfl rfl rfl rfl (List.Mem.head _),
                        st_plain rfl (op_pick _ _ false _ rfl rfl),
                        st_plain rfl (op_move _ _ _ _ rfl rfl),
                        st_skip 12 93 _ true rfl rfl rfl rfl (List.Mem.head _),
                        st_skip 12 93 _ true rfl rfl rfl rfl (List.Mem.head _),
                        st_skip 12 93 _ true rfl rfl rfl rfl (List.Mem.head _),
                        st_plain rfl (op_pick _ _ false _ rfl rfl),
                        st_plain rfl (op_move _ _ _ _ rfl rfl),
                        st_skip 17 98 _ true rfl rfl rfl rfl (List.Mem.head _),
                        st_plain rfl (op_pick _ _ false _ rfl rfl),
                        st_plain rfl (op_assign _ _ _ _ rfl rfl),
                        trivial⟩ ?_
                    exact hl35 _ (Option.some.inj h).symm
            · intro u26 h hl27 hr28
              obtain ⟨v22, hv22, h⟩ := bind_some h
              refine cond_some h (fun hg10_2 h => ?_) (fun hg10_2 h => ?_)
              · refine cond_some h (fun hg10_6 h => ?_) (fun hg10_6 h => ?_)
                · refine ht_seqR hn (El := (_ :: _ :: _ :: _ :: _ :: _ :: _ :: (66, .agg [.v (.int .i64 f.Kind), .v (.int .i64 f.Number), .v (.int .i64 f.Offset), .v (.int .i64 f.Seq), .fl .shr 1 (List.map (Value.int .u8) f.Data)]) :: (67, .v (.bool v22)) :: (68, .v (.bool true)) :: (69, .v (.int .i64 v20.2)) :: (70, .v (.bool (v20.2 != 11))) :: (71, .v (.bool (v20.2 != 11))) :: (72, .v (.bool true)) :: (73, .v undef) :: (74, .v undef) :: (75, .v undef) :: (76, .v undef) :: (77, .v undef) :: (78, .v undef) :: (79, .v undef) :: (80, .v (.bool true)) :: [])) (init := [0, 1, 2, 3, 4, 5, 6]) (fin := [1, 2, 4, 5, 6, 21]) (sps := (⟨[0], [], [7], [(.slot 66)]⟩ :: ⟨[7], [], [8], [(.slot 67)]⟩ :: ⟨[8], [], [9], [(.slot 68)]⟩ :: ⟨[9, 3], [], [10], [(.slot 69)]⟩ :: ⟨[9, 10], [], [11], [(.slot 70)]⟩ :: ⟨[9, 11], [], [12], [(.slot 71)]⟩ :: ⟨[12], [], [13], [(.slot 72)]⟩ :: ⟨[13], [], [14], [(.slot 73)]⟩ :: ⟨[13], [], [15], [(.slot 74)]⟩ :: ⟨[13], [], [16], [(.slot 75)]⟩ :: ⟨[13], [], [17], [(.slot 76)]⟩ :: ⟨[17], [], [18], [(.slot 77)]⟩ :: ⟨[17], [], [19], [(.slot 78)]⟩ :: ⟨[13], [], [20], [(.slot 79)]⟩ :: ⟨[13], [], [21], [(.slot 80)]⟩ :: [])) (es' := [(_, _), (_, _), (_, _), (_, _), (_, _), (80, .v (.bool true))]) (by kernel_rfl) rfl rfl
                    ⟨st_plain rfl (op_loadA _ _ _ _ _ _ _ Try.underlying26 rfl sz26 rfl rfl (Nat.le_of_ble_eq_true rfl) rfl rfl),
                      st_plain rfl (op_call _ _ 24 _ _ rfl Try.call24 rfl (ok_wherryref18_Frame f _ hv22) rfl rfl),
                      st_plain rfl (op_move _ _ _ _ (congrArg (fun b => AV.v (Value.bool b)) hg10_2) rfl),
                      st_run 2 68 true rfl rfl rfl (List.Mem.head _) (op_move _ _ _ _ rfl rfl),
                      st_run 2 68 true rfl rfl rfl (List.Mem.head _) (op_bin _ _ _ _ _ rfl rfl rfl),
                      st_plain rfl (op_pick _ _ true _ rfl rfl),
                      st_plain rfl (op_move _ _ _ _ (congrArg (fun b => AV.v (Value.bool b)) hg10_6) rfl),
                      st_skip 6 72 _ false rfl rfl rfl rfl (List.Mem.head _),
                      st_skip 6 72 _ false rfl rfl rfl rfl (List.Mem.head _),
                      st_skip 6 72 _ false rfl rfl rfl rfl (List.Mem.head _),
                      st_skip 6 72 _ false rfl rfl rfl rfl (List.Mem.head _),
                      st_skipU 10 76 _ true rfl rfl rfl rfl (List.Mem.head _),
                      st_skipU 10 76 _ true rfl rfl rfl rfl (List.Mem.head _),
                      st_skip 6 72 _ false rfl rfl rfl rfl (List.Mem.head _),
                      st_plain rfl (op_pick _ _ true _ rfl rfl),
                      trivial⟩ ?_
                  exact hl27 _ (Option.some.inj h).symm
                · obtain ⟨v23, hv23, h⟩ := bind_some h
                  refine cond_some h (fun hg10_10 h => ?_) (fun hg10_10 h => ?_)
                  · refine ht_seqR hn (El := (_ :: _ :: _ :: _ :: _ :: _ :: _ :: (66, .agg [.v (.int .i64 f.Kind), .v (.int .i64 f.Number), .v (.int .i64 f.Offset), .v (.int .i64 f.Seq), .fl .shr 1 (List.map (Value.int .u8) f.Data)]) :: (67, .v (.bool v22)) :: (68, .v (.bool true)) :: (69, .v (.int .i64 v20.2)) :: (70, .v (.bool (v20.2 != 11))) :: (71, .v (.bool (v20.2 != 11))) :: (72, .v (.bool false)) :: (73, .agg [.v (.int .i64 f.Kind), .v (.int .i64 f.Number), .v (.int .i64 f.Offset), .v (.int .i64 f.Seq), .fl .shr 1 (List.map (Value.int .u8) f.Data)]) :: (74, .v (.bool v23)) :: (75, .v (.bool (!v23))) :: (76, .v (.bool true)) :: (77, .v (.int .i64 v20.2)) :: (78, .v (.bool (v20.2 != 1))) :: (79, .v (.bool (v20.2 != 1))) :: (80, .v (.bool (v20.2 != 1))) :: [])) (init := [0, 1, 2, 3, 4, 5, 6]) (fin := [1, 2, 4, 5, 6, 21]) (sps := (⟨[0], [], [7], [(.slot 66)]⟩ :: ⟨[7], [], [8], [(.slot 67)]⟩ :: ⟨[8], [], [9], [(.slot 68)]⟩ :: ⟨[9, 3], [], [10], [(.slot 69)]⟩ :: ⟨[9, 10], [], [11], [(.slot 70)]⟩ :: ⟨[9, 11], [], [12], [(.slot 71)]⟩ :: ⟨[12], [], [13], [(.slot 72)]⟩ :: ⟨[13, 0], [], [14], [(.slot 73)]⟩ :: ⟨[13, 14], [], [15], [(.slot 74)]⟩ :: ⟨[13, 15], [], [16], [(.slot 75)]⟩ :: ⟨[13, 16], [], [17], [(.slot 76)]⟩ :: ⟨[17, 3], [], [18], [(.slot 77)]⟩ :: ⟨[17, 18], [], [19], [(.slot 78)]⟩ :: ⟨[13, 17, 19], [], [20], [(.slot 79)]⟩ :: ⟨[13, 20], [], [21], [(.slot 80)]⟩ :: [])) (es' := [(_, _), (_, _), (_, _), (_, _), (_, _), (80, .v (.bool (v20.2 != 1)))]) (by kernel_rfl) rfl rfl
                      ⟨st_plain rfl (op_loadA _ _ _ _ _ _ _ Try.underlying26 rfl sz26 rfl rfl (Nat.le_of_ble_eq_true rfl) rfl rfl),
                        st_plain rfl (op_call _ _ 24 _ _ rfl Try.call24 rfl (ok_wherryref18_Frame f _ hv22) rfl rfl),
                        st_plain rfl (op_move _ _ _ _ (congrArg (fun b => AV.v (Value.bool b)) hg10_2) rfl),
                        st_run 2 68 true rfl rfl rfl (List.Mem.head _) (op_move _ _ _ _ rfl rfl),
                        st_run 2 68 true rfl rfl rfl (List.Mem.head _) (op_bin _ _ _ _ _ rfl rfl rfl),
                        st_plain rfl (op_pick _ _ true _ rfl rfl),
                        st_plain rfl (op_move _ _ _ _ (congrArg (fun b => AV.v (Value.bool b)) hg10_6) rfl),
                        st_run 6 72 false rfl rfl rfl (List.Mem.head _) (op_loadA _ _ _ _ _ _ _ Try.underlying26 rfl sz26 rfl rfl (Nat.le_of_ble_eq_true rfl) rfl rfl),
                        st_run 6 72 false rfl rfl rfl (List.Mem.head _) (op_call _ _ 24 _ _ rfl Try.call24 rfl (ok_wherryref18_Frame f _ hv23) rfl rfl),
                        st_run 6 72 false rfl rfl rfl (List.Mem.head _) (op_un _ _ _ _ rfl rfl),
                        st_run 6 72 false rfl rfl rfl (List.Mem.head _) (op_move _ _ _ _ (congrArg (fun b => AV.v (Value.bool b)) hg10_10) rfl),
                        st_run 10 76 true rfl rfl rfl (List.Mem.head _) (op_move _ _ _ _ rfl rfl),
                        st_run 10 76 true rfl rfl rfl (List.Mem.head _) (op_bin _ _ _ _ _ rfl rfl rfl),
                        st_run 6 72 false rfl rfl rfl (List.Mem.head _) (op_pick _ _ true _ rfl rfl),
                        st_plain rfl (op_pick _ _ false _ rfl rfl),
                        trivial⟩ ?_
                    exact hl27 _ (Option.some.inj h).symm
                  · refine ht_seqR hn (El := (_ :: _ :: _ :: _ :: _ :: _ :: _ :: (66, .agg [.v (.int .i64 f.Kind), .v (.int .i64 f.Number), .v (.int .i64 f.Offset), .v (.int .i64 f.Seq), .fl .shr 1 (List.map (Value.int .u8) f.Data)]) :: (67, .v (.bool v22)) :: (68, .v (.bool true)) :: (69, .v (.int .i64 v20.2)) :: (70, .v (.bool (v20.2 != 11))) :: (71, .v (.bool (v20.2 != 11))) :: (72, .v (.bool false)) :: (73, .agg [.v (.int .i64 f.Kind), .v (.int .i64 f.Number), .v (.int .i64 f.Offset), .v (.int .i64 f.Seq), .fl .shr 1 (List.map (Value.int .u8) f.Data)]) :: (74, .v (.bool v23)) :: (75, .v (.bool (!v23))) :: (76, .v (.bool false)) :: (77, .v undef) :: (78, .v undef) :: (79, .v (.bool false)) :: (80, .v (.bool false)) :: [])) (init := [0, 1, 2, 3, 4, 5, 6]) (fin := [1, 2, 4, 5, 6, 21]) (sps := (⟨[0], [], [7], [(.slot 66)]⟩ :: ⟨[7], [], [8], [(.slot 67)]⟩ :: ⟨[8], [], [9], [(.slot 68)]⟩ :: ⟨[9, 3], [], [10], [(.slot 69)]⟩ :: ⟨[9, 10], [], [11], [(.slot 70)]⟩ :: ⟨[9, 11], [], [12], [(.slot 71)]⟩ :: ⟨[12], [], [13], [(.slot 72)]⟩ :: ⟨[13, 0], [], [14], [(.slot 73)]⟩ :: ⟨[13, 14], [], [15], [(.slot 74)]⟩ :: ⟨[13, 15], [], [16], [(.slot 75)]⟩ :: ⟨[13, 16], [], [17], [(.slot 76)]⟩ :: ⟨[17], [], [18], [(.slot 77)]⟩ :: ⟨[17], [], [19], [(.slot 78)]⟩ :: ⟨[13, 17], [], [20], [(.slot 79)]⟩ :: ⟨[13, 20], [], [21], [(.slot 80)]⟩ :: [])) (es' := [(_, _), (_, _), (_, _), (_, _), (_, _), (80, .v (.bool false))]) (by kernel_rfl) rfl rfl
                      ⟨st_plain rfl (op_loadA _ _ _ _ _ _ _ Try.underlying26 rfl sz26 rfl rfl (Nat.le_of_ble_eq_true rfl) rfl rfl),
                        st_plain rfl (op_call _ _ 24 _ _ rfl Try.call24 rfl (ok_wherryref18_Frame f _ hv22) rfl rfl),
                        st_plain rfl (op_move _ _ _ _ (congrArg (fun b => AV.v (Value.bool b)) hg10_2) rfl),
                        st_run 2 68 true rfl rfl rfl (List.Mem.head _) (op_move _ _ _ _ rfl rfl),
                        st_run 2 68 true rfl rfl rfl (List.Mem.head _) (op_bin _ _ _ _ _ rfl rfl rfl),
                        st_plain rfl (op_pick _ _ true _ rfl rfl),
                        st_plain rfl (op_move _ _ _ _ (congrArg (fun b => AV.v (Value.bool b)) hg10_6) rfl),
                        st_run 6 72 false rfl rfl rfl (List.Mem.head _) (op_loadA _ _ _ _ _ _ _ Try.underlying26 rfl sz26 rfl rfl (Nat.le_of_ble_eq_true rfl) rfl rfl),
                        st_run 6 72 false rfl rfl rfl (List.Mem.head _) (op_call _ _ 24 _ _ rfl Try.call24 rfl (ok_wherryref18_Frame f _ hv23) rfl rfl),
                        st_run 6 72 false rfl rfl rfl (List.Mem.head _) (op_un _ _ _ _ rfl rfl),
                        st_run 6 72 false rfl rfl rfl (List.Mem.head _) (op_move _ _ _ _ (congrArg (fun b => AV.v (Value.bool b)) hg10_10) rfl),
                        st_skip 10 76 _ true rfl rfl rfl rfl (List.Mem.head _),
                        st_skip 10 76 _ true rfl rfl rfl rfl (List.Mem.head _),
                        st_run 6 72 false rfl rfl rfl (List.Mem.head _) (op_pick _ _ false _ rfl rfl),
                        st_plain rfl (op_pick _ _ false _ rfl rfl),
                        trivial⟩ ?_
                    exact hl27 _ (Option.some.inj h).symm
              · obtain ⟨v24, hv24, h⟩ := bind_some h
                refine cond_some h (fun hg10_10 h => ?_) (fun hg10_10 h => ?_)
                · refine ht_seqR hn (El := (_ :: _ :: _ :: _ :: _ :: _ :: _ :: (66, .agg [.v (.int .i64 f.Kind), .v (.int .i64 f.Number), .v (.int .i64 f.Offset), .v (.int .i64 f.Seq), .fl .shr 1 (List.map (Value.int .u8) f.Data)]) :: (67, .v (.bool v22)) :: (68, .v (.bool false)) :: (69, .v undef) :: (70, .v undef) :: (71, .v (.bool false)) :: (72, .v (.bool false)) :: (73, .agg [.v (.int .i64 f.Kind), .v (.int .i64 f.Number), .v (.int .i64 f.Offset), .v (.int .i64 f.Seq), .fl .shr 1 (List.map (Value.int .u8) f.Data)]) :: (74, .v (.bool v24)) :: (75, .v (.bool (!v24))) :: (76, .v (.bool true)) :: (77, .v (.int .i64 v20.2)) :: (78, .v (.bool (v20.2 != 1))) :: (79, .v (.bool (v20.2 != 1))) :: (80, .v (.bool (v20.2 != 1))) :: [])) (init := [0, 1, 2, 3, 4, 5, 6]) (fin := [1, 2, 4, 5, 6, 21]) (sps := (⟨[0], [], [7], [(.slot 66)]⟩ :: ⟨[7], [], [8], [(.slot 67)]⟩ :: ⟨[8], [], [9], [(.slot 68)]⟩ :: ⟨[9], [], [10], [(.slot 69)]⟩ :: ⟨[9], [], [11], [(.slot 70)]⟩ :: ⟨[9], [], [12], [(.slot 71)]⟩ :: ⟨[12], [], [13], [(.slot 72)]⟩ :: ⟨[13, 0], [], [14], [(.slot 73)]⟩ :: ⟨[13, 14], [], [15], [(.slot 74)]⟩ :: ⟨[13, 15], [], [16], [(.slot 75)]⟩ :: ⟨[13, 16], [], [17], [(.slot 76)]⟩ :: ⟨[17, 3], [], [18], [(.slot 77)]⟩ :: ⟨[17, 18], [], [19], [(.slot 78)]⟩ :: ⟨[13, 17, 19], [], [20], [(.slot 79)]⟩ :: ⟨[13, 20], [], [21], [(.slot 80)]⟩ :: [])) (es' := [(_, _), (_, _), (_, _), (_, _), (_, _), (80, .v (.bool (v20.2 != 1)))]) (by kernel_rfl) rfl rfl
                    ⟨st_plain rfl (op_loadA _ _ _ _ _ _ _ Try.underlying26 rfl sz26 rfl rfl (Nat.le_of_ble_eq_true rfl) rfl rfl),
                      st_plain rfl (op_call _ _ 24 _ _ rfl Try.call24 rfl (ok_wherryref18_Frame f _ hv22) rfl rfl),
                      st_plain rfl (op_move _ _ _ _ (congrArg (fun b => AV.v (Value.bool b)) hg10_2) rfl),
                      st_skip 2 68 _ true rfl rfl rfl rfl (List.Mem.head _),
                      st_skip 2 68 _ true rfl rfl rfl rfl (List.Mem.head _),
                      st_plain rfl (op_pick _ _ false _ rfl rfl),
                      st_plain rfl (op_move _ _ _ _ rfl rfl),
                      st_run 6 72 false rfl rfl rfl (List.Mem.head _) (op_loadA _ _ _ _ _ _ _ Try.underlying26 rfl sz26 rfl rfl (Nat.le_of_ble_eq_true rfl) rfl rfl),
                      st_run 6 72 false rfl rfl rfl (List.Mem.head _) (op_call _ _ 24 _ _ rfl Try.call24 rfl (ok_wherryref18_Frame f _ hv24) rfl rfl),
                      st_run 6 72 false rfl rfl rfl (List.Mem.head _) (op_un _ _ _ _ rfl rfl),
                      st_run 6 72 false rfl rfl rfl (List.Mem.head _) (op_move _ _ _ _ (congrArg (fun b => AV.v (Value.bool b)) hg10_10) rfl),
                      st_run 10 76 true rfl rfl rfl (List.Mem.head _) (op_move _ _ _ _ rfl rfl),
                      st_run 10 76 true rfl rfl rfl (List.Mem.head _) (op_bin _ _ _ _ _ rfl rfl rfl),
                      st_run 6 72 false rfl rfl rfl (List.Mem.head _) (op_pick _ _ true _ rfl rfl),
                      st_plain rfl (op_pick _ _ false _ rfl rfl),
                      trivial⟩ ?_
                  exact hl27 _ (Option.some.inj h).symm
                · refine ht_seqR hn (El := (_ :: _ :: _ :: _ :: _ :: _ :: _ :: (66, .agg [.v (.int .i64 f.Kind), .v (.int .i64 f.Number), .v (.int .i64 f.Offset), .v (.int .i64 f.Seq), .fl .shr 1 (List.map (Value.int .u8) f.Data)]) :: (67, .v (.bool v22)) :: (68, .v (.bool false)) :: (69, .v undef) :: (70, .v undef) :: (71, .v (.bool false)) :: (72, .v (.bool false)) :: (73, .agg [.v (.int .i64 f.Kind), .v (.int .i64 f.Number), .v (.int .i64 f.Offset), .v (.int .i64 f.Seq), .fl .shr 1 (List.map (Value.int .u8) f.Data)]) :: (74, .v (.bool v24)) :: (75, .v (.bool (!v24))) :: (76, .v (.bool false)) :: (77, .v undef) :: (78, .v undef) :: (79, .v (.bool false)) :: (80, .v (.bool false)) :: [])) (init := [0, 1, 2, 3, 4, 5, 6]) (fin := [1, 2, 4, 5, 6, 21]) (sps := (⟨[0], [], [7], [(.slot 66)]⟩ :: ⟨[7], [], [8], [(.slot 67)]⟩ :: ⟨[8], [], [9], [(.slot 68)]⟩ :: ⟨[9], [], [10], [(.slot 69)]⟩ :: ⟨[9], [], [11], [(.slot 70)]⟩ :: ⟨[9], [], [12], [(.slot 71)]⟩ :: ⟨[12], [], [13], [(.slot 72)]⟩ :: ⟨[13, 0], [], [14], [(.slot 73)]⟩ :: ⟨[13, 14], [], [15], [(.slot 74)]⟩ :: ⟨[13, 15], [], [16], [(.slot 75)]⟩ :: ⟨[13, 16], [], [17], [(.slot 76)]⟩ :: ⟨[17], [], [18], [(.slot 77)]⟩ :: ⟨[17], [], [19], [(.slot 78)]⟩ :: ⟨[13, 17], [], [20], [(.slot 79)]⟩ :: ⟨[13, 20], [], [21], [(.slot 80)]⟩ :: [])) (es' := [(_, _), (_, _), (_, _), (_, _), (_, _), (80, .v (.bool false))]) (by kernel_rfl) rfl rfl
                    ⟨st_plain rfl (op_loadA _ _ _ _ _ _ _ Try.underlying26 rfl sz26 rfl rfl (Nat.le_of_ble_eq_true rfl) rfl rfl),
                      st_plain rfl (op_call _ _ 24 _ _ rfl Try.call24 rfl (ok_wherryref18_Frame f _ hv22) rfl rfl),
                      st_plain rfl (op_move _ _ _ _ (congrArg (fun b => AV.v (Value.bool b)) hg10_2) rfl),
                      st_skip 2 68 _ true rfl rfl rfl rfl (List.Mem.head _),
                      st_skip 2 68 _ true rfl rfl rfl rfl (List.Mem.head _),
                      st_plain rfl (op_pick _ _ false _ rfl rfl),
                      st_plain rfl (op_move _ _ _ _ rfl rfl),
                      st_run 6 72 false rfl rfl rfl (List.Mem.head _) (op_loadA _ _ _ _ _ _ _ Try.underlying26 rfl sz26 rfl rfl (Nat.le_of_ble_eq_true rfl) rfl rfl),
                      st_run 6 72 false rfl rfl rfl (List.Mem.head _) (op_call _ _ 24 _ _ rfl Try.call24 rfl (ok_wherryref18_Frame f _ hv24) rfl rfl),
                      st_run 6 72 false rfl rfl rfl (List.Mem.head _) (op_un _ _ _ _ rfl rfl),
                      st_run 6 72 false rfl rfl rfl (List.Mem.head _) (op_move _ _ _ _ (congrArg (fun b => AV.v (Value.bool b)) hg10_10) rfl),
                      st_skip 10 76 _ true rfl rfl rfl rfl (List.Mem.head _),
                      st_skip 10 76 _ true rfl rfl rfl rfl (List.Mem.head _),
                      st_run 6 72 false rfl rfl rfl (List.Mem.head _) (op_pick _ _ false _ rfl rfl),
                      st_plain rfl (op_pick _ _ false _ rfl rfl),
                      trivial⟩ ?_
                  exact hl27 _ (Option.some.inj h).symm
        · intro u16 h hl17 hr18
          refine cond_some h (fun hg6_2 h => ?_) (fun hg6_2 h => ?_)
          · refine ht_seqR hn (El := [_, _, _, _, (47, .v (.int .i64 v7.2)), (48, .v (.bool (v7.2 != 0))), (49, .v (.bool true)), (50, .v undef), (51, .v undef), (52, .v undef), (53, .v (.bool true))]) (init := [0, 1, 2, 3]) (fin := [0, 1, 10]) (sps := [⟨[2], [], [4], [(.slot 47)]⟩, ⟨[4], [], [5], [(.slot 48)]⟩, ⟨[5], [], [6], [(.slot 49)]⟩, ⟨[6], [], [7], [(.slot 50)]⟩, ⟨[6], [], [8], [(.slot 51)]⟩, ⟨[6], [], [9], [(.slot 52)]⟩, ⟨[6], [], [10], [(.slot 53)]⟩]) (es' := [(_, _), (_, _), (53, .v (.bool true))]) (by kernel_rfl) rfl rfl
              ⟨st_plain rfl (op_move _ _ _ _ rfl rfl),
                st_plain rfl (op_bin _ _ _ _ _ rfl rfl rfl),
                st_plain rfl (op_move _ _ _ _ (congrArg (fun b => AV.v (Value.bool b)) hg6_2) rfl),
                st_skip 2 49 _ false rfl rfl rfl rfl (List.Mem.head _),
                st_skip 2 49 _ false rfl rfl rfl rfl (List.Mem.head _),
                st_skip 2 49 _ false rfl rfl rfl rfl (List.Mem.head _),
                st_plain rfl (op_pick _ _ true _ rfl rfl),
                trivial⟩ ?_
            exact hl17 _ (Option.some.inj h).symm
          · refine ht_seqR hn (El := [_, _, _, _, (47, .v (.int .i64 v7.2)), (48, .v (.bool (v7.2 != 0))), (49, .v (.bool false)), (50, .ptr 5 6), (51, .v (.bool v7.1.Over)), (52, .v (.bool (!v7.1.Over))), (53, .v (.bool (!v7.1.Over)))]) (init := [0, 1, 2, 3]) (fin := [0, 1, 10]) (sps := [⟨[2], [], [4], [(.slot 47)]⟩, ⟨[4], [], [5], [(.slot 48)]⟩, ⟨[5], [], [6], [(.slot 49)]⟩, ⟨[6, 1], [], [7], [(.slot 50)]⟩, ⟨[6, 7, 1], [], [8], [(.slot 51)]⟩, ⟨[6, 8], [], [9], [(.slot 52)]⟩, ⟨[6, 9], [], [10], [(.slot 53)]⟩]) (es' := [(_, _), (_, _), (53, .v (.bool (!v7.1.Over)))]) (by kernel_rfl) rfl rfl
              ⟨st_plain rfl (op_move _ _ _ _ rfl rfl),
                st_plain rfl (op_bin _ _ _ _ _ rfl rfl rfl),
                st_plain rfl (op_move _ _ _ _ (congrArg (fun b => AV.v (Value.bool b)) hg6_2) rfl),
                st_run 2 49 false rfl rfl rfl (List.Mem.head _) (op_fieldAddr _ _ _ _ 5 0 _ Try.underlying24 rfl sz4 rfl rfl (by decide)),
                st_run 2 49 false rfl rfl rfl (List.Mem.head _) (op_load _ _ _ _ _ _ Try.underlying4 rfl rfl rfl (Nat.le_of_ble_eq_true rfl) rfl rfl rfl),
                st_run 2 49 false rfl rfl rfl (List.Mem.head _) (op_un _ _ _ _ rfl rfl),
                st_plain rfl (op_pick _ _ false _ rfl rfl),
                trivial⟩ ?_
            exact hl17 _ (Option.some.inj h).symm
  · intro u3 h hl4 hr5
    refine cond_some h (fun hg1_4 h => ?_) (fun hg1_4 h => ?_)
    · refine ht_seqR hn (El := (_ :: _ :: (12, .ptr 2 1) :: (13, .fl .shr 1 (List.map (Value.int .u8) s.Data)) :: (14, .v (.int .i64 (s.Data.length : Int))) :: (15, .v (.bool ((decide (5100 < (s.Data.length : Int)))))) :: (16, .v (.bool true)) :: (17, .v undef) :: (18, .v undef) :: (19, .v undef) :: (20, .v undef) :: (21, .v (.bool true)) :: (22, .v (.bool true)) :: (23, .v undef) :: (24, .v undef) :: (25, .v undef) :: (26, .v (.bool true)) :: [])) (init := [0, 1]) (fin := [0, 1, 16]) (sps := (⟨[0], [], [2], [(.slot 12)]⟩ :: ⟨[2, 0], [], [3], [(.slot 13)]⟩ :: ⟨[3], [], [4], [(.slot 14)]⟩ :: ⟨[4], [], [5], [(.slot 15)]⟩ :: ⟨[5], [], [6], [(.slot 16)]⟩ :: ⟨[6], [], [7], [(.slot 17)]⟩ :: ⟨[6], [], [8], [(.slot 18)]⟩ :: ⟨[6], [], [9], [(.slot 19)]⟩ :: ⟨[6], [], [10], [(.slot 20)]⟩ :: ⟨[6], [], [11], [(.slot 21)]⟩ :: ⟨[11], [], [12], [(.slot 22)]⟩ :: ⟨[12], [], [13], [(.slot 23)]⟩ :: ⟨[12], [], [14], [(.slot 24)]⟩ :: ⟨[12], [], [15], [(.slot 25)]⟩ :: ⟨[12], [], [16], [(.slot 26)]⟩ :: [])) (es' := [(_, _), (_, _), (26, .v (.bool true))]) (by kernel_rfl) rfl rfl
        ⟨st_plain rfl (op_fieldAddr _ _ _ _ 2 0 _ Try.underlying24 rfl sz22 rfl rfl (by decide)),
          st_plain rfl (op_load _ _ _ _ _ _ Try.underlying22 rfl rfl rfl (Nat.le_of_ble_eq_true rfl) rfl rfl rfl),
          st_plain rfl (op_len_fl _ _ _ Try.underlying22 rfl (by decide) (map_len _)),
          st_plain rfl (op_bin _ _ _ _ _ rfl rfl rfl),
          st_plain rfl (op_move _ _ _ _ (congrArg (fun b => AV.v (Value.bool b)) hg1_4) rfl),
          st_skip 4 16 _ false rfl rfl rfl rfl (List.Mem.head _),
          st_skip 4 16 _ false rfl rfl rfl rfl (List.Mem.head _),
          st_skip 4 16 _ false rfl rfl rfl rfl (List.Mem.head _),
          st_skip 4 16 _ false rfl rfl rfl rfl (List.Mem.head _),
          st_plain rfl (op_pick _ _ true _ rfl rfl),
          st_plain rfl (op_move _ _ _ _ rfl rfl),
          st_skip 10 22 _ false rfl rfl rfl rfl (List.Mem.head _),
          st_skip 10 22 _ false rfl rfl rfl rfl (List.Mem.head _),
          st_skip 10 22 _ false rfl rfl rfl rfl (List.Mem.head _),
          st_plain rfl (op_pick _ _ true _ rfl rfl),
          trivial⟩ ?_
      exact hl4 _ (Option.some.inj h).symm
    · refine cond_some h (fun hg1_10 h => ?_) (fun hg1_10 h => ?_)
      · refine ht_seqR hn (El := (_ :: _ :: (12, .ptr 2 1) :: (13, .fl .shr 1 (List.map (Value.int .u8) s.Data)) :: (14, .v (.int .i64 (s.Data.length : Int))) :: (15, .v (.bool ((decide (5100 < (s.Data.length : Int)))))) :: (16, .v (.bool false)) :: (17, .ptr 3 4) :: (18, .fl .shr 1 (List.map (Value.int .u8) f.Data)) :: (19, .v (.int .i64 (f.Data.length : Int))) :: (20, .v (.bool ((decide (300 < (f.Data.length : Int)))))) :: (21, .v (.bool ((decide (300 < (f.Data.length : Int)))))) :: (22, .v (.bool true)) :: (23, .v undef) :: (24, .v undef) :: (25, .v undef) :: (26, .v (.bool true)) :: [])) (init := [0, 1]) (fin := [0, 1, 16]) (sps := (⟨[0], [], [2], [(.slot 12)]⟩ :: ⟨[2, 0], [], [3], [(.slot 13)]⟩ :: ⟨[3], [], [4], [(.slot 14)]⟩ :: ⟨[4], [], [5], [(.slot 15)]⟩ :: ⟨[5], [], [6], [(.slot 16)]⟩ :: ⟨[6, 1], [], [7], [(.slot 17)]⟩ :: ⟨[6, 7, 1], [], [8], [(.slot 18)]⟩ :: ⟨[6, 8], [], [9], [(.slot 19)]⟩ :: ⟨[6, 9], [], [10], [(.slot 20)]⟩ :: ⟨[6, 10], [], [11], [(.slot 21)]⟩ :: ⟨[11], [], [12], [(.slot 22)]⟩ :: ⟨[12], [], [13], [(.slot 23)]⟩ :: ⟨[12], [], [14], [(.slot 24)]⟩ :: ⟨[12], [], [15], [(.slot 25)]⟩ :: ⟨[12], [], [16], [(.slot 26)]⟩ :: [])) (es' := [(_, _), (_, _), (26, .v (.bool true))]) (by kernel_rfl) rfl rfl
          ⟨st_plain rfl (op_fieldAddr _ _ _ _ 2 0 _ Try.underlying24 rfl sz22 rfl rfl (by decide)),
            st_plain rfl (op_load _ _ _ _ _ _ Try.underlying22 rfl rfl rfl (Nat.le_of_ble_eq_true rfl) rfl rfl rfl),
            st_plain rfl (op_len_fl _ _ _ Try.underlying22 rfl (by decide) (map_len _)),
            st_plain rfl (op_bin _ _ _ _ _ rfl rfl rfl),
            st_plain rfl (op_move _ _ _ _ (congrArg (fun b => AV.v (Value.bool b)) hg1_4) rfl),
            st_run 4 16 false rfl rfl rfl (List.Mem.head _) (op_fieldAddr _ _ _ _ 3 0 _ Try.underlying26 rfl sz22 rfl rfl (by decide)),
            st_run 4 16 false rfl rfl rfl (List.Mem.head _) (op_load _ _ _ _ _ _ Try.underlying22 rfl rfl rfl (Nat.le_of_ble_eq_true rfl) rfl rfl rfl),
            st_run 4 16 false rfl rfl rfl (List.Mem.head _) (op_len_fl _ _ _ Try.underlying22 rfl (by decide) (map_len _)),
            st_run 4 16 false rfl rfl rfl (List.Mem.head _) (op_bin _ _ _ _ _ rfl rfl rfl),
            st_plain rfl (op_pick _ _ false _ rfl rfl),
            st_plain rfl (op_move _ _ _ _ (congrArg (fun b => AV.v (Value.bool b)) hg1_10) rfl),
            st_skip 10 22 _ false rfl rfl rfl rfl (List.Mem.head _),
            st_skip 10 22 _ false rfl rfl rfl rfl (List.Mem.head _),
            st_skip 10 22 _ false rfl rfl rfl rfl (List.Mem.head _),
            st_plain rfl (op_pick _ _ true _ rfl rfl),
            trivial⟩ ?_
        exact hl4 _ (Option.some.inj h).symm
      · obtain ⟨v1, hv1, h⟩ := bind_some h
        refine ht_seqR hn (El := (_ :: _ :: (12, .ptr 2 1) :: (13, .fl .shr 1 (List.map (Value.int .u8) s.Data)) :: (14, .v (.int .i64 (s.Data.length : Int))) :: (15, .v (.bool ((decide (5100 < (s.Data.length : Int)))))) :: (16, .v (.bool false)) :: (17, .ptr 3 4) :: (18, .fl .shr 1 (List.map (Value.int .u8) f.Data)) :: (19, .v (.int .i64 (f.Data.length : Int))) :: (20, .v (.bool ((decide (300 < (f.Data.length : Int)))))) :: (21, .v (.bool ((decide (300 < (f.Data.length : Int)))))) :: (22, .v (.bool false)) :: (23, .agg [.v (.int .i64 s.Number), .fl .shr 1 (List.map (Value.int .u8) s.Data), .v (.bool s.Ready), .v (.int .i64 s.Base), .v (.int .i64 s.Next), .v (.int .i64 s.Wait), .v (.bool s.Over)]) :: (24, .v (.bool v1)) :: (25, .v (.bool (!v1))) :: (26, .v (.bool (!v1))) :: [])) (init := [0, 1]) (fin := [0, 1, 16]) (sps := (⟨[0], [], [2], [(.slot 12)]⟩ :: ⟨[2, 0], [], [3], [(.slot 13)]⟩ :: ⟨[3], [], [4], [(.slot 14)]⟩ :: ⟨[4], [], [5], [(.slot 15)]⟩ :: ⟨[5], [], [6], [(.slot 16)]⟩ :: ⟨[6, 1], [], [7], [(.slot 17)]⟩ :: ⟨[6, 7, 1], [], [8], [(.slot 18)]⟩ :: ⟨[6, 8], [], [9], [(.slot 19)]⟩ :: ⟨[6, 9], [], [10], [(.slot 20)]⟩ :: ⟨[6, 10], [], [11], [(.slot 21)]⟩ :: ⟨[11], [], [12], [(.slot 22)]⟩ :: ⟨[12, 0], [], [13], [(.slot 23)]⟩ :: ⟨[12, 13], [], [14], [(.slot 24)]⟩ :: ⟨[12, 14], [], [15], [(.slot 25)]⟩ :: ⟨[12, 15], [], [16], [(.slot 26)]⟩ :: [])) (es' := [(_, _), (_, _), (26, .v (.bool (!v1)))]) (by kernel_rfl) rfl rfl
          ⟨st_plain rfl (op_fieldAddr _ _ _ _ 2 0 _ Try.underlying24 rfl sz22 rfl rfl (by decide)),
            st_plain rfl (op_load _ _ _ _ _ _ Try.underlying22 rfl rfl rfl (Nat.le_of_ble_eq_true rfl) rfl rfl rfl),
            st_plain rfl (op_len_fl _ _ _ Try.underlying22 rfl (by decide) (map_len _)),
            st_plain rfl (op_bin _ _ _ _ _ rfl rfl rfl),
            st_plain rfl (op_move _ _ _ _ (congrArg (fun b => AV.v (Value.bool b)) hg1_4) rfl),
            st_run 4 16 false rfl rfl rfl (List.Mem.head _) (op_fieldAddr _ _ _ _ 3 0 _ Try.underlying26 rfl sz22 rfl rfl (by decide)),
            st_run 4 16 false rfl rfl rfl (List.Mem.head _) (op_load _ _ _ _ _ _ Try.underlying22 rfl rfl rfl (Nat.le_of_ble_eq_true rfl) rfl rfl rfl),
            st_run 4 16 false rfl rfl rfl (List.Mem.head _) (op_len_fl _ _ _ Try.underlying22 rfl (by decide) (map_len _)),
            st_run 4 16 false rfl rfl rfl (List.Mem.head _) (op_bin _ _ _ _ _ rfl rfl rfl),
            st_plain rfl (op_pick _ _ false _ rfl rfl),
            st_plain rfl (op_move _ _ _ _ (congrArg (fun b => AV.v (Value.bool b)) hg1_10) rfl),
            st_run 10 22 false rfl rfl rfl (List.Mem.head _) (op_loadA _ _ _ _ _ _ _ Try.underlying24 rfl sz24 rfl rfl (Nat.le_of_ble_eq_true rfl) rfl rfl),
            st_run 10 22 false rfl rfl rfl (List.Mem.head _) (op_call _ _ 13 _ _ rfl Try.call13 rfl (ok_wherryref18_Send s _ hv1) rfl rfl),
            st_run 10 22 false rfl rfl rfl (List.Mem.head _) (op_un _ _ _ _ rfl rfl),
            st_plain rfl (op_pick _ _ false _ rfl rfl),
            trivial⟩ ?_
        exact hl4 _ (Option.some.inj h).symm

end Go.Proofs.Ytdligpdfcfbgpaa
