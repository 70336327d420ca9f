/-
  The model's runs are what is told in Lean.
-/
import Derived.Test.YtenfngliiibiiaaProg
import Derived.KernelRfl
import Derived.Test.YtenfngliiibiiaaOk2
set_option linter.unusedVariables false
namespace Go.Proofs.Ytenfngliiibiiaa
open Go.Abs Go.Abs.Sh

set_option maxHeartbeats 1000000 in
theorem ok_wherrylaw20_FrameWrong (f : T_Frame) (how : Int) (r : Bool) (h : Sh.wherrylaw20_FrameWrong f how = some r) : FnOK Try.prog 8 [.agg [.v (.int .i64 f.Kind), .v (.int .i64 f.Number), .v (.int .i64 f.Offset), .v (.int .i64 f.Seq), .fl .shr 1 (List.map (Value.int .u8) f.Data)], .v (.int .i64 how)] (.v (.bool r)) := by
  unfold Sh.wherrylaw20_FrameWrong at h
  refine fn_ok Try.func8 rfl (Nat.le_of_ble_eq_true rfl) rfl rfl fun g0 hn hio => ?_
  refine ht_seq ?_
  refine ht_seqR hn (El := [_, _, (2, .box 24 [.v (.int .i64 f.Kind), .v (.int .i64 f.Number), .v (.int .i64 f.Offset), .v (.int .i64 f.Seq), .fl .shr 1 (List.map (Value.int .u8) f.Data)]), (4, .v (.bool false))]) (init := [0, 1]) (fin := [1, 2]) (sps := [⟨[0], [], [2], [(.slot 2)]⟩, ⟨[], [], [3], [(.slot 4)]⟩]) (es' := [(_, _), (2, .box 24 [.v (.int .i64 f.Kind), .v (.int .i64 f.Number), .v (.int .i64 f.Offset), .v (.int .i64 f.Seq), .fl .shr 1 (List.map (Value.int .u8) f.Data)])]) (by kernel_rfl) rfl rfl
    ⟨st_plain rfl (op_box _ _ _ _ rfl rfl rfl),
      st_plain rfl (op_assign _ _ _ _ rfl rfl),
      trivial⟩ ?_
  refine pt_then ?_
  refine ht_seq ?_
  refine ht_seq ?_
  refine ht_joinS h (fun (s2 : Bool) => [(1, .v (.int .i64 how)), (2, .box 24 [.v (.int .i64 f.Kind), .v (.int .i64 f.Number), .v (.int .i64 f.Offset), .v (.int .i64 f.Seq), .fl .shr 1 (List.map (Value.int .u8) f.Data)]), (16, .v (.bool s2))]) ?_ ?_
  · rintro s2 h
    refine pt_then ?_
    refine ht_cond _ rfl (fun hb6 => ?_) (fun hb6 => ?_)
    · have h := cond_t hb6 h
      refine ht_seq ?_
      refine ht_seqR hn (El := [_, _, _, (4, .v (.bool true))]) (init := [0, 1, 2]) (fin := [3]) (sps := [⟨[], [], [3], [(.slot 4)]⟩]) (es' := [(4, .v (.bool true))]) (by kernel_rfl) rfl rfl
        ⟨st_plain rfl (op_assign _ _ _ _ rfl rfl),
          trivial⟩ ?_
      refine pt_then ?_
      refine ht_ret ?_
      refine pt_r_then ?_
      obtain rfl := Option.some.inj h
      exact pt_ret hio rfl (.tmp _ _ .nil) rfl rfl
    · have h := cond_f hb6 h
      refine ht_skip ?_
      refine pt_then ?_
      refine ht_seq ?_
      obtain ⟨v7, hv7, h⟩ := bind_some h
      refine ht_seqR hn (El := [_, _, _, (17, .agg [.v (.int .i64 f.Kind), .v (.int .i64 f.Number), .v (.int .i64 f.Offset), .v (.int .i64 f.Seq), .fl .shr 1 (List.map (Value.int .u8) f.Data)]), (18, .agg [.v (.int .i64 v7.Kind), .v (.int .i64 v7.Number), .v (.int .i64 v7.Offset), .v (.int .i64 v7.Seq), .fl (.own 5) 1 (List.map (Value.int .u8) v7.Data)]), (5, .box 24 [.v (.int .i64 0), .v (.int .i64 0), .v (.int .i64 0), .v (.int .i64 0), .v (.slice none 0 0)]), (5, .box 24 [.v (.int .i64 v7.Kind), .v (.int .i64 v7.Number), .v (.int .i64 v7.Offset), .v (.int .i64 v7.Seq), .fl (.own 5) 1 (List.map (Value.int .u8) v7.Data)])]) (init := [0, 1, 2]) (fin := [0, 1, 6]) (sps := [⟨[1], [], [3], [(.slot 17)]⟩, ⟨[3], [], [4], [(.slot 18)]⟩, ⟨[], [], [5], [(.slot 5)]⟩, ⟨[], [4, 5], [6], [.cell 5 0, .cell 5 1, .cell 5 2, .cell 5 3, .cell 5 4]⟩]) (es' := [(_, _), (_, _), (5, .box 24 [.v (.int .i64 v7.Kind), .v (.int .i64 v7.Number), .v (.int .i64 v7.Offset), .v (.int .i64 v7.Seq), .fl (.own 5) 1 (List.map (Value.int .u8) v7.Data)])]) (by kernel_rfl) rfl rfl
        ⟨st_plain rfl (op_loadA _ _ _ _ _ _ _ Try.underlying24 rfl sz24 rfl rfl (Nat.le_of_ble_eq_true rfl) rfl rfl),
          st_plain rfl (op_call _ _ 10 _ _ rfl Try.call10 rfl (ok_wherrykeep_TwinFrame f _ hv7) rfl rfl),
          st_plain rfl (op_alloc _ _ zr24),
          st_plain rfl (op_store_take _ _ _ _ _ _ _ _ sz24 rfl rfl rfl (Nat.le_of_ble_eq_true rfl) rfl rfl),
          trivial⟩ ?_
      refine pt_then ?_
      refine ht_seq ?_
      refine ht_joinS h (fun ((s50, s51, s52, s53, s54) : Int × Int × Int × Int × (List Int)) => [(2, .box 24 [.v (.int .i64 f.Kind), .v (.int .i64 f.Number), .v (.int .i64 f.Offset), .v (.int .i64 f.Seq), .fl .shr 1 (List.map (Value.int .u8) f.Data)]), (5, .box 24 [.v (.int .i64 s50), .v (.int .i64 s51), .v (.int .i64 s52), .v (.int .i64 s53), .fl (.own 5) 1 (List.map (Value.int .u8) s54)])]) ?_ ?_
      · rintro ⟨s50, s51, s52, s53, s54⟩ h
        refine pt_then ?_
        refine ht_seq ?_
        obtain ⟨v98, hv98, h⟩ := bind_some h
        refine ht_seqR hn (El := [_, _, (62, .agg [.v (.int .i64 s50), .v (.int .i64 s51), .v (.int .i64 s52), .v (.int .i64 s53), .same (.cell 5 4)]), (63, .tup [.fl (.own 5) 1 (List.map (Value.int .u8) v98.1), .v (.int .i64 v98.2)]), (61, .tup [.fl (.own 5) 1 (List.map (Value.int .u8) v98.1), .v (.int .i64 v98.2)]), (64, .fl (.own 5) 1 (List.map (Value.int .u8) v98.1)), (61, .tup [.any, .v (.int .i64 v98.2)]), (65, .v (.int .i64 v98.2)), (6, .fl (.own 5) 1 (List.map (Value.int .u8) v98.1)), (7, .v (.int .i64 v98.2))]) (init := [0, 1]) (fin := [0, 1, 8, 9]) (sps := [⟨[1], [], [2], [(.slot 62)]⟩, ⟨[2, 1], [], [3], [(.slot 63)]⟩, ⟨[], [3], [4], [(.slot 61)]⟩, ⟨[], [4], [6, 5], [(.slot 64)]⟩, ⟨[6], [], [7], [(.slot 65)]⟩, ⟨[], [5], [8], [(.slot 6)]⟩, ⟨[7], [], [9], [(.slot 7)]⟩]) (es' := [(_, _), (_, _), (6, .fl (.own 5) 1 (List.map (Value.int .u8) v98.1)), (7, .v (.int .i64 v98.2))]) (by kernel_rfl) rfl rfl
          ⟨st_plain rfl (op_loadA _ _ _ _ _ _ _ Try.underlying24 rfl sz24 rfl rfl (Nat.le_of_ble_eq_true rfl) rfl rfl),
            st_plain rfl (op_call _ _ 12 _ _ rfl Try.call12 rfl (ok_frame_Bytes (T_Frame.mk s50 s51 s52 s53 s54) _ hv98) rfl rfl),
            st_plain rfl (op_move_take _ _ _ _ rfl),
            st_plain rfl (op_extract_take _ _ _ _ _ rfl (Nat.le_of_ble_eq_true rfl) rfl rfl (by decide) rfl),
            st_plain rfl (op_extract _ _ _ _ _ rfl rfl (Nat.le_of_ble_eq_true rfl) rfl rfl),
            st_plain rfl (op_assign_take _ _ _ _ rfl),
            st_plain rfl (op_assign _ _ _ _ rfl rfl),
            trivial⟩ ?_
        refine pt_then ?_
        refine ht_seq ?_
        refine ht_joinS h (fun (s102 : Bool) => [(4, .v (.bool s102))]) ?_ ?_
        · rintro s102 h
          refine pt_then ?_
          refine ht_ret ?_
          obtain rfl := Option.some.inj h
          exact pt_ret hio rfl (.tmp _ _ .nil) rfl rfl
        · intro u103 h hl104 hr105
          obtain ⟨v99, hv99, h⟩ := bind_some h
          refine cond_some h (fun hg23_3 h => ?_) (fun hg23_3 h => ?_)
          · obtain ⟨v100, hv100, h⟩ := bind_some h
            refine cond_some h (fun hg23_8 h => ?_) (fun hg23_8 h => ?_)
            · refine cond_some h (fun hg23_12 h => ?_) (fun hg23_12 h => ?_)
              · refine cond_some h (fun hg23_17 h => ?_) (fun hg23_17 h => ?_)
                · obtain ⟨v101, hv101, h⟩ := bind_some h
                  refine ht_seqR hn (El := (_ :: _ :: _ :: _ :: (66, .agg [.v (.int .i64 f.Kind), .v (.int .i64 f.Number), .v (.int .i64 f.Offset), .v (.int .i64 f.Seq), .fl .shr 1 (List.map (Value.int .u8) f.Data)]) :: (67, .v (.int .i64 v99)) :: (68, .v (.bool (v99 == 0))) :: (69, .v (.bool true)) :: (70, .agg [.v (.int .i64 s50), .v (.int .i64 s51), .v (.int .i64 s52), .v (.int .i64 s53), .fl (.own 5) 1 (List.map (Value.int .u8) s54)]) :: (71, .v (.int .i64 v100)) :: (72, .v (.bool (v100 == 1))) :: (73, .v (.bool (v100 == 1))) :: (74, .v (.bool true)) :: (75, .v (.int .i64 v98.2)) :: (76, .v (.bool (v98.2 == 1))) :: (77, .v (.bool (v98.2 == 1))) :: (78, .v (.bool true)) :: (79, .fl (.own 5) 1 (List.map (Value.int .u8) v98.1)) :: (80, .v (.int .i64 (v98.1.length : Int))) :: (81, .v (.bool (((v98.1.length : Int) == 0)))) :: (82, .v (.bool (((v98.1.length : Int) == 0)))) :: (83, .v (.bool true)) :: (84, .v (.bool v101)) :: (85, .v (.bool v101)) :: (4, .v (.bool v101)) :: [])) (init := [0, 1, 2, 3]) (fin := [24]) (sps := (⟨[0], [], [4], [(.slot 66)]⟩ :: ⟨[4], [], [5], [(.slot 67)]⟩ :: ⟨[5], [], [6], [(.slot 68)]⟩ :: ⟨[6], [], [7], [(.slot 69)]⟩ :: ⟨[7], [1], [8], [(.slot 70)]⟩ :: ⟨[7, 8], [], [9], [(.slot 71)]⟩ :: ⟨[7, 9], [], [10], [(.slot 72)]⟩ :: ⟨[7, 10], [], [11], [(.slot 73)]⟩ :: ⟨[11], [], [12], [(.slot 74)]⟩ :: ⟨[12, 3], [], [13], [(.slot 75)]⟩ :: ⟨[12, 13], [], [14], [(.slot 76)]⟩ :: ⟨[12, 14], [], [15], [(.slot 77)]⟩ :: ⟨[15], [], [16], [(.slot 78)]⟩ :: ⟨[16], [2], [17], [(.slot 79)]⟩ :: ⟨[16, 17], [], [18], [(.slot 80)]⟩ :: ⟨[16, 18], [], [19], [(.slot 81)]⟩ :: ⟨[16, 19], [], [20], [(.slot 82)]⟩ :: ⟨[20], [], [21], [(.slot 83)]⟩ :: ⟨[21], [], [22], [(.slot 84)]⟩ :: ⟨[21, 22], [], [23], [(.slot 85)]⟩ :: ⟨[23], [], [24], [(.slot 4)]⟩ :: [])) (es' := [(4, .v (.bool v101))]) (by kernel_rfl) rfl rfl
                    ⟨st_plain rfl (op_loadA _ _ _ _ _ _ _ Try.underlying24 rfl sz24 rfl rfl (Nat.le_of_ble_eq_true rfl) rfl rfl),
                      st_plain rfl (op_call _ _ 16 _ _ rfl Try.call16 rfl (ok_frame_Check f _ hv99) rfl rfl),
                      st_plain rfl (op_bin _ _ _ _ _ rfl rfl rfl),
                      st_plain rfl (op_move _ _ _ _ (congrArg (fun b => AV.v (Value.bool b)) hg23_3) rfl),
                      st_run 3 69 true rfl rfl rfl (List.Mem.head _) (op_loadA_take _ _ _ _ Try.underlying24 rfl sz24 rfl rfl),
                      st_run 3 69 true rfl rfl rfl (List.Mem.head _) (op_call _ _ 16 _ _ rfl Try.call16 rfl (ok_frame_Check (T_Frame.mk s50 s51 s52 s53 s54) _ hv100) rfl rfl),
                      st_run 3 69 true rfl rfl rfl (List.Mem.head _) (op_bin _ _ _ _ _ rfl rfl rfl),
                      st_plain rfl (op_pick _ _ true _ rfl rfl),
                      st_plain rfl (op_move _ _ _ _ (congrArg (fun b => AV.v (Value.bool b)) hg23_8) rfl),
                      st_run 8 74 true rfl rfl rfl (List.Mem.head _) (op_move _ _ _ _ rfl rfl),
                      st_run 8 74 true rfl rfl rfl (List.Mem.head _) (op_bin _ _ _ _ _ rfl rfl rfl),
                      st_plain rfl (op_pick _ _ true _ rfl rfl),
                      st_plain rfl (op_move _ _ _ _ (congrArg (fun b => AV.v (Value.bool b)) hg23_12) rfl),
                      st_run 12 78 true rfl rfl rfl (List.Mem.head _) (op_move_take _ _ _ _ rfl),
                      st_run 12 78 true rfl rfl rfl (List.Mem.head _) (op_len_fl _ _ _ Try.underlying22 rfl (by decide) (map_len _)),
                      st_run 12 78 true rfl rfl rfl (List.Mem.head _) (op_bin _ _ _ _ _ rfl rfl rfl),
                      st_plain rfl (op_pick _ _ true _ rfl rfl),
                      st_plain rfl (op_move _ _ _ _ (congrArg (fun b => AV.v (Value.bool b)) hg23_17) rfl),
                      st_run 17 83 true rfl rfl rfl (List.Mem.head _) (op_call _ _ 23 _ _ rfl Try.call23 rfl (ok_wherrylaw20_wakes  _ hv101) rfl rfl),
                      st_plain rfl (op_pick _ _ true _ rfl rfl),
                      st_plain rfl (op_assign _ _ _ _ rfl rfl),
                      trivial⟩ ?_
                  exact hl104 _ (Option.some.inj h).symm
                · refine ht_seqR hn (El := (_ :: _ :: _ :: _ :: (66, .agg [.v (.int .i64 f.Kind), .v (.int .i64 f.Number), .v (.int .i64 f.Offset), .v (.int .i64 f.Seq), .fl .shr 1 (List.map (Value.int .u8) f.Data)]) :: (67, .v (.int .i64 v99)) :: (68, .v (.bool (v99 == 0))) :: (69, .v (.bool true)) :: (70, .agg [.v (.int .i64 s50), .v (.int .i64 s51), .v (.int .i64 s52), .v (.int .i64 s53), .fl (.own 5) 1 (List.map (Value.int .u8) s54)]) :: (71, .v (.int .i64 v100)) :: (72, .v (.bool (v100 == 1))) :: (73, .v (.bool (v100 == 1))) :: (74, .v (.bool true)) :: (75, .v (.int .i64 v98.2)) :: (76, .v (.bool (v98.2 == 1))) :: (77, .v (.bool (v98.2 == 1))) :: (78, .v (.bool true)) :: (79, .fl (.own 5) 1 (List.map (Value.int .u8) v98.1)) :: (80, .v (.int .i64 (v98.1.length : Int))) :: (81, .v (.bool (((v98.1.length : Int) == 0)))) :: (82, .v (.bool (((v98.1.length : Int) == 0)))) :: (83, .v (.bool false)) :: (84, .v undef) :: (85, .v (.bool false)) :: (4, .v (.bool false)) :: [])) (init := [0, 1, 2, 3]) (fin := [24]) (sps := (⟨[0], [], [4], [(.slot 66)]⟩ :: ⟨[4], [], [5], [(.slot 67)]⟩ :: ⟨[5], [], [6], [(.slot 68)]⟩ :: ⟨[6], [], [7], [(.slot 69)]⟩ :: ⟨[7], [1], [8], [(.slot 70)]⟩ :: ⟨[7, 8], [], [9], [(.slot 71)]⟩ :: ⟨[7, 9], [], [10], [(.slot 72)]⟩ :: ⟨[7, 10], [], [11], [(.slot 73)]⟩ :: ⟨[11], [], [12], [(.slot 74)]⟩ :: ⟨[12, 3], [], [13], [(.slot 75)]⟩ :: ⟨[12, 13], [], [14], [(.slot 76)]⟩ :: ⟨[12, 14], [], [15], [(.slot 77)]⟩ :: ⟨[15], [], [16], [(.slot 78)]⟩ :: ⟨[16], [2], [17], [(.slot 79)]⟩ :: ⟨[16, 17], [], [18], [(.slot 80)]⟩ :: ⟨[16, 18], [], [19], [(.slot 81)]⟩ :: ⟨[16, 19], [], [20], [(.slot 82)]⟩ :: ⟨[20], [], [21], [(.slot 83)]⟩ :: ⟨[21], [], [22], [(.slot 84)]⟩ :: ⟨[21], [], [23], [(.slot 85)]⟩ :: ⟨[23], [], [24], [(.slot 4)]⟩ :: [])) (es' := [(4, .v (.bool false))]) (by kernel_rfl) rfl rfl
                    ⟨st_plain rfl (op_loadA _ _ _ _ _ _ _ Try.underlying24 rfl sz24 rfl rfl (Nat.le_of_ble_eq_true rfl) rfl rfl),
                      st_plain rfl (op_call _ _ 16 _ _ rfl Try.call16 rfl (ok_frame_Check f _ hv99) rfl rfl),
                      st_plain rfl (op_bin _ _ _ _ _ rfl rfl rfl),
                      st_plain rfl (op_move _ _ _ _ (congrArg (fun b => AV.v (Value.bool b)) hg23_3) rfl),
                      st_run 3 69 true rfl rfl rfl (List.Mem.head _) (op_loadA_take _ _ _ _ Try.underlying24 rfl sz24 rfl rfl),
                      st_run 3 69 true rfl rfl rfl (List.Mem.head _) (op_call _ _ 16 _ _ rfl Try.call16 rfl (ok_frame_Check (T_Frame.mk s50 s51 s52 s53 s54) _ hv100) rfl rfl),
                      st_run 3 69 true rfl rfl rfl (List.Mem.head _) (op_bin _ _ _ _ _ rfl rfl rfl),
                      st_plain rfl (op_pick _ _ true _ rfl rfl),
                      st_plain rfl (op_move _ _ _ _ (congrArg (fun b => AV.v (Value.bool b)) hg23_8) rfl),
                      st_run 8 74 true rfl rfl rfl (List.Mem.head _) (op_move _ _ _ _ rfl rfl),
                      st_run 8 74 true rfl rfl rfl (List.Mem.head _) (op_bin _ _ _ _ _ rfl rfl rfl),
                      st_plain rfl (op_pick _ _ true _ rfl rfl),
                      st_plain rfl (op_move _ _ _ _ (congrArg (fun b => AV.v (Value.bool b)) hg23_12) rfl),
                      st_run 12 78 true rfl rfl rfl (List.Mem.head _) (op_move_take _ _ _ _ rfl),
                      st_run 12 78 true rfl rfl rfl (List.Mem.head _) (op_len_fl _ _ _ Try.underlying22 rfl (by decide) (map_len _)),
                      st_run 12 78 true rfl rfl rfl (List.Mem.head _) (op_bin _ _ _ _ _ rfl rfl rfl),
                      st_plain rfl (op_pick _ _ true _ rfl rfl),
                      st_plain rfl (op_move _ _ _ _ (congrArg (fun b => AV.v (Value.bool b)) hg23_17) rfl),
                      st_skip 17 83 _ true rfl rfl rfl rfl (List.Mem.head _),
                      st_plain rfl (op_pick _ _ false _ rfl rfl),
                      st_plain rfl (op_assign _ _ _ _ rfl rfl),
                      trivial⟩ ?_
                  exact hl104 _ (Option.some.inj h).symm
              · refine ht_seqR hn (El := (_ :: _ :: _ :: _ :: (66, .agg [.v (.int .i64 f.Kind), .v (.int .i64 f.Number), .v (.int .i64 f.Offset), .v (.int .i64 f.Seq), .fl .shr 1 (List.map (Value.int .u8) f.Data)]) :: (67, .v (.int .i64 v99)) :: (68, .v (.bool (v99 == 0))) :: (69, .v (.bool true)) :: (70, .agg [.v (.int .i64 s50), .v (.int .i64 s51), .v (.int .i64 s52), .v (.int .i64 s53), .fl (.own 5) 1 (List.map (Value.int .u8) s54)]) :: (71, .v (.int .i64 v100)) :: (72, .v (.bool (v100 == 1))) :: (73, .v (.bool (v100 == 1))) :: (74, .v (.bool true)) :: (75, .v (.int .i64 v98.2)) :: (76, .v (.bool (v98.2 == 1))) :: (77, .v (.bool (v98.2 == 1))) :: (78, .v (.bool false)) :: (79, .v undef) :: (80, .v undef) :: (81, .v undef) :: (82, .v (.bool false)) :: (83, .v (.bool false)) :: (84, .v undef) :: (85, .v (.bool false)) :: (4, .v (.bool false)) :: [])) (init := [0, 1, 2, 3]) (fin := [24]) (sps := (⟨[0], [], [4], [(.slot 66)]⟩ :: ⟨[4], [], [5], [(.slot 67)]⟩ :: ⟨[5], [], [6], [(.slot 68)]⟩ :: ⟨[6], [], [7], [(.slot 69)]⟩ :: ⟨[7], [1], [8], [(.slot 70)]⟩ :: ⟨[7, 8], [], [9], [(.slot 71)]⟩ :: ⟨[7, 9], [], [10], [(.slot 72)]⟩ :: ⟨[7, 10], [], [11], [(.slot 73)]⟩ :: ⟨[11], [], [12], [(.slot 74)]⟩ :: ⟨[12, 3], [], [13], [(.slot 75)]⟩ :: ⟨[12, 13], [], [14], [(.slot 76)]⟩ :: ⟨[12, 14], [], [15], [(.slot 77)]⟩ :: ⟨[15], [], [16], [(.slot 78)]⟩ :: ⟨[16], [], [17], [(.slot 79)]⟩ :: ⟨[16], [], [18], [(.slot 80)]⟩ :: ⟨[16], [], [19], [(.slot 81)]⟩ :: ⟨[16], [], [20], [(.slot 82)]⟩ :: ⟨[20], [], [21], [(.slot 83)]⟩ :: ⟨[21], [], [22], [(.slot 84)]⟩ :: ⟨[21], [], [23], [(.slot 85)]⟩ :: ⟨[23], [], [24], [(.slot 4)]⟩ :: [])) (es' := [(4, .v (.bool false))]) (by kernel_rfl) rfl rfl
                  ⟨st_plain rfl (op_loadA _ _ _ _ _ _ _ Try.underlying24 rfl sz24 rfl rfl (Nat.le_of_ble_eq_true rfl) rfl rfl),
                    st_plain rfl (op_call _ _ 16 _ _ rfl Try.call16 rfl (ok_frame_Check f _ hv99) rfl rfl),
                    st_plain rfl (op_bin _ _ _ _ _ rfl rfl rfl),
                    st_plain rfl (op_move _ _ _ _ (congrArg (fun b => AV.v (Value.bool b)) hg23_3) rfl),
                    st_run 3 69 true rfl rfl rfl (List.Mem.head _) (op_loadA_take _ _ _ _ Try.underlying24 rfl sz24 rfl rfl),
                    st_run 3 69 true rfl rfl rfl (List.Mem.head _) (op_call _ _ 16 _ _ rfl Try.call16 rfl (ok_frame_Check (T_Frame.mk s50 s51 s52 s53 s54) _ hv100) rfl rfl),
                    st_run 3 69 true rfl rfl rfl (List.Mem.head _) (op_bin _ _ _ _ _ rfl rfl rfl),
                    st_plain rfl (op_pick _ _ true _ rfl rfl),
                    st_plain rfl (op_move _ _ _ _ (congrArg (fun b => AV.v (Value.bool b)) hg23_8) rfl),
                    st_run 8 74 true rfl rfl rfl (List.Mem.head _) (op_move _ _ _ _ rfl rfl),
                    st_run 8 74 true rfl rfl rfl (List.Mem.head _) (op_bin _ _ _ _ _ rfl rfl rfl),
                    st_plain rfl (op_pick _ _ true _ rfl rfl),
                    st_plain rfl (op_move _ _ _ _ (congrArg (fun b => AV.v (Value.bool b)) hg23_12) rfl),
                    st_skip 12 78 _ true rfl rfl rfl rfl (List.Mem.head _),
                    st_skip 12 78 _ true rfl rfl rfl rfl (List.Mem.head _),
                    st_skip 12 78 _ true rfl rfl rfl rfl (List.Mem.head _),
                    st_plain rfl (op_pick _ _ false _ rfl rfl),
                    st_plain rfl (op_move _ _ _ _ rfl rfl),
                    st_skip 17 83 _ true rfl rfl rfl rfl (List.Mem.head _),
                    st_plain rfl (op_pick _ _ false _ rfl rfl),
                    st_plain rfl (op_assign _ _ _ _ rfl rfl),
                    trivial⟩ ?_
                exact hl104 _ (Option.some.inj h).symm
            · refine ht_seqR hn (El := (_ :: _ :: _ :: _ :: (66, .agg [.v (.int .i64 f.Kind), .v (.int .i64 f.Number), .v (.int .i64 f.Offset), .v (.int .i64 f.Seq), .fl .shr 1 (List.map (Value.int .u8) f.Data)]) :: (67, .v (.int .i64 v99)) :: (68, .v (.bool (v99 == 0))) :: (69, .v (.bool true)) :: (70, .agg [.v (.int .i64 s50), .v (.int .i64 s51), .v (.int .i64 s52), .v (.int .i64 s53), .fl (.own 5) 1 (List.map (Value.int .u8) s54)]) :: (71, .v (.int .i64 v100)) :: (72, .v (.bool (v100 == 1))) :: (73, .v (.bool (v100 == 1))) :: (74, .v (.bool false)) :: (75, .v undef) :: (76, .v undef) :: (77, .v (.bool false)) :: (78, .v (.bool false)) :: (79, .v undef) :: (80, .v undef) :: (81, .v undef) :: (82, .v (.bool false)) :: (83, .v (.bool false)) :: (84, .v undef) :: (85, .v (.bool false)) :: (4, .v (.bool false)) :: [])) (init := [0, 1, 2, 3]) (fin := [24]) (sps := (⟨[0], [], [4], [(.slot 66)]⟩ :: ⟨[4], [], [5], [(.slot 67)]⟩ :: ⟨[5], [], [6], [(.slot 68)]⟩ :: ⟨[6], [], [7], [(.slot 69)]⟩ :: ⟨[7], [1], [8], [(.slot 70)]⟩ :: ⟨[7, 8], [], [9], [(.slot 71)]⟩ :: ⟨[7, 9], [], [10], [(.slot 72)]⟩ :: ⟨[7, 10], [], [11], [(.slot 73)]⟩ :: ⟨[11], [], [12], [(.slot 74)]⟩ :: ⟨[12], [], [13], [(.slot 75)]⟩ :: ⟨[12], [], [14], [(.slot 76)]⟩ :: ⟨[12], [], [15], [(.slot 77)]⟩ :: ⟨[15], [], [16], [(.slot 78)]⟩ :: ⟨[16], [], [17], [(.slot 79)]⟩ :: ⟨[16], [], [18], [(.slot 80)]⟩ :: ⟨[16], [], [19], [(.slot 81)]⟩ :: ⟨[16], [], [20], [(.slot 82)]⟩ :: ⟨[20], [], [21], [(.slot 83)]⟩ :: ⟨[21], [], [22], [(.slot 84)]⟩ :: ⟨[21], [], [23], [(.slot 85)]⟩ :: ⟨[23], [], [24], [(.slot 4)]⟩ :: [])) (es' := [(4, .v (.bool false))]) (by kernel_rfl) rfl rfl
                ⟨st_plain rfl (op_loadA _ _ _ _ _ _ _ Try.underlying24 rfl sz24 rfl rfl (Nat.le_of_ble_eq_true rfl) rfl rfl),
                  st_plain rfl (op_call _ _ 16 _ _ rfl Try.call16 rfl (ok_frame_Check f _ hv99) rfl rfl),
                  st_plain rfl (op_bin _ _ _ _ _ rfl rfl rfl),
                  st_plain rfl (op_move _ _ _ _ (congrArg (fun b => AV.v (Value.bool b)) hg23_3) rfl),
                  st_run 3 69 true rfl rfl rfl (List.Mem.head _) (op_loadA_take _ _ _ _ Try.underlying24 rfl sz24 rfl rfl),
                  st_run 3 69 true rfl rfl rfl (List.Mem.head _) (op_call _ _ 16 _ _ rfl Try.call16 rfl (ok_frame_Check (T_Frame.mk s50 s51 s52 s53 s54) _ hv100) rfl rfl),
                  st_run 3 69 true rfl rfl rfl (List.Mem.head _) (op_bin _ _ _ _ _ rfl rfl rfl),
                  st_plain rfl (op_pick _ _ true _ rfl rfl),
                  st_plain rfl (op_move _ _ _ _ (congrArg (fun b => AV.v (Value.bool b)) hg23_8) rfl),
                  st_skip 8 74 _ true rfl rfl rfl rfl (List.Mem.head _),
                  st_skip 8 74 _ true rfl rfl rfl rfl (List.Mem.head _),
                  st_plain rfl (op_pick _ _ false _ rfl rfl),
                  st_plain rfl (op_move _ _ _ _ rfl rfl),
                  st_skip 12 78 _ true rfl rfl rfl rfl (List.Mem.head _),
                  st_skip 12 78 _ true rfl rfl rfl rfl (List.Mem.head _),
                  st_skip 12 78 _ true rfl rfl rfl rfl (List.Mem.head _),
                  st_plain rfl (op_pick _ _ false _ rfl rfl),
                  st_plain rfl (op_move _ _ _ _ rfl rfl),
                  st_skip 17 83 _ true rfl rfl rfl rfl (List.Mem.head _),
                  st_plain rfl (op_pick _ _ false _ rfl rfl),
                  st_plain rfl (op_assign _ _ _ _ rfl rfl),
                  trivial⟩ ?_
              exact hl104 _ (Option.some.inj h).symm
          · refine ht_seqR hn (El := (_ :: _ :: _ :: _ :: (66, .agg [.v (.int .i64 f.Kind), .v (.int .i64 f.Number), .v (.int .i64 f.Offset), .v (.int .i64 f.Seq), .fl .shr 1 (List.map (Value.int .u8) f.Data)]) :: (67, .v (.int .i64 v99)) :: (68, .v (.bool (v99 == 0))) :: (69, .v (.bool false)) :: (70, .v undef) :: (71, .v undef) :: (72, .v undef) :: (73, .v (.bool false)) :: (74, .v (.bool false)) :: (75, .v undef) :: (76, .v undef) :: (77, .v (.bool false)) :: (78, .v (.bool false)) :: (79, .v undef) :: (80, .v undef) :: (81, .v undef) :: (82, .v (.bool false)) :: (83, .v (.bool false)) :: (84, .v undef) :: (85, .v (.bool false)) :: (4, .v (.bool false)) :: [])) (init := [0, 1, 2, 3]) (fin := [24]) (sps := (⟨[0], [], [4], [(.slot 66)]⟩ :: ⟨[4], [], [5], [(.slot 67)]⟩ :: ⟨[5], [], [6], [(.slot 68)]⟩ :: ⟨[6], [], [7], [(.slot 69)]⟩ :: ⟨[7], [], [8], [(.slot 70)]⟩ :: ⟨[7], [], [9], [(.slot 71)]⟩ :: ⟨[7], [], [10], [(.slot 72)]⟩ :: ⟨[7], [], [11], [(.slot 73)]⟩ :: ⟨[11], [], [12], [(.slot 74)]⟩ :: ⟨[12], [], [13], [(.slot 75)]⟩ :: ⟨[12], [], [14], [(.slot 76)]⟩ :: ⟨[12], [], [15], [(.slot 77)]⟩ :: ⟨[15], [], [16], [(.slot 78)]⟩ :: ⟨[16], [], [17], [(.slot 79)]⟩ :: ⟨[16], [], [18], [(.slot 80)]⟩ :: ⟨[16], [], [19], [(.slot 81)]⟩ :: ⟨[16], [], [20], [(.slot 82)]⟩ :: ⟨[20], [], [21], [(.slot 83)]⟩ :: ⟨[21], [], [22], [(.slot 84)]⟩ :: ⟨[21], [], [23], [(.slot 85)]⟩ :: ⟨[23], [], [24], [(.slot 4)]⟩ :: [])) (es' := [(4, .v (.bool false))]) (by kernel_rfl) rfl rfl
              ⟨st_plain rfl (op_loadA _ _ _ _ _ _ _ Try.underlying24 rfl sz24 rfl rfl (Nat.le_of_ble_eq_true rfl) rfl rfl),
                st_plain rfl (op_call _ _ 16 _ _ rfl Try.call16 rfl (ok_frame_Check f _ hv99) rfl rfl),
                st_plain rfl (op_bin _ _ _ _ _ rfl rfl rfl),
                st_plain rfl (op_move _ _ _ _ (congrArg (fun b => AV.v (Value.bool b)) hg23_3) rfl),
                st_skip 3 69 _ true rfl rfl rfl rfl (List.Mem.head _),
                st_skip 3 69 _ true rfl rfl rfl rfl (List.Mem.head _),
                st_skip 3 69 _ true rfl rfl rfl rfl (List.Mem.head _),
                st_plain rfl (op_pick _ _ false _ rfl rfl),
                st_plain rfl (op_move _ _ _ _ rfl rfl),
                st_skip 8 74 _ true rfl rfl rfl rfl (List.Mem.head _),
                st_skip 8 74 _ true rfl rfl rfl rfl (List.Mem.head _),
                st_plain rfl (op_pick _ _ false _ rfl rfl),
                st_plain rfl (op_move _ _ _ _ rfl rfl),
                st_skip 12 78 _ true rfl rfl rfl rfl (List.Mem.head _),
                st_skip 12 78 _ true rfl rfl rfl rfl (List.Mem.head _),
                st_skip 12 78 _ true rfl rfl rfl rfl (List.Mem.head _),
                st_plain rfl (op_pick _ _ false _ rfl rfl),
                st_plain rfl (op_move _ _ _ _ rfl rfl),
                st_skip 17 83 _ true rfl rfl rfl rfl (List.Mem.head _),
                st_plain rfl (op_pick _ _ false _ rfl rfl),
                st_plain rfl (op_assign _ _ _ _ rfl rfl),
                trivial⟩ ?_
            exact hl104 _ (Option.some.inj h).symm
      · intro u55 h hl56 hr57
        refine ht_seq ?_
        obtain ⟨v8, hv8, h⟩ := bind_some h
        obtain ⟨v9, hv9, h⟩ := bind_some h
        refine ht_seqR hn (El := [_, _, _, (19, .v (.int .i64 how)), (20, .v (.int .u64 v8)), (21, .v (.int .u64 v9))]) (init := [0, 1, 2]) (fin := [1, 2, 5]) (sps := [⟨[0], [], [3], [(.slot 19)]⟩, ⟨[3], [], [4], [(.slot 20)]⟩, ⟨[4], [], [5], [(.slot 21)]⟩]) (es' := [(_, _), (_, _), (21, .v (.int .u64 v9))]) (by kernel_rfl) rfl rfl
          ⟨st_plain rfl (op_move _ _ _ _ rfl rfl),
            st_plain rfl ((Option.some.inj hv8) ▸ op_conv _ _ _ Try.underlying3 Try.underlying43 rfl),
            st_plain rfl (op_bin _ _ _ _ _ rfl rfl (rem_ok hv9)),
            trivial⟩ ?_
        refine pt_then ?_
        refine ht_joinS h (fun ((s74, s75, s76, s77, s78) : Int × Int × Int × Int × (List Int)) => [(2, .box 24 [.v (.int .i64 f.Kind), .v (.int .i64 f.Number), .v (.int .i64 f.Offset), .v (.int .i64 f.Seq), .fl .shr 1 (List.map (Value.int .u8) f.Data)]), (5, .box 24 [.v (.int .i64 s74), .v (.int .i64 s75), .v (.int .i64 s76), .v (.int .i64 s77), .fl (.own 5) 1 (List.map (Value.int .u8) s78)])]) ?_ ?_
        · rintro ⟨s74, s75, s76, s77, s78⟩ h
          exact hl56 _ (Option.some.inj h).symm
        · intro u79 h hl80 hr81
          refine ht_block ?_
          refine ht_seq ?_
          refine ht_seqR hn (El := [_, _, _, (33, .v (.bool (v9 == 0))), (32, .v (.bool (v9 == 0)))]) (init := [0, 1, 2]) (fin := [0, 1, 2, 4]) (sps := [⟨[2], [], [3], [(.slot 33)]⟩, ⟨[3], [], [4], [(.slot 32)]⟩]) (es' := [(_, _), (_, _), (_, _), (32, .v (.bool (v9 == 0)))]) (by kernel_rfl) rfl rfl
            ⟨st_plain rfl (op_bin _ _ _ _ _ rfl rfl rfl),
              st_plain rfl (op_assign _ _ _ _ rfl rfl),
              trivial⟩ ?_
          refine pt_then ?_
          refine ht_cond _ rfl (fun hb82 => ?_) (fun hb82 => ?_)
          · have h := cond_t hb82 h
            refine ht_seqR hn (El := [_, _, _, _, (34, .ptr 5 0), (5, .box 24 [.v (.int .i64 6), .v (.int .i64 v7.Number), .v (.int .i64 v7.Offset), .v (.int .i64 v7.Seq), .fl (.own 5) 1 (List.map (Value.int .u8) v7.Data)])]) (init := [0, 1, 2, 3]) (fin := [0, 5]) (sps := [⟨[1], [], [4], [(.slot 34)]⟩, ⟨[4], [1], [5], [.cell 5 0]⟩]) (es' := [(_, _), (5, .box 24 [.v (.int .i64 6), .v (.int .i64 v7.Number), .v (.int .i64 v7.Offset), .v (.int .i64 v7.Seq), .fl (.own 5) 1 (List.map (Value.int .u8) v7.Data)])]) (by kernel_rfl) rfl rfl
              ⟨st_plain rfl (op_fieldAddr _ _ _ _ 5 0 _ Try.underlying24 rfl sz3 rfl rfl (by decide)),
                st_plain rfl (op_store _ _ _ _ _ _ _ _ sz3 rfl rfl rfl rfl (Nat.le_of_ble_eq_true rfl) rfl rfl),
                trivial⟩ ?_
            refine pt_inb ?_
            exact hl80 _ (Option.some.inj h).symm
          · have h := cond_f hb82 h
            refine ht_seq ?_
            refine ht_seqR hn (El := [_, _, _, _, (36, .v (.bool (v9 == 1))), (35, .v (.bool (v9 == 1)))]) (init := [0, 1, 2, 3]) (fin := [0, 1, 2, 5]) (sps := [⟨[2], [], [4], [(.slot 36)]⟩, ⟨[4], [], [5], [(.slot 35)]⟩]) (es' := [(_, _), (_, _), (_, _), (35, .v (.bool (v9 == 1)))]) (by kernel_rfl) rfl rfl
              ⟨st_plain rfl (op_bin _ _ _ _ _ rfl rfl rfl),
                st_plain rfl (op_assign _ _ _ _ rfl rfl),
                trivial⟩ ?_
            refine pt_then ?_
            refine ht_cond _ rfl (fun hb83 => ?_) (fun hb83 => ?_)
            · have h := cond_t hb83 h
              refine ht_seqR hn (El := [_, _, _, _, (37, .ptr 5 1), (5, .box 24 [.v (.int .i64 v7.Kind), .v (.int .i64 0), .v (.int .i64 v7.Offset), .v (.int .i64 v7.Seq), .fl (.own 5) 1 (List.map (Value.int .u8) v7.Data)])]) (init := [0, 1, 2, 3]) (fin := [0, 5]) (sps := [⟨[1], [], [4], [(.slot 37)]⟩, ⟨[4], [1], [5], [.cell 5 1]⟩]) (es' := [(_, _), (5, .box 24 [.v (.int .i64 v7.Kind), .v (.int .i64 0), .v (.int .i64 v7.Offset), .v (.int .i64 v7.Seq), .fl (.own 5) 1 (List.map (Value.int .u8) v7.Data)])]) (by kernel_rfl) rfl rfl
                ⟨st_plain rfl (op_fieldAddr _ _ _ _ 5 0 _ Try.underlying24 rfl sz3 rfl rfl (by decide)),
                  st_plain rfl (op_store _ _ _ _ _ _ _ _ sz3 rfl rfl rfl rfl (Nat.le_of_ble_eq_true rfl) rfl rfl),
                  trivial⟩ ?_
              refine pt_inb ?_
              exact hl80 _ (Option.some.inj h).symm
            · have h := cond_f hb83 h
              refine ht_seq ?_
              refine ht_seqR hn (El := [_, _, _, _, (39, .v (.bool (v9 == 2))), (38, .v (.bool (v9 == 2)))]) (init := [0, 1, 2, 3]) (fin := [0, 1, 2, 5]) (sps := [⟨[2], [], [4], [(.slot 39)]⟩, ⟨[4], [], [5], [(.slot 38)]⟩]) (es' := [(_, _), (_, _), (_, _), (38, .v (.bool (v9 == 2)))]) (by kernel_rfl) rfl rfl
                ⟨st_plain rfl (op_bin _ _ _ _ _ rfl rfl rfl),
                  st_plain rfl (op_assign _ _ _ _ rfl rfl),
                  trivial⟩ ?_
              refine pt_then ?_
              refine ht_cond _ rfl (fun hb84 => ?_) (fun hb84 => ?_)
              · have h := cond_t hb84 h
                refine ht_seqR hn (El := [_, _, _, _, (40, .ptr 5 1), (5, .box 24 [.v (.int .i64 v7.Kind), .v (.int .i64 65536), .v (.int .i64 v7.Offset), .v (.int .i64 v7.Seq), .fl (.own 5) 1 (List.map (Value.int .u8) v7.Data)])]) (init := [0, 1, 2, 3]) (fin := [0, 5]) (sps := [⟨[1], [], [4], [(.slot 40)]⟩, ⟨[4], [1], [5], [.cell 5 1]⟩]) (es' := [(_, _), (5, .box 24 [.v (.int .i64 v7.Kind), .v (.int .i64 65536), .v (.int .i64 v7.Offset), .v (.int .i64 v7.Seq), .fl (.own 5) 1 (List.map (Value.int .u8) v7.Data)])]) (by kernel_rfl) rfl rfl
                  ⟨st_plain rfl (op_fieldAddr _ _ _ _ 5 0 _ Try.underlying24 rfl sz3 rfl rfl (by decide)),
                    st_plain rfl (op_store _ _ _ _ _ _ _ _ sz3 rfl rfl rfl rfl (Nat.le_of_ble_eq_true rfl) rfl rfl),
                    trivial⟩ ?_
                refine pt_inb ?_
                exact hl80 _ (Option.some.inj h).symm
              · have h := cond_f hb84 h
                refine ht_seq ?_
                refine ht_seqR hn (El := [_, _, _, _, (42, .v (.bool (v9 == 3))), (41, .v (.bool (v9 == 3)))]) (init := [0, 1, 2, 3]) (fin := [0, 1, 2, 5]) (sps := [⟨[2], [], [4], [(.slot 42)]⟩, ⟨[4], [], [5], [(.slot 41)]⟩]) (es' := [(_, _), (_, _), (_, _), (41, .v (.bool (v9 == 3)))]) (by kernel_rfl) rfl rfl
                  ⟨st_plain rfl (op_bin _ _ _ _ _ rfl rfl rfl),
                    st_plain rfl (op_assign _ _ _ _ rfl rfl),
                    trivial⟩ ?_
                refine pt_then ?_
                refine ht_cond _ rfl (fun hb85 => ?_) (fun hb85 => ?_)
                · have h := cond_t hb85 h
                  refine ht_seq ?_
                  refine ht_joinS h (fun (s86 : Bool) => [(2, .box 24 [.v (.int .i64 f.Kind), .v (.int .i64 f.Number), .v (.int .i64 f.Offset), .v (.int .i64 f.Seq), .fl .shr 1 (List.map (Value.int .u8) f.Data)]), (5, .box 24 [.v (.int .i64 v7.Kind), .v (.int .i64 v7.Number), .v (.int .i64 v7.Offset), .v (.int .i64 v7.Seq), .fl (.own 5) 1 (List.map (Value.int .u8) v7.Data)]), (50, .v (.bool s86))]) ?_ ?_
                  · rintro s86 h
                    refine pt_then ?_
                    refine ht_cond _ rfl (fun hb90 => ?_) (fun hb90 => ?_)
                    · have h := cond_t hb90 h
                      refine ht_seqR hn (El := [_, _, _, (51, .ptr 5 3), (5, .box 24 [.v (.int .i64 v7.Kind), .v (.int .i64 v7.Number), .v (.int .i64 v7.Offset), .v (.int .i64 8), .fl (.own 5) 1 (List.map (Value.int .u8) v7.Data)])]) (init := [0, 1, 2]) (fin := [0, 4]) (sps := [⟨[1], [], [3], [(.slot 51)]⟩, ⟨[3], [1], [4], [.cell 5 3]⟩]) (es' := [(_, _), (5, .box 24 [.v (.int .i64 v7.Kind), .v (.int .i64 v7.Number), .v (.int .i64 v7.Offset), .v (.int .i64 8), .fl (.own 5) 1 (List.map (Value.int .u8) v7.Data)])]) (by kernel_rfl) rfl rfl
                        ⟨st_plain rfl (op_fieldAddr _ _ _ _ 5 0 _ Try.underlying24 rfl sz3 rfl rfl (by decide)),
                          st_plain rfl (op_store _ _ _ _ _ _ _ _ sz3 rfl rfl rfl rfl (Nat.le_of_ble_eq_true rfl) rfl rfl),
                          trivial⟩ ?_
                      refine pt_inb ?_
                      exact hl80 _ (Option.some.inj h).symm
                    · have h := cond_f hb90 h
                      refine ht_seqR hn (El := [_, _, _, (52, .ptr 5 3), (5, .box 24 [.v (.int .i64 v7.Kind), .v (.int .i64 v7.Number), .v (.int .i64 v7.Offset), .v (.int .i64 1), .fl (.own 5) 1 (List.map (Value.int .u8) v7.Data)])]) (init := [0, 1, 2]) (fin := [0, 4]) (sps := [⟨[1], [], [3], [(.slot 52)]⟩, ⟨[3], [1], [4], [.cell 5 3]⟩]) (es' := [(_, _), (5, .box 24 [.v (.int .i64 v7.Kind), .v (.int .i64 v7.Number), .v (.int .i64 v7.Offset), .v (.int .i64 1), .fl (.own 5) 1 (List.map (Value.int .u8) v7.Data)])]) (by kernel_rfl) rfl rfl
                        ⟨st_plain rfl (op_fieldAddr _ _ _ _ 5 0 _ Try.underlying24 rfl sz3 rfl rfl (by decide)),
                          st_plain rfl (op_store _ _ _ _ _ _ _ _ sz3 rfl rfl rfl rfl (Nat.le_of_ble_eq_true rfl) rfl rfl),
                          trivial⟩ ?_
                      refine pt_inb ?_
                      exact hl80 _ (Option.some.inj h).symm
                  · intro u87 h hl88 hr89
                    refine cond_some h (fun hg15_3 h => ?_) (fun hg15_3 h => ?_)
                    · refine ht_seqR hn (El := [_, _, _, _, (43, .ptr 2 0), (44, .v (.int .i64 f.Kind)), (45, .v (.bool (f.Kind == 3))), (46, .v (.bool true)), (47, .v undef), (48, .v undef), (49, .v undef), (50, .v (.bool true))]) (init := [0, 1, 2, 3]) (fin := [0, 1, 11]) (sps := [⟨[0], [], [4], [(.slot 43)]⟩, ⟨[4, 0], [], [5], [(.slot 44)]⟩, ⟨[5], [], [6], [(.slot 45)]⟩, ⟨[6], [], [7], [(.slot 46)]⟩, ⟨[7], [], [8], [(.slot 47)]⟩, ⟨[7], [], [9], [(.slot 48)]⟩, ⟨[7], [], [10], [(.slot 49)]⟩, ⟨[7], [], [11], [(.slot 50)]⟩]) (es' := [(_, _), (_, _), (50, .v (.bool true))]) (by kernel_rfl) rfl rfl
                        ⟨st_plain rfl (op_fieldAddr _ _ _ _ 2 0 _ Try.underlying24 rfl sz3 rfl rfl (by decide)),
                          st_plain rfl (op_load _ _ _ _ _ _ Try.underlying3 rfl rfl rfl (Nat.le_of_ble_eq_true rfl) rfl rfl rfl),
                          st_plain rfl (op_bin _ _ _ _ _ rfl rfl rfl),
                          st_plain rfl (op_move _ _ _ _ (congrArg (fun b => AV.v (Value.bool b)) hg15_3) rfl),
                          st_skip 3 46 _ false rfl rfl rfl rfl (List.Mem.head _),
                          st_skip 3 46 _ false rfl rfl rfl rfl (List.Mem.head _),
                          st_skip 3 46 _ false rfl rfl rfl rfl (List.Mem.head _),
                          st_plain rfl (op_pick _ _ true _ rfl rfl),
                          trivial⟩ ?_
                      exact hl88 _ (Option.some.inj h).symm
                    · refine ht_seqR hn (El := [_, _, _, _, (43, .ptr 2 0), (44, .v (.int .i64 f.Kind)), (45, .v (.bool (f.Kind == 3))), (46, .v (.bool false)), (47, .ptr 2 0), (48, .v (.int .i64 f.Kind)), (49, .v (.bool (f.Kind == 4))), (50, .v (.bool (f.Kind == 4)))]) (init := [0, 1, 2, 3]) (fin := [0, 1, 11]) (sps := [⟨[0], [], [4], [(.slot 43)]⟩, ⟨[4, 0], [], [5], [(.slot 44)]⟩, ⟨[5], [], [6], [(.slot 45)]⟩, ⟨[6], [], [7], [(.slot 46)]⟩, ⟨[7, 0], [], [8], [(.slot 47)]⟩, ⟨[7, 8, 0], [], [9], [(.slot 48)]⟩, ⟨[7, 9], [], [10], [(.slot 49)]⟩, ⟨[7, 10], [], [11], [(.slot 50)]⟩]) (es' := [(_, _), (_, _), (50, .v (.bool (f.Kind == 4)))]) (by kernel_rfl) rfl rfl
                        ⟨st_plain rfl (op_fieldAddr _ _ _ _ 2 0 _ Try.underlying24 rfl sz3 rfl rfl (by decide)),
                          st_plain rfl (op_load _ _ _ _ _ _ Try.underlying3 rfl rfl rfl (Nat.le_of_ble_eq_true rfl) rfl rfl rfl),
                          st_plain rfl (op_bin _ _ _ _ _ rfl rfl rfl),
                          st_plain rfl (op_move _ _ _ _ (congrArg (fun b => AV.v (Value.bool b)) hg15_3) rfl),
                          st_run 3 46 false rfl rfl rfl (List.Mem.head _) (op_fieldAddr _ _ _ _ 2 0 _ Try.underlying24 rfl sz3 rfl rfl (by decide)),
                          st_run 3 46 false rfl rfl rfl (List.Mem.head _) (op_load _ _ _ _ _ _ Try.underlying3 rfl rfl rfl (Nat.le_of_ble_eq_true rfl) rfl rfl rfl),
                          st_run 3 46 false rfl rfl rfl (List.Mem.head _) (op_bin _ _ _ _ _ rfl rfl rfl),
                          st_plain rfl (op_pick _ _ false _ rfl rfl),
                          trivial⟩ ?_
                      exact hl88 _ (Option.some.inj h).symm
                · have h := cond_f hb85 h
                  refine ht_seq ?_
                  refine ht_seqR hn (El := [_, _, _, _, (54, .v (.bool (v9 == 4))), (53, .v (.bool (v9 == 4)))]) (init := [0, 1, 2, 3]) (fin := [0, 1, 5]) (sps := [⟨[2], [], [4], [(.slot 54)]⟩, ⟨[4], [], [5], [(.slot 53)]⟩]) (es' := [(_, _), (_, _), (53, .v (.bool (v9 == 4)))]) (by kernel_rfl) rfl rfl
                    ⟨st_plain rfl (op_bin _ _ _ _ _ rfl rfl rfl),
                      st_plain rfl (op_assign _ _ _ _ rfl rfl),
                      trivial⟩ ?_
                  refine pt_then ?_
                  refine ht_cond _ rfl (fun hb91 => ?_) (fun hb91 => ?_)
                  · have h := cond_t hb91 h
                    refine ht_seq ?_
                    refine ht_seqR hn (El := [_, _, _, (55, .ptr 2 0), (56, .v (.int .i64 f.Kind)), (57, .v (.bool (f.Kind == 3)))]) (init := [0, 1, 2]) (fin := [0, 1, 5]) (sps := [⟨[0], [], [3], [(.slot 55)]⟩, ⟨[3, 0], [], [4], [(.slot 56)]⟩, ⟨[4], [], [5], [(.slot 57)]⟩]) (es' := [(_, _), (_, _), (57, .v (.bool (f.Kind == 3)))]) (by kernel_rfl) rfl rfl
                      ⟨st_plain rfl (op_fieldAddr _ _ _ _ 2 0 _ Try.underlying24 rfl sz3 rfl rfl (by decide)),
                        st_plain rfl (op_load _ _ _ _ _ _ Try.underlying3 rfl rfl rfl (Nat.le_of_ble_eq_true rfl) rfl rfl rfl),
                        st_plain rfl (op_bin _ _ _ _ _ rfl rfl rfl),
                        trivial⟩ ?_
                    refine pt_then ?_
                    refine ht_cond _ rfl (fun hb92 => ?_) (fun hb92 => ?_)
                    · have h := cond_t hb92 h
                      refine ht_seqR hn (El := [_, _, _, (58, .ptr 5 4), (5, .box 24 [.v (.int .i64 v7.Kind), .v (.int .i64 v7.Number), .v (.int .i64 v7.Offset), .v (.int .i64 v7.Seq), .v (.slice none 0 0)])]) (init := [0, 1, 2]) (fin := [0, 4]) (sps := [⟨[1], [], [3], [(.slot 58)]⟩, ⟨[3], [1], [4], [.cell 5 4]⟩]) (es' := [(_, _), (5, .box 24 [.v (.int .i64 v7.Kind), .v (.int .i64 v7.Number), .v (.int .i64 v7.Offset), .v (.int .i64 v7.Seq), .v (.slice none 0 0)])]) (by kernel_rfl) rfl rfl
                        ⟨st_plain rfl (op_fieldAddr _ _ _ _ 5 0 _ Try.underlying24 rfl sz22 rfl rfl (by decide)),
                          st_plain rfl (op_store _ _ _ _ _ _ _ _ sz22 rfl rfl rfl rfl (Nat.le_of_ble_eq_true rfl) rfl rfl),
                          trivial⟩ ?_
                      refine pt_inb ?_
                      refine pt_sub (fs := [(2, .box 24 [.v (.int .i64 f.Kind), .v (.int .i64 f.Number), .v (.int .i64 f.Offset), .v (.int .i64 f.Seq), .fl .shr 1 (List.map (Value.int .u8) f.Data)]), (5, .box 24 [.v (.int .i64 v7.Kind), .v (.int .i64 v7.Number), .v (.int .i64 v7.Offset), .v (.int .i64 v7.Seq), .fl (.own 5) 1 (List.map (Value.int .u8) [])])]) (.same _ (.box _ _ (subs_cons (sub_refl _) (subs_cons (sub_refl _) (subs_cons (sub_refl _) (subs_cons (sub_refl _) (subs_cons (sub_nil 5 1) (subs_nil)))))) rfl .nil)) ?_
                      exact hl80 _ (Option.some.inj h).symm
                    · have h := cond_f hb92 h
                      refine ht_seqR hn (El := [_, _, _, (59, .fl (.own 5) 1 (List.map (Value.int .u8) [1])), (60, .ptr 5 4), (5, .box 24 [.v (.int .i64 v7.Kind), .v (.int .i64 v7.Number), .v (.int .i64 v7.Offset), .v (.int .i64 v7.Seq), .fl (.own 5) 1 (List.map (Value.int .u8) [1])])]) (init := [0, 1, 2]) (fin := [0, 5]) (sps := [⟨[], [], [3], [(.slot 59)]⟩, ⟨[1], [], [4], [(.slot 60)]⟩, ⟨[4], [3, 1], [5], [.cell 5 4]⟩]) (es' := [(_, _), (5, .box 24 [.v (.int .i64 v7.Kind), .v (.int .i64 v7.Number), .v (.int .i64 v7.Offset), .v (.int .i64 v7.Seq), .fl (.own 5) 1 (List.map (Value.int .u8) [1])])]) (by kernel_rfl) rfl rfl
                        ⟨st_plain rfl (op_buildSlice _ _ 1 (.int .u8 0) (List.map (Value.int .u8) [1]) [(0, .int .u8 1)] Try.underlying22 sz5 zr5 (fun _ V w o a hv hes => by simp only [List.map_toArray, List.map_cons, List.map_nil]; try rfl) (litfill (by simp [Instr.fill, Value.cells]; rfl) (by simp [List.range, List.range.loop])) (by simp [Value.oneCell']) rfl (by decide) (by decide) (by decide)),
                          st_plain rfl (op_fieldAddr _ _ _ _ 5 0 _ Try.underlying24 rfl sz22 rfl rfl (by decide)),
                          st_plain rfl (op_store_take _ _ _ _ _ _ _ _ sz22 rfl rfl rfl (Nat.le_of_ble_eq_true rfl) rfl rfl),
                          trivial⟩ ?_
                      refine pt_inb ?_
                      exact hl80 _ (Option.some.inj h).symm
                  · have h := cond_f hb91 h
                    refine ht_seq ?_
                    refine ht_joinS h (fun (s93 : Bool) => [(2, .box 24 [.v (.int .i64 f.Kind), .v (.int .i64 f.Number), .v (.int .i64 f.Offset), .v (.int .i64 f.Seq), .fl .shr 1 (List.map (Value.int .u8) f.Data)]), (5, .box 24 [.v (.int .i64 v7.Kind), .v (.int .i64 v7.Number), .v (.int .i64 v7.Offset), .v (.int .i64 v7.Seq), .fl (.own 5) 1 (List.map (Value.int .u8) v7.Data)]), (29, .v (.bool s93))]) ?_ ?_
                    · rintro s93 h
                      refine pt_then ?_
                      refine ht_cond _ rfl (fun hb97 => ?_) (fun hb97 => ?_)
                      · have h := cond_t hb97 h
                        refine ht_seqR hn (El := [_, _, _, (30, .ptr 5 2), (5, .box 24 [.v (.int .i64 v7.Kind), .v (.int .i64 v7.Number), .v (.int .i64 1), .v (.int .i64 v7.Seq), .fl (.own 5) 1 (List.map (Value.int .u8) v7.Data)])]) (init := [0, 1, 2]) (fin := [0, 4]) (sps := [⟨[1], [], [3], [(.slot 30)]⟩, ⟨[3], [1], [4], [.cell 5 2]⟩]) (es' := [(_, _), (5, .box 24 [.v (.int .i64 v7.Kind), .v (.int .i64 v7.Number), .v (.int .i64 1), .v (.int .i64 v7.Seq), .fl (.own 5) 1 (List.map (Value.int .u8) v7.Data)])]) (by kernel_rfl) rfl rfl
                          ⟨st_plain rfl (op_fieldAddr _ _ _ _ 5 0 _ Try.underlying24 rfl sz3 rfl rfl (by decide)),
                            st_plain rfl (op_store _ _ _ _ _ _ _ _ sz3 rfl rfl rfl rfl (Nat.le_of_ble_eq_true rfl) rfl rfl),
                            trivial⟩ ?_
                        refine pt_inb ?_
                        exact hl80 _ (Option.some.inj h).symm
                      · have h := cond_f hb97 h
                        refine ht_seqR hn (El := [_, _, _, (31, .ptr 5 2), (5, .box 24 [.v (.int .i64 v7.Kind), .v (.int .i64 v7.Number), .v (.int .i64 5001), .v (.int .i64 v7.Seq), .fl (.own 5) 1 (List.map (Value.int .u8) v7.Data)])]) (init := [0, 1, 2]) (fin := [0, 4]) (sps := [⟨[1], [], [3], [(.slot 31)]⟩, ⟨[3], [1], [4], [.cell 5 2]⟩]) (es' := [(_, _), (5, .box 24 [.v (.int .i64 v7.Kind), .v (.int .i64 v7.Number), .v (.int .i64 5001), .v (.int .i64 v7.Seq), .fl (.own 5) 1 (List.map (Value.int .u8) v7.Data)])]) (by kernel_rfl) rfl rfl
                          ⟨st_plain rfl (op_fieldAddr _ _ _ _ 5 0 _ Try.underlying24 rfl sz3 rfl rfl (by decide)),
                            st_plain rfl (op_store _ _ _ _ _ _ _ _ sz3 rfl rfl rfl rfl (Nat.le_of_ble_eq_true rfl) rfl rfl),
                            trivial⟩ ?_
                        refine pt_inb ?_
                        exact hl80 _ (Option.some.inj h).symm
                    · intro u94 h hl95 hr96
                      refine cond_some h (fun hg5_3 h => ?_) (fun hg5_3 h => ?_)
                      · refine ht_seqR hn (El := [_, _, _, (22, .ptr 2 0), (23, .v (.int .i64 f.Kind)), (24, .v (.bool (f.Kind == 4))), (25, .v (.bool true)), (26, .v undef), (27, .v undef), (28, .v undef), (29, .v (.bool true))]) (init := [0, 1, 2]) (fin := [0, 1, 10]) (sps := [⟨[0], [], [3], [(.slot 22)]⟩, ⟨[3, 0], [], [4], [(.slot 23)]⟩, ⟨[4], [], [5], [(.slot 24)]⟩, ⟨[5], [], [6], [(.slot 25)]⟩, ⟨[6], [], [7], [(.slot 26)]⟩, ⟨[6], [], [8], [(.slot 27)]⟩, ⟨[6], [], [9], [(.slot 28)]⟩, ⟨[6], [], [10], [(.slot 29)]⟩]) (es' := [(_, _), (_, _), (29, .v (.bool true))]) (by kernel_rfl) rfl rfl
                          ⟨st_plain rfl (op_fieldAddr _ _ _ _ 2 0 _ Try.underlying24 rfl sz3 rfl rfl (by decide)),
                            st_plain rfl (op_load _ _ _ _ _ _ Try.underlying3 rfl rfl rfl (Nat.le_of_ble_eq_true rfl) rfl rfl rfl),
                            st_plain rfl (op_bin _ _ _ _ _ rfl rfl rfl),
                            st_plain rfl (op_move _ _ _ _ (congrArg (fun b => AV.v (Value.bool b)) hg5_3) rfl),
                            st_skip 3 25 _ false rfl rfl rfl rfl (List.Mem.head _),
                            st_skip 3 25 _ false rfl rfl rfl rfl (List.Mem.head _),
                            st_skip 3 25 _ false rfl rfl rfl rfl (List.Mem.head _),
                            st_plain rfl (op_pick _ _ true _ rfl rfl),
                            trivial⟩ ?_
                        exact hl95 _ (Option.some.inj h).symm
                      · refine ht_seqR hn (El := [_, _, _, (22, .ptr 2 0), (23, .v (.int .i64 f.Kind)), (24, .v (.bool (f.Kind == 4))), (25, .v (.bool false)), (26, .ptr 2 0), (27, .v (.int .i64 f.Kind)), (28, .v (.bool (f.Kind == 5))), (29, .v (.bool (f.Kind == 5)))]) (init := [0, 1, 2]) (fin := [0, 1, 10]) (sps := [⟨[0], [], [3], [(.slot 22)]⟩, ⟨[3, 0], [], [4], [(.slot 23)]⟩, ⟨[4], [], [5], [(.slot 24)]⟩, ⟨[5], [], [6], [(.slot 25)]⟩, ⟨[6, 0], [], [7], [(.slot 26)]⟩, ⟨[6, 7, 0], [], [8], [(.slot 27)]⟩, ⟨[6, 8], [], [9], [(.slot 28)]⟩, ⟨[6, 9], [], [10], [(.slot 29)]⟩]) (es' := [(_, _), (_, _), (29, .v (.bool (f.Kind == 5)))]) (by kernel_rfl) rfl rfl
                          ⟨st_plain rfl (op_fieldAddr _ _ _ _ 2 0 _ Try.underlying24 rfl sz3 rfl rfl (by decide)),
                            st_plain rfl (op_load _ _ _ _ _ _ Try.underlying3 rfl rfl rfl (Nat.le_of_ble_eq_true rfl) rfl rfl rfl),
                            st_plain rfl (op_bin _ _ _ _ _ rfl rfl rfl),
                            st_plain rfl (op_move _ _ _ _ (congrArg (fun b => AV.v (Value.bool b)) hg5_3) rfl),
                            st_run 3 25 false rfl rfl rfl (List.Mem.head _) (op_fieldAddr _ _ _ _ 2 0 _ Try.underlying24 rfl sz3 rfl rfl (by decide)),
                            st_run 3 25 false rfl rfl rfl (List.Mem.head _) (op_load _ _ _ _ _ _ Try.underlying3 rfl rfl rfl (Nat.le_of_ble_eq_true rfl) rfl rfl rfl),
                            st_run 3 25 false rfl rfl rfl (List.Mem.head _) (op_bin _ _ _ _ _ rfl rfl rfl),
                            st_plain rfl (op_pick _ _ false _ rfl rfl),
                            trivial⟩ ?_
                        exact hl95 _ (Option.some.inj h).symm
  · intro u3 h hl4 hr5
    refine cond_some h (fun hg1_4 h => ?_) (fun hg1_4 h => ?_)
    · refine ht_seqR hn (El := [_, _, (8, .ptr 2 4), (9, .fl .shr 1 (List.map (Value.int .u8) f.Data)), (10, .v (.int .i64 (f.Data.length : Int))), (11, .v (.bool ((decide (300 < (f.Data.length : Int)))))), (12, .v (.bool true)), (13, .v undef), (14, .v undef), (15, .v undef), (16, .v (.bool true))]) (init := [0, 1]) (fin := [0, 1, 10]) (sps := [⟨[1], [], [2], [(.slot 8)]⟩, ⟨[2, 1], [], [3], [(.slot 9)]⟩, ⟨[3], [], [4], [(.slot 10)]⟩, ⟨[4], [], [5], [(.slot 11)]⟩, ⟨[5], [], [6], [(.slot 12)]⟩, ⟨[6], [], [7], [(.slot 13)]⟩, ⟨[6], [], [8], [(.slot 14)]⟩, ⟨[6], [], [9], [(.slot 15)]⟩, ⟨[6], [], [10], [(.slot 16)]⟩]) (es' := [(_, _), (_, _), (16, .v (.bool true))]) (by kernel_rfl) rfl rfl
        ⟨st_plain rfl (op_fieldAddr _ _ _ _ 2 0 _ Try.underlying24 rfl sz22 rfl rfl (by decide)),
          st_plain rfl (op_load _ _ _ _ _ _ Try.underlying22 rfl rfl rfl (Nat.le_of_ble_eq_true rfl) rfl rfl rfl),
          st_plain rfl (op_len_fl _ _ _ Try.underlying22 rfl (by decide) (map_len _)),
          st_plain rfl (op_bin _ _ _ _ _ rfl rfl rfl),
          st_plain rfl (op_move _ _ _ _ (congrArg (fun b => AV.v (Value.bool b)) hg1_4) rfl),
          st_skip 4 12 _ false rfl rfl rfl rfl (List.Mem.head _),
          st_skip 4 12 _ false rfl rfl rfl rfl (List.Mem.head _),
          st_skip 4 12 _ false rfl rfl rfl rfl (List.Mem.head _),
          st_plain rfl (op_pick _ _ true _ rfl rfl),
          trivial⟩ ?_
      exact hl4 _ (Option.some.inj h).symm
    · obtain ⟨v1, hv1, h⟩ := bind_some h
      refine ht_seqR hn (El := [_, _, (8, .ptr 2 4), (9, .fl .shr 1 (List.map (Value.int .u8) f.Data)), (10, .v (.int .i64 (f.Data.length : Int))), (11, .v (.bool ((decide (300 < (f.Data.length : Int)))))), (12, .v (.bool false)), (13, .agg [.v (.int .i64 f.Kind), .v (.int .i64 f.Number), .v (.int .i64 f.Offset), .v (.int .i64 f.Seq), .fl .shr 1 (List.map (Value.int .u8) f.Data)]), (14, .v (.bool v1)), (15, .v (.bool (!v1))), (16, .v (.bool (!v1)))]) (init := [0, 1]) (fin := [0, 1, 10]) (sps := [⟨[1], [], [2], [(.slot 8)]⟩, ⟨[2, 1], [], [3], [(.slot 9)]⟩, ⟨[3], [], [4], [(.slot 10)]⟩, ⟨[4], [], [5], [(.slot 11)]⟩, ⟨[5], [], [6], [(.slot 12)]⟩, ⟨[6, 1], [], [7], [(.slot 13)]⟩, ⟨[6, 7], [], [8], [(.slot 14)]⟩, ⟨[6, 8], [], [9], [(.slot 15)]⟩, ⟨[6, 9], [], [10], [(.slot 16)]⟩]) (es' := [(_, _), (_, _), (16, .v (.bool (!v1)))]) (by kernel_rfl) rfl rfl
        ⟨st_plain rfl (op_fieldAddr _ _ _ _ 2 0 _ Try.underlying24 rfl sz22 rfl rfl (by decide)),
          st_plain rfl (op_load _ _ _ _ _ _ Try.underlying22 rfl rfl rfl (Nat.le_of_ble_eq_true rfl) rfl rfl rfl),
          st_plain rfl (op_len_fl _ _ _ Try.underlying22 rfl (by decide) (map_len _)),
          st_plain rfl (op_bin _ _ _ _ _ rfl rfl rfl),
          st_plain rfl (op_move _ _ _ _ (congrArg (fun b => AV.v (Value.bool b)) hg1_4) rfl),
          st_run 4 12 false rfl rfl rfl (List.Mem.head _) (op_loadA _ _ _ _ _ _ _ Try.underlying24 rfl sz24 rfl rfl (Nat.le_of_ble_eq_true rfl) rfl rfl),
          st_run 4 12 false rfl rfl rfl (List.Mem.head _) (op_call _ _ 15 _ _ rfl Try.call15 rfl (ok_wherryref18_Frame f _ hv1) rfl rfl),
          st_run 4 12 false rfl rfl rfl (List.Mem.head _) (op_un _ _ _ _ rfl rfl),
          st_plain rfl (op_pick _ _ false _ rfl rfl),
          trivial⟩ ?_
      exact hl4 _ (Option.some.inj h).symm

set_option maxHeartbeats 1000000 in
theorem ok_wherrylaw20_FrameSpoils (b : (List Int)) (at_ : Int) (p_bits : Int) (r : Bool) (h : Sh.wherrylaw20_FrameSpoils b at_ p_bits = some r) : FnOK Try.prog 9 [.fl .shr 1 (List.map (Value.int .u8) b), .v (.int .i64 at_), .v (.int .i64 p_bits)] (.v (.bool r)) := by
  unfold Sh.wherrylaw20_FrameSpoils at h
  refine fn_ok Try.func9 rfl (Nat.le_of_ble_eq_true rfl) rfl rfl fun g0 hn hio => ?_
  refine ht_seq ?_
  refine ht_seqR hn (El := [_, _, _, (6, .v (.bool false))]) (init := [0, 1, 2]) (fin := [0, 1, 2]) (sps := [⟨[], [], [3], [(.slot 6)]⟩]) (es' := [(_, _), (_, _), (_, _)]) (by kernel_rfl) rfl rfl
    ⟨st_plain rfl (op_assign _ _ _ _ rfl rfl),
      trivial⟩ ?_
  refine pt_then ?_
  refine ht_seq ?_
  refine ht_seq ?_
  refine ht_seqR hn (El := [_, _, _, (12, .fl .shr 1 (List.map (Value.int .u8) b)), (13, .v (.int .i64 (b.length : Int))), (14, .v (.bool ((decide (300 < (b.length : Int))))))]) (init := [0, 1, 2]) (fin := [0, 1, 2, 5]) (sps := [⟨[0], [], [3], [(.slot 12)]⟩, ⟨[3], [], [4], [(.slot 13)]⟩, ⟨[4], [], [5], [(.slot 14)]⟩]) (es' := [(_, _), (_, _), (_, _), (14, .v (.bool ((decide (300 < (b.length : Int))))))]) (by kernel_rfl) rfl rfl
    ⟨st_plain rfl (op_move _ _ _ _ rfl rfl),
      st_plain rfl (op_len_fl _ _ _ Try.underlying22 rfl (by decide) (map_len _)),
      st_plain rfl (op_bin _ _ _ _ _ rfl rfl rfl),
      trivial⟩ ?_
  refine pt_then ?_
  refine ht_cond _ rfl (fun hb1 => ?_) (fun hb1 => ?_)
  · have h := cond_t hb1 h
    refine ht_seq ?_
    refine ht_seqR hn (El := [_, _, _, _, (6, .v (.bool true))]) (init := [0, 1, 2, 3]) (fin := [4]) (sps := [⟨[], [], [4], [(.slot 6)]⟩]) (es' := [(6, .v (.bool true))]) (by kernel_rfl) rfl rfl
      ⟨st_plain rfl (op_assign _ _ _ _ rfl rfl),
        trivial⟩ ?_
    refine pt_then ?_
    refine ht_ret ?_
    refine pt_r_then ?_
    obtain rfl := Option.some.inj h
    exact pt_ret hio rfl (.tmp _ _ .nil) rfl rfl
  · have h := cond_f hb1 h
    refine ht_skip ?_
    refine pt_then ?_
    refine ht_seq ?_
    obtain ⟨v2, hv2, h⟩ := bind_some h
    refine ht_seqR hn (El := [_, _, _, _, (15, .fl .shr 1 (List.map (Value.int .u8) b)), (16, .v (.int .i64 at_)), (17, .v (.int .i64 p_bits)), (18, .fl (.own 5) 1 (List.map (Value.int .u8) v2)), (7, .fl (.own 5) 1 (List.map (Value.int .u8) v2))]) (init := [0, 1, 2, 3]) (fin := [0, 1, 2, 8]) (sps := [⟨[0], [], [4], [(.slot 15)]⟩, ⟨[1], [], [5], [(.slot 16)]⟩, ⟨[2], [], [6], [(.slot 17)]⟩, ⟨[4, 5, 6], [], [7], [(.slot 18)]⟩, ⟨[], [7], [8], [(.slot 7)]⟩]) (es' := [(_, _), (_, _), (_, _), (7, .fl (.own 5) 1 (List.map (Value.int .u8) v2))]) (by kernel_rfl) rfl rfl
      ⟨st_plain rfl (op_move _ _ _ _ rfl rfl),
        st_plain rfl (op_move _ _ _ _ rfl rfl),
        st_plain rfl (op_move _ _ _ _ rfl rfl),
        st_plain rfl (op_call _ _ 20 _ _ rfl Try.call20 rfl (ok_frame_Spoil b at_ p_bits _ hv2) rfl rfl),
        st_plain rfl (op_assign_take _ _ _ _ rfl),
        trivial⟩ ?_
    refine pt_then ?_
    refine ht_seq ?_
    refine ht_seq ?_
    refine ht_seqR hn (El := [_, _, _, _, (19, .same (.slot 7)), (20, .v (.int .i64 (v2.length : Int))), (21, .fl .shr 1 (List.map (Value.int .u8) b)), (22, .v (.int .i64 (b.length : Int))), (23, .v (.bool (((v2.length : Int) != (b.length : Int)))))]) (init := [0, 1, 2, 3]) (fin := [0, 1, 2, 3, 8]) (sps := [⟨[3], [], [4], [(.slot 19)]⟩, ⟨[4, 3], [], [5], [(.slot 20)]⟩, ⟨[0], [], [6], [(.slot 21)]⟩, ⟨[6], [], [7], [(.slot 22)]⟩, ⟨[5, 7], [], [8], [(.slot 23)]⟩]) (es' := [(_, _), (_, _), (_, _), (_, _), (23, .v (.bool (((v2.length : Int) != (b.length : Int)))))]) (by kernel_rfl) rfl rfl
      ⟨st_plain rfl (op_move _ _ _ _ rfl rfl),
        st_plain rfl (op_len_fl _ _ _ Try.underlying22 rfl (by decide) (map_len _)),
        st_plain rfl (op_move _ _ _ _ rfl rfl),
        st_plain rfl (op_len_fl _ _ _ Try.underlying22 rfl (by decide) (map_len _)),
        st_plain rfl (op_bin _ _ _ _ _ rfl rfl rfl),
        trivial⟩ ?_
    refine pt_then ?_
    refine ht_cond _ rfl (fun hb3 => ?_) (fun hb3 => ?_)
    · have h := cond_t hb3 h
      refine ht_seq ?_
      refine ht_seqR hn (El := [_, _, _, _, _, (6, .v (.bool false))]) (init := [0, 1, 2, 3, 4]) (fin := [5]) (sps := [⟨[], [], [5], [(.slot 6)]⟩]) (es' := [(6, .v (.bool false))]) (by kernel_rfl) rfl rfl
        ⟨st_plain rfl (op_assign _ _ _ _ rfl rfl),
          trivial⟩ ?_
      refine pt_then ?_
      refine ht_ret ?_
      refine pt_r_then ?_
      obtain rfl := Option.some.inj h
      exact pt_ret hio rfl (.tmp _ _ .nil) rfl rfl
    · have h := cond_f hb3 h
      refine ht_skip ?_
      refine pt_then ?_
      refine ht_seq ?_
      refine ht_seq ?_
      refine ht_seqR hn (El := [_, _, _, _, _, (24, .fl .shr 1 (List.map (Value.int .u8) b)), (25, .v (.int .i64 (b.length : Int))), (26, .v (.bool (((b.length : Int) == 0))))]) (init := [0, 1, 2, 3, 4]) (fin := [0, 1, 2, 3, 7]) (sps := [⟨[0], [], [5], [(.slot 24)]⟩, ⟨[5], [], [6], [(.slot 25)]⟩, ⟨[6], [], [7], [(.slot 26)]⟩]) (es' := [(_, _), (_, _), (_, _), (_, _), (26, .v (.bool (((b.length : Int) == 0))))]) (by kernel_rfl) rfl rfl
        ⟨st_plain rfl (op_move _ _ _ _ rfl rfl),
          st_plain rfl (op_len_fl _ _ _ Try.underlying22 rfl (by decide) (map_len _)),
          st_plain rfl (op_bin _ _ _ _ _ rfl rfl rfl),
          trivial⟩ ?_
      refine pt_then ?_
      refine ht_cond _ rfl (fun hb4 => ?_) (fun hb4 => ?_)
      · have h := cond_t hb4 h
        refine ht_seq ?_
        obtain ⟨v5, hv5, h⟩ := bind_some h
        refine ht_seqR hn (El := [_, _, _, _, _, (27, .v (.bool v5)), (6, .v (.bool v5))]) (init := [0, 1, 2, 3, 4]) (fin := [6]) (sps := [⟨[], [], [5], [(.slot 27)]⟩, ⟨[5], [], [6], [(.slot 6)]⟩]) (es' := [(6, .v (.bool v5))]) (by kernel_rfl) rfl rfl
          ⟨st_plain rfl (op_call _ _ 23 _ _ rfl Try.call23 rfl (ok_wherrylaw20_wakes  _ hv5) rfl rfl),
            st_plain rfl (op_assign _ _ _ _ rfl rfl),
            trivial⟩ ?_
        refine pt_then ?_
        refine ht_ret ?_
        refine pt_r_then ?_
        obtain rfl := Option.some.inj h
        exact pt_ret hio rfl (.tmp _ _ .nil) rfl rfl
      · have h := cond_f hb4 h
        refine ht_skip ?_
        refine pt_then ?_
        refine ht_seq ?_
        obtain ⟨v6, hv6, h⟩ := bind_some h
        refine ht_seqR hn (El := [_, _, _, _, _, (28, .fl .shr 1 (List.map (Value.int .u8) b)), (29, .v (.int .i64 (b.length : Int))), (30, .v (.int .i64 v6)), (8, .v (.int .i64 v6))]) (init := [0, 1, 2, 3, 4]) (fin := [0, 1, 2, 3, 8]) (sps := [⟨[0], [], [5], [(.slot 28)]⟩, ⟨[5], [], [6], [(.slot 29)]⟩, ⟨[6], [], [7], [(.slot 30)]⟩, ⟨[7], [], [8], [(.slot 8)]⟩]) (es' := [(_, _), (_, _), (_, _), (_, _), (8, .v (.int .i64 v6))]) (by kernel_rfl) rfl rfl
          ⟨st_plain rfl (op_move _ _ _ _ rfl rfl),
            st_plain rfl (op_len_fl _ _ _ Try.underlying22 rfl (by decide) (map_len _)),
            st_plain rfl (op_bin _ _ _ _ _ rfl rfl (ibind (f := Value.int .i64) (Option.some.inj hv6))),
            st_plain rfl (op_assign _ _ _ _ rfl rfl),
            trivial⟩ ?_
        refine pt_then ?_
        refine ht_seq ?_
        obtain ⟨v7, hv7, h⟩ := bind_some h
        refine ht_seqR hn (El := [_, _, _, _, _, (31, .v (.int .i64 at_)), (32, .v (.int .i64 v6)), (33, .v (.int .i64 v7)), (9, .v (.int .i64 v7))]) (init := [0, 1, 2, 3, 4]) (fin := [0, 2, 3, 4, 8]) (sps := [⟨[1], [], [5], [(.slot 31)]⟩, ⟨[4], [], [6], [(.slot 32)]⟩, ⟨[5, 6], [], [7], [(.slot 33)]⟩, ⟨[7], [], [8], [(.slot 9)]⟩]) (es' := [(_, _), (_, _), (_, _), (_, _), (9, .v (.int .i64 v7))]) (by kernel_rfl) rfl rfl
          ⟨st_plain rfl (op_move _ _ _ _ rfl rfl),
            st_plain rfl (op_move _ _ _ _ rfl rfl),
            st_plain rfl (op_bin _ _ _ _ _ rfl rfl (rem_ok hv7)),
            st_plain rfl (op_assign _ _ _ _ rfl rfl),
            trivial⟩ ?_
        refine pt_then ?_
        refine ht_seq ?_
        refine ht_joinS h (fun (s10 : Int) => [(0, .fl .shr 1 (List.map (Value.int .u8) b)), (2, .v (.int .i64 p_bits)), (7, .fl (.own 5) 1 (List.map (Value.int .u8) v2)), (8, .v (.int .i64 v6)), (9, .v (.int .i64 s10))]) ?_ ?_
        · rintro s10 h
          refine pt_then ?_
          refine ht_seq ?_
          refine ht_seq ?_
          refine ht_seqR hn (El := [_, _, _, _, _, (10, .v (.int .i64 0))]) (init := [0, 1, 2, 3, 4]) (fin := [0, 1, 2, 3, 4, 5]) (sps := [⟨[], [], [5], [(.slot 10)]⟩]) (es' := [(_, _), (_, _), (_, _), (_, _), (_, _), (10, .v (.int .i64 0))]) (by kernel_rfl) rfl rfl
            ⟨st_plain rfl (op_assign _ _ _ _ rfl rfl),
              trivial⟩ ?_
          refine pt_then ?_
          refine ht_loopS h (fun (s60 : Int) => [(0, .fl .shr 1 (List.map (Value.int .u8) b)), (2, .v (.int .i64 p_bits)), (7, .fl (.own 5) 1 (List.map (Value.int .u8) v2)), (8, .v (.int .i64 v6)), (9, .v (.int .i64 s10)), (10, .v (.int .i64 s60))]) (fun (() : Unit) => []) ?_ ?_
          · rintro ⟨⟩ h
            refine pt_then ?_
            refine ht_seq ?_
            obtain ⟨v89, hv89, h⟩ := bind_some h
            refine ht_seqR hn (El := [(106, .v (.bool v89)), (6, .v (.bool v89))]) (init := []) (fin := [1]) (sps := [⟨[], [], [0], [(.slot 106)]⟩, ⟨[0], [], [1], [(.slot 6)]⟩]) (es' := [(6, .v (.bool v89))]) (by kernel_rfl) rfl rfl
              ⟨st_plain rfl (op_call _ _ 23 _ _ rfl Try.call23 rfl (ok_wherrylaw20_wakes  _ hv89) rfl rfl),
                st_plain rfl (op_assign _ _ _ _ rfl rfl),
                trivial⟩ ?_
            refine pt_then ?_
            refine ht_ret ?_
            obtain rfl := Option.some.inj h
            exact pt_ret hio rfl (.tmp _ _ .nil) rfl rfl
          · rintro u72 hl73 hr74 s60 rr77 h ho75
            refine ht_seq ?_
            refine ht_seq ?_
            refine ht_seqR hn (El := [_, _, _, _, _, _, (39, .v (.int .i64 s60)), (40, .v (.int .i64 v6)), (41, .v (.bool ((decide (s60 < v6)))))]) (init := [0, 1, 2, 3, 4, 5]) (fin := [0, 1, 2, 3, 4, 5, 8]) (sps := [⟨[5], [], [6], [(.slot 39)]⟩, ⟨[3], [], [7], [(.slot 40)]⟩, ⟨[6, 7], [], [8], [(.slot 41)]⟩]) (es' := [(_, _), (_, _), (_, _), (_, _), (_, _), (_, _), (41, .v (.bool ((decide (s60 < v6)))))]) (by kernel_rfl) rfl rfl
              ⟨st_plain rfl (op_move _ _ _ _ rfl rfl),
                st_plain rfl (op_move _ _ _ _ rfl rfl),
                st_plain rfl (op_bin _ _ _ _ _ rfl rfl rfl),
                trivial⟩ ?_
            refine pt_then ?_
            refine ht_cond _ rfl (fun hb78 => ?_) (fun hb78 => ?_)
            · have h := cond_t hb78 h
              refine ht_skip ?_
              refine pt_then ?_
              refine ht_seq ?_
              refine ht_block ?_
              refine ht_seq ?_
              obtain ⟨v16, hv16, h⟩ := bind_some h
              obtain ⟨v17, hv17, h⟩ := bind_some h
              obtain ⟨v18, hv18, h⟩ := bind_some h
              obtain ⟨v19, hv19, h⟩ := bind_some h
              obtain ⟨v20, hv20, h⟩ := bind_some h
              obtain ⟨v21, hv21, h⟩ := bind_some h
              obtain ⟨v22, hv22, h⟩ := bind_some h
              obtain ⟨v23, hv23, h⟩ := bind_some h
              obtain ⟨v24, hv24, h⟩ := bind_some h
              obtain ⟨v25, hv25, h⟩ := bind_some h
              obtain ⟨v26, hv26, h⟩ := bind_some h
              refine ht_anyR (by kernel_rfl) hn (El := (_ :: _ :: _ :: _ :: _ :: _ :: _ :: (44, .fl .shr 1 (List.map (Value.int .u8) b)) :: (45, .v (.int .i64 s60)) :: (46, .v (.int .i64 v16)) :: (47, .eref (.slot 44) (v17 * 1)) :: (48, .v (.int .u8 v18)) :: (49, .same (.slot 7)) :: (50, .v (.int .i64 s60)) :: (51, .v (.int .i64 v19)) :: (52, .eref (.slot 7) (v20 * 1)) :: (53, .v (.int .u8 v21)) :: (54, .v (.int .u8 v22)) :: (55, .v (.int .i64 s60)) :: (56, .v (.int .i64 v23)) :: (57, .v (.int .u64 v24)) :: (58, .v (.int .u8 v25)) :: (59, .v (.int .u8 v26)) :: (60, .v (.bool (v26 == 1))) :: (11, .v (.bool (v26 == 1))) :: [])) (init := [0, 1, 2, 3, 4, 5, 6]) (fin := [0, 1, 2, 3, 4, 5, 24]) (sps := (⟨[0], [], [7], [(.slot 44)]⟩ :: ⟨[5], [], [8], [(.slot 45)]⟩ :: ⟨[8], [], [9], [(.slot 46)]⟩ :: ⟨[7, 9], [], [10], [(.slot 47)]⟩ :: ⟨[10, 7], [], [11], [(.slot 48)]⟩ :: ⟨[2], [], [12], [(.slot 49)]⟩ :: ⟨[5], [], [13], [(.slot 50)]⟩ :: ⟨[13], [], [14], [(.slot 51)]⟩ :: ⟨[12, 2, 14], [], [15], [(.slot 52)]⟩ :: ⟨[15, 2], [], [16], [(.slot 53)]⟩ :: ⟨[11, 16], [], [17], [(.slot 54)]⟩ :: ⟨[5], [], [18], [(.slot 55)]⟩ :: ⟨[18], [], [19], [(.slot 56)]⟩ :: ⟨[19], [], [20], [(.slot 57)]⟩ :: ⟨[17, 20], [], [21], [(.slot 58)]⟩ :: ⟨[21], [], [22], [(.slot 59)]⟩ :: ⟨[22], [], [23], [(.slot 60)]⟩ :: ⟨[23], [], [24], [(.slot 11)]⟩ :: [])) (es' := [(_, _), (_, _), (_, _), (_, _), (_, _), (_, _), (11, .v (.bool (v26 == 1)))]) (by kernel_rfl) rfl rfl
                ⟨st_plain rfl (op_move _ _ _ _ rfl rfl),
                  st_plain rfl (op_move _ _ _ _ rfl rfl),
                  st_plain rfl (op_bin _ _ _ _ _ rfl rfl (quo_ok hv16)),
                  st_plain rfl (op_ix _ _ _ _ _ _ _ _ Try.underlying22 sz5 (by decide) rfl rfl rfl (ix_ok hv17).1 (map_lt (ix_ok hv17).2) rfl),
                  st_plain rfl (op_load_e _ _ _ _ _ _ Try.underlying5 rfl rfl rfl (map_get hv18)),
                  st_plain rfl (op_move _ _ _ _ rfl rfl),
                  st_plain rfl (op_move _ _ _ _ rfl rfl),
                  st_plain rfl (op_bin _ _ _ _ _ rfl rfl (quo_ok hv19)),
                  st_plain rfl (op_ix _ _ _ _ _ _ _ _ Try.underlying22 sz5 (by decide) rfl rfl rfl (ix_ok hv20).1 (map_lt (ix_ok hv20).2) rfl),
                  st_plain rfl (op_load_e _ _ _ _ _ _ Try.underlying5 rfl rfl rfl (map_get hv21)),
                  st_plain rfl (op_bin _ _ _ _ _ rfl rfl (ibind (f := Value.int .u8) (Option.some.inj hv22))),
                  st_plain rfl (op_move _ _ _ _ rfl rfl),
                  st_plain rfl (op_bin _ _ _ _ _ rfl rfl (rem_ok hv23)),
                  st_plain rfl ((Option.some.inj hv24) ▸ op_conv _ _ _ Try.underlying3 Try.underlying43 rfl),
                  st_plain rfl (op_bin _ _ _ _ _ rfl rfl (shr_ok hv25)),
                  st_plain rfl (op_bin _ _ _ _ _ rfl rfl (ibind (f := Value.int .u8) (Option.some.inj hv26))),
                  st_plain rfl (op_bin _ _ _ _ _ rfl rfl rfl),
                  st_plain rfl (op_assign _ _ _ _ rfl rfl),
                  trivial⟩ ?_
              refine pt_then ?_
              refine ht_seq ?_
              refine ht_seq ?_
              refine ht_joinS h (fun (s79 : Bool) => [(0, .fl .shr 1 (List.map (Value.int .u8) b)), (2, .v (.int .i64 p_bits)), (7, .fl (.own 5) 1 (List.map (Value.int .u8) v2)), (8, .v (.int .i64 v6)), (9, .v (.int .i64 s10)), (10, .v (.int .i64 s60)), (11, .v (.bool (v26 == 1))), (81, .v (.bool s79))]) ?_ ?_
              · rintro s79 h
                refine pt_then ?_
                refine ht_cond _ rfl (fun hb83 => ?_) (fun hb83 => ?_)
                · have h := cond_t hb83 h
                  refine ht_seq ?_
                  refine ht_seqR hn (El := [_, _, _, _, _, _, _, _, (6, .v (.bool false))]) (init := [0, 1, 2, 3, 4, 5, 6, 7]) (fin := [8]) (sps := [⟨[], [], [8], [(.slot 6)]⟩]) (es' := [(6, .v (.bool false))]) (by kernel_rfl) rfl rfl
                    ⟨st_plain rfl (op_assign _ _ _ _ rfl rfl),
                      trivial⟩ ?_
                  refine pt_then ?_
                  refine ht_ret ?_
                  refine pt_r_then ?_
                  refine pt_r_in ?_
                  refine pt_r_then ?_
                  refine pt_r_then ?_
                  refine pt_r_in ?_
                  refine pt_r_then ?_
                  have h := hr74 _ (ho75 _ (Option.some.inj h).symm).symm
                  obtain rfl := Option.some.inj h
                  exact pt_ret hio rfl (.tmp _ _ .nil) rfl rfl
                · have h := cond_f hb83 h
                  refine ht_skip ?_
                  refine pt_then ?_
                  refine ht_seq ?_
                  refine ht_joinS h (fun (s84 : Bool) => [(0, .fl .shr 1 (List.map (Value.int .u8) b)), (2, .v (.int .i64 p_bits)), (7, .fl (.own 5) 1 (List.map (Value.int .u8) v2)), (8, .v (.int .i64 v6)), (9, .v (.int .i64 s10)), (10, .v (.int .i64 s60)), (105, .v (.bool s84))]) ?_ ?_
                  · rintro s84 h
                    refine pt_then ?_
                    refine ht_cond _ rfl (fun hb88 => ?_) (fun hb88 => ?_)
                    · have h := cond_t hb88 h
                      refine ht_seq ?_
                      refine ht_seqR hn (El := [_, _, _, _, _, _, _, (6, .v (.bool false))]) (init := [0, 1, 2, 3, 4, 5, 6]) (fin := [7]) (sps := [⟨[], [], [7], [(.slot 6)]⟩]) (es' := [(6, .v (.bool false))]) (by kernel_rfl) rfl rfl
                        ⟨st_plain rfl (op_assign _ _ _ _ rfl rfl),
                          trivial⟩ ?_
                      refine pt_then ?_
                      refine ht_ret ?_
                      refine pt_r_in ?_
                      refine pt_r_then ?_
                      refine pt_r_then ?_
                      refine pt_r_in ?_
                      refine pt_r_then ?_
                      have h := hr74 _ (ho75 _ (Option.some.inj h).symm).symm
                      obtain rfl := Option.some.inj h
                      exact pt_ret hio rfl (.tmp _ _ .nil) rfl rfl
                    · have h := cond_f hb88 h
                      refine ht_skip ?_
                      refine pt_inb ?_
                      refine pt_then ?_
                      obtain ⟨v47, hv47, h⟩ := bind_some h
                      refine ht_seqR hn (El := [_, _, _, _, _, _, _, (42, .v (.int .i64 s60)), (43, .v (.int .i64 v47)), (10, .v (.int .i64 v47))]) (init := [0, 1, 2, 3, 4, 5, 6]) (fin := [0, 1, 2, 3, 4, 9]) (sps := [⟨[5], [], [7], [(.slot 42)]⟩, ⟨[7], [], [8], [(.slot 43)]⟩, ⟨[8], [5], [9], [(.slot 10)]⟩]) (es' := [(_, _), (_, _), (_, _), (_, _), (_, _), (10, .v (.int .i64 v47))]) (by kernel_rfl) rfl rfl
                        ⟨st_plain rfl (op_move _ _ _ _ rfl rfl),
                          st_plain rfl (op_bin _ _ _ _ _ rfl rfl (ibind (f := Value.int .i64) (Option.some.inj hv47))),
                          st_plain rfl (LOp.drop [_] (op_assign _ _ _ _ rfl rfl)),
                          trivial⟩ ?_
                      exact pt_next _ (Option.some.inj h).symm rfl
                  · intro u85 h hl86 hr87
                    refine cond_some h (fun hg18_3 h => ?_) (fun hg18_3 h => ?_)
                    · obtain ⟨v33, hv33, h⟩ := bind_some h
                      refine cond_some h (fun hg18_9 h => ?_) (fun hg18_9 h => ?_)
                      · obtain ⟨v34, hv34, h⟩ := bind_some h
                        obtain ⟨v35, hv35, h⟩ := bind_some h
                        obtain ⟨v36, hv36, h⟩ := bind_some h
                        obtain ⟨v37, hv37, h⟩ := bind_some h
                        obtain ⟨v38, hv38, h⟩ := bind_some h
                        obtain ⟨v39, hv39, h⟩ := bind_some h
                        obtain ⟨v40, hv40, h⟩ := bind_some h
                        obtain ⟨v41, hv41, h⟩ := bind_some h
                        refine ht_seqR hn (El := (_ :: _ :: _ :: _ :: _ :: _ :: _ :: _ :: (82, .v (.int .i64 s60)) :: (83, .v (.int .i64 s10)) :: (84, .v (.bool ((decide (s10 < s60))))) :: (85, .v (.bool true)) :: (86, .v (.int .i64 s60)) :: (87, .v (.int .i64 s10)) :: (88, .v (.int .i64 v33)) :: (89, .v (.bool ((decide (s60 < v33))))) :: (90, .v (.bool ((decide (s60 < v33))))) :: (91, .v (.bool true)) :: (92, .v (.bool (v26 == 1))) :: (93, .v (.int .i64 p_bits)) :: (94, .v (.int .i64 v34)) :: (95, .v (.int .i64 v35)) :: (96, .v (.int .i64 v36)) :: (97, .v (.int .i64 s60)) :: (98, .v (.int .i64 s10)) :: (99, .v (.int .i64 v37)) :: (100, .v (.int .u64 v38)) :: (101, .v (.int .i64 v39)) :: (102, .v (.int .i64 v40)) :: (103, .v (.bool (v40 == 1))) :: (104, .v (.bool ((!((v26 == 1) == (v40 == 1)))))) :: (105, .v (.bool ((!((v26 == 1) == (v40 == 1)))))) :: [])) (init := [0, 1, 2, 3, 4, 5, 6, 7]) (fin := [0, 1, 2, 3, 4, 5, 31]) (sps := (⟨[5], [], [8], [(.slot 82)]⟩ :: ⟨[4], [], [9], [(.slot 83)]⟩ :: ⟨[8, 9], [], [10], [(.slot 84)]⟩ :: ⟨[10], [], [11], [(.slot 85)]⟩ :: ⟨[11, 5], [], [12], [(.slot 86)]⟩ :: ⟨[11, 4], [], [13], [(.slot 87)]⟩ :: ⟨[11, 13], [], [14], [(.slot 88)]⟩ :: ⟨[11, 12, 14], [], [15], [(.slot 89)]⟩ :: ⟨[11, 15], [], [16], [(.slot 90)]⟩ :: ⟨[16], [], [17], [(.slot 91)]⟩ :: ⟨[17, 6], [], [18], [(.slot 92)]⟩ :: ⟨[17, 1], [], [19], [(.slot 93)]⟩ :: ⟨[17, 19], [], [20], [(.slot 94)]⟩ :: ⟨[17, 20], [], [21], [(.slot 95)]⟩ :: ⟨[17, 21], [], [22], [(.slot 96)]⟩ :: ⟨[17, 5], [], [23], [(.slot 97)]⟩ :: ⟨[17, 4], [], [24], [(.slot 98)]⟩ :: ⟨[17, 23, 24], [], [25], [(.slot 99)]⟩ :: ⟨[17, 25], [], [26], [(.slot 100)]⟩ :: ⟨[17, 22, 26], [], [27], [(.slot 101)]⟩ :: ⟨[17, 27], [], [28], [(.slot 102)]⟩ :: ⟨[17, 28], [], [29], [(.slot 103)]⟩ :: ⟨[17, 18, 29], [], [30], [(.slot 104)]⟩ :: ⟨[17, 30], [], [31], [(.slot 105)]⟩ :: [])) (es' := [(_, _), (_, _), (_, _), (_, _), (_, _), (_, _), (105, .v (.bool ((!((v26 == 1) == (v40 == 1))))))]) (by kernel_rfl) rfl rfl
                          ⟨st_plain rfl (op_move _ _ _ _ rfl rfl),
                            st_plain rfl (op_move _ _ _ _ rfl rfl),
                            st_plain rfl (op_bin _ _ _ _ _ rfl rfl rfl),
                            st_plain rfl (op_move _ _ _ _ (congrArg (fun b => AV.v (Value.bool b)) hg18_3) rfl),
                            st_run 3 85 true rfl rfl rfl (List.Mem.head _) (op_move _ _ _ _ rfl rfl),
                            st_run 3 85 true rfl rfl rfl (List.Mem.head _) (op_move _ _ _ _ rfl rfl),
                            st_run 3 85 true rfl rfl rfl (List.Mem.head _) (op_bin _ _ _ _ _ rfl rfl (ibind (f := Value.int .i64) (Option.some.inj hv33))),
                            st_run 3 85 true rfl rfl rfl (List.Mem.head _) (op_bin _ _ _ _ _ rfl rfl rfl),
                            st_plain rfl (op_pick _ _ true _ rfl rfl),
                            st_plain rfl (op_move _ _ _ _ (congrArg (fun b => AV.v (Value.bool b)) hg18_9) rfl),
                            st_run 9 91 true rfl rfl rfl (List.Mem.head _) (op_move _ _ _ _ rfl rfl),
                            st_run 9 91 true rfl rfl rfl (List.Mem.head _) (op_move _ _ _ _ rfl rfl),
                            st_run 9 91 true rfl rfl rfl (List.Mem.head _) (op_bin _ _ _ _ _ rfl rfl (rem_ok hv34)),
                            st_run 9 91 true rfl rfl rfl (List.Mem.head _) (op_bin _ _ _ _ _ rfl rfl (ibind (f := Value.int .i64) (Option.some.inj hv35))),
                            st_run 9 91 true rfl rfl rfl (List.Mem.head _) (op_bin _ _ _ _ _ rfl rfl (rem_ok hv36)),
                            st_run 9 91 true rfl rfl rfl (List.Mem.head _) (op_move _ _ _ _ rfl rfl),
                            st_run 9 91 true rfl rfl rfl (List.Mem.head _) (op_move _ _ _ _ rfl rfl),
                            st_run 9 91 true rfl rfl rfl (List.Mem.head _) (op_bin _ _ _ _ _ rfl rfl (ibind (f := Value.int .i64) (Option.some.inj hv37))),
                            st_run 9 91 true rfl rfl rfl (List.Mem.head _) ((Option.some.inj hv38) ▸ op_conv _ _ _ Try.underlying3 Try.underlying43 rfl),
                            st_run 9 91 true rfl rfl rfl (List.Mem.head _) (op_bin _ _ _ _ _ rfl rfl (shr_ok hv39)),
                            st_run 9 91 true rfl rfl rfl (List.Mem.head _) (op_bin _ _ _ _ _ rfl rfl (ibind (f := Value.int .i64) (Option.some.inj hv40))),
                            st_run 9 91 true rfl rfl rfl (List.Mem.head _) (op_bin _ _ _ _ _ rfl rfl rfl),
                            st_run 9 91 true rfl rfl rfl (List.Mem.head _) (op_bne _ _ _ _ Try.underlying4 rfl rfl),
                            st_plain rfl (op_pick _ _ true _ rfl rfl),
                            trivial⟩ ?_
                        exact hl86 _ (Option.some.inj h).symm
                      · refine ht_seqR hn (El := (_ :: _ :: _ :: _ :: _ :: _ :: _ :: _ :: (82, .v (.int .i64 s60)) :: (83, .v (.int .i64 s10)) :: (84, .v (.bool ((decide (s10 < s60))))) :: (85, .v (.bool true)) :: (86, .v (.int .i64 s60)) :: (87, .v (.int .i64 s10)) :: (88, .v (.int .i64 v33)) :: (89, .v (.bool ((decide (s60 < v33))))) :: (90, .v (.bool ((decide (s60 < v33))))) :: (91, .v (.bool false)) :: (92, .v undef) :: (93, .v undef) :: (94, .v undef) :: (95, .v undef) :: (96, .v undef) :: (97, .v undef) :: (98, .v undef) :: (99, .v undef) :: (100, .v undef) :: (101, .v undef) :: (102, .v undef) :: (103, .v undef) :: (104, .v undef) :: (105, .v (.bool false)) :: [])) (init := [0, 1, 2, 3, 4, 5, 6, 7]) (fin := [0, 1, 2, 3, 4, 5, 31]) (sps := (⟨[5], [], [8], [(.slot 82)]⟩ :: ⟨[4], [], [9], [(.slot 83)]⟩ :: ⟨[8, 9], [], [10], [(.slot 84)]⟩ :: ⟨[10], [], [11], [(.slot 85)]⟩ :: ⟨[11, 5], [], [12], [(.slot 86)]⟩ :: ⟨[11, 4], [], [13], [(.slot 87)]⟩ :: ⟨[11, 13], [], [14], [(.slot 88)]⟩ :: ⟨[11, 12, 14], [], [15], [(.slot 89)]⟩ :: ⟨[11, 15], [], [16], [(.slot 90)]⟩ :: ⟨[16], [], [17], [(.slot 91)]⟩ :: ⟨[17], [], [18], [(.slot 92)]⟩ :: ⟨[17], [], [19], [(.slot 93)]⟩ :: ⟨[17], [], [20], [(.slot 94)]⟩ :: ⟨[17], [], [21], [(.slot 95)]⟩ :: ⟨[17], [], [22], [(.slot 96)]⟩ :: ⟨[17], [], [23], [(.slot 97)]⟩ :: ⟨[17], [], [24], [(.slot 98)]⟩ :: ⟨[17], [], [25], [(.slot 99)]⟩ :: ⟨[17], [], [26], [(.slot 100)]⟩ :: ⟨[17], [], [27], [(.slot 101)]⟩ :: ⟨[17], [], [28], [(.slot 102)]⟩ :: ⟨[17], [], [29], [(.slot 103)]⟩ :: ⟨[17], [], [30], [(.slot 104)]⟩ :: ⟨[17], [], [31], [(.slot 105)]⟩ :: [])) (es' := [(_, _), (_, _), (_, _), (_, _), (_, _), (_, _), (105, .v (.bool false))]) (by kernel_rfl) rfl rfl
                          ⟨st_plain rfl (op_move _ _ _ _ rfl rfl),
                            st_plain rfl (op_move _ _ _ _ rfl rfl),
                            st_plain rfl (op_bin _ _ _ _ _ rfl rfl rfl),
                            st_plain rfl (op_move _ _ _ _ (congrArg (fun b => AV.v (Value.bool b)) hg18_3) rfl),
                            st_run 3 85 true rfl rfl rfl (List.Mem.head _) (op_move _ _ _ _ rfl rfl),
                            st_run 3 85 true rfl rfl rfl (List.Mem.head _) (op_move _ _ _ _ rfl rfl),
                            st_run 3 85 true rfl rfl rfl (List.Mem.head _) (op_bin _ _ _ _ _ rfl rfl (ibind (f := Value.int .i64) (Option.some.inj hv33))),
                            st_run 3 85 true rfl rfl rfl (List.Mem.head _) (op_bin _ _ _ _ _ rfl rfl rfl),
                            st_plain rfl (op_pick _ _ true _ rfl rfl),
                            st_plain rfl (op_move _ _ _ _ (congrArg (fun b => AV.v (Value.bool b)) hg18_9) rfl),
                            st_skip 9 91 _ true rfl rfl rfl rfl (List.Mem.head _),
                            st_skip 9 91 _ true rfl rfl rfl rfl (List.Mem.head _),
                            st_skip 9 91 _ true rfl rfl rfl rfl (List.Mem.head _),
                            st_skip 9 91 _ true rfl rfl rfl rfl (List.Mem.head _),
                            st_skip 9 91 _ true rfl rfl rfl rfl (List.Mem.head _),
                            st_skip 9 91 _ true rfl rfl rfl rfl (List.Mem.head _),
                            st_skip 9 91 _ true rfl rfl rfl rfl (List.Mem.head _),
                            st_skip 9 91 _ true rfl rfl rfl rfl (List.Mem.head _),
                            st_skip 9 91 _ true rfl rfl rfl rfl (List.Mem.head _),
                            st_skip 9 91 _ true rfl rfl rfl rfl (List.Mem.head _),
                            st_skip 9 91 _ true rfl rfl rfl rfl (List.Mem.head _),
                            st_skip 9 91 _ true rfl rfl rfl rfl (List.Mem.head _),
                            st_skip 9 91 _ true rfl rfl rfl rfl (List.Mem.head _),
                            st_plain rfl (op_pick _ _ false _ rfl rfl),
                            trivial⟩ ?_
                        exact hl86 _ (Option.some.inj h).symm
                    · refine ht_seqR hn (El := (_ :: _ :: _ :: _ :: _ :: _ :: _ :: _ :: (82, .v (.int .i64 s60)) :: (83, .v (.int .i64 s10)) :: (84, .v (.bool ((decide (s10 < s60))))) :: (85, .v (.bool false)) :: (86, .v undef) :: (87, .v undef) :: (88, .v undef) :: (89, .v undef) :: (90, .v (.bool false)) :: (91, .v (.bool false)) :: (92, .v undef) :: (93, .v undef) :: (94, .v undef) :: (95, .v undef) :: (96, .v undef) :: (97, .v undef) :: (98, .v undef) :: (99, .v undef) :: (100, .v undef) :: (101, .v undef) :: (102, .v undef) :: (103, .v undef) :: (104, .v undef) :: (105, .v (.bool false)) :: [])) (init := [0, 1, 2, 3, 4, 5, 6, 7]) (fin := [0, 1, 2, 3, 4, 5, 31]) (sps := (⟨[5], [], [8], [(.slot 82)]⟩ :: ⟨[4], [], [9], [(.slot 83)]⟩ :: ⟨[8, 9], [], [10], [(.slot 84)]⟩ :: ⟨[10], [], [11], [(.slot 85)]⟩ :: ⟨[11], [], [12], [(.slot 86)]⟩ :: ⟨[11], [], [13], [(.slot 87)]⟩ :: ⟨[11], [], [14], [(.slot 88)]⟩ :: ⟨[11], [], [15], [(.slot 89)]⟩ :: ⟨[11], [], [16], [(.slot 90)]⟩ :: ⟨[16], [], [17], [(.slot 91)]⟩ :: ⟨[17], [], [18], [(.slot 92)]⟩ :: ⟨[17], [], [19], [(.slot 93)]⟩ :: ⟨[17], [], [20], [(.slot 94)]⟩ :: ⟨[17], [], [21], [(.slot 95)]⟩ :: ⟨[17], [], [22], [(.slot 96)]⟩ :: ⟨[17], [], [23], [(.slot 97)]⟩ :: ⟨[17], [], [24], [(.slot 98)]⟩ :: ⟨[17], [], [25], [(.slot 99)]⟩ :: ⟨[17], [], [26], [(.slot 100)]⟩ :: ⟨[17], [], [27], [(.slot 101)]⟩ :: ⟨[17], [], [28], [(.slot 102)]⟩ :: ⟨[17], [], [29], [(.slot 103)]⟩ :: ⟨[17], [], [30], [(.slot 104)]⟩ :: ⟨[17], [], [31], [(.slot 105)]⟩ :: [])) (es' := [(_, _), (_, _), (_, _), (_, _), (_, _), (_, _), (105, .v (.bool false))]) (by kernel_rfl) rfl rfl
                        ⟨st_plain rfl (op_move _ _ _ _ rfl rfl),
                          st_plain rfl (op_move _ _ _ _ rfl rfl),
                          st_plain rfl (op_bin _ _ _ _ _ rfl rfl rfl),
                          st_plain rfl (op_move _ _ _ _ (congrArg (fun b => AV.v (Value.bool b)) hg18_3) rfl),
                          st_skip 3 85 _ true rfl rfl rfl rfl (List.Mem.head _),
                          st_skip 3 85 _ true rfl rfl rfl rfl (List.Mem.head _),
                          st_skip 3 85 _ true rfl rfl rfl rfl (List.Mem.head _),
                          st_skip 3 85 _ true rfl rfl rfl rfl (List.Mem.head _),
                          st_plain rfl (op_pick _ _ false _ rfl rfl),
                          st_plain rfl (op_move _ _ _ _ rfl rfl),
                          st_skip 9 91 _ true rfl rfl rfl rfl (List.Mem.head _),
                          st_skip 9 91 _ true rfl rfl rfl rfl (List.Mem.head _),
                          st_skip 9 91 _ true rfl rfl rfl rfl (List.Mem.head _),
                          st_skip 9 91 _ true rfl rfl rfl rfl (List.Mem.head _),
                          st_skip 9 91 _ true rfl rfl rfl rfl (List.Mem.head _),
                          st_skip 9 91 _ true rfl rfl rfl rfl (List.Mem.head _),
                          st_skip 9 91 _ true rfl rfl rfl rfl (List.Mem.head _),
                          st_skip 9 91 _ true rfl rfl rfl rfl (List.Mem.head _),
                          st_skip 9 91 _ true rfl rfl rfl rfl (List.Mem.head _),
                          st_skip 9 91 _ true rfl rfl rfl rfl (List.Mem.head _),
                          st_skip 9 91 _ true rfl rfl rfl rfl (List.Mem.head _),
                          st_skip 9 91 _ true rfl rfl rfl rfl (List.Mem.head _),
                          st_skip 9 91 _ true rfl rfl rfl rfl (List.Mem.head _),
                          st_plain rfl (op_pick _ _ false _ rfl rfl),
                          trivial⟩ ?_
                      exact hl86 _ (Option.some.inj h).symm
              · intro u80 h hl81 hr82
                refine cond_some h (fun hg16_1 h => ?_) (fun hg16_1 h => ?_)
                · refine cond_some h (fun hg16_5 h => ?_) (fun hg16_5 h => ?_)
                  · refine ht_seqR hn (El := (_ :: _ :: _ :: _ :: _ :: _ :: _ :: (61, .v (.bool (v26 == 1))) :: (62, .v (.bool true)) :: (63, .v (.int .i64 s60)) :: (64, .v (.int .i64 s10)) :: (65, .v (.bool ((decide (s60 < s10))))) :: (66, .v (.bool true)) :: (67, .v undef) :: (68, .v undef) :: (69, .v undef) :: (70, .v undef) :: (71, .v (.bool true)) :: (72, .v (.bool true)) :: (73, .v (.bool true)) :: (74, .v undef) :: (75, .v undef) :: (76, .v undef) :: (77, .v undef) :: (78, .v undef) :: (79, .v undef) :: (80, .v undef) :: (81, .v (.bool true)) :: [])) (init := [0, 1, 2, 3, 4, 5, 6]) (fin := [0, 1, 2, 3, 4, 5, 6, 27]) (sps := (⟨[6], [], [7], [(.slot 61)]⟩ :: ⟨[7], [], [8], [(.slot 62)]⟩ :: ⟨[8, 5], [], [9], [(.slot 63)]⟩ :: ⟨[8, 4], [], [10], [(.slot 64)]⟩ :: ⟨[8, 9, 10], [], [11], [(.slot 65)]⟩ :: ⟨[8, 11], [], [12], [(.slot 66)]⟩ :: ⟨[12], [], [13], [(.slot 67)]⟩ :: ⟨[12], [], [14], [(.slot 68)]⟩ :: ⟨[12], [], [15], [(.slot 69)]⟩ :: ⟨[12], [], [16], [(.slot 70)]⟩ :: ⟨[8, 12], [], [17], [(.slot 71)]⟩ :: ⟨[8, 17], [], [18], [(.slot 72)]⟩ :: ⟨[18], [], [19], [(.slot 73)]⟩ :: ⟨[19], [], [20], [(.slot 74)]⟩ :: ⟨[19], [], [21], [(.slot 75)]⟩ :: ⟨[19], [], [22], [(.slot 76)]⟩ :: ⟨[19], [], [23], [(.slot 77)]⟩ :: ⟨[23], [], [24], [(.slot 78)]⟩ :: ⟨[23], [], [25], [(.slot 79)]⟩ :: ⟨[19], [], [26], [(.slot 80)]⟩ :: ⟨[19], [], [27], [(.slot 81)]⟩ :: [])) (es' := [(_, _), (_, _), (_, _), (_, _), (_, _), (_, _), (_, _), (81, .v (.bool true))]) (by kernel_rfl) rfl rfl
                      ⟨st_plain rfl (op_move _ _ _ _ rfl rfl),
                        st_plain rfl (op_move _ _ _ _ (congrArg (fun b => AV.v (Value.bool b)) hg16_1) rfl),
                        st_run 1 62 true rfl rfl rfl (List.Mem.head _) (op_move _ _ _ _ rfl rfl),
                        st_run 1 62 true rfl rfl rfl (List.Mem.head _) (op_move _ _ _ _ rfl rfl),
                        st_run 1 62 true rfl rfl rfl (List.Mem.head _) (op_bin _ _ _ _ _ rfl rfl rfl),
                        st_run 1 62 true rfl rfl rfl (List.Mem.head _) (op_move _ _ _ _ (congrArg (fun b => AV.v (Value.bool b)) hg16_5) rfl),
                        st_skip 5 66 _ false rfl rfl rfl rfl (List.Mem.head _),
                        st_skip 5 66 _ false rfl rfl rfl rfl (List.Mem.head _),
                        st_skip 5 66 _ false rfl rfl rfl rfl (List.Mem.head _),
                        st_skip 5 66 _ false rfl rfl rfl rfl (List.Mem.head _),
                        st_run 1 62 true rfl rfl rfl (List.Mem.head _) (op_pick _ _ true _ rfl rfl),
                        st_plain rfl (op_pick _ _ true _ rfl rfl),
                        st_plain rfl (op_move _ _ _ _ rfl rfl),
                        st_skip 12 73 _ false rfl rfl rfl rfl (List.Mem.head _),
                        st_skip 12 73 _ false rfl rfl rfl rfl (List.Mem.head _),
                        st_skip 12 73 _ false rfl rfl rfl rfl (List.Mem.head _),
                        st_skip 12 73 _ false rfl rfl rfl rfl (List.Mem.head _),
                        st_skipU 16 77 _ true rfl rfl rfl rfl (List.Mem.head _),
                        st_skipU 16 77 _ true rfl rfl rfl rfl (List.Mem.head _),
                        st_skip 12 73 _ false rfl rfl rfl rfl (List.Mem.head _),
                        st_plain rfl (op_pick _ _ true _ rfl rfl),
                        trivial⟩ ?_
                    exact hl81 _ (Option.some.inj h).symm
                  · obtain ⟨v27, hv27, h⟩ := bind_some h
                    refine cond_some h (fun hg16_12 h => ?_) (fun hg16_12 h => ?_)
                    · refine ht_seqR hn (El := (_ :: _ :: _ :: _ :: _ :: _ :: _ :: (61, .v (.bool (v26 == 1))) :: (62, .v (.bool true)) :: (63, .v (.int .i64 s60)) :: (64, .v (.int .i64 s10)) :: (65, .v (.bool ((decide (s60 < s10))))) :: (66, .v (.bool false)) :: (67, .v (.int .i64 s60)) :: (68, .v (.int .i64 s10)) :: (69, .v (.int .i64 v27)) :: (70, .v (.bool ((decide (v27 ≤ s60))))) :: (71, .v (.bool ((decide (v27 ≤ s60))))) :: (72, .v (.bool ((decide (v27 ≤ s60))))) :: (73, .v (.bool true)) :: (74, .v undef) :: (75, .v undef) :: (76, .v undef) :: (77, .v undef) :: (78, .v undef) :: (79, .v undef) :: (80, .v undef) :: (81, .v (.bool true)) :: [])) (init := [0, 1, 2, 3, 4, 5, 6]) (fin := [0, 1, 2, 3, 4, 5, 6, 27]) (sps := (⟨[6], [], [7], [(.slot 61)]⟩ :: ⟨[7], [], [8], [(.slot 62)]⟩ :: ⟨[8, 5], [], [9], [(.slot 63)]⟩ :: ⟨[8, 4], [], [10], [(.slot 64)]⟩ :: ⟨[8, 9, 10], [], [11], [(.slot 65)]⟩ :: ⟨[8, 11], [], [12], [(.slot 66)]⟩ :: ⟨[12, 5], [], [13], [(.slot 67)]⟩ :: ⟨[12, 4], [], [14], [(.slot 68)]⟩ :: ⟨[12, 14], [], [15], [(.slot 69)]⟩ :: ⟨[12, 13, 15], [], [16], [(.slot 70)]⟩ :: ⟨[8, 12, 16], [], [17], [(.slot 71)]⟩ :: ⟨[8, 17], [], [18], [(.slot 72)]⟩ :: ⟨[18], [], [19], [(.slot 73)]⟩ :: ⟨[19], [], [20], [(.slot 74)]⟩ :: ⟨[19], [], [21], [(.slot 75)]⟩ :: ⟨[19], [], [22], [(.slot 76)]⟩ :: ⟨[19], [], [23], [(.slot 77)]⟩ :: ⟨[23], [], [24], [(.slot 78)]⟩ :: ⟨[23], [], [25], [(.slot 79)]⟩ :: ⟨[19], [], [26], [(.slot 80)]⟩ :: ⟨[19], [], [27], [(.slot 81)]⟩ :: [])) (es' := [(_, _), (_, _), (_, _), (_, _), (_, _), (_, _), (_, _), (81, .v (.bool true))]) (by kernel_rfl) rfl rfl
                        ⟨st_plain rfl (op_move _ _ _ _ rfl rfl),
                          st_plain rfl (op_move _ _ _ _ (congrArg (fun b => AV.v (Value.bool b)) hg16_1) rfl),
                          st_run 1 62 true rfl rfl rfl (List.Mem.head _) (op_move _ _ _ _ rfl rfl),
                          st_run 1 62 true rfl rfl rfl (List.Mem.head _) (op_move _ _ _ _ rfl rfl),
                          st_run 1 62 true rfl rfl rfl (List.Mem.head _) (op_bin _ _ _ _ _ rfl rfl rfl),
                          st_run 1 62 true rfl rfl rfl (List.Mem.head _) (op_move _ _ _ _ (congrArg (fun b => AV.v (Value.bool b)) hg16_5) rfl),
                          st_run 5 66 false rfl rfl rfl (List.Mem.head _) (op_move _ _ _ _ rfl rfl),
                          st_run 5 66 false rfl rfl rfl (List.Mem.head _) (op_move _ _ _ _ rfl rfl),
                          st_run 5 66 false rfl rfl rfl (List.Mem.head _) (op_bin _ _ _ _ _ rfl rfl (ibind (f := Value.int .i64) (Option.some.inj hv27))),
                          st_run 5 66 false rfl rfl rfl (List.Mem.head _) (op_bin _ _ _ _ _ rfl rfl rfl),
                          st_run 1 62 true rfl rfl rfl (List.Mem.head _) (op_pick _ _ false _ rfl rfl),
                          st_plain rfl (op_pick _ _ true _ rfl rfl),
                          st_plain rfl (op_move _ _ _ _ (congrArg (fun b => AV.v (Value.bool b)) hg16_12) rfl),
                          st_skip 12 73 _ false rfl rfl rfl rfl (List.Mem.head _),
                          st_skip 12 73 _ false rfl rfl rfl rfl (List.Mem.head _),
                          st_skip 12 73 _ false rfl rfl rfl rfl (List.Mem.head _),
                          st_skip 12 73 _ false rfl rfl rfl rfl (List.Mem.head _),
                          st_skipU 16 77 _ true rfl rfl rfl rfl (List.Mem.head _),
                          st_skipU 16 77 _ true rfl rfl rfl rfl (List.Mem.head _),
                          st_skip 12 73 _ false rfl rfl rfl rfl (List.Mem.head _),
                          st_plain rfl (op_pick _ _ true _ rfl rfl),
                          trivial⟩ ?_
                      exact hl81 _ (Option.some.inj h).symm
                    · refine cond_some h (fun hg16_16 h => ?_) (fun hg16_16 h => ?_)
                      · refine ht_seqR hn (El := (_ :: _ :: _ :: _ :: _ :: _ :: _ :: (61, .v (.bool (v26 == 1))) :: (62, .v (.bool true)) :: (63, .v (.int .i64 s60)) :: (64, .v (.int .i64 s10)) :: (65, .v (.bool ((decide (s60 < s10))))) :: (66, .v (.bool false)) :: (67, .v (.int .i64 s60)) :: (68, .v (.int .i64 s10)) :: (69, .v (.int .i64 v27)) :: (70, .v (.bool ((decide (v27 ≤ s60))))) :: (71, .v (.bool ((decide (v27 ≤ s60))))) :: (72, .v (.bool ((decide (v27 ≤ s60))))) :: (73, .v (.bool false)) :: (74, .v (.int .i64 s60)) :: (75, .v (.int .i64 s10)) :: (76, .v (.bool (s60 == s10))) :: (77, .v (.bool true)) :: (78, .v (.bool (v26 == 1))) :: (79, .v (.bool ((!(v26 == 1))))) :: (80, .v (.bool ((!(v26 == 1))))) :: (81, .v (.bool ((!(v26 == 1))))) :: [])) (init := [0, 1, 2, 3, 4, 5, 6]) (fin := [0, 1, 2, 3, 4, 5, 6, 27]) (sps := (⟨[6], [], [7], [(.slot 61)]⟩ :: ⟨[7], [], [8], [(.slot 62)]⟩ :: ⟨[8, 5], [], [9], [(.slot 63)]⟩ :: ⟨[8, 4], [], [10], [(.slot 64)]⟩ :: ⟨[8, 9, 10], [], [11], [(.slot 65)]⟩ :: ⟨[8, 11], [], [12], [(.slot 66)]⟩ :: ⟨[12, 5], [], [13], [(.slot 67)]⟩ :: ⟨[12, 4], [], [14], [(.slot 68)]⟩ :: ⟨[12, 14], [], [15], [(.slot 69)]⟩ :: ⟨[12, 13, 15], [], [16], [(.slot 70)]⟩ :: ⟨[8, 12, 16], [], [17], [(.slot 71)]⟩ :: ⟨[8, 17], [], [18], [(.slot 72)]⟩ :: ⟨[18], [], [19], [(.slot 73)]⟩ :: ⟨[19, 5], [], [20], [(.slot 74)]⟩ :: ⟨[19, 4], [], [21], [(.slot 75)]⟩ :: ⟨[19, 20, 21], [], [22], [(.slot 76)]⟩ :: ⟨[19, 22], [], [23], [(.slot 77)]⟩ :: ⟨[23, 6], [], [24], [(.slot 78)]⟩ :: ⟨[23, 24], [], [25], [(.slot 79)]⟩ :: ⟨[19, 23, 25], [], [26], [(.slot 80)]⟩ :: ⟨[19, 26], [], [27], [(.slot 81)]⟩ :: [])) (es' := [(_, _), (_, _), (_, _), (_, _), (_, _), (_, _), (_, _), (81, .v (.bool ((!(v26 == 1)))))]) (by kernel_rfl) rfl rfl
                          ⟨st_plain rfl (op_move _ _ _ _ rfl rfl),
                            st_plain rfl (op_move _ _ _ _ (congrArg (fun b => AV.v (Value.bool b)) hg16_1) rfl),
                            st_run 1 62 true rfl rfl rfl (List.Mem.head _) (op_move _ _ _ _ rfl rfl),
                            st_run 1 62 true rfl rfl rfl (List.Mem.head _) (op_move _ _ _ _ rfl rfl),
                            st_run 1 62 true rfl rfl rfl (List.Mem.head _) (op_bin _ _ _ _ _ rfl rfl rfl),
                            st_run 1 62 true rfl rfl rfl (List.Mem.head _) (op_move _ _ _ _ (congrArg (fun b => AV.v (Value.bool b)) hg16_5) rfl),
                            st_run 5 66 false rfl rfl rfl (List.Mem.head _) (op_move _ _ _ _ rfl rfl),
                            st_run 5 66 false rfl rfl rfl (List.Mem.head _) (op_move _ _ _ _ rfl rfl),
                            st_run 5 66 false rfl rfl rfl (List.Mem.head _) (op_bin _ _ _ _ _ rfl rfl (ibind (f := Value.int .i64) (Option.some.inj hv27))),
                            st_run 5 66 false rfl rfl rfl (List.Mem.head _) (op_bin _ _ _ _ _ rfl rfl rfl),
                            st_run 1 62 true rfl rfl rfl (List.Mem.head _) (op_pick _ _ false _ rfl rfl),
                            st_plain rfl (op_pick _ _ true _ rfl rfl),
                            st_plain rfl (op_move _ _ _ _ (congrArg (fun b => AV.v (Value.bool b)) hg16_12) rfl),
                            st_run 12 73 false rfl rfl rfl (List.Mem.head _) (op_move _ _ _ _ rfl rfl),
                            st_run 12 73 false rfl rfl rfl (List.Mem.head _) (op_move _ _ _ _ rfl rfl),
                            st_run 12 73 false rfl rfl rfl (List.Mem.head _) (op_bin _ _ _ _ _ rfl rfl rfl),
                            st_run 12 73 false rfl rfl rfl (List.Mem.head _) (op_move _ _ _ _ (congrArg (fun b => AV.v (Value.bool b)) hg16_16) rfl),
                            st_run 16 77 true rfl rfl rfl (List.Mem.head _) (op_move _ _ _ _ rfl rfl),
                            st_run 16 77 true rfl rfl rfl (List.Mem.head _) (op_un _ _ _ _ rfl rfl),
                            st_run 12 73 false rfl rfl rfl (List.Mem.head _) (op_pick _ _ true _ rfl rfl),
                            st_plain rfl (op_pick _ _ false _ rfl rfl),
                            trivial⟩ ?_
                        exact hl81 _ (Option.some.inj h).symm
                      · refine ht_seqR hn (El := (_ :: _ :: _ :: _ :: _ :: _ :: _ :: (61, .v (.bool (v26 == 1))) :: (62, .v (.bool true)) :: (63, .v (.int .i64 s60)) :: (64, .v (.int .i64 s10)) :: (65, .v (.bool ((decide (s60 < s10))))) :: (66, .v (.bool false)) :: (67, .v (.int .i64 s60)) :: (68, .v (.int .i64 s10)) :: (69, .v (.int .i64 v27)) :: (70, .v (.bool ((decide (v27 ≤ s60))))) :: (71, .v (.bool ((decide (v27 ≤ s60))))) :: (72, .v (.bool ((decide (v27 ≤ s60))))) :: (73, .v (.bool false)) :: (74, .v (.int .i64 s60)) :: (75, .v (.int .i64 s10)) :: (76, .v (.bool (s60 == s10))) :: (77, .v (.bool false)) :: (78, .v undef) :: (79, .v undef) :: (80, .v (.bool false)) :: (81, .v (.bool false)) :: [])) (init := [0, 1, 2, 3, 4, 5, 6]) (fin := [0, 1, 2, 3, 4, 5, 6, 27]) (sps := (⟨[6], [], [7], [(.slot 61)]⟩ :: ⟨[7], [], [8], [(.slot 62)]⟩ :: ⟨[8, 5], [], [9], [(.slot 63)]⟩ :: ⟨[8, 4], [], [10], [(.slot 64)]⟩ :: ⟨[8, 9, 10], [], [11], [(.slot 65)]⟩ :: ⟨[8, 11], [], [12], [(.slot 66)]⟩ :: ⟨[12, 5], [], [13], [(.slot 67)]⟩ :: ⟨[12, 4], [], [14], [(.slot 68)]⟩ :: ⟨[12, 14], [], [15], [(.slot 69)]⟩ :: ⟨[12, 13, 15], [], [16], [(.slot 70)]⟩ :: ⟨[8, 12, 16], [], [17], [(.slot 71)]⟩ :: ⟨[8, 17], [], [18], [(.slot 72)]⟩ :: ⟨[18], [], [19], [(.slot 73)]⟩ :: ⟨[19, 5], [], [20], [(.slot 74)]⟩ :: ⟨[19, 4], [], [21], [(.slot 75)]⟩ :: ⟨[19, 20, 21], [], [22], [(.slot 76)]⟩ :: ⟨[19, 22], [], [23], [(.slot 77)]⟩ :: ⟨[23], [], [24], [(.slot 78)]⟩ :: ⟨[23], [], [25], [(.slot 79)]⟩ :: ⟨[19, 23], [], [26], [(.slot 80)]⟩ :: ⟨[19, 26], [], [27], [(.slot 81)]⟩ :: [])) (es' := [(_, _), (_, _), (_, _), (_, _), (_, _), (_, _), (_, _), (81, .v (.bool false))]) (by kernel_rfl) rfl rfl
                          ⟨st_plain rfl (op_move _ _ _ _ rfl rfl),
                            st_plain rfl (op_move _ _ _ _ (congrArg (fun b => AV.v (Value.bool b)) hg16_1) rfl),
                            st_run 1 62 true rfl rfl rfl (List.Mem.head _) (op_move _ _ _ _ rfl rfl),
                            st_run 1 62 true rfl rfl rfl (List.Mem.head _) (op_move _ _ _ _ rfl rfl),
                            st_run 1 62 true rfl rfl rfl (List.Mem.head _) (op_bin _ _ _ _ _ rfl rfl rfl),
                            st_run 1 62 true rfl rfl rfl (List.Mem.head _) (op_move _ _ _ _ (congrArg (fun b => AV.v (Value.bool b)) hg16_5) rfl),
                            st_run 5 66 false rfl rfl rfl (List.Mem.head _) (op_move _ _ _ _ rfl rfl),
                            st_run 5 66 false rfl rfl rfl (List.Mem.head _) (op_move _ _ _ _ rfl rfl),
                            st_run 5 66 false rfl rfl rfl (List.Mem.head _) (op_bin _ _ _ _ _ rfl rfl (ibind (f := Value.int .i64) (Option.some.inj hv27))),
                            st_run 5 66 false rfl rfl rfl (List.Mem.head _) (op_bin _ _ _ _ _ rfl rfl rfl),
                            st_run 1 62 true rfl rfl rfl (List.Mem.head _) (op_pick _ _ false _ rfl rfl),
                            st_plain rfl (op_pick _ _ true _ rfl rfl),
                            st_plain rfl (op_move _ _ _ _ (congrArg (fun b => AV.v (Value.bool b)) hg16_12) rfl),
                            st_run 12 73 false rfl rfl rfl (List.Mem.head _) (op_move _ _ _ _ rfl rfl),
                            st_run 12 73 false rfl rfl rfl (List.Mem.head _) (op_move _ _ _ _ rfl rfl),
                            st_run 12 73 false rfl rfl rfl (List.Mem.head _) (op_bin _ _ _ _ _ rfl rfl rfl),
                            st_run 12 73 false rfl rfl rfl (List.Mem.head _) (op_move _ _ _ _ (congrArg (fun b => AV.v (Value.bool b)) hg16_16) rfl),
                            st_skip 16 77 _ true rfl rfl rfl rfl (List.Mem.head _),
                            st_skip 16 77 _ true rfl rfl rfl rfl (List.Mem.head _),
                            st_run 12 73 false rfl rfl rfl (List.Mem.head _) (op_pick _ _ false _ rfl rfl),
                            st_plain rfl (op_pick _ _ false _ rfl rfl),
                            trivial⟩ ?_
                        exact hl81 _ (Option.some.inj h).symm
                · refine cond_some h (fun hg16_16 h => ?_) (fun hg16_16 h => ?_)
                  · refine ht_seqR hn (El := (_ :: _ :: _ :: _ :: _ :: _ :: _ :: (61, .v (.bool (v26 == 1))) :: (62, .v (.bool false)) :: (63, .v undef) :: (64, .v undef) :: (65, .v undef) :: (66, .v undef) :: (67, .v undef) :: (68, .v undef) :: (69, .v undef) :: (70, .v undef) :: (71, .v undef) :: (72, .v (.bool false)) :: (73, .v (.bool false)) :: (74, .v (.int .i64 s60)) :: (75, .v (.int .i64 s10)) :: (76, .v (.bool (s60 == s10))) :: (77, .v (.bool true)) :: (78, .v (.bool (v26 == 1))) :: (79, .v (.bool ((!(v26 == 1))))) :: (80, .v (.bool ((!(v26 == 1))))) :: (81, .v (.bool ((!(v26 == 1))))) :: [])) (init := [0, 1, 2, 3, 4, 5, 6]) (fin := [0, 1, 2, 3, 4, 5, 6, 27]) (sps := (⟨[6], [], [7], [(.slot 61)]⟩ :: ⟨[7], [], [8], [(.slot 62)]⟩ :: ⟨[8], [], [9], [(.slot 63)]⟩ :: ⟨[8], [], [10], [(.slot 64)]⟩ :: ⟨[8], [], [11], [(.slot 65)]⟩ :: ⟨[8], [], [12], [(.slot 66)]⟩ :: ⟨[12], [], [13], [(.slot 67)]⟩ :: ⟨[12], [], [14], [(.slot 68)]⟩ :: ⟨[12], [], [15], [(.slot 69)]⟩ :: ⟨[12], [], [16], [(.slot 70)]⟩ :: ⟨[8], [], [17], [(.slot 71)]⟩ :: ⟨[8], [], [18], [(.slot 72)]⟩ :: ⟨[18], [], [19], [(.slot 73)]⟩ :: ⟨[19, 5], [], [20], [(.slot 74)]⟩ :: ⟨[19, 4], [], [21], [(.slot 75)]⟩ :: ⟨[19, 20, 21], [], [22], [(.slot 76)]⟩ :: ⟨[19, 22], [], [23], [(.slot 77)]⟩ :: ⟨[23, 6], [], [24], [(.slot 78)]⟩ :: ⟨[23, 24], [], [25], [(.slot 79)]⟩ :: ⟨[19, 23, 25], [], [26], [(.slot 80)]⟩ :: ⟨[19, 26], [], [27], [(.slot 81)]⟩ :: [])) (es' := [(_, _), (_, _), (_, _), (_, _), (_, _), (_, _), (_, _), (81, .v (.bool ((!(v26 == 1)))))]) (by kernel_rfl) rfl rfl
                      ⟨st_plain rfl (op_move _ _ _ _ rfl rfl),
                        st_plain rfl (op_move _ _ _ _ (congrArg (fun b => AV.v (Value.bool b)) hg16_1) rfl),
                        st_skip 1 62 _ true rfl rfl rfl rfl (List.Mem.head _),
                        st_skip 1 62 _ true rfl rfl rfl rfl (List.Mem.head _),
                        st_skip 1 62 _ true rfl rfl rfl rfl (List.Mem.head _),
                        st_skip 1 62 _ true rfl rfl rfl rfl (List.Mem.head _),
                        st_skipU 5 66 _ false rfl rfl rfl rfl (List.Mem.head _),
                        st_skipU 5 66 _ false rfl rfl rfl rfl (List.Mem.head _),
                        st_skipU 5 66 _ false rfl rfl rfl rfl (List.Mem.head _),
                        st_skipU 5 66 _ false rfl rfl rfl rfl (List.Mem.head _),
                        st_skip 1 62 _ true rfl rfl rfl rfl (List.Mem.head _),
                        st_plain rfl (op_pick _ _ false _ rfl rfl),
                        st_plain rfl (op_move _ _ _ _ rfl rfl),
                        st_run 12 73 false rfl rfl rfl (List.Mem.head _) (op_move _ _ _ _ rfl rfl),
                        st_run 12 73 false rfl rfl rfl (List.Mem.head _) (op_move _ _ _ _ rfl rfl),
                        st_run 12 73 false rfl rfl rfl (List.Mem.head _) (op_bin _ _ _ _ _ rfl rfl rfl),
                        st_run 12 73 false rfl rfl rfl (List.Mem.head _) (op_move _ _ _ _ (congrArg (fun b => AV.v (Value.bool b)) hg16_16) rfl),
                        st_run 16 77 true rfl rfl rfl (List.Mem.head _) (op_move _ _ _ _ rfl rfl),
                        st_run 16 77 true rfl rfl rfl (List.Mem.head _) (op_un _ _ _ _ rfl rfl),
                        st_run 12 73 false rfl rfl rfl (List.Mem.head _) (op_pick _ _ true _ rfl rfl),
                        st_plain rfl (op_pick _ _ false _ rfl rfl),
                        trivial⟩ ?_
                    exact hl81 _ (Option.some.inj h).symm
                  · refine ht_seqR hn (El := (_ :: _ :: _ :: _ :: _ :: _ :: _ :: (61, .v (.bool (v26 == 1))) :: (62, .v (.bool false)) :: (63, .v undef) :: (64, .v undef) :: (65, .v undef) :: (66, .v undef) :: (67, .v undef) :: (68, .v undef) :: (69, .v undef) :: (70, .v undef) :: (71, .v undef) :: (72, .v (.bool false)) :: (73, .v (.bool false)) :: (74, .v (.int .i64 s60)) :: (75, .v (.int .i64 s10)) :: (76, .v (.bool (s60 == s10))) :: (77, .v (.bool false)) :: (78, .v undef) :: (79, .v undef) :: (80, .v (.bool false)) :: (81, .v (.bool false)) :: [])) (init := [0, 1, 2, 3, 4, 5, 6]) (fin := [0, 1, 2, 3, 4, 5, 6, 27]) (sps := (⟨[6], [], [7], [(.slot 61)]⟩ :: ⟨[7], [], [8], [(.slot 62)]⟩ :: ⟨[8], [], [9], [(.slot 63)]⟩ :: ⟨[8], [], [10], [(.slot 64)]⟩ :: ⟨[8], [], [11], [(.slot 65)]⟩ :: ⟨[8], [], [12], [(.slot 66)]⟩ :: ⟨[12], [], [13], [(.slot 67)]⟩ :: ⟨[12], [], [14], [(.slot 68)]⟩ :: ⟨[12], [], [15], [(.slot 69)]⟩ :: ⟨[12], [], [16], [(.slot 70)]⟩ :: ⟨[8], [], [17], [(.slot 71)]⟩ :: ⟨[8], [], [18], [(.slot 72)]⟩ :: ⟨[18], [], [19], [(.slot 73)]⟩ :: ⟨[19, 5], [], [20], [(.slot 74)]⟩ :: ⟨[19, 4], [], [21], [(.slot 75)]⟩ :: ⟨[19, 20, 21], [], [22], [(.slot 76)]⟩ :: ⟨[19, 22], [], [23], [(.slot 77)]⟩ :: ⟨[23], [], [24], [(.slot 78)]⟩ :: ⟨[23], [], [25], [(.slot 79)]⟩ :: ⟨[19, 23], [], [26], [(.slot 80)]⟩ :: ⟨[19, 26], [], [27], [(.slot 81)]⟩ :: [])) (es' := [(_, _), (_, _), (_, _), (_, _), (_, _), (_, _), (_, _), (81, .v (.bool false))]) (by kernel_rfl) rfl rfl
                      ⟨st_plain rfl (op_move _ _ _ _ rfl rfl),
                        st_plain rfl (op_move _ _ _ _ (congrArg (fun b => AV.v (Value.bool b)) hg16_1) rfl),
                        st_skip 1 62 _ true rfl rfl rfl rfl (List.Mem.head _),
                        st_skip 1 62 _ true rfl rfl rfl rfl (List.Mem.head _),
                        st_skip 1 62 _ true rfl rfl rfl rfl (List.Mem.head _),
                        st_skip 1 62 _ true rfl rfl rfl rfl (List.Mem.head _),
                        st_skipU 5 66 _ false rfl rfl rfl rfl (List.Mem.head _),
                        st_skipU 5 66 _ false rfl rfl rfl rfl (List.Mem.head _),
                        st_skipU 5 66 _ false rfl rfl rfl rfl (List.Mem.head _),
                        st_skipU 5 66 _ false rfl rfl rfl rfl (List.Mem.head _),
                        st_skip 1 62 _ true rfl rfl rfl rfl (List.Mem.head _),
                        st_plain rfl (op_pick _ _ false _ rfl rfl),
                        st_plain rfl (op_move _ _ _ _ rfl rfl),
                        st_run 12 73 false rfl rfl rfl (List.Mem.head _) (op_move _ _ _ _ rfl rfl),
                        st_run 12 73 false rfl rfl rfl (List.Mem.head _) (op_move _ _ _ _ rfl rfl),
                        st_run 12 73 false rfl rfl rfl (List.Mem.head _) (op_bin _ _ _ _ _ rfl rfl rfl),
                        st_run 12 73 false rfl rfl rfl (List.Mem.head _) (op_move _ _ _ _ (congrArg (fun b => AV.v (Value.bool b)) hg16_16) rfl),
                        st_skip 16 77 _ true rfl rfl rfl rfl (List.Mem.head _),
                        st_skip 16 77 _ true rfl rfl rfl rfl (List.Mem.head _),
                        st_run 12 73 false rfl rfl rfl (List.Mem.head _) (op_pick _ _ false _ rfl rfl),
                        st_plain rfl (op_pick _ _ false _ rfl rfl),
                        trivial⟩ ?_
                    exact hl81 _ (Option.some.inj h).symm
            · have h := cond_f hb78 h
              refine ht_exit ?_
              refine pt_x_then ?_
              refine pt_x_then ?_
              refine pt_x_in ?_
              refine pt_pick [] (by kernel_rfl) (es' := []) rfl ?_
              exact hl73 _ (ho75 _ (Option.some.inj h).symm).symm
        · intro u11 h hl12 hr13
          refine ht_seq ?_
          refine ht_seqR hn (El := [_, _, _, _, _, (34, .v (.int .i64 v7)), (35, .v (.bool ((decide (v7 < 0)))))]) (init := [0, 1, 2, 3, 4]) (fin := [0, 1, 2, 3, 4, 6]) (sps := [⟨[4], [], [5], [(.slot 34)]⟩, ⟨[5], [], [6], [(.slot 35)]⟩]) (es' := [(_, _), (_, _), (_, _), (_, _), (_, _), (35, .v (.bool ((decide (v7 < 0)))))]) (by kernel_rfl) rfl rfl
            ⟨st_plain rfl (op_move _ _ _ _ rfl rfl),
              st_plain rfl (op_bin _ _ _ _ _ rfl rfl rfl),
              trivial⟩ ?_
          refine pt_then ?_
          refine ht_cond _ rfl (fun hb14 => ?_) (fun hb14 => ?_)
          · have h := cond_t hb14 h
            obtain ⟨v9, hv9, h⟩ := bind_some h
            refine ht_seqR hn (El := [_, _, _, _, _, _, (36, .v (.int .i64 v7)), (37, .v (.int .i64 v6)), (38, .v (.int .i64 v9)), (9, .v (.int .i64 v9))]) (init := [0, 1, 2, 3, 4, 5]) (fin := [0, 1, 2, 3, 9]) (sps := [⟨[4], [], [6], [(.slot 36)]⟩, ⟨[3], [], [7], [(.slot 37)]⟩, ⟨[6, 7], [], [8], [(.slot 38)]⟩, ⟨[8], [4], [9], [(.slot 9)]⟩]) (es' := [(_, _), (_, _), (_, _), (_, _), (9, .v (.int .i64 v9))]) (by kernel_rfl) rfl rfl
              ⟨st_plain rfl (op_move _ _ _ _ rfl rfl),
                st_plain rfl (op_move _ _ _ _ rfl rfl),
                st_plain rfl (op_bin _ _ _ _ _ rfl rfl (ibind (f := Value.int .i64) (Option.some.inj hv9))),
                st_plain rfl (LOp.drop [_] (op_assign _ _ _ _ rfl rfl)),
                trivial⟩ ?_
            exact hl12 _ (Option.some.inj h).symm
          · have h := cond_f hb14 h
            refine ht_skip ?_
            refine pt_pick [0, 1, 2, 3, 4] (by kernel_rfl) (es' := [(_, _), (_, _), (_, _), (_, _), (_, _)]) rfl ?_
            exact hl12 _ (Option.some.inj h).symm

end Go.Proofs.Ytenfngliiibiiaa
