/-
  The model's runs are what is told in Lean.
-/
import Derived.Test.YtepjhmgmejpkpaaProg
import Derived.KernelRfl
import Derived.Test.YtepjhmgmejpkpaaOk3
set_option linter.unusedVariables false
set_option linter.unusedSimpArgs false
namespace Go.Proofs.Ytepjhmgmejpkpaa
open Go.Abs Go.Abs.Sh

set_option maxHeartbeats 1000000 in
theorem ok_wherrylaw05_SymFixed (i : Int) (r : Bool) (h : Sh.wherrylaw05_SymFixed i = some r) : FnOK Try.prog 6 [.v (.int .i64 i)] (.v (.bool r)) := by
  unfold Sh.wherrylaw05_SymFixed at h
  refine fn_ok Try.func6 rfl (Nat.le_of_ble_eq_true rfl) rfl rfl fun g0 hn hio => ?_
  refine ht_seq ?_
  refine ht_seqR hn (El := [_, (2, .v (.bool false))]) (init := [0]) (fin := [0]) (sps := [⟨[], [], [1], [(.slot 2)]⟩]) (es' := [(_, _)]) (by kernel_rfl) rfl rfl
    ⟨st_plain rfl (op_assign _ _ _ _ rfl rfl),
      trivial⟩ ?_
  refine pt_then ?_
  refine ht_seq ?_
  obtain ⟨v1, hv1, h⟩ := bind_some h
  refine ht_seqR hn (El := [_, (10, .tup [.fl (.own 3) 1 (List.map (Value.int .i64) v1.1), .fl (.own 3) 1 (List.map (Value.int .i64) v1.2)]), (9, .tup [.fl (.own 3) 1 (List.map (Value.int .i64) v1.1), .fl (.own 3) 1 (List.map (Value.int .i64) v1.2)]), (11, .fl (.own 3) 1 (List.map (Value.int .i64) v1.1)), (9, .tup [.any, .fl (.own 3) 1 (List.map (Value.int .i64) v1.2)]), (12, .fl (.own 3) 1 (List.map (Value.int .i64) v1.2)), (9, .tup [.any, .any]), (3, .fl (.own 3) 1 (List.map (Value.int .i64) v1.1)), (4, .fl (.own 3) 1 (List.map (Value.int .i64) v1.2))]) (init := [0]) (fin := [0, 7, 8]) (sps := [⟨[], [], [1], [(.slot 10)]⟩, ⟨[], [1], [2], [(.slot 9)]⟩, ⟨[], [2], [4, 3], [(.slot 11)]⟩, ⟨[], [4], [6, 5], [(.slot 12)]⟩, ⟨[], [3], [7], [(.slot 3)]⟩, ⟨[], [5], [8], [(.slot 4)]⟩]) (es' := [(_, _), (3, .fl (.own 3) 1 (List.map (Value.int .i64) v1.1)), (4, .fl (.own 3) 1 (List.map (Value.int .i64) v1.2))]) (by kernel_rfl) rfl rfl
    ⟨st_plain rfl (op_call _ _ 17 _ _ rfl Try.call17 rfl (ok_sym_Fixed  _ hv1) rfl rfl),
      st_plain rfl (op_move_take _ _ _ _ rfl),
      st_plain rfl (op_extract_take _ _ _ _ _ rfl (Nat.le_of_ble_eq_true rfl) rfl rfl (by decide) rfl),
      st_plain rfl (op_extract_take _ _ _ _ _ rfl (Nat.le_of_ble_eq_true rfl) rfl rfl (by decide) rfl),
      st_plain rfl (op_assign_take _ _ _ _ rfl),
      st_plain rfl (op_assign_take _ _ _ _ rfl),
      trivial⟩ ?_
  refine pt_then ?_
  refine ht_seq ?_
  refine ht_seq ?_
  refine ht_joinS h (fun (s4 : Bool) => [(0, .v (.int .i64 i)), (3, .fl (.own 3) 1 (List.map (Value.int .i64) v1.1)), (30, .v (.bool s4))]) ?_ ?_
  · rintro s4 h
    refine pt_then ?_
    refine ht_cond _ rfl (fun hb8 => ?_) (fun hb8 => ?_)
    · have h := cond_t hb8 h
      refine ht_seq ?_
      refine ht_seqR hn (El := [_, _, _, (2, .v (.bool false))]) (init := [0, 1, 2]) (fin := [3]) (sps := [⟨[], [], [3], [(.slot 2)]⟩]) (es' := [(2, .v (.bool false))]) (by kernel_rfl) rfl rfl
        ⟨st_plain rfl (op_assign _ _ _ _ rfl rfl),
          trivial⟩ ?_
      refine pt_then ?_
      refine ht_ret ?_
      refine pt_r_then ?_
      obtain rfl := Option.some.inj h
      exact pt_ret hio rfl (.tmp _ _ .nil) rfl rfl
    · have h := cond_f hb8 h
      refine ht_skip ?_
      refine pt_then ?_
      refine ht_seq ?_
      obtain ⟨v9, hv9, h⟩ := bind_some h
      refine ht_seqR hn (El := [_, _, _, (32, .same (.slot 3)), (33, .tup [.fl (.own 3) 1 (List.map (Value.int .i64) v9.1), .v (.int .i64 v9.2)]), (31, .tup [.fl (.own 3) 1 (List.map (Value.int .i64) v9.1), .v (.int .i64 v9.2)]), (34, .fl (.own 3) 1 (List.map (Value.int .i64) v9.1)), (31, .tup [.any, .v (.int .i64 v9.2)]), (35, .v (.int .i64 v9.2)), (5, .fl (.own 3) 1 (List.map (Value.int .i64) v9.1)), (6, .v (.int .i64 v9.2))]) (init := [0, 1, 2]) (fin := [0, 1, 9, 10]) (sps := [⟨[1], [], [3], [(.slot 32)]⟩, ⟨[3, 1], [], [4], [(.slot 33)]⟩, ⟨[], [4], [5], [(.slot 31)]⟩, ⟨[], [5], [7, 6], [(.slot 34)]⟩, ⟨[7], [], [8], [(.slot 35)]⟩, ⟨[], [6], [9], [(.slot 5)]⟩, ⟨[8], [], [10], [(.slot 6)]⟩]) (es' := [(_, _), (_, _), (5, .fl (.own 3) 1 (List.map (Value.int .i64) v9.1)), (6, .v (.int .i64 v9.2))]) (by kernel_rfl) rfl rfl
        ⟨st_plain rfl (op_move _ _ _ _ rfl rfl),
          st_plain rfl (op_call _ _ 26 _ _ rfl Try.call26 rfl (ok_canon_Codes v1.1 _ hv9) rfl rfl),
          st_plain rfl (op_move_take _ _ _ _ rfl),
          st_plain rfl (op_extract_take _ _ _ _ _ rfl (Nat.le_of_ble_eq_true rfl) rfl rfl (by decide) rfl),
          st_plain rfl (op_extract _ _ _ _ _ rfl rfl (Nat.le_of_ble_eq_true rfl) rfl rfl),
          st_plain rfl (op_assign_take _ _ _ _ rfl),
          st_plain rfl (op_assign _ _ _ _ rfl rfl),
          trivial⟩ ?_
      refine pt_then ?_
      refine ht_seq ?_
      refine ht_seq ?_
      refine ht_joinS h (fun (s10 : Bool) => [(0, .v (.int .i64 i)), (3, .fl (.own 3) 1 (List.map (Value.int .i64) v1.1)), (5, .fl (.own 3) 1 (List.map (Value.int .i64) v9.1)), (42, .v (.bool s10))]) ?_ ?_
      · rintro s10 h
        refine pt_then ?_
        refine ht_cond _ rfl (fun hb14 => ?_) (fun hb14 => ?_)
        · have h := cond_t hb14 h
          refine ht_seq ?_
          refine ht_seqR hn (El := [_, _, _, _, (2, .v (.bool false))]) (init := [0, 1, 2, 3]) (fin := [4]) (sps := [⟨[], [], [4], [(.slot 2)]⟩]) (es' := [(2, .v (.bool false))]) (by kernel_rfl) rfl rfl
            ⟨st_plain rfl (op_assign _ _ _ _ rfl rfl),
              trivial⟩ ?_
          refine pt_then ?_
          refine ht_ret ?_
          refine pt_r_then ?_
          obtain rfl := Option.some.inj h
          exact pt_ret hio rfl (.tmp _ _ .nil) rfl rfl
        · have h := cond_f hb14 h
          refine ht_skip ?_
          refine pt_then ?_
          refine ht_seq ?_
          obtain ⟨v15, hv15, h⟩ := bind_some h
          obtain ⟨v16, hv16, h⟩ := bind_some h
          obtain ⟨v17, hv17, h⟩ := bind_some h
          refine ht_seqR hn (El := [_, _, _, _, (43, .v (.int .i64 i)), (44, .v (.int .u64 v15)), (45, .v (.int .u64 v16)), (46, .v (.int .i64 v17)), (0, .v (.int .i64 v17))]) (init := [0, 1, 2, 3]) (fin := [1, 2, 8]) (sps := [⟨[0], [], [4], [(.slot 43)]⟩, ⟨[4], [], [5], [(.slot 44)]⟩, ⟨[5], [], [6], [(.slot 45)]⟩, ⟨[6], [], [7], [(.slot 46)]⟩, ⟨[7], [0], [8], [(.slot 0)]⟩]) (es' := [(_, _), (_, _), (0, .v (.int .i64 v17))]) (by kernel_rfl) rfl rfl
            ⟨st_plain rfl (op_move _ _ _ _ rfl rfl),
              st_plain rfl ((Option.some.inj hv15) ▸ op_conv _ _ _ Try.underlying3 Try.underlying38 rfl),
              st_plain rfl (op_bin _ _ _ _ _ rfl rfl (rem_ok hv16)),
              st_plain rfl ((Option.some.inj hv17) ▸ op_conv _ _ _ Try.underlying38 Try.underlying3 rfl),
              st_plain rfl (LOp.drop [_] (op_assign _ _ _ _ rfl rfl)),
              trivial⟩ ?_
          refine pt_then ?_
          refine ht_seq ?_
          obtain ⟨v18, hv18, h⟩ := bind_some h
          refine ht_seqR hn (El := [_, _, _, (47, .v (.int .i64 v17)), (48, .v (.int .i64 v18)), (7, .v (.int .i64 v18)), (8, .v (.int .i64 8))]) (init := [0, 1, 2]) (fin := [0, 1, 2, 5, 6]) (sps := [⟨[2], [], [3], [(.slot 47)]⟩, ⟨[3], [], [4], [(.slot 48)]⟩, ⟨[4], [], [5], [(.slot 7)]⟩, ⟨[], [], [6], [(.slot 8)]⟩]) (es' := [(_, _), (_, _), (_, _), (7, .v (.int .i64 v18)), (8, .v (.int .i64 8))]) (by kernel_rfl) rfl rfl
            ⟨st_plain rfl (op_move _ _ _ _ rfl rfl),
              st_plain rfl (op_bin _ _ _ _ _ rfl rfl (ibind (f := Value.int .i64) (Option.some.inj hv18))),
              st_plain rfl (op_assign _ _ _ _ rfl rfl),
              st_plain rfl (op_assign _ _ _ _ rfl rfl),
              trivial⟩ ?_
          refine pt_then ?_
          refine ht_seq ?_
          refine ht_joinS h (fun ((s27, s28) : Int × Int) => [(3, .fl (.own 3) 1 (List.map (Value.int .i64) v1.1)), (5, .fl (.own 3) 1 (List.map (Value.int .i64) v9.1)), (0, .v (.int .i64 v17)), (8, .v (.int .i64 s27)), (7, .v (.int .i64 s28))]) ?_ ?_
          · rintro ⟨s27, s28⟩ h
            refine pt_then ?_
            refine ht_seq ?_
            refine ht_joinS h (fun (s40 : Bool) => [(2, .v (.bool s40))]) ?_ ?_
            · rintro s40 h
              refine pt_then ?_
              refine ht_ret ?_
              obtain rfl := Option.some.inj h
              exact pt_ret hio rfl (.tmp _ _ .nil) rfl rfl
            · intro u41 h hl42 hr43
              obtain ⟨v35, hv35, h⟩ := bind_some h
              obtain ⟨v36, hv36, h⟩ := bind_some h
              refine cond_some h (fun hg15_6 h => ?_) (fun hg15_6 h => ?_)
              · obtain ⟨v37, hv37, h⟩ := bind_some h
                obtain ⟨v38, hv38, h⟩ := bind_some h
                refine cond_some h (fun hg15_14 h => ?_) (fun hg15_14 h => ?_)
                · obtain ⟨v39, hv39, h⟩ := bind_some h
                  refine ht_seqR hn (El := (_ :: _ :: _ :: _ :: _ :: (66, .fl (.own 3) 1 (List.map (Value.int .i64) v9.1)) :: (67, .v (.int .i64 v17)) :: (68, .eref (.slot 66) (v35 * 1)) :: (69, .v (.int .i64 v36)) :: (70, .v (.int .i64 s28)) :: (71, .v (.bool (v36 == s28))) :: (72, .v (.bool true)) :: (73, .fl (.own 3) 1 (List.map (Value.int .i64) v1.1)) :: (74, .v (.int .i64 v17)) :: (75, .eref (.slot 73) (v37 * 1)) :: (76, .v (.int .i64 v38)) :: (77, .v (.int .i64 s27)) :: (78, .v (.bool (v38 == s27))) :: (79, .v (.bool (v38 == s27))) :: (80, .v (.bool true)) :: (81, .v (.bool v39)) :: (82, .v (.bool v39)) :: (2, .v (.bool v39)) :: [])) (init := [0, 1, 2, 3, 4]) (fin := [22]) (sps := (⟨[], [1], [5], [(.slot 66)]⟩ :: ⟨[2], [], [6], [(.slot 67)]⟩ :: ⟨[5, 6], [], [7], [(.slot 68)]⟩ :: ⟨[7, 5], [], [8], [(.slot 69)]⟩ :: ⟨[4], [], [9], [(.slot 70)]⟩ :: ⟨[8, 9], [], [10], [(.slot 71)]⟩ :: ⟨[10], [], [11], [(.slot 72)]⟩ :: ⟨[11], [0], [12], [(.slot 73)]⟩ :: ⟨[11, 2], [], [13], [(.slot 74)]⟩ :: ⟨[11, 12, 13], [], [14], [(.slot 75)]⟩ :: ⟨[11, 14, 12], [], [15], [(.slot 76)]⟩ :: ⟨[11, 3], [], [16], [(.slot 77)]⟩ :: ⟨[11, 15, 16], [], [17], [(.slot 78)]⟩ :: ⟨[11, 17], [], [18], [(.slot 79)]⟩ :: ⟨[18], [], [19], [(.slot 80)]⟩ :: ⟨[19], [], [20], [(.slot 81)]⟩ :: ⟨[19, 20], [], [21], [(.slot 82)]⟩ :: ⟨[21], [], [22], [(.slot 2)]⟩ :: [])) (es' := [(2, .v (.bool v39))]) (by kernel_rfl) rfl rfl
                    ⟨st_plain rfl (op_move_take _ _ _ _ rfl),
                      st_plain rfl (op_move _ _ _ _ rfl rfl),
                      st_plain rfl (op_ix _ _ _ _ _ _ _ _ Try.underlying28 sz3 (by decide) rfl rfl rfl (ix_ok hv35).1 (map_lt (ix_ok hv35).2) rfl),
                      st_plain rfl (op_load_e _ _ _ _ _ _ Try.underlying3 rfl rfl rfl (map_get hv36)),
                      st_plain rfl (op_move _ _ _ _ rfl rfl),
                      st_plain rfl (op_bin _ _ _ _ _ rfl rfl rfl),
                      st_plain rfl (op_move _ _ _ _ (congrArg (fun b => AV.v (Value.bool b)) hg15_6) rfl),
                      st_run 6 72 true rfl rfl rfl (List.Mem.head _) (op_move_take _ _ _ _ rfl),
                      st_run 6 72 true rfl rfl rfl (List.Mem.head _) (op_move _ _ _ _ rfl rfl),
                      st_run 6 72 true rfl rfl rfl (List.Mem.head _) (op_ix _ _ _ _ _ _ _ _ Try.underlying28 sz3 (by decide) rfl rfl rfl (ix_ok hv37).1 (map_lt (ix_ok hv37).2) rfl),
                      st_run 6 72 true rfl rfl rfl (List.Mem.head _) (op_load_e _ _ _ _ _ _ Try.underlying3 rfl rfl rfl (map_get hv38)),
                      st_run 6 72 true rfl rfl rfl (List.Mem.head _) (op_move _ _ _ _ rfl rfl),
                      st_run 6 72 true rfl rfl rfl (List.Mem.head _) (op_bin _ _ _ _ _ rfl rfl rfl),
                      st_plain rfl (op_pick _ _ true _ rfl rfl),
                      st_plain rfl (op_move _ _ _ _ (congrArg (fun b => AV.v (Value.bool b)) hg15_14) rfl),
                      st_run 14 80 true rfl rfl rfl (List.Mem.head _) (op_call _ _ 24 _ _ rfl Try.call24 rfl (ok_wherrylaw05_wakes  _ hv39) rfl rfl),
                      st_plain rfl (op_pick _ _ true _ rfl rfl),
                      st_plain rfl (op_assign _ _ _ _ rfl rfl),
                      trivial⟩ ?_
                  exact hl42 _ (Option.some.inj h).symm
                · refine ht_seqR hn (El := (_ :: _ :: _ :: _ :: _ :: (66, .fl (.own 3) 1 (List.map (Value.int .i64) v9.1)) :: (67, .v (.int .i64 v17)) :: (68, .eref (.slot 66) (v35 * 1)) :: (69, .v (.int .i64 v36)) :: (70, .v (.int .i64 s28)) :: (71, .v (.bool (v36 == s28))) :: (72, .v (.bool true)) :: (73, .fl (.own 3) 1 (List.map (Value.int .i64) v1.1)) :: (74, .v (.int .i64 v17)) :: (75, .eref (.slot 73) (v37 * 1)) :: (76, .v (.int .i64 v38)) :: (77, .v (.int .i64 s27)) :: (78, .v (.bool (v38 == s27))) :: (79, .v (.bool (v38 == s27))) :: (80, .v (.bool false)) :: (81, .v undef) :: (82, .v (.bool false)) :: (2, .v (.bool false)) :: [])) (init := [0, 1, 2, 3, 4]) (fin := [22]) (sps := (⟨[], [1], [5], [(.slot 66)]⟩ :: ⟨[2], [], [6], [(.slot 67)]⟩ :: ⟨[5, 6], [], [7], [(.slot 68)]⟩ :: ⟨[7, 5], [], [8], [(.slot 69)]⟩ :: ⟨[4], [], [9], [(.slot 70)]⟩ :: ⟨[8, 9], [], [10], [(.slot 71)]⟩ :: ⟨[10], [], [11], [(.slot 72)]⟩ :: ⟨[11], [0], [12], [(.slot 73)]⟩ :: ⟨[11, 2], [], [13], [(.slot 74)]⟩ :: ⟨[11, 12, 13], [], [14], [(.slot 75)]⟩ :: ⟨[11, 14, 12], [], [15], [(.slot 76)]⟩ :: ⟨[11, 3], [], [16], [(.slot 77)]⟩ :: ⟨[11, 15, 16], [], [17], [(.slot 78)]⟩ :: ⟨[11, 17], [], [18], [(.slot 79)]⟩ :: ⟨[18], [], [19], [(.slot 80)]⟩ :: ⟨[19], [], [20], [(.slot 81)]⟩ :: ⟨[19], [], [21], [(.slot 82)]⟩ :: ⟨[21], [], [22], [(.slot 2)]⟩ :: [])) (es' := [(2, .v (.bool false))]) (by kernel_rfl) rfl rfl
                    ⟨st_plain rfl (op_move_take _ _ _ _ rfl),
                      st_plain rfl (op_move _ _ _ _ rfl rfl),
                      st_plain rfl (op_ix _ _ _ _ _ _ _ _ Try.underlying28 sz3 (by decide) rfl rfl rfl (ix_ok hv35).1 (map_lt (ix_ok hv35).2) rfl),
                      st_plain rfl (op_load_e _ _ _ _ _ _ Try.underlying3 rfl rfl rfl (map_get hv36)),
                      st_plain rfl (op_move _ _ _ _ rfl rfl),
                      st_plain rfl (op_bin _ _ _ _ _ rfl rfl rfl),
                      st_plain rfl (op_move _ _ _ _ (congrArg (fun b => AV.v (Value.bool b)) hg15_6) rfl),
                      st_run 6 72 true rfl rfl rfl (List.Mem.head _) (op_move_take _ _ _ _ rfl),
                      st_run 6 72 true rfl rfl rfl (List.Mem.head _) (op_move _ _ _ _ rfl rfl),
                      st_run 6 72 true rfl rfl rfl (List.Mem.head _) (op_ix _ _ _ _ _ _ _ _ Try.underlying28 sz3 (by decide) rfl rfl rfl (ix_ok hv37).1 (map_lt (ix_ok hv37).2) rfl),
                      st_run 6 72 true rfl rfl rfl (List.Mem.head _) (op_load_e _ _ _ _ _ _ Try.underlying3 rfl rfl rfl (map_get hv38)),
                      st_run 6 72 true rfl rfl rfl (List.Mem.head _) (op_move _ _ _ _ rfl rfl),
                      st_run 6 72 true rfl rfl rfl (List.Mem.head _) (op_bin _ _ _ _ _ rfl rfl rfl),
                      st_plain rfl (op_pick _ _ true _ rfl rfl),
                      st_plain rfl (op_move _ _ _ _ (congrArg (fun b => AV.v (Value.bool b)) hg15_14) rfl),
                      st_skip 14 80 _ true rfl rfl rfl rfl (List.Mem.head _),
                      st_plain rfl (op_pick _ _ false _ rfl rfl),
                      st_plain rfl (op_assign _ _ _ _ rfl rfl),
                      trivial⟩ ?_
                  exact hl42 _ (Option.some.inj h).symm
              · refine ht_seqR hn (El := (_ :: _ :: _ :: _ :: _ :: (66, .fl (.own 3) 1 (List.map (Value.int .i64) v9.1)) :: (67, .v (.int .i64 v17)) :: (68, .eref (.slot 66) (v35 * 1)) :: (69, .v (.int .i64 v36)) :: (70, .v (.int .i64 s28)) :: (71, .v (.bool (v36 == s28))) :: (72, .v (.bool false)) :: (73, .v undef) :: (74, .v undef) :: (75, .v undef) :: (76, .v undef) :: (77, .v undef) :: (78, .v undef) :: (79, .v (.bool false)) :: (80, .v (.bool false)) :: (81, .v undef) :: (82, .v (.bool false)) :: (2, .v (.bool false)) :: [])) (init := [0, 1, 2, 3, 4]) (fin := [22]) (sps := (⟨[], [1], [5], [(.slot 66)]⟩ :: ⟨[2], [], [6], [(.slot 67)]⟩ :: ⟨[5, 6], [], [7], [(.slot 68)]⟩ :: ⟨[7, 5], [], [8], [(.slot 69)]⟩ :: ⟨[4], [], [9], [(.slot 70)]⟩ :: ⟨[8, 9], [], [10], [(.slot 71)]⟩ :: ⟨[10], [], [11], [(.slot 72)]⟩ :: ⟨[11], [], [12], [(.slot 73)]⟩ :: ⟨[11], [], [13], [(.slot 74)]⟩ :: ⟨[11], [], [14], [(.slot 75)]⟩ :: ⟨[11], [], [15], [(.slot 76)]⟩ :: ⟨[11], [], [16], [(.slot 77)]⟩ :: ⟨[11], [], [17], [(.slot 78)]⟩ :: ⟨[11], [], [18], [(.slot 79)]⟩ :: ⟨[18], [], [19], [(.slot 80)]⟩ :: ⟨[19], [], [20], [(.slot 81)]⟩ :: ⟨[19], [], [21], [(.slot 82)]⟩ :: ⟨[21], [], [22], [(.slot 2)]⟩ :: [])) (es' := [(2, .v (.bool false))]) (by kernel_rfl) rfl rfl
                  ⟨st_plain rfl (op_move_take _ _ _ _ rfl),
                    st_plain rfl (op_move _ _ _ _ rfl rfl),
                    st_plain rfl (op_ix _ _ _ _ _ _ _ _ Try.underlying28 sz3 (by decide) rfl rfl rfl (ix_ok hv35).1 (map_lt (ix_ok hv35).2) rfl),
                    st_plain rfl (op_load_e _ _ _ _ _ _ Try.underlying3 rfl rfl rfl (map_get hv36)),
                    st_plain rfl (op_move _ _ _ _ rfl rfl),
                    st_plain rfl (op_bin _ _ _ _ _ rfl rfl rfl),
                    st_plain rfl (op_move _ _ _ _ (congrArg (fun b => AV.v (Value.bool b)) hg15_6) rfl),
                    st_skip 6 72 _ true rfl rfl rfl rfl (List.Mem.head _),
                    st_skip 6 72 _ true rfl rfl rfl rfl (List.Mem.head _),
                    st_skip 6 72 _ true rfl rfl rfl rfl (List.Mem.head _),
                    st_skip 6 72 _ true rfl rfl rfl rfl (List.Mem.head _),
                    st_skip 6 72 _ true rfl rfl rfl rfl (List.Mem.head _),
                    st_skip 6 72 _ true rfl rfl rfl rfl (List.Mem.head _),
                    st_plain rfl (op_pick _ _ false _ rfl rfl),
                    st_plain rfl (op_move _ _ _ _ rfl rfl),
                    st_skip 14 80 _ true rfl rfl rfl rfl (List.Mem.head _),
                    st_plain rfl (op_pick _ _ false _ rfl rfl),
                    st_plain rfl (op_assign _ _ _ _ rfl rfl),
                    trivial⟩ ?_
                exact hl42 _ (Option.some.inj h).symm
          · intro u29 h hl30 hr31
            refine ht_block ?_
            refine ht_seq ?_
            refine ht_seqR hn (El := [_, _, _, _, _, (50, .v (.int .i64 v17)), (51, .v (.bool ((decide (280 ≤ v17))))), (49, .v (.bool ((decide (280 ≤ v17)))))]) (init := [0, 1, 2, 3, 4]) (fin := [0, 1, 2, 3, 4, 7]) (sps := [⟨[2], [], [5], [(.slot 50)]⟩, ⟨[5], [], [6], [(.slot 51)]⟩, ⟨[6], [], [7], [(.slot 49)]⟩]) (es' := [(_, _), (_, _), (_, _), (_, _), (_, _), (49, .v (.bool ((decide (280 ≤ v17)))))]) (by kernel_rfl) rfl rfl
              ⟨st_plain rfl (op_move _ _ _ _ rfl rfl),
                st_plain rfl (op_bin _ _ _ _ _ rfl rfl rfl),
                st_plain rfl (op_assign _ _ _ _ rfl rfl),
                trivial⟩ ?_
            refine pt_then ?_
            refine ht_cond _ rfl (fun hb32 => ?_) (fun hb32 => ?_)
            · have h := cond_t hb32 h
              obtain ⟨v20, hv20, h⟩ := bind_some h
              obtain ⟨v21, hv21, h⟩ := bind_some h
              refine ht_seqR hn (El := [_, _, _, _, _, _, (52, .v (.int .i64 v17)), (53, .v (.int .i64 v20)), (54, .v (.int .i64 v21)), (7, .v (.int .i64 v21))]) (init := [0, 1, 2, 3, 4, 5]) (fin := [0, 1, 2, 4, 9]) (sps := [⟨[2], [], [6], [(.slot 52)]⟩, ⟨[6], [], [7], [(.slot 53)]⟩, ⟨[7], [], [8], [(.slot 54)]⟩, ⟨[8], [3], [9], [(.slot 7)]⟩]) (es' := [(_, _), (_, _), (_, _), (_, _), (7, .v (.int .i64 v21))]) (by kernel_rfl) rfl rfl
                ⟨st_plain rfl (op_move _ _ _ _ rfl rfl),
                  st_plain rfl (op_bin _ _ _ _ _ rfl rfl (ibind (f := Value.int .i64) (Option.some.inj hv20))),
                  st_plain rfl (op_bin _ _ _ _ _ rfl rfl (ibind (f := Value.int .i64) (Option.some.inj hv21))),
                  st_plain rfl (LOp.drop [_] (op_assign _ _ _ _ rfl rfl)),
                  trivial⟩ ?_
              refine pt_inb ?_
              exact hl30 _ (Option.some.inj h).symm
            · have h := cond_f hb32 h
              refine ht_seq ?_
              refine ht_seqR hn (El := [_, _, _, _, _, _, (56, .v (.int .i64 v17)), (57, .v (.bool ((decide (256 ≤ v17))))), (55, .v (.bool ((decide (256 ≤ v17)))))]) (init := [0, 1, 2, 3, 4, 5]) (fin := [0, 1, 2, 3, 4, 8]) (sps := [⟨[2], [], [6], [(.slot 56)]⟩, ⟨[6], [], [7], [(.slot 57)]⟩, ⟨[7], [], [8], [(.slot 55)]⟩]) (es' := [(_, _), (_, _), (_, _), (_, _), (_, _), (55, .v (.bool ((decide (256 ≤ v17)))))]) (by kernel_rfl) rfl rfl
                ⟨st_plain rfl (op_move _ _ _ _ rfl rfl),
                  st_plain rfl (op_bin _ _ _ _ _ rfl rfl rfl),
                  st_plain rfl (op_assign _ _ _ _ rfl rfl),
                  trivial⟩ ?_
              refine pt_then ?_
              refine ht_cond _ rfl (fun hb33 => ?_) (fun hb33 => ?_)
              · have h := cond_t hb33 h
                obtain ⟨v23, hv23, h⟩ := bind_some h
                refine ht_seqR hn (El := [_, _, _, _, _, _, (58, .v (.int .i64 v17)), (59, .v (.int .i64 v23)), (7, .v (.int .i64 v23)), (8, .v (.int .i64 7))]) (init := [0, 1, 2, 3, 4, 5]) (fin := [0, 1, 2, 8, 9]) (sps := [⟨[2], [], [6], [(.slot 58)]⟩, ⟨[6], [], [7], [(.slot 59)]⟩, ⟨[7], [3], [8], [(.slot 7)]⟩, ⟨[], [4], [9], [(.slot 8)]⟩]) (es' := [(_, _), (_, _), (_, _), (7, .v (.int .i64 v23)), (8, .v (.int .i64 7))]) (by kernel_rfl) rfl rfl
                  ⟨st_plain rfl (op_move _ _ _ _ rfl rfl),
                    st_plain rfl (op_bin _ _ _ _ _ rfl rfl (ibind (f := Value.int .i64) (Option.some.inj hv23))),
                    st_plain rfl (LOp.drop [_] (op_assign _ _ _ _ rfl rfl)),
                    st_plain rfl (LOp.drop [_] (op_assign _ _ _ _ rfl rfl)),
                    trivial⟩ ?_
                refine pt_inb ?_
                refine pt_pick [0, 1, 2, 4, 3] (by kernel_rfl) (es' := [(_, _), (_, _), (_, _), (_, _), (_, _)]) rfl ?_
                exact hl30 _ (Option.some.inj h).symm
              · have h := cond_f hb33 h
                refine ht_seq ?_
                refine ht_seqR hn (El := [_, _, _, _, _, _, (61, .v (.int .i64 v17)), (62, .v (.bool ((decide (144 ≤ v17))))), (60, .v (.bool ((decide (144 ≤ v17)))))]) (init := [0, 1, 2, 3, 4, 5]) (fin := [0, 1, 2, 3, 4, 8]) (sps := [⟨[2], [], [6], [(.slot 61)]⟩, ⟨[6], [], [7], [(.slot 62)]⟩, ⟨[7], [], [8], [(.slot 60)]⟩]) (es' := [(_, _), (_, _), (_, _), (_, _), (_, _), (60, .v (.bool ((decide (144 ≤ v17)))))]) (by kernel_rfl) rfl rfl
                  ⟨st_plain rfl (op_move _ _ _ _ rfl rfl),
                    st_plain rfl (op_bin _ _ _ _ _ rfl rfl rfl),
                    st_plain rfl (op_assign _ _ _ _ rfl rfl),
                    trivial⟩ ?_
                refine pt_then ?_
                refine ht_cond _ rfl (fun hb34 => ?_) (fun hb34 => ?_)
                · have h := cond_t hb34 h
                  obtain ⟨v25, hv25, h⟩ := bind_some h
                  obtain ⟨v26, hv26, h⟩ := bind_some h
                  refine ht_seqR hn (El := [_, _, _, _, _, _, (63, .v (.int .i64 v17)), (64, .v (.int .i64 v25)), (65, .v (.int .i64 v26)), (7, .v (.int .i64 v26)), (8, .v (.int .i64 9))]) (init := [0, 1, 2, 3, 4, 5]) (fin := [0, 1, 2, 9, 10]) (sps := [⟨[2], [], [6], [(.slot 63)]⟩, ⟨[6], [], [7], [(.slot 64)]⟩, ⟨[7], [], [8], [(.slot 65)]⟩, ⟨[8], [3], [9], [(.slot 7)]⟩, ⟨[], [4], [10], [(.slot 8)]⟩]) (es' := [(_, _), (_, _), (_, _), (7, .v (.int .i64 v26)), (8, .v (.int .i64 9))]) (by kernel_rfl) rfl rfl
                    ⟨st_plain rfl (op_move _ _ _ _ rfl rfl),
                      st_plain rfl (op_bin _ _ _ _ _ rfl rfl (ibind (f := Value.int .i64) (Option.some.inj hv25))),
                      st_plain rfl (op_bin _ _ _ _ _ rfl rfl (ibind (f := Value.int .i64) (Option.some.inj hv26))),
                      st_plain rfl (LOp.drop [_] (op_assign _ _ _ _ rfl rfl)),
                      st_plain rfl (LOp.drop [_] (op_assign _ _ _ _ rfl rfl)),
                      trivial⟩ ?_
                  refine pt_inb ?_
                  refine pt_pick [0, 1, 2, 4, 3] (by kernel_rfl) (es' := [(_, _), (_, _), (_, _), (_, _), (_, _)]) rfl ?_
                  exact hl30 _ (Option.some.inj h).symm
                · have h := cond_f hb34 h
                  refine ht_skip ?_
                  refine pt_inb ?_
                  refine pt_pick [0, 1, 2, 4, 3] (by kernel_rfl) (es' := [(_, _), (_, _), (_, _), (_, _), (_, _)]) rfl ?_
                  exact hl30 _ (Option.some.inj h).symm
      · intro u11 h hl12 hr13
        refine cond_some h (fun hg5_2 h => ?_) (fun hg5_2 h => ?_)
        · refine ht_seqR hn (El := [_, _, _, _, (36, .v (.int .i64 v9.2)), (37, .v (.bool (v9.2 != 0))), (38, .v (.bool true)), (39, .v undef), (40, .v undef), (41, .v undef), (42, .v (.bool true))]) (init := [0, 1, 2, 3]) (fin := [0, 1, 2, 10]) (sps := [⟨[3], [], [4], [(.slot 36)]⟩, ⟨[4], [], [5], [(.slot 37)]⟩, ⟨[5], [], [6], [(.slot 38)]⟩, ⟨[6], [], [7], [(.slot 39)]⟩, ⟨[6], [], [8], [(.slot 40)]⟩, ⟨[6], [], [9], [(.slot 41)]⟩, ⟨[6], [], [10], [(.slot 42)]⟩]) (es' := [(_, _), (_, _), (_, _), (42, .v (.bool true))]) (by kernel_rfl) rfl rfl
            ⟨st_plain rfl (op_move _ _ _ _ rfl rfl),
              st_plain rfl (op_bin _ _ _ _ _ rfl rfl rfl),
              st_plain rfl (op_move _ _ _ _ (congrArg (fun b => AV.v (Value.bool b)) hg5_2) rfl),
              st_skip 2 38 _ false rfl rfl rfl rfl (List.Mem.head _),
              st_skip 2 38 _ false rfl rfl rfl rfl (List.Mem.head _),
              st_skip 2 38 _ false rfl rfl rfl rfl (List.Mem.head _),
              st_plain rfl (op_pick _ _ true _ rfl rfl),
              trivial⟩ ?_
          exact hl12 _ (Option.some.inj h).symm
        · refine ht_seqR hn (El := [_, _, _, _, (36, .v (.int .i64 v9.2)), (37, .v (.bool (v9.2 != 0))), (38, .v (.bool false)), (39, .same (.slot 5)), (40, .v (.int .i64 (v9.1.length : Int))), (41, .v (.bool (((v9.1.length : Int) != 288)))), (42, .v (.bool (((v9.1.length : Int) != 288))))]) (init := [0, 1, 2, 3]) (fin := [0, 1, 2, 10]) (sps := [⟨[3], [], [4], [(.slot 36)]⟩, ⟨[4], [], [5], [(.slot 37)]⟩, ⟨[5], [], [6], [(.slot 38)]⟩, ⟨[6, 2], [], [7], [(.slot 39)]⟩, ⟨[6, 7, 2], [], [8], [(.slot 40)]⟩, ⟨[6, 8], [], [9], [(.slot 41)]⟩, ⟨[6, 9], [], [10], [(.slot 42)]⟩]) (es' := [(_, _), (_, _), (_, _), (42, .v (.bool (((v9.1.length : Int) != 288))))]) (by kernel_rfl) rfl rfl
            ⟨st_plain rfl (op_move _ _ _ _ rfl rfl),
              st_plain rfl (op_bin _ _ _ _ _ rfl rfl rfl),
              st_plain rfl (op_move _ _ _ _ (congrArg (fun b => AV.v (Value.bool b)) hg5_2) rfl),
              st_run 2 38 false rfl rfl rfl (List.Mem.head _) (op_move _ _ _ _ rfl rfl),
              st_run 2 38 false rfl rfl rfl (List.Mem.head _) (op_len_fl _ _ _ Try.underlying28 rfl (by decide) (map_len _)),
              st_run 2 38 false rfl rfl rfl (List.Mem.head _) (op_bin _ _ _ _ _ rfl rfl rfl),
              st_plain rfl (op_pick _ _ false _ rfl rfl),
              trivial⟩ ?_
          exact hl12 _ (Option.some.inj h).symm
  · intro u5 h hl6 hr7
    refine cond_some h (fun hg2_3 h => ?_) (fun hg2_3 h => ?_)
    · refine ht_seqR hn (El := (_ :: _ :: _ :: (13, .same (.slot 3)) :: (14, .v (.int .i64 (v1.1.length : Int))) :: (15, .v (.bool (((v1.1.length : Int) != 288)))) :: (16, .v (.bool true)) :: (17, .v undef) :: (18, .v undef) :: (19, .v undef) :: (20, .v (.bool true)) :: (21, .v (.bool true)) :: (22, .v undef) :: (23, .v undef) :: (24, .v undef) :: (25, .v (.bool true)) :: (26, .v (.bool true)) :: (27, .v undef) :: (28, .v undef) :: (29, .v undef) :: (30, .v (.bool true)) :: [])) (init := [0, 1, 2]) (fin := [0, 1, 20]) (sps := (⟨[1], [], [3], [(.slot 13)]⟩ :: ⟨[3, 1], [], [4], [(.slot 14)]⟩ :: ⟨[4], [], [5], [(.slot 15)]⟩ :: ⟨[5], [], [6], [(.slot 16)]⟩ :: ⟨[6], [], [7], [(.slot 17)]⟩ :: ⟨[6], [], [8], [(.slot 18)]⟩ :: ⟨[6], [], [9], [(.slot 19)]⟩ :: ⟨[6], [], [10], [(.slot 20)]⟩ :: ⟨[10], [], [11], [(.slot 21)]⟩ :: ⟨[11], [], [12], [(.slot 22)]⟩ :: ⟨[11], [], [13], [(.slot 23)]⟩ :: ⟨[11], [], [14], [(.slot 24)]⟩ :: ⟨[11], [], [15], [(.slot 25)]⟩ :: ⟨[15], [], [16], [(.slot 26)]⟩ :: ⟨[16], [], [17], [(.slot 27)]⟩ :: ⟨[16], [], [18], [(.slot 28)]⟩ :: ⟨[16], [], [19], [(.slot 29)]⟩ :: ⟨[16], [], [20], [(.slot 30)]⟩ :: [])) (es' := [(_, _), (_, _), (30, .v (.bool true))]) (by kernel_rfl) rfl rfl
        ⟨st_plain rfl (op_move _ _ _ _ rfl rfl),
          st_plain rfl (op_len_fl _ _ _ Try.underlying28 rfl (by decide) (map_len _)),
          st_plain rfl (op_bin _ _ _ _ _ rfl rfl rfl),
          st_plain rfl (op_move _ _ _ _ (congrArg (fun b => AV.v (Value.bool b)) hg2_3) rfl),
          st_skip 3 16 _ false rfl rfl rfl rfl (List.Mem.head _),
          st_skip 3 16 _ false rfl rfl rfl rfl (List.Mem.head _),
          st_skip 3 16 _ false rfl rfl rfl rfl (List.Mem.head _),
          st_plain rfl (op_pick _ _ true _ rfl rfl),
          st_plain rfl (op_move _ _ _ _ rfl rfl),
          st_skip 8 21 _ false rfl rfl rfl rfl (List.Mem.head _),
          st_skip 8 21 _ false rfl rfl rfl rfl (List.Mem.head _),
          st_skip 8 21 _ false rfl rfl rfl rfl (List.Mem.head _),
          st_plain rfl (op_pick _ _ true _ rfl rfl),
          st_plain rfl (op_move _ _ _ _ rfl rfl),
          st_skip 13 26 _ false rfl rfl rfl rfl (List.Mem.head _),
          st_skip 13 26 _ false rfl rfl rfl rfl (List.Mem.head _),
          st_skip 13 26 _ false rfl rfl rfl rfl (List.Mem.head _),
          st_plain rfl (op_pick _ _ true _ rfl rfl),
          trivial⟩ ?_
      exact hl6 _ (Option.some.inj h).symm
    · refine cond_some h (fun hg2_8 h => ?_) (fun hg2_8 h => ?_)
      · refine ht_seqR hn (El := (_ :: _ :: _ :: (13, .same (.slot 3)) :: (14, .v (.int .i64 (v1.1.length : Int))) :: (15, .v (.bool (((v1.1.length : Int) != 288)))) :: (16, .v (.bool false)) :: (17, .same (.slot 4)) :: (18, .v (.int .i64 (v1.2.length : Int))) :: (19, .v (.bool (((v1.2.length : Int) != 32)))) :: (20, .v (.bool (((v1.2.length : Int) != 32)))) :: (21, .v (.bool true)) :: (22, .v undef) :: (23, .v undef) :: (24, .v undef) :: (25, .v (.bool true)) :: (26, .v (.bool true)) :: (27, .v undef) :: (28, .v undef) :: (29, .v undef) :: (30, .v (.bool true)) :: [])) (init := [0, 1, 2]) (fin := [0, 1, 20]) (sps := (⟨[1], [], [3], [(.slot 13)]⟩ :: ⟨[3, 1], [], [4], [(.slot 14)]⟩ :: ⟨[4], [], [5], [(.slot 15)]⟩ :: ⟨[5], [], [6], [(.slot 16)]⟩ :: ⟨[6, 2], [], [7], [(.slot 17)]⟩ :: ⟨[6, 7, 2], [], [8], [(.slot 18)]⟩ :: ⟨[6, 8], [], [9], [(.slot 19)]⟩ :: ⟨[6, 9], [], [10], [(.slot 20)]⟩ :: ⟨[10], [], [11], [(.slot 21)]⟩ :: ⟨[11], [], [12], [(.slot 22)]⟩ :: ⟨[11], [], [13], [(.slot 23)]⟩ :: ⟨[11], [], [14], [(.slot 24)]⟩ :: ⟨[11], [], [15], [(.slot 25)]⟩ :: ⟨[15], [], [16], [(.slot 26)]⟩ :: ⟨[16], [], [17], [(.slot 27)]⟩ :: ⟨[16], [], [18], [(.slot 28)]⟩ :: ⟨[16], [], [19], [(.slot 29)]⟩ :: ⟨[16], [], [20], [(.slot 30)]⟩ :: [])) (es' := [(_, _), (_, _), (30, .v (.bool true))]) (by kernel_rfl) rfl rfl
          ⟨st_plain rfl (op_move _ _ _ _ rfl rfl),
            st_plain rfl (op_len_fl _ _ _ Try.underlying28 rfl (by decide) (map_len _)),
            st_plain rfl (op_bin _ _ _ _ _ rfl rfl rfl),
            st_plain rfl (op_move _ _ _ _ (congrArg (fun b => AV.v (Value.bool b)) hg2_3) rfl),
            st_run 3 16 false rfl rfl rfl (List.Mem.head _) (op_move _ _ _ _ rfl rfl),
            st_run 3 16 false rfl rfl rfl (List.Mem.head _) (op_len_fl _ _ _ Try.underlying28 rfl (by decide) (map_len _)),
            st_run 3 16 false rfl rfl rfl (List.Mem.head _) (op_bin _ _ _ _ _ rfl rfl rfl),
            st_plain rfl (op_pick _ _ false _ rfl rfl),
            st_plain rfl (op_move _ _ _ _ (congrArg (fun b => AV.v (Value.bool b)) hg2_8) rfl),
            st_skip 8 21 _ false rfl rfl rfl rfl (List.Mem.head _),
            st_skip 8 21 _ false rfl rfl rfl rfl (List.Mem.head _),
            st_skip 8 21 _ false rfl rfl rfl rfl (List.Mem.head _),
            st_plain rfl (op_pick _ _ true _ rfl rfl),
            st_plain rfl (op_move _ _ _ _ rfl rfl),
            st_skip 13 26 _ false rfl rfl rfl rfl (List.Mem.head _),
            st_skip 13 26 _ false rfl rfl rfl rfl (List.Mem.head _),
            st_skip 13 26 _ false rfl rfl rfl rfl (List.Mem.head _),
            st_plain rfl (op_pick _ _ true _ rfl rfl),
            trivial⟩ ?_
        exact hl6 _ (Option.some.inj h).symm
      · obtain ⟨v2, hv2, h⟩ := bind_some h
        refine cond_some h (fun hg2_13 h => ?_) (fun hg2_13 h => ?_)
        · refine ht_seqR hn (El := (_ :: _ :: _ :: (13, .same (.slot 3)) :: (14, .v (.int .i64 (v1.1.length : Int))) :: (15, .v (.bool (((v1.1.length : Int) != 288)))) :: (16, .v (.bool false)) :: (17, .same (.slot 4)) :: (18, .v (.int .i64 (v1.2.length : Int))) :: (19, .v (.bool (((v1.2.length : Int) != 32)))) :: (20, .v (.bool (((v1.2.length : Int) != 32)))) :: (21, .v (.bool false)) :: (22, .same (.slot 3)) :: (23, .v (.int .i64 v2)) :: (24, .v (.bool (v2 != 0))) :: (25, .v (.bool (v2 != 0))) :: (26, .v (.bool true)) :: (27, .v undef) :: (28, .v undef) :: (29, .v undef) :: (30, .v (.bool true)) :: [])) (init := [0, 1, 2]) (fin := [0, 1, 20]) (sps := (⟨[1], [], [3], [(.slot 13)]⟩ :: ⟨[3, 1], [], [4], [(.slot 14)]⟩ :: ⟨[4], [], [5], [(.slot 15)]⟩ :: ⟨[5], [], [6], [(.slot 16)]⟩ :: ⟨[6, 2], [], [7], [(.slot 17)]⟩ :: ⟨[6, 7, 2], [], [8], [(.slot 18)]⟩ :: ⟨[6, 8], [], [9], [(.slot 19)]⟩ :: ⟨[6, 9], [], [10], [(.slot 20)]⟩ :: ⟨[10], [], [11], [(.slot 21)]⟩ :: ⟨[11, 1], [], [12], [(.slot 22)]⟩ :: ⟨[11, 12, 1], [], [13], [(.slot 23)]⟩ :: ⟨[11, 13], [], [14], [(.slot 24)]⟩ :: ⟨[11, 14], [], [15], [(.slot 25)]⟩ :: ⟨[15], [], [16], [(.slot 26)]⟩ :: ⟨[16], [], [17], [(.slot 27)]⟩ :: ⟨[16], [], [18], [(.slot 28)]⟩ :: ⟨[16], [], [19], [(.slot 29)]⟩ :: ⟨[16], [], [20], [(.slot 30)]⟩ :: [])) (es' := [(_, _), (_, _), (30, .v (.bool true))]) (by kernel_rfl) rfl rfl
            ⟨st_plain rfl (op_move _ _ _ _ rfl rfl),
              st_plain rfl (op_len_fl _ _ _ Try.underlying28 rfl (by decide) (map_len _)),
              st_plain rfl (op_bin _ _ _ _ _ rfl rfl rfl),
              st_plain rfl (op_move _ _ _ _ (congrArg (fun b => AV.v (Value.bool b)) hg2_3) rfl),
              st_run 3 16 false rfl rfl rfl (List.Mem.head _) (op_move _ _ _ _ rfl rfl),
              st_run 3 16 false rfl rfl rfl (List.Mem.head _) (op_len_fl _ _ _ Try.underlying28 rfl (by decide) (map_len _)),
              st_run 3 16 false rfl rfl rfl (List.Mem.head _) (op_bin _ _ _ _ _ rfl rfl rfl),
              st_plain rfl (op_pick _ _ false _ rfl rfl),
              st_plain rfl (op_move _ _ _ _ (congrArg (fun b => AV.v (Value.bool b)) hg2_8) rfl),
              st_run 8 21 false rfl rfl rfl (List.Mem.head _) (op_move _ _ _ _ rfl rfl),
              st_run 8 21 false rfl rfl rfl (List.Mem.head _) (op_call _ _ 25 _ _ rfl Try.call25 rfl (ok_canon_Check v1.1 _ hv2) rfl rfl),
              st_run 8 21 false rfl rfl rfl (List.Mem.head _) (op_bin _ _ _ _ _ rfl rfl rfl),
              st_plain rfl (op_pick _ _ false _ rfl rfl),
              st_plain rfl (op_move _ _ _ _ (congrArg (fun b => AV.v (Value.bool b)) hg2_13) rfl),
              st_skip 13 26 _ false rfl rfl rfl rfl (List.Mem.head _),
              st_skip 13 26 _ false rfl rfl rfl rfl (List.Mem.head _),
              st_skip 13 26 _ false rfl rfl rfl rfl (List.Mem.head _),
              st_plain rfl (op_pick _ _ true _ rfl rfl),
              trivial⟩ ?_
          exact hl6 _ (Option.some.inj h).symm
        · obtain ⟨v3, hv3, h⟩ := bind_some h
          refine ht_seqR hn (El := (_ :: _ :: _ :: (13, .same (.slot 3)) :: (14, .v (.int .i64 (v1.1.length : Int))) :: (15, .v (.bool (((v1.1.length : Int) != 288)))) :: (16, .v (.bool false)) :: (17, .same (.slot 4)) :: (18, .v (.int .i64 (v1.2.length : Int))) :: (19, .v (.bool (((v1.2.length : Int) != 32)))) :: (20, .v (.bool (((v1.2.length : Int) != 32)))) :: (21, .v (.bool false)) :: (22, .same (.slot 3)) :: (23, .v (.int .i64 v2)) :: (24, .v (.bool (v2 != 0))) :: (25, .v (.bool (v2 != 0))) :: (26, .v (.bool false)) :: (27, .fl (.own 3) 1 (List.map (Value.int .i64) v1.2)) :: (28, .v (.int .i64 v3)) :: (29, .v (.bool (v3 != 0))) :: (30, .v (.bool (v3 != 0))) :: [])) (init := [0, 1, 2]) (fin := [0, 1, 20]) (sps := (⟨[1], [], [3], [(.slot 13)]⟩ :: ⟨[3, 1], [], [4], [(.slot 14)]⟩ :: ⟨[4], [], [5], [(.slot 15)]⟩ :: ⟨[5], [], [6], [(.slot 16)]⟩ :: ⟨[6, 2], [], [7], [(.slot 17)]⟩ :: ⟨[6, 7, 2], [], [8], [(.slot 18)]⟩ :: ⟨[6, 8], [], [9], [(.slot 19)]⟩ :: ⟨[6, 9], [], [10], [(.slot 20)]⟩ :: ⟨[10], [], [11], [(.slot 21)]⟩ :: ⟨[11, 1], [], [12], [(.slot 22)]⟩ :: ⟨[11, 12, 1], [], [13], [(.slot 23)]⟩ :: ⟨[11, 13], [], [14], [(.slot 24)]⟩ :: ⟨[11, 14], [], [15], [(.slot 25)]⟩ :: ⟨[15], [], [16], [(.slot 26)]⟩ :: ⟨[16], [7, 2], [17], [(.slot 27)]⟩ :: ⟨[16, 17], [], [18], [(.slot 28)]⟩ :: ⟨[16, 18], [], [19], [(.slot 29)]⟩ :: ⟨[16, 19], [], [20], [(.slot 30)]⟩ :: [])) (es' := [(_, _), (_, _), (30, .v (.bool (v3 != 0)))]) (by kernel_rfl) rfl rfl
            ⟨st_plain rfl (op_move _ _ _ _ rfl rfl),
              st_plain rfl (op_len_fl _ _ _ Try.underlying28 rfl (by decide) (map_len _)),
              st_plain rfl (op_bin _ _ _ _ _ rfl rfl rfl),
              st_plain rfl (op_move _ _ _ _ (congrArg (fun b => AV.v (Value.bool b)) hg2_3) rfl),
              st_run 3 16 false rfl rfl rfl (List.Mem.head _) (op_move _ _ _ _ rfl rfl),
              st_run 3 16 false rfl rfl rfl (List.Mem.head _) (op_len_fl _ _ _ Try.underlying28 rfl (by decide) (map_len _)),
              st_run 3 16 false rfl rfl rfl (List.Mem.head _) (op_bin _ _ _ _ _ rfl rfl rfl),
              st_plain rfl (op_pick _ _ false _ rfl rfl),
              st_plain rfl (op_move _ _ _ _ (congrArg (fun b => AV.v (Value.bool b)) hg2_8) rfl),
              st_run 8 21 false rfl rfl rfl (List.Mem.head _) (op_move _ _ _ _ rfl rfl),
              st_run 8 21 false rfl rfl rfl (List.Mem.head _) (op_call _ _ 25 _ _ rfl Try.call25 rfl (ok_canon_Check v1.1 _ hv2) rfl rfl),
              st_run 8 21 false rfl rfl rfl (List.Mem.head _) (op_bin _ _ _ _ _ rfl rfl rfl),
              st_plain rfl (op_pick _ _ false _ rfl rfl),
              st_plain rfl (op_move _ _ _ _ (congrArg (fun b => AV.v (Value.bool b)) hg2_13) rfl),
              st_run 13 26 false rfl rfl rfl (List.Mem.head _) (LOp.drop [_] (op_move_take _ _ _ _ rfl)),
              st_run 13 26 false rfl rfl rfl (List.Mem.head _) (op_call _ _ 25 _ _ rfl Try.call25 rfl (ok_canon_Check v1.2 _ hv3) rfl rfl),
              st_run 13 26 false rfl rfl rfl (List.Mem.head _) (op_bin _ _ _ _ _ rfl rfl rfl),
              st_plain rfl (op_pick _ _ false _ rfl rfl),
              trivial⟩ ?_
          exact hl6 _ (Option.some.inj h).symm

set_option maxHeartbeats 1000000 in
theorem ok_wherryref01_Best (b : (List Int)) (at_ : Int) (r : (Int × Int)) (h : Sh.wherryref01_Best b at_ = some r) : FnOK Try.prog 45 [.fl .shr 1 (List.map (Value.int .u8) b), .v (.int .i64 at_)] (.tup [.v (.int .i64 r.1), .v (.int .i64 r.2)]) := by
  unfold Sh.wherryref01_Best at h
  refine fn_ok Try.func45 rfl (Nat.le_of_ble_eq_true rfl) rfl rfl fun g0 hn hio => ?_
  refine ht_seq ?_
  refine ht_seqR hn (El := [_, _, (4, .v (.int .i64 0)), (5, .v (.int .i64 0))]) (init := [0, 1]) (fin := [0, 1]) (sps := [⟨[], [], [2], [(.slot 4)]⟩, ⟨[], [], [3], [(.slot 5)]⟩]) (es' := [(_, _), (_, _)]) (by kernel_rfl) rfl rfl
    ⟨st_plain rfl (op_assign _ _ _ _ rfl rfl),
      st_plain rfl (op_assign _ _ _ _ rfl rfl),
      trivial⟩ ?_
  refine pt_then ?_
  refine ht_seq ?_
  refine ht_seq ?_
  refine ht_joinS h (fun (s3 : Bool) => [(0, .fl .shr 1 (List.map (Value.int .u8) b)), (1, .v (.int .i64 at_)), (20, .v (.bool s3))]) ?_ ?_
  · rintro s3 h
    refine pt_then ?_
    refine ht_cond _ rfl (fun hb7 => ?_) (fun hb7 => ?_)
    · have h := cond_t hb7 h
      refine ht_seq ?_
      refine ht_seqR hn (El := [_, _, _, (4, .v (.int .i64 0)), (5, .v (.int .i64 0))]) (init := [0, 1, 2]) (fin := [3, 4]) (sps := [⟨[], [], [3], [(.slot 4)]⟩, ⟨[], [], [4], [(.slot 5)]⟩]) (es' := [(4, .v (.int .i64 0)), (5, .v (.int .i64 0))]) (by kernel_rfl) rfl rfl
        ⟨st_plain rfl (op_assign _ _ _ _ rfl rfl),
          st_plain rfl (op_assign _ _ _ _ rfl rfl),
          trivial⟩ ?_
      refine pt_then ?_
      refine ht_ret ?_
      refine pt_r_then ?_
      obtain rfl := Option.some.inj h
      exact pt_ret hio rfl (.tmp _ _ (.tmp _ _ .nil)) rfl rfl
    · have h := cond_f hb7 h
      refine ht_skip ?_
      refine pt_then ?_
      refine ht_seq ?_
      refine ht_seqR hn (El := [_, _, _, (6, .v (.int .i64 0)), (7, .v (.int .i64 0))]) (init := [0, 1, 2]) (fin := [0, 1, 3, 4]) (sps := [⟨[], [], [3], [(.slot 6)]⟩, ⟨[], [], [4], [(.slot 7)]⟩]) (es' := [(_, _), (_, _), (6, .v (.int .i64 0)), (7, .v (.int .i64 0))]) (by kernel_rfl) rfl rfl
        ⟨st_plain rfl (op_assign _ _ _ _ rfl rfl),
          st_plain rfl (op_assign _ _ _ _ rfl rfl),
          trivial⟩ ?_
      refine pt_then ?_
      refine ht_seq ?_
      refine ht_seq ?_
      refine ht_seqR hn (El := [_, _, _, _, (8, .v (.int .i64 1))]) (init := [0, 1, 2, 3]) (fin := [0, 1, 2, 3, 4]) (sps := [⟨[], [], [4], [(.slot 8)]⟩]) (es' := [(_, _), (_, _), (_, _), (_, _), (8, .v (.int .i64 1))]) (by kernel_rfl) rfl rfl
        ⟨st_plain rfl (op_assign _ _ _ _ rfl rfl),
          trivial⟩ ?_
      refine pt_then ?_
      refine ht_loopS h (fun ((s161, s162, s163) : Int × Int × Int) => [(0, .fl .shr 1 (List.map (Value.int .u8) b)), (1, .v (.int .i64 at_)), (6, .v (.int .i64 s161)), (7, .v (.int .i64 s162)), (8, .v (.int .i64 s163))]) (fun ((s234, s235) : Int × Int) => [(6, .v (.int .i64 s234)), (7, .v (.int .i64 s235))]) ?_ ?_
      · rintro ⟨s234, s235⟩ h
        refine pt_then ?_
        refine ht_seq ?_
        refine ht_seq ?_
        refine ht_seqR hn (El := [_, _, (64, .v (.int .i64 s234)), (65, .v (.bool ((decide (s234 < 3)))))]) (init := [0, 1]) (fin := [0, 1, 3]) (sps := [⟨[0], [], [2], [(.slot 64)]⟩, ⟨[2], [], [3], [(.slot 65)]⟩]) (es' := [(_, _), (_, _), (65, .v (.bool ((decide (s234 < 3)))))]) (by kernel_rfl) rfl rfl
          ⟨st_plain rfl (op_move _ _ _ _ rfl rfl),
            st_plain rfl (op_bin _ _ _ _ _ rfl rfl rfl),
            trivial⟩ ?_
        refine pt_then ?_
        refine ht_cond _ rfl (fun hb312 => ?_) (fun hb312 => ?_)
        · have h := cond_t hb312 h
          refine ht_seq ?_
          refine ht_seqR hn (El := [_, _, _, (4, .v (.int .i64 0)), (5, .v (.int .i64 0))]) (init := [0, 1, 2]) (fin := [3, 4]) (sps := [⟨[], [], [3], [(.slot 4)]⟩, ⟨[], [], [4], [(.slot 5)]⟩]) (es' := [(4, .v (.int .i64 0)), (5, .v (.int .i64 0))]) (by kernel_rfl) rfl rfl
            ⟨st_plain rfl (op_assign _ _ _ _ rfl rfl),
              st_plain rfl (op_assign _ _ _ _ rfl rfl),
              trivial⟩ ?_
          refine pt_then ?_
          refine ht_ret ?_
          refine pt_r_then ?_
          obtain rfl := Option.some.inj h
          exact pt_ret hio rfl (.tmp _ _ (.tmp _ _ .nil)) rfl rfl
        · have h := cond_f hb312 h
          refine ht_skip ?_
          refine pt_then ?_
          refine ht_seq ?_
          refine ht_seqR hn (El := [_, _, _, (66, .v (.int .i64 s234)), (67, .v (.int .i64 s235)), (4, .v (.int .i64 s234)), (5, .v (.int .i64 s235))]) (init := [0, 1, 2]) (fin := [5, 6]) (sps := [⟨[0], [], [3], [(.slot 66)]⟩, ⟨[1], [], [4], [(.slot 67)]⟩, ⟨[3], [], [5], [(.slot 4)]⟩, ⟨[4], [], [6], [(.slot 5)]⟩]) (es' := [(4, .v (.int .i64 s234)), (5, .v (.int .i64 s235))]) (by kernel_rfl) rfl rfl
            ⟨st_plain rfl (op_move _ _ _ _ rfl rfl),
              st_plain rfl (op_move _ _ _ _ rfl rfl),
              st_plain rfl (op_assign _ _ _ _ rfl rfl),
              st_plain rfl (op_assign _ _ _ _ rfl rfl),
              trivial⟩ ?_
          refine pt_then ?_
          refine ht_ret ?_
          obtain rfl := Option.some.inj h
          exact pt_ret hio rfl (.tmp _ _ (.tmp _ _ .nil)) rfl rfl
      · rintro u236 hl237 hr238 ⟨s161, s162, s163⟩ rr241 h ho239
        refine ht_seq ?_
        refine ht_seq ?_
        refine ht_joinS h (fun (s242 : Bool) => [(0, .fl .shr 1 (List.map (Value.int .u8) b)), (1, .v (.int .i64 at_)), (6, .v (.int .i64 s161)), (7, .v (.int .i64 s162)), (8, .v (.int .i64 s163)), (27, .v (.bool s242))]) ?_ ?_
        · rintro s242 h
          refine pt_then ?_
          refine ht_cond _ rfl (fun hb246 => ?_) (fun hb246 => ?_)
          · have h := cond_t hb246 h
            refine ht_skip ?_
            refine pt_then ?_
            refine ht_seq ?_
            refine ht_joinS h (fun ((s277, s278) : Int × Int) => [(0, .fl .shr 1 (List.map (Value.int .u8) b)), (1, .v (.int .i64 at_)), (8, .v (.int .i64 s163)), (6, .v (.int .i64 s277)), (7, .v (.int .i64 s278))]) ?_ ?_
            · rintro ⟨s277, s278⟩ h
              refine pt_then ?_
              obtain ⟨v87, hv87, h⟩ := bind_some h
              refine ht_seqR hn (El := [_, _, _, _, _, (28, .v (.int .i64 s163)), (29, .v (.int .i64 v87)), (8, .v (.int .i64 v87))]) (init := [0, 1, 2, 3, 4]) (fin := [0, 1, 3, 4, 7]) (sps := [⟨[2], [], [5], [(.slot 28)]⟩, ⟨[5], [], [6], [(.slot 29)]⟩, ⟨[6], [2], [7], [(.slot 8)]⟩]) (es' := [(_, _), (_, _), (_, _), (_, _), (8, .v (.int .i64 v87))]) (by kernel_rfl) rfl rfl
                ⟨st_plain rfl (op_move _ _ _ _ rfl rfl),
                  st_plain rfl (op_bin _ _ _ _ _ rfl rfl (ibind (f := Value.int .i64) (Option.some.inj hv87))),
                  st_plain rfl (LOp.drop [_] (op_assign _ _ _ _ rfl rfl)),
                  trivial⟩ ?_
              exact pt_next _ (Option.some.inj h).symm rfl
            · intro u279 h hl280 hr281
              refine ht_block ?_
              refine ht_seq ?_
              refine ht_seqR hn (El := [_, _, _, _, _, _, (9, .v (.int .i64 0))]) (init := [0, 1, 2, 3, 4, 5]) (fin := [0, 1, 2, 3, 4, 6]) (sps := [⟨[], [], [6], [(.slot 9)]⟩]) (es' := [(_, _), (_, _), (_, _), (_, _), (_, _), (9, .v (.int .i64 0))]) (by kernel_rfl) rfl rfl
                ⟨st_plain rfl (op_assign _ _ _ _ rfl rfl),
                  trivial⟩ ?_
              refine pt_then ?_
              refine ht_seq ?_
              refine ht_loopS h (fun (s293 : Int) => [(0, .fl .shr 1 (List.map (Value.int .u8) b)), (1, .v (.int .i64 at_)), (6, .v (.int .i64 s161)), (7, .v (.int .i64 s162)), (8, .v (.int .i64 s163)), (9, .v (.int .i64 s293))]) (fun (s299 : Int) => [(0, .fl .shr 1 (List.map (Value.int .u8) b)), (1, .v (.int .i64 at_)), (6, .v (.int .i64 s161)), (7, .v (.int .i64 s162)), (8, .v (.int .i64 s163)), (9, .v (.int .i64 s299))]) ?_ ?_
              · rintro s299 h
                refine pt_then ?_
                refine ht_seq ?_
                refine ht_seqR hn (El := [_, _, _, _, _, _, (59, .v (.int .i64 s299)), (60, .v (.int .i64 s161)), (61, .v (.bool ((decide (s161 < s299)))))]) (init := [0, 1, 2, 3, 4, 5]) (fin := [0, 1, 2, 3, 4, 5, 8]) (sps := [⟨[5], [], [6], [(.slot 59)]⟩, ⟨[2], [], [7], [(.slot 60)]⟩, ⟨[6, 7], [], [8], [(.slot 61)]⟩]) (es' := [(_, _), (_, _), (_, _), (_, _), (_, _), (_, _), (61, .v (.bool ((decide (s161 < s299)))))]) (by kernel_rfl) rfl rfl
                  ⟨st_plain rfl (op_move _ _ _ _ rfl rfl),
                    st_plain rfl (op_move _ _ _ _ rfl rfl),
                    st_plain rfl (op_bin _ _ _ _ _ rfl rfl rfl),
                    trivial⟩ ?_
                refine pt_then ?_
                refine ht_cond _ rfl (fun hb311 => ?_) (fun hb311 => ?_)
                · have h := cond_t hb311 h
                  refine ht_seqR hn (El := [_, _, _, _, _, _, _, (62, .v (.int .i64 s299)), (63, .v (.int .i64 s163)), (6, .v (.int .i64 s299)), (7, .v (.int .i64 s163))]) (init := [0, 1, 2, 3, 4, 5, 6]) (fin := [0, 1, 4, 9, 10]) (sps := [⟨[5], [], [7], [(.slot 62)]⟩, ⟨[4], [], [8], [(.slot 63)]⟩, ⟨[7], [2], [9], [(.slot 6)]⟩, ⟨[8], [3], [10], [(.slot 7)]⟩]) (es' := [(_, _), (_, _), (_, _), (6, .v (.int .i64 s299)), (7, .v (.int .i64 s163))]) (by kernel_rfl) rfl rfl
                    ⟨st_plain rfl (op_move _ _ _ _ rfl rfl),
                      st_plain rfl (op_move _ _ _ _ rfl rfl),
                      st_plain rfl (LOp.drop [_] (op_assign _ _ _ _ rfl rfl)),
                      st_plain rfl (LOp.drop [_] (op_assign _ _ _ _ rfl rfl)),
                      trivial⟩ ?_
                  refine pt_inb ?_
                  exact hl280 _ (Option.some.inj h).symm
                · have h := cond_f hb311 h
                  refine ht_skip ?_
                  refine pt_inb ?_
                  refine pt_pick [0, 1, 4, 2, 3] (by kernel_rfl) (es' := [(_, _), (_, _), (_, _), (_, _), (_, _)]) rfl ?_
                  exact hl280 _ (Option.some.inj h).symm
              · rintro u300 hl301 hr302 s293 rr305 h ho303
                refine ht_seq ?_
                refine ht_seq ?_
                refine ht_joinS h (fun (s306 : Bool) => [(0, .fl .shr 1 (List.map (Value.int .u8) b)), (1, .v (.int .i64 at_)), (6, .v (.int .i64 s161)), (7, .v (.int .i64 s162)), (8, .v (.int .i64 s163)), (9, .v (.int .i64 s293)), (56, .v (.bool s306))]) ?_ ?_
                · rintro s306 h
                  refine pt_then ?_
                  refine ht_cond _ rfl (fun hb310 => ?_) (fun hb310 => ?_)
                  · have h := cond_t hb310 h
                    refine ht_skip ?_
                    refine pt_then ?_
                    refine ht_block ?_
                    obtain ⟨v26, hv26, h⟩ := bind_some h
                    refine ht_seqR hn (El := [_, _, _, _, _, _, _, (57, .v (.int .i64 s293)), (58, .v (.int .i64 v26)), (9, .v (.int .i64 v26))]) (init := [0, 1, 2, 3, 4, 5, 6]) (fin := [0, 1, 2, 3, 4, 9]) (sps := [⟨[5], [], [7], [(.slot 57)]⟩, ⟨[7], [], [8], [(.slot 58)]⟩, ⟨[8], [5], [9], [(.slot 9)]⟩]) (es' := [(_, _), (_, _), (_, _), (_, _), (_, _), (9, .v (.int .i64 v26))]) (by kernel_rfl) rfl rfl
                      ⟨st_plain rfl (op_move _ _ _ _ rfl rfl),
                        st_plain rfl (op_bin _ _ _ _ _ rfl rfl (ibind (f := Value.int .i64) (Option.some.inj hv26))),
                        st_plain rfl (LOp.drop [_] (op_assign _ _ _ _ rfl rfl)),
                        trivial⟩ ?_
                    refine pt_inb ?_
                    exact pt_next _ (Option.some.inj h).symm rfl
                  · have h := cond_f hb310 h
                    refine ht_exit ?_
                    refine pt_x_then ?_
                    refine pt_x_then ?_
                    refine pt_x_in ?_
                    refine pt_pick [0, 1, 2, 3, 4, 5] (by kernel_rfl) (es' := [(_, _), (_, _), (_, _), (_, _), (_, _), (_, _)]) rfl ?_
                    exact hl301 _ (ho303 _ (Option.some.inj h).symm).symm
                · intro u307 h hl308 hr309
                  refine cond_some h (fun hg8_2 h => ?_) (fun hg8_2 h => ?_)
                  · obtain ⟨v13, hv13, h⟩ := bind_some h
                    refine cond_some h (fun hg8_10 h => ?_) (fun hg8_10 h => ?_)
                    · obtain ⟨v14, hv14, h⟩ := bind_some h
                      obtain ⟨v15, hv15, h⟩ := bind_some h
                      obtain ⟨v16, hv16, h⟩ := bind_some h
                      obtain ⟨v17, hv17, h⟩ := bind_some h
                      obtain ⟨v18, hv18, h⟩ := bind_some h
                      obtain ⟨v19, hv19, h⟩ := bind_some h
                      obtain ⟨v20, hv20, h⟩ := bind_some h
                      refine ht_anyR (by kernel_rfl) hn (El := (_ :: _ :: _ :: _ :: _ :: _ :: (30, .v (.int .i64 s293)) :: (31, .v (.bool ((decide (s293 < 258))))) :: (32, .v (.bool true)) :: (33, .v (.int .i64 at_)) :: (34, .v (.int .i64 s293)) :: (35, .v (.int .i64 v13)) :: (36, .fl .shr 1 (List.map (Value.int .u8) b)) :: (37, .v (.int .i64 (b.length : Int))) :: (38, .v (.bool ((decide (v13 < (b.length : Int)))))) :: (39, .v (.bool ((decide (v13 < (b.length : Int)))))) :: (40, .v (.bool true)) :: (41, .fl .shr 1 (List.map (Value.int .u8) b)) :: (42, .v (.int .i64 at_)) :: (43, .v (.int .i64 s293)) :: (44, .v (.int .i64 v14)) :: (45, .eref (.slot 41) (v15 * 1)) :: (46, .v (.int .u8 v16)) :: (47, .fl .shr 1 (List.map (Value.int .u8) b)) :: (48, .v (.int .i64 at_)) :: (49, .v (.int .i64 s293)) :: (50, .v (.int .i64 v17)) :: (51, .v (.int .i64 s163)) :: (52, .v (.int .i64 v18)) :: (53, .eref (.slot 47) (v19 * 1)) :: (54, .v (.int .u8 v20)) :: (55, .v (.bool (v16 == v20))) :: (56, .v (.bool (v16 == v20))) :: [])) (init := [0, 1, 2, 3, 4, 5]) (fin := [0, 1, 2, 3, 4, 5, 32]) (sps := (⟨[5], [], [6], [(.slot 30)]⟩ :: ⟨[6], [], [7], [(.slot 31)]⟩ :: ⟨[7], [], [8], [(.slot 32)]⟩ :: ⟨[8, 1], [], [9], [(.slot 33)]⟩ :: ⟨[8, 5], [], [10], [(.slot 34)]⟩ :: ⟨[8, 9, 10], [], [11], [(.slot 35)]⟩ :: ⟨[8, 0], [], [12], [(.slot 36)]⟩ :: ⟨[8, 12], [], [13], [(.slot 37)]⟩ :: ⟨[8, 11, 13], [], [14], [(.slot 38)]⟩ :: ⟨[8, 14], [], [15], [(.slot 39)]⟩ :: ⟨[15], [], [16], [(.slot 40)]⟩ :: ⟨[16, 0], [], [17], [(.slot 41)]⟩ :: ⟨[16, 1], [], [18], [(.slot 42)]⟩ :: ⟨[16, 5], [], [19], [(.slot 43)]⟩ :: ⟨[16, 18, 19], [], [20], [(.slot 44)]⟩ :: ⟨[16, 17, 20], [], [21], [(.slot 45)]⟩ :: ⟨[16, 21, 17], [], [22], [(.slot 46)]⟩ :: ⟨[16, 0], [], [23], [(.slot 47)]⟩ :: ⟨[16, 1], [], [24], [(.slot 48)]⟩ :: ⟨[16, 5], [], [25], [(.slot 49)]⟩ :: ⟨[16, 24, 25], [], [26], [(.slot 50)]⟩ :: ⟨[16, 4], [], [27], [(.slot 51)]⟩ :: ⟨[16, 26, 27], [], [28], [(.slot 52)]⟩ :: ⟨[16, 23, 28], [], [29], [(.slot 53)]⟩ :: ⟨[16, 29, 23], [], [30], [(.slot 54)]⟩ :: ⟨[16, 22, 30], [], [31], [(.slot 55)]⟩ :: ⟨[16, 31], [], [32], [(.slot 56)]⟩ :: [])) (es' := [(_, _), (_, _), (_, _), (_, _), (_, _), (_, _), (56, .v (.bool (v16 == v20)))]) (by kernel_rfl) rfl rfl
                        ⟨st_plain rfl (op_move _ _ _ _ rfl rfl),
                          st_plain rfl (op_bin _ _ _ _ _ rfl rfl rfl),
                          st_plain rfl (op_move _ _ _ _ (congrArg (fun b => AV.v (Value.bool b)) hg8_2) rfl),
                          st_run 2 32 true rfl rfl rfl (List.Mem.head _) (op_move _ _ _ _ rfl rfl),
                          st_run 2 32 true rfl rfl rfl (List.Mem.head _) (op_move _ _ _ _ rfl rfl),
                          st_run 2 32 true rfl rfl rfl (List.Mem.head _) (op_bin _ _ _ _ _ rfl rfl (ibind (f := Value.int .i64) (Option.some.inj hv13))),
                          st_run 2 32 true rfl rfl rfl (List.Mem.head _) (op_move _ _ _ _ rfl rfl),
                          st_run 2 32 true rfl rfl rfl (List.Mem.head _) (op_len_fl _ _ _ Try.underlying44 rfl (by decide) (map_len _)),
                          st_run 2 32 true rfl rfl rfl (List.Mem.head _) (op_bin _ _ _ _ _ rfl rfl rfl),
                          st_plain rfl (op_pick _ _ true _ rfl rfl),
                          st_plain rfl (op_move _ _ _ _ (congrArg (fun b => AV.v (Value.bool b)) hg8_10) rfl),
                          st_run 10 40 true rfl rfl rfl (List.Mem.head _) (op_move _ _ _ _ rfl rfl),
                          st_run 10 40 true rfl rfl rfl (List.Mem.head _) (op_move _ _ _ _ rfl rfl),
                          st_run 10 40 true rfl rfl rfl (List.Mem.head _) (op_move _ _ _ _ rfl rfl),
                          st_run 10 40 true rfl rfl rfl (List.Mem.head _) (op_bin _ _ _ _ _ rfl rfl (ibind (f := Value.int .i64) (Option.some.inj hv14))),
                          st_run 10 40 true rfl rfl rfl (List.Mem.head _) (op_ix _ _ _ _ _ _ _ _ Try.underlying44 sz5 (by decide) rfl rfl rfl (ix_ok hv15).1 (map_lt (ix_ok hv15).2) rfl),
                          st_run 10 40 true rfl rfl rfl (List.Mem.head _) (op_load_e _ _ _ _ _ _ Try.underlying5 rfl rfl rfl (map_get hv16)),
                          st_run 10 40 true rfl rfl rfl (List.Mem.head _) (op_move _ _ _ _ rfl rfl),
                          st_run 10 40 true rfl rfl rfl (List.Mem.head _) (op_move _ _ _ _ rfl rfl),
                          st_run 10 40 true rfl rfl rfl (List.Mem.head _) (op_move _ _ _ _ rfl rfl),
                          st_run 10 40 true rfl rfl rfl (List.Mem.head _) (op_bin _ _ _ _ _ rfl rfl (ibind (f := Value.int .i64) (Option.some.inj hv17))),
                          st_run 10 40 true rfl rfl rfl (List.Mem.head _) (op_move _ _ _ _ rfl rfl),
                          st_run 10 40 true rfl rfl rfl (List.Mem.head _) (op_bin _ _ _ _ _ rfl rfl (ibind (f := Value.int .i64) (Option.some.inj hv18))),
                          st_run 10 40 true rfl rfl rfl (List.Mem.head _) (op_ix _ _ _ _ _ _ _ _ Try.underlying44 sz5 (by decide) rfl rfl rfl (ix_ok hv19).1 (map_lt (ix_ok hv19).2) rfl),
                          st_run 10 40 true rfl rfl rfl (List.Mem.head _) (op_load_e _ _ _ _ _ _ Try.underlying5 rfl rfl rfl (map_get hv20)),
                          st_run 10 40 true rfl rfl rfl (List.Mem.head _) (op_bin _ _ _ _ _ rfl rfl rfl),
                          st_plain rfl (op_pick _ _ true _ rfl rfl),
                          trivial⟩ ?_
                      exact hl308 _ (Option.some.inj h).symm
                    · refine ht_anyR (by kernel_rfl) hn (El := (_ :: _ :: _ :: _ :: _ :: _ :: (30, .v (.int .i64 s293)) :: (31, .v (.bool ((decide (s293 < 258))))) :: (32, .v (.bool true)) :: (33, .v (.int .i64 at_)) :: (34, .v (.int .i64 s293)) :: (35, .v (.int .i64 v13)) :: (36, .fl .shr 1 (List.map (Value.int .u8) b)) :: (37, .v (.int .i64 (b.length : Int))) :: (38, .v (.bool ((decide (v13 < (b.length : Int)))))) :: (39, .v (.bool ((decide (v13 < (b.length : Int)))))) :: (40, .v (.bool false)) :: (41, .v undef) :: (42, .v undef) :: (43, .v undef) :: (44, .v undef) :: (45, .v undef) :: (46, .v undef) :: (47, .v undef) :: (48, .v undef) :: (49, .v undef) :: (50, .v undef) :: (51, .v undef) :: (52, .v undef) :: (53, .v undef) :: (54, .v undef) :: (55, .v undef) :: (56, .v (.bool false)) :: [])) (init := [0, 1, 2, 3, 4, 5]) (fin := [0, 1, 2, 3, 4, 5, 32]) (sps := (⟨[5], [], [6], [(.slot 30)]⟩ :: ⟨[6], [], [7], [(.slot 31)]⟩ :: ⟨[7], [], [8], [(.slot 32)]⟩ :: ⟨[8, 1], [], [9], [(.slot 33)]⟩ :: ⟨[8, 5], [], [10], [(.slot 34)]⟩ :: ⟨[8, 9, 10], [], [11], [(.slot 35)]⟩ :: ⟨[8, 0], [], [12], [(.slot 36)]⟩ :: ⟨[8, 12], [], [13], [(.slot 37)]⟩ :: ⟨[8, 11, 13], [], [14], [(.slot 38)]⟩ :: ⟨[8, 14], [], [15], [(.slot 39)]⟩ :: ⟨[15], [], [16], [(.slot 40)]⟩ :: ⟨[16], [], [17], [(.slot 41)]⟩ :: ⟨[16], [], [18], [(.slot 42)]⟩ :: ⟨[16], [], [19], [(.slot 43)]⟩ :: ⟨[16], [], [20], [(.slot 44)]⟩ :: ⟨[16], [], [21], [(.slot 45)]⟩ :: ⟨[16], [], [22], [(.slot 46)]⟩ :: ⟨[16], [], [23], [(.slot 47)]⟩ :: ⟨[16], [], [24], [(.slot 48)]⟩ :: ⟨[16], [], [25], [(.slot 49)]⟩ :: ⟨[16], [], [26], [(.slot 50)]⟩ :: ⟨[16], [], [27], [(.slot 51)]⟩ :: ⟨[16], [], [28], [(.slot 52)]⟩ :: ⟨[16], [], [29], [(.slot 53)]⟩ :: ⟨[16], [], [30], [(.slot 54)]⟩ :: ⟨[16], [], [31], [(.slot 55)]⟩ :: ⟨[16], [], [32], [(.slot 56)]⟩ :: [])) (es' := [(_, _), (_, _), (_, _), (_, _), (_, _), (_, _), (56, .v (.bool false))]) (by kernel_rfl) rfl rfl
                        ⟨st_plain rfl (op_move _ _ _ _ rfl rfl),
                          st_plain rfl (op_bin _ _ _ _ _ rfl rfl rfl),
                          st_plain rfl (op_move _ _ _ _ (congrArg (fun b => AV.v (Value.bool b)) hg8_2) rfl),
                          st_run 2 32 true rfl rfl rfl (List.Mem.head _) (op_move _ _ _ _ rfl rfl),
                          st_run 2 32 true rfl rfl rfl (List.Mem.head _) (op_move _ _ _ _ rfl rfl),
                          st_run 2 32 true rfl rfl rfl (List.Mem.head _) (op_bin _ _ _ _ _ rfl rfl (ibind (f := Value.int .i64) (Option.some.inj hv13))),
                          st_run 2 32 true rfl rfl rfl (List.Mem.head _) (op_move _ _ _ _ rfl rfl),
                          st_run 2 32 true rfl rfl rfl (List.Mem.head _) (op_len_fl _ _ _ Try.underlying44 rfl (by decide) (map_len _)),
                          st_run 2 32 true rfl rfl rfl (List.Mem.head _) (op_bin _ _ _ _ _ rfl rfl rfl),
                          st_plain rfl (op_pick _ _ true _ rfl rfl),
                          st_plain rfl (op_move _ _ _ _ (congrArg (fun b => AV.v (Value.bool b)) hg8_10) rfl),
                          st_skip 10 40 _ true rfl rfl rfl rfl (List.Mem.head _),
                          st_skip 10 40 _ true rfl rfl rfl rfl (List.Mem.head _),
                          st_skip 10 40 _ true rfl rfl rfl rfl (List.Mem.head _),
                          st_skip 10 40 _ true rfl rfl rfl rfl (List.Mem.head _),
                          st_skip 10 40 _ true rfl rfl rfl rfl (List.Mem.head _),
                          st_skip 10 40 _ true rfl rfl rfl rfl (List.Mem.head _),
                          st_skip 10 40 _ true rfl rfl rfl rfl (List.Mem.head _),
                          st_skip 10 40 _ true rfl rfl rfl rfl (List.Mem.head _),
                          st_skip 10 40 _ true rfl rfl rfl rfl (List.Mem.head _),
                          st_skip 10 40 _ true rfl rfl rfl rfl (List.Mem.head _),
                          st_skip 10 40 _ true rfl rfl rfl rfl (List.Mem.head _),
                          st_skip 10 40 _ true rfl rfl rfl rfl (List.Mem.head _),
                          st_skip 10 40 _ true rfl rfl rfl rfl (List.Mem.head _),
                          st_skip 10 40 _ true rfl rfl rfl rfl (List.Mem.head _),
                          st_skip 10 40 _ true rfl rfl rfl rfl (List.Mem.head _),
                          st_plain rfl (op_pick _ _ false _ rfl rfl),
                          trivial⟩ ?_
                      exact hl308 _ (Option.some.inj h).symm
                  · refine ht_anyR (by kernel_rfl) hn (El := (_ :: _ :: _ :: _ :: _ :: _ :: (30, .v (.int .i64 s293)) :: (31, .v (.bool ((decide (s293 < 258))))) :: (32, .v (.bool false)) :: (33, .v undef) :: (34, .v undef) :: (35, .v undef) :: (36, .v undef) :: (37, .v undef) :: (38, .v undef) :: (39, .v (.bool false)) :: (40, .v (.bool false)) :: (41, .v undef) :: (42, .v undef) :: (43, .v undef) :: (44, .v undef) :: (45, .v undef) :: (46, .v undef) :: (47, .v undef) :: (48, .v undef) :: (49, .v undef) :: (50, .v undef) :: (51, .v undef) :: (52, .v undef) :: (53, .v undef) :: (54, .v undef) :: (55, .v undef) :: (56, .v (.bool false)) :: [])) (init := [0, 1, 2, 3, 4, 5]) (fin := [0, 1, 2, 3, 4, 5, 32]) (sps := (⟨[5], [], [6], [(.slot 30)]⟩ :: ⟨[6], [], [7], [(.slot 31)]⟩ :: ⟨[7], [], [8], [(.slot 32)]⟩ :: ⟨[8], [], [9], [(.slot 33)]⟩ :: ⟨[8], [], [10], [(.slot 34)]⟩ :: ⟨[8], [], [11], [(.slot 35)]⟩ :: ⟨[8], [], [12], [(.slot 36)]⟩ :: ⟨[8], [], [13], [(.slot 37)]⟩ :: ⟨[8], [], [14], [(.slot 38)]⟩ :: ⟨[8], [], [15], [(.slot 39)]⟩ :: ⟨[15], [], [16], [(.slot 40)]⟩ :: ⟨[16], [], [17], [(.slot 41)]⟩ :: ⟨[16], [], [18], [(.slot 42)]⟩ :: ⟨[16], [], [19], [(.slot 43)]⟩ :: ⟨[16], [], [20], [(.slot 44)]⟩ :: ⟨[16], [], [21], [(.slot 45)]⟩ :: ⟨[16], [], [22], [(.slot 46)]⟩ :: ⟨[16], [], [23], [(.slot 47)]⟩ :: ⟨[16], [], [24], [(.slot 48)]⟩ :: ⟨[16], [], [25], [(.slot 49)]⟩ :: ⟨[16], [], [26], [(.slot 50)]⟩ :: ⟨[16], [], [27], [(.slot 51)]⟩ :: ⟨[16], [], [28], [(.slot 52)]⟩ :: ⟨[16], [], [29], [(.slot 53)]⟩ :: ⟨[16], [], [30], [(.slot 54)]⟩ :: ⟨[16], [], [31], [(.slot 55)]⟩ :: ⟨[16], [], [32], [(.slot 56)]⟩ :: [])) (es' := [(_, _), (_, _), (_, _), (_, _), (_, _), (_, _), (56, .v (.bool false))]) (by kernel_rfl) rfl rfl
                      ⟨st_plain rfl (op_move _ _ _ _ rfl rfl),
                        st_plain rfl (op_bin _ _ _ _ _ rfl rfl rfl),
                        st_plain rfl (op_move _ _ _ _ (congrArg (fun b => AV.v (Value.bool b)) hg8_2) rfl),
                        st_skip 2 32 _ true rfl rfl rfl rfl (List.Mem.head _),
                        st_skip 2 32 _ true rfl rfl rfl rfl (List.Mem.head _),
                        st_skip 2 32 _ true rfl rfl rfl rfl (List.Mem.head _),
                        st_skip 2 32 _ true rfl rfl rfl rfl (List.Mem.head _),
                        st_skip 2 32 _ true rfl rfl rfl rfl (List.Mem.head _),
                        st_skip 2 32 _ true rfl rfl rfl rfl (List.Mem.head _),
                        st_plain rfl (op_pick _ _ false _ rfl rfl),
                        st_plain rfl (op_move _ _ _ _ rfl rfl),
                        st_skip 10 40 _ true rfl rfl rfl rfl (List.Mem.head _),
                        st_skip 10 40 _ true rfl rfl rfl rfl (List.Mem.head _),
                        st_skip 10 40 _ true rfl rfl rfl rfl (List.Mem.head _),
                        st_skip 10 40 _ true rfl rfl rfl rfl (List.Mem.head _),
                        st_skip 10 40 _ true rfl rfl rfl rfl (List.Mem.head _),
                        st_skip 10 40 _ true rfl rfl rfl rfl (List.Mem.head _),
                        st_skip 10 40 _ true rfl rfl rfl rfl (List.Mem.head _),
                        st_skip 10 40 _ true rfl rfl rfl rfl (List.Mem.head _),
                        st_skip 10 40 _ true rfl rfl rfl rfl (List.Mem.head _),
                        st_skip 10 40 _ true rfl rfl rfl rfl (List.Mem.head _),
                        st_skip 10 40 _ true rfl rfl rfl rfl (List.Mem.head _),
                        st_skip 10 40 _ true rfl rfl rfl rfl (List.Mem.head _),
                        st_skip 10 40 _ true rfl rfl rfl rfl (List.Mem.head _),
                        st_skip 10 40 _ true rfl rfl rfl rfl (List.Mem.head _),
                        st_skip 10 40 _ true rfl rfl rfl rfl (List.Mem.head _),
                        st_plain rfl (op_pick _ _ false _ rfl rfl),
                        trivial⟩ ?_
                    exact hl308 _ (Option.some.inj h).symm
          · have h := cond_f hb246 h
            refine ht_exit ?_
            refine pt_x_then ?_
            refine pt_x_then ?_
            refine pt_x_in ?_
            refine pt_pick [2, 3] (by kernel_rfl) (es' := [(_, _), (_, _)]) rfl ?_
            exact hl237 _ (ho239 _ (Option.some.inj h).symm).symm
        · intro u243 h hl244 hr245
          refine cond_some h (fun hg5_3 h => ?_) (fun hg5_3 h => ?_)
          · refine ht_seqR hn (El := [_, _, _, _, _, (21, .v (.int .i64 s163)), (22, .v (.int .i64 at_)), (23, .v (.bool ((decide (s163 ≤ at_))))), (24, .v (.bool true)), (25, .v (.int .i64 s163)), (26, .v (.bool ((decide (s163 ≤ 2048))))), (27, .v (.bool ((decide (s163 ≤ 2048)))))]) (init := [0, 1, 2, 3, 4]) (fin := [0, 1, 2, 3, 4, 11]) (sps := [⟨[4], [], [5], [(.slot 21)]⟩, ⟨[1], [], [6], [(.slot 22)]⟩, ⟨[5, 6], [], [7], [(.slot 23)]⟩, ⟨[7], [], [8], [(.slot 24)]⟩, ⟨[8, 4], [], [9], [(.slot 25)]⟩, ⟨[8, 9], [], [10], [(.slot 26)]⟩, ⟨[8, 10], [], [11], [(.slot 27)]⟩]) (es' := [(_, _), (_, _), (_, _), (_, _), (_, _), (27, .v (.bool ((decide (s163 ≤ 2048)))))]) (by kernel_rfl) rfl rfl
              ⟨st_plain rfl (op_move _ _ _ _ rfl rfl),
                st_plain rfl (op_move _ _ _ _ rfl rfl),
                st_plain rfl (op_bin _ _ _ _ _ rfl rfl rfl),
                st_plain rfl (op_move _ _ _ _ (congrArg (fun b => AV.v (Value.bool b)) hg5_3) rfl),
                st_run 3 24 true rfl rfl rfl (List.Mem.head _) (op_move _ _ _ _ rfl rfl),
                st_run 3 24 true rfl rfl rfl (List.Mem.head _) (op_bin _ _ _ _ _ rfl rfl rfl),
                st_plain rfl (op_pick _ _ true _ rfl rfl),
                trivial⟩ ?_
            exact hl244 _ (Option.some.inj h).symm
          · refine ht_seqR hn (El := [_, _, _, _, _, (21, .v (.int .i64 s163)), (22, .v (.int .i64 at_)), (23, .v (.bool ((decide (s163 ≤ at_))))), (24, .v (.bool false)), (25, .v undef), (26, .v undef), (27, .v (.bool false))]) (init := [0, 1, 2, 3, 4]) (fin := [0, 1, 2, 3, 4, 11]) (sps := [⟨[4], [], [5], [(.slot 21)]⟩, ⟨[1], [], [6], [(.slot 22)]⟩, ⟨[5, 6], [], [7], [(.slot 23)]⟩, ⟨[7], [], [8], [(.slot 24)]⟩, ⟨[8], [], [9], [(.slot 25)]⟩, ⟨[8], [], [10], [(.slot 26)]⟩, ⟨[8], [], [11], [(.slot 27)]⟩]) (es' := [(_, _), (_, _), (_, _), (_, _), (_, _), (27, .v (.bool false))]) (by kernel_rfl) rfl rfl
              ⟨st_plain rfl (op_move _ _ _ _ rfl rfl),
                st_plain rfl (op_move _ _ _ _ rfl rfl),
                st_plain rfl (op_bin _ _ _ _ _ rfl rfl rfl),
                st_plain rfl (op_move _ _ _ _ (congrArg (fun b => AV.v (Value.bool b)) hg5_3) rfl),
                st_skip 3 24 _ true rfl rfl rfl rfl (List.Mem.head _),
                st_skip 3 24 _ true rfl rfl rfl rfl (List.Mem.head _),
                st_plain rfl (op_pick _ _ false _ rfl rfl),
                trivial⟩ ?_
            exact hl244 _ (Option.some.inj h).symm
  · intro u4 h hl5 hr6
    refine cond_some h (fun hg1_3 h => ?_) (fun hg1_3 h => ?_)
    · refine ht_seqR hn (El := [_, _, (10, .fl .shr 1 (List.map (Value.int .u8) b)), (11, .v (.int .i64 (b.length : Int))), (12, .v (.bool ((decide (4096 < (b.length : Int)))))), (13, .v (.bool true)), (14, .v undef), (15, .v undef), (16, .v undef), (17, .v undef), (18, .v undef), (19, .v undef), (20, .v (.bool true))]) (init := [0, 1]) (fin := [0, 1, 12]) (sps := [⟨[0], [], [2], [(.slot 10)]⟩, ⟨[2], [], [3], [(.slot 11)]⟩, ⟨[3], [], [4], [(.slot 12)]⟩, ⟨[4], [], [5], [(.slot 13)]⟩, ⟨[5], [], [6], [(.slot 14)]⟩, ⟨[5], [], [7], [(.slot 15)]⟩, ⟨[5], [], [8], [(.slot 16)]⟩, ⟨[5], [], [9], [(.slot 17)]⟩, ⟨[5], [], [10], [(.slot 18)]⟩, ⟨[5], [], [11], [(.slot 19)]⟩, ⟨[5], [], [12], [(.slot 20)]⟩]) (es' := [(_, _), (_, _), (20, .v (.bool true))]) (by kernel_rfl) rfl rfl
        ⟨st_plain rfl (op_move _ _ _ _ rfl rfl),
          st_plain rfl (op_len_fl _ _ _ Try.underlying44 rfl (by decide) (map_len _)),
          st_plain rfl (op_bin _ _ _ _ _ rfl rfl rfl),
          st_plain rfl (op_move _ _ _ _ (congrArg (fun b => AV.v (Value.bool b)) hg1_3) rfl),
          st_skip 3 13 _ false rfl rfl rfl rfl (List.Mem.head _),
          st_skip 3 13 _ false rfl rfl rfl rfl (List.Mem.head _),
          st_skip 3 13 _ false rfl rfl rfl rfl (List.Mem.head _),
          st_skip 3 13 _ false rfl rfl rfl rfl (List.Mem.head _),
          st_skip 3 13 _ false rfl rfl rfl rfl (List.Mem.head _),
          st_skip 3 13 _ false rfl rfl rfl rfl (List.Mem.head _),
          st_plain rfl (op_pick _ _ true _ rfl rfl),
          trivial⟩ ?_
      exact hl5 _ (Option.some.inj h).symm
    · obtain ⟨v1, hv1, h⟩ := bind_some h
      obtain ⟨v2, hv2, h⟩ := bind_some h
      refine ht_seqR hn (El := [_, _, (10, .fl .shr 1 (List.map (Value.int .u8) b)), (11, .v (.int .i64 (b.length : Int))), (12, .v (.bool ((decide (4096 < (b.length : Int)))))), (13, .v (.bool false)), (14, .v (.int .i64 at_)), (15, .fl .shr 1 (List.map (Value.int .u8) b)), (16, .v (.int .i64 (b.length : Int))), (17, .v (.int .i64 v1)), (18, .v (.bool v2)), (19, .v (.bool (!v2))), (20, .v (.bool (!v2)))]) (init := [0, 1]) (fin := [0, 1, 12]) (sps := [⟨[0], [], [2], [(.slot 10)]⟩, ⟨[2], [], [3], [(.slot 11)]⟩, ⟨[3], [], [4], [(.slot 12)]⟩, ⟨[4], [], [5], [(.slot 13)]⟩, ⟨[5, 1], [], [6], [(.slot 14)]⟩, ⟨[5, 0], [], [7], [(.slot 15)]⟩, ⟨[5, 7], [], [8], [(.slot 16)]⟩, ⟨[5, 8], [], [9], [(.slot 17)]⟩, ⟨[5, 6, 9], [], [10], [(.slot 18)]⟩, ⟨[5, 10], [], [11], [(.slot 19)]⟩, ⟨[5, 11], [], [12], [(.slot 20)]⟩]) (es' := [(_, _), (_, _), (20, .v (.bool (!v2)))]) (by kernel_rfl) rfl rfl
        ⟨st_plain rfl (op_move _ _ _ _ rfl rfl),
          st_plain rfl (op_len_fl _ _ _ Try.underlying44 rfl (by decide) (map_len _)),
          st_plain rfl (op_bin _ _ _ _ _ rfl rfl rfl),
          st_plain rfl (op_move _ _ _ _ (congrArg (fun b => AV.v (Value.bool b)) hg1_3) rfl),
          st_run 3 13 false rfl rfl rfl (List.Mem.head _) (op_move _ _ _ _ rfl rfl),
          st_run 3 13 false rfl rfl rfl (List.Mem.head _) (op_move _ _ _ _ rfl rfl),
          st_run 3 13 false rfl rfl rfl (List.Mem.head _) (op_len_fl _ _ _ Try.underlying44 rfl (by decide) (map_len _)),
          st_run 3 13 false rfl rfl rfl (List.Mem.head _) (op_bin _ _ _ _ _ rfl rfl (ibind (f := Value.int .i64) (Option.some.inj hv1))),
          st_run 3 13 false rfl rfl rfl (List.Mem.head _) (op_call _ _ 30 _ _ rfl Try.call30 rfl (ok_wherryref01_in at_ 0 v1 _ hv2) rfl rfl),
          st_run 3 13 false rfl rfl rfl (List.Mem.head _) (op_un _ _ _ _ rfl rfl),
          st_plain rfl (op_pick _ _ false _ rfl rfl),
          trivial⟩ ?_
      exact hl5 _ (Option.some.inj h).symm

set_option maxHeartbeats 1000000 in
theorem ok_wherryref01_tokens (b : (List Int)) (r : (List T_Tok)) (h : Sh.wherryref01_tokens b = some r) : FnOK Try.prog 42 [.fl .shr 1 (List.map (Value.int .u8) b)] (.fl (.own 48) 3 (List.flatten (List.map T_Tok.enc r))) := by
  unfold Sh.wherryref01_tokens at h
  refine fn_ok Try.func42 rfl (Nat.le_of_ble_eq_true rfl) rfl rfl fun g0 hn hio => ?_
  refine ht_seq ?_
  refine ht_seqR hn (El := [_, (2, .v (.slice none 0 0))]) (init := [0]) (fin := [0]) (sps := [⟨[], [], [1], [(.slot 2)]⟩]) (es' := [(_, _)]) (by kernel_rfl) rfl rfl
    ⟨st_plain rfl (op_assign _ _ _ _ rfl rfl),
      trivial⟩ ?_
  refine pt_then ?_
  refine ht_seq ?_
  refine ht_seqR hn (El := [_, (3, .v (.slice none 0 0))]) (init := [0]) (fin := [0, 1]) (sps := [⟨[], [], [1], [(.slot 3)]⟩]) (es' := [(_, _), (3, .v (.slice none 0 0))]) (by kernel_rfl) rfl rfl
    ⟨st_plain rfl (op_assign _ _ _ _ rfl rfl),
      trivial⟩ ?_
  refine pt_then ?_
  refine ht_seq ?_
  refine ht_seq ?_
  refine ht_seqR hn (El := [_, _, (4, .v (.int .i64 0))]) (init := [0, 1]) (fin := [0, 1, 2]) (sps := [⟨[], [], [2], [(.slot 4)]⟩]) (es' := [(_, _), (_, _), (4, .v (.int .i64 0))]) (by kernel_rfl) rfl rfl
    ⟨st_plain rfl (op_assign _ _ _ _ rfl rfl),
      trivial⟩ ?_
  refine pt_then ?_
  refine ht_sub (fs := [(0, .fl .shr 1 (List.map (Value.int .u8) b)), (3, .fl (.own 48) 3 (List.flatten (List.map T_Tok.enc []))), (4, .v (.int .i64 0))]) (.same _ (.sub _ (sub_nil 48 3) rfl (.same _ .nil))) ?_
  refine ht_loopS h (fun ((s26, s27) : (List T_Tok) × Int) => [(0, .fl .shr 1 (List.map (Value.int .u8) b)), (3, .fl (.own 48) 3 (List.flatten (List.map T_Tok.enc s26))), (4, .v (.int .i64 s27))]) (fun (s36 : (List T_Tok)) => [(3, .fl (.own 48) 3 (List.flatten (List.map T_Tok.enc s36)))]) ?_ ?_
  · rintro s36 h
    refine pt_then ?_
    refine ht_seq ?_
    refine ht_seqR hn (El := [_, (38, .fl (.own 48) 3 (List.flatten (List.map T_Tok.enc s36))), (2, .fl (.own 48) 3 (List.flatten (List.map T_Tok.enc s36)))]) (init := [0]) (fin := [2]) (sps := [⟨[], [0], [1], [(.slot 38)]⟩, ⟨[], [1], [2], [(.slot 2)]⟩]) (es' := [(2, .fl (.own 48) 3 (List.flatten (List.map T_Tok.enc s36)))]) (by kernel_rfl) rfl rfl
      ⟨st_plain rfl (op_move_take _ _ _ _ rfl),
        st_plain rfl (op_assign_take _ _ _ _ rfl),
        trivial⟩ ?_
    refine pt_then ?_
    refine ht_ret ?_
    obtain rfl := Option.some.inj h
    exact pt_ret hio rfl (.tmp _ _ .nil) rfl rfl
  · rintro u37 hl38 hr39 ⟨s26, s27⟩ rr42 h ho40
    refine ht_seq ?_
    refine ht_seq ?_
    refine ht_seqR hn (El := [_, _, _, (7, .v (.int .i64 s27)), (8, .fl .shr 1 (List.map (Value.int .u8) b)), (9, .v (.int .i64 (b.length : Int))), (10, .v (.bool ((decide (s27 < (b.length : Int))))))]) (init := [0, 1, 2]) (fin := [0, 1, 2, 6]) (sps := [⟨[2], [], [3], [(.slot 7)]⟩, ⟨[0], [], [4], [(.slot 8)]⟩, ⟨[4], [], [5], [(.slot 9)]⟩, ⟨[3, 5], [], [6], [(.slot 10)]⟩]) (es' := [(_, _), (_, _), (_, _), (10, .v (.bool ((decide (s27 < (b.length : Int))))))]) (by kernel_rfl) rfl rfl
      ⟨st_plain rfl (op_move _ _ _ _ rfl rfl),
        st_plain rfl (op_move _ _ _ _ rfl rfl),
        st_plain rfl (op_len_fl _ _ _ Try.underlying44 rfl (by decide) (map_len _)),
        st_plain rfl (op_bin _ _ _ _ _ rfl rfl rfl),
        trivial⟩ ?_
    refine pt_then ?_
    refine ht_cond _ rfl (fun hb43 => ?_) (fun hb43 => ?_)
    · have h := cond_t hb43 h
      refine ht_skip ?_
      refine pt_then ?_
      refine ht_joinS h (fun ((s45, s46) : (List T_Tok) × Int) => [(0, .fl .shr 1 (List.map (Value.int .u8) b)), (3, .fl (.own 48) 3 (List.flatten (List.map T_Tok.enc s45))), (4, .v (.int .i64 s46))]) ?_ ?_
      · rintro ⟨s45, s46⟩ h
        exact pt_next _ (Option.some.inj h).symm rfl
      · intro u47 h hl48 hr49
        refine ht_block ?_
        refine ht_seq ?_
        obtain ⟨v2, hv2, h⟩ := bind_some h
        refine ht_seqR hn (El := [_, _, _, _, (12, .fl .shr 1 (List.map (Value.int .u8) b)), (13, .v (.int .i64 s27)), (14, .tup [.v (.int .i64 v2.1), .v (.int .i64 v2.2)]), (11, .tup [.v (.int .i64 v2.1), .v (.int .i64 v2.2)]), (15, .v (.int .i64 v2.1)), (16, .v (.int .i64 v2.2)), (5, .v (.int .i64 v2.1)), (6, .v (.int .i64 v2.2))]) (init := [0, 1, 2, 3]) (fin := [0, 1, 2, 10, 11]) (sps := [⟨[0], [], [4], [(.slot 12)]⟩, ⟨[2], [], [5], [(.slot 13)]⟩, ⟨[4, 5], [], [6], [(.slot 14)]⟩, ⟨[], [6], [7], [(.slot 11)]⟩, ⟨[7], [], [8], [(.slot 15)]⟩, ⟨[7], [], [9], [(.slot 16)]⟩, ⟨[8], [], [10], [(.slot 5)]⟩, ⟨[9], [], [11], [(.slot 6)]⟩]) (es' := [(_, _), (_, _), (_, _), (5, .v (.int .i64 v2.1)), (6, .v (.int .i64 v2.2))]) (by kernel_rfl) rfl rfl
          ⟨st_plain rfl (op_move _ _ _ _ rfl rfl),
            st_plain rfl (op_move _ _ _ _ rfl rfl),
            st_plain rfl (op_call _ _ 45 _ _ rfl Try.call45 rfl (ok_wherryref01_Best b s27 _ hv2) rfl rfl),
            st_plain rfl (op_move_take _ _ _ _ rfl),
            st_plain rfl (op_extract _ _ _ _ _ rfl rfl (Nat.le_of_ble_eq_true rfl) rfl rfl),
            st_plain rfl (op_extract _ _ _ _ _ rfl rfl (Nat.le_of_ble_eq_true rfl) rfl rfl),
            st_plain rfl (op_assign _ _ _ _ rfl rfl),
            st_plain rfl (op_assign _ _ _ _ rfl rfl),
            trivial⟩ ?_
        refine pt_then ?_
        refine ht_seq ?_
        refine ht_seqR hn (El := [_, _, _, _, _, (17, .v (.int .i64 v2.1)), (18, .v (.bool (v2.1 == 0)))]) (init := [0, 1, 2, 3, 4]) (fin := [0, 1, 2, 3, 4, 6]) (sps := [⟨[3], [], [5], [(.slot 17)]⟩, ⟨[5], [], [6], [(.slot 18)]⟩]) (es' := [(_, _), (_, _), (_, _), (_, _), (_, _), (18, .v (.bool (v2.1 == 0)))]) (by kernel_rfl) rfl rfl
          ⟨st_plain rfl (op_move _ _ _ _ rfl rfl),
            st_plain rfl (op_bin _ _ _ _ _ rfl rfl rfl),
            trivial⟩ ?_
        refine pt_then ?_
        refine ht_cond _ rfl (fun hb50 => ?_) (fun hb50 => ?_)
        · have h := cond_t hb50 h
          refine ht_seq ?_
          obtain ⟨v4, hv4, h⟩ := bind_some h
          obtain ⟨v5, hv5, h⟩ := bind_some h
          obtain ⟨v6, hv6, h⟩ := bind_some h
          refine ht_seqR hn (El := (_ :: _ :: _ :: _ :: _ :: _ :: (19, .fl (.own 48) 3 (List.flatten (List.map T_Tok.enc s26))) :: (20, .fl .shr 1 (List.map (Value.int .u8) b)) :: (21, .v (.int .i64 s27)) :: (22, .eref (.slot 20) (v4 * 1)) :: (23, .v (.int .u8 v5)) :: (24, .agg [.v (.int .u8 v5), .v (.int .i64 0), .v (.int .i64 0)]) :: (25, .fl (.own 48) 3 (List.flatten (List.map T_Tok.enc [(T_Tok.mk v5 0 0)]))) :: (26, .fl (.own 48) 3 (List.flatten (List.map T_Tok.enc v6))) :: (19, .any) :: (3, .fl (.own 48) 3 (List.flatten (List.map T_Tok.enc v6))) :: [])) (init := [0, 1, 2, 3, 4, 5]) (fin := [0, 2, 15]) (sps := [⟨[], [1], [6], [(.slot 19)]⟩, ⟨[0], [], [7], [(.slot 20)]⟩, ⟨[2], [], [8], [(.slot 21)]⟩, ⟨[7, 8], [], [9], [(.slot 22)]⟩, ⟨[9, 7], [], [10], [(.slot 23)]⟩, ⟨[10], [], [11], [(.slot 24)]⟩, ⟨[11], [], [12], [(.slot 25)]⟩, ⟨[12], [6], [14, 13], [(.slot 26)]⟩, ⟨[], [13], [15], [(.slot 3)]⟩]) (es' := [(_, _), (_, _), (3, .fl (.own 48) 3 (List.flatten (List.map T_Tok.enc v6)))]) (by kernel_rfl) rfl rfl
            ⟨st_plain rfl (op_move_take _ _ _ _ rfl),
              st_plain rfl (op_move _ _ _ _ rfl rfl),
              st_plain rfl (op_move _ _ _ _ rfl rfl),
              st_plain rfl (op_ix _ _ _ _ _ _ _ _ Try.underlying44 sz5 (by decide) rfl rfl rfl (ix_ok hv4).1 (map_lt (ix_ok hv4).2) rfl),
              st_plain rfl (op_load_e _ _ _ _ _ _ Try.underlying5 rfl rfl rfl (map_get hv5)),
              st_plain rfl (op_build _ _ _ _ [1, 1, 1] _ _ Try.underlying48 zr48 (fs48 _ Try.underlying48) (.copy _ Src.nil) rfl rfl rfl),
              st_plain rfl (op_buildSlice _ _ 3 (.agg #[.int .u8 0, .int .i64 0, .int .i64 0]) (List.flatten (List.map T_Tok.enc [(T_Tok.mk v5 0 0)])) [(0, .agg #[.int .u8 v5, .int .i64 0, .int .i64 0])] Try.underlying22 sz48 zr48 (fun _ V w o a hv hes => by have e0 := agg_v (ys := [.int .u8 v5, .int .i64 0, .int .i64 0]) hv hes (x := .tmp 24) rfl; simp only [List.map_toArray, List.map_cons, List.map_nil, e0]; try rfl) (litfill (by simp [Instr.fill, Value.cells]; rfl) (by simp [List.range, List.range.loop, T_Tok.enc])) (by simp [Value.oneCell', T_Tok.enc]) rfl (by decide) (by decide) (by decide)),
              st_plain rfl (op_app _ _ _ _ _ el22 rfl rfl (flat_len T_Tok.len _) (flat_len T_Tok.len _) hv6 (flat_app (app_eq hv6))),
              st_plain rfl (op_assign_take _ _ _ _ rfl),
              trivial⟩ ?_
          refine pt_then ?_
          obtain ⟨v7, hv7, h⟩ := bind_some h
          refine ht_seqR hn (El := [_, _, _, (27, .v (.int .i64 s27)), (28, .v (.int .i64 v7)), (4, .v (.int .i64 v7))]) (init := [0, 1, 2]) (fin := [0, 2, 5]) (sps := [⟨[1], [], [3], [(.slot 27)]⟩, ⟨[3], [], [4], [(.slot 28)]⟩, ⟨[4], [1], [5], [(.slot 4)]⟩]) (es' := [(_, _), (_, _), (4, .v (.int .i64 v7))]) (by kernel_rfl) rfl rfl
            ⟨st_plain rfl (op_move _ _ _ _ rfl rfl),
              st_plain rfl (op_bin _ _ _ _ _ rfl rfl (ibind (f := Value.int .i64) (Option.some.inj hv7))),
              st_plain rfl (LOp.drop [_] (op_assign _ _ _ _ rfl rfl)),
              trivial⟩ ?_
          refine pt_inb ?_
          exact hl48 _ (Option.some.inj h).symm
        · have h := cond_f hb50 h
          refine ht_seq ?_
          obtain ⟨v8, hv8, h⟩ := bind_some h
          refine ht_seqR hn (El := [_, _, _, _, _, _, (29, .fl (.own 48) 3 (List.flatten (List.map T_Tok.enc s26))), (30, .v (.int .i64 v2.1)), (31, .v (.int .i64 v2.2)), (32, .agg [.v (.int .u8 0), .v (.int .i64 v2.1), .v (.int .i64 v2.2)]), (33, .fl (.own 48) 3 (List.flatten (List.map T_Tok.enc [(T_Tok.mk 0 v2.1 v2.2)]))), (34, .fl (.own 48) 3 (List.flatten (List.map T_Tok.enc v8))), (29, .any), (3, .fl (.own 48) 3 (List.flatten (List.map T_Tok.enc v8)))]) (init := [0, 1, 2, 3, 4, 5]) (fin := [0, 2, 3, 13]) (sps := [⟨[], [1], [6], [(.slot 29)]⟩, ⟨[3], [], [7], [(.slot 30)]⟩, ⟨[4], [], [8], [(.slot 31)]⟩, ⟨[7, 8], [], [9], [(.slot 32)]⟩, ⟨[9], [], [10], [(.slot 33)]⟩, ⟨[10], [6], [12, 11], [(.slot 34)]⟩, ⟨[], [11], [13], [(.slot 3)]⟩]) (es' := [(_, _), (_, _), (_, _), (3, .fl (.own 48) 3 (List.flatten (List.map T_Tok.enc v8)))]) (by kernel_rfl) rfl rfl
            ⟨st_plain rfl (op_move_take _ _ _ _ rfl),
              st_plain rfl (op_move _ _ _ _ rfl rfl),
              st_plain rfl (op_move _ _ _ _ rfl rfl),
              st_plain rfl (op_build _ _ _ _ [1, 1, 1] _ _ Try.underlying48 zr48 (fs48 _ Try.underlying48) (.copy _ (.copy _ Src.nil)) rfl rfl rfl),
              st_plain rfl (op_buildSlice _ _ 3 (.agg #[.int .u8 0, .int .i64 0, .int .i64 0]) (List.flatten (List.map T_Tok.enc [(T_Tok.mk 0 v2.1 v2.2)])) [(0, .agg #[.int .u8 0, .int .i64 v2.1, .int .i64 v2.2])] Try.underlying22 sz48 zr48 (fun _ V w o a hv hes => by have e0 := agg_v (ys := [.int .u8 0, .int .i64 v2.1, .int .i64 v2.2]) hv hes (x := .tmp 32) rfl; simp only [List.map_toArray, List.map_cons, List.map_nil, e0]; try rfl) (litfill (by simp [Instr.fill, Value.cells]; rfl) (by simp [List.range, List.range.loop, T_Tok.enc])) (by simp [Value.oneCell', T_Tok.enc]) rfl (by decide) (by decide) (by decide)),
              st_plain rfl (op_app _ _ _ _ _ el22 rfl rfl (flat_len T_Tok.len _) (flat_len T_Tok.len _) hv8 (flat_app (app_eq hv8))),
              st_plain rfl (op_assign_take _ _ _ _ rfl),
              trivial⟩ ?_
          refine pt_then ?_
          obtain ⟨v9, hv9, h⟩ := bind_some h
          refine ht_seqR hn (El := [_, _, _, _, (35, .v (.int .i64 s27)), (36, .v (.int .i64 v2.1)), (37, .v (.int .i64 v9)), (4, .v (.int .i64 v9))]) (init := [0, 1, 2, 3]) (fin := [0, 3, 7]) (sps := [⟨[1], [], [4], [(.slot 35)]⟩, ⟨[2], [], [5], [(.slot 36)]⟩, ⟨[4, 5], [], [6], [(.slot 37)]⟩, ⟨[6], [1], [7], [(.slot 4)]⟩]) (es' := [(_, _), (_, _), (4, .v (.int .i64 v9))]) (by kernel_rfl) rfl rfl
            ⟨st_plain rfl (op_move _ _ _ _ rfl rfl),
              st_plain rfl (op_move _ _ _ _ rfl rfl),
              st_plain rfl (op_bin _ _ _ _ _ rfl rfl (ibind (f := Value.int .i64) (Option.some.inj hv9))),
              st_plain rfl (LOp.drop [_] (op_assign _ _ _ _ rfl rfl)),
              trivial⟩ ?_
          refine pt_inb ?_
          exact hl48 _ (Option.some.inj h).symm
    · have h := cond_f hb43 h
      refine ht_exit ?_
      refine pt_x_then ?_
      refine pt_x_then ?_
      refine pt_x_in ?_
      refine pt_pick [1] (by kernel_rfl) (es' := [(_, _)]) rfl ?_
      exact hl38 _ (ho40 _ (Option.some.inj h).symm).symm

set_option maxHeartbeats 1000000 in
theorem ok_wherryref01_Tokens (b : (List Int)) (r : ((List T_Tok) × Int)) (h : Sh.wherryref01_Tokens b = some r) : FnOK Try.prog 27 [.fl .shr 1 (List.map (Value.int .u8) b)] (.tup [.fl (.own 48) 3 (List.flatten (List.map T_Tok.enc r.1)), .v (.int .i64 r.2)]) := by
  unfold Sh.wherryref01_Tokens at h
  refine fn_ok Try.func27 rfl (Nat.le_of_ble_eq_true rfl) rfl rfl fun g0 hn hio => ?_
  refine ht_seq ?_
  refine ht_seqR hn (El := [_, (2, .v (.slice none 0 0)), (3, .v (.int .i64 0))]) (init := [0]) (fin := [0]) (sps := [⟨[], [], [1], [(.slot 2)]⟩, ⟨[], [], [2], [(.slot 3)]⟩]) (es' := [(_, _)]) (by kernel_rfl) rfl rfl
    ⟨st_plain rfl (op_assign _ _ _ _ rfl rfl),
      st_plain rfl (op_assign _ _ _ _ rfl rfl),
      trivial⟩ ?_
  refine pt_then ?_
  refine ht_seq ?_
  refine ht_seq ?_
  refine ht_seqR hn (El := [_, (4, .fl .shr 1 (List.map (Value.int .u8) b)), (5, .v (.int .i64 (b.length : Int))), (6, .v (.bool ((decide (4096 < (b.length : Int))))))]) (init := [0]) (fin := [0, 3]) (sps := [⟨[0], [], [1], [(.slot 4)]⟩, ⟨[1], [], [2], [(.slot 5)]⟩, ⟨[2], [], [3], [(.slot 6)]⟩]) (es' := [(_, _), (6, .v (.bool ((decide (4096 < (b.length : Int))))))]) (by kernel_rfl) rfl rfl
    ⟨st_plain rfl (op_move _ _ _ _ rfl rfl),
      st_plain rfl (op_len_fl _ _ _ Try.underlying44 rfl (by decide) (map_len _)),
      st_plain rfl (op_bin _ _ _ _ _ rfl rfl rfl),
      trivial⟩ ?_
  refine pt_then ?_
  refine ht_cond _ rfl (fun hb1 => ?_) (fun hb1 => ?_)
  · have h := cond_t hb1 h
    refine ht_seq ?_
    refine ht_seqR hn (El := [_, _, (2, .v (.slice none 0 0)), (3, .v (.int .i64 2))]) (init := [0, 1]) (fin := [2, 3]) (sps := [⟨[], [], [2], [(.slot 2)]⟩, ⟨[], [], [3], [(.slot 3)]⟩]) (es' := [(2, .v (.slice none 0 0)), (3, .v (.int .i64 2))]) (by kernel_rfl) rfl rfl
      ⟨st_plain rfl (op_assign _ _ _ _ rfl rfl),
        st_plain rfl (op_assign _ _ _ _ rfl rfl),
        trivial⟩ ?_
    refine pt_then ?_
    refine ht_ret ?_
    refine pt_sub (fs := [(2, .fl (.own 48) 3 (List.flatten (List.map T_Tok.enc []))), (3, .v (.int .i64 2))]) (.sub _ (sub_nil 48 3) rfl (.same _ .nil)) ?_
    refine pt_r_then ?_
    obtain rfl := Option.some.inj h
    exact pt_ret hio rfl (.tmp _ _ (.tmp _ _ .nil)) rfl rfl
  · have h := cond_f hb1 h
    refine ht_skip ?_
    refine pt_then ?_
    refine ht_seq ?_
    obtain ⟨v2, hv2, h⟩ := bind_some h
    refine ht_seqR hn (El := [_, _, (7, .fl .shr 1 (List.map (Value.int .u8) b)), (8, .fl (.own 48) 3 (List.flatten (List.map T_Tok.enc v2))), (2, .fl (.own 48) 3 (List.flatten (List.map T_Tok.enc v2))), (3, .v (.int .i64 0))]) (init := [0, 1]) (fin := [4, 5]) (sps := [⟨[0], [], [2], [(.slot 7)]⟩, ⟨[2], [], [3], [(.slot 8)]⟩, ⟨[], [3], [4], [(.slot 2)]⟩, ⟨[], [], [5], [(.slot 3)]⟩]) (es' := [(2, .fl (.own 48) 3 (List.flatten (List.map T_Tok.enc v2))), (3, .v (.int .i64 0))]) (by kernel_rfl) rfl rfl
      ⟨st_plain rfl (op_move _ _ _ _ rfl rfl),
        st_plain rfl (op_call _ _ 42 _ _ rfl Try.call42 rfl (ok_wherryref01_tokens b _ hv2) rfl rfl),
        st_plain rfl (op_assign_take _ _ _ _ rfl),
        st_plain rfl (op_assign _ _ _ _ rfl rfl),
        trivial⟩ ?_
    refine pt_then ?_
    refine ht_ret ?_
    obtain rfl := Option.some.inj h
    exact pt_ret hio rfl (.tmp _ _ (.tmp _ _ .nil)) rfl rfl

set_option maxHeartbeats 1000000 in
theorem ok_wherrylaw05_SymWeights (b : (List Int)) (r : Bool) (h : Sh.wherrylaw05_SymWeights b = some r) : FnOK Try.prog 7 [.fl .shr 1 (List.map (Value.int .u8) b)] (.v (.bool r)) := by
  unfold Sh.wherrylaw05_SymWeights at h
  refine fn_ok Try.func7 rfl (Nat.le_of_ble_eq_true rfl) rfl rfl fun g0 hn hio => ?_
  refine ht_seq ?_
  refine ht_seqR hn (El := [_, (2, .v (.bool false))]) (init := [0]) (fin := [0]) (sps := [⟨[], [], [1], [(.slot 2)]⟩]) (es' := [(_, _)]) (by kernel_rfl) rfl rfl
    ⟨st_plain rfl (op_assign _ _ _ _ rfl rfl),
      trivial⟩ ?_
  refine pt_then ?_
  refine ht_seq ?_
  refine ht_seq ?_
  refine ht_seqR hn (El := [_, (14, .fl .shr 1 (List.map (Value.int .u8) b)), (15, .v (.int .i64 (b.length : Int))), (16, .v (.bool ((decide (1200 < (b.length : Int))))))]) (init := [0]) (fin := [0, 3]) (sps := [⟨[0], [], [1], [(.slot 14)]⟩, ⟨[1], [], [2], [(.slot 15)]⟩, ⟨[2], [], [3], [(.slot 16)]⟩]) (es' := [(_, _), (16, .v (.bool ((decide (1200 < (b.length : Int))))))]) (by kernel_rfl) rfl rfl
    ⟨st_plain rfl (op_move _ _ _ _ rfl rfl),
      st_plain rfl (op_len_fl _ _ _ Try.underlying44 rfl (by decide) (map_len _)),
      st_plain rfl (op_bin _ _ _ _ _ rfl rfl rfl),
      trivial⟩ ?_
  refine pt_then ?_
  refine ht_cond _ rfl (fun hb1 => ?_) (fun hb1 => ?_)
  · have h := cond_t hb1 h
    refine ht_seq ?_
    refine ht_seqR hn (El := [_, _, (2, .v (.bool true))]) (init := [0, 1]) (fin := [2]) (sps := [⟨[], [], [2], [(.slot 2)]⟩]) (es' := [(2, .v (.bool true))]) (by kernel_rfl) rfl rfl
      ⟨st_plain rfl (op_assign _ _ _ _ rfl rfl),
        trivial⟩ ?_
    refine pt_then ?_
    refine ht_ret ?_
    refine pt_r_then ?_
    obtain rfl := Option.some.inj h
    exact pt_ret hio rfl (.tmp _ _ .nil) rfl rfl
  · have h := cond_f hb1 h
    refine ht_skip ?_
    refine pt_then ?_
    refine ht_seq ?_
    obtain ⟨v2, hv2, h⟩ := bind_some h
    refine ht_seqR hn (El := [_, _, (18, .fl .shr 1 (List.map (Value.int .u8) b)), (19, .tup [.fl (.own 48) 3 (List.flatten (List.map T_Tok.enc v2.1)), .v (.int .i64 v2.2)]), (17, .tup [.fl (.own 48) 3 (List.flatten (List.map T_Tok.enc v2.1)), .v (.int .i64 v2.2)]), (20, .fl (.own 48) 3 (List.flatten (List.map T_Tok.enc v2.1))), (17, .tup [.any, .v (.int .i64 v2.2)]), (21, .v (.int .i64 v2.2)), (3, .fl (.own 48) 3 (List.flatten (List.map T_Tok.enc v2.1))), (4, .v (.int .i64 v2.2))]) (init := [0, 1]) (fin := [8]) (sps := [⟨[0], [], [2], [(.slot 18)]⟩, ⟨[2], [], [3], [(.slot 19)]⟩, ⟨[], [3], [4], [(.slot 17)]⟩, ⟨[], [4], [6, 5], [(.slot 20)]⟩, ⟨[6], [], [7], [(.slot 21)]⟩, ⟨[], [5], [8], [(.slot 3)]⟩, ⟨[7], [], [9], [(.slot 4)]⟩]) (es' := [(3, .fl (.own 48) 3 (List.flatten (List.map T_Tok.enc v2.1)))]) (by kernel_rfl) rfl rfl
      ⟨st_plain rfl (op_move _ _ _ _ rfl rfl),
        st_plain rfl (op_call _ _ 27 _ _ rfl Try.call27 rfl (ok_wherryref01_Tokens b _ hv2) rfl rfl),
        st_plain rfl (op_move_take _ _ _ _ rfl),
        st_plain rfl (op_extract_take _ _ _ _ _ rfl (Nat.le_of_ble_eq_true rfl) rfl rfl (by decide) rfl),
        st_plain rfl (op_extract _ _ _ _ _ rfl rfl (Nat.le_of_ble_eq_true rfl) rfl rfl),
        st_plain rfl (op_assign_take _ _ _ _ rfl),
        st_plain rfl (op_assign _ _ _ _ rfl rfl),
        trivial⟩ ?_
    refine pt_then ?_
    refine ht_seq ?_
    obtain ⟨v3, hv3, h⟩ := bind_some h
    refine ht_seqR hn (El := [_, (23, .same (.slot 3)), (24, .tup [.fl (.own 3) 1 (List.map (Value.int .i64) v3.1), .fl (.own 3) 1 (List.map (Value.int .i64) v3.2.1), .v (.int .i64 v3.2.2)]), (22, .tup [.fl (.own 3) 1 (List.map (Value.int .i64) v3.1), .fl (.own 3) 1 (List.map (Value.int .i64) v3.2.1), .v (.int .i64 v3.2.2)]), (25, .fl (.own 3) 1 (List.map (Value.int .i64) v3.1)), (22, .tup [.any, .fl (.own 3) 1 (List.map (Value.int .i64) v3.2.1), .v (.int .i64 v3.2.2)]), (26, .fl (.own 3) 1 (List.map (Value.int .i64) v3.2.1)), (22, .tup [.any, .any, .v (.int .i64 v3.2.2)]), (27, .v (.int .i64 v3.2.2)), (5, .fl (.own 3) 1 (List.map (Value.int .i64) v3.1)), (6, .fl (.own 3) 1 (List.map (Value.int .i64) v3.2.1)), (7, .v (.int .i64 v3.2.2))]) (init := [0]) (fin := [0, 9, 10, 11]) (sps := [⟨[0], [], [1], [(.slot 23)]⟩, ⟨[1, 0], [], [2], [(.slot 24)]⟩, ⟨[], [2], [3], [(.slot 22)]⟩, ⟨[], [3], [5, 4], [(.slot 25)]⟩, ⟨[], [5], [7, 6], [(.slot 26)]⟩, ⟨[7], [], [8], [(.slot 27)]⟩, ⟨[], [4], [9], [(.slot 5)]⟩, ⟨[], [6], [10], [(.slot 6)]⟩, ⟨[8], [], [11], [(.slot 7)]⟩]) (es' := [(_, _), (5, .fl (.own 3) 1 (List.map (Value.int .i64) v3.1)), (6, .fl (.own 3) 1 (List.map (Value.int .i64) v3.2.1)), (7, .v (.int .i64 v3.2.2))]) (by kernel_rfl) rfl rfl
      ⟨st_plain rfl (op_move _ _ _ _ rfl rfl),
        st_plain rfl (op_call _ _ 20 _ _ rfl Try.call20 rfl (ok_sym_Weights v2.1 _ hv3) rfl rfl),
        st_plain rfl (op_move_take _ _ _ _ rfl),
        st_plain rfl (op_extract_take _ _ _ _ _ rfl (Nat.le_of_ble_eq_true rfl) rfl rfl (by decide) rfl),
        st_plain rfl (op_extract_take _ _ _ _ _ rfl (Nat.le_of_ble_eq_true rfl) rfl rfl (by decide) rfl),
        st_plain rfl (op_extract _ _ _ _ _ rfl rfl (Nat.le_of_ble_eq_true rfl) rfl rfl),
        st_plain rfl (op_assign_take _ _ _ _ rfl),
        st_plain rfl (op_assign_take _ _ _ _ rfl),
        st_plain rfl (op_assign _ _ _ _ rfl rfl),
        trivial⟩ ?_
    refine pt_then ?_
    refine ht_seq ?_
    refine ht_seq ?_
    refine ht_joinS h (fun (s4 : Bool) => [(3, .fl (.own 48) 3 (List.flatten (List.map T_Tok.enc v2.1))), (5, .fl (.own 3) 1 (List.map (Value.int .i64) v3.1)), (6, .fl (.own 3) 1 (List.map (Value.int .i64) v3.2.1)), (39, .v (.bool s4))]) ?_ ?_
    · rintro s4 h
      refine pt_then ?_
      refine ht_cond _ rfl (fun hb8 => ?_) (fun hb8 => ?_)
      · have h := cond_t hb8 h
        refine ht_seq ?_
        refine ht_seqR hn (El := [_, _, _, _, (2, .v (.bool false))]) (init := [0, 1, 2, 3]) (fin := [4]) (sps := [⟨[], [], [4], [(.slot 2)]⟩]) (es' := [(2, .v (.bool false))]) (by kernel_rfl) rfl rfl
          ⟨st_plain rfl (op_assign _ _ _ _ rfl rfl),
            trivial⟩ ?_
        refine pt_then ?_
        refine ht_ret ?_
        refine pt_r_then ?_
        obtain rfl := Option.some.inj h
        exact pt_ret hio rfl (.tmp _ _ .nil) rfl rfl
      · have h := cond_f hb8 h
        refine ht_skip ?_
        refine pt_then ?_
        refine ht_seq ?_
        refine ht_seqR hn (El := [_, _, _, _, (8, .v (.int .i64 0)), (9, .v (.int .i64 0)), (10, .v (.int .i64 0))]) (init := [0, 1, 2, 3]) (fin := [0, 1, 2, 4, 5, 6]) (sps := [⟨[], [], [4], [(.slot 8)]⟩, ⟨[], [], [5], [(.slot 9)]⟩, ⟨[], [], [6], [(.slot 10)]⟩]) (es' := [(_, _), (_, _), (_, _), (8, .v (.int .i64 0)), (9, .v (.int .i64 0)), (10, .v (.int .i64 0))]) (by kernel_rfl) rfl rfl
          ⟨st_plain rfl (op_assign _ _ _ _ rfl rfl),
            st_plain rfl (op_assign _ _ _ _ rfl rfl),
            st_plain rfl (op_assign _ _ _ _ rfl rfl),
            trivial⟩ ?_
        refine pt_then ?_
        refine ht_seq ?_
        refine ht_seq ?_
        refine ht_seqR hn (El := [_, _, _, _, _, _, (11, .v (.int .i64 0))]) (init := [0, 1, 2, 3, 4, 5]) (fin := [0, 1, 2, 3, 4, 5, 6]) (sps := [⟨[], [], [6], [(.slot 11)]⟩]) (es' := [(_, _), (_, _), (_, _), (_, _), (_, _), (_, _), (11, .v (.int .i64 0))]) (by kernel_rfl) rfl rfl
          ⟨st_plain rfl (op_assign _ _ _ _ rfl rfl),
            trivial⟩ ?_
        refine pt_then ?_
        refine ht_loopS h (fun ((s17, s18) : Int × Int) => [(3, .fl (.own 48) 3 (List.flatten (List.map T_Tok.enc v2.1))), (5, .fl (.own 3) 1 (List.map (Value.int .i64) v3.1)), (6, .fl (.own 3) 1 (List.map (Value.int .i64) v3.2.1)), (8, .v (.int .i64 s17)), (9, .v (.int .i64 0)), (10, .v (.int .i64 0)), (11, .v (.int .i64 s18))]) (fun (s20 : Int) => [(3, .fl (.own 48) 3 (List.flatten (List.map T_Tok.enc v2.1))), (5, .fl (.own 3) 1 (List.map (Value.int .i64) v3.1)), (6, .fl (.own 3) 1 (List.map (Value.int .i64) v3.2.1)), (8, .v (.int .i64 s20)), (9, .v (.int .i64 0)), (10, .v (.int .i64 0))]) ?_ ?_
        · rintro s20 h
          refine pt_then ?_
          refine ht_seq ?_
          refine ht_seq ?_
          refine ht_seqR hn (El := [_, _, _, _, _, _, (12, .v (.int .i64 0))]) (init := [0, 1, 2, 3, 4, 5]) (fin := [0, 1, 2, 3, 4, 5, 6]) (sps := [⟨[], [], [6], [(.slot 12)]⟩]) (es' := [(_, _), (_, _), (_, _), (_, _), (_, _), (_, _), (12, .v (.int .i64 0))]) (by kernel_rfl) rfl rfl
            ⟨st_plain rfl (op_assign _ _ _ _ rfl rfl),
              trivial⟩ ?_
          refine pt_then ?_
          refine ht_loopS h (fun ((s36, s37) : Int × Int) => [(3, .fl (.own 48) 3 (List.flatten (List.map T_Tok.enc v2.1))), (5, .fl (.own 3) 1 (List.map (Value.int .i64) v3.1)), (6, .fl (.own 3) 1 (List.map (Value.int .i64) v3.2.1)), (8, .v (.int .i64 s20)), (9, .v (.int .i64 s36)), (10, .v (.int .i64 0)), (12, .v (.int .i64 s37))]) (fun (s39 : Int) => [(3, .fl (.own 48) 3 (List.flatten (List.map T_Tok.enc v2.1))), (5, .fl (.own 3) 1 (List.map (Value.int .i64) v3.1)), (8, .v (.int .i64 s20)), (9, .v (.int .i64 s39)), (10, .v (.int .i64 0))]) ?_ ?_
          · rintro s39 h
            refine pt_then ?_
            refine ht_seq ?_
            refine ht_seq ?_
            refine ht_seqR hn (El := [_, _, _, _, _, (13, .v (.int .i64 0))]) (init := [0, 1, 2, 3, 4]) (fin := [0, 1, 2, 3, 4, 5]) (sps := [⟨[], [], [5], [(.slot 13)]⟩]) (es' := [(_, _), (_, _), (_, _), (_, _), (_, _), (13, .v (.int .i64 0))]) (by kernel_rfl) rfl rfl
              ⟨st_plain rfl (op_assign _ _ _ _ rfl rfl),
                trivial⟩ ?_
            refine pt_then ?_
            refine ht_loopS h (fun ((s67, s68) : Int × Int) => [(3, .fl (.own 48) 3 (List.flatten (List.map T_Tok.enc v2.1))), (5, .fl (.own 3) 1 (List.map (Value.int .i64) v3.1)), (8, .v (.int .i64 s20)), (9, .v (.int .i64 s39)), (10, .v (.int .i64 s67)), (13, .v (.int .i64 s68))]) (fun (s76 : Int) => [(3, .fl (.own 48) 3 (List.flatten (List.map T_Tok.enc v2.1))), (5, .fl (.own 3) 1 (List.map (Value.int .i64) v3.1)), (8, .v (.int .i64 s20)), (9, .v (.int .i64 s39)), (10, .v (.int .i64 s76))]) ?_ ?_
            · rintro s76 h
              refine pt_then ?_
              refine ht_seq ?_
              refine ht_joinS h (fun (s94 : Bool) => [(2, .v (.bool s94))]) ?_ ?_
              · rintro s94 h
                refine pt_then ?_
                refine ht_ret ?_
                obtain rfl := Option.some.inj h
                exact pt_ret hio rfl (.tmp _ _ .nil) rfl rfl
              · intro u95 h hl96 hr97
                obtain ⟨v90, hv90, h⟩ := bind_some h
                refine cond_some h (fun hg21_5 h => ?_) (fun hg21_5 h => ?_)
                · refine cond_some h (fun hg21_10 h => ?_) (fun hg21_10 h => ?_)
                  · obtain ⟨v91, hv91, h⟩ := bind_some h
                    obtain ⟨v92, hv92, h⟩ := bind_some h
                    refine cond_some h (fun hg21_16 h => ?_) (fun hg21_16 h => ?_)
                    · obtain ⟨v93, hv93, h⟩ := bind_some h
                      refine ht_seqR hn (El := (_ :: _ :: _ :: _ :: _ :: (78, .v (.int .i64 s20)) :: (79, .fl (.own 48) 3 (List.flatten (List.map T_Tok.enc v2.1))) :: (80, .v (.int .i64 (v2.1.length : Int))) :: (81, .v (.int .i64 v90)) :: (82, .v (.bool (s20 == v90))) :: (83, .v (.bool true)) :: (84, .v (.int .i64 s39)) :: (85, .v (.int .i64 s76)) :: (86, .v (.bool (s39 == s76))) :: (87, .v (.bool (s39 == s76))) :: (88, .v (.bool true)) :: (89, .fl (.own 3) 1 (List.map (Value.int .i64) v3.1)) :: (90, .eref (.slot 89) (v91 * 1)) :: (91, .v (.int .i64 v92)) :: (92, .v (.bool (v92 == 1))) :: (93, .v (.bool (v92 == 1))) :: (94, .v (.bool true)) :: (95, .v (.bool v93)) :: (96, .v (.bool v93)) :: (2, .v (.bool v93)) :: [])) (init := [0, 1, 2, 3, 4]) (fin := [24]) (sps := (⟨[2], [], [5], [(.slot 78)]⟩ :: ⟨[], [0], [6], [(.slot 79)]⟩ :: ⟨[6], [], [7], [(.slot 80)]⟩ :: ⟨[7], [], [8], [(.slot 81)]⟩ :: ⟨[5, 8], [], [9], [(.slot 82)]⟩ :: ⟨[9], [], [10], [(.slot 83)]⟩ :: ⟨[10, 3], [], [11], [(.slot 84)]⟩ :: ⟨[10, 4], [], [12], [(.slot 85)]⟩ :: ⟨[10, 11, 12], [], [13], [(.slot 86)]⟩ :: ⟨[10, 13], [], [14], [(.slot 87)]⟩ :: ⟨[14], [], [15], [(.slot 88)]⟩ :: ⟨[15], [1], [16], [(.slot 89)]⟩ :: ⟨[15, 16], [], [17], [(.slot 90)]⟩ :: ⟨[15, 17, 16], [], [18], [(.slot 91)]⟩ :: ⟨[15, 18], [], [19], [(.slot 92)]⟩ :: ⟨[15, 19], [], [20], [(.slot 93)]⟩ :: ⟨[20], [], [21], [(.slot 94)]⟩ :: ⟨[21], [], [22], [(.slot 95)]⟩ :: ⟨[21, 22], [], [23], [(.slot 96)]⟩ :: ⟨[23], [], [24], [(.slot 2)]⟩ :: [])) (es' := [(2, .v (.bool v93))]) (by kernel_rfl) rfl rfl
                        ⟨st_plain rfl (op_move _ _ _ _ rfl rfl),
                          st_plain rfl (op_move_take _ _ _ _ rfl),
                          st_plain rfl (op_len_fl _ _ _ Try.underlying22 rfl (by decide) (flat_len T_Tok.len _)),
                          st_plain rfl (op_bin _ _ _ _ _ rfl rfl (ibind (f := Value.int .i64) (Option.some.inj hv90))),
                          st_plain rfl (op_bin _ _ _ _ _ rfl rfl rfl),
                          st_plain rfl (op_move _ _ _ _ (congrArg (fun b => AV.v (Value.bool b)) hg21_5) rfl),
                          st_run 5 83 true rfl rfl rfl (List.Mem.head _) (op_move _ _ _ _ rfl rfl),
                          st_run 5 83 true rfl rfl rfl (List.Mem.head _) (op_move _ _ _ _ rfl rfl),
                          st_run 5 83 true rfl rfl rfl (List.Mem.head _) (op_bin _ _ _ _ _ rfl rfl rfl),
                          st_plain rfl (op_pick _ _ true _ rfl rfl),
                          st_plain rfl (op_move _ _ _ _ (congrArg (fun b => AV.v (Value.bool b)) hg21_10) rfl),
                          st_run 10 88 true rfl rfl rfl (List.Mem.head _) (op_move_take _ _ _ _ rfl),
                          st_run 10 88 true rfl rfl rfl (List.Mem.head _) (op_ix _ _ _ _ _ _ _ _ Try.underlying28 sz3 (by decide) rfl rfl rfl (ix_ok hv91).1 (map_lt (ix_ok hv91).2) rfl),
                          st_run 10 88 true rfl rfl rfl (List.Mem.head _) (op_load_e _ _ _ _ _ _ Try.underlying3 rfl rfl rfl (map_get hv92)),
                          st_run 10 88 true rfl rfl rfl (List.Mem.head _) (op_bin _ _ _ _ _ rfl rfl rfl),
                          st_plain rfl (op_pick _ _ true _ rfl rfl),
                          st_plain rfl (op_move _ _ _ _ (congrArg (fun b => AV.v (Value.bool b)) hg21_16) rfl),
                          st_run 16 94 true rfl rfl rfl (List.Mem.head _) (op_call _ _ 24 _ _ rfl Try.call24 rfl (ok_wherrylaw05_wakes  _ hv93) rfl rfl),
                          st_plain rfl (op_pick _ _ true _ rfl rfl),
                          st_plain rfl (op_assign _ _ _ _ rfl rfl),
                          trivial⟩ ?_
                      exact hl96 _ (Option.some.inj h).symm
                    · refine ht_seqR hn (El := (_ :: _ :: _ :: _ :: _ :: (78, .v (.int .i64 s20)) :: (79, .fl (.own 48) 3 (List.flatten (List.map T_Tok.enc v2.1))) :: (80, .v (.int .i64 (v2.1.length : Int))) :: (81, .v (.int .i64 v90)) :: (82, .v (.bool (s20 == v90))) :: (83, .v (.bool true)) :: (84, .v (.int .i64 s39)) :: (85, .v (.int .i64 s76)) :: (86, .v (.bool (s39 == s76))) :: (87, .v (.bool (s39 == s76))) :: (88, .v (.bool true)) :: (89, .fl (.own 3) 1 (List.map (Value.int .i64) v3.1)) :: (90, .eref (.slot 89) (v91 * 1)) :: (91, .v (.int .i64 v92)) :: (92, .v (.bool (v92 == 1))) :: (93, .v (.bool (v92 == 1))) :: (94, .v (.bool false)) :: (95, .v undef) :: (96, .v (.bool false)) :: (2, .v (.bool false)) :: [])) (init := [0, 1, 2, 3, 4]) (fin := [24]) (sps := (⟨[2], [], [5], [(.slot 78)]⟩ :: ⟨[], [0], [6], [(.slot 79)]⟩ :: ⟨[6], [], [7], [(.slot 80)]⟩ :: ⟨[7], [], [8], [(.slot 81)]⟩ :: ⟨[5, 8], [], [9], [(.slot 82)]⟩ :: ⟨[9], [], [10], [(.slot 83)]⟩ :: ⟨[10, 3], [], [11], [(.slot 84)]⟩ :: ⟨[10, 4], [], [12], [(.slot 85)]⟩ :: ⟨[10, 11, 12], [], [13], [(.slot 86)]⟩ :: ⟨[10, 13], [], [14], [(.slot 87)]⟩ :: ⟨[14], [], [15], [(.slot 88)]⟩ :: ⟨[15], [1], [16], [(.slot 89)]⟩ :: ⟨[15, 16], [], [17], [(.slot 90)]⟩ :: ⟨[15, 17, 16], [], [18], [(.slot 91)]⟩ :: ⟨[15, 18], [], [19], [(.slot 92)]⟩ :: ⟨[15, 19], [], [20], [(.slot 93)]⟩ :: ⟨[20], [], [21], [(.slot 94)]⟩ :: ⟨[21], [], [22], [(.slot 95)]⟩ :: ⟨[21], [], [23], [(.slot 96)]⟩ :: ⟨[23], [], [24], [(.slot 2)]⟩ :: [])) (es' := [(2, .v (.bool false))]) (by kernel_rfl) rfl rfl
                        ⟨st_plain rfl (op_move _ _ _ _ rfl rfl),
                          st_plain rfl (op_move_take _ _ _ _ rfl),
                          st_plain rfl (op_len_fl _ _ _ Try.underlying22 rfl (by decide) (flat_len T_Tok.len _)),
                          st_plain rfl (op_bin _ _ _ _ _ rfl rfl (ibind (f := Value.int .i64) (Option.some.inj hv90))),
                          st_plain rfl (op_bin _ _ _ _ _ rfl rfl rfl),
                          st_plain rfl (op_move _ _ _ _ (congrArg (fun b => AV.v (Value.bool b)) hg21_5) rfl),
                          st_run 5 83 true rfl rfl rfl (List.Mem.head _) (op_move _ _ _ _ rfl rfl),
                          st_run 5 83 true rfl rfl rfl (List.Mem.head _) (op_move _ _ _ _ rfl rfl),
                          st_run 5 83 true rfl rfl rfl (List.Mem.head _) (op_bin _ _ _ _ _ rfl rfl rfl),
                          st_plain rfl (op_pick _ _ true _ rfl rfl),
                          st_plain rfl (op_move _ _ _ _ (congrArg (fun b => AV.v (Value.bool b)) hg21_10) rfl),
                          st_run 10 88 true rfl rfl rfl (List.Mem.head _) (op_move_take _ _ _ _ rfl),
                          st_run 10 88 true rfl rfl rfl (List.Mem.head _) (op_ix _ _ _ _ _ _ _ _ Try.underlying28 sz3 (by decide) rfl rfl rfl (ix_ok hv91).1 (map_lt (ix_ok hv91).2) rfl),
                          st_run 10 88 true rfl rfl rfl (List.Mem.head _) (op_load_e _ _ _ _ _ _ Try.underlying3 rfl rfl rfl (map_get hv92)),
                          st_run 10 88 true rfl rfl rfl (List.Mem.head _) (op_bin _ _ _ _ _ rfl rfl rfl),
                          st_plain rfl (op_pick _ _ true _ rfl rfl),
                          st_plain rfl (op_move _ _ _ _ (congrArg (fun b => AV.v (Value.bool b)) hg21_16) rfl),
                          st_skip 16 94 _ true rfl rfl rfl rfl (List.Mem.head _),
                          st_plain rfl (op_pick _ _ false _ rfl rfl),
                          st_plain rfl (op_assign _ _ _ _ rfl rfl),
                          trivial⟩ ?_
                      exact hl96 _ (Option.some.inj h).symm
                  · refine ht_seqR hn (El := (_ :: _ :: _ :: _ :: _ :: (78, .v (.int .i64 s20)) :: (79, .fl (.own 48) 3 (List.flatten (List.map T_Tok.enc v2.1))) :: (80, .v (.int .i64 (v2.1.length : Int))) :: (81, .v (.int .i64 v90)) :: (82, .v (.bool (s20 == v90))) :: (83, .v (.bool true)) :: (84, .v (.int .i64 s39)) :: (85, .v (.int .i64 s76)) :: (86, .v (.bool (s39 == s76))) :: (87, .v (.bool (s39 == s76))) :: (88, .v (.bool false)) :: (89, .v undef) :: (90, .v undef) :: (91, .v undef) :: (92, .v undef) :: (93, .v (.bool false)) :: (94, .v (.bool false)) :: (95, .v undef) :: (96, .v (.bool false)) :: (2, .v (.bool false)) :: [])) (init := [0, 1, 2, 3, 4]) (fin := [24]) (sps := (⟨[2], [], [5], [(.slot 78)]⟩ :: ⟨[], [0], [6], [(.slot 79)]⟩ :: ⟨[6], [], [7], [(.slot 80)]⟩ :: ⟨[7], [], [8], [(.slot 81)]⟩ :: ⟨[5, 8], [], [9], [(.slot 82)]⟩ :: ⟨[9], [], [10], [(.slot 83)]⟩ :: ⟨[10, 3], [], [11], [(.slot 84)]⟩ :: ⟨[10, 4], [], [12], [(.slot 85)]⟩ :: ⟨[10, 11, 12], [], [13], [(.slot 86)]⟩ :: ⟨[10, 13], [], [14], [(.slot 87)]⟩ :: ⟨[14], [], [15], [(.slot 88)]⟩ :: ⟨[15], [], [16], [(.slot 89)]⟩ :: ⟨[15], [], [17], [(.slot 90)]⟩ :: ⟨[15], [], [18], [(.slot 91)]⟩ :: ⟨[15], [], [19], [(.slot 92)]⟩ :: ⟨[15], [], [20], [(.slot 93)]⟩ :: ⟨[20], [], [21], [(.slot 94)]⟩ :: ⟨[21], [], [22], [(.slot 95)]⟩ :: ⟨[21], [], [23], [(.slot 96)]⟩ :: ⟨[23], [], [24], [(.slot 2)]⟩ :: [])) (es' := [(2, .v (.bool false))]) (by kernel_rfl) rfl rfl
                      ⟨st_plain rfl (op_move _ _ _ _ rfl rfl),
                        st_plain rfl (op_move_take _ _ _ _ rfl),
                        st_plain rfl (op_len_fl _ _ _ Try.underlying22 rfl (by decide) (flat_len T_Tok.len _)),
                        st_plain rfl (op_bin _ _ _ _ _ rfl rfl (ibind (f := Value.int .i64) (Option.some.inj hv90))),
                        st_plain rfl (op_bin _ _ _ _ _ rfl rfl rfl),
                        st_plain rfl (op_move _ _ _ _ (congrArg (fun b => AV.v (Value.bool b)) hg21_5) rfl),
                        st_run 5 83 true rfl rfl rfl (List.Mem.head _) (op_move _ _ _ _ rfl rfl),
                        st_run 5 83 true rfl rfl rfl (List.Mem.head _) (op_move _ _ _ _ rfl rfl),
                        st_run 5 83 true rfl rfl rfl (List.Mem.head _) (op_bin _ _ _ _ _ rfl rfl rfl),
                        st_plain rfl (op_pick _ _ true _ rfl rfl),
                        st_plain rfl (op_move _ _ _ _ (congrArg (fun b => AV.v (Value.bool b)) hg21_10) rfl),
                        st_skip 10 88 _ true rfl rfl rfl rfl (List.Mem.head _),
                        st_skip 10 88 _ true rfl rfl rfl rfl (List.Mem.head _),
                        st_skip 10 88 _ true rfl rfl rfl rfl (List.Mem.head _),
                        st_skip 10 88 _ true rfl rfl rfl rfl (List.Mem.head _),
                        st_plain rfl (op_pick _ _ false _ rfl rfl),
                        st_plain rfl (op_move _ _ _ _ rfl rfl),
                        st_skip 16 94 _ true rfl rfl rfl rfl (List.Mem.head _),
                        st_plain rfl (op_pick _ _ false _ rfl rfl),
                        st_plain rfl (op_assign _ _ _ _ rfl rfl),
                        trivial⟩ ?_
                    exact hl96 _ (Option.some.inj h).symm
                · refine ht_seqR hn (El := (_ :: _ :: _ :: _ :: _ :: (78, .v (.int .i64 s20)) :: (79, .fl (.own 48) 3 (List.flatten (List.map T_Tok.enc v2.1))) :: (80, .v (.int .i64 (v2.1.length : Int))) :: (81, .v (.int .i64 v90)) :: (82, .v (.bool (s20 == v90))) :: (83, .v (.bool false)) :: (84, .v undef) :: (85, .v undef) :: (86, .v undef) :: (87, .v (.bool false)) :: (88, .v (.bool false)) :: (89, .v undef) :: (90, .v undef) :: (91, .v undef) :: (92, .v undef) :: (93, .v (.bool false)) :: (94, .v (.bool false)) :: (95, .v undef) :: (96, .v (.bool false)) :: (2, .v (.bool false)) :: [])) (init := [0, 1, 2, 3, 4]) (fin := [24]) (sps := (⟨[2], [], [5], [(.slot 78)]⟩ :: ⟨[], [0], [6], [(.slot 79)]⟩ :: ⟨[6], [], [7], [(.slot 80)]⟩ :: ⟨[7], [], [8], [(.slot 81)]⟩ :: ⟨[5, 8], [], [9], [(.slot 82)]⟩ :: ⟨[9], [], [10], [(.slot 83)]⟩ :: ⟨[10], [], [11], [(.slot 84)]⟩ :: ⟨[10], [], [12], [(.slot 85)]⟩ :: ⟨[10], [], [13], [(.slot 86)]⟩ :: ⟨[10], [], [14], [(.slot 87)]⟩ :: ⟨[14], [], [15], [(.slot 88)]⟩ :: ⟨[15], [], [16], [(.slot 89)]⟩ :: ⟨[15], [], [17], [(.slot 90)]⟩ :: ⟨[15], [], [18], [(.slot 91)]⟩ :: ⟨[15], [], [19], [(.slot 92)]⟩ :: ⟨[15], [], [20], [(.slot 93)]⟩ :: ⟨[20], [], [21], [(.slot 94)]⟩ :: ⟨[21], [], [22], [(.slot 95)]⟩ :: ⟨[21], [], [23], [(.slot 96)]⟩ :: ⟨[23], [], [24], [(.slot 2)]⟩ :: [])) (es' := [(2, .v (.bool false))]) (by kernel_rfl) rfl rfl
                    ⟨st_plain rfl (op_move _ _ _ _ rfl rfl),
                      st_plain rfl (op_move_take _ _ _ _ rfl),
                      st_plain rfl (op_len_fl _ _ _ Try.underlying22 rfl (by decide) (flat_len T_Tok.len _)),
                      st_plain rfl (op_bin _ _ _ _ _ rfl rfl (ibind (f := Value.int .i64) (Option.some.inj hv90))),
                      st_plain rfl (op_bin _ _ _ _ _ rfl rfl rfl),
                      st_plain rfl (op_move _ _ _ _ (congrArg (fun b => AV.v (Value.bool b)) hg21_5) rfl),
                      st_skip 5 83 _ true rfl rfl rfl rfl (List.Mem.head _),
                      st_skip 5 83 _ true rfl rfl rfl rfl (List.Mem.head _),
                      st_skip 5 83 _ true rfl rfl rfl rfl (List.Mem.head _),
                      st_plain rfl (op_pick _ _ false _ rfl rfl),
                      st_plain rfl (op_move _ _ _ _ rfl rfl),
                      st_skip 10 88 _ true rfl rfl rfl rfl (List.Mem.head _),
                      st_skip 10 88 _ true rfl rfl rfl rfl (List.Mem.head _),
                      st_skip 10 88 _ true rfl rfl rfl rfl (List.Mem.head _),
                      st_skip 10 88 _ true rfl rfl rfl rfl (List.Mem.head _),
                      st_plain rfl (op_pick _ _ false _ rfl rfl),
                      st_plain rfl (op_move _ _ _ _ rfl rfl),
                      st_skip 16 94 _ true rfl rfl rfl rfl (List.Mem.head _),
                      st_plain rfl (op_pick _ _ false _ rfl rfl),
                      st_plain rfl (op_assign _ _ _ _ rfl rfl),
                      trivial⟩ ?_
                  exact hl96 _ (Option.some.inj h).symm
            · rintro u77 hl78 hr79 ⟨s67, s68⟩ rr82 h ho80
              refine ht_seq ?_
              refine ht_seq ?_
              refine ht_seqR hn (El := [_, _, _, _, _, _, (64, .v (.int .i64 s68)), (65, .same (.slot 3)), (66, .v (.int .i64 (v2.1.length : Int))), (67, .v (.bool ((decide (s68 < (v2.1.length : Int))))))]) (init := [0, 1, 2, 3, 4, 5]) (fin := [0, 1, 2, 3, 4, 5, 9]) (sps := [⟨[5], [], [6], [(.slot 64)]⟩, ⟨[0], [], [7], [(.slot 65)]⟩, ⟨[7, 0], [], [8], [(.slot 66)]⟩, ⟨[6, 8], [], [9], [(.slot 67)]⟩]) (es' := [(_, _), (_, _), (_, _), (_, _), (_, _), (_, _), (67, .v (.bool ((decide (s68 < (v2.1.length : Int))))))]) (by kernel_rfl) rfl rfl
                ⟨st_plain rfl (op_move _ _ _ _ rfl rfl),
                  st_plain rfl (op_move _ _ _ _ rfl rfl),
                  st_plain rfl (op_len_fl _ _ _ Try.underlying22 rfl (by decide) (flat_len T_Tok.len _)),
                  st_plain rfl (op_bin _ _ _ _ _ rfl rfl rfl),
                  trivial⟩ ?_
              refine pt_then ?_
              refine ht_cond _ rfl (fun hb83 => ?_) (fun hb83 => ?_)
              · have h := cond_t hb83 h
                refine ht_skip ?_
                refine pt_then ?_
                refine ht_seq ?_
                refine ht_joinS h (fun (s85 : Int) => [(3, .fl (.own 48) 3 (List.flatten (List.map T_Tok.enc v2.1))), (5, .fl (.own 3) 1 (List.map (Value.int .i64) v3.1)), (8, .v (.int .i64 s20)), (9, .v (.int .i64 s39)), (13, .v (.int .i64 s68)), (10, .v (.int .i64 s85))]) ?_ ?_
                · rintro s85 h
                  refine pt_then ?_
                  obtain ⟨v57, hv57, h⟩ := bind_some h
                  refine ht_seqR hn (El := [_, _, _, _, _, _, (68, .v (.int .i64 s68)), (69, .v (.int .i64 v57)), (13, .v (.int .i64 v57))]) (init := [0, 1, 2, 3, 4, 5]) (fin := [0, 1, 2, 3, 5, 8]) (sps := [⟨[4], [], [6], [(.slot 68)]⟩, ⟨[6], [], [7], [(.slot 69)]⟩, ⟨[7], [4], [8], [(.slot 13)]⟩]) (es' := [(_, _), (_, _), (_, _), (_, _), (_, _), (13, .v (.int .i64 v57))]) (by kernel_rfl) rfl rfl
                    ⟨st_plain rfl (op_move _ _ _ _ rfl rfl),
                      st_plain rfl (op_bin _ _ _ _ _ rfl rfl (ibind (f := Value.int .i64) (Option.some.inj hv57))),
                      st_plain rfl (LOp.drop [_] (op_assign _ _ _ _ rfl rfl)),
                      trivial⟩ ?_
                  exact pt_next _ (Option.some.inj h).symm rfl
                · intro u86 h hl87 hr88
                  refine ht_block ?_
                  refine ht_seq ?_
                  obtain ⟨v48, hv48, h⟩ := bind_some h
                  obtain ⟨v49, hv49, h⟩ := bind_some h
                  refine ht_seqR hn (El := [_, _, _, _, _, _, _, (70, .same (.slot 3)), (71, .v (.int .i64 s68)), (72, .eref (.slot 3) (v48 * 3)), (73, .eref (.slot 3) (v48 * 3 + 1)), (74, .v (.int .i64 v49.Len)), (75, .v (.bool ((decide (0 < v49.Len)))))]) (init := [0, 1, 2, 3, 4, 5, 6]) (fin := [0, 1, 2, 3, 4, 5, 12]) (sps := [⟨[0], [], [7], [(.slot 70)]⟩, ⟨[5], [], [8], [(.slot 71)]⟩, ⟨[7, 0, 8], [], [9], [(.slot 72)]⟩, ⟨[9, 0], [], [10], [(.slot 73)]⟩, ⟨[10, 0], [], [11], [(.slot 74)]⟩, ⟨[11], [], [12], [(.slot 75)]⟩]) (es' := [(_, _), (_, _), (_, _), (_, _), (_, _), (_, _), (75, .v (.bool ((decide (0 < v49.Len)))))]) (by kernel_rfl) rfl rfl
                    ⟨st_plain rfl (op_move _ _ _ _ rfl rfl),
                      st_plain rfl (op_move _ _ _ _ rfl rfl),
                      st_plain rfl (op_ix _ _ _ _ _ _ _ _ Try.underlying22 sz48 (by decide) rfl rfl rfl (ix_ok hv48).1 (flat_lt T_Tok.len (ix_ok hv48).2) rfl),
                      st_plain rfl (op_fieldAddr_e _ _ _ _ _ _ _ Try.underlying48 rfl sz3 rfl rfl rfl),
                      st_plain rfl (op_load_e _ _ _ _ _ _ Try.underlying3 rfl rfl rfl (flat_cell T_Tok.len hv49 rfl)),
                      st_plain rfl (op_bin _ _ _ _ _ rfl rfl rfl),
                      trivial⟩ ?_
                  refine pt_then ?_
                  refine ht_cond _ rfl (fun hb89 => ?_) (fun hb89 => ?_)
                  · have h := cond_t hb89 h
                    obtain ⟨v51, hv51, h⟩ := bind_some h
                    refine ht_seqR hn (El := [_, _, _, _, _, _, _, (76, .v (.int .i64 s67)), (77, .v (.int .i64 v51)), (10, .v (.int .i64 v51))]) (init := [0, 1, 2, 3, 4, 5, 6]) (fin := [0, 1, 2, 3, 5, 9]) (sps := [⟨[4], [], [7], [(.slot 76)]⟩, ⟨[7], [], [8], [(.slot 77)]⟩, ⟨[8], [4], [9], [(.slot 10)]⟩]) (es' := [(_, _), (_, _), (_, _), (_, _), (_, _), (10, .v (.int .i64 v51))]) (by kernel_rfl) rfl rfl
                      ⟨st_plain rfl (op_move _ _ _ _ rfl rfl),
                        st_plain rfl (op_bin _ _ _ _ _ rfl rfl (ibind (f := Value.int .i64) (Option.some.inj hv51))),
                        st_plain rfl (LOp.drop [_] (op_assign _ _ _ _ rfl rfl)),
                        trivial⟩ ?_
                    refine pt_inb ?_
                    exact hl87 _ (Option.some.inj h).symm
                  · have h := cond_f hb89 h
                    refine ht_skip ?_
                    refine pt_inb ?_
                    refine pt_pick [0, 1, 2, 3, 5, 4] (by kernel_rfl) (es' := [(_, _), (_, _), (_, _), (_, _), (_, _), (_, _)]) rfl ?_
                    exact hl87 _ (Option.some.inj h).symm
              · have h := cond_f hb83 h
                refine ht_exit ?_
                refine pt_x_then ?_
                refine pt_x_then ?_
                refine pt_x_in ?_
                refine pt_pick [0, 1, 2, 3, 4] (by kernel_rfl) (es' := [(_, _), (_, _), (_, _), (_, _), (_, _)]) rfl ?_
                exact hl78 _ (ho80 _ (Option.some.inj h).symm).symm
          · rintro u40 hl41 hr42 ⟨s36, s37⟩ rr45 h ho43
            refine ht_seq ?_
            refine ht_seq ?_
            refine ht_seqR hn (El := [_, _, _, _, _, _, _, (52, .v (.int .i64 s37)), (53, .same (.slot 6)), (54, .v (.int .i64 (v3.2.1.length : Int))), (55, .v (.bool ((decide (s37 < (v3.2.1.length : Int))))))]) (init := [0, 1, 2, 3, 4, 5, 6]) (fin := [0, 1, 2, 3, 4, 5, 6, 10]) (sps := [⟨[6], [], [7], [(.slot 52)]⟩, ⟨[2], [], [8], [(.slot 53)]⟩, ⟨[8, 2], [], [9], [(.slot 54)]⟩, ⟨[7, 9], [], [10], [(.slot 55)]⟩]) (es' := [(_, _), (_, _), (_, _), (_, _), (_, _), (_, _), (_, _), (55, .v (.bool ((decide (s37 < (v3.2.1.length : Int))))))]) (by kernel_rfl) rfl rfl
              ⟨st_plain rfl (op_move _ _ _ _ rfl rfl),
                st_plain rfl (op_move _ _ _ _ rfl rfl),
                st_plain rfl (op_len_fl _ _ _ Try.underlying28 rfl (by decide) (map_len _)),
                st_plain rfl (op_bin _ _ _ _ _ rfl rfl rfl),
                trivial⟩ ?_
            refine pt_then ?_
            refine ht_cond _ rfl (fun hb46 => ?_) (fun hb46 => ?_)
            · have h := cond_t hb46 h
              refine ht_skip ?_
              refine pt_then ?_
              refine ht_seq ?_
              refine ht_block ?_
              obtain ⟨v29, hv29, h⟩ := bind_some h
              obtain ⟨v30, hv30, h⟩ := bind_some h
              obtain ⟨v31, hv31, h⟩ := bind_some h
              refine ht_seqR hn (El := (_ :: _ :: _ :: _ :: _ :: _ :: _ :: _ :: (58, .v (.int .i64 s36)) :: (59, .same (.slot 6)) :: (60, .v (.int .i64 s37)) :: (61, .eref (.slot 6) (v29 * 1)) :: (62, .v (.int .i64 v30)) :: (63, .v (.int .i64 v31)) :: (9, .v (.int .i64 v31)) :: [])) (init := [0, 1, 2, 3, 4, 5, 6, 7]) (fin := [0, 1, 2, 3, 5, 6, 14]) (sps := [⟨[4], [], [8], [(.slot 58)]⟩, ⟨[2], [], [9], [(.slot 59)]⟩, ⟨[6], [], [10], [(.slot 60)]⟩, ⟨[9, 2, 10], [], [11], [(.slot 61)]⟩, ⟨[11, 2], [], [12], [(.slot 62)]⟩, ⟨[8, 12], [], [13], [(.slot 63)]⟩, ⟨[13], [4], [14], [(.slot 9)]⟩]) (es' := [(_, _), (_, _), (_, _), (_, _), (_, _), (_, _), (9, .v (.int .i64 v31))]) (by kernel_rfl) rfl rfl
                ⟨st_plain rfl (op_move _ _ _ _ rfl rfl),
                  st_plain rfl (op_move _ _ _ _ rfl rfl),
                  st_plain rfl (op_move _ _ _ _ rfl rfl),
                  st_plain rfl (op_ix _ _ _ _ _ _ _ _ Try.underlying28 sz3 (by decide) rfl rfl rfl (ix_ok hv29).1 (map_lt (ix_ok hv29).2) rfl),
                  st_plain rfl (op_load_e _ _ _ _ _ _ Try.underlying3 rfl rfl rfl (map_get hv30)),
                  st_plain rfl (op_bin _ _ _ _ _ rfl rfl (ibind (f := Value.int .i64) (Option.some.inj hv31))),
                  st_plain rfl (LOp.drop [_] (op_assign _ _ _ _ rfl rfl)),
                  trivial⟩ ?_
              refine pt_inb ?_
              refine pt_then ?_
              obtain ⟨v32, hv32, h⟩ := bind_some h
              refine ht_seqR hn (El := [_, _, _, _, _, _, _, (56, .v (.int .i64 s37)), (57, .v (.int .i64 v32)), (12, .v (.int .i64 v32))]) (init := [0, 1, 2, 3, 4, 5, 6]) (fin := [0, 1, 2, 3, 4, 6, 9]) (sps := [⟨[5], [], [7], [(.slot 56)]⟩, ⟨[7], [], [8], [(.slot 57)]⟩, ⟨[8], [5], [9], [(.slot 12)]⟩]) (es' := [(_, _), (_, _), (_, _), (_, _), (_, _), (_, _), (12, .v (.int .i64 v32))]) (by kernel_rfl) rfl rfl
                ⟨st_plain rfl (op_move _ _ _ _ rfl rfl),
                  st_plain rfl (op_bin _ _ _ _ _ rfl rfl (ibind (f := Value.int .i64) (Option.some.inj hv32))),
                  st_plain rfl (LOp.drop [_] (op_assign _ _ _ _ rfl rfl)),
                  trivial⟩ ?_
              refine pt_pick [0, 1, 2, 3, 5, 4, 6] (by kernel_rfl) (es' := [(_, _), (_, _), (_, _), (_, _), (_, _), (_, _), (_, _)]) rfl ?_
              exact pt_next _ (Option.some.inj h).symm rfl
            · have h := cond_f hb46 h
              refine ht_exit ?_
              refine pt_x_then ?_
              refine pt_x_then ?_
              refine pt_x_in ?_
              refine pt_pick [0, 1, 3, 4, 5] (by kernel_rfl) (es' := [(_, _), (_, _), (_, _), (_, _), (_, _)]) rfl ?_
              exact hl41 _ (ho43 _ (Option.some.inj h).symm).symm
        · rintro u21 hl22 hr23 ⟨s17, s18⟩ rr26 h ho24
          refine ht_seq ?_
          refine ht_seq ?_
          refine ht_seqR hn (El := [_, _, _, _, _, _, _, (40, .v (.int .i64 s18)), (41, .same (.slot 5)), (42, .v (.int .i64 (v3.1.length : Int))), (43, .v (.bool ((decide (s18 < (v3.1.length : Int))))))]) (init := [0, 1, 2, 3, 4, 5, 6]) (fin := [0, 1, 2, 3, 4, 5, 6, 10]) (sps := [⟨[6], [], [7], [(.slot 40)]⟩, ⟨[1], [], [8], [(.slot 41)]⟩, ⟨[8, 1], [], [9], [(.slot 42)]⟩, ⟨[7, 9], [], [10], [(.slot 43)]⟩]) (es' := [(_, _), (_, _), (_, _), (_, _), (_, _), (_, _), (_, _), (43, .v (.bool ((decide (s18 < (v3.1.length : Int))))))]) (by kernel_rfl) rfl rfl
            ⟨st_plain rfl (op_move _ _ _ _ rfl rfl),
              st_plain rfl (op_move _ _ _ _ rfl rfl),
              st_plain rfl (op_len_fl _ _ _ Try.underlying28 rfl (by decide) (map_len _)),
              st_plain rfl (op_bin _ _ _ _ _ rfl rfl rfl),
              trivial⟩ ?_
          refine pt_then ?_
          refine ht_cond _ rfl (fun hb27 => ?_) (fun hb27 => ?_)
          · have h := cond_t hb27 h
            refine ht_skip ?_
            refine pt_then ?_
            refine ht_seq ?_
            refine ht_block ?_
            obtain ⟨v10, hv10, h⟩ := bind_some h
            obtain ⟨v11, hv11, h⟩ := bind_some h
            obtain ⟨v12, hv12, h⟩ := bind_some h
            refine ht_seqR hn (El := (_ :: _ :: _ :: _ :: _ :: _ :: _ :: _ :: (46, .v (.int .i64 s17)) :: (47, .same (.slot 5)) :: (48, .v (.int .i64 s18)) :: (49, .eref (.slot 5) (v10 * 1)) :: (50, .v (.int .i64 v11)) :: (51, .v (.int .i64 v12)) :: (8, .v (.int .i64 v12)) :: [])) (init := [0, 1, 2, 3, 4, 5, 6, 7]) (fin := [0, 1, 2, 4, 5, 6, 14]) (sps := [⟨[3], [], [8], [(.slot 46)]⟩, ⟨[1], [], [9], [(.slot 47)]⟩, ⟨[6], [], [10], [(.slot 48)]⟩, ⟨[9, 1, 10], [], [11], [(.slot 49)]⟩, ⟨[11, 1], [], [12], [(.slot 50)]⟩, ⟨[8, 12], [], [13], [(.slot 51)]⟩, ⟨[13], [3], [14], [(.slot 8)]⟩]) (es' := [(_, _), (_, _), (_, _), (_, _), (_, _), (_, _), (8, .v (.int .i64 v12))]) (by kernel_rfl) rfl rfl
              ⟨st_plain rfl (op_move _ _ _ _ rfl rfl),
                st_plain rfl (op_move _ _ _ _ rfl rfl),
                st_plain rfl (op_move _ _ _ _ rfl rfl),
                st_plain rfl (op_ix _ _ _ _ _ _ _ _ Try.underlying28 sz3 (by decide) rfl rfl rfl (ix_ok hv10).1 (map_lt (ix_ok hv10).2) rfl),
                st_plain rfl (op_load_e _ _ _ _ _ _ Try.underlying3 rfl rfl rfl (map_get hv11)),
                st_plain rfl (op_bin _ _ _ _ _ rfl rfl (ibind (f := Value.int .i64) (Option.some.inj hv12))),
                st_plain rfl (LOp.drop [_] (op_assign _ _ _ _ rfl rfl)),
                trivial⟩ ?_
            refine pt_inb ?_
            refine pt_then ?_
            obtain ⟨v13, hv13, h⟩ := bind_some h
            refine ht_seqR hn (El := [_, _, _, _, _, _, _, (44, .v (.int .i64 s18)), (45, .v (.int .i64 v13)), (11, .v (.int .i64 v13))]) (init := [0, 1, 2, 3, 4, 5, 6]) (fin := [0, 1, 2, 3, 4, 6, 9]) (sps := [⟨[5], [], [7], [(.slot 44)]⟩, ⟨[7], [], [8], [(.slot 45)]⟩, ⟨[8], [5], [9], [(.slot 11)]⟩]) (es' := [(_, _), (_, _), (_, _), (_, _), (_, _), (_, _), (11, .v (.int .i64 v13))]) (by kernel_rfl) rfl rfl
              ⟨st_plain rfl (op_move _ _ _ _ rfl rfl),
                st_plain rfl (op_bin _ _ _ _ _ rfl rfl (ibind (f := Value.int .i64) (Option.some.inj hv13))),
                st_plain rfl (LOp.drop [_] (op_assign _ _ _ _ rfl rfl)),
                trivial⟩ ?_
            refine pt_pick [0, 1, 2, 5, 3, 4, 6] (by kernel_rfl) (es' := [(_, _), (_, _), (_, _), (_, _), (_, _), (_, _), (_, _)]) rfl ?_
            exact pt_next _ (Option.some.inj h).symm rfl
          · have h := cond_f hb27 h
            refine ht_exit ?_
            refine pt_x_then ?_
            refine pt_x_then ?_
            refine pt_x_in ?_
            refine pt_pick [0, 1, 2, 3, 4, 5] (by kernel_rfl) (es' := [(_, _), (_, _), (_, _), (_, _), (_, _), (_, _)]) rfl ?_
            exact hl22 _ (ho24 _ (Option.some.inj h).symm).symm
    · intro u5 h hl6 hr7
      refine cond_some h (fun hg5_2 h => ?_) (fun hg5_2 h => ?_)
      · refine ht_seqR hn (El := (_ :: _ :: _ :: _ :: (28, .v (.int .i64 v3.2.2)) :: (29, .v (.bool (v3.2.2 != 0))) :: (30, .v (.bool true)) :: (31, .v undef) :: (32, .v undef) :: (33, .v undef) :: (34, .v (.bool true)) :: (35, .v (.bool true)) :: (36, .v undef) :: (37, .v undef) :: (38, .v undef) :: (39, .v (.bool true)) :: [])) (init := [0, 1, 2, 3]) (fin := [0, 1, 2, 15]) (sps := [⟨[3], [], [4], [(.slot 28)]⟩, ⟨[4], [], [5], [(.slot 29)]⟩, ⟨[5], [], [6], [(.slot 30)]⟩, ⟨[6], [], [7], [(.slot 31)]⟩, ⟨[6], [], [8], [(.slot 32)]⟩, ⟨[6], [], [9], [(.slot 33)]⟩, ⟨[6], [], [10], [(.slot 34)]⟩, ⟨[10], [], [11], [(.slot 35)]⟩, ⟨[11], [], [12], [(.slot 36)]⟩, ⟨[11], [], [13], [(.slot 37)]⟩, ⟨[11], [], [14], [(.slot 38)]⟩, ⟨[11], [], [15], [(.slot 39)]⟩]) (es' := [(_, _), (_, _), (_, _), (39, .v (.bool true))]) (by kernel_rfl) rfl rfl
          ⟨st_plain rfl (op_move _ _ _ _ rfl rfl),
            st_plain rfl (op_bin _ _ _ _ _ rfl rfl rfl),
            st_plain rfl (op_move _ _ _ _ (congrArg (fun b => AV.v (Value.bool b)) hg5_2) rfl),
            st_skip 2 30 _ false rfl rfl rfl rfl (List.Mem.head _),
            st_skip 2 30 _ false rfl rfl rfl rfl (List.Mem.head _),
            st_skip 2 30 _ false rfl rfl rfl rfl (List.Mem.head _),
            st_plain rfl (op_pick _ _ true _ rfl rfl),
            st_plain rfl (op_move _ _ _ _ rfl rfl),
            st_skip 7 35 _ false rfl rfl rfl rfl (List.Mem.head _),
            st_skip 7 35 _ false rfl rfl rfl rfl (List.Mem.head _),
            st_skip 7 35 _ false rfl rfl rfl rfl (List.Mem.head _),
            st_plain rfl (op_pick _ _ true _ rfl rfl),
            trivial⟩ ?_
        exact hl6 _ (Option.some.inj h).symm
      · refine cond_some h (fun hg5_7 h => ?_) (fun hg5_7 h => ?_)
        · refine ht_seqR hn (El := (_ :: _ :: _ :: _ :: (28, .v (.int .i64 v3.2.2)) :: (29, .v (.bool (v3.2.2 != 0))) :: (30, .v (.bool false)) :: (31, .same (.slot 5)) :: (32, .v (.int .i64 (v3.1.length : Int))) :: (33, .v (.bool (((v3.1.length : Int) != 286)))) :: (34, .v (.bool (((v3.1.length : Int) != 286)))) :: (35, .v (.bool true)) :: (36, .v undef) :: (37, .v undef) :: (38, .v undef) :: (39, .v (.bool true)) :: [])) (init := [0, 1, 2, 3]) (fin := [0, 1, 2, 15]) (sps := [⟨[3], [], [4], [(.slot 28)]⟩, ⟨[4], [], [5], [(.slot 29)]⟩, ⟨[5], [], [6], [(.slot 30)]⟩, ⟨[6, 1], [], [7], [(.slot 31)]⟩, ⟨[6, 7, 1], [], [8], [(.slot 32)]⟩, ⟨[6, 8], [], [9], [(.slot 33)]⟩, ⟨[6, 9], [], [10], [(.slot 34)]⟩, ⟨[10], [], [11], [(.slot 35)]⟩, ⟨[11], [], [12], [(.slot 36)]⟩, ⟨[11], [], [13], [(.slot 37)]⟩, ⟨[11], [], [14], [(.slot 38)]⟩, ⟨[11], [], [15], [(.slot 39)]⟩]) (es' := [(_, _), (_, _), (_, _), (39, .v (.bool true))]) (by kernel_rfl) rfl rfl
            ⟨st_plain rfl (op_move _ _ _ _ rfl rfl),
              st_plain rfl (op_bin _ _ _ _ _ rfl rfl rfl),
              st_plain rfl (op_move _ _ _ _ (congrArg (fun b => AV.v (Value.bool b)) hg5_2) rfl),
              st_run 2 30 false rfl rfl rfl (List.Mem.head _) (op_move _ _ _ _ rfl rfl),
              st_run 2 30 false rfl rfl rfl (List.Mem.head _) (op_len_fl _ _ _ Try.underlying28 rfl (by decide) (map_len _)),
              st_run 2 30 false rfl rfl rfl (List.Mem.head _) (op_bin _ _ _ _ _ rfl rfl rfl),
              st_plain rfl (op_pick _ _ false _ rfl rfl),
              st_plain rfl (op_move _ _ _ _ (congrArg (fun b => AV.v (Value.bool b)) hg5_7) rfl),
              st_skip 7 35 _ false rfl rfl rfl rfl (List.Mem.head _),
              st_skip 7 35 _ false rfl rfl rfl rfl (List.Mem.head _),
              st_skip 7 35 _ false rfl rfl rfl rfl (List.Mem.head _),
              st_plain rfl (op_pick _ _ true _ rfl rfl),
              trivial⟩ ?_
          exact hl6 _ (Option.some.inj h).symm
        · refine ht_seqR hn (El := (_ :: _ :: _ :: _ :: (28, .v (.int .i64 v3.2.2)) :: (29, .v (.bool (v3.2.2 != 0))) :: (30, .v (.bool false)) :: (31, .same (.slot 5)) :: (32, .v (.int .i64 (v3.1.length : Int))) :: (33, .v (.bool (((v3.1.length : Int) != 286)))) :: (34, .v (.bool (((v3.1.length : Int) != 286)))) :: (35, .v (.bool false)) :: (36, .same (.slot 6)) :: (37, .v (.int .i64 (v3.2.1.length : Int))) :: (38, .v (.bool (((v3.2.1.length : Int) != 30)))) :: (39, .v (.bool (((v3.2.1.length : Int) != 30)))) :: [])) (init := [0, 1, 2, 3]) (fin := [0, 1, 2, 15]) (sps := [⟨[3], [], [4], [(.slot 28)]⟩, ⟨[4], [], [5], [(.slot 29)]⟩, ⟨[5], [], [6], [(.slot 30)]⟩, ⟨[6, 1], [], [7], [(.slot 31)]⟩, ⟨[6, 7, 1], [], [8], [(.slot 32)]⟩, ⟨[6, 8], [], [9], [(.slot 33)]⟩, ⟨[6, 9], [], [10], [(.slot 34)]⟩, ⟨[10], [], [11], [(.slot 35)]⟩, ⟨[11, 2], [], [12], [(.slot 36)]⟩, ⟨[11, 12, 2], [], [13], [(.slot 37)]⟩, ⟨[11, 13], [], [14], [(.slot 38)]⟩, ⟨[11, 14], [], [15], [(.slot 39)]⟩]) (es' := [(_, _), (_, _), (_, _), (39, .v (.bool (((v3.2.1.length : Int) != 30))))]) (by kernel_rfl) rfl rfl
            ⟨st_plain rfl (op_move _ _ _ _ rfl rfl),
              st_plain rfl (op_bin _ _ _ _ _ rfl rfl rfl),
              st_plain rfl (op_move _ _ _ _ (congrArg (fun b => AV.v (Value.bool b)) hg5_2) rfl),
              st_run 2 30 false rfl rfl rfl (List.Mem.head _) (op_move _ _ _ _ rfl rfl),
              st_run 2 30 false rfl rfl rfl (List.Mem.head _) (op_len_fl _ _ _ Try.underlying28 rfl (by decide) (map_len _)),
              st_run 2 30 false rfl rfl rfl (List.Mem.head _) (op_bin _ _ _ _ _ rfl rfl rfl),
              st_plain rfl (op_pick _ _ false _ rfl rfl),
              st_plain rfl (op_move _ _ _ _ (congrArg (fun b => AV.v (Value.bool b)) hg5_7) rfl),
              st_run 7 35 false rfl rfl rfl (List.Mem.head _) (op_move _ _ _ _ rfl rfl),
              st_run 7 35 false rfl rfl rfl (List.Mem.head _) (op_len_fl _ _ _ Try.underlying28 rfl (by decide) (map_len _)),
              st_run 7 35 false rfl rfl rfl (List.Mem.head _) (op_bin _ _ _ _ _ rfl rfl rfl),
              st_plain rfl (op_pick _ _ false _ rfl rfl),
              trivial⟩ ?_
          exact hl6 _ (Option.some.inj h).symm

end Go.Proofs.Ytepjhmgmejpkpaa
