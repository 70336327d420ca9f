/-
  The model's runs are what is told in Lean.
-/
import Derived.Test.YtjnihhkkaioahaaProg
import Derived.KernelRfl
import Derived.Test.YtjnihhkkaioahaaOk2
set_option linter.unusedVariables false
set_option linter.unusedSimpArgs false
namespace Go.Proofs.Ytjnihhkkaioahaa
open Go.Abs Go.Abs.Sh

set_option maxHeartbeats 1000000 in
theorem ok_wherrylaw02_CanonApart (l : (List Int)) (i : Int) (k : Int) (r : Bool) (h : Sh.wherrylaw02_CanonApart l i k = some r) : FnOK Try.prog 4 [.fl .shr 1 (List.map (Value.int .i64) l), .v (.int .i64 i), .v (.int .i64 k)] (.v (.bool r)) := by
  unfold Sh.wherrylaw02_CanonApart at h
  refine fn_ok Try.func4 rfl (Nat.le_of_ble_eq_true rfl) rfl rfl fun g0 hn hio => ?_
  refine ht_seq ?_
  refine ht_seqR hn (El := [_, _, _, (6, .v (.bool false))]) (init := [0, 1, 2]) (fin := [0, 1, 2]) (sps := [⟨[], [], [3], [(.slot 6)]⟩]) (es' := [(_, _), (_, _), (_, _)]) (by kernel_rfl) rfl rfl
    ⟨st_plain rfl (op_assign _ _ _ _ rfl rfl),
      trivial⟩ ?_
  refine pt_then ?_
  refine ht_seq ?_
  refine ht_seq ?_
  refine ht_joinS h (fun (s1 : Bool) => [(0, .fl .shr 1 (List.map (Value.int .i64) l)), (1, .v (.int .i64 i)), (2, .v (.int .i64 k)), (16, .v (.bool s1))]) ?_ ?_
  · rintro s1 h
    refine pt_then ?_
    refine ht_cond _ rfl (fun hb5 => ?_) (fun hb5 => ?_)
    · have h := cond_t hb5 h
      refine ht_seq ?_
      refine ht_seqR hn (El := [_, _, _, _, (6, .v (.bool true))]) (init := [0, 1, 2, 3]) (fin := [4]) (sps := [⟨[], [], [4], [(.slot 6)]⟩]) (es' := [(6, .v (.bool true))]) (by kernel_rfl) rfl rfl
        ⟨st_plain rfl (op_assign _ _ _ _ rfl rfl),
          trivial⟩ ?_
      refine pt_then ?_
      refine ht_ret ?_
      refine pt_r_then ?_
      obtain rfl := Option.some.inj h
      exact pt_ret hio rfl (.tmp _ _ .nil) rfl rfl
    · have h := cond_f hb5 h
      refine ht_skip ?_
      refine pt_then ?_
      refine ht_seq ?_
      obtain ⟨v6, hv6, h⟩ := bind_some h
      refine ht_seqR hn (El := [_, _, _, _, (18, .fl .shr 1 (List.map (Value.int .i64) l)), (19, .tup [.fl (.own 3) 1 (List.map (Value.int .i64) v6.1), .v (.int .i64 v6.2)]), (17, .tup [.fl (.own 3) 1 (List.map (Value.int .i64) v6.1), .v (.int .i64 v6.2)]), (20, .fl (.own 3) 1 (List.map (Value.int .i64) v6.1)), (17, .tup [.any, .v (.int .i64 v6.2)]), (21, .v (.int .i64 v6.2)), (7, .fl (.own 3) 1 (List.map (Value.int .i64) v6.1)), (8, .v (.int .i64 v6.2))]) (init := [0, 1, 2, 3]) (fin := [0, 1, 2, 10, 11]) (sps := [⟨[0], [], [4], [(.slot 18)]⟩, ⟨[4], [], [5], [(.slot 19)]⟩, ⟨[], [5], [6], [(.slot 17)]⟩, ⟨[], [6], [8, 7], [(.slot 20)]⟩, ⟨[8], [], [9], [(.slot 21)]⟩, ⟨[], [7], [10], [(.slot 7)]⟩, ⟨[9], [], [11], [(.slot 8)]⟩]) (es' := [(_, _), (_, _), (_, _), (7, .fl (.own 3) 1 (List.map (Value.int .i64) v6.1)), (8, .v (.int .i64 v6.2))]) (by kernel_rfl) rfl rfl
        ⟨st_plain rfl (op_move _ _ _ _ rfl rfl),
          st_plain rfl (op_call _ _ 11 _ _ rfl Try.call11 rfl (ok_canon_Codes l _ hv6) rfl rfl),
          st_plain rfl (op_move_take _ _ _ _ rfl),
          st_plain rfl (op_extract_take _ _ _ _ _ rfl (Nat.le_of_ble_eq_true rfl) rfl rfl (by decide) rfl),
          st_plain rfl (op_extract _ _ _ _ _ rfl rfl (Nat.le_of_ble_eq_true rfl) rfl rfl),
          st_plain rfl (op_assign_take _ _ _ _ rfl),
          st_plain rfl (op_assign _ _ _ _ rfl rfl),
          trivial⟩ ?_
      refine pt_then ?_
      refine ht_seq ?_
      refine ht_seq ?_
      refine ht_seqR hn (El := [_, _, _, _, _, (22, .v (.int .i64 v6.2)), (23, .v (.bool (v6.2 != 0)))]) (init := [0, 1, 2, 3, 4]) (fin := [0, 1, 2, 3, 4, 6]) (sps := [⟨[4], [], [5], [(.slot 22)]⟩, ⟨[5], [], [6], [(.slot 23)]⟩]) (es' := [(_, _), (_, _), (_, _), (_, _), (_, _), (23, .v (.bool (v6.2 != 0)))]) (by kernel_rfl) rfl rfl
        ⟨st_plain rfl (op_move _ _ _ _ rfl rfl),
          st_plain rfl (op_bin _ _ _ _ _ rfl rfl rfl),
          trivial⟩ ?_
      refine pt_then ?_
      refine ht_cond _ rfl (fun hb7 => ?_) (fun hb7 => ?_)
      · have h := cond_t hb7 h
        refine ht_seq ?_
        refine ht_joinS h (fun (s10 : Bool) => [(6, .v (.bool s10))]) ?_ ?_
        · rintro s10 h
          refine pt_then ?_
          refine ht_ret ?_
          refine pt_r_then ?_
          obtain rfl := Option.some.inj h
          exact pt_ret hio rfl (.tmp _ _ .nil) rfl rfl
        · intro u11 h hl12 hr13
          refine cond_some h (fun hg5_3 h => ?_) (fun hg5_3 h => ?_)
          · refine cond_some h (fun hg5_6 h => ?_) (fun hg5_6 h => ?_)
            · obtain ⟨v8, hv8, h⟩ := bind_some h
              refine ht_seqR hn (El := (_ :: _ :: _ :: _ :: _ :: _ :: (24, .fl (.own 3) 1 (List.map (Value.int .i64) v6.1)) :: (25, .v (.int .i64 (v6.1.length : Int))) :: (26, .v (.bool (((v6.1.length : Int) == 0)))) :: (27, .v (.bool true)) :: (28, .v (.int .i64 v6.2)) :: (29, .v (.bool (v6.2 == 1))) :: (30, .v (.bool true)) :: (31, .v undef) :: (32, .v undef) :: (33, .v (.bool true)) :: (34, .v (.bool true)) :: (35, .v (.bool true)) :: (36, .v (.bool v8)) :: (37, .v (.bool v8)) :: (6, .v (.bool v8)) :: [])) (init := [0, 1, 2, 3, 4, 5]) (fin := [20]) (sps := (⟨[], [3], [6], [(.slot 24)]⟩ :: ⟨[6], [], [7], [(.slot 25)]⟩ :: ⟨[7], [], [8], [(.slot 26)]⟩ :: ⟨[8], [], [9], [(.slot 27)]⟩ :: ⟨[9, 4], [], [10], [(.slot 28)]⟩ :: ⟨[9, 10], [], [11], [(.slot 29)]⟩ :: ⟨[9, 11], [], [12], [(.slot 30)]⟩ :: ⟨[12], [], [13], [(.slot 31)]⟩ :: ⟨[12], [], [14], [(.slot 32)]⟩ :: ⟨[9, 12], [], [15], [(.slot 33)]⟩ :: ⟨[9, 15], [], [16], [(.slot 34)]⟩ :: ⟨[16], [], [17], [(.slot 35)]⟩ :: ⟨[17], [], [18], [(.slot 36)]⟩ :: ⟨[17, 18], [], [19], [(.slot 37)]⟩ :: ⟨[19], [], [20], [(.slot 6)]⟩ :: [])) (es' := [(6, .v (.bool v8))]) (by kernel_rfl) rfl rfl
                ⟨st_plain rfl (op_move_take _ _ _ _ rfl),
                  st_plain rfl (op_len_fl _ _ _ Try.underlying22 rfl (by decide) (map_len _)),
                  st_plain rfl (op_bin _ _ _ _ _ rfl rfl rfl),
                  st_plain rfl (op_move _ _ _ _ (congrArg (fun b => AV.v (Value.bool b)) hg5_3) rfl),
                  st_run 3 27 true rfl rfl rfl (List.Mem.head _) (op_move _ _ _ _ rfl rfl),
                  st_run 3 27 true rfl rfl rfl (List.Mem.head _) (op_bin _ _ _ _ _ rfl rfl rfl),
                  st_run 3 27 true rfl rfl rfl (List.Mem.head _) (op_move _ _ _ _ (congrArg (fun b => AV.v (Value.bool b)) hg5_6) rfl),
                  st_skip 6 30 _ false rfl rfl rfl rfl (List.Mem.head _),
                  st_skip 6 30 _ false rfl rfl rfl rfl (List.Mem.head _),
                  st_run 3 27 true rfl rfl rfl (List.Mem.head _) (op_pick _ _ true _ rfl rfl),
                  st_plain rfl (op_pick _ _ true _ rfl rfl),
                  st_plain rfl (op_move _ _ _ _ rfl rfl),
                  st_run 11 35 true rfl rfl rfl (List.Mem.head _) (op_call _ _ 21 _ _ rfl Try.call21 rfl (ok_wherrylaw02_wakes  _ hv8) rfl rfl),
                  st_plain rfl (op_pick _ _ true _ rfl rfl),
                  st_plain rfl (op_assign _ _ _ _ rfl rfl),
                  trivial⟩ ?_
              exact hl12 _ (Option.some.inj h).symm
            · refine cond_some h (fun hg5_11 h => ?_) (fun hg5_11 h => ?_)
              · obtain ⟨v9, hv9, h⟩ := bind_some h
                refine ht_seqR hn (El := (_ :: _ :: _ :: _ :: _ :: _ :: (24, .fl (.own 3) 1 (List.map (Value.int .i64) v6.1)) :: (25, .v (.int .i64 (v6.1.length : Int))) :: (26, .v (.bool (((v6.1.length : Int) == 0)))) :: (27, .v (.bool true)) :: (28, .v (.int .i64 v6.2)) :: (29, .v (.bool (v6.2 == 1))) :: (30, .v (.bool false)) :: (31, .v (.int .i64 v6.2)) :: (32, .v (.bool (v6.2 == 4))) :: (33, .v (.bool (v6.2 == 4))) :: (34, .v (.bool (v6.2 == 4))) :: (35, .v (.bool true)) :: (36, .v (.bool v9)) :: (37, .v (.bool v9)) :: (6, .v (.bool v9)) :: [])) (init := [0, 1, 2, 3, 4, 5]) (fin := [20]) (sps := (⟨[], [3], [6], [(.slot 24)]⟩ :: ⟨[6], [], [7], [(.slot 25)]⟩ :: ⟨[7], [], [8], [(.slot 26)]⟩ :: ⟨[8], [], [9], [(.slot 27)]⟩ :: ⟨[9, 4], [], [10], [(.slot 28)]⟩ :: ⟨[9, 10], [], [11], [(.slot 29)]⟩ :: ⟨[9, 11], [], [12], [(.slot 30)]⟩ :: ⟨[12, 4], [], [13], [(.slot 31)]⟩ :: ⟨[12, 13], [], [14], [(.slot 32)]⟩ :: ⟨[9, 12, 14], [], [15], [(.slot 33)]⟩ :: ⟨[9, 15], [], [16], [(.slot 34)]⟩ :: ⟨[16], [], [17], [(.slot 35)]⟩ :: ⟨[17], [], [18], [(.slot 36)]⟩ :: ⟨[17, 18], [], [19], [(.slot 37)]⟩ :: ⟨[19], [], [20], [(.slot 6)]⟩ :: [])) (es' := [(6, .v (.bool v9))]) (by kernel_rfl) rfl rfl
                  ⟨st_plain rfl (op_move_take _ _ _ _ rfl),
                    st_plain rfl (op_len_fl _ _ _ Try.underlying22 rfl (by decide) (map_len _)),
                    st_plain rfl (op_bin _ _ _ _ _ rfl rfl rfl),
                    st_plain rfl (op_move _ _ _ _ (congrArg (fun b => AV.v (Value.bool b)) hg5_3) rfl),
                    st_run 3 27 true rfl rfl rfl (List.Mem.head _) (op_move _ _ _ _ rfl rfl),
                    st_run 3 27 true rfl rfl rfl (List.Mem.head _) (op_bin _ _ _ _ _ rfl rfl rfl),
                    st_run 3 27 true rfl rfl rfl (List.Mem.head _) (op_move _ _ _ _ (congrArg (fun b => AV.v (Value.bool b)) hg5_6) rfl),
                    st_run 6 30 false rfl rfl rfl (List.Mem.head _) (op_move _ _ _ _ rfl rfl),
                    st_run 6 30 false rfl rfl rfl (List.Mem.head _) (op_bin _ _ _ _ _ rfl rfl rfl),
                    st_run 3 27 true rfl rfl rfl (List.Mem.head _) (op_pick _ _ false _ rfl rfl),
                    st_plain rfl (op_pick _ _ true _ rfl rfl),
                    st_plain rfl (op_move _ _ _ _ (congrArg (fun b => AV.v (Value.bool b)) hg5_11) rfl),
                    st_run 11 35 true rfl rfl rfl (List.Mem.head _) (op_call _ _ 21 _ _ rfl Try.call21 rfl (ok_wherrylaw02_wakes  _ hv9) rfl rfl),
                    st_plain rfl (op_pick _ _ true _ rfl rfl),
                    st_plain rfl (op_assign _ _ _ _ rfl rfl),
                    trivial⟩ ?_
                exact hl12 _ (Option.some.inj h).symm
              · refine ht_seqR hn (El := (_ :: _ :: _ :: _ :: _ :: _ :: (24, .fl (.own 3) 1 (List.map (Value.int .i64) v6.1)) :: (25, .v (.int .i64 (v6.1.length : Int))) :: (26, .v (.bool (((v6.1.length : Int) == 0)))) :: (27, .v (.bool true)) :: (28, .v (.int .i64 v6.2)) :: (29, .v (.bool (v6.2 == 1))) :: (30, .v (.bool false)) :: (31, .v (.int .i64 v6.2)) :: (32, .v (.bool (v6.2 == 4))) :: (33, .v (.bool (v6.2 == 4))) :: (34, .v (.bool (v6.2 == 4))) :: (35, .v (.bool false)) :: (36, .v undef) :: (37, .v (.bool false)) :: (6, .v (.bool false)) :: [])) (init := [0, 1, 2, 3, 4, 5]) (fin := [20]) (sps := (⟨[], [3], [6], [(.slot 24)]⟩ :: ⟨[6], [], [7], [(.slot 25)]⟩ :: ⟨[7], [], [8], [(.slot 26)]⟩ :: ⟨[8], [], [9], [(.slot 27)]⟩ :: ⟨[9, 4], [], [10], [(.slot 28)]⟩ :: ⟨[9, 10], [], [11], [(.slot 29)]⟩ :: ⟨[9, 11], [], [12], [(.slot 30)]⟩ :: ⟨[12, 4], [], [13], [(.slot 31)]⟩ :: ⟨[12, 13], [], [14], [(.slot 32)]⟩ :: ⟨[9, 12, 14], [], [15], [(.slot 33)]⟩ :: ⟨[9, 15], [], [16], [(.slot 34)]⟩ :: ⟨[16], [], [17], [(.slot 35)]⟩ :: ⟨[17], [], [18], [(.slot 36)]⟩ :: ⟨[17], [], [19], [(.slot 37)]⟩ :: ⟨[19], [], [20], [(.slot 6)]⟩ :: [])) (es' := [(6, .v (.bool false))]) (by kernel_rfl) rfl rfl
                  ⟨st_plain rfl (op_move_take _ _ _ _ rfl),
                    st_plain rfl (op_len_fl _ _ _ Try.underlying22 rfl (by decide) (map_len _)),
                    st_plain rfl (op_bin _ _ _ _ _ rfl rfl rfl),
                    st_plain rfl (op_move _ _ _ _ (congrArg (fun b => AV.v (Value.bool b)) hg5_3) rfl),
                    st_run 3 27 true rfl rfl rfl (List.Mem.head _) (op_move _ _ _ _ rfl rfl),
                    st_run 3 27 true rfl rfl rfl (List.Mem.head _) (op_bin _ _ _ _ _ rfl rfl rfl),
                    st_run 3 27 true rfl rfl rfl (List.Mem.head _) (op_move _ _ _ _ (congrArg (fun b => AV.v (Value.bool b)) hg5_6) rfl),
                    st_run 6 30 false rfl rfl rfl (List.Mem.head _) (op_move _ _ _ _ rfl rfl),
                    st_run 6 30 false rfl rfl rfl (List.Mem.head _) (op_bin _ _ _ _ _ rfl rfl rfl),
                    st_run 3 27 true rfl rfl rfl (List.Mem.head _) (op_pick _ _ false _ rfl rfl),
                    st_plain rfl (op_pick _ _ true _ rfl rfl),
                    st_plain rfl (op_move _ _ _ _ (congrArg (fun b => AV.v (Value.bool b)) hg5_11) rfl),
                    st_skip 11 35 _ true rfl rfl rfl rfl (List.Mem.head _),
                    st_plain rfl (op_pick _ _ false _ rfl rfl),
                    st_plain rfl (op_assign _ _ _ _ rfl rfl),
                    trivial⟩ ?_
                exact hl12 _ (Option.some.inj h).symm
          · refine ht_seqR hn (El := (_ :: _ :: _ :: _ :: _ :: _ :: (24, .fl (.own 3) 1 (List.map (Value.int .i64) v6.1)) :: (25, .v (.int .i64 (v6.1.length : Int))) :: (26, .v (.bool (((v6.1.length : Int) == 0)))) :: (27, .v (.bool false)) :: (28, .v undef) :: (29, .v undef) :: (30, .v undef) :: (31, .v undef) :: (32, .v undef) :: (33, .v undef) :: (34, .v (.bool false)) :: (35, .v (.bool false)) :: (36, .v undef) :: (37, .v (.bool false)) :: (6, .v (.bool false)) :: [])) (init := [0, 1, 2, 3, 4, 5]) (fin := [20]) (sps := (⟨[], [3], [6], [(.slot 24)]⟩ :: ⟨[6], [], [7], [(.slot 25)]⟩ :: ⟨[7], [], [8], [(.slot 26)]⟩ :: ⟨[8], [], [9], [(.slot 27)]⟩ :: ⟨[9], [], [10], [(.slot 28)]⟩ :: ⟨[9], [], [11], [(.slot 29)]⟩ :: ⟨[9], [], [12], [(.slot 30)]⟩ :: ⟨[12], [], [13], [(.slot 31)]⟩ :: ⟨[12], [], [14], [(.slot 32)]⟩ :: ⟨[9], [], [15], [(.slot 33)]⟩ :: ⟨[9], [], [16], [(.slot 34)]⟩ :: ⟨[16], [], [17], [(.slot 35)]⟩ :: ⟨[17], [], [18], [(.slot 36)]⟩ :: ⟨[17], [], [19], [(.slot 37)]⟩ :: ⟨[19], [], [20], [(.slot 6)]⟩ :: [])) (es' := [(6, .v (.bool false))]) (by kernel_rfl) rfl rfl
              ⟨st_plain rfl (op_move_take _ _ _ _ rfl),
                st_plain rfl (op_len_fl _ _ _ Try.underlying22 rfl (by decide) (map_len _)),
                st_plain rfl (op_bin _ _ _ _ _ rfl rfl rfl),
                st_plain rfl (op_move _ _ _ _ (congrArg (fun b => AV.v (Value.bool b)) hg5_3) rfl),
                st_skip 3 27 _ true rfl rfl rfl rfl (List.Mem.head _),
                st_skip 3 27 _ true rfl rfl rfl rfl (List.Mem.head _),
                st_skip 3 27 _ true rfl rfl rfl rfl (List.Mem.head _),
                st_skipU 6 30 _ false rfl rfl rfl rfl (List.Mem.head _),
                st_skipU 6 30 _ false rfl rfl rfl rfl (List.Mem.head _),
                st_skip 3 27 _ true rfl rfl rfl rfl (List.Mem.head _),
                st_plain rfl (op_pick _ _ false _ rfl rfl),
                st_plain rfl (op_move _ _ _ _ rfl rfl),
                st_skip 11 35 _ true rfl rfl rfl rfl (List.Mem.head _),
                st_plain rfl (op_pick _ _ false _ rfl rfl),
                st_plain rfl (op_assign _ _ _ _ rfl rfl),
                trivial⟩ ?_
            exact hl12 _ (Option.some.inj h).symm
      · have h := cond_f hb7 h
        refine ht_skip ?_
        refine pt_then ?_
        refine ht_seq ?_
        refine ht_seq ?_
        refine ht_seqR hn (El := [_, _, _, _, _, _, (38, .same (.slot 7)), (39, .v (.int .i64 (v6.1.length : Int))), (40, .fl .shr 1 (List.map (Value.int .i64) l)), (41, .v (.int .i64 (l.length : Int))), (42, .v (.bool (((v6.1.length : Int) != (l.length : Int)))))]) (init := [0, 1, 2, 3, 4, 5]) (fin := [0, 1, 2, 3, 10]) (sps := [⟨[3], [], [6], [(.slot 38)]⟩, ⟨[6, 3], [], [7], [(.slot 39)]⟩, ⟨[0], [], [8], [(.slot 40)]⟩, ⟨[8], [], [9], [(.slot 41)]⟩, ⟨[7, 9], [], [10], [(.slot 42)]⟩]) (es' := [(_, _), (_, _), (_, _), (_, _), (42, .v (.bool (((v6.1.length : Int) != (l.length : Int)))))]) (by kernel_rfl) rfl rfl
          ⟨st_plain rfl (op_move _ _ _ _ rfl rfl),
            st_plain rfl (op_len_fl _ _ _ Try.underlying22 rfl (by decide) (map_len _)),
            st_plain rfl (op_move _ _ _ _ rfl rfl),
            st_plain rfl (op_len_fl _ _ _ Try.underlying22 rfl (by decide) (map_len _)),
            st_plain rfl (op_bin _ _ _ _ _ rfl rfl rfl),
            trivial⟩ ?_
        refine pt_then ?_
        refine ht_cond _ rfl (fun hb14 => ?_) (fun hb14 => ?_)
        · have h := cond_t hb14 h
          refine ht_seq ?_
          refine ht_seqR hn (El := [_, _, _, _, _, (6, .v (.bool false))]) (init := [0, 1, 2, 3, 4]) (fin := [5]) (sps := [⟨[], [], [5], [(.slot 6)]⟩]) (es' := [(6, .v (.bool false))]) (by kernel_rfl) rfl rfl
            ⟨st_plain rfl (op_assign _ _ _ _ rfl rfl),
              trivial⟩ ?_
          refine pt_then ?_
          refine ht_ret ?_
          refine pt_r_then ?_
          obtain rfl := Option.some.inj h
          exact pt_ret hio rfl (.tmp _ _ .nil) rfl rfl
        · have h := cond_f hb14 h
          refine ht_skip ?_
          refine pt_then ?_
          refine ht_seq ?_
          obtain ⟨v15, hv15, h⟩ := bind_some h
          obtain ⟨v16, hv16, h⟩ := bind_some h
          obtain ⟨v17, hv17, h⟩ := bind_some h
          obtain ⟨v18, hv18, h⟩ := bind_some h
          obtain ⟨v19, hv19, h⟩ := bind_some h
          obtain ⟨v20, hv20, h⟩ := bind_some h
          obtain ⟨v21, hv21, h⟩ := bind_some h
          obtain ⟨v22, hv22, h⟩ := bind_some h
          refine ht_anyR (by kernel_rfl) hn (El := (_ :: _ :: _ :: _ :: _ :: (43, .v (.int .i64 i)) :: (44, .v (.int .u64 v15)) :: (45, .fl .shr 1 (List.map (Value.int .i64) l)) :: (46, .v (.int .i64 (l.length : Int))) :: (47, .v (.int .u64 v16)) :: (48, .v (.int .u64 v17)) :: (49, .v (.int .i64 v18)) :: (50, .v (.int .i64 k)) :: (51, .v (.int .u64 v19)) :: (52, .fl .shr 1 (List.map (Value.int .i64) l)) :: (53, .v (.int .i64 (l.length : Int))) :: (54, .v (.int .u64 v20)) :: (55, .v (.int .u64 v21)) :: (56, .v (.int .i64 v22)) :: (1, .v (.int .i64 v18)) :: (2, .v (.int .i64 v22)) :: [])) (init := [0, 1, 2, 3, 4]) (fin := [0, 3, 19, 20]) (sps := (⟨[1], [], [5], [(.slot 43)]⟩ :: ⟨[5], [], [6], [(.slot 44)]⟩ :: ⟨[0], [], [7], [(.slot 45)]⟩ :: ⟨[7], [], [8], [(.slot 46)]⟩ :: ⟨[8], [], [9], [(.slot 47)]⟩ :: ⟨[6, 9], [], [10], [(.slot 48)]⟩ :: ⟨[10], [], [11], [(.slot 49)]⟩ :: ⟨[2], [], [12], [(.slot 50)]⟩ :: ⟨[12], [], [13], [(.slot 51)]⟩ :: ⟨[0], [], [14], [(.slot 52)]⟩ :: ⟨[14], [], [15], [(.slot 53)]⟩ :: ⟨[15], [], [16], [(.slot 54)]⟩ :: ⟨[13, 16], [], [17], [(.slot 55)]⟩ :: ⟨[17], [], [18], [(.slot 56)]⟩ :: ⟨[11], [1], [19], [(.slot 1)]⟩ :: ⟨[18], [2], [20], [(.slot 2)]⟩ :: [])) (es' := [(_, _), (_, _), (1, .v (.int .i64 v18)), (2, .v (.int .i64 v22))]) (by kernel_rfl) rfl rfl
            ⟨st_plain rfl (op_move _ _ _ _ rfl rfl),
              st_plain rfl ((Option.some.inj hv15) ▸ op_conv _ _ _ Try.underlying3 Try.underlying37 rfl),
              st_plain rfl (op_move _ _ _ _ rfl rfl),
              st_plain rfl (op_len_fl _ _ _ Try.underlying22 rfl (by decide) (map_len _)),
              st_plain rfl ((Option.some.inj hv16) ▸ op_conv _ _ _ Try.underlying3 Try.underlying37 rfl),
              st_plain rfl (op_bin _ _ _ _ _ rfl rfl (rem_ok hv17)),
              st_plain rfl ((Option.some.inj hv18) ▸ op_conv _ _ _ Try.underlying37 Try.underlying3 rfl),
              st_plain rfl (op_move _ _ _ _ rfl rfl),
              st_plain rfl ((Option.some.inj hv19) ▸ op_conv _ _ _ Try.underlying3 Try.underlying37 rfl),
              st_plain rfl (op_move _ _ _ _ rfl rfl),
              st_plain rfl (op_len_fl _ _ _ Try.underlying22 rfl (by decide) (map_len _)),
              st_plain rfl ((Option.some.inj hv20) ▸ op_conv _ _ _ Try.underlying3 Try.underlying37 rfl),
              st_plain rfl (op_bin _ _ _ _ _ rfl rfl (rem_ok hv21)),
              st_plain rfl ((Option.some.inj hv22) ▸ op_conv _ _ _ Try.underlying37 Try.underlying3 rfl),
              st_plain rfl (LOp.drop [_] (op_assign _ _ _ _ rfl rfl)),
              st_plain rfl (LOp.drop [_] (op_assign _ _ _ _ rfl rfl)),
              trivial⟩ ?_
          refine pt_then ?_
          refine ht_seq ?_
          refine ht_seq ?_
          obtain ⟨v23, hv23, h⟩ := bind_some h
          obtain ⟨v24, hv24, h⟩ := bind_some h
          refine ht_seqR hn (El := [_, _, _, _, (57, .fl .shr 1 (List.map (Value.int .i64) l)), (58, .v (.int .i64 v18)), (59, .eref (.slot 57) (v23 * 1)), (60, .v (.int .i64 v24)), (61, .v (.bool (v24 == 0)))]) (init := [0, 1, 2, 3]) (fin := [0, 1, 2, 3, 8]) (sps := [⟨[0], [], [4], [(.slot 57)]⟩, ⟨[2], [], [5], [(.slot 58)]⟩, ⟨[4, 5], [], [6], [(.slot 59)]⟩, ⟨[6, 4], [], [7], [(.slot 60)]⟩, ⟨[7], [], [8], [(.slot 61)]⟩]) (es' := [(_, _), (_, _), (_, _), (_, _), (61, .v (.bool (v24 == 0)))]) (by kernel_rfl) rfl rfl
            ⟨st_plain rfl (op_move _ _ _ _ rfl rfl),
              st_plain rfl (op_move _ _ _ _ rfl rfl),
              st_plain rfl (op_ix _ _ _ _ _ _ _ _ Try.underlying22 sz3 (by decide) rfl rfl rfl (ix_ok hv23).1 (map_lt (ix_ok hv23).2) rfl),
              st_plain rfl (op_load_e _ _ _ _ _ _ Try.underlying3 rfl rfl rfl (map_get hv24)),
              st_plain rfl (op_bin _ _ _ _ _ rfl rfl rfl),
              trivial⟩ ?_
          refine pt_then ?_
          refine ht_cond _ rfl (fun hb25 => ?_) (fun hb25 => ?_)
          · have h := cond_t hb25 h
            refine ht_seq ?_
            refine ht_joinS h (fun (s29 : Bool) => [(6, .v (.bool s29))]) ?_ ?_
            · rintro s29 h
              refine pt_then ?_
              refine ht_ret ?_
              refine pt_r_then ?_
              obtain rfl := Option.some.inj h
              exact pt_ret hio rfl (.tmp _ _ .nil) rfl rfl
            · intro u30 h hl31 hr32
              obtain ⟨v26, hv26, h⟩ := bind_some h
              obtain ⟨v27, hv27, h⟩ := bind_some h
              refine cond_some h (fun hg10_5 h => ?_) (fun hg10_5 h => ?_)
              · obtain ⟨v28, hv28, h⟩ := bind_some h
                refine ht_seqR hn (El := [_, _, _, _, _, (62, .fl (.own 3) 1 (List.map (Value.int .i64) v6.1)), (63, .v (.int .i64 v18)), (64, .eref (.slot 62) (v26 * 1)), (65, .v (.int .i64 v27)), (66, .v (.bool (v27 == 0))), (67, .v (.bool true)), (68, .v (.bool v28)), (69, .v (.bool v28)), (6, .v (.bool v28))]) (init := [0, 1, 2, 3, 4]) (fin := [13]) (sps := [⟨[], [1], [5], [(.slot 62)]⟩, ⟨[2], [], [6], [(.slot 63)]⟩, ⟨[5, 6], [], [7], [(.slot 64)]⟩, ⟨[7, 5], [], [8], [(.slot 65)]⟩, ⟨[8], [], [9], [(.slot 66)]⟩, ⟨[9], [], [10], [(.slot 67)]⟩, ⟨[10], [], [11], [(.slot 68)]⟩, ⟨[10, 11], [], [12], [(.slot 69)]⟩, ⟨[12], [], [13], [(.slot 6)]⟩]) (es' := [(6, .v (.bool v28))]) (by kernel_rfl) rfl rfl
                  ⟨st_plain rfl (op_move_take _ _ _ _ rfl),
                    st_plain rfl (op_move _ _ _ _ rfl rfl),
                    st_plain rfl (op_ix _ _ _ _ _ _ _ _ Try.underlying22 sz3 (by decide) rfl rfl rfl (ix_ok hv26).1 (map_lt (ix_ok hv26).2) rfl),
                    st_plain rfl (op_load_e _ _ _ _ _ _ Try.underlying3 rfl rfl rfl (map_get hv27)),
                    st_plain rfl (op_bin _ _ _ _ _ rfl rfl rfl),
                    st_plain rfl (op_move _ _ _ _ (congrArg (fun b => AV.v (Value.bool b)) hg10_5) rfl),
                    st_run 5 67 true rfl rfl rfl (List.Mem.head _) (op_call _ _ 21 _ _ rfl Try.call21 rfl (ok_wherrylaw02_wakes  _ hv28) rfl rfl),
                    st_plain rfl (op_pick _ _ true _ rfl rfl),
                    st_plain rfl (op_assign _ _ _ _ rfl rfl),
                    trivial⟩ ?_
                exact hl31 _ (Option.some.inj h).symm
              · refine ht_seqR hn (El := [_, _, _, _, _, (62, .fl (.own 3) 1 (List.map (Value.int .i64) v6.1)), (63, .v (.int .i64 v18)), (64, .eref (.slot 62) (v26 * 1)), (65, .v (.int .i64 v27)), (66, .v (.bool (v27 == 0))), (67, .v (.bool false)), (68, .v undef), (69, .v (.bool false)), (6, .v (.bool false))]) (init := [0, 1, 2, 3, 4]) (fin := [13]) (sps := [⟨[], [1], [5], [(.slot 62)]⟩, ⟨[2], [], [6], [(.slot 63)]⟩, ⟨[5, 6], [], [7], [(.slot 64)]⟩, ⟨[7, 5], [], [8], [(.slot 65)]⟩, ⟨[8], [], [9], [(.slot 66)]⟩, ⟨[9], [], [10], [(.slot 67)]⟩, ⟨[10], [], [11], [(.slot 68)]⟩, ⟨[10], [], [12], [(.slot 69)]⟩, ⟨[12], [], [13], [(.slot 6)]⟩]) (es' := [(6, .v (.bool false))]) (by kernel_rfl) rfl rfl
                  ⟨st_plain rfl (op_move_take _ _ _ _ rfl),
                    st_plain rfl (op_move _ _ _ _ rfl rfl),
                    st_plain rfl (op_ix _ _ _ _ _ _ _ _ Try.underlying22 sz3 (by decide) rfl rfl rfl (ix_ok hv26).1 (map_lt (ix_ok hv26).2) rfl),
                    st_plain rfl (op_load_e _ _ _ _ _ _ Try.underlying3 rfl rfl rfl (map_get hv27)),
                    st_plain rfl (op_bin _ _ _ _ _ rfl rfl rfl),
                    st_plain rfl (op_move _ _ _ _ (congrArg (fun b => AV.v (Value.bool b)) hg10_5) rfl),
                    st_skip 5 67 _ true rfl rfl rfl rfl (List.Mem.head _),
                    st_plain rfl (op_pick _ _ false _ rfl rfl),
                    st_plain rfl (op_assign _ _ _ _ rfl rfl),
                    trivial⟩ ?_
                exact hl31 _ (Option.some.inj h).symm
          · have h := cond_f hb25 h
            refine ht_skip ?_
            refine pt_then ?_
            refine ht_seq ?_
            refine ht_seq ?_
            refine ht_joinS h (fun (s41 : Bool) => [(0, .fl .shr 1 (List.map (Value.int .i64) l)), (7, .fl (.own 3) 1 (List.map (Value.int .i64) v6.1)), (1, .v (.int .i64 v18)), (2, .v (.int .i64 v22)), (87, .v (.bool s41))]) ?_ ?_
            · rintro s41 h
              refine pt_then ?_
              refine ht_cond _ rfl (fun hb45 => ?_) (fun hb45 => ?_)
              · have h := cond_t hb45 h
                refine ht_seq ?_
                refine ht_seqR hn (El := [_, _, _, _, _, (6, .v (.bool false))]) (init := [0, 1, 2, 3, 4]) (fin := [5]) (sps := [⟨[], [], [5], [(.slot 6)]⟩]) (es' := [(6, .v (.bool false))]) (by kernel_rfl) rfl rfl
                  ⟨st_plain rfl (op_assign _ _ _ _ rfl rfl),
                    trivial⟩ ?_
                refine pt_then ?_
                refine ht_ret ?_
                refine pt_r_then ?_
                obtain rfl := Option.some.inj h
                exact pt_ret hio rfl (.tmp _ _ .nil) rfl rfl
              · have h := cond_f hb45 h
                refine ht_skip ?_
                refine pt_then ?_
                refine ht_seq ?_
                refine ht_seq ?_
                refine ht_joinS h (fun (s52 : Bool) => [(0, .fl .shr 1 (List.map (Value.int .i64) l)), (7, .fl (.own 3) 1 (List.map (Value.int .i64) v6.1)), (1, .v (.int .i64 v18)), (2, .v (.int .i64 v22)), (108, .v (.bool s52))]) ?_ ?_
                · rintro s52 h
                  refine pt_then ?_
                  refine ht_cond _ rfl (fun hb56 => ?_) (fun hb56 => ?_)
                  · have h := cond_t hb56 h
                    refine ht_seq ?_
                    obtain ⟨v57, hv57, h⟩ := bind_some h
                    refine ht_seqR hn (El := [_, _, _, _, _, (109, .v (.bool v57)), (6, .v (.bool v57))]) (init := [0, 1, 2, 3, 4]) (fin := [6]) (sps := [⟨[], [], [5], [(.slot 109)]⟩, ⟨[5], [], [6], [(.slot 6)]⟩]) (es' := [(6, .v (.bool v57))]) (by kernel_rfl) rfl rfl
                      ⟨st_plain rfl (op_call _ _ 21 _ _ rfl Try.call21 rfl (ok_wherrylaw02_wakes  _ hv57) rfl rfl),
                        st_plain rfl (op_assign _ _ _ _ rfl rfl),
                        trivial⟩ ?_
                    refine pt_then ?_
                    refine ht_ret ?_
                    refine pt_r_then ?_
                    obtain rfl := Option.some.inj h
                    exact pt_ret hio rfl (.tmp _ _ .nil) rfl rfl
                  · have h := cond_f hb56 h
                    refine ht_skip ?_
                    refine pt_then ?_
                    refine ht_seq ?_
                    refine ht_seq ?_
                    obtain ⟨v58, hv58, h⟩ := bind_some h
                    obtain ⟨v59, hv59, h⟩ := bind_some h
                    obtain ⟨v60, hv60, h⟩ := bind_some h
                    obtain ⟨v61, hv61, h⟩ := bind_some h
                    refine ht_anyR (by kernel_rfl) hn (El := [_, _, _, _, _, (110, .fl .shr 1 (List.map (Value.int .i64) l)), (111, .v (.int .i64 v18)), (112, .eref (.slot 110) (v58 * 1)), (113, .v (.int .i64 v59)), (114, .fl .shr 1 (List.map (Value.int .i64) l)), (115, .v (.int .i64 v22)), (116, .eref (.slot 114) (v60 * 1)), (117, .v (.int .i64 v61)), (118, .v (.bool (v59 == v61)))]) (init := [0, 1, 2, 3, 4]) (fin := [0, 1, 2, 3, 13]) (sps := [⟨[0], [], [5], [(.slot 110)]⟩, ⟨[2], [], [6], [(.slot 111)]⟩, ⟨[5, 6], [], [7], [(.slot 112)]⟩, ⟨[7, 5], [], [8], [(.slot 113)]⟩, ⟨[0], [], [9], [(.slot 114)]⟩, ⟨[3], [], [10], [(.slot 115)]⟩, ⟨[9, 10], [], [11], [(.slot 116)]⟩, ⟨[11, 9], [], [12], [(.slot 117)]⟩, ⟨[8, 12], [], [13], [(.slot 118)]⟩]) (es' := [(_, _), (_, _), (_, _), (_, _), (118, .v (.bool (v59 == v61)))]) (by kernel_rfl) rfl rfl
                      ⟨st_plain rfl (op_move _ _ _ _ rfl rfl),
                        st_plain rfl (op_move _ _ _ _ rfl rfl),
                        st_plain rfl (op_ix _ _ _ _ _ _ _ _ Try.underlying22 sz3 (by decide) rfl rfl rfl (ix_ok hv58).1 (map_lt (ix_ok hv58).2) rfl),
                        st_plain rfl (op_load_e _ _ _ _ _ _ Try.underlying3 rfl rfl rfl (map_get hv59)),
                        st_plain rfl (op_move _ _ _ _ rfl rfl),
                        st_plain rfl (op_move _ _ _ _ rfl rfl),
                        st_plain rfl (op_ix _ _ _ _ _ _ _ _ Try.underlying22 sz3 (by decide) rfl rfl rfl (ix_ok hv60).1 (map_lt (ix_ok hv60).2) rfl),
                        st_plain rfl (op_load_e _ _ _ _ _ _ Try.underlying3 rfl rfl rfl (map_get hv61)),
                        st_plain rfl (op_bin _ _ _ _ _ rfl rfl rfl),
                        trivial⟩ ?_
                    refine pt_then ?_
                    refine ht_cond _ rfl (fun hb62 => ?_) (fun hb62 => ?_)
                    · have h := cond_t hb62 h
                      refine ht_seq ?_
                      refine ht_joinS h (fun (s73 : Bool) => [(6, .v (.bool s73))]) ?_ ?_
                      · rintro s73 h
                        refine pt_then ?_
                        refine ht_ret ?_
                        refine pt_r_then ?_
                        obtain rfl := Option.some.inj h
                        exact pt_ret hio rfl (.tmp _ _ .nil) rfl rfl
                      · intro u74 h hl75 hr76
                        obtain ⟨v63, hv63, h⟩ := bind_some h
                        obtain ⟨v64, hv64, h⟩ := bind_some h
                        obtain ⟨v65, hv65, h⟩ := bind_some h
                        obtain ⟨v66, hv66, h⟩ := bind_some h
                        obtain ⟨v67, hv67, h⟩ := bind_some h
                        refine cond_some h (fun hg16_13 h => ?_) (fun hg16_13 h => ?_)
                        · obtain ⟨v68, hv68, h⟩ := bind_some h
                          obtain ⟨v69, hv69, h⟩ := bind_some h
                          obtain ⟨v70, hv70, h⟩ := bind_some h
                          obtain ⟨v71, hv71, h⟩ := bind_some h
                          refine cond_some h (fun hg16_24 h => ?_) (fun hg16_24 h => ?_)
                          · obtain ⟨v72, hv72, h⟩ := bind_some h
                            refine ht_anyR (by kernel_rfl) hn (El := (_ :: _ :: _ :: _ :: _ :: (119, .same (.slot 7)) :: (120, .v (.int .i64 v18)) :: (121, .eref (.slot 7) (v63 * 1)) :: (122, .v (.int .i64 v64)) :: (123, .same (.slot 7)) :: (124, .v (.int .i64 v22)) :: (125, .eref (.slot 7) (v65 * 1)) :: (126, .v (.int .i64 v66)) :: (127, .v (.bool ((decide (v64 < v66))))) :: (128, .v (.int .i64 v18)) :: (129, .v (.int .i64 v22)) :: (130, .v (.bool ((decide (v18 < v22))))) :: (131, .v (.bool ((((decide (v64 < v66))) == ((decide (v18 < v22))))))) :: (132, .v (.bool true)) :: (133, .same (.slot 7)) :: (134, .v (.int .i64 v18)) :: (135, .eref (.slot 7) (v68 * 1)) :: (136, .v (.int .i64 v69)) :: (137, .same (.slot 7)) :: (138, .v (.int .i64 v22)) :: (139, .eref (.slot 7) (v70 * 1)) :: (140, .v (.int .i64 v71)) :: (141, .v (.bool (v69 != v71))) :: (142, .v (.bool (v69 != v71))) :: (143, .v (.bool true)) :: (144, .v (.bool v72)) :: (145, .v (.bool v72)) :: (6, .v (.bool v72)) :: [])) (init := [0, 1, 2, 3, 4]) (fin := [32]) (sps := (⟨[1], [], [5], [(.slot 119)]⟩ :: ⟨[2], [], [6], [(.slot 120)]⟩ :: ⟨[5, 1, 6], [], [7], [(.slot 121)]⟩ :: ⟨[7, 1], [], [8], [(.slot 122)]⟩ :: ⟨[1], [], [9], [(.slot 123)]⟩ :: ⟨[3], [], [10], [(.slot 124)]⟩ :: ⟨[9, 1, 10], [], [11], [(.slot 125)]⟩ :: ⟨[11, 1], [], [12], [(.slot 126)]⟩ :: ⟨[8, 12], [], [13], [(.slot 127)]⟩ :: ⟨[2], [], [14], [(.slot 128)]⟩ :: ⟨[3], [], [15], [(.slot 129)]⟩ :: ⟨[14, 15], [], [16], [(.slot 130)]⟩ :: ⟨[13, 16], [], [17], [(.slot 131)]⟩ :: ⟨[17], [], [18], [(.slot 132)]⟩ :: ⟨[18, 1], [], [19], [(.slot 133)]⟩ :: ⟨[18, 2], [], [20], [(.slot 134)]⟩ :: ⟨[18, 19, 1, 20], [], [21], [(.slot 135)]⟩ :: ⟨[18, 21, 1], [], [22], [(.slot 136)]⟩ :: ⟨[18, 1], [], [23], [(.slot 137)]⟩ :: ⟨[18, 3], [], [24], [(.slot 138)]⟩ :: ⟨[18, 23, 1, 24], [], [25], [(.slot 139)]⟩ :: ⟨[18, 25, 1], [], [26], [(.slot 140)]⟩ :: ⟨[18, 22, 26], [], [27], [(.slot 141)]⟩ :: ⟨[18, 27], [], [28], [(.slot 142)]⟩ :: ⟨[28], [], [29], [(.slot 143)]⟩ :: ⟨[29], [], [30], [(.slot 144)]⟩ :: ⟨[29, 30], [], [31], [(.slot 145)]⟩ :: ⟨[31], [], [32], [(.slot 6)]⟩ :: [])) (es' := [(6, .v (.bool v72))]) (by kernel_rfl) rfl rfl
                              ⟨st_plain rfl (op_move _ _ _ _ rfl rfl),
                                st_plain rfl (op_move _ _ _ _ rfl rfl),
                                st_plain rfl (op_ix _ _ _ _ _ _ _ _ Try.underlying22 sz3 (by decide) rfl rfl rfl (ix_ok hv63).1 (map_lt (ix_ok hv63).2) rfl),
                                st_plain rfl (op_load_e _ _ _ _ _ _ Try.underlying3 rfl rfl rfl (map_get hv64)),
                                st_plain rfl (op_move _ _ _ _ rfl rfl),
                                st_plain rfl (op_move _ _ _ _ rfl rfl),
                                st_plain rfl (op_ix _ _ _ _ _ _ _ _ Try.underlying22 sz3 (by decide) rfl rfl rfl (ix_ok hv65).1 (map_lt (ix_ok hv65).2) rfl),
                                st_plain rfl (op_load_e _ _ _ _ _ _ Try.underlying3 rfl rfl rfl (map_get hv66)),
                                st_plain rfl (op_bin _ _ _ _ _ rfl rfl rfl),
                                st_plain rfl (op_move _ _ _ _ rfl rfl),
                                st_plain rfl (op_move _ _ _ _ rfl rfl),
                                st_plain rfl (op_bin _ _ _ _ _ rfl rfl rfl),
                                st_plain rfl (op_beq _ _ _ _ Try.underlying4 rfl rfl),
                                st_plain rfl (op_move _ _ _ _ (congrArg (fun b => AV.v (Value.bool b)) hg16_13) rfl),
                                st_run 13 132 true rfl rfl rfl (List.Mem.head _) (op_move _ _ _ _ rfl rfl),
                                st_run 13 132 true rfl rfl rfl (List.Mem.head _) (op_move _ _ _ _ rfl rfl),
                                st_run 13 132 true rfl rfl rfl (List.Mem.head _) (op_ix _ _ _ _ _ _ _ _ Try.underlying22 sz3 (by decide) rfl rfl rfl (ix_ok hv68).1 (map_lt (ix_ok hv68).2) rfl),
                                st_run 13 132 true rfl rfl rfl (List.Mem.head _) (op_load_e _ _ _ _ _ _ Try.underlying3 rfl rfl rfl (map_get hv69)),
                                st_run 13 132 true rfl rfl rfl (List.Mem.head _) (op_move _ _ _ _ rfl rfl),
                                st_run 13 132 true rfl rfl rfl (List.Mem.head _) (op_move _ _ _ _ rfl rfl),
                                st_run 13 132 true rfl rfl rfl (List.Mem.head _) (op_ix _ _ _ _ _ _ _ _ Try.underlying22 sz3 (by decide) rfl rfl rfl (ix_ok hv70).1 (map_lt (ix_ok hv70).2) rfl),
                                st_run 13 132 true rfl rfl rfl (List.Mem.head _) (op_load_e _ _ _ _ _ _ Try.underlying3 rfl rfl rfl (map_get hv71)),
                                st_run 13 132 true rfl rfl rfl (List.Mem.head _) (op_bin _ _ _ _ _ rfl rfl rfl),
                                st_plain rfl (op_pick _ _ true _ rfl rfl),
                                st_plain rfl (op_move _ _ _ _ (congrArg (fun b => AV.v (Value.bool b)) hg16_24) rfl),
                                st_run 24 143 true rfl rfl rfl (List.Mem.head _) (op_call _ _ 21 _ _ rfl Try.call21 rfl (ok_wherrylaw02_wakes  _ hv72) rfl rfl),
                                st_plain rfl (op_pick _ _ true _ rfl rfl),
                                st_plain rfl (op_assign _ _ _ _ rfl rfl),
                                trivial⟩ ?_
                            exact hl75 _ (Option.some.inj h).symm
                          · refine ht_anyR (by kernel_rfl) hn (El := (_ :: _ :: _ :: _ :: _ :: (119, .same (.slot 7)) :: (120, .v (.int .i64 v18)) :: (121, .eref (.slot 7) (v63 * 1)) :: (122, .v (.int .i64 v64)) :: (123, .same (.slot 7)) :: (124, .v (.int .i64 v22)) :: (125, .eref (.slot 7) (v65 * 1)) :: (126, .v (.int .i64 v66)) :: (127, .v (.bool ((decide (v64 < v66))))) :: (128, .v (.int .i64 v18)) :: (129, .v (.int .i64 v22)) :: (130, .v (.bool ((decide (v18 < v22))))) :: (131, .v (.bool ((((decide (v64 < v66))) == ((decide (v18 < v22))))))) :: (132, .v (.bool true)) :: (133, .same (.slot 7)) :: (134, .v (.int .i64 v18)) :: (135, .eref (.slot 7) (v68 * 1)) :: (136, .v (.int .i64 v69)) :: (137, .same (.slot 7)) :: (138, .v (.int .i64 v22)) :: (139, .eref (.slot 7) (v70 * 1)) :: (140, .v (.int .i64 v71)) :: (141, .v (.bool (v69 != v71))) :: (142, .v (.bool (v69 != v71))) :: (143, .v (.bool false)) :: (144, .v undef) :: (145, .v (.bool false)) :: (6, .v (.bool false)) :: [])) (init := [0, 1, 2, 3, 4]) (fin := [32]) (sps := (⟨[1], [], [5], [(.slot 119)]⟩ :: ⟨[2], [], [6], [(.slot 120)]⟩ :: ⟨[5, 1, 6], [], [7], [(.slot 121)]⟩ :: ⟨[7, 1], [], [8], [(.slot 122)]⟩ :: ⟨[1], [], [9], [(.slot 123)]⟩ :: ⟨[3], [], [10], [(.slot 124)]⟩ :: ⟨[9, 1, 10], [], [11], [(.slot 125)]⟩ :: ⟨[11, 1], [], [12], [(.slot 126)]⟩ :: ⟨[8, 12], [], [13], [(.slot 127)]⟩ :: ⟨[2], [], [14], [(.slot 128)]⟩ :: ⟨[3], [], [15], [(.slot 129)]⟩ :: ⟨[14, 15], [], [16], [(.slot 130)]⟩ :: ⟨[13, 16], [], [17], [(.slot 131)]⟩ :: ⟨[17], [], [18], [(.slot 132)]⟩ :: ⟨[18, 1], [], [19], [(.slot 133)]⟩ :: ⟨[18, 2], [], [20], [(.slot 134)]⟩ :: ⟨[18, 19, 1, 20], [], [21], [(.slot 135)]⟩ :: ⟨[18, 21, 1], [], [22], [(.slot 136)]⟩ :: ⟨[18, 1], [], [23], [(.slot 137)]⟩ :: ⟨[18, 3], [], [24], [(.slot 138)]⟩ :: ⟨[18, 23, 1, 24], [], [25], [(.slot 139)]⟩ :: ⟨[18, 25, 1], [], [26], [(.slot 140)]⟩ :: ⟨[18, 22, 26], [], [27], [(.slot 141)]⟩ :: ⟨[18, 27], [], [28], [(.slot 142)]⟩ :: ⟨[28], [], [29], [(.slot 143)]⟩ :: ⟨[29], [], [30], [(.slot 144)]⟩ :: ⟨[29], [], [31], [(.slot 145)]⟩ :: ⟨[31], [], [32], [(.slot 6)]⟩ :: [])) (es' := [(6, .v (.bool false))]) (by kernel_rfl) rfl rfl
                              ⟨st_plain rfl (op_move _ _ _ _ rfl rfl),
                                st_plain rfl (op_move _ _ _ _ rfl rfl),
                                st_plain rfl (op_ix _ _ _ _ _ _ _ _ Try.underlying22 sz3 (by decide) rfl rfl rfl (ix_ok hv63).1 (map_lt (ix_ok hv63).2) rfl),
                                st_plain rfl (op_load_e _ _ _ _ _ _ Try.underlying3 rfl rfl rfl (map_get hv64)),
                                st_plain rfl (op_move _ _ _ _ rfl rfl),
                                st_plain rfl (op_move _ _ _ _ rfl rfl),
                                st_plain rfl (op_ix _ _ _ _ _ _ _ _ Try.underlying22 sz3 (by decide) rfl rfl rfl (ix_ok hv65).1 (map_lt (ix_ok hv65).2) rfl),
                                st_plain rfl (op_load_e _ _ _ _ _ _ Try.underlying3 rfl rfl rfl (map_get hv66)),
                                st_plain rfl (op_bin _ _ _ _ _ rfl rfl rfl),
                                st_plain rfl (op_move _ _ _ _ rfl rfl),
                                st_plain rfl (op_move _ _ _ _ rfl rfl),
                                st_plain rfl (op_bin _ _ _ _ _ rfl rfl rfl),
                                st_plain rfl (op_beq _ _ _ _ Try.underlying4 rfl rfl),
                                st_plain rfl (op_move _ _ _ _ (congrArg (fun b => AV.v (Value.bool b)) hg16_13) rfl),
                                st_run 13 132 true rfl rfl rfl (List.Mem.head _) (op_move _ _ _ _ rfl rfl),
                                st_run 13 132 true rfl rfl rfl (List.Mem.head _) (op_move _ _ _ _ rfl rfl),
                                st_run 13 132 true rfl rfl rfl (List.Mem.head _) (op_ix _ _ _ _ _ _ _ _ Try.underlying22 sz3 (by decide) rfl rfl rfl (ix_ok hv68).1 (map_lt (ix_ok hv68).2) rfl),
                                st_run 13 132 true rfl rfl rfl (List.Mem.head _) (op_load_e _ _ _ _ _ _ Try.underlying3 rfl rfl rfl (map_get hv69)),
                                st_run 13 132 true rfl rfl rfl (List.Mem.head _) (op_move _ _ _ _ rfl rfl),
                                st_run 13 132 true rfl rfl rfl (List.Mem.head _) (op_move _ _ _ _ rfl rfl),
                                st_run 13 132 true rfl rfl rfl (List.Mem.head _) (op_ix _ _ _ _ _ _ _ _ Try.underlying22 sz3 (by decide) rfl rfl rfl (ix_ok hv70).1 (map_lt (ix_ok hv70).2) rfl),
                                st_run 13 132 true rfl rfl rfl (List.Mem.head _) (op_load_e _ _ _ _ _ _ Try.underlying3 rfl rfl rfl (map_get hv71)),
                                st_run 13 132 true rfl rfl rfl (List.Mem.head _) (op_bin _ _ _ _ _ rfl rfl rfl),
                                st_plain rfl (op_pick _ _ true _ rfl rfl),
                                st_plain rfl (op_move _ _ _ _ (congrArg (fun b => AV.v (Value.bool b)) hg16_24) rfl),
                                st_skip 24 143 _ true rfl rfl rfl rfl (List.Mem.head _),
                                st_plain rfl (op_pick _ _ false _ rfl rfl),
                                st_plain rfl (op_assign _ _ _ _ rfl rfl),
                                trivial⟩ ?_
                            exact hl75 _ (Option.some.inj h).symm
                        · refine ht_anyR (by kernel_rfl) hn (El := (_ :: _ :: _ :: _ :: _ :: (119, .same (.slot 7)) :: (120, .v (.int .i64 v18)) :: (121, .eref (.slot 7) (v63 * 1)) :: (122, .v (.int .i64 v64)) :: (123, .same (.slot 7)) :: (124, .v (.int .i64 v22)) :: (125, .eref (.slot 7) (v65 * 1)) :: (126, .v (.int .i64 v66)) :: (127, .v (.bool ((decide (v64 < v66))))) :: (128, .v (.int .i64 v18)) :: (129, .v (.int .i64 v22)) :: (130, .v (.bool ((decide (v18 < v22))))) :: (131, .v (.bool ((((decide (v64 < v66))) == ((decide (v18 < v22))))))) :: (132, .v (.bool false)) :: (133, .v undef) :: (134, .v undef) :: (135, .v undef) :: (136, .v undef) :: (137, .v undef) :: (138, .v undef) :: (139, .v undef) :: (140, .v undef) :: (141, .v undef) :: (142, .v (.bool false)) :: (143, .v (.bool false)) :: (144, .v undef) :: (145, .v (.bool false)) :: (6, .v (.bool false)) :: [])) (init := [0, 1, 2, 3, 4]) (fin := [32]) (sps := (⟨[1], [], [5], [(.slot 119)]⟩ :: ⟨[2], [], [6], [(.slot 120)]⟩ :: ⟨[5, 1, 6], [], [7], [(.slot 121)]⟩ :: ⟨[7, 1], [], [8], [(.slot 122)]⟩ :: ⟨[1], [], [9], [(.slot 123)]⟩ :: ⟨[3], [], [10], [(.slot 124)]⟩ :: ⟨[9, 1, 10], [], [11], [(.slot 125)]⟩ :: ⟨[11, 1], [], [12], [(.slot 126)]⟩ :: ⟨[8, 12], [], [13], [(.slot 127)]⟩ :: ⟨[2], [], [14], [(.slot 128)]⟩ :: ⟨[3], [], [15], [(.slot 129)]⟩ :: ⟨[14, 15], [], [16], [(.slot 130)]⟩ :: ⟨[13, 16], [], [17], [(.slot 131)]⟩ :: ⟨[17], [], [18], [(.slot 132)]⟩ :: ⟨[18], [], [19], [(.slot 133)]⟩ :: ⟨[18], [], [20], [(.slot 134)]⟩ :: ⟨[18], [], [21], [(.slot 135)]⟩ :: ⟨[18], [], [22], [(.slot 136)]⟩ :: ⟨[18], [], [23], [(.slot 137)]⟩ :: ⟨[18], [], [24], [(.slot 138)]⟩ :: ⟨[18], [], [25], [(.slot 139)]⟩ :: ⟨[18], [], [26], [(.slot 140)]⟩ :: ⟨[18], [], [27], [(.slot 141)]⟩ :: ⟨[18], [], [28], [(.slot 142)]⟩ :: ⟨[28], [], [29], [(.slot 143)]⟩ :: ⟨[29], [], [30], [(.slot 144)]⟩ :: ⟨[29], [], [31], [(.slot 145)]⟩ :: ⟨[31], [], [32], [(.slot 6)]⟩ :: [])) (es' := [(6, .v (.bool false))]) (by kernel_rfl) rfl rfl
                            ⟨st_plain rfl (op_move _ _ _ _ rfl rfl),
                              st_plain rfl (op_move _ _ _ _ rfl rfl),
                              st_plain rfl (op_ix _ _ _ _ _ _ _ _ Try.underlying22 sz3 (by decide) rfl rfl rfl (ix_ok hv63).1 (map_lt (ix_ok hv63).2) rfl),
                              st_plain rfl (op_load_e _ _ _ _ _ _ Try.underlying3 rfl rfl rfl (map_get hv64)),
                              st_plain rfl (op_move _ _ _ _ rfl rfl),
                              st_plain rfl (op_move _ _ _ _ rfl rfl),
                              st_plain rfl (op_ix _ _ _ _ _ _ _ _ Try.underlying22 sz3 (by decide) rfl rfl rfl (ix_ok hv65).1 (map_lt (ix_ok hv65).2) rfl),
                              st_plain rfl (op_load_e _ _ _ _ _ _ Try.underlying3 rfl rfl rfl (map_get hv66)),
                              st_plain rfl (op_bin _ _ _ _ _ rfl rfl rfl),
                              st_plain rfl (op_move _ _ _ _ rfl rfl),
                              st_plain rfl (op_move _ _ _ _ rfl rfl),
                              st_plain rfl (op_bin _ _ _ _ _ rfl rfl rfl),
                              st_plain rfl (op_beq _ _ _ _ Try.underlying4 rfl rfl),
                              st_plain rfl (op_move _ _ _ _ (congrArg (fun b => AV.v (Value.bool b)) hg16_13) rfl),
                              st_skip 13 132 _ true rfl rfl rfl rfl (List.Mem.head _),
                              st_skip 13 132 _ true rfl rfl rfl rfl (List.Mem.head _),
                              st_skip 13 132 _ true rfl rfl rfl rfl (List.Mem.head _),
                              st_skip 13 132 _ true rfl rfl rfl rfl (List.Mem.head _),
                              st_skip 13 132 _ true rfl rfl rfl rfl (List.Mem.head _),
                              st_skip 13 132 _ true rfl rfl rfl rfl (List.Mem.head _),
                              st_skip 13 132 _ true rfl rfl rfl rfl (List.Mem.head _),
                              st_skip 13 132 _ true rfl rfl rfl rfl (List.Mem.head _),
                              st_skip 13 132 _ true rfl rfl rfl rfl (List.Mem.head _),
                              st_plain rfl (op_pick _ _ false _ rfl rfl),
                              st_plain rfl (op_move _ _ _ _ rfl rfl),
                              st_skip 24 143 _ true rfl rfl rfl rfl (List.Mem.head _),
                              st_plain rfl (op_pick _ _ false _ rfl rfl),
                              st_plain rfl (op_assign _ _ _ _ rfl rfl),
                              trivial⟩ ?_
                          exact hl75 _ (Option.some.inj h).symm
                    · have h := cond_f hb62 h
                      refine ht_skip ?_
                      refine pt_then ?_
                      refine ht_seq ?_
                      refine ht_joinS h (fun (s89 : Bool) => [(6, .v (.bool s89))]) ?_ ?_
                      · rintro s89 h
                        refine pt_then ?_
                        refine ht_ret ?_
                        obtain rfl := Option.some.inj h
                        exact pt_ret hio rfl (.tmp _ _ .nil) rfl rfl
                      · intro u90 h hl91 hr92
                        obtain ⟨v77, hv77, h⟩ := bind_some h
                        obtain ⟨v78, hv78, h⟩ := bind_some h
                        obtain ⟨v79, hv79, h⟩ := bind_some h
                        obtain ⟨v80, hv80, h⟩ := bind_some h
                        obtain ⟨v81, hv81, h⟩ := bind_some h
                        obtain ⟨v82, hv82, h⟩ := bind_some h
                        obtain ⟨v83, hv83, h⟩ := bind_some h
                        obtain ⟨v84, hv84, h⟩ := bind_some h
                        obtain ⟨v85, hv85, h⟩ := bind_some h
                        obtain ⟨v86, hv86, h⟩ := bind_some h
                        obtain ⟨v87, hv87, h⟩ := bind_some h
                        refine cond_some h (fun hg17_20 h => ?_) (fun hg17_20 h => ?_)
                        · obtain ⟨v88, hv88, h⟩ := bind_some h
                          refine ht_anyR (by kernel_rfl) hn (El := (_ :: _ :: _ :: _ :: _ :: (146, .same (.slot 7)) :: (147, .v (.int .i64 v22)) :: (148, .eref (.slot 7) (v77 * 1)) :: (149, .v (.int .i64 v78)) :: (150, .fl .shr 1 (List.map (Value.int .i64) l)) :: (151, .v (.int .i64 v22)) :: (152, .eref (.slot 150) (v79 * 1)) :: (153, .v (.int .i64 v80)) :: (154, .fl .shr 1 (List.map (Value.int .i64) l)) :: (155, .v (.int .i64 v18)) :: (156, .eref (.slot 154) (v81 * 1)) :: (157, .v (.int .i64 v82)) :: (158, .v (.int .i64 v83)) :: (159, .v (.int .u64 v84)) :: (160, .v (.int .i64 v85)) :: (161, .same (.slot 7)) :: (162, .v (.int .i64 v18)) :: (163, .eref (.slot 7) (v86 * 1)) :: (164, .v (.int .i64 v87)) :: (165, .v (.bool (v85 != v87))) :: (166, .v (.bool true)) :: (167, .v (.bool v88)) :: (168, .v (.bool v88)) :: (6, .v (.bool v88)) :: [])) (init := [0, 1, 2, 3, 4]) (fin := [28]) (sps := (⟨[1], [], [5], [(.slot 146)]⟩ :: ⟨[3], [], [6], [(.slot 147)]⟩ :: ⟨[5, 1, 6], [], [7], [(.slot 148)]⟩ :: ⟨[7, 1], [], [8], [(.slot 149)]⟩ :: ⟨[0], [], [9], [(.slot 150)]⟩ :: ⟨[3], [], [10], [(.slot 151)]⟩ :: ⟨[9, 10], [], [11], [(.slot 152)]⟩ :: ⟨[11, 9], [], [12], [(.slot 153)]⟩ :: ⟨[0], [], [13], [(.slot 154)]⟩ :: ⟨[2], [], [14], [(.slot 155)]⟩ :: ⟨[13, 14], [], [15], [(.slot 156)]⟩ :: ⟨[15, 13], [], [16], [(.slot 157)]⟩ :: ⟨[12, 16], [], [17], [(.slot 158)]⟩ :: ⟨[17], [], [18], [(.slot 159)]⟩ :: ⟨[8, 18], [], [19], [(.slot 160)]⟩ :: ⟨[1], [], [20], [(.slot 161)]⟩ :: ⟨[2], [], [21], [(.slot 162)]⟩ :: ⟨[20, 1, 21], [], [22], [(.slot 163)]⟩ :: ⟨[22, 1], [], [23], [(.slot 164)]⟩ :: ⟨[19, 23], [], [24], [(.slot 165)]⟩ :: ⟨[24], [], [25], [(.slot 166)]⟩ :: ⟨[25], [], [26], [(.slot 167)]⟩ :: ⟨[25, 26], [], [27], [(.slot 168)]⟩ :: ⟨[27], [], [28], [(.slot 6)]⟩ :: [])) (es' := [(6, .v (.bool v88))]) (by kernel_rfl) rfl rfl
                            ⟨st_plain rfl (op_move _ _ _ _ rfl rfl),
                              st_plain rfl (op_move _ _ _ _ rfl rfl),
                              st_plain rfl (op_ix _ _ _ _ _ _ _ _ Try.underlying22 sz3 (by decide) rfl rfl rfl (ix_ok hv77).1 (map_lt (ix_ok hv77).2) rfl),
                              st_plain rfl (op_load_e _ _ _ _ _ _ Try.underlying3 rfl rfl rfl (map_get hv78)),
                              st_plain rfl (op_move _ _ _ _ rfl rfl),
                              st_plain rfl (op_move _ _ _ _ rfl rfl),
                              st_plain rfl (op_ix _ _ _ _ _ _ _ _ Try.underlying22 sz3 (by decide) rfl rfl rfl (ix_ok hv79).1 (map_lt (ix_ok hv79).2) rfl),
                              st_plain rfl (op_load_e _ _ _ _ _ _ Try.underlying3 rfl rfl rfl (map_get hv80)),
                              st_plain rfl (op_move _ _ _ _ rfl rfl),
                              st_plain rfl (op_move _ _ _ _ rfl rfl),
                              st_plain rfl (op_ix _ _ _ _ _ _ _ _ Try.underlying22 sz3 (by decide) rfl rfl rfl (ix_ok hv81).1 (map_lt (ix_ok hv81).2) rfl),
                              st_plain rfl (op_load_e _ _ _ _ _ _ Try.underlying3 rfl rfl rfl (map_get hv82)),
                              st_plain rfl (op_bin _ _ _ _ _ rfl rfl (ibind (f := Value.int .i64) (Option.some.inj hv83))),
                              st_plain rfl ((Option.some.inj hv84) ▸ op_conv _ _ _ Try.underlying3 Try.underlying37 rfl),
                              st_plain rfl (op_bin _ _ _ _ _ rfl rfl (shr_ok hv85)),
                              st_plain rfl (op_move _ _ _ _ rfl rfl),
                              st_plain rfl (op_move _ _ _ _ rfl rfl),
                              st_plain rfl (op_ix _ _ _ _ _ _ _ _ Try.underlying22 sz3 (by decide) rfl rfl rfl (ix_ok hv86).1 (map_lt (ix_ok hv86).2) rfl),
                              st_plain rfl (op_load_e _ _ _ _ _ _ Try.underlying3 rfl rfl rfl (map_get hv87)),
                              st_plain rfl (op_bin _ _ _ _ _ rfl rfl rfl),
                              st_plain rfl (op_move _ _ _ _ (congrArg (fun b => AV.v (Value.bool b)) hg17_20) rfl),
                              st_run 20 166 true rfl rfl rfl (List.Mem.head _) (op_call _ _ 21 _ _ rfl Try.call21 rfl (ok_wherrylaw02_wakes  _ hv88) rfl rfl),
                              st_plain rfl (op_pick _ _ true _ rfl rfl),
                              st_plain rfl (op_assign _ _ _ _ rfl rfl),
                              trivial⟩ ?_
                          exact hl91 _ (Option.some.inj h).symm
                        · refine ht_anyR (by kernel_rfl) hn (El := (_ :: _ :: _ :: _ :: _ :: (146, .same (.slot 7)) :: (147, .v (.int .i64 v22)) :: (148, .eref (.slot 7) (v77 * 1)) :: (149, .v (.int .i64 v78)) :: (150, .fl .shr 1 (List.map (Value.int .i64) l)) :: (151, .v (.int .i64 v22)) :: (152, .eref (.slot 150) (v79 * 1)) :: (153, .v (.int .i64 v80)) :: (154, .fl .shr 1 (List.map (Value.int .i64) l)) :: (155, .v (.int .i64 v18)) :: (156, .eref (.slot 154) (v81 * 1)) :: (157, .v (.int .i64 v82)) :: (158, .v (.int .i64 v83)) :: (159, .v (.int .u64 v84)) :: (160, .v (.int .i64 v85)) :: (161, .same (.slot 7)) :: (162, .v (.int .i64 v18)) :: (163, .eref (.slot 7) (v86 * 1)) :: (164, .v (.int .i64 v87)) :: (165, .v (.bool (v85 != v87))) :: (166, .v (.bool false)) :: (167, .v undef) :: (168, .v (.bool false)) :: (6, .v (.bool false)) :: [])) (init := [0, 1, 2, 3, 4]) (fin := [28]) (sps := (⟨[1], [], [5], [(.slot 146)]⟩ :: ⟨[3], [], [6], [(.slot 147)]⟩ :: ⟨[5, 1, 6], [], [7], [(.slot 148)]⟩ :: ⟨[7, 1], [], [8], [(.slot 149)]⟩ :: ⟨[0], [], [9], [(.slot 150)]⟩ :: ⟨[3], [], [10], [(.slot 151)]⟩ :: ⟨[9, 10], [], [11], [(.slot 152)]⟩ :: ⟨[11, 9], [], [12], [(.slot 153)]⟩ :: ⟨[0], [], [13], [(.slot 154)]⟩ :: ⟨[2], [], [14], [(.slot 155)]⟩ :: ⟨[13, 14], [], [15], [(.slot 156)]⟩ :: ⟨[15, 13], [], [16], [(.slot 157)]⟩ :: ⟨[12, 16], [], [17], [(.slot 158)]⟩ :: ⟨[17], [], [18], [(.slot 159)]⟩ :: ⟨[8, 18], [], [19], [(.slot 160)]⟩ :: ⟨[1], [], [20], [(.slot 161)]⟩ :: ⟨[2], [], [21], [(.slot 162)]⟩ :: ⟨[20, 1, 21], [], [22], [(.slot 163)]⟩ :: ⟨[22, 1], [], [23], [(.slot 164)]⟩ :: ⟨[19, 23], [], [24], [(.slot 165)]⟩ :: ⟨[24], [], [25], [(.slot 166)]⟩ :: ⟨[25], [], [26], [(.slot 167)]⟩ :: ⟨[25], [], [27], [(.slot 168)]⟩ :: ⟨[27], [], [28], [(.slot 6)]⟩ :: [])) (es' := [(6, .v (.bool false))]) (by kernel_rfl) rfl rfl
                            ⟨st_plain rfl (op_move _ _ _ _ rfl rfl),
                              st_plain rfl (op_move _ _ _ _ rfl rfl),
                              st_plain rfl (op_ix _ _ _ _ _ _ _ _ Try.underlying22 sz3 (by decide) rfl rfl rfl (ix_ok hv77).1 (map_lt (ix_ok hv77).2) rfl),
                              st_plain rfl (op_load_e _ _ _ _ _ _ Try.underlying3 rfl rfl rfl (map_get hv78)),
                              st_plain rfl (op_move _ _ _ _ rfl rfl),
                              st_plain rfl (op_move _ _ _ _ rfl rfl),
                              st_plain rfl (op_ix _ _ _ _ _ _ _ _ Try.underlying22 sz3 (by decide) rfl rfl rfl (ix_ok hv79).1 (map_lt (ix_ok hv79).2) rfl),
                              st_plain rfl (op_load_e _ _ _ _ _ _ Try.underlying3 rfl rfl rfl (map_get hv80)),
                              st_plain rfl (op_move _ _ _ _ rfl rfl),
                              st_plain rfl (op_move _ _ _ _ rfl rfl),
                              st_plain rfl (op_ix _ _ _ _ _ _ _ _ Try.underlying22 sz3 (by decide) rfl rfl rfl (ix_ok hv81).1 (map_lt (ix_ok hv81).2) rfl),
                              st_plain rfl (op_load_e _ _ _ _ _ _ Try.underlying3 rfl rfl rfl (map_get hv82)),
                              st_plain rfl (op_bin _ _ _ _ _ rfl rfl (ibind (f := Value.int .i64) (Option.some.inj hv83))),
                              st_plain rfl ((Option.some.inj hv84) ▸ op_conv _ _ _ Try.underlying3 Try.underlying37 rfl),
                              st_plain rfl (op_bin _ _ _ _ _ rfl rfl (shr_ok hv85)),
                              st_plain rfl (op_move _ _ _ _ rfl rfl),
                              st_plain rfl (op_move _ _ _ _ rfl rfl),
                              st_plain rfl (op_ix _ _ _ _ _ _ _ _ Try.underlying22 sz3 (by decide) rfl rfl rfl (ix_ok hv86).1 (map_lt (ix_ok hv86).2) rfl),
                              st_plain rfl (op_load_e _ _ _ _ _ _ Try.underlying3 rfl rfl rfl (map_get hv87)),
                              st_plain rfl (op_bin _ _ _ _ _ rfl rfl rfl),
                              st_plain rfl (op_move _ _ _ _ (congrArg (fun b => AV.v (Value.bool b)) hg17_20) rfl),
                              st_skip 20 166 _ true rfl rfl rfl rfl (List.Mem.head _),
                              st_plain rfl (op_pick _ _ false _ rfl rfl),
                              st_plain rfl (op_assign _ _ _ _ rfl rfl),
                              trivial⟩ ?_
                          exact hl91 _ (Option.some.inj h).symm
                · intro u53 h hl54 hr55
                  refine cond_some h (fun hg13_3 h => ?_) (fun hg13_3 h => ?_)
                  · refine ht_anyR (by kernel_rfl) hn (El := (_ :: _ :: _ :: _ :: _ :: (88, .v (.int .i64 v18)) :: (89, .v (.int .i64 v22)) :: (90, .v (.bool (v18 == v22))) :: (91, .v (.bool true)) :: (92, .v undef) :: (93, .v undef) :: (94, .v undef) :: (95, .v undef) :: (96, .v undef) :: (97, .v (.bool true)) :: (98, .v (.bool true)) :: (99, .v undef) :: (100, .v undef) :: (101, .v undef) :: (102, .v undef) :: (103, .v undef) :: (104, .v undef) :: (105, .v undef) :: (106, .v undef) :: (107, .v undef) :: (108, .v (.bool true)) :: [])) (init := [0, 1, 2, 3, 4]) (fin := [0, 1, 2, 3, 25]) (sps := (⟨[2], [], [5], [(.slot 88)]⟩ :: ⟨[3], [], [6], [(.slot 89)]⟩ :: ⟨[5, 6], [], [7], [(.slot 90)]⟩ :: ⟨[7], [], [8], [(.slot 91)]⟩ :: ⟨[8], [], [9], [(.slot 92)]⟩ :: ⟨[8], [], [10], [(.slot 93)]⟩ :: ⟨[8], [], [11], [(.slot 94)]⟩ :: ⟨[8], [], [12], [(.slot 95)]⟩ :: ⟨[8], [], [13], [(.slot 96)]⟩ :: ⟨[8], [], [14], [(.slot 97)]⟩ :: ⟨[14], [], [15], [(.slot 98)]⟩ :: ⟨[15], [], [16], [(.slot 99)]⟩ :: ⟨[15], [], [17], [(.slot 100)]⟩ :: ⟨[15], [], [18], [(.slot 101)]⟩ :: ⟨[15], [], [19], [(.slot 102)]⟩ :: ⟨[15], [], [20], [(.slot 103)]⟩ :: ⟨[15], [], [21], [(.slot 104)]⟩ :: ⟨[15], [], [22], [(.slot 105)]⟩ :: ⟨[15], [], [23], [(.slot 106)]⟩ :: ⟨[15], [], [24], [(.slot 107)]⟩ :: ⟨[15], [], [25], [(.slot 108)]⟩ :: [])) (es' := [(_, _), (_, _), (_, _), (_, _), (108, .v (.bool true))]) (by kernel_rfl) rfl rfl
                      ⟨st_plain rfl (op_move _ _ _ _ rfl rfl),
                        st_plain rfl (op_move _ _ _ _ rfl rfl),
                        st_plain rfl (op_bin _ _ _ _ _ rfl rfl rfl),
                        st_plain rfl (op_move _ _ _ _ (congrArg (fun b => AV.v (Value.bool b)) hg13_3) rfl),
                        st_skip 3 91 _ false rfl rfl rfl rfl (List.Mem.head _),
                        st_skip 3 91 _ false rfl rfl rfl rfl (List.Mem.head _),
                        st_skip 3 91 _ false rfl rfl rfl rfl (List.Mem.head _),
                        st_skip 3 91 _ false rfl rfl rfl rfl (List.Mem.head _),
                        st_skip 3 91 _ false rfl rfl rfl rfl (List.Mem.head _),
                        st_plain rfl (op_pick _ _ true _ rfl rfl),
                        st_plain rfl (op_move _ _ _ _ rfl rfl),
                        st_skip 10 98 _ false rfl rfl rfl rfl (List.Mem.head _),
                        st_skip 10 98 _ false rfl rfl rfl rfl (List.Mem.head _),
                        st_skip 10 98 _ false rfl rfl rfl rfl (List.Mem.head _),
                        st_skip 10 98 _ false rfl rfl rfl rfl (List.Mem.head _),
                        st_skip 10 98 _ false rfl rfl rfl rfl (List.Mem.head _),
                        st_skip 10 98 _ false rfl rfl rfl rfl (List.Mem.head _),
                        st_skip 10 98 _ false rfl rfl rfl rfl (List.Mem.head _),
                        st_skip 10 98 _ false rfl rfl rfl rfl (List.Mem.head _),
                        st_skip 10 98 _ false rfl rfl rfl rfl (List.Mem.head _),
                        st_plain rfl (op_pick _ _ true _ rfl rfl),
                        trivial⟩ ?_
                    exact hl54 _ (Option.some.inj h).symm
                  · obtain ⟨v46, hv46, h⟩ := bind_some h
                    obtain ⟨v47, hv47, h⟩ := bind_some h
                    refine cond_some h (fun hg13_10 h => ?_) (fun hg13_10 h => ?_)
                    · refine ht_anyR (by kernel_rfl) hn (El := (_ :: _ :: _ :: _ :: _ :: (88, .v (.int .i64 v18)) :: (89, .v (.int .i64 v22)) :: (90, .v (.bool (v18 == v22))) :: (91, .v (.bool false)) :: (92, .fl .shr 1 (List.map (Value.int .i64) l)) :: (93, .v (.int .i64 v22)) :: (94, .eref (.slot 92) (v46 * 1)) :: (95, .v (.int .i64 v47)) :: (96, .v (.bool (v47 == 0))) :: (97, .v (.bool (v47 == 0))) :: (98, .v (.bool true)) :: (99, .v undef) :: (100, .v undef) :: (101, .v undef) :: (102, .v undef) :: (103, .v undef) :: (104, .v undef) :: (105, .v undef) :: (106, .v undef) :: (107, .v undef) :: (108, .v (.bool true)) :: [])) (init := [0, 1, 2, 3, 4]) (fin := [0, 1, 2, 3, 25]) (sps := (⟨[2], [], [5], [(.slot 88)]⟩ :: ⟨[3], [], [6], [(.slot 89)]⟩ :: ⟨[5, 6], [], [7], [(.slot 90)]⟩ :: ⟨[7], [], [8], [(.slot 91)]⟩ :: ⟨[8, 0], [], [9], [(.slot 92)]⟩ :: ⟨[8, 3], [], [10], [(.slot 93)]⟩ :: ⟨[8, 9, 10], [], [11], [(.slot 94)]⟩ :: ⟨[8, 11, 9], [], [12], [(.slot 95)]⟩ :: ⟨[8, 12], [], [13], [(.slot 96)]⟩ :: ⟨[8, 13], [], [14], [(.slot 97)]⟩ :: ⟨[14], [], [15], [(.slot 98)]⟩ :: ⟨[15], [], [16], [(.slot 99)]⟩ :: ⟨[15], [], [17], [(.slot 100)]⟩ :: ⟨[15], [], [18], [(.slot 101)]⟩ :: ⟨[15], [], [19], [(.slot 102)]⟩ :: ⟨[15], [], [20], [(.slot 103)]⟩ :: ⟨[15], [], [21], [(.slot 104)]⟩ :: ⟨[15], [], [22], [(.slot 105)]⟩ :: ⟨[15], [], [23], [(.slot 106)]⟩ :: ⟨[15], [], [24], [(.slot 107)]⟩ :: ⟨[15], [], [25], [(.slot 108)]⟩ :: [])) (es' := [(_, _), (_, _), (_, _), (_, _), (108, .v (.bool true))]) (by kernel_rfl) rfl rfl
                        ⟨st_plain rfl (op_move _ _ _ _ rfl rfl),
                          st_plain rfl (op_move _ _ _ _ rfl rfl),
                          st_plain rfl (op_bin _ _ _ _ _ rfl rfl rfl),
                          st_plain rfl (op_move _ _ _ _ (congrArg (fun b => AV.v (Value.bool b)) hg13_3) rfl),
                          st_run 3 91 false rfl rfl rfl (List.Mem.head _) (op_move _ _ _ _ rfl rfl),
                          st_run 3 91 false rfl rfl rfl (List.Mem.head _) (op_move _ _ _ _ rfl rfl),
                          st_run 3 91 false rfl rfl rfl (List.Mem.head _) (op_ix _ _ _ _ _ _ _ _ Try.underlying22 sz3 (by decide) rfl rfl rfl (ix_ok hv46).1 (map_lt (ix_ok hv46).2) rfl),
                          st_run 3 91 false rfl rfl rfl (List.Mem.head _) (op_load_e _ _ _ _ _ _ Try.underlying3 rfl rfl rfl (map_get hv47)),
                          st_run 3 91 false rfl rfl rfl (List.Mem.head _) (op_bin _ _ _ _ _ rfl rfl rfl),
                          st_plain rfl (op_pick _ _ false _ rfl rfl),
                          st_plain rfl (op_move _ _ _ _ (congrArg (fun b => AV.v (Value.bool b)) hg13_10) rfl),
                          st_skip 10 98 _ false rfl rfl rfl rfl (List.Mem.head _),
                          st_skip 10 98 _ false rfl rfl rfl rfl (List.Mem.head _),
                          st_skip 10 98 _ false rfl rfl rfl rfl (List.Mem.head _),
                          st_skip 10 98 _ false rfl rfl rfl rfl (List.Mem.head _),
                          st_skip 10 98 _ false rfl rfl rfl rfl (List.Mem.head _),
                          st_skip 10 98 _ false rfl rfl rfl rfl (List.Mem.head _),
                          st_skip 10 98 _ false rfl rfl rfl rfl (List.Mem.head _),
                          st_skip 10 98 _ false rfl rfl rfl rfl (List.Mem.head _),
                          st_skip 10 98 _ false rfl rfl rfl rfl (List.Mem.head _),
                          st_plain rfl (op_pick _ _ true _ rfl rfl),
                          trivial⟩ ?_
                      exact hl54 _ (Option.some.inj h).symm
                    · obtain ⟨v48, hv48, h⟩ := bind_some h
                      obtain ⟨v49, hv49, h⟩ := bind_some h
                      obtain ⟨v50, hv50, h⟩ := bind_some h
                      obtain ⟨v51, hv51, h⟩ := bind_some h
                      refine ht_anyR (by kernel_rfl) hn (El := (_ :: _ :: _ :: _ :: _ :: (88, .v (.int .i64 v18)) :: (89, .v (.int .i64 v22)) :: (90, .v (.bool (v18 == v22))) :: (91, .v (.bool false)) :: (92, .fl .shr 1 (List.map (Value.int .i64) l)) :: (93, .v (.int .i64 v22)) :: (94, .eref (.slot 92) (v46 * 1)) :: (95, .v (.int .i64 v47)) :: (96, .v (.bool (v47 == 0))) :: (97, .v (.bool (v47 == 0))) :: (98, .v (.bool false)) :: (99, .fl .shr 1 (List.map (Value.int .i64) l)) :: (100, .v (.int .i64 v22)) :: (101, .eref (.slot 99) (v48 * 1)) :: (102, .v (.int .i64 v49)) :: (103, .fl .shr 1 (List.map (Value.int .i64) l)) :: (104, .v (.int .i64 v18)) :: (105, .eref (.slot 103) (v50 * 1)) :: (106, .v (.int .i64 v51)) :: (107, .v (.bool ((decide (v49 < v51))))) :: (108, .v (.bool ((decide (v49 < v51))))) :: [])) (init := [0, 1, 2, 3, 4]) (fin := [0, 1, 2, 3, 25]) (sps := (⟨[2], [], [5], [(.slot 88)]⟩ :: ⟨[3], [], [6], [(.slot 89)]⟩ :: ⟨[5, 6], [], [7], [(.slot 90)]⟩ :: ⟨[7], [], [8], [(.slot 91)]⟩ :: ⟨[8, 0], [], [9], [(.slot 92)]⟩ :: ⟨[8, 3], [], [10], [(.slot 93)]⟩ :: ⟨[8, 9, 10], [], [11], [(.slot 94)]⟩ :: ⟨[8, 11, 9], [], [12], [(.slot 95)]⟩ :: ⟨[8, 12], [], [13], [(.slot 96)]⟩ :: ⟨[8, 13], [], [14], [(.slot 97)]⟩ :: ⟨[14], [], [15], [(.slot 98)]⟩ :: ⟨[15, 0], [], [16], [(.slot 99)]⟩ :: ⟨[15, 3], [], [17], [(.slot 100)]⟩ :: ⟨[15, 16, 17], [], [18], [(.slot 101)]⟩ :: ⟨[15, 18, 16], [], [19], [(.slot 102)]⟩ :: ⟨[15, 0], [], [20], [(.slot 103)]⟩ :: ⟨[15, 2], [], [21], [(.slot 104)]⟩ :: ⟨[15, 20, 21], [], [22], [(.slot 105)]⟩ :: ⟨[15, 22, 20], [], [23], [(.slot 106)]⟩ :: ⟨[15, 19, 23], [], [24], [(.slot 107)]⟩ :: ⟨[15, 24], [], [25], [(.slot 108)]⟩ :: [])) (es' := [(_, _), (_, _), (_, _), (_, _), (108, .v (.bool ((decide (v49 < v51)))))]) (by kernel_rfl) rfl rfl
                        ⟨st_plain rfl (op_move _ _ _ _ rfl rfl),
                          st_plain rfl (op_move _ _ _ _ rfl rfl),
                          st_plain rfl (op_bin _ _ _ _ _ rfl rfl rfl),
                          st_plain rfl (op_move _ _ _ _ (congrArg (fun b => AV.v (Value.bool b)) hg13_3) rfl),
                          st_run 3 91 false rfl rfl rfl (List.Mem.head _) (op_move _ _ _ _ rfl rfl),
                          st_run 3 91 false rfl rfl rfl (List.Mem.head _) (op_move _ _ _ _ rfl rfl),
                          st_run 3 91 false rfl rfl rfl (List.Mem.head _) (op_ix _ _ _ _ _ _ _ _ Try.underlying22 sz3 (by decide) rfl rfl rfl (ix_ok hv46).1 (map_lt (ix_ok hv46).2) rfl),
                          st_run 3 91 false rfl rfl rfl (List.Mem.head _) (op_load_e _ _ _ _ _ _ Try.underlying3 rfl rfl rfl (map_get hv47)),
                          st_run 3 91 false rfl rfl rfl (List.Mem.head _) (op_bin _ _ _ _ _ rfl rfl rfl),
                          st_plain rfl (op_pick _ _ false _ rfl rfl),
                          st_plain rfl (op_move _ _ _ _ (congrArg (fun b => AV.v (Value.bool b)) hg13_10) rfl),
                          st_run 10 98 false rfl rfl rfl (List.Mem.head _) (op_move _ _ _ _ rfl rfl),
                          st_run 10 98 false rfl rfl rfl (List.Mem.head _) (op_move _ _ _ _ rfl rfl),
                          st_run 10 98 false rfl rfl rfl (List.Mem.head _) (op_ix _ _ _ _ _ _ _ _ Try.underlying22 sz3 (by decide) rfl rfl rfl (ix_ok hv48).1 (map_lt (ix_ok hv48).2) rfl),
                          st_run 10 98 false rfl rfl rfl (List.Mem.head _) (op_load_e _ _ _ _ _ _ Try.underlying3 rfl rfl rfl (map_get hv49)),
                          st_run 10 98 false rfl rfl rfl (List.Mem.head _) (op_move _ _ _ _ rfl rfl),
                          st_run 10 98 false rfl rfl rfl (List.Mem.head _) (op_move _ _ _ _ rfl rfl),
                          st_run 10 98 false rfl rfl rfl (List.Mem.head _) (op_ix _ _ _ _ _ _ _ _ Try.underlying22 sz3 (by decide) rfl rfl rfl (ix_ok hv50).1 (map_lt (ix_ok hv50).2) rfl),
                          st_run 10 98 false rfl rfl rfl (List.Mem.head _) (op_load_e _ _ _ _ _ _ Try.underlying3 rfl rfl rfl (map_get hv51)),
                          st_run 10 98 false rfl rfl rfl (List.Mem.head _) (op_bin _ _ _ _ _ rfl rfl rfl),
                          st_plain rfl (op_pick _ _ false _ rfl rfl),
                          trivial⟩ ?_
                      exact hl54 _ (Option.some.inj h).symm
            · intro u42 h hl43 hr44
              obtain ⟨v33, hv33, h⟩ := bind_some h
              obtain ⟨v34, hv34, h⟩ := bind_some h
              refine cond_some h (fun hg11_5 h => ?_) (fun hg11_5 h => ?_)
              · refine ht_anyR (by kernel_rfl) hn (El := (_ :: _ :: _ :: _ :: _ :: (70, .same (.slot 7)) :: (71, .v (.int .i64 v18)) :: (72, .eref (.slot 7) (v33 * 1)) :: (73, .v (.int .i64 v34)) :: (74, .v (.bool ((decide (v34 < 0))))) :: (75, .v (.bool true)) :: (76, .v undef) :: (77, .v undef) :: (78, .v undef) :: (79, .v undef) :: (80, .v undef) :: (81, .v undef) :: (82, .v undef) :: (83, .v undef) :: (84, .v undef) :: (85, .v undef) :: (86, .v undef) :: (87, .v (.bool true)) :: [])) (init := [0, 1, 2, 3, 4]) (fin := [0, 1, 2, 3, 22]) (sps := (⟨[1], [], [5], [(.slot 70)]⟩ :: ⟨[2], [], [6], [(.slot 71)]⟩ :: ⟨[5, 1, 6], [], [7], [(.slot 72)]⟩ :: ⟨[7, 1], [], [8], [(.slot 73)]⟩ :: ⟨[8], [], [9], [(.slot 74)]⟩ :: ⟨[9], [], [10], [(.slot 75)]⟩ :: ⟨[10], [], [11], [(.slot 76)]⟩ :: ⟨[10], [], [12], [(.slot 77)]⟩ :: ⟨[10], [], [13], [(.slot 78)]⟩ :: ⟨[10], [], [14], [(.slot 79)]⟩ :: ⟨[10], [], [15], [(.slot 80)]⟩ :: ⟨[10], [], [16], [(.slot 81)]⟩ :: ⟨[10], [], [17], [(.slot 82)]⟩ :: ⟨[10], [], [18], [(.slot 83)]⟩ :: ⟨[10], [], [19], [(.slot 84)]⟩ :: ⟨[10], [], [20], [(.slot 85)]⟩ :: ⟨[10], [], [21], [(.slot 86)]⟩ :: ⟨[10], [], [22], [(.slot 87)]⟩ :: [])) (es' := [(_, _), (_, _), (_, _), (_, _), (87, .v (.bool true))]) (by kernel_rfl) rfl rfl
                  ⟨st_plain rfl (op_move _ _ _ _ rfl rfl),
                    st_plain rfl (op_move _ _ _ _ rfl rfl),
                    st_plain rfl (op_ix _ _ _ _ _ _ _ _ Try.underlying22 sz3 (by decide) rfl rfl rfl (ix_ok hv33).1 (map_lt (ix_ok hv33).2) rfl),
                    st_plain rfl (op_load_e _ _ _ _ _ _ Try.underlying3 rfl rfl rfl (map_get hv34)),
                    st_plain rfl (op_bin _ _ _ _ _ rfl rfl rfl),
                    st_plain rfl (op_move _ _ _ _ (congrArg (fun b => AV.v (Value.bool b)) hg11_5) rfl),
                    st_skip 5 75 _ false rfl rfl rfl rfl (List.Mem.head _),
                    st_skip 5 75 _ false rfl rfl rfl rfl (List.Mem.head _),
                    st_skip 5 75 _ false rfl rfl rfl rfl (List.Mem.head _),
                    st_skip 5 75 _ false rfl rfl rfl rfl (List.Mem.head _),
                    st_skip 5 75 _ false rfl rfl rfl rfl (List.Mem.head _),
                    st_skip 5 75 _ false rfl rfl rfl rfl (List.Mem.head _),
                    st_skip 5 75 _ false rfl rfl rfl rfl (List.Mem.head _),
                    st_skip 5 75 _ false rfl rfl rfl rfl (List.Mem.head _),
                    st_skip 5 75 _ false rfl rfl rfl rfl (List.Mem.head _),
                    st_skip 5 75 _ false rfl rfl rfl rfl (List.Mem.head _),
                    st_skip 5 75 _ false rfl rfl rfl rfl (List.Mem.head _),
                    st_plain rfl (op_pick _ _ true _ rfl rfl),
                    trivial⟩ ?_
                exact hl43 _ (Option.some.inj h).symm
              · obtain ⟨v35, hv35, h⟩ := bind_some h
                obtain ⟨v36, hv36, h⟩ := bind_some h
                obtain ⟨v37, hv37, h⟩ := bind_some h
                obtain ⟨v38, hv38, h⟩ := bind_some h
                obtain ⟨v39, hv39, h⟩ := bind_some h
                obtain ⟨v40, hv40, h⟩ := bind_some h
                refine ht_anyR (by kernel_rfl) hn (El := (_ :: _ :: _ :: _ :: _ :: (70, .same (.slot 7)) :: (71, .v (.int .i64 v18)) :: (72, .eref (.slot 7) (v33 * 1)) :: (73, .v (.int .i64 v34)) :: (74, .v (.bool ((decide (v34 < 0))))) :: (75, .v (.bool false)) :: (76, .same (.slot 7)) :: (77, .v (.int .i64 v18)) :: (78, .eref (.slot 7) (v35 * 1)) :: (79, .v (.int .i64 v36)) :: (80, .fl .shr 1 (List.map (Value.int .i64) l)) :: (81, .v (.int .i64 v18)) :: (82, .eref (.slot 80) (v37 * 1)) :: (83, .v (.int .i64 v38)) :: (84, .v (.int .u64 v39)) :: (85, .v (.int .i64 v40)) :: (86, .v (.bool ((decide (v40 ≤ v36))))) :: (87, .v (.bool ((decide (v40 ≤ v36))))) :: [])) (init := [0, 1, 2, 3, 4]) (fin := [0, 1, 2, 3, 22]) (sps := (⟨[1], [], [5], [(.slot 70)]⟩ :: ⟨[2], [], [6], [(.slot 71)]⟩ :: ⟨[5, 1, 6], [], [7], [(.slot 72)]⟩ :: ⟨[7, 1], [], [8], [(.slot 73)]⟩ :: ⟨[8], [], [9], [(.slot 74)]⟩ :: ⟨[9], [], [10], [(.slot 75)]⟩ :: ⟨[10, 1], [], [11], [(.slot 76)]⟩ :: ⟨[10, 2], [], [12], [(.slot 77)]⟩ :: ⟨[10, 11, 1, 12], [], [13], [(.slot 78)]⟩ :: ⟨[10, 13, 1], [], [14], [(.slot 79)]⟩ :: ⟨[10, 0], [], [15], [(.slot 80)]⟩ :: ⟨[10, 2], [], [16], [(.slot 81)]⟩ :: ⟨[10, 15, 16], [], [17], [(.slot 82)]⟩ :: ⟨[10, 17, 15], [], [18], [(.slot 83)]⟩ :: ⟨[10, 18], [], [19], [(.slot 84)]⟩ :: ⟨[10, 19], [], [20], [(.slot 85)]⟩ :: ⟨[10, 14, 20], [], [21], [(.slot 86)]⟩ :: ⟨[10, 21], [], [22], [(.slot 87)]⟩ :: [])) (es' := [(_, _), (_, _), (_, _), (_, _), (87, .v (.bool ((decide (v40 ≤ v36)))))]) (by kernel_rfl) rfl rfl
                  ⟨st_plain rfl (op_move _ _ _ _ rfl rfl),
                    st_plain rfl (op_move _ _ _ _ rfl rfl),
                    st_plain rfl (op_ix _ _ _ _ _ _ _ _ Try.underlying22 sz3 (by decide) rfl rfl rfl (ix_ok hv33).1 (map_lt (ix_ok hv33).2) rfl),
                    st_plain rfl (op_load_e _ _ _ _ _ _ Try.underlying3 rfl rfl rfl (map_get hv34)),
                    st_plain rfl (op_bin _ _ _ _ _ rfl rfl rfl),
                    st_plain rfl (op_move _ _ _ _ (congrArg (fun b => AV.v (Value.bool b)) hg11_5) rfl),
                    st_run 5 75 false rfl rfl rfl (List.Mem.head _) (op_move _ _ _ _ rfl rfl),
                    st_run 5 75 false rfl rfl rfl (List.Mem.head _) (op_move _ _ _ _ rfl rfl),
                    st_run 5 75 false rfl rfl rfl (List.Mem.head _) (op_ix _ _ _ _ _ _ _ _ Try.underlying22 sz3 (by decide) rfl rfl rfl (ix_ok hv35).1 (map_lt (ix_ok hv35).2) rfl),
                    st_run 5 75 false rfl rfl rfl (List.Mem.head _) (op_load_e _ _ _ _ _ _ Try.underlying3 rfl rfl rfl (map_get hv36)),
                    st_run 5 75 false rfl rfl rfl (List.Mem.head _) (op_move _ _ _ _ rfl rfl),
                    st_run 5 75 false rfl rfl rfl (List.Mem.head _) (op_move _ _ _ _ rfl rfl),
                    st_run 5 75 false rfl rfl rfl (List.Mem.head _) (op_ix _ _ _ _ _ _ _ _ Try.underlying22 sz3 (by decide) rfl rfl rfl (ix_ok hv37).1 (map_lt (ix_ok hv37).2) rfl),
                    st_run 5 75 false rfl rfl rfl (List.Mem.head _) (op_load_e _ _ _ _ _ _ Try.underlying3 rfl rfl rfl (map_get hv38)),
                    st_run 5 75 false rfl rfl rfl (List.Mem.head _) ((Option.some.inj hv39) ▸ op_conv _ _ _ Try.underlying3 Try.underlying37 rfl),
                    st_run 5 75 false rfl rfl rfl (List.Mem.head _) (op_bin _ _ _ _ _ rfl rfl (shl_ok hv40)),
                    st_run 5 75 false rfl rfl rfl (List.Mem.head _) (op_bin _ _ _ _ _ rfl rfl rfl),
                    st_plain rfl (op_pick _ _ false _ rfl rfl),
                    trivial⟩ ?_
                exact hl43 _ (Option.some.inj h).symm
  · intro u2 h hl3 hr4
    refine cond_some h (fun hg1_3 h => ?_) (fun hg1_3 h => ?_)
    · refine ht_seqR hn (El := [_, _, _, (9, .fl .shr 1 (List.map (Value.int .i64) l)), (10, .v (.int .i64 (l.length : Int))), (11, .v (.bool ((decide (300 < (l.length : Int)))))), (12, .v (.bool true)), (13, .v undef), (14, .v undef), (15, .v undef), (16, .v (.bool true))]) (init := [0, 1, 2]) (fin := [0, 1, 2, 10]) (sps := [⟨[0], [], [3], [(.slot 9)]⟩, ⟨[3], [], [4], [(.slot 10)]⟩, ⟨[4], [], [5], [(.slot 11)]⟩, ⟨[5], [], [6], [(.slot 12)]⟩, ⟨[6], [], [7], [(.slot 13)]⟩, ⟨[6], [], [8], [(.slot 14)]⟩, ⟨[6], [], [9], [(.slot 15)]⟩, ⟨[6], [], [10], [(.slot 16)]⟩]) (es' := [(_, _), (_, _), (_, _), (16, .v (.bool true))]) (by kernel_rfl) rfl rfl
        ⟨st_plain rfl (op_move _ _ _ _ rfl rfl),
          st_plain rfl (op_len_fl _ _ _ Try.underlying22 rfl (by decide) (map_len _)),
          st_plain rfl (op_bin _ _ _ _ _ rfl rfl rfl),
          st_plain rfl (op_move _ _ _ _ (congrArg (fun b => AV.v (Value.bool b)) hg1_3) rfl),
          st_skip 3 12 _ false rfl rfl rfl rfl (List.Mem.head _),
          st_skip 3 12 _ false rfl rfl rfl rfl (List.Mem.head _),
          st_skip 3 12 _ false rfl rfl rfl rfl (List.Mem.head _),
          st_plain rfl (op_pick _ _ true _ rfl rfl),
          trivial⟩ ?_
      exact hl3 _ (Option.some.inj h).symm
    · refine ht_seqR hn (El := [_, _, _, (9, .fl .shr 1 (List.map (Value.int .i64) l)), (10, .v (.int .i64 (l.length : Int))), (11, .v (.bool ((decide (300 < (l.length : Int)))))), (12, .v (.bool false)), (13, .fl .shr 1 (List.map (Value.int .i64) l)), (14, .v (.int .i64 (l.length : Int))), (15, .v (.bool (((l.length : Int) == 0)))), (16, .v (.bool (((l.length : Int) == 0))))]) (init := [0, 1, 2]) (fin := [0, 1, 2, 10]) (sps := [⟨[0], [], [3], [(.slot 9)]⟩, ⟨[3], [], [4], [(.slot 10)]⟩, ⟨[4], [], [5], [(.slot 11)]⟩, ⟨[5], [], [6], [(.slot 12)]⟩, ⟨[6, 0], [], [7], [(.slot 13)]⟩, ⟨[6, 7], [], [8], [(.slot 14)]⟩, ⟨[6, 8], [], [9], [(.slot 15)]⟩, ⟨[6, 9], [], [10], [(.slot 16)]⟩]) (es' := [(_, _), (_, _), (_, _), (16, .v (.bool (((l.length : Int) == 0))))]) (by kernel_rfl) rfl rfl
        ⟨st_plain rfl (op_move _ _ _ _ rfl rfl),
          st_plain rfl (op_len_fl _ _ _ Try.underlying22 rfl (by decide) (map_len _)),
          st_plain rfl (op_bin _ _ _ _ _ rfl rfl rfl),
          st_plain rfl (op_move _ _ _ _ (congrArg (fun b => AV.v (Value.bool b)) hg1_3) rfl),
          st_run 3 12 false rfl rfl rfl (List.Mem.head _) (op_move _ _ _ _ rfl rfl),
          st_run 3 12 false rfl rfl rfl (List.Mem.head _) (op_len_fl _ _ _ Try.underlying22 rfl (by decide) (map_len _)),
          st_run 3 12 false rfl rfl rfl (List.Mem.head _) (op_bin _ _ _ _ _ rfl rfl rfl),
          st_plain rfl (op_pick _ _ false _ rfl rfl),
          trivial⟩ ?_
      exact hl3 _ (Option.some.inj h).symm

set_option maxHeartbeats 1000000 in
theorem ok_bits_fits (v : Int) (n : Int) (r : Bool) (h : Sh.bits_fits v n = some r) : FnOK Try.prog 35 [.v (.int .i64 v), .v (.int .i64 n)] (.v (.bool r)) := by
  unfold Sh.bits_fits at h
  refine fn_ok Try.func35 rfl (Nat.le_of_ble_eq_true rfl) rfl rfl fun g0 hn hio => ?_
  refine ht_seq ?_
  refine ht_seqR hn (El := [_, _, (4, .v (.bool false))]) (init := [0, 1]) (fin := [0, 1]) (sps := [⟨[], [], [2], [(.slot 4)]⟩]) (es' := [(_, _), (_, _)]) (by kernel_rfl) rfl rfl
    ⟨st_plain rfl (op_assign _ _ _ _ rfl rfl),
      trivial⟩ ?_
  refine pt_then ?_
  refine ht_seq ?_
  refine ht_joinS h (fun (s2 : Bool) => [(4, .v (.bool s2))]) ?_ ?_
  · rintro s2 h
    refine pt_then ?_
    refine ht_ret ?_
    obtain rfl := Option.some.inj h
    exact pt_ret hio rfl (.tmp _ _ .nil) rfl rfl
  · intro u3 h hl4 hr5
    refine cond_some h (fun hg1_2 h => ?_) (fun hg1_2 h => ?_)
    · refine cond_some h (fun hg1_6 h => ?_) (fun hg1_6 h => ?_)
      · refine cond_some h (fun hg1_10 h => ?_) (fun hg1_10 h => ?_)
        · obtain ⟨v1, hv1, h⟩ := bind_some h
          refine ht_seqR hn (El := (_ :: _ :: (5, .v (.int .i64 n)) :: (6, .v (.bool ((decide (0 ≤ n))))) :: (7, .v (.bool true)) :: (8, .v (.int .i64 n)) :: (9, .v (.bool ((decide (n ≤ 24))))) :: (10, .v (.bool ((decide (n ≤ 24))))) :: (11, .v (.bool true)) :: (12, .v (.int .i64 v)) :: (13, .v (.bool ((decide (0 ≤ v))))) :: (14, .v (.bool ((decide (0 ≤ v))))) :: (15, .v (.bool true)) :: (16, .v (.int .i64 v)) :: (17, .v (.int .i64 n)) :: (18, .v (.int .i64 v1)) :: (19, .v (.bool ((decide (v < v1))))) :: (20, .v (.bool ((decide (v < v1))))) :: (4, .v (.bool ((decide (v < v1))))) :: [])) (init := [0, 1]) (fin := [18]) (sps := (⟨[1], [], [2], [(.slot 5)]⟩ :: ⟨[2], [], [3], [(.slot 6)]⟩ :: ⟨[3], [], [4], [(.slot 7)]⟩ :: ⟨[4, 1], [], [5], [(.slot 8)]⟩ :: ⟨[4, 5], [], [6], [(.slot 9)]⟩ :: ⟨[4, 6], [], [7], [(.slot 10)]⟩ :: ⟨[7], [], [8], [(.slot 11)]⟩ :: ⟨[8, 0], [], [9], [(.slot 12)]⟩ :: ⟨[8, 9], [], [10], [(.slot 13)]⟩ :: ⟨[8, 10], [], [11], [(.slot 14)]⟩ :: ⟨[11], [], [12], [(.slot 15)]⟩ :: ⟨[12, 0], [], [13], [(.slot 16)]⟩ :: ⟨[12, 1], [], [14], [(.slot 17)]⟩ :: ⟨[12, 14], [], [15], [(.slot 18)]⟩ :: ⟨[12, 13, 15], [], [16], [(.slot 19)]⟩ :: ⟨[12, 16], [], [17], [(.slot 20)]⟩ :: ⟨[17], [], [18], [(.slot 4)]⟩ :: [])) (es' := [(4, .v (.bool ((decide (v < v1)))))]) (by kernel_rfl) rfl rfl
            ⟨st_plain rfl (op_move _ _ _ _ rfl rfl),
              st_plain rfl (op_bin _ _ _ _ _ rfl rfl rfl),
              st_plain rfl (op_move _ _ _ _ (congrArg (fun b => AV.v (Value.bool b)) hg1_2) rfl),
              st_run 2 7 true rfl rfl rfl (List.Mem.head _) (op_move _ _ _ _ rfl rfl),
              st_run 2 7 true rfl rfl rfl (List.Mem.head _) (op_bin _ _ _ _ _ rfl rfl rfl),
              st_plain rfl (op_pick _ _ true _ rfl rfl),
              st_plain rfl (op_move _ _ _ _ (congrArg (fun b => AV.v (Value.bool b)) hg1_6) rfl),
              st_run 6 11 true rfl rfl rfl (List.Mem.head _) (op_move _ _ _ _ rfl rfl),
              st_run 6 11 true rfl rfl rfl (List.Mem.head _) (op_bin _ _ _ _ _ rfl rfl rfl),
              st_plain rfl (op_pick _ _ true _ rfl rfl),
              st_plain rfl (op_move _ _ _ _ (congrArg (fun b => AV.v (Value.bool b)) hg1_10) rfl),
              st_run 10 15 true rfl rfl rfl (List.Mem.head _) (op_move _ _ _ _ rfl rfl),
              st_run 10 15 true rfl rfl rfl (List.Mem.head _) (op_move _ _ _ _ rfl rfl),
              st_run 10 15 true rfl rfl rfl (List.Mem.head _) (op_bin _ _ _ _ _ rfl rfl (shl_ok hv1)),
              st_run 10 15 true rfl rfl rfl (List.Mem.head _) (op_bin _ _ _ _ _ rfl rfl rfl),
              st_plain rfl (op_pick _ _ true _ rfl rfl),
              st_plain rfl (op_assign _ _ _ _ rfl rfl),
              trivial⟩ ?_
          exact hl4 _ (Option.some.inj h).symm
        · refine ht_seqR hn (El := (_ :: _ :: (5, .v (.int .i64 n)) :: (6, .v (.bool ((decide (0 ≤ n))))) :: (7, .v (.bool true)) :: (8, .v (.int .i64 n)) :: (9, .v (.bool ((decide (n ≤ 24))))) :: (10, .v (.bool ((decide (n ≤ 24))))) :: (11, .v (.bool true)) :: (12, .v (.int .i64 v)) :: (13, .v (.bool ((decide (0 ≤ v))))) :: (14, .v (.bool ((decide (0 ≤ v))))) :: (15, .v (.bool false)) :: (16, .v undef) :: (17, .v undef) :: (18, .v undef) :: (19, .v undef) :: (20, .v (.bool false)) :: (4, .v (.bool false)) :: [])) (init := [0, 1]) (fin := [18]) (sps := (⟨[1], [], [2], [(.slot 5)]⟩ :: ⟨[2], [], [3], [(.slot 6)]⟩ :: ⟨[3], [], [4], [(.slot 7)]⟩ :: ⟨[4, 1], [], [5], [(.slot 8)]⟩ :: ⟨[4, 5], [], [6], [(.slot 9)]⟩ :: ⟨[4, 6], [], [7], [(.slot 10)]⟩ :: ⟨[7], [], [8], [(.slot 11)]⟩ :: ⟨[8, 0], [], [9], [(.slot 12)]⟩ :: ⟨[8, 9], [], [10], [(.slot 13)]⟩ :: ⟨[8, 10], [], [11], [(.slot 14)]⟩ :: ⟨[11], [], [12], [(.slot 15)]⟩ :: ⟨[12], [], [13], [(.slot 16)]⟩ :: ⟨[12], [], [14], [(.slot 17)]⟩ :: ⟨[12], [], [15], [(.slot 18)]⟩ :: ⟨[12], [], [16], [(.slot 19)]⟩ :: ⟨[12], [], [17], [(.slot 20)]⟩ :: ⟨[17], [], [18], [(.slot 4)]⟩ :: [])) (es' := [(4, .v (.bool false))]) (by kernel_rfl) rfl rfl
            ⟨st_plain rfl (op_move _ _ _ _ rfl rfl),
              st_plain rfl (op_bin _ _ _ _ _ rfl rfl rfl),
              st_plain rfl (op_move _ _ _ _ (congrArg (fun b => AV.v (Value.bool b)) hg1_2) rfl),
              st_run 2 7 true rfl rfl rfl (List.Mem.head _) (op_move _ _ _ _ rfl rfl),
              st_run 2 7 true rfl rfl rfl (List.Mem.head _) (op_bin _ _ _ _ _ rfl rfl rfl),
              st_plain rfl (op_pick _ _ true _ rfl rfl),
              st_plain rfl (op_move _ _ _ _ (congrArg (fun b => AV.v (Value.bool b)) hg1_6) rfl),
              st_run 6 11 true rfl rfl rfl (List.Mem.head _) (op_move _ _ _ _ rfl rfl),
              st_run 6 11 true rfl rfl rfl (List.Mem.head _) (op_bin _ _ _ _ _ rfl rfl rfl),
              st_plain rfl (op_pick _ _ true _ rfl rfl),
              st_plain rfl (op_move _ _ _ _ (congrArg (fun b => AV.v (Value.bool b)) hg1_10) rfl),
              st_skip 10 15 _ true rfl rfl rfl rfl (List.Mem.head _),
              st_skip 10 15 _ true rfl rfl rfl rfl (List.Mem.head _),
              st_skip 10 15 _ true rfl rfl rfl rfl (List.Mem.head _),
              st_skip 10 15 _ true rfl rfl rfl rfl (List.Mem.head _),
              st_plain rfl (op_pick _ _ false _ rfl rfl),
              st_plain rfl (op_assign _ _ _ _ rfl rfl),
              trivial⟩ ?_
          exact hl4 _ (Option.some.inj h).symm
      · refine ht_seqR hn (El := (_ :: _ :: (5, .v (.int .i64 n)) :: (6, .v (.bool ((decide (0 ≤ n))))) :: (7, .v (.bool true)) :: (8, .v (.int .i64 n)) :: (9, .v (.bool ((decide (n ≤ 24))))) :: (10, .v (.bool ((decide (n ≤ 24))))) :: (11, .v (.bool false)) :: (12, .v undef) :: (13, .v undef) :: (14, .v (.bool false)) :: (15, .v (.bool false)) :: (16, .v undef) :: (17, .v undef) :: (18, .v undef) :: (19, .v undef) :: (20, .v (.bool false)) :: (4, .v (.bool false)) :: [])) (init := [0, 1]) (fin := [18]) (sps := (⟨[1], [], [2], [(.slot 5)]⟩ :: ⟨[2], [], [3], [(.slot 6)]⟩ :: ⟨[3], [], [4], [(.slot 7)]⟩ :: ⟨[4, 1], [], [5], [(.slot 8)]⟩ :: ⟨[4, 5], [], [6], [(.slot 9)]⟩ :: ⟨[4, 6], [], [7], [(.slot 10)]⟩ :: ⟨[7], [], [8], [(.slot 11)]⟩ :: ⟨[8], [], [9], [(.slot 12)]⟩ :: ⟨[8], [], [10], [(.slot 13)]⟩ :: ⟨[8], [], [11], [(.slot 14)]⟩ :: ⟨[11], [], [12], [(.slot 15)]⟩ :: ⟨[12], [], [13], [(.slot 16)]⟩ :: ⟨[12], [], [14], [(.slot 17)]⟩ :: ⟨[12], [], [15], [(.slot 18)]⟩ :: ⟨[12], [], [16], [(.slot 19)]⟩ :: ⟨[12], [], [17], [(.slot 20)]⟩ :: ⟨[17], [], [18], [(.slot 4)]⟩ :: [])) (es' := [(4, .v (.bool false))]) (by kernel_rfl) rfl rfl
          ⟨st_plain rfl (op_move _ _ _ _ rfl rfl),
            st_plain rfl (op_bin _ _ _ _ _ rfl rfl rfl),
            st_plain rfl (op_move _ _ _ _ (congrArg (fun b => AV.v (Value.bool b)) hg1_2) rfl),
            st_run 2 7 true rfl rfl rfl (List.Mem.head _) (op_move _ _ _ _ rfl rfl),
            st_run 2 7 true rfl rfl rfl (List.Mem.head _) (op_bin _ _ _ _ _ rfl rfl rfl),
            st_plain rfl (op_pick _ _ true _ rfl rfl),
            st_plain rfl (op_move _ _ _ _ (congrArg (fun b => AV.v (Value.bool b)) hg1_6) rfl),
            st_skip 6 11 _ true rfl rfl rfl rfl (List.Mem.head _),
            st_skip 6 11 _ true rfl rfl rfl rfl (List.Mem.head _),
            st_plain rfl (op_pick _ _ false _ rfl rfl),
            st_plain rfl (op_move _ _ _ _ rfl rfl),
            st_skip 10 15 _ true rfl rfl rfl rfl (List.Mem.head _),
            st_skip 10 15 _ true rfl rfl rfl rfl (List.Mem.head _),
            st_skip 10 15 _ true rfl rfl rfl rfl (List.Mem.head _),
            st_skip 10 15 _ true rfl rfl rfl rfl (List.Mem.head _),
            st_plain rfl (op_pick _ _ false _ rfl rfl),
            st_plain rfl (op_assign _ _ _ _ rfl rfl),
            trivial⟩ ?_
        exact hl4 _ (Option.some.inj h).symm
    · refine ht_seqR hn (El := (_ :: _ :: (5, .v (.int .i64 n)) :: (6, .v (.bool ((decide (0 ≤ n))))) :: (7, .v (.bool false)) :: (8, .v undef) :: (9, .v undef) :: (10, .v (.bool false)) :: (11, .v (.bool false)) :: (12, .v undef) :: (13, .v undef) :: (14, .v (.bool false)) :: (15, .v (.bool false)) :: (16, .v undef) :: (17, .v undef) :: (18, .v undef) :: (19, .v undef) :: (20, .v (.bool false)) :: (4, .v (.bool false)) :: [])) (init := [0, 1]) (fin := [18]) (sps := (⟨[1], [], [2], [(.slot 5)]⟩ :: ⟨[2], [], [3], [(.slot 6)]⟩ :: ⟨[3], [], [4], [(.slot 7)]⟩ :: ⟨[4], [], [5], [(.slot 8)]⟩ :: ⟨[4], [], [6], [(.slot 9)]⟩ :: ⟨[4], [], [7], [(.slot 10)]⟩ :: ⟨[7], [], [8], [(.slot 11)]⟩ :: ⟨[8], [], [9], [(.slot 12)]⟩ :: ⟨[8], [], [10], [(.slot 13)]⟩ :: ⟨[8], [], [11], [(.slot 14)]⟩ :: ⟨[11], [], [12], [(.slot 15)]⟩ :: ⟨[12], [], [13], [(.slot 16)]⟩ :: ⟨[12], [], [14], [(.slot 17)]⟩ :: ⟨[12], [], [15], [(.slot 18)]⟩ :: ⟨[12], [], [16], [(.slot 19)]⟩ :: ⟨[12], [], [17], [(.slot 20)]⟩ :: ⟨[17], [], [18], [(.slot 4)]⟩ :: [])) (es' := [(4, .v (.bool false))]) (by kernel_rfl) rfl rfl
        ⟨st_plain rfl (op_move _ _ _ _ rfl rfl),
          st_plain rfl (op_bin _ _ _ _ _ rfl rfl rfl),
          st_plain rfl (op_move _ _ _ _ (congrArg (fun b => AV.v (Value.bool b)) hg1_2) rfl),
          st_skip 2 7 _ true rfl rfl rfl rfl (List.Mem.head _),
          st_skip 2 7 _ true rfl rfl rfl rfl (List.Mem.head _),
          st_plain rfl (op_pick _ _ false _ rfl rfl),
          st_plain rfl (op_move _ _ _ _ rfl rfl),
          st_skip 6 11 _ true rfl rfl rfl rfl (List.Mem.head _),
          st_skip 6 11 _ true rfl rfl rfl rfl (List.Mem.head _),
          st_plain rfl (op_pick _ _ false _ rfl rfl),
          st_plain rfl (op_move _ _ _ _ rfl rfl),
          st_skip 10 15 _ true rfl rfl rfl rfl (List.Mem.head _),
          st_skip 10 15 _ true rfl rfl rfl rfl (List.Mem.head _),
          st_skip 10 15 _ true rfl rfl rfl rfl (List.Mem.head _),
          st_skip 10 15 _ true rfl rfl rfl rfl (List.Mem.head _),
          st_plain rfl (op_pick _ _ false _ rfl rfl),
          st_plain rfl (op_assign _ _ _ _ rfl rfl),
          trivial⟩ ?_
      exact hl4 _ (Option.some.inj h).symm

set_option maxHeartbeats 1000000 in
theorem ok_bits_Turn (v : Int) (n : Int) (r : (Int × Int)) (h : Sh.bits_Turn v n = some r) : FnOK Try.prog 22 [.v (.int .i64 v), .v (.int .i64 n)] (.tup [.v (.int .i64 r.1), .v (.int .i64 r.2)]) := by
  unfold Sh.bits_Turn at h
  refine fn_ok Try.func22 rfl (Nat.le_of_ble_eq_true rfl) rfl rfl fun g0 hn hio => ?_
  refine ht_seq ?_
  refine ht_seqR hn (El := [_, _, (4, .v (.int .i64 0)), (5, .v (.int .i64 0))]) (init := [0, 1]) (fin := [0, 1]) (sps := [⟨[], [], [2], [(.slot 4)]⟩, ⟨[], [], [3], [(.slot 5)]⟩]) (es' := [(_, _), (_, _)]) (by kernel_rfl) rfl rfl
    ⟨st_plain rfl (op_assign _ _ _ _ rfl rfl),
      st_plain rfl (op_assign _ _ _ _ rfl rfl),
      trivial⟩ ?_
  refine pt_then ?_
  refine ht_seq ?_
  refine ht_seq ?_
  obtain ⟨v1, hv1, h⟩ := bind_some h
  refine ht_seqR hn (El := [_, _, (8, .v (.int .i64 v)), (9, .v (.int .i64 n)), (10, .v (.bool v1)), (11, .v (.bool (!v1)))]) (init := [0, 1]) (fin := [0, 1, 5]) (sps := [⟨[0], [], [2], [(.slot 8)]⟩, ⟨[1], [], [3], [(.slot 9)]⟩, ⟨[2, 3], [], [4], [(.slot 10)]⟩, ⟨[4], [], [5], [(.slot 11)]⟩]) (es' := [(_, _), (_, _), (11, .v (.bool (!v1)))]) (by kernel_rfl) rfl rfl
    ⟨st_plain rfl (op_move _ _ _ _ rfl rfl),
      st_plain rfl (op_move _ _ _ _ rfl rfl),
      st_plain rfl (op_call _ _ 35 _ _ rfl Try.call35 rfl (ok_bits_fits v n _ hv1) rfl rfl),
      st_plain rfl (op_un _ _ _ _ rfl rfl),
      trivial⟩ ?_
  refine pt_then ?_
  refine ht_cond _ rfl (fun hb2 => ?_) (fun hb2 => ?_)
  · have h := cond_t hb2 h
    refine ht_seq ?_
    refine ht_seqR hn (El := [_, _, _, (4, .v (.int .i64 0)), (5, .v (.int .i64 1))]) (init := [0, 1, 2]) (fin := [3, 4]) (sps := [⟨[], [], [3], [(.slot 4)]⟩, ⟨[], [], [4], [(.slot 5)]⟩]) (es' := [(4, .v (.int .i64 0)), (5, .v (.int .i64 1))]) (by kernel_rfl) rfl rfl
      ⟨st_plain rfl (op_assign _ _ _ _ rfl rfl),
        st_plain rfl (op_assign _ _ _ _ rfl rfl),
        trivial⟩ ?_
    refine pt_then ?_
    refine ht_ret ?_
    refine pt_r_then ?_
    obtain rfl := Option.some.inj h
    exact pt_ret hio rfl (.tmp _ _ (.tmp _ _ .nil)) rfl rfl
  · have h := cond_f hb2 h
    refine ht_skip ?_
    refine pt_then ?_
    refine ht_seq ?_
    refine ht_seqR hn (El := [_, _, _, (6, .v (.int .u32 0))]) (init := [0, 1, 2]) (fin := [0, 1, 3]) (sps := [⟨[], [], [3], [(.slot 6)]⟩]) (es' := [(_, _), (_, _), (6, .v (.int .u32 0))]) (by kernel_rfl) rfl rfl
      ⟨st_plain rfl (op_assign _ _ _ _ rfl rfl),
        trivial⟩ ?_
    refine pt_then ?_
    refine ht_seq ?_
    refine ht_seq ?_
    obtain ⟨v3, hv3, h⟩ := bind_some h
    refine ht_seqR hn (El := [_, _, _, (12, .v (.int .i64 v)), (13, .v (.int .u32 v3)), (7, .v (.int .u32 v3))]) (init := [0, 1, 2]) (fin := [1, 2, 5]) (sps := [⟨[0], [], [3], [(.slot 12)]⟩, ⟨[3], [], [4], [(.slot 13)]⟩, ⟨[4], [], [5], [(.slot 7)]⟩]) (es' := [(_, _), (_, _), (7, .v (.int .u32 v3))]) (by kernel_rfl) rfl rfl
      ⟨st_plain rfl (op_move _ _ _ _ rfl rfl),
        st_plain rfl ((Option.some.inj hv3) ▸ op_conv _ _ _ Try.underlying3 Try.underlying58 rfl),
        st_plain rfl (op_assign _ _ _ _ rfl rfl),
        trivial⟩ ?_
    refine pt_then ?_
    refine ht_loopS h (fun ((s14, s15, s16) : Int × Int × Int) => [(1, .v (.int .i64 s14)), (6, .v (.int .u32 s15)), (7, .v (.int .u32 s16))]) (fun (s18 : Int) => [(6, .v (.int .u32 s18))]) ?_ ?_
    · rintro s18 h
      refine pt_then ?_
      refine ht_seq ?_
      obtain ⟨v26, hv26, h⟩ := bind_some h
      refine ht_seqR hn (El := [_, (25, .v (.int .u32 s18)), (26, .v (.int .i64 v26)), (4, .v (.int .i64 v26)), (5, .v (.int .i64 0))]) (init := [0]) (fin := [3, 4]) (sps := [⟨[0], [], [1], [(.slot 25)]⟩, ⟨[1], [], [2], [(.slot 26)]⟩, ⟨[2], [], [3], [(.slot 4)]⟩, ⟨[], [], [4], [(.slot 5)]⟩]) (es' := [(4, .v (.int .i64 v26)), (5, .v (.int .i64 0))]) (by kernel_rfl) rfl rfl
        ⟨st_plain rfl (op_move _ _ _ _ rfl rfl),
          st_plain rfl ((Option.some.inj hv26) ▸ op_conv _ _ _ Try.underlying58 Try.underlying3 rfl),
          st_plain rfl (op_assign _ _ _ _ rfl rfl),
          st_plain rfl (op_assign _ _ _ _ rfl rfl),
          trivial⟩ ?_
      refine pt_then ?_
      refine ht_ret ?_
      obtain rfl := Option.some.inj h
      exact pt_ret hio rfl (.tmp _ _ (.tmp _ _ .nil)) rfl rfl
    · rintro u19 hl20 hr21 ⟨s14, s15, s16⟩ rr24 h ho22
      refine ht_seq ?_
      refine ht_seq ?_
      refine ht_seqR hn (El := [_, _, _, (14, .v (.int .i64 s14)), (15, .v (.bool ((decide (0 < s14)))))]) (init := [0, 1, 2]) (fin := [0, 1, 2, 4]) (sps := [⟨[0], [], [3], [(.slot 14)]⟩, ⟨[3], [], [4], [(.slot 15)]⟩]) (es' := [(_, _), (_, _), (_, _), (15, .v (.bool ((decide (0 < s14)))))]) (by kernel_rfl) rfl rfl
        ⟨st_plain rfl (op_move _ _ _ _ rfl rfl),
          st_plain rfl (op_bin _ _ _ _ _ rfl rfl rfl),
          trivial⟩ ?_
      refine pt_then ?_
      refine ht_cond _ rfl (fun hb25 => ?_) (fun hb25 => ?_)
      · have h := cond_t hb25 h
        refine ht_skip ?_
        refine pt_then ?_
        refine ht_seq ?_
        refine ht_block ?_
        refine ht_seq ?_
        obtain ⟨v5, hv5, h⟩ := bind_some h
        obtain ⟨v6, hv6, h⟩ := bind_some h
        obtain ⟨v7, hv7, h⟩ := bind_some h
        refine ht_seqR hn (El := [_, _, _, _, (18, .v (.int .u32 s15)), (19, .v (.int .u32 v5)), (20, .v (.int .u32 s16)), (21, .v (.int .u32 v6)), (22, .v (.int .u32 v7)), (6, .v (.int .u32 v7))]) (init := [0, 1, 2, 3]) (fin := [0, 2, 9]) (sps := [⟨[1], [], [4], [(.slot 18)]⟩, ⟨[4], [], [5], [(.slot 19)]⟩, ⟨[2], [], [6], [(.slot 20)]⟩, ⟨[6], [], [7], [(.slot 21)]⟩, ⟨[5, 7], [], [8], [(.slot 22)]⟩, ⟨[8], [1], [9], [(.slot 6)]⟩]) (es' := [(_, _), (_, _), (6, .v (.int .u32 v7))]) (by kernel_rfl) rfl rfl
          ⟨st_plain rfl (op_move _ _ _ _ rfl rfl),
            st_plain rfl (op_bin _ _ _ _ _ rfl rfl (shl_ok hv5)),
            st_plain rfl (op_move _ _ _ _ rfl rfl),
            st_plain rfl (op_bin _ _ _ _ _ rfl rfl (ibind (f := Value.int .u32) (Option.some.inj hv6))),
            st_plain rfl (op_bin _ _ _ _ _ rfl rfl (ibind (f := Value.int .u32) (Option.some.inj hv7))),
            st_plain rfl (LOp.drop [_] (op_assign _ _ _ _ rfl rfl)),
            trivial⟩ ?_
        refine pt_then ?_
        obtain ⟨v8, hv8, h⟩ := bind_some h
        refine ht_seqR hn (El := [_, _, _, (23, .v (.int .u32 s16)), (24, .v (.int .u32 v8)), (7, .v (.int .u32 v8))]) (init := [0, 1, 2]) (fin := [0, 2, 5]) (sps := [⟨[1], [], [3], [(.slot 23)]⟩, ⟨[3], [], [4], [(.slot 24)]⟩, ⟨[4], [1], [5], [(.slot 7)]⟩]) (es' := [(_, _), (_, _), (7, .v (.int .u32 v8))]) (by kernel_rfl) rfl rfl
          ⟨st_plain rfl (op_move _ _ _ _ rfl rfl),
            st_plain rfl (op_bin _ _ _ _ _ rfl rfl (shr_ok hv8)),
            st_plain rfl (LOp.drop [_] (op_assign _ _ _ _ rfl rfl)),
            trivial⟩ ?_
        refine pt_inb ?_
        refine pt_then ?_
        obtain ⟨v9, hv9, h⟩ := bind_some h
        refine ht_seqR hn (El := [_, _, _, (16, .v (.int .i64 s14)), (17, .v (.int .i64 v9)), (1, .v (.int .i64 v9))]) (init := [0, 1, 2]) (fin := [1, 2, 5]) (sps := [⟨[0], [], [3], [(.slot 16)]⟩, ⟨[3], [], [4], [(.slot 17)]⟩, ⟨[4], [0], [5], [(.slot 1)]⟩]) (es' := [(_, _), (_, _), (1, .v (.int .i64 v9))]) (by kernel_rfl) rfl rfl
          ⟨st_plain rfl (op_move _ _ _ _ rfl rfl),
            st_plain rfl (op_bin _ _ _ _ _ rfl rfl (ibind (f := Value.int .i64) (Option.some.inj hv9))),
            st_plain rfl (LOp.drop [_] (op_assign _ _ _ _ rfl rfl)),
            trivial⟩ ?_
        refine pt_pick [2, 0, 1] (by kernel_rfl) (es' := [(_, _), (_, _), (_, _)]) rfl ?_
        exact pt_next _ (Option.some.inj h).symm rfl
      · have h := cond_f hb25 h
        refine ht_exit ?_
        refine pt_x_then ?_
        refine pt_x_then ?_
        refine pt_x_in ?_
        refine pt_pick [1] (by kernel_rfl) (es' := [(_, _)]) rfl ?_
        exact hl20 _ (ho22 _ (Option.some.inj h).symm).symm

set_option maxHeartbeats 1000000 in
theorem ok_bits_bytesFor (n : Int) (r : Int) (h : Sh.bits_bytesFor n = some r) : FnOK Try.prog 37 [.v (.int .i64 n)] (.v (.int .i64 r)) := by
  unfold Sh.bits_bytesFor at h
  refine fn_ok Try.func37 rfl (Nat.le_of_ble_eq_true rfl) rfl rfl fun g0 hn hio => ?_
  refine ht_seq ?_
  refine ht_seqR hn (El := [_, (2, .v (.int .i64 0))]) (init := [0]) (fin := [0]) (sps := [⟨[], [], [1], [(.slot 2)]⟩]) (es' := [(_, _)]) (by kernel_rfl) rfl rfl
    ⟨st_plain rfl (op_assign _ _ _ _ rfl rfl),
      trivial⟩ ?_
  refine pt_then ?_
  refine ht_seq ?_
  obtain ⟨v1, hv1, h⟩ := bind_some h
  obtain ⟨v2, hv2, h⟩ := bind_some h
  refine ht_seqR hn (El := [_, (3, .v (.int .i64 n)), (4, .v (.int .i64 v1)), (5, .v (.int .i64 v2)), (2, .v (.int .i64 v2))]) (init := [0]) (fin := [4]) (sps := [⟨[0], [], [1], [(.slot 3)]⟩, ⟨[1], [], [2], [(.slot 4)]⟩, ⟨[2], [], [3], [(.slot 5)]⟩, ⟨[3], [], [4], [(.slot 2)]⟩]) (es' := [(2, .v (.int .i64 v2))]) (by kernel_rfl) rfl rfl
    ⟨st_plain rfl (op_move _ _ _ _ rfl rfl),
      st_plain rfl (op_bin _ _ _ _ _ rfl rfl (ibind (f := Value.int .i64) (Option.some.inj hv1))),
      st_plain rfl (op_bin _ _ _ _ _ rfl rfl (quo_ok hv2)),
      st_plain rfl (op_assign _ _ _ _ rfl rfl),
      trivial⟩ ?_
  refine pt_then ?_
  refine ht_ret ?_
  obtain rfl := Option.some.inj h
  exact pt_ret hio rfl (.tmp _ _ .nil) rfl rfl

set_option maxHeartbeats 1000000 in
theorem ok_bits_Check (s : T_Bits) (r : Int) (h : Sh.bits_Check s = some r) : FnOK Try.prog 36 [.agg [.fl .shr 1 (List.map (Value.int .u8) s.B), .v (.int .i64 s.N)]] (.v (.int .i64 r)) := by
  unfold Sh.bits_Check at h
  refine fn_ok Try.func36 rfl (Nat.le_of_ble_eq_true rfl) rfl rfl fun g0 hn hio => ?_
  refine ht_seq ?_
  refine ht_seqR hn (El := [_, (1, .box 40 [.fl .shr 1 (List.map (Value.int .u8) s.B), .v (.int .i64 s.N)]), (2, .v (.int .i64 0))]) (init := [0]) (fin := [1]) (sps := [⟨[0], [], [1], [(.slot 1)]⟩, ⟨[], [], [2], [(.slot 2)]⟩]) (es' := [(1, .box 40 [.fl .shr 1 (List.map (Value.int .u8) s.B), .v (.int .i64 s.N)])]) (by kernel_rfl) rfl rfl
    ⟨st_plain rfl (op_box _ _ _ _ rfl rfl rfl),
      st_plain rfl (op_assign _ _ _ _ rfl rfl),
      trivial⟩ ?_
  refine pt_then ?_
  refine ht_seq ?_
  refine ht_seq ?_
  refine ht_joinS h (fun (s2 : Bool) => [(1, .box 40 [.fl .shr 1 (List.map (Value.int .u8) s.B), .v (.int .i64 s.N)]), (20, .v (.bool s2))]) ?_ ?_
  · rintro s2 h
    refine pt_then ?_
    refine ht_cond _ rfl (fun hb6 => ?_) (fun hb6 => ?_)
    · have h := cond_t hb6 h
      refine ht_seq ?_
      refine ht_seqR hn (El := [_, _, (2, .v (.int .i64 1))]) (init := [0, 1]) (fin := [2]) (sps := [⟨[], [], [2], [(.slot 2)]⟩]) (es' := [(2, .v (.int .i64 1))]) (by kernel_rfl) rfl rfl
        ⟨st_plain rfl (op_assign _ _ _ _ rfl rfl),
          trivial⟩ ?_
      refine pt_then ?_
      refine ht_ret ?_
      refine pt_r_then ?_
      obtain rfl := Option.some.inj h
      exact pt_ret hio rfl (.tmp _ _ .nil) rfl rfl
    · have h := cond_f hb6 h
      refine ht_skip ?_
      refine pt_then ?_
      refine ht_seq ?_
      refine ht_seq ?_
      obtain ⟨v7, hv7, h⟩ := bind_some h
      refine ht_seqR hn (El := [_, _, (21, .ptr 1 1), (22, .v (.int .i64 s.N)), (23, .v (.int .i64 v7)), (3, .v (.int .i64 v7))]) (init := [0, 1]) (fin := [0, 5]) (sps := [⟨[0], [], [2], [(.slot 21)]⟩, ⟨[2, 0], [], [3], [(.slot 22)]⟩, ⟨[3], [], [4], [(.slot 23)]⟩, ⟨[4], [], [5], [(.slot 3)]⟩]) (es' := [(_, _), (3, .v (.int .i64 v7))]) (by kernel_rfl) rfl rfl
        ⟨st_plain rfl (op_fieldAddr _ _ _ _ 1 0 _ Try.underlying40 rfl sz3 rfl rfl (by decide)),
          st_plain rfl (op_load _ _ _ _ _ _ Try.underlying3 rfl rfl rfl (Nat.le_of_ble_eq_true rfl) rfl rfl rfl),
          st_plain rfl (op_bin _ _ _ _ _ rfl rfl (rem_ok hv7)),
          st_plain rfl (op_assign _ _ _ _ rfl rfl),
          trivial⟩ ?_
      refine pt_then ?_
      refine ht_seq ?_
      refine ht_joinS h (fun (s12 : Bool) => [(38, .v (.bool s12))]) ?_ ?_
      · rintro s12 h
        refine pt_then ?_
        refine ht_cond _ rfl (fun hb16 => ?_) (fun hb16 => ?_)
        · have h := cond_t hb16 h
          refine ht_seq ?_
          refine ht_seqR hn (El := [_, (2, .v (.int .i64 1))]) (init := [0]) (fin := [1]) (sps := [⟨[], [], [1], [(.slot 2)]⟩]) (es' := [(2, .v (.int .i64 1))]) (by kernel_rfl) rfl rfl
            ⟨st_plain rfl (op_assign _ _ _ _ rfl rfl),
              trivial⟩ ?_
          refine pt_then ?_
          refine ht_ret ?_
          refine pt_r_then ?_
          obtain rfl := Option.some.inj h
          exact pt_ret hio rfl (.tmp _ _ .nil) rfl rfl
        · have h := cond_f hb16 h
          refine ht_skip ?_
          refine pt_then ?_
          refine ht_seq ?_
          refine ht_seqR hn (El := [_, (2, .v (.int .i64 0))]) (init := [0]) (fin := [1]) (sps := [⟨[], [], [1], [(.slot 2)]⟩]) (es' := [(2, .v (.int .i64 0))]) (by kernel_rfl) rfl rfl
            ⟨st_plain rfl (op_assign _ _ _ _ rfl rfl),
              trivial⟩ ?_
          refine pt_then ?_
          refine ht_ret ?_
          obtain rfl := Option.some.inj h
          exact pt_ret hio rfl (.tmp _ _ .nil) rfl rfl
      · intro u13 h hl14 hr15
        refine cond_some h (fun hg4_2 h => ?_) (fun hg4_2 h => ?_)
        · obtain ⟨v8, hv8, h⟩ := bind_some h
          obtain ⟨v9, hv9, h⟩ := bind_some h
          obtain ⟨v10, hv10, h⟩ := bind_some h
          obtain ⟨v11, hv11, h⟩ := bind_some h
          refine ht_seqR hn (El := (_ :: _ :: (24, .v (.int .i64 v7)) :: (25, .v (.bool (v7 != 0))) :: (26, .v (.bool true)) :: (27, .ptr 1 0) :: (28, .fl .shr 1 (List.map (Value.int .u8) s.B)) :: (29, .ptr 1 0) :: (30, .fl .shr 1 (List.map (Value.int .u8) s.B)) :: (31, .v (.int .i64 (s.B.length : Int))) :: (32, .v (.int .i64 v8)) :: (33, .eref (.slot 28) (v9 * 1)) :: (34, .v (.int .u8 v10)) :: (35, .v (.int .i64 v7)) :: (36, .v (.int .u8 v11)) :: (37, .v (.bool (v11 != 0))) :: (38, .v (.bool (v11 != 0))) :: [])) (init := [0, 1]) (fin := [16]) (sps := (⟨[1], [], [2], [(.slot 24)]⟩ :: ⟨[2], [], [3], [(.slot 25)]⟩ :: ⟨[3], [], [4], [(.slot 26)]⟩ :: ⟨[4, 0], [], [5], [(.slot 27)]⟩ :: ⟨[4, 5, 0], [], [6], [(.slot 28)]⟩ :: ⟨[4, 0], [], [7], [(.slot 29)]⟩ :: ⟨[4, 7, 0], [], [8], [(.slot 30)]⟩ :: ⟨[4, 8], [], [9], [(.slot 31)]⟩ :: ⟨[4, 9], [], [10], [(.slot 32)]⟩ :: ⟨[4, 6, 10], [], [11], [(.slot 33)]⟩ :: ⟨[4, 11, 6], [], [12], [(.slot 34)]⟩ :: ⟨[4, 1], [], [13], [(.slot 35)]⟩ :: ⟨[4, 12, 13], [], [14], [(.slot 36)]⟩ :: ⟨[4, 14], [], [15], [(.slot 37)]⟩ :: ⟨[4, 15], [], [16], [(.slot 38)]⟩ :: [])) (es' := [(38, .v (.bool (v11 != 0)))]) (by kernel_rfl) rfl rfl
            ⟨st_plain rfl (op_move _ _ _ _ rfl rfl),
              st_plain rfl (op_bin _ _ _ _ _ rfl rfl rfl),
              st_plain rfl (op_move _ _ _ _ (congrArg (fun b => AV.v (Value.bool b)) hg4_2) rfl),
              st_run 2 26 true rfl rfl rfl (List.Mem.head _) (op_fieldAddr _ _ _ _ 1 0 _ Try.underlying40 rfl sz23 rfl rfl (by decide)),
              st_run 2 26 true rfl rfl rfl (List.Mem.head _) (op_load _ _ _ _ _ _ Try.underlying23 rfl rfl rfl (Nat.le_of_ble_eq_true rfl) rfl rfl rfl),
              st_run 2 26 true rfl rfl rfl (List.Mem.head _) (op_fieldAddr _ _ _ _ 1 0 _ Try.underlying40 rfl sz23 rfl rfl (by decide)),
              st_run 2 26 true rfl rfl rfl (List.Mem.head _) (op_load _ _ _ _ _ _ Try.underlying23 rfl rfl rfl (Nat.le_of_ble_eq_true rfl) rfl rfl rfl),
              st_run 2 26 true rfl rfl rfl (List.Mem.head _) (op_len_fl _ _ _ Try.underlying23 rfl (by decide) (map_len _)),
              st_run 2 26 true rfl rfl rfl (List.Mem.head _) (op_bin _ _ _ _ _ rfl rfl (ibind (f := Value.int .i64) (Option.some.inj hv8))),
              st_run 2 26 true rfl rfl rfl (List.Mem.head _) (op_ix _ _ _ _ _ _ _ _ Try.underlying23 sz5 (by decide) rfl rfl rfl (ix_ok hv9).1 (map_lt (ix_ok hv9).2) rfl),
              st_run 2 26 true rfl rfl rfl (List.Mem.head _) (op_load_e _ _ _ _ _ _ Try.underlying5 rfl rfl rfl (map_get hv10)),
              st_run 2 26 true rfl rfl rfl (List.Mem.head _) (op_move _ _ _ _ rfl rfl),
              st_run 2 26 true rfl rfl rfl (List.Mem.head _) (op_bin _ _ _ _ _ rfl rfl (shr_ok hv11)),
              st_run 2 26 true rfl rfl rfl (List.Mem.head _) (op_bin _ _ _ _ _ rfl rfl rfl),
              st_plain rfl (op_pick _ _ true _ rfl rfl),
              trivial⟩ ?_
          exact hl14 _ (Option.some.inj h).symm
        · refine ht_seqR hn (El := (_ :: _ :: (24, .v (.int .i64 v7)) :: (25, .v (.bool (v7 != 0))) :: (26, .v (.bool false)) :: (27, .v undef) :: (28, .v undef) :: (29, .v undef) :: (30, .v undef) :: (31, .v undef) :: (32, .v undef) :: (33, .v undef) :: (34, .v undef) :: (35, .v undef) :: (36, .v undef) :: (37, .v undef) :: (38, .v (.bool false)) :: [])) (init := [0, 1]) (fin := [16]) (sps := (⟨[1], [], [2], [(.slot 24)]⟩ :: ⟨[2], [], [3], [(.slot 25)]⟩ :: ⟨[3], [], [4], [(.slot 26)]⟩ :: ⟨[4], [], [5], [(.slot 27)]⟩ :: ⟨[4], [], [6], [(.slot 28)]⟩ :: ⟨[4], [], [7], [(.slot 29)]⟩ :: ⟨[4], [], [8], [(.slot 30)]⟩ :: ⟨[4], [], [9], [(.slot 31)]⟩ :: ⟨[4], [], [10], [(.slot 32)]⟩ :: ⟨[4], [], [11], [(.slot 33)]⟩ :: ⟨[4], [], [12], [(.slot 34)]⟩ :: ⟨[4], [], [13], [(.slot 35)]⟩ :: ⟨[4], [], [14], [(.slot 36)]⟩ :: ⟨[4], [], [15], [(.slot 37)]⟩ :: ⟨[4], [], [16], [(.slot 38)]⟩ :: [])) (es' := [(38, .v (.bool false))]) (by kernel_rfl) rfl rfl
            ⟨st_plain rfl (op_move _ _ _ _ rfl rfl),
              st_plain rfl (op_bin _ _ _ _ _ rfl rfl rfl),
              st_plain rfl (op_move _ _ _ _ (congrArg (fun b => AV.v (Value.bool b)) hg4_2) rfl),
              st_skip 2 26 _ true rfl rfl rfl rfl (List.Mem.head _),
              st_skip 2 26 _ true rfl rfl rfl rfl (List.Mem.head _),
              st_skip 2 26 _ true rfl rfl rfl rfl (List.Mem.head _),
              st_skip 2 26 _ true rfl rfl rfl rfl (List.Mem.head _),
              st_skip 2 26 _ true rfl rfl rfl rfl (List.Mem.head _),
              st_skip 2 26 _ true rfl rfl rfl rfl (List.Mem.head _),
              st_skip 2 26 _ true rfl rfl rfl rfl (List.Mem.head _),
              st_skip 2 26 _ true rfl rfl rfl rfl (List.Mem.head _),
              st_skip 2 26 _ true rfl rfl rfl rfl (List.Mem.head _),
              st_skip 2 26 _ true rfl rfl rfl rfl (List.Mem.head _),
              st_skip 2 26 _ true rfl rfl rfl rfl (List.Mem.head _),
              st_plain rfl (op_pick _ _ false _ rfl rfl),
              trivial⟩ ?_
          exact hl14 _ (Option.some.inj h).symm
  · intro u3 h hl4 hr5
    refine cond_some h (fun hg1_3 h => ?_) (fun hg1_3 h => ?_)
    · refine ht_anyR (by kernel_rfl) hn (El := (_ :: (4, .ptr 1 1) :: (5, .v (.int .i64 s.N)) :: (6, .v (.bool ((decide (s.N < 0))))) :: (7, .v (.bool true)) :: (8, .v undef) :: (9, .v undef) :: (10, .v undef) :: (11, .v (.bool true)) :: (12, .v (.bool true)) :: (13, .v undef) :: (14, .v undef) :: (15, .v undef) :: (16, .v undef) :: (17, .v undef) :: (18, .v undef) :: (19, .v undef) :: (20, .v (.bool true)) :: [])) (init := [0]) (fin := [0, 17]) (sps := (⟨[0], [], [1], [(.slot 4)]⟩ :: ⟨[1, 0], [], [2], [(.slot 5)]⟩ :: ⟨[2], [], [3], [(.slot 6)]⟩ :: ⟨[3], [], [4], [(.slot 7)]⟩ :: ⟨[4], [], [5], [(.slot 8)]⟩ :: ⟨[4], [], [6], [(.slot 9)]⟩ :: ⟨[4], [], [7], [(.slot 10)]⟩ :: ⟨[4], [], [8], [(.slot 11)]⟩ :: ⟨[8], [], [9], [(.slot 12)]⟩ :: ⟨[9], [], [10], [(.slot 13)]⟩ :: ⟨[9], [], [11], [(.slot 14)]⟩ :: ⟨[9], [], [12], [(.slot 15)]⟩ :: ⟨[9], [], [13], [(.slot 16)]⟩ :: ⟨[9], [], [14], [(.slot 17)]⟩ :: ⟨[9], [], [15], [(.slot 18)]⟩ :: ⟨[9], [], [16], [(.slot 19)]⟩ :: ⟨[9], [], [17], [(.slot 20)]⟩ :: [])) (es' := [(_, _), (20, .v (.bool true))]) (by kernel_rfl) rfl rfl
        ⟨st_plain rfl (op_fieldAddr _ _ _ _ 1 0 _ Try.underlying40 rfl sz3 rfl rfl (by decide)),
          st_plain rfl (op_load _ _ _ _ _ _ Try.underlying3 rfl rfl rfl (Nat.le_of_ble_eq_true rfl) rfl rfl rfl),
          st_plain rfl (op_bin _ _ _ _ _ rfl rfl rfl),
          st_plain rfl (op_move _ _ _ _ (congrArg (fun b => AV.v (Value.bool b)) hg1_3) rfl),
          st_skip 3 7 _ false rfl rfl rfl rfl (List.Mem.head _),
          st_skip 3 7 _ false rfl rfl rfl rfl (List.Mem.head _),
          st_skip 3 7 _ false rfl rfl rfl rfl (List.Mem.head _),
          st_plain rfl (op_pick _ _ true _ rfl rfl),
          st_plain rfl (op_move _ _ _ _ rfl rfl),
          st_skip 8 12 _ false rfl rfl rfl rfl (List.Mem.head _),
          st_skip 8 12 _ false rfl rfl rfl rfl (List.Mem.head _),
          st_skip 8 12 _ false rfl rfl rfl rfl (List.Mem.head _),
          st_skip 8 12 _ false rfl rfl rfl rfl (List.Mem.head _),
          st_skip 8 12 _ false rfl rfl rfl rfl (List.Mem.head _),
          st_skip 8 12 _ false rfl rfl rfl rfl (List.Mem.head _),
          st_skip 8 12 _ false rfl rfl rfl rfl (List.Mem.head _),
          st_plain rfl (op_pick _ _ true _ rfl rfl),
          trivial⟩ ?_
      exact hl4 _ (Option.some.inj h).symm
    · refine cond_some h (fun hg1_8 h => ?_) (fun hg1_8 h => ?_)
      · refine ht_anyR (by kernel_rfl) hn (El := (_ :: (4, .ptr 1 1) :: (5, .v (.int .i64 s.N)) :: (6, .v (.bool ((decide (s.N < 0))))) :: (7, .v (.bool false)) :: (8, .ptr 1 1) :: (9, .v (.int .i64 s.N)) :: (10, .v (.bool ((decide (40000 < s.N))))) :: (11, .v (.bool ((decide (40000 < s.N))))) :: (12, .v (.bool true)) :: (13, .v undef) :: (14, .v undef) :: (15, .v undef) :: (16, .v undef) :: (17, .v undef) :: (18, .v undef) :: (19, .v undef) :: (20, .v (.bool true)) :: [])) (init := [0]) (fin := [0, 17]) (sps := (⟨[0], [], [1], [(.slot 4)]⟩ :: ⟨[1, 0], [], [2], [(.slot 5)]⟩ :: ⟨[2], [], [3], [(.slot 6)]⟩ :: ⟨[3], [], [4], [(.slot 7)]⟩ :: ⟨[4, 0], [], [5], [(.slot 8)]⟩ :: ⟨[4, 5, 0], [], [6], [(.slot 9)]⟩ :: ⟨[4, 6], [], [7], [(.slot 10)]⟩ :: ⟨[4, 7], [], [8], [(.slot 11)]⟩ :: ⟨[8], [], [9], [(.slot 12)]⟩ :: ⟨[9], [], [10], [(.slot 13)]⟩ :: ⟨[9], [], [11], [(.slot 14)]⟩ :: ⟨[9], [], [12], [(.slot 15)]⟩ :: ⟨[9], [], [13], [(.slot 16)]⟩ :: ⟨[9], [], [14], [(.slot 17)]⟩ :: ⟨[9], [], [15], [(.slot 18)]⟩ :: ⟨[9], [], [16], [(.slot 19)]⟩ :: ⟨[9], [], [17], [(.slot 20)]⟩ :: [])) (es' := [(_, _), (20, .v (.bool true))]) (by kernel_rfl) rfl rfl
          ⟨st_plain rfl (op_fieldAddr _ _ _ _ 1 0 _ Try.underlying40 rfl sz3 rfl rfl (by decide)),
            st_plain rfl (op_load _ _ _ _ _ _ Try.underlying3 rfl rfl rfl (Nat.le_of_ble_eq_true rfl) rfl rfl rfl),
            st_plain rfl (op_bin _ _ _ _ _ rfl rfl rfl),
            st_plain rfl (op_move _ _ _ _ (congrArg (fun b => AV.v (Value.bool b)) hg1_3) rfl),
            st_run 3 7 false rfl rfl rfl (List.Mem.head _) (op_fieldAddr _ _ _ _ 1 0 _ Try.underlying40 rfl sz3 rfl rfl (by decide)),
            st_run 3 7 false rfl rfl rfl (List.Mem.head _) (op_load _ _ _ _ _ _ Try.underlying3 rfl rfl rfl (Nat.le_of_ble_eq_true rfl) rfl rfl rfl),
            st_run 3 7 false rfl rfl rfl (List.Mem.head _) (op_bin _ _ _ _ _ rfl rfl rfl),
            st_plain rfl (op_pick _ _ false _ rfl rfl),
            st_plain rfl (op_move _ _ _ _ (congrArg (fun b => AV.v (Value.bool b)) hg1_8) rfl),
            st_skip 8 12 _ false rfl rfl rfl rfl (List.Mem.head _),
            st_skip 8 12 _ false rfl rfl rfl rfl (List.Mem.head _),
            st_skip 8 12 _ false rfl rfl rfl rfl (List.Mem.head _),
            st_skip 8 12 _ false rfl rfl rfl rfl (List.Mem.head _),
            st_skip 8 12 _ false rfl rfl rfl rfl (List.Mem.head _),
            st_skip 8 12 _ false rfl rfl rfl rfl (List.Mem.head _),
            st_skip 8 12 _ false rfl rfl rfl rfl (List.Mem.head _),
            st_plain rfl (op_pick _ _ true _ rfl rfl),
            trivial⟩ ?_
        exact hl4 _ (Option.some.inj h).symm
      · obtain ⟨v1, hv1, h⟩ := bind_some h
        refine ht_anyR (by kernel_rfl) hn (El := (_ :: (4, .ptr 1 1) :: (5, .v (.int .i64 s.N)) :: (6, .v (.bool ((decide (s.N < 0))))) :: (7, .v (.bool false)) :: (8, .ptr 1 1) :: (9, .v (.int .i64 s.N)) :: (10, .v (.bool ((decide (40000 < s.N))))) :: (11, .v (.bool ((decide (40000 < s.N))))) :: (12, .v (.bool false)) :: (13, .ptr 1 0) :: (14, .fl .shr 1 (List.map (Value.int .u8) s.B)) :: (15, .v (.int .i64 (s.B.length : Int))) :: (16, .ptr 1 1) :: (17, .v (.int .i64 s.N)) :: (18, .v (.int .i64 v1)) :: (19, .v (.bool (((s.B.length : Int) != v1)))) :: (20, .v (.bool (((s.B.length : Int) != v1)))) :: [])) (init := [0]) (fin := [0, 17]) (sps := (⟨[0], [], [1], [(.slot 4)]⟩ :: ⟨[1, 0], [], [2], [(.slot 5)]⟩ :: ⟨[2], [], [3], [(.slot 6)]⟩ :: ⟨[3], [], [4], [(.slot 7)]⟩ :: ⟨[4, 0], [], [5], [(.slot 8)]⟩ :: ⟨[4, 5, 0], [], [6], [(.slot 9)]⟩ :: ⟨[4, 6], [], [7], [(.slot 10)]⟩ :: ⟨[4, 7], [], [8], [(.slot 11)]⟩ :: ⟨[8], [], [9], [(.slot 12)]⟩ :: ⟨[9, 0], [], [10], [(.slot 13)]⟩ :: ⟨[9, 10, 0], [], [11], [(.slot 14)]⟩ :: ⟨[9, 11], [], [12], [(.slot 15)]⟩ :: ⟨[9, 0], [], [13], [(.slot 16)]⟩ :: ⟨[9, 13, 0], [], [14], [(.slot 17)]⟩ :: ⟨[9, 14], [], [15], [(.slot 18)]⟩ :: ⟨[9, 12, 15], [], [16], [(.slot 19)]⟩ :: ⟨[9, 16], [], [17], [(.slot 20)]⟩ :: [])) (es' := [(_, _), (20, .v (.bool (((s.B.length : Int) != v1))))]) (by kernel_rfl) rfl rfl
          ⟨st_plain rfl (op_fieldAddr _ _ _ _ 1 0 _ Try.underlying40 rfl sz3 rfl rfl (by decide)),
            st_plain rfl (op_load _ _ _ _ _ _ Try.underlying3 rfl rfl rfl (Nat.le_of_ble_eq_true rfl) rfl rfl rfl),
            st_plain rfl (op_bin _ _ _ _ _ rfl rfl rfl),
            st_plain rfl (op_move _ _ _ _ (congrArg (fun b => AV.v (Value.bool b)) hg1_3) rfl),
            st_run 3 7 false rfl rfl rfl (List.Mem.head _) (op_fieldAddr _ _ _ _ 1 0 _ Try.underlying40 rfl sz3 rfl rfl (by decide)),
            st_run 3 7 false rfl rfl rfl (List.Mem.head _) (op_load _ _ _ _ _ _ Try.underlying3 rfl rfl rfl (Nat.le_of_ble_eq_true rfl) rfl rfl rfl),
            st_run 3 7 false rfl rfl rfl (List.Mem.head _) (op_bin _ _ _ _ _ rfl rfl rfl),
            st_plain rfl (op_pick _ _ false _ rfl rfl),
            st_plain rfl (op_move _ _ _ _ (congrArg (fun b => AV.v (Value.bool b)) hg1_8) rfl),
            st_run 8 12 false rfl rfl rfl (List.Mem.head _) (op_fieldAddr _ _ _ _ 1 0 _ Try.underlying40 rfl sz23 rfl rfl (by decide)),
            st_run 8 12 false rfl rfl rfl (List.Mem.head _) (op_load _ _ _ _ _ _ Try.underlying23 rfl rfl rfl (Nat.le_of_ble_eq_true rfl) rfl rfl rfl),
            st_run 8 12 false rfl rfl rfl (List.Mem.head _) (op_len_fl _ _ _ Try.underlying23 rfl (by decide) (map_len _)),
            st_run 8 12 false rfl rfl rfl (List.Mem.head _) (op_fieldAddr _ _ _ _ 1 0 _ Try.underlying40 rfl sz3 rfl rfl (by decide)),
            st_run 8 12 false rfl rfl rfl (List.Mem.head _) (op_load _ _ _ _ _ _ Try.underlying3 rfl rfl rfl (Nat.le_of_ble_eq_true rfl) rfl rfl rfl),
            st_run 8 12 false rfl rfl rfl (List.Mem.head _) (op_call _ _ 37 _ _ rfl Try.call37 rfl (ok_bits_bytesFor s.N _ hv1) rfl rfl),
            st_run 8 12 false rfl rfl rfl (List.Mem.head _) (op_bin _ _ _ _ _ rfl rfl rfl),
            st_plain rfl (op_pick _ _ false _ rfl rfl),
            trivial⟩ ?_
        exact hl4 _ (Option.some.inj h).symm

set_option maxHeartbeats 1000000 in
theorem ok_bits_Put (s : T_Bits) (v : Int) (n : Int) (r : (T_Bits × Int)) (h : Sh.bits_Put s v n = some r) : FnOK Try.prog 23 [.agg [.fl .shr 1 (List.map (Value.int .u8) s.B), .v (.int .i64 s.N)], .v (.int .i64 v), .v (.int .i64 n)] (.tup [.agg [.fl (.own 5) 1 (List.map (Value.int .u8) r.1.B), .v (.int .i64 r.1.N)], .v (.int .i64 r.2)]) := by
  unfold Sh.bits_Put at h
  refine fn_ok Try.func23 rfl (Nat.le_of_ble_eq_true rfl) rfl rfl fun g0 hn hio => ?_
  refine ht_seq ?_
  refine ht_seqR hn (El := [_, _, _, (3, .box 40 [.fl .shr 1 (List.map (Value.int .u8) s.B), .v (.int .i64 s.N)]), (6, .box 40 [.v (.slice none 0 0), .v (.int .i64 0)]), (7, .v (.int .i64 0))]) (init := [0, 1, 2]) (fin := [1, 2, 3, 4]) (sps := [⟨[0], [], [3], [(.slot 3)]⟩, ⟨[], [], [4], [(.slot 6)]⟩, ⟨[], [], [5], [(.slot 7)]⟩]) (es' := [(_, _), (_, _), (3, .box 40 [.fl .shr 1 (List.map (Value.int .u8) s.B), .v (.int .i64 s.N)]), (6, .box 40 [.v (.slice none 0 0), .v (.int .i64 0)])]) (by kernel_rfl) rfl rfl
    ⟨st_plain rfl (op_box _ _ _ _ rfl rfl rfl),
      st_plain rfl (op_alloc _ _ zr40),
      st_plain rfl (op_assign _ _ _ _ rfl rfl),
      trivial⟩ ?_
  refine pt_then ?_
  refine ht_seq ?_
  refine ht_seq ?_
  obtain ⟨v1, hv1, h⟩ := bind_some h
  refine ht_seqR hn (El := [_, _, _, _, (12, .agg [.fl .shr 1 (List.map (Value.int .u8) s.B), .v (.int .i64 s.N)]), (13, .v (.int .i64 v1)), (8, .v (.int .i64 v1))]) (init := [0, 1, 2, 3]) (fin := [0, 1, 2, 3, 6]) (sps := [⟨[2], [], [4], [(.slot 12)]⟩, ⟨[4], [], [5], [(.slot 13)]⟩, ⟨[5], [], [6], [(.slot 8)]⟩]) (es' := [(_, _), (_, _), (_, _), (_, _), (8, .v (.int .i64 v1))]) (by kernel_rfl) rfl rfl
    ⟨st_plain rfl (op_loadA _ _ _ _ _ _ _ Try.underlying40 rfl sz40 rfl rfl (Nat.le_of_ble_eq_true rfl) rfl rfl),
      st_plain rfl (op_call _ _ 36 _ _ rfl Try.call36 rfl (ok_bits_Check s _ hv1) rfl rfl),
      st_plain rfl (op_assign _ _ _ _ rfl rfl),
      trivial⟩ ?_
  refine pt_then ?_
  refine ht_seq ?_
  refine ht_seqR hn (El := [_, _, _, _, _, (14, .v (.int .i64 v1)), (15, .v (.bool (v1 != 0)))]) (init := [0, 1, 2, 3, 4]) (fin := [0, 1, 2, 3, 4, 6]) (sps := [⟨[4], [], [5], [(.slot 14)]⟩, ⟨[5], [], [6], [(.slot 15)]⟩]) (es' := [(_, _), (_, _), (_, _), (_, _), (_, _), (15, .v (.bool (v1 != 0)))]) (by kernel_rfl) rfl rfl
    ⟨st_plain rfl (op_move _ _ _ _ rfl rfl),
      st_plain rfl (op_bin _ _ _ _ _ rfl rfl rfl),
      trivial⟩ ?_
  refine pt_then ?_
  refine ht_cond _ rfl (fun hb2 => ?_) (fun hb2 => ?_)
  · have h := cond_t hb2 h
    refine ht_seq ?_
    refine ht_seqR hn (El := [_, _, _, _, _, _, (16, .agg [.v (.slice none 0 0), .v (.int .i64 0)]), (17, .v (.int .i64 v1)), (6, .box 40 [.v (.slice none 0 0), .v (.int .i64 0)]), (7, .v (.int .i64 v1))]) (init := [0, 1, 2, 3, 4, 5]) (fin := [8, 9]) (sps := [⟨[], [], [6], [(.slot 16)]⟩, ⟨[4], [], [7], [(.slot 17)]⟩, ⟨[6], [3], [8], [.cell 6 0, .cell 6 1]⟩, ⟨[7], [], [9], [(.slot 7)]⟩]) (es' := [(6, .box 40 [.v (.slice none 0 0), .v (.int .i64 0)]), (7, .v (.int .i64 v1))]) (by kernel_rfl) rfl rfl
      ⟨st_plain rfl (op_build _ _ _ _ [1, 1] _ _ Try.underlying40 zr40 (fs40 _ Try.underlying40) Src.nil rfl rfl rfl),
        st_plain rfl (op_move _ _ _ _ rfl rfl),
        st_plain rfl (op_store _ _ _ _ _ _ _ _ sz40 rfl rfl rfl rfl (Nat.le_of_ble_eq_true rfl) rfl rfl),
        st_plain rfl (op_assign _ _ _ _ rfl rfl),
        trivial⟩ ?_
    refine pt_then ?_
    refine ht_ret ?_
    refine pt_sub (fs := [(6, .box 40 [.fl (.own 5) 1 (List.map (Value.int .u8) []), .v (.int .i64 0)]), (7, .v (.int .i64 v1))]) (.box _ _ (subs_cons (sub_nil 5 1) (subs_cons (sub_refl _) (subs_nil))) rfl (.same _ .nil)) ?_
    refine pt_r_then ?_
    obtain rfl := Option.some.inj h
    exact pt_ret hio rfl (.cellA _ _ _ _ Try.underlying40 rfl sz40 (.tmp _ _ .nil)) rfl rfl
  · have h := cond_f hb2 h
    refine ht_skip ?_
    refine pt_then ?_
    refine ht_seq ?_
    refine ht_seq ?_
    obtain ⟨v3, hv3, h⟩ := bind_some h
    refine ht_seqR hn (El := [_, _, _, _, _, _, (18, .v (.int .i64 v)), (19, .v (.int .i64 n)), (20, .v (.bool v3)), (21, .v (.bool (!v3)))]) (init := [0, 1, 2, 3, 4, 5]) (fin := [0, 1, 2, 3, 9]) (sps := [⟨[0], [], [6], [(.slot 18)]⟩, ⟨[1], [], [7], [(.slot 19)]⟩, ⟨[6, 7], [], [8], [(.slot 20)]⟩, ⟨[8], [], [9], [(.slot 21)]⟩]) (es' := [(_, _), (_, _), (_, _), (_, _), (21, .v (.bool (!v3)))]) (by kernel_rfl) rfl rfl
      ⟨st_plain rfl (op_move _ _ _ _ rfl rfl),
        st_plain rfl (op_move _ _ _ _ rfl rfl),
        st_plain rfl (op_call _ _ 35 _ _ rfl Try.call35 rfl (ok_bits_fits v n _ hv3) rfl rfl),
        st_plain rfl (op_un _ _ _ _ rfl rfl),
        trivial⟩ ?_
    refine pt_then ?_
    refine ht_cond _ rfl (fun hb4 => ?_) (fun hb4 => ?_)
    · have h := cond_t hb4 h
      refine ht_seq ?_
      refine ht_seqR hn (El := [_, _, _, _, _, (22, .agg [.v (.slice none 0 0), .v (.int .i64 0)]), (6, .box 40 [.v (.slice none 0 0), .v (.int .i64 0)]), (7, .v (.int .i64 1))]) (init := [0, 1, 2, 3, 4]) (fin := [6, 7]) (sps := [⟨[], [], [5], [(.slot 22)]⟩, ⟨[5], [3], [6], [.cell 6 0, .cell 6 1]⟩, ⟨[], [], [7], [(.slot 7)]⟩]) (es' := [(6, .box 40 [.v (.slice none 0 0), .v (.int .i64 0)]), (7, .v (.int .i64 1))]) (by kernel_rfl) rfl rfl
        ⟨st_plain rfl (op_build _ _ _ _ [1, 1] _ _ Try.underlying40 zr40 (fs40 _ Try.underlying40) Src.nil rfl rfl rfl),
          st_plain rfl (op_store _ _ _ _ _ _ _ _ sz40 rfl rfl rfl rfl (Nat.le_of_ble_eq_true rfl) rfl rfl),
          st_plain rfl (op_assign _ _ _ _ rfl rfl),
          trivial⟩ ?_
      refine pt_then ?_
      refine ht_ret ?_
      refine pt_sub (fs := [(6, .box 40 [.fl (.own 5) 1 (List.map (Value.int .u8) []), .v (.int .i64 0)]), (7, .v (.int .i64 1))]) (.box _ _ (subs_cons (sub_nil 5 1) (subs_cons (sub_refl _) (subs_nil))) rfl (.same _ .nil)) ?_
      refine pt_r_then ?_
      obtain rfl := Option.some.inj h
      exact pt_ret hio rfl (.cellA _ _ _ _ Try.underlying40 rfl sz40 (.tmp _ _ .nil)) rfl rfl
    · have h := cond_f hb4 h
      refine ht_skip ?_
      refine pt_then ?_
      refine ht_seq ?_
      refine ht_seq ?_
      obtain ⟨v5, hv5, h⟩ := bind_some h
      refine ht_seqR hn (El := [_, _, _, _, _, (23, .ptr 3 1), (24, .v (.int .i64 s.N)), (25, .v (.int .i64 n)), (26, .v (.int .i64 v5)), (27, .v (.bool ((decide (40000 < v5)))))]) (init := [0, 1, 2, 3, 4]) (fin := [0, 1, 2, 3, 9]) (sps := [⟨[2], [], [5], [(.slot 23)]⟩, ⟨[5, 2], [], [6], [(.slot 24)]⟩, ⟨[1], [], [7], [(.slot 25)]⟩, ⟨[6, 7], [], [8], [(.slot 26)]⟩, ⟨[8], [], [9], [(.slot 27)]⟩]) (es' := [(_, _), (_, _), (_, _), (_, _), (27, .v (.bool ((decide (40000 < v5)))))]) (by kernel_rfl) rfl rfl
        ⟨st_plain rfl (op_fieldAddr _ _ _ _ 3 0 _ Try.underlying40 rfl sz3 rfl rfl (by decide)),
          st_plain rfl (op_load _ _ _ _ _ _ Try.underlying3 rfl rfl rfl (Nat.le_of_ble_eq_true rfl) rfl rfl rfl),
          st_plain rfl (op_move _ _ _ _ rfl rfl),
          st_plain rfl (op_bin _ _ _ _ _ rfl rfl (ibind (f := Value.int .i64) (Option.some.inj hv5))),
          st_plain rfl (op_bin _ _ _ _ _ rfl rfl rfl),
          trivial⟩ ?_
      refine pt_then ?_
      refine ht_cond _ rfl (fun hb6 => ?_) (fun hb6 => ?_)
      · have h := cond_t hb6 h
        refine ht_seq ?_
        refine ht_seqR hn (El := [_, _, _, _, _, (28, .agg [.v (.slice none 0 0), .v (.int .i64 0)]), (6, .box 40 [.v (.slice none 0 0), .v (.int .i64 0)]), (7, .v (.int .i64 2))]) (init := [0, 1, 2, 3, 4]) (fin := [6, 7]) (sps := [⟨[], [], [5], [(.slot 28)]⟩, ⟨[5], [3], [6], [.cell 6 0, .cell 6 1]⟩, ⟨[], [], [7], [(.slot 7)]⟩]) (es' := [(6, .box 40 [.v (.slice none 0 0), .v (.int .i64 0)]), (7, .v (.int .i64 2))]) (by kernel_rfl) rfl rfl
          ⟨st_plain rfl (op_build _ _ _ _ [1, 1] _ _ Try.underlying40 zr40 (fs40 _ Try.underlying40) Src.nil rfl rfl rfl),
            st_plain rfl (op_store _ _ _ _ _ _ _ _ sz40 rfl rfl rfl rfl (Nat.le_of_ble_eq_true rfl) rfl rfl),
            st_plain rfl (op_assign _ _ _ _ rfl rfl),
            trivial⟩ ?_
        refine pt_then ?_
        refine ht_ret ?_
        refine pt_sub (fs := [(6, .box 40 [.fl (.own 5) 1 (List.map (Value.int .u8) []), .v (.int .i64 0)]), (7, .v (.int .i64 2))]) (.box _ _ (subs_cons (sub_nil 5 1) (subs_cons (sub_refl _) (subs_nil))) rfl (.same _ .nil)) ?_
        refine pt_r_then ?_
        obtain rfl := Option.some.inj h
        exact pt_ret hio rfl (.cellA _ _ _ _ Try.underlying40 rfl sz40 (.tmp _ _ .nil)) rfl rfl
      · have h := cond_f hb6 h
        refine ht_skip ?_
        refine pt_then ?_
        refine ht_seq ?_
        obtain ⟨v7, hv7, h⟩ := bind_some h
        obtain ⟨v8, hv8, h⟩ := bind_some h
        obtain ⟨v9, hv9, h⟩ := bind_some h
        refine ht_seqR hn (El := [_, _, _, _, _, (29, .ptr 3 1), (30, .v (.int .i64 s.N)), (31, .v (.int .i64 n)), (32, .v (.int .i64 v7)), (33, .v (.int .i64 v8)), (34, .fl (.own 5) 1 (List.map (Value.int .u8) v9)), (9, .fl (.own 5) 1 (List.map (Value.int .u8) v9))]) (init := [0, 1, 2, 3, 4]) (fin := [0, 1, 2, 3, 11]) (sps := [⟨[2], [], [5], [(.slot 29)]⟩, ⟨[5, 2], [], [6], [(.slot 30)]⟩, ⟨[1], [], [7], [(.slot 31)]⟩, ⟨[6, 7], [], [8], [(.slot 32)]⟩, ⟨[8], [], [9], [(.slot 33)]⟩, ⟨[9], [], [10], [(.slot 34)]⟩, ⟨[], [10], [11], [(.slot 9)]⟩]) (es' := [(_, _), (_, _), (_, _), (_, _), (9, .fl (.own 5) 1 (List.map (Value.int .u8) v9))]) (by kernel_rfl) rfl rfl
          ⟨st_plain rfl (op_fieldAddr _ _ _ _ 3 0 _ Try.underlying40 rfl sz3 rfl rfl (by decide)),
            st_plain rfl (op_load _ _ _ _ _ _ Try.underlying3 rfl rfl rfl (Nat.le_of_ble_eq_true rfl) rfl rfl rfl),
            st_plain rfl (op_move _ _ _ _ rfl rfl),
            st_plain rfl (op_bin _ _ _ _ _ rfl rfl (ibind (f := Value.int .i64) (Option.some.inj hv7))),
            st_plain rfl (op_call _ _ 37 _ _ rfl Try.call37 rfl (ok_bits_bytesFor v7 _ hv8) rfl rfl),
            st_plain rfl (op_mk (f := Value.int .u8) _ _ _ _ el23 (by decide) zr5 rfl rfl rfl hv9),
            st_plain rfl (op_assign_take _ _ _ _ rfl),
            trivial⟩ ?_
        refine pt_then ?_
        refine ht_seq ?_
        obtain ⟨v10, hv10, h⟩ := bind_some h
        refine ht_seqR hn (El := [_, _, _, _, _, (35, .same (.slot 9)), (36, .ptr 3 0), (37, .fl .shr 1 (List.map (Value.int .u8) s.B)), (38, .v (.int .i64 (copyN v9 s.B))), (9, .fl (.own 5) 1 (List.map (Value.int .u8) v10))]) (init := [0, 1, 2, 3, 4]) (fin := [0, 1, 2, 3, 9]) (sps := [⟨[4], [], [5], [(.slot 35)]⟩, ⟨[2], [], [6], [(.slot 36)]⟩, ⟨[6, 2], [], [7], [(.slot 37)]⟩, ⟨[5, 7], [4], [9, 8], [(.slot 38)]⟩]) (es' := [(_, _), (_, _), (_, _), (_, _), (9, .fl (.own 5) 1 (List.map (Value.int .u8) v10))]) (by kernel_rfl) rfl rfl
          ⟨st_plain rfl (op_move _ _ _ _ rfl rfl),
            st_plain rfl (op_fieldAddr _ _ _ _ 3 0 _ Try.underlying40 rfl sz23 rfl rfl (by decide)),
            st_plain rfl (op_load _ _ _ _ _ _ Try.underlying23 rfl rfl rfl (Nat.le_of_ble_eq_true rfl) rfl rfl rfl),
            st_plain rfl ((Option.some.inj hv10) ▸ op_cp _ _ _ _ _ _ _ Try.underlying23 sz5 rfl rfl (by decide)),
            trivial⟩ ?_
        refine pt_then ?_
        refine ht_seq ?_
        obtain ⟨v11, hv11, h⟩ := bind_some h
        obtain ⟨v12, hv12, h⟩ := bind_some h
        obtain ⟨v13, hv13, h⟩ := bind_some h
        refine ht_seqR hn (El := [_, _, _, _, _, (39, .v (.int .i64 v)), (40, .v (.int .u32 v11)), (41, .ptr 3 1), (42, .v (.int .i64 s.N)), (43, .v (.int .i64 v12)), (44, .v (.int .u32 v13)), (10, .v (.int .u32 v13))]) (init := [0, 1, 2, 3, 4]) (fin := [1, 2, 3, 4, 11]) (sps := [⟨[0], [], [5], [(.slot 39)]⟩, ⟨[5], [], [6], [(.slot 40)]⟩, ⟨[2], [], [7], [(.slot 41)]⟩, ⟨[7, 2], [], [8], [(.slot 42)]⟩, ⟨[8], [], [9], [(.slot 43)]⟩, ⟨[6, 9], [], [10], [(.slot 44)]⟩, ⟨[10], [], [11], [(.slot 10)]⟩]) (es' := [(_, _), (_, _), (_, _), (_, _), (10, .v (.int .u32 v13))]) (by kernel_rfl) rfl rfl
          ⟨st_plain rfl (op_move _ _ _ _ rfl rfl),
            st_plain rfl ((Option.some.inj hv11) ▸ op_conv _ _ _ Try.underlying3 Try.underlying58 rfl),
            st_plain rfl (op_fieldAddr _ _ _ _ 3 0 _ Try.underlying40 rfl sz3 rfl rfl (by decide)),
            st_plain rfl (op_load _ _ _ _ _ _ Try.underlying3 rfl rfl rfl (Nat.le_of_ble_eq_true rfl) rfl rfl rfl),
            st_plain rfl (op_bin _ _ _ _ _ rfl rfl (rem_ok hv12)),
            st_plain rfl (op_bin _ _ _ _ _ rfl rfl (shl_ok hv13)),
            st_plain rfl (op_assign _ _ _ _ rfl rfl),
            trivial⟩ ?_
        refine pt_then ?_
        refine ht_seq ?_
        refine ht_seq ?_
        obtain ⟨v14, hv14, h⟩ := bind_some h
        refine ht_seqR hn (El := [_, _, _, _, _, (45, .ptr 3 1), (46, .v (.int .i64 s.N)), (47, .v (.int .i64 v14)), (11, .v (.int .i64 v14))]) (init := [0, 1, 2, 3, 4]) (fin := [0, 1, 2, 3, 4, 8]) (sps := [⟨[1], [], [5], [(.slot 45)]⟩, ⟨[5, 1], [], [6], [(.slot 46)]⟩, ⟨[6], [], [7], [(.slot 47)]⟩, ⟨[7], [], [8], [(.slot 11)]⟩]) (es' := [(_, _), (_, _), (_, _), (_, _), (_, _), (11, .v (.int .i64 v14))]) (by kernel_rfl) rfl rfl
          ⟨st_plain rfl (op_fieldAddr _ _ _ _ 3 0 _ Try.underlying40 rfl sz3 rfl rfl (by decide)),
            st_plain rfl (op_load _ _ _ _ _ _ Try.underlying3 rfl rfl rfl (Nat.le_of_ble_eq_true rfl) rfl rfl rfl),
            st_plain rfl (op_bin _ _ _ _ _ rfl rfl (quo_ok hv14)),
            st_plain rfl (op_assign _ _ _ _ rfl rfl),
            trivial⟩ ?_
        refine pt_then ?_
        refine ht_loopS h (fun ((s28, s29, s30) : (List Int) × Int × Int) => [(2, .v (.int .i64 n)), (3, .box 40 [.fl .shr 1 (List.map (Value.int .u8) s.B), .v (.int .i64 s.N)]), (6, .box 40 [.v (.slice none 0 0), .v (.int .i64 0)]), (9, .fl (.own 5) 1 (List.map (Value.int .u8) s28)), (10, .v (.int .u32 s29)), (11, .v (.int .i64 s30))]) (fun (s32 : (List Int)) => [(2, .v (.int .i64 n)), (3, .box 40 [.fl .shr 1 (List.map (Value.int .u8) s.B), .v (.int .i64 s.N)]), (6, .box 40 [.v (.slice none 0 0), .v (.int .i64 0)]), (9, .fl (.own 5) 1 (List.map (Value.int .u8) s32))]) ?_ ?_
        · rintro s32 h
          refine pt_then ?_
          refine ht_seq ?_
          obtain ⟨v40, hv40, h⟩ := bind_some h
          refine ht_seqR hn (El := [_, _, _, _, (64, .fl (.own 5) 1 (List.map (Value.int .u8) s32)), (65, .ptr 3 1), (66, .v (.int .i64 s.N)), (67, .v (.int .i64 n)), (68, .v (.int .i64 v40)), (69, .agg [.fl (.own 5) 1 (List.map (Value.int .u8) s32), .v (.int .i64 v40)]), (6, .box 40 [.fl (.own 5) 1 (List.map (Value.int .u8) s32), .v (.int .i64 v40)]), (7, .v (.int .i64 0))]) (init := [0, 1, 2, 3]) (fin := [10, 11]) (sps := [⟨[], [3], [4], [(.slot 64)]⟩, ⟨[1], [], [5], [(.slot 65)]⟩, ⟨[5, 1], [], [6], [(.slot 66)]⟩, ⟨[0], [], [7], [(.slot 67)]⟩, ⟨[6, 7], [], [8], [(.slot 68)]⟩, ⟨[8], [4], [9], [(.slot 69)]⟩, ⟨[], [9, 2], [10], [.cell 6 0, .cell 6 1]⟩, ⟨[], [], [11], [(.slot 7)]⟩]) (es' := [(6, .box 40 [.fl (.own 5) 1 (List.map (Value.int .u8) s32), .v (.int .i64 v40)]), (7, .v (.int .i64 0))]) (by kernel_rfl) rfl rfl
            ⟨st_plain rfl (op_move_take _ _ _ _ rfl),
              st_plain rfl (op_fieldAddr _ _ _ _ 3 0 _ Try.underlying40 rfl sz3 rfl rfl (by decide)),
              st_plain rfl (op_load _ _ _ _ _ _ Try.underlying3 rfl rfl rfl (Nat.le_of_ble_eq_true rfl) rfl rfl rfl),
              st_plain rfl (op_move _ _ _ _ rfl rfl),
              st_plain rfl (op_bin _ _ _ _ _ rfl rfl (ibind (f := Value.int .i64) (Option.some.inj hv40))),
              st_plain rfl (op_build _ _ _ _ [1, 1] _ _ Try.underlying40 zr40 (fs40 _ Try.underlying40) (.take _ _ (.copy _ Src.nil)) rfl rfl rfl),
              st_plain rfl (op_store_take _ _ _ _ _ _ _ _ sz40 rfl rfl rfl (Nat.le_of_ble_eq_true rfl) rfl rfl),
              st_plain rfl (op_assign _ _ _ _ rfl rfl),
              trivial⟩ ?_
          refine pt_then ?_
          refine ht_ret ?_
          obtain rfl := Option.some.inj h
          exact pt_ret hio rfl (.cellA _ _ _ _ Try.underlying40 rfl sz40 (.tmp _ _ .nil)) rfl rfl
        · rintro u33 hl34 hr35 ⟨s28, s29, s30⟩ rr38 h ho36
          refine ht_seq ?_
          refine ht_seq ?_
          refine ht_seqR hn (El := [_, _, _, _, _, _, (48, .v (.int .i64 s30)), (49, .same (.slot 9)), (50, .v (.int .i64 (s28.length : Int))), (51, .v (.bool ((decide (s30 < (s28.length : Int))))))]) (init := [0, 1, 2, 3, 4, 5]) (fin := [0, 1, 2, 3, 4, 5, 9]) (sps := [⟨[5], [], [6], [(.slot 48)]⟩, ⟨[3], [], [7], [(.slot 49)]⟩, ⟨[7, 3], [], [8], [(.slot 50)]⟩, ⟨[6, 8], [], [9], [(.slot 51)]⟩]) (es' := [(_, _), (_, _), (_, _), (_, _), (_, _), (_, _), (51, .v (.bool ((decide (s30 < (s28.length : Int))))))]) (by kernel_rfl) rfl rfl
            ⟨st_plain rfl (op_move _ _ _ _ rfl rfl),
              st_plain rfl (op_move _ _ _ _ rfl rfl),
              st_plain rfl (op_len_fl _ _ _ Try.underlying23 rfl (by decide) (map_len _)),
              st_plain rfl (op_bin _ _ _ _ _ rfl rfl rfl),
              trivial⟩ ?_
          refine pt_then ?_
          refine ht_cond _ rfl (fun hb39 => ?_) (fun hb39 => ?_)
          · have h := cond_t hb39 h
            refine ht_skip ?_
            refine pt_then ?_
            refine ht_seq ?_
            refine ht_block ?_
            refine ht_seq ?_
            obtain ⟨v16, hv16, h⟩ := bind_some h
            obtain ⟨v17, hv17, h⟩ := bind_some h
            obtain ⟨v18, hv18, h⟩ := bind_some h
            obtain ⟨v19, hv19, h⟩ := bind_some h
            obtain ⟨v20, hv20, h⟩ := bind_some h
            obtain ⟨v21, hv21, h⟩ := bind_some h
            refine ht_seqR hn (El := (_ :: _ :: _ :: _ :: _ :: _ :: _ :: (54, .same (.slot 9)) :: (55, .v (.int .i64 s30)) :: (56, .eref (.slot 9) (v16 * 1)) :: (57, .v (.int .u8 v17)) :: (58, .v (.int .u32 s29)) :: (59, .v (.int .u8 v18)) :: (60, .v (.int .u8 v19)) :: (61, .eref (.slot 9) (v20 * 1)) :: (9, .fl (.own 5) 1 (List.map (Value.int .u8) v21)) :: [])) (init := [0, 1, 2, 3, 4, 5, 6]) (fin := [0, 1, 2, 15, 4, 5]) (sps := [⟨[3], [], [7], [(.slot 54)]⟩, ⟨[5], [], [8], [(.slot 55)]⟩, ⟨[7, 3, 8], [], [9], [(.slot 56)]⟩, ⟨[9, 3], [], [10], [(.slot 57)]⟩, ⟨[4], [], [11], [(.slot 58)]⟩, ⟨[11], [], [12], [(.slot 59)]⟩, ⟨[10, 12], [], [13], [(.slot 60)]⟩, ⟨[7, 3, 8], [], [14], [(.slot 61)]⟩, ⟨[14, 13], [3], [15], []⟩]) (es' := [(_, _), (_, _), (_, _), (9, .fl (.own 5) 1 (List.map (Value.int .u8) v21)), (_, _), (_, _)]) (by kernel_rfl) rfl rfl
              ⟨st_plain rfl (op_move _ _ _ _ rfl rfl),
                st_plain rfl (op_move _ _ _ _ rfl rfl),
                st_plain rfl (op_ix _ _ _ _ _ _ _ _ Try.underlying23 sz5 (by decide) rfl rfl rfl (ix_ok hv16).1 (map_lt (ix_ok hv16).2) rfl),
                st_plain rfl (op_load_e _ _ _ _ _ _ Try.underlying5 rfl rfl rfl (map_get hv17)),
                st_plain rfl (op_move _ _ _ _ rfl rfl),
                st_plain rfl ((Option.some.inj hv18) ▸ op_conv _ _ _ Try.underlying58 Try.underlying5 rfl),
                st_plain rfl (op_bin _ _ _ _ _ rfl rfl (ibind (f := Value.int .u8) (Option.some.inj hv19))),
                st_plain rfl (op_ix _ _ _ _ _ _ _ _ Try.underlying23 sz5 (by decide) rfl rfl rfl (ix_ok hv20).1 (map_lt (ix_ok hv20).2) rfl),
                st_plain rfl (op_store_e _ _ _ _ _ _ _ _ sz5 rfl rfl rfl (by decide) (map_lt (ix_ok hv20).2) ((map_set (f := Value.int .u8) _ (ix_ok hv20).2).trans (congrArg (List.map _) (Option.some.inj hv21)))),
                trivial⟩ ?_
            refine pt_then ?_
            obtain ⟨v22, hv22, h⟩ := bind_some h
            refine ht_seqR hn (El := [_, _, _, _, _, _, (62, .v (.int .u32 s29)), (63, .v (.int .u32 v22)), (10, .v (.int .u32 v22))]) (init := [0, 1, 2, 3, 4, 5]) (fin := [0, 1, 2, 3, 5, 8]) (sps := [⟨[4], [], [6], [(.slot 62)]⟩, ⟨[6], [], [7], [(.slot 63)]⟩, ⟨[7], [4], [8], [(.slot 10)]⟩]) (es' := [(_, _), (_, _), (_, _), (_, _), (_, _), (10, .v (.int .u32 v22))]) (by kernel_rfl) rfl rfl
              ⟨st_plain rfl (op_move _ _ _ _ rfl rfl),
                st_plain rfl (op_bin _ _ _ _ _ rfl rfl (shr_ok hv22)),
                st_plain rfl (LOp.drop [_] (op_assign _ _ _ _ rfl rfl)),
                trivial⟩ ?_
            refine pt_inb ?_
            refine pt_then ?_
            obtain ⟨v23, hv23, h⟩ := bind_some h
            refine ht_seqR hn (El := [_, _, _, _, _, _, (52, .v (.int .i64 s30)), (53, .v (.int .i64 v23)), (11, .v (.int .i64 v23))]) (init := [0, 1, 2, 3, 4, 5]) (fin := [0, 1, 2, 3, 5, 8]) (sps := [⟨[4], [], [6], [(.slot 52)]⟩, ⟨[6], [], [7], [(.slot 53)]⟩, ⟨[7], [4], [8], [(.slot 11)]⟩]) (es' := [(_, _), (_, _), (_, _), (_, _), (_, _), (11, .v (.int .i64 v23))]) (by kernel_rfl) rfl rfl
              ⟨st_plain rfl (op_move _ _ _ _ rfl rfl),
                st_plain rfl (op_bin _ _ _ _ _ rfl rfl (ibind (f := Value.int .i64) (Option.some.inj hv23))),
                st_plain rfl (LOp.drop [_] (op_assign _ _ _ _ rfl rfl)),
                trivial⟩ ?_
            exact pt_next _ (Option.some.inj h).symm rfl
          · have h := cond_f hb39 h
            refine ht_exit ?_
            refine pt_x_then ?_
            refine pt_x_then ?_
            refine pt_x_in ?_
            refine pt_pick [0, 1, 2, 3] (by kernel_rfl) (es' := [(_, _), (_, _), (_, _), (_, _)]) rfl ?_
            exact hl34 _ (ho36 _ (Option.some.inj h).symm).symm

set_option maxHeartbeats 1000000 in
theorem ok_wherrylaw02_CanonBack (l : (List Int)) (text : (List Int)) (r : Bool) (h : Sh.wherrylaw02_CanonBack l text = some r) : FnOK Try.prog 5 [.fl .shr 1 (List.map (Value.int .i64) l), .fl .shr 1 (List.map (Value.int .i64) text)] (.v (.bool r)) := by
  unfold Sh.wherrylaw02_CanonBack at h
  refine fn_ok Try.func5 rfl (Nat.le_of_ble_eq_true rfl) rfl rfl fun g0 hn hio => ?_
  refine ht_seq ?_
  refine ht_seqR hn (El := [_, _, (4, .v (.bool false))]) (init := [0, 1]) (fin := [0, 1]) (sps := [⟨[], [], [2], [(.slot 4)]⟩]) (es' := [(_, _), (_, _)]) (by kernel_rfl) rfl rfl
    ⟨st_plain rfl (op_assign _ _ _ _ rfl rfl),
      trivial⟩ ?_
  refine pt_then ?_
  refine ht_seq ?_
  refine ht_seq ?_
  refine ht_joinS h (fun (s1 : Bool) => [(0, .fl .shr 1 (List.map (Value.int .i64) l)), (1, .fl .shr 1 (List.map (Value.int .i64) text)), (27, .v (.bool s1))]) ?_ ?_
  · rintro s1 h
    refine pt_then ?_
    refine ht_cond _ rfl (fun hb5 => ?_) (fun hb5 => ?_)
    · have h := cond_t hb5 h
      refine ht_seq ?_
      refine ht_seqR hn (El := [_, _, _, (4, .v (.bool true))]) (init := [0, 1, 2]) (fin := [3]) (sps := [⟨[], [], [3], [(.slot 4)]⟩]) (es' := [(4, .v (.bool true))]) (by kernel_rfl) rfl rfl
        ⟨st_plain rfl (op_assign _ _ _ _ rfl rfl),
          trivial⟩ ?_
      refine pt_then ?_
      refine ht_ret ?_
      refine pt_r_then ?_
      obtain rfl := Option.some.inj h
      exact pt_ret hio rfl (.tmp _ _ .nil) rfl rfl
    · have h := cond_f hb5 h
      refine ht_skip ?_
      refine pt_then ?_
      refine ht_seq ?_
      obtain ⟨v6, hv6, h⟩ := bind_some h
      refine ht_seqR hn (El := [_, _, _, (29, .fl .shr 1 (List.map (Value.int .i64) l)), (30, .tup [.fl (.own 3) 1 (List.map (Value.int .i64) v6.1), .v (.int .i64 v6.2)]), (28, .tup [.fl (.own 3) 1 (List.map (Value.int .i64) v6.1), .v (.int .i64 v6.2)]), (31, .fl (.own 3) 1 (List.map (Value.int .i64) v6.1)), (28, .tup [.any, .v (.int .i64 v6.2)]), (32, .v (.int .i64 v6.2)), (5, .fl (.own 3) 1 (List.map (Value.int .i64) v6.1)), (6, .v (.int .i64 v6.2))]) (init := [0, 1, 2]) (fin := [0, 1, 9, 10]) (sps := [⟨[0], [], [3], [(.slot 29)]⟩, ⟨[3], [], [4], [(.slot 30)]⟩, ⟨[], [4], [5], [(.slot 28)]⟩, ⟨[], [5], [7, 6], [(.slot 31)]⟩, ⟨[7], [], [8], [(.slot 32)]⟩, ⟨[], [6], [9], [(.slot 5)]⟩, ⟨[8], [], [10], [(.slot 6)]⟩]) (es' := [(_, _), (_, _), (5, .fl (.own 3) 1 (List.map (Value.int .i64) v6.1)), (6, .v (.int .i64 v6.2))]) (by kernel_rfl) rfl rfl
        ⟨st_plain rfl (op_move _ _ _ _ rfl rfl),
          st_plain rfl (op_call _ _ 11 _ _ rfl Try.call11 rfl (ok_canon_Codes l _ hv6) rfl rfl),
          st_plain rfl (op_move_take _ _ _ _ rfl),
          st_plain rfl (op_extract_take _ _ _ _ _ rfl (Nat.le_of_ble_eq_true rfl) rfl rfl (by decide) rfl),
          st_plain rfl (op_extract _ _ _ _ _ rfl rfl (Nat.le_of_ble_eq_true rfl) rfl rfl),
          st_plain rfl (op_assign_take _ _ _ _ rfl),
          st_plain rfl (op_assign _ _ _ _ rfl rfl),
          trivial⟩ ?_
      refine pt_then ?_
      refine ht_seq ?_
      refine ht_seq ?_
      refine ht_joinS h (fun (s7 : Bool) => [(0, .fl .shr 1 (List.map (Value.int .i64) l)), (1, .fl .shr 1 (List.map (Value.int .i64) text)), (5, .fl (.own 3) 1 (List.map (Value.int .i64) v6.1)), (6, .v (.int .i64 v6.2)), (41, .v (.bool s7))]) ?_ ?_
      · rintro s7 h
        refine pt_then ?_
        refine ht_cond _ rfl (fun hb11 => ?_) (fun hb11 => ?_)
        · have h := cond_t hb11 h
          refine ht_seq ?_
          refine ht_joinS h (fun (s13 : Bool) => [(4, .v (.bool s13))]) ?_ ?_
          · rintro s13 h
            refine pt_then ?_
            refine ht_ret ?_
            refine pt_r_then ?_
            obtain rfl := Option.some.inj h
            exact pt_ret hio rfl (.tmp _ _ .nil) rfl rfl
          · intro u14 h hl15 hr16
            refine cond_some h (fun hg5_2 h => ?_) (fun hg5_2 h => ?_)
            · obtain ⟨v12, hv12, h⟩ := bind_some h
              refine ht_seqR hn (El := [_, _, _, _, _, (42, .v (.int .i64 v6.2)), (43, .v (.bool (v6.2 != 0))), (44, .v (.bool true)), (45, .v (.bool v12)), (46, .v (.bool v12)), (4, .v (.bool v12))]) (init := [0, 1, 2, 3, 4]) (fin := [10]) (sps := [⟨[3], [], [5], [(.slot 42)]⟩, ⟨[5], [], [6], [(.slot 43)]⟩, ⟨[6], [], [7], [(.slot 44)]⟩, ⟨[7], [], [8], [(.slot 45)]⟩, ⟨[7, 8], [], [9], [(.slot 46)]⟩, ⟨[9], [], [10], [(.slot 4)]⟩]) (es' := [(4, .v (.bool v12))]) (by kernel_rfl) rfl rfl
                ⟨st_plain rfl (op_move _ _ _ _ rfl rfl),
                  st_plain rfl (op_bin _ _ _ _ _ rfl rfl rfl),
                  st_plain rfl (op_move _ _ _ _ (congrArg (fun b => AV.v (Value.bool b)) hg5_2) rfl),
                  st_run 2 44 true rfl rfl rfl (List.Mem.head _) (op_call _ _ 21 _ _ rfl Try.call21 rfl (ok_wherrylaw02_wakes  _ hv12) rfl rfl),
                  st_plain rfl (op_pick _ _ true _ rfl rfl),
                  st_plain rfl (op_assign _ _ _ _ rfl rfl),
                  trivial⟩ ?_
              exact hl15 _ (Option.some.inj h).symm
            · refine ht_seqR hn (El := [_, _, _, _, _, (42, .v (.int .i64 v6.2)), (43, .v (.bool (v6.2 != 0))), (44, .v (.bool false)), (45, .v undef), (46, .v (.bool false)), (4, .v (.bool false))]) (init := [0, 1, 2, 3, 4]) (fin := [10]) (sps := [⟨[3], [], [5], [(.slot 42)]⟩, ⟨[5], [], [6], [(.slot 43)]⟩, ⟨[6], [], [7], [(.slot 44)]⟩, ⟨[7], [], [8], [(.slot 45)]⟩, ⟨[7], [], [9], [(.slot 46)]⟩, ⟨[9], [], [10], [(.slot 4)]⟩]) (es' := [(4, .v (.bool false))]) (by kernel_rfl) rfl rfl
                ⟨st_plain rfl (op_move _ _ _ _ rfl rfl),
                  st_plain rfl (op_bin _ _ _ _ _ rfl rfl rfl),
                  st_plain rfl (op_move _ _ _ _ (congrArg (fun b => AV.v (Value.bool b)) hg5_2) rfl),
                  st_skip 2 44 _ true rfl rfl rfl rfl (List.Mem.head _),
                  st_plain rfl (op_pick _ _ false _ rfl rfl),
                  st_plain rfl (op_assign _ _ _ _ rfl rfl),
                  trivial⟩ ?_
              exact hl15 _ (Option.some.inj h).symm
        · have h := cond_f hb11 h
          refine ht_skip ?_
          refine pt_then ?_
          refine ht_seq ?_
          refine ht_seqR hn (El := [_, _, _, _, _, (7, .v (.slice none 0 0))]) (init := [0, 1, 2, 3, 4]) (fin := [0, 1, 2, 5]) (sps := [⟨[], [], [5], [(.slot 7)]⟩]) (es' := [(_, _), (_, _), (_, _), (7, .v (.slice none 0 0))]) (by kernel_rfl) rfl rfl
            ⟨st_plain rfl (op_assign _ _ _ _ rfl rfl),
              trivial⟩ ?_
          refine pt_then ?_
          refine ht_seq ?_
          refine ht_seqR hn (El := [_, _, _, _, (8, .box 40 [.v (.slice none 0 0), .v (.int .i64 0)])]) (init := [0, 1, 2, 3]) (fin := [0, 1, 2, 3, 4]) (sps := [⟨[], [], [4], [(.slot 8)]⟩]) (es' := [(_, _), (_, _), (_, _), (_, _), (8, .box 40 [.v (.slice none 0 0), .v (.int .i64 0)])]) (by kernel_rfl) rfl rfl
            ⟨st_plain rfl (op_alloc _ _ zr40),
              trivial⟩ ?_
          refine pt_then ?_
          refine ht_seq ?_
          refine ht_seq ?_
          refine ht_seqR hn (El := [_, _, _, _, _, (9, .v (.int .i64 0))]) (init := [0, 1, 2, 3, 4]) (fin := [0, 1, 2, 3, 4, 5]) (sps := [⟨[], [], [5], [(.slot 9)]⟩]) (es' := [(_, _), (_, _), (_, _), (_, _), (_, _), (9, .v (.int .i64 0))]) (by kernel_rfl) rfl rfl
            ⟨st_plain rfl (op_assign _ _ _ _ rfl rfl),
              trivial⟩ ?_
          refine pt_then ?_
          refine ht_sub (fs := [(0, .fl .shr 1 (List.map (Value.int .i64) l)), (1, .fl .shr 1 (List.map (Value.int .i64) text)), (5, .fl (.own 3) 1 (List.map (Value.int .i64) v6.1)), (7, .fl (.own 3) 1 (List.map (Value.int .i64) [])), (8, .box 40 [.fl (.own 5) 1 (List.map (Value.int .u8) []), .v (.int .i64 0)]), (9, .v (.int .i64 0))]) (.same _ (.same _ (.same _ (.sub _ (sub_nil 3 1) rfl (.box _ _ (subs_cons (sub_nil 5 1) (subs_cons (sub_refl _) (subs_nil))) rfl (.same _ .nil)))))) ?_
          refine ht_loopS h (fun ((s85, s86, s87, s88) : (List Int) × (List Int) × Int × Int) => [(0, .fl .shr 1 (List.map (Value.int .i64) l)), (1, .fl .shr 1 (List.map (Value.int .i64) text)), (5, .fl (.own 3) 1 (List.map (Value.int .i64) v6.1)), (7, .fl (.own 3) 1 (List.map (Value.int .i64) s85)), (8, .box 40 [.fl (.own 5) 1 (List.map (Value.int .u8) s86), .v (.int .i64 s87)]), (9, .v (.int .i64 s88))]) (fun ((s112, s113, s114) : (List Int) × (List Int) × Int) => [(0, .fl .shr 1 (List.map (Value.int .i64) l)), (7, .fl (.own 3) 1 (List.map (Value.int .i64) s112)), (8, .box 40 [.fl (.own 5) 1 (List.map (Value.int .u8) s113), .v (.int .i64 s114)])]) ?_ ?_
          · rintro ⟨s112, s113, s114⟩ h
            refine pt_then ?_
            refine ht_seq ?_
            refine ht_seqR hn (El := [_, _, _, (15, .v (.int .i64 0))]) (init := [0, 1, 2]) (fin := [0, 1, 2, 3]) (sps := [⟨[], [], [3], [(.slot 15)]⟩]) (es' := [(_, _), (_, _), (_, _), (15, .v (.int .i64 0))]) (by kernel_rfl) rfl rfl
              ⟨st_plain rfl (op_assign _ _ _ _ rfl rfl),
                trivial⟩ ?_
            refine pt_then ?_
            refine ht_seq ?_
            refine ht_seq ?_
            refine ht_seqR hn (El := [_, _, _, _, (16, .v (.int .i64 0))]) (init := [0, 1, 2, 3]) (fin := [0, 1, 2, 3, 4]) (sps := [⟨[], [], [4], [(.slot 16)]⟩]) (es' := [(_, _), (_, _), (_, _), (_, _), (16, .v (.int .i64 0))]) (by kernel_rfl) rfl rfl
              ⟨st_plain rfl (op_assign _ _ _ _ rfl rfl),
                trivial⟩ ?_
            refine pt_then ?_
            refine ht_loopS h (fun ((s165, s166) : Int × Int) => [(0, .fl .shr 1 (List.map (Value.int .i64) l)), (7, .fl (.own 3) 1 (List.map (Value.int .i64) s112)), (8, .box 40 [.fl (.own 5) 1 (List.map (Value.int .u8) s113), .v (.int .i64 s114)]), (15, .v (.int .i64 s165)), (16, .v (.int .i64 s166))]) (fun (s173 : Int) => [(8, .box 40 [.fl (.own 5) 1 (List.map (Value.int .u8) s113), .v (.int .i64 s114)]), (15, .v (.int .i64 s173))]) ?_ ?_
            · rintro s173 h
              refine pt_then ?_
              refine ht_seq ?_
              refine ht_joinS h (fun (s187 : Bool) => [(4, .v (.bool s187))]) ?_ ?_
              · rintro s187 h
                refine pt_then ?_
                refine ht_ret ?_
                obtain rfl := Option.some.inj h
                exact pt_ret hio rfl (.tmp _ _ .nil) rfl rfl
              · intro u188 h hl189 hr190
                refine cond_some h (fun hg26_4 h => ?_) (fun hg26_4 h => ?_)
                · obtain ⟨v186, hv186, h⟩ := bind_some h
                  refine ht_seqR hn (El := [_, _, (142, .v (.int .i64 s173)), (143, .ptr 8 1), (144, .v (.int .i64 s114)), (145, .v (.bool (s173 == s114))), (146, .v (.bool true)), (147, .v (.bool v186)), (148, .v (.bool v186)), (4, .v (.bool v186))]) (init := [0, 1]) (fin := [9]) (sps := [⟨[1], [], [2], [(.slot 142)]⟩, ⟨[0], [], [3], [(.slot 143)]⟩, ⟨[3, 0], [], [4], [(.slot 144)]⟩, ⟨[2, 4], [], [5], [(.slot 145)]⟩, ⟨[5], [], [6], [(.slot 146)]⟩, ⟨[6], [], [7], [(.slot 147)]⟩, ⟨[6, 7], [], [8], [(.slot 148)]⟩, ⟨[8], [], [9], [(.slot 4)]⟩]) (es' := [(4, .v (.bool v186))]) (by kernel_rfl) rfl rfl
                    ⟨st_plain rfl (op_move _ _ _ _ rfl rfl),
                      st_plain rfl (op_fieldAddr _ _ _ _ 8 0 _ Try.underlying40 rfl sz3 rfl rfl (by decide)),
                      st_plain rfl (op_load _ _ _ _ _ _ Try.underlying3 rfl rfl rfl (Nat.le_of_ble_eq_true rfl) rfl rfl rfl),
                      st_plain rfl (op_bin _ _ _ _ _ rfl rfl rfl),
                      st_plain rfl (op_move _ _ _ _ (congrArg (fun b => AV.v (Value.bool b)) hg26_4) rfl),
                      st_run 4 146 true rfl rfl rfl (List.Mem.head _) (op_call _ _ 21 _ _ rfl Try.call21 rfl (ok_wherrylaw02_wakes  _ hv186) rfl rfl),
                      st_plain rfl (op_pick _ _ true _ rfl rfl),
                      st_plain rfl (op_assign _ _ _ _ rfl rfl),
                      trivial⟩ ?_
                  exact hl189 _ (Option.some.inj h).symm
                · refine ht_seqR hn (El := [_, _, (142, .v (.int .i64 s173)), (143, .ptr 8 1), (144, .v (.int .i64 s114)), (145, .v (.bool (s173 == s114))), (146, .v (.bool false)), (147, .v undef), (148, .v (.bool false)), (4, .v (.bool false))]) (init := [0, 1]) (fin := [9]) (sps := [⟨[1], [], [2], [(.slot 142)]⟩, ⟨[0], [], [3], [(.slot 143)]⟩, ⟨[3, 0], [], [4], [(.slot 144)]⟩, ⟨[2, 4], [], [5], [(.slot 145)]⟩, ⟨[5], [], [6], [(.slot 146)]⟩, ⟨[6], [], [7], [(.slot 147)]⟩, ⟨[6], [], [8], [(.slot 148)]⟩, ⟨[8], [], [9], [(.slot 4)]⟩]) (es' := [(4, .v (.bool false))]) (by kernel_rfl) rfl rfl
                    ⟨st_plain rfl (op_move _ _ _ _ rfl rfl),
                      st_plain rfl (op_fieldAddr _ _ _ _ 8 0 _ Try.underlying40 rfl sz3 rfl rfl (by decide)),
                      st_plain rfl (op_load _ _ _ _ _ _ Try.underlying3 rfl rfl rfl (Nat.le_of_ble_eq_true rfl) rfl rfl rfl),
                      st_plain rfl (op_bin _ _ _ _ _ rfl rfl rfl),
                      st_plain rfl (op_move _ _ _ _ (congrArg (fun b => AV.v (Value.bool b)) hg26_4) rfl),
                      st_skip 4 146 _ true rfl rfl rfl rfl (List.Mem.head _),
                      st_plain rfl (op_pick _ _ false _ rfl rfl),
                      st_plain rfl (op_assign _ _ _ _ rfl rfl),
                      trivial⟩ ?_
                  exact hl189 _ (Option.some.inj h).symm
            · rintro u174 hl175 hr176 ⟨s165, s166⟩ rr179 h ho177
              refine ht_seq ?_
              refine ht_seq ?_
              refine ht_seqR hn (El := [_, _, _, _, _, (106, .v (.int .i64 s166)), (107, .same (.slot 7)), (108, .v (.int .i64 (s112.length : Int))), (109, .v (.bool ((decide (s166 < (s112.length : Int))))))]) (init := [0, 1, 2, 3, 4]) (fin := [0, 1, 2, 3, 4, 8]) (sps := [⟨[4], [], [5], [(.slot 106)]⟩, ⟨[1], [], [6], [(.slot 107)]⟩, ⟨[6, 1], [], [7], [(.slot 108)]⟩, ⟨[5, 7], [], [8], [(.slot 109)]⟩]) (es' := [(_, _), (_, _), (_, _), (_, _), (_, _), (109, .v (.bool ((decide (s166 < (s112.length : Int))))))]) (by kernel_rfl) rfl rfl
                ⟨st_plain rfl (op_move _ _ _ _ rfl rfl),
                  st_plain rfl (op_move _ _ _ _ rfl rfl),
                  st_plain rfl (op_len_fl _ _ _ Try.underlying22 rfl (by decide) (map_len _)),
                  st_plain rfl (op_bin _ _ _ _ _ rfl rfl rfl),
                  trivial⟩ ?_
              refine pt_then ?_
              refine ht_cond _ rfl (fun hb180 => ?_) (fun hb180 => ?_)
              · have h := cond_t hb180 h
                refine ht_skip ?_
                refine pt_then ?_
                refine ht_seq ?_
                refine ht_block ?_
                refine ht_seq ?_
                obtain ⟨v145, hv145, h⟩ := bind_some h
                refine ht_seqR hn (El := (_ :: _ :: _ :: _ :: _ :: _ :: (113, .fl .shr 1 (List.map (Value.int .i64) l)) :: (114, .ptr 8 0) :: (115, .same (.cell 8 0)) :: (116, .v (.int .i64 s165)) :: (117, .tup [.v (.int .i64 v145.1), .v (.int .i64 v145.2.1), .v (.int .i64 v145.2.2)]) :: (112, .tup [.v (.int .i64 v145.1), .v (.int .i64 v145.2.1), .v (.int .i64 v145.2.2)]) :: (118, .v (.int .i64 v145.1)) :: (119, .v (.int .i64 v145.2.1)) :: (120, .v (.int .i64 v145.2.2)) :: (17, .v (.int .i64 v145.1)) :: (18, .v (.int .i64 v145.2.1)) :: (19, .v (.int .i64 v145.2.2)) :: [])) (init := [0, 1, 2, 3, 4, 5]) (fin := [0, 1, 2, 3, 4, 15, 16, 17]) (sps := [⟨[0], [], [6], [(.slot 113)]⟩, ⟨[2], [], [7], [(.slot 114)]⟩, ⟨[7, 2], [], [8], [(.slot 115)]⟩, ⟨[3], [], [9], [(.slot 116)]⟩, ⟨[6, 8, 2, 9], [], [10], [(.slot 117)]⟩, ⟨[], [10], [11], [(.slot 112)]⟩, ⟨[11], [], [12], [(.slot 118)]⟩, ⟨[11], [], [13], [(.slot 119)]⟩, ⟨[11], [], [14], [(.slot 120)]⟩, ⟨[12], [], [15], [(.slot 17)]⟩, ⟨[13], [], [16], [(.slot 18)]⟩, ⟨[14], [], [17], [(.slot 19)]⟩]) (es' := [(_, _), (_, _), (_, _), (_, _), (_, _), (17, .v (.int .i64 v145.1)), (18, .v (.int .i64 v145.2.1)), (19, .v (.int .i64 v145.2.2))]) (by kernel_rfl) rfl rfl
                  ⟨st_plain rfl (op_move _ _ _ _ rfl rfl),
                    st_plain rfl (op_fieldAddr _ _ _ _ 8 0 _ Try.underlying40 rfl sz23 rfl rfl (by decide)),
                    st_plain rfl (op_load _ _ _ _ _ _ Try.underlying23 rfl rfl rfl (Nat.le_of_ble_eq_true rfl) rfl rfl rfl),
                    st_plain rfl (op_move _ _ _ _ rfl rfl),
                    st_plain rfl (op_call _ _ 13 _ _ rfl Try.call13 rfl (ok_canon_Read l s113 s165 _ hv145) rfl rfl),
                    st_plain rfl (op_move_take _ _ _ _ rfl),
                    st_plain rfl (op_extract _ _ _ _ _ rfl rfl (Nat.le_of_ble_eq_true rfl) rfl rfl),
                    st_plain rfl (op_extract _ _ _ _ _ rfl rfl (Nat.le_of_ble_eq_true rfl) rfl rfl),
                    st_plain rfl (op_extract _ _ _ _ _ rfl rfl (Nat.le_of_ble_eq_true rfl) rfl rfl),
                    st_plain rfl (op_assign _ _ _ _ rfl rfl),
                    st_plain rfl (op_assign _ _ _ _ rfl rfl),
                    st_plain rfl (op_assign _ _ _ _ rfl rfl),
                    trivial⟩ ?_
                refine pt_then ?_
                refine ht_seq ?_
                refine ht_seq ?_
                refine ht_joinS h (fun (s181 : Bool) => [(0, .fl .shr 1 (List.map (Value.int .i64) l)), (7, .fl (.own 3) 1 (List.map (Value.int .i64) s112)), (8, .box 40 [.fl (.own 5) 1 (List.map (Value.int .u8) s113), .v (.int .i64 s114)]), (16, .v (.int .i64 s166)), (18, .v (.int .i64 v145.2.1)), (140, .v (.bool s181))]) ?_ ?_
                · rintro s181 h
                  refine pt_then ?_
                  refine ht_cond _ rfl (fun hb185 => ?_) (fun hb185 => ?_)
                  · have h := cond_t hb185 h
                    refine ht_seq ?_
                    refine ht_seqR hn (El := [_, _, _, _, _, _, (4, .v (.bool false))]) (init := [0, 1, 2, 3, 4, 5]) (fin := [6]) (sps := [⟨[], [], [6], [(.slot 4)]⟩]) (es' := [(4, .v (.bool false))]) (by kernel_rfl) rfl rfl
                      ⟨st_plain rfl (op_assign _ _ _ _ rfl rfl),
                        trivial⟩ ?_
                    refine pt_then ?_
                    refine ht_ret ?_
                    refine pt_r_then ?_
                    refine pt_r_in ?_
                    refine pt_r_then ?_
                    refine pt_r_then ?_
                    refine pt_r_in ?_
                    refine pt_r_then ?_
                    have h := hr176 _ (ho177 _ (Option.some.inj h).symm).symm
                    obtain rfl := Option.some.inj h
                    exact pt_ret hio rfl (.tmp _ _ .nil) rfl rfl
                  · have h := cond_f hb185 h
                    refine ht_skip ?_
                    refine pt_then ?_
                    refine ht_seqR hn (El := [_, _, _, _, _, _, (141, .v (.int .i64 v145.2.1)), (15, .v (.int .i64 v145.2.1))]) (init := [0, 1, 2, 3, 4, 5]) (fin := [0, 1, 2, 3, 7]) (sps := [⟨[4], [], [6], [(.slot 141)]⟩, ⟨[6], [], [7], [(.slot 15)]⟩]) (es' := [(_, _), (_, _), (_, _), (_, _), (15, .v (.int .i64 v145.2.1))]) (by kernel_rfl) rfl rfl
                      ⟨st_plain rfl (op_move _ _ _ _ rfl rfl),
                        st_plain rfl (op_assign _ _ _ _ rfl rfl),
                        trivial⟩ ?_
                    refine pt_inb ?_
                    refine pt_then ?_
                    obtain ⟨v156, hv156, h⟩ := bind_some h
                    refine ht_seqR hn (El := [_, _, _, _, _, (110, .v (.int .i64 s166)), (111, .v (.int .i64 v156)), (16, .v (.int .i64 v156))]) (init := [0, 1, 2, 3, 4]) (fin := [0, 1, 2, 4, 7]) (sps := [⟨[3], [], [5], [(.slot 110)]⟩, ⟨[5], [], [6], [(.slot 111)]⟩, ⟨[6], [3], [7], [(.slot 16)]⟩]) (es' := [(_, _), (_, _), (_, _), (_, _), (16, .v (.int .i64 v156))]) (by kernel_rfl) rfl rfl
                      ⟨st_plain rfl (op_move _ _ _ _ rfl rfl),
                        st_plain rfl (op_bin _ _ _ _ _ rfl rfl (ibind (f := Value.int .i64) (Option.some.inj hv156))),
                        st_plain rfl (LOp.drop [_] (op_assign _ _ _ _ rfl rfl)),
                        trivial⟩ ?_
                    exact pt_next _ (Option.some.inj h).symm rfl
                · intro u182 h hl183 hr184
                  refine cond_some h (fun hg23_2 h => ?_) (fun hg23_2 h => ?_)
                  · refine ht_seqR hn (El := (_ :: _ :: _ :: _ :: _ :: _ :: _ :: _ :: (121, .v (.int .i64 v145.2.2)) :: (122, .v (.bool (v145.2.2 != 0))) :: (123, .v (.bool true)) :: (124, .v undef) :: (125, .v undef) :: (126, .v undef) :: (127, .v undef) :: (128, .v undef) :: (129, .v undef) :: (130, .v (.bool true)) :: (131, .v (.bool true)) :: (132, .v undef) :: (133, .v undef) :: (134, .v undef) :: (135, .v undef) :: (136, .v undef) :: (137, .v undef) :: (138, .v undef) :: (139, .v undef) :: (140, .v (.bool true)) :: [])) (init := [0, 1, 2, 3, 4, 5, 6, 7]) (fin := [0, 1, 2, 4, 6, 27]) (sps := (⟨[7], [], [8], [(.slot 121)]⟩ :: ⟨[8], [], [9], [(.slot 122)]⟩ :: ⟨[9], [], [10], [(.slot 123)]⟩ :: ⟨[10], [], [11], [(.slot 124)]⟩ :: ⟨[10], [], [12], [(.slot 125)]⟩ :: ⟨[10], [], [13], [(.slot 126)]⟩ :: ⟨[10], [], [14], [(.slot 127)]⟩ :: ⟨[10], [], [15], [(.slot 128)]⟩ :: ⟨[10], [], [16], [(.slot 129)]⟩ :: ⟨[10], [], [17], [(.slot 130)]⟩ :: ⟨[17], [], [18], [(.slot 131)]⟩ :: ⟨[18], [], [19], [(.slot 132)]⟩ :: ⟨[18], [], [20], [(.slot 133)]⟩ :: ⟨[18], [], [21], [(.slot 134)]⟩ :: ⟨[18], [], [22], [(.slot 135)]⟩ :: ⟨[18], [], [23], [(.slot 136)]⟩ :: ⟨[18], [], [24], [(.slot 137)]⟩ :: ⟨[18], [], [25], [(.slot 138)]⟩ :: ⟨[18], [], [26], [(.slot 139)]⟩ :: ⟨[18], [], [27], [(.slot 140)]⟩ :: [])) (es' := [(_, _), (_, _), (_, _), (_, _), (_, _), (140, .v (.bool true))]) (by kernel_rfl) rfl rfl
                      ⟨st_plain rfl (op_move _ _ _ _ rfl rfl),
                        st_plain rfl (op_bin _ _ _ _ _ rfl rfl rfl),
                        st_plain rfl (op_move _ _ _ _ (congrArg (fun b => AV.v (Value.bool b)) hg23_2) rfl),
                        st_skip 2 123 _ false rfl rfl rfl rfl (List.Mem.head _),
                        st_skip 2 123 _ false rfl rfl rfl rfl (List.Mem.head _),
                        st_skip 2 123 _ false rfl rfl rfl rfl (List.Mem.head _),
                        st_skip 2 123 _ false rfl rfl rfl rfl (List.Mem.head _),
                        st_skip 2 123 _ false rfl rfl rfl rfl (List.Mem.head _),
                        st_skip 2 123 _ false rfl rfl rfl rfl (List.Mem.head _),
                        st_plain rfl (op_pick _ _ true _ rfl rfl),
                        st_plain rfl (op_move _ _ _ _ rfl rfl),
                        st_skip 10 131 _ false rfl rfl rfl rfl (List.Mem.head _),
                        st_skip 10 131 _ false rfl rfl rfl rfl (List.Mem.head _),
                        st_skip 10 131 _ false rfl rfl rfl rfl (List.Mem.head _),
                        st_skip 10 131 _ false rfl rfl rfl rfl (List.Mem.head _),
                        st_skip 10 131 _ false rfl rfl rfl rfl (List.Mem.head _),
                        st_skip 10 131 _ false rfl rfl rfl rfl (List.Mem.head _),
                        st_skip 10 131 _ false rfl rfl rfl rfl (List.Mem.head _),
                        st_skip 10 131 _ false rfl rfl rfl rfl (List.Mem.head _),
                        st_plain rfl (op_pick _ _ true _ rfl rfl),
                        trivial⟩ ?_
                    exact hl183 _ (Option.some.inj h).symm
                  · obtain ⟨v146, hv146, h⟩ := bind_some h
                    obtain ⟨v147, hv147, h⟩ := bind_some h
                    refine cond_some h (fun hg23_10 h => ?_) (fun hg23_10 h => ?_)
                    · refine ht_seqR hn (El := (_ :: _ :: _ :: _ :: _ :: _ :: _ :: _ :: (121, .v (.int .i64 v145.2.2)) :: (122, .v (.bool (v145.2.2 != 0))) :: (123, .v (.bool false)) :: (124, .v (.int .i64 v145.1)) :: (125, .same (.slot 7)) :: (126, .v (.int .i64 s166)) :: (127, .eref (.slot 7) (v146 * 1)) :: (128, .v (.int .i64 v147)) :: (129, .v (.bool (v145.1 != v147))) :: (130, .v (.bool (v145.1 != v147))) :: (131, .v (.bool true)) :: (132, .v undef) :: (133, .v undef) :: (134, .v undef) :: (135, .v undef) :: (136, .v undef) :: (137, .v undef) :: (138, .v undef) :: (139, .v undef) :: (140, .v (.bool true)) :: [])) (init := [0, 1, 2, 3, 4, 5, 6, 7]) (fin := [0, 1, 2, 4, 6, 27]) (sps := (⟨[7], [], [8], [(.slot 121)]⟩ :: ⟨[8], [], [9], [(.slot 122)]⟩ :: ⟨[9], [], [10], [(.slot 123)]⟩ :: ⟨[10, 5], [], [11], [(.slot 124)]⟩ :: ⟨[10, 1], [], [12], [(.slot 125)]⟩ :: ⟨[10, 4], [], [13], [(.slot 126)]⟩ :: ⟨[10, 12, 1, 13], [], [14], [(.slot 127)]⟩ :: ⟨[10, 14, 1], [], [15], [(.slot 128)]⟩ :: ⟨[10, 11, 15], [], [16], [(.slot 129)]⟩ :: ⟨[10, 16], [], [17], [(.slot 130)]⟩ :: ⟨[17], [], [18], [(.slot 131)]⟩ :: ⟨[18], [], [19], [(.slot 132)]⟩ :: ⟨[18], [], [20], [(.slot 133)]⟩ :: ⟨[18], [], [21], [(.slot 134)]⟩ :: ⟨[18], [], [22], [(.slot 135)]⟩ :: ⟨[18], [], [23], [(.slot 136)]⟩ :: ⟨[18], [], [24], [(.slot 137)]⟩ :: ⟨[18], [], [25], [(.slot 138)]⟩ :: ⟨[18], [], [26], [(.slot 139)]⟩ :: ⟨[18], [], [27], [(.slot 140)]⟩ :: [])) (es' := [(_, _), (_, _), (_, _), (_, _), (_, _), (140, .v (.bool true))]) (by kernel_rfl) rfl rfl
                        ⟨st_plain rfl (op_move _ _ _ _ rfl rfl),
                          st_plain rfl (op_bin _ _ _ _ _ rfl rfl rfl),
                          st_plain rfl (op_move _ _ _ _ (congrArg (fun b => AV.v (Value.bool b)) hg23_2) rfl),
                          st_run 2 123 false rfl rfl rfl (List.Mem.head _) (op_move _ _ _ _ rfl rfl),
                          st_run 2 123 false rfl rfl rfl (List.Mem.head _) (op_move _ _ _ _ rfl rfl),
                          st_run 2 123 false rfl rfl rfl (List.Mem.head _) (op_move _ _ _ _ rfl rfl),
                          st_run 2 123 false rfl rfl rfl (List.Mem.head _) (op_ix _ _ _ _ _ _ _ _ Try.underlying22 sz3 (by decide) rfl rfl rfl (ix_ok hv146).1 (map_lt (ix_ok hv146).2) rfl),
                          st_run 2 123 false rfl rfl rfl (List.Mem.head _) (op_load_e _ _ _ _ _ _ Try.underlying3 rfl rfl rfl (map_get hv147)),
                          st_run 2 123 false rfl rfl rfl (List.Mem.head _) (op_bin _ _ _ _ _ rfl rfl rfl),
                          st_plain rfl (op_pick _ _ false _ rfl rfl),
                          st_plain rfl (op_move _ _ _ _ (congrArg (fun b => AV.v (Value.bool b)) hg23_10) rfl),
                          st_skip 10 131 _ false rfl rfl rfl rfl (List.Mem.head _),
                          st_skip 10 131 _ false rfl rfl rfl rfl (List.Mem.head _),
                          st_skip 10 131 _ false rfl rfl rfl rfl (List.Mem.head _),
                          st_skip 10 131 _ false rfl rfl rfl rfl (List.Mem.head _),
                          st_skip 10 131 _ false rfl rfl rfl rfl (List.Mem.head _),
                          st_skip 10 131 _ false rfl rfl rfl rfl (List.Mem.head _),
                          st_skip 10 131 _ false rfl rfl rfl rfl (List.Mem.head _),
                          st_skip 10 131 _ false rfl rfl rfl rfl (List.Mem.head _),
                          st_plain rfl (op_pick _ _ true _ rfl rfl),
                          trivial⟩ ?_
                      exact hl183 _ (Option.some.inj h).symm
                    · obtain ⟨v148, hv148, h⟩ := bind_some h
                      obtain ⟨v149, hv149, h⟩ := bind_some h
                      obtain ⟨v150, hv150, h⟩ := bind_some h
                      refine ht_seqR hn (El := (_ :: _ :: _ :: _ :: _ :: _ :: _ :: _ :: (121, .v (.int .i64 v145.2.2)) :: (122, .v (.bool (v145.2.2 != 0))) :: (123, .v (.bool false)) :: (124, .v (.int .i64 v145.1)) :: (125, .same (.slot 7)) :: (126, .v (.int .i64 s166)) :: (127, .eref (.slot 7) (v146 * 1)) :: (128, .v (.int .i64 v147)) :: (129, .v (.bool (v145.1 != v147))) :: (130, .v (.bool (v145.1 != v147))) :: (131, .v (.bool false)) :: (132, .v (.int .i64 v145.2.1)) :: (133, .v (.int .i64 s165)) :: (134, .fl .shr 1 (List.map (Value.int .i64) l)) :: (135, .v (.int .i64 v145.1)) :: (136, .eref (.slot 134) (v148 * 1)) :: (137, .v (.int .i64 v149)) :: (138, .v (.int .i64 v150)) :: (139, .v (.bool (v145.2.1 != v150))) :: (140, .v (.bool (v145.2.1 != v150))) :: [])) (init := [0, 1, 2, 3, 4, 5, 6, 7]) (fin := [0, 1, 2, 4, 6, 27]) (sps := (⟨[7], [], [8], [(.slot 121)]⟩ :: ⟨[8], [], [9], [(.slot 122)]⟩ :: ⟨[9], [], [10], [(.slot 123)]⟩ :: ⟨[10, 5], [], [11], [(.slot 124)]⟩ :: ⟨[10, 1], [], [12], [(.slot 125)]⟩ :: ⟨[10, 4], [], [13], [(.slot 126)]⟩ :: ⟨[10, 12, 1, 13], [], [14], [(.slot 127)]⟩ :: ⟨[10, 14, 1], [], [15], [(.slot 128)]⟩ :: ⟨[10, 11, 15], [], [16], [(.slot 129)]⟩ :: ⟨[10, 16], [], [17], [(.slot 130)]⟩ :: ⟨[17], [], [18], [(.slot 131)]⟩ :: ⟨[18, 6], [], [19], [(.slot 132)]⟩ :: ⟨[18, 3], [], [20], [(.slot 133)]⟩ :: ⟨[18, 0], [], [21], [(.slot 134)]⟩ :: ⟨[18, 5], [], [22], [(.slot 135)]⟩ :: ⟨[18, 21, 22], [], [23], [(.slot 136)]⟩ :: ⟨[18, 23, 21], [], [24], [(.slot 137)]⟩ :: ⟨[18, 20, 24], [], [25], [(.slot 138)]⟩ :: ⟨[18, 19, 25], [], [26], [(.slot 139)]⟩ :: ⟨[18, 26], [], [27], [(.slot 140)]⟩ :: [])) (es' := [(_, _), (_, _), (_, _), (_, _), (_, _), (140, .v (.bool (v145.2.1 != v150)))]) (by kernel_rfl) rfl rfl
                        ⟨st_plain rfl (op_move _ _ _ _ rfl rfl),
                          st_plain rfl (op_bin _ _ _ _ _ rfl rfl rfl),
                          st_plain rfl (op_move _ _ _ _ (congrArg (fun b => AV.v (Value.bool b)) hg23_2) rfl),
                          st_run 2 123 false rfl rfl rfl (List.Mem.head _) (op_move _ _ _ _ rfl rfl),
                          st_run 2 123 false rfl rfl rfl (List.Mem.head _) (op_move _ _ _ _ rfl rfl),
                          st_run 2 123 false rfl rfl rfl (List.Mem.head _) (op_move _ _ _ _ rfl rfl),
                          st_run 2 123 false rfl rfl rfl (List.Mem.head _) (op_ix _ _ _ _ _ _ _ _ Try.underlying22 sz3 (by decide) rfl rfl rfl (ix_ok hv146).1 (map_lt (ix_ok hv146).2) rfl),
                          st_run 2 123 false rfl rfl rfl (List.Mem.head _) (op_load_e _ _ _ _ _ _ Try.underlying3 rfl rfl rfl (map_get hv147)),
                          st_run 2 123 false rfl rfl rfl (List.Mem.head _) (op_bin _ _ _ _ _ rfl rfl rfl),
                          st_plain rfl (op_pick _ _ false _ rfl rfl),
                          st_plain rfl (op_move _ _ _ _ (congrArg (fun b => AV.v (Value.bool b)) hg23_10) rfl),
                          st_run 10 131 false rfl rfl rfl (List.Mem.head _) (op_move _ _ _ _ rfl rfl),
                          st_run 10 131 false rfl rfl rfl (List.Mem.head _) (op_move _ _ _ _ rfl rfl),
                          st_run 10 131 false rfl rfl rfl (List.Mem.head _) (op_move _ _ _ _ rfl rfl),
                          st_run 10 131 false rfl rfl rfl (List.Mem.head _) (op_move _ _ _ _ rfl rfl),
                          st_run 10 131 false rfl rfl rfl (List.Mem.head _) (op_ix _ _ _ _ _ _ _ _ Try.underlying22 sz3 (by decide) rfl rfl rfl (ix_ok hv148).1 (map_lt (ix_ok hv148).2) rfl),
                          st_run 10 131 false rfl rfl rfl (List.Mem.head _) (op_load_e _ _ _ _ _ _ Try.underlying3 rfl rfl rfl (map_get hv149)),
                          st_run 10 131 false rfl rfl rfl (List.Mem.head _) (op_bin _ _ _ _ _ rfl rfl (ibind (f := Value.int .i64) (Option.some.inj hv150))),
                          st_run 10 131 false rfl rfl rfl (List.Mem.head _) (op_bin _ _ _ _ _ rfl rfl rfl),
                          st_plain rfl (op_pick _ _ false _ rfl rfl),
                          trivial⟩ ?_
                      exact hl183 _ (Option.some.inj h).symm
              · have h := cond_f hb180 h
                refine ht_exit ?_
                refine pt_x_then ?_
                refine pt_x_then ?_
                refine pt_x_in ?_
                refine pt_pick [2, 3] (by kernel_rfl) (es' := [(_, _), (_, _)]) rfl ?_
                exact hl175 _ (ho177 _ (Option.some.inj h).symm).symm
          · rintro u115 hl116 hr117 ⟨s85, s86, s87, s88⟩ rr120 h ho118
            refine ht_seq ?_
            refine ht_seq ?_
            refine ht_joinS h (fun (s121 : Bool) => [(0, .fl .shr 1 (List.map (Value.int .i64) l)), (1, .fl .shr 1 (List.map (Value.int .i64) text)), (5, .fl (.own 3) 1 (List.map (Value.int .i64) v6.1)), (7, .fl (.own 3) 1 (List.map (Value.int .i64) s85)), (8, .box 40 [.fl (.own 5) 1 (List.map (Value.int .u8) s86), .v (.int .i64 s87)]), (9, .v (.int .i64 s88)), (55, .v (.bool s121))]) ?_ ?_
            · rintro s121 h
              refine pt_then ?_
              refine ht_cond _ rfl (fun hb125 => ?_) (fun hb125 => ?_)
              · have h := cond_t hb125 h
                refine ht_skip ?_
                refine pt_then ?_
                refine ht_seq ?_
                refine ht_joinS h (fun ((s132, s133, s134) : (List Int) × (List Int) × Int) => [(0, .fl .shr 1 (List.map (Value.int .i64) l)), (1, .fl .shr 1 (List.map (Value.int .i64) text)), (5, .fl (.own 3) 1 (List.map (Value.int .i64) v6.1)), (7, .fl (.own 3) 1 (List.map (Value.int .i64) s132)), (8, .box 40 [.fl (.own 5) 1 (List.map (Value.int .u8) s133), .v (.int .i64 s134)]), (9, .v (.int .i64 s88))]) ?_ ?_
                · rintro ⟨s132, s133, s134⟩ h
                  refine pt_then ?_
                  obtain ⟨v57, hv57, h⟩ := bind_some h
                  refine ht_seqR hn (El := [_, _, _, _, _, _, (56, .v (.int .i64 s88)), (57, .v (.int .i64 v57)), (9, .v (.int .i64 v57))]) (init := [0, 1, 2, 3, 4, 5]) (fin := [0, 1, 2, 3, 4, 8]) (sps := [⟨[5], [], [6], [(.slot 56)]⟩, ⟨[6], [], [7], [(.slot 57)]⟩, ⟨[7], [5], [8], [(.slot 9)]⟩]) (es' := [(_, _), (_, _), (_, _), (_, _), (_, _), (9, .v (.int .i64 v57))]) (by kernel_rfl) rfl rfl
                    ⟨st_plain rfl (op_move _ _ _ _ rfl rfl),
                      st_plain rfl (op_bin _ _ _ _ _ rfl rfl (ibind (f := Value.int .i64) (Option.some.inj hv57))),
                      st_plain rfl (LOp.drop [_] (op_assign _ _ _ _ rfl rfl)),
                      trivial⟩ ?_
                  exact pt_next _ (Option.some.inj h).symm rfl
                · intro u135 h hl136 hr137
                  refine ht_block ?_
                  refine ht_seq ?_
                  obtain ⟨v22, hv22, h⟩ := bind_some h
                  obtain ⟨v23, hv23, h⟩ := bind_some h
                  obtain ⟨v24, hv24, h⟩ := bind_some h
                  obtain ⟨v25, hv25, h⟩ := bind_some h
                  obtain ⟨v26, hv26, h⟩ := bind_some h
                  obtain ⟨v27, hv27, h⟩ := bind_some h
                  refine ht_seqR hn (El := (_ :: _ :: _ :: _ :: _ :: _ :: _ :: (58, .fl .shr 1 (List.map (Value.int .i64) text)) :: (59, .v (.int .i64 s88)) :: (60, .eref (.slot 58) (v22 * 1)) :: (61, .v (.int .i64 v23)) :: (62, .v (.int .u64 v24)) :: (63, .fl .shr 1 (List.map (Value.int .i64) l)) :: (64, .v (.int .i64 (l.length : Int))) :: (65, .v (.int .u64 v25)) :: (66, .v (.int .u64 v26)) :: (67, .v (.int .i64 v27)) :: (10, .v (.int .i64 v27)) :: [])) (init := [0, 1, 2, 3, 4, 5, 6]) (fin := [0, 1, 2, 3, 4, 5, 17]) (sps := [⟨[1], [], [7], [(.slot 58)]⟩, ⟨[5], [], [8], [(.slot 59)]⟩, ⟨[7, 8], [], [9], [(.slot 60)]⟩, ⟨[9, 7], [], [10], [(.slot 61)]⟩, ⟨[10], [], [11], [(.slot 62)]⟩, ⟨[0], [], [12], [(.slot 63)]⟩, ⟨[12], [], [13], [(.slot 64)]⟩, ⟨[13], [], [14], [(.slot 65)]⟩, ⟨[11, 14], [], [15], [(.slot 66)]⟩, ⟨[15], [], [16], [(.slot 67)]⟩, ⟨[16], [], [17], [(.slot 10)]⟩]) (es' := [(_, _), (_, _), (_, _), (_, _), (_, _), (_, _), (10, .v (.int .i64 v27))]) (by kernel_rfl) rfl rfl
                    ⟨st_plain rfl (op_move _ _ _ _ rfl rfl),
                      st_plain rfl (op_move _ _ _ _ rfl rfl),
                      st_plain rfl (op_ix _ _ _ _ _ _ _ _ Try.underlying22 sz3 (by decide) rfl rfl rfl (ix_ok hv22).1 (map_lt (ix_ok hv22).2) rfl),
                      st_plain rfl (op_load_e _ _ _ _ _ _ Try.underlying3 rfl rfl rfl (map_get hv23)),
                      st_plain rfl ((Option.some.inj hv24) ▸ op_conv _ _ _ Try.underlying3 Try.underlying37 rfl),
                      st_plain rfl (op_move _ _ _ _ rfl rfl),
                      st_plain rfl (op_len_fl _ _ _ Try.underlying22 rfl (by decide) (map_len _)),
                      st_plain rfl ((Option.some.inj hv25) ▸ op_conv _ _ _ Try.underlying3 Try.underlying37 rfl),
                      st_plain rfl (op_bin _ _ _ _ _ rfl rfl (rem_ok hv26)),
                      st_plain rfl ((Option.some.inj hv27) ▸ op_conv _ _ _ Try.underlying37 Try.underlying3 rfl),
                      st_plain rfl (op_assign _ _ _ _ rfl rfl),
                      trivial⟩ ?_
                  refine pt_then ?_
                  refine ht_seq ?_
                  refine ht_seq ?_
                  obtain ⟨v28, hv28, h⟩ := bind_some h
                  obtain ⟨v29, hv29, h⟩ := bind_some h
                  refine ht_seqR hn (El := [_, _, _, _, _, _, _, (68, .fl .shr 1 (List.map (Value.int .i64) l)), (69, .v (.int .i64 v27)), (70, .eref (.slot 68) (v28 * 1)), (71, .v (.int .i64 v29)), (72, .v (.bool (v29 == 0)))]) (init := [0, 1, 2, 3, 4, 5, 6]) (fin := [0, 1, 2, 3, 4, 5, 6, 11]) (sps := [⟨[0], [], [7], [(.slot 68)]⟩, ⟨[6], [], [8], [(.slot 69)]⟩, ⟨[7, 8], [], [9], [(.slot 70)]⟩, ⟨[9, 7], [], [10], [(.slot 71)]⟩, ⟨[10], [], [11], [(.slot 72)]⟩]) (es' := [(_, _), (_, _), (_, _), (_, _), (_, _), (_, _), (_, _), (72, .v (.bool (v29 == 0)))]) (by kernel_rfl) rfl rfl
                    ⟨st_plain rfl (op_move _ _ _ _ rfl rfl),
                      st_plain rfl (op_move _ _ _ _ rfl rfl),
                      st_plain rfl (op_ix _ _ _ _ _ _ _ _ Try.underlying22 sz3 (by decide) rfl rfl rfl (ix_ok hv28).1 (map_lt (ix_ok hv28).2) rfl),
                      st_plain rfl (op_load_e _ _ _ _ _ _ Try.underlying3 rfl rfl rfl (map_get hv29)),
                      st_plain rfl (op_bin _ _ _ _ _ rfl rfl rfl),
                      trivial⟩ ?_
                  refine pt_then ?_
                  refine ht_cond _ rfl (fun hb138 => ?_) (fun hb138 => ?_)
                  · have h := cond_t hb138 h
                    refine ht_exit ?_
                    refine pt_x_then ?_
                    refine pt_x_in ?_
                    refine pt_pick [0, 1, 2, 3, 4, 5] (by kernel_rfl) (es' := [(_, _), (_, _), (_, _), (_, _), (_, _), (_, _)]) rfl ?_
                    exact hl136 _ (Option.some.inj h).symm
                  · have h := cond_f hb138 h
                    refine ht_skip ?_
                    refine pt_then ?_
                    refine ht_seq ?_
                    obtain ⟨v31, hv31, h⟩ := bind_some h
                    obtain ⟨v32, hv32, h⟩ := bind_some h
                    obtain ⟨v33, hv33, h⟩ := bind_some h
                    obtain ⟨v34, hv34, h⟩ := bind_some h
                    obtain ⟨v35, hv35, h⟩ := bind_some h
                    refine ht_anyR (by kernel_rfl) hn (El := (_ :: _ :: _ :: _ :: _ :: _ :: _ :: _ :: (74, .same (.slot 5)) :: (75, .v (.int .i64 v27)) :: (76, .eref (.slot 5) (v31 * 1)) :: (77, .v (.int .i64 v32)) :: (78, .fl .shr 1 (List.map (Value.int .i64) l)) :: (79, .v (.int .i64 v27)) :: (80, .eref (.slot 78) (v33 * 1)) :: (81, .v (.int .i64 v34)) :: (82, .tup [.v (.int .i64 v35.1), .v (.int .i64 v35.2)]) :: (73, .tup [.v (.int .i64 v35.1), .v (.int .i64 v35.2)]) :: (83, .v (.int .i64 v35.1)) :: (84, .v (.int .i64 v35.2)) :: (11, .v (.int .i64 v35.1)) :: (12, .v (.int .i64 v35.2)) :: [])) (init := [0, 1, 2, 3, 4, 5, 6, 7]) (fin := [0, 1, 2, 3, 4, 5, 6, 20, 21]) (sps := [⟨[2], [], [8], [(.slot 74)]⟩, ⟨[6], [], [9], [(.slot 75)]⟩, ⟨[8, 2, 9], [], [10], [(.slot 76)]⟩, ⟨[10, 2], [], [11], [(.slot 77)]⟩, ⟨[0], [], [12], [(.slot 78)]⟩, ⟨[6], [], [13], [(.slot 79)]⟩, ⟨[12, 13], [], [14], [(.slot 80)]⟩, ⟨[14, 12], [], [15], [(.slot 81)]⟩, ⟨[11, 15], [], [16], [(.slot 82)]⟩, ⟨[], [16], [17], [(.slot 73)]⟩, ⟨[17], [], [18], [(.slot 83)]⟩, ⟨[17], [], [19], [(.slot 84)]⟩, ⟨[18], [], [20], [(.slot 11)]⟩, ⟨[19], [], [21], [(.slot 12)]⟩]) (es' := [(_, _), (_, _), (_, _), (_, _), (_, _), (_, _), (_, _), (11, .v (.int .i64 v35.1)), (12, .v (.int .i64 v35.2))]) (by kernel_rfl) rfl rfl
                      ⟨st_plain rfl (op_move _ _ _ _ rfl rfl),
                        st_plain rfl (op_move _ _ _ _ rfl rfl),
                        st_plain rfl (op_ix _ _ _ _ _ _ _ _ Try.underlying22 sz3 (by decide) rfl rfl rfl (ix_ok hv31).1 (map_lt (ix_ok hv31).2) rfl),
                        st_plain rfl (op_load_e _ _ _ _ _ _ Try.underlying3 rfl rfl rfl (map_get hv32)),
                        st_plain rfl (op_move _ _ _ _ rfl rfl),
                        st_plain rfl (op_move _ _ _ _ rfl rfl),
                        st_plain rfl (op_ix _ _ _ _ _ _ _ _ Try.underlying22 sz3 (by decide) rfl rfl rfl (ix_ok hv33).1 (map_lt (ix_ok hv33).2) rfl),
                        st_plain rfl (op_load_e _ _ _ _ _ _ Try.underlying3 rfl rfl rfl (map_get hv34)),
                        st_plain rfl (op_call _ _ 22 _ _ rfl Try.call22 rfl (ok_bits_Turn v32 v34 _ hv35) rfl rfl),
                        st_plain rfl (op_move_take _ _ _ _ rfl),
                        st_plain rfl (op_extract _ _ _ _ _ rfl rfl (Nat.le_of_ble_eq_true rfl) rfl rfl),
                        st_plain rfl (op_extract _ _ _ _ _ rfl rfl (Nat.le_of_ble_eq_true rfl) rfl rfl),
                        st_plain rfl (op_assign _ _ _ _ rfl rfl),
                        st_plain rfl (op_assign _ _ _ _ rfl rfl),
                        trivial⟩ ?_
                    refine pt_then ?_
                    refine ht_seq ?_
                    obtain ⟨v36, hv36, h⟩ := bind_some h
                    obtain ⟨v37, hv37, h⟩ := bind_some h
                    obtain ⟨v38, hv38, h⟩ := bind_some h
                    refine ht_anyR (by kernel_rfl) hn (El := (_ :: _ :: _ :: _ :: _ :: _ :: _ :: _ :: _ :: (86, .agg [.same (.cell 8 0), .v (.int .i64 s87)]) :: (87, .v (.int .i64 v35.1)) :: (88, .fl .shr 1 (List.map (Value.int .i64) l)) :: (89, .v (.int .i64 v27)) :: (90, .eref (.slot 88) (v36 * 1)) :: (91, .v (.int .i64 v37)) :: (92, .tup [.agg [.fl (.own 5) 1 (List.map (Value.int .u8) v38.1.B), .v (.int .i64 v38.1.N)], .v (.int .i64 v38.2)]) :: (85, .tup [.agg [.fl (.own 5) 1 (List.map (Value.int .u8) v38.1.B), .v (.int .i64 v38.1.N)], .any]) :: (85, .tup [.any, .v (.int .i64 v38.2)]) :: (93, .agg [.fl (.own 5) 1 (List.map (Value.int .u8) v38.1.B), .v (.int .i64 v38.1.N)]) :: (85, .tup [.any, .any]) :: (94, .v (.int .i64 v38.2)) :: (13, .box 40 [.v (.slice none 0 0), .v (.int .i64 0)]) :: (13, .box 40 [.fl (.own 5) 1 (List.map (Value.int .u8) v38.1.B), .v (.int .i64 v38.1.N)]) :: (14, .v (.int .i64 v38.2)) :: [])) (init := [0, 1, 2, 3, 4, 5, 6, 7, 8]) (fin := [0, 1, 2, 3, 4, 5, 6, 8, 22, 23]) (sps := [⟨[4], [], [9], [(.slot 86)]⟩, ⟨[7], [], [10], [(.slot 87)]⟩, ⟨[0], [], [11], [(.slot 88)]⟩, ⟨[6], [], [12], [(.slot 89)]⟩, ⟨[11, 12], [], [13], [(.slot 90)]⟩, ⟨[13, 11], [], [14], [(.slot 91)]⟩, ⟨[9, 4, 10, 14], [], [15], [(.slot 92)]⟩, ⟨[], [15], [16, 17], [(.slot 85)]⟩, ⟨[], [16], [19, 18], [(.slot 93)]⟩, ⟨[17], [], [20], [(.slot 94)]⟩, ⟨[], [], [21], [(.slot 13)]⟩, ⟨[], [18, 21], [22], [.cell 13 0, .cell 13 1]⟩, ⟨[20], [], [23], [(.slot 14)]⟩]) (es' := [(_, _), (_, _), (_, _), (_, _), (_, _), (_, _), (_, _), (_, _), (13, .box 40 [.fl (.own 5) 1 (List.map (Value.int .u8) v38.1.B), .v (.int .i64 v38.1.N)]), (14, .v (.int .i64 v38.2))]) (by kernel_rfl) rfl rfl
                      ⟨st_plain rfl (op_loadA _ _ _ _ _ _ _ Try.underlying40 rfl sz40 rfl rfl (Nat.le_of_ble_eq_true rfl) rfl rfl),
                        st_plain rfl (op_move _ _ _ _ rfl rfl),
                        st_plain rfl (op_move _ _ _ _ rfl rfl),
                        st_plain rfl (op_move _ _ _ _ rfl rfl),
                        st_plain rfl (op_ix _ _ _ _ _ _ _ _ Try.underlying22 sz3 (by decide) rfl rfl rfl (ix_ok hv36).1 (map_lt (ix_ok hv36).2) rfl),
                        st_plain rfl (op_load_e _ _ _ _ _ _ Try.underlying3 rfl rfl rfl (map_get hv37)),
                        st_plain rfl (op_call _ _ 23 _ _ rfl Try.call23 rfl (ok_bits_Put (T_Bits.mk s86 s87) v35.1 v37 _ hv38) rfl rfl),
                        st_plain rfl (LOp.split (A := []) 85 0 _ _ _ (op_move_take _ _ _ _ rfl) (Nat.le_of_ble_eq_true rfl) rfl rfl),
                        st_plain rfl (op_extract_take _ _ _ _ _ rfl (Nat.le_of_ble_eq_true rfl) rfl rfl (by decide) rfl),
                        st_plain rfl (op_extract _ _ _ _ _ rfl rfl (Nat.le_of_ble_eq_true rfl) rfl rfl),
                        st_plain rfl (op_alloc _ _ zr40),
                        st_plain rfl (op_store_take _ _ _ _ _ _ _ _ sz40 rfl rfl rfl (Nat.le_of_ble_eq_true rfl) rfl rfl),
                        st_plain rfl (op_assign _ _ _ _ rfl rfl),
                        trivial⟩ ?_
                    refine pt_then ?_
                    refine ht_seq ?_
                    refine ht_seq ?_
                    refine ht_joinS h (fun (s139 : Bool) => [(0, .fl .shr 1 (List.map (Value.int .i64) l)), (1, .fl .shr 1 (List.map (Value.int .i64) text)), (5, .fl (.own 3) 1 (List.map (Value.int .i64) v6.1)), (7, .fl (.own 3) 1 (List.map (Value.int .i64) s85)), (8, .box 40 [.fl (.own 5) 1 (List.map (Value.int .u8) s86), .v (.int .i64 s87)]), (9, .v (.int .i64 s88)), (10, .v (.int .i64 v27)), (13, .box 40 [.fl (.own 5) 1 (List.map (Value.int .u8) v38.1.B), .v (.int .i64 v38.1.N)]), (100, .v (.bool s139))]) ?_ ?_
                    · rintro s139 h
                      refine pt_then ?_
                      refine ht_cond _ rfl (fun hb143 => ?_) (fun hb143 => ?_)
                      · have h := cond_t hb143 h
                        refine ht_seq ?_
                        refine ht_seqR hn (El := [_, _, _, _, _, _, _, _, _, (4, .v (.bool false))]) (init := [0, 1, 2, 3, 4, 5, 6, 7, 8]) (fin := [9]) (sps := [⟨[], [], [9], [(.slot 4)]⟩]) (es' := [(4, .v (.bool false))]) (by kernel_rfl) rfl rfl
                          ⟨st_plain rfl (op_assign _ _ _ _ rfl rfl),
                            trivial⟩ ?_
                        refine pt_then ?_
                        refine ht_ret ?_
                        refine pt_r_then ?_
                        refine pt_r_in ?_
                        refine pt_r_then ?_
                        refine pt_r_then ?_
                        refine pt_r_in ?_
                        refine pt_r_then ?_
                        have h := hr137 _ (Option.some.inj h).symm
                        have h := hr117 _ (ho118 _ (Option.some.inj h).symm).symm
                        obtain rfl := Option.some.inj h
                        exact pt_ret hio rfl (.tmp _ _ .nil) rfl rfl
                      · have h := cond_f hb143 h
                        refine ht_skip ?_
                        refine pt_then ?_
                        obtain ⟨v44, hv44, h⟩ := bind_some h
                        refine ht_anyR (by kernel_rfl) hn (El := (_ :: _ :: _ :: _ :: _ :: _ :: _ :: _ :: _ :: (101, .agg [.fl (.own 5) 1 (List.map (Value.int .u8) v38.1.B), .v (.int .i64 v38.1.N)]) :: (102, .fl (.own 3) 1 (List.map (Value.int .i64) s85)) :: (103, .v (.int .i64 v27)) :: (104, .fl (.own 3) 1 (List.map (Value.int .i64) [v27])) :: (105, .fl (.own 3) 1 (List.map (Value.int .i64) v44)) :: (102, .any) :: (8, .box 40 [.fl (.own 5) 1 (List.map (Value.int .u8) v38.1.B), .v (.int .i64 v38.1.N)]) :: (7, .fl (.own 3) 1 (List.map (Value.int .i64) v44)) :: [])) (init := [0, 1, 2, 3, 4, 5, 6, 7, 8]) (fin := [0, 1, 2, 15, 5, 16]) (sps := [⟨[], [7], [9], [(.slot 101)]⟩, ⟨[], [3], [10], [(.slot 102)]⟩, ⟨[6], [], [11], [(.slot 103)]⟩, ⟨[11], [], [12], [(.slot 104)]⟩, ⟨[12], [10], [14, 13], [(.slot 105)]⟩, ⟨[], [9, 4], [15], [.cell 8 0, .cell 8 1]⟩, ⟨[], [13], [16], [(.slot 7)]⟩]) (es' := [(_, _), (_, _), (_, _), (8, .box 40 [.fl (.own 5) 1 (List.map (Value.int .u8) v38.1.B), .v (.int .i64 v38.1.N)]), (_, _), (7, .fl (.own 3) 1 (List.map (Value.int .i64) v44))]) (by kernel_rfl) rfl rfl
                          ⟨st_plain rfl (op_loadA_take _ _ _ _ Try.underlying40 rfl sz40 rfl rfl),
                            st_plain rfl (op_move_take _ _ _ _ rfl),
                            st_plain rfl (op_move _ _ _ _ rfl rfl),
                            st_plain rfl (op_buildSlice _ _ 1 (.int .i64 0) (List.map (Value.int .i64) [v27]) [(0, .int .i64 v27)] Try.underlying22 sz3 zr3 (fun _ V w o a hv hes => by have e0 := rd_v hv hes (x := .tmp 103) rfl; simp only [List.map_toArray, List.map_cons, List.map_nil, e0]; try rfl) (litfill (by simp [Instr.fill, Value.cells]; rfl) (by simp [List.range, List.range.loop])) (by simp [Value.oneCell']) rfl (by decide) (by decide) (by decide)),
                            st_plain rfl (op_app _ _ _ _ _ el22 rfl rfl (map_len _) (map_len _) hv44 ((List.map_append).symm.trans (congrArg (List.map _) (app_eq hv44)))),
                            st_plain rfl (op_store_take _ _ _ _ _ _ _ _ sz40 rfl rfl rfl (Nat.le_of_ble_eq_true rfl) rfl rfl),
                            st_plain rfl (op_assign_take _ _ _ _ rfl),
                            trivial⟩ ?_
                        refine pt_inb ?_
                        refine pt_pick [0, 1, 2, 5, 3, 4] (by kernel_rfl) (es' := [(_, _), (_, _), (_, _), (_, _), (_, _), (_, _)]) rfl ?_
                        exact hl136 _ (Option.some.inj h).symm
                    · intro u140 h hl141 hr142
                      refine cond_some h (fun hg15_2 h => ?_) (fun hg15_2 h => ?_)
                      · refine ht_seqR hn (El := (_ :: _ :: _ :: _ :: _ :: _ :: _ :: _ :: _ :: _ :: (95, .v (.int .i64 v35.2)) :: (96, .v (.bool (v35.2 != 0))) :: (97, .v (.bool true)) :: (98, .v undef) :: (99, .v undef) :: (100, .v (.bool true)) :: [])) (init := [0, 1, 2, 3, 4, 5, 6, 7, 8, 9]) (fin := [0, 1, 2, 3, 4, 5, 6, 8, 15]) (sps := [⟨[7], [], [10], [(.slot 95)]⟩, ⟨[10], [], [11], [(.slot 96)]⟩, ⟨[11], [], [12], [(.slot 97)]⟩, ⟨[12], [], [13], [(.slot 98)]⟩, ⟨[12], [], [14], [(.slot 99)]⟩, ⟨[12], [], [15], [(.slot 100)]⟩]) (es' := [(_, _), (_, _), (_, _), (_, _), (_, _), (_, _), (_, _), (_, _), (100, .v (.bool true))]) (by kernel_rfl) rfl rfl
                          ⟨st_plain rfl (op_move _ _ _ _ rfl rfl),
                            st_plain rfl (op_bin _ _ _ _ _ rfl rfl rfl),
                            st_plain rfl (op_move _ _ _ _ (congrArg (fun b => AV.v (Value.bool b)) hg15_2) rfl),
                            st_skip 2 97 _ false rfl rfl rfl rfl (List.Mem.head _),
                            st_skip 2 97 _ false rfl rfl rfl rfl (List.Mem.head _),
                            st_plain rfl (op_pick _ _ true _ rfl rfl),
                            trivial⟩ ?_
                        exact hl141 _ (Option.some.inj h).symm
                      · refine ht_seqR hn (El := (_ :: _ :: _ :: _ :: _ :: _ :: _ :: _ :: _ :: _ :: (95, .v (.int .i64 v35.2)) :: (96, .v (.bool (v35.2 != 0))) :: (97, .v (.bool false)) :: (98, .v (.int .i64 v38.2)) :: (99, .v (.bool (v38.2 != 0))) :: (100, .v (.bool (v38.2 != 0))) :: [])) (init := [0, 1, 2, 3, 4, 5, 6, 7, 8, 9]) (fin := [0, 1, 2, 3, 4, 5, 6, 8, 15]) (sps := [⟨[7], [], [10], [(.slot 95)]⟩, ⟨[10], [], [11], [(.slot 96)]⟩, ⟨[11], [], [12], [(.slot 97)]⟩, ⟨[12, 9], [], [13], [(.slot 98)]⟩, ⟨[12, 13], [], [14], [(.slot 99)]⟩, ⟨[12, 14], [], [15], [(.slot 100)]⟩]) (es' := [(_, _), (_, _), (_, _), (_, _), (_, _), (_, _), (_, _), (_, _), (100, .v (.bool (v38.2 != 0)))]) (by kernel_rfl) rfl rfl
                          ⟨st_plain rfl (op_move _ _ _ _ rfl rfl),
                            st_plain rfl (op_bin _ _ _ _ _ rfl rfl rfl),
                            st_plain rfl (op_move _ _ _ _ (congrArg (fun b => AV.v (Value.bool b)) hg15_2) rfl),
                            st_run 2 97 false rfl rfl rfl (List.Mem.head _) (op_move _ _ _ _ rfl rfl),
                            st_run 2 97 false rfl rfl rfl (List.Mem.head _) (op_bin _ _ _ _ _ rfl rfl rfl),
                            st_plain rfl (op_pick _ _ false _ rfl rfl),
                            trivial⟩ ?_
                        exact hl141 _ (Option.some.inj h).symm
              · have h := cond_f hb125 h
                refine ht_exit ?_
                refine pt_x_then ?_
                refine pt_x_then ?_
                refine pt_x_in ?_
                refine pt_pick [0, 3, 4] (by kernel_rfl) (es' := [(_, _), (_, _), (_, _)]) rfl ?_
                exact hl116 _ (ho118 _ (Option.some.inj h).symm).symm
            · intro u122 h hl123 hr124
              refine cond_some h (fun hg9_4 h => ?_) (fun hg9_4 h => ?_)
              · refine ht_seqR hn (El := (_ :: _ :: _ :: _ :: _ :: _ :: (47, .v (.int .i64 s88)) :: (48, .fl .shr 1 (List.map (Value.int .i64) text)) :: (49, .v (.int .i64 (text.length : Int))) :: (50, .v (.bool ((decide (s88 < (text.length : Int)))))) :: (51, .v (.bool true)) :: (52, .fl .shr 1 (List.map (Value.int .i64) l)) :: (53, .v (.int .i64 (l.length : Int))) :: (54, .v (.bool ((decide (0 < (l.length : Int)))))) :: (55, .v (.bool ((decide (0 < (l.length : Int)))))) :: [])) (init := [0, 1, 2, 3, 4, 5]) (fin := [0, 1, 2, 3, 4, 5, 14]) (sps := [⟨[5], [], [6], [(.slot 47)]⟩, ⟨[1], [], [7], [(.slot 48)]⟩, ⟨[7], [], [8], [(.slot 49)]⟩, ⟨[6, 8], [], [9], [(.slot 50)]⟩, ⟨[9], [], [10], [(.slot 51)]⟩, ⟨[10, 0], [], [11], [(.slot 52)]⟩, ⟨[10, 11], [], [12], [(.slot 53)]⟩, ⟨[10, 12], [], [13], [(.slot 54)]⟩, ⟨[10, 13], [], [14], [(.slot 55)]⟩]) (es' := [(_, _), (_, _), (_, _), (_, _), (_, _), (_, _), (55, .v (.bool ((decide (0 < (l.length : Int))))))]) (by kernel_rfl) rfl rfl
                  ⟨st_plain rfl (op_move _ _ _ _ rfl rfl),
                    st_plain rfl (op_move _ _ _ _ rfl rfl),
                    st_plain rfl (op_len_fl _ _ _ Try.underlying22 rfl (by decide) (map_len _)),
                    st_plain rfl (op_bin _ _ _ _ _ rfl rfl rfl),
                    st_plain rfl (op_move _ _ _ _ (congrArg (fun b => AV.v (Value.bool b)) hg9_4) rfl),
                    st_run 4 51 true rfl rfl rfl (List.Mem.head _) (op_move _ _ _ _ rfl rfl),
                    st_run 4 51 true rfl rfl rfl (List.Mem.head _) (op_len_fl _ _ _ Try.underlying22 rfl (by decide) (map_len _)),
                    st_run 4 51 true rfl rfl rfl (List.Mem.head _) (op_bin _ _ _ _ _ rfl rfl rfl),
                    st_plain rfl (op_pick _ _ true _ rfl rfl),
                    trivial⟩ ?_
                exact hl123 _ (Option.some.inj h).symm
              · refine ht_seqR hn (El := (_ :: _ :: _ :: _ :: _ :: _ :: (47, .v (.int .i64 s88)) :: (48, .fl .shr 1 (List.map (Value.int .i64) text)) :: (49, .v (.int .i64 (text.length : Int))) :: (50, .v (.bool ((decide (s88 < (text.length : Int)))))) :: (51, .v (.bool false)) :: (52, .v undef) :: (53, .v undef) :: (54, .v undef) :: (55, .v (.bool false)) :: [])) (init := [0, 1, 2, 3, 4, 5]) (fin := [0, 1, 2, 3, 4, 5, 14]) (sps := [⟨[5], [], [6], [(.slot 47)]⟩, ⟨[1], [], [7], [(.slot 48)]⟩, ⟨[7], [], [8], [(.slot 49)]⟩, ⟨[6, 8], [], [9], [(.slot 50)]⟩, ⟨[9], [], [10], [(.slot 51)]⟩, ⟨[10], [], [11], [(.slot 52)]⟩, ⟨[10], [], [12], [(.slot 53)]⟩, ⟨[10], [], [13], [(.slot 54)]⟩, ⟨[10], [], [14], [(.slot 55)]⟩]) (es' := [(_, _), (_, _), (_, _), (_, _), (_, _), (_, _), (55, .v (.bool false))]) (by kernel_rfl) rfl rfl
                  ⟨st_plain rfl (op_move _ _ _ _ rfl rfl),
                    st_plain rfl (op_move _ _ _ _ rfl rfl),
                    st_plain rfl (op_len_fl _ _ _ Try.underlying22 rfl (by decide) (map_len _)),
                    st_plain rfl (op_bin _ _ _ _ _ rfl rfl rfl),
                    st_plain rfl (op_move _ _ _ _ (congrArg (fun b => AV.v (Value.bool b)) hg9_4) rfl),
                    st_skip 4 51 _ true rfl rfl rfl rfl (List.Mem.head _),
                    st_skip 4 51 _ true rfl rfl rfl rfl (List.Mem.head _),
                    st_skip 4 51 _ true rfl rfl rfl rfl (List.Mem.head _),
                    st_plain rfl (op_pick _ _ false _ rfl rfl),
                    trivial⟩ ?_
                exact hl123 _ (Option.some.inj h).symm
      · intro u8 h hl9 hr10
        refine cond_some h (fun hg4_2 h => ?_) (fun hg4_2 h => ?_)
        · refine ht_seqR hn (El := [_, _, _, _, (33, .v (.int .i64 v6.2)), (34, .v (.bool (v6.2 != 0))), (35, .v (.bool true)), (36, .v undef), (37, .v undef), (38, .v undef), (39, .v undef), (40, .v undef), (41, .v (.bool true))]) (init := [0, 1, 2, 3]) (fin := [0, 1, 2, 3, 12]) (sps := [⟨[3], [], [4], [(.slot 33)]⟩, ⟨[4], [], [5], [(.slot 34)]⟩, ⟨[5], [], [6], [(.slot 35)]⟩, ⟨[6], [], [7], [(.slot 36)]⟩, ⟨[6], [], [8], [(.slot 37)]⟩, ⟨[6], [], [9], [(.slot 38)]⟩, ⟨[6], [], [10], [(.slot 39)]⟩, ⟨[6], [], [11], [(.slot 40)]⟩, ⟨[6], [], [12], [(.slot 41)]⟩]) (es' := [(_, _), (_, _), (_, _), (_, _), (41, .v (.bool true))]) (by kernel_rfl) rfl rfl
            ⟨st_plain rfl (op_move _ _ _ _ rfl rfl),
              st_plain rfl (op_bin _ _ _ _ _ rfl rfl rfl),
              st_plain rfl (op_move _ _ _ _ (congrArg (fun b => AV.v (Value.bool b)) hg4_2) rfl),
              st_skip 2 35 _ false rfl rfl rfl rfl (List.Mem.head _),
              st_skip 2 35 _ false rfl rfl rfl rfl (List.Mem.head _),
              st_skip 2 35 _ false rfl rfl rfl rfl (List.Mem.head _),
              st_skip 2 35 _ false rfl rfl rfl rfl (List.Mem.head _),
              st_skip 2 35 _ false rfl rfl rfl rfl (List.Mem.head _),
              st_plain rfl (op_pick _ _ true _ rfl rfl),
              trivial⟩ ?_
          exact hl9 _ (Option.some.inj h).symm
        · refine ht_seqR hn (El := [_, _, _, _, (33, .v (.int .i64 v6.2)), (34, .v (.bool (v6.2 != 0))), (35, .v (.bool false)), (36, .same (.slot 5)), (37, .v (.int .i64 (v6.1.length : Int))), (38, .fl .shr 1 (List.map (Value.int .i64) l)), (39, .v (.int .i64 (l.length : Int))), (40, .v (.bool (((v6.1.length : Int) != (l.length : Int))))), (41, .v (.bool (((v6.1.length : Int) != (l.length : Int)))))]) (init := [0, 1, 2, 3]) (fin := [0, 1, 2, 3, 12]) (sps := [⟨[3], [], [4], [(.slot 33)]⟩, ⟨[4], [], [5], [(.slot 34)]⟩, ⟨[5], [], [6], [(.slot 35)]⟩, ⟨[6, 2], [], [7], [(.slot 36)]⟩, ⟨[6, 7, 2], [], [8], [(.slot 37)]⟩, ⟨[6, 0], [], [9], [(.slot 38)]⟩, ⟨[6, 9], [], [10], [(.slot 39)]⟩, ⟨[6, 8, 10], [], [11], [(.slot 40)]⟩, ⟨[6, 11], [], [12], [(.slot 41)]⟩]) (es' := [(_, _), (_, _), (_, _), (_, _), (41, .v (.bool (((v6.1.length : Int) != (l.length : Int)))))]) (by kernel_rfl) rfl rfl
            ⟨st_plain rfl (op_move _ _ _ _ rfl rfl),
              st_plain rfl (op_bin _ _ _ _ _ rfl rfl rfl),
              st_plain rfl (op_move _ _ _ _ (congrArg (fun b => AV.v (Value.bool b)) hg4_2) rfl),
              st_run 2 35 false rfl rfl rfl (List.Mem.head _) (op_move _ _ _ _ rfl rfl),
              st_run 2 35 false rfl rfl rfl (List.Mem.head _) (op_len_fl _ _ _ Try.underlying22 rfl (by decide) (map_len _)),
              st_run 2 35 false rfl rfl rfl (List.Mem.head _) (op_move _ _ _ _ rfl rfl),
              st_run 2 35 false rfl rfl rfl (List.Mem.head _) (op_len_fl _ _ _ Try.underlying22 rfl (by decide) (map_len _)),
              st_run 2 35 false rfl rfl rfl (List.Mem.head _) (op_bin _ _ _ _ _ rfl rfl rfl),
              st_plain rfl (op_pick _ _ false _ rfl rfl),
              trivial⟩ ?_
          exact hl9 _ (Option.some.inj h).symm
  · intro u2 h hl3 hr4
    refine cond_some h (fun hg1_3 h => ?_) (fun hg1_3 h => ?_)
    · refine ht_seqR hn (El := [_, _, (20, .fl .shr 1 (List.map (Value.int .i64) l)), (21, .v (.int .i64 (l.length : Int))), (22, .v (.bool ((decide (300 < (l.length : Int)))))), (23, .v (.bool true)), (24, .v undef), (25, .v undef), (26, .v undef), (27, .v (.bool true))]) (init := [0, 1]) (fin := [0, 1, 9]) (sps := [⟨[0], [], [2], [(.slot 20)]⟩, ⟨[2], [], [3], [(.slot 21)]⟩, ⟨[3], [], [4], [(.slot 22)]⟩, ⟨[4], [], [5], [(.slot 23)]⟩, ⟨[5], [], [6], [(.slot 24)]⟩, ⟨[5], [], [7], [(.slot 25)]⟩, ⟨[5], [], [8], [(.slot 26)]⟩, ⟨[5], [], [9], [(.slot 27)]⟩]) (es' := [(_, _), (_, _), (27, .v (.bool true))]) (by kernel_rfl) rfl rfl
        ⟨st_plain rfl (op_move _ _ _ _ rfl rfl),
          st_plain rfl (op_len_fl _ _ _ Try.underlying22 rfl (by decide) (map_len _)),
          st_plain rfl (op_bin _ _ _ _ _ rfl rfl rfl),
          st_plain rfl (op_move _ _ _ _ (congrArg (fun b => AV.v (Value.bool b)) hg1_3) rfl),
          st_skip 3 23 _ false rfl rfl rfl rfl (List.Mem.head _),
          st_skip 3 23 _ false rfl rfl rfl rfl (List.Mem.head _),
          st_skip 3 23 _ false rfl rfl rfl rfl (List.Mem.head _),
          st_plain rfl (op_pick _ _ true _ rfl rfl),
          trivial⟩ ?_
      exact hl3 _ (Option.some.inj h).symm
    · refine ht_seqR hn (El := [_, _, (20, .fl .shr 1 (List.map (Value.int .i64) l)), (21, .v (.int .i64 (l.length : Int))), (22, .v (.bool ((decide (300 < (l.length : Int)))))), (23, .v (.bool false)), (24, .fl .shr 1 (List.map (Value.int .i64) text)), (25, .v (.int .i64 (text.length : Int))), (26, .v (.bool ((decide (60 < (text.length : Int)))))), (27, .v (.bool ((decide (60 < (text.length : Int))))))]) (init := [0, 1]) (fin := [0, 1, 9]) (sps := [⟨[0], [], [2], [(.slot 20)]⟩, ⟨[2], [], [3], [(.slot 21)]⟩, ⟨[3], [], [4], [(.slot 22)]⟩, ⟨[4], [], [5], [(.slot 23)]⟩, ⟨[5, 1], [], [6], [(.slot 24)]⟩, ⟨[5, 6], [], [7], [(.slot 25)]⟩, ⟨[5, 7], [], [8], [(.slot 26)]⟩, ⟨[5, 8], [], [9], [(.slot 27)]⟩]) (es' := [(_, _), (_, _), (27, .v (.bool ((decide (60 < (text.length : Int))))))]) (by kernel_rfl) rfl rfl
        ⟨st_plain rfl (op_move _ _ _ _ rfl rfl),
          st_plain rfl (op_len_fl _ _ _ Try.underlying22 rfl (by decide) (map_len _)),
          st_plain rfl (op_bin _ _ _ _ _ rfl rfl rfl),
          st_plain rfl (op_move _ _ _ _ (congrArg (fun b => AV.v (Value.bool b)) hg1_3) rfl),
          st_run 3 23 false rfl rfl rfl (List.Mem.head _) (op_move _ _ _ _ rfl rfl),
          st_run 3 23 false rfl rfl rfl (List.Mem.head _) (op_len_fl _ _ _ Try.underlying22 rfl (by decide) (map_len _)),
          st_run 3 23 false rfl rfl rfl (List.Mem.head _) (op_bin _ _ _ _ _ rfl rfl rfl),
          st_plain rfl (op_pick _ _ false _ rfl rfl),
          trivial⟩ ?_
      exact hl3 _ (Option.some.inj h).symm

end Go.Proofs.Ytjnihhkkaioahaa
