/-
  The model's runs are what is told in Lean.
-/
import Derived.Test.YtjnihhkkaioahaaProg
import Derived.KernelRfl
import Derived.Test.YtjnihhkkaioahaaOk1
set_option linter.unusedVariables false
set_option linter.unusedSimpArgs false
namespace Go.Proofs.Ytjnihhkkaioahaa
open Go.Abs Go.Abs.Sh

set_option maxHeartbeats 1000000 in
theorem ok_wherrylaw02_CanonApart (l : (List Int)) (i : Int) (k : Int) (r : Bool) (h : Sh.wherrylaw02_CanonApart l i k = some r) : FnOK Try.prog 4 [.fl .shr 1 (List.map (Value.int .i64) l), .v (.int .i64 i), .v (.int .i64 k)] (.v (.bool r)) := by
  unfold Sh.wherrylaw02_CanonApart at h
  refine fn_ok Try.func4 rfl (Nat.le_of_ble_eq_true rfl) rfl rfl fun g0 hn hio => ?_
  refine ht_seq ?_
  refine ht_seqR hn (El := [_, _, _, (6, .v (.bool false))]) (init := [0, 1, 2]) (fin := [0, 1, 2]) (sps := [⟨[], [], [3], [(.slot 6)]⟩]) (es' := [(_, _), (_, _), (_, _)]) (by kernel_rfl) rfl rfl
    ⟨st_plain rfl (op_assign _ _ _ _ rfl rfl),
      trivial⟩ ?_
  refine pt_then ?_
  refine ht_seq ?_
  refine ht_seq ?_
  refine ht_joinS h (fun (s1 : Bool) => [(0, .fl .shr 1 (List.map (Value.int .i64) l)), (1, .v (.int .i64 i)), (2, .v (.int .i64 k)), (16, .v (.bool s1))]) ?_ ?_
  · rintro s1 h
    refine pt_then ?_
    refine ht_cond _ rfl (fun hb5 => ?_) (fun hb5 => ?_)
    · have h := cond_t hb5 h
      refine ht_seq ?_
      refine ht_seqR hn (El := [_, _, _, _, (6, .v (.bool true))]) (init := [0, 1, 2, 3]) (fin := [4]) (sps := [⟨[], [], [4], [(.slot 6)]⟩]) (es' := [(6, .v (.bool true))]) (by kernel_rfl) rfl rfl
        ⟨st_plain rfl (op_assign _ _ _ _ rfl rfl),
          trivial⟩ ?_
      refine pt_then ?_
      refine ht_ret ?_
      refine pt_r_then ?_
      obtain rfl := Option.some.inj h
      exact pt_ret hio rfl (.tmp _ _ .nil) rfl rfl
    · have h := cond_f hb5 h
      refine ht_skip ?_
      refine pt_then ?_
      refine ht_seq ?_
      obtain ⟨v6, hv6, h⟩ := bind_some h
      refine ht_seqR hn (El := [_, _, _, _, (18, .fl .shr 1 (List.map (Value.int .i64) l)), (19, .tup [.fl (.own 3) 1 (List.map (Value.int .i64) v6.1), .v (.int .i64 v6.2)]), (17, .tup [.fl (.own 3) 1 (List.map (Value.int .i64) v6.1), .v (.int .i64 v6.2)]), (20, .fl (.own 3) 1 (List.map (Value.int .i64) v6.1)), (17, .tup [.any, .v (.int .i64 v6.2)]), (21, .v (.int .i64 v6.2)), (7, .fl (.own 3) 1 (List.map (Value.int .i64) v6.1)), (8, .v (.int .i64 v6.2))]) (init := [0, 1, 2, 3]) (fin := [0, 1, 2, 10, 11]) (sps := [⟨[0], [], [4], [(.slot 18)]⟩, ⟨[4], [], [5], [(.slot 19)]⟩, ⟨[], [5], [6], [(.slot 17)]⟩, ⟨[], [6], [8, 7], [(.slot 20)]⟩, ⟨[8], [], [9], [(.slot 21)]⟩, ⟨[], [7], [10], [(.slot 7)]⟩, ⟨[9], [], [11], [(.slot 8)]⟩]) (es' := [(_, _), (_, _), (_, _), (7, .fl (.own 3) 1 (List.map (Value.int .i64) v6.1)), (8, .v (.int .i64 v6.2))]) (by kernel_rfl) rfl rfl
        ⟨st_plain rfl (op_move _ _ _ _ rfl rfl),
          st_plain rfl (op_call _ _ 11 _ _ rfl Try.call11 rfl (ok_canon_Codes l _ hv6) rfl rfl),
          st_plain rfl (op_move_take _ _ _ _ rfl),
          st_plain rfl (op_extract_take _ _ _ _ _ rfl (Nat.le_of_ble_eq_true rfl) rfl rfl (by decide) rfl),
          st_plain rfl (op_extract _ _ _ _ _ rfl rfl (Nat.le_of_ble_eq_true rfl) rfl rfl),
          st_plain rfl (op_assign_take _ _ _ _ rfl),
          st_plain rfl (op_assign _ _ _ _ rfl rfl),
          trivial⟩ ?_
      refine pt_then ?_
      refine ht_seq ?_
      refine ht_seq ?_
      refine ht_seqR hn (El := [_, _, _, _, _, (22, .v (.int .i64 v6.2)), (23, .v (.bool (v6.2 != 0)))]) (init := [0, 1, 2, 3, 4]) (fin := [0, 1, 2, 3, 4, 6]) (sps := [⟨[4], [], [5], [(.slot 22)]⟩, ⟨[5], [], [6], [(.slot 23)]⟩]) (es' := [(_, _), (_, _), (_, _), (_, _), (_, _), (23, .v (.bool (v6.2 != 0)))]) (by kernel_rfl) rfl rfl
        ⟨st_plain rfl (op_move _ _ _ _ rfl rfl),
          st_plain rfl (op_bin _ _ _ _ _ rfl rfl rfl),
          trivial⟩ ?_
      refine pt_then ?_
      refine ht_cond _ rfl (fun hb7 => ?_) (fun hb7 => ?_)
      · have h := cond_t hb7 h
        refine ht_seq ?_
        refine ht_joinS h (fun (s10 : Bool) => [(6, .v (.bool s10))]) ?_ ?_
        · rintro s10 h
          refine pt_then ?_
          refine ht_ret ?_
          refine pt_r_then ?_
          obtain rfl := Option.some.inj h
          exact pt_ret hio rfl (.tmp _ _ .nil) rfl rfl
        · intro u11 h hl12 hr13
          refine cond_some h (fun hg5_3 h => ?_) (fun hg5_3 h => ?_)
          · refine cond_some h (fun hg5_6 h => ?_) (fun hg5_6 h => ?_)
            · obtain ⟨v8, hv8, h⟩ := bind_some h
              refine ht_seqR hn (El := (_ :: _ :: _ :: _ :: _ :: _ :: (24, .fl (.own 3) 1 (List.map (Value.int .i64) v6.1)) :: (25, .v (.int .i64 (v6.1.length : Int))) :: (26, .v (.bool (((v6.1.length : Int) == 0)))) :: (27, .v (.bool true)) :: (28, .v (.int .i64 v6.2)) :: (29, .v (.bool (v6.2 == 1))) :: (30, .v (.bool true)) :: (31, .v undef) :: (32, .v undef) :: (33, .v (.bool true)) :: (34, .v (.bool true)) :: (35, .v (.bool true)) :: (36, .v (.bool v8)) :: (37, .v (.bool v8)) :: (6, .v (.bool v8)) :: [])) (init := [0, 1, 2, 3, 4, 5]) (fin := [20]) (sps := (⟨[], [3], [6], [(.slot 24)]⟩ :: ⟨[6], [], [7], [(.slot 25)]⟩ :: ⟨[7], [], [8], [(.slot 26)]⟩ :: ⟨[8], [], [9], [(.slot 27)]⟩ :: ⟨[9, 4], [], [10], [(.slot 28)]⟩ :: ⟨[9, 10], [], [11], [(.slot 29)]⟩ :: ⟨[9, 11], [], [12], [(.slot 30)]⟩ :: ⟨[12], [], [13], [(.slot 31)]⟩ :: ⟨[12], [], [14], [(.slot 32)]⟩ :: ⟨[9, 12], [], [15], [(.slot 33)]⟩ :: ⟨[9, 15], [], [16], [(.slot 34)]⟩ :: ⟨[16], [], [17], [(.slot 35)]⟩ :: ⟨[17], [], [18], [(.slot 36)]⟩ :: ⟨[17, 18], [], [19], [(.slot 37)]⟩ :: ⟨[19], [], [20], [(.slot 6)]⟩ :: [])) (es' := [(6, .v (.bool v8))]) (by kernel_rfl) rfl rfl
                ⟨st_plain rfl (op_move_take _ _ _ _ rfl),
                  st_plain rfl (op_len_fl _ _ _ Try.underlying22 rfl (by decide) (map_len _)),
                  st_plain rfl (op_bin _ _ _ _ _ rfl rfl rfl),
                  st_plain rfl (op_move _ _ _ _ (congrArg (fun b => AV.v (Value.bool b)) hg5_3) rfl),
                  st_run 3 27 true rfl rfl rfl (List.Mem.head _) (op_move _ _ _ _ rfl rfl),
                  st_run 3 27 true rfl rfl rfl (List.Mem.head _) (op_bin _ _ _ _ _ rfl rfl rfl),
                  st_run 3 27 true rfl rfl rfl (List.Mem.head _) (op_move _ _ _ _ (congrArg (fun b => AV.v (Value.bool b)) hg5_6) rfl),
                  st_skip 6 30 _ false rfl rfl rfl rfl (List.Mem.head _),
                  st_skip 6 30 _ false rfl rfl rfl rfl (List.Mem.head _),
                  st_run 3 27 true rfl rfl rfl (List.Mem.head _) (op_pick _ _ true _ rfl rfl),
                  st_plain rfl (op_pick _ _ true _ rfl rfl),
                  st_plain rfl (op_move _ _ _ _ rfl rfl),
                  st_run 11 35 true rfl rfl rfl (List.Mem.head _) (op_call _ _ 21 _ _ rfl Try.call21 rfl (ok_wherrylaw02_wakes  _ hv8) rfl rfl),
                  st_plain rfl (op_pick _ _ true _ rfl rfl),
                  st_plain rfl (op_assign _ _ _ _ rfl rfl),
                  trivial⟩ ?_
              exact hl12 _ (Option.some.inj h).symm
            · refine cond_some h (fun hg5_11 h => ?_) (fun hg5_11 h => ?_)
              · obtain ⟨v9, hv9, h⟩ := bind_some h
                refine ht_seqR hn (El := (_ :: _ :: _ :: _ :: _ :: _ :: (24, .fl (.own 3) 1 (List.map (Value.int .i64) v6.1)) :: (25, .v (.int .i64 (v6.1.length : Int))) :: (26, .v (.bool (((v6.1.length : Int) == 0)))) :: (27, .v (.bool true)) :: (28, .v (.int .i64 v6.2)) :: (29, .v (.bool (v6.2 == 1))) :: (30, .v (.bool false)) :: (31, .v (.int .i64 v6.2)) :: (32, .v (.bool (v6.2 == 4))) :: (33, .v (.bool (v6.2 == 4))) :: (34, .v (.bool (v6.2 == 4))) :: (35, .v (.bool true)) :: (36, .v (.bool v9)) :: (37, .v (.bool v9)) :: (6, .v (.bool v9)) :: [])) (init := [0, 1, 2, 3, 4, 5]) (fin := [20]) (sps := (⟨[], [3], [6], [(.slot 24)]⟩ :: ⟨[6], [], [7], [(.slot 25)]⟩ :: ⟨[7], [], [8], [(.slot 26)]⟩ :: ⟨[8], [], [9], [(.slot 27)]⟩ :: ⟨[9, 4], [], [10], [(.slot 28)]⟩ :: ⟨[9, 10], [], [11], [(.slot 29)]⟩ :: ⟨[9, 11], [], [12], [(.slot 30)]⟩ :: ⟨[12, 4], [], [13], [(.slot 31)]⟩ :: ⟨[12, 13], [], [14], [(.slot 32)]⟩ :: ⟨[9, 12, 14], [], [15], [(.slot 33)]⟩ :: ⟨[9, 15], [], [16], [(.slot 34)]⟩ :: ⟨[16], [], [17], [(.slot 35)]⟩ :: ⟨[17], [], [18], [(.slot 36)]⟩ :: ⟨[17, 18], [], [19], [(.slot 37)]⟩ :: ⟨[19], [], [20], [(.slot 6)]⟩ :: [])) (es' := [(6, .v (.bool v9))]) (by kernel_rfl) rfl rfl
                  ⟨st_plain rfl (op_move_take _ _ _ _ rfl),
                    st_plain rfl (op_len_fl _ _ _ Try.underlying22 rfl (by decide) (map_len _)),
                    st_plain rfl (op_bin _ _ _ _ _ rfl rfl rfl),
                    st_plain rfl (op_move _ _ _ _ (congrArg (fun b => AV.v (Value.bool b)) hg5_3) rfl),
                    st_run 3 27 true rfl rfl rfl (List.Mem.head _) (op_move _ _ _ _ rfl rfl),
                    st_run 3 27 true rfl rfl rfl (List.Mem.head _) (op_bin _ _ _ _ _ rfl rfl rfl),
                    st_run 3 27 true rfl rfl rfl (List.Mem.head _) (op_move _ _ _ _ (congrArg (fun b => AV.v (Value.bool b)) hg5_6) rfl),
                    st_run 6 30 false rfl rfl rfl (List.Mem.head _) (op_move _ _ _ _ rfl rfl),
                    st_run 6 30 false rfl rfl rfl (List.Mem.head _) (op_bin _ _ _ _ _ rfl rfl rfl),
                    st_run 3 27 true rfl rfl rfl (List.Mem.head _) (op_pick _ _ false _ rfl rfl),
                    st_plain rfl (op_pick _ _ true _ rfl rfl),
                    st_plain rfl (op_move _ _ _ _ (congrArg (fun b => AV.v (Value.bool b)) hg5_11) rfl),
                    st_run 11 35 true rfl rfl rfl (List.Mem.head _) (op_call _ _ 21 _ _ rfl Try.call21 rfl (ok_wherrylaw02_wakes  _ hv9) rfl rfl),
                    st_plain rfl (op_pick _ _ true _ rfl rfl),
                    st_plain rfl (op_assign _ _ _ _ rfl rfl),
                    trivial⟩ ?_
                exact hl12 _ (Option.some.inj h).symm
              · refine ht_seqR hn (El := (_ :: _ :: _ :: _ :: _ :: _ :: (24, .fl (.own 3) 1 (List.map (Value.int .i64) v6.1)) :: (25, .v (.int .i64 (v6.1.length : Int))) :: (26, .v (.bool (((v6.1.length : Int) == 0)))) :: (27, .v (.bool true)) :: (28, .v (.int .i64 v6.2)) :: (29, .v (.bool (v6.2 == 1))) :: (30, .v (.bool false)) :: (31, .v (.int .i64 v6.2)) :: (32, .v (.bool (v6.2 == 4))) :: (33, .v (.bool (v6.2 == 4))) :: (34, .v (.bool (v6.2 == 4))) :: (35, .v (.bool false)) :: (36, .v undef) :: (37, .v (.bool false)) :: (6, .v (.bool false)) :: [])) (init := [0, 1, 2, 3, 4, 5]) (fin := [20]) (sps := (⟨[], [3], [6], [(.slot 24)]⟩ :: ⟨[6], [], [7], [(.slot 25)]⟩ :: ⟨[7], [], [8], [(.slot 26)]⟩ :: ⟨[8], [], [9], [(.slot 27)]⟩ :: ⟨[9, 4], [], [10], [(.slot 28)]⟩ :: ⟨[9, 10], [], [11], [(.slot 29)]⟩ :: ⟨[9, 11], [], [12], [(.slot 30)]⟩ :: ⟨[12, 4], [], [13], [(.slot 31)]⟩ :: ⟨[12, 13], [], [14], [(.slot 32)]⟩ :: ⟨[9, 12, 14], [], [15], [(.slot 33)]⟩ :: ⟨[9, 15], [], [16], [(.slot 34)]⟩ :: ⟨[16], [], [17], [(.slot 35)]⟩ :: ⟨[17], [], [18], [(.slot 36)]⟩ :: ⟨[17], [], [19], [(.slot 37)]⟩ :: ⟨[19], [], [20], [(.slot 6)]⟩ :: [])) (es' := [(6, .v (.bool false))]) (by kernel_rfl) rfl rfl
                  ⟨st_plain rfl (op_move_take _ _ _ _ rfl),
                    st_plain rfl (op_len_fl _ _ _ Try.underlying22 rfl (by decide) (map_len _)),
                    st_plain rfl (op_bin _ _ _ _ _ rfl rfl rfl),
                    st_plain rfl (op_move _ _ _ _ (congrArg (fun b => AV.v (Value.bool b)) hg5_3) rfl),
                    st_run 3 27 true rfl rfl rfl (List.Mem.head _) (op_move _ _ _ _ rfl rfl),
                    st_run 3 27 true rfl rfl rfl (List.Mem.head _) (op_bin _ _ _ _ _ rfl rfl rfl),
                    st_run 3 27 true rfl rfl rfl (List.Mem.head _) (op_move _ _ _ _ (congrArg (fun b => AV.v (Value.bool b)) hg5_6) rfl),
                    st_run 6 30 false rfl rfl rfl (List.Mem.head _) (op_move _ _ _ _ rfl rfl),
                    st_run 6 30 false rfl rfl rfl (List.Mem.head _) (op_bin _ _ _ _ _ rfl rfl rfl),
                    st_run 3 27 true rfl rfl rfl (List.Mem.head _) (op_pick _ _ false _ rfl rfl),
                    st_plain rfl (op_pick _ _ true _ rfl rfl),
                    st_plain rfl (op_move _ _ _ _ (congrArg (fun b => AV.v (Value.bool b)) hg5_11) rfl),
                    st_skip 11 35 _ true rfl rfl rfl rfl (List.Mem.head _),
                    st_plain rfl (op_pick _ _ false _ rfl rfl),
                    st_plain rfl (op_assign _ _ _ _ rfl rfl),
                    trivial⟩ ?_
                exact hl12 _ (Option.some.inj h).symm
          · refine ht_seqR hn (El := (_ :: _ :: _ :: _ :: _ :: _ :: (24, .fl (.own 3) 1 (List.map (Value.int .i64) v6.1)) :: (25, .v (.int .i64 (v6.1.length : Int))) :: (26, .v (.bool (((v6.1.length : Int) == 0)))) :: (27, .v (.bool false)) :: (28, .v undef) :: (29, .v undef) :: (30, .v undef) :: (31, .v undef) :: (32, .v undef) :: (33, .v undef) :: (34, .v (.bool false)) :: (35, .v (.bool false)) :: (36, .v undef) :: (37, .v (.bool false)) :: (6, .v (.bool false)) :: [])) (init := [0, 1, 2, 3, 4, 5]) (fin := [20]) (sps := (⟨[], [3], [6], [(.slot 24)]⟩ :: ⟨[6], [], [7], [(.slot 25)]⟩ :: ⟨[7], [], [8], [(.slot 26)]⟩ :: ⟨[8], [], [9], [(.slot 27)]⟩ :: ⟨[9], [], [10], [(.slot 28)]⟩ :: ⟨[9], [], [11], [(.slot 29)]⟩ :: ⟨[9], [], [12], [(.slot 30)]⟩ :: ⟨[12], [], [13], [(.slot 31)]⟩ :: ⟨[12], [], [14], [(.slot 32)]⟩ :: ⟨[9], [], [15], [(.slot 33)]⟩ :: ⟨[9], [], [16], [(.slot 34)]⟩ :: ⟨[16], [], [17], [(.slot 35)]⟩ :: ⟨[17], [], [18], [(.slot 36)]⟩ :: ⟨[17], [], [19], [(.slot 37)]⟩ :: ⟨[19], [], [20], [(.slot 6)]⟩ :: [])) (es' := [(6, .v (.bool false))]) (by kernel_rfl) rfl rfl
              ⟨st_plain rfl (op_move_take _ _ _ _ rfl),
                st_plain rfl (op_len_fl _ _ _ Try.underlying22 rfl (by decide) (map_len _)),
                st_plain rfl (op_bin _ _ _ _ _ rfl rfl rfl),
                st_plain rfl (op_move _ _ _ _ (congrArg (fun b => AV.v (Value.bool b)) hg5_3) rfl),
                st_skip 3 27 _ true rfl rfl rfl rfl (List.Mem.head _),
                st_skip 3 27 _ true rfl rfl rfl rfl (List.Mem.head _),
                st_skip 3 27 _ true rfl rfl rfl rfl (List.Mem.head _),
                st_skipU 6 30 _ false rfl rfl rfl rfl (List.Mem.head _),
                st_skipU 6 30 _ false rfl rfl rfl rfl (List.Mem.head _),
                st_skip 3 27 _ true rfl rfl rfl rfl (List.Mem.head _),
                st_plain rfl (op_pick _ _ false _ rfl rfl),
                st_plain rfl (op_move _ _ _ _ rfl rfl),
                st_skip 11 35 _ true rfl rfl rfl rfl (List.Mem.head _),
                st_plain rfl (op_pick _ _ false _ rfl rfl),
                st_plain rfl (op_assign _ _ _ _ rfl rfl),
                trivial⟩ ?_
            exact hl12 _ (Option.some.inj h).symm
      · have h := cond_f hb7 h
        refine ht_skip ?_
        refine pt_then ?_
        refine ht_seq ?_
        refine ht_seq ?_
        refine ht_seqR hn (El := [_, _, _, _, _, _, (38, .same (.slot 7)), (39, .v (.int .i64 (v6.1.length : Int))), (40, .fl .shr 1 (List.map (Value.int .i64) l)), (41, .v (.int .i64 (l.length : Int))), (42, .v (.bool (((v6.1.length : Int) != (l.length : Int)))))]) (init := [0, 1, 2, 3, 4, 5]) (fin := [0, 1, 2, 3, 10]) (sps := [⟨[3], [], [6], [(.slot 38)]⟩, ⟨[6, 3], [], [7], [(.slot 39)]⟩, ⟨[0], [], [8], [(.slot 40)]⟩, ⟨[8], [], [9], [(.slot 41)]⟩, ⟨[7, 9], [], [10], [(.slot 42)]⟩]) (es' := [(_, _), (_, _), (_, _), (_, _), (42, .v (.bool (((v6.1.length : Int) != (l.length : Int)))))]) (by kernel_rfl) rfl rfl
          ⟨st_plain rfl (op_move _ _ _ _ rfl rfl),
            st_plain rfl (op_len_fl _ _ _ Try.underlying22 rfl (by decide) (map_len _)),
            st_plain rfl (op_move _ _ _ _ rfl rfl),
            st_plain rfl (op_len_fl _ _ _ Try.underlying22 rfl (by decide) (map_len _)),
            st_plain rfl (op_bin _ _ _ _ _ rfl rfl rfl),
            trivial⟩ ?_
        refine pt_then ?_
        refine ht_cond _ rfl (fun hb14 => ?_) (fun hb14 => ?_)
        · have h := cond_t hb14 h
          refine ht_seq ?_
          refine ht_seqR hn (El := [_, _, _, _, _, (6, .v (.bool false))]) (init := [0, 1, 2, 3, 4]) (fin := [5]) (sps := [⟨[], [], [5], [(.slot 6)]⟩]) (es' := [(6, .v (.bool false))]) (by kernel_rfl) rfl rfl
            ⟨st_plain rfl (op_assign _ _ _ _ rfl rfl),
              trivial⟩ ?_
          refine pt_then ?_
          refine ht_ret ?_
          refine pt_r_then ?_
          obtain rfl := Option.some.inj h
          exact pt_ret hio rfl (.tmp _ _ .nil) rfl rfl
        · have h := cond_f hb14 h
          refine ht_skip ?_
          refine pt_then ?_
          refine ht_seq ?_
          obtain ⟨v15, hv15, h⟩ := bind_some h
          obtain ⟨v16, hv16, h⟩ := bind_some h
          obtain ⟨v17, hv17, h⟩ := bind_some h
          obtain ⟨v18, hv18, h⟩ := bind_some h
          obtain ⟨v19, hv19, h⟩ := bind_some h
          obtain ⟨v20, hv20, h⟩ := bind_some h
          obtain ⟨v21, hv21, h⟩ := bind_some h
          obtain ⟨v22, hv22, h⟩ := bind_some h
          refine ht_anyR (by kernel_rfl) hn (El := (_ :: _ :: _ :: _ :: _ :: (43, .v (.int .i64 i)) :: (44, .v (.int .u64 v15)) :: (45, .fl .shr 1 (List.map (Value.int .i64) l)) :: (46, .v (.int .i64 (l.length : Int))) :: (47, .v (.int .u64 v16)) :: (48, .v (.int .u64 v17)) :: (49, .v (.int .i64 v18)) :: (50, .v (.int .i64 k)) :: (51, .v (.int .u64 v19)) :: (52, .fl .shr 1 (List.map (Value.int .i64) l)) :: (53, .v (.int .i64 (l.length : Int))) :: (54, .v (.int .u64 v20)) :: (55, .v (.int .u64 v21)) :: (56, .v (.int .i64 v22)) :: (1, .v (.int .i64 v18)) :: (2, .v (.int .i64 v22)) :: [])) (init := [0, 1, 2, 3, 4]) (fin := [0, 3, 19, 20]) (sps := (⟨[1], [], [5], [(.slot 43)]⟩ :: ⟨[5], [], [6], [(.slot 44)]⟩ :: ⟨[0], [], [7], [(.slot 45)]⟩ :: ⟨[7], [], [8], [(.slot 46)]⟩ :: ⟨[8], [], [9], [(.slot 47)]⟩ :: ⟨[6, 9], [], [10], [(.slot 48)]⟩ :: ⟨[10], [], [11], [(.slot 49)]⟩ :: ⟨[2], [], [12], [(.slot 50)]⟩ :: ⟨[12], [], [13], [(.slot 51)]⟩ :: ⟨[0], [], [14], [(.slot 52)]⟩ :: ⟨[14], [], [15], [(.slot 53)]⟩ :: ⟨[15], [], [16], [(.slot 54)]⟩ :: ⟨[13, 16], [], [17], [(.slot 55)]⟩ :: ⟨[17], [], [18], [(.slot 56)]⟩ :: ⟨[11], [1], [19], [(.slot 1)]⟩ :: ⟨[18], [2], [20], [(.slot 2)]⟩ :: [])) (es' := [(_, _), (_, _), (1, .v (.int .i64 v18)), (2, .v (.int .i64 v22))]) (by kernel_rfl) rfl rfl
            ⟨st_plain rfl (op_move _ _ _ _ rfl rfl),
              st_plain rfl ((Option.some.inj hv15) ▸ op_conv _ _ _ Try.underlying3 Try.underlying37 rfl),
              st_plain rfl (op_move _ _ _ _ rfl rfl),
              st_plain rfl (op_len_fl _ _ _ Try.underlying22 rfl (by decide) (map_len _)),
              st_plain rfl ((Option.some.inj hv16) ▸ op_conv _ _ _ Try.underlying3 Try.underlying37 rfl),
              st_plain rfl (op_bin _ _ _ _ _ rfl rfl (rem_ok hv17)),
              st_plain rfl ((Option.some.inj hv18) ▸ op_conv _ _ _ Try.underlying37 Try.underlying3 rfl),
              st_plain rfl (op_move _ _ _ _ rfl rfl),
              st_plain rfl ((Option.some.inj hv19) ▸ op_conv _ _ _ Try.underlying3 Try.underlying37 rfl),
              st_plain rfl (op_move _ _ _ _ rfl rfl),
              st_plain rfl (op_len_fl _ _ _ Try.underlying22 rfl (by decide) (map_len _)),
              st_plain rfl ((Option.some.inj hv20) ▸ op_conv _ _ _ Try.underlying3 Try.underlying37 rfl),
              st_plain rfl (op_bin _ _ _ _ _ rfl rfl (rem_ok hv21)),
              st_plain rfl ((Option.some.inj hv22) ▸ op_conv _ _ _ Try.underlying37 Try.underlying3 rfl),
              st_plain rfl (LOp.drop [_] (op_assign _ _ _ _ rfl rfl)),
              st_plain rfl (LOp.drop [_] (op_assign _ _ _ _ rfl rfl)),
              trivial⟩ ?_
          refine pt_then ?_
          refine ht_seq ?_
          refine ht_seq ?_
          obtain ⟨v23, hv23, h⟩ := bind_some h
          obtain ⟨v24, hv24, h⟩ := bind_some h
          refine ht_seqR hn (El := [_, _, _, _, (57, .fl .shr 1 (List.map (Value.int .i64) l)), (58, .v (.int .i64 v18)), (59, .eref (.slot 57) (v23 * 1)), (60, .v (.int .i64 v24)), (61, .v (.bool (v24 == 0)))]) (init := [0, 1, 2, 3]) (fin := [0, 1, 2, 3, 8]) (sps := [⟨[0], [], [4], [(.slot 57)]⟩, ⟨[2], [], [5], [(.slot 58)]⟩, ⟨[4, 5], [], [6], [(.slot 59)]⟩, ⟨[6, 4], [], [7], [(.slot 60)]⟩, ⟨[7], [], [8], [(.slot 61)]⟩]) (es' := [(_, _), (_, _), (_, _), (_, _), (61, .v (.bool (v24 == 0)))]) (by kernel_rfl) rfl rfl
            ⟨st_plain rfl (op_move _ _ _ _ rfl rfl),
              st_plain rfl (op_move _ _ _ _ rfl rfl),
              st_plain rfl (op_ix _ _ _ _ _ _ _ _ Try.underlying22 sz3 (by decide) rfl rfl rfl (ix_ok hv23).1 (map_lt (ix_ok hv23).2) rfl),
              st_plain rfl (op_load_e _ _ _ _ _ _ Try.underlying3 rfl rfl rfl (map_get hv24)),
              st_plain rfl (op_bin _ _ _ _ _ rfl rfl rfl),
              trivial⟩ ?_
          refine pt_then ?_
          refine ht_cond _ rfl (fun hb25 => ?_) (fun hb25 => ?_)
          · have h := cond_t hb25 h
            refine ht_seq ?_
            refine ht_joinS h (fun (s29 : Bool) => [(6, .v (.bool s29))]) ?_ ?_
            · rintro s29 h
              refine pt_then ?_
              refine ht_ret ?_
              refine pt_r_then ?_
              obtain rfl := Option.some.inj h
              exact pt_ret hio rfl (.tmp _ _ .nil) rfl rfl
            · intro u30 h hl31 hr32
              obtain ⟨v26, hv26, h⟩ := bind_some h
              obtain ⟨v27, hv27, h⟩ := bind_some h
              refine cond_some h (fun hg10_5 h => ?_) (fun hg10_5 h => ?_)
              · obtain ⟨v28, hv28, h⟩ := bind_some h
                refine ht_seqR hn (El := [_, _, _, _, _, (62, .fl (.own 3) 1 (List.map (Value.int .i64) v6.1)), (63, .v (.int .i64 v18)), (64, .eref (.slot 62) (v26 * 1)), (65, .v (.int .i64 v27)), (66, .v (.bool (v27 == 0))), (67, .v (.bool true)), (68, .v (.bool v28)), (69, .v (.bool v28)), (6, .v (.bool v28))]) (init := [0, 1, 2, 3, 4]) (fin := [13]) (sps := [⟨[], [1], [5], [(.slot 62)]⟩, ⟨[2], [], [6], [(.slot 63)]⟩, ⟨[5, 6], [], [7], [(.slot 64)]⟩, ⟨[7, 5], [], [8], [(.slot 65)]⟩, ⟨[8], [], [9], [(.slot 66)]⟩, ⟨[9], [], [10], [(.slot 67)]⟩, ⟨[10], [], [11], [(.slot 68)]⟩, ⟨[10, 11], [], [12], [(.slot 69)]⟩, ⟨[12], [], [13], [(.slot 6)]⟩]) (es' := [(6, .v (.bool v28))]) (by kernel_rfl) rfl rfl
                  ⟨st_plain rfl (op_move_take _ _ _ _ rfl),
                    st_plain rfl (op_move _ _ _ _ rfl rfl),
                    st_plain rfl (op_ix _ _ _ _ _ _ _ _ Try.underlying22 sz3 (by decide) rfl rfl rfl (ix_ok hv26).1 (map_lt (ix_ok hv26).2) rfl),
                    st_plain rfl (op_load_e _ _ _ _ _ _ Try.underlying3 rfl rfl rfl (map_get hv27)),
                    st_plain rfl (op_bin _ _ _ _ _ rfl rfl rfl),
                    st_plain rfl (op_move _ _ _ _ (congrArg (fun b => AV.v (Value.bool b)) hg10_5) rfl),
                    st_run 5 67 true rfl rfl rfl (List.Mem.head _) (op_call _ _ 21 _ _ rfl Try.call21 rfl (ok_wherrylaw02_wakes  _ hv28) rfl rfl),
                    st_plain rfl (op_pick _ _ true _ rfl rfl),
                    st_plain rfl (op_assign _ _ _ _ rfl rfl),
                    trivial⟩ ?_
                exact hl31 _ (Option.some.inj h).symm
              · refine ht_seqR hn (El := [_, _, _, _, _, (62, .fl (.own 3) 1 (List.map (Value.int .i64) v6.1)), (63, .v (.int .i64 v18)), (64, .eref (.slot 62) (v26 * 1)), (65, .v (.int .i64 v27)), (66, .v (.bool (v27 == 0))), (67, .v (.bool false)), (68, .v undef), (69, .v (.bool false)), (6, .v (.bool false))]) (init := [0, 1, 2, 3, 4]) (fin := [13]) (sps := [⟨[], [1], [5], [(.slot 62)]⟩, ⟨[2], [], [6], [(.slot 63)]⟩, ⟨[5, 6], [], [7], [(.slot 64)]⟩, ⟨[7, 5], [], [8], [(.slot 65)]⟩, ⟨[8], [], [9], [(.slot 66)]⟩, ⟨[9], [], [10], [(.slot 67)]⟩, ⟨[10], [], [11], [(.slot 68)]⟩, ⟨[10], [], [12], [(.slot 69)]⟩, ⟨[12], [], [13], [(.slot 6)]⟩]) (es' := [(6, .v (.bool false))]) (by kernel_rfl) rfl rfl
                  ⟨st_plain rfl (op_move_take _ _ _ _ rfl),
                    st_plain rfl (op_move _ _ _ _ rfl rfl),
                    st_plain rfl (op_ix _ _ _ _ _ _ _ _ Try.underlying22 sz3 (by decide) rfl rfl rfl (ix_ok hv26).1 (map_lt (ix_ok hv26).2) rfl),
                    st_plain rfl (op_load_e _ _ _ _ _ _ Try.underlying3 rfl rfl rfl (map_get hv27)),
                    st_plain rfl (op_bin _ _ _ _ _ rfl rfl rfl),
                    st_plain rfl (op_move _ _ _ _ (congrArg (fun b => AV.v (Value.bool b)) hg10_5) rfl),
                    st_skip 5 67 _ true rfl rfl rfl rfl (List.Mem.head _),
                    st_plain rfl (op_pick _ _ false _ rfl rfl),
                    st_plain rfl (op_assign _ _ _ _ rfl rfl),
                    trivial⟩ ?_
                exact hl31 _ (Option.some.inj h).symm
          · have h := cond_f hb25 h
            refine ht_skip ?_
            refine pt_then ?_
            refine ht_seq ?_
            refine ht_seq ?_
            refine ht_joinS h (fun (s41 : Bool) => [(0, .fl .shr 1 (List.map (Value.int .i64) l)), (7, .fl (.own 3) 1 (List.map (Value.int .i64) v6.1)), (1, .v (.int .i64 v18)), (2, .v (.int .i64 v22)), (87, .v (.bool s41))]) ?_ ?_
            · rintro s41 h
              refine pt_then ?_
              refine ht_cond _ rfl (fun hb45 => ?_) (fun hb45 => ?_)
              · have h := cond_t hb45 h
                refine ht_seq ?_
                refine ht_seqR hn (El := [_, _, _, _, _, (6, .v (.bool false))]) (init := [0, 1, 2, 3, 4]) (fin := [5]) (sps := [⟨[], [], [5], [(.slot 6)]⟩]) (es' := [(6, .v (.bool false))]) (by kernel_rfl) rfl rfl
                  ⟨st_plain rfl (op_assign _ _ _ _ rfl rfl),
                    trivial⟩ ?_
                refine pt_then ?_
                refine ht_ret ?_
                refine pt_r_then ?_
                obtain rfl := Option.some.inj h
                exact pt_ret hio rfl (.tmp _ _ .nil) rfl rfl
              · have h := cond_f hb45 h
                refine ht_skip ?_
                refine pt_then ?_
                refine ht_seq ?_
                refine ht_seq ?_
                refine ht_joinS h (fun (s52 : Bool) => [(0, .fl .shr 1 (List.map (Value.int .i64) l)), (7, .fl (.own 3) 1 (List.map (Value.int .i64) v6.1)), (1, .v (.int .i64 v18)), (2, .v (.int .i64 v22)), (108, .v (.bool s52))]) ?_ ?_
                · rintro s52 h
                  refine pt_then ?_
                  refine ht_cond _ rfl (fun hb56 => ?_) (fun hb56 => ?_)
                  · have h := cond_t hb56 h
                    refine ht_seq ?_
                    obtain ⟨v57, hv57, h⟩ := bind_some h
                    refine ht_seqR hn (El := [_, _, _, _, _, (109, .v (.bool v57)), (6, .v (.bool v57))]) (init := [0, 1, 2, 3, 4]) (fin := [6]) (sps := [⟨[], [], [5], [(.slot 109)]⟩, ⟨[5], [], [6], [(.slot 6)]⟩]) (es' := [(6, .v (.bool v57))]) (by kernel_rfl) rfl rfl
                      ⟨st_plain rfl (op_call _ _ 21 _ _ rfl Try.call21 rfl (ok_wherrylaw02_wakes  _ hv57) rfl rfl),
                        st_plain rfl (op_assign _ _ _ _ rfl rfl),
                        trivial⟩ ?_
                    refine pt_then ?_
                    refine ht_ret ?_
                    refine pt_r_then ?_
                    obtain rfl := Option.some.inj h
                    exact pt_ret hio rfl (.tmp _ _ .nil) rfl rfl
                  · have h := cond_f hb56 h
                    refine ht_skip ?_
                    refine pt_then ?_
                    refine ht_seq ?_
                    refine ht_seq ?_
                    obtain ⟨v58, hv58, h⟩ := bind_some h
                    obtain ⟨v59, hv59, h⟩ := bind_some h
                    obtain ⟨v60, hv60, h⟩ := bind_some h
                    obtain ⟨v61, hv61, h⟩ := bind_some h
                    refine ht_anyR (by kernel_rfl) hn (El := [_, _, _, _, _, (110, .fl .shr 1 (List.map (Value.int .i64) l)), (111, .v (.int .i64 v18)), (112, .eref (.slot 110) (v58 * 1)), (113, .v (.int .i64 v59)), (114, .fl .shr 1 (List.map (Value.int .i64) l)), (115, .v (.int .i64 v22)), (116, .eref (.slot 114) (v60 * 1)), (117, .v (.int .i64 v61)), (118, .v (.bool (v59 == v61)))]) (init := [0, 1, 2, 3, 4]) (fin := [0, 1, 2, 3, 13]) (sps := [⟨[0], [], [5], [(.slot 110)]⟩, ⟨[2], [], [6], [(.slot 111)]⟩, ⟨[5, 6], [], [7], [(.slot 112)]⟩, ⟨[7, 5], [], [8], [(.slot 113)]⟩, ⟨[0], [], [9], [(.slot 114)]⟩, ⟨[3], [], [10], [(.slot 115)]⟩, ⟨[9, 10], [], [11], [(.slot 116)]⟩, ⟨[11, 9], [], [12], [(.slot 117)]⟩, ⟨[8, 12], [], [13], [(.slot 118)]⟩]) (es' := [(_, _), (_, _), (_, _), (_, _), (118, .v (.bool (v59 == v61)))]) (by kernel_rfl) rfl rfl
                      ⟨st_plain rfl (op_move _ _ _ _ rfl rfl),
                        st_plain rfl (op_move _ _ _ _ rfl rfl),
                        st_plain rfl (op_ix _ _ _ _ _ _ _ _ Try.underlying22 sz3 (by decide) rfl rfl rfl (ix_ok hv58).1 (map_lt (ix_ok hv58).2) rfl),
                        st_plain rfl (op_load_e _ _ _ _ _ _ Try.underlying3 rfl rfl rfl (map_get hv59)),
                        st_plain rfl (op_move _ _ _ _ rfl rfl),
                        st_plain rfl (op_move _ _ _ _ rfl rfl),
                        st_plain rfl (op_ix _ _ _ _ _ _ _ _ Try.underlying22 sz3 (by decide) rfl rfl rfl (ix_ok hv60).1 (map_lt (ix_ok hv60).2) rfl),
                        st_plain rfl (op_load_e _ _ _ _ _ _ Try.underlying3 rfl rfl rfl (map_get hv61)),
                        st_plain rfl (op_bin _ _ _ _ _ rfl rfl rfl),
                        trivial⟩ ?_
                    refine pt_then ?_
                    refine ht_cond _ rfl (fun hb62 => ?_) (fun hb62 => ?_)
                    · have h := cond_t hb62 h
                      refine ht_seq ?_
                      refine ht_joinS h (fun (s73 : Bool) => [(6, .v (.bool s73))]) ?_ ?_
                      · rintro s73 h
                        refine pt_then ?_
                        refine ht_ret ?_
                        refine pt_r_then ?_
                        obtain rfl := Option.some.inj h
                        exact pt_ret hio rfl (.tmp _ _ .nil) rfl rfl
                      · intro u74 h hl75 hr76
                        obtain ⟨v63, hv63, h⟩ := bind_some h
                        obtain ⟨v64, hv64, h⟩ := bind_some h
                        obtain ⟨v65, hv65, h⟩ := bind_some h
                        obtain ⟨v66, hv66, h⟩ := bind_some h
                        obtain ⟨v67, hv67, h⟩ := bind_some h
                        refine cond_some h (fun hg16_13 h => ?_) (fun hg16_13 h => ?_)
                        · obtain ⟨v68, hv68, h⟩ := bind_some h
                          obtain ⟨v69, hv69, h⟩ := bind_some h
                          obtain ⟨v70, hv70, h⟩ := bind_some h
                          obtain ⟨v71, hv71, h⟩ := bind_some h
                          refine cond_some h (fun hg16_24 h => ?_) (fun hg16_24 h => ?_)
                          · obtain ⟨v72, hv72, h⟩ := bind_some h
                            refine ht_anyR (by kernel_rfl) hn (El := (_ :: _ :: _ :: _ :: _ :: (119, .same (.slot 7)) :: (120, .v (.int .i64 v18)) :: (121, .eref (.slot 7) (v63 * 1)) :: (122, .v (.int .i64 v64)) :: (123, .same (.slot 7)) :: (124, .v (.int .i64 v22)) :: (125, .eref (.slot 7) (v65 * 1)) :: (126, .v (.int .i64 v66)) :: (127, .v (.bool ((decide (v64 < v66))))) :: (128, .v (.int .i64 v18)) :: (129, .v (.int .i64 v22)) :: (130, .v (.bool ((decide (v18 < v22))))) :: (131, .v (.bool ((((decide (v64 < v66))) == ((decide (v18 < v22))))))) :: (132, .v (.bool true)) :: (133, .same (.slot 7)) :: (134, .v (.int .i64 v18)) :: (135, .eref (.slot 7) (v68 * 1)) :: (136, .v (.int .i64 v69)) :: (137, .same (.slot 7)) :: (138, .v (.int .i64 v22)) :: (139, .eref (.slot 7) (v70 * 1)) :: (140, .v (.int .i64 v71)) :: (141, .v (.bool (v69 != v71))) :: (142, .v (.bool (v69 != v71))) :: (143, .v (.bool true)) :: (144, .v (.bool v72)) :: (145, .v (.bool v72)) :: (6, .v (.bool v72)) :: [])) (init := [0, 1, 2, 3, 4]) (fin := [32]) (sps := (⟨[1], [], [5], [(.slot 119)]⟩ :: ⟨[2], [], [6], [(.slot 120)]⟩ :: ⟨[5, 1, 6], [], [7], [(.slot 121)]⟩ :: ⟨[7, 1], [], [8], [(.slot 122)]⟩ :: ⟨[1], [], [9], [(.slot 123)]⟩ :: ⟨[3], [], [10], [(.slot 124)]⟩ :: ⟨[9, 1, 10], [], [11], [(.slot 125)]⟩ :: ⟨[11, 1], [], [12], [(.slot 126)]⟩ :: ⟨[8, 12], [], [13], [(.slot 127)]⟩ :: ⟨[2], [], [14], [(.slot 128)]⟩ :: ⟨[3], [], [15], [(.slot 129)]⟩ :: ⟨[14, 15], [], [16], [(.slot 130)]⟩ :: ⟨[13, 16], [], [17], [(.slot 131)]⟩ :: ⟨[17], [], [18], [(.slot 132)]⟩ :: ⟨[18, 1], [], [19], [(.slot 133)]⟩ :: ⟨[18, 2], [], [20], [(.slot 134)]⟩ :: ⟨[18, 19, 1, 20], [], [21], [(.slot 135)]⟩ :: ⟨[18, 21, 1], [], [22], [(.slot 136)]⟩ :: ⟨[18, 1], [], [23], [(.slot 137)]⟩ :: ⟨[18, 3], [], [24], [(.slot 138)]⟩ :: ⟨[18, 23, 1, 24], [], [25], [(.slot 139)]⟩ :: ⟨[18, 25, 1], [], [26], [(.slot 140)]⟩ :: ⟨[18, 22, 26], [], [27], [(.slot 141)]⟩ :: ⟨[18, 27], [], [28], [(.slot 142)]⟩ :: ⟨[28], [], [29], [(.slot 143)]⟩ :: ⟨[29], [], [30], [(.slot 144)]⟩ :: ⟨[29, 30], [], [31], [(.slot 145)]⟩ :: ⟨[31], [], [32], [(.slot 6)]⟩ :: [])) (es' := [(6, .v (.bool v72))]) (by kernel_rfl) rfl rfl
                              ⟨st_plain rfl (op_move _ _ _ _ rfl rfl),
                                st_plain rfl (op_move _ _ _ _ rfl rfl),
                                st_plain rfl (op_ix _ _ _ _ _ _ _ _ Try.underlying22 sz3 (by decide) rfl rfl rfl (ix_ok hv63).1 (map_lt (ix_ok hv63).2) rfl),
                                st_plain rfl (op_load_e _ _ _ _ _ _ Try.underlying3 rfl rfl rfl (map_get hv64)),
                                st_plain rfl (op_move _ _ _ _ rfl rfl),
                                st_plain rfl (op_move _ _ _ _ rfl rfl),
                                st_plain rfl (op_ix _ _ _ _ _ _ _ _ Try.underlying22 sz3 (by decide) rfl rfl rfl (ix_ok hv65).1 (map_lt (ix_ok hv65).2) rfl),
                                st_plain rfl (op_load_e _ _ _ _ _ _ Try.underlying3 rfl rfl rfl (map_get hv66)),
                                st_plain rfl (op_bin _ _ _ _ _ rfl rfl rfl),
                                st_plain rfl (op_move _ _ _ _ rfl rfl),
                                st_plain rfl (op_move _ _ _ _ rfl rfl),
                                st_plain rfl (op_bin _ _ _ _ _ rfl rfl rfl),
                                st_plain rfl (op_beq _ _ _ _ Try.underlying4 rfl rfl),
                                st_plain rfl (op_move _ _ _ _ (congrArg (fun b => AV.v (Value.bool b)) hg16_13) rfl),
                                st_run 13 132 true rfl rfl rfl (List.Mem.head _) (op_move _ _ _ _ rfl rfl),
                                st_run 13 132 true rfl rfl rfl (List.Mem.head _) (op_move _ _ _ _ rfl rfl),
                                st_run 13 132 true rfl rfl rfl (List.Mem.head _) (op_ix _ _ _ _ _ _ _ _ Try.underlying22 sz3 (by decide) rfl rfl rfl (ix_ok hv68).1 (map_lt (ix_ok hv68).2) rfl),
                                st_run 13 132 true rfl rfl rfl (List.Mem.head _) (op_load_e _ _ _ _ _ _ Try.underlying3 rfl rfl rfl (map_get hv69)),
                                st_run 13 132 true rfl rfl rfl (List.Mem.head _) (op_move _ _ _ _ rfl rfl),
                                st_run 13 132 true rfl rfl rfl (List.Mem.head _) (op_move _ _ _ _ rfl rfl),
                                st_run 13 132 true rfl rfl rfl (List.Mem.head _) (op_ix _ _ _ _ _ _ _ _ Try.underlying22 sz3 (by decide) rfl rfl rfl (ix_ok hv70).1 (map_lt (ix_ok hv70).2) rfl),
                                st_run 13 132 true rfl rfl rfl (List.Mem.head _) (op_load_e _ _ _ _ _ _ Try.underlying3 rfl rfl rfl (map_get hv71)),
                                st_run 13 132 true rfl rfl rfl (List.Mem.head _) (op_bin _ _ _ _ _ rfl rfl rfl),
                                st_plain rfl (op_pick _ _ true _ rfl rfl),
                                st_plain rfl (op_move _ _ _ _ (congrArg (fun b => AV.v (Value.bool b)) hg16_24) rfl),
                                st_run 24 143 true rfl rfl rfl (List.Mem.head _) (op_call _ _ 21 _ _ rfl Try.call21 rfl (ok_wherrylaw02_wakes  _ hv72) rfl rfl),
                                st_plain rfl (op_pick _ _ true _ rfl rfl),
                                st_plain rfl (op_assign _ _ _ _ rfl rfl),
                                trivial⟩ ?_
                            exact hl75 _ (Option.some.inj h).symm
                          · refine ht_anyR (by kernel_rfl) hn (El := (_ :: _ :: _ :: _ :: _ :: (119, .same (.slot 7)) :: (120, .v (.int .i64 v18)) :: (121, .eref (.slot 7) (v63 * 1)) :: (122, .v (.int .i64 v64)) :: (123, .same (.slot 7)) :: (124, .v (.int .i64 v22)) :: (125, .eref (.slot 7) (v65 * 1)) :: (126, .v (.int .i64 v66)) :: (127, .v (.bool ((decide (v64 < v66))))) :: (128, .v (.int .i64 v18)) :: (129, .v (.int .i64 v22)) :: (130, .v (.bool ((decide (v18 < v22))))) :: (131, .v (.bool ((((decide (v64 < v66))) == ((decide (v18 < v22))))))) :: (132, .v (.bool true)) :: (133, .same (.slot 7)) :: (134, .v (.int .i64 v18)) :: (135, .eref (.slot 7) (v68 * 1)) :: (136, .v (.int .i64 v69)) :: (137, .same (.slot 7)) :: (138, .v (.int .i64 v22)) :: (139, .eref (.slot 7) (v70 * 1)) :: (140, .v (.int .i64 v71)) :: (141, .v (.bool (v69 != v71))) :: (142, .v (.bool (v69 != v71))) :: (143, .v (.bool false)) :: (144, .v undef) :: (145, .v (.bool false)) :: (6, .v (.bool false)) :: [])) (init := [0, 1, 2, 3, 4]) (fin := [32]) (sps := (⟨[1], [], [5], [(.slot 119)]⟩ :: ⟨[2], [], [6], [(.slot 120)]⟩ :: ⟨[5, 1, 6], [], [7], [(.slot 121)]⟩ :: ⟨[7, 1], [], [8], [(.slot 122)]⟩ :: ⟨[1], [], [9], [(.slot 123)]⟩ :: ⟨[3], [], [10], [(.slot 124)]⟩ :: ⟨[9, 1, 10], [], [11], [(.slot 125)]⟩ :: ⟨[11, 1], [], [12], [(.slot 126)]⟩ :: ⟨[8, 12], [], [13], [(.slot 127)]⟩ :: ⟨[2], [], [14], [(.slot 128)]⟩ :: ⟨[3], [], [15], [(.slot 129)]⟩ :: ⟨[14, 15], [], [16], [(.slot 130)]⟩ :: ⟨[13, 16], [], [17], [(.slot 131)]⟩ :: ⟨[17], [], [18], [(.slot 132)]⟩ :: ⟨[18, 1], [], [19], [(.slot 133)]⟩ :: ⟨[18, 2], [], [20], [(.slot 134)]⟩ :: ⟨[18, 19, 1, 20], [], [21], [(.slot 135)]⟩ :: ⟨[18, 21, 1], [], [22], [(.slot 136)]⟩ :: ⟨[18, 1], [], [23], [(.slot 137)]⟩ :: ⟨[18, 3], [], [24], [(.slot 138)]⟩ :: ⟨[18, 23, 1, 24], [], [25], [(.slot 139)]⟩ :: ⟨[18, 25, 1], [], [26], [(.slot 140)]⟩ :: ⟨[18, 22, 26], [], [27], [(.slot 141)]⟩ :: ⟨[18, 27], [], [28], [(.slot 142)]⟩ :: ⟨[28], [], [29], [(.slot 143)]⟩ :: ⟨[29], [], [30], [(.slot 144)]⟩ :: ⟨[29], [], [31], [(.slot 145)]⟩ :: ⟨[31], [], [32], [(.slot 6)]⟩ :: [])) (es' := [(6, .v (.bool false))]) (by kernel_rfl) rfl rfl
                              ⟨st_plain rfl (op_move _ _ _ _ rfl rfl),
                                st_plain rfl (op_move _ _ _ _ rfl rfl),
                                st_plain rfl (op_ix _ _ _ _ _ _ _ _ Try.underlying22 sz3 (by decide) rfl rfl rfl (ix_ok hv63).1 (map_lt (ix_ok hv63).2) rfl),
                                st_plain rfl (op_load_e _ _ _ _ _ _ Try.underlying3 rfl rfl rfl (map_get hv64)),
                                st_plain rfl (op_move _ _ _ _ rfl rfl),
                                st_plain rfl (op_move _ _ _ _ rfl rfl),
                                st_plain rfl (op_ix _ _ _ _ _ _ _ _ Try.underlying22 sz3 (by decide) rfl rfl rfl (ix_ok hv65).1 (map_lt (ix_ok hv65).2) rfl),
                                st_plain rfl (op_load_e _ _ _ _ _ _ Try.underlying3 rfl rfl rfl (map_get hv66)),
                                st_plain rfl (op_bin _ _ _ _ _ rfl rfl rfl),
                                st_plain rfl (op_move _ _ _ _ rfl rfl),
                                st_plain rfl (op_move _ _ _ _ rfl rfl),
                                st_plain rfl (op_bin _ _ _ _ _ rfl rfl rfl),
                                st_plain rfl (op_beq _ _ _ _ Try.underlying4 rfl rfl),
                                st_plain rfl (op_move _ _ _ _ (congrArg (fun b => AV.v (Value.bool b)) hg16_13) rfl),
                                st_run 13 132 true rfl rfl rfl (List.Mem.head _) (op_move _ _ _ _ rfl rfl),
                                st_run 13 132 true rfl rfl rfl (List.Mem.head _) (op_move _ _ _ _ rfl rfl),
                                st_run 13 132 true rfl rfl rfl (List.Mem.head _) (op_ix _ _ _ _ _ _ _ _ Try.underlying22 sz3 (by decide) rfl rfl rfl (ix_ok hv68).1 (map_lt (ix_ok hv68).2) rfl),
                                st_run 13 132 true rfl rfl rfl (List.Mem.head _) (op_load_e _ _ _ _ _ _ Try.underlying3 rfl rfl rfl (map_get hv69)),
                                st_run 13 132 true rfl rfl rfl (List.Mem.head _) (op_move _ _ _ _ rfl rfl),
                                st_run 13 132 true rfl rfl rfl (List.Mem.head _) (op_move _ _ _ _ rfl rfl),
                                st_run 13 132 true rfl rfl rfl (List.Mem.head _) (op_ix _ _ _ _ _ _ _ _ Try.underlying22 sz3 (by decide) rfl rfl rfl (ix_ok hv70).1 (map_lt (ix_ok hv70).2) rfl),
                                st_run 13 132 true rfl rfl rfl (List.Mem.head _) (op_load_e _ _ _ _ _ _ Try.underlying3 rfl rfl rfl (map_get hv71)),
                                st_run 13 132 true rfl rfl rfl (List.Mem.head _) (op_bin _ _ _ _ _ rfl rfl rfl),
                                st_plain rfl (op_pick _ _ true _ rfl rfl),
                                st_plain rfl (op_move _ _ _ _ (congrArg (fun b => AV.v (Value.bool b)) hg16_24) rfl),
                                st_skip 24 143 _ true rfl rfl rfl rfl (List.Mem.head _),
                                st_plain rfl (op_pick _ _ false _ rfl rfl),
                                st_plain rfl (op_assign _ _ _ _ rfl rfl),
                                trivial⟩ ?_
                            exact hl75 _ (Option.some.inj h).symm
                        · refine ht_anyR (by kernel_rfl) hn (El := (_ :: _ :: _ :: _ :: _ :: (119, .same (.slot 7)) :: (120, .v (.int .i64 v18)) :: (121, .eref (.slot 7) (v63 * 1)) :: (122, .v (.int .i64 v64)) :: (123, .same (.slot 7)) :: (124, .v (.int .i64 v22)) :: (125, .eref (.slot 7) (v65 * 1)) :: (126, .v (.int .i64 v66)) :: (127, .v (.bool ((decide (v64 < v66))))) :: (128, .v (.int .i64 v18)) :: (129, .v (.int .i64 v22)) :: (130, .v (.bool ((decide (v18 < v22))))) :: (131, .v (.bool ((((decide (v64 < v66))) == ((decide (v18 < v22))))))) :: (132, .v (.bool false)) :: (133, .v undef) :: (134, .v undef) :: (135, .v undef) :: (136, .v undef) :: (137, .v undef) :: (138, .v undef) :: (139, .v undef) :: (140, .v undef) :: (141, .v undef) :: (142, .v (.bool false)) :: (143, .v (.bool false)) :: (144, .v undef) :: (145, .v (.bool false)) :: (6, .v (.bool false)) :: [])) (init := [0, 1, 2, 3, 4]) (fin := [32]) (sps := (⟨[1], [], [5], [(.slot 119)]⟩ :: ⟨[2], [], [6], [(.slot 120)]⟩ :: ⟨[5, 1, 6], [], [7], [(.slot 121)]⟩ :: ⟨[7, 1], [], [8], [(.slot 122)]⟩ :: ⟨[1], [], [9], [(.slot 123)]⟩ :: ⟨[3], [], [10], [(.slot 124)]⟩ :: ⟨[9, 1, 10], [], [11], [(.slot 125)]⟩ :: ⟨[11, 1], [], [12], [(.slot 126)]⟩ :: ⟨[8, 12], [], [13], [(.slot 127)]⟩ :: ⟨[2], [], [14], [(.slot 128)]⟩ :: ⟨[3], [], [15], [(.slot 129)]⟩ :: ⟨[14, 15], [], [16], [(.slot 130)]⟩ :: ⟨[13, 16], [], [17], [(.slot 131)]⟩ :: ⟨[17], [], [18], [(.slot 132)]⟩ :: ⟨[18], [], [19], [(.slot 133)]⟩ :: ⟨[18], [], [20], [(.slot 134)]⟩ :: ⟨[18], [], [21], [(.slot 135)]⟩ :: ⟨[18], [], [22], [(.slot 136)]⟩ :: ⟨[18], [], [23], [(.slot 137)]⟩ :: ⟨[18], [], [24], [(.slot 138)]⟩ :: ⟨[18], [], [25], [(.slot 139)]⟩ :: ⟨[18], [], [26], [(.slot 140)]⟩ :: ⟨[18], [], [27], [(.slot 141)]⟩ :: ⟨[18], [], [28], [(.slot 142)]⟩ :: ⟨[28], [], [29], [(.slot 143)]⟩ :: ⟨[29], [], [30], [(.slot 144)]⟩ :: ⟨[29], [], [31], [(.slot 145)]⟩ :: ⟨[31], [], [32], [(.slot 6)]⟩ :: [])) (es' := [(6, .v (.bool false))]) (by kernel_rfl) rfl rfl
                            ⟨st_plain rfl (op_move _ _ _ _ rfl rfl),
                              st_plain rfl (op_move _ _ _ _ rfl rfl),
                              st_plain rfl (op_ix _ _ _ _ _ _ _ _ Try.underlying22 sz3 (by decide) rfl rfl rfl (ix_ok hv63).1 (map_lt (ix_ok hv63).2) rfl),
                              st_plain rfl (op_load_e _ _ _ _ _ _ Try.underlying3 rfl rfl rfl (map_get hv64)),
                              st_plain rfl (op_move _ _ _ _ rfl rfl),
                              st_plain rfl (op_move _ _ _ _ rfl rfl),
                              st_plain rfl (op_ix _ _ _ _ _ _ _ _ Try.underlying22 sz3 (by decide) rfl rfl rfl (ix_ok hv65).1 (map_lt (ix_ok hv65).2) rfl),
                              st_plain rfl (op_load_e _ _ _ _ _ _ Try.underlying3 rfl rfl rfl (map_get hv66)),
                              st_plain rfl (op_bin _ _ _ _ _ rfl rfl rfl),
                              st_plain rfl (op_move _ _ _ _ rfl rfl),
                              st_plain rfl (op_move _ _ _ _ rfl rfl),
                              st_plain rfl (op_bin _ _ _ _ _ rfl rfl rfl),
                              st_plain rfl (op_beq _ _ _ _ Try.underlying4 rfl rfl),
                              st_plain rfl (op_move _ _ _ _ (congrArg (fun b => AV.v (Value.bool b)) hg16_13) rfl),
                              st_skip 13 132 _ true rfl rfl rfl rfl (List.Mem.head _),
                              st_skip 13 132 _ true rfl rfl rfl rfl (List.Mem.head _),
                              st_skip 13 132 _ true rfl rfl rfl rfl (List.Mem.head _),
                              st_skip 13 132 _ true rfl rfl rfl rfl (List.Mem.head _),
                              st_skip 13 132 _ true rfl rfl rfl rfl (List.Mem.head _),
                              st_skip 13 132 _ true rfl rfl rfl rfl (List.Mem.head _),
                              st_skip 13 132 _ true rfl rfl rfl rfl (List.Mem.head _),
                              st_skip 13 132 _ true rfl rfl rfl rfl (List.Mem.head _),
                              st_skip 13 132 _ true rfl rfl rfl rfl (List.Mem.head _),
                              st_plain rfl (op_pick _ _ false _ rfl rfl),
                              st_plain rfl (op_move _ _ _ _ rfl rfl),
                              st_skip 24 143 _ true rfl rfl rfl rfl (List.Mem.head _),
                              st_plain rfl (op_pick _ _ false _ rfl rfl),
                              st_plain rfl (op_assign _ _ _ _ rfl rfl),
                              trivial⟩ ?_
                          exact hl75 _ (Option.some.inj h).symm
                    · have h := cond_f hb62 h
                      refine ht_skip ?_
                      refine pt_then ?_
                      refine ht_seq ?_
                      refine ht_joinS h (fun (s89 : Bool) => [(6, .v (.bool s89))]) ?_ ?_
                      · rintro s89 h
                        refine pt_then ?_
                        refine ht_ret ?_
                        obtain rfl := Option.some.inj h
                        exact pt_ret hio rfl (.tmp _ _ .nil) rfl rfl
                      · intro u90 h hl91 hr92
                        obtain ⟨v77, hv77, h⟩ := bind_some h
                        obtain ⟨v78, hv78, h⟩ := bind_some h
                        obtain ⟨v79, hv79, h⟩ := bind_some h
                        obtain ⟨v80, hv80, h⟩ := bind_some h
                        obtain ⟨v81, hv81, h⟩ := bind_some h
                        obtain ⟨v82, hv82, h⟩ := bind_some h
                        obtain ⟨v83, hv83, h⟩ := bind_some h
                        obtain ⟨v84, hv84, h⟩ := bind_some h
                        obtain ⟨v85, hv85, h⟩ := bind_some h
                        obtain ⟨v86, hv86, h⟩ := bind_some h
                        obtain ⟨v87, hv87, h⟩ := bind_some h
                        refine cond_some h (fun hg17_20 h => ?_) (fun hg17_20 h => ?_)
                        · obtain ⟨v88, hv88, h⟩ := bind_some h
                          refine ht_anyR (by kernel_rfl) hn (El := (_ :: _ :: _ :: _ :: _ :: (146, .same (.slot 7)) :: (147, .v (.int .i64 v22)) :: (148, .eref (.slot 7) (v77 * 1)) :: (149, .v (.int .i64 v78)) :: (150, .fl .shr 1 (List.map (Value.int .i64) l)) :: (151, .v (.int .i64 v22)) :: (152, .eref (.slot 150) (v79 * 1)) :: (153, .v (.int .i64 v80)) :: (154, .fl .shr 1 (List.map (Value.int .i64) l)) :: (155, .v (.int .i64 v18)) :: (156, .eref (.slot 154) (v81 * 1)) :: (157, .v (.int .i64 v82)) :: (158, .v (.int .i64 v83)) :: (159, .v (.int .u64 v84)) :: (160, .v (.int .i64 v85)) :: (161, .same (.slot 7)) :: (162, .v (.int .i64 v18)) :: (163, .eref (.slot 7) (v86 * 1)) :: (164, .v (.int .i64 v87)) :: (165, .v (.bool (v85 != v87))) :: (166, .v (.bool true)) :: (167, .v (.bool v88)) :: (168, .v (.bool v88)) :: (6, .v (.bool v88)) :: [])) (init := [0, 1, 2, 3, 4]) (fin := [28]) (sps := (⟨[1], [], [5], [(.slot 146)]⟩ :: ⟨[3], [], [6], [(.slot 147)]⟩ :: ⟨[5, 1, 6], [], [7], [(.slot 148)]⟩ :: ⟨[7, 1], [], [8], [(.slot 149)]⟩ :: ⟨[0], [], [9], [(.slot 150)]⟩ :: ⟨[3], [], [10], [(.slot 151)]⟩ :: ⟨[9, 10], [], [11], [(.slot 152)]⟩ :: ⟨[11, 9], [], [12], [(.slot 153)]⟩ :: ⟨[0], [], [13], [(.slot 154)]⟩ :: ⟨[2], [], [14], [(.slot 155)]⟩ :: ⟨[13, 14], [], [15], [(.slot 156)]⟩ :: ⟨[15, 13], [], [16], [(.slot 157)]⟩ :: ⟨[12, 16], [], [17], [(.slot 158)]⟩ :: ⟨[17], [], [18], [(.slot 159)]⟩ :: ⟨[8, 18], [], [19], [(.slot 160)]⟩ :: ⟨[1], [], [20], [(.slot 161)]⟩ :: ⟨[2], [], [21], [(.slot 162)]⟩ :: ⟨[20, 1, 21], [], [22], [(.slot 163)]⟩ :: ⟨[22, 1], [], [23], [(.slot 164)]⟩ :: ⟨[19, 23], [], [24], [(.slot 165)]⟩ :: ⟨[24], [], [25], [(.slot 166)]⟩ :: ⟨[25], [], [26], [(.slot 167)]⟩ :: ⟨[25, 26], [], [27], [(.slot 168)]⟩ :: ⟨[27], [], [28], [(.slot 6)]⟩ :: [])) (es' := [(6, .v (.bool v88))]) (by kernel_rfl) rfl rfl
                            ⟨st_plain rfl (op_move _ _ _ _ rfl rfl),
                              st_plain rfl (op_move _ _ _ _ rfl rfl),
                              st_plain rfl (op_ix _ _ _ _ _ _ _ _ Try.underlying22 sz3 (by decide) rfl rfl rfl (ix_ok hv77).1 (map_lt (ix_ok hv77).2) rfl),
                              st_plain rfl (op_load_e _ _ _ _ _ _ Try.underlying3 rfl rfl rfl (map_get hv78)),
                              st_plain rfl (op_move _ _ _ _ rfl rfl),
                              st_plain rfl (op_move _ _ _ _ rfl rfl),
                              st_plain rfl (op_ix _ _ _ _ _ _ _ _ Try.underlying22 sz3 (by decide) rfl rfl rfl (ix_ok hv79).1 (map_lt (ix_ok hv79).2) rfl),
                              st_plain rfl (op_load_e _ _ _ _ _ _ Try.underlying3 rfl rfl rfl (map_get hv80)),
                              st_plain rfl (op_move _ _ _ _ rfl rfl),
                              st_plain rfl (op_move _ _ _ _ rfl rfl),
                              st_plain rfl (op_ix _ _ _ _ _ _ _ _ Try.underlying22 sz3 (by decide) rfl rfl rfl (ix_ok hv81).1 (map_lt (ix_ok hv81).2) rfl),
                              st_plain rfl (op_load_e _ _ _ _ _ _ Try.underlying3 rfl rfl rfl (map_get hv82)),
                              st_plain rfl (op_bin _ _ _ _ _ rfl rfl (ibind (f := Value.int .i64) (Option.some.inj hv83))),
                              st_plain rfl ((Option.some.inj hv84) ▸ op_conv _ _ _ Try.underlying3 Try.underlying37 rfl),
                              st_plain rfl (op_bin _ _ _ _ _ rfl rfl (shr_ok hv85)),
                              st_plain rfl (op_move _ _ _ _ rfl rfl),
                              st_plain rfl (op_move _ _ _ _ rfl rfl),
                              st_plain rfl (op_ix _ _ _ _ _ _ _ _ Try.underlying22 sz3 (by decide) rfl rfl rfl (ix_ok hv86).1 (map_lt (ix_ok hv86).2) rfl),
                              st_plain rfl (op_load_e _ _ _ _ _ _ Try.underlying3 rfl rfl rfl (map_get hv87)),
                              st_plain rfl (op_bin _ _ _ _ _ rfl rfl rfl),
                              st_plain rfl (op_move _ _ _ _ (congrArg (fun b => AV.v (Value.bool b)) hg17_20) rfl),
                              st_run 20 166 true rfl rfl rfl (List.Mem.head _) (op_call _ _ 21 _ _ rfl Try.call21 rfl (ok_wherrylaw02_wakes  _ hv88) rfl rfl),
                              st_plain rfl (op_pick _ _ true _ rfl rfl),
                              st_plain rfl (op_assign _ _ _ _ rfl rfl),
                              trivial⟩ ?_
                          exact hl91 _ (Option.some.inj h).symm
                        · refine ht_anyR (by kernel_rfl) hn (El := (_ :: _ :: _ :: _ :: _ :: (146, .same (.slot 7)) :: (147, .v (.int .i64 v22)) :: (148, .eref (.slot 7) (v77 * 1)) :: (149, .v (.int .i64 v78)) :: (150, .fl .shr 1 (List.map (Value.int .i64) l)) :: (151, .v (.int .i64 v22)) :: (152, .eref (.slot 150) (v79 * 1)) :: (153, .v (.int .i64 v80)) :: (154, .fl .shr 1 (List.map (Value.int .i64) l)) :: (155, .v (.int .i64 v18)) :: (156, .eref (.slot 154) (v81 * 1)) :: (157, .v (.int .i64 v82)) :: (158, .v (.int .i64 v83)) :: (159, .v (.int .u64 v84)) :: (160, .v (.int .i64 v85)) :: (161, .same (.slot 7)) :: (162, .v (.int .i64 v18)) :: (163, .eref (.slot 7) (v86 * 1)) :: (164, .v (.int .i64 v87)) :: (165, .v (.bool (v85 != v87))) :: (166, .v (.bool false)) :: (167, .v undef) :: (168, .v (.bool false)) :: (6, .v (.bool false)) :: [])) (init := [0, 1, 2, 3, 4]) (fin := [28]) (sps := (⟨[1], [], [5], [(.slot 146)]⟩ :: ⟨[3], [], [6], [(.slot 147)]⟩ :: ⟨[5, 1, 6], [], [7], [(.slot 148)]⟩ :: ⟨[7, 1], [], [8], [(.slot 149)]⟩ :: ⟨[0], [], [9], [(.slot 150)]⟩ :: ⟨[3], [], [10], [(.slot 151)]⟩ :: ⟨[9, 10], [], [11], [(.slot 152)]⟩ :: ⟨[11, 9], [], [12], [(.slot 153)]⟩ :: ⟨[0], [], [13], [(.slot 154)]⟩ :: ⟨[2], [], [14], [(.slot 155)]⟩ :: ⟨[13, 14], [], [15], [(.slot 156)]⟩ :: ⟨[15, 13], [], [16], [(.slot 157)]⟩ :: ⟨[12, 16], [], [17], [(.slot 158)]⟩ :: ⟨[17], [], [18], [(.slot 159)]⟩ :: ⟨[8, 18], [], [19], [(.slot 160)]⟩ :: ⟨[1], [], [20], [(.slot 161)]⟩ :: ⟨[2], [], [21], [(.slot 162)]⟩ :: ⟨[20, 1, 21], [], [22], [(.slot 163)]⟩ :: ⟨[22, 1], [], [23], [(.slot 164)]⟩ :: ⟨[19, 23], [], [24], [(.slot 165)]⟩ :: ⟨[24], [], [25], [(.slot 166)]⟩ :: ⟨[25], [], [26], [(.slot 167)]⟩ :: ⟨[25], [], [27], [(.slot 168)]⟩ :: ⟨[27], [], [28], [(.slot 6)]⟩ :: [])) (es' := [(6, .v (.bool false))]) (by kernel_rfl) rfl rfl
                            ⟨st_plain rfl (op_move _ _ _ _ rfl rfl),
                              st_plain rfl (op_move _ _ _ _ rfl rfl),
                              st_plain rfl (op_ix _ _ _ _ _ _ _ _ Try.underlying22 sz3 (by decide) rfl rfl rfl (ix_ok hv77).1 (map_lt (ix_ok hv77).2) rfl),
                              st_plain rfl (op_load_e _ _ _ _ _ _ Try.underlying3 rfl rfl rfl (map_get hv78)),
                              st_plain rfl (op_move _ _ _ _ rfl rfl),
                              st_plain rfl (op_move _ _ _ _ rfl rfl),
                              st_plain rfl (op_ix _ _ _ _ _ _ _ _ Try.underlying22 sz3 (by decide) rfl rfl rfl (ix_ok hv79).1 (map_lt (ix_ok hv79).2) rfl),
                              st_plain rfl (op_load_e _ _ _ _ _ _ Try.underlying3 rfl rfl rfl (map_get hv80)),
                              st_plain rfl (op_move _ _ _ _ rfl rfl),
                              st_plain rfl (op_move _ _ _ _ rfl rfl),
                              st_plain rfl (op_ix _ _ _ _ _ _ _ _ Try.underlying22 sz3 (by decide) rfl rfl rfl (ix_ok hv81).1 (map_lt (ix_ok hv81).2) rfl),
                              st_plain rfl (op_load_e _ _ _ _ _ _ Try.underlying3 rfl rfl rfl (map_get hv82)),
                              st_plain rfl (op_bin _ _ _ _ _ rfl rfl (ibind (f := Value.int .i64) (Option.some.inj hv83))),
                              st_plain rfl ((Option.some.inj hv84) ▸ op_conv _ _ _ Try.underlying3 Try.underlying37 rfl),
                              st_plain rfl (op_bin _ _ _ _ _ rfl rfl (shr_ok hv85)),
                              st_plain rfl (op_move _ _ _ _ rfl rfl),
                              st_plain rfl (op_move _ _ _ _ rfl rfl),
                              st_plain rfl (op_ix _ _ _ _ _ _ _ _ Try.underlying22 sz3 (by decide) rfl rfl rfl (ix_ok hv86).1 (map_lt (ix_ok hv86).2) rfl),
                              st_plain rfl (op_load_e _ _ _ _ _ _ Try.underlying3 rfl rfl rfl (map_get hv87)),
                              st_plain rfl (op_bin _ _ _ _ _ rfl rfl rfl),
                              st_plain rfl (op_move _ _ _ _ (congrArg (fun b => AV.v (Value.bool b)) hg17_20) rfl),
                              st_skip 20 166 _ true rfl rfl rfl rfl (List.Mem.head _),
                              st_plain rfl (op_pick _ _ false _ rfl rfl),
                              st_plain rfl (op_assign _ _ _ _ rfl rfl),
                              trivial⟩ ?_
                          exact hl91 _ (Option.some.inj h).symm
                · intro u53 h hl54 hr55
                  refine cond_some h (fun hg13_3 h => ?_) (fun hg13_3 h => ?_)
                  · refine ht_anyR (by kernel_rfl) hn (El := (_ :: _ :: _ :: _ :: _ :: (88, .v (.int .i64 v18)) :: (89, .v (.int .i64 v22)) :: (90, .v (.bool (v18 == v22))) :: (91, .v (.bool true)) :: (92, .v undef) :: (93, .v undef) :: (94, .v undef) :: (95, .v undef) :: (96, .v undef) :: (97, .v (.bool true)) :: (98, .v (.bool true)) :: (99, .v undef) :: (100, .v undef) :: (101, .v undef) :: (102, .v undef) :: (103, .v undef) :: (104, .v undef) :: (105, .v undef) :: (106, .v undef) :: (107, .v undef) :: (108, .v (.bool true)) :: [])) (init := [0, 1, 2, 3, 4]) (fin := [0, 1, 2, 3, 25]) (sps := (⟨[2], [], [5], [(.slot 88)]⟩ :: ⟨[3], [], [6], [(.slot 89)]⟩ :: ⟨[5, 6], [], [7], [(.slot 90)]⟩ :: ⟨[7], [], [8], [(.slot 91)]⟩ :: ⟨[8], [], [9], [(.slot 92)]⟩ :: ⟨[8], [], [10], [(.slot 93)]⟩ :: ⟨[8], [], [11], [(.slot 94)]⟩ :: ⟨[8], [], [12], [(.slot 95)]⟩ :: ⟨[8], [], [13], [(.slot 96)]⟩ :: ⟨[8], [], [14], [(.slot 97)]⟩ :: ⟨[14], [], [15], [(.slot 98)]⟩ :: ⟨[15], [], [16], [(.slot 99)]⟩ :: ⟨[15], [], [17], [(.slot 100)]⟩ :: ⟨[15], [], [18], [(.slot 101)]⟩ :: ⟨[15], [], [19], [(.slot 102)]⟩ :: ⟨[15], [], [20], [(.slot 103)]⟩ :: ⟨[15], [], [21], [(.slot 104)]⟩ :: ⟨[15], [], [22], [(.slot 105)]⟩ :: ⟨[15], [], [23], [(.slot 106)]⟩ :: ⟨[15], [], [24], [(.slot 107)]⟩ :: ⟨[15], [], [25], [(.slot 108)]⟩ :: [])) (es' := [(_, _), (_, _), (_, _), (_, _), (108, .v (.bool true))]) (by kernel_rfl) rfl rfl
                      ⟨st_plain rfl (op_move _ _ _ _ rfl rfl),
                        st_plain rfl (op_move _ _ _ _ rfl rfl),
                        st_plain rfl (op_bin _ _ _ _ _ rfl rfl rfl),
                        st_plain rfl (op_move _ _ _ _ (congrArg (fun b => AV.v (Value.bool b)) hg13_3) rfl),
                        st_skip 3 91 _ false rfl rfl rfl rfl (List.Mem.head _),
                        st_skip 3 91 _ false rfl rfl rfl rfl (List.Mem.head _),
                        st_skip 3 91 _ false rfl rfl rfl rfl (List.Mem.head _),
                        st_skip 3 91 _ false rfl rfl rfl rfl (List.Mem.head _),
                        st_skip 3 91 _ false rfl rfl rfl rfl (List.Mem.head _),
                        st_plain rfl (op_pick _ _ true _ rfl rfl),
                        st_plain rfl (op_move _ _ _ _ rfl rfl),
                        st_skip 10 98 _ false rfl rfl rfl rfl (List.Mem.head _),
                        st_skip 10 98 _ false rfl rfl rfl rfl (List.Mem.head _),
                        st_skip 10 98 _ false rfl rfl rfl rfl (List.Mem.head _),
                        st_skip 10 98 _ false rfl rfl rfl rfl (List.Mem.head _),
                        st_skip 10 98 _ false rfl rfl rfl rfl (List.Mem.head _),
                        st_skip 10 98 _ false rfl rfl rfl rfl (List.Mem.head _),
                        st_skip 10 98 _ false rfl rfl rfl rfl (List.Mem.head _),
                        st_skip 10 98 _ false rfl rfl rfl rfl (List.Mem.head _),
                        st_skip 10 98 _ false rfl rfl rfl rfl (List.Mem.head _),
                        st_plain rfl (op_pick _ _ true _ rfl rfl),
                        trivial⟩ ?_
                    exact hl54 _ (Option.some.inj h).symm
                  · obtain ⟨v46, hv46, h⟩ := bind_some h
                    obtain ⟨v47, hv47, h⟩ := bind_some h
                    refine cond_some h (fun hg13_10 h => ?_) (fun hg13_10 h => ?_)
                    · refine ht_anyR (by kernel_rfl) hn (El := (_ :: _ :: _ :: _ :: _ :: (88, .v (.int .i64 v18)) :: (89, .v (.int .i64 v22)) :: (90, .v (.bool (v18 == v22))) :: (91, .v (.bool false)) :: (92, .fl .shr 1 (List.map (Value.int .i64) l)) :: (93, .v (.int .i64 v22)) :: (94, .eref (.slot 92) (v46 * 1)) :: (95, .v (.int .i64 v47)) :: (96, .v (.bool (v47 == 0))) :: (97, .v (.bool (v47 == 0))) :: (98, .v (.bool true)) :: (99, .v undef) :: (100, .v undef) :: (101, .v undef) :: (102, .v undef) :: (103, .v undef) :: (104, .v undef) :: (105, .v undef) :: (106, .v undef) :: (107, .v undef) :: (108, .v (.bool true)) :: [])) (init := [0, 1, 2, 3, 4]) (fin := [0, 1, 2, 3, 25]) (sps := (⟨[2], [], [5], [(.slot 88)]⟩ :: ⟨[3], [], [6], [(.slot 89)]⟩ :: ⟨[5, 6], [], [7], [(.slot 90)]⟩ :: ⟨[7], [], [8], [(.slot 91)]⟩ :: ⟨[8, 0], [], [9], [(.slot 92)]⟩ :: ⟨[8, 3], [], [10], [(.slot 93)]⟩ :: ⟨[8, 9, 10], [], [11], [(.slot 94)]⟩ :: ⟨[8, 11, 9], [], [12], [(.slot 95)]⟩ :: ⟨[8, 12], [], [13], [(.slot 96)]⟩ :: ⟨[8, 13], [], [14], [(.slot 97)]⟩ :: ⟨[14], [], [15], [(.slot 98)]⟩ :: ⟨[15], [], [16], [(.slot 99)]⟩ :: ⟨[15], [], [17], [(.slot 100)]⟩ :: ⟨[15], [], [18], [(.slot 101)]⟩ :: ⟨[15], [], [19], [(.slot 102)]⟩ :: ⟨[15], [], [20], [(.slot 103)]⟩ :: ⟨[15], [], [21], [(.slot 104)]⟩ :: ⟨[15], [], [22], [(.slot 105)]⟩ :: ⟨[15], [], [23], [(.slot 106)]⟩ :: ⟨[15], [], [24], [(.slot 107)]⟩ :: ⟨[15], [], [25], [(.slot 108)]⟩ :: [])) (es' := [(_, _), (_, _), (_, _), (_, _), (108, .v (.bool true))]) (by kernel_rfl) rfl rfl
                        ⟨st_plain rfl (op_move _ _ _ _ rfl rfl),
                          st_plain rfl (op_move _ _ _ _ rfl rfl),
                          st_plain rfl (op_bin _ _ _ _ _ rfl rfl rfl),
                          st_plain rfl (op_move _ _ _ _ (congrArg (fun b => AV.v (Value.bool b)) hg13_3) rfl),
                          st_run 3 91 false rfl rfl rfl (List.Mem.head _) (op_move _ _ _ _ rfl rfl),
                          st_run 3 91 false rfl rfl rfl (List.Mem.head _) (op_move _ _ _ _ rfl rfl),
                          st_run 3 91 false rfl rfl rfl (List.Mem.head _) (op_ix _ _ _ _ _ _ _ _ Try.underlying22 sz3 (by decide) rfl rfl rfl (ix_ok hv46).1 (map_lt (ix_ok hv46).2) rfl),
                          st_run 3 91 false rfl rfl rfl (List.Mem.head _) (op_load_e _ _ _ _ _ _ Try.underlying3 rfl rfl rfl (map_get hv47)),
                          st_run 3 91 false rfl rfl rfl (List.Mem.head _) (op_bin _ _ _ _ _ rfl rfl rfl),
                          st_plain rfl (op_pick _ _ false _ rfl rfl),
                          st_plain rfl (op_move _ _ _ _ (congrArg (fun b => AV.v (Value.bool b)) hg13_10) rfl),
                          st_skip 10 98 _ false rfl rfl rfl rfl (List.Mem.head _),
                          st_skip 10 98 _ false rfl rfl rfl rfl (List.Mem.head _),
                          st_skip 10 98 _ false rfl rfl rfl rfl (List.Mem.head _),
                          st_skip 10 98 _ false rfl rfl rfl rfl (List.Mem.head _),
                          st_skip 10 98 _ false rfl rfl rfl rfl (List.Mem.head _),
                          st_skip 10 98 _ false rfl rfl rfl rfl (List.Mem.head _),
                          st_skip 10 98 _ false rfl rfl rfl rfl (List.Mem.head _),
                          st_skip 10 98 _ false rfl rfl rfl rfl (List.Mem.head _),
                          st_skip 10 98 _ false rfl rfl rfl rfl (List.Mem.head _),
                          st_plain rfl (op_pick _ _ true _ rfl rfl),
                          trivial⟩ ?_
                      exact hl54 _ (Option.some.inj h).symm
                    · obtain ⟨v48, hv48, h⟩ := bind_some h
                      obtain ⟨v49, hv49, h⟩ := bind_some h
                      obtain ⟨v50, hv50, h⟩ := bind_some h
                      obtain ⟨v51, hv51, h⟩ := bind_some h
                      refine ht_anyR (by kernel_rfl) hn (El := (_ :: _ :: _ :: _ :: _ :: (88, .v (.int .i64 v18)) :: (89, .v (.int .i64 v22)) :: (90, .v (.bool (v18 == v22))) :: (91, .v (.bool false)) :: (92, .fl .shr 1 (List.map (Value.int .i64) l)) :: (93, .v (.int .i64 v22)) :: (94, .eref (.slot 92) (v46 * 1)) :: (95, .v (.int .i64 v47)) :: (96, .v (.bool (v47 == 0))) :: (97, .v (.bool (v47 == 0))) :: (98, .v (.bool false)) :: (99, .fl .shr 1 (List.map (Value.int .i64) l)) :: (100, .v (.int .i64 v22)) :: (101, .eref (.slot 99) (v48 * 1)) :: (102, .v (.int .i64 v49)) :: (103, .fl .shr 1 (List.map (Value.int .i64) l)) :: (104, .v (.int .i64 v18)) :: (105, .eref (.slot 103) (v50 * 1)) :: (106, .v (.int .i64 v51)) :: (107, .v (.bool ((decide (v49 < v51))))) :: (108, .v (.bool ((decide (v49 < v51))))) :: [])) (init := [0, 1, 2, 3, 4]) (fin := [0, 1, 2, 3, 25]) (sps := (⟨[2], [], [5], [(.slot 88)]⟩ :: ⟨[3], [], [6], [(.slot 89)]⟩ :: ⟨[5, 6], [], [7], [(.slot 90)]⟩ :: ⟨[7], [], [8], [(.slot 91)]⟩ :: ⟨[8, 0], [], [9], [(.slot 92)]⟩ :: ⟨[8, 3], [], [10], [(.slot 93)]⟩ :: ⟨[8, 9, 10], [], [11], [(.slot 94)]⟩ :: ⟨[8, 11, 9], [], [12], [(.slot 95)]⟩ :: ⟨[8, 12], [], [13], [(.slot 96)]⟩ :: ⟨[8, 13], [], [14], [(.slot 97)]⟩ :: ⟨[14], [], [15], [(.slot 98)]⟩ :: ⟨[15, 0], [], [16], [(.slot 99)]⟩ :: ⟨[15, 3], [], [17], [(.slot 100)]⟩ :: ⟨[15, 16, 17], [], [18], [(.slot 101)]⟩ :: ⟨[15, 18, 16], [], [19], [(.slot 102)]⟩ :: ⟨[15, 0], [], [20], [(.slot 103)]⟩ :: ⟨[15, 2], [], [21], [(.slot 104)]⟩ :: ⟨[15, 20, 21], [], [22], [(.slot 105)]⟩ :: ⟨[15, 22, 20], [], [23], [(.slot 106)]⟩ :: ⟨[15, 19, 23], [], [24], [(.slot 107)]⟩ :: ⟨[15, 24], [], [25], [(.slot 108)]⟩ :: [])) (es' := [(_, _), (_, _), (_, _), (_, _), (108, .v (.bool ((decide (v49 < v51)))))]) (by kernel_rfl) rfl rfl
                        ⟨st_plain rfl (op_move _ _ _ _ rfl rfl),
                          st_plain rfl (op_move _ _ _ _ rfl rfl),
                          st_plain rfl (op_bin _ _ _ _ _ rfl rfl rfl),
                          st_plain rfl (op_move _ _ _ _ (congrArg (fun b => AV.v (Value.bool b)) hg13_3) rfl),
                          st_run 3 91 false rfl rfl rfl (List.Mem.head _) (op_move _ _ _ _ rfl rfl),
                          st_run 3 91 false rfl rfl rfl (List.Mem.head _) (op_move _ _ _ _ rfl rfl),
                          st_run 3 91 false rfl rfl rfl (List.Mem.head _) (op_ix _ _ _ _ _ _ _ _ Try.underlying22 sz3 (by decide) rfl rfl rfl (ix_ok hv46).1 (map_lt (ix_ok hv46).2) rfl),
                          st_run 3 91 false rfl rfl rfl (List.Mem.head _) (op_load_e _ _ _ _ _ _ Try.underlying3 rfl rfl rfl (map_get hv47)),
                          st_run 3 91 false rfl rfl rfl (List.Mem.head _) (op_bin _ _ _ _ _ rfl rfl rfl),
                          st_plain rfl (op_pick _ _ false _ rfl rfl),
                          st_plain rfl (op_move _ _ _ _ (congrArg (fun b => AV.v (Value.bool b)) hg13_10) rfl),
                          st_run 10 98 false rfl rfl rfl (List.Mem.head _) (op_move _ _ _ _ rfl rfl),
                          st_run 10 98 false rfl rfl rfl (List.Mem.head _) (op_move _ _ _ _ rfl rfl),
                          st_run 10 98 false rfl rfl rfl (List.Mem.head _) (op_ix _ _ _ _ _ _ _ _ Try.underlying22 sz3 (by decide) rfl rfl rfl (ix_ok hv48).1 (map_lt (ix_ok hv48).2) rfl),
                          st_run 10 98 false rfl rfl rfl (List.Mem.head _) (op_load_e _ _ _ _ _ _ Try.underlying3 rfl rfl rfl (map_get hv49)),
                          st_run 10 98 false rfl rfl rfl (List.Mem.head _) (op_move _ _ _ _ rfl rfl),
                          st_run 10 98 false rfl rfl rfl (List.Mem.head _) (op_move _ _ _ _ rfl rfl),
                          st_run 10 98 false rfl rfl rfl (List.Mem.head _) (op_ix _ _ _ _ _ _ _ _ Try.underlying22 sz3 (by decide) rfl rfl rfl (ix_ok hv50).1 (map_lt (ix_ok hv50).2) rfl),
                          st_run 10 98 false rfl rfl rfl (List.Mem.head _) (op_load_e _ _ _ _ _ _ Try.underlying3 rfl rfl rfl (map_get hv51)),
                          st_run 10 98 false rfl rfl rfl (List.Mem.head _) (op_bin _ _ _ _ _ rfl rfl rfl),
                          st_plain rfl (op_pick _ _ false _ rfl rfl),
                          trivial⟩ ?_
                      exact hl54 _ (Option.some.inj h).symm
            · intro u42 h hl43 hr44
              obtain ⟨v33, hv33, h⟩ := bind_some h
              obtain ⟨v34, hv34, h⟩ := bind_some h
              refine cond_some h (fun hg11_5 h => ?_) (fun hg11_5 h => ?_)
              · refine ht_anyR (by kernel_rfl) hn (El := (_ :: _ :: _ :: _ :: _ :: (70, .same (.slot 7)) :: (71, .v (.int .i64 v18)) :: (72, .eref (.slot 7) (v33 * 1)) :: (73, .v (.int .i64 v34)) :: (74, .v (.bool ((decide (v34 < 0))))) :: (75, .v (.bool true)) :: (76, .v undef) :: (77, .v undef) :: (78, .v undef) :: (79, .v undef) :: (80, .v undef) :: (81, .v undef) :: (82, .v undef) :: (83, .v undef) :: (84, .v undef) :: (85, .v undef) :: (86, .v undef) :: (87, .v (.bool true)) :: [])) (init := [0, 1, 2, 3, 4]) (fin := [0, 1, 2, 3, 22]) (sps := (⟨[1], [], [5], [(.slot 70)]⟩ :: ⟨[2], [], [6], [(.slot 71)]⟩ :: ⟨[5, 1, 6], [], [7], [(.slot 72)]⟩ :: ⟨[7, 1], [], [8], [(.slot 73)]⟩ :: ⟨[8], [], [9], [(.slot 74)]⟩ :: ⟨[9], [], [10], [(.slot 75)]⟩ :: ⟨[10], [], [11], [(.slot 76)]⟩ :: ⟨[10], [], [12], [(.slot 77)]⟩ :: ⟨[10], [], [13], [(.slot 78)]⟩ :: ⟨[10], [], [14], [(.slot 79)]⟩ :: ⟨[10], [], [15], [(.slot 80)]⟩ :: ⟨[10], [], [16], [(.slot 81)]⟩ :: ⟨[10], [], [17], [(.slot 82)]⟩ :: ⟨[10], [], [18], [(.slot 83)]⟩ :: ⟨[10], [], [19], [(.slot 84)]⟩ :: ⟨[10], [], [20], [(.slot 85)]⟩ :: ⟨[10], [], [21], [(.slot 86)]⟩ :: ⟨[10], [], [22], [(.slot 87)]⟩ :: [])) (es' := [(_, _), (_, _), (_, _), (_, _), (87, .v (.bool true))]) (by kernel_rfl) rfl rfl
                  ⟨st_plain rfl (op_move _ _ _ _ rfl rfl),
                    st_plain rfl (op_move _ _ _ _ rfl rfl),
                    st_plain rfl (op_ix _ _ _ _ _ _ _ _ Try.underlying22 sz3 (by decide) rfl rfl rfl (ix_ok hv33).1 (map_lt (ix_ok hv33).2) rfl),
                    st_plain rfl (op_load_e _ _ _ _ _ _ Try.underlying3 rfl rfl rfl (map_get hv34)),
                    st_plain rfl (op_bin _ _ _ _ _ rfl rfl rfl),
                    st_plain rfl (op_move _ _ _ _ (congrArg (fun b => AV.v (Value.bool b)) hg11_5) rfl),
                    st_skip 5 75 _ false rfl rfl rfl rfl (List.Mem.head _),
                    st_skip 5 75 _ false rfl rfl rfl rfl (List.Mem.head _),
                    st_skip 5 75 _ false rfl rfl rfl rfl (List.Mem.head _),
                    st_skip 5 75 _ false rfl rfl rfl rfl (List.Mem.head _),
                    st_skip 5 75 _ false rfl rfl rfl rfl (List.Mem.head _),
                    st_skip 5 75 _ false rfl rfl rfl rfl (List.Mem.head _),
                    st_skip 5 75 _ false rfl rfl rfl rfl (List.Mem.head _),
                    st_skip 5 75 _ false rfl rfl rfl rfl (List.Mem.head _),
                    st_skip 5 75 _ false rfl rfl rfl rfl (List.Mem.head _),
                    st_skip 5 75 _ false rfl rfl rfl rfl (List.Mem.head _),
                    st_skip 5 75 _ false rfl rfl rfl rfl (List.Mem.head _),
                    st_plain rfl (op_pick _ _ true _ rfl rfl),
                    trivial⟩ ?_
                exact hl43 _ (Option.some.inj h).symm
              · obtain ⟨v35, hv35, h⟩ := bind_some h
                obtain ⟨v36, hv36, h⟩ := bind_some h
                obtain ⟨v37, hv37, h⟩ := bind_some h
                obtain ⟨v38, hv38, h⟩ := bind_some h
                obtain ⟨v39, hv39, h⟩ := bind_some h
                obtain ⟨v40, hv40, h⟩ := bind_some h
                refine ht_anyR (by kernel_rfl) hn (El := (_ :: _ :: _ :: _ :: _ :: (70, .same (.slot 7)) :: (71, .v (.int .i64 v18)) :: (72, .eref (.slot 7) (v33 * 1)) :: (73, .v (.int .i64 v34)) :: (74, .v (.bool ((decide (v34 < 0))))) :: (75, .v (.bool false)) :: (76, .same (.slot 7)) :: (77, .v (.int .i64 v18)) :: (78, .eref (.slot 7) (v35 * 1)) :: (79, .v (.int .i64 v36)) :: (80, .fl .shr 1 (List.map (Value.int .i64) l)) :: (81, .v (.int .i64 v18)) :: (82, .eref (.slot 80) (v37 * 1)) :: (83, .v (.int .i64 v38)) :: (84, .v (.int .u64 v39)) :: (85, .v (.int .i64 v40)) :: (86, .v (.bool ((decide (v40 ≤ v36))))) :: (87, .v (.bool ((decide (v40 ≤ v36))))) :: [])) (init := [0, 1, 2, 3, 4]) (fin := [0, 1, 2, 3, 22]) (sps := (⟨[1], [], [5], [(.slot 70)]⟩ :: ⟨[2], [], [6], [(.slot 71)]⟩ :: ⟨[5, 1, 6], [], [7], [(.slot 72)]⟩ :: ⟨[7, 1], [], [8], [(.slot 73)]⟩ :: ⟨[8], [], [9], [(.slot 74)]⟩ :: ⟨[9], [], [10], [(.slot 75)]⟩ :: ⟨[10, 1], [], [11], [(.slot 76)]⟩ :: ⟨[10, 2], [], [12], [(.slot 77)]⟩ :: ⟨[10, 11, 1, 12], [], [13], [(.slot 78)]⟩ :: ⟨[10, 13, 1], [], [14], [(.slot 79)]⟩ :: ⟨[10, 0], [], [15], [(.slot 80)]⟩ :: ⟨[10, 2], [], [16], [(.slot 81)]⟩ :: ⟨[10, 15, 16], [], [17], [(.slot 82)]⟩ :: ⟨[10, 17, 15], [], [18], [(.slot 83)]⟩ :: ⟨[10, 18], [], [19], [(.slot 84)]⟩ :: ⟨[10, 19], [], [20], [(.slot 85)]⟩ :: ⟨[10, 14, 20], [], [21], [(.slot 86)]⟩ :: ⟨[10, 21], [], [22], [(.slot 87)]⟩ :: [])) (es' := [(_, _), (_, _), (_, _), (_, _), (87, .v (.bool ((decide (v40 ≤ v36)))))]) (by kernel_rfl) rfl rfl
                  ⟨st_plain rfl (op_move _ _ _ _ rfl rfl),
                    st_plain rfl (op_move _ _ _ _ rfl rfl),
                    st_plain rfl (op_ix _ _ _ _ _ _ _ _ Try.underlying22 sz3 (by decide) rfl rfl rfl (ix_ok hv33).1 (map_lt (ix_ok hv33).2) rfl),
                    st_plain rfl (op_load_e _ _ _ _ _ _ Try.underlying3 rfl rfl rfl (map_get hv34)),
                    st_plain rfl (op_bin _ _ _ _ _ rfl rfl rfl),
                    st_plain rfl (op_move _ _ _ _ (congrArg (fun b => AV.v (Value.bool b)) hg11_5) rfl),
                    st_run 5 75 false rfl rfl rfl (List.Mem.head _) (op_move _ _ _ _ rfl rfl),
                    st_run 5 75 false rfl rfl rfl (List.Mem.head _) (op_move _ _ _ _ rfl rfl),
                    st_run 5 75 false rfl rfl rfl (List.Mem.head _) (op_ix _ _ _ _ _ _ _ _ Try.underlying22 sz3 (by decide) rfl rfl rfl (ix_ok hv35).1 (map_lt (ix_ok hv35).2) rfl),
                    st_run 5 75 false rfl rfl rfl (List.Mem.head _) (op_load_e _ _ _ _ _ _ Try.underlying3 rfl rfl rfl (map_get hv36)),
                    st_run 5 75 false rfl rfl rfl (List.Mem.head _) (op_move _ _ _ _ rfl rfl),
                    st_run 5 75 false rfl rfl rfl (List.Mem.head _) (op_move _ _ _ _ rfl rfl),
                    st_run 5 75 false rfl rfl rfl (List.Mem.head _) (op_ix _ _ _ _ _ _ _ _ Try.underlying22 sz3 (by decide) rfl rfl rfl (ix_ok hv37).1 (map_lt (ix_ok hv37).2) rfl),
                    st_run 5 75 false rfl rfl rfl (List.Mem.head _) (op_load_e _ _ _ _ _ _ Try.underlying3 rfl rfl rfl (map_get hv38)),
                    st_run 5 75 false rfl rfl rfl (List.Mem.head _) ((Option.some.inj hv39) ▸ op_conv _ _ _ Try.underlying3 Try.underlying37 rfl),
                    st_run 5 75 false rfl rfl rfl (List.Mem.head _) (op_bin _ _ _ _ _ rfl rfl (shl_ok hv40)),
                    st_run 5 75 false rfl rfl rfl (List.Mem.head _) (op_bin _ _ _ _ _ rfl rfl rfl),
                    st_plain rfl (op_pick _ _ false _ rfl rfl),
                    trivial⟩ ?_
                exact hl43 _ (Option.some.inj h).symm
  · intro u2 h hl3 hr4
    refine cond_some h (fun hg1_3 h => ?_) (fun hg1_3 h => ?_)
    · refine ht_seqR hn (El := [_, _, _, (9, .fl .shr 1 (List.map (Value.int .i64) l)), (10, .v (.int .i64 (l.length : Int))), (11, .v (.bool ((decide (300 < (l.length : Int)))))), (12, .v (.bool true)), (13, .v undef), (14, .v undef), (15, .v undef), (16, .v (.bool true))]) (init := [0, 1, 2]) (fin := [0, 1, 2, 10]) (sps := [⟨[0], [], [3], [(.slot 9)]⟩, ⟨[3], [], [4], [(.slot 10)]⟩, ⟨[4], [], [5], [(.slot 11)]⟩, ⟨[5], [], [6], [(.slot 12)]⟩, ⟨[6], [], [7], [(.slot 13)]⟩, ⟨[6], [], [8], [(.slot 14)]⟩, ⟨[6], [], [9], [(.slot 15)]⟩, ⟨[6], [], [10], [(.slot 16)]⟩]) (es' := [(_, _), (_, _), (_, _), (16, .v (.bool true))]) (by kernel_rfl) rfl rfl
        ⟨st_plain rfl (op_move _ _ _ _ rfl rfl),
          st_plain rfl (op_len_fl _ _ _ Try.underlying22 rfl (by decide) (map_len _)),
          st_plain rfl (op_bin _ _ _ _ _ rfl rfl rfl),
          st_plain rfl (op_move _ _ _ _ (congrArg (fun b => AV.v (Value.bool b)) hg1_3) rfl),
          st_skip 3 12 _ false rfl rfl rfl rfl (List.Mem.head _),
          st_skip 3 12 _ false rfl rfl rfl rfl (List.Mem.head _),
          st_skip 3 12 _ false rfl rfl rfl rfl (List.Mem.head _),
          st_plain rfl (op_pick _ _ true _ rfl rfl),
          trivial⟩ ?_
      exact hl3 _ (Option.some.inj h).symm
    · refine ht_seqR hn (El := [_, _, _, (9, .fl .shr 1 (List.map (Value.int .i64) l)), (10, .v (.int .i64 (l.length : Int))), (11, .v (.bool ((decide (300 < (l.length : Int)))))), (12, .v (.bool false)), (13, .fl .shr 1 (List.map (Value.int .i64) l)), (14, .v (.int .i64 (l.length : Int))), (15, .v (.bool (((l.length : Int) == 0)))), (16, .v (.bool (((l.length : Int) == 0))))]) (init := [0, 1, 2]) (fin := [0, 1, 2, 10]) (sps := [⟨[0], [], [3], [(.slot 9)]⟩, ⟨[3], [], [4], [(.slot 10)]⟩, ⟨[4], [], [5], [(.slot 11)]⟩, ⟨[5], [], [6], [(.slot 12)]⟩, ⟨[6, 0], [], [7], [(.slot 13)]⟩, ⟨[6, 7], [], [8], [(.slot 14)]⟩, ⟨[6, 8], [], [9], [(.slot 15)]⟩, ⟨[6, 9], [], [10], [(.slot 16)]⟩]) (es' := [(_, _), (_, _), (_, _), (16, .v (.bool (((l.length : Int) == 0))))]) (by kernel_rfl) rfl rfl
        ⟨st_plain rfl (op_move _ _ _ _ rfl rfl),
          st_plain rfl (op_len_fl _ _ _ Try.underlying22 rfl (by decide) (map_len _)),
          st_plain rfl (op_bin _ _ _ _ _ rfl rfl rfl),
          st_plain rfl (op_move _ _ _ _ (congrArg (fun b => AV.v (Value.bool b)) hg1_3) rfl),
          st_run 3 12 false rfl rfl rfl (List.Mem.head _) (op_move _ _ _ _ rfl rfl),
          st_run 3 12 false rfl rfl rfl (List.Mem.head _) (op_len_fl _ _ _ Try.underlying22 rfl (by decide) (map_len _)),
          st_run 3 12 false rfl rfl rfl (List.Mem.head _) (op_bin _ _ _ _ _ rfl rfl rfl),
          st_plain rfl (op_pick _ _ false _ rfl rfl),
          trivial⟩ ?_
      exact hl3 _ (Option.some.inj h).symm

set_option maxHeartbeats 1000000 in
theorem ok_wherrykeep_TwinInts (l : (List Int)) (r : (List Int)) (h : Sh.wherrykeep_TwinInts l = some r) : FnOK Try.prog 9 [.fl .shr 1 (List.map (Value.int .i64) l)] (.fl (.own 3) 1 (List.map (Value.int .i64) r)) := by
  unfold Sh.wherrykeep_TwinInts at h
  refine fn_ok Try.func9 rfl (Nat.le_of_ble_eq_true rfl) rfl rfl fun g0 hn hio => ?_
  refine ht_seq ?_
  refine ht_seqR hn (El := [_, (2, .v (.slice none 0 0))]) (init := [0]) (fin := [0]) (sps := [⟨[], [], [1], [(.slot 2)]⟩]) (es' := [(_, _)]) (by kernel_rfl) rfl rfl
    ⟨st_plain rfl (op_assign _ _ _ _ rfl rfl),
      trivial⟩ ?_
  refine pt_then ?_
  refine ht_seq ?_
  refine ht_seqR hn (El := [_, (3, .v (.slice none 0 0))]) (init := [0]) (fin := [0, 1]) (sps := [⟨[], [], [1], [(.slot 3)]⟩]) (es' := [(_, _), (3, .v (.slice none 0 0))]) (by kernel_rfl) rfl rfl
    ⟨st_plain rfl (op_assign _ _ _ _ rfl rfl),
      trivial⟩ ?_
  refine pt_then ?_
  refine ht_seq ?_
  obtain ⟨v1, hv1, h⟩ := bind_some h
  refine ht_seqR hn (El := [_, _, (4, .v (.slice none 0 0)), (5, .fl .shr 1 (List.map (Value.int .i64) l)), (6, .fl (.own 3) 1 (List.map (Value.int .i64) v1)), (2, .fl (.own 3) 1 (List.map (Value.int .i64) v1))]) (init := [0, 1]) (fin := [5]) (sps := [⟨[1], [], [2], [(.slot 4)]⟩, ⟨[0], [], [3], [(.slot 5)]⟩, ⟨[2, 3], [], [4], [(.slot 6)]⟩, ⟨[], [4], [5], [(.slot 2)]⟩]) (es' := [(2, .fl (.own 3) 1 (List.map (Value.int .i64) v1))]) (by kernel_rfl) rfl rfl
    ⟨st_plain rfl (op_move _ _ _ _ rfl rfl),
      st_plain rfl (op_move _ _ _ _ rfl rfl),
      st_plain rfl (op_app_nil _ _ _ _ el22 rfl rfl (map_len _) hv1 (congrArg (List.map _) (app_nil_eq hv1))),
      st_plain rfl (op_assign_take _ _ _ _ rfl),
      trivial⟩ ?_
  refine pt_then ?_
  refine ht_ret ?_
  obtain rfl := Option.some.inj h
  exact pt_ret hio rfl (.tmp _ _ .nil) rfl rfl

set_option maxHeartbeats 1000000 in
theorem ok_wherrylaw02_CanonWhole (l : (List Int)) (b : (List Int)) (more : Int) (r : Bool) (h : Sh.wherrylaw02_CanonWhole l b more = some r) : FnOK Try.prog 6 [.fl .shr 1 (List.map (Value.int .i64) l), .fl .shr 1 (List.map (Value.int .u8) b), .v (.int .i64 more)] (.v (.bool r)) := by
  unfold Sh.wherrylaw02_CanonWhole at h
  refine fn_ok Try.func6 rfl (Nat.le_of_ble_eq_true rfl) rfl rfl fun g0 hn hio => ?_
  refine ht_seq ?_
  refine ht_seqR hn (El := [_, _, _, (6, .v (.bool false))]) (init := [0, 1, 2]) (fin := [0, 1, 2]) (sps := [⟨[], [], [3], [(.slot 6)]⟩]) (es' := [(_, _), (_, _), (_, _)]) (by kernel_rfl) rfl rfl
    ⟨st_plain rfl (op_assign _ _ _ _ rfl rfl),
      trivial⟩ ?_
  refine pt_then ?_
  refine ht_seq ?_
  refine ht_seq ?_
  refine ht_joinS h (fun (s1 : Bool) => [(0, .fl .shr 1 (List.map (Value.int .i64) l)), (1, .fl .shr 1 (List.map (Value.int .u8) b)), (2, .v (.int .i64 more)), (19, .v (.bool s1))]) ?_ ?_
  · rintro s1 h
    refine pt_then ?_
    refine ht_cond _ rfl (fun hb5 => ?_) (fun hb5 => ?_)
    · have h := cond_t hb5 h
      refine ht_seq ?_
      refine ht_seqR hn (El := [_, _, _, _, (6, .v (.bool true))]) (init := [0, 1, 2, 3]) (fin := [4]) (sps := [⟨[], [], [4], [(.slot 6)]⟩]) (es' := [(6, .v (.bool true))]) (by kernel_rfl) rfl rfl
        ⟨st_plain rfl (op_assign _ _ _ _ rfl rfl),
          trivial⟩ ?_
      refine pt_then ?_
      refine ht_ret ?_
      refine pt_r_then ?_
      obtain rfl := Option.some.inj h
      exact pt_ret hio rfl (.tmp _ _ .nil) rfl rfl
    · have h := cond_f hb5 h
      refine ht_skip ?_
      refine pt_then ?_
      refine ht_seq ?_
      refine ht_seq ?_
      obtain ⟨v6, hv6, h⟩ := bind_some h
      refine ht_seqR hn (El := [_, _, _, _, (20, .fl .shr 1 (List.map (Value.int .i64) l)), (21, .v (.int .i64 v6)), (22, .v (.bool (v6 != 0)))]) (init := [0, 1, 2, 3]) (fin := [0, 1, 2, 6]) (sps := [⟨[0], [], [4], [(.slot 20)]⟩, ⟨[4], [], [5], [(.slot 21)]⟩, ⟨[5], [], [6], [(.slot 22)]⟩]) (es' := [(_, _), (_, _), (_, _), (22, .v (.bool (v6 != 0)))]) (by kernel_rfl) rfl rfl
        ⟨st_plain rfl (op_move _ _ _ _ rfl rfl),
          st_plain rfl (op_call _ _ 15 _ _ rfl Try.call15 rfl (ok_canon_Check l _ hv6) rfl rfl),
          st_plain rfl (op_bin _ _ _ _ _ rfl rfl rfl),
          trivial⟩ ?_
      refine pt_then ?_
      refine ht_cond _ rfl (fun hb7 => ?_) (fun hb7 => ?_)
      · have h := cond_t hb7 h
        refine ht_seq ?_
        obtain ⟨v8, hv8, h⟩ := bind_some h
        refine ht_seqR hn (El := [_, _, _, _, (23, .v (.bool v8)), (6, .v (.bool v8))]) (init := [0, 1, 2, 3]) (fin := [5]) (sps := [⟨[], [], [4], [(.slot 23)]⟩, ⟨[4], [], [5], [(.slot 6)]⟩]) (es' := [(6, .v (.bool v8))]) (by kernel_rfl) rfl rfl
          ⟨st_plain rfl (op_call _ _ 21 _ _ rfl Try.call21 rfl (ok_wherrylaw02_wakes  _ hv8) rfl rfl),
            st_plain rfl (op_assign _ _ _ _ rfl rfl),
            trivial⟩ ?_
        refine pt_then ?_
        refine ht_ret ?_
        refine pt_r_then ?_
        obtain rfl := Option.some.inj h
        exact pt_ret hio rfl (.tmp _ _ .nil) rfl rfl
      · have h := cond_f hb7 h
        refine ht_skip ?_
        refine pt_then ?_
        refine ht_seq ?_
        refine ht_seq ?_
        obtain ⟨v9, hv9, h⟩ := bind_some h
        refine ht_seqR hn (El := [_, _, _, _, (24, .fl .shr 1 (List.map (Value.int .i64) l)), (25, .v (.int .i64 v9)), (26, .v (.bool (v9 != 32768)))]) (init := [0, 1, 2, 3]) (fin := [0, 1, 2, 6]) (sps := [⟨[0], [], [4], [(.slot 24)]⟩, ⟨[4], [], [5], [(.slot 25)]⟩, ⟨[5], [], [6], [(.slot 26)]⟩]) (es' := [(_, _), (_, _), (_, _), (26, .v (.bool (v9 != 32768)))]) (by kernel_rfl) rfl rfl
          ⟨st_plain rfl (op_move _ _ _ _ rfl rfl),
            st_plain rfl (op_call _ _ 17 _ _ rfl Try.call17 rfl (ok_canon_Weigh l _ hv9) rfl rfl),
            st_plain rfl (op_bin _ _ _ _ _ rfl rfl rfl),
            trivial⟩ ?_
        refine pt_then ?_
        refine ht_cond _ rfl (fun hb10 => ?_) (fun hb10 => ?_)
        · have h := cond_t hb10 h
          refine ht_seq ?_
          obtain ⟨v11, hv11, h⟩ := bind_some h
          obtain ⟨v12, hv12, h⟩ := bind_some h
          obtain ⟨v13, hv13, h⟩ := bind_some h
          refine ht_seqR hn (El := (_ :: _ :: _ :: _ :: (28, .fl .shr 1 (List.map (Value.int .i64) l)) :: (29, .fl (.own 3) 1 (List.map (Value.int .i64) v11)) :: (30, .fl (.own 3) 1 (List.map (Value.int .i64) [0])) :: (31, .fl (.own 3) 1 (List.map (Value.int .i64) v12)) :: (29, .any) :: (32, .tup [.fl (.own 3) 1 (List.map (Value.int .i64) v13.1), .v (.int .i64 v13.2)]) :: (27, .tup [.fl (.own 3) 1 (List.map (Value.int .i64) v13.1), .v (.int .i64 v13.2)]) :: (33, .fl (.own 3) 1 (List.map (Value.int .i64) v13.1)) :: (27, .tup [.any, .v (.int .i64 v13.2)]) :: (34, .v (.int .i64 v13.2)) :: (7, .fl (.own 3) 1 (List.map (Value.int .i64) v13.1)) :: (8, .v (.int .i64 v13.2)) :: [])) (init := [0, 1, 2, 3]) (fin := [15]) (sps := [⟨[0], [], [4], [(.slot 28)]⟩, ⟨[4], [], [5], [(.slot 29)]⟩, ⟨[], [], [6], [(.slot 30)]⟩, ⟨[6], [5], [8, 7], [(.slot 31)]⟩, ⟨[7], [], [9], [(.slot 32)]⟩, ⟨[], [9], [10], [(.slot 27)]⟩, ⟨[], [10], [12, 11], [(.slot 33)]⟩, ⟨[12], [], [13], [(.slot 34)]⟩, ⟨[], [11], [14], [(.slot 7)]⟩, ⟨[13], [], [15], [(.slot 8)]⟩]) (es' := [(8, .v (.int .i64 v13.2))]) (by kernel_rfl) rfl rfl
            ⟨st_plain rfl (op_move _ _ _ _ rfl rfl),
              st_plain rfl (op_call _ _ 9 _ _ rfl Try.call9 rfl (ok_wherrykeep_TwinInts l _ hv11) rfl rfl),
              st_plain rfl (op_buildSlice _ _ 1 (.int .i64 0) (List.map (Value.int .i64) [0]) [(0, .int .i64 0)] Try.underlying22 sz3 zr3 (fun _ V w o a hv hes => by simp only [List.map_toArray, List.map_cons, List.map_nil]; try rfl) (litfill (by simp [Instr.fill, Value.cells]; rfl) (by simp [List.range, List.range.loop])) (by simp [Value.oneCell']) rfl (by decide) (by decide) (by decide)),
              st_plain rfl (op_app _ _ _ _ _ el22 rfl rfl (map_len _) (map_len _) hv12 ((List.map_append).symm.trans (congrArg (List.map _) (app_eq hv12)))),
              st_plain rfl (op_call _ _ 11 _ _ rfl Try.call11 rfl (ok_canon_Codes v12 _ hv13) rfl rfl),
              st_plain rfl (op_move_take _ _ _ _ rfl),
              st_plain rfl (op_extract_take _ _ _ _ _ rfl (Nat.le_of_ble_eq_true rfl) rfl rfl (by decide) rfl),
              st_plain rfl (op_extract _ _ _ _ _ rfl rfl (Nat.le_of_ble_eq_true rfl) rfl rfl),
              st_plain rfl (op_assign_take _ _ _ _ rfl),
              st_plain rfl (op_assign _ _ _ _ rfl rfl),
              trivial⟩ ?_
          refine pt_then ?_
          refine ht_seq ?_
          refine ht_joinS h (fun (s15 : Bool) => [(6, .v (.bool s15))]) ?_ ?_
          · rintro s15 h
            refine pt_then ?_
            refine ht_ret ?_
            refine pt_r_then ?_
            obtain rfl := Option.some.inj h
            exact pt_ret hio rfl (.tmp _ _ .nil) rfl rfl
          · intro u16 h hl17 hr18
            refine cond_some h (fun hg7_2 h => ?_) (fun hg7_2 h => ?_)
            · obtain ⟨v14, hv14, h⟩ := bind_some h
              refine ht_seqR hn (El := [_, (35, .v (.int .i64 v13.2)), (36, .v (.bool (v13.2 == 0))), (37, .v (.bool true)), (38, .v (.bool v14)), (39, .v (.bool v14)), (6, .v (.bool v14))]) (init := [0]) (fin := [6]) (sps := [⟨[0], [], [1], [(.slot 35)]⟩, ⟨[1], [], [2], [(.slot 36)]⟩, ⟨[2], [], [3], [(.slot 37)]⟩, ⟨[3], [], [4], [(.slot 38)]⟩, ⟨[3, 4], [], [5], [(.slot 39)]⟩, ⟨[5], [], [6], [(.slot 6)]⟩]) (es' := [(6, .v (.bool v14))]) (by kernel_rfl) rfl rfl
                ⟨st_plain rfl (op_move _ _ _ _ rfl rfl),
                  st_plain rfl (op_bin _ _ _ _ _ rfl rfl rfl),
                  st_plain rfl (op_move _ _ _ _ (congrArg (fun b => AV.v (Value.bool b)) hg7_2) rfl),
                  st_run 2 37 true rfl rfl rfl (List.Mem.head _) (op_call _ _ 21 _ _ rfl Try.call21 rfl (ok_wherrylaw02_wakes  _ hv14) rfl rfl),
                  st_plain rfl (op_pick _ _ true _ rfl rfl),
                  st_plain rfl (op_assign _ _ _ _ rfl rfl),
                  trivial⟩ ?_
              exact hl17 _ (Option.some.inj h).symm
            · refine ht_seqR hn (El := [_, (35, .v (.int .i64 v13.2)), (36, .v (.bool (v13.2 == 0))), (37, .v (.bool false)), (38, .v undef), (39, .v (.bool false)), (6, .v (.bool false))]) (init := [0]) (fin := [6]) (sps := [⟨[0], [], [1], [(.slot 35)]⟩, ⟨[1], [], [2], [(.slot 36)]⟩, ⟨[2], [], [3], [(.slot 37)]⟩, ⟨[3], [], [4], [(.slot 38)]⟩, ⟨[3], [], [5], [(.slot 39)]⟩, ⟨[5], [], [6], [(.slot 6)]⟩]) (es' := [(6, .v (.bool false))]) (by kernel_rfl) rfl rfl
                ⟨st_plain rfl (op_move _ _ _ _ rfl rfl),
                  st_plain rfl (op_bin _ _ _ _ _ rfl rfl rfl),
                  st_plain rfl (op_move _ _ _ _ (congrArg (fun b => AV.v (Value.bool b)) hg7_2) rfl),
                  st_skip 2 37 _ true rfl rfl rfl rfl (List.Mem.head _),
                  st_plain rfl (op_pick _ _ false _ rfl rfl),
                  st_plain rfl (op_assign _ _ _ _ rfl rfl),
                  trivial⟩ ?_
              exact hl17 _ (Option.some.inj h).symm
        · have h := cond_f hb10 h
          refine ht_skip ?_
          refine pt_then ?_
          refine ht_seq ?_
          refine ht_joinS h (fun (() : Unit) => [(0, .fl .shr 1 (List.map (Value.int .i64) l)), (2, .v (.int .i64 more))]) ?_ ?_
          · rintro ⟨⟩ h
            refine pt_then ?_
            refine ht_seq ?_
            refine ht_joinS h (fun (s38 : Bool) => [(6, .v (.bool s38))]) ?_ ?_
            · rintro s38 h
              refine pt_then ?_
              refine ht_ret ?_
              obtain rfl := Option.some.inj h
              exact pt_ret hio rfl (.tmp _ _ .nil) rfl rfl
            · intro u39 h hl40 hr41
              obtain ⟨v27, hv27, h⟩ := bind_some h
              obtain ⟨v28, hv28, h⟩ := bind_some h
              obtain ⟨v29, hv29, h⟩ := bind_some h
              obtain ⟨v30, hv30, h⟩ := bind_some h
              obtain ⟨v31, hv31, h⟩ := bind_some h
              obtain ⟨v32, hv32, h⟩ := bind_some h
              obtain ⟨v33, hv33, h⟩ := bind_some h
              refine cond_some h (fun hg12_11 h => ?_) (fun hg12_11 h => ?_)
              · obtain ⟨v34, hv34, h⟩ := bind_some h
                obtain ⟨v35, hv35, h⟩ := bind_some h
                obtain ⟨v36, hv36, h⟩ := bind_some h
                refine cond_some h (fun hg12_19 h => ?_) (fun hg12_19 h => ?_)
                · obtain ⟨v37, hv37, h⟩ := bind_some h
                  refine ht_seqR hn (El := (_ :: _ :: (52, .fl .shr 1 (List.map (Value.int .i64) l)) :: (53, .fl (.own 3) 1 (List.map (Value.int .i64) v27)) :: (54, .v (.int .i64 more)) :: (55, .v (.int .u64 v28)) :: (56, .v (.int .u64 v29)) :: (57, .v (.int .i64 v30)) :: (58, .v (.int .i64 v31)) :: (59, .fl (.own 3) 1 (List.map (Value.int .i64) [v31])) :: (60, .fl (.own 3) 1 (List.map (Value.int .i64) v32)) :: (53, .any) :: (61, .v (.int .i64 v33)) :: (62, .v (.bool (v33 == 4))) :: (63, .v (.bool true)) :: (64, .fl .shr 1 (List.map (Value.int .i64) l)) :: (65, .fl (.own 3) 1 (List.map (Value.int .i64) v34)) :: (66, .fl (.own 3) 1 (List.map (Value.int .i64) [16])) :: (67, .fl (.own 3) 1 (List.map (Value.int .i64) v35)) :: (65, .any) :: (68, .v (.int .i64 v36)) :: (69, .v (.bool (v36 == 1))) :: (70, .v (.bool (v36 == 1))) :: (71, .v (.bool true)) :: (72, .v (.bool v37)) :: (73, .v (.bool v37)) :: (6, .v (.bool v37)) :: [])) (init := [0, 1]) (fin := [26]) (sps := (⟨[0], [], [2], [(.slot 52)]⟩ :: ⟨[2], [], [3], [(.slot 53)]⟩ :: ⟨[1], [], [4], [(.slot 54)]⟩ :: ⟨[4], [], [5], [(.slot 55)]⟩ :: ⟨[5], [], [6], [(.slot 56)]⟩ :: ⟨[6], [], [7], [(.slot 57)]⟩ :: ⟨[7], [], [8], [(.slot 58)]⟩ :: ⟨[8], [], [9], [(.slot 59)]⟩ :: ⟨[9], [3], [11, 10], [(.slot 60)]⟩ :: ⟨[10], [], [12], [(.slot 61)]⟩ :: ⟨[12], [], [13], [(.slot 62)]⟩ :: ⟨[13], [], [14], [(.slot 63)]⟩ :: ⟨[14, 0], [], [15], [(.slot 64)]⟩ :: ⟨[14, 15], [], [16], [(.slot 65)]⟩ :: ⟨[14], [], [17], [(.slot 66)]⟩ :: ⟨[14, 17], [16], [19, 18], [(.slot 67)]⟩ :: ⟨[14, 18], [], [20], [(.slot 68)]⟩ :: ⟨[14, 20], [], [21], [(.slot 69)]⟩ :: ⟨[14, 21], [], [22], [(.slot 70)]⟩ :: ⟨[22], [], [23], [(.slot 71)]⟩ :: ⟨[23], [], [24], [(.slot 72)]⟩ :: ⟨[23, 24], [], [25], [(.slot 73)]⟩ :: ⟨[25], [], [26], [(.slot 6)]⟩ :: [])) (es' := [(6, .v (.bool v37))]) (by kernel_rfl) rfl rfl
                    ⟨st_plain rfl (op_move _ _ _ _ rfl rfl),
                      st_plain rfl (op_call _ _ 9 _ _ rfl Try.call9 rfl (ok_wherrykeep_TwinInts l _ hv27) rfl rfl),
                      st_plain rfl (op_move _ _ _ _ rfl rfl),
                      st_plain rfl ((Option.some.inj hv28) ▸ op_conv _ _ _ Try.underlying3 Try.underlying37 rfl),
                      st_plain rfl (op_bin _ _ _ _ _ rfl rfl (rem_ok hv29)),
                      st_plain rfl ((Option.some.inj hv30) ▸ op_conv _ _ _ Try.underlying37 Try.underlying3 rfl),
                      st_plain rfl (op_bin _ _ _ _ _ rfl rfl (ibind (f := Value.int .i64) (Option.some.inj hv31))),
                      st_plain rfl (op_buildSlice _ _ 1 (.int .i64 0) (List.map (Value.int .i64) [v31]) [(0, .int .i64 v31)] Try.underlying22 sz3 zr3 (fun _ V w o a hv hes => by have e0 := rd_v hv hes (x := .tmp 58) rfl; simp only [List.map_toArray, List.map_cons, List.map_nil, e0]; try rfl) (litfill (by simp [Instr.fill, Value.cells]; rfl) (by simp [List.range, List.range.loop])) (by simp [Value.oneCell']) rfl (by decide) (by decide) (by decide)),
                      st_plain rfl (op_app _ _ _ _ _ el22 rfl rfl (map_len _) (map_len _) hv32 ((List.map_append).symm.trans (congrArg (List.map _) (app_eq hv32)))),
                      st_plain rfl (op_call _ _ 15 _ _ rfl Try.call15 rfl (ok_canon_Check v32 _ hv33) rfl rfl),
                      st_plain rfl (op_bin _ _ _ _ _ rfl rfl rfl),
                      st_plain rfl (op_move _ _ _ _ (congrArg (fun b => AV.v (Value.bool b)) hg12_11) rfl),
                      st_run 11 63 true rfl rfl rfl (List.Mem.head _) (op_move _ _ _ _ rfl rfl),
                      st_run 11 63 true rfl rfl rfl (List.Mem.head _) (op_call _ _ 9 _ _ rfl Try.call9 rfl (ok_wherrykeep_TwinInts l _ hv34) rfl rfl),
                      st_run 11 63 true rfl rfl rfl (List.Mem.head _) (op_buildSlice _ _ 1 (.int .i64 0) (List.map (Value.int .i64) [16]) [(0, .int .i64 16)] Try.underlying22 sz3 zr3 (fun _ V w o a hv hes => by simp only [List.map_toArray, List.map_cons, List.map_nil]; try rfl) (litfill (by simp [Instr.fill, Value.cells]; rfl) (by simp [List.range, List.range.loop])) (by simp [Value.oneCell']) rfl (by decide) (by decide) (by decide)),
                      st_run 11 63 true rfl rfl rfl (List.Mem.head _) (op_app _ _ _ _ _ el22 rfl rfl (map_len _) (map_len _) hv35 ((List.map_append).symm.trans (congrArg (List.map _) (app_eq hv35)))),
                      st_run 11 63 true rfl rfl rfl (List.Mem.head _) (op_call _ _ 15 _ _ rfl Try.call15 rfl (ok_canon_Check v35 _ hv36) rfl rfl),
                      st_run 11 63 true rfl rfl rfl (List.Mem.head _) (op_bin _ _ _ _ _ rfl rfl rfl),
                      st_plain rfl (op_pick _ _ true _ rfl rfl),
                      st_plain rfl (op_move _ _ _ _ (congrArg (fun b => AV.v (Value.bool b)) hg12_19) rfl),
                      st_run 19 71 true rfl rfl rfl (List.Mem.head _) (op_call _ _ 21 _ _ rfl Try.call21 rfl (ok_wherrylaw02_wakes  _ hv37) rfl rfl),
                      st_plain rfl (op_pick _ _ true _ rfl rfl),
                      st_plain rfl (op_assign _ _ _ _ rfl rfl),
                      trivial⟩ ?_
                  exact hl40 _ (Option.some.inj h).symm
                · refine ht_seqR hn (El := (_ :: _ :: (52, .fl .shr 1 (List.map (Value.int .i64) l)) :: (53, .fl (.own 3) 1 (List.map (Value.int .i64) v27)) :: (54, .v (.int .i64 more)) :: (55, .v (.int .u64 v28)) :: (56, .v (.int .u64 v29)) :: (57, .v (.int .i64 v30)) :: (58, .v (.int .i64 v31)) :: (59, .fl (.own 3) 1 (List.map (Value.int .i64) [v31])) :: (60, .fl (.own 3) 1 (List.map (Value.int .i64) v32)) :: (53, .any) :: (61, .v (.int .i64 v33)) :: (62, .v (.bool (v33 == 4))) :: (63, .v (.bool true)) :: (64, .fl .shr 1 (List.map (Value.int .i64) l)) :: (65, .fl (.own 3) 1 (List.map (Value.int .i64) v34)) :: (66, .fl (.own 3) 1 (List.map (Value.int .i64) [16])) :: (67, .fl (.own 3) 1 (List.map (Value.int .i64) v35)) :: (65, .any) :: (68, .v (.int .i64 v36)) :: (69, .v (.bool (v36 == 1))) :: (70, .v (.bool (v36 == 1))) :: (71, .v (.bool false)) :: (72, .v undef) :: (73, .v (.bool false)) :: (6, .v (.bool false)) :: [])) (init := [0, 1]) (fin := [26]) (sps := (⟨[0], [], [2], [(.slot 52)]⟩ :: ⟨[2], [], [3], [(.slot 53)]⟩ :: ⟨[1], [], [4], [(.slot 54)]⟩ :: ⟨[4], [], [5], [(.slot 55)]⟩ :: ⟨[5], [], [6], [(.slot 56)]⟩ :: ⟨[6], [], [7], [(.slot 57)]⟩ :: ⟨[7], [], [8], [(.slot 58)]⟩ :: ⟨[8], [], [9], [(.slot 59)]⟩ :: ⟨[9], [3], [11, 10], [(.slot 60)]⟩ :: ⟨[10], [], [12], [(.slot 61)]⟩ :: ⟨[12], [], [13], [(.slot 62)]⟩ :: ⟨[13], [], [14], [(.slot 63)]⟩ :: ⟨[14, 0], [], [15], [(.slot 64)]⟩ :: ⟨[14, 15], [], [16], [(.slot 65)]⟩ :: ⟨[14], [], [17], [(.slot 66)]⟩ :: ⟨[14, 17], [16], [19, 18], [(.slot 67)]⟩ :: ⟨[14, 18], [], [20], [(.slot 68)]⟩ :: ⟨[14, 20], [], [21], [(.slot 69)]⟩ :: ⟨[14, 21], [], [22], [(.slot 70)]⟩ :: ⟨[22], [], [23], [(.slot 71)]⟩ :: ⟨[23], [], [24], [(.slot 72)]⟩ :: ⟨[23], [], [25], [(.slot 73)]⟩ :: ⟨[25], [], [26], [(.slot 6)]⟩ :: [])) (es' := [(6, .v (.bool false))]) (by kernel_rfl) rfl rfl
                    ⟨st_plain rfl (op_move _ _ _ _ rfl rfl),
                      st_plain rfl (op_call _ _ 9 _ _ rfl Try.call9 rfl (ok_wherrykeep_TwinInts l _ hv27) rfl rfl),
                      st_plain rfl (op_move _ _ _ _ rfl rfl),
                      st_plain rfl ((Option.some.inj hv28) ▸ op_conv _ _ _ Try.underlying3 Try.underlying37 rfl),
                      st_plain rfl (op_bin _ _ _ _ _ rfl rfl (rem_ok hv29)),
                      st_plain rfl ((Option.some.inj hv30) ▸ op_conv _ _ _ Try.underlying37 Try.underlying3 rfl),
                      st_plain rfl (op_bin _ _ _ _ _ rfl rfl (ibind (f := Value.int .i64) (Option.some.inj hv31))),
                      st_plain rfl (op_buildSlice _ _ 1 (.int .i64 0) (List.map (Value.int .i64) [v31]) [(0, .int .i64 v31)] Try.underlying22 sz3 zr3 (fun _ V w o a hv hes => by have e0 := rd_v hv hes (x := .tmp 58) rfl; simp only [List.map_toArray, List.map_cons, List.map_nil, e0]; try rfl) (litfill (by simp [Instr.fill, Value.cells]; rfl) (by simp [List.range, List.range.loop])) (by simp [Value.oneCell']) rfl (by decide) (by decide) (by decide)),
                      st_plain rfl (op_app _ _ _ _ _ el22 rfl rfl (map_len _) (map_len _) hv32 ((List.map_append).symm.trans (congrArg (List.map _) (app_eq hv32)))),
                      st_plain rfl (op_call _ _ 15 _ _ rfl Try.call15 rfl (ok_canon_Check v32 _ hv33) rfl rfl),
                      st_plain rfl (op_bin _ _ _ _ _ rfl rfl rfl),
                      st_plain rfl (op_move _ _ _ _ (congrArg (fun b => AV.v (Value.bool b)) hg12_11) rfl),
                      st_run 11 63 true rfl rfl rfl (List.Mem.head _) (op_move _ _ _ _ rfl rfl),
                      st_run 11 63 true rfl rfl rfl (List.Mem.head _) (op_call _ _ 9 _ _ rfl Try.call9 rfl (ok_wherrykeep_TwinInts l _ hv34) rfl rfl),
                      st_run 11 63 true rfl rfl rfl (List.Mem.head _) (op_buildSlice _ _ 1 (.int .i64 0) (List.map (Value.int .i64) [16]) [(0, .int .i64 16)] Try.underlying22 sz3 zr3 (fun _ V w o a hv hes => by simp only [List.map_toArray, List.map_cons, List.map_nil]; try rfl) (litfill (by simp [Instr.fill, Value.cells]; rfl) (by simp [List.range, List.range.loop])) (by simp [Value.oneCell']) rfl (by decide) (by decide) (by decide)),
                      st_run 11 63 true rfl rfl rfl (List.Mem.head _) (op_app _ _ _ _ _ el22 rfl rfl (map_len _) (map_len _) hv35 ((List.map_append).symm.trans (congrArg (List.map _) (app_eq hv35)))),
                      st_run 11 63 true rfl rfl rfl (List.Mem.head _) (op_call _ _ 15 _ _ rfl Try.call15 rfl (ok_canon_Check v35 _ hv36) rfl rfl),
                      st_run 11 63 true rfl rfl rfl (List.Mem.head _) (op_bin _ _ _ _ _ rfl rfl rfl),
                      st_plain rfl (op_pick _ _ true _ rfl rfl),
                      st_plain rfl (op_move _ _ _ _ (congrArg (fun b => AV.v (Value.bool b)) hg12_19) rfl),
                      st_skip 19 71 _ true rfl rfl rfl rfl (List.Mem.head _),
                      st_plain rfl (op_pick _ _ false _ rfl rfl),
                      st_plain rfl (op_assign _ _ _ _ rfl rfl),
                      trivial⟩ ?_
                  exact hl40 _ (Option.some.inj h).symm
              · refine ht_seqR hn (El := (_ :: _ :: (52, .fl .shr 1 (List.map (Value.int .i64) l)) :: (53, .fl (.own 3) 1 (List.map (Value.int .i64) v27)) :: (54, .v (.int .i64 more)) :: (55, .v (.int .u64 v28)) :: (56, .v (.int .u64 v29)) :: (57, .v (.int .i64 v30)) :: (58, .v (.int .i64 v31)) :: (59, .fl (.own 3) 1 (List.map (Value.int .i64) [v31])) :: (60, .fl (.own 3) 1 (List.map (Value.int .i64) v32)) :: (53, .any) :: (61, .v (.int .i64 v33)) :: (62, .v (.bool (v33 == 4))) :: (63, .v (.bool false)) :: (64, .v undef) :: (65, .v undef) :: (66, .v undef) :: (67, .v undef) :: (68, .v undef) :: (69, .v undef) :: (70, .v (.bool false)) :: (71, .v (.bool false)) :: (72, .v undef) :: (73, .v (.bool false)) :: (6, .v (.bool false)) :: [])) (init := [0, 1]) (fin := [25]) (sps := (⟨[0], [], [2], [(.slot 52)]⟩ :: ⟨[2], [], [3], [(.slot 53)]⟩ :: ⟨[1], [], [4], [(.slot 54)]⟩ :: ⟨[4], [], [5], [(.slot 55)]⟩ :: ⟨[5], [], [6], [(.slot 56)]⟩ :: ⟨[6], [], [7], [(.slot 57)]⟩ :: ⟨[7], [], [8], [(.slot 58)]⟩ :: ⟨[8], [], [9], [(.slot 59)]⟩ :: ⟨[9], [3], [11, 10], [(.slot 60)]⟩ :: ⟨[10], [], [12], [(.slot 61)]⟩ :: ⟨[12], [], [13], [(.slot 62)]⟩ :: ⟨[13], [], [14], [(.slot 63)]⟩ :: ⟨[14], [], [15], [(.slot 64)]⟩ :: ⟨[14], [], [16], [(.slot 65)]⟩ :: ⟨[14], [], [17], [(.slot 66)]⟩ :: ⟨[14], [], [18], [(.slot 67)]⟩ :: ⟨[14], [], [19], [(.slot 68)]⟩ :: ⟨[14], [], [20], [(.slot 69)]⟩ :: ⟨[14], [], [21], [(.slot 70)]⟩ :: ⟨[21], [], [22], [(.slot 71)]⟩ :: ⟨[22], [], [23], [(.slot 72)]⟩ :: ⟨[22], [], [24], [(.slot 73)]⟩ :: ⟨[24], [], [25], [(.slot 6)]⟩ :: [])) (es' := [(6, .v (.bool false))]) (by kernel_rfl) rfl rfl
                  ⟨st_plain rfl (op_move _ _ _ _ rfl rfl),
                    st_plain rfl (op_call _ _ 9 _ _ rfl Try.call9 rfl (ok_wherrykeep_TwinInts l _ hv27) rfl rfl),
                    st_plain rfl (op_move _ _ _ _ rfl rfl),
                    st_plain rfl ((Option.some.inj hv28) ▸ op_conv _ _ _ Try.underlying3 Try.underlying37 rfl),
                    st_plain rfl (op_bin _ _ _ _ _ rfl rfl (rem_ok hv29)),
                    st_plain rfl ((Option.some.inj hv30) ▸ op_conv _ _ _ Try.underlying37 Try.underlying3 rfl),
                    st_plain rfl (op_bin _ _ _ _ _ rfl rfl (ibind (f := Value.int .i64) (Option.some.inj hv31))),
                    st_plain rfl (op_buildSlice _ _ 1 (.int .i64 0) (List.map (Value.int .i64) [v31]) [(0, .int .i64 v31)] Try.underlying22 sz3 zr3 (fun _ V w o a hv hes => by have e0 := rd_v hv hes (x := .tmp 58) rfl; simp only [List.map_toArray, List.map_cons, List.map_nil, e0]; try rfl) (litfill (by simp [Instr.fill, Value.cells]; rfl) (by simp [List.range, List.range.loop])) (by simp [Value.oneCell']) rfl (by decide) (by decide) (by decide)),
                    st_plain rfl (op_app _ _ _ _ _ el22 rfl rfl (map_len _) (map_len _) hv32 ((List.map_append).symm.trans (congrArg (List.map _) (app_eq hv32)))),
                    st_plain rfl (op_call _ _ 15 _ _ rfl Try.call15 rfl (ok_canon_Check v32 _ hv33) rfl rfl),
                    st_plain rfl (op_bin _ _ _ _ _ rfl rfl rfl),
                    st_plain rfl (op_move _ _ _ _ (congrArg (fun b => AV.v (Value.bool b)) hg12_11) rfl),
                    st_skip 11 63 _ true rfl rfl rfl rfl (List.Mem.head _),
                    st_skip 11 63 _ true rfl rfl rfl rfl (List.Mem.head _),
                    st_skip 11 63 _ true rfl rfl rfl rfl (List.Mem.head _),
                    st_skip 11 63 _ true rfl rfl rfl rfl (List.Mem.head _),
                    st_skip 11 63 _ true rfl rfl rfl rfl (List.Mem.head _),
                    st_skip 11 63 _ true rfl rfl rfl rfl (List.Mem.head _),
                    st_plain rfl (op_pick _ _ false _ rfl rfl),
                    st_plain rfl (op_move _ _ _ _ rfl rfl),
                    st_skip 19 71 _ true rfl rfl rfl rfl (List.Mem.head _),
                    st_plain rfl (op_pick _ _ false _ rfl rfl),
                    st_plain rfl (op_assign _ _ _ _ rfl rfl),
                    trivial⟩ ?_
                exact hl40 _ (Option.some.inj h).symm
          · intro u22 h hl23 hr24
            refine ht_seq ?_
            refine ht_seqR hn (El := [_, _, _, _, (40, .fl .shr 1 (List.map (Value.int .u8) b)), (41, .v (.int .i64 (b.length : Int))), (42, .v (.bool ((decide (2 ≤ (b.length : Int))))))]) (init := [0, 1, 2, 3]) (fin := [0, 1, 2, 6]) (sps := [⟨[1], [], [4], [(.slot 40)]⟩, ⟨[4], [], [5], [(.slot 41)]⟩, ⟨[5], [], [6], [(.slot 42)]⟩]) (es' := [(_, _), (_, _), (_, _), (42, .v (.bool ((decide (2 ≤ (b.length : Int))))))]) (by kernel_rfl) rfl rfl
              ⟨st_plain rfl (op_move _ _ _ _ rfl rfl),
                st_plain rfl (op_len_fl _ _ _ Try.underlying23 rfl (by decide) (map_len _)),
                st_plain rfl (op_bin _ _ _ _ _ rfl rfl rfl),
                trivial⟩ ?_
            refine pt_then ?_
            refine ht_cond _ rfl (fun hb25 => ?_) (fun hb25 => ?_)
            · have h := cond_t hb25 h
              refine ht_seq ?_
              obtain ⟨v20, hv20, h⟩ := bind_some h
              refine ht_seqR hn (El := [_, _, _, _, (44, .fl .shr 1 (List.map (Value.int .i64) l)), (45, .fl .shr 1 (List.map (Value.int .u8) b)), (46, .tup [.v (.int .i64 v20.1), .v (.int .i64 v20.2.1), .v (.int .i64 v20.2.2)]), (43, .tup [.v (.int .i64 v20.1), .v (.int .i64 v20.2.1), .v (.int .i64 v20.2.2)]), (47, .v (.int .i64 v20.1)), (48, .v (.int .i64 v20.2.1)), (49, .v (.int .i64 v20.2.2)), (9, .v (.int .i64 v20.1)), (10, .v (.int .i64 v20.2.1)), (11, .v (.int .i64 v20.2.2))]) (init := [0, 1, 2, 3]) (fin := [0, 2, 13]) (sps := [⟨[0], [], [4], [(.slot 44)]⟩, ⟨[1], [], [5], [(.slot 45)]⟩, ⟨[4, 5], [], [6], [(.slot 46)]⟩, ⟨[], [6], [7], [(.slot 43)]⟩, ⟨[7], [], [8], [(.slot 47)]⟩, ⟨[7], [], [9], [(.slot 48)]⟩, ⟨[7], [], [10], [(.slot 49)]⟩, ⟨[8], [], [11], [(.slot 9)]⟩, ⟨[9], [], [12], [(.slot 10)]⟩, ⟨[10], [], [13], [(.slot 11)]⟩]) (es' := [(_, _), (_, _), (11, .v (.int .i64 v20.2.2))]) (by kernel_rfl) rfl rfl
                ⟨st_plain rfl (op_move _ _ _ _ rfl rfl),
                  st_plain rfl (op_move _ _ _ _ rfl rfl),
                  st_plain rfl (op_call _ _ 13 _ _ rfl Try.call13 rfl (ok_canon_Read l b 0 _ hv20) rfl rfl),
                  st_plain rfl (op_move_take _ _ _ _ rfl),
                  st_plain rfl (op_extract _ _ _ _ _ rfl rfl (Nat.le_of_ble_eq_true rfl) rfl rfl),
                  st_plain rfl (op_extract _ _ _ _ _ rfl rfl (Nat.le_of_ble_eq_true rfl) rfl rfl),
                  st_plain rfl (op_extract _ _ _ _ _ rfl rfl (Nat.le_of_ble_eq_true rfl) rfl rfl),
                  st_plain rfl (op_assign _ _ _ _ rfl rfl),
                  st_plain rfl (op_assign _ _ _ _ rfl rfl),
                  st_plain rfl (op_assign _ _ _ _ rfl rfl),
                  trivial⟩ ?_
              refine pt_then ?_
              refine ht_seq ?_
              refine ht_seqR hn (El := [_, _, _, (50, .v (.int .i64 v20.2.2)), (51, .v (.bool (v20.2.2 != 0)))]) (init := [0, 1, 2]) (fin := [0, 1, 4]) (sps := [⟨[2], [], [3], [(.slot 50)]⟩, ⟨[3], [], [4], [(.slot 51)]⟩]) (es' := [(_, _), (_, _), (51, .v (.bool (v20.2.2 != 0)))]) (by kernel_rfl) rfl rfl
                ⟨st_plain rfl (op_move _ _ _ _ rfl rfl),
                  st_plain rfl (op_bin _ _ _ _ _ rfl rfl rfl),
                  trivial⟩ ?_
              refine pt_then ?_
              refine ht_cond _ rfl (fun hb26 => ?_) (fun hb26 => ?_)
              · have h := cond_t hb26 h
                refine ht_seq ?_
                refine ht_seqR hn (El := [_, _, _, (6, .v (.bool false))]) (init := [0, 1, 2]) (fin := [3]) (sps := [⟨[], [], [3], [(.slot 6)]⟩]) (es' := [(6, .v (.bool false))]) (by kernel_rfl) rfl rfl
                  ⟨st_plain rfl (op_assign _ _ _ _ rfl rfl),
                    trivial⟩ ?_
                refine pt_then ?_
                refine ht_ret ?_
                refine pt_r_then ?_
                have h := hr24 _ (Option.some.inj h).symm
                obtain rfl := Option.some.inj h
                exact pt_ret hio rfl (.tmp _ _ .nil) rfl rfl
              · have h := cond_f hb26 h
                refine ht_skip ?_
                refine pt_pick [0, 1] (by kernel_rfl) (es' := [(_, _), (_, _)]) rfl ?_
                exact hl23 _ (Option.some.inj h).symm
            · have h := cond_f hb25 h
              refine ht_skip ?_
              refine pt_pick [0, 2] (by kernel_rfl) (es' := [(_, _), (_, _)]) rfl ?_
              exact hl23 _ (Option.some.inj h).symm
  · intro u2 h hl3 hr4
    refine cond_some h (fun hg1_3 h => ?_) (fun hg1_3 h => ?_)
    · refine ht_seqR hn (El := [_, _, _, (12, .fl .shr 1 (List.map (Value.int .i64) l)), (13, .v (.int .i64 (l.length : Int))), (14, .v (.bool ((decide (290 < (l.length : Int)))))), (15, .v (.bool true)), (16, .v undef), (17, .v undef), (18, .v undef), (19, .v (.bool true))]) (init := [0, 1, 2]) (fin := [0, 1, 2, 10]) (sps := [⟨[0], [], [3], [(.slot 12)]⟩, ⟨[3], [], [4], [(.slot 13)]⟩, ⟨[4], [], [5], [(.slot 14)]⟩, ⟨[5], [], [6], [(.slot 15)]⟩, ⟨[6], [], [7], [(.slot 16)]⟩, ⟨[6], [], [8], [(.slot 17)]⟩, ⟨[6], [], [9], [(.slot 18)]⟩, ⟨[6], [], [10], [(.slot 19)]⟩]) (es' := [(_, _), (_, _), (_, _), (19, .v (.bool true))]) (by kernel_rfl) rfl rfl
        ⟨st_plain rfl (op_move _ _ _ _ rfl rfl),
          st_plain rfl (op_len_fl _ _ _ Try.underlying22 rfl (by decide) (map_len _)),
          st_plain rfl (op_bin _ _ _ _ _ rfl rfl rfl),
          st_plain rfl (op_move _ _ _ _ (congrArg (fun b => AV.v (Value.bool b)) hg1_3) rfl),
          st_skip 3 15 _ false rfl rfl rfl rfl (List.Mem.head _),
          st_skip 3 15 _ false rfl rfl rfl rfl (List.Mem.head _),
          st_skip 3 15 _ false rfl rfl rfl rfl (List.Mem.head _),
          st_plain rfl (op_pick _ _ true _ rfl rfl),
          trivial⟩ ?_
      exact hl3 _ (Option.some.inj h).symm
    · refine ht_seqR hn (El := [_, _, _, (12, .fl .shr 1 (List.map (Value.int .i64) l)), (13, .v (.int .i64 (l.length : Int))), (14, .v (.bool ((decide (290 < (l.length : Int)))))), (15, .v (.bool false)), (16, .fl .shr 1 (List.map (Value.int .u8) b)), (17, .v (.int .i64 (b.length : Int))), (18, .v (.bool ((decide (100 < (b.length : Int)))))), (19, .v (.bool ((decide (100 < (b.length : Int))))))]) (init := [0, 1, 2]) (fin := [0, 1, 2, 10]) (sps := [⟨[0], [], [3], [(.slot 12)]⟩, ⟨[3], [], [4], [(.slot 13)]⟩, ⟨[4], [], [5], [(.slot 14)]⟩, ⟨[5], [], [6], [(.slot 15)]⟩, ⟨[6, 1], [], [7], [(.slot 16)]⟩, ⟨[6, 7], [], [8], [(.slot 17)]⟩, ⟨[6, 8], [], [9], [(.slot 18)]⟩, ⟨[6, 9], [], [10], [(.slot 19)]⟩]) (es' := [(_, _), (_, _), (_, _), (19, .v (.bool ((decide (100 < (b.length : Int))))))]) (by kernel_rfl) rfl rfl
        ⟨st_plain rfl (op_move _ _ _ _ rfl rfl),
          st_plain rfl (op_len_fl _ _ _ Try.underlying22 rfl (by decide) (map_len _)),
          st_plain rfl (op_bin _ _ _ _ _ rfl rfl rfl),
          st_plain rfl (op_move _ _ _ _ (congrArg (fun b => AV.v (Value.bool b)) hg1_3) rfl),
          st_run 3 15 false rfl rfl rfl (List.Mem.head _) (op_move _ _ _ _ rfl rfl),
          st_run 3 15 false rfl rfl rfl (List.Mem.head _) (op_len_fl _ _ _ Try.underlying23 rfl (by decide) (map_len _)),
          st_run 3 15 false rfl rfl rfl (List.Mem.head _) (op_bin _ _ _ _ _ rfl rfl rfl),
          st_plain rfl (op_pick _ _ false _ rfl rfl),
          trivial⟩ ?_
      exact hl3 _ (Option.some.inj h).symm

set_option maxHeartbeats 1000000 in
theorem ok_wherrylaw02_CanonRises (l : (List Int)) (i : Int) (k : Int) (r : Bool) (h : Sh.wherrylaw02_CanonRises l i k = some r) : FnOK Try.prog 7 [.fl .shr 1 (List.map (Value.int .i64) l), .v (.int .i64 i), .v (.int .i64 k)] (.v (.bool r)) := by
  unfold Sh.wherrylaw02_CanonRises at h
  refine fn_ok Try.func7 rfl (Nat.le_of_ble_eq_true rfl) rfl rfl fun g0 hn hio => ?_
  refine ht_seq ?_
  refine ht_seqR hn (El := [_, _, _, (6, .v (.bool false))]) (init := [0, 1, 2]) (fin := [0, 1, 2]) (sps := [⟨[], [], [3], [(.slot 6)]⟩]) (es' := [(_, _), (_, _), (_, _)]) (by kernel_rfl) rfl rfl
    ⟨st_plain rfl (op_assign _ _ _ _ rfl rfl),
      trivial⟩ ?_
  refine pt_then ?_
  refine ht_seq ?_
  refine ht_seq ?_
  refine ht_joinS h (fun (s1 : Bool) => [(0, .fl .shr 1 (List.map (Value.int .i64) l)), (1, .v (.int .i64 i)), (2, .v (.int .i64 k)), (16, .v (.bool s1))]) ?_ ?_
  · rintro s1 h
    refine pt_then ?_
    refine ht_cond _ rfl (fun hb5 => ?_) (fun hb5 => ?_)
    · have h := cond_t hb5 h
      refine ht_seq ?_
      refine ht_seqR hn (El := [_, _, _, _, (6, .v (.bool true))]) (init := [0, 1, 2, 3]) (fin := [4]) (sps := [⟨[], [], [4], [(.slot 6)]⟩]) (es' := [(6, .v (.bool true))]) (by kernel_rfl) rfl rfl
        ⟨st_plain rfl (op_assign _ _ _ _ rfl rfl),
          trivial⟩ ?_
      refine pt_then ?_
      refine ht_ret ?_
      refine pt_r_then ?_
      obtain rfl := Option.some.inj h
      exact pt_ret hio rfl (.tmp _ _ .nil) rfl rfl
    · have h := cond_f hb5 h
      refine ht_skip ?_
      refine pt_then ?_
      refine ht_seq ?_
      obtain ⟨v6, hv6, h⟩ := bind_some h
      refine ht_seqR hn (El := [_, _, _, _, (18, .fl .shr 1 (List.map (Value.int .i64) l)), (19, .tup [.fl (.own 3) 1 (List.map (Value.int .i64) v6.1), .v (.int .i64 v6.2)]), (17, .tup [.fl (.own 3) 1 (List.map (Value.int .i64) v6.1), .v (.int .i64 v6.2)]), (20, .fl (.own 3) 1 (List.map (Value.int .i64) v6.1)), (17, .tup [.any, .v (.int .i64 v6.2)]), (21, .v (.int .i64 v6.2)), (7, .fl (.own 3) 1 (List.map (Value.int .i64) v6.1)), (8, .v (.int .i64 v6.2))]) (init := [0, 1, 2, 3]) (fin := [0, 1, 2, 10, 11]) (sps := [⟨[0], [], [4], [(.slot 18)]⟩, ⟨[4], [], [5], [(.slot 19)]⟩, ⟨[], [5], [6], [(.slot 17)]⟩, ⟨[], [6], [8, 7], [(.slot 20)]⟩, ⟨[8], [], [9], [(.slot 21)]⟩, ⟨[], [7], [10], [(.slot 7)]⟩, ⟨[9], [], [11], [(.slot 8)]⟩]) (es' := [(_, _), (_, _), (_, _), (7, .fl (.own 3) 1 (List.map (Value.int .i64) v6.1)), (8, .v (.int .i64 v6.2))]) (by kernel_rfl) rfl rfl
        ⟨st_plain rfl (op_move _ _ _ _ rfl rfl),
          st_plain rfl (op_call _ _ 11 _ _ rfl Try.call11 rfl (ok_canon_Codes l _ hv6) rfl rfl),
          st_plain rfl (op_move_take _ _ _ _ rfl),
          st_plain rfl (op_extract_take _ _ _ _ _ rfl (Nat.le_of_ble_eq_true rfl) rfl rfl (by decide) rfl),
          st_plain rfl (op_extract _ _ _ _ _ rfl rfl (Nat.le_of_ble_eq_true rfl) rfl rfl),
          st_plain rfl (op_assign_take _ _ _ _ rfl),
          st_plain rfl (op_assign _ _ _ _ rfl rfl),
          trivial⟩ ?_
      refine pt_then ?_
      refine ht_seq ?_
      refine ht_seq ?_
      refine ht_joinS h (fun (s7 : Bool) => [(0, .fl .shr 1 (List.map (Value.int .i64) l)), (1, .v (.int .i64 i)), (2, .v (.int .i64 k)), (7, .fl (.own 3) 1 (List.map (Value.int .i64) v6.1)), (8, .v (.int .i64 v6.2)), (30, .v (.bool s7))]) ?_ ?_
      · rintro s7 h
        refine pt_then ?_
        refine ht_cond _ rfl (fun hb11 => ?_) (fun hb11 => ?_)
        · have h := cond_t hb11 h
          refine ht_seq ?_
          refine ht_joinS h (fun (s13 : Bool) => [(6, .v (.bool s13))]) ?_ ?_
          · rintro s13 h
            refine pt_then ?_
            refine ht_ret ?_
            refine pt_r_then ?_
            obtain rfl := Option.some.inj h
            exact pt_ret hio rfl (.tmp _ _ .nil) rfl rfl
          · intro u14 h hl15 hr16
            refine cond_some h (fun hg5_2 h => ?_) (fun hg5_2 h => ?_)
            · obtain ⟨v12, hv12, h⟩ := bind_some h
              refine ht_seqR hn (El := [_, _, _, _, _, _, (31, .v (.int .i64 v6.2)), (32, .v (.bool (v6.2 != 0))), (33, .v (.bool true)), (34, .v (.bool v12)), (35, .v (.bool v12)), (6, .v (.bool v12))]) (init := [0, 1, 2, 3, 4, 5]) (fin := [11]) (sps := [⟨[4], [], [6], [(.slot 31)]⟩, ⟨[6], [], [7], [(.slot 32)]⟩, ⟨[7], [], [8], [(.slot 33)]⟩, ⟨[8], [], [9], [(.slot 34)]⟩, ⟨[8, 9], [], [10], [(.slot 35)]⟩, ⟨[10], [], [11], [(.slot 6)]⟩]) (es' := [(6, .v (.bool v12))]) (by kernel_rfl) rfl rfl
                ⟨st_plain rfl (op_move _ _ _ _ rfl rfl),
                  st_plain rfl (op_bin _ _ _ _ _ rfl rfl rfl),
                  st_plain rfl (op_move _ _ _ _ (congrArg (fun b => AV.v (Value.bool b)) hg5_2) rfl),
                  st_run 2 33 true rfl rfl rfl (List.Mem.head _) (op_call _ _ 21 _ _ rfl Try.call21 rfl (ok_wherrylaw02_wakes  _ hv12) rfl rfl),
                  st_plain rfl (op_pick _ _ true _ rfl rfl),
                  st_plain rfl (op_assign _ _ _ _ rfl rfl),
                  trivial⟩ ?_
              exact hl15 _ (Option.some.inj h).symm
            · refine ht_seqR hn (El := [_, _, _, _, _, _, (31, .v (.int .i64 v6.2)), (32, .v (.bool (v6.2 != 0))), (33, .v (.bool false)), (34, .v undef), (35, .v (.bool false)), (6, .v (.bool false))]) (init := [0, 1, 2, 3, 4, 5]) (fin := [11]) (sps := [⟨[4], [], [6], [(.slot 31)]⟩, ⟨[6], [], [7], [(.slot 32)]⟩, ⟨[7], [], [8], [(.slot 33)]⟩, ⟨[8], [], [9], [(.slot 34)]⟩, ⟨[8], [], [10], [(.slot 35)]⟩, ⟨[10], [], [11], [(.slot 6)]⟩]) (es' := [(6, .v (.bool false))]) (by kernel_rfl) rfl rfl
                ⟨st_plain rfl (op_move _ _ _ _ rfl rfl),
                  st_plain rfl (op_bin _ _ _ _ _ rfl rfl rfl),
                  st_plain rfl (op_move _ _ _ _ (congrArg (fun b => AV.v (Value.bool b)) hg5_2) rfl),
                  st_skip 2 33 _ true rfl rfl rfl rfl (List.Mem.head _),
                  st_plain rfl (op_pick _ _ false _ rfl rfl),
                  st_plain rfl (op_assign _ _ _ _ rfl rfl),
                  trivial⟩ ?_
              exact hl15 _ (Option.some.inj h).symm
        · have h := cond_f hb11 h
          refine ht_skip ?_
          refine pt_then ?_
          refine ht_seq ?_
          obtain ⟨v17, hv17, h⟩ := bind_some h
          obtain ⟨v18, hv18, h⟩ := bind_some h
          obtain ⟨v19, hv19, h⟩ := bind_some h
          obtain ⟨v20, hv20, h⟩ := bind_some h
          obtain ⟨v21, hv21, h⟩ := bind_some h
          obtain ⟨v22, hv22, h⟩ := bind_some h
          obtain ⟨v23, hv23, h⟩ := bind_some h
          obtain ⟨v24, hv24, h⟩ := bind_some h
          refine ht_anyR (by kernel_rfl) hn (El := (_ :: _ :: _ :: _ :: _ :: _ :: (36, .v (.int .i64 i)) :: (37, .v (.int .u64 v17)) :: (38, .fl .shr 1 (List.map (Value.int .i64) l)) :: (39, .v (.int .i64 (l.length : Int))) :: (40, .v (.int .u64 v18)) :: (41, .v (.int .u64 v19)) :: (42, .v (.int .i64 v20)) :: (43, .v (.int .i64 k)) :: (44, .v (.int .u64 v21)) :: (45, .fl .shr 1 (List.map (Value.int .i64) l)) :: (46, .v (.int .i64 (l.length : Int))) :: (47, .v (.int .u64 v22)) :: (48, .v (.int .u64 v23)) :: (49, .v (.int .i64 v24)) :: (1, .v (.int .i64 v20)) :: (2, .v (.int .i64 v24)) :: [])) (init := [0, 1, 2, 3, 4, 5]) (fin := [0, 3, 20, 21]) (sps := (⟨[1], [], [6], [(.slot 36)]⟩ :: ⟨[6], [], [7], [(.slot 37)]⟩ :: ⟨[0], [], [8], [(.slot 38)]⟩ :: ⟨[8], [], [9], [(.slot 39)]⟩ :: ⟨[9], [], [10], [(.slot 40)]⟩ :: ⟨[7, 10], [], [11], [(.slot 41)]⟩ :: ⟨[11], [], [12], [(.slot 42)]⟩ :: ⟨[2], [], [13], [(.slot 43)]⟩ :: ⟨[13], [], [14], [(.slot 44)]⟩ :: ⟨[0], [], [15], [(.slot 45)]⟩ :: ⟨[15], [], [16], [(.slot 46)]⟩ :: ⟨[16], [], [17], [(.slot 47)]⟩ :: ⟨[14, 17], [], [18], [(.slot 48)]⟩ :: ⟨[18], [], [19], [(.slot 49)]⟩ :: ⟨[12], [1], [20], [(.slot 1)]⟩ :: ⟨[19], [2], [21], [(.slot 2)]⟩ :: [])) (es' := [(_, _), (_, _), (1, .v (.int .i64 v20)), (2, .v (.int .i64 v24))]) (by kernel_rfl) rfl rfl
            ⟨st_plain rfl (op_move _ _ _ _ rfl rfl),
              st_plain rfl ((Option.some.inj hv17) ▸ op_conv _ _ _ Try.underlying3 Try.underlying37 rfl),
              st_plain rfl (op_move _ _ _ _ rfl rfl),
              st_plain rfl (op_len_fl _ _ _ Try.underlying22 rfl (by decide) (map_len _)),
              st_plain rfl ((Option.some.inj hv18) ▸ op_conv _ _ _ Try.underlying3 Try.underlying37 rfl),
              st_plain rfl (op_bin _ _ _ _ _ rfl rfl (rem_ok hv19)),
              st_plain rfl ((Option.some.inj hv20) ▸ op_conv _ _ _ Try.underlying37 Try.underlying3 rfl),
              st_plain rfl (op_move _ _ _ _ rfl rfl),
              st_plain rfl ((Option.some.inj hv21) ▸ op_conv _ _ _ Try.underlying3 Try.underlying37 rfl),
              st_plain rfl (op_move _ _ _ _ rfl rfl),
              st_plain rfl (op_len_fl _ _ _ Try.underlying22 rfl (by decide) (map_len _)),
              st_plain rfl ((Option.some.inj hv22) ▸ op_conv _ _ _ Try.underlying3 Try.underlying37 rfl),
              st_plain rfl (op_bin _ _ _ _ _ rfl rfl (rem_ok hv23)),
              st_plain rfl ((Option.some.inj hv24) ▸ op_conv _ _ _ Try.underlying37 Try.underlying3 rfl),
              st_plain rfl (LOp.drop [_] (op_assign _ _ _ _ rfl rfl)),
              st_plain rfl (LOp.drop [_] (op_assign _ _ _ _ rfl rfl)),
              trivial⟩ ?_
          refine pt_then ?_
          refine ht_seq ?_
          refine ht_seq ?_
          refine ht_joinS h (fun (s33 : Bool) => [(0, .fl .shr 1 (List.map (Value.int .i64) l)), (7, .fl (.own 3) 1 (List.map (Value.int .i64) v6.1)), (1, .v (.int .i64 v20)), (2, .v (.int .i64 v24)), (72, .v (.bool s33))]) ?_ ?_
          · rintro s33 h
            refine pt_then ?_
            refine ht_cond _ rfl (fun hb37 => ?_) (fun hb37 => ?_)
            · have h := cond_t hb37 h
              refine ht_seq ?_
              obtain ⟨v38, hv38, h⟩ := bind_some h
              refine ht_seqR hn (El := [_, _, _, _, _, (73, .v (.bool v38)), (6, .v (.bool v38))]) (init := [0, 1, 2, 3, 4]) (fin := [6]) (sps := [⟨[], [], [5], [(.slot 73)]⟩, ⟨[5], [], [6], [(.slot 6)]⟩]) (es' := [(6, .v (.bool v38))]) (by kernel_rfl) rfl rfl
                ⟨st_plain rfl (op_call _ _ 21 _ _ rfl Try.call21 rfl (ok_wherrylaw02_wakes  _ hv38) rfl rfl),
                  st_plain rfl (op_assign _ _ _ _ rfl rfl),
                  trivial⟩ ?_
              refine pt_then ?_
              refine ht_ret ?_
              refine pt_r_then ?_
              obtain rfl := Option.some.inj h
              exact pt_ret hio rfl (.tmp _ _ .nil) rfl rfl
            · have h := cond_f hb37 h
              refine ht_skip ?_
              refine pt_then ?_
              refine ht_seq ?_
              refine ht_joinS h (fun (s54 : Bool) => [(6, .v (.bool s54))]) ?_ ?_
              · rintro s54 h
                refine pt_then ?_
                refine ht_ret ?_
                obtain rfl := Option.some.inj h
                exact pt_ret hio rfl (.tmp _ _ .nil) rfl rfl
              · intro u55 h hl56 hr57
                obtain ⟨v39, hv39, h⟩ := bind_some h
                obtain ⟨v40, hv40, h⟩ := bind_some h
                obtain ⟨v41, hv41, h⟩ := bind_some h
                obtain ⟨v42, hv42, h⟩ := bind_some h
                obtain ⟨v43, hv43, h⟩ := bind_some h
                obtain ⟨v44, hv44, h⟩ := bind_some h
                obtain ⟨v45, hv45, h⟩ := bind_some h
                obtain ⟨v46, hv46, h⟩ := bind_some h
                obtain ⟨v47, hv47, h⟩ := bind_some h
                obtain ⟨v48, hv48, h⟩ := bind_some h
                obtain ⟨v49, hv49, h⟩ := bind_some h
                obtain ⟨v50, hv50, h⟩ := bind_some h
                obtain ⟨v51, hv51, h⟩ := bind_some h
                obtain ⟨v52, hv52, h⟩ := bind_some h
                refine cond_some h (fun hg9_23 h => ?_) (fun hg9_23 h => ?_)
                · obtain ⟨v53, hv53, h⟩ := bind_some h
                  refine ht_anyR (by kernel_rfl) hn (El := (_ :: _ :: _ :: _ :: _ :: (74, .same (.slot 7)) :: (75, .v (.int .i64 v20)) :: (76, .eref (.slot 7) (v39 * 1)) :: (77, .v (.int .i64 v40)) :: (78, .fl .shr 1 (List.map (Value.int .i64) l)) :: (79, .v (.int .i64 v20)) :: (80, .eref (.slot 78) (v41 * 1)) :: (81, .v (.int .i64 v42)) :: (82, .v (.int .i64 v43)) :: (83, .v (.int .u64 v44)) :: (84, .v (.int .i64 v45)) :: (85, .same (.slot 7)) :: (86, .v (.int .i64 v24)) :: (87, .eref (.slot 7) (v46 * 1)) :: (88, .v (.int .i64 v47)) :: (89, .fl .shr 1 (List.map (Value.int .i64) l)) :: (90, .v (.int .i64 v24)) :: (91, .eref (.slot 89) (v48 * 1)) :: (92, .v (.int .i64 v49)) :: (93, .v (.int .i64 v50)) :: (94, .v (.int .u64 v51)) :: (95, .v (.int .i64 v52)) :: (96, .v (.bool ((decide (v45 < v52))))) :: (97, .v (.bool true)) :: (98, .v (.bool v53)) :: (99, .v (.bool v53)) :: (6, .v (.bool v53)) :: [])) (init := [0, 1, 2, 3, 4]) (fin := [31]) (sps := (⟨[1], [], [5], [(.slot 74)]⟩ :: ⟨[2], [], [6], [(.slot 75)]⟩ :: ⟨[5, 1, 6], [], [7], [(.slot 76)]⟩ :: ⟨[7, 1], [], [8], [(.slot 77)]⟩ :: ⟨[0], [], [9], [(.slot 78)]⟩ :: ⟨[2], [], [10], [(.slot 79)]⟩ :: ⟨[9, 10], [], [11], [(.slot 80)]⟩ :: ⟨[11, 9], [], [12], [(.slot 81)]⟩ :: ⟨[12], [], [13], [(.slot 82)]⟩ :: ⟨[13], [], [14], [(.slot 83)]⟩ :: ⟨[8, 14], [], [15], [(.slot 84)]⟩ :: ⟨[1], [], [16], [(.slot 85)]⟩ :: ⟨[3], [], [17], [(.slot 86)]⟩ :: ⟨[16, 1, 17], [], [18], [(.slot 87)]⟩ :: ⟨[18, 1], [], [19], [(.slot 88)]⟩ :: ⟨[0], [], [20], [(.slot 89)]⟩ :: ⟨[3], [], [21], [(.slot 90)]⟩ :: ⟨[20, 21], [], [22], [(.slot 91)]⟩ :: ⟨[22, 20], [], [23], [(.slot 92)]⟩ :: ⟨[23], [], [24], [(.slot 93)]⟩ :: ⟨[24], [], [25], [(.slot 94)]⟩ :: ⟨[19, 25], [], [26], [(.slot 95)]⟩ :: ⟨[15, 26], [], [27], [(.slot 96)]⟩ :: ⟨[27], [], [28], [(.slot 97)]⟩ :: ⟨[28], [], [29], [(.slot 98)]⟩ :: ⟨[28, 29], [], [30], [(.slot 99)]⟩ :: ⟨[30], [], [31], [(.slot 6)]⟩ :: [])) (es' := [(6, .v (.bool v53))]) (by kernel_rfl) rfl rfl
                    ⟨st_plain rfl (op_move _ _ _ _ rfl rfl),
                      st_plain rfl (op_move _ _ _ _ rfl rfl),
                      st_plain rfl (op_ix _ _ _ _ _ _ _ _ Try.underlying22 sz3 (by decide) rfl rfl rfl (ix_ok hv39).1 (map_lt (ix_ok hv39).2) rfl),
                      st_plain rfl (op_load_e _ _ _ _ _ _ Try.underlying3 rfl rfl rfl (map_get hv40)),
                      st_plain rfl (op_move _ _ _ _ rfl rfl),
                      st_plain rfl (op_move _ _ _ _ rfl rfl),
                      st_plain rfl (op_ix _ _ _ _ _ _ _ _ Try.underlying22 sz3 (by decide) rfl rfl rfl (ix_ok hv41).1 (map_lt (ix_ok hv41).2) rfl),
                      st_plain rfl (op_load_e _ _ _ _ _ _ Try.underlying3 rfl rfl rfl (map_get hv42)),
                      st_plain rfl (op_bin _ _ _ _ _ rfl rfl (ibind (f := Value.int .i64) (Option.some.inj hv43))),
                      st_plain rfl ((Option.some.inj hv44) ▸ op_conv _ _ _ Try.underlying3 Try.underlying37 rfl),
                      st_plain rfl (op_bin _ _ _ _ _ rfl rfl (shl_ok hv45)),
                      st_plain rfl (op_move _ _ _ _ rfl rfl),
                      st_plain rfl (op_move _ _ _ _ rfl rfl),
                      st_plain rfl (op_ix _ _ _ _ _ _ _ _ Try.underlying22 sz3 (by decide) rfl rfl rfl (ix_ok hv46).1 (map_lt (ix_ok hv46).2) rfl),
                      st_plain rfl (op_load_e _ _ _ _ _ _ Try.underlying3 rfl rfl rfl (map_get hv47)),
                      st_plain rfl (op_move _ _ _ _ rfl rfl),
                      st_plain rfl (op_move _ _ _ _ rfl rfl),
                      st_plain rfl (op_ix _ _ _ _ _ _ _ _ Try.underlying22 sz3 (by decide) rfl rfl rfl (ix_ok hv48).1 (map_lt (ix_ok hv48).2) rfl),
                      st_plain rfl (op_load_e _ _ _ _ _ _ Try.underlying3 rfl rfl rfl (map_get hv49)),
                      st_plain rfl (op_bin _ _ _ _ _ rfl rfl (ibind (f := Value.int .i64) (Option.some.inj hv50))),
                      st_plain rfl ((Option.some.inj hv51) ▸ op_conv _ _ _ Try.underlying3 Try.underlying37 rfl),
                      st_plain rfl (op_bin _ _ _ _ _ rfl rfl (shl_ok hv52)),
                      st_plain rfl (op_bin _ _ _ _ _ rfl rfl rfl),
                      st_plain rfl (op_move _ _ _ _ (congrArg (fun b => AV.v (Value.bool b)) hg9_23) rfl),
                      st_run 23 97 true rfl rfl rfl (List.Mem.head _) (op_call _ _ 21 _ _ rfl Try.call21 rfl (ok_wherrylaw02_wakes  _ hv53) rfl rfl),
                      st_plain rfl (op_pick _ _ true _ rfl rfl),
                      st_plain rfl (op_assign _ _ _ _ rfl rfl),
                      trivial⟩ ?_
                  exact hl56 _ (Option.some.inj h).symm
                · refine ht_anyR (by kernel_rfl) hn (El := (_ :: _ :: _ :: _ :: _ :: (74, .same (.slot 7)) :: (75, .v (.int .i64 v20)) :: (76, .eref (.slot 7) (v39 * 1)) :: (77, .v (.int .i64 v40)) :: (78, .fl .shr 1 (List.map (Value.int .i64) l)) :: (79, .v (.int .i64 v20)) :: (80, .eref (.slot 78) (v41 * 1)) :: (81, .v (.int .i64 v42)) :: (82, .v (.int .i64 v43)) :: (83, .v (.int .u64 v44)) :: (84, .v (.int .i64 v45)) :: (85, .same (.slot 7)) :: (86, .v (.int .i64 v24)) :: (87, .eref (.slot 7) (v46 * 1)) :: (88, .v (.int .i64 v47)) :: (89, .fl .shr 1 (List.map (Value.int .i64) l)) :: (90, .v (.int .i64 v24)) :: (91, .eref (.slot 89) (v48 * 1)) :: (92, .v (.int .i64 v49)) :: (93, .v (.int .i64 v50)) :: (94, .v (.int .u64 v51)) :: (95, .v (.int .i64 v52)) :: (96, .v (.bool ((decide (v45 < v52))))) :: (97, .v (.bool false)) :: (98, .v undef) :: (99, .v (.bool false)) :: (6, .v (.bool false)) :: [])) (init := [0, 1, 2, 3, 4]) (fin := [31]) (sps := (⟨[1], [], [5], [(.slot 74)]⟩ :: ⟨[2], [], [6], [(.slot 75)]⟩ :: ⟨[5, 1, 6], [], [7], [(.slot 76)]⟩ :: ⟨[7, 1], [], [8], [(.slot 77)]⟩ :: ⟨[0], [], [9], [(.slot 78)]⟩ :: ⟨[2], [], [10], [(.slot 79)]⟩ :: ⟨[9, 10], [], [11], [(.slot 80)]⟩ :: ⟨[11, 9], [], [12], [(.slot 81)]⟩ :: ⟨[12], [], [13], [(.slot 82)]⟩ :: ⟨[13], [], [14], [(.slot 83)]⟩ :: ⟨[8, 14], [], [15], [(.slot 84)]⟩ :: ⟨[1], [], [16], [(.slot 85)]⟩ :: ⟨[3], [], [17], [(.slot 86)]⟩ :: ⟨[16, 1, 17], [], [18], [(.slot 87)]⟩ :: ⟨[18, 1], [], [19], [(.slot 88)]⟩ :: ⟨[0], [], [20], [(.slot 89)]⟩ :: ⟨[3], [], [21], [(.slot 90)]⟩ :: ⟨[20, 21], [], [22], [(.slot 91)]⟩ :: ⟨[22, 20], [], [23], [(.slot 92)]⟩ :: ⟨[23], [], [24], [(.slot 93)]⟩ :: ⟨[24], [], [25], [(.slot 94)]⟩ :: ⟨[19, 25], [], [26], [(.slot 95)]⟩ :: ⟨[15, 26], [], [27], [(.slot 96)]⟩ :: ⟨[27], [], [28], [(.slot 97)]⟩ :: ⟨[28], [], [29], [(.slot 98)]⟩ :: ⟨[28], [], [30], [(.slot 99)]⟩ :: ⟨[30], [], [31], [(.slot 6)]⟩ :: [])) (es' := [(6, .v (.bool false))]) (by kernel_rfl) rfl rfl
                    ⟨st_plain rfl (op_move _ _ _ _ rfl rfl),
                      st_plain rfl (op_move _ _ _ _ rfl rfl),
                      st_plain rfl (op_ix _ _ _ _ _ _ _ _ Try.underlying22 sz3 (by decide) rfl rfl rfl (ix_ok hv39).1 (map_lt (ix_ok hv39).2) rfl),
                      st_plain rfl (op_load_e _ _ _ _ _ _ Try.underlying3 rfl rfl rfl (map_get hv40)),
                      st_plain rfl (op_move _ _ _ _ rfl rfl),
                      st_plain rfl (op_move _ _ _ _ rfl rfl),
                      st_plain rfl (op_ix _ _ _ _ _ _ _ _ Try.underlying22 sz3 (by decide) rfl rfl rfl (ix_ok hv41).1 (map_lt (ix_ok hv41).2) rfl),
                      st_plain rfl (op_load_e _ _ _ _ _ _ Try.underlying3 rfl rfl rfl (map_get hv42)),
                      st_plain rfl (op_bin _ _ _ _ _ rfl rfl (ibind (f := Value.int .i64) (Option.some.inj hv43))),
                      st_plain rfl ((Option.some.inj hv44) ▸ op_conv _ _ _ Try.underlying3 Try.underlying37 rfl),
                      st_plain rfl (op_bin _ _ _ _ _ rfl rfl (shl_ok hv45)),
                      st_plain rfl (op_move _ _ _ _ rfl rfl),
                      st_plain rfl (op_move _ _ _ _ rfl rfl),
                      st_plain rfl (op_ix _ _ _ _ _ _ _ _ Try.underlying22 sz3 (by decide) rfl rfl rfl (ix_ok hv46).1 (map_lt (ix_ok hv46).2) rfl),
                      st_plain rfl (op_load_e _ _ _ _ _ _ Try.underlying3 rfl rfl rfl (map_get hv47)),
                      st_plain rfl (op_move _ _ _ _ rfl rfl),
                      st_plain rfl (op_move _ _ _ _ rfl rfl),
                      st_plain rfl (op_ix _ _ _ _ _ _ _ _ Try.underlying22 sz3 (by decide) rfl rfl rfl (ix_ok hv48).1 (map_lt (ix_ok hv48).2) rfl),
                      st_plain rfl (op_load_e _ _ _ _ _ _ Try.underlying3 rfl rfl rfl (map_get hv49)),
                      st_plain rfl (op_bin _ _ _ _ _ rfl rfl (ibind (f := Value.int .i64) (Option.some.inj hv50))),
                      st_plain rfl ((Option.some.inj hv51) ▸ op_conv _ _ _ Try.underlying3 Try.underlying37 rfl),
                      st_plain rfl (op_bin _ _ _ _ _ rfl rfl (shl_ok hv52)),
                      st_plain rfl (op_bin _ _ _ _ _ rfl rfl rfl),
                      st_plain rfl (op_move _ _ _ _ (congrArg (fun b => AV.v (Value.bool b)) hg9_23) rfl),
                      st_skip 23 97 _ true rfl rfl rfl rfl (List.Mem.head _),
                      st_plain rfl (op_pick _ _ false _ rfl rfl),
                      st_plain rfl (op_assign _ _ _ _ rfl rfl),
                      trivial⟩ ?_
                  exact hl56 _ (Option.some.inj h).symm
          · intro u34 h hl35 hr36
            obtain ⟨v25, hv25, h⟩ := bind_some h
            obtain ⟨v26, hv26, h⟩ := bind_some h
            refine cond_some h (fun hg7_5 h => ?_) (fun hg7_5 h => ?_)
            · refine ht_anyR (by kernel_rfl) hn (El := (_ :: _ :: _ :: _ :: (50, .fl .shr 1 (List.map (Value.int .i64) l)) :: (51, .v (.int .i64 v20)) :: (52, .eref (.slot 50) (v25 * 1)) :: (53, .v (.int .i64 v26)) :: (54, .v (.bool (v26 == 0))) :: (55, .v (.bool true)) :: (56, .v undef) :: (57, .v undef) :: (58, .v undef) :: (59, .v undef) :: (60, .v undef) :: (61, .v (.bool true)) :: (62, .v (.bool true)) :: (63, .v undef) :: (64, .v undef) :: (65, .v undef) :: (66, .v undef) :: (67, .v undef) :: (68, .v undef) :: (69, .v undef) :: (70, .v undef) :: (71, .v undef) :: (72, .v (.bool true)) :: [])) (init := [0, 1, 2, 3]) (fin := [0, 1, 2, 3, 26]) (sps := (⟨[0], [], [4], [(.slot 50)]⟩ :: ⟨[2], [], [5], [(.slot 51)]⟩ :: ⟨[4, 5], [], [6], [(.slot 52)]⟩ :: ⟨[6, 4], [], [7], [(.slot 53)]⟩ :: ⟨[7], [], [8], [(.slot 54)]⟩ :: ⟨[8], [], [9], [(.slot 55)]⟩ :: ⟨[9], [], [10], [(.slot 56)]⟩ :: ⟨[9], [], [11], [(.slot 57)]⟩ :: ⟨[9], [], [12], [(.slot 58)]⟩ :: ⟨[9], [], [13], [(.slot 59)]⟩ :: ⟨[9], [], [14], [(.slot 60)]⟩ :: ⟨[9], [], [15], [(.slot 61)]⟩ :: ⟨[15], [], [16], [(.slot 62)]⟩ :: ⟨[16], [], [17], [(.slot 63)]⟩ :: ⟨[16], [], [18], [(.slot 64)]⟩ :: ⟨[16], [], [19], [(.slot 65)]⟩ :: ⟨[16], [], [20], [(.slot 66)]⟩ :: ⟨[16], [], [21], [(.slot 67)]⟩ :: ⟨[16], [], [22], [(.slot 68)]⟩ :: ⟨[16], [], [23], [(.slot 69)]⟩ :: ⟨[16], [], [24], [(.slot 70)]⟩ :: ⟨[16], [], [25], [(.slot 71)]⟩ :: ⟨[16], [], [26], [(.slot 72)]⟩ :: [])) (es' := [(_, _), (_, _), (_, _), (_, _), (72, .v (.bool true))]) (by kernel_rfl) rfl rfl
                ⟨st_plain rfl (op_move _ _ _ _ rfl rfl),
                  st_plain rfl (op_move _ _ _ _ rfl rfl),
                  st_plain rfl (op_ix _ _ _ _ _ _ _ _ Try.underlying22 sz3 (by decide) rfl rfl rfl (ix_ok hv25).1 (map_lt (ix_ok hv25).2) rfl),
                  st_plain rfl (op_load_e _ _ _ _ _ _ Try.underlying3 rfl rfl rfl (map_get hv26)),
                  st_plain rfl (op_bin _ _ _ _ _ rfl rfl rfl),
                  st_plain rfl (op_move _ _ _ _ (congrArg (fun b => AV.v (Value.bool b)) hg7_5) rfl),
                  st_skip 5 55 _ false rfl rfl rfl rfl (List.Mem.head _),
                  st_skip 5 55 _ false rfl rfl rfl rfl (List.Mem.head _),
                  st_skip 5 55 _ false rfl rfl rfl rfl (List.Mem.head _),
                  st_skip 5 55 _ false rfl rfl rfl rfl (List.Mem.head _),
                  st_skip 5 55 _ false rfl rfl rfl rfl (List.Mem.head _),
                  st_plain rfl (op_pick _ _ true _ rfl rfl),
                  st_plain rfl (op_move _ _ _ _ rfl rfl),
                  st_skip 12 62 _ false rfl rfl rfl rfl (List.Mem.head _),
                  st_skip 12 62 _ false rfl rfl rfl rfl (List.Mem.head _),
                  st_skip 12 62 _ false rfl rfl rfl rfl (List.Mem.head _),
                  st_skip 12 62 _ false rfl rfl rfl rfl (List.Mem.head _),
                  st_skip 12 62 _ false rfl rfl rfl rfl (List.Mem.head _),
                  st_skip 12 62 _ false rfl rfl rfl rfl (List.Mem.head _),
                  st_skip 12 62 _ false rfl rfl rfl rfl (List.Mem.head _),
                  st_skip 12 62 _ false rfl rfl rfl rfl (List.Mem.head _),
                  st_skip 12 62 _ false rfl rfl rfl rfl (List.Mem.head _),
                  st_plain rfl (op_pick _ _ true _ rfl rfl),
                  trivial⟩ ?_
              exact hl35 _ (Option.some.inj h).symm
            · obtain ⟨v27, hv27, h⟩ := bind_some h
              obtain ⟨v28, hv28, h⟩ := bind_some h
              refine cond_some h (fun hg7_12 h => ?_) (fun hg7_12 h => ?_)
              · refine ht_anyR (by kernel_rfl) hn (El := (_ :: _ :: _ :: _ :: (50, .fl .shr 1 (List.map (Value.int .i64) l)) :: (51, .v (.int .i64 v20)) :: (52, .eref (.slot 50) (v25 * 1)) :: (53, .v (.int .i64 v26)) :: (54, .v (.bool (v26 == 0))) :: (55, .v (.bool false)) :: (56, .fl .shr 1 (List.map (Value.int .i64) l)) :: (57, .v (.int .i64 v24)) :: (58, .eref (.slot 56) (v27 * 1)) :: (59, .v (.int .i64 v28)) :: (60, .v (.bool (v28 == 0))) :: (61, .v (.bool (v28 == 0))) :: (62, .v (.bool true)) :: (63, .v undef) :: (64, .v undef) :: (65, .v undef) :: (66, .v undef) :: (67, .v undef) :: (68, .v undef) :: (69, .v undef) :: (70, .v undef) :: (71, .v undef) :: (72, .v (.bool true)) :: [])) (init := [0, 1, 2, 3]) (fin := [0, 1, 2, 3, 26]) (sps := (⟨[0], [], [4], [(.slot 50)]⟩ :: ⟨[2], [], [5], [(.slot 51)]⟩ :: ⟨[4, 5], [], [6], [(.slot 52)]⟩ :: ⟨[6, 4], [], [7], [(.slot 53)]⟩ :: ⟨[7], [], [8], [(.slot 54)]⟩ :: ⟨[8], [], [9], [(.slot 55)]⟩ :: ⟨[9, 0], [], [10], [(.slot 56)]⟩ :: ⟨[9, 3], [], [11], [(.slot 57)]⟩ :: ⟨[9, 10, 11], [], [12], [(.slot 58)]⟩ :: ⟨[9, 12, 10], [], [13], [(.slot 59)]⟩ :: ⟨[9, 13], [], [14], [(.slot 60)]⟩ :: ⟨[9, 14], [], [15], [(.slot 61)]⟩ :: ⟨[15], [], [16], [(.slot 62)]⟩ :: ⟨[16], [], [17], [(.slot 63)]⟩ :: ⟨[16], [], [18], [(.slot 64)]⟩ :: ⟨[16], [], [19], [(.slot 65)]⟩ :: ⟨[16], [], [20], [(.slot 66)]⟩ :: ⟨[16], [], [21], [(.slot 67)]⟩ :: ⟨[16], [], [22], [(.slot 68)]⟩ :: ⟨[16], [], [23], [(.slot 69)]⟩ :: ⟨[16], [], [24], [(.slot 70)]⟩ :: ⟨[16], [], [25], [(.slot 71)]⟩ :: ⟨[16], [], [26], [(.slot 72)]⟩ :: [])) (es' := [(_, _), (_, _), (_, _), (_, _), (72, .v (.bool true))]) (by kernel_rfl) rfl rfl
                  ⟨st_plain rfl (op_move _ _ _ _ rfl rfl),
                    st_plain rfl (op_move _ _ _ _ rfl rfl),
                    st_plain rfl (op_ix _ _ _ _ _ _ _ _ Try.underlying22 sz3 (by decide) rfl rfl rfl (ix_ok hv25).1 (map_lt (ix_ok hv25).2) rfl),
                    st_plain rfl (op_load_e _ _ _ _ _ _ Try.underlying3 rfl rfl rfl (map_get hv26)),
                    st_plain rfl (op_bin _ _ _ _ _ rfl rfl rfl),
                    st_plain rfl (op_move _ _ _ _ (congrArg (fun b => AV.v (Value.bool b)) hg7_5) rfl),
                    st_run 5 55 false rfl rfl rfl (List.Mem.head _) (op_move _ _ _ _ rfl rfl),
                    st_run 5 55 false rfl rfl rfl (List.Mem.head _) (op_move _ _ _ _ rfl rfl),
                    st_run 5 55 false rfl rfl rfl (List.Mem.head _) (op_ix _ _ _ _ _ _ _ _ Try.underlying22 sz3 (by decide) rfl rfl rfl (ix_ok hv27).1 (map_lt (ix_ok hv27).2) rfl),
                    st_run 5 55 false rfl rfl rfl (List.Mem.head _) (op_load_e _ _ _ _ _ _ Try.underlying3 rfl rfl rfl (map_get hv28)),
                    st_run 5 55 false rfl rfl rfl (List.Mem.head _) (op_bin _ _ _ _ _ rfl rfl rfl),
                    st_plain rfl (op_pick _ _ false _ rfl rfl),
                    st_plain rfl (op_move _ _ _ _ (congrArg (fun b => AV.v (Value.bool b)) hg7_12) rfl),
                    st_skip 12 62 _ false rfl rfl rfl rfl (List.Mem.head _),
                    st_skip 12 62 _ false rfl rfl rfl rfl (List.Mem.head _),
                    st_skip 12 62 _ false rfl rfl rfl rfl (List.Mem.head _),
                    st_skip 12 62 _ false rfl rfl rfl rfl (List.Mem.head _),
                    st_skip 12 62 _ false rfl rfl rfl rfl (List.Mem.head _),
                    st_skip 12 62 _ false rfl rfl rfl rfl (List.Mem.head _),
                    st_skip 12 62 _ false rfl rfl rfl rfl (List.Mem.head _),
                    st_skip 12 62 _ false rfl rfl rfl rfl (List.Mem.head _),
                    st_skip 12 62 _ false rfl rfl rfl rfl (List.Mem.head _),
                    st_plain rfl (op_pick _ _ true _ rfl rfl),
                    trivial⟩ ?_
                exact hl35 _ (Option.some.inj h).symm
              · obtain ⟨v29, hv29, h⟩ := bind_some h
                obtain ⟨v30, hv30, h⟩ := bind_some h
                obtain ⟨v31, hv31, h⟩ := bind_some h
                obtain ⟨v32, hv32, h⟩ := bind_some h
                refine ht_anyR (by kernel_rfl) hn (El := (_ :: _ :: _ :: _ :: (50, .fl .shr 1 (List.map (Value.int .i64) l)) :: (51, .v (.int .i64 v20)) :: (52, .eref (.slot 50) (v25 * 1)) :: (53, .v (.int .i64 v26)) :: (54, .v (.bool (v26 == 0))) :: (55, .v (.bool false)) :: (56, .fl .shr 1 (List.map (Value.int .i64) l)) :: (57, .v (.int .i64 v24)) :: (58, .eref (.slot 56) (v27 * 1)) :: (59, .v (.int .i64 v28)) :: (60, .v (.bool (v28 == 0))) :: (61, .v (.bool (v28 == 0))) :: (62, .v (.bool false)) :: (63, .fl .shr 1 (List.map (Value.int .i64) l)) :: (64, .v (.int .i64 v20)) :: (65, .eref (.slot 63) (v29 * 1)) :: (66, .v (.int .i64 v30)) :: (67, .fl .shr 1 (List.map (Value.int .i64) l)) :: (68, .v (.int .i64 v24)) :: (69, .eref (.slot 67) (v31 * 1)) :: (70, .v (.int .i64 v32)) :: (71, .v (.bool ((decide (v32 ≤ v30))))) :: (72, .v (.bool ((decide (v32 ≤ v30))))) :: [])) (init := [0, 1, 2, 3]) (fin := [0, 1, 2, 3, 26]) (sps := (⟨[0], [], [4], [(.slot 50)]⟩ :: ⟨[2], [], [5], [(.slot 51)]⟩ :: ⟨[4, 5], [], [6], [(.slot 52)]⟩ :: ⟨[6, 4], [], [7], [(.slot 53)]⟩ :: ⟨[7], [], [8], [(.slot 54)]⟩ :: ⟨[8], [], [9], [(.slot 55)]⟩ :: ⟨[9, 0], [], [10], [(.slot 56)]⟩ :: ⟨[9, 3], [], [11], [(.slot 57)]⟩ :: ⟨[9, 10, 11], [], [12], [(.slot 58)]⟩ :: ⟨[9, 12, 10], [], [13], [(.slot 59)]⟩ :: ⟨[9, 13], [], [14], [(.slot 60)]⟩ :: ⟨[9, 14], [], [15], [(.slot 61)]⟩ :: ⟨[15], [], [16], [(.slot 62)]⟩ :: ⟨[16, 0], [], [17], [(.slot 63)]⟩ :: ⟨[16, 2], [], [18], [(.slot 64)]⟩ :: ⟨[16, 17, 18], [], [19], [(.slot 65)]⟩ :: ⟨[16, 19, 17], [], [20], [(.slot 66)]⟩ :: ⟨[16, 0], [], [21], [(.slot 67)]⟩ :: ⟨[16, 3], [], [22], [(.slot 68)]⟩ :: ⟨[16, 21, 22], [], [23], [(.slot 69)]⟩ :: ⟨[16, 23, 21], [], [24], [(.slot 70)]⟩ :: ⟨[16, 20, 24], [], [25], [(.slot 71)]⟩ :: ⟨[16, 25], [], [26], [(.slot 72)]⟩ :: [])) (es' := [(_, _), (_, _), (_, _), (_, _), (72, .v (.bool ((decide (v32 ≤ v30)))))]) (by kernel_rfl) rfl rfl
                  ⟨st_plain rfl (op_move _ _ _ _ rfl rfl),
                    st_plain rfl (op_move _ _ _ _ rfl rfl),
                    st_plain rfl (op_ix _ _ _ _ _ _ _ _ Try.underlying22 sz3 (by decide) rfl rfl rfl (ix_ok hv25).1 (map_lt (ix_ok hv25).2) rfl),
                    st_plain rfl (op_load_e _ _ _ _ _ _ Try.underlying3 rfl rfl rfl (map_get hv26)),
                    st_plain rfl (op_bin _ _ _ _ _ rfl rfl rfl),
                    st_plain rfl (op_move _ _ _ _ (congrArg (fun b => AV.v (Value.bool b)) hg7_5) rfl),
                    st_run 5 55 false rfl rfl rfl (List.Mem.head _) (op_move _ _ _ _ rfl rfl),
                    st_run 5 55 false rfl rfl rfl (List.Mem.head _) (op_move _ _ _ _ rfl rfl),
                    st_run 5 55 false rfl rfl rfl (List.Mem.head _) (op_ix _ _ _ _ _ _ _ _ Try.underlying22 sz3 (by decide) rfl rfl rfl (ix_ok hv27).1 (map_lt (ix_ok hv27).2) rfl),
                    st_run 5 55 false rfl rfl rfl (List.Mem.head _) (op_load_e _ _ _ _ _ _ Try.underlying3 rfl rfl rfl (map_get hv28)),
                    st_run 5 55 false rfl rfl rfl (List.Mem.head _) (op_bin _ _ _ _ _ rfl rfl rfl),
                    st_plain rfl (op_pick _ _ false _ rfl rfl),
                    st_plain rfl (op_move _ _ _ _ (congrArg (fun b => AV.v (Value.bool b)) hg7_12) rfl),
                    st_run 12 62 false rfl rfl rfl (List.Mem.head _) (op_move _ _ _ _ rfl rfl),
                    st_run 12 62 false rfl rfl rfl (List.Mem.head _) (op_move _ _ _ _ rfl rfl),
                    st_run 12 62 false rfl rfl rfl (List.Mem.head _) (op_ix _ _ _ _ _ _ _ _ Try.underlying22 sz3 (by decide) rfl rfl rfl (ix_ok hv29).1 (map_lt (ix_ok hv29).2) rfl),
                    st_run 12 62 false rfl rfl rfl (List.Mem.head _) (op_load_e _ _ _ _ _ _ Try.underlying3 rfl rfl rfl (map_get hv30)),
                    st_run 12 62 false rfl rfl rfl (List.Mem.head _) (op_move _ _ _ _ rfl rfl),
                    st_run 12 62 false rfl rfl rfl (List.Mem.head _) (op_move _ _ _ _ rfl rfl),
                    st_run 12 62 false rfl rfl rfl (List.Mem.head _) (op_ix _ _ _ _ _ _ _ _ Try.underlying22 sz3 (by decide) rfl rfl rfl (ix_ok hv31).1 (map_lt (ix_ok hv31).2) rfl),
                    st_run 12 62 false rfl rfl rfl (List.Mem.head _) (op_load_e _ _ _ _ _ _ Try.underlying3 rfl rfl rfl (map_get hv32)),
                    st_run 12 62 false rfl rfl rfl (List.Mem.head _) (op_bin _ _ _ _ _ rfl rfl rfl),
                    st_plain rfl (op_pick _ _ false _ rfl rfl),
                    trivial⟩ ?_
                exact hl35 _ (Option.some.inj h).symm
      · intro u8 h hl9 hr10
        refine cond_some h (fun hg4_2 h => ?_) (fun hg4_2 h => ?_)
        · refine ht_seqR hn (El := [_, _, _, _, _, (22, .v (.int .i64 v6.2)), (23, .v (.bool (v6.2 != 0))), (24, .v (.bool true)), (25, .v undef), (26, .v undef), (27, .v undef), (28, .v undef), (29, .v undef), (30, .v (.bool true))]) (init := [0, 1, 2, 3, 4]) (fin := [0, 1, 2, 3, 4, 13]) (sps := [⟨[4], [], [5], [(.slot 22)]⟩, ⟨[5], [], [6], [(.slot 23)]⟩, ⟨[6], [], [7], [(.slot 24)]⟩, ⟨[7], [], [8], [(.slot 25)]⟩, ⟨[7], [], [9], [(.slot 26)]⟩, ⟨[7], [], [10], [(.slot 27)]⟩, ⟨[7], [], [11], [(.slot 28)]⟩, ⟨[7], [], [12], [(.slot 29)]⟩, ⟨[7], [], [13], [(.slot 30)]⟩]) (es' := [(_, _), (_, _), (_, _), (_, _), (_, _), (30, .v (.bool true))]) (by kernel_rfl) rfl rfl
            ⟨st_plain rfl (op_move _ _ _ _ rfl rfl),
              st_plain rfl (op_bin _ _ _ _ _ rfl rfl rfl),
              st_plain rfl (op_move _ _ _ _ (congrArg (fun b => AV.v (Value.bool b)) hg4_2) rfl),
              st_skip 2 24 _ false rfl rfl rfl rfl (List.Mem.head _),
              st_skip 2 24 _ false rfl rfl rfl rfl (List.Mem.head _),
              st_skip 2 24 _ false rfl rfl rfl rfl (List.Mem.head _),
              st_skip 2 24 _ false rfl rfl rfl rfl (List.Mem.head _),
              st_skip 2 24 _ false rfl rfl rfl rfl (List.Mem.head _),
              st_plain rfl (op_pick _ _ true _ rfl rfl),
              trivial⟩ ?_
          exact hl9 _ (Option.some.inj h).symm
        · refine ht_seqR hn (El := [_, _, _, _, _, (22, .v (.int .i64 v6.2)), (23, .v (.bool (v6.2 != 0))), (24, .v (.bool false)), (25, .same (.slot 7)), (26, .v (.int .i64 (v6.1.length : Int))), (27, .fl .shr 1 (List.map (Value.int .i64) l)), (28, .v (.int .i64 (l.length : Int))), (29, .v (.bool (((v6.1.length : Int) != (l.length : Int))))), (30, .v (.bool (((v6.1.length : Int) != (l.length : Int)))))]) (init := [0, 1, 2, 3, 4]) (fin := [0, 1, 2, 3, 4, 13]) (sps := [⟨[4], [], [5], [(.slot 22)]⟩, ⟨[5], [], [6], [(.slot 23)]⟩, ⟨[6], [], [7], [(.slot 24)]⟩, ⟨[7, 3], [], [8], [(.slot 25)]⟩, ⟨[7, 8, 3], [], [9], [(.slot 26)]⟩, ⟨[7, 0], [], [10], [(.slot 27)]⟩, ⟨[7, 10], [], [11], [(.slot 28)]⟩, ⟨[7, 9, 11], [], [12], [(.slot 29)]⟩, ⟨[7, 12], [], [13], [(.slot 30)]⟩]) (es' := [(_, _), (_, _), (_, _), (_, _), (_, _), (30, .v (.bool (((v6.1.length : Int) != (l.length : Int)))))]) (by kernel_rfl) rfl rfl
            ⟨st_plain rfl (op_move _ _ _ _ rfl rfl),
              st_plain rfl (op_bin _ _ _ _ _ rfl rfl rfl),
              st_plain rfl (op_move _ _ _ _ (congrArg (fun b => AV.v (Value.bool b)) hg4_2) rfl),
              st_run 2 24 false rfl rfl rfl (List.Mem.head _) (op_move _ _ _ _ rfl rfl),
              st_run 2 24 false rfl rfl rfl (List.Mem.head _) (op_len_fl _ _ _ Try.underlying22 rfl (by decide) (map_len _)),
              st_run 2 24 false rfl rfl rfl (List.Mem.head _) (op_move _ _ _ _ rfl rfl),
              st_run 2 24 false rfl rfl rfl (List.Mem.head _) (op_len_fl _ _ _ Try.underlying22 rfl (by decide) (map_len _)),
              st_run 2 24 false rfl rfl rfl (List.Mem.head _) (op_bin _ _ _ _ _ rfl rfl rfl),
              st_plain rfl (op_pick _ _ false _ rfl rfl),
              trivial⟩ ?_
          exact hl9 _ (Option.some.inj h).symm
  · intro u2 h hl3 hr4
    refine cond_some h (fun hg1_3 h => ?_) (fun hg1_3 h => ?_)
    · refine ht_seqR hn (El := [_, _, _, (9, .fl .shr 1 (List.map (Value.int .i64) l)), (10, .v (.int .i64 (l.length : Int))), (11, .v (.bool ((decide (300 < (l.length : Int)))))), (12, .v (.bool true)), (13, .v undef), (14, .v undef), (15, .v undef), (16, .v (.bool true))]) (init := [0, 1, 2]) (fin := [0, 1, 2, 10]) (sps := [⟨[0], [], [3], [(.slot 9)]⟩, ⟨[3], [], [4], [(.slot 10)]⟩, ⟨[4], [], [5], [(.slot 11)]⟩, ⟨[5], [], [6], [(.slot 12)]⟩, ⟨[6], [], [7], [(.slot 13)]⟩, ⟨[6], [], [8], [(.slot 14)]⟩, ⟨[6], [], [9], [(.slot 15)]⟩, ⟨[6], [], [10], [(.slot 16)]⟩]) (es' := [(_, _), (_, _), (_, _), (16, .v (.bool true))]) (by kernel_rfl) rfl rfl
        ⟨st_plain rfl (op_move _ _ _ _ rfl rfl),
          st_plain rfl (op_len_fl _ _ _ Try.underlying22 rfl (by decide) (map_len _)),
          st_plain rfl (op_bin _ _ _ _ _ rfl rfl rfl),
          st_plain rfl (op_move _ _ _ _ (congrArg (fun b => AV.v (Value.bool b)) hg1_3) rfl),
          st_skip 3 12 _ false rfl rfl rfl rfl (List.Mem.head _),
          st_skip 3 12 _ false rfl rfl rfl rfl (List.Mem.head _),
          st_skip 3 12 _ false rfl rfl rfl rfl (List.Mem.head _),
          st_plain rfl (op_pick _ _ true _ rfl rfl),
          trivial⟩ ?_
      exact hl3 _ (Option.some.inj h).symm
    · refine ht_seqR hn (El := [_, _, _, (9, .fl .shr 1 (List.map (Value.int .i64) l)), (10, .v (.int .i64 (l.length : Int))), (11, .v (.bool ((decide (300 < (l.length : Int)))))), (12, .v (.bool false)), (13, .fl .shr 1 (List.map (Value.int .i64) l)), (14, .v (.int .i64 (l.length : Int))), (15, .v (.bool (((l.length : Int) == 0)))), (16, .v (.bool (((l.length : Int) == 0))))]) (init := [0, 1, 2]) (fin := [0, 1, 2, 10]) (sps := [⟨[0], [], [3], [(.slot 9)]⟩, ⟨[3], [], [4], [(.slot 10)]⟩, ⟨[4], [], [5], [(.slot 11)]⟩, ⟨[5], [], [6], [(.slot 12)]⟩, ⟨[6, 0], [], [7], [(.slot 13)]⟩, ⟨[6, 7], [], [8], [(.slot 14)]⟩, ⟨[6, 8], [], [9], [(.slot 15)]⟩, ⟨[6, 9], [], [10], [(.slot 16)]⟩]) (es' := [(_, _), (_, _), (_, _), (16, .v (.bool (((l.length : Int) == 0))))]) (by kernel_rfl) rfl rfl
        ⟨st_plain rfl (op_move _ _ _ _ rfl rfl),
          st_plain rfl (op_len_fl _ _ _ Try.underlying22 rfl (by decide) (map_len _)),
          st_plain rfl (op_bin _ _ _ _ _ rfl rfl rfl),
          st_plain rfl (op_move _ _ _ _ (congrArg (fun b => AV.v (Value.bool b)) hg1_3) rfl),
          st_run 3 12 false rfl rfl rfl (List.Mem.head _) (op_move _ _ _ _ rfl rfl),
          st_run 3 12 false rfl rfl rfl (List.Mem.head _) (op_len_fl _ _ _ Try.underlying22 rfl (by decide) (map_len _)),
          st_run 3 12 false rfl rfl rfl (List.Mem.head _) (op_bin _ _ _ _ _ rfl rfl rfl),
          st_plain rfl (op_pick _ _ false _ rfl rfl),
          trivial⟩ ?_
      exact hl3 _ (Option.some.inj h).symm

set_option maxHeartbeats 1000000 in
theorem ok_wherrylaw02_CanonNoughts (l : (List Int)) (at_ : Int) (r : Bool) (h : Sh.wherrylaw02_CanonNoughts l at_ = some r) : FnOK Try.prog 8 [.fl .shr 1 (List.map (Value.int .i64) l), .v (.int .i64 at_)] (.v (.bool r)) := by
  unfold Sh.wherrylaw02_CanonNoughts at h
  refine fn_ok Try.func8 rfl (Nat.le_of_ble_eq_true rfl) rfl rfl fun g0 hn hio => ?_
  refine ht_seq ?_
  refine ht_seqR hn (El := [_, _, (4, .v (.bool false))]) (init := [0, 1]) (fin := [0, 1]) (sps := [⟨[], [], [2], [(.slot 4)]⟩]) (es' := [(_, _), (_, _)]) (by kernel_rfl) rfl rfl
    ⟨st_plain rfl (op_assign _ _ _ _ rfl rfl),
      trivial⟩ ?_
  refine pt_then ?_
  refine ht_seq ?_
  refine ht_seq ?_
  refine ht_seqR hn (El := [_, _, (10, .fl .shr 1 (List.map (Value.int .i64) l)), (11, .v (.int .i64 (l.length : Int))), (12, .v (.bool ((decide (290 < (l.length : Int))))))]) (init := [0, 1]) (fin := [0, 1, 4]) (sps := [⟨[0], [], [2], [(.slot 10)]⟩, ⟨[2], [], [3], [(.slot 11)]⟩, ⟨[3], [], [4], [(.slot 12)]⟩]) (es' := [(_, _), (_, _), (12, .v (.bool ((decide (290 < (l.length : Int))))))]) (by kernel_rfl) rfl rfl
    ⟨st_plain rfl (op_move _ _ _ _ rfl rfl),
      st_plain rfl (op_len_fl _ _ _ Try.underlying22 rfl (by decide) (map_len _)),
      st_plain rfl (op_bin _ _ _ _ _ rfl rfl rfl),
      trivial⟩ ?_
  refine pt_then ?_
  refine ht_cond _ rfl (fun hb33 => ?_) (fun hb33 => ?_)
  · have h := cond_t hb33 h
    refine ht_seq ?_
    refine ht_seqR hn (El := [_, _, _, (4, .v (.bool true))]) (init := [0, 1, 2]) (fin := [3]) (sps := [⟨[], [], [3], [(.slot 4)]⟩]) (es' := [(4, .v (.bool true))]) (by kernel_rfl) rfl rfl
      ⟨st_plain rfl (op_assign _ _ _ _ rfl rfl),
        trivial⟩ ?_
    refine pt_then ?_
    refine ht_ret ?_
    refine pt_r_then ?_
    obtain rfl := Option.some.inj h
    exact pt_ret hio rfl (.tmp _ _ .nil) rfl rfl
  · have h := cond_f hb33 h
    refine ht_skip ?_
    refine pt_then ?_
    refine ht_seq ?_
    obtain ⟨v2, hv2, h⟩ := bind_some h
    obtain ⟨v3, hv3, h⟩ := bind_some h
    obtain ⟨v4, hv4, h⟩ := bind_some h
    obtain ⟨v5, hv5, h⟩ := bind_some h
    obtain ⟨v6, hv6, h⟩ := bind_some h
    refine ht_seqR hn (El := [_, _, _, (13, .v (.int .i64 at_)), (14, .v (.int .u64 v2)), (15, .fl .shr 1 (List.map (Value.int .i64) l)), (16, .v (.int .i64 (l.length : Int))), (17, .v (.int .i64 v3)), (18, .v (.int .u64 v4)), (19, .v (.int .u64 v5)), (20, .v (.int .i64 v6)), (1, .v (.int .i64 v6))]) (init := [0, 1, 2]) (fin := [0, 11]) (sps := [⟨[1], [], [3], [(.slot 13)]⟩, ⟨[3], [], [4], [(.slot 14)]⟩, ⟨[0], [], [5], [(.slot 15)]⟩, ⟨[5], [], [6], [(.slot 16)]⟩, ⟨[6], [], [7], [(.slot 17)]⟩, ⟨[7], [], [8], [(.slot 18)]⟩, ⟨[4, 8], [], [9], [(.slot 19)]⟩, ⟨[9], [], [10], [(.slot 20)]⟩, ⟨[10], [1], [11], [(.slot 1)]⟩]) (es' := [(_, _), (1, .v (.int .i64 v6))]) (by kernel_rfl) rfl rfl
      ⟨st_plain rfl (op_move _ _ _ _ rfl rfl),
        st_plain rfl ((Option.some.inj hv2) ▸ op_conv _ _ _ Try.underlying3 Try.underlying37 rfl),
        st_plain rfl (op_move _ _ _ _ rfl rfl),
        st_plain rfl (op_len_fl _ _ _ Try.underlying22 rfl (by decide) (map_len _)),
        st_plain rfl (op_bin _ _ _ _ _ rfl rfl (ibind (f := Value.int .i64) (Option.some.inj hv3))),
        st_plain rfl ((Option.some.inj hv4) ▸ op_conv _ _ _ Try.underlying3 Try.underlying37 rfl),
        st_plain rfl (op_bin _ _ _ _ _ rfl rfl (rem_ok hv5)),
        st_plain rfl ((Option.some.inj hv6) ▸ op_conv _ _ _ Try.underlying37 Try.underlying3 rfl),
        st_plain rfl (LOp.drop [_] (op_assign _ _ _ _ rfl rfl)),
        trivial⟩ ?_
    refine pt_then ?_
    refine ht_seq ?_
    refine ht_seqR hn (El := [_, _, (5, .v (.slice none 0 0))]) (init := [0, 1]) (fin := [0, 1, 2]) (sps := [⟨[], [], [2], [(.slot 5)]⟩]) (es' := [(_, _), (_, _), (5, .v (.slice none 0 0))]) (by kernel_rfl) rfl rfl
      ⟨st_plain rfl (op_assign _ _ _ _ rfl rfl),
        trivial⟩ ?_
    refine pt_then ?_
    refine ht_seq ?_
    obtain ⟨v7, hv7, h⟩ := bind_some h
    obtain ⟨v8, hv8, h⟩ := bind_some h
    obtain ⟨v9, hv9, h⟩ := bind_some h
    obtain ⟨v10, hv10, h⟩ := bind_some h
    obtain ⟨v11, hv11, h⟩ := bind_some h
    refine ht_anyR (by kernel_rfl) hn (El := (_ :: _ :: _ :: (21, .v (.slice none 0 0)) :: (22, .fl .shr 1 (List.map (Value.int .i64) l)) :: (23, .v (.int .i64 v6)) :: (24, .fl .shr 1 (List.map (Value.int .i64) v7)) :: (25, .fl (.own 3) 1 (List.map (Value.int .i64) v8)) :: (26, .fl (.own 3) 1 (List.map (Value.int .i64) [0])) :: (27, .fl (.own 3) 1 (List.map (Value.int .i64) v9)) :: (25, .any) :: (28, .fl .shr 1 (List.map (Value.int .i64) l)) :: (29, .v (.int .i64 v6)) :: (30, .fl .shr 1 (List.map (Value.int .i64) v10)) :: (31, .fl (.own 3) 1 (List.map (Value.int .i64) v11)) :: (27, .any) :: (5, .fl (.own 3) 1 (List.map (Value.int .i64) v11)) :: [])) (init := [0, 1, 2]) (fin := [0, 1, 16]) (sps := [⟨[2], [], [3], [(.slot 21)]⟩, ⟨[0], [], [4], [(.slot 22)]⟩, ⟨[1], [], [5], [(.slot 23)]⟩, ⟨[4, 5], [], [6], [(.slot 24)]⟩, ⟨[3, 6], [], [7], [(.slot 25)]⟩, ⟨[], [], [8], [(.slot 26)]⟩, ⟨[8], [7], [10, 9], [(.slot 27)]⟩, ⟨[0], [], [11], [(.slot 28)]⟩, ⟨[1], [], [12], [(.slot 29)]⟩, ⟨[11, 12], [], [13], [(.slot 30)]⟩, ⟨[13], [9], [15, 14], [(.slot 31)]⟩, ⟨[], [2, 14], [16], [(.slot 5)]⟩]) (es' := [(_, _), (_, _), (5, .fl (.own 3) 1 (List.map (Value.int .i64) v11))]) (by kernel_rfl) rfl rfl
      ⟨st_plain rfl (op_move _ _ _ _ rfl rfl),
        st_plain rfl (op_move _ _ _ _ rfl rfl),
        st_plain rfl (op_move _ _ _ _ rfl rfl),
        st_plain rfl (op_sl _ _ _ 0 v6 _ Try.underlying22 sz3 rfl rfl rfl ⟨_, rfl⟩ hv7),
        st_plain rfl (op_app_nil _ _ _ _ el22 rfl rfl (map_len _) hv8 (congrArg (List.map _) (app_nil_eq hv8))),
        st_plain rfl (op_buildSlice _ _ 1 (.int .i64 0) (List.map (Value.int .i64) [0]) [(0, .int .i64 0)] Try.underlying22 sz3 zr3 (fun _ V w o a hv hes => by simp only [List.map_toArray, List.map_cons, List.map_nil]; try rfl) (litfill (by simp [Instr.fill, Value.cells]; rfl) (by simp [List.range, List.range.loop])) (by simp [Value.oneCell']) rfl (by decide) (by decide) (by decide)),
        st_plain rfl (op_app _ _ _ _ _ el22 rfl rfl (map_len _) (map_len _) hv9 ((List.map_append).symm.trans (congrArg (List.map _) (app_eq hv9)))),
        st_plain rfl (op_move _ _ _ _ rfl rfl),
        st_plain rfl (op_move _ _ _ _ rfl rfl),
        st_plain rfl (op_sl _ _ _ v6 (l.length : Int) _ Try.underlying22 sz3 rfl rfl ⟨_, rfl⟩ rfl hv10),
        st_plain rfl (op_app _ _ _ _ _ el22 rfl rfl (map_len _) (map_len _) hv11 ((List.map_append).symm.trans (congrArg (List.map _) (app_eq hv11)))),
        st_plain rfl (LOp.drop [_] (op_assign_take _ _ _ _ rfl)),
        trivial⟩ ?_
    refine pt_then ?_
    refine ht_seq ?_
    obtain ⟨v12, hv12, h⟩ := bind_some h
    refine ht_seqR hn (El := [_, _, _, (33, .fl .shr 1 (List.map (Value.int .i64) l)), (34, .tup [.fl (.own 3) 1 (List.map (Value.int .i64) v12.1), .v (.int .i64 v12.2)]), (32, .tup [.fl (.own 3) 1 (List.map (Value.int .i64) v12.1), .v (.int .i64 v12.2)]), (35, .fl (.own 3) 1 (List.map (Value.int .i64) v12.1)), (32, .tup [.any, .v (.int .i64 v12.2)]), (36, .v (.int .i64 v12.2)), (6, .fl (.own 3) 1 (List.map (Value.int .i64) v12.1)), (7, .v (.int .i64 v12.2))]) (init := [0, 1, 2]) (fin := [0, 1, 2, 9, 10]) (sps := [⟨[0], [], [3], [(.slot 33)]⟩, ⟨[3], [], [4], [(.slot 34)]⟩, ⟨[], [4], [5], [(.slot 32)]⟩, ⟨[], [5], [7, 6], [(.slot 35)]⟩, ⟨[7], [], [8], [(.slot 36)]⟩, ⟨[], [6], [9], [(.slot 6)]⟩, ⟨[8], [], [10], [(.slot 7)]⟩]) (es' := [(_, _), (_, _), (_, _), (6, .fl (.own 3) 1 (List.map (Value.int .i64) v12.1)), (7, .v (.int .i64 v12.2))]) (by kernel_rfl) rfl rfl
      ⟨st_plain rfl (op_move _ _ _ _ rfl rfl),
        st_plain rfl (op_call _ _ 11 _ _ rfl Try.call11 rfl (ok_canon_Codes l _ hv12) rfl rfl),
        st_plain rfl (op_move_take _ _ _ _ rfl),
        st_plain rfl (op_extract_take _ _ _ _ _ rfl (Nat.le_of_ble_eq_true rfl) rfl rfl (by decide) rfl),
        st_plain rfl (op_extract _ _ _ _ _ rfl rfl (Nat.le_of_ble_eq_true rfl) rfl rfl),
        st_plain rfl (op_assign_take _ _ _ _ rfl),
        st_plain rfl (op_assign _ _ _ _ rfl rfl),
        trivial⟩ ?_
    refine pt_then ?_
    refine ht_seq ?_
    obtain ⟨v13, hv13, h⟩ := bind_some h
    refine ht_seqR hn (El := [_, _, _, _, _, (38, .same (.slot 5)), (39, .tup [.fl (.own 3) 1 (List.map (Value.int .i64) v13.1), .v (.int .i64 v13.2)]), (37, .tup [.fl (.own 3) 1 (List.map (Value.int .i64) v13.1), .v (.int .i64 v13.2)]), (40, .fl (.own 3) 1 (List.map (Value.int .i64) v13.1)), (37, .tup [.any, .v (.int .i64 v13.2)]), (41, .v (.int .i64 v13.2)), (8, .fl (.own 3) 1 (List.map (Value.int .i64) v13.1)), (9, .v (.int .i64 v13.2))]) (init := [0, 1, 2, 3, 4]) (fin := [0, 1, 2, 3, 4, 11, 12]) (sps := [⟨[2], [], [5], [(.slot 38)]⟩, ⟨[5, 2], [], [6], [(.slot 39)]⟩, ⟨[], [6], [7], [(.slot 37)]⟩, ⟨[], [7], [9, 8], [(.slot 40)]⟩, ⟨[9], [], [10], [(.slot 41)]⟩, ⟨[], [8], [11], [(.slot 8)]⟩, ⟨[10], [], [12], [(.slot 9)]⟩]) (es' := [(_, _), (_, _), (_, _), (_, _), (_, _), (8, .fl (.own 3) 1 (List.map (Value.int .i64) v13.1)), (9, .v (.int .i64 v13.2))]) (by kernel_rfl) rfl rfl
      ⟨st_plain rfl (op_move _ _ _ _ rfl rfl),
        st_plain rfl (op_call _ _ 11 _ _ rfl Try.call11 rfl (ok_canon_Codes v11 _ hv13) rfl rfl),
        st_plain rfl (op_move_take _ _ _ _ rfl),
        st_plain rfl (op_extract_take _ _ _ _ _ rfl (Nat.le_of_ble_eq_true rfl) rfl rfl (by decide) rfl),
        st_plain rfl (op_extract _ _ _ _ _ rfl rfl (Nat.le_of_ble_eq_true rfl) rfl rfl),
        st_plain rfl (op_assign_take _ _ _ _ rfl),
        st_plain rfl (op_assign _ _ _ _ rfl rfl),
        trivial⟩ ?_
    refine pt_frz 5 hio (es' := [(0, .fl .shr 1 (List.map (Value.int .i64) l)), (1, .v (.int .i64 v6)), (5, .fl (.own 3) 1 (List.map (Value.int .i64) v11)), (6, .fl (.own 3) 1 (List.map (Value.int .i64) v12.1)), (7, .v (.int .i64 v12.2)), (8, .fl .ro 1 (List.map (Value.int .i64) v13.1)), (9, .v (.int .i64 v13.2))]) rfl ?_
    refine pt_then ?_
    refine ht_seq ?_
    refine ht_seq ?_
    refine ht_joinS h (fun (s34 : Bool) => [(1, .v (.int .i64 v6)), (6, .fl (.own 3) 1 (List.map (Value.int .i64) v12.1)), (7, .v (.int .i64 v12.2)), (8, .fl .ro 1 (List.map (Value.int .i64) v13.1)), (58, .v (.bool s34))]) ?_ ?_
    · rintro s34 h
      refine pt_then ?_
      refine ht_cond _ rfl (fun hb38 => ?_) (fun hb38 => ?_)
      · have h := cond_t hb38 h
        refine ht_seq ?_
        refine ht_seqR hn (El := [_, _, _, _, _, (4, .v (.bool false))]) (init := [0, 1, 2, 3, 4]) (fin := [5]) (sps := [⟨[], [], [5], [(.slot 4)]⟩]) (es' := [(4, .v (.bool false))]) (by kernel_rfl) rfl rfl
          ⟨st_plain rfl (op_assign _ _ _ _ rfl rfl),
            trivial⟩ ?_
        refine pt_then ?_
        refine ht_ret ?_
        refine pt_r_then ?_
        obtain rfl := Option.some.inj h
        exact pt_ret hio rfl (.tmp _ _ .nil) rfl rfl
      · have h := cond_f hb38 h
        refine ht_skip ?_
        refine pt_then ?_
        refine ht_seq ?_
        refine ht_seq ?_
        refine ht_seqR hn (El := [_, _, _, _, _, (59, .v (.int .i64 v12.2)), (60, .v (.bool (v12.2 != 0)))]) (init := [0, 1, 2, 3, 4]) (fin := [0, 1, 3, 6]) (sps := [⟨[2], [], [5], [(.slot 59)]⟩, ⟨[5], [], [6], [(.slot 60)]⟩]) (es' := [(_, _), (_, _), (_, _), (60, .v (.bool (v12.2 != 0)))]) (by kernel_rfl) rfl rfl
          ⟨st_plain rfl (op_move _ _ _ _ rfl rfl),
            st_plain rfl (op_bin _ _ _ _ _ rfl rfl rfl),
            trivial⟩ ?_
        refine pt_then ?_
        refine ht_cond _ rfl (fun hb39 => ?_) (fun hb39 => ?_)
        · have h := cond_t hb39 h
          refine ht_seq ?_
          obtain ⟨v24, hv24, h⟩ := bind_some h
          refine ht_seqR hn (El := [_, _, _, _, (61, .v (.bool v24)), (4, .v (.bool v24))]) (init := [0, 1, 2, 3]) (fin := [5]) (sps := [⟨[], [], [4], [(.slot 61)]⟩, ⟨[4], [], [5], [(.slot 4)]⟩]) (es' := [(4, .v (.bool v24))]) (by kernel_rfl) rfl rfl
            ⟨st_plain rfl (op_call _ _ 21 _ _ rfl Try.call21 rfl (ok_wherrylaw02_wakes  _ hv24) rfl rfl),
              st_plain rfl (op_assign _ _ _ _ rfl rfl),
              trivial⟩ ?_
          refine pt_then ?_
          refine ht_ret ?_
          refine pt_r_then ?_
          obtain rfl := Option.some.inj h
          exact pt_ret hio rfl (.tmp _ _ .nil) rfl rfl
        · have h := cond_f hb39 h
          refine ht_skip ?_
          refine pt_then ?_
          refine ht_seq ?_
          refine ht_seq ?_
          refine ht_joinS h (fun (s40 : Bool) => [(1, .v (.int .i64 v6)), (6, .fl (.own 3) 1 (List.map (Value.int .i64) v12.1)), (8, .fl .ro 1 (List.map (Value.int .i64) v13.1)), (74, .v (.bool s40))]) ?_ ?_
          · rintro s40 h
            refine pt_then ?_
            refine ht_cond _ rfl (fun hb44 => ?_) (fun hb44 => ?_)
            · have h := cond_t hb44 h
              refine ht_seq ?_
              refine ht_seqR hn (El := [_, _, _, _, (4, .v (.bool false))]) (init := [0, 1, 2, 3]) (fin := [4]) (sps := [⟨[], [], [4], [(.slot 4)]⟩]) (es' := [(4, .v (.bool false))]) (by kernel_rfl) rfl rfl
                ⟨st_plain rfl (op_assign _ _ _ _ rfl rfl),
                  trivial⟩ ?_
              refine pt_then ?_
              refine ht_ret ?_
              refine pt_r_then ?_
              obtain rfl := Option.some.inj h
              exact pt_ret hio rfl (.tmp _ _ .nil) rfl rfl
            · have h := cond_f hb44 h
              refine ht_skip ?_
              refine pt_then ?_
              refine ht_seq ?_
              refine ht_joinS h (fun (s52 : Bool) => [(4, .v (.bool s52))]) ?_ ?_
              · rintro s52 h
                refine pt_then ?_
                refine ht_ret ?_
                obtain rfl := Option.some.inj h
                exact pt_ret hio rfl (.tmp _ _ .nil) rfl rfl
              · intro u53 h hl54 hr55
                obtain ⟨v45, hv45, h⟩ := bind_some h
                obtain ⟨v46, hv46, h⟩ := bind_some h
                obtain ⟨v47, hv47, h⟩ := bind_some h
                obtain ⟨v48, hv48, h⟩ := bind_some h
                obtain ⟨v49, hv49, h⟩ := bind_some h
                obtain ⟨v50, hv50, h⟩ := bind_some h
                refine cond_some h (fun hg14_11 h => ?_) (fun hg14_11 h => ?_)
                · obtain ⟨v51, hv51, h⟩ := bind_some h
                  refine ht_anyR (by kernel_rfl) hn (El := (_ :: _ :: _ :: _ :: (75, .fl .ro 1 (List.map (Value.int .i64) v13.1)) :: (76, .v (.int .i64 v6)) :: (77, .fl .ro 1 (List.map (Value.int .i64) v45)) :: (78, .fl (.own 3) 1 (List.map (Value.int .i64) v46)) :: (79, .fl .ro 1 (List.map (Value.int .i64) v13.1)) :: (80, .v (.int .i64 v6)) :: (81, .v (.int .i64 v47)) :: (82, .fl .ro 1 (List.map (Value.int .i64) v48)) :: (83, .fl (.own 3) 1 (List.map (Value.int .i64) v49)) :: (78, .any) :: (84, .fl (.own 3) 1 (List.map (Value.int .i64) v12.1)) :: (85, .v (.bool v50)) :: (86, .v (.bool true)) :: (87, .v (.bool v51)) :: (88, .v (.bool v51)) :: (4, .v (.bool v51)) :: [])) (init := [0, 1, 2, 3]) (fin := [19]) (sps := (⟨[2], [], [4], [(.slot 75)]⟩ :: ⟨[0], [], [5], [(.slot 76)]⟩ :: ⟨[4, 5], [], [6], [(.slot 77)]⟩ :: ⟨[6], [], [7], [(.slot 78)]⟩ :: ⟨[2], [], [8], [(.slot 79)]⟩ :: ⟨[0], [], [9], [(.slot 80)]⟩ :: ⟨[9], [], [10], [(.slot 81)]⟩ :: ⟨[8, 10], [], [11], [(.slot 82)]⟩ :: ⟨[11], [7], [13, 12], [(.slot 83)]⟩ :: ⟨[], [1], [14], [(.slot 84)]⟩ :: ⟨[12, 14], [], [15], [(.slot 85)]⟩ :: ⟨[15], [], [16], [(.slot 86)]⟩ :: ⟨[16], [], [17], [(.slot 87)]⟩ :: ⟨[16, 17], [], [18], [(.slot 88)]⟩ :: ⟨[18], [], [19], [(.slot 4)]⟩ :: [])) (es' := [(4, .v (.bool v51))]) (by kernel_rfl) rfl rfl
                    ⟨st_plain rfl (op_move _ _ _ _ rfl rfl),
                      st_plain rfl (op_move _ _ _ _ rfl rfl),
                      st_plain rfl (op_sl _ _ _ 0 v6 _ Try.underlying22 sz3 rfl rfl rfl ⟨_, rfl⟩ hv45),
                      st_plain rfl (op_call _ _ 9 _ _ rfl Try.call9 rfl (ok_wherrykeep_TwinInts v45 _ hv46) rfl rfl),
                      st_plain rfl (op_move _ _ _ _ rfl rfl),
                      st_plain rfl (op_move _ _ _ _ rfl rfl),
                      st_plain rfl (op_bin _ _ _ _ _ rfl rfl (ibind (f := Value.int .i64) (Option.some.inj hv47))),
                      st_plain rfl (op_sl _ _ _ v47 (v13.1.length : Int) _ Try.underlying22 sz3 rfl rfl ⟨_, rfl⟩ rfl hv48),
                      st_plain rfl (op_app _ _ _ _ _ el22 rfl rfl (map_len _) (map_len _) hv49 ((List.map_append).symm.trans (congrArg (List.map _) (app_eq hv49)))),
                      st_plain rfl (op_move_take _ _ _ _ rfl),
                      st_plain rfl (op_call _ _ 19 _ _ rfl Try.call19 rfl (ok_wherrykeep_Ints v49 v12.1 _ hv50) rfl rfl),
                      st_plain rfl (op_move _ _ _ _ (congrArg (fun b => AV.v (Value.bool b)) hg14_11) rfl),
                      st_run 11 86 true rfl rfl rfl (List.Mem.head _) (op_call _ _ 21 _ _ rfl Try.call21 rfl (ok_wherrylaw02_wakes  _ hv51) rfl rfl),
                      st_plain rfl (op_pick _ _ true _ rfl rfl),
                      st_plain rfl (op_assign _ _ _ _ rfl rfl),
                      trivial⟩ ?_
                  exact hl54 _ (Option.some.inj h).symm
                · refine ht_anyR (by kernel_rfl) hn (El := (_ :: _ :: _ :: _ :: (75, .fl .ro 1 (List.map (Value.int .i64) v13.1)) :: (76, .v (.int .i64 v6)) :: (77, .fl .ro 1 (List.map (Value.int .i64) v45)) :: (78, .fl (.own 3) 1 (List.map (Value.int .i64) v46)) :: (79, .fl .ro 1 (List.map (Value.int .i64) v13.1)) :: (80, .v (.int .i64 v6)) :: (81, .v (.int .i64 v47)) :: (82, .fl .ro 1 (List.map (Value.int .i64) v48)) :: (83, .fl (.own 3) 1 (List.map (Value.int .i64) v49)) :: (78, .any) :: (84, .fl (.own 3) 1 (List.map (Value.int .i64) v12.1)) :: (85, .v (.bool v50)) :: (86, .v (.bool false)) :: (87, .v undef) :: (88, .v (.bool false)) :: (4, .v (.bool false)) :: [])) (init := [0, 1, 2, 3]) (fin := [19]) (sps := (⟨[2], [], [4], [(.slot 75)]⟩ :: ⟨[0], [], [5], [(.slot 76)]⟩ :: ⟨[4, 5], [], [6], [(.slot 77)]⟩ :: ⟨[6], [], [7], [(.slot 78)]⟩ :: ⟨[2], [], [8], [(.slot 79)]⟩ :: ⟨[0], [], [9], [(.slot 80)]⟩ :: ⟨[9], [], [10], [(.slot 81)]⟩ :: ⟨[8, 10], [], [11], [(.slot 82)]⟩ :: ⟨[11], [7], [13, 12], [(.slot 83)]⟩ :: ⟨[], [1], [14], [(.slot 84)]⟩ :: ⟨[12, 14], [], [15], [(.slot 85)]⟩ :: ⟨[15], [], [16], [(.slot 86)]⟩ :: ⟨[16], [], [17], [(.slot 87)]⟩ :: ⟨[16], [], [18], [(.slot 88)]⟩ :: ⟨[18], [], [19], [(.slot 4)]⟩ :: [])) (es' := [(4, .v (.bool false))]) (by kernel_rfl) rfl rfl
                    ⟨st_plain rfl (op_move _ _ _ _ rfl rfl),
                      st_plain rfl (op_move _ _ _ _ rfl rfl),
                      st_plain rfl (op_sl _ _ _ 0 v6 _ Try.underlying22 sz3 rfl rfl rfl ⟨_, rfl⟩ hv45),
                      st_plain rfl (op_call _ _ 9 _ _ rfl Try.call9 rfl (ok_wherrykeep_TwinInts v45 _ hv46) rfl rfl),
                      st_plain rfl (op_move _ _ _ _ rfl rfl),
                      st_plain rfl (op_move _ _ _ _ rfl rfl),
                      st_plain rfl (op_bin _ _ _ _ _ rfl rfl (ibind (f := Value.int .i64) (Option.some.inj hv47))),
                      st_plain rfl (op_sl _ _ _ v47 (v13.1.length : Int) _ Try.underlying22 sz3 rfl rfl ⟨_, rfl⟩ rfl hv48),
                      st_plain rfl (op_app _ _ _ _ _ el22 rfl rfl (map_len _) (map_len _) hv49 ((List.map_append).symm.trans (congrArg (List.map _) (app_eq hv49)))),
                      st_plain rfl (op_move_take _ _ _ _ rfl),
                      st_plain rfl (op_call _ _ 19 _ _ rfl Try.call19 rfl (ok_wherrykeep_Ints v49 v12.1 _ hv50) rfl rfl),
                      st_plain rfl (op_move _ _ _ _ (congrArg (fun b => AV.v (Value.bool b)) hg14_11) rfl),
                      st_skip 11 86 _ true rfl rfl rfl rfl (List.Mem.head _),
                      st_plain rfl (op_pick _ _ false _ rfl rfl),
                      st_plain rfl (op_assign _ _ _ _ rfl rfl),
                      trivial⟩ ?_
                  exact hl54 _ (Option.some.inj h).symm
          · intro u41 h hl42 hr43
            obtain ⟨v25, hv25, h⟩ := bind_some h
            refine cond_some h (fun hg12_6 h => ?_) (fun hg12_6 h => ?_)
            · refine ht_seqR hn (El := (_ :: _ :: _ :: _ :: (62, .fl .ro 1 (List.map (Value.int .i64) v13.1)) :: (63, .v (.int .i64 (v13.1.length : Int))) :: (64, .same (.slot 6)) :: (65, .v (.int .i64 (v12.1.length : Int))) :: (66, .v (.int .i64 v25)) :: (67, .v (.bool (((v13.1.length : Int) != v25)))) :: (68, .v (.bool true)) :: (69, .v undef) :: (70, .v undef) :: (71, .v undef) :: (72, .v undef) :: (73, .v undef) :: (74, .v (.bool true)) :: [])) (init := [0, 1, 2, 3]) (fin := [0, 1, 2, 16]) (sps := [⟨[2], [], [4], [(.slot 62)]⟩, ⟨[4], [], [5], [(.slot 63)]⟩, ⟨[1], [], [6], [(.slot 64)]⟩, ⟨[6, 1], [], [7], [(.slot 65)]⟩, ⟨[7], [], [8], [(.slot 66)]⟩, ⟨[5, 8], [], [9], [(.slot 67)]⟩, ⟨[9], [], [10], [(.slot 68)]⟩, ⟨[10], [], [11], [(.slot 69)]⟩, ⟨[10], [], [12], [(.slot 70)]⟩, ⟨[10], [], [13], [(.slot 71)]⟩, ⟨[10], [], [14], [(.slot 72)]⟩, ⟨[10], [], [15], [(.slot 73)]⟩, ⟨[10], [], [16], [(.slot 74)]⟩]) (es' := [(_, _), (_, _), (_, _), (74, .v (.bool true))]) (by kernel_rfl) rfl rfl
                ⟨st_plain rfl (op_move _ _ _ _ rfl rfl),
                  st_plain rfl (op_len_fl _ _ _ Try.underlying22 rfl (by decide) (map_len _)),
                  st_plain rfl (op_move _ _ _ _ rfl rfl),
                  st_plain rfl (op_len_fl _ _ _ Try.underlying22 rfl (by decide) (map_len _)),
                  st_plain rfl (op_bin _ _ _ _ _ rfl rfl (ibind (f := Value.int .i64) (Option.some.inj hv25))),
                  st_plain rfl (op_bin _ _ _ _ _ rfl rfl rfl),
                  st_plain rfl (op_move _ _ _ _ (congrArg (fun b => AV.v (Value.bool b)) hg12_6) rfl),
                  st_skip 6 68 _ false rfl rfl rfl rfl (List.Mem.head _),
                  st_skip 6 68 _ false rfl rfl rfl rfl (List.Mem.head _),
                  st_skip 6 68 _ false rfl rfl rfl rfl (List.Mem.head _),
                  st_skip 6 68 _ false rfl rfl rfl rfl (List.Mem.head _),
                  st_skip 6 68 _ false rfl rfl rfl rfl (List.Mem.head _),
                  st_plain rfl (op_pick _ _ true _ rfl rfl),
                  trivial⟩ ?_
              exact hl42 _ (Option.some.inj h).symm
            · obtain ⟨v26, hv26, h⟩ := bind_some h
              obtain ⟨v27, hv27, h⟩ := bind_some h
              refine ht_seqR hn (El := (_ :: _ :: _ :: _ :: (62, .fl .ro 1 (List.map (Value.int .i64) v13.1)) :: (63, .v (.int .i64 (v13.1.length : Int))) :: (64, .same (.slot 6)) :: (65, .v (.int .i64 (v12.1.length : Int))) :: (66, .v (.int .i64 v25)) :: (67, .v (.bool (((v13.1.length : Int) != v25)))) :: (68, .v (.bool false)) :: (69, .fl .ro 1 (List.map (Value.int .i64) v13.1)) :: (70, .v (.int .i64 v6)) :: (71, .eref (.slot 69) (v26 * 1)) :: (72, .v (.int .i64 v27)) :: (73, .v (.bool (v27 != 0))) :: (74, .v (.bool (v27 != 0))) :: [])) (init := [0, 1, 2, 3]) (fin := [0, 1, 2, 16]) (sps := [⟨[2], [], [4], [(.slot 62)]⟩, ⟨[4], [], [5], [(.slot 63)]⟩, ⟨[1], [], [6], [(.slot 64)]⟩, ⟨[6, 1], [], [7], [(.slot 65)]⟩, ⟨[7], [], [8], [(.slot 66)]⟩, ⟨[5, 8], [], [9], [(.slot 67)]⟩, ⟨[9], [], [10], [(.slot 68)]⟩, ⟨[10, 2], [], [11], [(.slot 69)]⟩, ⟨[10, 0], [], [12], [(.slot 70)]⟩, ⟨[10, 11, 12], [], [13], [(.slot 71)]⟩, ⟨[10, 13, 11], [], [14], [(.slot 72)]⟩, ⟨[10, 14], [], [15], [(.slot 73)]⟩, ⟨[10, 15], [], [16], [(.slot 74)]⟩]) (es' := [(_, _), (_, _), (_, _), (74, .v (.bool (v27 != 0)))]) (by kernel_rfl) rfl rfl
                ⟨st_plain rfl (op_move _ _ _ _ rfl rfl),
                  st_plain rfl (op_len_fl _ _ _ Try.underlying22 rfl (by decide) (map_len _)),
                  st_plain rfl (op_move _ _ _ _ rfl rfl),
                  st_plain rfl (op_len_fl _ _ _ Try.underlying22 rfl (by decide) (map_len _)),
                  st_plain rfl (op_bin _ _ _ _ _ rfl rfl (ibind (f := Value.int .i64) (Option.some.inj hv25))),
                  st_plain rfl (op_bin _ _ _ _ _ rfl rfl rfl),
                  st_plain rfl (op_move _ _ _ _ (congrArg (fun b => AV.v (Value.bool b)) hg12_6) rfl),
                  st_run 6 68 false rfl rfl rfl (List.Mem.head _) (op_move _ _ _ _ rfl rfl),
                  st_run 6 68 false rfl rfl rfl (List.Mem.head _) (op_move _ _ _ _ rfl rfl),
                  st_run 6 68 false rfl rfl rfl (List.Mem.head _) (op_ix _ _ _ _ _ _ _ _ Try.underlying22 sz3 (by decide) rfl rfl rfl (ix_ok hv26).1 (map_lt (ix_ok hv26).2) rfl),
                  st_run 6 68 false rfl rfl rfl (List.Mem.head _) (op_load_e _ _ _ _ _ _ Try.underlying3 rfl rfl rfl (map_get hv27)),
                  st_run 6 68 false rfl rfl rfl (List.Mem.head _) (op_bin _ _ _ _ _ rfl rfl rfl),
                  st_plain rfl (op_pick _ _ false _ rfl rfl),
                  trivial⟩ ?_
              exact hl42 _ (Option.some.inj h).symm
    · intro u35 h hl36 hr37
      refine cond_some h (fun hg8_3 h => ?_) (fun hg8_3 h => ?_)
      · refine ht_seqR hn (El := (_ :: _ :: _ :: _ :: _ :: _ :: _ :: (42, .v (.int .i64 v12.2)) :: (43, .v (.int .i64 v13.2)) :: (44, .v (.bool (v12.2 != v13.2))) :: (45, .v (.bool true)) :: (46, .v undef) :: (47, .v undef) :: (48, .v undef) :: (49, .v undef) :: (50, .v undef) :: (51, .v (.bool true)) :: (52, .v (.bool true)) :: (53, .v undef) :: (54, .v undef) :: (55, .v undef) :: (56, .v undef) :: (57, .v undef) :: (58, .v (.bool true)) :: [])) (init := [0, 1, 2, 3, 4, 5, 6]) (fin := [1, 3, 4, 5, 23]) (sps := (⟨[4], [], [7], [(.slot 42)]⟩ :: ⟨[6], [], [8], [(.slot 43)]⟩ :: ⟨[7, 8], [], [9], [(.slot 44)]⟩ :: ⟨[9], [], [10], [(.slot 45)]⟩ :: ⟨[10], [], [11], [(.slot 46)]⟩ :: ⟨[10], [], [12], [(.slot 47)]⟩ :: ⟨[10], [], [13], [(.slot 48)]⟩ :: ⟨[10], [], [14], [(.slot 49)]⟩ :: ⟨[10], [], [15], [(.slot 50)]⟩ :: ⟨[10], [], [16], [(.slot 51)]⟩ :: ⟨[16], [], [17], [(.slot 52)]⟩ :: ⟨[17], [], [18], [(.slot 53)]⟩ :: ⟨[17], [], [19], [(.slot 54)]⟩ :: ⟨[17], [], [20], [(.slot 55)]⟩ :: ⟨[17], [], [21], [(.slot 56)]⟩ :: ⟨[17], [], [22], [(.slot 57)]⟩ :: ⟨[17], [], [23], [(.slot 58)]⟩ :: [])) (es' := [(_, _), (_, _), (_, _), (_, _), (58, .v (.bool true))]) (by kernel_rfl) rfl rfl
          ⟨st_plain rfl (op_move _ _ _ _ rfl rfl),
            st_plain rfl (op_move _ _ _ _ rfl rfl),
            st_plain rfl (op_bin _ _ _ _ _ rfl rfl rfl),
            st_plain rfl (op_move _ _ _ _ (congrArg (fun b => AV.v (Value.bool b)) hg8_3) rfl),
            st_skip 3 45 _ false rfl rfl rfl rfl (List.Mem.head _),
            st_skip 3 45 _ false rfl rfl rfl rfl (List.Mem.head _),
            st_skip 3 45 _ false rfl rfl rfl rfl (List.Mem.head _),
            st_skip 3 45 _ false rfl rfl rfl rfl (List.Mem.head _),
            st_skip 3 45 _ false rfl rfl rfl rfl (List.Mem.head _),
            st_plain rfl (op_pick _ _ true _ rfl rfl),
            st_plain rfl (op_move _ _ _ _ rfl rfl),
            st_skip 10 52 _ false rfl rfl rfl rfl (List.Mem.head _),
            st_skip 10 52 _ false rfl rfl rfl rfl (List.Mem.head _),
            st_skip 10 52 _ false rfl rfl rfl rfl (List.Mem.head _),
            st_skip 10 52 _ false rfl rfl rfl rfl (List.Mem.head _),
            st_skip 10 52 _ false rfl rfl rfl rfl (List.Mem.head _),
            st_plain rfl (op_pick _ _ true _ rfl rfl),
            trivial⟩ ?_
        exact hl36 _ (Option.some.inj h).symm
      · obtain ⟨v14, hv14, h⟩ := bind_some h
        obtain ⟨v15, hv15, h⟩ := bind_some h
        refine cond_some h (fun hg8_10 h => ?_) (fun hg8_10 h => ?_)
        · refine ht_seqR hn (El := (_ :: _ :: _ :: _ :: _ :: _ :: _ :: (42, .v (.int .i64 v12.2)) :: (43, .v (.int .i64 v13.2)) :: (44, .v (.bool (v12.2 != v13.2))) :: (45, .v (.bool false)) :: (46, .fl .shr 1 (List.map (Value.int .i64) l)) :: (47, .v (.int .i64 v14)) :: (48, .same (.slot 5)) :: (49, .v (.int .i64 v15)) :: (50, .v (.bool (v14 != v15))) :: (51, .v (.bool (v14 != v15))) :: (52, .v (.bool true)) :: (53, .v undef) :: (54, .v undef) :: (55, .v undef) :: (56, .v undef) :: (57, .v undef) :: (58, .v (.bool true)) :: [])) (init := [0, 1, 2, 3, 4, 5, 6]) (fin := [1, 3, 4, 5, 23]) (sps := (⟨[4], [], [7], [(.slot 42)]⟩ :: ⟨[6], [], [8], [(.slot 43)]⟩ :: ⟨[7, 8], [], [9], [(.slot 44)]⟩ :: ⟨[9], [], [10], [(.slot 45)]⟩ :: ⟨[10, 0], [], [11], [(.slot 46)]⟩ :: ⟨[10, 11], [], [12], [(.slot 47)]⟩ :: ⟨[10, 2], [], [13], [(.slot 48)]⟩ :: ⟨[10, 13, 2], [], [14], [(.slot 49)]⟩ :: ⟨[10, 12, 14], [], [15], [(.slot 50)]⟩ :: ⟨[10, 15], [], [16], [(.slot 51)]⟩ :: ⟨[16], [], [17], [(.slot 52)]⟩ :: ⟨[17], [], [18], [(.slot 53)]⟩ :: ⟨[17], [], [19], [(.slot 54)]⟩ :: ⟨[17], [], [20], [(.slot 55)]⟩ :: ⟨[17], [], [21], [(.slot 56)]⟩ :: ⟨[17], [], [22], [(.slot 57)]⟩ :: ⟨[17], [], [23], [(.slot 58)]⟩ :: [])) (es' := [(_, _), (_, _), (_, _), (_, _), (58, .v (.bool true))]) (by kernel_rfl) rfl rfl
            ⟨st_plain rfl (op_move _ _ _ _ rfl rfl),
              st_plain rfl (op_move _ _ _ _ rfl rfl),
              st_plain rfl (op_bin _ _ _ _ _ rfl rfl rfl),
              st_plain rfl (op_move _ _ _ _ (congrArg (fun b => AV.v (Value.bool b)) hg8_3) rfl),
              st_run 3 45 false rfl rfl rfl (List.Mem.head _) (op_move _ _ _ _ rfl rfl),
              st_run 3 45 false rfl rfl rfl (List.Mem.head _) (op_call _ _ 17 _ _ rfl Try.call17 rfl (ok_canon_Weigh l _ hv14) rfl rfl),
              st_run 3 45 false rfl rfl rfl (List.Mem.head _) (op_move _ _ _ _ rfl rfl),
              st_run 3 45 false rfl rfl rfl (List.Mem.head _) (op_call _ _ 17 _ _ rfl Try.call17 rfl (ok_canon_Weigh v11 _ hv15) rfl rfl),
              st_run 3 45 false rfl rfl rfl (List.Mem.head _) (op_bin _ _ _ _ _ rfl rfl rfl),
              st_plain rfl (op_pick _ _ false _ rfl rfl),
              st_plain rfl (op_move _ _ _ _ (congrArg (fun b => AV.v (Value.bool b)) hg8_10) rfl),
              st_skip 10 52 _ false rfl rfl rfl rfl (List.Mem.head _),
              st_skip 10 52 _ false rfl rfl rfl rfl (List.Mem.head _),
              st_skip 10 52 _ false rfl rfl rfl rfl (List.Mem.head _),
              st_skip 10 52 _ false rfl rfl rfl rfl (List.Mem.head _),
              st_skip 10 52 _ false rfl rfl rfl rfl (List.Mem.head _),
              st_plain rfl (op_pick _ _ true _ rfl rfl),
              trivial⟩ ?_
          exact hl36 _ (Option.some.inj h).symm
        · obtain ⟨v16, hv16, h⟩ := bind_some h
          obtain ⟨v17, hv17, h⟩ := bind_some h
          refine ht_seqR hn (El := (_ :: _ :: _ :: _ :: _ :: _ :: _ :: (42, .v (.int .i64 v12.2)) :: (43, .v (.int .i64 v13.2)) :: (44, .v (.bool (v12.2 != v13.2))) :: (45, .v (.bool false)) :: (46, .fl .shr 1 (List.map (Value.int .i64) l)) :: (47, .v (.int .i64 v14)) :: (48, .same (.slot 5)) :: (49, .v (.int .i64 v15)) :: (50, .v (.bool (v14 != v15))) :: (51, .v (.bool (v14 != v15))) :: (52, .v (.bool false)) :: (53, .fl .shr 1 (List.map (Value.int .i64) l)) :: (54, .v (.int .i64 v16)) :: (55, .fl (.own 3) 1 (List.map (Value.int .i64) v11)) :: (56, .v (.int .i64 v17)) :: (57, .v (.bool (v16 != v17))) :: (58, .v (.bool (v16 != v17))) :: [])) (init := [0, 1, 2, 3, 4, 5, 6]) (fin := [1, 3, 4, 5, 23]) (sps := (⟨[4], [], [7], [(.slot 42)]⟩ :: ⟨[6], [], [8], [(.slot 43)]⟩ :: ⟨[7, 8], [], [9], [(.slot 44)]⟩ :: ⟨[9], [], [10], [(.slot 45)]⟩ :: ⟨[10, 0], [], [11], [(.slot 46)]⟩ :: ⟨[10, 11], [], [12], [(.slot 47)]⟩ :: ⟨[10, 2], [], [13], [(.slot 48)]⟩ :: ⟨[10, 13, 2], [], [14], [(.slot 49)]⟩ :: ⟨[10, 12, 14], [], [15], [(.slot 50)]⟩ :: ⟨[10, 15], [], [16], [(.slot 51)]⟩ :: ⟨[16], [], [17], [(.slot 52)]⟩ :: ⟨[17, 0], [], [18], [(.slot 53)]⟩ :: ⟨[17, 18], [], [19], [(.slot 54)]⟩ :: ⟨[17], [13, 2], [20], [(.slot 55)]⟩ :: ⟨[17, 20], [], [21], [(.slot 56)]⟩ :: ⟨[17, 19, 21], [], [22], [(.slot 57)]⟩ :: ⟨[17, 22], [], [23], [(.slot 58)]⟩ :: [])) (es' := [(_, _), (_, _), (_, _), (_, _), (58, .v (.bool (v16 != v17)))]) (by kernel_rfl) rfl rfl
            ⟨st_plain rfl (op_move _ _ _ _ rfl rfl),
              st_plain rfl (op_move _ _ _ _ rfl rfl),
              st_plain rfl (op_bin _ _ _ _ _ rfl rfl rfl),
              st_plain rfl (op_move _ _ _ _ (congrArg (fun b => AV.v (Value.bool b)) hg8_3) rfl),
              st_run 3 45 false rfl rfl rfl (List.Mem.head _) (op_move _ _ _ _ rfl rfl),
              st_run 3 45 false rfl rfl rfl (List.Mem.head _) (op_call _ _ 17 _ _ rfl Try.call17 rfl (ok_canon_Weigh l _ hv14) rfl rfl),
              st_run 3 45 false rfl rfl rfl (List.Mem.head _) (op_move _ _ _ _ rfl rfl),
              st_run 3 45 false rfl rfl rfl (List.Mem.head _) (op_call _ _ 17 _ _ rfl Try.call17 rfl (ok_canon_Weigh v11 _ hv15) rfl rfl),
              st_run 3 45 false rfl rfl rfl (List.Mem.head _) (op_bin _ _ _ _ _ rfl rfl rfl),
              st_plain rfl (op_pick _ _ false _ rfl rfl),
              st_plain rfl (op_move _ _ _ _ (congrArg (fun b => AV.v (Value.bool b)) hg8_10) rfl),
              st_run 10 52 false rfl rfl rfl (List.Mem.head _) (op_move _ _ _ _ rfl rfl),
              st_run 10 52 false rfl rfl rfl (List.Mem.head _) (op_call _ _ 15 _ _ rfl Try.call15 rfl (ok_canon_Check l _ hv16) rfl rfl),
              st_run 10 52 false rfl rfl rfl (List.Mem.head _) (LOp.drop [_] (op_move_take _ _ _ _ rfl)),
              st_run 10 52 false rfl rfl rfl (List.Mem.head _) (op_call _ _ 15 _ _ rfl Try.call15 rfl (ok_canon_Check v11 _ hv17) rfl rfl),
              st_run 10 52 false rfl rfl rfl (List.Mem.head _) (op_bin _ _ _ _ _ rfl rfl rfl),
              st_plain rfl (op_pick _ _ false _ rfl rfl),
              trivial⟩ ?_
          exact hl36 _ (Option.some.inj h).symm

end Go.Proofs.Ytjnihhkkaioahaa
