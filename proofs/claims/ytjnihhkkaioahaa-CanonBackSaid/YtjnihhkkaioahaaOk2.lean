/-
  The model's runs are what is told in Lean.
-/
import Derived.Test.YtjnihhkkaioahaaProg
import Derived.KernelRfl
import Derived.Test.YtjnihhkkaioahaaOk1
set_option linter.unusedVariables false
set_option linter.unusedSimpArgs false
namespace Go.Proofs.Ytjnihhkkaioahaa
open Go.Abs Go.Abs.Sh

set_option maxHeartbeats 1000000 in
theorem ok_wherrykeep_Ints (a : (List Int)) (b : (List Int)) (r : Bool) (h : Sh.wherrykeep_Ints a b = some r) : FnOK Try.prog 19 [.fl .shr 1 (List.map (Value.int .i64) a), .fl .shr 1 (List.map (Value.int .i64) b)] (.v (.bool r)) := by
  unfold Sh.wherrykeep_Ints at h
  refine fn_ok Try.func19 rfl (Nat.le_of_ble_eq_true rfl) rfl rfl fun g0 hn hio => ?_
  refine ht_seq ?_
  refine ht_seqR hn (El := [_, _, (4, .v (.bool false))]) (init := [0, 1]) (fin := [0, 1]) (sps := [⟨[], [], [2], [(.slot 4)]⟩]) (es' := [(_, _), (_, _)]) (by kernel_rfl) rfl rfl
    ⟨st_plain rfl (op_assign _ _ _ _ rfl rfl),
      trivial⟩ ?_
  refine pt_then ?_
  refine ht_seq ?_
  refine ht_seq ?_
  refine ht_seqR hn (El := [_, _, (6, .fl .shr 1 (List.map (Value.int .i64) a)), (7, .v (.int .i64 (a.length : Int))), (8, .fl .shr 1 (List.map (Value.int .i64) b)), (9, .v (.int .i64 (b.length : Int))), (10, .v (.bool (((a.length : Int) != (b.length : Int)))))]) (init := [0, 1]) (fin := [0, 1, 6]) (sps := [⟨[0], [], [2], [(.slot 6)]⟩, ⟨[2], [], [3], [(.slot 7)]⟩, ⟨[1], [], [4], [(.slot 8)]⟩, ⟨[4], [], [5], [(.slot 9)]⟩, ⟨[3, 5], [], [6], [(.slot 10)]⟩]) (es' := [(_, _), (_, _), (10, .v (.bool (((a.length : Int) != (b.length : Int)))))]) (by kernel_rfl) rfl rfl
    ⟨st_plain rfl (op_move _ _ _ _ rfl rfl),
      st_plain rfl (op_len_fl _ _ _ Try.underlying22 rfl (by decide) (map_len _)),
      st_plain rfl (op_move _ _ _ _ rfl rfl),
      st_plain rfl (op_len_fl _ _ _ Try.underlying22 rfl (by decide) (map_len _)),
      st_plain rfl (op_bin _ _ _ _ _ rfl rfl rfl),
      trivial⟩ ?_
  refine pt_then ?_
  refine ht_cond _ rfl (fun hb1 => ?_) (fun hb1 => ?_)
  · have h := cond_t hb1 h
    refine ht_seq ?_
    refine ht_seqR hn (El := [_, _, _, (4, .v (.bool false))]) (init := [0, 1, 2]) (fin := [3]) (sps := [⟨[], [], [3], [(.slot 4)]⟩]) (es' := [(4, .v (.bool false))]) (by kernel_rfl) rfl rfl
      ⟨st_plain rfl (op_assign _ _ _ _ rfl rfl),
        trivial⟩ ?_
    refine pt_then ?_
    refine ht_ret ?_
    refine pt_r_then ?_
    obtain rfl := Option.some.inj h
    exact pt_ret hio rfl (.tmp _ _ .nil) rfl rfl
  · have h := cond_f hb1 h
    refine ht_skip ?_
    refine pt_then ?_
    refine ht_seq ?_
    refine ht_seq ?_
    refine ht_seqR hn (El := [_, _, _, (5, .v (.int .i64 0))]) (init := [0, 1, 2]) (fin := [0, 1, 3]) (sps := [⟨[], [], [3], [(.slot 5)]⟩]) (es' := [(_, _), (_, _), (5, .v (.int .i64 0))]) (by kernel_rfl) rfl rfl
      ⟨st_plain rfl (op_assign _ _ _ _ rfl rfl),
        trivial⟩ ?_
    refine pt_then ?_
    refine ht_loopS h (fun (s12 : Int) => [(0, .fl .shr 1 (List.map (Value.int .i64) a)), (1, .fl .shr 1 (List.map (Value.int .i64) b)), (5, .v (.int .i64 s12))]) (fun (() : Unit) => []) ?_ ?_
    · rintro ⟨⟩ h
      refine pt_then ?_
      refine ht_seq ?_
      refine ht_seqR hn (El := [(4, .v (.bool true))]) (init := []) (fin := [0]) (sps := [⟨[], [], [0], [(.slot 4)]⟩]) (es' := [(4, .v (.bool true))]) (by kernel_rfl) rfl rfl
        ⟨st_plain rfl (op_assign _ _ _ _ rfl rfl),
          trivial⟩ ?_
      refine pt_then ?_
      refine ht_ret ?_
      obtain rfl := Option.some.inj h
      exact pt_ret hio rfl (.tmp _ _ .nil) rfl rfl
    · rintro u15 hl16 hr17 s12 rr20 h ho18
      refine ht_seq ?_
      refine ht_seq ?_
      refine ht_seqR hn (El := [_, _, _, (11, .v (.int .i64 s12)), (12, .fl .shr 1 (List.map (Value.int .i64) a)), (13, .v (.int .i64 (a.length : Int))), (14, .v (.bool ((decide (s12 < (a.length : Int))))))]) (init := [0, 1, 2]) (fin := [0, 1, 2, 6]) (sps := [⟨[2], [], [3], [(.slot 11)]⟩, ⟨[0], [], [4], [(.slot 12)]⟩, ⟨[4], [], [5], [(.slot 13)]⟩, ⟨[3, 5], [], [6], [(.slot 14)]⟩]) (es' := [(_, _), (_, _), (_, _), (14, .v (.bool ((decide (s12 < (a.length : Int))))))]) (by kernel_rfl) rfl rfl
        ⟨st_plain rfl (op_move _ _ _ _ rfl rfl),
          st_plain rfl (op_move _ _ _ _ rfl rfl),
          st_plain rfl (op_len_fl _ _ _ Try.underlying22 rfl (by decide) (map_len _)),
          st_plain rfl (op_bin _ _ _ _ _ rfl rfl rfl),
          trivial⟩ ?_
      refine pt_then ?_
      refine ht_cond _ rfl (fun hb21 => ?_) (fun hb21 => ?_)
      · have h := cond_t hb21 h
        refine ht_skip ?_
        refine pt_then ?_
        refine ht_seq ?_
        refine ht_block ?_
        refine ht_seq ?_
        obtain ⟨v3, hv3, h⟩ := bind_some h
        obtain ⟨v4, hv4, h⟩ := bind_some h
        obtain ⟨v5, hv5, h⟩ := bind_some h
        obtain ⟨v6, hv6, h⟩ := bind_some h
        refine ht_anyR (by kernel_rfl) hn (El := [_, _, _, _, (17, .fl .shr 1 (List.map (Value.int .i64) a)), (18, .v (.int .i64 s12)), (19, .eref (.slot 17) (v3 * 1)), (20, .v (.int .i64 v4)), (21, .fl .shr 1 (List.map (Value.int .i64) b)), (22, .v (.int .i64 s12)), (23, .eref (.slot 21) (v5 * 1)), (24, .v (.int .i64 v6)), (25, .v (.bool (v4 != v6)))]) (init := [0, 1, 2, 3]) (fin := [0, 1, 2, 12]) (sps := [⟨[0], [], [4], [(.slot 17)]⟩, ⟨[2], [], [5], [(.slot 18)]⟩, ⟨[4, 5], [], [6], [(.slot 19)]⟩, ⟨[6, 4], [], [7], [(.slot 20)]⟩, ⟨[1], [], [8], [(.slot 21)]⟩, ⟨[2], [], [9], [(.slot 22)]⟩, ⟨[8, 9], [], [10], [(.slot 23)]⟩, ⟨[10, 8], [], [11], [(.slot 24)]⟩, ⟨[7, 11], [], [12], [(.slot 25)]⟩]) (es' := [(_, _), (_, _), (_, _), (25, .v (.bool (v4 != v6)))]) (by kernel_rfl) rfl rfl
          ⟨st_plain rfl (op_move _ _ _ _ rfl rfl),
            st_plain rfl (op_move _ _ _ _ rfl rfl),
            st_plain rfl (op_ix _ _ _ _ _ _ _ _ Try.underlying22 sz3 (by decide) rfl rfl rfl (ix_ok hv3).1 (map_lt (ix_ok hv3).2) rfl),
            st_plain rfl (op_load_e _ _ _ _ _ _ Try.underlying3 rfl rfl rfl (map_get hv4)),
            st_plain rfl (op_move _ _ _ _ rfl rfl),
            st_plain rfl (op_move _ _ _ _ rfl rfl),
            st_plain rfl (op_ix _ _ _ _ _ _ _ _ Try.underlying22 sz3 (by decide) rfl rfl rfl (ix_ok hv5).1 (map_lt (ix_ok hv5).2) rfl),
            st_plain rfl (op_load_e _ _ _ _ _ _ Try.underlying3 rfl rfl rfl (map_get hv6)),
            st_plain rfl (op_bin _ _ _ _ _ rfl rfl rfl),
            trivial⟩ ?_
        refine pt_then ?_
        refine ht_cond _ rfl (fun hb22 => ?_) (fun hb22 => ?_)
        · have h := cond_t hb22 h
          refine ht_seq ?_
          refine ht_seqR hn (El := [_, _, _, _, (4, .v (.bool false))]) (init := [0, 1, 2, 3]) (fin := [4]) (sps := [⟨[], [], [4], [(.slot 4)]⟩]) (es' := [(4, .v (.bool false))]) (by kernel_rfl) rfl rfl
            ⟨st_plain rfl (op_assign _ _ _ _ rfl rfl),
              trivial⟩ ?_
          refine pt_then ?_
          refine ht_ret ?_
          refine pt_r_in ?_
          refine pt_r_then ?_
          refine pt_r_then ?_
          refine pt_r_in ?_
          refine pt_r_then ?_
          have h := hr17 _ (ho18 _ (Option.some.inj h).symm).symm
          obtain rfl := Option.some.inj h
          exact pt_ret hio rfl (.tmp _ _ .nil) rfl rfl
        · have h := cond_f hb22 h
          refine ht_skip ?_
          refine pt_inb ?_
          refine pt_then ?_
          obtain ⟨v8, hv8, h⟩ := bind_some h
          refine ht_seqR hn (El := [_, _, _, _, (15, .v (.int .i64 s12)), (16, .v (.int .i64 v8)), (5, .v (.int .i64 v8))]) (init := [0, 1, 2, 3]) (fin := [0, 1, 6]) (sps := [⟨[2], [], [4], [(.slot 15)]⟩, ⟨[4], [], [5], [(.slot 16)]⟩, ⟨[5], [2], [6], [(.slot 5)]⟩]) (es' := [(_, _), (_, _), (5, .v (.int .i64 v8))]) (by kernel_rfl) rfl rfl
            ⟨st_plain rfl (op_move _ _ _ _ rfl rfl),
              st_plain rfl (op_bin _ _ _ _ _ rfl rfl (ibind (f := Value.int .i64) (Option.some.inj hv8))),
              st_plain rfl (LOp.drop [_] (op_assign _ _ _ _ rfl rfl)),
              trivial⟩ ?_
          exact pt_next _ (Option.some.inj h).symm rfl
      · have h := cond_f hb21 h
        refine ht_exit ?_
        refine pt_x_then ?_
        refine pt_x_then ?_
        refine pt_x_in ?_
        refine pt_pick [] (by kernel_rfl) (es' := []) rfl ?_
        exact hl16 _ (ho18 _ (Option.some.inj h).symm).symm

set_option maxHeartbeats 1000000 in
theorem ok_wherrykeep_Bytes (a : (List Int)) (b : (List Int)) (r : Bool) (h : Sh.wherrykeep_Bytes a b = some r) : FnOK Try.prog 20 [.fl .shr 1 (List.map (Value.int .u8) a), .fl .shr 1 (List.map (Value.int .u8) b)] (.v (.bool r)) := by
  unfold Sh.wherrykeep_Bytes at h
  refine fn_ok Try.func20 rfl (Nat.le_of_ble_eq_true rfl) rfl rfl fun g0 hn hio => ?_
  refine ht_seq ?_
  refine ht_seqR hn (El := [_, _, (4, .v (.bool false))]) (init := [0, 1]) (fin := [0, 1]) (sps := [⟨[], [], [2], [(.slot 4)]⟩]) (es' := [(_, _), (_, _)]) (by kernel_rfl) rfl rfl
    ⟨st_plain rfl (op_assign _ _ _ _ rfl rfl),
      trivial⟩ ?_
  refine pt_then ?_
  refine ht_seq ?_
  refine ht_seq ?_
  refine ht_seqR hn (El := [_, _, (6, .fl .shr 1 (List.map (Value.int .u8) a)), (7, .v (.int .i64 (a.length : Int))), (8, .fl .shr 1 (List.map (Value.int .u8) b)), (9, .v (.int .i64 (b.length : Int))), (10, .v (.bool (((a.length : Int) != (b.length : Int)))))]) (init := [0, 1]) (fin := [0, 1, 6]) (sps := [⟨[0], [], [2], [(.slot 6)]⟩, ⟨[2], [], [3], [(.slot 7)]⟩, ⟨[1], [], [4], [(.slot 8)]⟩, ⟨[4], [], [5], [(.slot 9)]⟩, ⟨[3, 5], [], [6], [(.slot 10)]⟩]) (es' := [(_, _), (_, _), (10, .v (.bool (((a.length : Int) != (b.length : Int)))))]) (by kernel_rfl) rfl rfl
    ⟨st_plain rfl (op_move _ _ _ _ rfl rfl),
      st_plain rfl (op_len_fl _ _ _ Try.underlying23 rfl (by decide) (map_len _)),
      st_plain rfl (op_move _ _ _ _ rfl rfl),
      st_plain rfl (op_len_fl _ _ _ Try.underlying23 rfl (by decide) (map_len _)),
      st_plain rfl (op_bin _ _ _ _ _ rfl rfl rfl),
      trivial⟩ ?_
  refine pt_then ?_
  refine ht_cond _ rfl (fun hb1 => ?_) (fun hb1 => ?_)
  · have h := cond_t hb1 h
    refine ht_seq ?_
    refine ht_seqR hn (El := [_, _, _, (4, .v (.bool false))]) (init := [0, 1, 2]) (fin := [3]) (sps := [⟨[], [], [3], [(.slot 4)]⟩]) (es' := [(4, .v (.bool false))]) (by kernel_rfl) rfl rfl
      ⟨st_plain rfl (op_assign _ _ _ _ rfl rfl),
        trivial⟩ ?_
    refine pt_then ?_
    refine ht_ret ?_
    refine pt_r_then ?_
    obtain rfl := Option.some.inj h
    exact pt_ret hio rfl (.tmp _ _ .nil) rfl rfl
  · have h := cond_f hb1 h
    refine ht_skip ?_
    refine pt_then ?_
    refine ht_seq ?_
    refine ht_seq ?_
    refine ht_seqR hn (El := [_, _, _, (5, .v (.int .i64 0))]) (init := [0, 1, 2]) (fin := [0, 1, 3]) (sps := [⟨[], [], [3], [(.slot 5)]⟩]) (es' := [(_, _), (_, _), (5, .v (.int .i64 0))]) (by kernel_rfl) rfl rfl
      ⟨st_plain rfl (op_assign _ _ _ _ rfl rfl),
        trivial⟩ ?_
    refine pt_then ?_
    refine ht_loopS h (fun (s12 : Int) => [(0, .fl .shr 1 (List.map (Value.int .u8) a)), (1, .fl .shr 1 (List.map (Value.int .u8) b)), (5, .v (.int .i64 s12))]) (fun (() : Unit) => []) ?_ ?_
    · rintro ⟨⟩ h
      refine pt_then ?_
      refine ht_seq ?_
      refine ht_seqR hn (El := [(4, .v (.bool true))]) (init := []) (fin := [0]) (sps := [⟨[], [], [0], [(.slot 4)]⟩]) (es' := [(4, .v (.bool true))]) (by kernel_rfl) rfl rfl
        ⟨st_plain rfl (op_assign _ _ _ _ rfl rfl),
          trivial⟩ ?_
      refine pt_then ?_
      refine ht_ret ?_
      obtain rfl := Option.some.inj h
      exact pt_ret hio rfl (.tmp _ _ .nil) rfl rfl
    · rintro u15 hl16 hr17 s12 rr20 h ho18
      refine ht_seq ?_
      refine ht_seq ?_
      refine ht_seqR hn (El := [_, _, _, (11, .v (.int .i64 s12)), (12, .fl .shr 1 (List.map (Value.int .u8) a)), (13, .v (.int .i64 (a.length : Int))), (14, .v (.bool ((decide (s12 < (a.length : Int))))))]) (init := [0, 1, 2]) (fin := [0, 1, 2, 6]) (sps := [⟨[2], [], [3], [(.slot 11)]⟩, ⟨[0], [], [4], [(.slot 12)]⟩, ⟨[4], [], [5], [(.slot 13)]⟩, ⟨[3, 5], [], [6], [(.slot 14)]⟩]) (es' := [(_, _), (_, _), (_, _), (14, .v (.bool ((decide (s12 < (a.length : Int))))))]) (by kernel_rfl) rfl rfl
        ⟨st_plain rfl (op_move _ _ _ _ rfl rfl),
          st_plain rfl (op_move _ _ _ _ rfl rfl),
          st_plain rfl (op_len_fl _ _ _ Try.underlying23 rfl (by decide) (map_len _)),
          st_plain rfl (op_bin _ _ _ _ _ rfl rfl rfl),
          trivial⟩ ?_
      refine pt_then ?_
      refine ht_cond _ rfl (fun hb21 => ?_) (fun hb21 => ?_)
      · have h := cond_t hb21 h
        refine ht_skip ?_
        refine pt_then ?_
        refine ht_seq ?_
        refine ht_block ?_
        refine ht_seq ?_
        obtain ⟨v3, hv3, h⟩ := bind_some h
        obtain ⟨v4, hv4, h⟩ := bind_some h
        obtain ⟨v5, hv5, h⟩ := bind_some h
        obtain ⟨v6, hv6, h⟩ := bind_some h
        refine ht_anyR (by kernel_rfl) hn (El := [_, _, _, _, (17, .fl .shr 1 (List.map (Value.int .u8) a)), (18, .v (.int .i64 s12)), (19, .eref (.slot 17) (v3 * 1)), (20, .v (.int .u8 v4)), (21, .fl .shr 1 (List.map (Value.int .u8) b)), (22, .v (.int .i64 s12)), (23, .eref (.slot 21) (v5 * 1)), (24, .v (.int .u8 v6)), (25, .v (.bool (v4 != v6)))]) (init := [0, 1, 2, 3]) (fin := [0, 1, 2, 12]) (sps := [⟨[0], [], [4], [(.slot 17)]⟩, ⟨[2], [], [5], [(.slot 18)]⟩, ⟨[4, 5], [], [6], [(.slot 19)]⟩, ⟨[6, 4], [], [7], [(.slot 20)]⟩, ⟨[1], [], [8], [(.slot 21)]⟩, ⟨[2], [], [9], [(.slot 22)]⟩, ⟨[8, 9], [], [10], [(.slot 23)]⟩, ⟨[10, 8], [], [11], [(.slot 24)]⟩, ⟨[7, 11], [], [12], [(.slot 25)]⟩]) (es' := [(_, _), (_, _), (_, _), (25, .v (.bool (v4 != v6)))]) (by kernel_rfl) rfl rfl
          ⟨st_plain rfl (op_move _ _ _ _ rfl rfl),
            st_plain rfl (op_move _ _ _ _ rfl rfl),
            st_plain rfl (op_ix _ _ _ _ _ _ _ _ Try.underlying23 sz5 (by decide) rfl rfl rfl (ix_ok hv3).1 (map_lt (ix_ok hv3).2) rfl),
            st_plain rfl (op_load_e _ _ _ _ _ _ Try.underlying5 rfl rfl rfl (map_get hv4)),
            st_plain rfl (op_move _ _ _ _ rfl rfl),
            st_plain rfl (op_move _ _ _ _ rfl rfl),
            st_plain rfl (op_ix _ _ _ _ _ _ _ _ Try.underlying23 sz5 (by decide) rfl rfl rfl (ix_ok hv5).1 (map_lt (ix_ok hv5).2) rfl),
            st_plain rfl (op_load_e _ _ _ _ _ _ Try.underlying5 rfl rfl rfl (map_get hv6)),
            st_plain rfl (op_bin _ _ _ _ _ rfl rfl rfl),
            trivial⟩ ?_
        refine pt_then ?_
        refine ht_cond _ rfl (fun hb22 => ?_) (fun hb22 => ?_)
        · have h := cond_t hb22 h
          refine ht_seq ?_
          refine ht_seqR hn (El := [_, _, _, _, (4, .v (.bool false))]) (init := [0, 1, 2, 3]) (fin := [4]) (sps := [⟨[], [], [4], [(.slot 4)]⟩]) (es' := [(4, .v (.bool false))]) (by kernel_rfl) rfl rfl
            ⟨st_plain rfl (op_assign _ _ _ _ rfl rfl),
              trivial⟩ ?_
          refine pt_then ?_
          refine ht_ret ?_
          refine pt_r_in ?_
          refine pt_r_then ?_
          refine pt_r_then ?_
          refine pt_r_in ?_
          refine pt_r_then ?_
          have h := hr17 _ (ho18 _ (Option.some.inj h).symm).symm
          obtain rfl := Option.some.inj h
          exact pt_ret hio rfl (.tmp _ _ .nil) rfl rfl
        · have h := cond_f hb22 h
          refine ht_skip ?_
          refine pt_inb ?_
          refine pt_then ?_
          obtain ⟨v8, hv8, h⟩ := bind_some h
          refine ht_seqR hn (El := [_, _, _, _, (15, .v (.int .i64 s12)), (16, .v (.int .i64 v8)), (5, .v (.int .i64 v8))]) (init := [0, 1, 2, 3]) (fin := [0, 1, 6]) (sps := [⟨[2], [], [4], [(.slot 15)]⟩, ⟨[4], [], [5], [(.slot 16)]⟩, ⟨[5], [2], [6], [(.slot 5)]⟩]) (es' := [(_, _), (_, _), (5, .v (.int .i64 v8))]) (by kernel_rfl) rfl rfl
            ⟨st_plain rfl (op_move _ _ _ _ rfl rfl),
              st_plain rfl (op_bin _ _ _ _ _ rfl rfl (ibind (f := Value.int .i64) (Option.some.inj hv8))),
              st_plain rfl (LOp.drop [_] (op_assign _ _ _ _ rfl rfl)),
              trivial⟩ ?_
          exact pt_next _ (Option.some.inj h).symm rfl
      · have h := cond_f hb21 h
        refine ht_exit ?_
        refine pt_x_then ?_
        refine pt_x_then ?_
        refine pt_x_in ?_
        refine pt_pick [] (by kernel_rfl) (es' := []) rfl ?_
        exact hl16 _ (ho18 _ (Option.some.inj h).symm).symm

set_option maxHeartbeats 1000000 in
theorem ok_wherrylaw02_wakes (r : Bool) (h : Sh.wherrylaw02_wakes  = some r) : FnOK Try.prog 21 [] (.v (.bool r)) := by
  unfold Sh.wherrylaw02_wakes at h
  refine fn_ok Try.func21 rfl (Nat.le_of_ble_eq_true rfl) rfl rfl fun g0 hn hio => ?_
  refine ht_seq ?_
  refine ht_seqR hn (El := [(0, .v (.bool false))]) (init := []) (fin := []) (sps := [⟨[], [], [0], [(.slot 0)]⟩]) (es' := []) (by kernel_rfl) rfl rfl
    ⟨st_plain rfl (op_assign _ _ _ _ rfl rfl),
      trivial⟩ ?_
  refine pt_then ?_
  refine ht_seq ?_
  refine ht_seqR hn (El := [(7, .fl (.own 3) 1 (List.map (Value.int .i64) [2, 1, 3, 3])), (1, .fl (.own 3) 1 (List.map (Value.int .i64) [2, 1, 3, 3]))]) (init := []) (fin := [1]) (sps := [⟨[], [], [0], [(.slot 7)]⟩, ⟨[], [0], [1], [(.slot 1)]⟩]) (es' := [(1, .fl (.own 3) 1 (List.map (Value.int .i64) [2, 1, 3, 3]))]) (by kernel_rfl) rfl rfl
    ⟨st_plain rfl (op_buildSlice _ _ 1 (.int .i64 0) (List.map (Value.int .i64) [2, 1, 3, 3]) [(0, .int .i64 2), (1, .int .i64 1), (2, .int .i64 3), (3, .int .i64 3)] Try.underlying22 sz3 zr3 (fun _ V w o a hv hes => by simp only [List.map_toArray, List.map_cons, List.map_nil]; try rfl) (litfill (by simp [Instr.fill, Value.cells]; rfl) (by simp [List.range, List.range.loop])) (by simp [Value.oneCell']) rfl (by decide) (by decide) (by decide)),
      st_plain rfl (op_assign_take _ _ _ _ rfl),
      trivial⟩ ?_
  refine pt_then ?_
  refine ht_seq ?_
  obtain ⟨v1, hv1, h⟩ := bind_some h
  refine ht_seqR hn (El := [_, (9, .same (.slot 1)), (10, .tup [.fl (.own 3) 1 (List.map (Value.int .i64) v1.1), .v (.int .i64 v1.2)]), (8, .tup [.fl (.own 3) 1 (List.map (Value.int .i64) v1.1), .v (.int .i64 v1.2)]), (11, .fl (.own 3) 1 (List.map (Value.int .i64) v1.1)), (8, .tup [.any, .v (.int .i64 v1.2)]), (12, .v (.int .i64 v1.2)), (2, .fl (.own 3) 1 (List.map (Value.int .i64) v1.1)), (3, .v (.int .i64 v1.2))]) (init := [0]) (fin := [0, 7, 8]) (sps := [⟨[0], [], [1], [(.slot 9)]⟩, ⟨[1, 0], [], [2], [(.slot 10)]⟩, ⟨[], [2], [3], [(.slot 8)]⟩, ⟨[], [3], [5, 4], [(.slot 11)]⟩, ⟨[5], [], [6], [(.slot 12)]⟩, ⟨[], [4], [7], [(.slot 2)]⟩, ⟨[6], [], [8], [(.slot 3)]⟩]) (es' := [(_, _), (2, .fl (.own 3) 1 (List.map (Value.int .i64) v1.1)), (3, .v (.int .i64 v1.2))]) (by kernel_rfl) rfl rfl
    ⟨st_plain rfl (op_move _ _ _ _ rfl rfl),
      st_plain rfl (op_call _ _ 11 _ _ rfl Try.call11 rfl (ok_canon_Codes [2, 1, 3, 3] _ hv1) rfl rfl),
      st_plain rfl (op_move_take _ _ _ _ rfl),
      st_plain rfl (op_extract_take _ _ _ _ _ rfl (Nat.le_of_ble_eq_true rfl) rfl rfl (by decide) rfl),
      st_plain rfl (op_extract _ _ _ _ _ rfl rfl (Nat.le_of_ble_eq_true rfl) rfl rfl),
      st_plain rfl (op_assign_take _ _ _ _ rfl),
      st_plain rfl (op_assign _ _ _ _ rfl rfl),
      trivial⟩ ?_
  refine pt_then ?_
  refine ht_seq ?_
  obtain ⟨v2, hv2, h⟩ := bind_some h
  refine ht_seqR hn (El := [_, _, _, (14, .same (.slot 1)), (15, .fl (.own 5) 1 (List.map (Value.int .u8) [1])), (16, .tup [.v (.int .i64 v2.1), .v (.int .i64 v2.2.1), .v (.int .i64 v2.2.2)]), (13, .tup [.v (.int .i64 v2.1), .v (.int .i64 v2.2.1), .v (.int .i64 v2.2.2)]), (17, .v (.int .i64 v2.1)), (18, .v (.int .i64 v2.2.1)), (19, .v (.int .i64 v2.2.2)), (4, .v (.int .i64 v2.1)), (5, .v (.int .i64 v2.2.1)), (6, .v (.int .i64 v2.2.2))]) (init := [0, 1, 2]) (fin := [0, 1, 2, 10, 11, 12]) (sps := [⟨[0], [], [3], [(.slot 14)]⟩, ⟨[], [], [4], [(.slot 15)]⟩, ⟨[3, 0, 4], [], [5], [(.slot 16)]⟩, ⟨[], [5], [6], [(.slot 13)]⟩, ⟨[6], [], [7], [(.slot 17)]⟩, ⟨[6], [], [8], [(.slot 18)]⟩, ⟨[6], [], [9], [(.slot 19)]⟩, ⟨[7], [], [10], [(.slot 4)]⟩, ⟨[8], [], [11], [(.slot 5)]⟩, ⟨[9], [], [12], [(.slot 6)]⟩]) (es' := [(_, _), (_, _), (_, _), (4, .v (.int .i64 v2.1)), (5, .v (.int .i64 v2.2.1)), (6, .v (.int .i64 v2.2.2))]) (by kernel_rfl) rfl rfl
    ⟨st_plain rfl (op_move _ _ _ _ rfl rfl),
      st_plain rfl (op_buildSlice _ _ 1 (.int .u8 0) (List.map (Value.int .u8) [1]) [(0, .int .u8 1)] Try.underlying23 sz5 zr5 (fun _ V w o a hv hes => by simp only [List.map_toArray, List.map_cons, List.map_nil]; try rfl) (litfill (by simp [Instr.fill, Value.cells]; rfl) (by simp [List.range, List.range.loop])) (by simp [Value.oneCell']) rfl (by decide) (by decide) (by decide)),
      st_plain rfl (op_call _ _ 13 _ _ rfl Try.call13 rfl (ok_canon_Read [2, 1, 3, 3] [1] 0 _ hv2) rfl rfl),
      st_plain rfl (op_move_take _ _ _ _ rfl),
      st_plain rfl (op_extract _ _ _ _ _ rfl rfl (Nat.le_of_ble_eq_true rfl) rfl rfl),
      st_plain rfl (op_extract _ _ _ _ _ rfl rfl (Nat.le_of_ble_eq_true rfl) rfl rfl),
      st_plain rfl (op_extract _ _ _ _ _ rfl rfl (Nat.le_of_ble_eq_true rfl) rfl rfl),
      st_plain rfl (op_assign _ _ _ _ rfl rfl),
      st_plain rfl (op_assign _ _ _ _ rfl rfl),
      st_plain rfl (op_assign _ _ _ _ rfl rfl),
      trivial⟩ ?_
  refine pt_then ?_
  refine ht_seq ?_
  refine ht_joinS h (fun (s6 : Bool) => [(0, .v (.bool s6))]) ?_ ?_
  · rintro s6 h
    refine pt_then ?_
    refine ht_ret ?_
    obtain rfl := Option.some.inj h
    exact pt_ret hio rfl (.tmp _ _ .nil) rfl rfl
  · intro u7 h hl8 hr9
    refine cond_some h (fun hg4_2 h => ?_) (fun hg4_2 h => ?_)
    · refine cond_some h (fun hg4_6 h => ?_) (fun hg4_6 h => ?_)
      · obtain ⟨v3, hv3, h⟩ := bind_some h
        refine cond_some h (fun hg4_11 h => ?_) (fun hg4_11 h => ?_)
        · refine cond_some h (fun hg4_15 h => ?_) (fun hg4_15 h => ?_)
          · refine cond_some h (fun hg4_19 h => ?_) (fun hg4_19 h => ?_)
            · obtain ⟨v4, hv4, h⟩ := bind_some h
              refine cond_some h (fun hg4_24 h => ?_) (fun hg4_24 h => ?_)
              · obtain ⟨v5, hv5, h⟩ := bind_some h
                refine ht_seqR hn (El := (_ :: _ :: _ :: _ :: _ :: _ :: (20, .v (.int .i64 v1.2)) :: (21, .v (.bool (v1.2 == 0))) :: (22, .v (.bool true)) :: (23, .v (.int .i64 v2.2.2)) :: (24, .v (.bool (v2.2.2 == 0))) :: (25, .v (.bool (v2.2.2 == 0))) :: (26, .v (.bool true)) :: (27, .fl (.own 3) 1 (List.map (Value.int .i64) v1.1)) :: (28, .fl (.own 3) 1 (List.map (Value.int .i64) [2, 0, 6, 7])) :: (29, .v (.bool v3)) :: (30, .v (.bool v3)) :: (31, .v (.bool true)) :: (32, .v (.int .i64 v2.1)) :: (33, .v (.bool (v2.1 == 0))) :: (34, .v (.bool (v2.1 == 0))) :: (35, .v (.bool true)) :: (36, .v (.int .i64 v2.2.1)) :: (37, .v (.bool (v2.2.1 == 2))) :: (38, .v (.bool (v2.2.1 == 2))) :: (39, .v (.bool true)) :: (40, .fl (.own 3) 1 (List.map (Value.int .i64) [2])) :: (41, .v (.int .i64 v4)) :: (42, .v (.bool (v4 == 4))) :: (43, .v (.bool (v4 == 4))) :: (44, .v (.bool true)) :: (45, .fl (.own 3) 1 (List.map (Value.int .i64) [2, 1, 3, 3])) :: (46, .v (.int .i64 v5)) :: (47, .v (.bool (v5 == 32768))) :: (48, .v (.bool (v5 == 32768))) :: (0, .v (.bool (v5 == 32768))) :: [])) (init := [0, 1, 2, 3, 4, 5]) (fin := [35]) (sps := (⟨[2], [], [6], [(.slot 20)]⟩ :: ⟨[6], [], [7], [(.slot 21)]⟩ :: ⟨[7], [], [8], [(.slot 22)]⟩ :: ⟨[8, 5], [], [9], [(.slot 23)]⟩ :: ⟨[8, 9], [], [10], [(.slot 24)]⟩ :: ⟨[8, 10], [], [11], [(.slot 25)]⟩ :: ⟨[11], [], [12], [(.slot 26)]⟩ :: ⟨[12], [1], [13], [(.slot 27)]⟩ :: ⟨[12], [], [14], [(.slot 28)]⟩ :: ⟨[12, 13, 14], [], [15], [(.slot 29)]⟩ :: ⟨[12, 15], [], [16], [(.slot 30)]⟩ :: ⟨[16], [], [17], [(.slot 31)]⟩ :: ⟨[17, 3], [], [18], [(.slot 32)]⟩ :: ⟨[17, 18], [], [19], [(.slot 33)]⟩ :: ⟨[17, 19], [], [20], [(.slot 34)]⟩ :: ⟨[20], [], [21], [(.slot 35)]⟩ :: ⟨[21, 4], [], [22], [(.slot 36)]⟩ :: ⟨[21, 22], [], [23], [(.slot 37)]⟩ :: ⟨[21, 23], [], [24], [(.slot 38)]⟩ :: ⟨[24], [], [25], [(.slot 39)]⟩ :: ⟨[25], [], [26], [(.slot 40)]⟩ :: ⟨[25, 26], [], [27], [(.slot 41)]⟩ :: ⟨[25, 27], [], [28], [(.slot 42)]⟩ :: ⟨[25, 28], [], [29], [(.slot 43)]⟩ :: ⟨[29], [], [30], [(.slot 44)]⟩ :: ⟨[30], [0], [31], [(.slot 45)]⟩ :: ⟨[30, 31], [], [32], [(.slot 46)]⟩ :: ⟨[30, 32], [], [33], [(.slot 47)]⟩ :: ⟨[30, 33], [], [34], [(.slot 48)]⟩ :: ⟨[34], [], [35], [(.slot 0)]⟩ :: [])) (es' := [(0, .v (.bool (v5 == 32768)))]) (by kernel_rfl) rfl rfl
                  ⟨st_plain rfl (op_move _ _ _ _ rfl rfl),
                    st_plain rfl (op_bin _ _ _ _ _ rfl rfl rfl),
                    st_plain rfl (op_move _ _ _ _ (congrArg (fun b => AV.v (Value.bool b)) hg4_2) rfl),
                    st_run 2 22 true rfl rfl rfl (List.Mem.head _) (op_move _ _ _ _ rfl rfl),
                    st_run 2 22 true rfl rfl rfl (List.Mem.head _) (op_bin _ _ _ _ _ rfl rfl rfl),
                    st_plain rfl (op_pick _ _ true _ rfl rfl),
                    st_plain rfl (op_move _ _ _ _ (congrArg (fun b => AV.v (Value.bool b)) hg4_6) rfl),
                    st_run 6 26 true rfl rfl rfl (List.Mem.head _) (op_move_take _ _ _ _ rfl),
                    st_run 6 26 true rfl rfl rfl (List.Mem.head _) (op_buildSlice _ _ 1 (.int .i64 0) (List.map (Value.int .i64) [2, 0, 6, 7]) [(0, .int .i64 2), (1, .int .i64 0), (2, .int .i64 6), (3, .int .i64 7)] Try.underlying22 sz3 zr3 (fun _ V w o a hv hes => by simp only [List.map_toArray, List.map_cons, List.map_nil]; try rfl) (litfill (by simp [Instr.fill, Value.cells]; rfl) (by simp [List.range, List.range.loop])) (by simp [Value.oneCell']) rfl (by decide) (by decide) (by decide)),
                    st_run 6 26 true rfl rfl rfl (List.Mem.head _) (op_call _ _ 19 _ _ rfl Try.call19 rfl (ok_wherrykeep_Ints v1.1 [2, 0, 6, 7] _ hv3) rfl rfl),
                    st_plain rfl (op_pick _ _ true _ rfl rfl),
                    st_plain rfl (op_move _ _ _ _ (congrArg (fun b => AV.v (Value.bool b)) hg4_11) rfl),
                    st_run 11 31 true rfl rfl rfl (List.Mem.head _) (op_move _ _ _ _ rfl rfl),
                    st_run 11 31 true rfl rfl rfl (List.Mem.head _) (op_bin _ _ _ _ _ rfl rfl rfl),
                    st_plain rfl (op_pick _ _ true _ rfl rfl),
                    st_plain rfl (op_move _ _ _ _ (congrArg (fun b => AV.v (Value.bool b)) hg4_15) rfl),
                    st_run 15 35 true rfl rfl rfl (List.Mem.head _) (op_move _ _ _ _ rfl rfl),
                    st_run 15 35 true rfl rfl rfl (List.Mem.head _) (op_bin _ _ _ _ _ rfl rfl rfl),
                    st_plain rfl (op_pick _ _ true _ rfl rfl),
                    st_plain rfl (op_move _ _ _ _ (congrArg (fun b => AV.v (Value.bool b)) hg4_19) rfl),
                    st_run 19 39 true rfl rfl rfl (List.Mem.head _) (op_buildSlice _ _ 1 (.int .i64 0) (List.map (Value.int .i64) [2]) [(0, .int .i64 2)] Try.underlying22 sz3 zr3 (fun _ V w o a hv hes => by simp only [List.map_toArray, List.map_cons, List.map_nil]; try rfl) (litfill (by simp [Instr.fill, Value.cells]; rfl) (by simp [List.range, List.range.loop])) (by simp [Value.oneCell']) rfl (by decide) (by decide) (by decide)),
                    st_run 19 39 true rfl rfl rfl (List.Mem.head _) (op_call _ _ 15 _ _ rfl Try.call15 rfl (ok_canon_Check [2] _ hv4) rfl rfl),
                    st_run 19 39 true rfl rfl rfl (List.Mem.head _) (op_bin _ _ _ _ _ rfl rfl rfl),
                    st_plain rfl (op_pick _ _ true _ rfl rfl),
                    st_plain rfl (op_move _ _ _ _ (congrArg (fun b => AV.v (Value.bool b)) hg4_24) rfl),
                    st_run 24 44 true rfl rfl rfl (List.Mem.head _) (op_move_take _ _ _ _ rfl),
                    st_run 24 44 true rfl rfl rfl (List.Mem.head _) (op_call _ _ 17 _ _ rfl Try.call17 rfl (ok_canon_Weigh [2, 1, 3, 3] _ hv5) rfl rfl),
                    st_run 24 44 true rfl rfl rfl (List.Mem.head _) (op_bin _ _ _ _ _ rfl rfl rfl),
                    st_plain rfl (op_pick _ _ true _ rfl rfl),
                    st_plain rfl (op_assign _ _ _ _ rfl rfl),
                    trivial⟩ ?_
                exact hl8 _ (Option.some.inj h).symm
              · refine ht_seqR hn (El := (_ :: _ :: _ :: _ :: _ :: _ :: (20, .v (.int .i64 v1.2)) :: (21, .v (.bool (v1.2 == 0))) :: (22, .v (.bool true)) :: (23, .v (.int .i64 v2.2.2)) :: (24, .v (.bool (v2.2.2 == 0))) :: (25, .v (.bool (v2.2.2 == 0))) :: (26, .v (.bool true)) :: (27, .fl (.own 3) 1 (List.map (Value.int .i64) v1.1)) :: (28, .fl (.own 3) 1 (List.map (Value.int .i64) [2, 0, 6, 7])) :: (29, .v (.bool v3)) :: (30, .v (.bool v3)) :: (31, .v (.bool true)) :: (32, .v (.int .i64 v2.1)) :: (33, .v (.bool (v2.1 == 0))) :: (34, .v (.bool (v2.1 == 0))) :: (35, .v (.bool true)) :: (36, .v (.int .i64 v2.2.1)) :: (37, .v (.bool (v2.2.1 == 2))) :: (38, .v (.bool (v2.2.1 == 2))) :: (39, .v (.bool true)) :: (40, .fl (.own 3) 1 (List.map (Value.int .i64) [2])) :: (41, .v (.int .i64 v4)) :: (42, .v (.bool (v4 == 4))) :: (43, .v (.bool (v4 == 4))) :: (44, .v (.bool false)) :: (45, .v undef) :: (46, .v undef) :: (47, .v undef) :: (48, .v (.bool false)) :: (0, .v (.bool false)) :: [])) (init := [0, 1, 2, 3, 4, 5]) (fin := [35]) (sps := (⟨[2], [], [6], [(.slot 20)]⟩ :: ⟨[6], [], [7], [(.slot 21)]⟩ :: ⟨[7], [], [8], [(.slot 22)]⟩ :: ⟨[8, 5], [], [9], [(.slot 23)]⟩ :: ⟨[8, 9], [], [10], [(.slot 24)]⟩ :: ⟨[8, 10], [], [11], [(.slot 25)]⟩ :: ⟨[11], [], [12], [(.slot 26)]⟩ :: ⟨[12], [1], [13], [(.slot 27)]⟩ :: ⟨[12], [], [14], [(.slot 28)]⟩ :: ⟨[12, 13, 14], [], [15], [(.slot 29)]⟩ :: ⟨[12, 15], [], [16], [(.slot 30)]⟩ :: ⟨[16], [], [17], [(.slot 31)]⟩ :: ⟨[17, 3], [], [18], [(.slot 32)]⟩ :: ⟨[17, 18], [], [19], [(.slot 33)]⟩ :: ⟨[17, 19], [], [20], [(.slot 34)]⟩ :: ⟨[20], [], [21], [(.slot 35)]⟩ :: ⟨[21, 4], [], [22], [(.slot 36)]⟩ :: ⟨[21, 22], [], [23], [(.slot 37)]⟩ :: ⟨[21, 23], [], [24], [(.slot 38)]⟩ :: ⟨[24], [], [25], [(.slot 39)]⟩ :: ⟨[25], [], [26], [(.slot 40)]⟩ :: ⟨[25, 26], [], [27], [(.slot 41)]⟩ :: ⟨[25, 27], [], [28], [(.slot 42)]⟩ :: ⟨[25, 28], [], [29], [(.slot 43)]⟩ :: ⟨[29], [], [30], [(.slot 44)]⟩ :: ⟨[30], [], [31], [(.slot 45)]⟩ :: ⟨[30], [], [32], [(.slot 46)]⟩ :: ⟨[30], [], [33], [(.slot 47)]⟩ :: ⟨[30], [], [34], [(.slot 48)]⟩ :: ⟨[34], [], [35], [(.slot 0)]⟩ :: [])) (es' := [(0, .v (.bool false))]) (by kernel_rfl) rfl rfl
                  ⟨st_plain rfl (op_move _ _ _ _ rfl rfl),
                    st_plain rfl (op_bin _ _ _ _ _ rfl rfl rfl),
                    st_plain rfl (op_move _ _ _ _ (congrArg (fun b => AV.v (Value.bool b)) hg4_2) rfl),
                    st_run 2 22 true rfl rfl rfl (List.Mem.head _) (op_move _ _ _ _ rfl rfl),
                    st_run 2 22 true rfl rfl rfl (List.Mem.head _) (op_bin _ _ _ _ _ rfl rfl rfl),
                    st_plain rfl (op_pick _ _ true _ rfl rfl),
                    st_plain rfl (op_move _ _ _ _ (congrArg (fun b => AV.v (Value.bool b)) hg4_6) rfl),
                    st_run 6 26 true rfl rfl rfl (List.Mem.head _) (op_move_take _ _ _ _ rfl),
                    st_run 6 26 true rfl rfl rfl (List.Mem.head _) (op_buildSlice _ _ 1 (.int .i64 0) (List.map (Value.int .i64) [2, 0, 6, 7]) [(0, .int .i64 2), (1, .int .i64 0), (2, .int .i64 6), (3, .int .i64 7)] Try.underlying22 sz3 zr3 (fun _ V w o a hv hes => by simp only [List.map_toArray, List.map_cons, List.map_nil]; try rfl) (litfill (by simp [Instr.fill, Value.cells]; rfl) (by simp [List.range, List.range.loop])) (by simp [Value.oneCell']) rfl (by decide) (by decide) (by decide)),
                    st_run 6 26 true rfl rfl rfl (List.Mem.head _) (op_call _ _ 19 _ _ rfl Try.call19 rfl (ok_wherrykeep_Ints v1.1 [2, 0, 6, 7] _ hv3) rfl rfl),
                    st_plain rfl (op_pick _ _ true _ rfl rfl),
                    st_plain rfl (op_move _ _ _ _ (congrArg (fun b => AV.v (Value.bool b)) hg4_11) rfl),
                    st_run 11 31 true rfl rfl rfl (List.Mem.head _) (op_move _ _ _ _ rfl rfl),
                    st_run 11 31 true rfl rfl rfl (List.Mem.head _) (op_bin _ _ _ _ _ rfl rfl rfl),
                    st_plain rfl (op_pick _ _ true _ rfl rfl),
                    st_plain rfl (op_move _ _ _ _ (congrArg (fun b => AV.v (Value.bool b)) hg4_15) rfl),
                    st_run 15 35 true rfl rfl rfl (List.Mem.head _) (op_move _ _ _ _ rfl rfl),
                    st_run 15 35 true rfl rfl rfl (List.Mem.head _) (op_bin _ _ _ _ _ rfl rfl rfl),
                    st_plain rfl (op_pick _ _ true _ rfl rfl),
                    st_plain rfl (op_move _ _ _ _ (congrArg (fun b => AV.v (Value.bool b)) hg4_19) rfl),
                    st_run 19 39 true rfl rfl rfl (List.Mem.head _) (op_buildSlice _ _ 1 (.int .i64 0) (List.map (Value.int .i64) [2]) [(0, .int .i64 2)] Try.underlying22 sz3 zr3 (fun _ V w o a hv hes => by simp only [List.map_toArray, List.map_cons, List.map_nil]; try rfl) (litfill (by simp [Instr.fill, Value.cells]; rfl) (by simp [List.range, List.range.loop])) (by simp [Value.oneCell']) rfl (by decide) (by decide) (by decide)),
                    st_run 19 39 true rfl rfl rfl (List.Mem.head _) (op_call _ _ 15 _ _ rfl Try.call15 rfl (ok_canon_Check [2] _ hv4) rfl rfl),
                    st_run 19 39 true rfl rfl rfl (List.Mem.head _) (op_bin _ _ _ _ _ rfl rfl rfl),
                    st_plain rfl (op_pick _ _ true _ rfl rfl),
                    st_plain rfl (op_move _ _ _ _ (congrArg (fun b => AV.v (Value.bool b)) hg4_24) rfl),
                    st_skip 24 44 _ true rfl rfl rfl rfl (List.Mem.head _),
                    st_skip 24 44 _ true rfl rfl rfl rfl (List.Mem.head _),
                    st_skip 24 44 _ true rfl rfl rfl rfl (List.Mem.head _),
                    st_plain rfl (op_pick _ _ false _ rfl rfl),
                    st_plain rfl (op_assign _ _ _ _ rfl rfl),
                    trivial⟩ ?_
                exact hl8 _ (Option.some.inj h).symm
            · refine ht_seqR hn (El := (_ :: _ :: _ :: _ :: _ :: _ :: (20, .v (.int .i64 v1.2)) :: (21, .v (.bool (v1.2 == 0))) :: (22, .v (.bool true)) :: (23, .v (.int .i64 v2.2.2)) :: (24, .v (.bool (v2.2.2 == 0))) :: (25, .v (.bool (v2.2.2 == 0))) :: (26, .v (.bool true)) :: (27, .fl (.own 3) 1 (List.map (Value.int .i64) v1.1)) :: (28, .fl (.own 3) 1 (List.map (Value.int .i64) [2, 0, 6, 7])) :: (29, .v (.bool v3)) :: (30, .v (.bool v3)) :: (31, .v (.bool true)) :: (32, .v (.int .i64 v2.1)) :: (33, .v (.bool (v2.1 == 0))) :: (34, .v (.bool (v2.1 == 0))) :: (35, .v (.bool true)) :: (36, .v (.int .i64 v2.2.1)) :: (37, .v (.bool (v2.2.1 == 2))) :: (38, .v (.bool (v2.2.1 == 2))) :: (39, .v (.bool false)) :: (40, .v undef) :: (41, .v undef) :: (42, .v undef) :: (43, .v (.bool false)) :: (44, .v (.bool false)) :: (45, .v undef) :: (46, .v undef) :: (47, .v undef) :: (48, .v (.bool false)) :: (0, .v (.bool false)) :: [])) (init := [0, 1, 2, 3, 4, 5]) (fin := [35]) (sps := (⟨[2], [], [6], [(.slot 20)]⟩ :: ⟨[6], [], [7], [(.slot 21)]⟩ :: ⟨[7], [], [8], [(.slot 22)]⟩ :: ⟨[8, 5], [], [9], [(.slot 23)]⟩ :: ⟨[8, 9], [], [10], [(.slot 24)]⟩ :: ⟨[8, 10], [], [11], [(.slot 25)]⟩ :: ⟨[11], [], [12], [(.slot 26)]⟩ :: ⟨[12], [1], [13], [(.slot 27)]⟩ :: ⟨[12], [], [14], [(.slot 28)]⟩ :: ⟨[12, 13, 14], [], [15], [(.slot 29)]⟩ :: ⟨[12, 15], [], [16], [(.slot 30)]⟩ :: ⟨[16], [], [17], [(.slot 31)]⟩ :: ⟨[17, 3], [], [18], [(.slot 32)]⟩ :: ⟨[17, 18], [], [19], [(.slot 33)]⟩ :: ⟨[17, 19], [], [20], [(.slot 34)]⟩ :: ⟨[20], [], [21], [(.slot 35)]⟩ :: ⟨[21, 4], [], [22], [(.slot 36)]⟩ :: ⟨[21, 22], [], [23], [(.slot 37)]⟩ :: ⟨[21, 23], [], [24], [(.slot 38)]⟩ :: ⟨[24], [], [25], [(.slot 39)]⟩ :: ⟨[25], [], [26], [(.slot 40)]⟩ :: ⟨[25], [], [27], [(.slot 41)]⟩ :: ⟨[25], [], [28], [(.slot 42)]⟩ :: ⟨[25], [], [29], [(.slot 43)]⟩ :: ⟨[29], [], [30], [(.slot 44)]⟩ :: ⟨[30], [], [31], [(.slot 45)]⟩ :: ⟨[30], [], [32], [(.slot 46)]⟩ :: ⟨[30], [], [33], [(.slot 47)]⟩ :: ⟨[30], [], [34], [(.slot 48)]⟩ :: ⟨[34], [], [35], [(.slot 0)]⟩ :: [])) (es' := [(0, .v (.bool false))]) (by kernel_rfl) rfl rfl
                ⟨st_plain rfl (op_move _ _ _ _ rfl rfl),
                  st_plain rfl (op_bin _ _ _ _ _ rfl rfl rfl),
                  st_plain rfl (op_move _ _ _ _ (congrArg (fun b => AV.v (Value.bool b)) hg4_2) rfl),
                  st_run 2 22 true rfl rfl rfl (List.Mem.head _) (op_move _ _ _ _ rfl rfl),
                  st_run 2 22 true rfl rfl rfl (List.Mem.head _) (op_bin _ _ _ _ _ rfl rfl rfl),
                  st_plain rfl (op_pick _ _ true _ rfl rfl),
                  st_plain rfl (op_move _ _ _ _ (congrArg (fun b => AV.v (Value.bool b)) hg4_6) rfl),
                  st_run 6 26 true rfl rfl rfl (List.Mem.head _) (op_move_take _ _ _ _ rfl),
                  st_run 6 26 true rfl rfl rfl (List.Mem.head _) (op_buildSlice _ _ 1 (.int .i64 0) (List.map (Value.int .i64) [2, 0, 6, 7]) [(0, .int .i64 2), (1, .int .i64 0), (2, .int .i64 6), (3, .int .i64 7)] Try.underlying22 sz3 zr3 (fun _ V w o a hv hes => by simp only [List.map_toArray, List.map_cons, List.map_nil]; try rfl) (litfill (by simp [Instr.fill, Value.cells]; rfl) (by simp [List.range, List.range.loop])) (by simp [Value.oneCell']) rfl (by decide) (by decide) (by decide)),
                  st_run 6 26 true rfl rfl rfl (List.Mem.head _) (op_call _ _ 19 _ _ rfl Try.call19 rfl (ok_wherrykeep_Ints v1.1 [2, 0, 6, 7] _ hv3) rfl rfl),
                  st_plain rfl (op_pick _ _ true _ rfl rfl),
                  st_plain rfl (op_move _ _ _ _ (congrArg (fun b => AV.v (Value.bool b)) hg4_11) rfl),
                  st_run 11 31 true rfl rfl rfl (List.Mem.head _) (op_move _ _ _ _ rfl rfl),
                  st_run 11 31 true rfl rfl rfl (List.Mem.head _) (op_bin _ _ _ _ _ rfl rfl rfl),
                  st_plain rfl (op_pick _ _ true _ rfl rfl),
                  st_plain rfl (op_move _ _ _ _ (congrArg (fun b => AV.v (Value.bool b)) hg4_15) rfl),
                  st_run 15 35 true rfl rfl rfl (List.Mem.head _) (op_move _ _ _ _ rfl rfl),
                  st_run 15 35 true rfl rfl rfl (List.Mem.head _) (op_bin _ _ _ _ _ rfl rfl rfl),
                  st_plain rfl (op_pick _ _ true _ rfl rfl),
                  st_plain rfl (op_move _ _ _ _ (congrArg (fun b => AV.v (Value.bool b)) hg4_19) rfl),
                  st_skip 19 39 _ true rfl rfl rfl rfl (List.Mem.head _),
                  st_skip 19 39 _ true rfl rfl rfl rfl (List.Mem.head _),
                  st_skip 19 39 _ true rfl rfl rfl rfl (List.Mem.head _),
                  st_plain rfl (op_pick _ _ false _ rfl rfl),
                  st_plain rfl (op_move _ _ _ _ rfl rfl),
                  st_skip 24 44 _ true rfl rfl rfl rfl (List.Mem.head _),
                  st_skip 24 44 _ true rfl rfl rfl rfl (List.Mem.head _),
                  st_skip 24 44 _ true rfl rfl rfl rfl (List.Mem.head _),
                  st_plain rfl (op_pick _ _ false _ rfl rfl),
                  st_plain rfl (op_assign _ _ _ _ rfl rfl),
                  trivial⟩ ?_
              exact hl8 _ (Option.some.inj h).symm
          · refine ht_seqR hn (El := (_ :: _ :: _ :: _ :: _ :: _ :: (20, .v (.int .i64 v1.2)) :: (21, .v (.bool (v1.2 == 0))) :: (22, .v (.bool true)) :: (23, .v (.int .i64 v2.2.2)) :: (24, .v (.bool (v2.2.2 == 0))) :: (25, .v (.bool (v2.2.2 == 0))) :: (26, .v (.bool true)) :: (27, .fl (.own 3) 1 (List.map (Value.int .i64) v1.1)) :: (28, .fl (.own 3) 1 (List.map (Value.int .i64) [2, 0, 6, 7])) :: (29, .v (.bool v3)) :: (30, .v (.bool v3)) :: (31, .v (.bool true)) :: (32, .v (.int .i64 v2.1)) :: (33, .v (.bool (v2.1 == 0))) :: (34, .v (.bool (v2.1 == 0))) :: (35, .v (.bool false)) :: (36, .v undef) :: (37, .v undef) :: (38, .v (.bool false)) :: (39, .v (.bool false)) :: (40, .v undef) :: (41, .v undef) :: (42, .v undef) :: (43, .v (.bool false)) :: (44, .v (.bool false)) :: (45, .v undef) :: (46, .v undef) :: (47, .v undef) :: (48, .v (.bool false)) :: (0, .v (.bool false)) :: [])) (init := [0, 1, 2, 3, 4, 5]) (fin := [35]) (sps := (⟨[2], [], [6], [(.slot 20)]⟩ :: ⟨[6], [], [7], [(.slot 21)]⟩ :: ⟨[7], [], [8], [(.slot 22)]⟩ :: ⟨[8, 5], [], [9], [(.slot 23)]⟩ :: ⟨[8, 9], [], [10], [(.slot 24)]⟩ :: ⟨[8, 10], [], [11], [(.slot 25)]⟩ :: ⟨[11], [], [12], [(.slot 26)]⟩ :: ⟨[12], [1], [13], [(.slot 27)]⟩ :: ⟨[12], [], [14], [(.slot 28)]⟩ :: ⟨[12, 13, 14], [], [15], [(.slot 29)]⟩ :: ⟨[12, 15], [], [16], [(.slot 30)]⟩ :: ⟨[16], [], [17], [(.slot 31)]⟩ :: ⟨[17, 3], [], [18], [(.slot 32)]⟩ :: ⟨[17, 18], [], [19], [(.slot 33)]⟩ :: ⟨[17, 19], [], [20], [(.slot 34)]⟩ :: ⟨[20], [], [21], [(.slot 35)]⟩ :: ⟨[21], [], [22], [(.slot 36)]⟩ :: ⟨[21], [], [23], [(.slot 37)]⟩ :: ⟨[21], [], [24], [(.slot 38)]⟩ :: ⟨[24], [], [25], [(.slot 39)]⟩ :: ⟨[25], [], [26], [(.slot 40)]⟩ :: ⟨[25], [], [27], [(.slot 41)]⟩ :: ⟨[25], [], [28], [(.slot 42)]⟩ :: ⟨[25], [], [29], [(.slot 43)]⟩ :: ⟨[29], [], [30], [(.slot 44)]⟩ :: ⟨[30], [], [31], [(.slot 45)]⟩ :: ⟨[30], [], [32], [(.slot 46)]⟩ :: ⟨[30], [], [33], [(.slot 47)]⟩ :: ⟨[30], [], [34], [(.slot 48)]⟩ :: ⟨[34], [], [35], [(.slot 0)]⟩ :: [])) (es' := [(0, .v (.bool false))]) (by kernel_rfl) rfl rfl
              ⟨st_plain rfl (op_move _ _ _ _ rfl rfl),
                st_plain rfl (op_bin _ _ _ _ _ rfl rfl rfl),
                st_plain rfl (op_move _ _ _ _ (congrArg (fun b => AV.v (Value.bool b)) hg4_2) rfl),
                st_run 2 22 true rfl rfl rfl (List.Mem.head _) (op_move _ _ _ _ rfl rfl),
                st_run 2 22 true rfl rfl rfl (List.Mem.head _) (op_bin _ _ _ _ _ rfl rfl rfl),
                st_plain rfl (op_pick _ _ true _ rfl rfl),
                st_plain rfl (op_move _ _ _ _ (congrArg (fun b => AV.v (Value.bool b)) hg4_6) rfl),
                st_run 6 26 true rfl rfl rfl (List.Mem.head _) (op_move_take _ _ _ _ rfl),
                st_run 6 26 true rfl rfl rfl (List.Mem.head _) (op_buildSlice _ _ 1 (.int .i64 0) (List.map (Value.int .i64) [2, 0, 6, 7]) [(0, .int .i64 2), (1, .int .i64 0), (2, .int .i64 6), (3, .int .i64 7)] Try.underlying22 sz3 zr3 (fun _ V w o a hv hes => by simp only [List.map_toArray, List.map_cons, List.map_nil]; try rfl) (litfill (by simp [Instr.fill, Value.cells]; rfl) (by simp [List.range, List.range.loop])) (by simp [Value.oneCell']) rfl (by decide) (by decide) (by decide)),
                st_run 6 26 true rfl rfl rfl (List.Mem.head _) (op_call _ _ 19 _ _ rfl Try.call19 rfl (ok_wherrykeep_Ints v1.1 [2, 0, 6, 7] _ hv3) rfl rfl),
                st_plain rfl (op_pick _ _ true _ rfl rfl),
                st_plain rfl (op_move _ _ _ _ (congrArg (fun b => AV.v (Value.bool b)) hg4_11) rfl),
                st_run 11 31 true rfl rfl rfl (List.Mem.head _) (op_move _ _ _ _ rfl rfl),
                st_run 11 31 true rfl rfl rfl (List.Mem.head _) (op_bin _ _ _ _ _ rfl rfl rfl),
                st_plain rfl (op_pick _ _ true _ rfl rfl),
                st_plain rfl (op_move _ _ _ _ (congrArg (fun b => AV.v (Value.bool b)) hg4_15) rfl),
                st_skip 15 35 _ true rfl rfl rfl rfl (List.Mem.head _),
                st_skip 15 35 _ true rfl rfl rfl rfl (List.Mem.head _),
                st_plain rfl (op_pick _ _ false _ rfl rfl),
                st_plain rfl (op_move _ _ _ _ rfl rfl),
                st_skip 19 39 _ true rfl rfl rfl rfl (List.Mem.head _),
                st_skip 19 39 _ true rfl rfl rfl rfl (List.Mem.head _),
                st_skip 19 39 _ true rfl rfl rfl rfl (List.Mem.head _),
                st_plain rfl (op_pick _ _ false _ rfl rfl),
                st_plain rfl (op_move _ _ _ _ rfl rfl),
                st_skip 24 44 _ true rfl rfl rfl rfl (List.Mem.head _),
                st_skip 24 44 _ true rfl rfl rfl rfl (List.Mem.head _),
                st_skip 24 44 _ true rfl rfl rfl rfl (List.Mem.head _),
                st_plain rfl (op_pick _ _ false _ rfl rfl),
                st_plain rfl (op_assign _ _ _ _ rfl rfl),
                trivial⟩ ?_
            exact hl8 _ (Option.some.inj h).symm
        · refine ht_seqR hn (El := (_ :: _ :: _ :: _ :: _ :: _ :: (20, .v (.int .i64 v1.2)) :: (21, .v (.bool (v1.2 == 0))) :: (22, .v (.bool true)) :: (23, .v (.int .i64 v2.2.2)) :: (24, .v (.bool (v2.2.2 == 0))) :: (25, .v (.bool (v2.2.2 == 0))) :: (26, .v (.bool true)) :: (27, .fl (.own 3) 1 (List.map (Value.int .i64) v1.1)) :: (28, .fl (.own 3) 1 (List.map (Value.int .i64) [2, 0, 6, 7])) :: (29, .v (.bool v3)) :: (30, .v (.bool v3)) :: (31, .v (.bool false)) :: (32, .v undef) :: (33, .v undef) :: (34, .v (.bool false)) :: (35, .v (.bool false)) :: (36, .v undef) :: (37, .v undef) :: (38, .v (.bool false)) :: (39, .v (.bool false)) :: (40, .v undef) :: (41, .v undef) :: (42, .v undef) :: (43, .v (.bool false)) :: (44, .v (.bool false)) :: (45, .v undef) :: (46, .v undef) :: (47, .v undef) :: (48, .v (.bool false)) :: (0, .v (.bool false)) :: [])) (init := [0, 1, 2, 3, 4, 5]) (fin := [35]) (sps := (⟨[2], [], [6], [(.slot 20)]⟩ :: ⟨[6], [], [7], [(.slot 21)]⟩ :: ⟨[7], [], [8], [(.slot 22)]⟩ :: ⟨[8, 5], [], [9], [(.slot 23)]⟩ :: ⟨[8, 9], [], [10], [(.slot 24)]⟩ :: ⟨[8, 10], [], [11], [(.slot 25)]⟩ :: ⟨[11], [], [12], [(.slot 26)]⟩ :: ⟨[12], [1], [13], [(.slot 27)]⟩ :: ⟨[12], [], [14], [(.slot 28)]⟩ :: ⟨[12, 13, 14], [], [15], [(.slot 29)]⟩ :: ⟨[12, 15], [], [16], [(.slot 30)]⟩ :: ⟨[16], [], [17], [(.slot 31)]⟩ :: ⟨[17], [], [18], [(.slot 32)]⟩ :: ⟨[17], [], [19], [(.slot 33)]⟩ :: ⟨[17], [], [20], [(.slot 34)]⟩ :: ⟨[20], [], [21], [(.slot 35)]⟩ :: ⟨[21], [], [22], [(.slot 36)]⟩ :: ⟨[21], [], [23], [(.slot 37)]⟩ :: ⟨[21], [], [24], [(.slot 38)]⟩ :: ⟨[24], [], [25], [(.slot 39)]⟩ :: ⟨[25], [], [26], [(.slot 40)]⟩ :: ⟨[25], [], [27], [(.slot 41)]⟩ :: ⟨[25], [], [28], [(.slot 42)]⟩ :: ⟨[25], [], [29], [(.slot 43)]⟩ :: ⟨[29], [], [30], [(.slot 44)]⟩ :: ⟨[30], [], [31], [(.slot 45)]⟩ :: ⟨[30], [], [32], [(.slot 46)]⟩ :: ⟨[30], [], [33], [(.slot 47)]⟩ :: ⟨[30], [], [34], [(.slot 48)]⟩ :: ⟨[34], [], [35], [(.slot 0)]⟩ :: [])) (es' := [(0, .v (.bool false))]) (by kernel_rfl) rfl rfl
            ⟨st_plain rfl (op_move _ _ _ _ rfl rfl),
              st_plain rfl (op_bin _ _ _ _ _ rfl rfl rfl),
              st_plain rfl (op_move _ _ _ _ (congrArg (fun b => AV.v (Value.bool b)) hg4_2) rfl),
              st_run 2 22 true rfl rfl rfl (List.Mem.head _) (op_move _ _ _ _ rfl rfl),
              st_run 2 22 true rfl rfl rfl (List.Mem.head _) (op_bin _ _ _ _ _ rfl rfl rfl),
              st_plain rfl (op_pick _ _ true _ rfl rfl),
              st_plain rfl (op_move _ _ _ _ (congrArg (fun b => AV.v (Value.bool b)) hg4_6) rfl),
              st_run 6 26 true rfl rfl rfl (List.Mem.head _) (op_move_take _ _ _ _ rfl),
              st_run 6 26 true rfl rfl rfl (List.Mem.head _) (op_buildSlice _ _ 1 (.int .i64 0) (List.map (Value.int .i64) [2, 0, 6, 7]) [(0, .int .i64 2), (1, .int .i64 0), (2, .int .i64 6), (3, .int .i64 7)] Try.underlying22 sz3 zr3 (fun _ V w o a hv hes => by simp only [List.map_toArray, List.map_cons, List.map_nil]; try rfl) (litfill (by simp [Instr.fill, Value.cells]; rfl) (by simp [List.range, List.range.loop])) (by simp [Value.oneCell']) rfl (by decide) (by decide) (by decide)),
              st_run 6 26 true rfl rfl rfl (List.Mem.head _) (op_call _ _ 19 _ _ rfl Try.call19 rfl (ok_wherrykeep_Ints v1.1 [2, 0, 6, 7] _ hv3) rfl rfl),
              st_plain rfl (op_pick _ _ true _ rfl rfl),
              st_plain rfl (op_move _ _ _ _ (congrArg (fun b => AV.v (Value.bool b)) hg4_11) rfl),
              st_skip 11 31 _ true rfl rfl rfl rfl (List.Mem.head _),
              st_skip 11 31 _ true rfl rfl rfl rfl (List.Mem.head _),
              st_plain rfl (op_pick _ _ false _ rfl rfl),
              st_plain rfl (op_move _ _ _ _ rfl rfl),
              st_skip 15 35 _ true rfl rfl rfl rfl (List.Mem.head _),
              st_skip 15 35 _ true rfl rfl rfl rfl (List.Mem.head _),
              st_plain rfl (op_pick _ _ false _ rfl rfl),
              st_plain rfl (op_move _ _ _ _ rfl rfl),
              st_skip 19 39 _ true rfl rfl rfl rfl (List.Mem.head _),
              st_skip 19 39 _ true rfl rfl rfl rfl (List.Mem.head _),
              st_skip 19 39 _ true rfl rfl rfl rfl (List.Mem.head _),
              st_plain rfl (op_pick _ _ false _ rfl rfl),
              st_plain rfl (op_move _ _ _ _ rfl rfl),
              st_skip 24 44 _ true rfl rfl rfl rfl (List.Mem.head _),
              st_skip 24 44 _ true rfl rfl rfl rfl (List.Mem.head _),
              st_skip 24 44 _ true rfl rfl rfl rfl (List.Mem.head _),
              st_plain rfl (op_pick _ _ false _ rfl rfl),
              st_plain rfl (op_assign _ _ _ _ rfl rfl),
              trivial⟩ ?_
          exact hl8 _ (Option.some.inj h).symm
      · refine ht_seqR hn (El := (_ :: _ :: _ :: _ :: _ :: _ :: (20, .v (.int .i64 v1.2)) :: (21, .v (.bool (v1.2 == 0))) :: (22, .v (.bool true)) :: (23, .v (.int .i64 v2.2.2)) :: (24, .v (.bool (v2.2.2 == 0))) :: (25, .v (.bool (v2.2.2 == 0))) :: (26, .v (.bool false)) :: (27, .v undef) :: (28, .v undef) :: (29, .v undef) :: (30, .v (.bool false)) :: (31, .v (.bool false)) :: (32, .v undef) :: (33, .v undef) :: (34, .v (.bool false)) :: (35, .v (.bool false)) :: (36, .v undef) :: (37, .v undef) :: (38, .v (.bool false)) :: (39, .v (.bool false)) :: (40, .v undef) :: (41, .v undef) :: (42, .v undef) :: (43, .v (.bool false)) :: (44, .v (.bool false)) :: (45, .v undef) :: (46, .v undef) :: (47, .v undef) :: (48, .v (.bool false)) :: (0, .v (.bool false)) :: [])) (init := [0, 1, 2, 3, 4, 5]) (fin := [35]) (sps := (⟨[2], [], [6], [(.slot 20)]⟩ :: ⟨[6], [], [7], [(.slot 21)]⟩ :: ⟨[7], [], [8], [(.slot 22)]⟩ :: ⟨[8, 5], [], [9], [(.slot 23)]⟩ :: ⟨[8, 9], [], [10], [(.slot 24)]⟩ :: ⟨[8, 10], [], [11], [(.slot 25)]⟩ :: ⟨[11], [], [12], [(.slot 26)]⟩ :: ⟨[12], [], [13], [(.slot 27)]⟩ :: ⟨[12], [], [14], [(.slot 28)]⟩ :: ⟨[12], [], [15], [(.slot 29)]⟩ :: ⟨[12], [], [16], [(.slot 30)]⟩ :: ⟨[16], [], [17], [(.slot 31)]⟩ :: ⟨[17], [], [18], [(.slot 32)]⟩ :: ⟨[17], [], [19], [(.slot 33)]⟩ :: ⟨[17], [], [20], [(.slot 34)]⟩ :: ⟨[20], [], [21], [(.slot 35)]⟩ :: ⟨[21], [], [22], [(.slot 36)]⟩ :: ⟨[21], [], [23], [(.slot 37)]⟩ :: ⟨[21], [], [24], [(.slot 38)]⟩ :: ⟨[24], [], [25], [(.slot 39)]⟩ :: ⟨[25], [], [26], [(.slot 40)]⟩ :: ⟨[25], [], [27], [(.slot 41)]⟩ :: ⟨[25], [], [28], [(.slot 42)]⟩ :: ⟨[25], [], [29], [(.slot 43)]⟩ :: ⟨[29], [], [30], [(.slot 44)]⟩ :: ⟨[30], [], [31], [(.slot 45)]⟩ :: ⟨[30], [], [32], [(.slot 46)]⟩ :: ⟨[30], [], [33], [(.slot 47)]⟩ :: ⟨[30], [], [34], [(.slot 48)]⟩ :: ⟨[34], [], [35], [(.slot 0)]⟩ :: [])) (es' := [(0, .v (.bool false))]) (by kernel_rfl) rfl rfl
          ⟨st_plain rfl (op_move _ _ _ _ rfl rfl),
            st_plain rfl (op_bin _ _ _ _ _ rfl rfl rfl),
            st_plain rfl (op_move _ _ _ _ (congrArg (fun b => AV.v (Value.bool b)) hg4_2) rfl),
            st_run 2 22 true rfl rfl rfl (List.Mem.head _) (op_move _ _ _ _ rfl rfl),
            st_run 2 22 true rfl rfl rfl (List.Mem.head _) (op_bin _ _ _ _ _ rfl rfl rfl),
            st_plain rfl (op_pick _ _ true _ rfl rfl),
            st_plain rfl (op_move _ _ _ _ (congrArg (fun b => AV.v (Value.bool b)) hg4_6) rfl),
            st_skip 6 26 _ true rfl rfl rfl rfl (List.Mem.head _),
            st_skip 6 26 _ true rfl rfl rfl rfl (List.Mem.head _),
            st_skip 6 26 _ true rfl rfl rfl rfl (List.Mem.head _),
            st_plain rfl (op_pick _ _ false _ rfl rfl),
            st_plain rfl (op_move _ _ _ _ rfl rfl),
            st_skip 11 31 _ true rfl rfl rfl rfl (List.Mem.head _),
            st_skip 11 31 _ true rfl rfl rfl rfl (List.Mem.head _),
            st_plain rfl (op_pick _ _ false _ rfl rfl),
            st_plain rfl (op_move _ _ _ _ rfl rfl),
            st_skip 15 35 _ true rfl rfl rfl rfl (List.Mem.head _),
            st_skip 15 35 _ true rfl rfl rfl rfl (List.Mem.head _),
            st_plain rfl (op_pick _ _ false _ rfl rfl),
            st_plain rfl (op_move _ _ _ _ rfl rfl),
            st_skip 19 39 _ true rfl rfl rfl rfl (List.Mem.head _),
            st_skip 19 39 _ true rfl rfl rfl rfl (List.Mem.head _),
            st_skip 19 39 _ true rfl rfl rfl rfl (List.Mem.head _),
            st_plain rfl (op_pick _ _ false _ rfl rfl),
            st_plain rfl (op_move _ _ _ _ rfl rfl),
            st_skip 24 44 _ true rfl rfl rfl rfl (List.Mem.head _),
            st_skip 24 44 _ true rfl rfl rfl rfl (List.Mem.head _),
            st_skip 24 44 _ true rfl rfl rfl rfl (List.Mem.head _),
            st_plain rfl (op_pick _ _ false _ rfl rfl),
            st_plain rfl (op_assign _ _ _ _ rfl rfl),
            trivial⟩ ?_
        exact hl8 _ (Option.some.inj h).symm
    · refine ht_seqR hn (El := (_ :: _ :: _ :: _ :: _ :: _ :: (20, .v (.int .i64 v1.2)) :: (21, .v (.bool (v1.2 == 0))) :: (22, .v (.bool false)) :: (23, .v undef) :: (24, .v undef) :: (25, .v (.bool false)) :: (26, .v (.bool false)) :: (27, .v undef) :: (28, .v undef) :: (29, .v undef) :: (30, .v (.bool false)) :: (31, .v (.bool false)) :: (32, .v undef) :: (33, .v undef) :: (34, .v (.bool false)) :: (35, .v (.bool false)) :: (36, .v undef) :: (37, .v undef) :: (38, .v (.bool false)) :: (39, .v (.bool false)) :: (40, .v undef) :: (41, .v undef) :: (42, .v undef) :: (43, .v (.bool false)) :: (44, .v (.bool false)) :: (45, .v undef) :: (46, .v undef) :: (47, .v undef) :: (48, .v (.bool false)) :: (0, .v (.bool false)) :: [])) (init := [0, 1, 2, 3, 4, 5]) (fin := [35]) (sps := (⟨[2], [], [6], [(.slot 20)]⟩ :: ⟨[6], [], [7], [(.slot 21)]⟩ :: ⟨[7], [], [8], [(.slot 22)]⟩ :: ⟨[8], [], [9], [(.slot 23)]⟩ :: ⟨[8], [], [10], [(.slot 24)]⟩ :: ⟨[8], [], [11], [(.slot 25)]⟩ :: ⟨[11], [], [12], [(.slot 26)]⟩ :: ⟨[12], [], [13], [(.slot 27)]⟩ :: ⟨[12], [], [14], [(.slot 28)]⟩ :: ⟨[12], [], [15], [(.slot 29)]⟩ :: ⟨[12], [], [16], [(.slot 30)]⟩ :: ⟨[16], [], [17], [(.slot 31)]⟩ :: ⟨[17], [], [18], [(.slot 32)]⟩ :: ⟨[17], [], [19], [(.slot 33)]⟩ :: ⟨[17], [], [20], [(.slot 34)]⟩ :: ⟨[20], [], [21], [(.slot 35)]⟩ :: ⟨[21], [], [22], [(.slot 36)]⟩ :: ⟨[21], [], [23], [(.slot 37)]⟩ :: ⟨[21], [], [24], [(.slot 38)]⟩ :: ⟨[24], [], [25], [(.slot 39)]⟩ :: ⟨[25], [], [26], [(.slot 40)]⟩ :: ⟨[25], [], [27], [(.slot 41)]⟩ :: ⟨[25], [], [28], [(.slot 42)]⟩ :: ⟨[25], [], [29], [(.slot 43)]⟩ :: ⟨[29], [], [30], [(.slot 44)]⟩ :: ⟨[30], [], [31], [(.slot 45)]⟩ :: ⟨[30], [], [32], [(.slot 46)]⟩ :: ⟨[30], [], [33], [(.slot 47)]⟩ :: ⟨[30], [], [34], [(.slot 48)]⟩ :: ⟨[34], [], [35], [(.slot 0)]⟩ :: [])) (es' := [(0, .v (.bool false))]) (by kernel_rfl) rfl rfl
        ⟨st_plain rfl (op_move _ _ _ _ rfl rfl),
          st_plain rfl (op_bin _ _ _ _ _ rfl rfl rfl),
          st_plain rfl (op_move _ _ _ _ (congrArg (fun b => AV.v (Value.bool b)) hg4_2) rfl),
          st_skip 2 22 _ true rfl rfl rfl rfl (List.Mem.head _),
          st_skip 2 22 _ true rfl rfl rfl rfl (List.Mem.head _),
          st_plain rfl (op_pick _ _ false _ rfl rfl),
          st_plain rfl (op_move _ _ _ _ rfl rfl),
          st_skip 6 26 _ true rfl rfl rfl rfl (List.Mem.head _),
          st_skip 6 26 _ true rfl rfl rfl rfl (List.Mem.head _),
          st_skip 6 26 _ true rfl rfl rfl rfl (List.Mem.head _),
          st_plain rfl (op_pick _ _ false _ rfl rfl),
          st_plain rfl (op_move _ _ _ _ rfl rfl),
          st_skip 11 31 _ true rfl rfl rfl rfl (List.Mem.head _),
          st_skip 11 31 _ true rfl rfl rfl rfl (List.Mem.head _),
          st_plain rfl (op_pick _ _ false _ rfl rfl),
          st_plain rfl (op_move _ _ _ _ rfl rfl),
          st_skip 15 35 _ true rfl rfl rfl rfl (List.Mem.head _),
          st_skip 15 35 _ true rfl rfl rfl rfl (List.Mem.head _),
          st_plain rfl (op_pick _ _ false _ rfl rfl),
          st_plain rfl (op_move _ _ _ _ rfl rfl),
          st_skip 19 39 _ true rfl rfl rfl rfl (List.Mem.head _),
          st_skip 19 39 _ true rfl rfl rfl rfl (List.Mem.head _),
          st_skip 19 39 _ true rfl rfl rfl rfl (List.Mem.head _),
          st_plain rfl (op_pick _ _ false _ rfl rfl),
          st_plain rfl (op_move _ _ _ _ rfl rfl),
          st_skip 24 44 _ true rfl rfl rfl rfl (List.Mem.head _),
          st_skip 24 44 _ true rfl rfl rfl rfl (List.Mem.head _),
          st_skip 24 44 _ true rfl rfl rfl rfl (List.Mem.head _),
          st_plain rfl (op_pick _ _ false _ rfl rfl),
          st_plain rfl (op_assign _ _ _ _ rfl rfl),
          trivial⟩ ?_
      exact hl8 _ (Option.some.inj h).symm

set_option maxHeartbeats 1000000 in
theorem ok_wherrylaw02_CanonExact (l : (List Int)) (b : (List Int)) (at_ : Int) (r : Bool) (h : Sh.wherrylaw02_CanonExact l b at_ = some r) : FnOK Try.prog 3 [.fl .shr 1 (List.map (Value.int .i64) l), .fl .shr 1 (List.map (Value.int .u8) b), .v (.int .i64 at_)] (.v (.bool r)) := by
  unfold Sh.wherrylaw02_CanonExact at h
  refine fn_ok Try.func3 rfl (Nat.le_of_ble_eq_true rfl) rfl rfl fun g0 hn hio => ?_
  refine ht_seq ?_
  refine ht_seqR hn (El := [_, _, _, (6, .v (.bool false))]) (init := [0, 1, 2]) (fin := [0, 1, 2]) (sps := [⟨[], [], [3], [(.slot 6)]⟩]) (es' := [(_, _), (_, _), (_, _)]) (by kernel_rfl) rfl rfl
    ⟨st_plain rfl (op_assign _ _ _ _ rfl rfl),
      trivial⟩ ?_
  refine pt_then ?_
  refine ht_seq ?_
  refine ht_seq ?_
  refine ht_joinS h (fun (s1 : Bool) => [(0, .fl .shr 1 (List.map (Value.int .i64) l)), (1, .fl .shr 1 (List.map (Value.int .u8) b)), (2, .v (.int .i64 at_)), (27, .v (.bool s1))]) ?_ ?_
  · rintro s1 h
    refine pt_then ?_
    refine ht_cond _ rfl (fun hb5 => ?_) (fun hb5 => ?_)
    · have h := cond_t hb5 h
      refine ht_seq ?_
      refine ht_seqR hn (El := [_, _, _, _, (6, .v (.bool true))]) (init := [0, 1, 2, 3]) (fin := [4]) (sps := [⟨[], [], [4], [(.slot 6)]⟩]) (es' := [(6, .v (.bool true))]) (by kernel_rfl) rfl rfl
        ⟨st_plain rfl (op_assign _ _ _ _ rfl rfl),
          trivial⟩ ?_
      refine pt_then ?_
      refine ht_ret ?_
      refine pt_r_then ?_
      obtain rfl := Option.some.inj h
      exact pt_ret hio rfl (.tmp _ _ .nil) rfl rfl
    · have h := cond_f hb5 h
      refine ht_skip ?_
      refine pt_then ?_
      refine ht_seq ?_
      obtain ⟨v6, hv6, h⟩ := bind_some h
      obtain ⟨v7, hv7, h⟩ := bind_some h
      refine ht_seqR hn (El := [_, _, _, _, (28, .fl .shr 1 (List.map (Value.int .i64) l)), (29, .fl (.own 3) 1 (List.map (Value.int .i64) v6)), (30, .fl .shr 1 (List.map (Value.int .u8) b)), (31, .fl (.own 5) 1 (List.map (Value.int .u8) v7)), (7, .fl (.own 3) 1 (List.map (Value.int .i64) v6)), (8, .fl (.own 5) 1 (List.map (Value.int .u8) v7))]) (init := [0, 1, 2, 3]) (fin := [0, 1, 2, 8, 9]) (sps := [⟨[0], [], [4], [(.slot 28)]⟩, ⟨[4], [], [5], [(.slot 29)]⟩, ⟨[1], [], [6], [(.slot 30)]⟩, ⟨[6], [], [7], [(.slot 31)]⟩, ⟨[], [5], [8], [(.slot 7)]⟩, ⟨[], [7], [9], [(.slot 8)]⟩]) (es' := [(_, _), (_, _), (_, _), (7, .fl (.own 3) 1 (List.map (Value.int .i64) v6)), (8, .fl (.own 5) 1 (List.map (Value.int .u8) v7))]) (by kernel_rfl) rfl rfl
        ⟨st_plain rfl (op_move _ _ _ _ rfl rfl),
          st_plain rfl (op_call _ _ 9 _ _ rfl Try.call9 rfl (ok_wherrykeep_TwinInts l _ hv6) rfl rfl),
          st_plain rfl (op_move _ _ _ _ rfl rfl),
          st_plain rfl (op_call _ _ 10 _ _ rfl Try.call10 rfl (ok_wherrykeep_Twin b _ hv7) rfl rfl),
          st_plain rfl (op_assign_take _ _ _ _ rfl),
          st_plain rfl (op_assign_take _ _ _ _ rfl),
          trivial⟩ ?_
      refine pt_then ?_
      refine ht_seq ?_
      obtain ⟨v8, hv8, h⟩ := bind_some h
      refine ht_seqR hn (El := [_, _, _, _, _, (33, .same (.slot 7)), (34, .tup [.fl (.own 3) 1 (List.map (Value.int .i64) v8.1), .v (.int .i64 v8.2)]), (32, .tup [.fl (.own 3) 1 (List.map (Value.int .i64) v8.1), .v (.int .i64 v8.2)]), (35, .fl (.own 3) 1 (List.map (Value.int .i64) v8.1)), (32, .tup [.any, .v (.int .i64 v8.2)]), (36, .v (.int .i64 v8.2)), (9, .fl (.own 3) 1 (List.map (Value.int .i64) v8.1)), (10, .v (.int .i64 v8.2))]) (init := [0, 1, 2, 3, 4]) (fin := [0, 1, 2, 3, 4, 11, 12]) (sps := [⟨[3], [], [5], [(.slot 33)]⟩, ⟨[5, 3], [], [6], [(.slot 34)]⟩, ⟨[], [6], [7], [(.slot 32)]⟩, ⟨[], [7], [9, 8], [(.slot 35)]⟩, ⟨[9], [], [10], [(.slot 36)]⟩, ⟨[], [8], [11], [(.slot 9)]⟩, ⟨[10], [], [12], [(.slot 10)]⟩]) (es' := [(_, _), (_, _), (_, _), (_, _), (_, _), (9, .fl (.own 3) 1 (List.map (Value.int .i64) v8.1)), (10, .v (.int .i64 v8.2))]) (by kernel_rfl) rfl rfl
        ⟨st_plain rfl (op_move _ _ _ _ rfl rfl),
          st_plain rfl (op_call _ _ 11 _ _ rfl Try.call11 rfl (ok_canon_Codes v6 _ hv8) rfl rfl),
          st_plain rfl (op_move_take _ _ _ _ rfl),
          st_plain rfl (op_extract_take _ _ _ _ _ rfl (Nat.le_of_ble_eq_true rfl) rfl rfl (by decide) rfl),
          st_plain rfl (op_extract _ _ _ _ _ rfl rfl (Nat.le_of_ble_eq_true rfl) rfl rfl),
          st_plain rfl (op_assign_take _ _ _ _ rfl),
          st_plain rfl (op_assign _ _ _ _ rfl rfl),
          trivial⟩ ?_
      refine pt_then ?_
      refine ht_seq ?_
      obtain ⟨v9, hv9, h⟩ := bind_some h
      refine ht_seqR hn (El := (_ :: _ :: _ :: _ :: _ :: _ :: _ :: (38, .fl .shr 1 (List.map (Value.int .i64) l)) :: (39, .tup [.fl (.own 3) 1 (List.map (Value.int .i64) v9.1), .v (.int .i64 v9.2)]) :: (37, .tup [.fl (.own 3) 1 (List.map (Value.int .i64) v9.1), .v (.int .i64 v9.2)]) :: (40, .fl (.own 3) 1 (List.map (Value.int .i64) v9.1)) :: (37, .tup [.any, .v (.int .i64 v9.2)]) :: (41, .v (.int .i64 v9.2)) :: (11, .fl (.own 3) 1 (List.map (Value.int .i64) v9.1)) :: (12, .v (.int .i64 v9.2)) :: [])) (init := [0, 1, 2, 3, 4, 5, 6]) (fin := [0, 1, 2, 3, 4, 5, 6, 13, 14]) (sps := [⟨[0], [], [7], [(.slot 38)]⟩, ⟨[7], [], [8], [(.slot 39)]⟩, ⟨[], [8], [9], [(.slot 37)]⟩, ⟨[], [9], [11, 10], [(.slot 40)]⟩, ⟨[11], [], [12], [(.slot 41)]⟩, ⟨[], [10], [13], [(.slot 11)]⟩, ⟨[12], [], [14], [(.slot 12)]⟩]) (es' := [(_, _), (_, _), (_, _), (_, _), (_, _), (_, _), (_, _), (11, .fl (.own 3) 1 (List.map (Value.int .i64) v9.1)), (12, .v (.int .i64 v9.2))]) (by kernel_rfl) rfl rfl
        ⟨st_plain rfl (op_move _ _ _ _ rfl rfl),
          st_plain rfl (op_call _ _ 12 _ _ rfl Try.call12 rfl (ok_wherryref01_Codes l _ hv9) rfl rfl),
          st_plain rfl (op_move_take _ _ _ _ rfl),
          st_plain rfl (op_extract_take _ _ _ _ _ rfl (Nat.le_of_ble_eq_true rfl) rfl rfl (by decide) rfl),
          st_plain rfl (op_extract _ _ _ _ _ rfl rfl (Nat.le_of_ble_eq_true rfl) rfl rfl),
          st_plain rfl (op_assign_take _ _ _ _ rfl),
          st_plain rfl (op_assign _ _ _ _ rfl rfl),
          trivial⟩ ?_
      refine pt_then ?_
      refine ht_seq ?_
      obtain ⟨v10, hv10, h⟩ := bind_some h
      refine ht_seqR hn (El := (_ :: _ :: _ :: _ :: _ :: _ :: _ :: _ :: _ :: (43, .same (.slot 7)) :: (44, .same (.slot 8)) :: (45, .v (.int .i64 at_)) :: (46, .tup [.v (.int .i64 v10.1), .v (.int .i64 v10.2.1), .v (.int .i64 v10.2.2)]) :: (42, .tup [.v (.int .i64 v10.1), .v (.int .i64 v10.2.1), .v (.int .i64 v10.2.2)]) :: (47, .v (.int .i64 v10.1)) :: (48, .v (.int .i64 v10.2.1)) :: (49, .v (.int .i64 v10.2.2)) :: (13, .v (.int .i64 v10.1)) :: (14, .v (.int .i64 v10.2.1)) :: (15, .v (.int .i64 v10.2.2)) :: [])) (init := [0, 1, 2, 3, 4, 5, 6, 7, 8]) (fin := [0, 1, 2, 3, 4, 5, 6, 7, 8, 17, 18, 19]) (sps := [⟨[3], [], [9], [(.slot 43)]⟩, ⟨[4], [], [10], [(.slot 44)]⟩, ⟨[2], [], [11], [(.slot 45)]⟩, ⟨[9, 3, 10, 4, 11], [], [12], [(.slot 46)]⟩, ⟨[], [12], [13], [(.slot 42)]⟩, ⟨[13], [], [14], [(.slot 47)]⟩, ⟨[13], [], [15], [(.slot 48)]⟩, ⟨[13], [], [16], [(.slot 49)]⟩, ⟨[14], [], [17], [(.slot 13)]⟩, ⟨[15], [], [18], [(.slot 14)]⟩, ⟨[16], [], [19], [(.slot 15)]⟩]) (es' := [(_, _), (_, _), (_, _), (_, _), (_, _), (_, _), (_, _), (_, _), (_, _), (13, .v (.int .i64 v10.1)), (14, .v (.int .i64 v10.2.1)), (15, .v (.int .i64 v10.2.2))]) (by kernel_rfl) rfl rfl
        ⟨st_plain rfl (op_move _ _ _ _ rfl rfl),
          st_plain rfl (op_move _ _ _ _ rfl rfl),
          st_plain rfl (op_move _ _ _ _ rfl rfl),
          st_plain rfl (op_call _ _ 13 _ _ rfl Try.call13 rfl (ok_canon_Read v6 v7 at_ _ hv10) rfl rfl),
          st_plain rfl (op_move_take _ _ _ _ rfl),
          st_plain rfl (op_extract _ _ _ _ _ rfl rfl (Nat.le_of_ble_eq_true rfl) rfl rfl),
          st_plain rfl (op_extract _ _ _ _ _ rfl rfl (Nat.le_of_ble_eq_true rfl) rfl rfl),
          st_plain rfl (op_extract _ _ _ _ _ rfl rfl (Nat.le_of_ble_eq_true rfl) rfl rfl),
          st_plain rfl (op_assign _ _ _ _ rfl rfl),
          st_plain rfl (op_assign _ _ _ _ rfl rfl),
          st_plain rfl (op_assign _ _ _ _ rfl rfl),
          trivial⟩ ?_
      refine pt_then ?_
      refine ht_seq ?_
      obtain ⟨v11, hv11, h⟩ := bind_some h
      refine ht_seqR hn (El := (_ :: _ :: _ :: _ :: _ :: _ :: _ :: _ :: _ :: _ :: _ :: _ :: (51, .fl .shr 1 (List.map (Value.int .i64) l)) :: (52, .fl .shr 1 (List.map (Value.int .u8) b)) :: (53, .v (.int .i64 at_)) :: (54, .tup [.v (.int .i64 v11.1), .v (.int .i64 v11.2.1), .v (.int .i64 v11.2.2)]) :: (50, .tup [.v (.int .i64 v11.1), .v (.int .i64 v11.2.1), .v (.int .i64 v11.2.2)]) :: (55, .v (.int .i64 v11.1)) :: (56, .v (.int .i64 v11.2.1)) :: (57, .v (.int .i64 v11.2.2)) :: (16, .v (.int .i64 v11.1)) :: (17, .v (.int .i64 v11.2.1)) :: (18, .v (.int .i64 v11.2.2)) :: [])) (init := [0, 1, 2, 3, 4, 5, 6, 7, 8, 9, 10, 11]) (fin := [0, 1, 3, 4, 5, 6, 7, 8, 9, 10, 11, 20, 21, 22]) (sps := [⟨[0], [], [12], [(.slot 51)]⟩, ⟨[1], [], [13], [(.slot 52)]⟩, ⟨[2], [], [14], [(.slot 53)]⟩, ⟨[12, 13, 14], [], [15], [(.slot 54)]⟩, ⟨[], [15], [16], [(.slot 50)]⟩, ⟨[16], [], [17], [(.slot 55)]⟩, ⟨[16], [], [18], [(.slot 56)]⟩, ⟨[16], [], [19], [(.slot 57)]⟩, ⟨[17], [], [20], [(.slot 16)]⟩, ⟨[18], [], [21], [(.slot 17)]⟩, ⟨[19], [], [22], [(.slot 18)]⟩]) (es' := [(_, _), (_, _), (_, _), (_, _), (_, _), (_, _), (_, _), (_, _), (_, _), (_, _), (_, _), (16, .v (.int .i64 v11.1)), (17, .v (.int .i64 v11.2.1)), (18, .v (.int .i64 v11.2.2))]) (by kernel_rfl) rfl rfl
        ⟨st_plain rfl (op_move _ _ _ _ rfl rfl),
          st_plain rfl (op_move _ _ _ _ rfl rfl),
          st_plain rfl (op_move _ _ _ _ rfl rfl),
          st_plain rfl (op_call _ _ 14 _ _ rfl Try.call14 rfl (ok_wherryref01_Read l b at_ _ hv11) rfl rfl),
          st_plain rfl (op_move_take _ _ _ _ rfl),
          st_plain rfl (op_extract _ _ _ _ _ rfl rfl (Nat.le_of_ble_eq_true rfl) rfl rfl),
          st_plain rfl (op_extract _ _ _ _ _ rfl rfl (Nat.le_of_ble_eq_true rfl) rfl rfl),
          st_plain rfl (op_extract _ _ _ _ _ rfl rfl (Nat.le_of_ble_eq_true rfl) rfl rfl),
          st_plain rfl (op_assign _ _ _ _ rfl rfl),
          st_plain rfl (op_assign _ _ _ _ rfl rfl),
          st_plain rfl (op_assign _ _ _ _ rfl rfl),
          trivial⟩ ?_
      refine pt_then ?_
      refine ht_seq ?_
      refine ht_seq ?_
      refine ht_joinS h (fun (s17 : Bool) => [(0, .fl .shr 1 (List.map (Value.int .i64) l)), (1, .fl .shr 1 (List.map (Value.int .u8) b)), (7, .fl (.own 3) 1 (List.map (Value.int .i64) v6)), (8, .fl (.own 5) 1 (List.map (Value.int .u8) v7)), (9, .fl (.own 3) 1 (List.map (Value.int .i64) v8.1)), (95, .v (.bool s17))]) ?_ ?_
      · rintro s17 h
        refine pt_then ?_
        refine ht_cond _ rfl (fun hb21 => ?_) (fun hb21 => ?_)
        · have h := cond_t hb21 h
          refine ht_seq ?_
          refine ht_seqR hn (El := [_, _, _, _, _, _, (6, .v (.bool false))]) (init := [0, 1, 2, 3, 4, 5]) (fin := [6]) (sps := [⟨[], [], [6], [(.slot 6)]⟩]) (es' := [(6, .v (.bool false))]) (by kernel_rfl) rfl rfl
            ⟨st_plain rfl (op_assign _ _ _ _ rfl rfl),
              trivial⟩ ?_
          refine pt_then ?_
          refine ht_ret ?_
          refine pt_r_then ?_
          obtain rfl := Option.some.inj h
          exact pt_ret hio rfl (.tmp _ _ .nil) rfl rfl
        · have h := cond_f hb21 h
          refine ht_skip ?_
          refine pt_then ?_
          refine ht_seq ?_
          refine ht_seq ?_
          refine ht_seqR hn (El := [_, _, _, _, _, _, (19, .v (.int .i64 0))]) (init := [0, 1, 2, 3, 4, 5]) (fin := [0, 1, 2, 3, 4, 6]) (sps := [⟨[], [], [6], [(.slot 19)]⟩]) (es' := [(_, _), (_, _), (_, _), (_, _), (_, _), (19, .v (.int .i64 0))]) (by kernel_rfl) rfl rfl
            ⟨st_plain rfl (op_assign _ _ _ _ rfl rfl),
              trivial⟩ ?_
          refine pt_then ?_
          refine ht_loopS h (fun ((s32, s33) : (List Int) × Int) => [(0, .fl .shr 1 (List.map (Value.int .i64) l)), (1, .fl .shr 1 (List.map (Value.int .u8) b)), (7, .fl (.own 3) 1 (List.map (Value.int .i64) v6)), (8, .fl (.own 5) 1 (List.map (Value.int .u8) v7)), (9, .fl (.own 3) 1 (List.map (Value.int .i64) s32)), (19, .v (.int .i64 s33))]) (fun (() : Unit) => [(0, .fl .shr 1 (List.map (Value.int .i64) l)), (1, .fl .shr 1 (List.map (Value.int .u8) b)), (7, .fl (.own 3) 1 (List.map (Value.int .i64) v6)), (8, .fl (.own 5) 1 (List.map (Value.int .u8) v7))]) ?_ ?_
          · rintro ⟨⟩ h
            refine pt_then ?_
            refine ht_seq ?_
            refine ht_joinS h (fun (s45 : Bool) => [(6, .v (.bool s45))]) ?_ ?_
            · rintro s45 h
              refine pt_then ?_
              refine ht_ret ?_
              obtain rfl := Option.some.inj h
              exact pt_ret hio rfl (.tmp _ _ .nil) rfl rfl
            · intro u46 h hl47 hr48
              obtain ⟨v42, hv42, h⟩ := bind_some h
              refine cond_some h (fun hg14_3 h => ?_) (fun hg14_3 h => ?_)
              · obtain ⟨v43, hv43, h⟩ := bind_some h
                refine cond_some h (fun hg14_8 h => ?_) (fun hg14_8 h => ?_)
                · obtain ⟨v44, hv44, h⟩ := bind_some h
                  refine ht_seqR hn (El := (_ :: _ :: _ :: _ :: (110, .fl (.own 3) 1 (List.map (Value.int .i64) v6)) :: (111, .fl .shr 1 (List.map (Value.int .i64) l)) :: (112, .v (.bool v42)) :: (113, .v (.bool true)) :: (114, .fl (.own 5) 1 (List.map (Value.int .u8) v7)) :: (115, .fl .shr 1 (List.map (Value.int .u8) b)) :: (116, .v (.bool v43)) :: (117, .v (.bool v43)) :: (118, .v (.bool true)) :: (119, .v (.bool v44)) :: (120, .v (.bool v44)) :: (6, .v (.bool v44)) :: [])) (init := [0, 1, 2, 3]) (fin := [15]) (sps := [⟨[], [2], [4], [(.slot 110)]⟩, ⟨[0], [], [5], [(.slot 111)]⟩, ⟨[4, 5], [], [6], [(.slot 112)]⟩, ⟨[6], [], [7], [(.slot 113)]⟩, ⟨[7], [3], [8], [(.slot 114)]⟩, ⟨[7, 1], [], [9], [(.slot 115)]⟩, ⟨[7, 8, 9], [], [10], [(.slot 116)]⟩, ⟨[7, 10], [], [11], [(.slot 117)]⟩, ⟨[11], [], [12], [(.slot 118)]⟩, ⟨[12], [], [13], [(.slot 119)]⟩, ⟨[12, 13], [], [14], [(.slot 120)]⟩, ⟨[14], [], [15], [(.slot 6)]⟩]) (es' := [(6, .v (.bool v44))]) (by kernel_rfl) rfl rfl
                    ⟨st_plain rfl (op_move_take _ _ _ _ rfl),
                      st_plain rfl (op_move _ _ _ _ rfl rfl),
                      st_plain rfl (op_call _ _ 19 _ _ rfl Try.call19 rfl (ok_wherrykeep_Ints v6 l _ hv42) rfl rfl),
                      st_plain rfl (op_move _ _ _ _ (congrArg (fun b => AV.v (Value.bool b)) hg14_3) rfl),
                      st_run 3 113 true rfl rfl rfl (List.Mem.head _) (op_move_take _ _ _ _ rfl),
                      st_run 3 113 true rfl rfl rfl (List.Mem.head _) (op_move _ _ _ _ rfl rfl),
                      st_run 3 113 true rfl rfl rfl (List.Mem.head _) (op_call _ _ 20 _ _ rfl Try.call20 rfl (ok_wherrykeep_Bytes v7 b _ hv43) rfl rfl),
                      st_plain rfl (op_pick _ _ true _ rfl rfl),
                      st_plain rfl (op_move _ _ _ _ (congrArg (fun b => AV.v (Value.bool b)) hg14_8) rfl),
                      st_run 8 118 true rfl rfl rfl (List.Mem.head _) (op_call _ _ 21 _ _ rfl Try.call21 rfl (ok_wherrylaw02_wakes  _ hv44) rfl rfl),
                      st_plain rfl (op_pick _ _ true _ rfl rfl),
                      st_plain rfl (op_assign _ _ _ _ rfl rfl),
                      trivial⟩ ?_
                  exact hl47 _ (Option.some.inj h).symm
                · refine ht_seqR hn (El := (_ :: _ :: _ :: _ :: (110, .fl (.own 3) 1 (List.map (Value.int .i64) v6)) :: (111, .fl .shr 1 (List.map (Value.int .i64) l)) :: (112, .v (.bool v42)) :: (113, .v (.bool true)) :: (114, .fl (.own 5) 1 (List.map (Value.int .u8) v7)) :: (115, .fl .shr 1 (List.map (Value.int .u8) b)) :: (116, .v (.bool v43)) :: (117, .v (.bool v43)) :: (118, .v (.bool false)) :: (119, .v undef) :: (120, .v (.bool false)) :: (6, .v (.bool false)) :: [])) (init := [0, 1, 2, 3]) (fin := [15]) (sps := [⟨[], [2], [4], [(.slot 110)]⟩, ⟨[0], [], [5], [(.slot 111)]⟩, ⟨[4, 5], [], [6], [(.slot 112)]⟩, ⟨[6], [], [7], [(.slot 113)]⟩, ⟨[7], [3], [8], [(.slot 114)]⟩, ⟨[7, 1], [], [9], [(.slot 115)]⟩, ⟨[7, 8, 9], [], [10], [(.slot 116)]⟩, ⟨[7, 10], [], [11], [(.slot 117)]⟩, ⟨[11], [], [12], [(.slot 118)]⟩, ⟨[12], [], [13], [(.slot 119)]⟩, ⟨[12], [], [14], [(.slot 120)]⟩, ⟨[14], [], [15], [(.slot 6)]⟩]) (es' := [(6, .v (.bool false))]) (by kernel_rfl) rfl rfl
                    ⟨st_plain rfl (op_move_take _ _ _ _ rfl),
                      st_plain rfl (op_move _ _ _ _ rfl rfl),
                      st_plain rfl (op_call _ _ 19 _ _ rfl Try.call19 rfl (ok_wherrykeep_Ints v6 l _ hv42) rfl rfl),
                      st_plain rfl (op_move _ _ _ _ (congrArg (fun b => AV.v (Value.bool b)) hg14_3) rfl),
                      st_run 3 113 true rfl rfl rfl (List.Mem.head _) (op_move_take _ _ _ _ rfl),
                      st_run 3 113 true rfl rfl rfl (List.Mem.head _) (op_move _ _ _ _ rfl rfl),
                      st_run 3 113 true rfl rfl rfl (List.Mem.head _) (op_call _ _ 20 _ _ rfl Try.call20 rfl (ok_wherrykeep_Bytes v7 b _ hv43) rfl rfl),
                      st_plain rfl (op_pick _ _ true _ rfl rfl),
                      st_plain rfl (op_move _ _ _ _ (congrArg (fun b => AV.v (Value.bool b)) hg14_8) rfl),
                      st_skip 8 118 _ true rfl rfl rfl rfl (List.Mem.head _),
                      st_plain rfl (op_pick _ _ false _ rfl rfl),
                      st_plain rfl (op_assign _ _ _ _ rfl rfl),
                      trivial⟩ ?_
                  exact hl47 _ (Option.some.inj h).symm
              · refine ht_seqR hn (El := (_ :: _ :: _ :: _ :: (110, .fl (.own 3) 1 (List.map (Value.int .i64) v6)) :: (111, .fl .shr 1 (List.map (Value.int .i64) l)) :: (112, .v (.bool v42)) :: (113, .v (.bool false)) :: (114, .v undef) :: (115, .v undef) :: (116, .v undef) :: (117, .v (.bool false)) :: (118, .v (.bool false)) :: (119, .v undef) :: (120, .v (.bool false)) :: (6, .v (.bool false)) :: [])) (init := [0, 1, 2, 3]) (fin := [15]) (sps := [⟨[], [2], [4], [(.slot 110)]⟩, ⟨[0], [], [5], [(.slot 111)]⟩, ⟨[4, 5], [], [6], [(.slot 112)]⟩, ⟨[6], [], [7], [(.slot 113)]⟩, ⟨[7], [], [8], [(.slot 114)]⟩, ⟨[7], [], [9], [(.slot 115)]⟩, ⟨[7], [], [10], [(.slot 116)]⟩, ⟨[7], [], [11], [(.slot 117)]⟩, ⟨[11], [], [12], [(.slot 118)]⟩, ⟨[12], [], [13], [(.slot 119)]⟩, ⟨[12], [], [14], [(.slot 120)]⟩, ⟨[14], [], [15], [(.slot 6)]⟩]) (es' := [(6, .v (.bool false))]) (by kernel_rfl) rfl rfl
                  ⟨st_plain rfl (op_move_take _ _ _ _ rfl),
                    st_plain rfl (op_move _ _ _ _ rfl rfl),
                    st_plain rfl (op_call _ _ 19 _ _ rfl Try.call19 rfl (ok_wherrykeep_Ints v6 l _ hv42) rfl rfl),
                    st_plain rfl (op_move _ _ _ _ (congrArg (fun b => AV.v (Value.bool b)) hg14_3) rfl),
                    st_skip 3 113 _ true rfl rfl rfl rfl (List.Mem.head _),
                    st_skip 3 113 _ true rfl rfl rfl rfl (List.Mem.head _),
                    st_skip 3 113 _ true rfl rfl rfl rfl (List.Mem.head _),
                    st_plain rfl (op_pick _ _ false _ rfl rfl),
                    st_plain rfl (op_move _ _ _ _ rfl rfl),
                    st_skip 8 118 _ true rfl rfl rfl rfl (List.Mem.head _),
                    st_plain rfl (op_pick _ _ false _ rfl rfl),
                    st_plain rfl (op_assign _ _ _ _ rfl rfl),
                    trivial⟩ ?_
                exact hl47 _ (Option.some.inj h).symm
          · rintro u35 hl36 hr37 ⟨s32, s33⟩ rr40 h ho38
            refine ht_seq ?_
            refine ht_seq ?_
            refine ht_seqR hn (El := [_, _, _, _, _, _, (96, .v (.int .i64 s33)), (97, .same (.slot 9)), (98, .v (.int .i64 (s32.length : Int))), (99, .v (.bool ((decide (s33 < (s32.length : Int))))))]) (init := [0, 1, 2, 3, 4, 5]) (fin := [0, 1, 2, 3, 4, 5, 9]) (sps := [⟨[5], [], [6], [(.slot 96)]⟩, ⟨[4], [], [7], [(.slot 97)]⟩, ⟨[7, 4], [], [8], [(.slot 98)]⟩, ⟨[6, 8], [], [9], [(.slot 99)]⟩]) (es' := [(_, _), (_, _), (_, _), (_, _), (_, _), (_, _), (99, .v (.bool ((decide (s33 < (s32.length : Int))))))]) (by kernel_rfl) rfl rfl
              ⟨st_plain rfl (op_move _ _ _ _ rfl rfl),
                st_plain rfl (op_move _ _ _ _ rfl rfl),
                st_plain rfl (op_len_fl _ _ _ Try.underlying22 rfl (by decide) (map_len _)),
                st_plain rfl (op_bin _ _ _ _ _ rfl rfl rfl),
                trivial⟩ ?_
            refine pt_then ?_
            refine ht_cond _ rfl (fun hb41 => ?_) (fun hb41 => ?_)
            · have h := cond_t hb41 h
              refine ht_skip ?_
              refine pt_then ?_
              refine ht_seq ?_
              refine ht_block ?_
              obtain ⟨v23, hv23, h⟩ := bind_some h
              obtain ⟨v24, hv24, h⟩ := bind_some h
              obtain ⟨v25, hv25, h⟩ := bind_some h
              obtain ⟨v26, hv26, h⟩ := bind_some h
              obtain ⟨v27, hv27, h⟩ := bind_some h
              refine ht_seqR hn (El := (_ :: _ :: _ :: _ :: _ :: _ :: _ :: (102, .same (.slot 9)) :: (103, .v (.int .i64 s33)) :: (104, .same (.slot 9)) :: (105, .v (.int .i64 s33)) :: (106, .eref (.slot 9) (v23 * 1)) :: (107, .v (.int .i64 v24)) :: (108, .v (.int .i64 v25)) :: (109, .eref (.slot 9) (v26 * 1)) :: (9, .fl (.own 3) 1 (List.map (Value.int .i64) v27)) :: [])) (init := [0, 1, 2, 3, 4, 5, 6]) (fin := [0, 1, 2, 3, 15, 5]) (sps := [⟨[4], [], [7], [(.slot 102)]⟩, ⟨[5], [], [8], [(.slot 103)]⟩, ⟨[4], [], [9], [(.slot 104)]⟩, ⟨[5], [], [10], [(.slot 105)]⟩, ⟨[9, 4, 10], [], [11], [(.slot 106)]⟩, ⟨[11, 4], [], [12], [(.slot 107)]⟩, ⟨[12], [], [13], [(.slot 108)]⟩, ⟨[7, 4, 8], [], [14], [(.slot 109)]⟩, ⟨[14, 13], [4], [15], []⟩]) (es' := [(_, _), (_, _), (_, _), (_, _), (9, .fl (.own 3) 1 (List.map (Value.int .i64) v27)), (_, _)]) (by kernel_rfl) rfl rfl
                ⟨st_plain rfl (op_move _ _ _ _ rfl rfl),
                  st_plain rfl (op_move _ _ _ _ rfl rfl),
                  st_plain rfl (op_move _ _ _ _ rfl rfl),
                  st_plain rfl (op_move _ _ _ _ rfl rfl),
                  st_plain rfl (op_ix _ _ _ _ _ _ _ _ Try.underlying22 sz3 (by decide) rfl rfl rfl (ix_ok hv23).1 (map_lt (ix_ok hv23).2) rfl),
                  st_plain rfl (op_load_e _ _ _ _ _ _ Try.underlying3 rfl rfl rfl (map_get hv24)),
                  st_plain rfl (op_bin _ _ _ _ _ rfl rfl (ibind (f := Value.int .i64) (Option.some.inj hv25))),
                  st_plain rfl (op_ix _ _ _ _ _ _ _ _ Try.underlying22 sz3 (by decide) rfl rfl rfl (ix_ok hv26).1 (map_lt (ix_ok hv26).2) rfl),
                  st_plain rfl (op_store_e _ _ _ _ _ _ _ _ sz3 rfl rfl rfl (by decide) (map_lt (ix_ok hv26).2) ((map_set (f := Value.int .i64) _ (ix_ok hv26).2).trans (congrArg (List.map _) (Option.some.inj hv27)))),
                  trivial⟩ ?_
              refine pt_inb ?_
              refine pt_then ?_
              obtain ⟨v28, hv28, h⟩ := bind_some h
              refine ht_seqR hn (El := [_, _, _, _, _, _, (100, .v (.int .i64 s33)), (101, .v (.int .i64 v28)), (19, .v (.int .i64 v28))]) (init := [0, 1, 2, 3, 4, 5]) (fin := [0, 1, 2, 3, 4, 8]) (sps := [⟨[5], [], [6], [(.slot 100)]⟩, ⟨[6], [], [7], [(.slot 101)]⟩, ⟨[7], [5], [8], [(.slot 19)]⟩]) (es' := [(_, _), (_, _), (_, _), (_, _), (_, _), (19, .v (.int .i64 v28))]) (by kernel_rfl) rfl rfl
                ⟨st_plain rfl (op_move _ _ _ _ rfl rfl),
                  st_plain rfl (op_bin _ _ _ _ _ rfl rfl (ibind (f := Value.int .i64) (Option.some.inj hv28))),
                  st_plain rfl (LOp.drop [_] (op_assign _ _ _ _ rfl rfl)),
                  trivial⟩ ?_
              exact pt_next _ (Option.some.inj h).symm rfl
            · have h := cond_f hb41 h
              refine ht_exit ?_
              refine pt_x_then ?_
              refine pt_x_then ?_
              refine pt_x_in ?_
              refine pt_pick [0, 1, 2, 3] (by kernel_rfl) (es' := [(_, _), (_, _), (_, _), (_, _)]) rfl ?_
              exact hl36 _ (ho38 _ (Option.some.inj h).symm).symm
      · intro u18 h hl19 hr20
        obtain ⟨v12, hv12, h⟩ := bind_some h
        obtain ⟨v13, hv13, h⟩ := bind_some h
        refine cond_some h (fun hg8_5 h => ?_) (fun hg8_5 h => ?_)
        · refine ht_seqR hn (El := (_ :: _ :: _ :: _ :: _ :: _ :: _ :: _ :: _ :: _ :: _ :: _ :: _ :: _ :: (58, .same (.slot 7)) :: (59, .v (.int .i64 v12)) :: (60, .fl .shr 1 (List.map (Value.int .i64) l)) :: (61, .v (.int .i64 v13)) :: (62, .v (.bool (v12 != v13))) :: (63, .v (.bool true)) :: (64, .v undef) :: (65, .v undef) :: (66, .v undef) :: (67, .v undef) :: (68, .v undef) :: (69, .v (.bool true)) :: (70, .v (.bool true)) :: (71, .v undef) :: (72, .v undef) :: (73, .v undef) :: (74, .v (.bool true)) :: (75, .v (.bool true)) :: (76, .v undef) :: (77, .v undef) :: (78, .v undef) :: (79, .v undef) :: (80, .v (.bool true)) :: (81, .v (.bool true)) :: (82, .v undef) :: (83, .v undef) :: (84, .v undef) :: (85, .v (.bool true)) :: (86, .v (.bool true)) :: (87, .v undef) :: (88, .v undef) :: (89, .v undef) :: (90, .v (.bool true)) :: (91, .v (.bool true)) :: (92, .v undef) :: (93, .v undef) :: (94, .v undef) :: (95, .v (.bool true)) :: [])) (init := [0, 1, 2, 3, 4, 5, 6, 7, 8, 9, 10, 11, 12, 13]) (fin := [0, 1, 2, 3, 4, 51]) (sps := (⟨[2], [], [14], [(.slot 58)]⟩ :: ⟨[14, 2], [], [15], [(.slot 59)]⟩ :: ⟨[0], [], [16], [(.slot 60)]⟩ :: ⟨[16], [], [17], [(.slot 61)]⟩ :: ⟨[15, 17], [], [18], [(.slot 62)]⟩ :: ⟨[18], [], [19], [(.slot 63)]⟩ :: ⟨[19], [], [20], [(.slot 64)]⟩ :: ⟨[19], [], [21], [(.slot 65)]⟩ :: ⟨[19], [], [22], [(.slot 66)]⟩ :: ⟨[19], [], [23], [(.slot 67)]⟩ :: ⟨[19], [], [24], [(.slot 68)]⟩ :: ⟨[19], [], [25], [(.slot 69)]⟩ :: ⟨[25], [], [26], [(.slot 70)]⟩ :: ⟨[26], [], [27], [(.slot 71)]⟩ :: ⟨[26], [], [28], [(.slot 72)]⟩ :: ⟨[26], [], [29], [(.slot 73)]⟩ :: ⟨[26], [], [30], [(.slot 74)]⟩ :: ⟨[30], [], [31], [(.slot 75)]⟩ :: ⟨[31], [], [32], [(.slot 76)]⟩ :: ⟨[31], [], [33], [(.slot 77)]⟩ :: ⟨[31], [], [34], [(.slot 78)]⟩ :: ⟨[31], [], [35], [(.slot 79)]⟩ :: ⟨[31], [], [36], [(.slot 80)]⟩ :: ⟨[36], [], [37], [(.slot 81)]⟩ :: ⟨[37], [], [38], [(.slot 82)]⟩ :: ⟨[37], [], [39], [(.slot 83)]⟩ :: ⟨[37], [], [40], [(.slot 84)]⟩ :: ⟨[37], [], [41], [(.slot 85)]⟩ :: ⟨[41], [], [42], [(.slot 86)]⟩ :: ⟨[42], [], [43], [(.slot 87)]⟩ :: ⟨[42], [], [44], [(.slot 88)]⟩ :: ⟨[42], [], [45], [(.slot 89)]⟩ :: ⟨[42], [], [46], [(.slot 90)]⟩ :: ⟨[46], [], [47], [(.slot 91)]⟩ :: ⟨[47], [], [48], [(.slot 92)]⟩ :: ⟨[47], [], [49], [(.slot 93)]⟩ :: ⟨[47], [], [50], [(.slot 94)]⟩ :: ⟨[47], [], [51], [(.slot 95)]⟩ :: [])) (es' := [(_, _), (_, _), (_, _), (_, _), (_, _), (95, .v (.bool true))]) (by kernel_rfl) rfl rfl
            ⟨st_plain rfl (op_move _ _ _ _ rfl rfl),
              st_plain rfl (op_call _ _ 15 _ _ rfl Try.call15 rfl (ok_canon_Check v6 _ hv12) rfl rfl),
              st_plain rfl (op_move _ _ _ _ rfl rfl),
              st_plain rfl (op_call _ _ 16 _ _ rfl Try.call16 rfl (ok_wherryref01_CheckLengths l _ hv13) rfl rfl),
              st_plain rfl (op_bin _ _ _ _ _ rfl rfl rfl),
              st_plain rfl (op_move _ _ _ _ (congrArg (fun b => AV.v (Value.bool b)) hg8_5) rfl),
              st_skip 5 63 _ false rfl rfl rfl rfl (List.Mem.head _),
              st_skip 5 63 _ false rfl rfl rfl rfl (List.Mem.head _),
              st_skip 5 63 _ false rfl rfl rfl rfl (List.Mem.head _),
              st_skip 5 63 _ false rfl rfl rfl rfl (List.Mem.head _),
              st_skip 5 63 _ false rfl rfl rfl rfl (List.Mem.head _),
              st_plain rfl (op_pick _ _ true _ rfl rfl),
              st_plain rfl (op_move _ _ _ _ rfl rfl),
              st_skip 12 70 _ false rfl rfl rfl rfl (List.Mem.head _),
              st_skip 12 70 _ false rfl rfl rfl rfl (List.Mem.head _),
              st_skip 12 70 _ false rfl rfl rfl rfl (List.Mem.head _),
              st_plain rfl (op_pick _ _ true _ rfl rfl),
              st_plain rfl (op_move _ _ _ _ rfl rfl),
              st_skip 17 75 _ false rfl rfl rfl rfl (List.Mem.head _),
              st_skip 17 75 _ false rfl rfl rfl rfl (List.Mem.head _),
              st_skip 17 75 _ false rfl rfl rfl rfl (List.Mem.head _),
              st_skip 17 75 _ false rfl rfl rfl rfl (List.Mem.head _),
              st_plain rfl (op_pick _ _ true _ rfl rfl),
              st_plain rfl (op_move _ _ _ _ rfl rfl),
              st_skip 23 81 _ false rfl rfl rfl rfl (List.Mem.head _),
              st_skip 23 81 _ false rfl rfl rfl rfl (List.Mem.head _),
              st_skip 23 81 _ false rfl rfl rfl rfl (List.Mem.head _),
              st_plain rfl (op_pick _ _ true _ rfl rfl),
              st_plain rfl (op_move _ _ _ _ rfl rfl),
              st_skip 28 86 _ false rfl rfl rfl rfl (List.Mem.head _),
              st_skip 28 86 _ false rfl rfl rfl rfl (List.Mem.head _),
              st_skip 28 86 _ false rfl rfl rfl rfl (List.Mem.head _),
              st_plain rfl (op_pick _ _ true _ rfl rfl),
              st_plain rfl (op_move _ _ _ _ rfl rfl),
              st_skip 33 91 _ false rfl rfl rfl rfl (List.Mem.head _),
              st_skip 33 91 _ false rfl rfl rfl rfl (List.Mem.head _),
              st_skip 33 91 _ false rfl rfl rfl rfl (List.Mem.head _),
              st_plain rfl (op_pick _ _ true _ rfl rfl),
              trivial⟩ ?_
          exact hl19 _ (Option.some.inj h).symm
        · obtain ⟨v14, hv14, h⟩ := bind_some h
          obtain ⟨v15, hv15, h⟩ := bind_some h
          refine cond_some h (fun hg8_12 h => ?_) (fun hg8_12 h => ?_)
          · refine ht_seqR hn (El := (_ :: _ :: _ :: _ :: _ :: _ :: _ :: _ :: _ :: _ :: _ :: _ :: _ :: _ :: (58, .same (.slot 7)) :: (59, .v (.int .i64 v12)) :: (60, .fl .shr 1 (List.map (Value.int .i64) l)) :: (61, .v (.int .i64 v13)) :: (62, .v (.bool (v12 != v13))) :: (63, .v (.bool false)) :: (64, .same (.slot 7)) :: (65, .v (.int .i64 v14)) :: (66, .fl .shr 1 (List.map (Value.int .i64) l)) :: (67, .v (.int .i64 v15)) :: (68, .v (.bool (v14 != v15))) :: (69, .v (.bool (v14 != v15))) :: (70, .v (.bool true)) :: (71, .v undef) :: (72, .v undef) :: (73, .v undef) :: (74, .v (.bool true)) :: (75, .v (.bool true)) :: (76, .v undef) :: (77, .v undef) :: (78, .v undef) :: (79, .v undef) :: (80, .v (.bool true)) :: (81, .v (.bool true)) :: (82, .v undef) :: (83, .v undef) :: (84, .v undef) :: (85, .v (.bool true)) :: (86, .v (.bool true)) :: (87, .v undef) :: (88, .v undef) :: (89, .v undef) :: (90, .v (.bool true)) :: (91, .v (.bool true)) :: (92, .v undef) :: (93, .v undef) :: (94, .v undef) :: (95, .v (.bool true)) :: [])) (init := [0, 1, 2, 3, 4, 5, 6, 7, 8, 9, 10, 11, 12, 13]) (fin := [0, 1, 2, 3, 4, 51]) (sps := (⟨[2], [], [14], [(.slot 58)]⟩ :: ⟨[14, 2], [], [15], [(.slot 59)]⟩ :: ⟨[0], [], [16], [(.slot 60)]⟩ :: ⟨[16], [], [17], [(.slot 61)]⟩ :: ⟨[15, 17], [], [18], [(.slot 62)]⟩ :: ⟨[18], [], [19], [(.slot 63)]⟩ :: ⟨[19, 2], [], [20], [(.slot 64)]⟩ :: ⟨[19, 20, 2], [], [21], [(.slot 65)]⟩ :: ⟨[19, 0], [], [22], [(.slot 66)]⟩ :: ⟨[19, 22], [], [23], [(.slot 67)]⟩ :: ⟨[19, 21, 23], [], [24], [(.slot 68)]⟩ :: ⟨[19, 24], [], [25], [(.slot 69)]⟩ :: ⟨[25], [], [26], [(.slot 70)]⟩ :: ⟨[26], [], [27], [(.slot 71)]⟩ :: ⟨[26], [], [28], [(.slot 72)]⟩ :: ⟨[26], [], [29], [(.slot 73)]⟩ :: ⟨[26], [], [30], [(.slot 74)]⟩ :: ⟨[30], [], [31], [(.slot 75)]⟩ :: ⟨[31], [], [32], [(.slot 76)]⟩ :: ⟨[31], [], [33], [(.slot 77)]⟩ :: ⟨[31], [], [34], [(.slot 78)]⟩ :: ⟨[31], [], [35], [(.slot 79)]⟩ :: ⟨[31], [], [36], [(.slot 80)]⟩ :: ⟨[36], [], [37], [(.slot 81)]⟩ :: ⟨[37], [], [38], [(.slot 82)]⟩ :: ⟨[37], [], [39], [(.slot 83)]⟩ :: ⟨[37], [], [40], [(.slot 84)]⟩ :: ⟨[37], [], [41], [(.slot 85)]⟩ :: ⟨[41], [], [42], [(.slot 86)]⟩ :: ⟨[42], [], [43], [(.slot 87)]⟩ :: ⟨[42], [], [44], [(.slot 88)]⟩ :: ⟨[42], [], [45], [(.slot 89)]⟩ :: ⟨[42], [], [46], [(.slot 90)]⟩ :: ⟨[46], [], [47], [(.slot 91)]⟩ :: ⟨[47], [], [48], [(.slot 92)]⟩ :: ⟨[47], [], [49], [(.slot 93)]⟩ :: ⟨[47], [], [50], [(.slot 94)]⟩ :: ⟨[47], [], [51], [(.slot 95)]⟩ :: [])) (es' := [(_, _), (_, _), (_, _), (_, _), (_, _), (95, .v (.bool true))]) (by kernel_rfl) rfl rfl
              ⟨st_plain rfl (op_move _ _ _ _ rfl rfl),
                st_plain rfl (op_call _ _ 15 _ _ rfl Try.call15 rfl (ok_canon_Check v6 _ hv12) rfl rfl),
                st_plain rfl (op_move _ _ _ _ rfl rfl),
                st_plain rfl (op_call _ _ 16 _ _ rfl Try.call16 rfl (ok_wherryref01_CheckLengths l _ hv13) rfl rfl),
                st_plain rfl (op_bin _ _ _ _ _ rfl rfl rfl),
                st_plain rfl (op_move _ _ _ _ (congrArg (fun b => AV.v (Value.bool b)) hg8_5) rfl),
                st_run 5 63 false rfl rfl rfl (List.Mem.head _) (op_move _ _ _ _ rfl rfl),
                st_run 5 63 false rfl rfl rfl (List.Mem.head _) (op_call _ _ 17 _ _ rfl Try.call17 rfl (ok_canon_Weigh v6 _ hv14) rfl rfl),
                st_run 5 63 false rfl rfl rfl (List.Mem.head _) (op_move _ _ _ _ rfl rfl),
                st_run 5 63 false rfl rfl rfl (List.Mem.head _) (op_call _ _ 18 _ _ rfl Try.call18 rfl (ok_wherryref01_Weigh l _ hv15) rfl rfl),
                st_run 5 63 false rfl rfl rfl (List.Mem.head _) (op_bin _ _ _ _ _ rfl rfl rfl),
                st_plain rfl (op_pick _ _ false _ rfl rfl),
                st_plain rfl (op_move _ _ _ _ (congrArg (fun b => AV.v (Value.bool b)) hg8_12) rfl),
                st_skip 12 70 _ false rfl rfl rfl rfl (List.Mem.head _),
                st_skip 12 70 _ false rfl rfl rfl rfl (List.Mem.head _),
                st_skip 12 70 _ false rfl rfl rfl rfl (List.Mem.head _),
                st_plain rfl (op_pick _ _ true _ rfl rfl),
                st_plain rfl (op_move _ _ _ _ rfl rfl),
                st_skip 17 75 _ false rfl rfl rfl rfl (List.Mem.head _),
                st_skip 17 75 _ false rfl rfl rfl rfl (List.Mem.head _),
                st_skip 17 75 _ false rfl rfl rfl rfl (List.Mem.head _),
                st_skip 17 75 _ false rfl rfl rfl rfl (List.Mem.head _),
                st_plain rfl (op_pick _ _ true _ rfl rfl),
                st_plain rfl (op_move _ _ _ _ rfl rfl),
                st_skip 23 81 _ false rfl rfl rfl rfl (List.Mem.head _),
                st_skip 23 81 _ false rfl rfl rfl rfl (List.Mem.head _),
                st_skip 23 81 _ false rfl rfl rfl rfl (List.Mem.head _),
                st_plain rfl (op_pick _ _ true _ rfl rfl),
                st_plain rfl (op_move _ _ _ _ rfl rfl),
                st_skip 28 86 _ false rfl rfl rfl rfl (List.Mem.head _),
                st_skip 28 86 _ false rfl rfl rfl rfl (List.Mem.head _),
                st_skip 28 86 _ false rfl rfl rfl rfl (List.Mem.head _),
                st_plain rfl (op_pick _ _ true _ rfl rfl),
                st_plain rfl (op_move _ _ _ _ rfl rfl),
                st_skip 33 91 _ false rfl rfl rfl rfl (List.Mem.head _),
                st_skip 33 91 _ false rfl rfl rfl rfl (List.Mem.head _),
                st_skip 33 91 _ false rfl rfl rfl rfl (List.Mem.head _),
                st_plain rfl (op_pick _ _ true _ rfl rfl),
                trivial⟩ ?_
            exact hl19 _ (Option.some.inj h).symm
          · refine cond_some h (fun hg8_17 h => ?_) (fun hg8_17 h => ?_)
            · refine ht_seqR hn (El := (_ :: _ :: _ :: _ :: _ :: _ :: _ :: _ :: _ :: _ :: _ :: _ :: _ :: _ :: (58, .same (.slot 7)) :: (59, .v (.int .i64 v12)) :: (60, .fl .shr 1 (List.map (Value.int .i64) l)) :: (61, .v (.int .i64 v13)) :: (62, .v (.bool (v12 != v13))) :: (63, .v (.bool false)) :: (64, .same (.slot 7)) :: (65, .v (.int .i64 v14)) :: (66, .fl .shr 1 (List.map (Value.int .i64) l)) :: (67, .v (.int .i64 v15)) :: (68, .v (.bool (v14 != v15))) :: (69, .v (.bool (v14 != v15))) :: (70, .v (.bool false)) :: (71, .v (.int .i64 v8.2)) :: (72, .v (.int .i64 v9.2)) :: (73, .v (.bool (v8.2 != v9.2))) :: (74, .v (.bool (v8.2 != v9.2))) :: (75, .v (.bool true)) :: (76, .v undef) :: (77, .v undef) :: (78, .v undef) :: (79, .v undef) :: (80, .v (.bool true)) :: (81, .v (.bool true)) :: (82, .v undef) :: (83, .v undef) :: (84, .v undef) :: (85, .v (.bool true)) :: (86, .v (.bool true)) :: (87, .v undef) :: (88, .v undef) :: (89, .v undef) :: (90, .v (.bool true)) :: (91, .v (.bool true)) :: (92, .v undef) :: (93, .v undef) :: (94, .v undef) :: (95, .v (.bool true)) :: [])) (init := [0, 1, 2, 3, 4, 5, 6, 7, 8, 9, 10, 11, 12, 13]) (fin := [0, 1, 2, 3, 4, 51]) (sps := (⟨[2], [], [14], [(.slot 58)]⟩ :: ⟨[14, 2], [], [15], [(.slot 59)]⟩ :: ⟨[0], [], [16], [(.slot 60)]⟩ :: ⟨[16], [], [17], [(.slot 61)]⟩ :: ⟨[15, 17], [], [18], [(.slot 62)]⟩ :: ⟨[18], [], [19], [(.slot 63)]⟩ :: ⟨[19, 2], [], [20], [(.slot 64)]⟩ :: ⟨[19, 20, 2], [], [21], [(.slot 65)]⟩ :: ⟨[19, 0], [], [22], [(.slot 66)]⟩ :: ⟨[19, 22], [], [23], [(.slot 67)]⟩ :: ⟨[19, 21, 23], [], [24], [(.slot 68)]⟩ :: ⟨[19, 24], [], [25], [(.slot 69)]⟩ :: ⟨[25], [], [26], [(.slot 70)]⟩ :: ⟨[26, 5], [], [27], [(.slot 71)]⟩ :: ⟨[26, 7], [], [28], [(.slot 72)]⟩ :: ⟨[26, 27, 28], [], [29], [(.slot 73)]⟩ :: ⟨[26, 29], [], [30], [(.slot 74)]⟩ :: ⟨[30], [], [31], [(.slot 75)]⟩ :: ⟨[31], [], [32], [(.slot 76)]⟩ :: ⟨[31], [], [33], [(.slot 77)]⟩ :: ⟨[31], [], [34], [(.slot 78)]⟩ :: ⟨[31], [], [35], [(.slot 79)]⟩ :: ⟨[31], [], [36], [(.slot 80)]⟩ :: ⟨[36], [], [37], [(.slot 81)]⟩ :: ⟨[37], [], [38], [(.slot 82)]⟩ :: ⟨[37], [], [39], [(.slot 83)]⟩ :: ⟨[37], [], [40], [(.slot 84)]⟩ :: ⟨[37], [], [41], [(.slot 85)]⟩ :: ⟨[41], [], [42], [(.slot 86)]⟩ :: ⟨[42], [], [43], [(.slot 87)]⟩ :: ⟨[42], [], [44], [(.slot 88)]⟩ :: ⟨[42], [], [45], [(.slot 89)]⟩ :: ⟨[42], [], [46], [(.slot 90)]⟩ :: ⟨[46], [], [47], [(.slot 91)]⟩ :: ⟨[47], [], [48], [(.slot 92)]⟩ :: ⟨[47], [], [49], [(.slot 93)]⟩ :: ⟨[47], [], [50], [(.slot 94)]⟩ :: ⟨[47], [], [51], [(.slot 95)]⟩ :: [])) (es' := [(_, _), (_, _), (_, _), (_, _), (_, _), (95, .v (.bool true))]) (by kernel_rfl) rfl rfl
                ⟨st_plain rfl (op_move _ _ _ _ rfl rfl),
                  st_plain rfl (op_call _ _ 15 _ _ rfl Try.call15 rfl (ok_canon_Check v6 _ hv12) rfl rfl),
                  st_plain rfl (op_move _ _ _ _ rfl rfl),
                  st_plain rfl (op_call _ _ 16 _ _ rfl Try.call16 rfl (ok_wherryref01_CheckLengths l _ hv13) rfl rfl),
                  st_plain rfl (op_bin _ _ _ _ _ rfl rfl rfl),
                  st_plain rfl (op_move _ _ _ _ (congrArg (fun b => AV.v (Value.bool b)) hg8_5) rfl),
                  st_run 5 63 false rfl rfl rfl (List.Mem.head _) (op_move _ _ _ _ rfl rfl),
                  st_run 5 63 false rfl rfl rfl (List.Mem.head _) (op_call _ _ 17 _ _ rfl Try.call17 rfl (ok_canon_Weigh v6 _ hv14) rfl rfl),
                  st_run 5 63 false rfl rfl rfl (List.Mem.head _) (op_move _ _ _ _ rfl rfl),
                  st_run 5 63 false rfl rfl rfl (List.Mem.head _) (op_call _ _ 18 _ _ rfl Try.call18 rfl (ok_wherryref01_Weigh l _ hv15) rfl rfl),
                  st_run 5 63 false rfl rfl rfl (List.Mem.head _) (op_bin _ _ _ _ _ rfl rfl rfl),
                  st_plain rfl (op_pick _ _ false _ rfl rfl),
                  st_plain rfl (op_move _ _ _ _ (congrArg (fun b => AV.v (Value.bool b)) hg8_12) rfl),
                  st_run 12 70 false rfl rfl rfl (List.Mem.head _) (op_move _ _ _ _ rfl rfl),
                  st_run 12 70 false rfl rfl rfl (List.Mem.head _) (op_move _ _ _ _ rfl rfl),
                  st_run 12 70 false rfl rfl rfl (List.Mem.head _) (op_bin _ _ _ _ _ rfl rfl rfl),
                  st_plain rfl (op_pick _ _ false _ rfl rfl),
                  st_plain rfl (op_move _ _ _ _ (congrArg (fun b => AV.v (Value.bool b)) hg8_17) rfl),
                  st_skip 17 75 _ false rfl rfl rfl rfl (List.Mem.head _),
                  st_skip 17 75 _ false rfl rfl rfl rfl (List.Mem.head _),
                  st_skip 17 75 _ false rfl rfl rfl rfl (List.Mem.head _),
                  st_skip 17 75 _ false rfl rfl rfl rfl (List.Mem.head _),
                  st_plain rfl (op_pick _ _ true _ rfl rfl),
                  st_plain rfl (op_move _ _ _ _ rfl rfl),
                  st_skip 23 81 _ false rfl rfl rfl rfl (List.Mem.head _),
                  st_skip 23 81 _ false rfl rfl rfl rfl (List.Mem.head _),
                  st_skip 23 81 _ false rfl rfl rfl rfl (List.Mem.head _),
                  st_plain rfl (op_pick _ _ true _ rfl rfl),
                  st_plain rfl (op_move _ _ _ _ rfl rfl),
                  st_skip 28 86 _ false rfl rfl rfl rfl (List.Mem.head _),
                  st_skip 28 86 _ false rfl rfl rfl rfl (List.Mem.head _),
                  st_skip 28 86 _ false rfl rfl rfl rfl (List.Mem.head _),
                  st_plain rfl (op_pick _ _ true _ rfl rfl),
                  st_plain rfl (op_move _ _ _ _ rfl rfl),
                  st_skip 33 91 _ false rfl rfl rfl rfl (List.Mem.head _),
                  st_skip 33 91 _ false rfl rfl rfl rfl (List.Mem.head _),
                  st_skip 33 91 _ false rfl rfl rfl rfl (List.Mem.head _),
                  st_plain rfl (op_pick _ _ true _ rfl rfl),
                  trivial⟩ ?_
              exact hl19 _ (Option.some.inj h).symm
            · obtain ⟨v16, hv16, h⟩ := bind_some h
              refine cond_some h (fun hg8_23 h => ?_) (fun hg8_23 h => ?_)
              · refine ht_seqR hn (El := (_ :: _ :: _ :: _ :: _ :: _ :: _ :: _ :: _ :: _ :: _ :: _ :: _ :: _ :: (58, .same (.slot 7)) :: (59, .v (.int .i64 v12)) :: (60, .fl .shr 1 (List.map (Value.int .i64) l)) :: (61, .v (.int .i64 v13)) :: (62, .v (.bool (v12 != v13))) :: (63, .v (.bool false)) :: (64, .same (.slot 7)) :: (65, .v (.int .i64 v14)) :: (66, .fl .shr 1 (List.map (Value.int .i64) l)) :: (67, .v (.int .i64 v15)) :: (68, .v (.bool (v14 != v15))) :: (69, .v (.bool (v14 != v15))) :: (70, .v (.bool false)) :: (71, .v (.int .i64 v8.2)) :: (72, .v (.int .i64 v9.2)) :: (73, .v (.bool (v8.2 != v9.2))) :: (74, .v (.bool (v8.2 != v9.2))) :: (75, .v (.bool false)) :: (76, .same (.slot 9)) :: (77, .fl (.own 3) 1 (List.map (Value.int .i64) v9.1)) :: (78, .v (.bool v16)) :: (79, .v (.bool (!v16))) :: (80, .v (.bool (!v16))) :: (81, .v (.bool true)) :: (82, .v undef) :: (83, .v undef) :: (84, .v undef) :: (85, .v (.bool true)) :: (86, .v (.bool true)) :: (87, .v undef) :: (88, .v undef) :: (89, .v undef) :: (90, .v (.bool true)) :: (91, .v (.bool true)) :: (92, .v undef) :: (93, .v undef) :: (94, .v undef) :: (95, .v (.bool true)) :: [])) (init := [0, 1, 2, 3, 4, 5, 6, 7, 8, 9, 10, 11, 12, 13]) (fin := [0, 1, 2, 3, 4, 51]) (sps := (⟨[2], [], [14], [(.slot 58)]⟩ :: ⟨[14, 2], [], [15], [(.slot 59)]⟩ :: ⟨[0], [], [16], [(.slot 60)]⟩ :: ⟨[16], [], [17], [(.slot 61)]⟩ :: ⟨[15, 17], [], [18], [(.slot 62)]⟩ :: ⟨[18], [], [19], [(.slot 63)]⟩ :: ⟨[19, 2], [], [20], [(.slot 64)]⟩ :: ⟨[19, 20, 2], [], [21], [(.slot 65)]⟩ :: ⟨[19, 0], [], [22], [(.slot 66)]⟩ :: ⟨[19, 22], [], [23], [(.slot 67)]⟩ :: ⟨[19, 21, 23], [], [24], [(.slot 68)]⟩ :: ⟨[19, 24], [], [25], [(.slot 69)]⟩ :: ⟨[25], [], [26], [(.slot 70)]⟩ :: ⟨[26, 5], [], [27], [(.slot 71)]⟩ :: ⟨[26, 7], [], [28], [(.slot 72)]⟩ :: ⟨[26, 27, 28], [], [29], [(.slot 73)]⟩ :: ⟨[26, 29], [], [30], [(.slot 74)]⟩ :: ⟨[30], [], [31], [(.slot 75)]⟩ :: ⟨[31, 4], [], [32], [(.slot 76)]⟩ :: ⟨[31], [6], [33], [(.slot 77)]⟩ :: ⟨[31, 32, 4, 33], [], [34], [(.slot 78)]⟩ :: ⟨[31, 34], [], [35], [(.slot 79)]⟩ :: ⟨[31, 35], [], [36], [(.slot 80)]⟩ :: ⟨[36], [], [37], [(.slot 81)]⟩ :: ⟨[37], [], [38], [(.slot 82)]⟩ :: ⟨[37], [], [39], [(.slot 83)]⟩ :: ⟨[37], [], [40], [(.slot 84)]⟩ :: ⟨[37], [], [41], [(.slot 85)]⟩ :: ⟨[41], [], [42], [(.slot 86)]⟩ :: ⟨[42], [], [43], [(.slot 87)]⟩ :: ⟨[42], [], [44], [(.slot 88)]⟩ :: ⟨[42], [], [45], [(.slot 89)]⟩ :: ⟨[42], [], [46], [(.slot 90)]⟩ :: ⟨[46], [], [47], [(.slot 91)]⟩ :: ⟨[47], [], [48], [(.slot 92)]⟩ :: ⟨[47], [], [49], [(.slot 93)]⟩ :: ⟨[47], [], [50], [(.slot 94)]⟩ :: ⟨[47], [], [51], [(.slot 95)]⟩ :: [])) (es' := [(_, _), (_, _), (_, _), (_, _), (_, _), (95, .v (.bool true))]) (by kernel_rfl) rfl rfl
                  ⟨st_plain rfl (op_move _ _ _ _ rfl rfl),
                    st_plain rfl (op_call _ _ 15 _ _ rfl Try.call15 rfl (ok_canon_Check v6 _ hv12) rfl rfl),
                    st_plain rfl (op_move _ _ _ _ rfl rfl),
                    st_plain rfl (op_call _ _ 16 _ _ rfl Try.call16 rfl (ok_wherryref01_CheckLengths l _ hv13) rfl rfl),
                    st_plain rfl (op_bin _ _ _ _ _ rfl rfl rfl),
                    st_plain rfl (op_move _ _ _ _ (congrArg (fun b => AV.v (Value.bool b)) hg8_5) rfl),
                    st_run 5 63 false rfl rfl rfl (List.Mem.head _) (op_move _ _ _ _ rfl rfl),
                    st_run 5 63 false rfl rfl rfl (List.Mem.head _) (op_call _ _ 17 _ _ rfl Try.call17 rfl (ok_canon_Weigh v6 _ hv14) rfl rfl),
                    st_run 5 63 false rfl rfl rfl (List.Mem.head _) (op_move _ _ _ _ rfl rfl),
                    st_run 5 63 false rfl rfl rfl (List.Mem.head _) (op_call _ _ 18 _ _ rfl Try.call18 rfl (ok_wherryref01_Weigh l _ hv15) rfl rfl),
                    st_run 5 63 false rfl rfl rfl (List.Mem.head _) (op_bin _ _ _ _ _ rfl rfl rfl),
                    st_plain rfl (op_pick _ _ false _ rfl rfl),
                    st_plain rfl (op_move _ _ _ _ (congrArg (fun b => AV.v (Value.bool b)) hg8_12) rfl),
                    st_run 12 70 false rfl rfl rfl (List.Mem.head _) (op_move _ _ _ _ rfl rfl),
                    st_run 12 70 false rfl rfl rfl (List.Mem.head _) (op_move _ _ _ _ rfl rfl),
                    st_run 12 70 false rfl rfl rfl (List.Mem.head _) (op_bin _ _ _ _ _ rfl rfl rfl),
                    st_plain rfl (op_pick _ _ false _ rfl rfl),
                    st_plain rfl (op_move _ _ _ _ (congrArg (fun b => AV.v (Value.bool b)) hg8_17) rfl),
                    st_run 17 75 false rfl rfl rfl (List.Mem.head _) (op_move _ _ _ _ rfl rfl),
                    st_run 17 75 false rfl rfl rfl (List.Mem.head _) (op_move_take _ _ _ _ rfl),
                    st_run 17 75 false rfl rfl rfl (List.Mem.head _) (op_call _ _ 19 _ _ rfl Try.call19 rfl (ok_wherrykeep_Ints v8.1 v9.1 _ hv16) rfl rfl),
                    st_run 17 75 false rfl rfl rfl (List.Mem.head _) (op_un _ _ _ _ rfl rfl),
                    st_plain rfl (op_pick _ _ false _ rfl rfl),
                    st_plain rfl (op_move _ _ _ _ (congrArg (fun b => AV.v (Value.bool b)) hg8_23) rfl),
                    st_skip 23 81 _ false rfl rfl rfl rfl (List.Mem.head _),
                    st_skip 23 81 _ false rfl rfl rfl rfl (List.Mem.head _),
                    st_skip 23 81 _ false rfl rfl rfl rfl (List.Mem.head _),
                    st_plain rfl (op_pick _ _ true _ rfl rfl),
                    st_plain rfl (op_move _ _ _ _ rfl rfl),
                    st_skip 28 86 _ false rfl rfl rfl rfl (List.Mem.head _),
                    st_skip 28 86 _ false rfl rfl rfl rfl (List.Mem.head _),
                    st_skip 28 86 _ false rfl rfl rfl rfl (List.Mem.head _),
                    st_plain rfl (op_pick _ _ true _ rfl rfl),
                    st_plain rfl (op_move _ _ _ _ rfl rfl),
                    st_skip 33 91 _ false rfl rfl rfl rfl (List.Mem.head _),
                    st_skip 33 91 _ false rfl rfl rfl rfl (List.Mem.head _),
                    st_skip 33 91 _ false rfl rfl rfl rfl (List.Mem.head _),
                    st_plain rfl (op_pick _ _ true _ rfl rfl),
                    trivial⟩ ?_
                exact hl19 _ (Option.some.inj h).symm
              · refine cond_some h (fun hg8_28 h => ?_) (fun hg8_28 h => ?_)
                · refine ht_seqR hn (El := (_ :: _ :: _ :: _ :: _ :: _ :: _ :: _ :: _ :: _ :: _ :: _ :: _ :: _ :: (58, .same (.slot 7)) :: (59, .v (.int .i64 v12)) :: (60, .fl .shr 1 (List.map (Value.int .i64) l)) :: (61, .v (.int .i64 v13)) :: (62, .v (.bool (v12 != v13))) :: (63, .v (.bool false)) :: (64, .same (.slot 7)) :: (65, .v (.int .i64 v14)) :: (66, .fl .shr 1 (List.map (Value.int .i64) l)) :: (67, .v (.int .i64 v15)) :: (68, .v (.bool (v14 != v15))) :: (69, .v (.bool (v14 != v15))) :: (70, .v (.bool false)) :: (71, .v (.int .i64 v8.2)) :: (72, .v (.int .i64 v9.2)) :: (73, .v (.bool (v8.2 != v9.2))) :: (74, .v (.bool (v8.2 != v9.2))) :: (75, .v (.bool false)) :: (76, .same (.slot 9)) :: (77, .fl (.own 3) 1 (List.map (Value.int .i64) v9.1)) :: (78, .v (.bool v16)) :: (79, .v (.bool (!v16))) :: (80, .v (.bool (!v16))) :: (81, .v (.bool false)) :: (82, .v (.int .i64 v10.2.2)) :: (83, .v (.int .i64 v11.2.2)) :: (84, .v (.bool (v10.2.2 != v11.2.2))) :: (85, .v (.bool (v10.2.2 != v11.2.2))) :: (86, .v (.bool true)) :: (87, .v undef) :: (88, .v undef) :: (89, .v undef) :: (90, .v (.bool true)) :: (91, .v (.bool true)) :: (92, .v undef) :: (93, .v undef) :: (94, .v undef) :: (95, .v (.bool true)) :: [])) (init := [0, 1, 2, 3, 4, 5, 6, 7, 8, 9, 10, 11, 12, 13]) (fin := [0, 1, 2, 3, 4, 51]) (sps := (⟨[2], [], [14], [(.slot 58)]⟩ :: ⟨[14, 2], [], [15], [(.slot 59)]⟩ :: ⟨[0], [], [16], [(.slot 60)]⟩ :: ⟨[16], [], [17], [(.slot 61)]⟩ :: ⟨[15, 17], [], [18], [(.slot 62)]⟩ :: ⟨[18], [], [19], [(.slot 63)]⟩ :: ⟨[19, 2], [], [20], [(.slot 64)]⟩ :: ⟨[19, 20, 2], [], [21], [(.slot 65)]⟩ :: ⟨[19, 0], [], [22], [(.slot 66)]⟩ :: ⟨[19, 22], [], [23], [(.slot 67)]⟩ :: ⟨[19, 21, 23], [], [24], [(.slot 68)]⟩ :: ⟨[19, 24], [], [25], [(.slot 69)]⟩ :: ⟨[25], [], [26], [(.slot 70)]⟩ :: ⟨[26, 5], [], [27], [(.slot 71)]⟩ :: ⟨[26, 7], [], [28], [(.slot 72)]⟩ :: ⟨[26, 27, 28], [], [29], [(.slot 73)]⟩ :: ⟨[26, 29], [], [30], [(.slot 74)]⟩ :: ⟨[30], [], [31], [(.slot 75)]⟩ :: ⟨[31, 4], [], [32], [(.slot 76)]⟩ :: ⟨[31], [6], [33], [(.slot 77)]⟩ :: ⟨[31, 32, 4, 33], [], [34], [(.slot 78)]⟩ :: ⟨[31, 34], [], [35], [(.slot 79)]⟩ :: ⟨[31, 35], [], [36], [(.slot 80)]⟩ :: ⟨[36], [], [37], [(.slot 81)]⟩ :: ⟨[37, 10], [], [38], [(.slot 82)]⟩ :: ⟨[37, 13], [], [39], [(.slot 83)]⟩ :: ⟨[37, 38, 39], [], [40], [(.slot 84)]⟩ :: ⟨[37, 40], [], [41], [(.slot 85)]⟩ :: ⟨[41], [], [42], [(.slot 86)]⟩ :: ⟨[42], [], [43], [(.slot 87)]⟩ :: ⟨[42], [], [44], [(.slot 88)]⟩ :: ⟨[42], [], [45], [(.slot 89)]⟩ :: ⟨[42], [], [46], [(.slot 90)]⟩ :: ⟨[46], [], [47], [(.slot 91)]⟩ :: ⟨[47], [], [48], [(.slot 92)]⟩ :: ⟨[47], [], [49], [(.slot 93)]⟩ :: ⟨[47], [], [50], [(.slot 94)]⟩ :: ⟨[47], [], [51], [(.slot 95)]⟩ :: [])) (es' := [(_, _), (_, _), (_, _), (_, _), (_, _), (95, .v (.bool true))]) (by kernel_rfl) rfl rfl
                    ⟨st_plain rfl (op_move _ _ _ _ rfl rfl),
                      st_plain rfl (op_call _ _ 15 _ _ rfl Try.call15 rfl (ok_canon_Check v6 _ hv12) rfl rfl),
                      st_plain rfl (op_move _ _ _ _ rfl rfl),
                      st_plain rfl (op_call _ _ 16 _ _ rfl Try.call16 rfl (ok_wherryref01_CheckLengths l _ hv13) rfl rfl),
                      st_plain rfl (op_bin _ _ _ _ _ rfl rfl rfl),
                      st_plain rfl (op_move _ _ _ _ (congrArg (fun b => AV.v (Value.bool b)) hg8_5) rfl),
                      st_run 5 63 false rfl rfl rfl (List.Mem.head _) (op_move _ _ _ _ rfl rfl),
                      st_run 5 63 false rfl rfl rfl (List.Mem.head _) (op_call _ _ 17 _ _ rfl Try.call17 rfl (ok_canon_Weigh v6 _ hv14) rfl rfl),
                      st_run 5 63 false rfl rfl rfl (List.Mem.head _) (op_move _ _ _ _ rfl rfl),
                      st_run 5 63 false rfl rfl rfl (List.Mem.head _) (op_call _ _ 18 _ _ rfl Try.call18 rfl (ok_wherryref01_Weigh l _ hv15) rfl rfl),
                      st_run 5 63 false rfl rfl rfl (List.Mem.head _) (op_bin _ _ _ _ _ rfl rfl rfl),
                      st_plain rfl (op_pick _ _ false _ rfl rfl),
                      st_plain rfl (op_move _ _ _ _ (congrArg (fun b => AV.v (Value.bool b)) hg8_12) rfl),
                      st_run 12 70 false rfl rfl rfl (List.Mem.head _) (op_move _ _ _ _ rfl rfl),
                      st_run 12 70 false rfl rfl rfl (List.Mem.head _) (op_move _ _ _ _ rfl rfl),
                      st_run 12 70 false rfl rfl rfl (List.Mem.head _) (op_bin _ _ _ _ _ rfl rfl rfl),
                      st_plain rfl (op_pick _ _ false _ rfl rfl),
                      st_plain rfl (op_move _ _ _ _ (congrArg (fun b => AV.v (Value.bool b)) hg8_17) rfl),
                      st_run 17 75 false rfl rfl rfl (List.Mem.head _) (op_move _ _ _ _ rfl rfl),
                      st_run 17 75 false rfl rfl rfl (List.Mem.head _) (op_move_take _ _ _ _ rfl),
                      st_run 17 75 false rfl rfl rfl (List.Mem.head _) (op_call _ _ 19 _ _ rfl Try.call19 rfl (ok_wherrykeep_Ints v8.1 v9.1 _ hv16) rfl rfl),
                      st_run 17 75 false rfl rfl rfl (List.Mem.head _) (op_un _ _ _ _ rfl rfl),
                      st_plain rfl (op_pick _ _ false _ rfl rfl),
                      st_plain rfl (op_move _ _ _ _ (congrArg (fun b => AV.v (Value.bool b)) hg8_23) rfl),
                      st_run 23 81 false rfl rfl rfl (List.Mem.head _) (op_move _ _ _ _ rfl rfl),
                      st_run 23 81 false rfl rfl rfl (List.Mem.head _) (op_move _ _ _ _ rfl rfl),
                      st_run 23 81 false rfl rfl rfl (List.Mem.head _) (op_bin _ _ _ _ _ rfl rfl rfl),
                      st_plain rfl (op_pick _ _ false _ rfl rfl),
                      st_plain rfl (op_move _ _ _ _ (congrArg (fun b => AV.v (Value.bool b)) hg8_28) rfl),
                      st_skip 28 86 _ false rfl rfl rfl rfl (List.Mem.head _),
                      st_skip 28 86 _ false rfl rfl rfl rfl (List.Mem.head _),
                      st_skip 28 86 _ false rfl rfl rfl rfl (List.Mem.head _),
                      st_plain rfl (op_pick _ _ true _ rfl rfl),
                      st_plain rfl (op_move _ _ _ _ rfl rfl),
                      st_skip 33 91 _ false rfl rfl rfl rfl (List.Mem.head _),
                      st_skip 33 91 _ false rfl rfl rfl rfl (List.Mem.head _),
                      st_skip 33 91 _ false rfl rfl rfl rfl (List.Mem.head _),
                      st_plain rfl (op_pick _ _ true _ rfl rfl),
                      trivial⟩ ?_
                  exact hl19 _ (Option.some.inj h).symm
                · refine cond_some h (fun hg8_33 h => ?_) (fun hg8_33 h => ?_)
                  · refine ht_seqR hn (El := (_ :: _ :: _ :: _ :: _ :: _ :: _ :: _ :: _ :: _ :: _ :: _ :: _ :: _ :: (58, .same (.slot 7)) :: (59, .v (.int .i64 v12)) :: (60, .fl .shr 1 (List.map (Value.int .i64) l)) :: (61, .v (.int .i64 v13)) :: (62, .v (.bool (v12 != v13))) :: (63, .v (.bool false)) :: (64, .same (.slot 7)) :: (65, .v (.int .i64 v14)) :: (66, .fl .shr 1 (List.map (Value.int .i64) l)) :: (67, .v (.int .i64 v15)) :: (68, .v (.bool (v14 != v15))) :: (69, .v (.bool (v14 != v15))) :: (70, .v (.bool false)) :: (71, .v (.int .i64 v8.2)) :: (72, .v (.int .i64 v9.2)) :: (73, .v (.bool (v8.2 != v9.2))) :: (74, .v (.bool (v8.2 != v9.2))) :: (75, .v (.bool false)) :: (76, .same (.slot 9)) :: (77, .fl (.own 3) 1 (List.map (Value.int .i64) v9.1)) :: (78, .v (.bool v16)) :: (79, .v (.bool (!v16))) :: (80, .v (.bool (!v16))) :: (81, .v (.bool false)) :: (82, .v (.int .i64 v10.2.2)) :: (83, .v (.int .i64 v11.2.2)) :: (84, .v (.bool (v10.2.2 != v11.2.2))) :: (85, .v (.bool (v10.2.2 != v11.2.2))) :: (86, .v (.bool false)) :: (87, .v (.int .i64 v10.1)) :: (88, .v (.int .i64 v11.1)) :: (89, .v (.bool (v10.1 != v11.1))) :: (90, .v (.bool (v10.1 != v11.1))) :: (91, .v (.bool true)) :: (92, .v undef) :: (93, .v undef) :: (94, .v undef) :: (95, .v (.bool true)) :: [])) (init := [0, 1, 2, 3, 4, 5, 6, 7, 8, 9, 10, 11, 12, 13]) (fin := [0, 1, 2, 3, 4, 51]) (sps := (⟨[2], [], [14], [(.slot 58)]⟩ :: ⟨[14, 2], [], [15], [(.slot 59)]⟩ :: ⟨[0], [], [16], [(.slot 60)]⟩ :: ⟨[16], [], [17], [(.slot 61)]⟩ :: ⟨[15, 17], [], [18], [(.slot 62)]⟩ :: ⟨[18], [], [19], [(.slot 63)]⟩ :: ⟨[19, 2], [], [20], [(.slot 64)]⟩ :: ⟨[19, 20, 2], [], [21], [(.slot 65)]⟩ :: ⟨[19, 0], [], [22], [(.slot 66)]⟩ :: ⟨[19, 22], [], [23], [(.slot 67)]⟩ :: ⟨[19, 21, 23], [], [24], [(.slot 68)]⟩ :: ⟨[19, 24], [], [25], [(.slot 69)]⟩ :: ⟨[25], [], [26], [(.slot 70)]⟩ :: ⟨[26, 5], [], [27], [(.slot 71)]⟩ :: ⟨[26, 7], [], [28], [(.slot 72)]⟩ :: ⟨[26, 27, 28], [], [29], [(.slot 73)]⟩ :: ⟨[26, 29], [], [30], [(.slot 74)]⟩ :: ⟨[30], [], [31], [(.slot 75)]⟩ :: ⟨[31, 4], [], [32], [(.slot 76)]⟩ :: ⟨[31], [6], [33], [(.slot 77)]⟩ :: ⟨[31, 32, 4, 33], [], [34], [(.slot 78)]⟩ :: ⟨[31, 34], [], [35], [(.slot 79)]⟩ :: ⟨[31, 35], [], [36], [(.slot 80)]⟩ :: ⟨[36], [], [37], [(.slot 81)]⟩ :: ⟨[37, 10], [], [38], [(.slot 82)]⟩ :: ⟨[37, 13], [], [39], [(.slot 83)]⟩ :: ⟨[37, 38, 39], [], [40], [(.slot 84)]⟩ :: ⟨[37, 40], [], [41], [(.slot 85)]⟩ :: ⟨[41], [], [42], [(.slot 86)]⟩ :: ⟨[42, 8], [], [43], [(.slot 87)]⟩ :: ⟨[42, 11], [], [44], [(.slot 88)]⟩ :: ⟨[42, 43, 44], [], [45], [(.slot 89)]⟩ :: ⟨[42, 45], [], [46], [(.slot 90)]⟩ :: ⟨[46], [], [47], [(.slot 91)]⟩ :: ⟨[47], [], [48], [(.slot 92)]⟩ :: ⟨[47], [], [49], [(.slot 93)]⟩ :: ⟨[47], [], [50], [(.slot 94)]⟩ :: ⟨[47], [], [51], [(.slot 95)]⟩ :: [])) (es' := [(_, _), (_, _), (_, _), (_, _), (_, _), (95, .v (.bool true))]) (by kernel_rfl) rfl rfl
                      ⟨st_plain rfl (op_move _ _ _ _ rfl rfl),
                        st_plain rfl (op_call _ _ 15 _ _ rfl Try.call15 rfl (ok_canon_Check v6 _ hv12) rfl rfl),
                        st_plain rfl (op_move _ _ _ _ rfl rfl),
                        st_plain rfl (op_call _ _ 16 _ _ rfl Try.call16 rfl (ok_wherryref01_CheckLengths l _ hv13) rfl rfl),
                        st_plain rfl (op_bin _ _ _ _ _ rfl rfl rfl),
                        st_plain rfl (op_move _ _ _ _ (congrArg (fun b => AV.v (Value.bool b)) hg8_5) rfl),
                        st_run 5 63 false rfl rfl rfl (List.Mem.head _) (op_move _ _ _ _ rfl rfl),
                        st_run 5 63 false rfl rfl rfl (List.Mem.head _) (op_call _ _ 17 _ _ rfl Try.call17 rfl (ok_canon_Weigh v6 _ hv14) rfl rfl),
                        st_run 5 63 false rfl rfl rfl (List.Mem.head _) (op_move _ _ _ _ rfl rfl),
                        st_run 5 63 false rfl rfl rfl (List.Mem.head _) (op_call _ _ 18 _ _ rfl Try.call18 rfl (ok_wherryref01_Weigh l _ hv15) rfl rfl),
                        st_run 5 63 false rfl rfl rfl (List.Mem.head _) (op_bin _ _ _ _ _ rfl rfl rfl),
                        st_plain rfl (op_pick _ _ false _ rfl rfl),
                        st_plain rfl (op_move _ _ _ _ (congrArg (fun b => AV.v (Value.bool b)) hg8_12) rfl),
                        st_run 12 70 false rfl rfl rfl (List.Mem.head _) (op_move _ _ _ _ rfl rfl),
                        st_run 12 70 false rfl rfl rfl (List.Mem.head _) (op_move _ _ _ _ rfl rfl),
                        st_run 12 70 false rfl rfl rfl (List.Mem.head _) (op_bin _ _ _ _ _ rfl rfl rfl),
                        st_plain rfl (op_pick _ _ false _ rfl rfl),
                        st_plain rfl (op_move _ _ _ _ (congrArg (fun b => AV.v (Value.bool b)) hg8_17) rfl),
                        st_run 17 75 false rfl rfl rfl (List.Mem.head _) (op_move _ _ _ _ rfl rfl),
                        st_run 17 75 false rfl rfl rfl (List.Mem.head _) (op_move_take _ _ _ _ rfl),
                        st_run 17 75 false rfl rfl rfl (List.Mem.head _) (op_call _ _ 19 _ _ rfl Try.call19 rfl (ok_wherrykeep_Ints v8.1 v9.1 _ hv16) rfl rfl),
                        st_run 17 75 false rfl rfl rfl (List.Mem.head _) (op_un _ _ _ _ rfl rfl),
                        st_plain rfl (op_pick _ _ false _ rfl rfl),
                        st_plain rfl (op_move _ _ _ _ (congrArg (fun b => AV.v (Value.bool b)) hg8_23) rfl),
                        st_run 23 81 false rfl rfl rfl (List.Mem.head _) (op_move _ _ _ _ rfl rfl),
                        st_run 23 81 false rfl rfl rfl (List.Mem.head _) (op_move _ _ _ _ rfl rfl),
                        st_run 23 81 false rfl rfl rfl (List.Mem.head _) (op_bin _ _ _ _ _ rfl rfl rfl),
                        st_plain rfl (op_pick _ _ false _ rfl rfl),
                        st_plain rfl (op_move _ _ _ _ (congrArg (fun b => AV.v (Value.bool b)) hg8_28) rfl),
                        st_run 28 86 false rfl rfl rfl (List.Mem.head _) (op_move _ _ _ _ rfl rfl),
                        st_run 28 86 false rfl rfl rfl (List.Mem.head _) (op_move _ _ _ _ rfl rfl),
                        st_run 28 86 false rfl rfl rfl (List.Mem.head _) (op_bin _ _ _ _ _ rfl rfl rfl),
                        st_plain rfl (op_pick _ _ false _ rfl rfl),
                        st_plain rfl (op_move _ _ _ _ (congrArg (fun b => AV.v (Value.bool b)) hg8_33) rfl),
                        st_skip 33 91 _ false rfl rfl rfl rfl (List.Mem.head _),
                        st_skip 33 91 _ false rfl rfl rfl rfl (List.Mem.head _),
                        st_skip 33 91 _ false rfl rfl rfl rfl (List.Mem.head _),
                        st_plain rfl (op_pick _ _ true _ rfl rfl),
                        trivial⟩ ?_
                    exact hl19 _ (Option.some.inj h).symm
                  · refine ht_seqR hn (El := (_ :: _ :: _ :: _ :: _ :: _ :: _ :: _ :: _ :: _ :: _ :: _ :: _ :: _ :: (58, .same (.slot 7)) :: (59, .v (.int .i64 v12)) :: (60, .fl .shr 1 (List.map (Value.int .i64) l)) :: (61, .v (.int .i64 v13)) :: (62, .v (.bool (v12 != v13))) :: (63, .v (.bool false)) :: (64, .same (.slot 7)) :: (65, .v (.int .i64 v14)) :: (66, .fl .shr 1 (List.map (Value.int .i64) l)) :: (67, .v (.int .i64 v15)) :: (68, .v (.bool (v14 != v15))) :: (69, .v (.bool (v14 != v15))) :: (70, .v (.bool false)) :: (71, .v (.int .i64 v8.2)) :: (72, .v (.int .i64 v9.2)) :: (73, .v (.bool (v8.2 != v9.2))) :: (74, .v (.bool (v8.2 != v9.2))) :: (75, .v (.bool false)) :: (76, .same (.slot 9)) :: (77, .fl (.own 3) 1 (List.map (Value.int .i64) v9.1)) :: (78, .v (.bool v16)) :: (79, .v (.bool (!v16))) :: (80, .v (.bool (!v16))) :: (81, .v (.bool false)) :: (82, .v (.int .i64 v10.2.2)) :: (83, .v (.int .i64 v11.2.2)) :: (84, .v (.bool (v10.2.2 != v11.2.2))) :: (85, .v (.bool (v10.2.2 != v11.2.2))) :: (86, .v (.bool false)) :: (87, .v (.int .i64 v10.1)) :: (88, .v (.int .i64 v11.1)) :: (89, .v (.bool (v10.1 != v11.1))) :: (90, .v (.bool (v10.1 != v11.1))) :: (91, .v (.bool false)) :: (92, .v (.int .i64 v10.2.1)) :: (93, .v (.int .i64 v11.2.1)) :: (94, .v (.bool (v10.2.1 != v11.2.1))) :: (95, .v (.bool (v10.2.1 != v11.2.1))) :: [])) (init := [0, 1, 2, 3, 4, 5, 6, 7, 8, 9, 10, 11, 12, 13]) (fin := [0, 1, 2, 3, 4, 51]) (sps := (⟨[2], [], [14], [(.slot 58)]⟩ :: ⟨[14, 2], [], [15], [(.slot 59)]⟩ :: ⟨[0], [], [16], [(.slot 60)]⟩ :: ⟨[16], [], [17], [(.slot 61)]⟩ :: ⟨[15, 17], [], [18], [(.slot 62)]⟩ :: ⟨[18], [], [19], [(.slot 63)]⟩ :: ⟨[19, 2], [], [20], [(.slot 64)]⟩ :: ⟨[19, 20, 2], [], [21], [(.slot 65)]⟩ :: ⟨[19, 0], [], [22], [(.slot 66)]⟩ :: ⟨[19, 22], [], [23], [(.slot 67)]⟩ :: ⟨[19, 21, 23], [], [24], [(.slot 68)]⟩ :: ⟨[19, 24], [], [25], [(.slot 69)]⟩ :: ⟨[25], [], [26], [(.slot 70)]⟩ :: ⟨[26, 5], [], [27], [(.slot 71)]⟩ :: ⟨[26, 7], [], [28], [(.slot 72)]⟩ :: ⟨[26, 27, 28], [], [29], [(.slot 73)]⟩ :: ⟨[26, 29], [], [30], [(.slot 74)]⟩ :: ⟨[30], [], [31], [(.slot 75)]⟩ :: ⟨[31, 4], [], [32], [(.slot 76)]⟩ :: ⟨[31], [6], [33], [(.slot 77)]⟩ :: ⟨[31, 32, 4, 33], [], [34], [(.slot 78)]⟩ :: ⟨[31, 34], [], [35], [(.slot 79)]⟩ :: ⟨[31, 35], [], [36], [(.slot 80)]⟩ :: ⟨[36], [], [37], [(.slot 81)]⟩ :: ⟨[37, 10], [], [38], [(.slot 82)]⟩ :: ⟨[37, 13], [], [39], [(.slot 83)]⟩ :: ⟨[37, 38, 39], [], [40], [(.slot 84)]⟩ :: ⟨[37, 40], [], [41], [(.slot 85)]⟩ :: ⟨[41], [], [42], [(.slot 86)]⟩ :: ⟨[42, 8], [], [43], [(.slot 87)]⟩ :: ⟨[42, 11], [], [44], [(.slot 88)]⟩ :: ⟨[42, 43, 44], [], [45], [(.slot 89)]⟩ :: ⟨[42, 45], [], [46], [(.slot 90)]⟩ :: ⟨[46], [], [47], [(.slot 91)]⟩ :: ⟨[47, 9], [], [48], [(.slot 92)]⟩ :: ⟨[47, 12], [], [49], [(.slot 93)]⟩ :: ⟨[47, 48, 49], [], [50], [(.slot 94)]⟩ :: ⟨[47, 50], [], [51], [(.slot 95)]⟩ :: [])) (es' := [(_, _), (_, _), (_, _), (_, _), (_, _), (95, .v (.bool (v10.2.1 != v11.2.1)))]) (by kernel_rfl) rfl rfl
                      ⟨st_plain rfl (op_move _ _ _ _ rfl rfl),
                        st_plain rfl (op_call _ _ 15 _ _ rfl Try.call15 rfl (ok_canon_Check v6 _ hv12) rfl rfl),
                        st_plain rfl (op_move _ _ _ _ rfl rfl),
                        st_plain rfl (op_call _ _ 16 _ _ rfl Try.call16 rfl (ok_wherryref01_CheckLengths l _ hv13) rfl rfl),
                        st_plain rfl (op_bin _ _ _ _ _ rfl rfl rfl),
                        st_plain rfl (op_move _ _ _ _ (congrArg (fun b => AV.v (Value.bool b)) hg8_5) rfl),
                        st_run 5 63 false rfl rfl rfl (List.Mem.head _) (op_move _ _ _ _ rfl rfl),
                        st_run 5 63 false rfl rfl rfl (List.Mem.head _) (op_call _ _ 17 _ _ rfl Try.call17 rfl (ok_canon_Weigh v6 _ hv14) rfl rfl),
                        st_run 5 63 false rfl rfl rfl (List.Mem.head _) (op_move _ _ _ _ rfl rfl),
                        st_run 5 63 false rfl rfl rfl (List.Mem.head _) (op_call _ _ 18 _ _ rfl Try.call18 rfl (ok_wherryref01_Weigh l _ hv15) rfl rfl),
                        st_run 5 63 false rfl rfl rfl (List.Mem.head _) (op_bin _ _ _ _ _ rfl rfl rfl),
                        st_plain rfl (op_pick _ _ false _ rfl rfl),
                        st_plain rfl (op_move _ _ _ _ (congrArg (fun b => AV.v (Value.bool b)) hg8_12) rfl),
                        st_run 12 70 false rfl rfl rfl (List.Mem.head _) (op_move _ _ _ _ rfl rfl),
                        st_run 12 70 false rfl rfl rfl (List.Mem.head _) (op_move _ _ _ _ rfl rfl),
                        st_run 12 70 false rfl rfl rfl (List.Mem.head _) (op_bin _ _ _ _ _ rfl rfl rfl),
                        st_plain rfl (op_pick _ _ false _ rfl rfl),
                        st_plain rfl (op_move _ _ _ _ (congrArg (fun b => AV.v (Value.bool b)) hg8_17) rfl),
                        st_run 17 75 false rfl rfl rfl (List.Mem.head _) (op_move _ _ _ _ rfl rfl),
                        st_run 17 75 false rfl rfl rfl (List.Mem.head _) (op_move_take _ _ _ _ rfl),
                        st_run 17 75 false rfl rfl rfl (List.Mem.head _) (op_call _ _ 19 _ _ rfl Try.call19 rfl (ok_wherrykeep_Ints v8.1 v9.1 _ hv16) rfl rfl),
                        st_run 17 75 false rfl rfl rfl (List.Mem.head _) (op_un _ _ _ _ rfl rfl),
                        st_plain rfl (op_pick _ _ false _ rfl rfl),
                        st_plain rfl (op_move _ _ _ _ (congrArg (fun b => AV.v (Value.bool b)) hg8_23) rfl),
                        st_run 23 81 false rfl rfl rfl (List.Mem.head _) (op_move _ _ _ _ rfl rfl),
                        st_run 23 81 false rfl rfl rfl (List.Mem.head _) (op_move _ _ _ _ rfl rfl),
                        st_run 23 81 false rfl rfl rfl (List.Mem.head _) (op_bin _ _ _ _ _ rfl rfl rfl),
                        st_plain rfl (op_pick _ _ false _ rfl rfl),
                        st_plain rfl (op_move _ _ _ _ (congrArg (fun b => AV.v (Value.bool b)) hg8_28) rfl),
                        st_run 28 86 false rfl rfl rfl (List.Mem.head _) (op_move _ _ _ _ rfl rfl),
                        st_run 28 86 false rfl rfl rfl (List.Mem.head _) (op_move _ _ _ _ rfl rfl),
                        st_run 28 86 false rfl rfl rfl (List.Mem.head _) (op_bin _ _ _ _ _ rfl rfl rfl),
                        st_plain rfl (op_pick _ _ false _ rfl rfl),
                        st_plain rfl (op_move _ _ _ _ (congrArg (fun b => AV.v (Value.bool b)) hg8_33) rfl),
                        st_run 33 91 false rfl rfl rfl (List.Mem.head _) (op_move _ _ _ _ rfl rfl),
                        st_run 33 91 false rfl rfl rfl (List.Mem.head _) (op_move _ _ _ _ rfl rfl),
                        st_run 33 91 false rfl rfl rfl (List.Mem.head _) (op_bin _ _ _ _ _ rfl rfl rfl),
                        st_plain rfl (op_pick _ _ false _ rfl rfl),
                        trivial⟩ ?_
                    exact hl19 _ (Option.some.inj h).symm
  · intro u2 h hl3 hr4
    refine cond_some h (fun hg1_3 h => ?_) (fun hg1_3 h => ?_)
    · refine ht_seqR hn (El := [_, _, _, (20, .fl .shr 1 (List.map (Value.int .i64) l)), (21, .v (.int .i64 (l.length : Int))), (22, .v (.bool ((decide (400 < (l.length : Int)))))), (23, .v (.bool true)), (24, .v undef), (25, .v undef), (26, .v undef), (27, .v (.bool true))]) (init := [0, 1, 2]) (fin := [0, 1, 2, 10]) (sps := [⟨[0], [], [3], [(.slot 20)]⟩, ⟨[3], [], [4], [(.slot 21)]⟩, ⟨[4], [], [5], [(.slot 22)]⟩, ⟨[5], [], [6], [(.slot 23)]⟩, ⟨[6], [], [7], [(.slot 24)]⟩, ⟨[6], [], [8], [(.slot 25)]⟩, ⟨[6], [], [9], [(.slot 26)]⟩, ⟨[6], [], [10], [(.slot 27)]⟩]) (es' := [(_, _), (_, _), (_, _), (27, .v (.bool true))]) (by kernel_rfl) rfl rfl
        ⟨st_plain rfl (op_move _ _ _ _ rfl rfl),
          st_plain rfl (op_len_fl _ _ _ Try.underlying22 rfl (by decide) (map_len _)),
          st_plain rfl (op_bin _ _ _ _ _ rfl rfl rfl),
          st_plain rfl (op_move _ _ _ _ (congrArg (fun b => AV.v (Value.bool b)) hg1_3) rfl),
          st_skip 3 23 _ false rfl rfl rfl rfl (List.Mem.head _),
          st_skip 3 23 _ false rfl rfl rfl rfl (List.Mem.head _),
          st_skip 3 23 _ false rfl rfl rfl rfl (List.Mem.head _),
          st_plain rfl (op_pick _ _ true _ rfl rfl),
          trivial⟩ ?_
      exact hl3 _ (Option.some.inj h).symm
    · refine ht_seqR hn (El := [_, _, _, (20, .fl .shr 1 (List.map (Value.int .i64) l)), (21, .v (.int .i64 (l.length : Int))), (22, .v (.bool ((decide (400 < (l.length : Int)))))), (23, .v (.bool false)), (24, .fl .shr 1 (List.map (Value.int .u8) b)), (25, .v (.int .i64 (b.length : Int))), (26, .v (.bool ((decide (600 < (b.length : Int)))))), (27, .v (.bool ((decide (600 < (b.length : Int))))))]) (init := [0, 1, 2]) (fin := [0, 1, 2, 10]) (sps := [⟨[0], [], [3], [(.slot 20)]⟩, ⟨[3], [], [4], [(.slot 21)]⟩, ⟨[4], [], [5], [(.slot 22)]⟩, ⟨[5], [], [6], [(.slot 23)]⟩, ⟨[6, 1], [], [7], [(.slot 24)]⟩, ⟨[6, 7], [], [8], [(.slot 25)]⟩, ⟨[6, 8], [], [9], [(.slot 26)]⟩, ⟨[6, 9], [], [10], [(.slot 27)]⟩]) (es' := [(_, _), (_, _), (_, _), (27, .v (.bool ((decide (600 < (b.length : Int))))))]) (by kernel_rfl) rfl rfl
        ⟨st_plain rfl (op_move _ _ _ _ rfl rfl),
          st_plain rfl (op_len_fl _ _ _ Try.underlying22 rfl (by decide) (map_len _)),
          st_plain rfl (op_bin _ _ _ _ _ rfl rfl rfl),
          st_plain rfl (op_move _ _ _ _ (congrArg (fun b => AV.v (Value.bool b)) hg1_3) rfl),
          st_run 3 23 false rfl rfl rfl (List.Mem.head _) (op_move _ _ _ _ rfl rfl),
          st_run 3 23 false rfl rfl rfl (List.Mem.head _) (op_len_fl _ _ _ Try.underlying23 rfl (by decide) (map_len _)),
          st_run 3 23 false rfl rfl rfl (List.Mem.head _) (op_bin _ _ _ _ _ rfl rfl rfl),
          st_plain rfl (op_pick _ _ false _ rfl rfl),
          trivial⟩ ?_
      exact hl3 _ (Option.some.inj h).symm

end Go.Proofs.Ytjnihhkkaioahaa
