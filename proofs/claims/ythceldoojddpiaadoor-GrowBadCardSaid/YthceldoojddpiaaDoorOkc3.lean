/-
  The model's runs are what is told in Lean.
-/
import Derived.Test.YthceldoojddpiaaDoorProg
import Derived.KernelRfl
import Derived.Test.YthceldoojddpiaaDoorOkc2
set_option linter.unusedVariables false
set_option linter.unusedSimpArgs false
namespace Go.Proofs.YthceldoojddpiaaDoor
open Go.Abs Go.Abs.Sh

set_option maxHeartbeats 1000000 in
theorem ok_grow_Blocks (mx : Int) (b : (List Int)) (r : (Int × Int)) (h : Sh.grow_Blocks b = some r) : FnG Tryd.prog (GL mx) 12 [.fl .shr 1 (List.map (Value.int .u8) b)] (.tup [.v (.int .i64 r.1), .v (.int .i64 r.2)]) := by
  unfold Sh.grow_Blocks at h
  refine fn_okG Tryd.func12 rfl (Nat.le_of_ble_eq_true rfl) rfl rfl fun g0 hn hio => ?_
  refine ht_seq ?_
  refine ht_seqR hn (El := [_, _, (2, .v (.int .i64 0)), (3, .v (.int .i64 0))]) (init := [0, 1]) (fin := [0, 1]) (sps := [⟨[], [], [2], [(.slot 2)]⟩, ⟨[], [], [3], [(.slot 3)]⟩]) (es' := [(_, _), (_, _)]) (by kernel_rfl) rfl rfl
   ⟨st_plain rfl (op_assign _ _ _ _ rfl rfl),
   st_plain rfl (op_assign _ _ _ _ rfl rfl),
   trivial⟩ ?_
  refine pt_then ?_
  refine ht_seq ?_
  obtain ⟨v1, hv1, h⟩ := bind_some h
  refine ht_seqR hn (El := [_, _, (7, .fl .shr 1 (List.map (Value.int .u8) b)), (8, .tup [.obox (Option.isSome v1.1) 59 [.fl .shr 1 (List.map (Value.int .u8) (((Option.getD v1.1 (default : T_grow_stream))).b)), .v (.int .i64 (((Option.getD v1.1 (default : T_grow_stream))).at_)), .fl (.own 5) 1 (List.map (Value.int .u8) (((Option.getD v1.1 (default : T_grow_stream))).out)), .v (.int .i64 (((Option.getD v1.1 (default : T_grow_stream))).most)), .v (.int .i64 (((Option.getD v1.1 (default : T_grow_stream))).blocks))], .v (.int .i64 v1.2)]), (6, .tup [.obox (Option.isSome v1.1) 59 [.fl .shr 1 (List.map (Value.int .u8) (((Option.getD v1.1 (default : T_grow_stream))).b)), .v (.int .i64 (((Option.getD v1.1 (default : T_grow_stream))).at_)), .fl (.own 5) 1 (List.map (Value.int .u8) (((Option.getD v1.1 (default : T_grow_stream))).out)), .v (.int .i64 (((Option.getD v1.1 (default : T_grow_stream))).most)), .v (.int .i64 (((Option.getD v1.1 (default : T_grow_stream))).blocks))], .v (.int .i64 v1.2)]), (9, .obox (Option.isSome v1.1) 59 [.fl .shr 1 (List.map (Value.int .u8) (((Option.getD v1.1 (default : T_grow_stream))).b)), .v (.int .i64 (((Option.getD v1.1 (default : T_grow_stream))).at_)), .fl (.own 5) 1 (List.map (Value.int .u8) (((Option.getD v1.1 (default : T_grow_stream))).out)), .v (.int .i64 (((Option.getD v1.1 (default : T_grow_stream))).most)), .v (.int .i64 (((Option.getD v1.1 (default : T_grow_stream))).blocks))]), (6, .tup [.any, .v (.int .i64 v1.2)]), (10, .v (.int .i64 v1.2)), (4, .obox (Option.isSome v1.1) 59 [.fl .shr 1 (List.map (Value.int .u8) (((Option.getD v1.1 (default : T_grow_stream))).b)), .v (.int .i64 (((Option.getD v1.1 (default : T_grow_stream))).at_)), .fl (.own 5) 1 (List.map (Value.int .u8) (((Option.getD v1.1 (default : T_grow_stream))).out)), .v (.int .i64 (((Option.getD v1.1 (default : T_grow_stream))).most)), .v (.int .i64 (((Option.getD v1.1 (default : T_grow_stream))).blocks))]), (5, .v (.int .i64 v1.2))]) (init := [0, 1]) (fin := [1, 8, 9]) (sps := [⟨[0], [], [2], [(.slot 7)]⟩, ⟨[2, 1], [], [3], [(.slot 8)]⟩, ⟨[], [3], [4], [(.slot 6)]⟩, ⟨[], [4], [6, 5], [(.slot 9)]⟩, ⟨[6], [], [7], [(.slot 10)]⟩, ⟨[], [5], [8], [(.slot 4)]⟩, ⟨[7], [], [9], [(.slot 5)]⟩]) (es' := [(_, _), (4, .obox (Option.isSome v1.1) 59 [.fl .shr 1 (List.map (Value.int .u8) (((Option.getD v1.1 (default : T_grow_stream))).b)), .v (.int .i64 (((Option.getD v1.1 (default : T_grow_stream))).at_)), .fl (.own 5) 1 (List.map (Value.int .u8) (((Option.getD v1.1 (default : T_grow_stream))).out)), .v (.int .i64 (((Option.getD v1.1 (default : T_grow_stream))).most)), .v (.int .i64 (((Option.getD v1.1 (default : T_grow_stream))).blocks))]), (5, .v (.int .i64 v1.2))]) (by kernel_rfl) rfl rfl
   ⟨st_plain rfl (op_move _ _ _ _ rfl rfl),
   st_plain rfl (op_callSG _ _ 18 24 _ _ rfl Tryd.call24 rfl rfl rfl (fun _ h => h) (ok_grow_read_sh mx b 4096 _ hv1) rfl),
   st_plain rfl (op_move_take _ _ _ _ rfl),
   st_plain rfl (op_extract_take _ _ _ _ _ rfl (Nat.le_of_ble_eq_true rfl) rfl rfl (by decide) rfl),
   st_plain rfl (op_extract _ _ _ _ _ rfl rfl (Nat.le_of_ble_eq_true rfl) rfl rfl),
   st_plain rfl (op_assign_take _ _ _ _ rfl),
   st_plain rfl (op_assign _ _ _ _ rfl rfl),
   trivial⟩ ?_
  refine pt_ob (d := default) (f := fun (v2 : T_grow_stream) => [.fl .shr 1 (List.map (Value.int .u8) v2.b), .v (.int .i64 v2.at_), .fl (.own 5) 1 (List.map (Value.int .u8) v2.out), .v (.int .i64 v2.most), .v (.int .i64 v2.blocks)]) 1 5 4 59 h (es1 := fun v2 => [(18, .glob (GL mx)), (4, .box 59 [.fl .shr 1 (List.map (Value.int .u8) v2.b), .v (.int .i64 v2.at_), .fl (.own 5) 1 (List.map (Value.int .u8) v2.out), .v (.int .i64 v2.most), .v (.int .i64 v2.blocks)]), (5, .v (.int .i64 v1.2))]) (es0 := [(18, .glob (GL mx)), (4, .v (.pointer none)), (5, .v (.int .i64 v1.2))]) rfl (fun _ => rfl) (by kernel_rfl) (fun _ => rfl) (fun _ => rfl) rfl (fun v2 hv3 h => ?_) (fun hv3 h => ?_)
  ·refine pt_then ?_
   refine ht_seq ?_
   refine ht_seq ?_
   refine ht_seqR hn (El := [_, _, _, (11, .v (.int .i64 v1.2)), (12, .v (.bool (v1.2 != 0)))]) (init := [0, 1, 2]) (fin := [0, 1, 2, 4]) (sps := [⟨[2], [], [3], [(.slot 11)]⟩, ⟨[3], [], [4], [(.slot 12)]⟩]) (es' := [(_, _), (_, _), (_, _), (12, .v (.bool (v1.2 != 0)))]) (by kernel_rfl) rfl rfl
    ⟨st_plain rfl (op_move _ _ _ _ rfl rfl),
    st_plain rfl (op_bin _ _ _ _ _ rfl rfl rfl),
    trivial⟩ ?_
   refine pt_then ?_
   refine ht_cond _ rfl (fun hb4 => ?_) (fun hb4 => ?_)
   ·have h := cond_t hb4 h
    refine ht_seq ?_
    refine ht_seqR hn (El := [_, _, _, _, (13, .v (.int .i64 v1.2)), (2, .v (.int .i64 0)), (3, .v (.int .i64 v1.2))]) (init := [0, 1, 2, 3]) (fin := [0, 5, 6]) (sps := [⟨[2], [], [4], [(.slot 13)]⟩, ⟨[], [], [5], [(.slot 2)]⟩, ⟨[4], [], [6], [(.slot 3)]⟩]) (es' := [(_, _), (2, .v (.int .i64 0)), (3, .v (.int .i64 v1.2))]) (by kernel_rfl) rfl rfl
     ⟨st_plain rfl (op_move _ _ _ _ rfl rfl),
     st_plain rfl (op_assign _ _ _ _ rfl rfl),
     st_plain rfl (op_assign _ _ _ _ rfl rfl),
     trivial⟩ ?_
    refine pt_then ?_
    refine ht_ret ?_
    refine pt_pick [1, 2] (by kernel_rfl) (es' := [(_, _), (_, _)]) rfl ?_
    refine pt_r_then ?_
    obtain rfl := Option.some.inj h
    exact pt_ret hio rfl (.tmp _ _ (.tmp _ _ .nil)) rfl rfl
   ·have h := cond_f hb4 h
    refine ht_skip ?_
    refine pt_then ?_
    refine ht_seq ?_
    refine ht_seqR hn (El := [_, _, _, _, (14, .box 59 [.fl .shr 1 (List.map (Value.int .u8) v2.b), .v (.int .i64 v2.at_), .fl (.own 5) 1 (List.map (Value.int .u8) v2.out), .v (.int .i64 v2.most), .v (.int .i64 v2.blocks)]), (15, .ptr 14 0), (16, .ptr 14 4), (17, .v (.int .i64 v2.blocks)), (2, .v (.int .i64 v2.blocks)), (3, .v (.int .i64 0))]) (init := [0, 1, 2, 3]) (fin := [0, 8, 9]) (sps := [⟨[], [1], [4], [(.slot 14)]⟩, ⟨[4], [], [5], [(.slot 15)]⟩, ⟨[5, 4], [], [6], [(.slot 16)]⟩, ⟨[6, 4], [], [7], [(.slot 17)]⟩, ⟨[7], [], [8], [(.slot 2)]⟩, ⟨[], [], [9], [(.slot 3)]⟩]) (es' := [(_, _), (2, .v (.int .i64 v2.blocks)), (3, .v (.int .i64 0))]) (by kernel_rfl) rfl rfl
     ⟨st_plain rfl (op_move_take _ _ _ _ rfl),
     st_plain rfl (op_nilCheck _ _ _ 14 0 rfl (by decide)),
     st_plain rfl (op_fieldAddr _ _ _ _ 14 0 _ Tryd.underlying59 rfl sz3 rfl rfl (by decide)),
     st_plain rfl (op_load _ _ _ _ _ _ Tryd.underlying3 rfl rfl rfl (Nat.le_of_ble_eq_true rfl) rfl rfl rfl),
     st_plain rfl (op_assign _ _ _ _ rfl rfl),
     st_plain rfl (op_assign _ _ _ _ rfl rfl),
     trivial⟩ ?_
    refine pt_then ?_
    refine ht_ret ?_
    refine pt_pick [1, 2] (by kernel_rfl) (es' := [(_, _), (_, _)]) rfl ?_
    obtain rfl := Option.some.inj h
    exact pt_ret hio rfl (.tmp _ _ (.tmp _ _ .nil)) rfl rfl
  ·refine pt_then ?_
   refine ht_seq ?_
   refine ht_seq ?_
   refine ht_seqR hn (El := [_, _, _, (11, .v (.int .i64 v1.2)), (12, .v (.bool (v1.2 != 0)))]) (init := [0, 1, 2]) (fin := [0, 1, 2, 4]) (sps := [⟨[2], [], [3], [(.slot 11)]⟩, ⟨[3], [], [4], [(.slot 12)]⟩]) (es' := [(_, _), (_, _), (_, _), (12, .v (.bool (v1.2 != 0)))]) (by kernel_rfl) rfl rfl
    ⟨st_plain rfl (op_move _ _ _ _ rfl rfl),
    st_plain rfl (op_bin _ _ _ _ _ rfl rfl rfl),
    trivial⟩ ?_
   refine pt_then ?_
   refine ht_cond _ rfl (fun hb5 => ?_) (fun hb5 => ?_)
   ·have h := cond_t hb5 h
    refine ht_seq ?_
    refine ht_seqR hn (El := [_, _, _, _, (13, .v (.int .i64 v1.2)), (2, .v (.int .i64 0)), (3, .v (.int .i64 v1.2))]) (init := [0, 1, 2, 3]) (fin := [0, 5, 6]) (sps := [⟨[2], [], [4], [(.slot 13)]⟩, ⟨[], [], [5], [(.slot 2)]⟩, ⟨[4], [], [6], [(.slot 3)]⟩]) (es' := [(_, _), (2, .v (.int .i64 0)), (3, .v (.int .i64 v1.2))]) (by kernel_rfl) rfl rfl
     ⟨st_plain rfl (op_move _ _ _ _ rfl rfl),
     st_plain rfl (op_assign _ _ _ _ rfl rfl),
     st_plain rfl (op_assign _ _ _ _ rfl rfl),
     trivial⟩ ?_
    refine pt_then ?_
    refine ht_ret ?_
    refine pt_pick [1, 2] (by kernel_rfl) (es' := [(_, _), (_, _)]) rfl ?_
    refine pt_r_then ?_
    obtain rfl := Option.some.inj h
    exact pt_ret hio rfl (.tmp _ _ (.tmp _ _ .nil)) rfl rfl
   ·have h := cond_f hb5 h
    cases h

set_option maxHeartbeats 1000000 in
theorem ok_wherrykeep_Bytes (a : (List Int)) (b : (List Int)) (r : Bool) (h : Sh.wherrykeep_Bytes a b = some r) : FnOK Tryd.prog 13 [.fl .shr 1 (List.map (Value.int .u8) a), .fl .shr 1 (List.map (Value.int .u8) b)] (.v (.bool r)) := by
  unfold Sh.wherrykeep_Bytes at h
  refine fn_ok Tryd.func13 rfl (Nat.le_of_ble_eq_true rfl) rfl rfl fun g0 hn hio => ?_
  refine ht_seq ?_
  refine ht_seqR hn (El := [_, _, (4, .v (.bool false))]) (init := [0, 1]) (fin := [0, 1]) (sps := [⟨[], [], [2], [(.slot 4)]⟩]) (es' := [(_, _), (_, _)]) (by kernel_rfl) rfl rfl
   ⟨st_plain rfl (op_assign _ _ _ _ rfl rfl),
   trivial⟩ ?_
  refine pt_then ?_
  refine ht_seq ?_
  refine ht_seq ?_
  refine ht_seqR hn (El := [_, _, (6, .fl .shr 1 (List.map (Value.int .u8) a)), (7, .v (.int .i64 (a.length : Int))), (8, .fl .shr 1 (List.map (Value.int .u8) b)), (9, .v (.int .i64 (b.length : Int))), (10, .v (.bool (((a.length : Int) != (b.length : Int)))))]) (init := [0, 1]) (fin := [0, 1, 6]) (sps := [⟨[0], [], [2], [(.slot 6)]⟩, ⟨[2], [], [3], [(.slot 7)]⟩, ⟨[1], [], [4], [(.slot 8)]⟩, ⟨[4], [], [5], [(.slot 9)]⟩, ⟨[3, 5], [], [6], [(.slot 10)]⟩]) (es' := [(_, _), (_, _), (10, .v (.bool (((a.length : Int) != (b.length : Int)))))]) (by kernel_rfl) rfl rfl
   ⟨st_plain rfl (op_move _ _ _ _ rfl rfl),
   st_plain rfl (op_len_fl _ _ _ Tryd.underlying22 rfl (by decide) (map_len _)),
   st_plain rfl (op_move _ _ _ _ rfl rfl),
   st_plain rfl (op_len_fl _ _ _ Tryd.underlying22 rfl (by decide) (map_len _)),
   st_plain rfl (op_bin _ _ _ _ _ rfl rfl rfl),
   trivial⟩ ?_
  refine pt_then ?_
  refine ht_cond _ rfl (fun hb1 => ?_) (fun hb1 => ?_)
  ·have h := cond_t hb1 h
   refine ht_seq ?_
   refine ht_seqR hn (El := [_, _, _, (4, .v (.bool false))]) (init := [0, 1, 2]) (fin := [3]) (sps := [⟨[], [], [3], [(.slot 4)]⟩]) (es' := [(4, .v (.bool false))]) (by kernel_rfl) rfl rfl
    ⟨st_plain rfl (op_assign _ _ _ _ rfl rfl),
    trivial⟩ ?_
   refine pt_then ?_
   refine ht_ret ?_
   refine pt_r_then ?_
   obtain rfl := Option.some.inj h
   exact pt_ret hio rfl (.tmp _ _ .nil) rfl rfl
  ·have h := cond_f hb1 h
   refine ht_skip ?_
   refine pt_then ?_
   refine ht_seq ?_
   refine ht_seq ?_
   refine ht_seqR hn (El := [_, _, _, (5, .v (.int .i64 0))]) (init := [0, 1, 2]) (fin := [0, 1, 3]) (sps := [⟨[], [], [3], [(.slot 5)]⟩]) (es' := [(_, _), (_, _), (5, .v (.int .i64 0))]) (by kernel_rfl) rfl rfl
    ⟨st_plain rfl (op_assign _ _ _ _ rfl rfl),
    trivial⟩ ?_
   refine pt_then ?_
   refine ht_loopS h (fun (s12 : Int) => [(0, .fl .shr 1 (List.map (Value.int .u8) a)), (1, .fl .shr 1 (List.map (Value.int .u8) b)), (5, .v (.int .i64 s12))]) (fun (() : Unit) => []) ?_ ?_
   ·rintro ⟨⟩ h
    refine pt_then ?_
    refine ht_seq ?_
    refine ht_seqR hn (El := [(4, .v (.bool true))]) (init := []) (fin := [0]) (sps := [⟨[], [], [0], [(.slot 4)]⟩]) (es' := [(4, .v (.bool true))]) (by kernel_rfl) rfl rfl
     ⟨st_plain rfl (op_assign _ _ _ _ rfl rfl),
     trivial⟩ ?_
    refine pt_then ?_
    refine ht_ret ?_
    obtain rfl := Option.some.inj h
    exact pt_ret hio rfl (.tmp _ _ .nil) rfl rfl
   ·rintro u15 hl16 hr17 s12 rr20 h ho18
    refine ht_seq ?_
    refine ht_seq ?_
    refine ht_seqR hn (El := [_, _, _, (11, .v (.int .i64 s12)), (12, .fl .shr 1 (List.map (Value.int .u8) a)), (13, .v (.int .i64 (a.length : Int))), (14, .v (.bool ((decide (s12 < (a.length : Int))))))]) (init := [0, 1, 2]) (fin := [0, 1, 2, 6]) (sps := [⟨[2], [], [3], [(.slot 11)]⟩, ⟨[0], [], [4], [(.slot 12)]⟩, ⟨[4], [], [5], [(.slot 13)]⟩, ⟨[3, 5], [], [6], [(.slot 14)]⟩]) (es' := [(_, _), (_, _), (_, _), (14, .v (.bool ((decide (s12 < (a.length : Int))))))]) (by kernel_rfl) rfl rfl
     ⟨st_plain rfl (op_move _ _ _ _ rfl rfl),
     st_plain rfl (op_move _ _ _ _ rfl rfl),
     st_plain rfl (op_len_fl _ _ _ Tryd.underlying22 rfl (by decide) (map_len _)),
     st_plain rfl (op_bin _ _ _ _ _ rfl rfl rfl),
     trivial⟩ ?_
    refine pt_then ?_
    refine ht_cond _ rfl (fun hb21 => ?_) (fun hb21 => ?_)
    ·have h := cond_t hb21 h
     refine ht_skip ?_
     refine pt_then ?_
     refine ht_seq ?_
     refine ht_block ?_
     refine ht_seq ?_
     obtain ⟨v3, hv3, h⟩ := bind_some h
     obtain ⟨v4, hv4, h⟩ := bind_some h
     obtain ⟨v5, hv5, h⟩ := bind_some h
     obtain ⟨v6, hv6, h⟩ := bind_some h
     refine ht_anyR (by kernel_rfl) hn (El := [_, _, _, _, (17, .fl .shr 1 (List.map (Value.int .u8) a)), (18, .v (.int .i64 s12)), (19, .eref (.slot 17) (v3 * 1)), (20, .v (.int .u8 v4)), (21, .fl .shr 1 (List.map (Value.int .u8) b)), (22, .v (.int .i64 s12)), (23, .eref (.slot 21) (v5 * 1)), (24, .v (.int .u8 v6)), (25, .v (.bool (v4 != v6)))]) (init := [0, 1, 2, 3]) (fin := [0, 1, 2, 12]) (sps := [⟨[0], [], [4], [(.slot 17)]⟩, ⟨[2], [], [5], [(.slot 18)]⟩, ⟨[4, 5], [], [6], [(.slot 19)]⟩, ⟨[6, 4], [], [7], [(.slot 20)]⟩, ⟨[1], [], [8], [(.slot 21)]⟩, ⟨[2], [], [9], [(.slot 22)]⟩, ⟨[8, 9], [], [10], [(.slot 23)]⟩, ⟨[10, 8], [], [11], [(.slot 24)]⟩, ⟨[7, 11], [], [12], [(.slot 25)]⟩]) (es' := [(_, _), (_, _), (_, _), (25, .v (.bool (v4 != v6)))]) (by kernel_rfl) rfl rfl
      ⟨st_plain rfl (op_move _ _ _ _ rfl rfl),
      st_plain rfl (op_move _ _ _ _ rfl rfl),
      st_plain rfl (op_ix _ _ _ _ _ _ _ _ Tryd.underlying22 sz5 (by decide) rfl rfl rfl (ix_ok hv3).1 (map_lt (ix_ok hv3).2) rfl),
      st_plain rfl (op_load_e _ _ _ _ _ _ Tryd.underlying5 rfl rfl rfl (map_get hv4)),
      st_plain rfl (op_move _ _ _ _ rfl rfl),
      st_plain rfl (op_move _ _ _ _ rfl rfl),
      st_plain rfl (op_ix _ _ _ _ _ _ _ _ Tryd.underlying22 sz5 (by decide) rfl rfl rfl (ix_ok hv5).1 (map_lt (ix_ok hv5).2) rfl),
      st_plain rfl (op_load_e _ _ _ _ _ _ Tryd.underlying5 rfl rfl rfl (map_get hv6)),
      st_plain rfl (op_bin _ _ _ _ _ rfl rfl rfl),
      trivial⟩ ?_
     refine pt_then ?_
     refine ht_cond _ rfl (fun hb22 => ?_) (fun hb22 => ?_)
     ·have h := cond_t hb22 h
      refine ht_seq ?_
      refine ht_seqR hn (El := [_, _, _, _, (4, .v (.bool false))]) (init := [0, 1, 2, 3]) (fin := [4]) (sps := [⟨[], [], [4], [(.slot 4)]⟩]) (es' := [(4, .v (.bool false))]) (by kernel_rfl) rfl rfl
       ⟨st_plain rfl (op_assign _ _ _ _ rfl rfl),
       trivial⟩ ?_
      refine pt_then ?_
      refine ht_ret ?_
      refine pt_r_in ?_
      refine pt_r_then ?_
      refine pt_r_then ?_
      refine pt_r_in ?_
      refine pt_r_then ?_
      have h := hr17 _ (ho18 _ (Option.some.inj h).symm).symm
      obtain rfl := Option.some.inj h
      exact pt_ret hio rfl (.tmp _ _ .nil) rfl rfl
     ·have h := cond_f hb22 h
      refine ht_skip ?_
      refine pt_inb ?_
      refine pt_then ?_
      obtain ⟨v8, hv8, h⟩ := bind_some h
      refine ht_seqR hn (El := [_, _, _, _, (15, .v (.int .i64 s12)), (16, .v (.int .i64 v8)), (5, .v (.int .i64 v8))]) (init := [0, 1, 2, 3]) (fin := [0, 1, 6]) (sps := [⟨[2], [], [4], [(.slot 15)]⟩, ⟨[4], [], [5], [(.slot 16)]⟩, ⟨[5], [2], [6], [(.slot 5)]⟩]) (es' := [(_, _), (_, _), (5, .v (.int .i64 v8))]) (by kernel_rfl) rfl rfl
       ⟨st_plain rfl (op_move _ _ _ _ rfl rfl),
       st_plain rfl (op_bin _ _ _ _ _ rfl rfl (ibind (f := Value.int .i64) (Option.some.inj hv8))),
       st_plain rfl (LOp.drop [_] (op_assign _ _ _ _ rfl rfl)),
       trivial⟩ ?_
      exact pt_next _ (Option.some.inj h).symm rfl
    ·have h := cond_f hb21 h
     refine ht_exit ?_
     refine pt_x_then ?_
     refine pt_x_then ?_
     refine pt_x_in ?_
     refine pt_pick [] (by kernel_rfl) (es' := []) rfl ?_
     exact hl16 _ (ho18 _ (Option.some.inj h).symm).symm

set_option maxHeartbeats 1000000 in
theorem ok_wherrylaw07_wakes (mx : Int) (r : Bool) (h : Sh.wherrylaw07_wakes  = some r) : FnG Tryd.prog (GL mx) 14 [] (.v (.bool r)) := by
  unfold Sh.wherrylaw07_wakes at h
  refine fn_okG Tryd.func14 rfl (Nat.le_of_ble_eq_true rfl) rfl rfl fun g0 hn hio => ?_
  refine ht_seq ?_
  refine ht_seqR hn (El := [_, (0, .v (.bool false))]) (init := [0]) (fin := [0]) (sps := [⟨[], [], [1], [(.slot 0)]⟩]) (es' := [(_, _)]) (by kernel_rfl) rfl rfl
   ⟨st_plain rfl (op_assign _ _ _ _ rfl rfl),
   trivial⟩ ?_
  refine pt_then ?_
  refine ht_seq ?_
  obtain ⟨v1, hv1, h⟩ := bind_some h
  refine ht_seqR hn (El := [_, (10, .fl (.own 5) 1 (List.map (Value.int .u8) [3, 0])), (11, .tup [.fl .ro 1 (List.map (Value.int .u8) v1.1), .v (.int .i64 v1.2)]), (9, .tup [.fl .ro 1 (List.map (Value.int .u8) v1.1), .v (.int .i64 v1.2)]), (12, .fl .ro 1 (List.map (Value.int .u8) v1.1)), (13, .v (.int .i64 v1.2)), (1, .fl .ro 1 (List.map (Value.int .u8) v1.1)), (2, .v (.int .i64 v1.2))]) (init := [0]) (fin := [0, 6, 7]) (sps := [⟨[], [], [1], [(.slot 10)]⟩, ⟨[1, 0], [], [2], [(.slot 11)]⟩, ⟨[], [2], [3], [(.slot 9)]⟩, ⟨[3], [], [4], [(.slot 12)]⟩, ⟨[3], [], [5], [(.slot 13)]⟩, ⟨[4], [], [6], [(.slot 1)]⟩, ⟨[5], [], [7], [(.slot 2)]⟩]) (es' := [(_, _), (1, .fl .ro 1 (List.map (Value.int .u8) v1.1)), (2, .v (.int .i64 v1.2))]) (by kernel_rfl) rfl rfl
   ⟨st_plain rfl (op_buildSlice _ _ 1 (.int .u8 0) (List.map (Value.int .u8) [3, 0]) [(0, .int .u8 3), (1, .int .u8 0)] Tryd.underlying22 sz5 zr5 (fun _ V w o a hv hes => by simp only [List.map_toArray, List.map_cons, List.map_nil]; try rfl) (litfill (by simp [Instr.fill, Value.cells]; rfl) (by simp [List.range, List.range.loop] <;> rfl)) (by simp [Value.oneCell']) rfl (by decide) (by decide) (by decide)),
   st_plain rfl (op_callG _ _ 57 11 _ _ rfl Tryd.call11 rfl rfl (fun _ h => h) (ok_grow_Grow mx [3, 0] 0 _ hv1) rfl rfl),
   st_plain rfl (op_move_take _ _ _ _ rfl),
   st_plain rfl (op_extract _ _ _ _ _ rfl rfl (Nat.le_of_ble_eq_true rfl) rfl rfl),
   st_plain rfl (op_extract _ _ _ _ _ rfl rfl (Nat.le_of_ble_eq_true rfl) rfl rfl),
   st_plain rfl (op_assign _ _ _ _ rfl rfl),
   st_plain rfl (op_assign _ _ _ _ rfl rfl),
   trivial⟩ ?_
  refine pt_then ?_
  refine ht_seq ?_
  obtain ⟨v2, hv2, h⟩ := bind_some h
  refine ht_seqR hn (El := [_, _, _, (15, .fl (.own 5) 1 (List.map (Value.int .u8) [1, 1, 0, 254, 255, 7])), (16, .tup [.fl .ro 1 (List.map (Value.int .u8) v2.1), .v (.int .i64 v2.2)]), (14, .tup [.fl .ro 1 (List.map (Value.int .u8) v2.1), .v (.int .i64 v2.2)]), (17, .fl .ro 1 (List.map (Value.int .u8) v2.1)), (18, .v (.int .i64 v2.2)), (3, .fl .ro 1 (List.map (Value.int .u8) v2.1)), (4, .v (.int .i64 v2.2))]) (init := [0, 1, 2]) (fin := [0, 1, 2, 8, 9]) (sps := [⟨[], [], [3], [(.slot 15)]⟩, ⟨[3, 0], [], [4], [(.slot 16)]⟩, ⟨[], [4], [5], [(.slot 14)]⟩, ⟨[5], [], [6], [(.slot 17)]⟩, ⟨[5], [], [7], [(.slot 18)]⟩, ⟨[6], [], [8], [(.slot 3)]⟩, ⟨[7], [], [9], [(.slot 4)]⟩]) (es' := [(_, _), (_, _), (_, _), (3, .fl .ro 1 (List.map (Value.int .u8) v2.1)), (4, .v (.int .i64 v2.2))]) (by kernel_rfl) rfl rfl
   ⟨st_plain rfl (op_buildSlice _ _ 1 (.int .u8 0) (List.map (Value.int .u8) [1, 1, 0, 254, 255, 7]) [(0, .int .u8 1), (1, .int .u8 1), (2, .int .u8 0), (3, .int .u8 254), (4, .int .u8 255), (5, .int .u8 7)] Tryd.underlying22 sz5 zr5 (fun _ V w o a hv hes => by simp only [List.map_toArray, List.map_cons, List.map_nil]; try rfl) (litfill (by simp [Instr.fill, Value.cells]; rfl) (by simp [List.range, List.range.loop] <;> rfl)) (by simp [Value.oneCell']) rfl (by decide) (by decide) (by decide)),
   st_plain rfl (op_callG _ _ 57 11 _ _ rfl Tryd.call11 rfl rfl (fun _ h => h) (ok_grow_Grow mx [1, 1, 0, 254, 255, 7] 9 _ hv2) rfl rfl),
   st_plain rfl (op_move_take _ _ _ _ rfl),
   st_plain rfl (op_extract _ _ _ _ _ rfl rfl (Nat.le_of_ble_eq_true rfl) rfl rfl),
   st_plain rfl (op_extract _ _ _ _ _ rfl rfl (Nat.le_of_ble_eq_true rfl) rfl rfl),
   st_plain rfl (op_assign _ _ _ _ rfl rfl),
   st_plain rfl (op_assign _ _ _ _ rfl rfl),
   trivial⟩ ?_
  refine pt_then ?_
  refine ht_seq ?_
  obtain ⟨v3, hv3, h⟩ := bind_some h
  refine ht_seqR hn (El := [_, _, _, _, _, (20, .fl (.own 5) 1 (List.map (Value.int .u8) [3, 0])), (21, .tup [.v (.int .i64 v3.1), .v (.int .i64 v3.2)]), (19, .tup [.v (.int .i64 v3.1), .v (.int .i64 v3.2)]), (22, .v (.int .i64 v3.1)), (23, .v (.int .i64 v3.2)), (5, .v (.int .i64 v3.1)), (6, .v (.int .i64 v3.2))]) (init := [0, 1, 2, 3, 4]) (fin := [0, 1, 2, 3, 4, 10, 11]) (sps := [⟨[], [], [5], [(.slot 20)]⟩, ⟨[5, 0], [], [6], [(.slot 21)]⟩, ⟨[], [6], [7], [(.slot 19)]⟩, ⟨[7], [], [8], [(.slot 22)]⟩, ⟨[7], [], [9], [(.slot 23)]⟩, ⟨[8], [], [10], [(.slot 5)]⟩, ⟨[9], [], [11], [(.slot 6)]⟩]) (es' := [(_, _), (_, _), (_, _), (_, _), (_, _), (5, .v (.int .i64 v3.1)), (6, .v (.int .i64 v3.2))]) (by kernel_rfl) rfl rfl
   ⟨st_plain rfl (op_buildSlice _ _ 1 (.int .u8 0) (List.map (Value.int .u8) [3, 0]) [(0, .int .u8 3), (1, .int .u8 0)] Tryd.underlying22 sz5 zr5 (fun _ V w o a hv hes => by simp only [List.map_toArray, List.map_cons, List.map_nil]; try rfl) (litfill (by simp [Instr.fill, Value.cells]; rfl) (by simp [List.range, List.range.loop] <;> rfl)) (by simp [Value.oneCell']) rfl (by decide) (by decide) (by decide)),
   st_plain rfl (op_callG _ _ 57 12 _ _ rfl Tryd.call12 rfl rfl (fun _ h => h) (ok_grow_Blocks mx [3, 0] _ hv3) rfl rfl),
   st_plain rfl (op_move_take _ _ _ _ rfl),
   st_plain rfl (op_extract _ _ _ _ _ rfl rfl (Nat.le_of_ble_eq_true rfl) rfl rfl),
   st_plain rfl (op_extract _ _ _ _ _ rfl rfl (Nat.le_of_ble_eq_true rfl) rfl rfl),
   st_plain rfl (op_assign _ _ _ _ rfl rfl),
   st_plain rfl (op_assign _ _ _ _ rfl rfl),
   trivial⟩ ?_
  refine pt_then ?_
  refine ht_seq ?_
  obtain ⟨v4, hv4, h⟩ := bind_some h
  refine ht_seqR hn (El := [_, _, _, _, _, _, _, (25, .fl (.own 5) 1 (List.map (Value.int .u8) [7])), (26, .tup [.fl .ro 1 (List.map (Value.int .u8) v4.1), .v (.int .i64 v4.2)]), (24, .tup [.fl .ro 1 (List.map (Value.int .u8) v4.1), .v (.int .i64 v4.2)]), (27, .fl .ro 1 (List.map (Value.int .u8) v4.1)), (28, .v (.int .i64 v4.2)), (7, .fl .ro 1 (List.map (Value.int .u8) v4.1)), (8, .v (.int .i64 v4.2))]) (init := [0, 1, 2, 3, 4, 5, 6]) (fin := [0, 1, 2, 3, 4, 5, 6, 13]) (sps := [⟨[], [], [7], [(.slot 25)]⟩, ⟨[7, 0], [], [8], [(.slot 26)]⟩, ⟨[], [8], [9], [(.slot 24)]⟩, ⟨[9], [], [10], [(.slot 27)]⟩, ⟨[9], [], [11], [(.slot 28)]⟩, ⟨[10], [], [12], [(.slot 7)]⟩, ⟨[11], [], [13], [(.slot 8)]⟩]) (es' := [(_, _), (_, _), (_, _), (_, _), (_, _), (_, _), (_, _), (8, .v (.int .i64 v4.2))]) (by kernel_rfl) rfl rfl
   ⟨st_plain rfl (op_buildSlice _ _ 1 (.int .u8 0) (List.map (Value.int .u8) [7]) [(0, .int .u8 7)] Tryd.underlying22 sz5 zr5 (fun _ V w o a hv hes => by simp only [List.map_toArray, List.map_cons, List.map_nil]; try rfl) (litfill (by simp [Instr.fill, Value.cells]; rfl) (by simp [List.range, List.range.loop] <;> rfl)) (by simp [Value.oneCell']) rfl (by decide) (by decide) (by decide)),
   st_plain rfl (op_callG _ _ 57 11 _ _ rfl Tryd.call11 rfl rfl (fun _ h => h) (ok_grow_Grow mx [7] 9 _ hv4) rfl rfl),
   st_plain rfl (op_move_take _ _ _ _ rfl),
   st_plain rfl (op_extract _ _ _ _ _ rfl rfl (Nat.le_of_ble_eq_true rfl) rfl rfl),
   st_plain rfl (op_extract _ _ _ _ _ rfl rfl (Nat.le_of_ble_eq_true rfl) rfl rfl),
   st_plain rfl (op_assign _ _ _ _ rfl rfl),
   st_plain rfl (op_assign _ _ _ _ rfl rfl),
   trivial⟩ ?_
  refine pt_then ?_
  refine ht_seq ?_
  refine ht_joinS h (fun (s6 : Bool) => [(57, .glob (GL mx)), (0, .v (.bool s6))]) ?_ ?_
  ·rintro s6 h
   refine pt_then ?_
   refine ht_ret ?_
   refine pt_pick [1] (by kernel_rfl) (es' := [(_, _)]) rfl ?_
   obtain rfl := Option.some.inj h
   exact pt_ret hio rfl (.tmp _ _ .nil) rfl rfl
  ·intro u7 h hl8 hr9
   refine cond_some h (fun hg5_2 h => ?_) (fun hg5_2 h => ?_)
   ·refine cond_some h (fun hg5_6 h => ?_) (fun hg5_6 h => ?_)
    ·refine cond_some h (fun hg5_10 h => ?_) (fun hg5_10 h => ?_)
     ·refine cond_some h (fun hg5_14 h => ?_) (fun hg5_14 h => ?_)
      ·refine cond_some h (fun hg5_19 h => ?_) (fun hg5_19 h => ?_)
       ·obtain ⟨v5, hv5, h⟩ := bind_some h
        refine cond_some h (fun hg5_24 h => ?_) (fun hg5_24 h => ?_)
        ·refine ht_seqR hn (El := (_ :: _ :: _ :: _ :: _ :: _ :: _ :: _ :: (29, .v (.int .i64 v1.2)) :: (30, .v (.bool (v1.2 == 0))) :: (31, .v (.bool true)) :: (32, .v (.int .i64 v2.2)) :: (33, .v (.bool (v2.2 == 0))) :: (34, .v (.bool (v2.2 == 0))) :: (35, .v (.bool true)) :: (36, .v (.int .i64 v3.2)) :: (37, .v (.bool (v3.2 == 0))) :: (38, .v (.bool (v3.2 == 0))) :: (39, .v (.bool true)) :: (40, .v (.int .i64 v4.2)) :: (41, .v (.bool (v4.2 == 3))) :: (42, .v (.bool (v4.2 == 3))) :: (43, .v (.bool true)) :: (44, .fl .ro 1 (List.map (Value.int .u8) v1.1)) :: (45, .v (.int .i64 (v1.1.length : Int))) :: (46, .v (.bool (((v1.1.length : Int) == 0)))) :: (47, .v (.bool (((v1.1.length : Int) == 0)))) :: (48, .v (.bool true)) :: (49, .fl .ro 1 (List.map (Value.int .u8) v2.1)) :: (50, .fl (.own 5) 1 (List.map (Value.int .u8) [7])) :: (51, .v (.bool v5)) :: (52, .v (.bool v5)) :: (53, .v (.bool true)) :: (54, .v (.int .i64 v3.1)) :: (55, .v (.bool (v3.1 == 1))) :: (56, .v (.bool (v3.1 == 1))) :: (0, .v (.bool (v3.1 == 1))) :: [])) (init := [0, 1, 2, 3, 4, 5, 6, 7]) (fin := [0, 36]) (sps := (⟨[2], [], [8], [(.slot 29)]⟩ :: ⟨[8], [], [9], [(.slot 30)]⟩ :: ⟨[9], [], [10], [(.slot 31)]⟩ :: ⟨[10, 4], [], [11], [(.slot 32)]⟩ :: ⟨[10, 11], [], [12], [(.slot 33)]⟩ :: ⟨[10, 12], [], [13], [(.slot 34)]⟩ :: ⟨[13], [], [14], [(.slot 35)]⟩ :: ⟨[14, 6], [], [15], [(.slot 36)]⟩ :: ⟨[14, 15], [], [16], [(.slot 37)]⟩ :: ⟨[14, 16], [], [17], [(.slot 38)]⟩ :: ⟨[17], [], [18], [(.slot 39)]⟩ :: ⟨[18, 7], [], [19], [(.slot 40)]⟩ :: ⟨[18, 19], [], [20], [(.slot 41)]⟩ :: ⟨[18, 20], [], [21], [(.slot 42)]⟩ :: ⟨[21], [], [22], [(.slot 43)]⟩ :: ⟨[22, 1], [], [23], [(.slot 44)]⟩ :: ⟨[22, 23], [], [24], [(.slot 45)]⟩ :: ⟨[22, 24], [], [25], [(.slot 46)]⟩ :: ⟨[22, 25], [], [26], [(.slot 47)]⟩ :: ⟨[26], [], [27], [(.slot 48)]⟩ :: ⟨[27, 3], [], [28], [(.slot 49)]⟩ :: ⟨[27], [], [29], [(.slot 50)]⟩ :: ⟨[27, 28, 29], [], [30], [(.slot 51)]⟩ :: ⟨[27, 30], [], [31], [(.slot 52)]⟩ :: ⟨[31], [], [32], [(.slot 53)]⟩ :: ⟨[32, 5], [], [33], [(.slot 54)]⟩ :: ⟨[32, 33], [], [34], [(.slot 55)]⟩ :: ⟨[32, 34], [], [35], [(.slot 56)]⟩ :: ⟨[35], [], [36], [(.slot 0)]⟩ :: [])) (es' := [(_, _), (0, .v (.bool (v3.1 == 1)))]) (by kernel_rfl) rfl rfl
          ⟨st_plain rfl (op_move _ _ _ _ rfl rfl),
          st_plain rfl (op_bin _ _ _ _ _ rfl rfl rfl),
          st_plain rfl (op_move _ _ _ _ (congrArg (fun b => AV.v (Value.bool b)) hg5_2) rfl),
          st_run 2 31 true rfl rfl rfl (List.Mem.head _) (op_move _ _ _ _ rfl rfl),
          st_run 2 31 true rfl rfl rfl (List.Mem.head _) (op_bin _ _ _ _ _ rfl rfl rfl),
          st_plain rfl (op_pick _ _ true _ rfl rfl),
          st_plain rfl (op_move _ _ _ _ (congrArg (fun b => AV.v (Value.bool b)) hg5_6) rfl),
          st_run 6 35 true rfl rfl rfl (List.Mem.head _) (op_move _ _ _ _ rfl rfl),
          st_run 6 35 true rfl rfl rfl (List.Mem.head _) (op_bin _ _ _ _ _ rfl rfl rfl),
          st_plain rfl (op_pick _ _ true _ rfl rfl),
          st_plain rfl (op_move _ _ _ _ (congrArg (fun b => AV.v (Value.bool b)) hg5_10) rfl),
          st_run 10 39 true rfl rfl rfl (List.Mem.head _) (op_move _ _ _ _ rfl rfl),
          st_run 10 39 true rfl rfl rfl (List.Mem.head _) (op_bin _ _ _ _ _ rfl rfl rfl),
          st_plain rfl (op_pick _ _ true _ rfl rfl),
          st_plain rfl (op_move _ _ _ _ (congrArg (fun b => AV.v (Value.bool b)) hg5_14) rfl),
          st_run 14 43 true rfl rfl rfl (List.Mem.head _) (op_move _ _ _ _ rfl rfl),
          st_run 14 43 true rfl rfl rfl (List.Mem.head _) (op_len_fl _ _ _ Tryd.underlying22 rfl (by decide) (map_len _)),
          st_run 14 43 true rfl rfl rfl (List.Mem.head _) (op_bin _ _ _ _ _ rfl rfl rfl),
          st_plain rfl (op_pick _ _ true _ rfl rfl),
          st_plain rfl (op_move _ _ _ _ (congrArg (fun b => AV.v (Value.bool b)) hg5_19) rfl),
          st_run 19 48 true rfl rfl rfl (List.Mem.head _) (op_move _ _ _ _ rfl rfl),
          st_run 19 48 true rfl rfl rfl (List.Mem.head _) (op_buildSlice _ _ 1 (.int .u8 0) (List.map (Value.int .u8) [7]) [(0, .int .u8 7)] Tryd.underlying22 sz5 zr5 (fun _ V w o a hv hes => by simp only [List.map_toArray, List.map_cons, List.map_nil]; try rfl) (litfill (by simp [Instr.fill, Value.cells]; rfl) (by simp [List.range, List.range.loop] <;> rfl)) (by simp [Value.oneCell']) rfl (by decide) (by decide) (by decide)),
          st_run 19 48 true rfl rfl rfl (List.Mem.head _) (op_call _ _ 13 _ _ rfl Tryd.call13 rfl (ok_wherrykeep_Bytes v2.1 [7] _ hv5) rfl rfl),
          st_plain rfl (op_pick _ _ true _ rfl rfl),
          st_plain rfl (op_move _ _ _ _ (congrArg (fun b => AV.v (Value.bool b)) hg5_24) rfl),
          st_run 24 53 true rfl rfl rfl (List.Mem.head _) (op_move _ _ _ _ rfl rfl),
          st_run 24 53 true rfl rfl rfl (List.Mem.head _) (op_bin _ _ _ _ _ rfl rfl rfl),
          st_plain rfl (op_pick _ _ true _ rfl rfl),
          st_plain rfl (op_assign _ _ _ _ rfl rfl),
          trivial⟩ ?_
         exact hl8 _ (Option.some.inj h).symm
        ·refine ht_seqR hn (El := (_ :: _ :: _ :: _ :: _ :: _ :: _ :: _ :: (29, .v (.int .i64 v1.2)) :: (30, .v (.bool (v1.2 == 0))) :: (31, .v (.bool true)) :: (32, .v (.int .i64 v2.2)) :: (33, .v (.bool (v2.2 == 0))) :: (34, .v (.bool (v2.2 == 0))) :: (35, .v (.bool true)) :: (36, .v (.int .i64 v3.2)) :: (37, .v (.bool (v3.2 == 0))) :: (38, .v (.bool (v3.2 == 0))) :: (39, .v (.bool true)) :: (40, .v (.int .i64 v4.2)) :: (41, .v (.bool (v4.2 == 3))) :: (42, .v (.bool (v4.2 == 3))) :: (43, .v (.bool true)) :: (44, .fl .ro 1 (List.map (Value.int .u8) v1.1)) :: (45, .v (.int .i64 (v1.1.length : Int))) :: (46, .v (.bool (((v1.1.length : Int) == 0)))) :: (47, .v (.bool (((v1.1.length : Int) == 0)))) :: (48, .v (.bool true)) :: (49, .fl .ro 1 (List.map (Value.int .u8) v2.1)) :: (50, .fl (.own 5) 1 (List.map (Value.int .u8) [7])) :: (51, .v (.bool v5)) :: (52, .v (.bool v5)) :: (53, .v (.bool false)) :: (54, .v undef) :: (55, .v undef) :: (56, .v (.bool false)) :: (0, .v (.bool false)) :: [])) (init := [0, 1, 2, 3, 4, 5, 6, 7]) (fin := [0, 36]) (sps := (⟨[2], [], [8], [(.slot 29)]⟩ :: ⟨[8], [], [9], [(.slot 30)]⟩ :: ⟨[9], [], [10], [(.slot 31)]⟩ :: ⟨[10, 4], [], [11], [(.slot 32)]⟩ :: ⟨[10, 11], [], [12], [(.slot 33)]⟩ :: ⟨[10, 12], [], [13], [(.slot 34)]⟩ :: ⟨[13], [], [14], [(.slot 35)]⟩ :: ⟨[14, 6], [], [15], [(.slot 36)]⟩ :: ⟨[14, 15], [], [16], [(.slot 37)]⟩ :: ⟨[14, 16], [], [17], [(.slot 38)]⟩ :: ⟨[17], [], [18], [(.slot 39)]⟩ :: ⟨[18, 7], [], [19], [(.slot 40)]⟩ :: ⟨[18, 19], [], [20], [(.slot 41)]⟩ :: ⟨[18, 20], [], [21], [(.slot 42)]⟩ :: ⟨[21], [], [22], [(.slot 43)]⟩ :: ⟨[22, 1], [], [23], [(.slot 44)]⟩ :: ⟨[22, 23], [], [24], [(.slot 45)]⟩ :: ⟨[22, 24], [], [25], [(.slot 46)]⟩ :: ⟨[22, 25], [], [26], [(.slot 47)]⟩ :: ⟨[26], [], [27], [(.slot 48)]⟩ :: ⟨[27, 3], [], [28], [(.slot 49)]⟩ :: ⟨[27], [], [29], [(.slot 50)]⟩ :: ⟨[27, 28, 29], [], [30], [(.slot 51)]⟩ :: ⟨[27, 30], [], [31], [(.slot 52)]⟩ :: ⟨[31], [], [32], [(.slot 53)]⟩ :: ⟨[32], [], [33], [(.slot 54)]⟩ :: ⟨[32], [], [34], [(.slot 55)]⟩ :: ⟨[32], [], [35], [(.slot 56)]⟩ :: ⟨[35], [], [36], [(.slot 0)]⟩ :: [])) (es' := [(_, _), (0, .v (.bool false))]) (by kernel_rfl) rfl rfl
          ⟨st_plain rfl (op_move _ _ _ _ rfl rfl),
          st_plain rfl (op_bin _ _ _ _ _ rfl rfl rfl),
          st_plain rfl (op_move _ _ _ _ (congrArg (fun b => AV.v (Value.bool b)) hg5_2) rfl),
          st_run 2 31 true rfl rfl rfl (List.Mem.head _) (op_move _ _ _ _ rfl rfl),
          st_run 2 31 true rfl rfl rfl (List.Mem.head _) (op_bin _ _ _ _ _ rfl rfl rfl),
          st_plain rfl (op_pick _ _ true _ rfl rfl),
          st_plain rfl (op_move _ _ _ _ (congrArg (fun b => AV.v (Value.bool b)) hg5_6) rfl),
          st_run 6 35 true rfl rfl rfl (List.Mem.head _) (op_move _ _ _ _ rfl rfl),
          st_run 6 35 true rfl rfl rfl (List.Mem.head _) (op_bin _ _ _ _ _ rfl rfl rfl),
          st_plain rfl (op_pick _ _ true _ rfl rfl),
          st_plain rfl (op_move _ _ _ _ (congrArg (fun b => AV.v (Value.bool b)) hg5_10) rfl),
          st_run 10 39 true rfl rfl rfl (List.Mem.head _) (op_move _ _ _ _ rfl rfl),
          st_run 10 39 true rfl rfl rfl (List.Mem.head _) (op_bin _ _ _ _ _ rfl rfl rfl),
          st_plain rfl (op_pick _ _ true _ rfl rfl),
          st_plain rfl (op_move _ _ _ _ (congrArg (fun b => AV.v (Value.bool b)) hg5_14) rfl),
          st_run 14 43 true rfl rfl rfl (List.Mem.head _) (op_move _ _ _ _ rfl rfl),
          st_run 14 43 true rfl rfl rfl (List.Mem.head _) (op_len_fl _ _ _ Tryd.underlying22 rfl (by decide) (map_len _)),
          st_run 14 43 true rfl rfl rfl (List.Mem.head _) (op_bin _ _ _ _ _ rfl rfl rfl),
          st_plain rfl (op_pick _ _ true _ rfl rfl),
          st_plain rfl (op_move _ _ _ _ (congrArg (fun b => AV.v (Value.bool b)) hg5_19) rfl),
          st_run 19 48 true rfl rfl rfl (List.Mem.head _) (op_move _ _ _ _ rfl rfl),
          st_run 19 48 true rfl rfl rfl (List.Mem.head _) (op_buildSlice _ _ 1 (.int .u8 0) (List.map (Value.int .u8) [7]) [(0, .int .u8 7)] Tryd.underlying22 sz5 zr5 (fun _ V w o a hv hes => by simp only [List.map_toArray, List.map_cons, List.map_nil]; try rfl) (litfill (by simp [Instr.fill, Value.cells]; rfl) (by simp [List.range, List.range.loop] <;> rfl)) (by simp [Value.oneCell']) rfl (by decide) (by decide) (by decide)),
          st_run 19 48 true rfl rfl rfl (List.Mem.head _) (op_call _ _ 13 _ _ rfl Tryd.call13 rfl (ok_wherrykeep_Bytes v2.1 [7] _ hv5) rfl rfl),
          st_plain rfl (op_pick _ _ true _ rfl rfl),
          st_plain rfl (op_move _ _ _ _ (congrArg (fun b => AV.v (Value.bool b)) hg5_24) rfl),
          st_skip 24 53 _ true rfl rfl rfl rfl (List.Mem.head _),
          st_skip 24 53 _ true rfl rfl rfl rfl (List.Mem.head _),
          st_plain rfl (op_pick _ _ false _ rfl rfl),
          st_plain rfl (op_assign _ _ _ _ rfl rfl),
          trivial⟩ ?_
         exact hl8 _ (Option.some.inj h).symm
       ·refine ht_seqR hn (El := (_ :: _ :: _ :: _ :: _ :: _ :: _ :: _ :: (29, .v (.int .i64 v1.2)) :: (30, .v (.bool (v1.2 == 0))) :: (31, .v (.bool true)) :: (32, .v (.int .i64 v2.2)) :: (33, .v (.bool (v2.2 == 0))) :: (34, .v (.bool (v2.2 == 0))) :: (35, .v (.bool true)) :: (36, .v (.int .i64 v3.2)) :: (37, .v (.bool (v3.2 == 0))) :: (38, .v (.bool (v3.2 == 0))) :: (39, .v (.bool true)) :: (40, .v (.int .i64 v4.2)) :: (41, .v (.bool (v4.2 == 3))) :: (42, .v (.bool (v4.2 == 3))) :: (43, .v (.bool true)) :: (44, .fl .ro 1 (List.map (Value.int .u8) v1.1)) :: (45, .v (.int .i64 (v1.1.length : Int))) :: (46, .v (.bool (((v1.1.length : Int) == 0)))) :: (47, .v (.bool (((v1.1.length : Int) == 0)))) :: (48, .v (.bool false)) :: (49, .v undef) :: (50, .v undef) :: (51, .v undef) :: (52, .v (.bool false)) :: (53, .v (.bool false)) :: (54, .v undef) :: (55, .v undef) :: (56, .v (.bool false)) :: (0, .v (.bool false)) :: [])) (init := [0, 1, 2, 3, 4, 5, 6, 7]) (fin := [0, 36]) (sps := (⟨[2], [], [8], [(.slot 29)]⟩ :: ⟨[8], [], [9], [(.slot 30)]⟩ :: ⟨[9], [], [10], [(.slot 31)]⟩ :: ⟨[10, 4], [], [11], [(.slot 32)]⟩ :: ⟨[10, 11], [], [12], [(.slot 33)]⟩ :: ⟨[10, 12], [], [13], [(.slot 34)]⟩ :: ⟨[13], [], [14], [(.slot 35)]⟩ :: ⟨[14, 6], [], [15], [(.slot 36)]⟩ :: ⟨[14, 15], [], [16], [(.slot 37)]⟩ :: ⟨[14, 16], [], [17], [(.slot 38)]⟩ :: ⟨[17], [], [18], [(.slot 39)]⟩ :: ⟨[18, 7], [], [19], [(.slot 40)]⟩ :: ⟨[18, 19], [], [20], [(.slot 41)]⟩ :: ⟨[18, 20], [], [21], [(.slot 42)]⟩ :: ⟨[21], [], [22], [(.slot 43)]⟩ :: ⟨[22, 1], [], [23], [(.slot 44)]⟩ :: ⟨[22, 23], [], [24], [(.slot 45)]⟩ :: ⟨[22, 24], [], [25], [(.slot 46)]⟩ :: ⟨[22, 25], [], [26], [(.slot 47)]⟩ :: ⟨[26], [], [27], [(.slot 48)]⟩ :: ⟨[27], [], [28], [(.slot 49)]⟩ :: ⟨[27], [], [29], [(.slot 50)]⟩ :: ⟨[27], [], [30], [(.slot 51)]⟩ :: ⟨[27], [], [31], [(.slot 52)]⟩ :: ⟨[31], [], [32], [(.slot 53)]⟩ :: ⟨[32], [], [33], [(.slot 54)]⟩ :: ⟨[32], [], [34], [(.slot 55)]⟩ :: ⟨[32], [], [35], [(.slot 56)]⟩ :: ⟨[35], [], [36], [(.slot 0)]⟩ :: [])) (es' := [(_, _), (0, .v (.bool false))]) (by kernel_rfl) rfl rfl
         ⟨st_plain rfl (op_move _ _ _ _ rfl rfl),
         st_plain rfl (op_bin _ _ _ _ _ rfl rfl rfl),
         st_plain rfl (op_move _ _ _ _ (congrArg (fun b => AV.v (Value.bool b)) hg5_2) rfl),
         st_run 2 31 true rfl rfl rfl (List.Mem.head _) (op_move _ _ _ _ rfl rfl),
         st_run 2 31 true rfl rfl rfl (List.Mem.head _) (op_bin _ _ _ _ _ rfl rfl rfl),
         st_plain rfl (op_pick _ _ true _ rfl rfl),
         st_plain rfl (op_move _ _ _ _ (congrArg (fun b => AV.v (Value.bool b)) hg5_6) rfl),
         st_run 6 35 true rfl rfl rfl (List.Mem.head _) (op_move _ _ _ _ rfl rfl),
         st_run 6 35 true rfl rfl rfl (List.Mem.head _) (op_bin _ _ _ _ _ rfl rfl rfl),
         st_plain rfl (op_pick _ _ true _ rfl rfl),
         st_plain rfl (op_move _ _ _ _ (congrArg (fun b => AV.v (Value.bool b)) hg5_10) rfl),
         st_run 10 39 true rfl rfl rfl (List.Mem.head _) (op_move _ _ _ _ rfl rfl),
         st_run 10 39 true rfl rfl rfl (List.Mem.head _) (op_bin _ _ _ _ _ rfl rfl rfl),
         st_plain rfl (op_pick _ _ true _ rfl rfl),
         st_plain rfl (op_move _ _ _ _ (congrArg (fun b => AV.v (Value.bool b)) hg5_14) rfl),
         st_run 14 43 true rfl rfl rfl (List.Mem.head _) (op_move _ _ _ _ rfl rfl),
         st_run 14 43 true rfl rfl rfl (List.Mem.head _) (op_len_fl _ _ _ Tryd.underlying22 rfl (by decide) (map_len _)),
         st_run 14 43 true rfl rfl rfl (List.Mem.head _) (op_bin _ _ _ _ _ rfl rfl rfl),
         st_plain rfl (op_pick _ _ true _ rfl rfl),
         st_plain rfl (op_move _ _ _ _ (congrArg (fun b => AV.v (Value.bool b)) hg5_19) rfl),
         st_skip 19 48 _ true rfl rfl rfl rfl (List.Mem.head _),
         st_skip 19 48 _ true rfl rfl rfl rfl (List.Mem.head _),
         st_skip 19 48 _ true rfl rfl rfl rfl (List.Mem.head _),
         st_plain rfl (op_pick _ _ false _ rfl rfl),
         st_plain rfl (op_move _ _ _ _ rfl rfl),
         st_skip 24 53 _ true rfl rfl rfl rfl (List.Mem.head _),
         st_skip 24 53 _ true rfl rfl rfl rfl (List.Mem.head _),
         st_plain rfl (op_pick _ _ false _ rfl rfl),
         st_plain rfl (op_assign _ _ _ _ rfl rfl),
         trivial⟩ ?_
        exact hl8 _ (Option.some.inj h).symm
      ·refine ht_seqR hn (El := (_ :: _ :: _ :: _ :: _ :: _ :: _ :: _ :: (29, .v (.int .i64 v1.2)) :: (30, .v (.bool (v1.2 == 0))) :: (31, .v (.bool true)) :: (32, .v (.int .i64 v2.2)) :: (33, .v (.bool (v2.2 == 0))) :: (34, .v (.bool (v2.2 == 0))) :: (35, .v (.bool true)) :: (36, .v (.int .i64 v3.2)) :: (37, .v (.bool (v3.2 == 0))) :: (38, .v (.bool (v3.2 == 0))) :: (39, .v (.bool true)) :: (40, .v (.int .i64 v4.2)) :: (41, .v (.bool (v4.2 == 3))) :: (42, .v (.bool (v4.2 == 3))) :: (43, .v (.bool false)) :: (44, .v undef) :: (45, .v undef) :: (46, .v undef) :: (47, .v (.bool false)) :: (48, .v (.bool false)) :: (49, .v undef) :: (50, .v undef) :: (51, .v undef) :: (52, .v (.bool false)) :: (53, .v (.bool false)) :: (54, .v undef) :: (55, .v undef) :: (56, .v (.bool false)) :: (0, .v (.bool false)) :: [])) (init := [0, 1, 2, 3, 4, 5, 6, 7]) (fin := [0, 36]) (sps := (⟨[2], [], [8], [(.slot 29)]⟩ :: ⟨[8], [], [9], [(.slot 30)]⟩ :: ⟨[9], [], [10], [(.slot 31)]⟩ :: ⟨[10, 4], [], [11], [(.slot 32)]⟩ :: ⟨[10, 11], [], [12], [(.slot 33)]⟩ :: ⟨[10, 12], [], [13], [(.slot 34)]⟩ :: ⟨[13], [], [14], [(.slot 35)]⟩ :: ⟨[14, 6], [], [15], [(.slot 36)]⟩ :: ⟨[14, 15], [], [16], [(.slot 37)]⟩ :: ⟨[14, 16], [], [17], [(.slot 38)]⟩ :: ⟨[17], [], [18], [(.slot 39)]⟩ :: ⟨[18, 7], [], [19], [(.slot 40)]⟩ :: ⟨[18, 19], [], [20], [(.slot 41)]⟩ :: ⟨[18, 20], [], [21], [(.slot 42)]⟩ :: ⟨[21], [], [22], [(.slot 43)]⟩ :: ⟨[22], [], [23], [(.slot 44)]⟩ :: ⟨[22], [], [24], [(.slot 45)]⟩ :: ⟨[22], [], [25], [(.slot 46)]⟩ :: ⟨[22], [], [26], [(.slot 47)]⟩ :: ⟨[26], [], [27], [(.slot 48)]⟩ :: ⟨[27], [], [28], [(.slot 49)]⟩ :: ⟨[27], [], [29], [(.slot 50)]⟩ :: ⟨[27], [], [30], [(.slot 51)]⟩ :: ⟨[27], [], [31], [(.slot 52)]⟩ :: ⟨[31], [], [32], [(.slot 53)]⟩ :: ⟨[32], [], [33], [(.slot 54)]⟩ :: ⟨[32], [], [34], [(.slot 55)]⟩ :: ⟨[32], [], [35], [(.slot 56)]⟩ :: ⟨[35], [], [36], [(.slot 0)]⟩ :: [])) (es' := [(_, _), (0, .v (.bool false))]) (by kernel_rfl) rfl rfl
        ⟨st_plain rfl (op_move _ _ _ _ rfl rfl),
        st_plain rfl (op_bin _ _ _ _ _ rfl rfl rfl),
        st_plain rfl (op_move _ _ _ _ (congrArg (fun b => AV.v (Value.bool b)) hg5_2) rfl),
        st_run 2 31 true rfl rfl rfl (List.Mem.head _) (op_move _ _ _ _ rfl rfl),
        st_run 2 31 true rfl rfl rfl (List.Mem.head _) (op_bin _ _ _ _ _ rfl rfl rfl),
        st_plain rfl (op_pick _ _ true _ rfl rfl),
        st_plain rfl (op_move _ _ _ _ (congrArg (fun b => AV.v (Value.bool b)) hg5_6) rfl),
        st_run 6 35 true rfl rfl rfl (List.Mem.head _) (op_move _ _ _ _ rfl rfl),
        st_run 6 35 true rfl rfl rfl (List.Mem.head _) (op_bin _ _ _ _ _ rfl rfl rfl),
        st_plain rfl (op_pick _ _ true _ rfl rfl),
        st_plain rfl (op_move _ _ _ _ (congrArg (fun b => AV.v (Value.bool b)) hg5_10) rfl),
        st_run 10 39 true rfl rfl rfl (List.Mem.head _) (op_move _ _ _ _ rfl rfl),
        st_run 10 39 true rfl rfl rfl (List.Mem.head _) (op_bin _ _ _ _ _ rfl rfl rfl),
        st_plain rfl (op_pick _ _ true _ rfl rfl),
        st_plain rfl (op_move _ _ _ _ (congrArg (fun b => AV.v (Value.bool b)) hg5_14) rfl),
        st_skip 14 43 _ true rfl rfl rfl rfl (List.Mem.head _),
        st_skip 14 43 _ true rfl rfl rfl rfl (List.Mem.head _),
        st_skip 14 43 _ true rfl rfl rfl rfl (List.Mem.head _),
        st_plain rfl (op_pick _ _ false _ rfl rfl),
        st_plain rfl (op_move _ _ _ _ rfl rfl),
        st_skip 19 48 _ true rfl rfl rfl rfl (List.Mem.head _),
        st_skip 19 48 _ true rfl rfl rfl rfl (List.Mem.head _),
        st_skip 19 48 _ true rfl rfl rfl rfl (List.Mem.head _),
        st_plain rfl (op_pick _ _ false _ rfl rfl),
        st_plain rfl (op_move _ _ _ _ rfl rfl),
        st_skip 24 53 _ true rfl rfl rfl rfl (List.Mem.head _),
        st_skip 24 53 _ true rfl rfl rfl rfl (List.Mem.head _),
        st_plain rfl (op_pick _ _ false _ rfl rfl),
        st_plain rfl (op_assign _ _ _ _ rfl rfl),
        trivial⟩ ?_
       exact hl8 _ (Option.some.inj h).symm
     ·refine ht_seqR hn (El := (_ :: _ :: _ :: _ :: _ :: _ :: _ :: _ :: (29, .v (.int .i64 v1.2)) :: (30, .v (.bool (v1.2 == 0))) :: (31, .v (.bool true)) :: (32, .v (.int .i64 v2.2)) :: (33, .v (.bool (v2.2 == 0))) :: (34, .v (.bool (v2.2 == 0))) :: (35, .v (.bool true)) :: (36, .v (.int .i64 v3.2)) :: (37, .v (.bool (v3.2 == 0))) :: (38, .v (.bool (v3.2 == 0))) :: (39, .v (.bool false)) :: (40, .v undef) :: (41, .v undef) :: (42, .v (.bool false)) :: (43, .v (.bool false)) :: (44, .v undef) :: (45, .v undef) :: (46, .v undef) :: (47, .v (.bool false)) :: (48, .v (.bool false)) :: (49, .v undef) :: (50, .v undef) :: (51, .v undef) :: (52, .v (.bool false)) :: (53, .v (.bool false)) :: (54, .v undef) :: (55, .v undef) :: (56, .v (.bool false)) :: (0, .v (.bool false)) :: [])) (init := [0, 1, 2, 3, 4, 5, 6, 7]) (fin := [0, 36]) (sps := (⟨[2], [], [8], [(.slot 29)]⟩ :: ⟨[8], [], [9], [(.slot 30)]⟩ :: ⟨[9], [], [10], [(.slot 31)]⟩ :: ⟨[10, 4], [], [11], [(.slot 32)]⟩ :: ⟨[10, 11], [], [12], [(.slot 33)]⟩ :: ⟨[10, 12], [], [13], [(.slot 34)]⟩ :: ⟨[13], [], [14], [(.slot 35)]⟩ :: ⟨[14, 6], [], [15], [(.slot 36)]⟩ :: ⟨[14, 15], [], [16], [(.slot 37)]⟩ :: ⟨[14, 16], [], [17], [(.slot 38)]⟩ :: ⟨[17], [], [18], [(.slot 39)]⟩ :: ⟨[18], [], [19], [(.slot 40)]⟩ :: ⟨[18], [], [20], [(.slot 41)]⟩ :: ⟨[18], [], [21], [(.slot 42)]⟩ :: ⟨[21], [], [22], [(.slot 43)]⟩ :: ⟨[22], [], [23], [(.slot 44)]⟩ :: ⟨[22], [], [24], [(.slot 45)]⟩ :: ⟨[22], [], [25], [(.slot 46)]⟩ :: ⟨[22], [], [26], [(.slot 47)]⟩ :: ⟨[26], [], [27], [(.slot 48)]⟩ :: ⟨[27], [], [28], [(.slot 49)]⟩ :: ⟨[27], [], [29], [(.slot 50)]⟩ :: ⟨[27], [], [30], [(.slot 51)]⟩ :: ⟨[27], [], [31], [(.slot 52)]⟩ :: ⟨[31], [], [32], [(.slot 53)]⟩ :: ⟨[32], [], [33], [(.slot 54)]⟩ :: ⟨[32], [], [34], [(.slot 55)]⟩ :: ⟨[32], [], [35], [(.slot 56)]⟩ :: ⟨[35], [], [36], [(.slot 0)]⟩ :: [])) (es' := [(_, _), (0, .v (.bool false))]) (by kernel_rfl) rfl rfl
       ⟨st_plain rfl (op_move _ _ _ _ rfl rfl),
       st_plain rfl (op_bin _ _ _ _ _ rfl rfl rfl),
       st_plain rfl (op_move _ _ _ _ (congrArg (fun b => AV.v (Value.bool b)) hg5_2) rfl),
       st_run 2 31 true rfl rfl rfl (List.Mem.head _) (op_move _ _ _ _ rfl rfl),
       st_run 2 31 true rfl rfl rfl (List.Mem.head _) (op_bin _ _ _ _ _ rfl rfl rfl),
       st_plain rfl (op_pick _ _ true _ rfl rfl),
       st_plain rfl (op_move _ _ _ _ (congrArg (fun b => AV.v (Value.bool b)) hg5_6) rfl),
       st_run 6 35 true rfl rfl rfl (List.Mem.head _) (op_move _ _ _ _ rfl rfl),
       st_run 6 35 true rfl rfl rfl (List.Mem.head _) (op_bin _ _ _ _ _ rfl rfl rfl),
       st_plain rfl (op_pick _ _ true _ rfl rfl),
       st_plain rfl (op_move _ _ _ _ (congrArg (fun b => AV.v (Value.bool b)) hg5_10) rfl),
       st_skip 10 39 _ true rfl rfl rfl rfl (List.Mem.head _),
       st_skip 10 39 _ true rfl rfl rfl rfl (List.Mem.head _),
       st_plain rfl (op_pick _ _ false _ rfl rfl),
       st_plain rfl (op_move _ _ _ _ rfl rfl),
       st_skip 14 43 _ true rfl rfl rfl rfl (List.Mem.head _),
       st_skip 14 43 _ true rfl rfl rfl rfl (List.Mem.head _),
       st_skip 14 43 _ true rfl rfl rfl rfl (List.Mem.head _),
       st_plain rfl (op_pick _ _ false _ rfl rfl),
       st_plain rfl (op_move _ _ _ _ rfl rfl),
       st_skip 19 48 _ true rfl rfl rfl rfl (List.Mem.head _),
       st_skip 19 48 _ true rfl rfl rfl rfl (List.Mem.head _),
       st_skip 19 48 _ true rfl rfl rfl rfl (List.Mem.head _),
       st_plain rfl (op_pick _ _ false _ rfl rfl),
       st_plain rfl (op_move _ _ _ _ rfl rfl),
       st_skip 24 53 _ true rfl rfl rfl rfl (List.Mem.head _),
       st_skip 24 53 _ true rfl rfl rfl rfl (List.Mem.head _),
       st_plain rfl (op_pick _ _ false _ rfl rfl),
       st_plain rfl (op_assign _ _ _ _ rfl rfl),
       trivial⟩ ?_
      exact hl8 _ (Option.some.inj h).symm
    ·refine ht_seqR hn (El := (_ :: _ :: _ :: _ :: _ :: _ :: _ :: _ :: (29, .v (.int .i64 v1.2)) :: (30, .v (.bool (v1.2 == 0))) :: (31, .v (.bool true)) :: (32, .v (.int .i64 v2.2)) :: (33, .v (.bool (v2.2 == 0))) :: (34, .v (.bool (v2.2 == 0))) :: (35, .v (.bool false)) :: (36, .v undef) :: (37, .v undef) :: (38, .v (.bool false)) :: (39, .v (.bool false)) :: (40, .v undef) :: (41, .v undef) :: (42, .v (.bool false)) :: (43, .v (.bool false)) :: (44, .v undef) :: (45, .v undef) :: (46, .v undef) :: (47, .v (.bool false)) :: (48, .v (.bool false)) :: (49, .v undef) :: (50, .v undef) :: (51, .v undef) :: (52, .v (.bool false)) :: (53, .v (.bool false)) :: (54, .v undef) :: (55, .v undef) :: (56, .v (.bool false)) :: (0, .v (.bool false)) :: [])) (init := [0, 1, 2, 3, 4, 5, 6, 7]) (fin := [0, 36]) (sps := (⟨[2], [], [8], [(.slot 29)]⟩ :: ⟨[8], [], [9], [(.slot 30)]⟩ :: ⟨[9], [], [10], [(.slot 31)]⟩ :: ⟨[10, 4], [], [11], [(.slot 32)]⟩ :: ⟨[10, 11], [], [12], [(.slot 33)]⟩ :: ⟨[10, 12], [], [13], [(.slot 34)]⟩ :: ⟨[13], [], [14], [(.slot 35)]⟩ :: ⟨[14], [], [15], [(.slot 36)]⟩ :: ⟨[14], [], [16], [(.slot 37)]⟩ :: ⟨[14], [], [17], [(.slot 38)]⟩ :: ⟨[17], [], [18], [(.slot 39)]⟩ :: ⟨[18], [], [19], [(.slot 40)]⟩ :: ⟨[18], [], [20], [(.slot 41)]⟩ :: ⟨[18], [], [21], [(.slot 42)]⟩ :: ⟨[21], [], [22], [(.slot 43)]⟩ :: ⟨[22], [], [23], [(.slot 44)]⟩ :: ⟨[22], [], [24], [(.slot 45)]⟩ :: ⟨[22], [], [25], [(.slot 46)]⟩ :: ⟨[22], [], [26], [(.slot 47)]⟩ :: ⟨[26], [], [27], [(.slot 48)]⟩ :: ⟨[27], [], [28], [(.slot 49)]⟩ :: ⟨[27], [], [29], [(.slot 50)]⟩ :: ⟨[27], [], [30], [(.slot 51)]⟩ :: ⟨[27], [], [31], [(.slot 52)]⟩ :: ⟨[31], [], [32], [(.slot 53)]⟩ :: ⟨[32], [], [33], [(.slot 54)]⟩ :: ⟨[32], [], [34], [(.slot 55)]⟩ :: ⟨[32], [], [35], [(.slot 56)]⟩ :: ⟨[35], [], [36], [(.slot 0)]⟩ :: [])) (es' := [(_, _), (0, .v (.bool false))]) (by kernel_rfl) rfl rfl
      ⟨st_plain rfl (op_move _ _ _ _ rfl rfl),
      st_plain rfl (op_bin _ _ _ _ _ rfl rfl rfl),
      st_plain rfl (op_move _ _ _ _ (congrArg (fun b => AV.v (Value.bool b)) hg5_2) rfl),
      st_run 2 31 true rfl rfl rfl (List.Mem.head _) (op_move _ _ _ _ rfl rfl),
      st_run 2 31 true rfl rfl rfl (List.Mem.head _) (op_bin _ _ _ _ _ rfl rfl rfl),
      st_plain rfl (op_pick _ _ true _ rfl rfl),
      st_plain rfl (op_move _ _ _ _ (congrArg (fun b => AV.v (Value.bool b)) hg5_6) rfl),
      st_skip 6 35 _ true rfl rfl rfl rfl (List.Mem.head _),
      st_skip 6 35 _ true rfl rfl rfl rfl (List.Mem.head _),
      st_plain rfl (op_pick _ _ false _ rfl rfl),
      st_plain rfl (op_move _ _ _ _ rfl rfl),
      st_skip 10 39 _ true rfl rfl rfl rfl (List.Mem.head _),
      st_skip 10 39 _ true rfl rfl rfl rfl (List.Mem.head _),
      st_plain rfl (op_pick _ _ false _ rfl rfl),
      st_plain rfl (op_move _ _ _ _ rfl rfl),
      st_skip 14 43 _ true rfl rfl rfl rfl (List.Mem.head _),
      st_skip 14 43 _ true rfl rfl rfl rfl (List.Mem.head _),
      st_skip 14 43 _ true rfl rfl rfl rfl (List.Mem.head _),
      st_plain rfl (op_pick _ _ false _ rfl rfl),
      st_plain rfl (op_move _ _ _ _ rfl rfl),
      st_skip 19 48 _ true rfl rfl rfl rfl (List.Mem.head _),
      st_skip 19 48 _ true rfl rfl rfl rfl (List.Mem.head _),
      st_skip 19 48 _ true rfl rfl rfl rfl (List.Mem.head _),
      st_plain rfl (op_pick _ _ false _ rfl rfl),
      st_plain rfl (op_move _ _ _ _ rfl rfl),
      st_skip 24 53 _ true rfl rfl rfl rfl (List.Mem.head _),
      st_skip 24 53 _ true rfl rfl rfl rfl (List.Mem.head _),
      st_plain rfl (op_pick _ _ false _ rfl rfl),
      st_plain rfl (op_assign _ _ _ _ rfl rfl),
      trivial⟩ ?_
     exact hl8 _ (Option.some.inj h).symm
   ·refine ht_seqR hn (El := (_ :: _ :: _ :: _ :: _ :: _ :: _ :: _ :: (29, .v (.int .i64 v1.2)) :: (30, .v (.bool (v1.2 == 0))) :: (31, .v (.bool false)) :: (32, .v undef) :: (33, .v undef) :: (34, .v (.bool false)) :: (35, .v (.bool false)) :: (36, .v undef) :: (37, .v undef) :: (38, .v (.bool false)) :: (39, .v (.bool false)) :: (40, .v undef) :: (41, .v undef) :: (42, .v (.bool false)) :: (43, .v (.bool false)) :: (44, .v undef) :: (45, .v undef) :: (46, .v undef) :: (47, .v (.bool false)) :: (48, .v (.bool false)) :: (49, .v undef) :: (50, .v undef) :: (51, .v undef) :: (52, .v (.bool false)) :: (53, .v (.bool false)) :: (54, .v undef) :: (55, .v undef) :: (56, .v (.bool false)) :: (0, .v (.bool false)) :: [])) (init := [0, 1, 2, 3, 4, 5, 6, 7]) (fin := [0, 36]) (sps := (⟨[2], [], [8], [(.slot 29)]⟩ :: ⟨[8], [], [9], [(.slot 30)]⟩ :: ⟨[9], [], [10], [(.slot 31)]⟩ :: ⟨[10], [], [11], [(.slot 32)]⟩ :: ⟨[10], [], [12], [(.slot 33)]⟩ :: ⟨[10], [], [13], [(.slot 34)]⟩ :: ⟨[13], [], [14], [(.slot 35)]⟩ :: ⟨[14], [], [15], [(.slot 36)]⟩ :: ⟨[14], [], [16], [(.slot 37)]⟩ :: ⟨[14], [], [17], [(.slot 38)]⟩ :: ⟨[17], [], [18], [(.slot 39)]⟩ :: ⟨[18], [], [19], [(.slot 40)]⟩ :: ⟨[18], [], [20], [(.slot 41)]⟩ :: ⟨[18], [], [21], [(.slot 42)]⟩ :: ⟨[21], [], [22], [(.slot 43)]⟩ :: ⟨[22], [], [23], [(.slot 44)]⟩ :: ⟨[22], [], [24], [(.slot 45)]⟩ :: ⟨[22], [], [25], [(.slot 46)]⟩ :: ⟨[22], [], [26], [(.slot 47)]⟩ :: ⟨[26], [], [27], [(.slot 48)]⟩ :: ⟨[27], [], [28], [(.slot 49)]⟩ :: ⟨[27], [], [29], [(.slot 50)]⟩ :: ⟨[27], [], [30], [(.slot 51)]⟩ :: ⟨[27], [], [31], [(.slot 52)]⟩ :: ⟨[31], [], [32], [(.slot 53)]⟩ :: ⟨[32], [], [33], [(.slot 54)]⟩ :: ⟨[32], [], [34], [(.slot 55)]⟩ :: ⟨[32], [], [35], [(.slot 56)]⟩ :: ⟨[35], [], [36], [(.slot 0)]⟩ :: [])) (es' := [(_, _), (0, .v (.bool false))]) (by kernel_rfl) rfl rfl
     ⟨st_plain rfl (op_move _ _ _ _ rfl rfl),
     st_plain rfl (op_bin _ _ _ _ _ rfl rfl rfl),
     st_plain rfl (op_move _ _ _ _ (congrArg (fun b => AV.v (Value.bool b)) hg5_2) rfl),
     st_skip 2 31 _ true rfl rfl rfl rfl (List.Mem.head _),
     st_skip 2 31 _ true rfl rfl rfl rfl (List.Mem.head _),
     st_plain rfl (op_pick _ _ false _ rfl rfl),
     st_plain rfl (op_move _ _ _ _ rfl rfl),
     st_skip 6 35 _ true rfl rfl rfl rfl (List.Mem.head _),
     st_skip 6 35 _ true rfl rfl rfl rfl (List.Mem.head _),
     st_plain rfl (op_pick _ _ false _ rfl rfl),
     st_plain rfl (op_move _ _ _ _ rfl rfl),
     st_skip 10 39 _ true rfl rfl rfl rfl (List.Mem.head _),
     st_skip 10 39 _ true rfl rfl rfl rfl (List.Mem.head _),
     st_plain rfl (op_pick _ _ false _ rfl rfl),
     st_plain rfl (op_move _ _ _ _ rfl rfl),
     st_skip 14 43 _ true rfl rfl rfl rfl (List.Mem.head _),
     st_skip 14 43 _ true rfl rfl rfl rfl (List.Mem.head _),
     st_skip 14 43 _ true rfl rfl rfl rfl (List.Mem.head _),
     st_plain rfl (op_pick _ _ false _ rfl rfl),
     st_plain rfl (op_move _ _ _ _ rfl rfl),
     st_skip 19 48 _ true rfl rfl rfl rfl (List.Mem.head _),
     st_skip 19 48 _ true rfl rfl rfl rfl (List.Mem.head _),
     st_skip 19 48 _ true rfl rfl rfl rfl (List.Mem.head _),
     st_plain rfl (op_pick _ _ false _ rfl rfl),
     st_plain rfl (op_move _ _ _ _ rfl rfl),
     st_skip 24 53 _ true rfl rfl rfl rfl (List.Mem.head _),
     st_skip 24 53 _ true rfl rfl rfl rfl (List.Mem.head _),
     st_plain rfl (op_pick _ _ false _ rfl rfl),
     st_plain rfl (op_assign _ _ _ _ rfl rfl),
     trivial⟩ ?_
    exact hl8 _ (Option.some.inj h).symm

end Go.Proofs.YthceldoojddpiaaDoor
