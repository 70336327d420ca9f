/-
  The model's runs are what is told in Lean.
-/
import Derived.Test.YthceldoojddpiaaDoorProg
import Derived.KernelRfl
import Derived.Test.YthceldoojddpiaaDoorOkc1
set_option linter.unusedVariables false
set_option linter.unusedSimpArgs false
namespace Go.Proofs.YthceldoojddpiaaDoor
open Go.Abs Go.Abs.Sh

set_option maxHeartbeats 1000000 in
theorem ok_sym_DistOf (sym : Int) (r : (Int × Int × Int)) (h : Sh.sym_DistOf sym = some r) : FnOK Tryd.prog 89 [.v (.int .i64 sym)] (.tup [.v (.int .i64 r.1), .v (.int .i64 r.2.1), .v (.int .i64 r.2.2)]) := by
  unfold Sh.sym_DistOf at h
  refine fn_ok Tryd.func89 rfl (Nat.le_of_ble_eq_true rfl) rfl rfl fun g0 hn hio => ?_
  refine ht_seq ?_
  refine ht_seqR hn (El := [_, (2, .v (.int .i64 0)), (3, .v (.int .i64 0)), (4, .v (.int .i64 0))]) (init := [0]) (fin := [0]) (sps := [⟨[], [], [1], [(.slot 2)]⟩, ⟨[], [], [2], [(.slot 3)]⟩, ⟨[], [], [3], [(.slot 4)]⟩]) (es' := [(_, _)]) (by kernel_rfl) rfl rfl
   ⟨st_plain rfl (op_assign _ _ _ _ rfl rfl),
   st_plain rfl (op_assign _ _ _ _ rfl rfl),
   st_plain rfl (op_assign _ _ _ _ rfl rfl),
   trivial⟩ ?_
  refine pt_then ?_
  refine ht_seq ?_
  refine ht_seq ?_
  refine ht_joinS h (fun (s1 : Bool) => [(0, .v (.int .i64 sym)), (10, .v (.bool s1))]) ?_ ?_
  ·rintro s1 h
   refine pt_then ?_
   refine ht_cond _ rfl (fun hb5 => ?_) (fun hb5 => ?_)
   ·have h := cond_t hb5 h
    refine ht_seq ?_
    refine ht_seqR hn (El := [_, _, (2, .v (.int .i64 0)), (3, .v (.int .i64 0)), (4, .v (.int .i64 1))]) (init := [0, 1]) (fin := [2, 3, 4]) (sps := [⟨[], [], [2], [(.slot 2)]⟩, ⟨[], [], [3], [(.slot 3)]⟩, ⟨[], [], [4], [(.slot 4)]⟩]) (es' := [(2, .v (.int .i64 0)), (3, .v (.int .i64 0)), (4, .v (.int .i64 1))]) (by kernel_rfl) rfl rfl
     ⟨st_plain rfl (op_assign _ _ _ _ rfl rfl),
     st_plain rfl (op_assign _ _ _ _ rfl rfl),
     st_plain rfl (op_assign _ _ _ _ rfl rfl),
     trivial⟩ ?_
    refine pt_then ?_
    refine ht_ret ?_
    refine pt_r_then ?_
    obtain rfl := Option.some.inj h
    exact pt_ret hio rfl (.tmp _ _ (.tmp _ _ (.tmp _ _ .nil))) rfl rfl
   ·have h := cond_f hb5 h
    refine ht_skip ?_
    refine pt_then ?_
    refine ht_seq ?_
    obtain ⟨v6, hv6, h⟩ := bind_some h
    obtain ⟨v7, hv7, h⟩ := bind_some h
    refine ht_seqR hn (El := [_, _, (12, .agg [.v (.int .i64 v6.least), .v (.int .i64 v6.singles), .v (.int .i64 v6.group)]), (13, .v (.int .i64 sym)), (14, .tup [.v (.int .i64 v7.1), .v (.int .i64 v7.2)]), (11, .tup [.v (.int .i64 v7.1), .v (.int .i64 v7.2)]), (15, .v (.int .i64 v7.1)), (16, .v (.int .i64 v7.2)), (2, .v (.int .i64 v7.1)), (3, .v (.int .i64 v7.2))]) (init := [0, 1]) (fin := [8, 9]) (sps := [⟨[], [], [2], [(.slot 12)]⟩, ⟨[0], [], [3], [(.slot 13)]⟩, ⟨[2, 3], [], [4], [(.slot 14)]⟩, ⟨[], [4], [5], [(.slot 11)]⟩, ⟨[5], [], [6], [(.slot 15)]⟩, ⟨[5], [], [7], [(.slot 16)]⟩, ⟨[6], [], [8], [(.slot 2)]⟩, ⟨[7], [], [9], [(.slot 3)]⟩]) (es' := [(2, .v (.int .i64 v7.1)), (3, .v (.int .i64 v7.2))]) (by kernel_rfl) rfl rfl
     ⟨st_plain rfl (op_call _ _ 65 _ _ rfl Tryd.call65 rfl (ok_sym_dists  _ hv6) rfl rfl),
     st_plain rfl (op_move _ _ _ _ rfl rfl),
     st_plain rfl (op_call _ _ 82 _ _ rfl Tryd.call82 rfl (ok_sym_scale_symbol v6 sym _ hv7) rfl rfl),
     st_plain rfl (op_move_take _ _ _ _ rfl),
     st_plain rfl (op_extract _ _ _ _ _ rfl rfl (Nat.le_of_ble_eq_true rfl) rfl rfl),
     st_plain rfl (op_extract _ _ _ _ _ rfl rfl (Nat.le_of_ble_eq_true rfl) rfl rfl),
     st_plain rfl (op_assign _ _ _ _ rfl rfl),
     st_plain rfl (op_assign _ _ _ _ rfl rfl),
     trivial⟩ ?_
    refine pt_then ?_
    refine ht_seq ?_
    refine ht_seqR hn (El := [_, _, (17, .v (.int .i64 v7.1)), (18, .v (.int .i64 v7.2)), (2, .v (.int .i64 v7.1)), (3, .v (.int .i64 v7.2)), (4, .v (.int .i64 0))]) (init := [0, 1]) (fin := [4, 5, 6]) (sps := [⟨[0], [], [2], [(.slot 17)]⟩, ⟨[1], [], [3], [(.slot 18)]⟩, ⟨[2], [0], [4], [(.slot 2)]⟩, ⟨[3], [1], [5], [(.slot 3)]⟩, ⟨[], [], [6], [(.slot 4)]⟩]) (es' := [(2, .v (.int .i64 v7.1)), (3, .v (.int .i64 v7.2)), (4, .v (.int .i64 0))]) (by kernel_rfl) rfl rfl
     ⟨st_plain rfl (op_move _ _ _ _ rfl rfl),
     st_plain rfl (op_move _ _ _ _ rfl rfl),
     st_plain rfl (LOp.drop [_] (op_assign _ _ _ _ rfl rfl)),
     st_plain rfl (LOp.drop [_] (op_assign _ _ _ _ rfl rfl)),
     st_plain rfl (op_assign _ _ _ _ rfl rfl),
     trivial⟩ ?_
    refine pt_then ?_
    refine ht_ret ?_
    obtain rfl := Option.some.inj h
    exact pt_ret hio rfl (.tmp _ _ (.tmp _ _ (.tmp _ _ .nil))) rfl rfl
  ·intro u2 h hl3 hr4
   refine cond_some h (fun hg1_2 h => ?_) (fun hg1_2 h => ?_)
   ·refine ht_seqR hn (El := [_, (5, .v (.int .i64 sym)), (6, .v (.bool ((decide (sym < 0))))), (7, .v (.bool true)), (8, .v undef), (9, .v undef), (10, .v (.bool true))]) (init := [0]) (fin := [0, 6]) (sps := [⟨[0], [], [1], [(.slot 5)]⟩, ⟨[1], [], [2], [(.slot 6)]⟩, ⟨[2], [], [3], [(.slot 7)]⟩, ⟨[3], [], [4], [(.slot 8)]⟩, ⟨[3], [], [5], [(.slot 9)]⟩, ⟨[3], [], [6], [(.slot 10)]⟩]) (es' := [(_, _), (10, .v (.bool true))]) (by kernel_rfl) rfl rfl
     ⟨st_plain rfl (op_move _ _ _ _ rfl rfl),
     st_plain rfl (op_bin _ _ _ _ _ rfl rfl rfl),
     st_plain rfl (op_move _ _ _ _ (congrArg (fun b => AV.v (Value.bool b)) hg1_2) rfl),
     st_skip 2 7 _ false rfl rfl rfl rfl (List.Mem.head _),
     st_skip 2 7 _ false rfl rfl rfl rfl (List.Mem.head _),
     st_plain rfl (op_pick _ _ true _ rfl rfl),
     trivial⟩ ?_
    exact hl3 _ (Option.some.inj h).symm
   ·refine ht_seqR hn (El := [_, (5, .v (.int .i64 sym)), (6, .v (.bool ((decide (sym < 0))))), (7, .v (.bool false)), (8, .v (.int .i64 sym)), (9, .v (.bool ((decide (30 ≤ sym))))), (10, .v (.bool ((decide (30 ≤ sym)))))]) (init := [0]) (fin := [0, 6]) (sps := [⟨[0], [], [1], [(.slot 5)]⟩, ⟨[1], [], [2], [(.slot 6)]⟩, ⟨[2], [], [3], [(.slot 7)]⟩, ⟨[3, 0], [], [4], [(.slot 8)]⟩, ⟨[3, 4], [], [5], [(.slot 9)]⟩, ⟨[3, 5], [], [6], [(.slot 10)]⟩]) (es' := [(_, _), (10, .v (.bool ((decide (30 ≤ sym)))))]) (by kernel_rfl) rfl rfl
     ⟨st_plain rfl (op_move _ _ _ _ rfl rfl),
     st_plain rfl (op_bin _ _ _ _ _ rfl rfl rfl),
     st_plain rfl (op_move _ _ _ _ (congrArg (fun b => AV.v (Value.bool b)) hg1_2) rfl),
     st_run 2 7 false rfl rfl rfl (List.Mem.head _) (op_move _ _ _ _ rfl rfl),
     st_run 2 7 false rfl rfl rfl (List.Mem.head _) (op_bin _ _ _ _ _ rfl rfl rfl),
     st_plain rfl (op_pick _ _ false _ rfl rfl),
     trivial⟩ ?_
    exact hl3 _ (Option.some.inj h).symm

set_option maxHeartbeats 1000000 in
theorem ok_grow_stream_repeat (s : T_grow_stream) (n : Int) (dist : Int) (r : (Int × T_grow_stream)) (h : Sh.grow_stream_repeat s n dist = some r) : FnP Tryd.prog 90 [.box 59 [.fl .shr 1 (List.map (Value.int .u8) s.b), .v (.int .i64 s.at_), .fl (.own 5) 1 (List.map (Value.int .u8) s.out), .v (.int .i64 s.most), .v (.int .i64 s.blocks)], .v (.int .i64 n), .v (.int .i64 dist)] [.box 59 [.fl .shr 1 (List.map (Value.int .u8) r.2.b), .v (.int .i64 r.2.at_), .fl (.own 5) 1 (List.map (Value.int .u8) r.2.out), .v (.int .i64 r.2.most), .v (.int .i64 r.2.blocks)]] (.v (.int .i64 r.1)) := by
  unfold Sh.grow_stream_repeat at h
  refine fn_okP Tryd.func90 rfl (Nat.le_of_ble_eq_true rfl) rfl (Nat.le_of_ble_eq_true rfl) fun args0 hargs0 g0 hn hio => ?_
  refine ht_seq ?_
  refine ht_seqR hn (El := [_, _, _, _, (6, .v (.int .i64 0))]) (init := [0, 1, 2, 3]) (fin := [0, 1, 2, 3]) (sps := [⟨[], [], [4], [(.slot 6)]⟩]) (es' := [(_, _), (_, _), (_, _), (_, _)]) (by kernel_rfl) rfl rfl
   ⟨st_plain rfl (op_assign _ _ _ _ rfl rfl),
   trivial⟩ ?_
  refine pt_then ?_
  refine ht_seq ?_
  refine ht_seq ?_
  refine ht_seqR hn (El := [_, _, _, _, (7, .v (.int .i64 dist)), (8, .ptr 0 0), (9, .ptr 0 0), (10, .ptr 0 2), (11, .same (.cell 0 2)), (12, .v (.int .i64 (s.out.length : Int))), (13, .v (.bool ((decide ((s.out.length : Int) < dist)))))]) (init := [0, 1, 2, 3]) (fin := [0, 1, 2, 3, 10]) (sps := [⟨[2], [], [4], [(.slot 7)]⟩, ⟨[0], [], [5], [(.slot 8)]⟩, ⟨[5, 0], [], [6], [(.slot 9)]⟩, ⟨[6, 0], [], [7], [(.slot 10)]⟩, ⟨[7, 0], [], [8], [(.slot 11)]⟩, ⟨[8, 0], [], [9], [(.slot 12)]⟩, ⟨[4, 9], [], [10], [(.slot 13)]⟩]) (es' := [(_, _), (_, _), (_, _), (_, _), (13, .v (.bool ((decide ((s.out.length : Int) < dist)))))]) (by kernel_rfl) rfl rfl
   ⟨st_plain rfl (op_move _ _ _ _ rfl rfl),
   st_plain rfl (op_move _ _ _ _ rfl rfl),
   st_plain rfl (op_nilCheck _ _ _ 0 0 rfl (by decide)),
   st_plain rfl (op_fieldAddr _ _ _ _ 0 0 _ Tryd.underlying59 rfl sz22 rfl rfl (by decide)),
   st_plain rfl (op_load _ _ _ _ _ _ Tryd.underlying22 rfl rfl rfl (Nat.le_of_ble_eq_true rfl) rfl rfl rfl),
   st_plain rfl (op_len_fl _ _ _ Tryd.underlying22 rfl (by decide) (map_len _)),
   st_plain rfl (op_bin _ _ _ _ _ rfl rfl rfl),
   trivial⟩ ?_
  refine pt_then ?_
  refine ht_cond _ rfl (fun hb1 => ?_) (fun hb1 => ?_)
  ·have h := cond_t hb1 h
   refine ht_seq ?_
   refine ht_seqR hn (El := [_, _, _, _, _, (6, .v (.int .i64 3))]) (init := [0, 1, 2, 3, 4]) (fin := [0, 3, 5]) (sps := [⟨[], [], [5], [(.slot 6)]⟩]) (es' := [(_, _), (_, _), (6, .v (.int .i64 3))]) (by kernel_rfl) rfl rfl
    ⟨st_plain rfl (op_assign _ _ _ _ rfl rfl),
    trivial⟩ ?_
   refine pt_then ?_
   refine ht_ret ?_
   refine pt_pick [2, 0, 1] (by kernel_rfl) (es' := [(_, _), (_, _), (_, _)]) rfl ?_
   refine pt_r_then ?_
   obtain rfl := Option.some.inj h
   exact pt_retP (es := [(6, .v (.int .i64 3))]) (posts := [.box 59 [.fl .shr 1 (List.map (Value.int .u8) s.b), .v (.int .i64 s.at_), .fl (.own 5) 1 (List.map (Value.int .u8) s.out), .v (.int .i64 s.most), .v (.int .i64 s.blocks)]]) hio rfl rfl (.tmp _ _ .nil) rfl rfl hargs0 rfl
  ·have h := cond_f hb1 h
   refine ht_skip ?_
   refine pt_then ?_
   refine ht_seq ?_
   refine ht_seq ?_
   obtain ⟨v2, hv2, h⟩ := bind_some h
   refine ht_anyR (by kernel_rfl) hn (El := (_ :: _ :: _ :: _ :: _ :: (14, .same (.slot 0)) :: (15, .ptr 0 0) :: (16, .ptr 0 2) :: (17, .same (.cell 0 2)) :: (18, .v (.int .i64 (s.out.length : Int))) :: (19, .v (.int .i64 n)) :: (20, .v (.int .i64 v2)) :: (21, .same (.slot 0)) :: (22, .ptr 0 0) :: (23, .ptr 0 3) :: (24, .v (.int .i64 s.most)) :: (25, .v (.bool ((decide (s.most < v2))))) :: [])) (init := [0, 1, 2, 3, 4]) (fin := [0, 1, 2, 3, 16]) (sps := [⟨[], [], [5], [(.slot 14)]⟩, ⟨[5, 0], [], [6], [(.slot 15)]⟩, ⟨[6, 0], [], [7], [(.slot 16)]⟩, ⟨[7, 0], [], [8], [(.slot 17)]⟩, ⟨[8, 0], [], [9], [(.slot 18)]⟩, ⟨[1], [], [10], [(.slot 19)]⟩, ⟨[9, 10], [], [11], [(.slot 20)]⟩, ⟨[], [], [12], [(.slot 21)]⟩, ⟨[12, 0], [], [13], [(.slot 22)]⟩, ⟨[13, 0], [], [14], [(.slot 23)]⟩, ⟨[14, 0], [], [15], [(.slot 24)]⟩, ⟨[11, 15], [], [16], [(.slot 25)]⟩]) (es' := [(_, _), (_, _), (_, _), (_, _), (25, .v (.bool ((decide (s.most < v2)))))]) (by kernel_rfl) rfl rfl
    ⟨st_plain rfl (op_move_name _ _ _ rfl),
    st_plain rfl (op_nilCheck_name _ _ _ 0 rfl rfl (by decide)),
    st_plain rfl (op_fieldAddr _ _ _ _ 0 0 _ Tryd.underlying59 rfl sz22 rfl rfl (by decide)),
    st_plain rfl (op_load _ _ _ _ _ _ Tryd.underlying22 rfl rfl rfl (Nat.le_of_ble_eq_true rfl) rfl rfl rfl),
    st_plain rfl (op_len_fl _ _ _ Tryd.underlying22 rfl (by decide) (map_len _)),
    st_plain rfl (op_move _ _ _ _ rfl rfl),
    st_plain rfl (op_bin _ _ _ _ _ rfl rfl (ibind (f := Value.int .i64) (Option.some.inj hv2))),
    st_plain rfl (op_move_name _ _ _ rfl),
    st_plain rfl (op_nilCheck_name _ _ _ 0 rfl rfl (by decide)),
    st_plain rfl (op_fieldAddr _ _ _ _ 0 0 _ Tryd.underlying59 rfl sz3 rfl rfl (by decide)),
    st_plain rfl (op_load _ _ _ _ _ _ Tryd.underlying3 rfl rfl rfl (Nat.le_of_ble_eq_true rfl) rfl rfl rfl),
    st_plain rfl (op_bin _ _ _ _ _ rfl rfl rfl),
    trivial⟩ ?_
   refine pt_then ?_
   refine ht_cond _ rfl (fun hb3 => ?_) (fun hb3 => ?_)
   ·have h := cond_t hb3 h
    refine ht_seq ?_
    refine ht_seqR hn (El := [_, _, _, _, _, (6, .v (.int .i64 2))]) (init := [0, 1, 2, 3, 4]) (fin := [0, 3, 5]) (sps := [⟨[], [], [5], [(.slot 6)]⟩]) (es' := [(_, _), (_, _), (6, .v (.int .i64 2))]) (by kernel_rfl) rfl rfl
     ⟨st_plain rfl (op_assign _ _ _ _ rfl rfl),
     trivial⟩ ?_
    refine pt_then ?_
    refine ht_ret ?_
    refine pt_pick [2, 0, 1] (by kernel_rfl) (es' := [(_, _), (_, _), (_, _)]) rfl ?_
    refine pt_r_then ?_
    obtain rfl := Option.some.inj h
    exact pt_retP (es := [(6, .v (.int .i64 2))]) (posts := [.box 59 [.fl .shr 1 (List.map (Value.int .u8) s.b), .v (.int .i64 s.at_), .fl (.own 5) 1 (List.map (Value.int .u8) s.out), .v (.int .i64 s.most), .v (.int .i64 s.blocks)]]) hio rfl rfl (.tmp _ _ .nil) rfl rfl hargs0 rfl
   ·have h := cond_f hb3 h
    refine ht_skip ?_
    refine pt_then ?_
    refine ht_seq ?_
    refine ht_seq ?_
    refine ht_seqR hn (El := [_, _, _, _, _, (26, .v (.int .i64 n)), (27, .v (.int .i64 0))]) (init := [0, 1, 2, 3, 4]) (fin := [0, 2, 3, 5, 6]) (sps := [⟨[1], [], [5], [(.slot 26)]⟩, ⟨[], [], [6], [(.slot 27)]⟩]) (es' := [(_, _), (_, _), (_, _), (26, .v (.int .i64 n)), (27, .v (.int .i64 0))]) (by kernel_rfl) rfl rfl
     ⟨st_plain rfl (op_move _ _ _ _ rfl rfl),
     st_plain rfl (op_move _ _ _ _ rfl rfl),
     trivial⟩ ?_
    refine pt_then ?_
    refine ht_loopS h (fun ((s13, s14) : (List Int) × Int) => [(0, .box 59 [.fl .shr 1 (List.map (Value.int .u8) s.b), .v (.int .i64 s.at_), .fl (.own 5) 1 (List.map (Value.int .u8) s13), .v (.int .i64 s.most), .v (.int .i64 s.blocks)]), (2, .v (.int .i64 dist)), (0, .v (List.getD args0 0 undef)), (26, .v (.int .i64 n)), (27, .v (.int .i64 s14))]) (fun (s16 : (List Int)) => [(0, .box 59 [.fl .shr 1 (List.map (Value.int .u8) s.b), .v (.int .i64 s.at_), .fl (.own 5) 1 (List.map (Value.int .u8) s16), .v (.int .i64 s.most), .v (.int .i64 s.blocks)]), (0, .v (List.getD args0 0 undef))]) ?_ ?_
    ·rintro s16 h
     refine pt_then ?_
     refine ht_seq ?_
     refine ht_seqR hn (El := [_, _, (6, .v (.int .i64 0))]) (init := [0, 1]) (fin := [0, 1, 2]) (sps := [⟨[], [], [2], [(.slot 6)]⟩]) (es' := [(_, _), (_, _), (6, .v (.int .i64 0))]) (by kernel_rfl) rfl rfl
      ⟨st_plain rfl (op_assign _ _ _ _ rfl rfl),
      trivial⟩ ?_
     refine pt_then ?_
     refine ht_ret ?_
     refine pt_pick [2, 0, 1] (by kernel_rfl) (es' := [(_, _), (_, _), (_, _)]) rfl ?_
     obtain rfl := Option.some.inj h
     exact pt_retP (es := [(6, .v (.int .i64 0))]) (posts := [.box 59 [.fl .shr 1 (List.map (Value.int .u8) s.b), .v (.int .i64 s.at_), .fl (.own 5) 1 (List.map (Value.int .u8) s16), .v (.int .i64 s.most), .v (.int .i64 s.blocks)]]) hio rfl rfl (.tmp _ _ .nil) rfl rfl hargs0 rfl
    ·rintro u17 hl18 hr19 ⟨s13, s14⟩ rr22 h ho20
     refine ht_seq ?_
     refine ht_seqR hn (El := [_, _, _, _, _, (28, .v (.bool ((decide (s14 < n)))))]) (init := [0, 1, 2, 3, 4]) (fin := [0, 1, 2, 3, 4, 5]) (sps := [⟨[4, 3], [], [5], [(.slot 28)]⟩]) (es' := [(_, _), (_, _), (_, _), (_, _), (_, _), (28, .v (.bool ((decide (s14 < n)))))]) (by kernel_rfl) rfl rfl
      ⟨st_plain rfl (op_bin _ _ _ _ _ rfl rfl rfl),
      trivial⟩ ?_
     refine pt_then ?_
     refine ht_seq ?_
     refine ht_cond _ rfl (fun hb23 => ?_) (fun hb23 => ?_)
     ·have h := cond_t hb23 h
      refine ht_skip ?_
      refine pt_then ?_
      refine ht_seq ?_
      refine ht_block ?_
      obtain ⟨v5, hv5, h⟩ := bind_some h
      obtain ⟨v6, hv6, h⟩ := bind_some h
      obtain ⟨v7, hv7, h⟩ := bind_some h
      obtain ⟨v8, hv8, h⟩ := bind_some h
      refine ht_anyR (by kernel_rfl) hn (El := (_ :: _ :: _ :: _ :: _ :: _ :: (29, .same (.slot 0)) :: (30, .same (.slot 0)) :: (31, .ptr 0 0) :: (32, .ptr 0 2) :: (33, .same (.cell 0 2)) :: (34, .same (.slot 0)) :: (35, .ptr 0 0) :: (36, .ptr 0 2) :: (37, .same (.cell 0 2)) :: (38, .same (.slot 0)) :: (39, .ptr 0 0) :: (40, .ptr 0 2) :: (41, .same (.cell 0 2)) :: (42, .v (.int .i64 (s13.length : Int))) :: (43, .v (.int .i64 dist)) :: (44, .v (.int .i64 v5)) :: (45, .eref (.cell 0 2) (v6 * 1)) :: (46, .v (.int .u8 v7)) :: (47, .fl (.own 5) 1 (List.map (Value.int .u8) [v7])) :: (48, .fl (.own 5) 1 (List.map (Value.int .u8) v8)) :: (0, .box 59 [.fl .shr 1 (List.map (Value.int .u8) s.b), .v (.int .i64 s.at_), .any, .v (.int .i64 s.most), .v (.int .i64 s.blocks)]) :: (49, .ptr 0 0) :: (50, .ptr 0 2) :: (0, .box 59 [.fl .shr 1 (List.map (Value.int .u8) s.b), .v (.int .i64 s.at_), .fl (.own 5) 1 (List.map (Value.int .u8) v8), .v (.int .i64 s.most), .v (.int .i64 s.blocks)]) :: [])) (init := [0, 1, 2, 3, 4, 5]) (fin := [29, 1, 2, 3, 4]) (sps := (⟨[], [], [6], [(.slot 29)]⟩ :: ⟨[], [], [7], [(.slot 30)]⟩ :: ⟨[7, 0], [], [8], [(.slot 31)]⟩ :: ⟨[8, 0], [], [9], [(.slot 32)]⟩ :: ⟨[9, 0], [], [10], [(.slot 33)]⟩ :: ⟨[], [], [11], [(.slot 34)]⟩ :: ⟨[11, 0], [], [12], [(.slot 35)]⟩ :: ⟨[12, 0], [], [13], [(.slot 36)]⟩ :: ⟨[13, 0], [], [14], [(.slot 37)]⟩ :: ⟨[], [], [15], [(.slot 38)]⟩ :: ⟨[15, 0], [], [16], [(.slot 39)]⟩ :: ⟨[16, 0], [], [17], [(.slot 40)]⟩ :: ⟨[17, 0], [], [18], [(.slot 41)]⟩ :: ⟨[18, 0], [], [19], [(.slot 42)]⟩ :: ⟨[1], [], [20], [(.slot 43)]⟩ :: ⟨[19, 20], [], [21], [(.slot 44)]⟩ :: ⟨[14, 0, 21], [], [22], [(.slot 45)]⟩ :: ⟨[22, 0], [], [23], [(.slot 46)]⟩ :: ⟨[23], [], [24], [(.slot 47)]⟩ :: ⟨[10, 24], [0], [26, 25], [(.slot 48)]⟩ :: ⟨[6, 26], [], [27], [(.slot 49)]⟩ :: ⟨[27, 26], [], [28], [(.slot 50)]⟩ :: ⟨[28], [10, 14, 18, 22, 25, 26], [29], [.cell 0 2]⟩ :: [])) (es' := [(0, .box 59 [.fl .shr 1 (List.map (Value.int .u8) s.b), .v (.int .i64 s.at_), .fl (.own 5) 1 (List.map (Value.int .u8) v8), .v (.int .i64 s.most), .v (.int .i64 s.blocks)]), (_, _), (_, _), (_, _), (_, _)]) (by kernel_rfl) rfl rfl
       ⟨st_plain rfl (op_move_name _ _ _ rfl),
       st_plain rfl (op_move_name _ _ _ rfl),
       st_plain rfl (op_nilCheck_name _ _ _ 0 rfl rfl (by decide)),
       st_plain rfl (op_fieldAddr _ _ _ _ 0 0 _ Tryd.underlying59 rfl sz22 rfl rfl (by decide)),
       st_plain rfl (op_load _ _ _ _ _ _ Tryd.underlying22 rfl rfl rfl (Nat.le_of_ble_eq_true rfl) rfl rfl rfl),
       st_plain rfl (op_move_name _ _ _ rfl),
       st_plain rfl (op_nilCheck_name _ _ _ 0 rfl rfl (by decide)),
       st_plain rfl (op_fieldAddr _ _ _ _ 0 0 _ Tryd.underlying59 rfl sz22 rfl rfl (by decide)),
       st_plain rfl (op_load _ _ _ _ _ _ Tryd.underlying22 rfl rfl rfl (Nat.le_of_ble_eq_true rfl) rfl rfl rfl),
       st_plain rfl (op_move_name _ _ _ rfl),
       st_plain rfl (op_nilCheck_name _ _ _ 0 rfl rfl (by decide)),
       st_plain rfl (op_fieldAddr _ _ _ _ 0 0 _ Tryd.underlying59 rfl sz22 rfl rfl (by decide)),
       st_plain rfl (op_load _ _ _ _ _ _ Tryd.underlying22 rfl rfl rfl (Nat.le_of_ble_eq_true rfl) rfl rfl rfl),
       st_plain rfl (op_len_fl _ _ _ Tryd.underlying22 rfl (by decide) (map_len _)),
       st_plain rfl (op_move _ _ _ _ rfl rfl),
       st_plain rfl (op_bin _ _ _ _ _ rfl rfl (ibind (f := Value.int .i64) (Option.some.inj hv5))),
       st_plain rfl (op_ix _ _ _ _ _ _ _ _ Tryd.underlying22 sz5 (by decide) rfl rfl rfl (ix_ok hv6).1 (map_lt (ix_ok hv6).2) rfl),
       st_plain rfl (op_load_e _ _ _ _ _ _ Tryd.underlying5 rfl rfl rfl (map_get hv7)),
       st_plain rfl (op_buildSlice _ _ 1 (.int .u8 0) (List.map (Value.int .u8) [v7]) [(0, .int .u8 v7)] Tryd.underlying22 sz5 zr5 (fun _ V w o a hv hes => by have e0 := rd_v hv hes (x := .tmp 46) rfl; simp only [List.map_toArray, List.map_cons, List.map_nil, e0]; try rfl) (litfill (by simp [Instr.fill, Value.cells]; rfl) (by simp [List.range, List.range.loop] <;> rfl)) (by simp [Value.oneCell']) rfl (by decide) (by decide) (by decide)),
       st_plain rfl (op_app_cell _ _ _ _ _ _ el22 rfl rfl (Nat.le_of_ble_eq_true rfl) rfl (map_len _) (map_len _) hv8 ((List.map_append).symm.trans (congrArg (List.map _) (app_eq hv8))) (Nat.ne_of_beq_eq_false rfl) rfl rfl),
       st_plain rfl (op_nilCheck_name _ _ _ 0 rfl rfl (by decide)),
       st_plain rfl (op_fieldAddr _ _ _ _ 0 0 _ Tryd.underlying59 rfl sz22 rfl rfl (by decide)),
       st_plain rfl (LOp.drop [_] (LOp.drop [_] (LOp.drop [_] (LOp.drop [_] (op_store_take _ _ _ _ _ _ _ _ sz22 rfl rfl rfl (Nat.le_of_ble_eq_true rfl) rfl rfl))))),
       trivial⟩ ?_
      refine pt_inb ?_
      refine pt_then ?_
      obtain ⟨v9, hv9, h⟩ := bind_some h
      refine ht_seqR hn (El := [_, _, _, _, _, (51, .v (.int .i64 v9)), (27, .v (.int .i64 v9))]) (init := [0, 1, 2, 3, 4]) (fin := [0, 1, 2, 3, 6]) (sps := [⟨[4], [], [5], [(.slot 51)]⟩, ⟨[5], [4], [6], [(.slot 27)]⟩]) (es' := [(_, _), (_, _), (_, _), (_, _), (27, .v (.int .i64 v9))]) (by kernel_rfl) rfl rfl
       ⟨st_plain rfl (op_bin _ _ _ _ _ rfl rfl (ibind (f := Value.int .i64) (Option.some.inj hv9))),
       st_plain rfl (LOp.drop [_] (op_move _ _ _ _ rfl rfl)),
       trivial⟩ ?_
      exact pt_next _ (Option.some.inj h).symm rfl
     ·have h := cond_f hb23 h
      refine ht_exit ?_
      refine pt_x_then ?_
      refine pt_x_then ?_
      refine pt_x_in ?_
      refine pt_pick [0, 2] (by kernel_rfl) (es' := [(_, _), (_, _)]) rfl ?_
      exact hl18 _ (ho20 _ (Option.some.inj h).symm).symm

set_option maxHeartbeats 1000000 in
theorem ok_grow_stream_match (s : T_grow_stream) (x : Int) (dists : (List Int)) (r : (Int × T_grow_stream)) (h : Sh.grow_stream_match s x dists = some r) : FnP Tryd.prog 79 [.box 59 [.fl .shr 1 (List.map (Value.int .u8) s.b), .v (.int .i64 s.at_), .fl (.own 5) 1 (List.map (Value.int .u8) s.out), .v (.int .i64 s.most), .v (.int .i64 s.blocks)], .v (.int .i64 x), .fl .shr 1 (List.map (Value.int .i64) dists)] [.box 59 [.fl .shr 1 (List.map (Value.int .u8) r.2.b), .v (.int .i64 r.2.at_), .fl (.own 5) 1 (List.map (Value.int .u8) r.2.out), .v (.int .i64 r.2.most), .v (.int .i64 r.2.blocks)]] (.v (.int .i64 r.1)) := by
  unfold Sh.grow_stream_match at h
  refine fn_okP Tryd.func79 rfl (Nat.le_of_ble_eq_true rfl) rfl (Nat.le_of_ble_eq_true rfl) fun args0 hargs0 g0 hn hio => ?_
  refine ht_seq ?_
  refine ht_seqR hn (El := [_, _, _, _, (6, .v (.int .i64 0))]) (init := [0, 1, 2, 3]) (fin := [0, 1, 2, 3]) (sps := [⟨[], [], [4], [(.slot 6)]⟩]) (es' := [(_, _), (_, _), (_, _), (_, _)]) (by kernel_rfl) rfl rfl
   ⟨st_plain rfl (op_assign _ _ _ _ rfl rfl),
   trivial⟩ ?_
  refine pt_then ?_
  refine ht_seq ?_
  refine ht_seq ?_
  refine ht_seqR hn (El := [_, _, _, _, (13, .v (.int .i64 x)), (14, .v (.bool ((decide (285 < x)))))]) (init := [0, 1, 2, 3]) (fin := [0, 1, 2, 3, 5]) (sps := [⟨[1], [], [4], [(.slot 13)]⟩, ⟨[4], [], [5], [(.slot 14)]⟩]) (es' := [(_, _), (_, _), (_, _), (_, _), (14, .v (.bool ((decide (285 < x)))))]) (by kernel_rfl) rfl rfl
   ⟨st_plain rfl (op_move _ _ _ _ rfl rfl),
   st_plain rfl (op_bin _ _ _ _ _ rfl rfl rfl),
   trivial⟩ ?_
  refine pt_then ?_
  refine ht_cond _ rfl (fun hb1 => ?_) (fun hb1 => ?_)
  ·have h := cond_t hb1 h
   refine ht_seq ?_
   refine ht_seqR hn (El := [_, _, _, _, _, (6, .v (.int .i64 3))]) (init := [0, 1, 2, 3, 4]) (fin := [0, 3, 5]) (sps := [⟨[], [], [5], [(.slot 6)]⟩]) (es' := [(_, _), (_, _), (6, .v (.int .i64 3))]) (by kernel_rfl) rfl rfl
    ⟨st_plain rfl (op_assign _ _ _ _ rfl rfl),
    trivial⟩ ?_
   refine pt_then ?_
   refine ht_ret ?_
   refine pt_pick [2, 0, 1] (by kernel_rfl) (es' := [(_, _), (_, _), (_, _)]) rfl ?_
   refine pt_r_then ?_
   obtain rfl := Option.some.inj h
   exact pt_retP (es := [(6, .v (.int .i64 3))]) (posts := [.box 59 [.fl .shr 1 (List.map (Value.int .u8) s.b), .v (.int .i64 s.at_), .fl (.own 5) 1 (List.map (Value.int .u8) s.out), .v (.int .i64 s.most), .v (.int .i64 s.blocks)]]) hio rfl rfl (.tmp _ _ .nil) rfl rfl hargs0 rfl
  ·have h := cond_f hb1 h
   refine ht_skip ?_
   refine pt_then ?_
   refine ht_seq ?_
   obtain ⟨v2, hv2, h⟩ := bind_some h
   refine ht_seqR hn (El := [_, _, _, _, _, (16, .v (.int .i64 x)), (17, .tup [.v (.int .i64 v2.1), .v (.int .i64 v2.2.1), .v (.int .i64 v2.2.2)]), (15, .tup [.v (.int .i64 v2.1), .v (.int .i64 v2.2.1), .v (.int .i64 v2.2.2)]), (18, .v (.int .i64 v2.1)), (19, .v (.int .i64 v2.2.1)), (20, .v (.int .i64 v2.2.2)), (7, .v (.int .i64 v2.1)), (8, .v (.int .i64 v2.2.1)), (9, .v (.int .i64 v2.2.2))]) (init := [0, 1, 2, 3, 4]) (fin := [0, 2, 3, 11, 12]) (sps := [⟨[1], [], [5], [(.slot 16)]⟩, ⟨[5], [], [6], [(.slot 17)]⟩, ⟨[], [6], [7], [(.slot 15)]⟩, ⟨[7], [], [8], [(.slot 18)]⟩, ⟨[7], [], [9], [(.slot 19)]⟩, ⟨[7], [], [10], [(.slot 20)]⟩, ⟨[8], [], [11], [(.slot 7)]⟩, ⟨[9], [], [12], [(.slot 8)]⟩, ⟨[10], [], [13], [(.slot 9)]⟩]) (es' := [(_, _), (_, _), (_, _), (7, .v (.int .i64 v2.1)), (8, .v (.int .i64 v2.2.1))]) (by kernel_rfl) rfl rfl
    ⟨st_plain rfl (op_move _ _ _ _ rfl rfl),
    st_plain rfl (op_call _ _ 88 _ _ rfl Tryd.call88 rfl (ok_sym_LenOf x _ hv2) rfl rfl),
    st_plain rfl (op_move_take _ _ _ _ rfl),
    st_plain rfl (op_extract _ _ _ _ _ rfl rfl (Nat.le_of_ble_eq_true rfl) rfl rfl),
    st_plain rfl (op_extract _ _ _ _ _ rfl rfl (Nat.le_of_ble_eq_true rfl) rfl rfl),
    st_plain rfl (op_extract _ _ _ _ _ rfl rfl (Nat.le_of_ble_eq_true rfl) rfl rfl),
    st_plain rfl (op_assign _ _ _ _ rfl rfl),
    st_plain rfl (op_assign _ _ _ _ rfl rfl),
    st_plain rfl (op_assign _ _ _ _ rfl rfl),
    trivial⟩ ?_
   refine pt_then ?_
   refine ht_seq ?_
   obtain ⟨v3, hv3, h⟩ := bind_some h
   refine ht_seqR hn (El := [_, _, _, _, _, (22, .ptr 0 0), (23, .v (.int .i64 v2.2.1)), (24, .tup [.v (.int .i64 v3.1), .v (.int .i64 v3.2.1)]), (0, .box 59 [.fl .shr 1 (List.map (Value.int .u8) v3.2.2.b), .v (.int .i64 v3.2.2.at_), .fl (.own 5) 1 (List.map (Value.int .u8) v3.2.2.out), .v (.int .i64 v3.2.2.most), .v (.int .i64 v3.2.2.blocks)]), (21, .tup [.v (.int .i64 v3.1), .v (.int .i64 v3.2.1)]), (25, .v (.int .i64 v3.1)), (26, .v (.int .i64 v3.2.1)), (10, .v (.int .i64 v3.1)), (11, .v (.int .i64 v3.2.1))]) (init := [0, 1, 2, 3, 4]) (fin := [8, 1, 2, 3, 12, 13]) (sps := [⟨[0], [], [5], [(.slot 22)]⟩, ⟨[4], [], [6], [(.slot 23)]⟩, ⟨[5, 6], [0], [8, 7], [(.slot 24), (.cell 0 0), (.cell 0 1), (.cell 0 2), (.cell 0 3), (.cell 0 4)]⟩, ⟨[], [7], [9], [(.slot 21)]⟩, ⟨[9], [], [10], [(.slot 25)]⟩, ⟨[9], [], [11], [(.slot 26)]⟩, ⟨[10], [], [12], [(.slot 10)]⟩, ⟨[11], [], [13], [(.slot 11)]⟩]) (es' := [(0, .box 59 [.fl .shr 1 (List.map (Value.int .u8) v3.2.2.b), .v (.int .i64 v3.2.2.at_), .fl (.own 5) 1 (List.map (Value.int .u8) v3.2.2.out), .v (.int .i64 v3.2.2.most), .v (.int .i64 v3.2.2.blocks)]), (_, _), (_, _), (_, _), (10, .v (.int .i64 v3.1)), (11, .v (.int .i64 v3.2.1))]) (by kernel_rfl) rfl rfl
    ⟨st_plain rfl (op_move _ _ _ _ rfl rfl),
    st_plain rfl (op_move _ _ _ _ rfl rfl),
    st_plain rfl (op_callPS _ _ _ _ 24 58 [.tmp 22] [.tmp 23] _ _ _ rfl Tryd.call58 rfl rfl rfl (ok_grow_stream_number s v2.2.1 _ hv3) (Nat.le_of_ble_eq_true rfl) rfl rfl rfl rfl rfl rfl rfl),
    st_plain rfl (op_move_take _ _ _ _ rfl),
    st_plain rfl (op_extract _ _ _ _ _ rfl rfl (Nat.le_of_ble_eq_true rfl) rfl rfl),
    st_plain rfl (op_extract _ _ _ _ _ rfl rfl (Nat.le_of_ble_eq_true rfl) rfl rfl),
    st_plain rfl (op_assign _ _ _ _ rfl rfl),
    st_plain rfl (op_assign _ _ _ _ rfl rfl),
    trivial⟩ ?_
   refine pt_then ?_
   refine ht_seq ?_
   refine ht_seq ?_
   refine ht_seqR hn (El := [_, _, _, _, _, _, (27, .v (.int .i64 v3.2.1)), (28, .v (.bool (v3.2.1 != 0)))]) (init := [0, 1, 2, 3, 4, 5]) (fin := [0, 1, 2, 3, 4, 5, 7]) (sps := [⟨[5], [], [6], [(.slot 27)]⟩, ⟨[6], [], [7], [(.slot 28)]⟩]) (es' := [(_, _), (_, _), (_, _), (_, _), (_, _), (_, _), (28, .v (.bool (v3.2.1 != 0)))]) (by kernel_rfl) rfl rfl
    ⟨st_plain rfl (op_move _ _ _ _ rfl rfl),
    st_plain rfl (op_bin _ _ _ _ _ rfl rfl rfl),
    trivial⟩ ?_
   refine pt_then ?_
   refine ht_cond _ rfl (fun hb4 => ?_) (fun hb4 => ?_)
   ·have h := cond_t hb4 h
    refine ht_seq ?_
    refine ht_seqR hn (El := [_, _, _, _, _, _, _, (29, .v (.int .i64 v3.2.1)), (6, .v (.int .i64 v3.2.1))]) (init := [0, 1, 2, 3, 4, 5, 6]) (fin := [0, 2, 8]) (sps := [⟨[5], [], [7], [(.slot 29)]⟩, ⟨[7], [], [8], [(.slot 6)]⟩]) (es' := [(_, _), (_, _), (6, .v (.int .i64 v3.2.1))]) (by kernel_rfl) rfl rfl
     ⟨st_plain rfl (op_move _ _ _ _ rfl rfl),
     st_plain rfl (op_assign _ _ _ _ rfl rfl),
     trivial⟩ ?_
    refine pt_then ?_
    refine ht_ret ?_
    refine pt_pick [2, 0, 1] (by kernel_rfl) (es' := [(_, _), (_, _), (_, _)]) rfl ?_
    refine pt_r_then ?_
    obtain rfl := Option.some.inj h
    exact pt_retP (es := [(6, .v (.int .i64 v3.2.1))]) (posts := [.box 59 [.fl .shr 1 (List.map (Value.int .u8) v3.2.2.b), .v (.int .i64 v3.2.2.at_), .fl (.own 5) 1 (List.map (Value.int .u8) v3.2.2.out), .v (.int .i64 v3.2.2.most), .v (.int .i64 v3.2.2.blocks)]]) hio rfl rfl (.tmp _ _ .nil) rfl rfl hargs0 rfl
   ·have h := cond_f hb4 h
    refine ht_skip ?_
    refine pt_then ?_
    refine ht_seq ?_
    obtain ⟨v5, hv5, h⟩ := bind_some h
    refine ht_seqR hn (El := [_, _, _, _, _, _, _, (30, .v (.int .i64 v2.1)), (31, .v (.int .i64 v3.1)), (32, .v (.int .i64 v5)), (12, .v (.int .i64 v5))]) (init := [0, 1, 2, 3, 4, 5, 6]) (fin := [0, 1, 2, 10]) (sps := [⟨[3], [], [7], [(.slot 30)]⟩, ⟨[4], [], [8], [(.slot 31)]⟩, ⟨[7, 8], [], [9], [(.slot 32)]⟩, ⟨[9], [], [10], [(.slot 12)]⟩]) (es' := [(_, _), (_, _), (_, _), (12, .v (.int .i64 v5))]) (by kernel_rfl) rfl rfl
     ⟨st_plain rfl (op_move _ _ _ _ rfl rfl),
     st_plain rfl (op_move _ _ _ _ rfl rfl),
     st_plain rfl (op_bin _ _ _ _ _ rfl rfl (ibind (f := Value.int .i64) (Option.some.inj hv5))),
     st_plain rfl (op_assign _ _ _ _ rfl rfl),
     trivial⟩ ?_
    refine pt_then ?_
    refine ht_seq ?_
    refine ht_seq ?_
    obtain ⟨v6, hv6, h⟩ := bind_some h
    refine ht_seqR hn (El := [_, _, _, _, (34, .ptr 0 0), (35, .fl .shr 1 (List.map (Value.int .i64) dists)), (36, .tup [.v (.int .i64 v6.1), .v (.int .i64 v6.2.1)]), (0, .box 59 [.fl .shr 1 (List.map (Value.int .u8) v6.2.2.b), .v (.int .i64 v6.2.2.at_), .fl (.own 5) 1 (List.map (Value.int .u8) v6.2.2.out), .v (.int .i64 v6.2.2.most), .v (.int .i64 v6.2.2.blocks)]), (33, .tup [.v (.int .i64 v6.1), .v (.int .i64 v6.2.1)]), (37, .v (.int .i64 v6.1)), (38, .v (.int .i64 v6.2.1)), (1, .v (.int .i64 v6.1)), (11, .v (.int .i64 v6.2.1))]) (init := [0, 1, 2, 3]) (fin := [7, 2, 3, 11, 12]) (sps := [⟨[0], [], [4], [(.slot 34)]⟩, ⟨[1], [], [5], [(.slot 35)]⟩, ⟨[4, 5], [0], [7, 6], [(.slot 36), (.cell 0 0), (.cell 0 1), (.cell 0 2), (.cell 0 3), (.cell 0 4)]⟩, ⟨[], [6], [8], [(.slot 33)]⟩, ⟨[8], [], [9], [(.slot 37)]⟩, ⟨[8], [], [10], [(.slot 38)]⟩, ⟨[9], [], [11], [(.slot 1)]⟩, ⟨[10], [], [12], [(.slot 11)]⟩]) (es' := [(0, .box 59 [.fl .shr 1 (List.map (Value.int .u8) v6.2.2.b), .v (.int .i64 v6.2.2.at_), .fl (.own 5) 1 (List.map (Value.int .u8) v6.2.2.out), .v (.int .i64 v6.2.2.most), .v (.int .i64 v6.2.2.blocks)]), (_, _), (_, _), (1, .v (.int .i64 v6.1)), (11, .v (.int .i64 v6.2.1))]) (by kernel_rfl) rfl rfl
     ⟨st_plain rfl (op_move _ _ _ _ rfl rfl),
     st_plain rfl (op_move _ _ _ _ rfl rfl),
     st_plain rfl (op_callPS _ _ _ _ 36 78 [.tmp 34] [.tmp 35] _ _ _ rfl Tryd.call78 rfl rfl rfl (ok_grow_stream_symbol v3.2.2 dists _ hv6) (Nat.le_of_ble_eq_true rfl) rfl rfl rfl rfl rfl rfl rfl),
     st_plain rfl (op_move_take _ _ _ _ rfl),
     st_plain rfl (op_extract _ _ _ _ _ rfl rfl (Nat.le_of_ble_eq_true rfl) rfl rfl),
     st_plain rfl (op_extract _ _ _ _ _ rfl rfl (Nat.le_of_ble_eq_true rfl) rfl rfl),
     st_plain rfl (op_assign _ _ _ _ rfl rfl),
     st_plain rfl (op_assign _ _ _ _ rfl rfl),
     trivial⟩ ?_
    refine pt_then ?_
    refine ht_seq ?_
    refine ht_seqR hn (El := [_, _, _, _, _, (39, .v (.int .i64 v6.2.1)), (40, .v (.bool (v6.2.1 != 0)))]) (init := [0, 1, 2, 3, 4]) (fin := [0, 1, 2, 3, 4, 6]) (sps := [⟨[4], [], [5], [(.slot 39)]⟩, ⟨[5], [], [6], [(.slot 40)]⟩]) (es' := [(_, _), (_, _), (_, _), (_, _), (_, _), (40, .v (.bool (v6.2.1 != 0)))]) (by kernel_rfl) rfl rfl
     ⟨st_plain rfl (op_move _ _ _ _ rfl rfl),
     st_plain rfl (op_bin _ _ _ _ _ rfl rfl rfl),
     trivial⟩ ?_
    refine pt_then ?_
    refine ht_cond _ rfl (fun hb7 => ?_) (fun hb7 => ?_)
    ·have h := cond_t hb7 h
     refine ht_seq ?_
     refine ht_seqR hn (El := [_, _, _, _, _, _, (41, .v (.int .i64 v6.2.1)), (6, .v (.int .i64 v6.2.1))]) (init := [0, 1, 2, 3, 4, 5]) (fin := [0, 1, 7]) (sps := [⟨[4], [], [6], [(.slot 41)]⟩, ⟨[6], [], [7], [(.slot 6)]⟩]) (es' := [(_, _), (_, _), (6, .v (.int .i64 v6.2.1))]) (by kernel_rfl) rfl rfl
      ⟨st_plain rfl (op_move _ _ _ _ rfl rfl),
      st_plain rfl (op_assign _ _ _ _ rfl rfl),
      trivial⟩ ?_
     refine pt_then ?_
     refine ht_ret ?_
     refine pt_pick [2, 0, 1] (by kernel_rfl) (es' := [(_, _), (_, _), (_, _)]) rfl ?_
     refine pt_r_then ?_
     obtain rfl := Option.some.inj h
     exact pt_retP (es := [(6, .v (.int .i64 v6.2.1))]) (posts := [.box 59 [.fl .shr 1 (List.map (Value.int .u8) v6.2.2.b), .v (.int .i64 v6.2.2.at_), .fl (.own 5) 1 (List.map (Value.int .u8) v6.2.2.out), .v (.int .i64 v6.2.2.most), .v (.int .i64 v6.2.2.blocks)]]) hio rfl rfl (.tmp _ _ .nil) rfl rfl hargs0 rfl
    ·have h := cond_f hb7 h
     refine ht_skip ?_
     refine pt_then ?_
     refine ht_seq ?_
     obtain ⟨v8, hv8, h⟩ := bind_some h
     refine ht_seqR hn (El := (_ :: _ :: _ :: _ :: _ :: _ :: (43, .v (.int .i64 v6.1)) :: (44, .tup [.v (.int .i64 v8.1), .v (.int .i64 v8.2.1), .v (.int .i64 v8.2.2)]) :: (42, .tup [.v (.int .i64 v8.1), .v (.int .i64 v8.2.1), .v (.int .i64 v8.2.2)]) :: (45, .v (.int .i64 v8.1)) :: (46, .v (.int .i64 v8.2.1)) :: (47, .v (.int .i64 v8.2.2)) :: (7, .v (.int .i64 v8.1)) :: (8, .v (.int .i64 v8.2.1)) :: (11, .v (.int .i64 v8.2.2)) :: [])) (init := [0, 1, 2, 3, 4, 5]) (fin := [0, 1, 2, 12, 13, 14]) (sps := [⟨[3], [], [6], [(.slot 43)]⟩, ⟨[6], [], [7], [(.slot 44)]⟩, ⟨[], [7], [8], [(.slot 42)]⟩, ⟨[8], [], [9], [(.slot 45)]⟩, ⟨[8], [], [10], [(.slot 46)]⟩, ⟨[8], [], [11], [(.slot 47)]⟩, ⟨[9], [], [12], [(.slot 7)]⟩, ⟨[10], [], [13], [(.slot 8)]⟩, ⟨[11], [4], [14], [(.slot 11)]⟩]) (es' := [(_, _), (_, _), (_, _), (7, .v (.int .i64 v8.1)), (8, .v (.int .i64 v8.2.1)), (11, .v (.int .i64 v8.2.2))]) (by kernel_rfl) rfl rfl
      ⟨st_plain rfl (op_move _ _ _ _ rfl rfl),
      st_plain rfl (op_call _ _ 89 _ _ rfl Tryd.call89 rfl (ok_sym_DistOf v6.1 _ hv8) rfl rfl),
      st_plain rfl (op_move_take _ _ _ _ rfl),
      st_plain rfl (op_extract _ _ _ _ _ rfl rfl (Nat.le_of_ble_eq_true rfl) rfl rfl),
      st_plain rfl (op_extract _ _ _ _ _ rfl rfl (Nat.le_of_ble_eq_true rfl) rfl rfl),
      st_plain rfl (op_extract _ _ _ _ _ rfl rfl (Nat.le_of_ble_eq_true rfl) rfl rfl),
      st_plain rfl (op_assign _ _ _ _ rfl rfl),
      st_plain rfl (op_assign _ _ _ _ rfl rfl),
      st_plain rfl (LOp.drop [_] (op_assign _ _ _ _ rfl rfl)),
      trivial⟩ ?_
     refine pt_then ?_
     refine ht_seq ?_
     refine ht_seq ?_
     refine ht_seqR hn (El := [_, _, _, _, _, _, (48, .v (.int .i64 v8.2.2)), (49, .v (.bool (v8.2.2 != 0)))]) (init := [0, 1, 2, 3, 4, 5]) (fin := [0, 1, 2, 3, 4, 7]) (sps := [⟨[5], [], [6], [(.slot 48)]⟩, ⟨[6], [], [7], [(.slot 49)]⟩]) (es' := [(_, _), (_, _), (_, _), (_, _), (_, _), (49, .v (.bool (v8.2.2 != 0)))]) (by kernel_rfl) rfl rfl
      ⟨st_plain rfl (op_move _ _ _ _ rfl rfl),
      st_plain rfl (op_bin _ _ _ _ _ rfl rfl rfl),
      trivial⟩ ?_
     refine pt_then ?_
     refine ht_cond _ rfl (fun hb9 => ?_) (fun hb9 => ?_)
     ·have h := cond_t hb9 h
      refine ht_seq ?_
      refine ht_seqR hn (El := [_, _, _, _, _, _, (6, .v (.int .i64 3))]) (init := [0, 1, 2, 3, 4, 5]) (fin := [0, 1, 6]) (sps := [⟨[], [], [6], [(.slot 6)]⟩]) (es' := [(_, _), (_, _), (6, .v (.int .i64 3))]) (by kernel_rfl) rfl rfl
       ⟨st_plain rfl (op_assign _ _ _ _ rfl rfl),
       trivial⟩ ?_
      refine pt_then ?_
      refine ht_ret ?_
      refine pt_pick [2, 0, 1] (by kernel_rfl) (es' := [(_, _), (_, _), (_, _)]) rfl ?_
      refine pt_r_then ?_
      obtain rfl := Option.some.inj h
      exact pt_retP (es := [(6, .v (.int .i64 3))]) (posts := [.box 59 [.fl .shr 1 (List.map (Value.int .u8) v6.2.2.b), .v (.int .i64 v6.2.2.at_), .fl (.own 5) 1 (List.map (Value.int .u8) v6.2.2.out), .v (.int .i64 v6.2.2.most), .v (.int .i64 v6.2.2.blocks)]]) hio rfl rfl (.tmp _ _ .nil) rfl rfl hargs0 rfl
     ·have h := cond_f hb9 h
      refine ht_skip ?_
      refine pt_then ?_
      refine ht_seq ?_
      refine ht_seq ?_
      obtain ⟨v10, hv10, h⟩ := bind_some h
      refine ht_seqR hn (El := (_ :: _ :: _ :: _ :: _ :: _ :: (51, .ptr 0 0) :: (52, .v (.int .i64 v8.2.1)) :: (53, .tup [.v (.int .i64 v10.1), .v (.int .i64 v10.2.1)]) :: (0, .box 59 [.fl .shr 1 (List.map (Value.int .u8) v10.2.2.b), .v (.int .i64 v10.2.2.at_), .fl (.own 5) 1 (List.map (Value.int .u8) v10.2.2.out), .v (.int .i64 v10.2.2.most), .v (.int .i64 v10.2.2.blocks)]) :: (50, .tup [.v (.int .i64 v10.1), .v (.int .i64 v10.2.1)]) :: (54, .v (.int .i64 v10.1)) :: (55, .v (.int .i64 v10.2.1)) :: (10, .v (.int .i64 v10.1)) :: (11, .v (.int .i64 v10.2.1)) :: [])) (init := [0, 1, 2, 3, 4, 5]) (fin := [9, 1, 2, 3, 13, 14]) (sps := [⟨[0], [], [6], [(.slot 51)]⟩, ⟨[4], [], [7], [(.slot 52)]⟩, ⟨[6, 7], [0], [9, 8], [(.slot 53), (.cell 0 0), (.cell 0 1), (.cell 0 2), (.cell 0 3), (.cell 0 4)]⟩, ⟨[], [8], [10], [(.slot 50)]⟩, ⟨[10], [], [11], [(.slot 54)]⟩, ⟨[10], [], [12], [(.slot 55)]⟩, ⟨[11], [], [13], [(.slot 10)]⟩, ⟨[12], [], [14], [(.slot 11)]⟩]) (es' := [(0, .box 59 [.fl .shr 1 (List.map (Value.int .u8) v10.2.2.b), .v (.int .i64 v10.2.2.at_), .fl (.own 5) 1 (List.map (Value.int .u8) v10.2.2.out), .v (.int .i64 v10.2.2.most), .v (.int .i64 v10.2.2.blocks)]), (_, _), (_, _), (_, _), (10, .v (.int .i64 v10.1)), (11, .v (.int .i64 v10.2.1))]) (by kernel_rfl) rfl rfl
       ⟨st_plain rfl (op_move _ _ _ _ rfl rfl),
       st_plain rfl (op_move _ _ _ _ rfl rfl),
       st_plain rfl (op_callPS _ _ _ _ 53 58 [.tmp 51] [.tmp 52] _ _ _ rfl Tryd.call58 rfl rfl rfl (ok_grow_stream_number v6.2.2 v8.2.1 _ hv10) (Nat.le_of_ble_eq_true rfl) rfl rfl rfl rfl rfl rfl rfl),
       st_plain rfl (op_move_take _ _ _ _ rfl),
       st_plain rfl (op_extract _ _ _ _ _ rfl rfl (Nat.le_of_ble_eq_true rfl) rfl rfl),
       st_plain rfl (op_extract _ _ _ _ _ rfl rfl (Nat.le_of_ble_eq_true rfl) rfl rfl),
       st_plain rfl (op_assign _ _ _ _ rfl rfl),
       st_plain rfl (op_assign _ _ _ _ rfl rfl),
       trivial⟩ ?_
      refine pt_then ?_
      refine ht_seq ?_
      refine ht_seqR hn (El := [_, _, _, _, _, _, (56, .v (.int .i64 v10.2.1)), (57, .v (.bool (v10.2.1 != 0)))]) (init := [0, 1, 2, 3, 4, 5]) (fin := [0, 1, 2, 3, 4, 5, 7]) (sps := [⟨[5], [], [6], [(.slot 56)]⟩, ⟨[6], [], [7], [(.slot 57)]⟩]) (es' := [(_, _), (_, _), (_, _), (_, _), (_, _), (_, _), (57, .v (.bool (v10.2.1 != 0)))]) (by kernel_rfl) rfl rfl
       ⟨st_plain rfl (op_move _ _ _ _ rfl rfl),
       st_plain rfl (op_bin _ _ _ _ _ rfl rfl rfl),
       trivial⟩ ?_
      refine pt_then ?_
      refine ht_cond _ rfl (fun hb11 => ?_) (fun hb11 => ?_)
      ·have h := cond_t hb11 h
       refine ht_seq ?_
       refine ht_seqR hn (El := [_, _, _, _, _, _, _, (58, .v (.int .i64 v10.2.1)), (6, .v (.int .i64 v10.2.1))]) (init := [0, 1, 2, 3, 4, 5, 6]) (fin := [0, 1, 8]) (sps := [⟨[5], [], [7], [(.slot 58)]⟩, ⟨[7], [], [8], [(.slot 6)]⟩]) (es' := [(_, _), (_, _), (6, .v (.int .i64 v10.2.1))]) (by kernel_rfl) rfl rfl
        ⟨st_plain rfl (op_move _ _ _ _ rfl rfl),
        st_plain rfl (op_assign _ _ _ _ rfl rfl),
        trivial⟩ ?_
       refine pt_then ?_
       refine ht_ret ?_
       refine pt_pick [2, 0, 1] (by kernel_rfl) (es' := [(_, _), (_, _), (_, _)]) rfl ?_
       refine pt_r_then ?_
       obtain rfl := Option.some.inj h
       exact pt_retP (es := [(6, .v (.int .i64 v10.2.1))]) (posts := [.box 59 [.fl .shr 1 (List.map (Value.int .u8) v10.2.2.b), .v (.int .i64 v10.2.2.at_), .fl (.own 5) 1 (List.map (Value.int .u8) v10.2.2.out), .v (.int .i64 v10.2.2.most), .v (.int .i64 v10.2.2.blocks)]]) hio rfl rfl (.tmp _ _ .nil) rfl rfl hargs0 rfl
      ·have h := cond_f hb11 h
       refine ht_skip ?_
       refine pt_then ?_
       refine ht_seq ?_
       obtain ⟨v12, hv12, h⟩ := bind_some h
       obtain ⟨v13, hv13, h⟩ := bind_some h
       refine ht_seqR hn (El := (_ :: _ :: _ :: _ :: _ :: _ :: _ :: (59, .ptr 0 0) :: (60, .v (.int .i64 v5)) :: (61, .v (.int .i64 v8.1)) :: (62, .v (.int .i64 v10.1)) :: (63, .v (.int .i64 v12)) :: (64, .v (.int .i64 v13.1)) :: (0, .box 59 [.fl .shr 1 (List.map (Value.int .u8) v13.2.b), .v (.int .i64 v13.2.at_), .fl (.own 5) 1 (List.map (Value.int .u8) v13.2.out), .v (.int .i64 v13.2.most), .v (.int .i64 v13.2.blocks)]) :: (6, .v (.int .i64 v13.1)) :: [])) (init := [0, 1, 2, 3, 4, 5, 6]) (fin := [13, 1, 14]) (sps := [⟨[0], [], [7], [(.slot 59)]⟩, ⟨[2], [], [8], [(.slot 60)]⟩, ⟨[3], [], [9], [(.slot 61)]⟩, ⟨[4], [], [10], [(.slot 62)]⟩, ⟨[9, 10], [], [11], [(.slot 63)]⟩, ⟨[7, 8, 11], [0], [13, 12], [(.slot 64), (.cell 0 0), (.cell 0 1), (.cell 0 2), (.cell 0 3), (.cell 0 4)]⟩, ⟨[12], [], [14], [(.slot 6)]⟩]) (es' := [(0, .box 59 [.fl .shr 1 (List.map (Value.int .u8) v13.2.b), .v (.int .i64 v13.2.at_), .fl (.own 5) 1 (List.map (Value.int .u8) v13.2.out), .v (.int .i64 v13.2.most), .v (.int .i64 v13.2.blocks)]), (_, _), (6, .v (.int .i64 v13.1))]) (by kernel_rfl) rfl rfl
        ⟨st_plain rfl (op_move _ _ _ _ rfl rfl),
        st_plain rfl (op_move _ _ _ _ rfl rfl),
        st_plain rfl (op_move _ _ _ _ rfl rfl),
        st_plain rfl (op_move _ _ _ _ rfl rfl),
        st_plain rfl (op_bin _ _ _ _ _ rfl rfl (ibind (f := Value.int .i64) (Option.some.inj hv12))),
        st_plain rfl (op_callPS _ _ _ _ 64 90 [.tmp 59] [.tmp 60, .tmp 63] _ _ _ rfl Tryd.call90 rfl rfl rfl (ok_grow_stream_repeat v10.2.2 v5 v12 _ hv13) (Nat.le_of_ble_eq_true rfl) rfl rfl rfl rfl rfl rfl rfl),
        st_plain rfl (op_assign _ _ _ _ rfl rfl),
        trivial⟩ ?_
       refine pt_then ?_
       refine ht_ret ?_
       refine pt_pick [2, 0, 1] (by kernel_rfl) (es' := [(_, _), (_, _), (_, _)]) rfl ?_
       obtain rfl := Option.some.inj h
       exact pt_retP (es := [(6, .v (.int .i64 v13.1))]) (posts := [.box 59 [.fl .shr 1 (List.map (Value.int .u8) v13.2.b), .v (.int .i64 v13.2.at_), .fl (.own 5) 1 (List.map (Value.int .u8) v13.2.out), .v (.int .i64 v13.2.most), .v (.int .i64 v13.2.blocks)]]) hio rfl rfl (.tmp _ _ .nil) rfl rfl hargs0 rfl

set_option maxHeartbeats 1000000 in
theorem ok_grow_stream_tokens (s : T_grow_stream) (lits : (List Int)) (dists : (List Int)) (r : (Int × T_grow_stream)) (h : Sh.grow_stream_tokens s lits dists = some r) : FnP Tryd.prog 60 [.box 59 [.fl .shr 1 (List.map (Value.int .u8) s.b), .v (.int .i64 s.at_), .fl (.own 5) 1 (List.map (Value.int .u8) s.out), .v (.int .i64 s.most), .v (.int .i64 s.blocks)], .fl .shr 1 (List.map (Value.int .i64) lits), .fl .shr 1 (List.map (Value.int .i64) dists)] [.box 59 [.fl .shr 1 (List.map (Value.int .u8) r.2.b), .v (.int .i64 r.2.at_), .fl (.own 5) 1 (List.map (Value.int .u8) r.2.out), .v (.int .i64 r.2.most), .v (.int .i64 r.2.blocks)]] (.v (.int .i64 r.1)) := by
  unfold Sh.grow_stream_tokens at h
  refine fn_okP Tryd.func60 rfl (Nat.le_of_ble_eq_true rfl) rfl (Nat.le_of_ble_eq_true rfl) fun args0 hargs0 g0 hn hio => ?_
  refine ht_seq ?_
  refine ht_seqR hn (El := [_, _, _, _, (6, .v (.int .i64 0))]) (init := [0, 1, 2, 3]) (fin := [0, 1, 2, 3]) (sps := [⟨[], [], [4], [(.slot 6)]⟩]) (es' := [(_, _), (_, _), (_, _), (_, _)]) (by kernel_rfl) rfl rfl
   ⟨st_plain rfl (op_assign _ _ _ _ rfl rfl),
   trivial⟩ ?_
  refine pt_then ?_
  refine ht_loopS h (fun ((s39, s40, s41, s42, s43) : (List Int) × Int × (List Int) × Int × Int) => [(0, .box 59 [.fl .shr 1 (List.map (Value.int .u8) s39), .v (.int .i64 s40), .fl (.own 5) 1 (List.map (Value.int .u8) s41), .v (.int .i64 s42), .v (.int .i64 s43)]), (1, .fl .shr 1 (List.map (Value.int .i64) lits)), (2, .fl .shr 1 (List.map (Value.int .i64) dists)), (0, .v (List.getD args0 0 undef))]) (fun (() : Unit) => []) ?_ ?_
  ·rintro ⟨⟩ h
   cases h
  ·rintro u59 hl60 hr61 ⟨s39, s40, s41, s42, s43⟩ rr64 h ho62
   refine ht_block ?_
   refine ht_seq ?_
   obtain ⟨v1, hv1, h⟩ := bind_some h
   refine ht_seqR hn (El := [_, _, _, _, (10, .ptr 0 0), (11, .fl .shr 1 (List.map (Value.int .i64) lits)), (12, .tup [.v (.int .i64 v1.1), .v (.int .i64 v1.2.1)]), (0, .box 59 [.fl .shr 1 (List.map (Value.int .u8) v1.2.2.b), .v (.int .i64 v1.2.2.at_), .fl (.own 5) 1 (List.map (Value.int .u8) v1.2.2.out), .v (.int .i64 v1.2.2.most), .v (.int .i64 v1.2.2.blocks)]), (9, .tup [.v (.int .i64 v1.1), .v (.int .i64 v1.2.1)]), (13, .v (.int .i64 v1.1)), (14, .v (.int .i64 v1.2.1)), (7, .v (.int .i64 v1.1)), (8, .v (.int .i64 v1.2.1))]) (init := [0, 1, 2, 3]) (fin := [7, 1, 2, 3, 11, 12]) (sps := [⟨[0], [], [4], [(.slot 10)]⟩, ⟨[1], [], [5], [(.slot 11)]⟩, ⟨[4, 5], [0], [7, 6], [(.slot 12), (.cell 0 0), (.cell 0 1), (.cell 0 2), (.cell 0 3), (.cell 0 4)]⟩, ⟨[], [6], [8], [(.slot 9)]⟩, ⟨[8], [], [9], [(.slot 13)]⟩, ⟨[8], [], [10], [(.slot 14)]⟩, ⟨[9], [], [11], [(.slot 7)]⟩, ⟨[10], [], [12], [(.slot 8)]⟩]) (es' := [(0, .box 59 [.fl .shr 1 (List.map (Value.int .u8) v1.2.2.b), .v (.int .i64 v1.2.2.at_), .fl (.own 5) 1 (List.map (Value.int .u8) v1.2.2.out), .v (.int .i64 v1.2.2.most), .v (.int .i64 v1.2.2.blocks)]), (_, _), (_, _), (_, _), (7, .v (.int .i64 v1.1)), (8, .v (.int .i64 v1.2.1))]) (by kernel_rfl) rfl rfl
    ⟨st_plain rfl (op_move _ _ _ _ rfl rfl),
    st_plain rfl (op_move _ _ _ _ rfl rfl),
    st_plain rfl (op_callPS _ _ _ _ 12 78 [.tmp 10] [.tmp 11] _ _ _ rfl Tryd.call78 rfl rfl rfl (ok_grow_stream_symbol (T_grow_stream.mk s39 s40 s41 s42 s43) lits _ hv1) (Nat.le_of_ble_eq_true rfl) rfl rfl rfl rfl rfl rfl rfl),
    st_plain rfl (op_move_take _ _ _ _ rfl),
    st_plain rfl (op_extract _ _ _ _ _ rfl rfl (Nat.le_of_ble_eq_true rfl) rfl rfl),
    st_plain rfl (op_extract _ _ _ _ _ rfl rfl (Nat.le_of_ble_eq_true rfl) rfl rfl),
    st_plain rfl (op_assign _ _ _ _ rfl rfl),
    st_plain rfl (op_assign _ _ _ _ rfl rfl),
    trivial⟩ ?_
   refine pt_then ?_
   refine ht_seq ?_
   refine ht_seq ?_
   refine ht_seqR hn (El := [_, _, _, _, _, _, (15, .v (.int .i64 v1.2.1)), (16, .v (.bool (v1.2.1 != 0)))]) (init := [0, 1, 2, 3, 4, 5]) (fin := [0, 1, 2, 3, 4, 5, 7]) (sps := [⟨[5], [], [6], [(.slot 15)]⟩, ⟨[6], [], [7], [(.slot 16)]⟩]) (es' := [(_, _), (_, _), (_, _), (_, _), (_, _), (_, _), (16, .v (.bool (v1.2.1 != 0)))]) (by kernel_rfl) rfl rfl
    ⟨st_plain rfl (op_move _ _ _ _ rfl rfl),
    st_plain rfl (op_bin _ _ _ _ _ rfl rfl rfl),
    trivial⟩ ?_
   refine pt_then ?_
   refine ht_cond _ rfl (fun hb65 => ?_) (fun hb65 => ?_)
   ·have h := cond_t hb65 h
    refine ht_seq ?_
    refine ht_seqR hn (El := [_, _, _, _, _, _, _, (17, .v (.int .i64 v1.2.1)), (6, .v (.int .i64 v1.2.1))]) (init := [0, 1, 2, 3, 4, 5, 6]) (fin := [0, 3, 8]) (sps := [⟨[5], [], [7], [(.slot 17)]⟩, ⟨[7], [], [8], [(.slot 6)]⟩]) (es' := [(_, _), (_, _), (6, .v (.int .i64 v1.2.1))]) (by kernel_rfl) rfl rfl
     ⟨st_plain rfl (op_move _ _ _ _ rfl rfl),
     st_plain rfl (op_assign _ _ _ _ rfl rfl),
     trivial⟩ ?_
    refine pt_then ?_
    refine ht_ret ?_
    refine pt_pick [2, 0, 1] (by kernel_rfl) (es' := [(_, _), (_, _), (_, _)]) rfl ?_
    refine pt_r_then ?_
    refine pt_r_in ?_
    refine pt_r_then ?_
    refine pt_r_in ?_
    have h := hr61 _ (ho62 _ (Option.some.inj h).symm).symm
    obtain rfl := Option.some.inj h
    exact pt_retP (es := [(6, .v (.int .i64 v1.2.1))]) (posts := [.box 59 [.fl .shr 1 (List.map (Value.int .u8) v1.2.2.b), .v (.int .i64 v1.2.2.at_), .fl (.own 5) 1 (List.map (Value.int .u8) v1.2.2.out), .v (.int .i64 v1.2.2.most), .v (.int .i64 v1.2.2.blocks)]]) hio rfl rfl (.tmp _ _ .nil) rfl rfl hargs0 rfl
   ·have h := cond_f hb65 h
    refine ht_skip ?_
    refine pt_then ?_
    refine ht_seq ?_
    refine ht_joinS h (fun ((s68, s69, s70, s71, s72, s73) : (List Int) × Int × (List Int) × Int × Int × Int) => [(0, .box 59 [.fl .shr 1 (List.map (Value.int .u8) s68), .v (.int .i64 s69), .fl (.own 5) 1 (List.map (Value.int .u8) s70), .v (.int .i64 s71), .v (.int .i64 s72)]), (1, .fl .shr 1 (List.map (Value.int .i64) lits)), (2, .fl .shr 1 (List.map (Value.int .i64) dists)), (0, .v (List.getD args0 0 undef)), (8, .v (.int .i64 s73))]) ?_ ?_
    ·rintro ⟨s68, s69, s70, s71, s72, s73⟩ h
     refine pt_then ?_
     refine ht_seq ?_
     refine ht_seqR hn (El := [_, _, _, _, _, (31, .v (.int .i64 s73)), (32, .v (.bool (s73 != 0)))]) (init := [0, 1, 2, 3, 4]) (fin := [0, 1, 2, 3, 4, 6]) (sps := [⟨[4], [], [5], [(.slot 31)]⟩, ⟨[5], [], [6], [(.slot 32)]⟩]) (es' := [(_, _), (_, _), (_, _), (_, _), (_, _), (32, .v (.bool (s73 != 0)))]) (by kernel_rfl) rfl rfl
      ⟨st_plain rfl (op_move _ _ _ _ rfl rfl),
      st_plain rfl (op_bin _ _ _ _ _ rfl rfl rfl),
      trivial⟩ ?_
     refine pt_then ?_
     refine ht_cond _ rfl (fun hb79 => ?_) (fun hb79 => ?_)
     ·have h := cond_t hb79 h
      refine ht_seq ?_
      refine ht_seqR hn (El := [_, _, _, _, _, _, (33, .v (.int .i64 s73)), (6, .v (.int .i64 s73))]) (init := [0, 1, 2, 3, 4, 5]) (fin := [0, 3, 7]) (sps := [⟨[4], [], [6], [(.slot 33)]⟩, ⟨[6], [], [7], [(.slot 6)]⟩]) (es' := [(_, _), (_, _), (6, .v (.int .i64 s73))]) (by kernel_rfl) rfl rfl
       ⟨st_plain rfl (op_move _ _ _ _ rfl rfl),
       st_plain rfl (op_assign _ _ _ _ rfl rfl),
       trivial⟩ ?_
      refine pt_then ?_
      refine ht_ret ?_
      refine pt_pick [2, 0, 1] (by kernel_rfl) (es' := [(_, _), (_, _), (_, _)]) rfl ?_
      refine pt_r_in ?_
      refine pt_r_then ?_
      refine pt_r_in ?_
      have h := hr61 _ (ho62 _ (Option.some.inj h).symm).symm
      obtain rfl := Option.some.inj h
      exact pt_retP (es := [(6, .v (.int .i64 s73))]) (posts := [.box 59 [.fl .shr 1 (List.map (Value.int .u8) s68), .v (.int .i64 s69), .fl (.own 5) 1 (List.map (Value.int .u8) s70), .v (.int .i64 s71), .v (.int .i64 s72)]]) hio rfl rfl (.tmp _ _ .nil) rfl rfl hargs0 rfl
     ·have h := cond_f hb79 h
      refine ht_skip ?_
      refine pt_inb ?_
      refine pt_pick [0, 1, 2, 3] (by kernel_rfl) (es' := [(_, _), (_, _), (_, _), (_, _)]) rfl ?_
      exact pt_next _ (Option.some.inj h).symm rfl
    ·intro u74 h hl75 hr76
     refine ht_block ?_
     refine ht_seq ?_
     refine ht_seqR hn (El := [_, _, _, _, _, _, _, (23, .v (.int .i64 v1.1)), (24, .v (.bool (v1.1 == 256))), (22, .v (.bool (v1.1 == 256)))]) (init := [0, 1, 2, 3, 4, 5, 6]) (fin := [0, 1, 2, 3, 4, 9]) (sps := [⟨[4], [], [7], [(.slot 23)]⟩, ⟨[7], [], [8], [(.slot 24)]⟩, ⟨[8], [], [9], [(.slot 22)]⟩]) (es' := [(_, _), (_, _), (_, _), (_, _), (_, _), (22, .v (.bool (v1.1 == 256)))]) (by kernel_rfl) rfl rfl
      ⟨st_plain rfl (op_move _ _ _ _ rfl rfl),
      st_plain rfl (op_bin _ _ _ _ _ rfl rfl rfl),
      st_plain rfl (op_assign _ _ _ _ rfl rfl),
      trivial⟩ ?_
     refine pt_then ?_
     refine ht_cond _ rfl (fun hb77 => ?_) (fun hb77 => ?_)
     ·have h := cond_t hb77 h
      refine ht_seq ?_
      refine ht_seqR hn (El := [_, _, _, _, _, _, (6, .v (.int .i64 0))]) (init := [0, 1, 2, 3, 4, 5]) (fin := [0, 3, 6]) (sps := [⟨[], [], [6], [(.slot 6)]⟩]) (es' := [(_, _), (_, _), (6, .v (.int .i64 0))]) (by kernel_rfl) rfl rfl
       ⟨st_plain rfl (op_assign _ _ _ _ rfl rfl),
       trivial⟩ ?_
      refine pt_then ?_
      refine ht_ret ?_
      refine pt_pick [2, 0, 1] (by kernel_rfl) (es' := [(_, _), (_, _), (_, _)]) rfl ?_
      refine pt_r_in ?_
      refine pt_r_then ?_
      refine pt_r_in ?_
      refine pt_r_then ?_
      refine pt_r_in ?_
      have h := hr76 _ (Option.some.inj h).symm
      have h := hr61 _ (ho62 _ (Option.some.inj h).symm).symm
      obtain rfl := Option.some.inj h
      exact pt_retP (es := [(6, .v (.int .i64 0))]) (posts := [.box 59 [.fl .shr 1 (List.map (Value.int .u8) v1.2.2.b), .v (.int .i64 v1.2.2.at_), .fl (.own 5) 1 (List.map (Value.int .u8) v1.2.2.out), .v (.int .i64 v1.2.2.most), .v (.int .i64 v1.2.2.blocks)]]) hio rfl rfl (.tmp _ _ .nil) rfl rfl hargs0 rfl
     ·have h := cond_f hb77 h
      refine ht_seq ?_
      refine ht_seqR hn (El := [_, _, _, _, _, _, (26, .v (.int .i64 v1.1)), (27, .v (.bool ((decide (v1.1 < 256))))), (25, .v (.bool ((decide (v1.1 < 256)))))]) (init := [0, 1, 2, 3, 4, 5]) (fin := [0, 1, 2, 3, 4, 8]) (sps := [⟨[4], [], [6], [(.slot 26)]⟩, ⟨[6], [], [7], [(.slot 27)]⟩, ⟨[7], [], [8], [(.slot 25)]⟩]) (es' := [(_, _), (_, _), (_, _), (_, _), (_, _), (25, .v (.bool ((decide (v1.1 < 256)))))]) (by kernel_rfl) rfl rfl
       ⟨st_plain rfl (op_move _ _ _ _ rfl rfl),
       st_plain rfl (op_bin _ _ _ _ _ rfl rfl rfl),
       st_plain rfl (op_assign _ _ _ _ rfl rfl),
       trivial⟩ ?_
      refine pt_then ?_
      refine ht_cond _ rfl (fun hb78 => ?_) (fun hb78 => ?_)
      ·have h := cond_t hb78 h
       obtain ⟨v5, hv5, h⟩ := bind_some h
       refine ht_seqR hn (El := [_, _, _, _, _, _, (28, .ptr 0 0), (29, .v (.int .i64 v1.1)), (30, .v (.int .i64 v5.1)), (0, .box 59 [.fl .shr 1 (List.map (Value.int .u8) v5.2.b), .v (.int .i64 v5.2.at_), .fl (.own 5) 1 (List.map (Value.int .u8) v5.2.out), .v (.int .i64 v5.2.most), .v (.int .i64 v5.2.blocks)]), (8, .v (.int .i64 v5.1))]) (init := [0, 1, 2, 3, 4, 5]) (fin := [9, 1, 2, 3, 10]) (sps := [⟨[0], [], [6], [(.slot 28)]⟩, ⟨[4], [], [7], [(.slot 29)]⟩, ⟨[6, 7], [0], [9, 8], [(.slot 30), (.cell 0 0), (.cell 0 1), (.cell 0 2), (.cell 0 3), (.cell 0 4)]⟩, ⟨[8], [], [10], [(.slot 8)]⟩]) (es' := [(0, .box 59 [.fl .shr 1 (List.map (Value.int .u8) v5.2.b), .v (.int .i64 v5.2.at_), .fl (.own 5) 1 (List.map (Value.int .u8) v5.2.out), .v (.int .i64 v5.2.most), .v (.int .i64 v5.2.blocks)]), (_, _), (_, _), (_, _), (8, .v (.int .i64 v5.1))]) (by kernel_rfl) rfl rfl
        ⟨st_plain rfl (op_move _ _ _ _ rfl rfl),
        st_plain rfl (op_move _ _ _ _ rfl rfl),
        st_plain rfl (op_callPS _ _ _ _ 30 77 [.tmp 28] [.tmp 29] _ _ _ rfl Tryd.call77 rfl rfl rfl (ok_grow_stream_literal v1.2.2 v1.1 _ hv5) (Nat.le_of_ble_eq_true rfl) rfl rfl rfl rfl rfl rfl rfl),
        st_plain rfl (op_assign _ _ _ _ rfl rfl),
        trivial⟩ ?_
       refine pt_inb ?_
       exact hl75 _ (Option.some.inj h).symm
      ·have h := cond_f hb78 h
       obtain ⟨v6, hv6, h⟩ := bind_some h
       refine ht_seqR hn (El := [_, _, _, _, _, _, (18, .ptr 0 0), (19, .v (.int .i64 v1.1)), (20, .fl .shr 1 (List.map (Value.int .i64) dists)), (21, .v (.int .i64 v6.1)), (0, .box 59 [.fl .shr 1 (List.map (Value.int .u8) v6.2.b), .v (.int .i64 v6.2.at_), .fl (.own 5) 1 (List.map (Value.int .u8) v6.2.out), .v (.int .i64 v6.2.most), .v (.int .i64 v6.2.blocks)]), (8, .v (.int .i64 v6.1))]) (init := [0, 1, 2, 3, 4, 5]) (fin := [10, 1, 2, 3, 11]) (sps := [⟨[0], [], [6], [(.slot 18)]⟩, ⟨[4], [], [7], [(.slot 19)]⟩, ⟨[2], [], [8], [(.slot 20)]⟩, ⟨[6, 7, 8], [0], [10, 9], [(.slot 21), (.cell 0 0), (.cell 0 1), (.cell 0 2), (.cell 0 3), (.cell 0 4)]⟩, ⟨[9], [], [11], [(.slot 8)]⟩]) (es' := [(0, .box 59 [.fl .shr 1 (List.map (Value.int .u8) v6.2.b), .v (.int .i64 v6.2.at_), .fl (.own 5) 1 (List.map (Value.int .u8) v6.2.out), .v (.int .i64 v6.2.most), .v (.int .i64 v6.2.blocks)]), (_, _), (_, _), (_, _), (8, .v (.int .i64 v6.1))]) (by kernel_rfl) rfl rfl
        ⟨st_plain rfl (op_move _ _ _ _ rfl rfl),
        st_plain rfl (op_move _ _ _ _ rfl rfl),
        st_plain rfl (op_move _ _ _ _ rfl rfl),
        st_plain rfl (op_callPS _ _ _ _ 21 79 [.tmp 18] [.tmp 19, .tmp 20] _ _ _ rfl Tryd.call79 rfl rfl rfl (ok_grow_stream_match v1.2.2 v1.1 dists _ hv6) (Nat.le_of_ble_eq_true rfl) rfl rfl rfl rfl rfl rfl rfl),
        st_plain rfl (op_assign _ _ _ _ rfl rfl),
        trivial⟩ ?_
       refine pt_inb ?_
       exact hl75 _ (Option.some.inj h).symm

set_option maxHeartbeats 1000000 in
theorem ok_grow_stream_rowLengths (mx : Int) (s : T_grow_stream) (r : ((List Int) × Int × T_grow_stream)) (h : Sh.grow_stream_rowLengths s = some r) : FnPG Tryd.prog (GL mx) 80 [.box 59 [.fl .shr 1 (List.map (Value.int .u8) s.b), .v (.int .i64 s.at_), .fl (.own 5) 1 (List.map (Value.int .u8) s.out), .v (.int .i64 s.most), .v (.int .i64 s.blocks)]] [.box 59 [.fl .shr 1 (List.map (Value.int .u8) r.2.2.b), .v (.int .i64 r.2.2.at_), .fl (.own 5) 1 (List.map (Value.int .u8) r.2.2.out), .v (.int .i64 r.2.2.most), .v (.int .i64 r.2.2.blocks)]] (.tup [.fl (.own 3) 1 (List.map (Value.int .i64) r.1), .v (.int .i64 r.2.1)]) := by
  unfold Sh.grow_stream_rowLengths at h
  refine fn_okPG Tryd.func80 rfl (Nat.le_of_ble_eq_true rfl) rfl (Nat.le_of_ble_eq_true rfl) fun args0 hargs0 g0 hn hio => ?_
  refine ht_seq ?_
  refine ht_seqR hn (El := [_, _, _, (2, .v (.slice none 0 0)), (3, .v (.int .i64 0))]) (init := [0, 1, 2]) (fin := [0, 1, 2]) (sps := [⟨[], [], [3], [(.slot 2)]⟩, ⟨[], [], [4], [(.slot 3)]⟩]) (es' := [(_, _), (_, _), (_, _)]) (by kernel_rfl) rfl rfl
   ⟨st_plain rfl (op_assign _ _ _ _ rfl rfl),
   st_plain rfl (op_assign _ _ _ _ rfl rfl),
   trivial⟩ ?_
  refine pt_then ?_
  refine ht_seq ?_
  obtain ⟨v1, hv1, h⟩ := bind_some h
  refine ht_seqR hn (El := [_, _, _, (9, .ptr 0 0), (10, .tup [.v (.int .i64 v1.1), .v (.int .i64 v1.2.1)]), (0, .box 59 [.fl .shr 1 (List.map (Value.int .u8) v1.2.2.b), .v (.int .i64 v1.2.2.at_), .fl (.own 5) 1 (List.map (Value.int .u8) v1.2.2.out), .v (.int .i64 v1.2.2.most), .v (.int .i64 v1.2.2.blocks)]), (8, .tup [.v (.int .i64 v1.1), .v (.int .i64 v1.2.1)]), (11, .v (.int .i64 v1.1)), (12, .v (.int .i64 v1.2.1)), (4, .v (.int .i64 v1.1)), (5, .v (.int .i64 v1.2.1))]) (init := [0, 1, 2]) (fin := [5, 1, 2, 9, 10]) (sps := [⟨[0], [], [3], [(.slot 9)]⟩, ⟨[3], [0], [5, 4], [(.slot 10), (.cell 0 0), (.cell 0 1), (.cell 0 2), (.cell 0 3), (.cell 0 4)]⟩, ⟨[], [4], [6], [(.slot 8)]⟩, ⟨[6], [], [7], [(.slot 11)]⟩, ⟨[6], [], [8], [(.slot 12)]⟩, ⟨[7], [], [9], [(.slot 4)]⟩, ⟨[8], [], [10], [(.slot 5)]⟩]) (es' := [(0, .box 59 [.fl .shr 1 (List.map (Value.int .u8) v1.2.2.b), .v (.int .i64 v1.2.2.at_), .fl (.own 5) 1 (List.map (Value.int .u8) v1.2.2.out), .v (.int .i64 v1.2.2.most), .v (.int .i64 v1.2.2.blocks)]), (_, _), (_, _), (4, .v (.int .i64 v1.1)), (5, .v (.int .i64 v1.2.1))]) (by kernel_rfl) rfl rfl
   ⟨st_plain rfl (op_move _ _ _ _ rfl rfl),
   st_plain rfl (op_callPS _ _ _ _ 10 58 [.tmp 9] [_] _ _ _ rfl Tryd.call58 rfl rfl rfl (ok_grow_stream_number s 4 _ hv1) (Nat.le_of_ble_eq_true rfl) rfl rfl rfl rfl rfl rfl rfl),
   st_plain rfl (op_move_take _ _ _ _ rfl),
   st_plain rfl (op_extract _ _ _ _ _ rfl rfl (Nat.le_of_ble_eq_true rfl) rfl rfl),
   st_plain rfl (op_extract _ _ _ _ _ rfl rfl (Nat.le_of_ble_eq_true rfl) rfl rfl),
   st_plain rfl (op_assign _ _ _ _ rfl rfl),
   st_plain rfl (op_assign _ _ _ _ rfl rfl),
   trivial⟩ ?_
  refine pt_then ?_
  refine ht_seq ?_
  refine ht_seq ?_
  refine ht_seqR hn (El := [_, _, _, _, _, (13, .v (.int .i64 v1.2.1)), (14, .v (.bool (v1.2.1 != 0)))]) (init := [0, 1, 2, 3, 4]) (fin := [0, 1, 2, 3, 4, 6]) (sps := [⟨[4], [], [5], [(.slot 13)]⟩, ⟨[5], [], [6], [(.slot 14)]⟩]) (es' := [(_, _), (_, _), (_, _), (_, _), (_, _), (14, .v (.bool (v1.2.1 != 0)))]) (by kernel_rfl) rfl rfl
   ⟨st_plain rfl (op_move _ _ _ _ rfl rfl),
   st_plain rfl (op_bin _ _ _ _ _ rfl rfl rfl),
   trivial⟩ ?_
  refine pt_then ?_
  refine ht_cond _ rfl (fun hb2 => ?_) (fun hb2 => ?_)
  ·have h := cond_t hb2 h
   refine ht_seq ?_
   refine ht_seqR hn (El := [_, _, _, _, _, _, (15, .v (.int .i64 v1.2.1)), (2, .v (.slice none 0 0)), (3, .v (.int .i64 v1.2.1))]) (init := [0, 1, 2, 3, 4, 5]) (fin := [0, 1, 2, 7, 8]) (sps := [⟨[4], [], [6], [(.slot 15)]⟩, ⟨[], [], [7], [(.slot 2)]⟩, ⟨[6], [], [8], [(.slot 3)]⟩]) (es' := [(_, _), (_, _), (_, _), (2, .v (.slice none 0 0)), (3, .v (.int .i64 v1.2.1))]) (by kernel_rfl) rfl rfl
    ⟨st_plain rfl (op_move _ _ _ _ rfl rfl),
    st_plain rfl (op_assign _ _ _ _ rfl rfl),
    st_plain rfl (op_assign _ _ _ _ rfl rfl),
    trivial⟩ ?_
   refine pt_then ?_
   refine ht_ret ?_
   refine pt_pick [3, 4, 0, 1] (by kernel_rfl) (es' := [(_, _), (_, _), (_, _), (_, _)]) rfl ?_
   refine pt_sub (fs := [(2, .fl (.own 3) 1 (List.map (Value.int .i64) [])), (3, .v (.int .i64 v1.2.1)), (0, .box 59 [.fl .shr 1 (List.map (Value.int .u8) v1.2.2.b), .v (.int .i64 v1.2.2.at_), .fl (.own 5) 1 (List.map (Value.int .u8) v1.2.2.out), .v (.int .i64 v1.2.2.most), .v (.int .i64 v1.2.2.blocks)]), (0, .v (List.getD args0 0 undef))]) (.sub _ (sub_nil 3 1) rfl (.same _ (.same _ (.same _ .nil)))) ?_
   refine pt_r_then ?_
   obtain rfl := Option.some.inj h
   exact pt_retP (es := [(2, .fl (.own 3) 1 (List.map (Value.int .i64) [])), (3, .v (.int .i64 v1.2.1))]) (posts := [.box 59 [.fl .shr 1 (List.map (Value.int .u8) v1.2.2.b), .v (.int .i64 v1.2.2.at_), .fl (.own 5) 1 (List.map (Value.int .u8) v1.2.2.out), .v (.int .i64 v1.2.2.most), .v (.int .i64 v1.2.2.blocks)]]) hio rfl rfl (.tmp _ _ (.tmp _ _ .nil)) rfl rfl hargs0 rfl
  ·have h := cond_f hb2 h
   refine ht_skip ?_
   refine pt_then ?_
   refine ht_seq ?_
   obtain ⟨v3, hv3, h⟩ := bind_some h
   refine ht_seqR hn (El := [_, _, _, _, _, _, (16, .fl (.own 3) 1 (List.map (Value.int .i64) v3)), (6, .fl (.own 3) 1 (List.map (Value.int .i64) v3))]) (init := [0, 1, 2, 3, 4, 5]) (fin := [0, 1, 2, 3, 7]) (sps := [⟨[], [], [6], [(.slot 16)]⟩, ⟨[], [6], [7], [(.slot 6)]⟩]) (es' := [(_, _), (_, _), (_, _), (_, _), (6, .fl (.own 3) 1 (List.map (Value.int .i64) v3))]) (by kernel_rfl) rfl rfl
    ⟨st_plain rfl (op_mk (f := Value.int .i64) _ _ _ _ el73 (by decide) zr3 rfl rfl rfl hv3),
    st_plain rfl (op_assign_take _ _ _ _ rfl),
    trivial⟩ ?_
   refine pt_then ?_
   refine ht_seq ?_
   refine ht_seq ?_
   obtain ⟨v4, hv4, h⟩ := bind_some h
   refine ht_seqR hn (El := [_, _, _, _, _, (17, .v (.int .i64 v1.1)), (18, .v (.int .i64 v4)), (19, .v (.int .i64 0))]) (init := [0, 1, 2, 3, 4]) (fin := [0, 1, 2, 4, 6, 7]) (sps := [⟨[3], [], [5], [(.slot 17)]⟩, ⟨[5], [], [6], [(.slot 18)]⟩, ⟨[], [], [7], [(.slot 19)]⟩]) (es' := [(_, _), (_, _), (_, _), (_, _), (18, .v (.int .i64 v4)), (19, .v (.int .i64 0))]) (by kernel_rfl) rfl rfl
    ⟨st_plain rfl (op_move _ _ _ _ rfl rfl),
    st_plain rfl (op_bin _ _ _ _ _ rfl rfl (ibind (f := Value.int .i64) (Option.some.inj hv4))),
    st_plain rfl (op_move _ _ _ _ rfl rfl),
    trivial⟩ ?_
   refine pt_then ?_
   refine ht_loopS h (fun ((s22, s23, s24, s25, s26, s27, s28) : (List Int) × Int × (List Int) × Int × Int × (List Int) × Int) => [(0, .box 59 [.fl .shr 1 (List.map (Value.int .u8) s22), .v (.int .i64 s23), .fl (.own 5) 1 (List.map (Value.int .u8) s24), .v (.int .i64 s25), .v (.int .i64 s26)]), (0, .v (List.getD args0 0 undef)), (40, .glob (GL mx)), (6, .fl (.own 3) 1 (List.map (Value.int .i64) s27)), (18, .v (.int .i64 v4)), (19, .v (.int .i64 s28))]) (fun ((s31, s32, s33, s34, s35, s36) : (List Int) × Int × (List Int) × Int × Int × (List Int)) => [(0, .box 59 [.fl .shr 1 (List.map (Value.int .u8) s31), .v (.int .i64 s32), .fl (.own 5) 1 (List.map (Value.int .u8) s33), .v (.int .i64 s34), .v (.int .i64 s35)]), (0, .v (List.getD args0 0 undef)), (40, .glob (GL mx)), (6, .fl (.own 3) 1 (List.map (Value.int .i64) s36))]) ?_ ?_
   ·rintro ⟨s31, s32, s33, s34, s35, s36⟩ h
    refine pt_then ?_
    refine ht_seq ?_
    refine ht_seq ?_
    obtain ⟨v45, hv45, h⟩ := bind_some h
    refine ht_seqR hn (El := [_, _, _, _, (36, .same (.slot 6)), (37, .v (.int .i64 v45)), (38, .v (.bool (v45 != 0)))]) (init := [0, 1, 2, 3]) (fin := [0, 1, 2, 3, 6]) (sps := [⟨[3], [], [4], [(.slot 36)]⟩, ⟨[4, 3], [], [5], [(.slot 37)]⟩, ⟨[5], [], [6], [(.slot 38)]⟩]) (es' := [(_, _), (_, _), (_, _), (_, _), (38, .v (.bool (v45 != 0)))]) (by kernel_rfl) rfl rfl
     ⟨st_plain rfl (op_move _ _ _ _ rfl rfl),
     st_plain rfl (op_call _ _ 66 _ _ rfl Tryd.call66 rfl (ok_canon_Check s36 _ hv45) rfl rfl),
     st_plain rfl (op_bin _ _ _ _ _ rfl rfl rfl),
     trivial⟩ ?_
    refine pt_then ?_
    refine ht_cond _ rfl (fun hb46 => ?_) (fun hb46 => ?_)
    ·have h := cond_t hb46 h
     refine ht_seq ?_
     refine ht_seqR hn (El := [_, _, _, _, _, (2, .v (.slice none 0 0)), (3, .v (.int .i64 3))]) (init := [0, 1, 2, 3, 4]) (fin := [0, 1, 2, 5, 6]) (sps := [⟨[], [], [5], [(.slot 2)]⟩, ⟨[], [], [6], [(.slot 3)]⟩]) (es' := [(_, _), (_, _), (_, _), (2, .v (.slice none 0 0)), (3, .v (.int .i64 3))]) (by kernel_rfl) rfl rfl
      ⟨st_plain rfl (op_assign _ _ _ _ rfl rfl),
      st_plain rfl (op_assign _ _ _ _ rfl rfl),
      trivial⟩ ?_
     refine pt_then ?_
     refine ht_ret ?_
     refine pt_pick [3, 4, 0, 1] (by kernel_rfl) (es' := [(_, _), (_, _), (_, _), (_, _)]) rfl ?_
     refine pt_sub (fs := [(2, .fl (.own 3) 1 (List.map (Value.int .i64) [])), (3, .v (.int .i64 3)), (0, .box 59 [.fl .shr 1 (List.map (Value.int .u8) s31), .v (.int .i64 s32), .fl (.own 5) 1 (List.map (Value.int .u8) s33), .v (.int .i64 s34), .v (.int .i64 s35)]), (0, .v (List.getD args0 0 undef))]) (.sub _ (sub_nil 3 1) rfl (.same _ (.same _ (.same _ .nil)))) ?_
     refine pt_r_then ?_
     obtain rfl := Option.some.inj h
     exact pt_retP (es := [(2, .fl (.own 3) 1 (List.map (Value.int .i64) [])), (3, .v (.int .i64 3))]) (posts := [.box 59 [.fl .shr 1 (List.map (Value.int .u8) s31), .v (.int .i64 s32), .fl (.own 5) 1 (List.map (Value.int .u8) s33), .v (.int .i64 s34), .v (.int .i64 s35)]]) hio rfl rfl (.tmp _ _ (.tmp _ _ .nil)) rfl rfl hargs0 rfl
    ·have h := cond_f hb46 h
     refine ht_skip ?_
     refine pt_then ?_
     refine ht_seq ?_
     refine ht_seqR hn (El := [_, _, _, _, _, (39, .fl (.own 3) 1 (List.map (Value.int .i64) s36)), (2, .fl (.own 3) 1 (List.map (Value.int .i64) s36)), (3, .v (.int .i64 0))]) (init := [0, 1, 2, 3, 4]) (fin := [0, 1, 2, 6, 7]) (sps := [⟨[], [3], [5], [(.slot 39)]⟩, ⟨[], [5], [6], [(.slot 2)]⟩, ⟨[], [], [7], [(.slot 3)]⟩]) (es' := [(_, _), (_, _), (_, _), (2, .fl (.own 3) 1 (List.map (Value.int .i64) s36)), (3, .v (.int .i64 0))]) (by kernel_rfl) rfl rfl
      ⟨st_plain rfl (op_move_take _ _ _ _ rfl),
      st_plain rfl (op_assign_take _ _ _ _ rfl),
      st_plain rfl (op_assign _ _ _ _ rfl rfl),
      trivial⟩ ?_
     refine pt_then ?_
     refine ht_ret ?_
     refine pt_pick [3, 4, 0, 1] (by kernel_rfl) (es' := [(_, _), (_, _), (_, _), (_, _)]) rfl ?_
     obtain rfl := Option.some.inj h
     exact pt_retP (es := [(2, .fl (.own 3) 1 (List.map (Value.int .i64) s36)), (3, .v (.int .i64 0))]) (posts := [.box 59 [.fl .shr 1 (List.map (Value.int .u8) s31), .v (.int .i64 s32), .fl (.own 5) 1 (List.map (Value.int .u8) s33), .v (.int .i64 s34), .v (.int .i64 s35)]]) hio rfl rfl (.tmp _ _ (.tmp _ _ .nil)) rfl rfl hargs0 rfl
   ·rintro u37 hl38 hr39 ⟨s22, s23, s24, s25, s26, s27, s28⟩ rr42 h ho40
    refine ht_seq ?_
    refine ht_seqR hn (El := [_, _, _, _, _, _, (20, .v (.bool ((decide (s28 < v4)))))]) (init := [0, 1, 2, 3, 4, 5]) (fin := [0, 1, 2, 3, 4, 5, 6]) (sps := [⟨[5, 4], [], [6], [(.slot 20)]⟩]) (es' := [(_, _), (_, _), (_, _), (_, _), (_, _), (_, _), (20, .v (.bool ((decide (s28 < v4)))))]) (by kernel_rfl) rfl rfl
     ⟨st_plain rfl (op_bin _ _ _ _ _ rfl rfl rfl),
     trivial⟩ ?_
    refine pt_then ?_
    refine ht_seq ?_
    refine ht_cond _ rfl (fun hb43 => ?_) (fun hb43 => ?_)
    ·have h := cond_t hb43 h
     refine ht_skip ?_
     refine pt_then ?_
     refine ht_seq ?_
     refine ht_block ?_
     refine ht_seq ?_
     refine ht_seqR hn (El := [_, _, _, _, _, _, _, (21, .v (.int .i64 s28)), (7, .v (.int .i64 s28))]) (init := [0, 1, 2, 3, 4, 5, 6]) (fin := [0, 1, 2, 3, 4, 5, 8]) (sps := [⟨[5], [], [7], [(.slot 21)]⟩, ⟨[7], [], [8], [(.slot 7)]⟩]) (es' := [(_, _), (_, _), (_, _), (_, _), (_, _), (_, _), (7, .v (.int .i64 s28))]) (by kernel_rfl) rfl rfl
      ⟨st_plain rfl (op_move _ _ _ _ rfl rfl),
      st_plain rfl (op_assign _ _ _ _ rfl rfl),
      trivial⟩ ?_
     refine pt_then ?_
     refine ht_seq ?_
     obtain ⟨v6, hv6, h⟩ := bind_some h
     obtain ⟨v7, hv7, h⟩ := bind_some h
     obtain ⟨v8, hv8, h⟩ := bind_some h
     obtain ⟨v9, hv9, h⟩ := bind_some h
     obtain ⟨v10, hv10, h⟩ := bind_some h
     refine ht_anyR (by kernel_rfl) hn (El := (_ :: _ :: _ :: _ :: _ :: _ :: _ :: (23, .same (.slot 6)) :: (24, .v (.int .i64 s28)) :: (25, .v (.pointer (some ⟨1, (0 + v6 * 1), none⟩))) :: (26, .v (.int .i64 v7)) :: (27, .ptr 0 0) :: (28, .tup [.v (.int .i64 v8.1), .v (.int .i64 v8.2.1)]) :: (0, .box 59 [.fl .shr 1 (List.map (Value.int .u8) v8.2.2.b), .v (.int .i64 v8.2.2.at_), .fl (.own 5) 1 (List.map (Value.int .u8) v8.2.2.out), .v (.int .i64 v8.2.2.most), .v (.int .i64 v8.2.2.blocks)]) :: (22, .tup [.v (.int .i64 v8.1), .v (.int .i64 v8.2.1)]) :: (29, .v (.int .i64 v8.1)) :: (30, .v (.int .i64 v8.2.1)) :: (31, .eref (.slot 6) (v9 * 1)) :: (6, .fl (.own 3) 1 (List.map (Value.int .i64) v10)) :: (5, .v (.int .i64 v8.2.1)) :: [])) (init := [0, 1, 2, 3, 4, 5, 6]) (fin := [13, 1, 2, 18, 4, 5, 19]) (sps := [⟨[3], [], [7], [(.slot 23)]⟩, ⟨[6], [], [8], [(.slot 24)]⟩, ⟨[8], [], [9], [(.slot 25)]⟩, ⟨[9, 2], [], [10], [(.slot 26)]⟩, ⟨[0], [], [11], [(.slot 27)]⟩, ⟨[11], [0], [13, 12], [(.slot 28), (.cell 0 0), (.cell 0 1), (.cell 0 2), (.cell 0 3), (.cell 0 4)]⟩, ⟨[], [12], [14], [(.slot 22)]⟩, ⟨[14], [], [15], [(.slot 29)]⟩, ⟨[14], [], [16], [(.slot 30)]⟩, ⟨[7, 3, 10], [], [17], [(.slot 31)]⟩, ⟨[17, 15], [3], [18], []⟩, ⟨[16], [], [19], [(.slot 5)]⟩]) (es' := [(0, .box 59 [.fl .shr 1 (List.map (Value.int .u8) v8.2.2.b), .v (.int .i64 v8.2.2.at_), .fl (.own 5) 1 (List.map (Value.int .u8) v8.2.2.out), .v (.int .i64 v8.2.2.most), .v (.int .i64 v8.2.2.blocks)]), (_, _), (_, _), (6, .fl (.own 3) 1 (List.map (Value.int .i64) v10)), (_, _), (_, _), (5, .v (.int .i64 v8.2.1))]) (by kernel_rfl) rfl rfl
      ⟨st_plain rfl (op_move _ _ _ _ rfl rfl),
      st_plain rfl (op_move _ _ _ _ rfl rfl),
      st_plain rfl (op_ix_globz _ _ _ _ 19 1 0 _ 1 _ Tryd.underlying108 sz3 rfl rfl (ix_ok hv6).1 (ix_ok hv6).2),
      st_plain rfl (op_load_glob _ _ 40 1 _ _ _ Tryd.underlying3 rfl rfl rfl (gl_mem1 mx) (map_get1 hv7)),
      st_plain rfl (op_move _ _ _ _ rfl rfl),
      st_plain rfl (op_callPS _ _ _ _ 28 58 [.tmp 27] [_] _ _ _ rfl Tryd.call58 rfl rfl rfl (ok_grow_stream_number (T_grow_stream.mk s22 s23 s24 s25 s26) 3 _ hv8) (Nat.le_of_ble_eq_true rfl) rfl rfl rfl rfl rfl rfl rfl),
      st_plain rfl (op_move_take _ _ _ _ rfl),
      st_plain rfl (op_extract _ _ _ _ _ rfl rfl (Nat.le_of_ble_eq_true rfl) rfl rfl),
      st_plain rfl (op_extract _ _ _ _ _ rfl rfl (Nat.le_of_ble_eq_true rfl) rfl rfl),
      st_plain rfl (op_ix _ _ _ _ _ _ _ _ Tryd.underlying73 sz3 (by decide) rfl rfl rfl (ix_ok hv9).1 (map_lt (ix_ok hv9).2) rfl),
      st_plain rfl (op_store_e _ _ _ _ _ _ _ _ sz3 rfl rfl rfl (by decide) (map_lt (ix_ok hv9).2) ((map_set (f := Value.int .i64) _ (ix_ok hv9).2).trans (congrArg (List.map _) (Option.some.inj hv10)))),
      st_plain rfl (op_assign _ _ _ _ rfl rfl),
      trivial⟩ ?_
     refine pt_then ?_
     refine ht_seq ?_
     refine ht_seqR hn (El := [_, _, _, _, _, _, _, (32, .v (.int .i64 v8.2.1)), (33, .v (.bool (v8.2.1 != 0)))]) (init := [0, 1, 2, 3, 4, 5, 6]) (fin := [0, 1, 2, 3, 4, 5, 6, 8]) (sps := [⟨[6], [], [7], [(.slot 32)]⟩, ⟨[7], [], [8], [(.slot 33)]⟩]) (es' := [(_, _), (_, _), (_, _), (_, _), (_, _), (_, _), (_, _), (33, .v (.bool (v8.2.1 != 0)))]) (by kernel_rfl) rfl rfl
      ⟨st_plain rfl (op_move _ _ _ _ rfl rfl),
      st_plain rfl (op_bin _ _ _ _ _ rfl rfl rfl),
      trivial⟩ ?_
     refine pt_then ?_
     refine ht_cond _ rfl (fun hb44 => ?_) (fun hb44 => ?_)
     ·have h := cond_t hb44 h
      refine ht_seq ?_
      refine ht_seqR hn (El := [_, _, _, _, _, _, _, _, (34, .v (.int .i64 v8.2.1)), (2, .v (.slice none 0 0)), (3, .v (.int .i64 v8.2.1))]) (init := [0, 1, 2, 3, 4, 5, 6, 7]) (fin := [0, 1, 2, 9, 10]) (sps := [⟨[6], [], [8], [(.slot 34)]⟩, ⟨[], [], [9], [(.slot 2)]⟩, ⟨[8], [], [10], [(.slot 3)]⟩]) (es' := [(_, _), (_, _), (_, _), (2, .v (.slice none 0 0)), (3, .v (.int .i64 v8.2.1))]) (by kernel_rfl) rfl rfl
       ⟨st_plain rfl (op_move _ _ _ _ rfl rfl),
       st_plain rfl (op_assign _ _ _ _ rfl rfl),
       st_plain rfl (op_assign _ _ _ _ rfl rfl),
       trivial⟩ ?_
      refine pt_then ?_
      refine ht_ret ?_
      refine pt_pick [3, 4, 0, 1] (by kernel_rfl) (es' := [(_, _), (_, _), (_, _), (_, _)]) rfl ?_
      refine pt_sub (fs := [(2, .fl (.own 3) 1 (List.map (Value.int .i64) [])), (3, .v (.int .i64 v8.2.1)), (0, .box 59 [.fl .shr 1 (List.map (Value.int .u8) v8.2.2.b), .v (.int .i64 v8.2.2.at_), .fl (.own 5) 1 (List.map (Value.int .u8) v8.2.2.out), .v (.int .i64 v8.2.2.most), .v (.int .i64 v8.2.2.blocks)]), (0, .v (List.getD args0 0 undef))]) (.sub _ (sub_nil 3 1) rfl (.same _ (.same _ (.same _ .nil)))) ?_
      refine pt_r_in ?_
      refine pt_r_then ?_
      refine pt_r_then ?_
      refine pt_r_in ?_
      refine pt_r_then ?_
      have h := hr39 _ (ho40 _ (Option.some.inj h).symm).symm
      obtain rfl := Option.some.inj h
      exact pt_retP (es := [(2, .fl (.own 3) 1 (List.map (Value.int .i64) [])), (3, .v (.int .i64 v8.2.1))]) (posts := [.box 59 [.fl .shr 1 (List.map (Value.int .u8) v8.2.2.b), .v (.int .i64 v8.2.2.at_), .fl (.own 5) 1 (List.map (Value.int .u8) v8.2.2.out), .v (.int .i64 v8.2.2.most), .v (.int .i64 v8.2.2.blocks)]]) hio rfl rfl (.tmp _ _ (.tmp _ _ .nil)) rfl rfl hargs0 rfl
     ·have h := cond_f hb44 h
      refine ht_skip ?_
      refine pt_inb ?_
      refine pt_then ?_
      obtain ⟨v12, hv12, h⟩ := bind_some h
      refine ht_seqR hn (El := [_, _, _, _, _, _, _, _, (35, .v (.int .i64 v12)), (19, .v (.int .i64 v12))]) (init := [0, 1, 2, 3, 4, 5, 6, 7]) (fin := [0, 1, 2, 3, 4, 9]) (sps := [⟨[5], [], [8], [(.slot 35)]⟩, ⟨[8], [5], [9], [(.slot 19)]⟩]) (es' := [(_, _), (_, _), (_, _), (_, _), (_, _), (19, .v (.int .i64 v12))]) (by kernel_rfl) rfl rfl
       ⟨st_plain rfl (op_bin _ _ _ _ _ rfl rfl (ibind (f := Value.int .i64) (Option.some.inj hv12))),
       st_plain rfl (LOp.drop [_] (op_move _ _ _ _ rfl rfl)),
       trivial⟩ ?_
      exact pt_next _ (Option.some.inj h).symm rfl
    ·have h := cond_f hb43 h
     refine ht_exit ?_
     refine pt_x_then ?_
     refine pt_x_then ?_
     refine pt_x_in ?_
     refine pt_pick [0, 1, 2, 3] (by kernel_rfl) (es' := [(_, _), (_, _), (_, _), (_, _)]) rfl ?_
     exact hl38 _ (ho40 _ (Option.some.inj h).symm).symm

set_option maxHeartbeats 1000000 in
theorem ok_grow_stream_row (s : T_grow_stream) (code : (List Int)) (n : Int) (r : ((List Int) × Int × T_grow_stream)) (h : Sh.grow_stream_row s code n = some r) : FnP Tryd.prog 81 [.box 59 [.fl .shr 1 (List.map (Value.int .u8) s.b), .v (.int .i64 s.at_), .fl (.own 5) 1 (List.map (Value.int .u8) s.out), .v (.int .i64 s.most), .v (.int .i64 s.blocks)], .fl .shr 1 (List.map (Value.int .i64) code), .v (.int .i64 n)] [.box 59 [.fl .shr 1 (List.map (Value.int .u8) r.2.2.b), .v (.int .i64 r.2.2.at_), .fl (.own 5) 1 (List.map (Value.int .u8) r.2.2.out), .v (.int .i64 r.2.2.most), .v (.int .i64 r.2.2.blocks)]] (.tup [.fl (.own 3) 1 (List.map (Value.int .i64) r.1), .v (.int .i64 r.2.1)]) := by
  unfold Sh.grow_stream_row at h
  refine fn_okP Tryd.func81 rfl (Nat.le_of_ble_eq_true rfl) rfl (Nat.le_of_ble_eq_true rfl) fun args0 hargs0 g0 hn hio => ?_
  refine ht_seq ?_
  refine ht_seqR hn (El := [_, _, _, _, (6, .v (.slice none 0 0)), (7, .v (.int .i64 0))]) (init := [0, 1, 2, 3]) (fin := [0, 1, 2, 3]) (sps := [⟨[], [], [4], [(.slot 6)]⟩, ⟨[], [], [5], [(.slot 7)]⟩]) (es' := [(_, _), (_, _), (_, _), (_, _)]) (by kernel_rfl) rfl rfl
   ⟨st_plain rfl (op_assign _ _ _ _ rfl rfl),
   st_plain rfl (op_assign _ _ _ _ rfl rfl),
   trivial⟩ ?_
  refine pt_then ?_
  refine ht_seq ?_
  refine ht_seqR hn (El := [_, _, _, _, (8, .v (.slice none 0 0))]) (init := [0, 1, 2, 3]) (fin := [0, 1, 2, 3, 4]) (sps := [⟨[], [], [4], [(.slot 8)]⟩]) (es' := [(_, _), (_, _), (_, _), (_, _), (8, .v (.slice none 0 0))]) (by kernel_rfl) rfl rfl
   ⟨st_plain rfl (op_assign _ _ _ _ rfl rfl),
   trivial⟩ ?_
  refine pt_then ?_
  refine ht_seq ?_
  refine ht_sub (fs := [(0, .box 59 [.fl .shr 1 (List.map (Value.int .u8) s.b), .v (.int .i64 s.at_), .fl (.own 5) 1 (List.map (Value.int .u8) s.out), .v (.int .i64 s.most), .v (.int .i64 s.blocks)]), (1, .fl .shr 1 (List.map (Value.int .i64) code)), (2, .v (.int .i64 n)), (0, .v (List.getD args0 0 undef)), (8, .fl (.own 3) 1 (List.map (Value.int .i64) []))]) (.same _ (.same _ (.same _ (.same _ (.sub _ (sub_nil 3 1) rfl .nil))))) ?_
  refine ht_loopS h (fun ((s123, s124, s125, s126, s127, s128) : (List Int) × Int × (List Int) × Int × Int × (List Int)) => [(0, .box 59 [.fl .shr 1 (List.map (Value.int .u8) s123), .v (.int .i64 s124), .fl (.own 5) 1 (List.map (Value.int .u8) s125), .v (.int .i64 s126), .v (.int .i64 s127)]), (1, .fl .shr 1 (List.map (Value.int .i64) code)), (2, .v (.int .i64 n)), (0, .v (List.getD args0 0 undef)), (8, .fl (.own 3) 1 (List.map (Value.int .i64) s128))]) (fun ((s182, s183, s184, s185, s186, s187) : (List Int) × Int × (List Int) × Int × Int × (List Int)) => [(0, .box 59 [.fl .shr 1 (List.map (Value.int .u8) s182), .v (.int .i64 s183), .fl (.own 5) 1 (List.map (Value.int .u8) s184), .v (.int .i64 s185), .v (.int .i64 s186)]), (0, .v (List.getD args0 0 undef)), (8, .fl (.own 3) 1 (List.map (Value.int .i64) s187))]) ?_ ?_
  ·rintro ⟨s182, s183, s184, s185, s186, s187⟩ h
   refine pt_then ?_
   refine ht_seq ?_
   refine ht_seqR hn (El := [_, _, _, (72, .fl (.own 3) 1 (List.map (Value.int .i64) s187)), (6, .fl (.own 3) 1 (List.map (Value.int .i64) s187)), (7, .v (.int .i64 0))]) (init := [0, 1, 2]) (fin := [0, 1, 4, 5]) (sps := [⟨[], [2], [3], [(.slot 72)]⟩, ⟨[], [3], [4], [(.slot 6)]⟩, ⟨[], [], [5], [(.slot 7)]⟩]) (es' := [(_, _), (_, _), (6, .fl (.own 3) 1 (List.map (Value.int .i64) s187)), (7, .v (.int .i64 0))]) (by kernel_rfl) rfl rfl
    ⟨st_plain rfl (op_move_take _ _ _ _ rfl),
    st_plain rfl (op_assign_take _ _ _ _ rfl),
    st_plain rfl (op_assign _ _ _ _ rfl rfl),
    trivial⟩ ?_
   refine pt_then ?_
   refine ht_ret ?_
   refine pt_pick [2, 3, 0, 1] (by kernel_rfl) (es' := [(_, _), (_, _), (_, _), (_, _)]) rfl ?_
   obtain rfl := Option.some.inj h
   exact pt_retP (es := [(6, .fl (.own 3) 1 (List.map (Value.int .i64) s187)), (7, .v (.int .i64 0))]) (posts := [.box 59 [.fl .shr 1 (List.map (Value.int .u8) s182), .v (.int .i64 s183), .fl (.own 5) 1 (List.map (Value.int .u8) s184), .v (.int .i64 s185), .v (.int .i64 s186)]]) hio rfl rfl (.tmp _ _ (.tmp _ _ .nil)) rfl rfl hargs0 rfl
  ·rintro u188 hl189 hr190 ⟨s123, s124, s125, s126, s127, s128⟩ rr193 h ho191
   refine ht_seq ?_
   refine ht_seq ?_
   refine ht_seqR hn (El := [_, _, _, _, _, (15, .same (.slot 8)), (16, .v (.int .i64 (s128.length : Int))), (17, .v (.int .i64 n)), (18, .v (.bool ((decide ((s128.length : Int) < n)))))]) (init := [0, 1, 2, 3, 4]) (fin := [0, 1, 2, 3, 4, 8]) (sps := [⟨[4], [], [5], [(.slot 15)]⟩, ⟨[5, 4], [], [6], [(.slot 16)]⟩, ⟨[2], [], [7], [(.slot 17)]⟩, ⟨[6, 7], [], [8], [(.slot 18)]⟩]) (es' := [(_, _), (_, _), (_, _), (_, _), (_, _), (18, .v (.bool ((decide ((s128.length : Int) < n)))))]) (by kernel_rfl) rfl rfl
    ⟨st_plain rfl (op_move _ _ _ _ rfl rfl),
    st_plain rfl (op_len_fl _ _ _ Tryd.underlying73 rfl (by decide) (map_len _)),
    st_plain rfl (op_move _ _ _ _ rfl rfl),
    st_plain rfl (op_bin _ _ _ _ _ rfl rfl rfl),
    trivial⟩ ?_
   refine pt_then ?_
   refine ht_cond _ rfl (fun hb194 => ?_) (fun hb194 => ?_)
   ·have h := cond_t hb194 h
    refine ht_skip ?_
    refine pt_then ?_
    refine ht_block ?_
    refine ht_seq ?_
    obtain ⟨v2, hv2, h⟩ := bind_some h
    refine ht_seqR hn (El := (_ :: _ :: _ :: _ :: _ :: _ :: (20, .ptr 0 0) :: (21, .fl .shr 1 (List.map (Value.int .i64) code)) :: (22, .tup [.v (.int .i64 v2.1), .v (.int .i64 v2.2.1)]) :: (0, .box 59 [.fl .shr 1 (List.map (Value.int .u8) v2.2.2.b), .v (.int .i64 v2.2.2.at_), .fl (.own 5) 1 (List.map (Value.int .u8) v2.2.2.out), .v (.int .i64 v2.2.2.most), .v (.int .i64 v2.2.2.blocks)]) :: (19, .tup [.v (.int .i64 v2.1), .v (.int .i64 v2.2.1)]) :: (23, .v (.int .i64 v2.1)) :: (24, .v (.int .i64 v2.2.1)) :: (9, .v (.int .i64 v2.1)) :: (10, .v (.int .i64 v2.2.1)) :: [])) (init := [0, 1, 2, 3, 4, 5]) (fin := [9, 1, 2, 3, 4, 13, 14]) (sps := [⟨[0], [], [6], [(.slot 20)]⟩, ⟨[1], [], [7], [(.slot 21)]⟩, ⟨[6, 7], [0], [9, 8], [(.slot 22), (.cell 0 0), (.cell 0 1), (.cell 0 2), (.cell 0 3), (.cell 0 4)]⟩, ⟨[], [8], [10], [(.slot 19)]⟩, ⟨[10], [], [11], [(.slot 23)]⟩, ⟨[10], [], [12], [(.slot 24)]⟩, ⟨[11], [], [13], [(.slot 9)]⟩, ⟨[12], [], [14], [(.slot 10)]⟩]) (es' := [(0, .box 59 [.fl .shr 1 (List.map (Value.int .u8) v2.2.2.b), .v (.int .i64 v2.2.2.at_), .fl (.own 5) 1 (List.map (Value.int .u8) v2.2.2.out), .v (.int .i64 v2.2.2.most), .v (.int .i64 v2.2.2.blocks)]), (_, _), (_, _), (_, _), (_, _), (9, .v (.int .i64 v2.1)), (10, .v (.int .i64 v2.2.1))]) (by kernel_rfl) rfl rfl
     ⟨st_plain rfl (op_move _ _ _ _ rfl rfl),
     st_plain rfl (op_move _ _ _ _ rfl rfl),
     st_plain rfl (op_callPS _ _ _ _ 22 78 [.tmp 20] [.tmp 21] _ _ _ rfl Tryd.call78 rfl rfl rfl (ok_grow_stream_symbol (T_grow_stream.mk s123 s124 s125 s126 s127) code _ hv2) (Nat.le_of_ble_eq_true rfl) rfl rfl rfl rfl rfl rfl rfl),
     st_plain rfl (op_move_take _ _ _ _ rfl),
     st_plain rfl (op_extract _ _ _ _ _ rfl rfl (Nat.le_of_ble_eq_true rfl) rfl rfl),
     st_plain rfl (op_extract _ _ _ _ _ rfl rfl (Nat.le_of_ble_eq_true rfl) rfl rfl),
     st_plain rfl (op_assign _ _ _ _ rfl rfl),
     st_plain rfl (op_assign _ _ _ _ rfl rfl),
     trivial⟩ ?_
    refine pt_then ?_
    refine ht_seq ?_
    refine ht_seq ?_
    refine ht_seqR hn (El := [_, _, _, _, _, _, _, (25, .v (.int .i64 v2.2.1)), (26, .v (.bool (v2.2.1 != 0)))]) (init := [0, 1, 2, 3, 4, 5, 6]) (fin := [0, 1, 2, 3, 4, 5, 6, 8]) (sps := [⟨[6], [], [7], [(.slot 25)]⟩, ⟨[7], [], [8], [(.slot 26)]⟩]) (es' := [(_, _), (_, _), (_, _), (_, _), (_, _), (_, _), (_, _), (26, .v (.bool (v2.2.1 != 0)))]) (by kernel_rfl) rfl rfl
     ⟨st_plain rfl (op_move _ _ _ _ rfl rfl),
     st_plain rfl (op_bin _ _ _ _ _ rfl rfl rfl),
     trivial⟩ ?_
    refine pt_then ?_
    refine ht_cond _ rfl (fun hb195 => ?_) (fun hb195 => ?_)
    ·have h := cond_t hb195 h
     refine ht_seq ?_
     refine ht_seqR hn (El := [_, _, _, _, _, _, _, _, (27, .v (.int .i64 v2.2.1)), (6, .v (.slice none 0 0)), (7, .v (.int .i64 v2.2.1))]) (init := [0, 1, 2, 3, 4, 5, 6, 7]) (fin := [0, 3, 9, 10]) (sps := [⟨[6], [], [8], [(.slot 27)]⟩, ⟨[], [], [9], [(.slot 6)]⟩, ⟨[8], [], [10], [(.slot 7)]⟩]) (es' := [(_, _), (_, _), (6, .v (.slice none 0 0)), (7, .v (.int .i64 v2.2.1))]) (by kernel_rfl) rfl rfl
      ⟨st_plain rfl (op_move _ _ _ _ rfl rfl),
      st_plain rfl (op_assign _ _ _ _ rfl rfl),
      st_plain rfl (op_assign _ _ _ _ rfl rfl),
      trivial⟩ ?_
     refine pt_then ?_
     refine ht_ret ?_
     refine pt_pick [2, 3, 0, 1] (by kernel_rfl) (es' := [(_, _), (_, _), (_, _), (_, _)]) rfl ?_
     refine pt_sub (fs := [(6, .fl (.own 3) 1 (List.map (Value.int .i64) [])), (7, .v (.int .i64 v2.2.1)), (0, .box 59 [.fl .shr 1 (List.map (Value.int .u8) v2.2.2.b), .v (.int .i64 v2.2.2.at_), .fl (.own 5) 1 (List.map (Value.int .u8) v2.2.2.out), .v (.int .i64 v2.2.2.most), .v (.int .i64 v2.2.2.blocks)]), (0, .v (List.getD args0 0 undef))]) (.sub _ (sub_nil 3 1) rfl (.same _ (.same _ (.same _ .nil)))) ?_
     refine pt_r_then ?_
     refine pt_r_in ?_
     refine pt_r_then ?_
     refine pt_r_in ?_
     refine pt_r_then ?_
     have h := hr190 _ (ho191 _ (Option.some.inj h).symm).symm
     obtain rfl := Option.some.inj h
     exact pt_retP (es := [(6, .fl (.own 3) 1 (List.map (Value.int .i64) [])), (7, .v (.int .i64 v2.2.1))]) (posts := [.box 59 [.fl .shr 1 (List.map (Value.int .u8) v2.2.2.b), .v (.int .i64 v2.2.2.at_), .fl (.own 5) 1 (List.map (Value.int .u8) v2.2.2.out), .v (.int .i64 v2.2.2.most), .v (.int .i64 v2.2.2.blocks)]]) hio rfl rfl (.tmp _ _ (.tmp _ _ .nil)) rfl rfl hargs0 rfl
    ·have h := cond_f hb195 h
     refine ht_skip ?_
     refine pt_then ?_
     refine ht_seq ?_
     refine ht_seqR hn (El := [_, _, _, _, _, _, _, _, (28, .v (.int .i64 v2.1)), (11, .v (.int .i64 v2.1)), (12, .v (.int .i64 1)), (13, .v (.int .i64 0))]) (init := [0, 1, 2, 3, 4, 5, 6, 7]) (fin := [0, 1, 2, 3, 4, 5, 9, 10, 11]) (sps := [⟨[5], [], [8], [(.slot 28)]⟩, ⟨[8], [], [9], [(.slot 11)]⟩, ⟨[], [], [10], [(.slot 12)]⟩, ⟨[], [], [11], [(.slot 13)]⟩]) (es' := [(_, _), (_, _), (_, _), (_, _), (_, _), (_, _), (11, .v (.int .i64 v2.1)), (12, .v (.int .i64 1)), (13, .v (.int .i64 0))]) (by kernel_rfl) rfl rfl
      ⟨st_plain rfl (op_move _ _ _ _ rfl rfl),
      st_plain rfl (op_assign _ _ _ _ rfl rfl),
      st_plain rfl (op_assign _ _ _ _ rfl rfl),
      st_plain rfl (op_assign _ _ _ _ rfl rfl),
      trivial⟩ ?_
     refine pt_then ?_
     refine ht_seq ?_
     refine ht_joinS h (fun ((s210, s211, s212) : Int × Int × Int) => [(0, .box 59 [.fl .shr 1 (List.map (Value.int .u8) v2.2.2.b), .v (.int .i64 v2.2.2.at_), .fl (.own 5) 1 (List.map (Value.int .u8) v2.2.2.out), .v (.int .i64 v2.2.2.most), .v (.int .i64 v2.2.2.blocks)]), (1, .fl .shr 1 (List.map (Value.int .i64) code)), (2, .v (.int .i64 n)), (0, .v (List.getD args0 0 undef)), (8, .fl (.own 3) 1 (List.map (Value.int .i64) s128)), (11, .v (.int .i64 s210)), (12, .v (.int .i64 s211)), (13, .v (.int .i64 s212))]) ?_ ?_
     ·rintro ⟨s210, s211, s212⟩ h
      refine pt_then ?_
      refine ht_seq ?_
      obtain ⟨v39, hv39, h⟩ := bind_some h
      refine ht_seqR hn (El := (_ :: _ :: _ :: _ :: _ :: _ :: _ :: _ :: (46, .ptr 0 0) :: (47, .v (.int .i64 s212)) :: (48, .tup [.v (.int .i64 v39.1), .v (.int .i64 v39.2.1)]) :: (0, .box 59 [.fl .shr 1 (List.map (Value.int .u8) v39.2.2.b), .v (.int .i64 v39.2.2.at_), .fl (.own 5) 1 (List.map (Value.int .u8) v39.2.2.out), .v (.int .i64 v39.2.2.most), .v (.int .i64 v39.2.2.blocks)]) :: (45, .tup [.v (.int .i64 v39.1), .v (.int .i64 v39.2.1)]) :: (49, .v (.int .i64 v39.1)) :: (50, .v (.int .i64 v39.2.1)) :: (14, .v (.int .i64 v39.1)) :: (10, .v (.int .i64 v39.2.1)) :: [])) (init := [0, 1, 2, 3, 4, 5, 6, 7]) (fin := [11, 1, 2, 3, 4, 5, 6, 15, 16]) (sps := [⟨[0], [], [8], [(.slot 46)]⟩, ⟨[7], [], [9], [(.slot 47)]⟩, ⟨[8, 9], [0], [11, 10], [(.slot 48), (.cell 0 0), (.cell 0 1), (.cell 0 2), (.cell 0 3), (.cell 0 4)]⟩, ⟨[], [10], [12], [(.slot 45)]⟩, ⟨[12], [], [13], [(.slot 49)]⟩, ⟨[12], [], [14], [(.slot 50)]⟩, ⟨[13], [], [15], [(.slot 14)]⟩, ⟨[14], [], [16], [(.slot 10)]⟩]) (es' := [(0, .box 59 [.fl .shr 1 (List.map (Value.int .u8) v39.2.2.b), .v (.int .i64 v39.2.2.at_), .fl (.own 5) 1 (List.map (Value.int .u8) v39.2.2.out), .v (.int .i64 v39.2.2.most), .v (.int .i64 v39.2.2.blocks)]), (_, _), (_, _), (_, _), (_, _), (_, _), (_, _), (14, .v (.int .i64 v39.1)), (10, .v (.int .i64 v39.2.1))]) (by kernel_rfl) rfl rfl
       ⟨st_plain rfl (op_move _ _ _ _ rfl rfl),
       st_plain rfl (op_move _ _ _ _ rfl rfl),
       st_plain rfl (op_callPS _ _ _ _ 48 58 [.tmp 46] [.tmp 47] _ _ _ rfl Tryd.call58 rfl rfl rfl (ok_grow_stream_number v2.2.2 s212 _ hv39) (Nat.le_of_ble_eq_true rfl) rfl rfl rfl rfl rfl rfl rfl),
       st_plain rfl (op_move_take _ _ _ _ rfl),
       st_plain rfl (op_extract _ _ _ _ _ rfl rfl (Nat.le_of_ble_eq_true rfl) rfl rfl),
       st_plain rfl (op_extract _ _ _ _ _ rfl rfl (Nat.le_of_ble_eq_true rfl) rfl rfl),
       st_plain rfl (op_assign _ _ _ _ rfl rfl),
       st_plain rfl (op_assign _ _ _ _ rfl rfl),
       trivial⟩ ?_
      refine pt_then ?_
      refine ht_seq ?_
      refine ht_seq ?_
      refine ht_seqR hn (El := [_, _, _, _, _, _, _, _, _, (51, .v (.int .i64 v39.2.1)), (52, .v (.bool (v39.2.1 != 0)))]) (init := [0, 1, 2, 3, 4, 5, 6, 7, 8]) (fin := [0, 1, 2, 3, 4, 5, 6, 7, 8, 10]) (sps := [⟨[8], [], [9], [(.slot 51)]⟩, ⟨[9], [], [10], [(.slot 52)]⟩]) (es' := [(_, _), (_, _), (_, _), (_, _), (_, _), (_, _), (_, _), (_, _), (_, _), (52, .v (.bool (v39.2.1 != 0)))]) (by kernel_rfl) rfl rfl
       ⟨st_plain rfl (op_move _ _ _ _ rfl rfl),
       st_plain rfl (op_bin _ _ _ _ _ rfl rfl rfl),
       trivial⟩ ?_
      refine pt_then ?_
      refine ht_cond _ rfl (fun hb230 => ?_) (fun hb230 => ?_)
      ·have h := cond_t hb230 h
       refine ht_seq ?_
       refine ht_seqR hn (El := [_, _, _, _, _, _, _, _, _, _, (53, .v (.int .i64 v39.2.1)), (6, .v (.slice none 0 0)), (7, .v (.int .i64 v39.2.1))]) (init := [0, 1, 2, 3, 4, 5, 6, 7, 8, 9]) (fin := [0, 3, 11, 12]) (sps := [⟨[8], [], [10], [(.slot 53)]⟩, ⟨[], [], [11], [(.slot 6)]⟩, ⟨[10], [], [12], [(.slot 7)]⟩]) (es' := [(_, _), (_, _), (6, .v (.slice none 0 0)), (7, .v (.int .i64 v39.2.1))]) (by kernel_rfl) rfl rfl
        ⟨st_plain rfl (op_move _ _ _ _ rfl rfl),
        st_plain rfl (op_assign _ _ _ _ rfl rfl),
        st_plain rfl (op_assign _ _ _ _ rfl rfl),
        trivial⟩ ?_
       refine pt_then ?_
       refine ht_ret ?_
       refine pt_pick [2, 3, 0, 1] (by kernel_rfl) (es' := [(_, _), (_, _), (_, _), (_, _)]) rfl ?_
       refine pt_sub (fs := [(6, .fl (.own 3) 1 (List.map (Value.int .i64) [])), (7, .v (.int .i64 v39.2.1)), (0, .box 59 [.fl .shr 1 (List.map (Value.int .u8) v39.2.2.b), .v (.int .i64 v39.2.2.at_), .fl (.own 5) 1 (List.map (Value.int .u8) v39.2.2.out), .v (.int .i64 v39.2.2.most), .v (.int .i64 v39.2.2.blocks)]), (0, .v (List.getD args0 0 undef))]) (.sub _ (sub_nil 3 1) rfl (.same _ (.same _ (.same _ .nil)))) ?_
       refine pt_r_then ?_
       refine pt_r_in ?_
       refine pt_r_then ?_
       refine pt_r_in ?_
       refine pt_r_then ?_
       have h := hr190 _ (ho191 _ (Option.some.inj h).symm).symm
       obtain rfl := Option.some.inj h
       exact pt_retP (es := [(6, .fl (.own 3) 1 (List.map (Value.int .i64) [])), (7, .v (.int .i64 v39.2.1))]) (posts := [.box 59 [.fl .shr 1 (List.map (Value.int .u8) v39.2.2.b), .v (.int .i64 v39.2.2.at_), .fl (.own 5) 1 (List.map (Value.int .u8) v39.2.2.out), .v (.int .i64 v39.2.2.most), .v (.int .i64 v39.2.2.blocks)]]) hio rfl rfl (.tmp _ _ (.tmp _ _ .nil)) rfl rfl hargs0 rfl
      ·have h := cond_f hb230 h
       refine ht_skip ?_
       refine pt_then ?_
       refine ht_seq ?_
       refine ht_seq ?_
       obtain ⟨v41, hv41, h⟩ := bind_some h
       obtain ⟨v42, hv42, h⟩ := bind_some h
       refine ht_seqR hn (El := (_ :: _ :: _ :: _ :: _ :: _ :: _ :: _ :: _ :: _ :: (54, .v (.int .i64 s211)) :: (55, .v (.int .i64 v39.1)) :: (56, .v (.int .i64 v41)) :: (57, .v (.int .i64 n)) :: (58, .same (.slot 8)) :: (59, .v (.int .i64 (s128.length : Int))) :: (60, .v (.int .i64 v42)) :: (61, .v (.bool ((decide (v42 < v41))))) :: [])) (init := [0, 1, 2, 3, 4, 5, 6, 7, 8, 9]) (fin := [0, 1, 2, 3, 4, 5, 6, 7, 17]) (sps := [⟨[6], [], [10], [(.slot 54)]⟩, ⟨[7], [], [11], [(.slot 55)]⟩, ⟨[10, 11], [], [12], [(.slot 56)]⟩, ⟨[2], [], [13], [(.slot 57)]⟩, ⟨[4], [], [14], [(.slot 58)]⟩, ⟨[14, 4], [], [15], [(.slot 59)]⟩, ⟨[13, 15], [], [16], [(.slot 60)]⟩, ⟨[12, 16], [], [17], [(.slot 61)]⟩]) (es' := [(_, _), (_, _), (_, _), (_, _), (_, _), (_, _), (_, _), (_, _), (61, .v (.bool ((decide (v42 < v41)))))]) (by kernel_rfl) rfl rfl
        ⟨st_plain rfl (op_move _ _ _ _ rfl rfl),
        st_plain rfl (op_move _ _ _ _ rfl rfl),
        st_plain rfl (op_bin _ _ _ _ _ rfl rfl (ibind (f := Value.int .i64) (Option.some.inj hv41))),
        st_plain rfl (op_move _ _ _ _ rfl rfl),
        st_plain rfl (op_move _ _ _ _ rfl rfl),
        st_plain rfl (op_len_fl _ _ _ Tryd.underlying73 rfl (by decide) (map_len _)),
        st_plain rfl (op_bin _ _ _ _ _ rfl rfl (ibind (f := Value.int .i64) (Option.some.inj hv42))),
        st_plain rfl (op_bin _ _ _ _ _ rfl rfl rfl),
        trivial⟩ ?_
       refine pt_then ?_
       refine ht_cond _ rfl (fun hb231 => ?_) (fun hb231 => ?_)
       ·have h := cond_t hb231 h
        refine ht_seq ?_
        refine ht_seqR hn (El := [_, _, _, _, _, _, _, _, _, (6, .v (.slice none 0 0)), (7, .v (.int .i64 3))]) (init := [0, 1, 2, 3, 4, 5, 6, 7, 8]) (fin := [0, 3, 9, 10]) (sps := [⟨[], [], [9], [(.slot 6)]⟩, ⟨[], [], [10], [(.slot 7)]⟩]) (es' := [(_, _), (_, _), (6, .v (.slice none 0 0)), (7, .v (.int .i64 3))]) (by kernel_rfl) rfl rfl
         ⟨st_plain rfl (op_assign _ _ _ _ rfl rfl),
         st_plain rfl (op_assign _ _ _ _ rfl rfl),
         trivial⟩ ?_
        refine pt_then ?_
        refine ht_ret ?_
        refine pt_pick [2, 3, 0, 1] (by kernel_rfl) (es' := [(_, _), (_, _), (_, _), (_, _)]) rfl ?_
        refine pt_sub (fs := [(6, .fl (.own 3) 1 (List.map (Value.int .i64) [])), (7, .v (.int .i64 3)), (0, .box 59 [.fl .shr 1 (List.map (Value.int .u8) v39.2.2.b), .v (.int .i64 v39.2.2.at_), .fl (.own 5) 1 (List.map (Value.int .u8) v39.2.2.out), .v (.int .i64 v39.2.2.most), .v (.int .i64 v39.2.2.blocks)]), (0, .v (List.getD args0 0 undef))]) (.sub _ (sub_nil 3 1) rfl (.same _ (.same _ (.same _ .nil)))) ?_
        refine pt_r_then ?_
        refine pt_r_in ?_
        refine pt_r_then ?_
        refine pt_r_in ?_
        refine pt_r_then ?_
        have h := hr190 _ (ho191 _ (Option.some.inj h).symm).symm
        obtain rfl := Option.some.inj h
        exact pt_retP (es := [(6, .fl (.own 3) 1 (List.map (Value.int .i64) [])), (7, .v (.int .i64 3))]) (posts := [.box 59 [.fl .shr 1 (List.map (Value.int .u8) v39.2.2.b), .v (.int .i64 v39.2.2.at_), .fl (.own 5) 1 (List.map (Value.int .u8) v39.2.2.out), .v (.int .i64 v39.2.2.most), .v (.int .i64 v39.2.2.blocks)]]) hio rfl rfl (.tmp _ _ (.tmp _ _ .nil)) rfl rfl hargs0 rfl
       ·have h := cond_f hb231 h
        refine ht_skip ?_
        refine pt_then ?_
        refine ht_seq ?_
        obtain ⟨v44, hv44, h⟩ := bind_some h
        refine ht_seqR hn (El := [_, _, _, _, _, _, _, _, _, (62, .v (.int .i64 s211)), (63, .v (.int .i64 v39.1)), (64, .v (.int .i64 v44)), (65, .v (.int .i64 0))]) (init := [0, 1, 2, 3, 4, 5, 6, 7, 8]) (fin := [0, 1, 2, 3, 4, 5, 11, 12]) (sps := [⟨[6], [], [9], [(.slot 62)]⟩, ⟨[7], [], [10], [(.slot 63)]⟩, ⟨[9, 10], [], [11], [(.slot 64)]⟩, ⟨[], [], [12], [(.slot 65)]⟩]) (es' := [(_, _), (_, _), (_, _), (_, _), (_, _), (_, _), (64, .v (.int .i64 v44)), (65, .v (.int .i64 0))]) (by kernel_rfl) rfl rfl
         ⟨st_plain rfl (op_move _ _ _ _ rfl rfl),
         st_plain rfl (op_move _ _ _ _ rfl rfl),
         st_plain rfl (op_bin _ _ _ _ _ rfl rfl (ibind (f := Value.int .i64) (Option.some.inj hv44))),
         st_plain rfl (op_move _ _ _ _ rfl rfl),
         trivial⟩ ?_
        refine pt_then ?_
        refine ht_loopS h (fun ((s236, s237) : (List Int) × Int) => [(0, .box 59 [.fl .shr 1 (List.map (Value.int .u8) v39.2.2.b), .v (.int .i64 v39.2.2.at_), .fl (.own 5) 1 (List.map (Value.int .u8) v39.2.2.out), .v (.int .i64 v39.2.2.most), .v (.int .i64 v39.2.2.blocks)]), (1, .fl .shr 1 (List.map (Value.int .i64) code)), (2, .v (.int .i64 n)), (0, .v (List.getD args0 0 undef)), (8, .fl (.own 3) 1 (List.map (Value.int .i64) s236)), (11, .v (.int .i64 s210)), (64, .v (.int .i64 v44)), (65, .v (.int .i64 s237))]) (fun (s239 : (List Int)) => [(0, .box 59 [.fl .shr 1 (List.map (Value.int .u8) v39.2.2.b), .v (.int .i64 v39.2.2.at_), .fl (.own 5) 1 (List.map (Value.int .u8) v39.2.2.out), .v (.int .i64 v39.2.2.most), .v (.int .i64 v39.2.2.blocks)]), (1, .fl .shr 1 (List.map (Value.int .i64) code)), (2, .v (.int .i64 n)), (0, .v (List.getD args0 0 undef)), (8, .fl (.own 3) 1 (List.map (Value.int .i64) s239))]) ?_ ?_
        ·rintro s239 h
         refine pt_inb ?_
         exact pt_next _ (Option.some.inj h).symm rfl
        ·rintro u240 hl241 hr242 ⟨s236, s237⟩ rr245 h ho243
         refine ht_seq ?_
         refine ht_seqR hn (El := [_, _, _, _, _, _, _, _, (66, .v (.bool ((decide (s237 < v44)))))]) (init := [0, 1, 2, 3, 4, 5, 6, 7]) (fin := [0, 1, 2, 3, 4, 5, 6, 7, 8]) (sps := [⟨[7, 6], [], [8], [(.slot 66)]⟩]) (es' := [(_, _), (_, _), (_, _), (_, _), (_, _), (_, _), (_, _), (_, _), (66, .v (.bool ((decide (s237 < v44)))))]) (by kernel_rfl) rfl rfl
          ⟨st_plain rfl (op_bin _ _ _ _ _ rfl rfl rfl),
          trivial⟩ ?_
         refine pt_then ?_
         refine ht_seq ?_
         refine ht_cond _ rfl (fun hb246 => ?_) (fun hb246 => ?_)
         ·have h := cond_t hb246 h
          refine ht_skip ?_
          refine pt_then ?_
          refine ht_seq ?_
          refine ht_block ?_
          obtain ⟨v46, hv46, h⟩ := bind_some h
          refine ht_seqR hn (El := (_ :: _ :: _ :: _ :: _ :: _ :: _ :: _ :: _ :: (67, .fl (.own 3) 1 (List.map (Value.int .i64) s236)) :: (68, .v (.int .i64 s210)) :: (69, .fl (.own 3) 1 (List.map (Value.int .i64) [s210])) :: (70, .fl (.own 3) 1 (List.map (Value.int .i64) v46)) :: (67, .any) :: (8, .fl (.own 3) 1 (List.map (Value.int .i64) v46)) :: [])) (init := [0, 1, 2, 3, 4, 5, 6, 7, 8]) (fin := [0, 1, 2, 3, 5, 6, 7, 14]) (sps := [⟨[], [4], [9], [(.slot 67)]⟩, ⟨[5], [], [10], [(.slot 68)]⟩, ⟨[10], [], [11], [(.slot 69)]⟩, ⟨[11], [9], [13, 12], [(.slot 70)]⟩, ⟨[], [12], [14], [(.slot 8)]⟩]) (es' := [(_, _), (_, _), (_, _), (_, _), (_, _), (_, _), (_, _), (8, .fl (.own 3) 1 (List.map (Value.int .i64) v46))]) (by kernel_rfl) rfl rfl
           ⟨st_plain rfl (op_move_take _ _ _ _ rfl),
           st_plain rfl (op_move _ _ _ _ rfl rfl),
           st_plain rfl (op_buildSlice _ _ 1 (.int .i64 0) (List.map (Value.int .i64) [s210]) [(0, .int .i64 s210)] Tryd.underlying73 sz3 zr3 (fun _ V w o a hv hes => by have e0 := rd_v hv hes (x := .tmp 68) rfl; simp only [List.map_toArray, List.map_cons, List.map_nil, e0]; try rfl) (litfill (by simp [Instr.fill, Value.cells]; rfl) (by simp [List.range, List.range.loop] <;> rfl)) (by simp [Value.oneCell']) rfl (by decide) (by decide) (by decide)),
           st_plain rfl (op_app _ _ _ _ _ el73 rfl rfl (map_len _) (map_len _) hv46 ((List.map_append).symm.trans (congrArg (List.map _) (app_eq hv46)))),
           st_plain rfl (op_assign_take _ _ _ _ rfl),
           trivial⟩ ?_
          refine pt_inb ?_
          refine pt_then ?_
          obtain ⟨v47, hv47, h⟩ := bind_some h
          refine ht_seqR hn (El := [_, _, _, _, _, _, _, _, (71, .v (.int .i64 v47)), (65, .v (.int .i64 v47))]) (init := [0, 1, 2, 3, 4, 5, 6, 7]) (fin := [0, 1, 2, 3, 4, 5, 7, 9]) (sps := [⟨[6], [], [8], [(.slot 71)]⟩, ⟨[8], [6], [9], [(.slot 65)]⟩]) (es' := [(_, _), (_, _), (_, _), (_, _), (_, _), (_, _), (_, _), (65, .v (.int .i64 v47))]) (by kernel_rfl) rfl rfl
           ⟨st_plain rfl (op_bin _ _ _ _ _ rfl rfl (ibind (f := Value.int .i64) (Option.some.inj hv47))),
           st_plain rfl (LOp.drop [_] (op_move _ _ _ _ rfl rfl)),
           trivial⟩ ?_
          refine pt_pick [0, 1, 2, 3, 6, 4, 5, 7] (by kernel_rfl) (es' := [(_, _), (_, _), (_, _), (_, _), (_, _), (_, _), (_, _), (_, _)]) rfl ?_
          exact pt_next _ (Option.some.inj h).symm rfl
         ·have h := cond_f hb246 h
          refine ht_exit ?_
          refine pt_x_then ?_
          refine pt_x_then ?_
          refine pt_x_in ?_
          refine pt_pick [0, 1, 2, 3, 4] (by kernel_rfl) (es' := [(_, _), (_, _), (_, _), (_, _), (_, _)]) rfl ?_
          exact hl241 _ (ho243 _ (Option.some.inj h).symm).symm
     ·intro u213 h hl214 hr215
      refine ht_seq ?_
      refine ht_seqR hn (El := [_, _, _, _, _, _, _, _, _, (29, .v (.int .i64 v2.1))]) (init := [0, 1, 2, 3, 4, 5, 6, 7, 8]) (fin := [0, 1, 2, 3, 4, 6, 7, 8, 9]) (sps := [⟨[5], [], [9], [(.slot 29)]⟩]) (es' := [(_, _), (_, _), (_, _), (_, _), (_, _), (_, _), (_, _), (_, _), (29, .v (.int .i64 v2.1))]) (by kernel_rfl) rfl rfl
       ⟨st_plain rfl (op_move _ _ _ _ rfl rfl),
       trivial⟩ ?_
      refine pt_then ?_
      refine ht_joinS h (fun ((s220, s221, s222) : Int × Int × Int) => [(0, .box 59 [.fl .shr 1 (List.map (Value.int .u8) v2.2.2.b), .v (.int .i64 v2.2.2.at_), .fl (.own 5) 1 (List.map (Value.int .u8) v2.2.2.out), .v (.int .i64 v2.2.2.most), .v (.int .i64 v2.2.2.blocks)]), (1, .fl .shr 1 (List.map (Value.int .i64) code)), (2, .v (.int .i64 n)), (0, .v (List.getD args0 0 undef)), (8, .fl (.own 3) 1 (List.map (Value.int .i64) s128)), (11, .v (.int .i64 s220)), (12, .v (.int .i64 s221)), (13, .v (.int .i64 s222))]) ?_ ?_
      ·rintro ⟨s220, s221, s222⟩ h
       exact hl214 _ (Option.some.inj h).symm
      ·intro u223 h hl224 hr225
       refine ht_block ?_
       refine ht_seq ?_
       refine ht_seqR hn (El := [_, _, _, _, _, _, _, _, _, (31, .v (.bool (v2.1 == 16))), (30, .v (.bool (v2.1 == 16)))]) (init := [0, 1, 2, 3, 4, 5, 6, 7, 8]) (fin := [0, 1, 2, 3, 4, 5, 6, 7, 8, 10]) (sps := [⟨[8], [], [9], [(.slot 31)]⟩, ⟨[9], [], [10], [(.slot 30)]⟩]) (es' := [(_, _), (_, _), (_, _), (_, _), (_, _), (_, _), (_, _), (_, _), (_, _), (30, .v (.bool (v2.1 == 16)))]) (by kernel_rfl) rfl rfl
        ⟨st_plain rfl (op_bin _ _ _ _ _ rfl rfl rfl),
        st_plain rfl (op_assign _ _ _ _ rfl rfl),
        trivial⟩ ?_
       refine pt_then ?_
       refine ht_cond _ rfl (fun hb226 => ?_) (fun hb226 => ?_)
       ·have h := cond_t hb226 h
        refine ht_seq ?_
        refine ht_seq ?_
        refine ht_seqR hn (El := [_, _, _, _, _, _, _, _, _, _, (32, .same (.slot 8)), (33, .v (.int .i64 (s128.length : Int))), (34, .v (.bool (((s128.length : Int) == 0))))]) (init := [0, 1, 2, 3, 4, 5, 6, 7, 8, 9]) (fin := [0, 1, 2, 3, 4, 12]) (sps := [⟨[4], [], [10], [(.slot 32)]⟩, ⟨[10, 4], [], [11], [(.slot 33)]⟩, ⟨[11], [], [12], [(.slot 34)]⟩]) (es' := [(_, _), (_, _), (_, _), (_, _), (_, _), (34, .v (.bool (((s128.length : Int) == 0))))]) (by kernel_rfl) rfl rfl
         ⟨st_plain rfl (op_move _ _ _ _ rfl rfl),
         st_plain rfl (op_len_fl _ _ _ Tryd.underlying73 rfl (by decide) (map_len _)),
         st_plain rfl (op_bin _ _ _ _ _ rfl rfl rfl),
         trivial⟩ ?_
        refine pt_then ?_
        refine ht_cond _ rfl (fun hb227 => ?_) (fun hb227 => ?_)
        ·have h := cond_t hb227 h
         refine ht_seq ?_
         refine ht_seqR hn (El := [_, _, _, _, _, _, (6, .v (.slice none 0 0)), (7, .v (.int .i64 3))]) (init := [0, 1, 2, 3, 4, 5]) (fin := [0, 3, 6, 7]) (sps := [⟨[], [], [6], [(.slot 6)]⟩, ⟨[], [], [7], [(.slot 7)]⟩]) (es' := [(_, _), (_, _), (6, .v (.slice none 0 0)), (7, .v (.int .i64 3))]) (by kernel_rfl) rfl rfl
          ⟨st_plain rfl (op_assign _ _ _ _ rfl rfl),
          st_plain rfl (op_assign _ _ _ _ rfl rfl),
          trivial⟩ ?_
         refine pt_then ?_
         refine ht_ret ?_
         refine pt_pick [2, 3, 0, 1] (by kernel_rfl) (es' := [(_, _), (_, _), (_, _), (_, _)]) rfl ?_
         refine pt_sub (fs := [(6, .fl (.own 3) 1 (List.map (Value.int .i64) [])), (7, .v (.int .i64 3)), (0, .box 59 [.fl .shr 1 (List.map (Value.int .u8) v2.2.2.b), .v (.int .i64 v2.2.2.at_), .fl (.own 5) 1 (List.map (Value.int .u8) v2.2.2.out), .v (.int .i64 v2.2.2.most), .v (.int .i64 v2.2.2.blocks)]), (0, .v (List.getD args0 0 undef))]) (.sub _ (sub_nil 3 1) rfl (.same _ (.same _ (.same _ .nil)))) ?_
         refine pt_r_then ?_
         refine pt_r_in ?_
         refine pt_r_then ?_
         refine pt_r_in ?_
         refine pt_r_then ?_
         refine pt_r_in ?_
         refine pt_r_then ?_
         have h := hr225 _ (Option.some.inj h).symm
         have h := hr215 _ (Option.some.inj h).symm
         have h := hr190 _ (ho191 _ (Option.some.inj h).symm).symm
         obtain rfl := Option.some.inj h
         exact pt_retP (es := [(6, .fl (.own 3) 1 (List.map (Value.int .i64) [])), (7, .v (.int .i64 3))]) (posts := [.box 59 [.fl .shr 1 (List.map (Value.int .u8) v2.2.2.b), .v (.int .i64 v2.2.2.at_), .fl (.own 5) 1 (List.map (Value.int .u8) v2.2.2.out), .v (.int .i64 v2.2.2.most), .v (.int .i64 v2.2.2.blocks)]]) hio rfl rfl (.tmp _ _ (.tmp _ _ .nil)) rfl rfl hargs0 rfl
        ·have h := cond_f hb227 h
         refine ht_skip ?_
         refine pt_then ?_
         obtain ⟨v6, hv6, h⟩ := bind_some h
         obtain ⟨v72, hv72, h⟩ := bind_some h
         obtain ⟨v73, hv73, h⟩ := bind_some h
         refine ht_seqR hn (El := (_ :: _ :: _ :: _ :: _ :: _ :: (35, .same (.slot 8)) :: (36, .same (.slot 8)) :: (37, .v (.int .i64 (s128.length : Int))) :: (38, .v (.int .i64 v6)) :: (39, .eref (.slot 8) (v72 * 1)) :: (40, .v (.int .i64 v73)) :: (11, .v (.int .i64 v73)) :: (12, .v (.int .i64 3)) :: (13, .v (.int .i64 2)) :: [])) (init := [0, 1, 2, 3, 4, 5]) (fin := [0, 1, 2, 3, 4, 12, 13, 14]) (sps := [⟨[4], [], [6], [(.slot 35)]⟩, ⟨[4], [], [7], [(.slot 36)]⟩, ⟨[7, 4], [], [8], [(.slot 37)]⟩, ⟨[8], [], [9], [(.slot 38)]⟩, ⟨[6, 4, 9], [], [10], [(.slot 39)]⟩, ⟨[10, 4], [], [11], [(.slot 40)]⟩, ⟨[11], [], [12], [(.slot 11)]⟩, ⟨[], [], [13], [(.slot 12)]⟩, ⟨[], [], [14], [(.slot 13)]⟩]) (es' := [(_, _), (_, _), (_, _), (_, _), (_, _), (11, .v (.int .i64 v73)), (12, .v (.int .i64 3)), (13, .v (.int .i64 2))]) (by kernel_rfl) rfl rfl
          ⟨st_plain rfl (op_move _ _ _ _ rfl rfl),
          st_plain rfl (op_move _ _ _ _ rfl rfl),
          st_plain rfl (op_len_fl _ _ _ Tryd.underlying73 rfl (by decide) (map_len _)),
          st_plain rfl (op_bin _ _ _ _ _ rfl rfl (ibind (f := Value.int .i64) (Option.some.inj hv6))),
          st_plain rfl (op_ix _ _ _ _ _ _ _ _ Tryd.underlying73 sz3 (by decide) rfl rfl rfl (ix_ok hv72).1 (map_lt (ix_ok hv72).2) rfl),
          st_plain rfl (op_load_e _ _ _ _ _ _ Tryd.underlying3 rfl rfl rfl (map_get hv73)),
          st_plain rfl (op_assign _ _ _ _ rfl rfl),
          st_plain rfl (op_assign _ _ _ _ rfl rfl),
          st_plain rfl (op_assign _ _ _ _ rfl rfl),
          trivial⟩ ?_
         refine pt_inb ?_
         exact hl224 _ (Option.some.inj h).symm
       ·have h := cond_f hb226 h
        refine ht_seq ?_
        refine ht_seqR hn (El := [_, _, _, _, _, _, _, _, _, _, (42, .v (.bool (v2.1 == 17))), (41, .v (.bool (v2.1 == 17)))]) (init := [0, 1, 2, 3, 4, 5, 6, 7, 8, 9]) (fin := [0, 1, 2, 3, 4, 5, 6, 7, 8, 11]) (sps := [⟨[8], [], [10], [(.slot 42)]⟩, ⟨[10], [], [11], [(.slot 41)]⟩]) (es' := [(_, _), (_, _), (_, _), (_, _), (_, _), (_, _), (_, _), (_, _), (_, _), (41, .v (.bool (v2.1 == 17)))]) (by kernel_rfl) rfl rfl
         ⟨st_plain rfl (op_bin _ _ _ _ _ rfl rfl rfl),
         st_plain rfl (op_assign _ _ _ _ rfl rfl),
         trivial⟩ ?_
        refine pt_then ?_
        refine ht_cond _ rfl (fun hb228 => ?_) (fun hb228 => ?_)
        ·have h := cond_t hb228 h
         refine ht_seqR hn (El := [_, _, _, _, _, _, _, _, _, _, (11, .v (.int .i64 0)), (12, .v (.int .i64 3)), (13, .v (.int .i64 3))]) (init := [0, 1, 2, 3, 4, 5, 6, 7, 8, 9]) (fin := [0, 1, 2, 3, 4, 10, 11, 12]) (sps := [⟨[], [5], [10], [(.slot 11)]⟩, ⟨[], [6], [11], [(.slot 12)]⟩, ⟨[], [7], [12], [(.slot 13)]⟩]) (es' := [(_, _), (_, _), (_, _), (_, _), (_, _), (11, .v (.int .i64 0)), (12, .v (.int .i64 3)), (13, .v (.int .i64 3))]) (by kernel_rfl) rfl rfl
          ⟨st_plain rfl (LOp.drop [_] (op_assign _ _ _ _ rfl rfl)),
          st_plain rfl (LOp.drop [_] (op_assign _ _ _ _ rfl rfl)),
          st_plain rfl (LOp.drop [_] (op_assign _ _ _ _ rfl rfl)),
          trivial⟩ ?_
         refine pt_inb ?_
         exact hl224 _ (Option.some.inj h).symm
        ·have h := cond_f hb228 h
         refine ht_seq ?_
         refine ht_seqR hn (El := [_, _, _, _, _, _, _, _, _, _, (44, .v (.bool (v2.1 == 18))), (43, .v (.bool (v2.1 == 18)))]) (init := [0, 1, 2, 3, 4, 5, 6, 7, 8, 9]) (fin := [0, 1, 2, 3, 4, 5, 6, 7, 11]) (sps := [⟨[8], [], [10], [(.slot 44)]⟩, ⟨[10], [], [11], [(.slot 43)]⟩]) (es' := [(_, _), (_, _), (_, _), (_, _), (_, _), (_, _), (_, _), (_, _), (43, .v (.bool (v2.1 == 18)))]) (by kernel_rfl) rfl rfl
          ⟨st_plain rfl (op_bin _ _ _ _ _ rfl rfl rfl),
          st_plain rfl (op_assign _ _ _ _ rfl rfl),
          trivial⟩ ?_
         refine pt_then ?_
         refine ht_cond _ rfl (fun hb229 => ?_) (fun hb229 => ?_)
         ·have h := cond_t hb229 h
          refine ht_seqR hn (El := [_, _, _, _, _, _, _, _, _, (11, .v (.int .i64 0)), (12, .v (.int .i64 11)), (13, .v (.int .i64 7))]) (init := [0, 1, 2, 3, 4, 5, 6, 7, 8]) (fin := [0, 1, 2, 3, 4, 9, 10, 11]) (sps := [⟨[], [5], [9], [(.slot 11)]⟩, ⟨[], [6], [10], [(.slot 12)]⟩, ⟨[], [7], [11], [(.slot 13)]⟩]) (es' := [(_, _), (_, _), (_, _), (_, _), (_, _), (11, .v (.int .i64 0)), (12, .v (.int .i64 11)), (13, .v (.int .i64 7))]) (by kernel_rfl) rfl rfl
           ⟨st_plain rfl (LOp.drop [_] (op_assign _ _ _ _ rfl rfl)),
           st_plain rfl (LOp.drop [_] (op_assign _ _ _ _ rfl rfl)),
           st_plain rfl (LOp.drop [_] (op_assign _ _ _ _ rfl rfl)),
           trivial⟩ ?_
          refine pt_inb ?_
          exact hl224 _ (Option.some.inj h).symm
         ·have h := cond_f hb229 h
          refine ht_skip ?_
          refine pt_inb ?_
          refine pt_pick [0, 1, 2, 3, 4, 5, 6, 7] (by kernel_rfl) (es' := [(_, _), (_, _), (_, _), (_, _), (_, _), (_, _), (_, _), (_, _)]) rfl ?_
          exact hl224 _ (Option.some.inj h).symm
   ·have h := cond_f hb194 h
    refine ht_exit ?_
    refine pt_x_then ?_
    refine pt_x_then ?_
    refine pt_x_in ?_
    refine pt_pick [0, 3, 4] (by kernel_rfl) (es' := [(_, _), (_, _), (_, _)]) rfl ?_
    exact hl189 _ (ho191 _ (Option.some.inj h).symm).symm

set_option maxHeartbeats 1000000 in
theorem ok_grow_stream_dynamic (mx : Int) (s : T_grow_stream) (r : (Int × T_grow_stream)) (h : Sh.grow_stream_dynamic s = some r) : FnPG Tryd.prog (GL mx) 61 [.box 59 [.fl .shr 1 (List.map (Value.int .u8) s.b), .v (.int .i64 s.at_), .fl (.own 5) 1 (List.map (Value.int .u8) s.out), .v (.int .i64 s.most), .v (.int .i64 s.blocks)]] [.box 59 [.fl .shr 1 (List.map (Value.int .u8) r.2.b), .v (.int .i64 r.2.at_), .fl (.own 5) 1 (List.map (Value.int .u8) r.2.out), .v (.int .i64 r.2.most), .v (.int .i64 r.2.blocks)]] (.v (.int .i64 r.1)) := by
  unfold Sh.grow_stream_dynamic at h
  refine fn_okPG Tryd.func61 rfl (Nat.le_of_ble_eq_true rfl) rfl (Nat.le_of_ble_eq_true rfl) fun args0 hargs0 g0 hn hio => ?_
  refine ht_seq ?_
  refine ht_seqR hn (El := [_, _, _, (2, .v (.int .i64 0))]) (init := [0, 1, 2]) (fin := [0, 1, 2]) (sps := [⟨[], [], [3], [(.slot 2)]⟩]) (es' := [(_, _), (_, _), (_, _)]) (by kernel_rfl) rfl rfl
   ⟨st_plain rfl (op_assign _ _ _ _ rfl rfl),
   trivial⟩ ?_
  refine pt_then ?_
  refine ht_seq ?_
  obtain ⟨v1, hv1, h⟩ := bind_some h
  refine ht_seqR hn (El := [_, _, _, (9, .ptr 0 0), (10, .tup [.v (.int .i64 v1.1), .v (.int .i64 v1.2.1)]), (0, .box 59 [.fl .shr 1 (List.map (Value.int .u8) v1.2.2.b), .v (.int .i64 v1.2.2.at_), .fl (.own 5) 1 (List.map (Value.int .u8) v1.2.2.out), .v (.int .i64 v1.2.2.most), .v (.int .i64 v1.2.2.blocks)]), (8, .tup [.v (.int .i64 v1.1), .v (.int .i64 v1.2.1)]), (11, .v (.int .i64 v1.1)), (12, .v (.int .i64 v1.2.1)), (3, .v (.int .i64 v1.1)), (4, .v (.int .i64 v1.2.1))]) (init := [0, 1, 2]) (fin := [5, 1, 2, 9, 10]) (sps := [⟨[0], [], [3], [(.slot 9)]⟩, ⟨[3], [0], [5, 4], [(.slot 10), (.cell 0 0), (.cell 0 1), (.cell 0 2), (.cell 0 3), (.cell 0 4)]⟩, ⟨[], [4], [6], [(.slot 8)]⟩, ⟨[6], [], [7], [(.slot 11)]⟩, ⟨[6], [], [8], [(.slot 12)]⟩, ⟨[7], [], [9], [(.slot 3)]⟩, ⟨[8], [], [10], [(.slot 4)]⟩]) (es' := [(0, .box 59 [.fl .shr 1 (List.map (Value.int .u8) v1.2.2.b), .v (.int .i64 v1.2.2.at_), .fl (.own 5) 1 (List.map (Value.int .u8) v1.2.2.out), .v (.int .i64 v1.2.2.most), .v (.int .i64 v1.2.2.blocks)]), (_, _), (_, _), (3, .v (.int .i64 v1.1)), (4, .v (.int .i64 v1.2.1))]) (by kernel_rfl) rfl rfl
   ⟨st_plain rfl (op_move _ _ _ _ rfl rfl),
   st_plain rfl (op_callPS _ _ _ _ 10 58 [.tmp 9] [_] _ _ _ rfl Tryd.call58 rfl rfl rfl (ok_grow_stream_number s 5 _ hv1) (Nat.le_of_ble_eq_true rfl) rfl rfl rfl rfl rfl rfl rfl),
   st_plain rfl (op_move_take _ _ _ _ rfl),
   st_plain rfl (op_extract _ _ _ _ _ rfl rfl (Nat.le_of_ble_eq_true rfl) rfl rfl),
   st_plain rfl (op_extract _ _ _ _ _ rfl rfl (Nat.le_of_ble_eq_true rfl) rfl rfl),
   st_plain rfl (op_assign _ _ _ _ rfl rfl),
   st_plain rfl (op_assign _ _ _ _ rfl rfl),
   trivial⟩ ?_
  refine pt_then ?_
  refine ht_seq ?_
  refine ht_seq ?_
  refine ht_seqR hn (El := [_, _, _, _, _, (13, .v (.int .i64 v1.2.1)), (14, .v (.bool (v1.2.1 != 0)))]) (init := [0, 1, 2, 3, 4]) (fin := [0, 1, 2, 3, 4, 6]) (sps := [⟨[4], [], [5], [(.slot 13)]⟩, ⟨[5], [], [6], [(.slot 14)]⟩]) (es' := [(_, _), (_, _), (_, _), (_, _), (_, _), (14, .v (.bool (v1.2.1 != 0)))]) (by kernel_rfl) rfl rfl
   ⟨st_plain rfl (op_move _ _ _ _ rfl rfl),
   st_plain rfl (op_bin _ _ _ _ _ rfl rfl rfl),
   trivial⟩ ?_
  refine pt_then ?_
  refine ht_cond _ rfl (fun hb2 => ?_) (fun hb2 => ?_)
  ·have h := cond_t hb2 h
   refine ht_seq ?_
   refine ht_seqR hn (El := [_, _, _, _, _, _, (15, .v (.int .i64 v1.2.1)), (2, .v (.int .i64 v1.2.1))]) (init := [0, 1, 2, 3, 4, 5]) (fin := [0, 1, 2, 7]) (sps := [⟨[4], [], [6], [(.slot 15)]⟩, ⟨[6], [], [7], [(.slot 2)]⟩]) (es' := [(_, _), (_, _), (_, _), (2, .v (.int .i64 v1.2.1))]) (by kernel_rfl) rfl rfl
    ⟨st_plain rfl (op_move _ _ _ _ rfl rfl),
    st_plain rfl (op_assign _ _ _ _ rfl rfl),
    trivial⟩ ?_
   refine pt_then ?_
   refine ht_ret ?_
   refine pt_pick [3, 0, 1] (by kernel_rfl) (es' := [(_, _), (_, _), (_, _)]) rfl ?_
   refine pt_r_then ?_
   obtain rfl := Option.some.inj h
   exact pt_retP (es := [(2, .v (.int .i64 v1.2.1))]) (posts := [.box 59 [.fl .shr 1 (List.map (Value.int .u8) v1.2.2.b), .v (.int .i64 v1.2.2.at_), .fl (.own 5) 1 (List.map (Value.int .u8) v1.2.2.out), .v (.int .i64 v1.2.2.most), .v (.int .i64 v1.2.2.blocks)]]) hio rfl rfl (.tmp _ _ .nil) rfl rfl hargs0 rfl
  ·have h := cond_f hb2 h
   refine ht_skip ?_
   refine pt_then ?_
   refine ht_seq ?_
   obtain ⟨v3, hv3, h⟩ := bind_some h
   refine ht_seqR hn (El := [_, _, _, _, _, _, (17, .ptr 0 0), (18, .tup [.v (.int .i64 v3.1), .v (.int .i64 v3.2.1)]), (0, .box 59 [.fl .shr 1 (List.map (Value.int .u8) v3.2.2.b), .v (.int .i64 v3.2.2.at_), .fl (.own 5) 1 (List.map (Value.int .u8) v3.2.2.out), .v (.int .i64 v3.2.2.most), .v (.int .i64 v3.2.2.blocks)]), (16, .tup [.v (.int .i64 v3.1), .v (.int .i64 v3.2.1)]), (19, .v (.int .i64 v3.1)), (20, .v (.int .i64 v3.2.1)), (5, .v (.int .i64 v3.1)), (4, .v (.int .i64 v3.2.1))]) (init := [0, 1, 2, 3, 4, 5]) (fin := [8, 1, 2, 3, 12, 13]) (sps := [⟨[0], [], [6], [(.slot 17)]⟩, ⟨[6], [0], [8, 7], [(.slot 18), (.cell 0 0), (.cell 0 1), (.cell 0 2), (.cell 0 3), (.cell 0 4)]⟩, ⟨[], [7], [9], [(.slot 16)]⟩, ⟨[9], [], [10], [(.slot 19)]⟩, ⟨[9], [], [11], [(.slot 20)]⟩, ⟨[10], [], [12], [(.slot 5)]⟩, ⟨[11], [4], [13], [(.slot 4)]⟩]) (es' := [(0, .box 59 [.fl .shr 1 (List.map (Value.int .u8) v3.2.2.b), .v (.int .i64 v3.2.2.at_), .fl (.own 5) 1 (List.map (Value.int .u8) v3.2.2.out), .v (.int .i64 v3.2.2.most), .v (.int .i64 v3.2.2.blocks)]), (_, _), (_, _), (_, _), (5, .v (.int .i64 v3.1)), (4, .v (.int .i64 v3.2.1))]) (by kernel_rfl) rfl rfl
    ⟨st_plain rfl (op_move _ _ _ _ rfl rfl),
    st_plain rfl (op_callPS _ _ _ _ 18 58 [.tmp 17] [_] _ _ _ rfl Tryd.call58 rfl rfl rfl (ok_grow_stream_number v1.2.2 5 _ hv3) (Nat.le_of_ble_eq_true rfl) rfl rfl rfl rfl rfl rfl rfl),
    st_plain rfl (op_move_take _ _ _ _ rfl),
    st_plain rfl (op_extract _ _ _ _ _ rfl rfl (Nat.le_of_ble_eq_true rfl) rfl rfl),
    st_plain rfl (op_extract _ _ _ _ _ rfl rfl (Nat.le_of_ble_eq_true rfl) rfl rfl),
    st_plain rfl (op_assign _ _ _ _ rfl rfl),
    st_plain rfl (LOp.drop [_] (op_assign _ _ _ _ rfl rfl)),
    trivial⟩ ?_
   refine pt_then ?_
   refine ht_seq ?_
   refine ht_seq ?_
   refine ht_seqR hn (El := [_, _, _, _, _, _, (21, .v (.int .i64 v3.2.1)), (22, .v (.bool (v3.2.1 != 0)))]) (init := [0, 1, 2, 3, 4, 5]) (fin := [0, 1, 2, 3, 4, 5, 7]) (sps := [⟨[5], [], [6], [(.slot 21)]⟩, ⟨[6], [], [7], [(.slot 22)]⟩]) (es' := [(_, _), (_, _), (_, _), (_, _), (_, _), (_, _), (22, .v (.bool (v3.2.1 != 0)))]) (by kernel_rfl) rfl rfl
    ⟨st_plain rfl (op_move _ _ _ _ rfl rfl),
    st_plain rfl (op_bin _ _ _ _ _ rfl rfl rfl),
    trivial⟩ ?_
   refine pt_then ?_
   refine ht_cond _ rfl (fun hb4 => ?_) (fun hb4 => ?_)
   ·have h := cond_t hb4 h
    refine ht_seq ?_
    refine ht_seqR hn (El := [_, _, _, _, _, _, _, (23, .v (.int .i64 v3.2.1)), (2, .v (.int .i64 v3.2.1))]) (init := [0, 1, 2, 3, 4, 5, 6]) (fin := [0, 1, 2, 8]) (sps := [⟨[5], [], [7], [(.slot 23)]⟩, ⟨[7], [], [8], [(.slot 2)]⟩]) (es' := [(_, _), (_, _), (_, _), (2, .v (.int .i64 v3.2.1))]) (by kernel_rfl) rfl rfl
     ⟨st_plain rfl (op_move _ _ _ _ rfl rfl),
     st_plain rfl (op_assign _ _ _ _ rfl rfl),
     trivial⟩ ?_
    refine pt_then ?_
    refine ht_ret ?_
    refine pt_pick [3, 0, 1] (by kernel_rfl) (es' := [(_, _), (_, _), (_, _)]) rfl ?_
    refine pt_r_then ?_
    obtain rfl := Option.some.inj h
    exact pt_retP (es := [(2, .v (.int .i64 v3.2.1))]) (posts := [.box 59 [.fl .shr 1 (List.map (Value.int .u8) v3.2.2.b), .v (.int .i64 v3.2.2.at_), .fl (.own 5) 1 (List.map (Value.int .u8) v3.2.2.out), .v (.int .i64 v3.2.2.most), .v (.int .i64 v3.2.2.blocks)]]) hio rfl rfl (.tmp _ _ .nil) rfl rfl hargs0 rfl
   ·have h := cond_f hb4 h
    refine ht_skip ?_
    refine pt_then ?_
    refine ht_seq ?_
    obtain ⟨v5, hv5, h⟩ := bind_some h
    obtain ⟨v6, hv6, h⟩ := bind_some h
    refine ht_seqR hn (El := [_, _, _, _, _, _, _, (24, .v (.int .i64 v1.1)), (25, .v (.int .i64 v5)), (26, .v (.int .i64 v3.1)), (27, .v (.int .i64 v6)), (3, .v (.int .i64 v5)), (5, .v (.int .i64 v6))]) (init := [0, 1, 2, 3, 4, 5, 6]) (fin := [0, 1, 2, 11, 12]) (sps := [⟨[3], [], [7], [(.slot 24)]⟩, ⟨[7], [], [8], [(.slot 25)]⟩, ⟨[4], [], [9], [(.slot 26)]⟩, ⟨[9], [], [10], [(.slot 27)]⟩, ⟨[8], [3], [11], [(.slot 3)]⟩, ⟨[10], [4], [12], [(.slot 5)]⟩]) (es' := [(_, _), (_, _), (_, _), (3, .v (.int .i64 v5)), (5, .v (.int .i64 v6))]) (by kernel_rfl) rfl rfl
     ⟨st_plain rfl (op_move _ _ _ _ rfl rfl),
     st_plain rfl (op_bin _ _ _ _ _ rfl rfl (ibind (f := Value.int .i64) (Option.some.inj hv5))),
     st_plain rfl (op_move _ _ _ _ rfl rfl),
     st_plain rfl (op_bin _ _ _ _ _ rfl rfl (ibind (f := Value.int .i64) (Option.some.inj hv6))),
     st_plain rfl (LOp.drop [_] (op_assign _ _ _ _ rfl rfl)),
     st_plain rfl (LOp.drop [_] (op_assign _ _ _ _ rfl rfl)),
     trivial⟩ ?_
    refine pt_then ?_
    refine ht_seq ?_
    refine ht_seq ?_
    refine ht_joinS h (fun (s7 : Bool) => [(0, .box 59 [.fl .shr 1 (List.map (Value.int .u8) v3.2.2.b), .v (.int .i64 v3.2.2.at_), .fl (.own 5) 1 (List.map (Value.int .u8) v3.2.2.out), .v (.int .i64 v3.2.2.most), .v (.int .i64 v3.2.2.blocks)]), (0, .v (List.getD args0 0 undef)), (80, .glob (GL mx)), (3, .v (.int .i64 v5)), (5, .v (.int .i64 v6)), (33, .v (.bool s7))]) ?_ ?_
    ·rintro s7 h
     refine pt_then ?_
     refine ht_cond _ rfl (fun hb11 => ?_) (fun hb11 => ?_)
     ·have h := cond_t hb11 h
      refine ht_seq ?_
      refine ht_seqR hn (El := [_, _, _, _, _, _, (2, .v (.int .i64 3))]) (init := [0, 1, 2, 3, 4, 5]) (fin := [0, 1, 2, 6]) (sps := [⟨[], [], [6], [(.slot 2)]⟩]) (es' := [(_, _), (_, _), (_, _), (2, .v (.int .i64 3))]) (by kernel_rfl) rfl rfl
       ⟨st_plain rfl (op_assign _ _ _ _ rfl rfl),
       trivial⟩ ?_
      refine pt_then ?_
      refine ht_ret ?_
      refine pt_pick [3, 0, 1] (by kernel_rfl) (es' := [(_, _), (_, _), (_, _)]) rfl ?_
      refine pt_r_then ?_
      obtain rfl := Option.some.inj h
      exact pt_retP (es := [(2, .v (.int .i64 3))]) (posts := [.box 59 [.fl .shr 1 (List.map (Value.int .u8) v3.2.2.b), .v (.int .i64 v3.2.2.at_), .fl (.own 5) 1 (List.map (Value.int .u8) v3.2.2.out), .v (.int .i64 v3.2.2.most), .v (.int .i64 v3.2.2.blocks)]]) hio rfl rfl (.tmp _ _ .nil) rfl rfl hargs0 rfl
     ·have h := cond_f hb11 h
      refine ht_skip ?_
      refine pt_then ?_
      refine ht_seq ?_
      obtain ⟨v12, hv12, h⟩ := bind_some h
      refine ht_seqR hn (El := (_ :: _ :: _ :: _ :: _ :: _ :: (35, .ptr 0 0) :: (36, .tup [.fl (.own 3) 1 (List.map (Value.int .i64) v12.1), .v (.int .i64 v12.2.1)]) :: (0, .box 59 [.fl .shr 1 (List.map (Value.int .u8) v12.2.2.b), .v (.int .i64 v12.2.2.at_), .fl (.own 5) 1 (List.map (Value.int .u8) v12.2.2.out), .v (.int .i64 v12.2.2.most), .v (.int .i64 v12.2.2.blocks)]) :: (34, .tup [.fl (.own 3) 1 (List.map (Value.int .i64) v12.1), .v (.int .i64 v12.2.1)]) :: (37, .fl (.own 3) 1 (List.map (Value.int .i64) v12.1)) :: (34, .tup [.any, .v (.int .i64 v12.2.1)]) :: (38, .v (.int .i64 v12.2.1)) :: (6, .fl (.own 3) 1 (List.map (Value.int .i64) v12.1)) :: (4, .v (.int .i64 v12.2.1)) :: [])) (init := [0, 1, 2, 3, 4, 5]) (fin := [8, 1, 2, 3, 4, 13, 14]) (sps := [⟨[0], [], [6], [(.slot 35)]⟩, ⟨[6, 2], [0], [8, 7], [(.slot 36), (.cell 0 0), (.cell 0 1), (.cell 0 2), (.cell 0 3), (.cell 0 4)]⟩, ⟨[], [7], [9], [(.slot 34)]⟩, ⟨[], [9], [11, 10], [(.slot 37)]⟩, ⟨[11], [], [12], [(.slot 38)]⟩, ⟨[], [10], [13], [(.slot 6)]⟩, ⟨[12], [], [14], [(.slot 4)]⟩]) (es' := [(0, .box 59 [.fl .shr 1 (List.map (Value.int .u8) v12.2.2.b), .v (.int .i64 v12.2.2.at_), .fl (.own 5) 1 (List.map (Value.int .u8) v12.2.2.out), .v (.int .i64 v12.2.2.most), .v (.int .i64 v12.2.2.blocks)]), (_, _), (_, _), (_, _), (_, _), (6, .fl (.own 3) 1 (List.map (Value.int .i64) v12.1)), (4, .v (.int .i64 v12.2.1))]) (by kernel_rfl) rfl rfl
       ⟨st_plain rfl (op_move _ _ _ _ rfl rfl),
       st_plain rfl (op_callPSG _ _ _ _ 36 80 80 [.tmp 35] [] _ _ _ rfl Tryd.call80 rfl rfl rfl rfl (fun _ h => h) (ok_grow_stream_rowLengths mx v3.2.2 _ hv12) (Nat.le_of_ble_eq_true rfl) rfl rfl rfl rfl rfl rfl rfl),
       st_plain rfl (op_move_take _ _ _ _ rfl),
       st_plain rfl (op_extract_take _ _ _ _ _ rfl (Nat.le_of_ble_eq_true rfl) rfl rfl (by decide) rfl),
       st_plain rfl (op_extract _ _ _ _ _ rfl rfl (Nat.le_of_ble_eq_true rfl) rfl rfl),
       st_plain rfl (op_assign_take _ _ _ _ rfl),
       st_plain rfl (op_assign _ _ _ _ rfl rfl),
       trivial⟩ ?_
      refine pt_then ?_
      refine ht_seq ?_
      refine ht_seq ?_
      refine ht_seqR hn (El := [_, _, _, _, _, _, _, (39, .v (.int .i64 v12.2.1)), (40, .v (.bool (v12.2.1 != 0)))]) (init := [0, 1, 2, 3, 4, 5, 6]) (fin := [0, 1, 2, 3, 4, 5, 6, 8]) (sps := [⟨[6], [], [7], [(.slot 39)]⟩, ⟨[7], [], [8], [(.slot 40)]⟩]) (es' := [(_, _), (_, _), (_, _), (_, _), (_, _), (_, _), (_, _), (40, .v (.bool (v12.2.1 != 0)))]) (by kernel_rfl) rfl rfl
       ⟨st_plain rfl (op_move _ _ _ _ rfl rfl),
       st_plain rfl (op_bin _ _ _ _ _ rfl rfl rfl),
       trivial⟩ ?_
      refine pt_then ?_
      refine ht_cond _ rfl (fun hb13 => ?_) (fun hb13 => ?_)
      ·have h := cond_t hb13 h
       refine ht_seq ?_
       refine ht_seqR hn (El := [_, _, _, _, _, _, _, _, (41, .v (.int .i64 v12.2.1)), (2, .v (.int .i64 v12.2.1))]) (init := [0, 1, 2, 3, 4, 5, 6, 7]) (fin := [0, 1, 2, 9]) (sps := [⟨[6], [], [8], [(.slot 41)]⟩, ⟨[8], [], [9], [(.slot 2)]⟩]) (es' := [(_, _), (_, _), (_, _), (2, .v (.int .i64 v12.2.1))]) (by kernel_rfl) rfl rfl
        ⟨st_plain rfl (op_move _ _ _ _ rfl rfl),
        st_plain rfl (op_assign _ _ _ _ rfl rfl),
        trivial⟩ ?_
       refine pt_then ?_
       refine ht_ret ?_
       refine pt_pick [3, 0, 1] (by kernel_rfl) (es' := [(_, _), (_, _), (_, _)]) rfl ?_
       refine pt_r_then ?_
       obtain rfl := Option.some.inj h
       exact pt_retP (es := [(2, .v (.int .i64 v12.2.1))]) (posts := [.box 59 [.fl .shr 1 (List.map (Value.int .u8) v12.2.2.b), .v (.int .i64 v12.2.2.at_), .fl (.own 5) 1 (List.map (Value.int .u8) v12.2.2.out), .v (.int .i64 v12.2.2.most), .v (.int .i64 v12.2.2.blocks)]]) hio rfl rfl (.tmp _ _ .nil) rfl rfl hargs0 rfl
      ·have h := cond_f hb13 h
       refine ht_skip ?_
       refine pt_then ?_
       refine ht_seq ?_
       refine ht_frzE 5 hio (es' := [(0, .box 59 [.fl .shr 1 (List.map (Value.int .u8) v12.2.2.b), .v (.int .i64 v12.2.2.at_), .fl (.own 5) 1 (List.map (Value.int .u8) v12.2.2.out), .v (.int .i64 v12.2.2.most), .v (.int .i64 v12.2.2.blocks)]), (0, .v (List.getD args0 0 undef)), (80, .glob (GL mx)), (3, .v (.int .i64 v5)), (5, .v (.int .i64 v6)), (6, .fl .ro 1 (List.map (Value.int .i64) v12.1)), (4, .v (.int .i64 v12.2.1)), (40, .v (.bool (v12.2.1 != 0)))]) rfl ?_
       obtain ⟨v14, hv14, h⟩ := bind_some h
       obtain ⟨v15, hv15, h⟩ := bind_some h
       refine ht_seqR hn (El := (_ :: _ :: _ :: _ :: _ :: _ :: _ :: _ :: (43, .ptr 0 0) :: (44, .fl .ro 1 (List.map (Value.int .i64) v12.1)) :: (45, .v (.int .i64 v5)) :: (46, .v (.int .i64 v6)) :: (47, .v (.int .i64 v14)) :: (48, .tup [.fl (.own 3) 1 (List.map (Value.int .i64) v15.1), .v (.int .i64 v15.2.1)]) :: (0, .box 59 [.fl .shr 1 (List.map (Value.int .u8) v15.2.2.b), .v (.int .i64 v15.2.2.at_), .fl (.own 5) 1 (List.map (Value.int .u8) v15.2.2.out), .v (.int .i64 v15.2.2.most), .v (.int .i64 v15.2.2.blocks)]) :: (42, .tup [.fl (.own 3) 1 (List.map (Value.int .i64) v15.1), .v (.int .i64 v15.2.1)]) :: (49, .fl (.own 3) 1 (List.map (Value.int .i64) v15.1)) :: (42, .tup [.any, .v (.int .i64 v15.2.1)]) :: (50, .v (.int .i64 v15.2.1)) :: (7, .fl (.own 3) 1 (List.map (Value.int .i64) v15.1)) :: (4, .v (.int .i64 v15.2.1)) :: [])) (init := [0, 1, 2, 3, 4, 5, 6, 7]) (fin := [14, 1, 2, 3, 19, 20]) (sps := [⟨[0], [], [8], [(.slot 43)]⟩, ⟨[5], [], [9], [(.slot 44)]⟩, ⟨[3], [], [10], [(.slot 45)]⟩, ⟨[4], [], [11], [(.slot 46)]⟩, ⟨[10, 11], [], [12], [(.slot 47)]⟩, ⟨[8, 9, 12], [0], [14, 13], [(.slot 48), (.cell 0 0), (.cell 0 1), (.cell 0 2), (.cell 0 3), (.cell 0 4)]⟩, ⟨[], [13], [15], [(.slot 42)]⟩, ⟨[], [15], [17, 16], [(.slot 49)]⟩, ⟨[17], [], [18], [(.slot 50)]⟩, ⟨[], [16], [19], [(.slot 7)]⟩, ⟨[18], [6], [20], [(.slot 4)]⟩]) (es' := [(0, .box 59 [.fl .shr 1 (List.map (Value.int .u8) v15.2.2.b), .v (.int .i64 v15.2.2.at_), .fl (.own 5) 1 (List.map (Value.int .u8) v15.2.2.out), .v (.int .i64 v15.2.2.most), .v (.int .i64 v15.2.2.blocks)]), (_, _), (_, _), (_, _), (7, .fl (.own 3) 1 (List.map (Value.int .i64) v15.1)), (4, .v (.int .i64 v15.2.1))]) (by kernel_rfl) rfl rfl
        ⟨st_plain rfl (op_move _ _ _ _ rfl rfl),
        st_plain rfl (op_move _ _ _ _ rfl rfl),
        st_plain rfl (op_move _ _ _ _ rfl rfl),
        st_plain rfl (op_move _ _ _ _ rfl rfl),
        st_plain rfl (op_bin _ _ _ _ _ rfl rfl (ibind (f := Value.int .i64) (Option.some.inj hv14))),
        st_plain rfl (op_callPS _ _ _ _ 48 81 [.tmp 43] [.tmp 44, .tmp 47] _ _ _ rfl Tryd.call81 rfl rfl rfl (ok_grow_stream_row v12.2.2 v12.1 v14 _ hv15) (Nat.le_of_ble_eq_true rfl) rfl rfl rfl rfl rfl rfl rfl),
        st_plain rfl (op_move_take _ _ _ _ rfl),
        st_plain rfl (op_extract_take _ _ _ _ _ rfl (Nat.le_of_ble_eq_true rfl) rfl rfl (by decide) rfl),
        st_plain rfl (op_extract _ _ _ _ _ rfl rfl (Nat.le_of_ble_eq_true rfl) rfl rfl),
        st_plain rfl (op_assign_take _ _ _ _ rfl),
        st_plain rfl (LOp.drop [_] (op_assign _ _ _ _ rfl rfl)),
        trivial⟩ ?_
       refine pt_then ?_
       refine ht_seq ?_
       refine ht_seq ?_
       refine ht_seqR hn (El := [_, _, _, _, _, _, (51, .v (.int .i64 v15.2.1)), (52, .v (.bool (v15.2.1 != 0)))]) (init := [0, 1, 2, 3, 4, 5]) (fin := [0, 1, 2, 3, 4, 5, 7]) (sps := [⟨[5], [], [6], [(.slot 51)]⟩, ⟨[6], [], [7], [(.slot 52)]⟩]) (es' := [(_, _), (_, _), (_, _), (_, _), (_, _), (_, _), (52, .v (.bool (v15.2.1 != 0)))]) (by kernel_rfl) rfl rfl
        ⟨st_plain rfl (op_move _ _ _ _ rfl rfl),
        st_plain rfl (op_bin _ _ _ _ _ rfl rfl rfl),
        trivial⟩ ?_
       refine pt_then ?_
       refine ht_cond _ rfl (fun hb16 => ?_) (fun hb16 => ?_)
       ·have h := cond_t hb16 h
        refine ht_seq ?_
        refine ht_seqR hn (El := [_, _, _, _, _, _, _, (53, .v (.int .i64 v15.2.1)), (2, .v (.int .i64 v15.2.1))]) (init := [0, 1, 2, 3, 4, 5, 6]) (fin := [0, 1, 2, 8]) (sps := [⟨[5], [], [7], [(.slot 53)]⟩, ⟨[7], [], [8], [(.slot 2)]⟩]) (es' := [(_, _), (_, _), (_, _), (2, .v (.int .i64 v15.2.1))]) (by kernel_rfl) rfl rfl
         ⟨st_plain rfl (op_move _ _ _ _ rfl rfl),
         st_plain rfl (op_assign _ _ _ _ rfl rfl),
         trivial⟩ ?_
        refine pt_then ?_
        refine ht_ret ?_
        refine pt_pick [3, 0, 1] (by kernel_rfl) (es' := [(_, _), (_, _), (_, _)]) rfl ?_
        refine pt_r_then ?_
        obtain rfl := Option.some.inj h
        exact pt_retP (es := [(2, .v (.int .i64 v15.2.1))]) (posts := [.box 59 [.fl .shr 1 (List.map (Value.int .u8) v15.2.2.b), .v (.int .i64 v15.2.2.at_), .fl (.own 5) 1 (List.map (Value.int .u8) v15.2.2.out), .v (.int .i64 v15.2.2.most), .v (.int .i64 v15.2.2.blocks)]]) hio rfl rfl (.tmp _ _ .nil) rfl rfl hargs0 rfl
       ·have h := cond_f hb16 h
        refine ht_skip ?_
        refine pt_then ?_
        refine ht_seq ?_
        refine ht_seq ?_
        refine ht_frzE 4 hio (es' := [(0, .box 59 [.fl .shr 1 (List.map (Value.int .u8) v15.2.2.b), .v (.int .i64 v15.2.2.at_), .fl (.own 5) 1 (List.map (Value.int .u8) v15.2.2.out), .v (.int .i64 v15.2.2.most), .v (.int .i64 v15.2.2.blocks)]), (0, .v (List.getD args0 0 undef)), (80, .glob (GL mx)), (3, .v (.int .i64 v5)), (7, .fl .ro 1 (List.map (Value.int .i64) v15.1)), (4, .v (.int .i64 v15.2.1)), (52, .v (.bool (v15.2.1 != 0)))]) rfl ?_
        refine ht_joinS h (fun (s23 : Bool) => [(0, .box 59 [.fl .shr 1 (List.map (Value.int .u8) v15.2.2.b), .v (.int .i64 v15.2.2.at_), .fl (.own 5) 1 (List.map (Value.int .u8) v15.2.2.out), .v (.int .i64 v15.2.2.most), .v (.int .i64 v15.2.2.blocks)]), (0, .v (List.getD args0 0 undef)), (80, .glob (GL mx)), (3, .v (.int .i64 v5)), (7, .fl .ro 1 (List.map (Value.int .i64) v15.1)), (71, .v (.bool s23))]) ?_ ?_
        ·rintro s23 h
         refine pt_then ?_
         refine ht_cond _ rfl (fun hb27 => ?_) (fun hb27 => ?_)
         ·have h := cond_t hb27 h
          refine ht_seq ?_
          refine ht_seqR hn (El := [_, _, _, _, _, _, (2, .v (.int .i64 3))]) (init := [0, 1, 2, 3, 4, 5]) (fin := [0, 1, 2, 6]) (sps := [⟨[], [], [6], [(.slot 2)]⟩]) (es' := [(_, _), (_, _), (_, _), (2, .v (.int .i64 3))]) (by kernel_rfl) rfl rfl
           ⟨st_plain rfl (op_assign _ _ _ _ rfl rfl),
           trivial⟩ ?_
          refine pt_then ?_
          refine ht_ret ?_
          refine pt_pick [3, 0, 1] (by kernel_rfl) (es' := [(_, _), (_, _), (_, _)]) rfl ?_
          refine pt_r_then ?_
          obtain rfl := Option.some.inj h
          exact pt_retP (es := [(2, .v (.int .i64 3))]) (posts := [.box 59 [.fl .shr 1 (List.map (Value.int .u8) v15.2.2.b), .v (.int .i64 v15.2.2.at_), .fl (.own 5) 1 (List.map (Value.int .u8) v15.2.2.out), .v (.int .i64 v15.2.2.most), .v (.int .i64 v15.2.2.blocks)]]) hio rfl rfl (.tmp _ _ .nil) rfl rfl hargs0 rfl
         ·have h := cond_f hb27 h
          refine ht_skip ?_
          refine pt_then ?_
          refine ht_seq ?_
          obtain ⟨v28, hv28, h⟩ := bind_some h
          obtain ⟨v29, hv29, h⟩ := bind_some h
          obtain ⟨v30, hv30, h⟩ := bind_some h
          refine ht_anyR (by kernel_rfl) hn (El := (_ :: _ :: _ :: _ :: _ :: _ :: (72, .ptr 0 0) :: (73, .fl .ro 1 (List.map (Value.int .i64) v15.1)) :: (74, .v (.int .i64 v5)) :: (75, .fl .ro 1 (List.map (Value.int .i64) v28)) :: (76, .fl .ro 1 (List.map (Value.int .i64) v15.1)) :: (77, .v (.int .i64 v5)) :: (78, .fl .ro 1 (List.map (Value.int .i64) v29)) :: (79, .v (.int .i64 v30.1)) :: (0, .box 59 [.fl .shr 1 (List.map (Value.int .u8) v30.2.b), .v (.int .i64 v30.2.at_), .fl (.own 5) 1 (List.map (Value.int .u8) v30.2.out), .v (.int .i64 v30.2.most), .v (.int .i64 v30.2.blocks)]) :: (2, .v (.int .i64 v30.1)) :: [])) (init := [0, 1, 2, 3, 4, 5]) (fin := [14, 1, 2, 15]) (sps := [⟨[0], [], [6], [(.slot 72)]⟩, ⟨[4], [], [7], [(.slot 73)]⟩, ⟨[3], [], [8], [(.slot 74)]⟩, ⟨[7, 8], [], [9], [(.slot 75)]⟩, ⟨[4], [], [10], [(.slot 76)]⟩, ⟨[3], [], [11], [(.slot 77)]⟩, ⟨[10, 11], [], [12], [(.slot 78)]⟩, ⟨[6, 9, 12], [0], [14, 13], [(.slot 79), (.cell 0 0), (.cell 0 1), (.cell 0 2), (.cell 0 3), (.cell 0 4)]⟩, ⟨[13], [], [15], [(.slot 2)]⟩]) (es' := [(0, .box 59 [.fl .shr 1 (List.map (Value.int .u8) v30.2.b), .v (.int .i64 v30.2.at_), .fl (.own 5) 1 (List.map (Value.int .u8) v30.2.out), .v (.int .i64 v30.2.most), .v (.int .i64 v30.2.blocks)]), (_, _), (_, _), (2, .v (.int .i64 v30.1))]) (by kernel_rfl) rfl rfl
           ⟨st_plain rfl (op_move _ _ _ _ rfl rfl),
           st_plain rfl (op_move _ _ _ _ rfl rfl),
           st_plain rfl (op_move _ _ _ _ rfl rfl),
           st_plain rfl (op_sl _ _ _ 0 v5 _ Tryd.underlying73 sz3 rfl rfl rfl ⟨_, rfl⟩ hv28),
           st_plain rfl (op_move _ _ _ _ rfl rfl),
           st_plain rfl (op_move _ _ _ _ rfl rfl),
           st_plain rfl (op_sl _ _ _ v5 (v15.1.length : Int) _ Tryd.underlying73 sz3 rfl rfl ⟨_, rfl⟩ rfl hv29),
           st_plain rfl (op_callPS _ _ _ _ 79 60 [.tmp 72] [.tmp 75, .tmp 78] _ _ _ rfl Tryd.call60 rfl rfl rfl (ok_grow_stream_tokens v15.2.2 v28 v29 _ hv30) (Nat.le_of_ble_eq_true rfl) rfl rfl rfl rfl rfl rfl rfl),
           st_plain rfl (op_assign _ _ _ _ rfl rfl),
           trivial⟩ ?_
          refine pt_then ?_
          refine ht_ret ?_
          refine pt_pick [3, 0, 1] (by kernel_rfl) (es' := [(_, _), (_, _), (_, _)]) rfl ?_
          obtain rfl := Option.some.inj h
          exact pt_retP (es := [(2, .v (.int .i64 v30.1))]) (posts := [.box 59 [.fl .shr 1 (List.map (Value.int .u8) v30.2.b), .v (.int .i64 v30.2.at_), .fl (.own 5) 1 (List.map (Value.int .u8) v30.2.out), .v (.int .i64 v30.2.most), .v (.int .i64 v30.2.blocks)]]) hio rfl rfl (.tmp _ _ .nil) rfl rfl hargs0 rfl
        ·intro u24 h hl25 hr26
         obtain ⟨v17, hv17, h⟩ := bind_some h
         obtain ⟨v18, hv18, h⟩ := bind_some h
         refine cond_some h (fun hg16_5 h => ?_) (fun hg16_5 h => ?_)
         ·refine ht_seqR hn (El := (_ :: _ :: _ :: _ :: _ :: _ :: _ :: (54, .fl .ro 1 (List.map (Value.int .i64) v15.1)) :: (55, .v (.int .i64 v5)) :: (56, .fl .ro 1 (List.map (Value.int .i64) v17)) :: (57, .v (.int .i64 v18)) :: (58, .v (.bool (v18 != 0))) :: (59, .v (.bool true)) :: (60, .v undef) :: (61, .v undef) :: (62, .v undef) :: (63, .v undef) :: (64, .v undef) :: (65, .v (.bool true)) :: (66, .v (.bool true)) :: (67, .v undef) :: (68, .v undef) :: (69, .v undef) :: (70, .v undef) :: (71, .v (.bool true)) :: [])) (init := [0, 1, 2, 3, 4, 5, 6]) (fin := [0, 1, 2, 3, 4, 24]) (sps := (⟨[4], [], [7], [(.slot 54)]⟩ :: ⟨[3], [], [8], [(.slot 55)]⟩ :: ⟨[7, 8], [], [9], [(.slot 56)]⟩ :: ⟨[9], [], [10], [(.slot 57)]⟩ :: ⟨[10], [], [11], [(.slot 58)]⟩ :: ⟨[11], [], [12], [(.slot 59)]⟩ :: ⟨[12], [], [13], [(.slot 60)]⟩ :: ⟨[12], [], [14], [(.slot 61)]⟩ :: ⟨[12], [], [15], [(.slot 62)]⟩ :: ⟨[12], [], [16], [(.slot 63)]⟩ :: ⟨[12], [], [17], [(.slot 64)]⟩ :: ⟨[12], [], [18], [(.slot 65)]⟩ :: ⟨[18], [], [19], [(.slot 66)]⟩ :: ⟨[19], [], [20], [(.slot 67)]⟩ :: ⟨[19], [], [21], [(.slot 68)]⟩ :: ⟨[19], [], [22], [(.slot 69)]⟩ :: ⟨[19], [], [23], [(.slot 70)]⟩ :: ⟨[19], [], [24], [(.slot 71)]⟩ :: [])) (es' := [(_, _), (_, _), (_, _), (_, _), (_, _), (71, .v (.bool true))]) (by kernel_rfl) rfl rfl
           ⟨st_plain rfl (op_move _ _ _ _ rfl rfl),
           st_plain rfl (op_move _ _ _ _ rfl rfl),
           st_plain rfl (op_sl _ _ _ 0 v5 _ Tryd.underlying73 sz3 rfl rfl rfl ⟨_, rfl⟩ hv17),
           st_plain rfl (op_call _ _ 66 _ _ rfl Tryd.call66 rfl (ok_canon_Check v17 _ hv18) rfl rfl),
           st_plain rfl (op_bin _ _ _ _ _ rfl rfl rfl),
           st_plain rfl (op_move _ _ _ _ (congrArg (fun b => AV.v (Value.bool b)) hg16_5) rfl),
           st_skip 5 59 _ false rfl rfl rfl rfl (List.Mem.head _),
           st_skip 5 59 _ false rfl rfl rfl rfl (List.Mem.head _),
           st_skip 5 59 _ false rfl rfl rfl rfl (List.Mem.head _),
           st_skip 5 59 _ false rfl rfl rfl rfl (List.Mem.head _),
           st_skip 5 59 _ false rfl rfl rfl rfl (List.Mem.head _),
           st_plain rfl (op_pick _ _ true _ rfl rfl),
           st_plain rfl (op_move _ _ _ _ rfl rfl),
           st_skip 12 66 _ false rfl rfl rfl rfl (List.Mem.head _),
           st_skip 12 66 _ false rfl rfl rfl rfl (List.Mem.head _),
           st_skip 12 66 _ false rfl rfl rfl rfl (List.Mem.head _),
           st_skip 12 66 _ false rfl rfl rfl rfl (List.Mem.head _),
           st_plain rfl (op_pick _ _ true _ rfl rfl),
           trivial⟩ ?_
          exact hl25 _ (Option.some.inj h).symm
         ·obtain ⟨v19, hv19, h⟩ := bind_some h
          obtain ⟨v20, hv20, h⟩ := bind_some h
          refine cond_some h (fun hg16_12 h => ?_) (fun hg16_12 h => ?_)
          ·refine ht_seqR hn (El := (_ :: _ :: _ :: _ :: _ :: _ :: _ :: (54, .fl .ro 1 (List.map (Value.int .i64) v15.1)) :: (55, .v (.int .i64 v5)) :: (56, .fl .ro 1 (List.map (Value.int .i64) v17)) :: (57, .v (.int .i64 v18)) :: (58, .v (.bool (v18 != 0))) :: (59, .v (.bool false)) :: (60, .fl .ro 1 (List.map (Value.int .i64) v15.1)) :: (61, .v (.int .i64 v5)) :: (62, .fl .ro 1 (List.map (Value.int .i64) v19)) :: (63, .v (.int .i64 v20)) :: (64, .v (.bool (v20 != 0))) :: (65, .v (.bool (v20 != 0))) :: (66, .v (.bool true)) :: (67, .v undef) :: (68, .v undef) :: (69, .v undef) :: (70, .v undef) :: (71, .v (.bool true)) :: [])) (init := [0, 1, 2, 3, 4, 5, 6]) (fin := [0, 1, 2, 3, 4, 24]) (sps := (⟨[4], [], [7], [(.slot 54)]⟩ :: ⟨[3], [], [8], [(.slot 55)]⟩ :: ⟨[7, 8], [], [9], [(.slot 56)]⟩ :: ⟨[9], [], [10], [(.slot 57)]⟩ :: ⟨[10], [], [11], [(.slot 58)]⟩ :: ⟨[11], [], [12], [(.slot 59)]⟩ :: ⟨[12, 4], [], [13], [(.slot 60)]⟩ :: ⟨[12, 3], [], [14], [(.slot 61)]⟩ :: ⟨[12, 13, 14], [], [15], [(.slot 62)]⟩ :: ⟨[12, 15], [], [16], [(.slot 63)]⟩ :: ⟨[12, 16], [], [17], [(.slot 64)]⟩ :: ⟨[12, 17], [], [18], [(.slot 65)]⟩ :: ⟨[18], [], [19], [(.slot 66)]⟩ :: ⟨[19], [], [20], [(.slot 67)]⟩ :: ⟨[19], [], [21], [(.slot 68)]⟩ :: ⟨[19], [], [22], [(.slot 69)]⟩ :: ⟨[19], [], [23], [(.slot 70)]⟩ :: ⟨[19], [], [24], [(.slot 71)]⟩ :: [])) (es' := [(_, _), (_, _), (_, _), (_, _), (_, _), (71, .v (.bool true))]) (by kernel_rfl) rfl rfl
            ⟨st_plain rfl (op_move _ _ _ _ rfl rfl),
            st_plain rfl (op_move _ _ _ _ rfl rfl),
            st_plain rfl (op_sl _ _ _ 0 v5 _ Tryd.underlying73 sz3 rfl rfl rfl ⟨_, rfl⟩ hv17),
            st_plain rfl (op_call _ _ 66 _ _ rfl Tryd.call66 rfl (ok_canon_Check v17 _ hv18) rfl rfl),
            st_plain rfl (op_bin _ _ _ _ _ rfl rfl rfl),
            st_plain rfl (op_move _ _ _ _ (congrArg (fun b => AV.v (Value.bool b)) hg16_5) rfl),
            st_run 5 59 false rfl rfl rfl (List.Mem.head _) (op_move _ _ _ _ rfl rfl),
            st_run 5 59 false rfl rfl rfl (List.Mem.head _) (op_move _ _ _ _ rfl rfl),
            st_run 5 59 false rfl rfl rfl (List.Mem.head _) (op_sl _ _ _ v5 (v15.1.length : Int) _ Tryd.underlying73 sz3 rfl rfl ⟨_, rfl⟩ rfl hv19),
            st_run 5 59 false rfl rfl rfl (List.Mem.head _) (op_call _ _ 66 _ _ rfl Tryd.call66 rfl (ok_canon_Check v19 _ hv20) rfl rfl),
            st_run 5 59 false rfl rfl rfl (List.Mem.head _) (op_bin _ _ _ _ _ rfl rfl rfl),
            st_plain rfl (op_pick _ _ false _ rfl rfl),
            st_plain rfl (op_move _ _ _ _ (congrArg (fun b => AV.v (Value.bool b)) hg16_12) rfl),
            st_skip 12 66 _ false rfl rfl rfl rfl (List.Mem.head _),
            st_skip 12 66 _ false rfl rfl rfl rfl (List.Mem.head _),
            st_skip 12 66 _ false rfl rfl rfl rfl (List.Mem.head _),
            st_skip 12 66 _ false rfl rfl rfl rfl (List.Mem.head _),
            st_plain rfl (op_pick _ _ true _ rfl rfl),
            trivial⟩ ?_
           exact hl25 _ (Option.some.inj h).symm
          ·obtain ⟨v21, hv21, h⟩ := bind_some h
           obtain ⟨v22, hv22, h⟩ := bind_some h
           refine ht_seqR hn (El := (_ :: _ :: _ :: _ :: _ :: _ :: _ :: (54, .fl .ro 1 (List.map (Value.int .i64) v15.1)) :: (55, .v (.int .i64 v5)) :: (56, .fl .ro 1 (List.map (Value.int .i64) v17)) :: (57, .v (.int .i64 v18)) :: (58, .v (.bool (v18 != 0))) :: (59, .v (.bool false)) :: (60, .fl .ro 1 (List.map (Value.int .i64) v15.1)) :: (61, .v (.int .i64 v5)) :: (62, .fl .ro 1 (List.map (Value.int .i64) v19)) :: (63, .v (.int .i64 v20)) :: (64, .v (.bool (v20 != 0))) :: (65, .v (.bool (v20 != 0))) :: (66, .v (.bool false)) :: (67, .fl .ro 1 (List.map (Value.int .i64) v15.1)) :: (68, .eref (.slot 67) (v21 * 1)) :: (69, .v (.int .i64 v22)) :: (70, .v (.bool (v22 == 0))) :: (71, .v (.bool (v22 == 0))) :: [])) (init := [0, 1, 2, 3, 4, 5, 6]) (fin := [0, 1, 2, 3, 4, 24]) (sps := (⟨[4], [], [7], [(.slot 54)]⟩ :: ⟨[3], [], [8], [(.slot 55)]⟩ :: ⟨[7, 8], [], [9], [(.slot 56)]⟩ :: ⟨[9], [], [10], [(.slot 57)]⟩ :: ⟨[10], [], [11], [(.slot 58)]⟩ :: ⟨[11], [], [12], [(.slot 59)]⟩ :: ⟨[12, 4], [], [13], [(.slot 60)]⟩ :: ⟨[12, 3], [], [14], [(.slot 61)]⟩ :: ⟨[12, 13, 14], [], [15], [(.slot 62)]⟩ :: ⟨[12, 15], [], [16], [(.slot 63)]⟩ :: ⟨[12, 16], [], [17], [(.slot 64)]⟩ :: ⟨[12, 17], [], [18], [(.slot 65)]⟩ :: ⟨[18], [], [19], [(.slot 66)]⟩ :: ⟨[19, 4], [], [20], [(.slot 67)]⟩ :: ⟨[19, 20], [], [21], [(.slot 68)]⟩ :: ⟨[19, 21, 20], [], [22], [(.slot 69)]⟩ :: ⟨[19, 22], [], [23], [(.slot 70)]⟩ :: ⟨[19, 23], [], [24], [(.slot 71)]⟩ :: [])) (es' := [(_, _), (_, _), (_, _), (_, _), (_, _), (71, .v (.bool (v22 == 0)))]) (by kernel_rfl) rfl rfl
            ⟨st_plain rfl (op_move _ _ _ _ rfl rfl),
            st_plain rfl (op_move _ _ _ _ rfl rfl),
            st_plain rfl (op_sl _ _ _ 0 v5 _ Tryd.underlying73 sz3 rfl rfl rfl ⟨_, rfl⟩ hv17),
            st_plain rfl (op_call _ _ 66 _ _ rfl Tryd.call66 rfl (ok_canon_Check v17 _ hv18) rfl rfl),
            st_plain rfl (op_bin _ _ _ _ _ rfl rfl rfl),
            st_plain rfl (op_move _ _ _ _ (congrArg (fun b => AV.v (Value.bool b)) hg16_5) rfl),
            st_run 5 59 false rfl rfl rfl (List.Mem.head _) (op_move _ _ _ _ rfl rfl),
            st_run 5 59 false rfl rfl rfl (List.Mem.head _) (op_move _ _ _ _ rfl rfl),
            st_run 5 59 false rfl rfl rfl (List.Mem.head _) (op_sl _ _ _ v5 (v15.1.length : Int) _ Tryd.underlying73 sz3 rfl rfl ⟨_, rfl⟩ rfl hv19),
            st_run 5 59 false rfl rfl rfl (List.Mem.head _) (op_call _ _ 66 _ _ rfl Tryd.call66 rfl (ok_canon_Check v19 _ hv20) rfl rfl),
            st_run 5 59 false rfl rfl rfl (List.Mem.head _) (op_bin _ _ _ _ _ rfl rfl rfl),
            st_plain rfl (op_pick _ _ false _ rfl rfl),
            st_plain rfl (op_move _ _ _ _ (congrArg (fun b => AV.v (Value.bool b)) hg16_12) rfl),
            st_run 12 66 false rfl rfl rfl (List.Mem.head _) (op_move _ _ _ _ rfl rfl),
            st_run 12 66 false rfl rfl rfl (List.Mem.head _) (op_ix _ _ _ _ _ _ _ _ Tryd.underlying73 sz3 (by decide) rfl rfl rfl (ix_ok hv21).1 (map_lt (ix_ok hv21).2) rfl),
            st_run 12 66 false rfl rfl rfl (List.Mem.head _) (op_load_e _ _ _ _ _ _ Tryd.underlying3 rfl rfl rfl (map_get hv22)),
            st_run 12 66 false rfl rfl rfl (List.Mem.head _) (op_bin _ _ _ _ _ rfl rfl rfl),
            st_plain rfl (op_pick _ _ false _ rfl rfl),
            trivial⟩ ?_
           exact hl25 _ (Option.some.inj h).symm
    ·intro u8 h hl9 hr10
     refine cond_some h (fun hg8_2 h => ?_) (fun hg8_2 h => ?_)
     ·refine ht_seqR hn (El := [_, _, _, _, _, (28, .v (.int .i64 v5)), (29, .v (.bool ((decide (286 < v5))))), (30, .v (.bool true)), (31, .v undef), (32, .v undef), (33, .v (.bool true))]) (init := [0, 1, 2, 3, 4]) (fin := [0, 1, 2, 3, 4, 10]) (sps := [⟨[3], [], [5], [(.slot 28)]⟩, ⟨[5], [], [6], [(.slot 29)]⟩, ⟨[6], [], [7], [(.slot 30)]⟩, ⟨[7], [], [8], [(.slot 31)]⟩, ⟨[7], [], [9], [(.slot 32)]⟩, ⟨[7], [], [10], [(.slot 33)]⟩]) (es' := [(_, _), (_, _), (_, _), (_, _), (_, _), (33, .v (.bool true))]) (by kernel_rfl) rfl rfl
       ⟨st_plain rfl (op_move _ _ _ _ rfl rfl),
       st_plain rfl (op_bin _ _ _ _ _ rfl rfl rfl),
       st_plain rfl (op_move _ _ _ _ (congrArg (fun b => AV.v (Value.bool b)) hg8_2) rfl),
       st_skip 2 30 _ false rfl rfl rfl rfl (List.Mem.head _),
       st_skip 2 30 _ false rfl rfl rfl rfl (List.Mem.head _),
       st_plain rfl (op_pick _ _ true _ rfl rfl),
       trivial⟩ ?_
      exact hl9 _ (Option.some.inj h).symm
     ·refine ht_seqR hn (El := [_, _, _, _, _, (28, .v (.int .i64 v5)), (29, .v (.bool ((decide (286 < v5))))), (30, .v (.bool false)), (31, .v (.int .i64 v6)), (32, .v (.bool ((decide (30 < v6))))), (33, .v (.bool ((decide (30 < v6)))))]) (init := [0, 1, 2, 3, 4]) (fin := [0, 1, 2, 3, 4, 10]) (sps := [⟨[3], [], [5], [(.slot 28)]⟩, ⟨[5], [], [6], [(.slot 29)]⟩, ⟨[6], [], [7], [(.slot 30)]⟩, ⟨[7, 4], [], [8], [(.slot 31)]⟩, ⟨[7, 8], [], [9], [(.slot 32)]⟩, ⟨[7, 9], [], [10], [(.slot 33)]⟩]) (es' := [(_, _), (_, _), (_, _), (_, _), (_, _), (33, .v (.bool ((decide (30 < v6)))))]) (by kernel_rfl) rfl rfl
       ⟨st_plain rfl (op_move _ _ _ _ rfl rfl),
       st_plain rfl (op_bin _ _ _ _ _ rfl rfl rfl),
       st_plain rfl (op_move _ _ _ _ (congrArg (fun b => AV.v (Value.bool b)) hg8_2) rfl),
       st_run 2 30 false rfl rfl rfl (List.Mem.head _) (op_move _ _ _ _ rfl rfl),
       st_run 2 30 false rfl rfl rfl (List.Mem.head _) (op_bin _ _ _ _ _ rfl rfl rfl),
       st_plain rfl (op_pick _ _ false _ rfl rfl),
       trivial⟩ ?_
      exact hl9 _ (Option.some.inj h).symm

set_option maxHeartbeats 1000000 in
theorem ok_grow_stream_block (mx : Int) (s : T_grow_stream) (r : (Bool × Int × T_grow_stream)) (h : Sh.grow_stream_block s = some r) : FnPG Tryd.prog (GL mx) 40 [.box 59 [.fl .shr 1 (List.map (Value.int .u8) s.b), .v (.int .i64 s.at_), .fl (.own 5) 1 (List.map (Value.int .u8) s.out), .v (.int .i64 s.most), .v (.int .i64 s.blocks)]] [.box 59 [.fl .shr 1 (List.map (Value.int .u8) r.2.2.b), .v (.int .i64 r.2.2.at_), .fl (.own 5) 1 (List.map (Value.int .u8) r.2.2.out), .v (.int .i64 r.2.2.most), .v (.int .i64 r.2.2.blocks)]] (.tup [.v (.bool r.1), .v (.int .i64 r.2.1)]) := by
  unfold Sh.grow_stream_block at h
  refine fn_okPG Tryd.func40 rfl (Nat.le_of_ble_eq_true rfl) rfl (Nat.le_of_ble_eq_true rfl) fun args0 hargs0 g0 hn hio => ?_
  refine ht_seq ?_
  refine ht_seqR hn (El := [_, _, _, (2, .v (.bool false)), (3, .v (.int .i64 0))]) (init := [0, 1, 2]) (fin := [0, 1, 2]) (sps := [⟨[], [], [3], [(.slot 2)]⟩, ⟨[], [], [4], [(.slot 3)]⟩]) (es' := [(_, _), (_, _), (_, _)]) (by kernel_rfl) rfl rfl
   ⟨st_plain rfl (op_assign _ _ _ _ rfl rfl),
   st_plain rfl (op_assign _ _ _ _ rfl rfl),
   trivial⟩ ?_
  refine pt_then ?_
  refine ht_seq ?_
  obtain ⟨v1, hv1, h⟩ := bind_some h
  refine ht_seqR hn (El := [_, _, _, (7, .ptr 0 0), (8, .tup [.v (.int .i64 v1.1), .v (.int .i64 v1.2.1)]), (0, .box 59 [.fl .shr 1 (List.map (Value.int .u8) v1.2.2.b), .v (.int .i64 v1.2.2.at_), .fl (.own 5) 1 (List.map (Value.int .u8) v1.2.2.out), .v (.int .i64 v1.2.2.most), .v (.int .i64 v1.2.2.blocks)]), (6, .tup [.v (.int .i64 v1.1), .v (.int .i64 v1.2.1)]), (9, .v (.int .i64 v1.1)), (10, .v (.int .i64 v1.2.1)), (4, .v (.int .i64 v1.1)), (3, .v (.int .i64 v1.2.1))]) (init := [0, 1, 2]) (fin := [5, 1, 2, 9, 10]) (sps := [⟨[0], [], [3], [(.slot 7)]⟩, ⟨[3], [0], [5, 4], [(.slot 8), (.cell 0 0), (.cell 0 1), (.cell 0 2), (.cell 0 3), (.cell 0 4)]⟩, ⟨[], [4], [6], [(.slot 6)]⟩, ⟨[6], [], [7], [(.slot 9)]⟩, ⟨[6], [], [8], [(.slot 10)]⟩, ⟨[7], [], [9], [(.slot 4)]⟩, ⟨[8], [], [10], [(.slot 3)]⟩]) (es' := [(0, .box 59 [.fl .shr 1 (List.map (Value.int .u8) v1.2.2.b), .v (.int .i64 v1.2.2.at_), .fl (.own 5) 1 (List.map (Value.int .u8) v1.2.2.out), .v (.int .i64 v1.2.2.most), .v (.int .i64 v1.2.2.blocks)]), (_, _), (_, _), (4, .v (.int .i64 v1.1)), (3, .v (.int .i64 v1.2.1))]) (by kernel_rfl) rfl rfl
   ⟨st_plain rfl (op_move _ _ _ _ rfl rfl),
   st_plain rfl (op_callPS _ _ _ _ 8 58 [.tmp 7] [_] _ _ _ rfl Tryd.call58 rfl rfl rfl (ok_grow_stream_number s 1 _ hv1) (Nat.le_of_ble_eq_true rfl) rfl rfl rfl rfl rfl rfl rfl),
   st_plain rfl (op_move_take _ _ _ _ rfl),
   st_plain rfl (op_extract _ _ _ _ _ rfl rfl (Nat.le_of_ble_eq_true rfl) rfl rfl),
   st_plain rfl (op_extract _ _ _ _ _ rfl rfl (Nat.le_of_ble_eq_true rfl) rfl rfl),
   st_plain rfl (op_assign _ _ _ _ rfl rfl),
   st_plain rfl (op_assign _ _ _ _ rfl rfl),
   trivial⟩ ?_
  refine pt_then ?_
  refine ht_seq ?_
  refine ht_seq ?_
  refine ht_seqR hn (El := [_, _, _, _, _, (11, .v (.int .i64 v1.2.1)), (12, .v (.bool (v1.2.1 != 0)))]) (init := [0, 1, 2, 3, 4]) (fin := [0, 1, 2, 3, 4, 6]) (sps := [⟨[4], [], [5], [(.slot 11)]⟩, ⟨[5], [], [6], [(.slot 12)]⟩]) (es' := [(_, _), (_, _), (_, _), (_, _), (_, _), (12, .v (.bool (v1.2.1 != 0)))]) (by kernel_rfl) rfl rfl
   ⟨st_plain rfl (op_move _ _ _ _ rfl rfl),
   st_plain rfl (op_bin _ _ _ _ _ rfl rfl rfl),
   trivial⟩ ?_
  refine pt_then ?_
  refine ht_cond _ rfl (fun hb14 => ?_) (fun hb14 => ?_)
  ·have h := cond_t hb14 h
   refine ht_seq ?_
   refine ht_seqR hn (El := [_, _, _, _, _, _, (13, .v (.int .i64 v1.2.1)), (2, .v (.bool false)), (3, .v (.int .i64 v1.2.1))]) (init := [0, 1, 2, 3, 4, 5]) (fin := [0, 1, 2, 7, 8]) (sps := [⟨[4], [], [6], [(.slot 13)]⟩, ⟨[], [], [7], [(.slot 2)]⟩, ⟨[6], [4], [8], [(.slot 3)]⟩]) (es' := [(_, _), (_, _), (_, _), (2, .v (.bool false)), (3, .v (.int .i64 v1.2.1))]) (by kernel_rfl) rfl rfl
    ⟨st_plain rfl (op_move _ _ _ _ rfl rfl),
    st_plain rfl (op_assign _ _ _ _ rfl rfl),
    st_plain rfl (LOp.drop [_] (op_assign _ _ _ _ rfl rfl)),
    trivial⟩ ?_
   refine pt_then ?_
   refine ht_ret ?_
   refine pt_pick [3, 4, 0, 1] (by kernel_rfl) (es' := [(_, _), (_, _), (_, _), (_, _)]) rfl ?_
   refine pt_r_then ?_
   obtain rfl := Option.some.inj h
   exact pt_retP (es := [(2, .v (.bool false)), (3, .v (.int .i64 v1.2.1))]) (posts := [.box 59 [.fl .shr 1 (List.map (Value.int .u8) v1.2.2.b), .v (.int .i64 v1.2.2.at_), .fl (.own 5) 1 (List.map (Value.int .u8) v1.2.2.out), .v (.int .i64 v1.2.2.most), .v (.int .i64 v1.2.2.blocks)]]) hio rfl rfl (.tmp _ _ (.tmp _ _ .nil)) rfl rfl hargs0 rfl
  ·have h := cond_f hb14 h
   refine ht_skip ?_
   refine pt_then ?_
   refine ht_seq ?_
   obtain ⟨v3, hv3, h⟩ := bind_some h
   refine ht_seqR hn (El := [_, _, _, _, _, _, (15, .ptr 0 0), (16, .tup [.v (.int .i64 v3.1), .v (.int .i64 v3.2.1)]), (0, .box 59 [.fl .shr 1 (List.map (Value.int .u8) v3.2.2.b), .v (.int .i64 v3.2.2.at_), .fl (.own 5) 1 (List.map (Value.int .u8) v3.2.2.out), .v (.int .i64 v3.2.2.most), .v (.int .i64 v3.2.2.blocks)]), (14, .tup [.v (.int .i64 v3.1), .v (.int .i64 v3.2.1)]), (17, .v (.int .i64 v3.1)), (18, .v (.int .i64 v3.2.1)), (5, .v (.int .i64 v3.1)), (3, .v (.int .i64 v3.2.1))]) (init := [0, 1, 2, 3, 4, 5]) (fin := [8, 1, 2, 3, 12, 13]) (sps := [⟨[0], [], [6], [(.slot 15)]⟩, ⟨[6], [0], [8, 7], [(.slot 16), (.cell 0 0), (.cell 0 1), (.cell 0 2), (.cell 0 3), (.cell 0 4)]⟩, ⟨[], [7], [9], [(.slot 14)]⟩, ⟨[9], [], [10], [(.slot 17)]⟩, ⟨[9], [], [11], [(.slot 18)]⟩, ⟨[10], [], [12], [(.slot 5)]⟩, ⟨[11], [4], [13], [(.slot 3)]⟩]) (es' := [(0, .box 59 [.fl .shr 1 (List.map (Value.int .u8) v3.2.2.b), .v (.int .i64 v3.2.2.at_), .fl (.own 5) 1 (List.map (Value.int .u8) v3.2.2.out), .v (.int .i64 v3.2.2.most), .v (.int .i64 v3.2.2.blocks)]), (_, _), (_, _), (_, _), (5, .v (.int .i64 v3.1)), (3, .v (.int .i64 v3.2.1))]) (by kernel_rfl) rfl rfl
    ⟨st_plain rfl (op_move _ _ _ _ rfl rfl),
    st_plain rfl (op_callPS _ _ _ _ 16 58 [.tmp 15] [_] _ _ _ rfl Tryd.call58 rfl rfl rfl (ok_grow_stream_number v1.2.2 2 _ hv3) (Nat.le_of_ble_eq_true rfl) rfl rfl rfl rfl rfl rfl rfl),
    st_plain rfl (op_move_take _ _ _ _ rfl),
    st_plain rfl (op_extract _ _ _ _ _ rfl rfl (Nat.le_of_ble_eq_true rfl) rfl rfl),
    st_plain rfl (op_extract _ _ _ _ _ rfl rfl (Nat.le_of_ble_eq_true rfl) rfl rfl),
    st_plain rfl (op_assign _ _ _ _ rfl rfl),
    st_plain rfl (LOp.drop [_] (op_assign _ _ _ _ rfl rfl)),
    trivial⟩ ?_
   refine pt_then ?_
   refine ht_seq ?_
   refine ht_seq ?_
   refine ht_seqR hn (El := [_, _, _, _, _, _, (19, .v (.int .i64 v3.2.1)), (20, .v (.bool (v3.2.1 != 0)))]) (init := [0, 1, 2, 3, 4, 5]) (fin := [0, 1, 2, 3, 4, 5, 7]) (sps := [⟨[5], [], [6], [(.slot 19)]⟩, ⟨[6], [], [7], [(.slot 20)]⟩]) (es' := [(_, _), (_, _), (_, _), (_, _), (_, _), (_, _), (20, .v (.bool (v3.2.1 != 0)))]) (by kernel_rfl) rfl rfl
    ⟨st_plain rfl (op_move _ _ _ _ rfl rfl),
    st_plain rfl (op_bin _ _ _ _ _ rfl rfl rfl),
    trivial⟩ ?_
   refine pt_then ?_
   refine ht_cond _ rfl (fun hb15 => ?_) (fun hb15 => ?_)
   ·have h := cond_t hb15 h
    refine ht_seq ?_
    refine ht_seqR hn (El := [_, _, _, _, _, _, _, (21, .v (.int .i64 v3.2.1)), (2, .v (.bool false)), (3, .v (.int .i64 v3.2.1))]) (init := [0, 1, 2, 3, 4, 5, 6]) (fin := [0, 1, 2, 8, 9]) (sps := [⟨[5], [], [7], [(.slot 21)]⟩, ⟨[], [], [8], [(.slot 2)]⟩, ⟨[7], [5], [9], [(.slot 3)]⟩]) (es' := [(_, _), (_, _), (_, _), (2, .v (.bool false)), (3, .v (.int .i64 v3.2.1))]) (by kernel_rfl) rfl rfl
     ⟨st_plain rfl (op_move _ _ _ _ rfl rfl),
     st_plain rfl (op_assign _ _ _ _ rfl rfl),
     st_plain rfl (LOp.drop [_] (op_assign _ _ _ _ rfl rfl)),
     trivial⟩ ?_
    refine pt_then ?_
    refine ht_ret ?_
    refine pt_pick [3, 4, 0, 1] (by kernel_rfl) (es' := [(_, _), (_, _), (_, _), (_, _)]) rfl ?_
    refine pt_r_then ?_
    obtain rfl := Option.some.inj h
    exact pt_retP (es := [(2, .v (.bool false)), (3, .v (.int .i64 v3.2.1))]) (posts := [.box 59 [.fl .shr 1 (List.map (Value.int .u8) v3.2.2.b), .v (.int .i64 v3.2.2.at_), .fl (.own 5) 1 (List.map (Value.int .u8) v3.2.2.out), .v (.int .i64 v3.2.2.most), .v (.int .i64 v3.2.2.blocks)]]) hio rfl rfl (.tmp _ _ (.tmp _ _ .nil)) rfl rfl hargs0 rfl
   ·have h := cond_f hb15 h
    refine ht_skip ?_
    refine pt_then ?_
    refine ht_seq ?_
    refine ht_joinS h (fun ((s32, s33, s34, s35, s36, s37) : (List Int) × Int × (List Int) × Int × Int × Int) => [(0, .box 59 [.fl .shr 1 (List.map (Value.int .u8) s32), .v (.int .i64 s33), .fl (.own 5) 1 (List.map (Value.int .u8) s34), .v (.int .i64 s35), .v (.int .i64 s36)]), (0, .v (List.getD args0 0 undef)), (41, .glob (GL mx)), (4, .v (.int .i64 v1.1)), (3, .v (.int .i64 s37))]) ?_ ?_
    ·rintro ⟨s32, s33, s34, s35, s36, s37⟩ h
     refine pt_then ?_
     refine ht_seq ?_
     refine ht_seqR hn (El := [_, _, _, _, _, (38, .v (.int .i64 v1.1)), (39, .v (.bool (v1.1 == 1))), (40, .v (.int .i64 s37)), (2, .v (.bool (v1.1 == 1))), (3, .v (.int .i64 s37))]) (init := [0, 1, 2, 3, 4]) (fin := [0, 1, 2, 8, 9]) (sps := [⟨[3], [], [5], [(.slot 38)]⟩, ⟨[5], [], [6], [(.slot 39)]⟩, ⟨[4], [], [7], [(.slot 40)]⟩, ⟨[6], [], [8], [(.slot 2)]⟩, ⟨[7], [4], [9], [(.slot 3)]⟩]) (es' := [(_, _), (_, _), (_, _), (2, .v (.bool (v1.1 == 1))), (3, .v (.int .i64 s37))]) (by kernel_rfl) rfl rfl
      ⟨st_plain rfl (op_move _ _ _ _ rfl rfl),
      st_plain rfl (op_bin _ _ _ _ _ rfl rfl rfl),
      st_plain rfl (op_move _ _ _ _ rfl rfl),
      st_plain rfl (op_assign _ _ _ _ rfl rfl),
      st_plain rfl (LOp.drop [_] (op_assign _ _ _ _ rfl rfl)),
      trivial⟩ ?_
     refine pt_then ?_
     refine ht_ret ?_
     refine pt_pick [3, 4, 0, 1] (by kernel_rfl) (es' := [(_, _), (_, _), (_, _), (_, _)]) rfl ?_
     obtain rfl := Option.some.inj h
     exact pt_retP (es := [(2, .v (.bool (v1.1 == 1))), (3, .v (.int .i64 s37))]) (posts := [.box 59 [.fl .shr 1 (List.map (Value.int .u8) s32), .v (.int .i64 s33), .fl (.own 5) 1 (List.map (Value.int .u8) s34), .v (.int .i64 s35), .v (.int .i64 s36)]]) hio rfl rfl (.tmp _ _ (.tmp _ _ .nil)) rfl rfl hargs0 rfl
    ·intro u38 h hl39 hr40
     refine ht_seq ?_
     refine ht_seqR hn (El := [_, _, _, _, _, _, _, (22, .v (.int .i64 v3.1))]) (init := [0, 1, 2, 3, 4, 5, 6]) (fin := [0, 1, 2, 3, 7]) (sps := [⟨[4], [], [7], [(.slot 22)]⟩]) (es' := [(_, _), (_, _), (_, _), (_, _), (22, .v (.int .i64 v3.1))]) (by kernel_rfl) rfl rfl
      ⟨st_plain rfl (op_move _ _ _ _ rfl rfl),
      trivial⟩ ?_
     refine pt_then ?_
     refine ht_joinS h (fun ((s44, s45, s46, s47, s48, s49) : (List Int) × Int × (List Int) × Int × Int × Int) => [(0, .box 59 [.fl .shr 1 (List.map (Value.int .u8) s44), .v (.int .i64 s45), .fl (.own 5) 1 (List.map (Value.int .u8) s46), .v (.int .i64 s47), .v (.int .i64 s48)]), (0, .v (List.getD args0 0 undef)), (41, .glob (GL mx)), (4, .v (.int .i64 v1.1)), (3, .v (.int .i64 s49))]) ?_ ?_
     ·rintro ⟨s44, s45, s46, s47, s48, s49⟩ h
      exact hl39 _ (Option.some.inj h).symm
     ·intro u50 h hl51 hr52
      refine ht_block ?_
      refine ht_seq ?_
      refine ht_seqR hn (El := [_, _, _, _, _, (24, .v (.bool (v3.1 == 0))), (23, .v (.bool (v3.1 == 0)))]) (init := [0, 1, 2, 3, 4]) (fin := [0, 1, 2, 3, 4, 6]) (sps := [⟨[4], [], [5], [(.slot 24)]⟩, ⟨[5], [], [6], [(.slot 23)]⟩]) (es' := [(_, _), (_, _), (_, _), (_, _), (_, _), (23, .v (.bool (v3.1 == 0)))]) (by kernel_rfl) rfl rfl
       ⟨st_plain rfl (op_bin _ _ _ _ _ rfl rfl rfl),
       st_plain rfl (op_assign _ _ _ _ rfl rfl),
       trivial⟩ ?_
      refine pt_then ?_
      refine ht_cond _ rfl (fun hb53 => ?_) (fun hb53 => ?_)
      ·have h := cond_t hb53 h
       obtain ⟨v6, hv6, h⟩ := bind_some h
       refine ht_seqR hn (El := [_, _, _, _, _, _, (25, .ptr 0 0), (26, .v (.int .i64 v6.1)), (0, .box 59 [.fl .shr 1 (List.map (Value.int .u8) v6.2.b), .v (.int .i64 v6.2.at_), .fl (.own 5) 1 (List.map (Value.int .u8) v6.2.out), .v (.int .i64 v6.2.most), .v (.int .i64 v6.2.blocks)]), (3, .v (.int .i64 v6.1))]) (init := [0, 1, 2, 3, 4, 5]) (fin := [8, 1, 2, 3, 9]) (sps := [⟨[0], [], [6], [(.slot 25)]⟩, ⟨[6], [0], [8, 7], [(.slot 26), (.cell 0 0), (.cell 0 1), (.cell 0 2), (.cell 0 3), (.cell 0 4)]⟩, ⟨[7], [], [9], [(.slot 3)]⟩]) (es' := [(0, .box 59 [.fl .shr 1 (List.map (Value.int .u8) v6.2.b), .v (.int .i64 v6.2.at_), .fl (.own 5) 1 (List.map (Value.int .u8) v6.2.out), .v (.int .i64 v6.2.most), .v (.int .i64 v6.2.blocks)]), (_, _), (_, _), (_, _), (3, .v (.int .i64 v6.1))]) (by kernel_rfl) rfl rfl
        ⟨st_plain rfl (op_move _ _ _ _ rfl rfl),
        st_plain rfl (op_callPS _ _ _ _ 26 59 [.tmp 25] [] _ _ _ rfl Tryd.call59 rfl rfl rfl (ok_grow_stream_stored v3.2.2 _ hv6) (Nat.le_of_ble_eq_true rfl) rfl rfl rfl rfl rfl rfl rfl),
        st_plain rfl (op_assign _ _ _ _ rfl rfl),
        trivial⟩ ?_
       refine pt_inb ?_
       exact hl51 _ (Option.some.inj h).symm
      ·have h := cond_f hb53 h
       refine ht_seq ?_
       refine ht_seqR hn (El := [_, _, _, _, _, _, (28, .v (.bool (v3.1 == 1))), (27, .v (.bool (v3.1 == 1)))]) (init := [0, 1, 2, 3, 4, 5]) (fin := [0, 1, 2, 3, 4, 7]) (sps := [⟨[4], [], [6], [(.slot 28)]⟩, ⟨[6], [], [7], [(.slot 27)]⟩]) (es' := [(_, _), (_, _), (_, _), (_, _), (_, _), (27, .v (.bool (v3.1 == 1)))]) (by kernel_rfl) rfl rfl
        ⟨st_plain rfl (op_bin _ _ _ _ _ rfl rfl rfl),
        st_plain rfl (op_assign _ _ _ _ rfl rfl),
        trivial⟩ ?_
       refine pt_then ?_
       refine ht_cond _ rfl (fun hb54 => ?_) (fun hb54 => ?_)
       ·have h := cond_t hb54 h
        obtain ⟨v8, hv8, h⟩ := bind_some h
        obtain ⟨v9, hv9, h⟩ := bind_some h
        refine ht_seqR hn (El := (_ :: _ :: _ :: _ :: _ :: _ :: (29, .ptr 0 0) :: (30, .tup [.fl (.own 3) 1 (List.map (Value.int .i64) v8.1), .fl (.own 3) 1 (List.map (Value.int .i64) v8.2)]) :: (31, .fl .ro 1 (List.map (Value.int .i64) v8.1)) :: (30, .tup [.any, .fl (.own 3) 1 (List.map (Value.int .i64) v8.2)]) :: (32, .fl .ro 1 (List.map (Value.int .i64) v8.2)) :: (30, .tup [.any, .any]) :: (33, .v (.int .i64 v9.1)) :: (0, .box 59 [.fl .shr 1 (List.map (Value.int .u8) v9.2.b), .v (.int .i64 v9.2.at_), .fl (.own 5) 1 (List.map (Value.int .u8) v9.2.out), .v (.int .i64 v9.2.most), .v (.int .i64 v9.2.blocks)]) :: (3, .v (.int .i64 v9.1)) :: [])) (init := [0, 1, 2, 3, 4, 5]) (fin := [13, 1, 2, 3, 14]) (sps := [⟨[0], [], [6], [(.slot 29)]⟩, ⟨[], [], [7], [(.slot 30)]⟩, ⟨[], [7], [9, 8], [(.slot 31)]⟩, ⟨[], [9], [11, 10], [(.slot 32)]⟩, ⟨[6, 8, 10], [0], [13, 12], [(.slot 33), (.cell 0 0), (.cell 0 1), (.cell 0 2), (.cell 0 3), (.cell 0 4)]⟩, ⟨[12], [], [14], [(.slot 3)]⟩]) (es' := [(0, .box 59 [.fl .shr 1 (List.map (Value.int .u8) v9.2.b), .v (.int .i64 v9.2.at_), .fl (.own 5) 1 (List.map (Value.int .u8) v9.2.out), .v (.int .i64 v9.2.most), .v (.int .i64 v9.2.blocks)]), (_, _), (_, _), (_, _), (3, .v (.int .i64 v9.1))]) (by kernel_rfl) rfl rfl
         ⟨st_plain rfl (op_move _ _ _ _ rfl rfl),
         st_plain rfl (op_call _ _ 33 _ _ rfl Tryd.call33 rfl (ok_sym_Fixed  _ hv8) rfl rfl),
         st_plain rfl (LOp.frzG 1 (op_extract_take _ _ _ _ _ rfl (Nat.le_of_ble_eq_true rfl) rfl rfl (by decide) rfl) (Nat.le_of_ble_eq_true rfl) rfl),
         st_plain rfl (LOp.frzG 1 (op_extract_take _ _ _ _ _ rfl (Nat.le_of_ble_eq_true rfl) rfl rfl (by decide) rfl) (Nat.le_of_ble_eq_true rfl) rfl),
         st_plain rfl (op_callPS _ _ _ _ 33 60 [.tmp 29] [.tmp 31, .tmp 32] _ _ _ rfl Tryd.call60 rfl rfl rfl (ok_grow_stream_tokens v3.2.2 v8.1 v8.2 _ hv9) (Nat.le_of_ble_eq_true rfl) rfl rfl rfl rfl rfl rfl rfl),
         st_plain rfl (op_assign _ _ _ _ rfl rfl),
         trivial⟩ ?_
        refine pt_inb ?_
        exact hl51 _ (Option.some.inj h).symm
       ·have h := cond_f hb54 h
        refine ht_seq ?_
        refine ht_seqR hn (El := [_, _, _, _, _, _, (35, .v (.bool (v3.1 == 2))), (34, .v (.bool (v3.1 == 2)))]) (init := [0, 1, 2, 3, 4, 5]) (fin := [0, 1, 2, 3, 7]) (sps := [⟨[4], [], [6], [(.slot 35)]⟩, ⟨[6], [], [7], [(.slot 34)]⟩]) (es' := [(_, _), (_, _), (_, _), (_, _), (34, .v (.bool (v3.1 == 2)))]) (by kernel_rfl) rfl rfl
         ⟨st_plain rfl (op_bin _ _ _ _ _ rfl rfl rfl),
         st_plain rfl (op_assign _ _ _ _ rfl rfl),
         trivial⟩ ?_
        refine pt_then ?_
        refine ht_cond _ rfl (fun hb55 => ?_) (fun hb55 => ?_)
        ·have h := cond_t hb55 h
         obtain ⟨v19, hv19, h⟩ := bind_some h
         refine ht_seqR hn (El := [_, _, _, _, _, (36, .ptr 0 0), (37, .v (.int .i64 v19.1)), (0, .box 59 [.fl .shr 1 (List.map (Value.int .u8) v19.2.b), .v (.int .i64 v19.2.at_), .fl (.own 5) 1 (List.map (Value.int .u8) v19.2.out), .v (.int .i64 v19.2.most), .v (.int .i64 v19.2.blocks)]), (3, .v (.int .i64 v19.1))]) (init := [0, 1, 2, 3, 4]) (fin := [7, 1, 2, 3, 8]) (sps := [⟨[0], [], [5], [(.slot 36)]⟩, ⟨[5, 2], [0], [7, 6], [(.slot 37), (.cell 0 0), (.cell 0 1), (.cell 0 2), (.cell 0 3), (.cell 0 4)]⟩, ⟨[6], [], [8], [(.slot 3)]⟩]) (es' := [(0, .box 59 [.fl .shr 1 (List.map (Value.int .u8) v19.2.b), .v (.int .i64 v19.2.at_), .fl (.own 5) 1 (List.map (Value.int .u8) v19.2.out), .v (.int .i64 v19.2.most), .v (.int .i64 v19.2.blocks)]), (_, _), (_, _), (_, _), (3, .v (.int .i64 v19.1))]) (by kernel_rfl) rfl rfl
          ⟨st_plain rfl (op_move _ _ _ _ rfl rfl),
          st_plain rfl (op_callPSG _ _ _ _ 37 41 61 [.tmp 36] [] _ _ _ rfl Tryd.call61 rfl rfl rfl rfl (fun _ h => h) (ok_grow_stream_dynamic mx v3.2.2 _ hv19) (Nat.le_of_ble_eq_true rfl) rfl rfl rfl rfl rfl rfl rfl),
          st_plain rfl (op_assign _ _ _ _ rfl rfl),
          trivial⟩ ?_
         refine pt_inb ?_
         exact hl51 _ (Option.some.inj h).symm
        ·have h := cond_f hb55 h
         refine ht_seqR hn (El := [_, _, _, _, _, (3, .v (.int .i64 3))]) (init := [0, 1, 2, 3, 4]) (fin := [0, 1, 2, 3, 5]) (sps := [⟨[], [], [5], [(.slot 3)]⟩]) (es' := [(_, _), (_, _), (_, _), (_, _), (3, .v (.int .i64 3))]) (by kernel_rfl) rfl rfl
          ⟨st_plain rfl (op_assign _ _ _ _ rfl rfl),
          trivial⟩ ?_
         refine pt_inb ?_
         exact hl51 _ (Option.some.inj h).symm

set_option maxHeartbeats 1000000 in
theorem ok_grow_stream_end (s : T_grow_stream) (r : (Int × T_grow_stream)) (h : Sh.grow_stream_end s = some r) : FnP Tryd.prog 41 [.box 59 [.fl .shr 1 (List.map (Value.int .u8) s.b), .v (.int .i64 s.at_), .fl (.own 5) 1 (List.map (Value.int .u8) s.out), .v (.int .i64 s.most), .v (.int .i64 s.blocks)]] [.box 59 [.fl .shr 1 (List.map (Value.int .u8) r.2.b), .v (.int .i64 r.2.at_), .fl (.own 5) 1 (List.map (Value.int .u8) r.2.out), .v (.int .i64 r.2.most), .v (.int .i64 r.2.blocks)]] (.v (.int .i64 r.1)) := by
  unfold Sh.grow_stream_end at h
  refine fn_okP Tryd.func41 rfl (Nat.le_of_ble_eq_true rfl) rfl (Nat.le_of_ble_eq_true rfl) fun args0 hargs0 g0 hn hio => ?_
  refine ht_seq ?_
  refine ht_seqR hn (El := [_, _, (2, .v (.int .i64 0))]) (init := [0, 1]) (fin := [0, 1]) (sps := [⟨[], [], [2], [(.slot 2)]⟩]) (es' := [(_, _), (_, _)]) (by kernel_rfl) rfl rfl
   ⟨st_plain rfl (op_assign _ _ _ _ rfl rfl),
   trivial⟩ ?_
  refine pt_then ?_
  refine ht_seq ?_
  refine ht_seq ?_
  obtain ⟨v1, hv1, h⟩ := bind_some h
  obtain ⟨v2, hv2, h⟩ := bind_some h
  refine ht_anyR (by kernel_rfl) hn (El := [_, _, (3, .same (.slot 0)), (4, .ptr 0 0), (5, .ptr 0 0), (6, .fl .shr 1 (List.map (Value.int .u8) s.b)), (7, .v (.int .i64 (s.b.length : Int))), (8, .v (.int .i64 v1)), (9, .same (.slot 0)), (10, .ptr 0 0), (11, .ptr 0 1), (12, .v (.int .i64 s.at_)), (13, .v (.int .i64 v2)), (14, .v (.bool ((decide (8 ≤ v2)))))]) (init := [0, 1]) (fin := [0, 1, 13]) (sps := [⟨[], [], [2], [(.slot 3)]⟩, ⟨[2, 0], [], [3], [(.slot 4)]⟩, ⟨[3, 0], [], [4], [(.slot 5)]⟩, ⟨[4, 0], [], [5], [(.slot 6)]⟩, ⟨[5], [], [6], [(.slot 7)]⟩, ⟨[6], [], [7], [(.slot 8)]⟩, ⟨[], [], [8], [(.slot 9)]⟩, ⟨[8, 0], [], [9], [(.slot 10)]⟩, ⟨[9, 0], [], [10], [(.slot 11)]⟩, ⟨[10, 0], [], [11], [(.slot 12)]⟩, ⟨[7, 11], [], [12], [(.slot 13)]⟩, ⟨[12], [], [13], [(.slot 14)]⟩]) (es' := [(_, _), (_, _), (14, .v (.bool ((decide (8 ≤ v2)))))]) (by kernel_rfl) rfl rfl
   ⟨st_plain rfl (op_move_name _ _ _ rfl),
   st_plain rfl (op_nilCheck_name _ _ _ 0 rfl rfl (by decide)),
   st_plain rfl (op_fieldAddr _ _ _ _ 0 0 _ Tryd.underlying59 rfl sz22 rfl rfl (by decide)),
   st_plain rfl (op_load _ _ _ _ _ _ Tryd.underlying22 rfl rfl rfl (Nat.le_of_ble_eq_true rfl) rfl rfl rfl),
   st_plain rfl (op_len_fl _ _ _ Tryd.underlying22 rfl (by decide) (map_len _)),
   st_plain rfl (op_bin _ _ _ _ _ rfl rfl (ibind (f := Value.int .i64) (Option.some.inj hv1))),
   st_plain rfl (op_move_name _ _ _ rfl),
   st_plain rfl (op_nilCheck_name _ _ _ 0 rfl rfl (by decide)),
   st_plain rfl (op_fieldAddr _ _ _ _ 0 0 _ Tryd.underlying59 rfl sz3 rfl rfl (by decide)),
   st_plain rfl (op_load _ _ _ _ _ _ Tryd.underlying3 rfl rfl rfl (Nat.le_of_ble_eq_true rfl) rfl rfl rfl),
   st_plain rfl (op_bin _ _ _ _ _ rfl rfl (ibind (f := Value.int .i64) (Option.some.inj hv2))),
   st_plain rfl (op_bin _ _ _ _ _ rfl rfl rfl),
   trivial⟩ ?_
  refine pt_then ?_
  refine ht_cond _ rfl (fun hb3 => ?_) (fun hb3 => ?_)
  ·have h := cond_t hb3 h
   refine ht_seq ?_
   refine ht_seqR hn (El := [_, _, _, (2, .v (.int .i64 3))]) (init := [0, 1, 2]) (fin := [0, 1, 3]) (sps := [⟨[], [], [3], [(.slot 2)]⟩]) (es' := [(_, _), (_, _), (2, .v (.int .i64 3))]) (by kernel_rfl) rfl rfl
    ⟨st_plain rfl (op_assign _ _ _ _ rfl rfl),
    trivial⟩ ?_
   refine pt_then ?_
   refine ht_ret ?_
   refine pt_pick [2, 0, 1] (by kernel_rfl) (es' := [(_, _), (_, _), (_, _)]) rfl ?_
   refine pt_r_then ?_
   obtain rfl := Option.some.inj h
   exact pt_retP (es := [(2, .v (.int .i64 3))]) (posts := [.box 59 [.fl .shr 1 (List.map (Value.int .u8) s.b), .v (.int .i64 s.at_), .fl (.own 5) 1 (List.map (Value.int .u8) s.out), .v (.int .i64 s.most), .v (.int .i64 s.blocks)]]) hio rfl rfl (.tmp _ _ .nil) rfl rfl hargs0 rfl
  ·have h := cond_f hb3 h
   refine ht_skip ?_
   refine pt_then ?_
   refine ht_seq ?_
   obtain ⟨v4, hv4, h⟩ := bind_some h
   refine ht_seqR hn (El := [_, _, _, (15, .ptr 0 0), (16, .v (.int .i64 v4.1)), (0, .box 59 [.fl .shr 1 (List.map (Value.int .u8) v4.2.b), .v (.int .i64 v4.2.at_), .fl (.own 5) 1 (List.map (Value.int .u8) v4.2.out), .v (.int .i64 v4.2.most), .v (.int .i64 v4.2.blocks)]), (2, .v (.int .i64 v4.1))]) (init := [0, 1, 2]) (fin := [5, 1, 6]) (sps := [⟨[0], [], [3], [(.slot 15)]⟩, ⟨[3], [0], [5, 4], [(.slot 16), (.cell 0 0), (.cell 0 1), (.cell 0 2), (.cell 0 3), (.cell 0 4)]⟩, ⟨[4], [], [6], [(.slot 2)]⟩]) (es' := [(0, .box 59 [.fl .shr 1 (List.map (Value.int .u8) v4.2.b), .v (.int .i64 v4.2.at_), .fl (.own 5) 1 (List.map (Value.int .u8) v4.2.out), .v (.int .i64 v4.2.most), .v (.int .i64 v4.2.blocks)]), (_, _), (2, .v (.int .i64 v4.1))]) (by kernel_rfl) rfl rfl
    ⟨st_plain rfl (op_move _ _ _ _ rfl rfl),
    st_plain rfl (op_callPS _ _ _ _ 16 62 [.tmp 15] [] _ _ _ rfl Tryd.call62 rfl rfl rfl (ok_grow_stream_pad s _ hv4) (Nat.le_of_ble_eq_true rfl) rfl rfl rfl rfl rfl rfl rfl),
    st_plain rfl (op_assign _ _ _ _ rfl rfl),
    trivial⟩ ?_
   refine pt_then ?_
   refine ht_ret ?_
   refine pt_pick [2, 0, 1] (by kernel_rfl) (es' := [(_, _), (_, _), (_, _)]) rfl ?_
   obtain rfl := Option.some.inj h
   exact pt_retP (es := [(2, .v (.int .i64 v4.1))]) (posts := [.box 59 [.fl .shr 1 (List.map (Value.int .u8) v4.2.b), .v (.int .i64 v4.2.at_), .fl (.own 5) 1 (List.map (Value.int .u8) v4.2.out), .v (.int .i64 v4.2.most), .v (.int .i64 v4.2.blocks)]]) hio rfl rfl (.tmp _ _ .nil) rfl rfl hargs0 rfl

set_option maxHeartbeats 1000000 in
theorem ok_grow_read_sh (mx : Int) (b : (List Int)) (most : Int) (r : ((Option T_grow_stream) × Int)) (h : Sh.grow_read_sh b most = some r) : FnG Tryd.prog (GL mx) 24 [.fl .shr 1 (List.map (Value.int .u8) b), .v (.int .i64 most)] (.tup [.obox (Option.isSome r.1) 59 [.fl .shr 1 (List.map (Value.int .u8) (((Option.getD r.1 (default : T_grow_stream))).b)), .v (.int .i64 (((Option.getD r.1 (default : T_grow_stream))).at_)), .fl (.own 5) 1 (List.map (Value.int .u8) (((Option.getD r.1 (default : T_grow_stream))).out)), .v (.int .i64 (((Option.getD r.1 (default : T_grow_stream))).most)), .v (.int .i64 (((Option.getD r.1 (default : T_grow_stream))).blocks))], .v (.int .i64 r.2)]) := by
  unfold Sh.grow_read_sh at h
  refine fn_okG Tryd.func24 rfl (Nat.le_of_ble_eq_true rfl) rfl rfl fun g0 hn hio => ?_
  refine ht_seq ?_
  refine ht_seqR hn (El := [_, _, _, (4, .v (.pointer none)), (5, .v (.int .i64 0))]) (init := [0, 1, 2]) (fin := [0, 1, 2]) (sps := [⟨[], [], [3], [(.slot 4)]⟩, ⟨[], [], [4], [(.slot 5)]⟩]) (es' := [(_, _), (_, _), (_, _)]) (by kernel_rfl) rfl rfl
   ⟨st_plain rfl (op_assign _ _ _ _ rfl rfl),
   st_plain rfl (op_assign _ _ _ _ rfl rfl),
   trivial⟩ ?_
  refine pt_then ?_
  refine ht_seq ?_
  refine ht_seq ?_
  refine ht_joinS h (fun (s1 : Bool) => [(0, .fl .shr 1 (List.map (Value.int .u8) b)), (1, .v (.int .i64 most)), (42, .glob (GL mx)), (14, .v (.bool s1))]) ?_ ?_
  ·rintro s1 h
   refine pt_then ?_
   refine ht_cond _ rfl (fun hb5 => ?_) (fun hb5 => ?_)
   ·have h := cond_t hb5 h
    refine ht_seq ?_
    refine ht_seqR hn (El := [_, _, _, _, (4, .v (.pointer none)), (5, .v (.int .i64 1))]) (init := [0, 1, 2, 3]) (fin := [2, 4, 5]) (sps := [⟨[], [], [4], [(.slot 4)]⟩, ⟨[], [], [5], [(.slot 5)]⟩]) (es' := [(_, _), (4, .v (.pointer none)), (5, .v (.int .i64 1))]) (by kernel_rfl) rfl rfl
     ⟨st_plain rfl (op_assign _ _ _ _ rfl rfl),
     st_plain rfl (op_assign _ _ _ _ rfl rfl),
     trivial⟩ ?_
    refine pt_then ?_
    refine ht_ret ?_
    refine pt_pick [1, 2] (by kernel_rfl) (es' := [(_, _), (_, _)]) rfl ?_
    refine pt_sub (fs := [(4, .obox false 59 [.fl .shr 1 (List.map (Value.int .u8) ((default : T_grow_stream).b)), .v (.int .i64 ((default : T_grow_stream).at_)), .fl (.own 5) 1 (List.map (Value.int .u8) ((default : T_grow_stream).out)), .v (.int .i64 ((default : T_grow_stream).most)), .v (.int .i64 ((default : T_grow_stream).blocks))]), (5, .v (.int .i64 1))]) (.sub _ (sub_ob_nil 59 [.fl .shr 1 (List.map (Value.int .u8) ((default : T_grow_stream).b)), .v (.int .i64 ((default : T_grow_stream).at_)), .fl (.own 5) 1 (List.map (Value.int .u8) ((default : T_grow_stream).out)), .v (.int .i64 ((default : T_grow_stream).most)), .v (.int .i64 ((default : T_grow_stream).blocks))]) rfl (.same _ .nil)) ?_
    refine pt_r_then ?_
    obtain rfl := Option.some.inj h
    exact pt_ret hio rfl (.tmp _ _ (.tmp _ _ .nil)) rfl rfl
   ·have h := cond_f hb5 h
    refine ht_skip ?_
    refine pt_then ?_
    refine ht_seq ?_
    refine ht_seq ?_
    refine ht_seqR hn (El := [_, _, _, _, (15, .fl .shr 1 (List.map (Value.int .u8) b)), (16, .v (.int .i64 (b.length : Int))), (17, .v (.bool ((decide (5000 < (b.length : Int))))))]) (init := [0, 1, 2, 3]) (fin := [0, 1, 2, 6]) (sps := [⟨[0], [], [4], [(.slot 15)]⟩, ⟨[4], [], [5], [(.slot 16)]⟩, ⟨[5], [], [6], [(.slot 17)]⟩]) (es' := [(_, _), (_, _), (_, _), (17, .v (.bool ((decide (5000 < (b.length : Int))))))]) (by kernel_rfl) rfl rfl
     ⟨st_plain rfl (op_move _ _ _ _ rfl rfl),
     st_plain rfl (op_len_fl _ _ _ Tryd.underlying22 rfl (by decide) (map_len _)),
     st_plain rfl (op_bin _ _ _ _ _ rfl rfl rfl),
     trivial⟩ ?_
    refine pt_then ?_
    refine ht_cond _ rfl (fun hb6 => ?_) (fun hb6 => ?_)
    ·have h := cond_t hb6 h
     refine ht_seq ?_
     refine ht_seqR hn (El := [_, _, _, _, (4, .v (.pointer none)), (5, .v (.int .i64 2))]) (init := [0, 1, 2, 3]) (fin := [2, 4, 5]) (sps := [⟨[], [], [4], [(.slot 4)]⟩, ⟨[], [], [5], [(.slot 5)]⟩]) (es' := [(_, _), (4, .v (.pointer none)), (5, .v (.int .i64 2))]) (by kernel_rfl) rfl rfl
      ⟨st_plain rfl (op_assign _ _ _ _ rfl rfl),
      st_plain rfl (op_assign _ _ _ _ rfl rfl),
      trivial⟩ ?_
     refine pt_then ?_
     refine ht_ret ?_
     refine pt_pick [1, 2] (by kernel_rfl) (es' := [(_, _), (_, _)]) rfl ?_
     refine pt_sub (fs := [(4, .obox false 59 [.fl .shr 1 (List.map (Value.int .u8) ((default : T_grow_stream).b)), .v (.int .i64 ((default : T_grow_stream).at_)), .fl (.own 5) 1 (List.map (Value.int .u8) ((default : T_grow_stream).out)), .v (.int .i64 ((default : T_grow_stream).most)), .v (.int .i64 ((default : T_grow_stream).blocks))]), (5, .v (.int .i64 2))]) (.sub _ (sub_ob_nil 59 [.fl .shr 1 (List.map (Value.int .u8) ((default : T_grow_stream).b)), .v (.int .i64 ((default : T_grow_stream).at_)), .fl (.own 5) 1 (List.map (Value.int .u8) ((default : T_grow_stream).out)), .v (.int .i64 ((default : T_grow_stream).most)), .v (.int .i64 ((default : T_grow_stream).blocks))]) rfl (.same _ .nil)) ?_
     refine pt_r_then ?_
     obtain rfl := Option.some.inj h
     exact pt_ret hio rfl (.tmp _ _ (.tmp _ _ .nil)) rfl rfl
    ·have h := cond_f hb6 h
     refine ht_skip ?_
     refine pt_then ?_
     refine ht_seq ?_
     refine ht_seqR hn (El := [_, _, _, _, (18, .fl .shr 1 (List.map (Value.int .u8) b)), (19, .v (.int .i64 most)), (20, .agg [.fl .shr 1 (List.map (Value.int .u8) b), .v (.int .i64 0), .v (.slice none 0 0), .v (.int .i64 most), .v (.int .i64 0)]), (21, .box 59 [.fl .shr 1 (List.map (Value.int .u8) b), .v (.int .i64 0), .v (.slice none 0 0), .v (.int .i64 most), .v (.int .i64 0)]), (6, .box 59 [.fl .shr 1 (List.map (Value.int .u8) b), .v (.int .i64 0), .v (.slice none 0 0), .v (.int .i64 most), .v (.int .i64 0)])]) (init := [0, 1, 2, 3]) (fin := [2, 8]) (sps := [⟨[0], [], [4], [(.slot 18)]⟩, ⟨[1], [], [5], [(.slot 19)]⟩, ⟨[4, 5], [], [6], [(.slot 20)]⟩, ⟨[6], [], [7], [(.slot 21)]⟩, ⟨[], [7], [8], [(.slot 6)]⟩]) (es' := [(_, _), (6, .box 59 [.fl .shr 1 (List.map (Value.int .u8) b), .v (.int .i64 0), .v (.slice none 0 0), .v (.int .i64 most), .v (.int .i64 0)])]) (by kernel_rfl) rfl rfl
      ⟨st_plain rfl (op_move _ _ _ _ rfl rfl),
      st_plain rfl (op_move _ _ _ _ rfl rfl),
      st_plain rfl (op_build _ _ _ _ [1, 1, 1, 1, 1] _ _ Tryd.underlying59 zr59 (fs59 _ Tryd.underlying59) (.copy _ (.copy _ Src.nil)) rfl rfl rfl),
      st_plain rfl (op_box _ _ _ _ rfl rfl rfl),
      st_plain rfl (op_assign_take _ _ _ _ rfl),
      trivial⟩ ?_
     refine pt_then ?_
     refine ht_seq ?_
     refine ht_seq ?_
     refine ht_seqR hn (El := [_, _, (7, .v (.bool false))]) (init := [0, 1]) (fin := [0, 1, 2]) (sps := [⟨[], [], [2], [(.slot 7)]⟩]) (es' := [(_, _), (_, _), (7, .v (.bool false))]) (by kernel_rfl) rfl rfl
      ⟨st_plain rfl (op_assign _ _ _ _ rfl rfl),
      trivial⟩ ?_
     refine pt_then ?_
     refine ht_sub (fs := [(42, .glob (GL mx)), (6, .box 59 [.fl .shr 1 (List.map (Value.int .u8) b), .v (.int .i64 0), .fl (.own 5) 1 (List.map (Value.int .u8) []), .v (.int .i64 most), .v (.int .i64 0)]), (7, .v (.bool false))]) (.same _ (.box _ _ (subs_cons (sub_refl _) (subs_cons (sub_refl _) (subs_cons (sub_nil 5 1) (subs_cons (sub_refl _) (subs_cons (sub_refl _) (subs_nil)))))) rfl (.same _ .nil))) ?_
     refine ht_loopS h (fun ((s18, s19, s20, s21, s22, s23) : (List Int) × Int × (List Int) × Int × Int × Bool) => [(42, .glob (GL mx)), (6, .box 59 [.fl .shr 1 (List.map (Value.int .u8) s18), .v (.int .i64 s19), .fl (.own 5) 1 (List.map (Value.int .u8) s20), .v (.int .i64 s21), .v (.int .i64 s22)]), (7, .v (.bool s23))]) (fun ((s26, s27, s28, s29, s30) : (List Int) × Int × (List Int) × Int × Int) => [(42, .glob (GL mx)), (6, .box 59 [.fl .shr 1 (List.map (Value.int .u8) s26), .v (.int .i64 s27), .fl (.own 5) 1 (List.map (Value.int .u8) s28), .v (.int .i64 s29), .v (.int .i64 s30)])]) ?_ ?_
     ·rintro ⟨s26, s27, s28, s29, s30⟩ h
      refine pt_then ?_
      refine ht_seq ?_
      obtain ⟨v39, hv39, h⟩ := bind_some h
      refine ht_seqR hn (El := [_, _, (39, .ptr 6 0), (40, .ptr 6 0), (41, .v (.int .i64 v39.1)), (6, .box 59 [.fl .shr 1 (List.map (Value.int .u8) v39.2.b), .v (.int .i64 v39.2.at_), .fl (.own 5) 1 (List.map (Value.int .u8) v39.2.out), .v (.int .i64 v39.2.most), .v (.int .i64 v39.2.blocks)]), (4, .box 59 [.fl .shr 1 (List.map (Value.int .u8) v39.2.b), .v (.int .i64 v39.2.at_), .fl (.own 5) 1 (List.map (Value.int .u8) v39.2.out), .v (.int .i64 v39.2.most), .v (.int .i64 v39.2.blocks)]), (5, .v (.int .i64 v39.1))]) (init := [0, 1]) (fin := [0, 6, 7]) (sps := [⟨[1], [], [2], [(.slot 39)]⟩, ⟨[1], [], [3], [(.slot 40)]⟩, ⟨[3], [1], [5, 4], [(.slot 41), (.cell 6 0), (.cell 6 1), (.cell 6 2), (.cell 6 3), (.cell 6 4)]⟩, ⟨[2], [3, 5], [6], [(.slot 4)]⟩, ⟨[4], [], [7], [(.slot 5)]⟩]) (es' := [(_, _), (4, .box 59 [.fl .shr 1 (List.map (Value.int .u8) v39.2.b), .v (.int .i64 v39.2.at_), .fl (.own 5) 1 (List.map (Value.int .u8) v39.2.out), .v (.int .i64 v39.2.most), .v (.int .i64 v39.2.blocks)]), (5, .v (.int .i64 v39.1))]) (by kernel_rfl) rfl rfl
       ⟨st_plain rfl (op_move _ _ _ _ rfl rfl),
       st_plain rfl (op_move _ _ _ _ rfl rfl),
       st_plain rfl (op_callPS _ _ _ _ 41 41 [.tmp 40] [] _ _ _ rfl Tryd.call41 rfl rfl rfl (ok_grow_stream_end (T_grow_stream.mk s26 s27 s28 s29 s30) _ hv39) (Nat.le_of_ble_eq_true rfl) rfl rfl rfl rfl rfl rfl rfl),
       st_plain rfl (LOp.drop [_] (op_assign_takeP _ _ 6 _ rfl rfl)),
       st_plain rfl (op_assign _ _ _ _ rfl rfl),
       trivial⟩ ?_
      refine pt_then ?_
      refine ht_ret ?_
      refine pt_pick [1, 2] (by kernel_rfl) (es' := [(_, _), (_, _)]) rfl ?_
      refine pt_sub (fs := [(4, .obox true 59 [.fl .shr 1 (List.map (Value.int .u8) v39.2.b), .v (.int .i64 v39.2.at_), .fl (.own 5) 1 (List.map (Value.int .u8) v39.2.out), .v (.int .i64 v39.2.most), .v (.int .i64 v39.2.blocks)]), (5, .v (.int .i64 v39.1))]) (.sub _ (sub_ob_box 59 (subs_refl _)) rfl (.same _ .nil)) ?_
      obtain rfl := Option.some.inj h
      exact pt_ret hio rfl (.tmp _ _ (.tmp _ _ .nil)) rfl rfl
     ·rintro u31 hl32 hr33 ⟨s18, s19, s20, s21, s22, s23⟩ rr36 h ho34
      refine ht_seq ?_
      refine ht_seq ?_
      refine ht_seqR hn (El := [_, _, _, (22, .v (.bool s23)), (23, .v (.bool (!s23)))]) (init := [0, 1, 2]) (fin := [0, 1, 4]) (sps := [⟨[2], [], [3], [(.slot 22)]⟩, ⟨[3], [], [4], [(.slot 23)]⟩]) (es' := [(_, _), (_, _), (23, .v (.bool (!s23)))]) (by kernel_rfl) rfl rfl
       ⟨st_plain rfl (op_move _ _ _ _ rfl rfl),
       st_plain rfl (op_un _ _ _ _ rfl rfl),
       trivial⟩ ?_
      refine pt_then ?_
      refine ht_cond _ rfl (fun hb37 => ?_) (fun hb37 => ?_)
      ·have h := cond_t hb37 h
       refine ht_skip ?_
       refine pt_then ?_
       refine ht_block ?_
       refine ht_seq ?_
       refine ht_seqR hn (El := [_, _, _, (8, .v (.int .i64 0))]) (init := [0, 1, 2]) (fin := [0, 1]) (sps := [⟨[], [], [3], [(.slot 8)]⟩]) (es' := [(_, _), (_, _)]) (by kernel_rfl) rfl rfl
        ⟨st_plain rfl (op_assign _ _ _ _ rfl rfl),
        trivial⟩ ?_
       refine pt_then ?_
       refine ht_seq ?_
       refine ht_seq ?_
       obtain ⟨v7, hv7, h⟩ := bind_some h
       refine ht_seqR hn (El := [_, _, (25, .ptr 6 0), (26, .tup [.v (.bool v7.1), .v (.int .i64 v7.2.1)]), (6, .box 59 [.fl .shr 1 (List.map (Value.int .u8) v7.2.2.b), .v (.int .i64 v7.2.2.at_), .fl (.own 5) 1 (List.map (Value.int .u8) v7.2.2.out), .v (.int .i64 v7.2.2.most), .v (.int .i64 v7.2.2.blocks)]), (24, .tup [.v (.bool v7.1), .v (.int .i64 v7.2.1)]), (27, .v (.bool v7.1)), (28, .v (.int .i64 v7.2.1)), (7, .v (.bool v7.1)), (8, .v (.int .i64 v7.2.1))]) (init := [0, 1]) (fin := [0, 4, 8, 9]) (sps := [⟨[1], [], [2], [(.slot 25)]⟩, ⟨[2, 0], [1], [4, 3], [(.slot 26), (.cell 6 0), (.cell 6 1), (.cell 6 2), (.cell 6 3), (.cell 6 4)]⟩, ⟨[], [3], [5], [(.slot 24)]⟩, ⟨[5], [], [6], [(.slot 27)]⟩, ⟨[5], [], [7], [(.slot 28)]⟩, ⟨[6], [], [8], [(.slot 7)]⟩, ⟨[7], [], [9], [(.slot 8)]⟩]) (es' := [(_, _), (6, .box 59 [.fl .shr 1 (List.map (Value.int .u8) v7.2.2.b), .v (.int .i64 v7.2.2.at_), .fl (.own 5) 1 (List.map (Value.int .u8) v7.2.2.out), .v (.int .i64 v7.2.2.most), .v (.int .i64 v7.2.2.blocks)]), (7, .v (.bool v7.1)), (8, .v (.int .i64 v7.2.1))]) (by kernel_rfl) rfl rfl
        ⟨st_plain rfl (op_move _ _ _ _ rfl rfl),
        st_plain rfl (op_callPSG _ _ _ _ 26 42 40 [.tmp 25] [] _ _ _ rfl Tryd.call40 rfl rfl rfl rfl (fun _ h => h) (ok_grow_stream_block mx (T_grow_stream.mk s18 s19 s20 s21 s22) _ hv7) (Nat.le_of_ble_eq_true rfl) rfl rfl rfl rfl rfl rfl rfl),
        st_plain rfl (op_move_take _ _ _ _ rfl),
        st_plain rfl (op_extract _ _ _ _ _ rfl rfl (Nat.le_of_ble_eq_true rfl) rfl rfl),
        st_plain rfl (op_extract _ _ _ _ _ rfl rfl (Nat.le_of_ble_eq_true rfl) rfl rfl),
        st_plain rfl (op_assign _ _ _ _ rfl rfl),
        st_plain rfl (op_assign _ _ _ _ rfl rfl),
        trivial⟩ ?_
       refine pt_then ?_
       refine ht_seq ?_
       refine ht_seqR hn (El := [_, _, _, _, (29, .v (.int .i64 v7.2.1)), (30, .v (.bool (v7.2.1 != 0)))]) (init := [0, 1, 2, 3]) (fin := [0, 1, 2, 3, 5]) (sps := [⟨[3], [], [4], [(.slot 29)]⟩, ⟨[4], [], [5], [(.slot 30)]⟩]) (es' := [(_, _), (_, _), (_, _), (_, _), (30, .v (.bool (v7.2.1 != 0)))]) (by kernel_rfl) rfl rfl
        ⟨st_plain rfl (op_move _ _ _ _ rfl rfl),
        st_plain rfl (op_bin _ _ _ _ _ rfl rfl rfl),
        trivial⟩ ?_
       refine pt_then ?_
       refine ht_cond _ rfl (fun hb38 => ?_) (fun hb38 => ?_)
       ·have h := cond_t hb38 h
        refine ht_seq ?_
        refine ht_seqR hn (El := [_, _, _, _, _, (31, .v (.int .i64 v7.2.1)), (4, .v (.pointer none)), (5, .v (.int .i64 v7.2.1))]) (init := [0, 1, 2, 3, 4]) (fin := [0, 6, 7]) (sps := [⟨[3], [], [5], [(.slot 31)]⟩, ⟨[], [], [6], [(.slot 4)]⟩, ⟨[5], [], [7], [(.slot 5)]⟩]) (es' := [(_, _), (4, .v (.pointer none)), (5, .v (.int .i64 v7.2.1))]) (by kernel_rfl) rfl rfl
         ⟨st_plain rfl (op_move _ _ _ _ rfl rfl),
         st_plain rfl (op_assign _ _ _ _ rfl rfl),
         st_plain rfl (op_assign _ _ _ _ rfl rfl),
         trivial⟩ ?_
        refine pt_then ?_
        refine ht_ret ?_
        refine pt_pick [1, 2] (by kernel_rfl) (es' := [(_, _), (_, _)]) rfl ?_
        refine pt_sub (fs := [(4, .obox false 59 [.fl .shr 1 (List.map (Value.int .u8) ((default : T_grow_stream).b)), .v (.int .i64 ((default : T_grow_stream).at_)), .fl (.own 5) 1 (List.map (Value.int .u8) ((default : T_grow_stream).out)), .v (.int .i64 ((default : T_grow_stream).most)), .v (.int .i64 ((default : T_grow_stream).blocks))]), (5, .v (.int .i64 v7.2.1))]) (.sub _ (sub_ob_nil 59 [.fl .shr 1 (List.map (Value.int .u8) ((default : T_grow_stream).b)), .v (.int .i64 ((default : T_grow_stream).at_)), .fl (.own 5) 1 (List.map (Value.int .u8) ((default : T_grow_stream).out)), .v (.int .i64 ((default : T_grow_stream).most)), .v (.int .i64 ((default : T_grow_stream).blocks))]) rfl (.same _ .nil)) ?_
        refine pt_r_then ?_
        refine pt_r_in ?_
        refine pt_r_then ?_
        refine pt_r_in ?_
        refine pt_r_then ?_
        have h := hr33 _ (ho34 _ (Option.some.inj h).symm).symm
        obtain rfl := Option.some.inj h
        exact pt_ret hio rfl (.tmp _ _ (.tmp _ _ .nil)) rfl rfl
       ·have h := cond_f hb38 h
        refine ht_skip ?_
        refine pt_then ?_
        obtain ⟨v9, hv9, h⟩ := bind_some h
        refine ht_seqR hn (El := [_, _, _, _, _, (32, .ptr 6 0), (33, .ptr 6 0), (34, .ptr 6 4), (35, .v (.int .i64 v7.2.2.blocks)), (36, .v (.int .i64 v9)), (37, .ptr 6 0), (38, .ptr 6 4), (6, .box 59 [.fl .shr 1 (List.map (Value.int .u8) v7.2.2.b), .v (.int .i64 v7.2.2.at_), .fl (.own 5) 1 (List.map (Value.int .u8) v7.2.2.out), .v (.int .i64 v7.2.2.most), .v (.int .i64 v9)])]) (init := [0, 1, 2, 3, 4]) (fin := [0, 12, 2]) (sps := [⟨[1], [], [5], [(.slot 32)]⟩, ⟨[5, 1], [], [6], [(.slot 33)]⟩, ⟨[6, 1], [], [7], [(.slot 34)]⟩, ⟨[7, 1], [], [8], [(.slot 35)]⟩, ⟨[8], [], [9], [(.slot 36)]⟩, ⟨[5, 1], [], [10], [(.slot 37)]⟩, ⟨[10, 1], [], [11], [(.slot 38)]⟩, ⟨[11, 9], [1], [12], [.cell 6 4]⟩]) (es' := [(_, _), (6, .box 59 [.fl .shr 1 (List.map (Value.int .u8) v7.2.2.b), .v (.int .i64 v7.2.2.at_), .fl (.own 5) 1 (List.map (Value.int .u8) v7.2.2.out), .v (.int .i64 v7.2.2.most), .v (.int .i64 v9)]), (_, _)]) (by kernel_rfl) rfl rfl
         ⟨st_plain rfl (op_move _ _ _ _ rfl rfl),
         st_plain rfl (op_nilCheck _ _ _ 6 0 rfl (by decide)),
         st_plain rfl (op_fieldAddr _ _ _ _ 6 0 _ Tryd.underlying59 rfl sz3 rfl rfl (by decide)),
         st_plain rfl (op_load _ _ _ _ _ _ Tryd.underlying3 rfl rfl rfl (Nat.le_of_ble_eq_true rfl) rfl rfl rfl),
         st_plain rfl (op_bin _ _ _ _ _ rfl rfl (ibind (f := Value.int .i64) (Option.some.inj hv9))),
         st_plain rfl (op_nilCheck _ _ _ 6 0 rfl (by decide)),
         st_plain rfl (op_fieldAddr _ _ _ _ 6 0 _ Tryd.underlying59 rfl sz3 rfl rfl (by decide)),
         st_plain rfl (op_store _ _ _ _ _ _ _ _ sz3 rfl rfl rfl rfl (Nat.le_of_ble_eq_true rfl) rfl rfl),
         trivial⟩ ?_
        refine pt_inb ?_
        exact pt_next _ (Option.some.inj h).symm rfl
      ·have h := cond_f hb37 h
       refine ht_exit ?_
       refine pt_x_then ?_
       refine pt_x_then ?_
       refine pt_x_in ?_
       refine pt_pick [0, 1] (by kernel_rfl) (es' := [(_, _), (_, _)]) rfl ?_
       exact hl32 _ (ho34 _ (Option.some.inj h).symm).symm
  ·intro u2 h hl3 hr4
   refine cond_some h (fun hg1_2 h => ?_) (fun hg1_2 h => ?_)
   ·refine ht_seqR hn (El := [_, _, _, (9, .v (.int .i64 most)), (10, .v (.bool ((decide (most < 0))))), (11, .v (.bool true)), (12, .v undef), (13, .v undef), (14, .v (.bool true))]) (init := [0, 1, 2]) (fin := [0, 1, 2, 8]) (sps := [⟨[1], [], [3], [(.slot 9)]⟩, ⟨[3], [], [4], [(.slot 10)]⟩, ⟨[4], [], [5], [(.slot 11)]⟩, ⟨[5], [], [6], [(.slot 12)]⟩, ⟨[5], [], [7], [(.slot 13)]⟩, ⟨[5], [], [8], [(.slot 14)]⟩]) (es' := [(_, _), (_, _), (_, _), (14, .v (.bool true))]) (by kernel_rfl) rfl rfl
     ⟨st_plain rfl (op_move _ _ _ _ rfl rfl),
     st_plain rfl (op_bin _ _ _ _ _ rfl rfl rfl),
     st_plain rfl (op_move _ _ _ _ (congrArg (fun b => AV.v (Value.bool b)) hg1_2) rfl),
     st_skip 2 11 _ false rfl rfl rfl rfl (List.Mem.head _),
     st_skip 2 11 _ false rfl rfl rfl rfl (List.Mem.head _),
     st_plain rfl (op_pick _ _ true _ rfl rfl),
     trivial⟩ ?_
    exact hl3 _ (Option.some.inj h).symm
   ·refine ht_seqR hn (El := [_, _, _, (9, .v (.int .i64 most)), (10, .v (.bool ((decide (most < 0))))), (11, .v (.bool false)), (12, .v (.int .i64 most)), (13, .v (.bool ((decide (4096 < most))))), (14, .v (.bool ((decide (4096 < most)))))]) (init := [0, 1, 2]) (fin := [0, 1, 2, 8]) (sps := [⟨[1], [], [3], [(.slot 9)]⟩, ⟨[3], [], [4], [(.slot 10)]⟩, ⟨[4], [], [5], [(.slot 11)]⟩, ⟨[5, 1], [], [6], [(.slot 12)]⟩, ⟨[5, 6], [], [7], [(.slot 13)]⟩, ⟨[5, 7], [], [8], [(.slot 14)]⟩]) (es' := [(_, _), (_, _), (_, _), (14, .v (.bool ((decide (4096 < most)))))]) (by kernel_rfl) rfl rfl
     ⟨st_plain rfl (op_move _ _ _ _ rfl rfl),
     st_plain rfl (op_bin _ _ _ _ _ rfl rfl rfl),
     st_plain rfl (op_move _ _ _ _ (congrArg (fun b => AV.v (Value.bool b)) hg1_2) rfl),
     st_run 2 11 false rfl rfl rfl (List.Mem.head _) (op_move _ _ _ _ rfl rfl),
     st_run 2 11 false rfl rfl rfl (List.Mem.head _) (op_bin _ _ _ _ _ rfl rfl rfl),
     st_plain rfl (op_pick _ _ false _ rfl rfl),
     trivial⟩ ?_
    exact hl3 _ (Option.some.inj h).symm

set_option maxHeartbeats 1000000 in
theorem ok_grow_Grow (mx : Int) (b : (List Int)) (most : Int) (r : ((List Int) × Int)) (h : Sh.grow_Grow b most = some r) : FnG Tryd.prog (GL mx) 11 [.fl .shr 1 (List.map (Value.int .u8) b), .v (.int .i64 most)] (.tup [.fl .ro 1 (List.map (Value.int .u8) r.1), .v (.int .i64 r.2)]) := by
  unfold Sh.grow_Grow at h
  refine fn_okG Tryd.func11 rfl (Nat.le_of_ble_eq_true rfl) rfl rfl fun g0 hn hio => ?_
  refine ht_seq ?_
  refine ht_seqR hn (El := [_, _, _, (4, .v (.slice none 0 0)), (5, .v (.int .i64 0))]) (init := [0, 1, 2]) (fin := [0, 1, 2]) (sps := [⟨[], [], [3], [(.slot 4)]⟩, ⟨[], [], [4], [(.slot 5)]⟩]) (es' := [(_, _), (_, _), (_, _)]) (by kernel_rfl) rfl rfl
   ⟨st_plain rfl (op_assign _ _ _ _ rfl rfl),
   st_plain rfl (op_assign _ _ _ _ rfl rfl),
   trivial⟩ ?_
  refine pt_then ?_
  refine ht_seq ?_
  obtain ⟨v1, hv1, h⟩ := bind_some h
  refine ht_seqR hn (El := [_, _, _, (9, .fl .shr 1 (List.map (Value.int .u8) b)), (10, .v (.int .i64 most)), (11, .tup [.obox (Option.isSome v1.1) 59 [.fl .shr 1 (List.map (Value.int .u8) (((Option.getD v1.1 (default : T_grow_stream))).b)), .v (.int .i64 (((Option.getD v1.1 (default : T_grow_stream))).at_)), .fl (.own 5) 1 (List.map (Value.int .u8) (((Option.getD v1.1 (default : T_grow_stream))).out)), .v (.int .i64 (((Option.getD v1.1 (default : T_grow_stream))).most)), .v (.int .i64 (((Option.getD v1.1 (default : T_grow_stream))).blocks))], .v (.int .i64 v1.2)]), (8, .tup [.obox (Option.isSome v1.1) 59 [.fl .shr 1 (List.map (Value.int .u8) (((Option.getD v1.1 (default : T_grow_stream))).b)), .v (.int .i64 (((Option.getD v1.1 (default : T_grow_stream))).at_)), .fl (.own 5) 1 (List.map (Value.int .u8) (((Option.getD v1.1 (default : T_grow_stream))).out)), .v (.int .i64 (((Option.getD v1.1 (default : T_grow_stream))).most)), .v (.int .i64 (((Option.getD v1.1 (default : T_grow_stream))).blocks))], .v (.int .i64 v1.2)]), (12, .obox (Option.isSome v1.1) 59 [.fl .shr 1 (List.map (Value.int .u8) (((Option.getD v1.1 (default : T_grow_stream))).b)), .v (.int .i64 (((Option.getD v1.1 (default : T_grow_stream))).at_)), .fl (.own 5) 1 (List.map (Value.int .u8) (((Option.getD v1.1 (default : T_grow_stream))).out)), .v (.int .i64 (((Option.getD v1.1 (default : T_grow_stream))).most)), .v (.int .i64 (((Option.getD v1.1 (default : T_grow_stream))).blocks))]), (8, .tup [.any, .v (.int .i64 v1.2)]), (13, .v (.int .i64 v1.2)), (6, .obox (Option.isSome v1.1) 59 [.fl .shr 1 (List.map (Value.int .u8) (((Option.getD v1.1 (default : T_grow_stream))).b)), .v (.int .i64 (((Option.getD v1.1 (default : T_grow_stream))).at_)), .fl (.own 5) 1 (List.map (Value.int .u8) (((Option.getD v1.1 (default : T_grow_stream))).out)), .v (.int .i64 (((Option.getD v1.1 (default : T_grow_stream))).most)), .v (.int .i64 (((Option.getD v1.1 (default : T_grow_stream))).blocks))]), (7, .v (.int .i64 v1.2))]) (init := [0, 1, 2]) (fin := [2, 10, 11]) (sps := [⟨[0], [], [3], [(.slot 9)]⟩, ⟨[1], [], [4], [(.slot 10)]⟩, ⟨[3, 4, 2], [], [5], [(.slot 11)]⟩, ⟨[], [5], [6], [(.slot 8)]⟩, ⟨[], [6], [8, 7], [(.slot 12)]⟩, ⟨[8], [], [9], [(.slot 13)]⟩, ⟨[], [7], [10], [(.slot 6)]⟩, ⟨[9], [], [11], [(.slot 7)]⟩]) (es' := [(_, _), (6, .obox (Option.isSome v1.1) 59 [.fl .shr 1 (List.map (Value.int .u8) (((Option.getD v1.1 (default : T_grow_stream))).b)), .v (.int .i64 (((Option.getD v1.1 (default : T_grow_stream))).at_)), .fl (.own 5) 1 (List.map (Value.int .u8) (((Option.getD v1.1 (default : T_grow_stream))).out)), .v (.int .i64 (((Option.getD v1.1 (default : T_grow_stream))).most)), .v (.int .i64 (((Option.getD v1.1 (default : T_grow_stream))).blocks))]), (7, .v (.int .i64 v1.2))]) (by kernel_rfl) rfl rfl
   ⟨st_plain rfl (op_move _ _ _ _ rfl rfl),
   st_plain rfl (op_move _ _ _ _ rfl rfl),
   st_plain rfl (op_callSG _ _ 21 24 _ _ rfl Tryd.call24 rfl rfl rfl (fun _ h => h) (ok_grow_read_sh mx b most _ hv1) rfl),
   st_plain rfl (op_move_take _ _ _ _ rfl),
   st_plain rfl (op_extract_take _ _ _ _ _ rfl (Nat.le_of_ble_eq_true rfl) rfl rfl (by decide) rfl),
   st_plain rfl (op_extract _ _ _ _ _ rfl rfl (Nat.le_of_ble_eq_true rfl) rfl rfl),
   st_plain rfl (op_assign_take _ _ _ _ rfl),
   st_plain rfl (op_assign _ _ _ _ rfl rfl),
   trivial⟩ ?_
  refine pt_ob (d := default) (f := fun (v6 : T_grow_stream) => [.fl .shr 1 (List.map (Value.int .u8) v6.b), .v (.int .i64 v6.at_), .fl (.own 5) 1 (List.map (Value.int .u8) v6.out), .v (.int .i64 v6.most), .v (.int .i64 v6.blocks)]) 1 5 6 59 h (es1 := fun v6 => [(21, .glob (GL mx)), (6, .box 59 [.fl .shr 1 (List.map (Value.int .u8) v6.b), .v (.int .i64 v6.at_), .fl (.own 5) 1 (List.map (Value.int .u8) v6.out), .v (.int .i64 v6.most), .v (.int .i64 v6.blocks)]), (7, .v (.int .i64 v1.2))]) (es0 := [(21, .glob (GL mx)), (6, .v (.pointer none)), (7, .v (.int .i64 v1.2))]) rfl (fun _ => rfl) (by kernel_rfl) (fun _ => rfl) (fun _ => rfl) rfl (fun v6 hv7 h => ?_) (fun hv7 h => ?_)
  ·refine pt_then ?_
   refine ht_seq ?_
   refine ht_seq ?_
   refine ht_seqR hn (El := [_, _, _, (14, .v (.int .i64 v1.2)), (15, .v (.bool (v1.2 != 0)))]) (init := [0, 1, 2]) (fin := [0, 1, 2, 4]) (sps := [⟨[2], [], [3], [(.slot 14)]⟩, ⟨[3], [], [4], [(.slot 15)]⟩]) (es' := [(_, _), (_, _), (_, _), (15, .v (.bool (v1.2 != 0)))]) (by kernel_rfl) rfl rfl
    ⟨st_plain rfl (op_move _ _ _ _ rfl rfl),
    st_plain rfl (op_bin _ _ _ _ _ rfl rfl rfl),
    trivial⟩ ?_
   refine pt_then ?_
   refine ht_cond _ rfl (fun hb8 => ?_) (fun hb8 => ?_)
   ·have h := cond_t hb8 h
    refine ht_seq ?_
    refine ht_seqR hn (El := [_, _, _, _, (16, .v (.int .i64 v1.2)), (4, .v (.slice none 0 0)), (5, .v (.int .i64 v1.2))]) (init := [0, 1, 2, 3]) (fin := [0, 5, 6]) (sps := [⟨[2], [], [4], [(.slot 16)]⟩, ⟨[], [], [5], [(.slot 4)]⟩, ⟨[4], [], [6], [(.slot 5)]⟩]) (es' := [(_, _), (4, .v (.slice none 0 0)), (5, .v (.int .i64 v1.2))]) (by kernel_rfl) rfl rfl
     ⟨st_plain rfl (op_move _ _ _ _ rfl rfl),
     st_plain rfl (op_assign _ _ _ _ rfl rfl),
     st_plain rfl (op_assign _ _ _ _ rfl rfl),
     trivial⟩ ?_
    refine pt_then ?_
    refine ht_ret ?_
    refine pt_pick [1, 2] (by kernel_rfl) (es' := [(_, _), (_, _)]) rfl ?_
    refine pt_sub (fs := [(4, .fl (.own 5) 1 (List.map (Value.int .u8) [])), (5, .v (.int .i64 v1.2))]) (.sub _ (sub_nil 5 1) rfl (.same _ .nil)) ?_
    refine pt_frz 0 hio (es' := [(4, .fl .ro 1 (List.map (Value.int .u8) [])), (5, .v (.int .i64 v1.2))]) rfl ?_
    refine pt_r_then ?_
    obtain rfl := Option.some.inj h
    exact pt_ret hio rfl (.tmp _ _ (.tmp _ _ .nil)) rfl rfl
   ·have h := cond_f hb8 h
    refine ht_skip ?_
    refine pt_then ?_
    refine ht_seq ?_
    refine ht_frz 1 hio (es' := [(21, .glob (GL mx)), (6, .box 59 [.fl .shr 1 (List.map (Value.int .u8) v6.b), .v (.int .i64 v6.at_), .fl .ro 1 (List.map (Value.int .u8) v6.out), .v (.int .i64 v6.most), .v (.int .i64 v6.blocks)]), (7, .v (.int .i64 v1.2)), (15, .v (.bool (v1.2 != 0)))]) rfl ?_
    refine ht_seqR hn (El := [_, _, _, _, (17, .box 59 [.fl .shr 1 (List.map (Value.int .u8) v6.b), .v (.int .i64 v6.at_), .fl .ro 1 (List.map (Value.int .u8) v6.out), .v (.int .i64 v6.most), .v (.int .i64 v6.blocks)]), (18, .ptr 17 0), (19, .ptr 17 2), (20, .fl .ro 1 (List.map (Value.int .u8) v6.out)), (4, .fl .ro 1 (List.map (Value.int .u8) v6.out)), (5, .v (.int .i64 0))]) (init := [0, 1, 2, 3]) (fin := [0, 8, 9]) (sps := [⟨[], [1], [4], [(.slot 17)]⟩, ⟨[4], [], [5], [(.slot 18)]⟩, ⟨[5, 4], [], [6], [(.slot 19)]⟩, ⟨[6, 4], [], [7], [(.slot 20)]⟩, ⟨[7], [], [8], [(.slot 4)]⟩, ⟨[], [], [9], [(.slot 5)]⟩]) (es' := [(_, _), (4, .fl .ro 1 (List.map (Value.int .u8) v6.out)), (5, .v (.int .i64 0))]) (by kernel_rfl) rfl rfl
     ⟨st_plain rfl (op_move_take _ _ _ _ rfl),
     st_plain rfl (op_nilCheck _ _ _ 17 0 rfl (by decide)),
     st_plain rfl (op_fieldAddr _ _ _ _ 17 0 _ Tryd.underlying59 rfl sz22 rfl rfl (by decide)),
     st_plain rfl (op_load _ _ _ _ _ _ Tryd.underlying22 rfl rfl rfl (Nat.le_of_ble_eq_true rfl) rfl rfl rfl),
     st_plain rfl (op_assign _ _ _ _ rfl rfl),
     st_plain rfl (op_assign _ _ _ _ rfl rfl),
     trivial⟩ ?_
    refine pt_then ?_
    refine ht_ret ?_
    refine pt_pick [1, 2] (by kernel_rfl) (es' := [(_, _), (_, _)]) rfl ?_
    obtain rfl := Option.some.inj h
    exact pt_ret hio rfl (.tmp _ _ (.tmp _ _ .nil)) rfl rfl
  ·refine pt_then ?_
   refine ht_seq ?_
   refine ht_seq ?_
   refine ht_seqR hn (El := [_, _, _, (14, .v (.int .i64 v1.2)), (15, .v (.bool (v1.2 != 0)))]) (init := [0, 1, 2]) (fin := [0, 1, 2, 4]) (sps := [⟨[2], [], [3], [(.slot 14)]⟩, ⟨[3], [], [4], [(.slot 15)]⟩]) (es' := [(_, _), (_, _), (_, _), (15, .v (.bool (v1.2 != 0)))]) (by kernel_rfl) rfl rfl
    ⟨st_plain rfl (op_move _ _ _ _ rfl rfl),
    st_plain rfl (op_bin _ _ _ _ _ rfl rfl rfl),
    trivial⟩ ?_
   refine pt_then ?_
   refine ht_cond _ rfl (fun hb9 => ?_) (fun hb9 => ?_)
   ·have h := cond_t hb9 h
    refine ht_seq ?_
    refine ht_seqR hn (El := [_, _, _, _, (16, .v (.int .i64 v1.2)), (4, .v (.slice none 0 0)), (5, .v (.int .i64 v1.2))]) (init := [0, 1, 2, 3]) (fin := [0, 5, 6]) (sps := [⟨[2], [], [4], [(.slot 16)]⟩, ⟨[], [], [5], [(.slot 4)]⟩, ⟨[4], [], [6], [(.slot 5)]⟩]) (es' := [(_, _), (4, .v (.slice none 0 0)), (5, .v (.int .i64 v1.2))]) (by kernel_rfl) rfl rfl
     ⟨st_plain rfl (op_move _ _ _ _ rfl rfl),
     st_plain rfl (op_assign _ _ _ _ rfl rfl),
     st_plain rfl (op_assign _ _ _ _ rfl rfl),
     trivial⟩ ?_
    refine pt_then ?_
    refine ht_ret ?_
    refine pt_pick [1, 2] (by kernel_rfl) (es' := [(_, _), (_, _)]) rfl ?_
    refine pt_sub (fs := [(4, .fl (.own 5) 1 (List.map (Value.int .u8) [])), (5, .v (.int .i64 v1.2))]) (.sub _ (sub_nil 5 1) rfl (.same _ .nil)) ?_
    refine pt_frz 0 hio (es' := [(4, .fl .ro 1 (List.map (Value.int .u8) [])), (5, .v (.int .i64 v1.2))]) rfl ?_
    refine pt_r_then ?_
    obtain rfl := Option.some.inj h
    exact pt_ret hio rfl (.tmp _ _ (.tmp _ _ .nil)) rfl rfl
   ·have h := cond_f hb9 h
    cases h

end Go.Proofs.YthceldoojddpiaaDoor
