/-
  The model's runs are what is told in Lean.
-/
import Derived.Test.YtjhpgfccojoajaaDoorProg
import Derived.KernelRfl
import Derived.Test.YtjhpgfccojoajaaDoorOkc2
set_option linter.unusedVariables false
set_option linter.unusedSimpArgs false
namespace Go.Proofs.YtjhpgfccojoajaaDoor
open Go.Abs Go.Abs.Sh

set_option maxHeartbeats 1000000 in
theorem ok_wherrylaw09_DigestExact (mx : Int) (key : (List Int)) (text : (List Int)) (r : Bool) (h : Sh.wherrylaw09_DigestExact key text = some r) : FnG Tryd.prog (GL mx) 3 [.fl .shr 1 (List.map (Value.int .u8) key), .fl .shr 1 (List.map (Value.int .u8) text)] (.v (.bool r)) := by
  unfold Sh.wherrylaw09_DigestExact at h
  refine fn_okG Tryd.func3 rfl (Nat.le_of_ble_eq_true rfl) rfl rfl fun g0 hn hio => ?_
  refine ht_seq ?_
  refine ht_seqR hn (El := [_, _, _, (4, .v (.bool false))]) (init := [0, 1, 2]) (fin := [0, 1, 2]) (sps := [⟨[], [], [3], [(.slot 4)]⟩]) (es' := [(_, _), (_, _), (_, _)]) (by kernel_rfl) rfl rfl
   ⟨st_plain rfl (op_assign _ _ _ _ rfl rfl),
   trivial⟩ ?_
  refine pt_then ?_
  refine ht_seq ?_
  refine ht_seq ?_
  refine ht_joinS h (fun (s1 : Bool) => [(0, .fl .shr 1 (List.map (Value.int .u8) key)), (1, .fl .shr 1 (List.map (Value.int .u8) text)), (46, .glob (GL mx)), (14, .v (.bool s1))]) ?_ ?_
  ·rintro s1 h
   refine pt_then ?_
   refine ht_cond _ rfl (fun hb5 => ?_) (fun hb5 => ?_)
   ·have h := cond_t hb5 h
    refine ht_seq ?_
    refine ht_seqR hn (El := [_, _, _, _, (4, .v (.bool true))]) (init := [0, 1, 2, 3]) (fin := [2, 4]) (sps := [⟨[], [], [4], [(.slot 4)]⟩]) (es' := [(_, _), (4, .v (.bool true))]) (by kernel_rfl) rfl rfl
     ⟨st_plain rfl (op_assign _ _ _ _ rfl rfl),
     trivial⟩ ?_
    refine pt_then ?_
    refine ht_ret ?_
    refine pt_pick [1] (by kernel_rfl) (es' := [(_, _)]) rfl ?_
    refine pt_r_then ?_
    obtain rfl := Option.some.inj h
    exact pt_ret hio rfl (.tmp _ _ .nil) rfl rfl
   ·have h := cond_f hb5 h
    refine ht_skip ?_
    refine pt_then ?_
    refine ht_seq ?_
    obtain ⟨v6, hv6, h⟩ := bind_some h
    obtain ⟨v7, hv7, h⟩ := bind_some h
    refine ht_seqR hn (El := [_, _, _, _, (15, .fl .shr 1 (List.map (Value.int .u8) key)), (16, .fl (.own 5) 1 (List.map (Value.int .u8) v6)), (17, .fl .shr 1 (List.map (Value.int .u8) text)), (18, .fl (.own 5) 1 (List.map (Value.int .u8) v7)), (5, .fl (.own 5) 1 (List.map (Value.int .u8) v6)), (6, .fl (.own 5) 1 (List.map (Value.int .u8) v7))]) (init := [0, 1, 2, 3]) (fin := [0, 1, 2, 8, 9]) (sps := [⟨[0], [], [4], [(.slot 15)]⟩, ⟨[4], [], [5], [(.slot 16)]⟩, ⟨[1], [], [6], [(.slot 17)]⟩, ⟨[6], [], [7], [(.slot 18)]⟩, ⟨[], [5], [8], [(.slot 5)]⟩, ⟨[], [7], [9], [(.slot 6)]⟩]) (es' := [(_, _), (_, _), (_, _), (5, .fl (.own 5) 1 (List.map (Value.int .u8) v6)), (6, .fl (.own 5) 1 (List.map (Value.int .u8) v7))]) (by kernel_rfl) rfl rfl
     ⟨st_plain rfl (op_move _ _ _ _ rfl rfl),
     st_plain rfl (op_call _ _ 6 _ _ rfl Tryd.call6 rfl (ok_wherrykeep_Twin key _ hv6) rfl rfl),
     st_plain rfl (op_move _ _ _ _ rfl rfl),
     st_plain rfl (op_call _ _ 6 _ _ rfl Tryd.call6 rfl (ok_wherrykeep_Twin text _ hv7) rfl rfl),
     st_plain rfl (op_assign_take _ _ _ _ rfl),
     st_plain rfl (op_assign_take _ _ _ _ rfl),
     trivial⟩ ?_
    refine pt_then ?_
    refine ht_seq ?_
    refine ht_joinS h (fun (s19 : Bool) => [(46, .glob (GL mx)), (4, .v (.bool s19))]) ?_ ?_
    ·rintro s19 h
     refine pt_then ?_
     refine ht_ret ?_
     refine pt_pick [1] (by kernel_rfl) (es' := [(_, _)]) rfl ?_
     obtain rfl := Option.some.inj h
     exact pt_ret hio rfl (.tmp _ _ .nil) rfl rfl
    ·intro u20 h hl21 hr22
     obtain ⟨v8, hv8, h⟩ := bind_some h
     obtain ⟨v9, hv9, h⟩ := bind_some h
     obtain ⟨v10, hv10, h⟩ := bind_some h
     obtain ⟨v11, hv11, h⟩ := bind_some h
     refine cond_some h (fun hg4_5 h => ?_) (fun hg4_5 h => ?_)
     ·obtain ⟨v12, hv12, h⟩ := bind_some h
      obtain ⟨v13, hv13, h⟩ := bind_some h
      obtain ⟨v14, hv14, h⟩ := bind_some h
      obtain ⟨v15, hv15, h⟩ := bind_some h
      refine cond_some h (fun hg4_14 h => ?_) (fun hg4_14 h => ?_)
      ·obtain ⟨v16, hv16, h⟩ := bind_some h
       refine cond_some h (fun hg4_19 h => ?_) (fun hg4_19 h => ?_)
       ·obtain ⟨v17, hv17, h⟩ := bind_some h
        refine cond_some h (fun hg4_24 h => ?_) (fun hg4_24 h => ?_)
        ·obtain ⟨v18, hv18, h⟩ := bind_some h
         refine ht_seqR hn (El := (_ :: _ :: _ :: _ :: _ :: (19, .same (.slot 6)) :: (20, .v (.agg (List.map (Value.int .u8) v8).toArray)) :: (21, .fl .shr 1 (List.map (Value.int .u8) text)) :: (22, .v (.agg (List.map (Value.int .u8) v9).toArray)) :: (23, .v (.bool (v8 == v9))) :: (24, .v (.bool true)) :: (25, .same (.slot 5)) :: (26, .same (.slot 6)) :: (27, .v (.agg (List.map (Value.int .u8) v12).toArray)) :: (28, .fl .shr 1 (List.map (Value.int .u8) key)) :: (29, .fl .shr 1 (List.map (Value.int .u8) text)) :: (30, .v (.agg (List.map (Value.int .u8) v13).toArray)) :: (31, .v (.bool (v12 == v13))) :: (32, .v (.bool (v12 == v13))) :: (33, .v (.bool true)) :: (34, .fl (.own 5) 1 (List.map (Value.int .u8) v6)) :: (35, .fl .shr 1 (List.map (Value.int .u8) key)) :: (36, .v (.bool v16)) :: (37, .v (.bool v16)) :: (38, .v (.bool true)) :: (39, .fl (.own 5) 1 (List.map (Value.int .u8) v7)) :: (40, .fl .shr 1 (List.map (Value.int .u8) text)) :: (41, .v (.bool v17)) :: (42, .v (.bool v17)) :: (43, .v (.bool true)) :: (44, .v (.bool v18)) :: (45, .v (.bool v18)) :: (4, .v (.bool v18)) :: [])) (init := [0, 1, 2, 3, 4]) (fin := [2, 32]) (sps := (⟨[4], [], [5], [(.slot 19)]⟩ :: ⟨[5, 4, 2], [], [6], [(.slot 20)]⟩ :: ⟨[1], [], [7], [(.slot 21)]⟩ :: ⟨[7], [], [8], [(.slot 22)]⟩ :: ⟨[6, 8], [], [9], [(.slot 23)]⟩ :: ⟨[9], [], [10], [(.slot 24)]⟩ :: ⟨[10, 3], [], [11], [(.slot 25)]⟩ :: ⟨[10, 4], [], [12], [(.slot 26)]⟩ :: ⟨[10, 11, 3, 12, 4, 2], [], [13], [(.slot 27)]⟩ :: ⟨[10, 0], [], [14], [(.slot 28)]⟩ :: ⟨[10, 1], [], [15], [(.slot 29)]⟩ :: ⟨[10, 14, 15], [], [16], [(.slot 30)]⟩ :: ⟨[10, 13, 16], [], [17], [(.slot 31)]⟩ :: ⟨[10, 17], [], [18], [(.slot 32)]⟩ :: ⟨[18], [], [19], [(.slot 33)]⟩ :: ⟨[19], [11, 3], [20], [(.slot 34)]⟩ :: ⟨[19, 0], [], [21], [(.slot 35)]⟩ :: ⟨[19, 20, 21], [], [22], [(.slot 36)]⟩ :: ⟨[19, 22], [], [23], [(.slot 37)]⟩ :: ⟨[23], [], [24], [(.slot 38)]⟩ :: ⟨[24], [5, 12, 4], [25], [(.slot 39)]⟩ :: ⟨[24, 1], [], [26], [(.slot 40)]⟩ :: ⟨[24, 25, 26], [], [27], [(.slot 41)]⟩ :: ⟨[24, 27], [], [28], [(.slot 42)]⟩ :: ⟨[28], [], [29], [(.slot 43)]⟩ :: ⟨[29, 2], [], [30], [(.slot 44)]⟩ :: ⟨[29, 30], [], [31], [(.slot 45)]⟩ :: ⟨[31], [], [32], [(.slot 4)]⟩ :: [])) (es' := [(_, _), (4, .v (.bool v18))]) (by kernel_rfl) rfl rfl
          ⟨st_plain rfl (op_move _ _ _ _ rfl rfl),
          st_plain rfl (op_callG _ _ 46 7 _ _ rfl Tryd.call7 rfl rfl (fun _ h => h) (ok_digest_Sum mx v7 _ hv8) rfl rfl),
          st_plain rfl (op_move _ _ _ _ rfl rfl),
          st_plain rfl (op_call _ _ 8 _ _ rfl Tryd.call8 rfl (ok_wherryref08_Sum text _ hv9) rfl rfl),
          st_plain rfl (op_eq_arr _ _ _ Tryd.underlying24 Tryd.underlying5 (i := Tryd.t5) (by kernel_rfl) (by kernel_rfl) (by kernel_rfl) rfl rfl (ln_n hv10) (ln_n hv11) rfl),
          st_plain rfl (op_move _ _ _ _ (congrArg (fun b => AV.v (Value.bool b)) hg4_5) rfl),
          st_run 5 24 true rfl rfl rfl (List.Mem.head _) (op_move _ _ _ _ rfl rfl),
          st_run 5 24 true rfl rfl rfl (List.Mem.head _) (op_move _ _ _ _ rfl rfl),
          st_run 5 24 true rfl rfl rfl (List.Mem.head _) (op_callG _ _ 46 9 _ _ rfl Tryd.call9 rfl rfl (fun _ h => h) (ok_digest_Keyed mx v6 v7 _ hv12) rfl rfl),
          st_run 5 24 true rfl rfl rfl (List.Mem.head _) (op_move _ _ _ _ rfl rfl),
          st_run 5 24 true rfl rfl rfl (List.Mem.head _) (op_move _ _ _ _ rfl rfl),
          st_run 5 24 true rfl rfl rfl (List.Mem.head _) (op_call _ _ 10 _ _ rfl Tryd.call10 rfl (ok_wherryref08_Keyed key text _ hv13) rfl rfl),
          st_run 5 24 true rfl rfl rfl (List.Mem.head _) (op_eq_arr _ _ _ Tryd.underlying24 Tryd.underlying5 (i := Tryd.t5) (by kernel_rfl) (by kernel_rfl) (by kernel_rfl) rfl rfl (ln_n hv14) (ln_n hv15) rfl),
          st_plain rfl (op_pick _ _ true _ rfl rfl),
          st_plain rfl (op_move _ _ _ _ (congrArg (fun b => AV.v (Value.bool b)) hg4_14) rfl),
          st_run 14 33 true rfl rfl rfl (List.Mem.head _) (LOp.drop [_] (op_move_take _ _ _ _ rfl)),
          st_run 14 33 true rfl rfl rfl (List.Mem.head _) (op_move _ _ _ _ rfl rfl),
          st_run 14 33 true rfl rfl rfl (List.Mem.head _) (op_call _ _ 11 _ _ rfl Tryd.call11 rfl (ok_wherrykeep_Bytes v6 key _ hv16) rfl rfl),
          st_plain rfl (op_pick _ _ true _ rfl rfl),
          st_plain rfl (op_move _ _ _ _ (congrArg (fun b => AV.v (Value.bool b)) hg4_19) rfl),
          st_run 19 38 true rfl rfl rfl (List.Mem.head _) (LOp.drop [_] (LOp.drop [_] (op_move_take _ _ _ _ rfl))),
          st_run 19 38 true rfl rfl rfl (List.Mem.head _) (op_move _ _ _ _ rfl rfl),
          st_run 19 38 true rfl rfl rfl (List.Mem.head _) (op_call _ _ 11 _ _ rfl Tryd.call11 rfl (ok_wherrykeep_Bytes v7 text _ hv17) rfl rfl),
          st_plain rfl (op_pick _ _ true _ rfl rfl),
          st_plain rfl (op_move _ _ _ _ (congrArg (fun b => AV.v (Value.bool b)) hg4_24) rfl),
          st_run 24 43 true rfl rfl rfl (List.Mem.head _) (op_callG _ _ 46 12 _ _ rfl Tryd.call12 rfl rfl (fun _ h => h) (ok_wherrylaw09_wakes mx  _ hv18) rfl rfl),
          st_plain rfl (op_pick _ _ true _ rfl rfl),
          st_plain rfl (op_assign _ _ _ _ rfl rfl),
          trivial⟩ ?_
         exact hl21 _ (Option.some.inj h).symm
        ·refine ht_seqR hn (El := (_ :: _ :: _ :: _ :: _ :: (19, .same (.slot 6)) :: (20, .v (.agg (List.map (Value.int .u8) v8).toArray)) :: (21, .fl .shr 1 (List.map (Value.int .u8) text)) :: (22, .v (.agg (List.map (Value.int .u8) v9).toArray)) :: (23, .v (.bool (v8 == v9))) :: (24, .v (.bool true)) :: (25, .same (.slot 5)) :: (26, .same (.slot 6)) :: (27, .v (.agg (List.map (Value.int .u8) v12).toArray)) :: (28, .fl .shr 1 (List.map (Value.int .u8) key)) :: (29, .fl .shr 1 (List.map (Value.int .u8) text)) :: (30, .v (.agg (List.map (Value.int .u8) v13).toArray)) :: (31, .v (.bool (v12 == v13))) :: (32, .v (.bool (v12 == v13))) :: (33, .v (.bool true)) :: (34, .fl (.own 5) 1 (List.map (Value.int .u8) v6)) :: (35, .fl .shr 1 (List.map (Value.int .u8) key)) :: (36, .v (.bool v16)) :: (37, .v (.bool v16)) :: (38, .v (.bool true)) :: (39, .fl (.own 5) 1 (List.map (Value.int .u8) v7)) :: (40, .fl .shr 1 (List.map (Value.int .u8) text)) :: (41, .v (.bool v17)) :: (42, .v (.bool v17)) :: (43, .v (.bool false)) :: (44, .v undef) :: (45, .v (.bool false)) :: (4, .v (.bool false)) :: [])) (init := [0, 1, 2, 3, 4]) (fin := [2, 32]) (sps := (⟨[4], [], [5], [(.slot 19)]⟩ :: ⟨[5, 4, 2], [], [6], [(.slot 20)]⟩ :: ⟨[1], [], [7], [(.slot 21)]⟩ :: ⟨[7], [], [8], [(.slot 22)]⟩ :: ⟨[6, 8], [], [9], [(.slot 23)]⟩ :: ⟨[9], [], [10], [(.slot 24)]⟩ :: ⟨[10, 3], [], [11], [(.slot 25)]⟩ :: ⟨[10, 4], [], [12], [(.slot 26)]⟩ :: ⟨[10, 11, 3, 12, 4, 2], [], [13], [(.slot 27)]⟩ :: ⟨[10, 0], [], [14], [(.slot 28)]⟩ :: ⟨[10, 1], [], [15], [(.slot 29)]⟩ :: ⟨[10, 14, 15], [], [16], [(.slot 30)]⟩ :: ⟨[10, 13, 16], [], [17], [(.slot 31)]⟩ :: ⟨[10, 17], [], [18], [(.slot 32)]⟩ :: ⟨[18], [], [19], [(.slot 33)]⟩ :: ⟨[19], [11, 3], [20], [(.slot 34)]⟩ :: ⟨[19, 0], [], [21], [(.slot 35)]⟩ :: ⟨[19, 20, 21], [], [22], [(.slot 36)]⟩ :: ⟨[19, 22], [], [23], [(.slot 37)]⟩ :: ⟨[23], [], [24], [(.slot 38)]⟩ :: ⟨[24], [5, 12, 4], [25], [(.slot 39)]⟩ :: ⟨[24, 1], [], [26], [(.slot 40)]⟩ :: ⟨[24, 25, 26], [], [27], [(.slot 41)]⟩ :: ⟨[24, 27], [], [28], [(.slot 42)]⟩ :: ⟨[28], [], [29], [(.slot 43)]⟩ :: ⟨[29], [], [30], [(.slot 44)]⟩ :: ⟨[29], [], [31], [(.slot 45)]⟩ :: ⟨[31], [], [32], [(.slot 4)]⟩ :: [])) (es' := [(_, _), (4, .v (.bool false))]) (by kernel_rfl) rfl rfl
          ⟨st_plain rfl (op_move _ _ _ _ rfl rfl),
          st_plain rfl (op_callG _ _ 46 7 _ _ rfl Tryd.call7 rfl rfl (fun _ h => h) (ok_digest_Sum mx v7 _ hv8) rfl rfl),
          st_plain rfl (op_move _ _ _ _ rfl rfl),
          st_plain rfl (op_call _ _ 8 _ _ rfl Tryd.call8 rfl (ok_wherryref08_Sum text _ hv9) rfl rfl),
          st_plain rfl (op_eq_arr _ _ _ Tryd.underlying24 Tryd.underlying5 (i := Tryd.t5) (by kernel_rfl) (by kernel_rfl) (by kernel_rfl) rfl rfl (ln_n hv10) (ln_n hv11) rfl),
          st_plain rfl (op_move _ _ _ _ (congrArg (fun b => AV.v (Value.bool b)) hg4_5) rfl),
          st_run 5 24 true rfl rfl rfl (List.Mem.head _) (op_move _ _ _ _ rfl rfl),
          st_run 5 24 true rfl rfl rfl (List.Mem.head _) (op_move _ _ _ _ rfl rfl),
          st_run 5 24 true rfl rfl rfl (List.Mem.head _) (op_callG _ _ 46 9 _ _ rfl Tryd.call9 rfl rfl (fun _ h => h) (ok_digest_Keyed mx v6 v7 _ hv12) rfl rfl),
          st_run 5 24 true rfl rfl rfl (List.Mem.head _) (op_move _ _ _ _ rfl rfl),
          st_run 5 24 true rfl rfl rfl (List.Mem.head _) (op_move _ _ _ _ rfl rfl),
          st_run 5 24 true rfl rfl rfl (List.Mem.head _) (op_call _ _ 10 _ _ rfl Tryd.call10 rfl (ok_wherryref08_Keyed key text _ hv13) rfl rfl),
          st_run 5 24 true rfl rfl rfl (List.Mem.head _) (op_eq_arr _ _ _ Tryd.underlying24 Tryd.underlying5 (i := Tryd.t5) (by kernel_rfl) (by kernel_rfl) (by kernel_rfl) rfl rfl (ln_n hv14) (ln_n hv15) rfl),
          st_plain rfl (op_pick _ _ true _ rfl rfl),
          st_plain rfl (op_move _ _ _ _ (congrArg (fun b => AV.v (Value.bool b)) hg4_14) rfl),
          st_run 14 33 true rfl rfl rfl (List.Mem.head _) (LOp.drop [_] (op_move_take _ _ _ _ rfl)),
          st_run 14 33 true rfl rfl rfl (List.Mem.head _) (op_move _ _ _ _ rfl rfl),
          st_run 14 33 true rfl rfl rfl (List.Mem.head _) (op_call _ _ 11 _ _ rfl Tryd.call11 rfl (ok_wherrykeep_Bytes v6 key _ hv16) rfl rfl),
          st_plain rfl (op_pick _ _ true _ rfl rfl),
          st_plain rfl (op_move _ _ _ _ (congrArg (fun b => AV.v (Value.bool b)) hg4_19) rfl),
          st_run 19 38 true rfl rfl rfl (List.Mem.head _) (LOp.drop [_] (LOp.drop [_] (op_move_take _ _ _ _ rfl))),
          st_run 19 38 true rfl rfl rfl (List.Mem.head _) (op_move _ _ _ _ rfl rfl),
          st_run 19 38 true rfl rfl rfl (List.Mem.head _) (op_call _ _ 11 _ _ rfl Tryd.call11 rfl (ok_wherrykeep_Bytes v7 text _ hv17) rfl rfl),
          st_plain rfl (op_pick _ _ true _ rfl rfl),
          st_plain rfl (op_move _ _ _ _ (congrArg (fun b => AV.v (Value.bool b)) hg4_24) rfl),
          st_skip 24 43 _ true rfl rfl rfl rfl (List.Mem.head _),
          st_plain rfl (op_pick _ _ false _ rfl rfl),
          st_plain rfl (op_assign _ _ _ _ rfl rfl),
          trivial⟩ ?_
         exact hl21 _ (Option.some.inj h).symm
       ·refine ht_seqR hn (El := (_ :: _ :: _ :: _ :: _ :: (19, .same (.slot 6)) :: (20, .v (.agg (List.map (Value.int .u8) v8).toArray)) :: (21, .fl .shr 1 (List.map (Value.int .u8) text)) :: (22, .v (.agg (List.map (Value.int .u8) v9).toArray)) :: (23, .v (.bool (v8 == v9))) :: (24, .v (.bool true)) :: (25, .same (.slot 5)) :: (26, .same (.slot 6)) :: (27, .v (.agg (List.map (Value.int .u8) v12).toArray)) :: (28, .fl .shr 1 (List.map (Value.int .u8) key)) :: (29, .fl .shr 1 (List.map (Value.int .u8) text)) :: (30, .v (.agg (List.map (Value.int .u8) v13).toArray)) :: (31, .v (.bool (v12 == v13))) :: (32, .v (.bool (v12 == v13))) :: (33, .v (.bool true)) :: (34, .fl (.own 5) 1 (List.map (Value.int .u8) v6)) :: (35, .fl .shr 1 (List.map (Value.int .u8) key)) :: (36, .v (.bool v16)) :: (37, .v (.bool v16)) :: (38, .v (.bool false)) :: (39, .v undef) :: (40, .v undef) :: (41, .v undef) :: (42, .v (.bool false)) :: (43, .v (.bool false)) :: (44, .v undef) :: (45, .v (.bool false)) :: (4, .v (.bool false)) :: [])) (init := [0, 1, 2, 3, 4]) (fin := [2, 32]) (sps := (⟨[4], [], [5], [(.slot 19)]⟩ :: ⟨[5, 4, 2], [], [6], [(.slot 20)]⟩ :: ⟨[1], [], [7], [(.slot 21)]⟩ :: ⟨[7], [], [8], [(.slot 22)]⟩ :: ⟨[6, 8], [], [9], [(.slot 23)]⟩ :: ⟨[9], [], [10], [(.slot 24)]⟩ :: ⟨[10, 3], [], [11], [(.slot 25)]⟩ :: ⟨[10, 4], [], [12], [(.slot 26)]⟩ :: ⟨[10, 11, 3, 12, 4, 2], [], [13], [(.slot 27)]⟩ :: ⟨[10, 0], [], [14], [(.slot 28)]⟩ :: ⟨[10, 1], [], [15], [(.slot 29)]⟩ :: ⟨[10, 14, 15], [], [16], [(.slot 30)]⟩ :: ⟨[10, 13, 16], [], [17], [(.slot 31)]⟩ :: ⟨[10, 17], [], [18], [(.slot 32)]⟩ :: ⟨[18], [], [19], [(.slot 33)]⟩ :: ⟨[19], [11, 3], [20], [(.slot 34)]⟩ :: ⟨[19, 0], [], [21], [(.slot 35)]⟩ :: ⟨[19, 20, 21], [], [22], [(.slot 36)]⟩ :: ⟨[19, 22], [], [23], [(.slot 37)]⟩ :: ⟨[23], [], [24], [(.slot 38)]⟩ :: ⟨[24], [], [25], [(.slot 39)]⟩ :: ⟨[24], [], [26], [(.slot 40)]⟩ :: ⟨[24], [], [27], [(.slot 41)]⟩ :: ⟨[24], [], [28], [(.slot 42)]⟩ :: ⟨[28], [], [29], [(.slot 43)]⟩ :: ⟨[29], [], [30], [(.slot 44)]⟩ :: ⟨[29], [], [31], [(.slot 45)]⟩ :: ⟨[31], [], [32], [(.slot 4)]⟩ :: [])) (es' := [(_, _), (4, .v (.bool false))]) (by kernel_rfl) rfl rfl
         ⟨st_plain rfl (op_move _ _ _ _ rfl rfl),
         st_plain rfl (op_callG _ _ 46 7 _ _ rfl Tryd.call7 rfl rfl (fun _ h => h) (ok_digest_Sum mx v7 _ hv8) rfl rfl),
         st_plain rfl (op_move _ _ _ _ rfl rfl),
         st_plain rfl (op_call _ _ 8 _ _ rfl Tryd.call8 rfl (ok_wherryref08_Sum text _ hv9) rfl rfl),
         st_plain rfl (op_eq_arr _ _ _ Tryd.underlying24 Tryd.underlying5 (i := Tryd.t5) (by kernel_rfl) (by kernel_rfl) (by kernel_rfl) rfl rfl (ln_n hv10) (ln_n hv11) rfl),
         st_plain rfl (op_move _ _ _ _ (congrArg (fun b => AV.v (Value.bool b)) hg4_5) rfl),
         st_run 5 24 true rfl rfl rfl (List.Mem.head _) (op_move _ _ _ _ rfl rfl),
         st_run 5 24 true rfl rfl rfl (List.Mem.head _) (op_move _ _ _ _ rfl rfl),
         st_run 5 24 true rfl rfl rfl (List.Mem.head _) (op_callG _ _ 46 9 _ _ rfl Tryd.call9 rfl rfl (fun _ h => h) (ok_digest_Keyed mx v6 v7 _ hv12) rfl rfl),
         st_run 5 24 true rfl rfl rfl (List.Mem.head _) (op_move _ _ _ _ rfl rfl),
         st_run 5 24 true rfl rfl rfl (List.Mem.head _) (op_move _ _ _ _ rfl rfl),
         st_run 5 24 true rfl rfl rfl (List.Mem.head _) (op_call _ _ 10 _ _ rfl Tryd.call10 rfl (ok_wherryref08_Keyed key text _ hv13) rfl rfl),
         st_run 5 24 true rfl rfl rfl (List.Mem.head _) (op_eq_arr _ _ _ Tryd.underlying24 Tryd.underlying5 (i := Tryd.t5) (by kernel_rfl) (by kernel_rfl) (by kernel_rfl) rfl rfl (ln_n hv14) (ln_n hv15) rfl),
         st_plain rfl (op_pick _ _ true _ rfl rfl),
         st_plain rfl (op_move _ _ _ _ (congrArg (fun b => AV.v (Value.bool b)) hg4_14) rfl),
         st_run 14 33 true rfl rfl rfl (List.Mem.head _) (LOp.drop [_] (op_move_take _ _ _ _ rfl)),
         st_run 14 33 true rfl rfl rfl (List.Mem.head _) (op_move _ _ _ _ rfl rfl),
         st_run 14 33 true rfl rfl rfl (List.Mem.head _) (op_call _ _ 11 _ _ rfl Tryd.call11 rfl (ok_wherrykeep_Bytes v6 key _ hv16) rfl rfl),
         st_plain rfl (op_pick _ _ true _ rfl rfl),
         st_plain rfl (op_move _ _ _ _ (congrArg (fun b => AV.v (Value.bool b)) hg4_19) rfl),
         st_skip 19 38 _ true rfl rfl rfl rfl (List.Mem.head _),
         st_skip 19 38 _ true rfl rfl rfl rfl (List.Mem.head _),
         st_skip 19 38 _ true rfl rfl rfl rfl (List.Mem.head _),
         st_plain rfl (op_pick _ _ false _ rfl rfl),
         st_plain rfl (op_move _ _ _ _ rfl rfl),
         st_skip 24 43 _ true rfl rfl rfl rfl (List.Mem.head _),
         st_plain rfl (op_pick _ _ false _ rfl rfl),
         st_plain rfl (op_assign _ _ _ _ rfl rfl),
         trivial⟩ ?_
        exact hl21 _ (Option.some.inj h).symm
      ·refine ht_seqR hn (El := (_ :: _ :: _ :: _ :: _ :: (19, .same (.slot 6)) :: (20, .v (.agg (List.map (Value.int .u8) v8).toArray)) :: (21, .fl .shr 1 (List.map (Value.int .u8) text)) :: (22, .v (.agg (List.map (Value.int .u8) v9).toArray)) :: (23, .v (.bool (v8 == v9))) :: (24, .v (.bool true)) :: (25, .same (.slot 5)) :: (26, .same (.slot 6)) :: (27, .v (.agg (List.map (Value.int .u8) v12).toArray)) :: (28, .fl .shr 1 (List.map (Value.int .u8) key)) :: (29, .fl .shr 1 (List.map (Value.int .u8) text)) :: (30, .v (.agg (List.map (Value.int .u8) v13).toArray)) :: (31, .v (.bool (v12 == v13))) :: (32, .v (.bool (v12 == v13))) :: (33, .v (.bool false)) :: (34, .v undef) :: (35, .v undef) :: (36, .v undef) :: (37, .v (.bool false)) :: (38, .v (.bool false)) :: (39, .v undef) :: (40, .v undef) :: (41, .v undef) :: (42, .v (.bool false)) :: (43, .v (.bool false)) :: (44, .v undef) :: (45, .v (.bool false)) :: (4, .v (.bool false)) :: [])) (init := [0, 1, 2, 3, 4]) (fin := [2, 32]) (sps := (⟨[4], [], [5], [(.slot 19)]⟩ :: ⟨[5, 4, 2], [], [6], [(.slot 20)]⟩ :: ⟨[1], [], [7], [(.slot 21)]⟩ :: ⟨[7], [], [8], [(.slot 22)]⟩ :: ⟨[6, 8], [], [9], [(.slot 23)]⟩ :: ⟨[9], [], [10], [(.slot 24)]⟩ :: ⟨[10, 3], [], [11], [(.slot 25)]⟩ :: ⟨[10, 4], [], [12], [(.slot 26)]⟩ :: ⟨[10, 11, 3, 12, 4, 2], [], [13], [(.slot 27)]⟩ :: ⟨[10, 0], [], [14], [(.slot 28)]⟩ :: ⟨[10, 1], [], [15], [(.slot 29)]⟩ :: ⟨[10, 14, 15], [], [16], [(.slot 30)]⟩ :: ⟨[10, 13, 16], [], [17], [(.slot 31)]⟩ :: ⟨[10, 17], [], [18], [(.slot 32)]⟩ :: ⟨[18], [], [19], [(.slot 33)]⟩ :: ⟨[19], [], [20], [(.slot 34)]⟩ :: ⟨[19], [], [21], [(.slot 35)]⟩ :: ⟨[19], [], [22], [(.slot 36)]⟩ :: ⟨[19], [], [23], [(.slot 37)]⟩ :: ⟨[23], [], [24], [(.slot 38)]⟩ :: ⟨[24], [], [25], [(.slot 39)]⟩ :: ⟨[24], [], [26], [(.slot 40)]⟩ :: ⟨[24], [], [27], [(.slot 41)]⟩ :: ⟨[24], [], [28], [(.slot 42)]⟩ :: ⟨[28], [], [29], [(.slot 43)]⟩ :: ⟨[29], [], [30], [(.slot 44)]⟩ :: ⟨[29], [], [31], [(.slot 45)]⟩ :: ⟨[31], [], [32], [(.slot 4)]⟩ :: [])) (es' := [(_, _), (4, .v (.bool false))]) (by kernel_rfl) rfl rfl
        ⟨st_plain rfl (op_move _ _ _ _ rfl rfl),
        st_plain rfl (op_callG _ _ 46 7 _ _ rfl Tryd.call7 rfl rfl (fun _ h => h) (ok_digest_Sum mx v7 _ hv8) rfl rfl),
        st_plain rfl (op_move _ _ _ _ rfl rfl),
        st_plain rfl (op_call _ _ 8 _ _ rfl Tryd.call8 rfl (ok_wherryref08_Sum text _ hv9) rfl rfl),
        st_plain rfl (op_eq_arr _ _ _ Tryd.underlying24 Tryd.underlying5 (i := Tryd.t5) (by kernel_rfl) (by kernel_rfl) (by kernel_rfl) rfl rfl (ln_n hv10) (ln_n hv11) rfl),
        st_plain rfl (op_move _ _ _ _ (congrArg (fun b => AV.v (Value.bool b)) hg4_5) rfl),
        st_run 5 24 true rfl rfl rfl (List.Mem.head _) (op_move _ _ _ _ rfl rfl),
        st_run 5 24 true rfl rfl rfl (List.Mem.head _) (op_move _ _ _ _ rfl rfl),
        st_run 5 24 true rfl rfl rfl (List.Mem.head _) (op_callG _ _ 46 9 _ _ rfl Tryd.call9 rfl rfl (fun _ h => h) (ok_digest_Keyed mx v6 v7 _ hv12) rfl rfl),
        st_run 5 24 true rfl rfl rfl (List.Mem.head _) (op_move _ _ _ _ rfl rfl),
        st_run 5 24 true rfl rfl rfl (List.Mem.head _) (op_move _ _ _ _ rfl rfl),
        st_run 5 24 true rfl rfl rfl (List.Mem.head _) (op_call _ _ 10 _ _ rfl Tryd.call10 rfl (ok_wherryref08_Keyed key text _ hv13) rfl rfl),
        st_run 5 24 true rfl rfl rfl (List.Mem.head _) (op_eq_arr _ _ _ Tryd.underlying24 Tryd.underlying5 (i := Tryd.t5) (by kernel_rfl) (by kernel_rfl) (by kernel_rfl) rfl rfl (ln_n hv14) (ln_n hv15) rfl),
        st_plain rfl (op_pick _ _ true _ rfl rfl),
        st_plain rfl (op_move _ _ _ _ (congrArg (fun b => AV.v (Value.bool b)) hg4_14) rfl),
        st_skip 14 33 _ true rfl rfl rfl rfl (List.Mem.head _),
        st_skip 14 33 _ true rfl rfl rfl rfl (List.Mem.head _),
        st_skip 14 33 _ true rfl rfl rfl rfl (List.Mem.head _),
        st_plain rfl (op_pick _ _ false _ rfl rfl),
        st_plain rfl (op_move _ _ _ _ rfl rfl),
        st_skip 19 38 _ true rfl rfl rfl rfl (List.Mem.head _),
        st_skip 19 38 _ true rfl rfl rfl rfl (List.Mem.head _),
        st_skip 19 38 _ true rfl rfl rfl rfl (List.Mem.head _),
        st_plain rfl (op_pick _ _ false _ rfl rfl),
        st_plain rfl (op_move _ _ _ _ rfl rfl),
        st_skip 24 43 _ true rfl rfl rfl rfl (List.Mem.head _),
        st_plain rfl (op_pick _ _ false _ rfl rfl),
        st_plain rfl (op_assign _ _ _ _ rfl rfl),
        trivial⟩ ?_
       exact hl21 _ (Option.some.inj h).symm
     ·refine ht_seqR hn (El := (_ :: _ :: _ :: _ :: _ :: (19, .same (.slot 6)) :: (20, .v (.agg (List.map (Value.int .u8) v8).toArray)) :: (21, .fl .shr 1 (List.map (Value.int .u8) text)) :: (22, .v (.agg (List.map (Value.int .u8) v9).toArray)) :: (23, .v (.bool (v8 == v9))) :: (24, .v (.bool false)) :: (25, .v undef) :: (26, .v undef) :: (27, .v undef) :: (28, .v undef) :: (29, .v undef) :: (30, .v undef) :: (31, .v undef) :: (32, .v (.bool false)) :: (33, .v (.bool false)) :: (34, .v undef) :: (35, .v undef) :: (36, .v undef) :: (37, .v (.bool false)) :: (38, .v (.bool false)) :: (39, .v undef) :: (40, .v undef) :: (41, .v undef) :: (42, .v (.bool false)) :: (43, .v (.bool false)) :: (44, .v undef) :: (45, .v (.bool false)) :: (4, .v (.bool false)) :: [])) (init := [0, 1, 2, 3, 4]) (fin := [2, 32]) (sps := (⟨[4], [], [5], [(.slot 19)]⟩ :: ⟨[5, 4, 2], [], [6], [(.slot 20)]⟩ :: ⟨[1], [], [7], [(.slot 21)]⟩ :: ⟨[7], [], [8], [(.slot 22)]⟩ :: ⟨[6, 8], [], [9], [(.slot 23)]⟩ :: ⟨[9], [], [10], [(.slot 24)]⟩ :: ⟨[10], [], [11], [(.slot 25)]⟩ :: ⟨[10], [], [12], [(.slot 26)]⟩ :: ⟨[10], [], [13], [(.slot 27)]⟩ :: ⟨[10], [], [14], [(.slot 28)]⟩ :: ⟨[10], [], [15], [(.slot 29)]⟩ :: ⟨[10], [], [16], [(.slot 30)]⟩ :: ⟨[10], [], [17], [(.slot 31)]⟩ :: ⟨[10], [], [18], [(.slot 32)]⟩ :: ⟨[18], [], [19], [(.slot 33)]⟩ :: ⟨[19], [], [20], [(.slot 34)]⟩ :: ⟨[19], [], [21], [(.slot 35)]⟩ :: ⟨[19], [], [22], [(.slot 36)]⟩ :: ⟨[19], [], [23], [(.slot 37)]⟩ :: ⟨[23], [], [24], [(.slot 38)]⟩ :: ⟨[24], [], [25], [(.slot 39)]⟩ :: ⟨[24], [], [26], [(.slot 40)]⟩ :: ⟨[24], [], [27], [(.slot 41)]⟩ :: ⟨[24], [], [28], [(.slot 42)]⟩ :: ⟨[28], [], [29], [(.slot 43)]⟩ :: ⟨[29], [], [30], [(.slot 44)]⟩ :: ⟨[29], [], [31], [(.slot 45)]⟩ :: ⟨[31], [], [32], [(.slot 4)]⟩ :: [])) (es' := [(_, _), (4, .v (.bool false))]) (by kernel_rfl) rfl rfl
       ⟨st_plain rfl (op_move _ _ _ _ rfl rfl),
       st_plain rfl (op_callG _ _ 46 7 _ _ rfl Tryd.call7 rfl rfl (fun _ h => h) (ok_digest_Sum mx v7 _ hv8) rfl rfl),
       st_plain rfl (op_move _ _ _ _ rfl rfl),
       st_plain rfl (op_call _ _ 8 _ _ rfl Tryd.call8 rfl (ok_wherryref08_Sum text _ hv9) rfl rfl),
       st_plain rfl (op_eq_arr _ _ _ Tryd.underlying24 Tryd.underlying5 (i := Tryd.t5) (by kernel_rfl) (by kernel_rfl) (by kernel_rfl) rfl rfl (ln_n hv10) (ln_n hv11) rfl),
       st_plain rfl (op_move _ _ _ _ (congrArg (fun b => AV.v (Value.bool b)) hg4_5) rfl),
       st_skip 5 24 _ true rfl rfl rfl rfl (List.Mem.head _),
       st_skip 5 24 _ true rfl rfl rfl rfl (List.Mem.head _),
       st_skip 5 24 _ true rfl rfl rfl rfl (List.Mem.head _),
       st_skip 5 24 _ true rfl rfl rfl rfl (List.Mem.head _),
       st_skip 5 24 _ true rfl rfl rfl rfl (List.Mem.head _),
       st_skip 5 24 _ true rfl rfl rfl rfl (List.Mem.head _),
       st_skip 5 24 _ true rfl rfl rfl rfl (List.Mem.head _),
       st_plain rfl (op_pick _ _ false _ rfl rfl),
       st_plain rfl (op_move _ _ _ _ rfl rfl),
       st_skip 14 33 _ true rfl rfl rfl rfl (List.Mem.head _),
       st_skip 14 33 _ true rfl rfl rfl rfl (List.Mem.head _),
       st_skip 14 33 _ true rfl rfl rfl rfl (List.Mem.head _),
       st_plain rfl (op_pick _ _ false _ rfl rfl),
       st_plain rfl (op_move _ _ _ _ rfl rfl),
       st_skip 19 38 _ true rfl rfl rfl rfl (List.Mem.head _),
       st_skip 19 38 _ true rfl rfl rfl rfl (List.Mem.head _),
       st_skip 19 38 _ true rfl rfl rfl rfl (List.Mem.head _),
       st_plain rfl (op_pick _ _ false _ rfl rfl),
       st_plain rfl (op_move _ _ _ _ rfl rfl),
       st_skip 24 43 _ true rfl rfl rfl rfl (List.Mem.head _),
       st_plain rfl (op_pick _ _ false _ rfl rfl),
       st_plain rfl (op_assign _ _ _ _ rfl rfl),
       trivial⟩ ?_
      exact hl21 _ (Option.some.inj h).symm
  ·intro u2 h hl3 hr4
   refine cond_some h (fun hg1_3 h => ?_) (fun hg1_3 h => ?_)
   ·refine ht_seqR hn (El := [_, _, _, (7, .fl .shr 1 (List.map (Value.int .u8) key)), (8, .v (.int .i64 (key.length : Int))), (9, .v (.bool ((decide (300 < (key.length : Int)))))), (10, .v (.bool true)), (11, .v undef), (12, .v undef), (13, .v undef), (14, .v (.bool true))]) (init := [0, 1, 2]) (fin := [0, 1, 2, 10]) (sps := [⟨[0], [], [3], [(.slot 7)]⟩, ⟨[3], [], [4], [(.slot 8)]⟩, ⟨[4], [], [5], [(.slot 9)]⟩, ⟨[5], [], [6], [(.slot 10)]⟩, ⟨[6], [], [7], [(.slot 11)]⟩, ⟨[6], [], [8], [(.slot 12)]⟩, ⟨[6], [], [9], [(.slot 13)]⟩, ⟨[6], [], [10], [(.slot 14)]⟩]) (es' := [(_, _), (_, _), (_, _), (14, .v (.bool true))]) (by kernel_rfl) rfl rfl
     ⟨st_plain rfl (op_move _ _ _ _ rfl rfl),
     st_plain rfl (op_len_fl _ _ _ Tryd.underlying22 rfl (by decide) (map_len _)),
     st_plain rfl (op_bin _ _ _ _ _ rfl rfl rfl),
     st_plain rfl (op_move _ _ _ _ (congrArg (fun b => AV.v (Value.bool b)) hg1_3) rfl),
     st_skip 3 10 _ false rfl rfl rfl rfl (List.Mem.head _),
     st_skip 3 10 _ false rfl rfl rfl rfl (List.Mem.head _),
     st_skip 3 10 _ false rfl rfl rfl rfl (List.Mem.head _),
     st_plain rfl (op_pick _ _ true _ rfl rfl),
     trivial⟩ ?_
    exact hl3 _ (Option.some.inj h).symm
   ·refine ht_seqR hn (El := [_, _, _, (7, .fl .shr 1 (List.map (Value.int .u8) key)), (8, .v (.int .i64 (key.length : Int))), (9, .v (.bool ((decide (300 < (key.length : Int)))))), (10, .v (.bool false)), (11, .fl .shr 1 (List.map (Value.int .u8) text)), (12, .v (.int .i64 (text.length : Int))), (13, .v (.bool ((decide (600 < (text.length : Int)))))), (14, .v (.bool ((decide (600 < (text.length : Int))))))]) (init := [0, 1, 2]) (fin := [0, 1, 2, 10]) (sps := [⟨[0], [], [3], [(.slot 7)]⟩, ⟨[3], [], [4], [(.slot 8)]⟩, ⟨[4], [], [5], [(.slot 9)]⟩, ⟨[5], [], [6], [(.slot 10)]⟩, ⟨[6, 1], [], [7], [(.slot 11)]⟩, ⟨[6, 7], [], [8], [(.slot 12)]⟩, ⟨[6, 8], [], [9], [(.slot 13)]⟩, ⟨[6, 9], [], [10], [(.slot 14)]⟩]) (es' := [(_, _), (_, _), (_, _), (14, .v (.bool ((decide (600 < (text.length : Int))))))]) (by kernel_rfl) rfl rfl
     ⟨st_plain rfl (op_move _ _ _ _ rfl rfl),
     st_plain rfl (op_len_fl _ _ _ Tryd.underlying22 rfl (by decide) (map_len _)),
     st_plain rfl (op_bin _ _ _ _ _ rfl rfl rfl),
     st_plain rfl (op_move _ _ _ _ (congrArg (fun b => AV.v (Value.bool b)) hg1_3) rfl),
     st_run 3 10 false rfl rfl rfl (List.Mem.head _) (op_move _ _ _ _ rfl rfl),
     st_run 3 10 false rfl rfl rfl (List.Mem.head _) (op_len_fl _ _ _ Tryd.underlying22 rfl (by decide) (map_len _)),
     st_run 3 10 false rfl rfl rfl (List.Mem.head _) (op_bin _ _ _ _ _ rfl rfl rfl),
     st_plain rfl (op_pick _ _ false _ rfl rfl),
     trivial⟩ ?_
    exact hl3 _ (Option.some.inj h).symm

end Go.Proofs.YtjhpgfccojoajaaDoor
