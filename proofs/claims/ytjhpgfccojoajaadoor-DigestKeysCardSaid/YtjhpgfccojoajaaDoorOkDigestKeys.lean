/-
  The model's runs are what is told in Lean.
-/
import Derived.Test.YtjhpgfccojoajaaDoorProg
import Derived.KernelRfl
import Derived.Test.YtjhpgfccojoajaaDoorOkc1
set_option linter.unusedVariables false
set_option linter.unusedSimpArgs false
namespace Go.Proofs.YtjhpgfccojoajaaDoor
open Go.Abs Go.Abs.Sh

set_option maxHeartbeats 1000000 in
theorem ok_wherrylaw09_DigestKeys (mx : Int) (key : (List Int)) (text : (List Int)) (n : Int) (r : Bool) (h : Sh.wherrylaw09_DigestKeys key text n = some r) : FnG Tryd.prog (GL mx) 5 [.fl .shr 1 (List.map (Value.int .u8) key), .fl .shr 1 (List.map (Value.int .u8) text), .v (.int .i64 n)] (.v (.bool r)) := by
  unfold Sh.wherrylaw09_DigestKeys at h
  refine fn_okG Tryd.func5 rfl (Nat.le_of_ble_eq_true rfl) rfl rfl fun g0 hn hio => ?_
  refine ht_seq ?_
  refine ht_seqR hn (El := [_, _, _, _, (6, .v (.bool false))]) (init := [0, 1, 2, 3]) (fin := [0, 1, 2, 3]) (sps := [⟨[], [], [4], [(.slot 6)]⟩]) (es' := [(_, _), (_, _), (_, _), (_, _)]) (by kernel_rfl) rfl rfl
   ⟨st_plain rfl (op_assign _ _ _ _ rfl rfl),
   trivial⟩ ?_
  refine pt_then ?_
  refine ht_seq ?_
  refine ht_seq ?_
  refine ht_joinS h (fun (s1 : Bool) => [(0, .fl .shr 1 (List.map (Value.int .u8) key)), (1, .fl .shr 1 (List.map (Value.int .u8) text)), (2, .v (.int .i64 n)), (60, .glob (GL mx)), (18, .v (.bool s1))]) ?_ ?_
  ·rintro s1 h
   refine pt_then ?_
   refine ht_cond _ rfl (fun hb5 => ?_) (fun hb5 => ?_)
   ·have h := cond_t hb5 h
    refine ht_seq ?_
    refine ht_seqR hn (El := [_, _, _, _, _, (6, .v (.bool true))]) (init := [0, 1, 2, 3, 4]) (fin := [3, 5]) (sps := [⟨[], [], [5], [(.slot 6)]⟩]) (es' := [(_, _), (6, .v (.bool true))]) (by kernel_rfl) rfl rfl
     ⟨st_plain rfl (op_assign _ _ _ _ rfl rfl),
     trivial⟩ ?_
    refine pt_then ?_
    refine ht_ret ?_
    refine pt_pick [1] (by kernel_rfl) (es' := [(_, _)]) rfl ?_
    refine pt_r_then ?_
    obtain rfl := Option.some.inj h
    exact pt_ret hio rfl (.tmp _ _ .nil) rfl rfl
   ·have h := cond_f hb5 h
    refine ht_skip ?_
    refine pt_then ?_
    refine ht_seq ?_
    obtain ⟨v6, hv6, h⟩ := bind_some h
    obtain ⟨v7, hv7, h⟩ := bind_some h
    obtain ⟨v8, hv8, h⟩ := bind_some h
    refine ht_seqR hn (El := [_, _, _, _, _, (19, .fl .shr 1 (List.map (Value.int .u8) key)), (20, .fl .shr 1 (List.map (Value.int .u8) text)), (21, .v (.agg (List.map (Value.int .u8) v6).toArray)), (7, .arr 24 (List.map (Value.int .u8) ((List.replicate 16 (0 : Int))))), (7, .arr 24 (List.map (Value.int .u8) v6))]) (init := [0, 1, 2, 3, 4]) (fin := [0, 1, 2, 3, 9]) (sps := [⟨[0], [], [5], [(.slot 19)]⟩, ⟨[1], [], [6], [(.slot 20)]⟩, ⟨[5, 6, 3], [], [7], [(.slot 21)]⟩, ⟨[], [], [8], [(.slot 7)]⟩, ⟨[7], [8], [9], []⟩]) (es' := [(_, _), (_, _), (_, _), (_, _), (7, .arr 24 (List.map (Value.int .u8) v6))]) (by kernel_rfl) rfl rfl
     ⟨st_plain rfl (op_move _ _ _ _ rfl rfl),
     st_plain rfl (op_move _ _ _ _ rfl rfl),
     st_plain rfl (op_callG _ _ 60 9 _ _ rfl Tryd.call9 rfl rfl (fun _ h => h) (ok_digest_Keyed mx key text _ hv6) rfl rfl),
     st_plain rfl (op_alloc_arr _ za24),
     st_plain rfl (op_storeA_arr _ _ _ _ (sz24.trans (congrArg some (ln_len hv8))) rfl rfl (ln_ones (fun _ => rfl) _) ((ln_len (f := Value.int .u8) hv7).symm.trans (ln_len (f := Value.int .u8) hv8))),
     trivial⟩ ?_
    refine pt_then ?_
    refine ht_seq ?_
    refine ht_seq ?_
    refine ht_seqR hn (El := [_, _, _, _, _, (22, .fl .shr 1 (List.map (Value.int .u8) key)), (23, .v (.int .i64 (key.length : Int))), (24, .v (.bool ((decide (64 < (key.length : Int))))))]) (init := [0, 1, 2, 3, 4]) (fin := [0, 1, 2, 3, 4, 7]) (sps := [⟨[0], [], [5], [(.slot 22)]⟩, ⟨[5], [], [6], [(.slot 23)]⟩, ⟨[6], [], [7], [(.slot 24)]⟩]) (es' := [(_, _), (_, _), (_, _), (_, _), (_, _), (24, .v (.bool ((decide (64 < (key.length : Int))))))]) (by kernel_rfl) rfl rfl
     ⟨st_plain rfl (op_move _ _ _ _ rfl rfl),
     st_plain rfl (op_len_fl _ _ _ Tryd.underlying22 rfl (by decide) (map_len _)),
     st_plain rfl (op_bin _ _ _ _ _ rfl rfl rfl),
     trivial⟩ ?_
    refine pt_then ?_
    refine ht_cond _ rfl (fun hb9 => ?_) (fun hb9 => ?_)
    ·have h := cond_t hb9 h
     refine ht_seq ?_
     obtain ⟨v10, hv10, h⟩ := bind_some h
     obtain ⟨v11, hv11, h⟩ := bind_some h
     obtain ⟨v12, hv12, h⟩ := bind_some h
     refine ht_seqR hn (El := [_, _, _, _, _, _, (25, .fl .shr 1 (List.map (Value.int .u8) key)), (26, .v (.agg (List.map (Value.int .u8) v10).toArray)), (8, .arr 24 (List.map (Value.int .u8) ((List.replicate 16 (0 : Int))))), (8, .arr 24 (List.map (Value.int .u8) v10))]) (init := [0, 1, 2, 3, 4, 5]) (fin := [1, 3, 4, 9]) (sps := [⟨[0], [], [6], [(.slot 25)]⟩, ⟨[6, 3], [], [7], [(.slot 26)]⟩, ⟨[], [], [8], [(.slot 8)]⟩, ⟨[7], [8], [9], []⟩]) (es' := [(_, _), (_, _), (_, _), (8, .arr 24 (List.map (Value.int .u8) v10))]) (by kernel_rfl) rfl rfl
      ⟨st_plain rfl (op_move _ _ _ _ rfl rfl),
      st_plain rfl (op_callG _ _ 60 7 _ _ rfl Tryd.call7 rfl rfl (fun _ h => h) (ok_digest_Sum mx key _ hv10) rfl rfl),
      st_plain rfl (op_alloc_arr _ za24),
      st_plain rfl (op_storeA_arr _ _ _ _ (sz24.trans (congrArg some (ln_len hv12))) rfl rfl (ln_ones (fun _ => rfl) _) ((ln_len (f := Value.int .u8) hv11).symm.trans (ln_len (f := Value.int .u8) hv12))),
      trivial⟩ ?_
     refine pt_then ?_
     refine ht_seq ?_
     refine ht_joinS h (fun (s19 : Bool) => [(60, .glob (GL mx)), (6, .v (.bool s19))]) ?_ ?_
     ·rintro s19 h
      refine pt_then ?_
      refine ht_ret ?_
      refine pt_pick [1] (by kernel_rfl) (es' := [(_, _)]) rfl ?_
      refine pt_r_then ?_
      obtain rfl := Option.some.inj h
      exact pt_ret hio rfl (.tmp _ _ .nil) rfl rfl
     ·intro u20 h hl21 hr22
      obtain ⟨v13, hv13, h⟩ := bind_some h
      obtain ⟨v14, hv14, h⟩ := bind_some h
      obtain ⟨v15, hv15, h⟩ := bind_some h
      obtain ⟨v16, hv16, h⟩ := bind_some h
      obtain ⟨v17, hv17, h⟩ := bind_some h
      refine cond_some h (fun hg6_5 h => ?_) (fun hg6_5 h => ?_)
      ·obtain ⟨v18, hv18, h⟩ := bind_some h
       refine ht_anyR (by kernel_rfl) hn (El := [_, _, _, _, (27, .fl .ro 1 (List.map (Value.int .u8) v10)), (8, .any), (28, .fl .shr 1 (List.map (Value.int .u8) text)), (29, .v (.agg (List.map (Value.int .u8) v14).toArray)), (30, .v (.agg (List.map (Value.int .u8) v6).toArray)), (31, .v (.bool (v14 == v6))), (32, .v (.bool true)), (33, .v (.bool v18)), (34, .v (.bool v18)), (6, .v (.bool v18))]) (init := [0, 1, 2, 3]) (fin := [1, 13]) (sps := [⟨[], [3], [5, 4], [(.slot 27)]⟩, ⟨[0], [], [6], [(.slot 28)]⟩, ⟨[4, 6, 1], [], [7], [(.slot 29)]⟩, ⟨[2], [], [8], [(.slot 30)]⟩, ⟨[7, 8], [], [9], [(.slot 31)]⟩, ⟨[9], [], [10], [(.slot 32)]⟩, ⟨[10, 1], [], [11], [(.slot 33)]⟩, ⟨[10, 11], [], [12], [(.slot 34)]⟩, ⟨[12], [], [13], [(.slot 6)]⟩]) (es' := [(_, _), (6, .v (.bool v18))]) (by kernel_rfl) rfl rfl
        ⟨st_plain rfl (op_slice_frz _ _ 8 16 _ Tryd.underlying24 sz5 rfl (ln_len hv13).symm (ln_ones (fun _ => rfl) _)),
        st_plain rfl (op_move _ _ _ _ rfl rfl),
        st_plain rfl (op_callG _ _ 60 9 _ _ rfl Tryd.call9 rfl rfl (fun _ h => h) (ok_digest_Keyed mx v10 text _ hv14) rfl rfl),
        st_plain rfl (op_loadA_arr _ _ _ _ Tryd.underlying24 rfl (sz24.trans (congrArg some (ln_len hv15))) rfl rfl),
        st_plain rfl (op_eq_arr _ _ _ Tryd.underlying24 Tryd.underlying5 (i := Tryd.t5) (by kernel_rfl) (by kernel_rfl) (by kernel_rfl) rfl rfl (ln_n hv16) (ln_n hv17) rfl),
        st_plain rfl (op_move _ _ _ _ (congrArg (fun b => AV.v (Value.bool b)) hg6_5) rfl),
        st_run 5 32 true rfl rfl rfl (List.Mem.head _) (op_callG _ _ 60 12 _ _ rfl Tryd.call12 rfl rfl (fun _ h => h) (ok_wherrylaw09_wakes mx  _ hv18) rfl rfl),
        st_plain rfl (op_pick _ _ true _ rfl rfl),
        st_plain rfl (op_assign _ _ _ _ rfl rfl),
        trivial⟩ ?_
       exact hl21 _ (Option.some.inj h).symm
      ·refine ht_anyR (by kernel_rfl) hn (El := [_, _, _, _, (27, .fl .ro 1 (List.map (Value.int .u8) v10)), (8, .any), (28, .fl .shr 1 (List.map (Value.int .u8) text)), (29, .v (.agg (List.map (Value.int .u8) v14).toArray)), (30, .v (.agg (List.map (Value.int .u8) v6).toArray)), (31, .v (.bool (v14 == v6))), (32, .v (.bool false)), (33, .v undef), (34, .v (.bool false)), (6, .v (.bool false))]) (init := [0, 1, 2, 3]) (fin := [1, 13]) (sps := [⟨[], [3], [5, 4], [(.slot 27)]⟩, ⟨[0], [], [6], [(.slot 28)]⟩, ⟨[4, 6, 1], [], [7], [(.slot 29)]⟩, ⟨[2], [], [8], [(.slot 30)]⟩, ⟨[7, 8], [], [9], [(.slot 31)]⟩, ⟨[9], [], [10], [(.slot 32)]⟩, ⟨[10], [], [11], [(.slot 33)]⟩, ⟨[10], [], [12], [(.slot 34)]⟩, ⟨[12], [], [13], [(.slot 6)]⟩]) (es' := [(_, _), (6, .v (.bool false))]) (by kernel_rfl) rfl rfl
        ⟨st_plain rfl (op_slice_frz _ _ 8 16 _ Tryd.underlying24 sz5 rfl (ln_len hv13).symm (ln_ones (fun _ => rfl) _)),
        st_plain rfl (op_move _ _ _ _ rfl rfl),
        st_plain rfl (op_callG _ _ 60 9 _ _ rfl Tryd.call9 rfl rfl (fun _ h => h) (ok_digest_Keyed mx v10 text _ hv14) rfl rfl),
        st_plain rfl (op_loadA_arr _ _ _ _ Tryd.underlying24 rfl (sz24.trans (congrArg some (ln_len hv15))) rfl rfl),
        st_plain rfl (op_eq_arr _ _ _ Tryd.underlying24 Tryd.underlying5 (i := Tryd.t5) (by kernel_rfl) (by kernel_rfl) (by kernel_rfl) rfl rfl (ln_n hv16) (ln_n hv17) rfl),
        st_plain rfl (op_move _ _ _ _ (congrArg (fun b => AV.v (Value.bool b)) hg6_5) rfl),
        st_skip 5 32 _ true rfl rfl rfl rfl (List.Mem.head _),
        st_plain rfl (op_pick _ _ false _ rfl rfl),
        st_plain rfl (op_assign _ _ _ _ rfl rfl),
        trivial⟩ ?_
       exact hl21 _ (Option.some.inj h).symm
    ·have h := cond_f hb9 h
     refine ht_skip ?_
     refine pt_then ?_
     refine ht_seq ?_
     obtain ⟨v23, hv23, h⟩ := bind_some h
     refine ht_seqR hn (El := [_, _, _, _, _, _, (35, .fl .shr 1 (List.map (Value.int .u8) key)), (36, .fl (.own 5) 1 (List.map (Value.int .u8) v23)), (9, .fl (.own 5) 1 (List.map (Value.int .u8) v23))]) (init := [0, 1, 2, 3, 4, 5]) (fin := [0, 1, 2, 3, 4, 8]) (sps := [⟨[0], [], [6], [(.slot 35)]⟩, ⟨[6], [], [7], [(.slot 36)]⟩, ⟨[], [7], [8], [(.slot 9)]⟩]) (es' := [(_, _), (_, _), (_, _), (_, _), (_, _), (9, .fl (.own 5) 1 (List.map (Value.int .u8) v23))]) (by kernel_rfl) rfl rfl
      ⟨st_plain rfl (op_move _ _ _ _ rfl rfl),
      st_plain rfl (op_call _ _ 6 _ _ rfl Tryd.call6 rfl (ok_wherrykeep_Twin key _ hv23) rfl rfl),
      st_plain rfl (op_assign_take _ _ _ _ rfl),
      trivial⟩ ?_
     refine pt_then ?_
     refine ht_seq ?_
     refine ht_seq ?_
     obtain ⟨v24, hv24, h⟩ := bind_some h
     obtain ⟨v25, hv25, h⟩ := bind_some h
     obtain ⟨v26, hv26, h⟩ := bind_some h
     obtain ⟨v27, hv27, h⟩ := bind_some h
     obtain ⟨v28, hv28, h⟩ := bind_some h
     refine ht_seqR hn (El := (_ :: _ :: _ :: _ :: _ :: _ :: (37, .v (.int .i64 n)) :: (38, .v (.int .u64 v24)) :: (39, .fl .shr 1 (List.map (Value.int .u8) key)) :: (40, .v (.int .i64 (key.length : Int))) :: (41, .v (.int .i64 v25)) :: (42, .v (.int .u64 v26)) :: (43, .v (.int .u64 v27)) :: (44, .v (.int .i64 v28)) :: (10, .v (.int .i64 v28)) :: [])) (init := [0, 1, 2, 3, 4, 5]) (fin := [1, 3, 4, 5, 14]) (sps := [⟨[2], [], [6], [(.slot 37)]⟩, ⟨[6], [], [7], [(.slot 38)]⟩, ⟨[0], [], [8], [(.slot 39)]⟩, ⟨[8], [], [9], [(.slot 40)]⟩, ⟨[9], [], [10], [(.slot 41)]⟩, ⟨[10], [], [11], [(.slot 42)]⟩, ⟨[7, 11], [], [12], [(.slot 43)]⟩, ⟨[12], [], [13], [(.slot 44)]⟩, ⟨[13], [], [14], [(.slot 10)]⟩]) (es' := [(_, _), (_, _), (_, _), (_, _), (10, .v (.int .i64 v28))]) (by kernel_rfl) rfl rfl
      ⟨st_plain rfl (op_move _ _ _ _ rfl rfl),
      st_plain rfl ((Option.some.inj hv24) ▸ op_conv _ _ _ Tryd.underlying3 Tryd.underlying30 rfl),
      st_plain rfl (op_move _ _ _ _ rfl rfl),
      st_plain rfl (op_len_fl _ _ _ Tryd.underlying22 rfl (by decide) (map_len _)),
      st_plain rfl (op_bin _ _ _ _ _ rfl rfl (ibind (f := Value.int .i64) (Option.some.inj hv25))),
      st_plain rfl ((Option.some.inj hv26) ▸ op_conv _ _ _ Tryd.underlying3 Tryd.underlying30 rfl),
      st_plain rfl (op_bin _ _ _ _ _ rfl rfl (rem_ok hv27)),
      st_plain rfl ((Option.some.inj hv28) ▸ op_conv _ _ _ Tryd.underlying30 Tryd.underlying3 rfl),
      st_plain rfl (op_assign _ _ _ _ rfl rfl),
      trivial⟩ ?_
     refine pt_then ?_
     refine ht_loopS h (fun ((s35, s36) : (List Int) × Int) => [(1, .fl .shr 1 (List.map (Value.int .u8) text)), (60, .glob (GL mx)), (7, .arr 24 (List.map (Value.int .u8) v6)), (9, .fl (.own 5) 1 (List.map (Value.int .u8) s35)), (10, .v (.int .i64 s36))]) (fun (s38 : (List Int)) => [(1, .fl .shr 1 (List.map (Value.int .u8) text)), (60, .glob (GL mx)), (7, .arr 24 (List.map (Value.int .u8) v6)), (9, .fl (.own 5) 1 (List.map (Value.int .u8) s38))]) ?_ ?_
     ·rintro s38 h
      refine pt_then ?_
      refine ht_seq ?_
      refine ht_joinS h (fun (s51 : Bool) => [(60, .glob (GL mx)), (6, .v (.bool s51))]) ?_ ?_
      ·rintro s51 h
       refine pt_then ?_
       refine ht_ret ?_
       refine pt_pick [1] (by kernel_rfl) (es' := [(_, _)]) rfl ?_
       obtain rfl := Option.some.inj h
       exact pt_ret hio rfl (.tmp _ _ .nil) rfl rfl
      ·intro u52 h hl53 hr54
       obtain ⟨v46, hv46, h⟩ := bind_some h
       obtain ⟨v47, hv47, h⟩ := bind_some h
       obtain ⟨v48, hv48, h⟩ := bind_some h
       obtain ⟨v49, hv49, h⟩ := bind_some h
       refine cond_some h (fun hg12_5 h => ?_) (fun hg12_5 h => ?_)
       ·obtain ⟨v50, hv50, h⟩ := bind_some h
        refine ht_anyR (by kernel_rfl) hn (El := [_, _, _, _, (52, .fl (.own 5) 1 (List.map (Value.int .u8) s38)), (53, .fl .shr 1 (List.map (Value.int .u8) text)), (54, .v (.agg (List.map (Value.int .u8) v46).toArray)), (55, .v (.agg (List.map (Value.int .u8) v6).toArray)), (56, .v (.bool (v46 == v6))), (57, .v (.bool true)), (58, .v (.bool v50)), (59, .v (.bool v50)), (6, .v (.bool v50))]) (init := [0, 1, 2, 3]) (fin := [1, 12]) (sps := [⟨[], [3], [4], [(.slot 52)]⟩, ⟨[0], [], [5], [(.slot 53)]⟩, ⟨[4, 5, 1], [], [6], [(.slot 54)]⟩, ⟨[2], [], [7], [(.slot 55)]⟩, ⟨[6, 7], [], [8], [(.slot 56)]⟩, ⟨[8], [], [9], [(.slot 57)]⟩, ⟨[9, 1], [], [10], [(.slot 58)]⟩, ⟨[9, 10], [], [11], [(.slot 59)]⟩, ⟨[11], [], [12], [(.slot 6)]⟩]) (es' := [(_, _), (6, .v (.bool v50))]) (by kernel_rfl) rfl rfl
         ⟨st_plain rfl (op_move_take _ _ _ _ rfl),
         st_plain rfl (op_move _ _ _ _ rfl rfl),
         st_plain rfl (op_callG _ _ 60 9 _ _ rfl Tryd.call9 rfl rfl (fun _ h => h) (ok_digest_Keyed mx s38 text _ hv46) rfl rfl),
         st_plain rfl (op_loadA_arr _ _ _ _ Tryd.underlying24 rfl (sz24.trans (congrArg some (ln_len hv47))) rfl rfl),
         st_plain rfl (op_eq_arr _ _ _ Tryd.underlying24 Tryd.underlying5 (i := Tryd.t5) (by kernel_rfl) (by kernel_rfl) (by kernel_rfl) rfl rfl (ln_n hv48) (ln_n hv49) rfl),
         st_plain rfl (op_move _ _ _ _ (congrArg (fun b => AV.v (Value.bool b)) hg12_5) rfl),
         st_run 5 57 true rfl rfl rfl (List.Mem.head _) (op_callG _ _ 60 12 _ _ rfl Tryd.call12 rfl rfl (fun _ h => h) (ok_wherrylaw09_wakes mx  _ hv50) rfl rfl),
         st_plain rfl (op_pick _ _ true _ rfl rfl),
         st_plain rfl (op_assign _ _ _ _ rfl rfl),
         trivial⟩ ?_
        exact hl53 _ (Option.some.inj h).symm
       ·refine ht_anyR (by kernel_rfl) hn (El := [_, _, _, _, (52, .fl (.own 5) 1 (List.map (Value.int .u8) s38)), (53, .fl .shr 1 (List.map (Value.int .u8) text)), (54, .v (.agg (List.map (Value.int .u8) v46).toArray)), (55, .v (.agg (List.map (Value.int .u8) v6).toArray)), (56, .v (.bool (v46 == v6))), (57, .v (.bool false)), (58, .v undef), (59, .v (.bool false)), (6, .v (.bool false))]) (init := [0, 1, 2, 3]) (fin := [1, 12]) (sps := [⟨[], [3], [4], [(.slot 52)]⟩, ⟨[0], [], [5], [(.slot 53)]⟩, ⟨[4, 5, 1], [], [6], [(.slot 54)]⟩, ⟨[2], [], [7], [(.slot 55)]⟩, ⟨[6, 7], [], [8], [(.slot 56)]⟩, ⟨[8], [], [9], [(.slot 57)]⟩, ⟨[9], [], [10], [(.slot 58)]⟩, ⟨[9], [], [11], [(.slot 59)]⟩, ⟨[11], [], [12], [(.slot 6)]⟩]) (es' := [(_, _), (6, .v (.bool false))]) (by kernel_rfl) rfl rfl
         ⟨st_plain rfl (op_move_take _ _ _ _ rfl),
         st_plain rfl (op_move _ _ _ _ rfl rfl),
         st_plain rfl (op_callG _ _ 60 9 _ _ rfl Tryd.call9 rfl rfl (fun _ h => h) (ok_digest_Keyed mx s38 text _ hv46) rfl rfl),
         st_plain rfl (op_loadA_arr _ _ _ _ Tryd.underlying24 rfl (sz24.trans (congrArg some (ln_len hv47))) rfl rfl),
         st_plain rfl (op_eq_arr _ _ _ Tryd.underlying24 Tryd.underlying5 (i := Tryd.t5) (by kernel_rfl) (by kernel_rfl) (by kernel_rfl) rfl rfl (ln_n hv48) (ln_n hv49) rfl),
         st_plain rfl (op_move _ _ _ _ (congrArg (fun b => AV.v (Value.bool b)) hg12_5) rfl),
         st_skip 5 57 _ true rfl rfl rfl rfl (List.Mem.head _),
         st_plain rfl (op_pick _ _ false _ rfl rfl),
         st_plain rfl (op_assign _ _ _ _ rfl rfl),
         trivial⟩ ?_
        exact hl53 _ (Option.some.inj h).symm
     ·rintro u39 hl40 hr41 ⟨s35, s36⟩ rr44 h ho42
      refine ht_seq ?_
      refine ht_seq ?_
      refine ht_seqR hn (El := [_, _, _, _, _, (45, .v (.int .i64 s36)), (46, .v (.bool ((decide (0 < s36)))))]) (init := [0, 1, 2, 3, 4]) (fin := [0, 1, 2, 3, 4, 6]) (sps := [⟨[4], [], [5], [(.slot 45)]⟩, ⟨[5], [], [6], [(.slot 46)]⟩]) (es' := [(_, _), (_, _), (_, _), (_, _), (_, _), (46, .v (.bool ((decide (0 < s36)))))]) (by kernel_rfl) rfl rfl
       ⟨st_plain rfl (op_move _ _ _ _ rfl rfl),
       st_plain rfl (op_bin _ _ _ _ _ rfl rfl rfl),
       trivial⟩ ?_
      refine pt_then ?_
      refine ht_cond _ rfl (fun hb45 => ?_) (fun hb45 => ?_)
      ·have h := cond_t hb45 h
       refine ht_skip ?_
       refine pt_then ?_
       refine ht_seq ?_
       refine ht_block ?_
       obtain ⟨v30, hv30, h⟩ := bind_some h
       refine ht_seqR hn (El := [_, _, _, _, _, _, (49, .fl (.own 5) 1 (List.map (Value.int .u8) s35)), (50, .fl (.own 5) 1 (List.map (Value.int .u8) [0])), (51, .fl (.own 5) 1 (List.map (Value.int .u8) v30)), (49, .any), (9, .fl (.own 5) 1 (List.map (Value.int .u8) v30))]) (init := [0, 1, 2, 3, 4, 5]) (fin := [0, 1, 2, 4, 10]) (sps := [⟨[], [3], [6], [(.slot 49)]⟩, ⟨[], [], [7], [(.slot 50)]⟩, ⟨[7], [6], [9, 8], [(.slot 51)]⟩, ⟨[], [8], [10], [(.slot 9)]⟩]) (es' := [(_, _), (_, _), (_, _), (_, _), (9, .fl (.own 5) 1 (List.map (Value.int .u8) v30))]) (by kernel_rfl) rfl rfl
        ⟨st_plain rfl (op_move_take _ _ _ _ rfl),
        st_plain rfl (op_buildSlice _ _ 1 (.int .u8 0) (List.map (Value.int .u8) [0]) [(0, .int .u8 0)] Tryd.underlying22 sz5 zr5 (fun _ V w o a hv hes => by simp only [List.map_toArray, List.map_cons, List.map_nil]; try rfl) (litfill (by simp [Instr.fill, Value.cells]; rfl) (by simp [List.range, List.range.loop] <;> rfl)) (by simp [Value.oneCell']) rfl (by decide) (by decide) (by decide)),
        st_plain rfl (op_app _ _ _ _ _ el22 rfl rfl (map_len _) (map_len _) hv30 ((List.map_append).symm.trans (congrArg (List.map _) (app_eq hv30)))),
        st_plain rfl (op_assign_take _ _ _ _ rfl),
        trivial⟩ ?_
       refine pt_inb ?_
       refine pt_then ?_
       obtain ⟨v31, hv31, h⟩ := bind_some h
       refine ht_seqR hn (El := [_, _, _, _, _, (47, .v (.int .i64 s36)), (48, .v (.int .i64 v31)), (10, .v (.int .i64 v31))]) (init := [0, 1, 2, 3, 4]) (fin := [0, 1, 2, 4, 7]) (sps := [⟨[3], [], [5], [(.slot 47)]⟩, ⟨[5], [], [6], [(.slot 48)]⟩, ⟨[6], [3], [7], [(.slot 10)]⟩]) (es' := [(_, _), (_, _), (_, _), (_, _), (10, .v (.int .i64 v31))]) (by kernel_rfl) rfl rfl
        ⟨st_plain rfl (op_move _ _ _ _ rfl rfl),
        st_plain rfl (op_bin _ _ _ _ _ rfl rfl (ibind (f := Value.int .i64) (Option.some.inj hv31))),
        st_plain rfl (LOp.drop [_] (op_assign _ _ _ _ rfl rfl)),
        trivial⟩ ?_
       exact pt_next _ (Option.some.inj h).symm rfl
      ·have h := cond_f hb45 h
       refine ht_exit ?_
       refine pt_x_then ?_
       refine pt_x_then ?_
       refine pt_x_in ?_
       refine pt_pick [0, 1, 2, 3] (by kernel_rfl) (es' := [(_, _), (_, _), (_, _), (_, _)]) rfl ?_
       exact hl40 _ (ho42 _ (Option.some.inj h).symm).symm
  ·intro u2 h hl3 hr4
   refine cond_some h (fun hg1_3 h => ?_) (fun hg1_3 h => ?_)
   ·refine ht_seqR hn (El := [_, _, _, _, (11, .fl .shr 1 (List.map (Value.int .u8) key)), (12, .v (.int .i64 (key.length : Int))), (13, .v (.bool ((decide (300 < (key.length : Int)))))), (14, .v (.bool true)), (15, .v undef), (16, .v undef), (17, .v undef), (18, .v (.bool true))]) (init := [0, 1, 2, 3]) (fin := [0, 1, 2, 3, 11]) (sps := [⟨[0], [], [4], [(.slot 11)]⟩, ⟨[4], [], [5], [(.slot 12)]⟩, ⟨[5], [], [6], [(.slot 13)]⟩, ⟨[6], [], [7], [(.slot 14)]⟩, ⟨[7], [], [8], [(.slot 15)]⟩, ⟨[7], [], [9], [(.slot 16)]⟩, ⟨[7], [], [10], [(.slot 17)]⟩, ⟨[7], [], [11], [(.slot 18)]⟩]) (es' := [(_, _), (_, _), (_, _), (_, _), (18, .v (.bool true))]) (by kernel_rfl) rfl rfl
     ⟨st_plain rfl (op_move _ _ _ _ rfl rfl),
     st_plain rfl (op_len_fl _ _ _ Tryd.underlying22 rfl (by decide) (map_len _)),
     st_plain rfl (op_bin _ _ _ _ _ rfl rfl rfl),
     st_plain rfl (op_move _ _ _ _ (congrArg (fun b => AV.v (Value.bool b)) hg1_3) rfl),
     st_skip 3 14 _ false rfl rfl rfl rfl (List.Mem.head _),
     st_skip 3 14 _ false rfl rfl rfl rfl (List.Mem.head _),
     st_skip 3 14 _ false rfl rfl rfl rfl (List.Mem.head _),
     st_plain rfl (op_pick _ _ true _ rfl rfl),
     trivial⟩ ?_
    exact hl3 _ (Option.some.inj h).symm
   ·refine ht_seqR hn (El := [_, _, _, _, (11, .fl .shr 1 (List.map (Value.int .u8) key)), (12, .v (.int .i64 (key.length : Int))), (13, .v (.bool ((decide (300 < (key.length : Int)))))), (14, .v (.bool false)), (15, .fl .shr 1 (List.map (Value.int .u8) text)), (16, .v (.int .i64 (text.length : Int))), (17, .v (.bool ((decide (300 < (text.length : Int)))))), (18, .v (.bool ((decide (300 < (text.length : Int))))))]) (init := [0, 1, 2, 3]) (fin := [0, 1, 2, 3, 11]) (sps := [⟨[0], [], [4], [(.slot 11)]⟩, ⟨[4], [], [5], [(.slot 12)]⟩, ⟨[5], [], [6], [(.slot 13)]⟩, ⟨[6], [], [7], [(.slot 14)]⟩, ⟨[7, 1], [], [8], [(.slot 15)]⟩, ⟨[7, 8], [], [9], [(.slot 16)]⟩, ⟨[7, 9], [], [10], [(.slot 17)]⟩, ⟨[7, 10], [], [11], [(.slot 18)]⟩]) (es' := [(_, _), (_, _), (_, _), (_, _), (18, .v (.bool ((decide (300 < (text.length : Int))))))]) (by kernel_rfl) rfl rfl
     ⟨st_plain rfl (op_move _ _ _ _ rfl rfl),
     st_plain rfl (op_len_fl _ _ _ Tryd.underlying22 rfl (by decide) (map_len _)),
     st_plain rfl (op_bin _ _ _ _ _ rfl rfl rfl),
     st_plain rfl (op_move _ _ _ _ (congrArg (fun b => AV.v (Value.bool b)) hg1_3) rfl),
     st_run 3 14 false rfl rfl rfl (List.Mem.head _) (op_move _ _ _ _ rfl rfl),
     st_run 3 14 false rfl rfl rfl (List.Mem.head _) (op_len_fl _ _ _ Tryd.underlying22 rfl (by decide) (map_len _)),
     st_run 3 14 false rfl rfl rfl (List.Mem.head _) (op_bin _ _ _ _ _ rfl rfl rfl),
     st_plain rfl (op_pick _ _ false _ rfl rfl),
     trivial⟩ ?_
    exact hl3 _ (Option.some.inj h).symm

end Go.Proofs.YtjhpgfccojoajaaDoor
