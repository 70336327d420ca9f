/-
  The model's runs are what is told in Lean.
-/
import Derived.Test.YtjhpgfccojoajaaDoorProg
import Derived.KernelRfl
import Derived.Test.YtjhpgfccojoajaaDoorOkc1
set_option linter.unusedVariables false
set_option linter.unusedSimpArgs false
namespace Go.Proofs.YtjhpgfccojoajaaDoor
open Go.Abs Go.Abs.Sh

set_option maxHeartbeats 1000000 in
theorem ok_wherrylaw09_wakes (mx : Int) (r : Bool) (h : Sh.wherrylaw09_wakes  = some r) : FnG Tryd.prog (GL mx) 12 [] (.v (.bool r)) := by
  unfold Sh.wherrylaw09_wakes at h
  refine fn_okG Tryd.func12 rfl (Nat.le_of_ble_eq_true rfl) rfl rfl fun g0 hn hio => ?_
  refine ht_seq ?_
  refine ht_seqR hn (El := [_, (0, .v (.bool false))]) (init := [0]) (fin := [0]) (sps := [⟨[], [], [1], [(.slot 0)]⟩]) (es' := [(_, _)]) (by kernel_rfl) rfl rfl
   ⟨st_plain rfl (op_assign _ _ _ _ rfl rfl),
   trivial⟩ ?_
  refine pt_then ?_
  refine ht_seq ?_
  obtain ⟨v1, hv1, h⟩ := bind_some h
  obtain ⟨v2, hv2, h⟩ := bind_some h
  obtain ⟨v3, hv3, h⟩ := bind_some h
  refine ht_seqR hn (El := [_, (2, .fl (.own 5) 1 (List.map (Value.int .u8) [97, 98, 99])), (3, .fl .ro 1 (List.map (Value.int .u8) [97, 98, 99])), (4, .v (.agg (List.map (Value.int .u8) v1).toArray)), (1, .arr 24 (List.map (Value.int .u8) ((List.replicate 16 (0 : Int))))), (1, .arr 24 (List.map (Value.int .u8) v1))]) (init := [0]) (fin := [0, 5]) (sps := [⟨[], [], [1], [(.slot 2)]⟩, ⟨[], [1], [2], [(.slot 3)]⟩, ⟨[2, 0], [], [3], [(.slot 4)]⟩, ⟨[], [], [4], [(.slot 1)]⟩, ⟨[3], [4], [5], []⟩]) (es' := [(_, _), (1, .arr 24 (List.map (Value.int .u8) v1))]) (by kernel_rfl) rfl rfl
   ⟨st_plain rfl (op_buildSlice _ _ 1 (.int .u8 0) (List.map (Value.int .u8) [97, 98, 99]) [(0, .int .u8 97), (1, .int .u8 98), (2, .int .u8 99)] Tryd.underlying22 sz5 zr5 (fun _ V w o a hv hes => by simp only [List.map_toArray, List.map_cons, List.map_nil]; try rfl) (litfill (by simp [Instr.fill, Value.cells]; rfl) (by simp [List.range, List.range.loop] <;> rfl)) (by simp [Value.oneCell']) rfl (by decide) (by decide) (by decide)),
   st_plain rfl (op_conv_mark _ _ _ Tryd.underlying22 Tryd.underlying5 (by intro h; cases h)),
   st_plain rfl (op_callG _ _ 23 7 _ _ rfl Tryd.call7 rfl rfl (fun _ h => h) (ok_digest_Sum mx [97, 98, 99] _ hv1) rfl rfl),
   st_plain rfl (op_alloc_arr _ za24),
   st_plain rfl (op_storeA_arr _ _ _ _ (sz24.trans (congrArg some (ln_len hv3))) rfl rfl (ln_ones (fun _ => rfl) _) ((ln_len (f := Value.int .u8) hv2).symm.trans (ln_len (f := Value.int .u8) hv3))),
   trivial⟩ ?_
  refine pt_then ?_
  refine ht_seq ?_
  refine ht_joinS h (fun (s12 : Bool) => [(23, .glob (GL mx)), (0, .v (.bool s12))]) ?_ ?_
  ·rintro s12 h
   refine pt_then ?_
   refine ht_ret ?_
   refine pt_pick [1] (by kernel_rfl) (es' := [(_, _)]) rfl ?_
   obtain rfl := Option.some.inj h
   exact pt_ret hio rfl (.tmp _ _ .nil) rfl rfl
  ·intro u13 h hl14 hr15
   obtain ⟨v4, hv4, h⟩ := bind_some h
   obtain ⟨v5, hv5, h⟩ := bind_some h
   refine cond_some h (fun hg2_3 h => ?_) (fun hg2_3 h => ?_)
   ·obtain ⟨v6, hv6, h⟩ := bind_some h
    obtain ⟨v7, hv7, h⟩ := bind_some h
    refine cond_some h (fun hg2_8 h => ?_) (fun hg2_8 h => ?_)
    ·obtain ⟨v8, hv8, h⟩ := bind_some h
     obtain ⟨v9, hv9, h⟩ := bind_some h
     refine cond_some h (fun hg2_13 h => ?_) (fun hg2_13 h => ?_)
     ·obtain ⟨v10, hv10, h⟩ := bind_some h
      obtain ⟨v11, hv11, h⟩ := bind_some h
      refine ht_seqR hn (El := (_ :: _ :: (5, .ptr 1 v4) :: (6, .v (.int .u8 v5)) :: (7, .v (.bool (v5 == 144))) :: (8, .v (.bool true)) :: (9, .ptr 1 v6) :: (10, .v (.int .u8 v7)) :: (11, .v (.bool (v7 == 1))) :: (12, .v (.bool (v7 == 1))) :: (13, .v (.bool true)) :: (14, .ptr 1 v8) :: (15, .v (.int .u8 v9)) :: (16, .v (.bool (v9 == 127))) :: (17, .v (.bool (v9 == 127))) :: (18, .v (.bool true)) :: (19, .ptr 1 v10) :: (20, .v (.int .u8 v11)) :: (21, .v (.bool (v11 == 114))) :: (22, .v (.bool (v11 == 114))) :: (0, .v (.bool (v11 == 114))) :: [])) (init := [0, 1]) (fin := [0, 20]) (sps := (⟨[1], [], [2], [(.slot 5)]⟩ :: ⟨[2, 1], [], [3], [(.slot 6)]⟩ :: ⟨[3], [], [4], [(.slot 7)]⟩ :: ⟨[4], [], [5], [(.slot 8)]⟩ :: ⟨[5, 1], [], [6], [(.slot 9)]⟩ :: ⟨[5, 6, 1], [], [7], [(.slot 10)]⟩ :: ⟨[5, 7], [], [8], [(.slot 11)]⟩ :: ⟨[5, 8], [], [9], [(.slot 12)]⟩ :: ⟨[9], [], [10], [(.slot 13)]⟩ :: ⟨[10, 1], [], [11], [(.slot 14)]⟩ :: ⟨[10, 11, 1], [], [12], [(.slot 15)]⟩ :: ⟨[10, 12], [], [13], [(.slot 16)]⟩ :: ⟨[10, 13], [], [14], [(.slot 17)]⟩ :: ⟨[14], [], [15], [(.slot 18)]⟩ :: ⟨[15, 1], [], [16], [(.slot 19)]⟩ :: ⟨[15, 16, 1], [], [17], [(.slot 20)]⟩ :: ⟨[15, 17], [], [18], [(.slot 21)]⟩ :: ⟨[15, 18], [], [19], [(.slot 22)]⟩ :: ⟨[19], [], [20], [(.slot 0)]⟩ :: [])) (es' := [(_, _), (0, .v (.bool (v11 == 114)))]) (by kernel_rfl) rfl rfl
       ⟨st_plain rfl (op_ix_arr _ _ _ _ 16 1 _ Tryd.underlying24 sz5 rfl rfl (ix_ok hv4).1 (ix_ok hv4).2 (by decide)),
       st_plain rfl (op_load_arr _ _ _ _ _ _ Tryd.underlying5 rfl rfl rfl (map_get1 hv5)),
       st_plain rfl (op_bin _ _ _ _ _ rfl rfl rfl),
       st_plain rfl (op_move _ _ _ _ (congrArg (fun b => AV.v (Value.bool b)) hg2_3) rfl),
       st_run 3 8 true rfl rfl rfl (List.Mem.head _) (op_ix_arr _ _ _ _ 16 1 _ Tryd.underlying24 sz5 rfl rfl (ix_ok hv6).1 (ix_ok hv6).2 (by decide)),
       st_run 3 8 true rfl rfl rfl (List.Mem.head _) (op_load_arr _ _ _ _ _ _ Tryd.underlying5 rfl rfl rfl (map_get1 hv7)),
       st_run 3 8 true rfl rfl rfl (List.Mem.head _) (op_bin _ _ _ _ _ rfl rfl rfl),
       st_plain rfl (op_pick _ _ true _ rfl rfl),
       st_plain rfl (op_move _ _ _ _ (congrArg (fun b => AV.v (Value.bool b)) hg2_8) rfl),
       st_run 8 13 true rfl rfl rfl (List.Mem.head _) (op_ix_arr _ _ _ _ 16 1 _ Tryd.underlying24 sz5 rfl rfl (ix_ok hv8).1 (ix_ok hv8).2 (by decide)),
       st_run 8 13 true rfl rfl rfl (List.Mem.head _) (op_load_arr _ _ _ _ _ _ Tryd.underlying5 rfl rfl rfl (map_get1 hv9)),
       st_run 8 13 true rfl rfl rfl (List.Mem.head _) (op_bin _ _ _ _ _ rfl rfl rfl),
       st_plain rfl (op_pick _ _ true _ rfl rfl),
       st_plain rfl (op_move _ _ _ _ (congrArg (fun b => AV.v (Value.bool b)) hg2_13) rfl),
       st_run 13 18 true rfl rfl rfl (List.Mem.head _) (op_ix_arr _ _ _ _ 16 1 _ Tryd.underlying24 sz5 rfl rfl (ix_ok hv10).1 (ix_ok hv10).2 (by decide)),
       st_run 13 18 true rfl rfl rfl (List.Mem.head _) (op_load_arr _ _ _ _ _ _ Tryd.underlying5 rfl rfl rfl (map_get1 hv11)),
       st_run 13 18 true rfl rfl rfl (List.Mem.head _) (op_bin _ _ _ _ _ rfl rfl rfl),
       st_plain rfl (op_pick _ _ true _ rfl rfl),
       st_plain rfl (op_assign _ _ _ _ rfl rfl),
       trivial⟩ ?_
      exact hl14 _ (Option.some.inj h).symm
     ·refine ht_seqR hn (El := (_ :: _ :: (5, .ptr 1 v4) :: (6, .v (.int .u8 v5)) :: (7, .v (.bool (v5 == 144))) :: (8, .v (.bool true)) :: (9, .ptr 1 v6) :: (10, .v (.int .u8 v7)) :: (11, .v (.bool (v7 == 1))) :: (12, .v (.bool (v7 == 1))) :: (13, .v (.bool true)) :: (14, .ptr 1 v8) :: (15, .v (.int .u8 v9)) :: (16, .v (.bool (v9 == 127))) :: (17, .v (.bool (v9 == 127))) :: (18, .v (.bool false)) :: (19, .v undef) :: (20, .v undef) :: (21, .v undef) :: (22, .v (.bool false)) :: (0, .v (.bool false)) :: [])) (init := [0, 1]) (fin := [0, 20]) (sps := (⟨[1], [], [2], [(.slot 5)]⟩ :: ⟨[2, 1], [], [3], [(.slot 6)]⟩ :: ⟨[3], [], [4], [(.slot 7)]⟩ :: ⟨[4], [], [5], [(.slot 8)]⟩ :: ⟨[5, 1], [], [6], [(.slot 9)]⟩ :: ⟨[5, 6, 1], [], [7], [(.slot 10)]⟩ :: ⟨[5, 7], [], [8], [(.slot 11)]⟩ :: ⟨[5, 8], [], [9], [(.slot 12)]⟩ :: ⟨[9], [], [10], [(.slot 13)]⟩ :: ⟨[10, 1], [], [11], [(.slot 14)]⟩ :: ⟨[10, 11, 1], [], [12], [(.slot 15)]⟩ :: ⟨[10, 12], [], [13], [(.slot 16)]⟩ :: ⟨[10, 13], [], [14], [(.slot 17)]⟩ :: ⟨[14], [], [15], [(.slot 18)]⟩ :: ⟨[15], [], [16], [(.slot 19)]⟩ :: ⟨[15], [], [17], [(.slot 20)]⟩ :: ⟨[15], [], [18], [(.slot 21)]⟩ :: ⟨[15], [], [19], [(.slot 22)]⟩ :: ⟨[19], [], [20], [(.slot 0)]⟩ :: [])) (es' := [(_, _), (0, .v (.bool false))]) (by kernel_rfl) rfl rfl
       ⟨st_plain rfl (op_ix_arr _ _ _ _ 16 1 _ Tryd.underlying24 sz5 rfl rfl (ix_ok hv4).1 (ix_ok hv4).2 (by decide)),
       st_plain rfl (op_load_arr _ _ _ _ _ _ Tryd.underlying5 rfl rfl rfl (map_get1 hv5)),
       st_plain rfl (op_bin _ _ _ _ _ rfl rfl rfl),
       st_plain rfl (op_move _ _ _ _ (congrArg (fun b => AV.v (Value.bool b)) hg2_3) rfl),
       st_run 3 8 true rfl rfl rfl (List.Mem.head _) (op_ix_arr _ _ _ _ 16 1 _ Tryd.underlying24 sz5 rfl rfl (ix_ok hv6).1 (ix_ok hv6).2 (by decide)),
       st_run 3 8 true rfl rfl rfl (List.Mem.head _) (op_load_arr _ _ _ _ _ _ Tryd.underlying5 rfl rfl rfl (map_get1 hv7)),
       st_run 3 8 true rfl rfl rfl (List.Mem.head _) (op_bin _ _ _ _ _ rfl rfl rfl),
       st_plain rfl (op_pick _ _ true _ rfl rfl),
       st_plain rfl (op_move _ _ _ _ (congrArg (fun b => AV.v (Value.bool b)) hg2_8) rfl),
       st_run 8 13 true rfl rfl rfl (List.Mem.head _) (op_ix_arr _ _ _ _ 16 1 _ Tryd.underlying24 sz5 rfl rfl (ix_ok hv8).1 (ix_ok hv8).2 (by decide)),
       st_run 8 13 true rfl rfl rfl (List.Mem.head _) (op_load_arr _ _ _ _ _ _ Tryd.underlying5 rfl rfl rfl (map_get1 hv9)),
       st_run 8 13 true rfl rfl rfl (List.Mem.head _) (op_bin _ _ _ _ _ rfl rfl rfl),
       st_plain rfl (op_pick _ _ true _ rfl rfl),
       st_plain rfl (op_move _ _ _ _ (congrArg (fun b => AV.v (Value.bool b)) hg2_13) rfl),
       st_skip 13 18 _ true rfl rfl rfl rfl (List.Mem.head _),
       st_skip 13 18 _ true rfl rfl rfl rfl (List.Mem.head _),
       st_skip 13 18 _ true rfl rfl rfl rfl (List.Mem.head _),
       st_plain rfl (op_pick _ _ false _ rfl rfl),
       st_plain rfl (op_assign _ _ _ _ rfl rfl),
       trivial⟩ ?_
      exact hl14 _ (Option.some.inj h).symm
    ·refine ht_seqR hn (El := (_ :: _ :: (5, .ptr 1 v4) :: (6, .v (.int .u8 v5)) :: (7, .v (.bool (v5 == 144))) :: (8, .v (.bool true)) :: (9, .ptr 1 v6) :: (10, .v (.int .u8 v7)) :: (11, .v (.bool (v7 == 1))) :: (12, .v (.bool (v7 == 1))) :: (13, .v (.bool false)) :: (14, .v undef) :: (15, .v undef) :: (16, .v undef) :: (17, .v (.bool false)) :: (18, .v (.bool false)) :: (19, .v undef) :: (20, .v undef) :: (21, .v undef) :: (22, .v (.bool false)) :: (0, .v (.bool false)) :: [])) (init := [0, 1]) (fin := [0, 20]) (sps := (⟨[1], [], [2], [(.slot 5)]⟩ :: ⟨[2, 1], [], [3], [(.slot 6)]⟩ :: ⟨[3], [], [4], [(.slot 7)]⟩ :: ⟨[4], [], [5], [(.slot 8)]⟩ :: ⟨[5, 1], [], [6], [(.slot 9)]⟩ :: ⟨[5, 6, 1], [], [7], [(.slot 10)]⟩ :: ⟨[5, 7], [], [8], [(.slot 11)]⟩ :: ⟨[5, 8], [], [9], [(.slot 12)]⟩ :: ⟨[9], [], [10], [(.slot 13)]⟩ :: ⟨[10], [], [11], [(.slot 14)]⟩ :: ⟨[10], [], [12], [(.slot 15)]⟩ :: ⟨[10], [], [13], [(.slot 16)]⟩ :: ⟨[10], [], [14], [(.slot 17)]⟩ :: ⟨[14], [], [15], [(.slot 18)]⟩ :: ⟨[15], [], [16], [(.slot 19)]⟩ :: ⟨[15], [], [17], [(.slot 20)]⟩ :: ⟨[15], [], [18], [(.slot 21)]⟩ :: ⟨[15], [], [19], [(.slot 22)]⟩ :: ⟨[19], [], [20], [(.slot 0)]⟩ :: [])) (es' := [(_, _), (0, .v (.bool false))]) (by kernel_rfl) rfl rfl
      ⟨st_plain rfl (op_ix_arr _ _ _ _ 16 1 _ Tryd.underlying24 sz5 rfl rfl (ix_ok hv4).1 (ix_ok hv4).2 (by decide)),
      st_plain rfl (op_load_arr _ _ _ _ _ _ Tryd.underlying5 rfl rfl rfl (map_get1 hv5)),
      st_plain rfl (op_bin _ _ _ _ _ rfl rfl rfl),
      st_plain rfl (op_move _ _ _ _ (congrArg (fun b => AV.v (Value.bool b)) hg2_3) rfl),
      st_run 3 8 true rfl rfl rfl (List.Mem.head _) (op_ix_arr _ _ _ _ 16 1 _ Tryd.underlying24 sz5 rfl rfl (ix_ok hv6).1 (ix_ok hv6).2 (by decide)),
      st_run 3 8 true rfl rfl rfl (List.Mem.head _) (op_load_arr _ _ _ _ _ _ Tryd.underlying5 rfl rfl rfl (map_get1 hv7)),
      st_run 3 8 true rfl rfl rfl (List.Mem.head _) (op_bin _ _ _ _ _ rfl rfl rfl),
      st_plain rfl (op_pick _ _ true _ rfl rfl),
      st_plain rfl (op_move _ _ _ _ (congrArg (fun b => AV.v (Value.bool b)) hg2_8) rfl),
      st_skip 8 13 _ true rfl rfl rfl rfl (List.Mem.head _),
      st_skip 8 13 _ true rfl rfl rfl rfl (List.Mem.head _),
      st_skip 8 13 _ true rfl rfl rfl rfl (List.Mem.head _),
      st_plain rfl (op_pick _ _ false _ rfl rfl),
      st_plain rfl (op_move _ _ _ _ rfl rfl),
      st_skip 13 18 _ true rfl rfl rfl rfl (List.Mem.head _),
      st_skip 13 18 _ true rfl rfl rfl rfl (List.Mem.head _),
      st_skip 13 18 _ true rfl rfl rfl rfl (List.Mem.head _),
      st_plain rfl (op_pick _ _ false _ rfl rfl),
      st_plain rfl (op_assign _ _ _ _ rfl rfl),
      trivial⟩ ?_
     exact hl14 _ (Option.some.inj h).symm
   ·refine ht_seqR hn (El := (_ :: _ :: (5, .ptr 1 v4) :: (6, .v (.int .u8 v5)) :: (7, .v (.bool (v5 == 144))) :: (8, .v (.bool false)) :: (9, .v undef) :: (10, .v undef) :: (11, .v undef) :: (12, .v (.bool false)) :: (13, .v (.bool false)) :: (14, .v undef) :: (15, .v undef) :: (16, .v undef) :: (17, .v (.bool false)) :: (18, .v (.bool false)) :: (19, .v undef) :: (20, .v undef) :: (21, .v undef) :: (22, .v (.bool false)) :: (0, .v (.bool false)) :: [])) (init := [0, 1]) (fin := [0, 20]) (sps := (⟨[1], [], [2], [(.slot 5)]⟩ :: ⟨[2, 1], [], [3], [(.slot 6)]⟩ :: ⟨[3], [], [4], [(.slot 7)]⟩ :: ⟨[4], [], [5], [(.slot 8)]⟩ :: ⟨[5], [], [6], [(.slot 9)]⟩ :: ⟨[5], [], [7], [(.slot 10)]⟩ :: ⟨[5], [], [8], [(.slot 11)]⟩ :: ⟨[5], [], [9], [(.slot 12)]⟩ :: ⟨[9], [], [10], [(.slot 13)]⟩ :: ⟨[10], [], [11], [(.slot 14)]⟩ :: ⟨[10], [], [12], [(.slot 15)]⟩ :: ⟨[10], [], [13], [(.slot 16)]⟩ :: ⟨[10], [], [14], [(.slot 17)]⟩ :: ⟨[14], [], [15], [(.slot 18)]⟩ :: ⟨[15], [], [16], [(.slot 19)]⟩ :: ⟨[15], [], [17], [(.slot 20)]⟩ :: ⟨[15], [], [18], [(.slot 21)]⟩ :: ⟨[15], [], [19], [(.slot 22)]⟩ :: ⟨[19], [], [20], [(.slot 0)]⟩ :: [])) (es' := [(_, _), (0, .v (.bool false))]) (by kernel_rfl) rfl rfl
     ⟨st_plain rfl (op_ix_arr _ _ _ _ 16 1 _ Tryd.underlying24 sz5 rfl rfl (ix_ok hv4).1 (ix_ok hv4).2 (by decide)),
     st_plain rfl (op_load_arr _ _ _ _ _ _ Tryd.underlying5 rfl rfl rfl (map_get1 hv5)),
     st_plain rfl (op_bin _ _ _ _ _ rfl rfl rfl),
     st_plain rfl (op_move _ _ _ _ (congrArg (fun b => AV.v (Value.bool b)) hg2_3) rfl),
     st_skip 3 8 _ true rfl rfl rfl rfl (List.Mem.head _),
     st_skip 3 8 _ true rfl rfl rfl rfl (List.Mem.head _),
     st_skip 3 8 _ true rfl rfl rfl rfl (List.Mem.head _),
     st_plain rfl (op_pick _ _ false _ rfl rfl),
     st_plain rfl (op_move _ _ _ _ rfl rfl),
     st_skip 8 13 _ true rfl rfl rfl rfl (List.Mem.head _),
     st_skip 8 13 _ true rfl rfl rfl rfl (List.Mem.head _),
     st_skip 8 13 _ true rfl rfl rfl rfl (List.Mem.head _),
     st_plain rfl (op_pick _ _ false _ rfl rfl),
     st_plain rfl (op_move _ _ _ _ rfl rfl),
     st_skip 13 18 _ true rfl rfl rfl rfl (List.Mem.head _),
     st_skip 13 18 _ true rfl rfl rfl rfl (List.Mem.head _),
     st_skip 13 18 _ true rfl rfl rfl rfl (List.Mem.head _),
     st_plain rfl (op_pick _ _ false _ rfl rfl),
     st_plain rfl (op_assign _ _ _ _ rfl rfl),
     trivial⟩ ?_
    exact hl14 _ (Option.some.inj h).symm

end Go.Proofs.YtjhpgfccojoajaaDoor
