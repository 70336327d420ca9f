/-
  The model's runs are what is told in Lean.
-/
import Derived.Test.YtadkeipbkbkneaaDoorProg
import Derived.KernelRfl
import Derived.Test.YtadkeipbkbkneaaDoorShelf
import Derived.Test.YtadkeipbkbkneaaDoorOkc1
set_option linter.unusedVariables false
set_option linter.unusedSimpArgs false
namespace Go.Proofs.YtadkeipbkbkneaaDoor
open Go.Abs Go.Abs.Sh

set_option maxHeartbeats 1000000 in
theorem ok_digest_Keyed (mx : Int) (key : (List Int)) (text : (List Int)) (r : (List Int)) (h : Sh.digest_Keyed key text = some r) : FnG Tryd.prog (GL mx) 20 [.fl .shr 1 (List.map (Value.int .u8) key), .fl .shr 1 (List.map (Value.int .u8) text)] (.v (.agg (List.map (Value.int .u8) r).toArray)) := by
  unfold Sh.digest_Keyed at h
  refine fn_okG Tryd.func20 rfl (Nat.le_of_ble_eq_true rfl) rfl rfl fun g0 hn hio => ?_
  refine ht_seq ?_
  refine ht_seqR hn (El := [_, _, _, (4, .arr 37 (List.map (Value.int .u8) ((List.replicate 16 (0 : Int)))))]) (init := [0, 1, 2]) (fin := [0, 1, 2, 3]) (sps := [⟨[], [], [3], [(.slot 4)]⟩]) (es' := [(_, _), (_, _), (_, _), (4, .arr 37 (List.map (Value.int .u8) ((List.replicate 16 (0 : Int)))))]) (by kernel_rfl) rfl rfl
   ⟨st_plain rfl (op_alloc_arr _ za37),
   trivial⟩ ?_
  refine pt_then ?_
  refine ht_seq ?_
  refine ht_seqR hn (El := [_, _, _, _, (5, .arr 57 (List.map (Value.int .u8) ((List.replicate 64 (0 : Int)))))]) (init := [0, 1, 2, 3]) (fin := [0, 1, 2, 3, 4]) (sps := [⟨[], [], [4], [(.slot 5)]⟩]) (es' := [(_, _), (_, _), (_, _), (_, _), (5, .arr 57 (List.map (Value.int .u8) ((List.replicate 64 (0 : Int)))))]) (by kernel_rfl) rfl rfl
   ⟨st_plain rfl (op_alloc_arr _ za57),
   trivial⟩ ?_
  refine pt_then ?_
  refine ht_seq ?_
  refine ht_joinS h (fun (s8 : (List Int)) => [(1, .fl .shr 1 (List.map (Value.int .u8) text)), (51, .glob (GL mx)), (4, .arr 37 (List.map (Value.int .u8) ((List.replicate 16 (0 : Int))))), (5, .arr 57 (List.map (Value.int .u8) s8))]) ?_ ?_
  ·rintro s8 h
   refine pt_then ?_
   refine ht_seq ?_
   obtain ⟨v13, hv13, h⟩ := bind_some h
   obtain ⟨v14, hv14, h⟩ := bind_some h
   refine ht_seqR hn (El := [_, _, _, _, (23, .fl .shr 1 (List.map (Value.int .u8) text)), (24, .v (.int .i64 (text.length : Int))), (25, .v (.int .i64 v13)), (26, .fl (.own 5) 1 (List.map (Value.int .u8) ([] : List Int))), (7, .fl (.own 5) 1 (List.map (Value.int .u8) ([] : List Int)))]) (init := [0, 1, 2, 3]) (fin := [0, 1, 2, 3, 8]) (sps := [⟨[0], [], [4], [(.slot 23)]⟩, ⟨[4], [], [5], [(.slot 24)]⟩, ⟨[5], [], [6], [(.slot 25)]⟩, ⟨[6], [], [7], [(.slot 26)]⟩, ⟨[], [7], [8], [(.slot 7)]⟩]) (es' := [(_, _), (_, _), (_, _), (_, _), (7, .fl (.own 5) 1 (List.map (Value.int .u8) ([] : List Int)))]) (by kernel_rfl) rfl rfl
    ⟨st_plain rfl (op_move _ _ _ _ rfl rfl),
    st_plain rfl (op_len_fl _ _ _ Tryd.underlying22 rfl (by decide) (map_len _)),
    st_plain rfl (op_bin _ _ _ _ _ rfl rfl (ibind (f := Value.int .i64) (Option.some.inj hv13))),
    st_plain rfl (op_mk0 _ _ _ _ el22 (by decide) rfl rfl hv14),
    st_plain rfl (op_assign_take _ _ _ _ rfl),
    trivial⟩ ?_
   refine pt_then ?_
   refine ht_seq ?_
   obtain ⟨v15, hv15, h⟩ := bind_some h
   refine ht_seqR hn (El := [_, _, _, _, _, (27, .fl (.own 5) 1 (List.map (Value.int .u8) ([] : List Int))), (8, .fl (.own 5) 1 (List.map (Value.int .u8) ([] : List Int)))]) (init := [0, 1, 2, 3, 4]) (fin := [0, 1, 2, 3, 4, 6]) (sps := [⟨[], [], [5], [(.slot 27)]⟩, ⟨[], [5], [6], [(.slot 8)]⟩]) (es' := [(_, _), (_, _), (_, _), (_, _), (_, _), (8, .fl (.own 5) 1 (List.map (Value.int .u8) ([] : List Int)))]) (by kernel_rfl) rfl rfl
    ⟨st_plain rfl (op_mk0 _ _ _ _ el22 (by decide) rfl rfl hv15),
    st_plain rfl (op_assign_take _ _ _ _ rfl),
    trivial⟩ ?_
   refine pt_then ?_
   refine ht_seq ?_
   refine ht_seq ?_
   obtain ⟨v16, hv16, h⟩ := bind_some h
   refine ht_seqR hn (El := [_, _, _, _, _, _, (28, .v (.agg (List.map (Value.int .u8) s8).toArray)), (29, .v (.int .i64 0))]) (init := [0, 1, 2, 3, 4, 5]) (fin := [0, 1, 2, 4, 5, 6, 7]) (sps := [⟨[3], [], [6], [(.slot 28)]⟩, ⟨[], [], [7], [(.slot 29)]⟩]) (es' := [(_, _), (_, _), (_, _), (_, _), (_, _), (28, .v (.agg (List.map (Value.int .u8) s8).toArray)), (29, .v (.int .i64 0))]) (by kernel_rfl) rfl rfl
    ⟨st_plain rfl (op_loadA_arr _ _ _ _ Tryd.underlying57 rfl (sz57.trans (congrArg some (ln_len hv16))) rfl rfl),
    st_plain rfl (op_move _ _ _ _ rfl rfl),
    trivial⟩ ?_
   refine pt_then ?_
   refine ht_loopS h (fun ((s29, s30, s31) : (List Int) × (List Int) × Int) => [(1, .fl .shr 1 (List.map (Value.int .u8) text)), (51, .glob (GL mx)), (4, .arr 37 (List.map (Value.int .u8) ((List.replicate 16 (0 : Int))))), (7, .fl (.own 5) 1 (List.map (Value.int .u8) s29)), (8, .fl (.own 5) 1 (List.map (Value.int .u8) s30)), (28, .v (.agg (List.map (Value.int .u8) s8).toArray)), (29, .v (.int .i64 s31))]) (fun ((s33, s34) : (List Int) × (List Int)) => [(1, .fl .shr 1 (List.map (Value.int .u8) text)), (51, .glob (GL mx)), (4, .arr 37 (List.map (Value.int .u8) ((List.replicate 16 (0 : Int))))), (7, .fl (.own 5) 1 (List.map (Value.int .u8) s33)), (8, .fl (.own 5) 1 (List.map (Value.int .u8) s34))]) ?_ ?_
   ·rintro ⟨s33, s34⟩ h
    refine pt_then ?_
    refine ht_seq ?_
    obtain ⟨v42, hv42, h⟩ := bind_some h
    obtain ⟨v43, hv43, h⟩ := bind_some h
    obtain ⟨v44, hv44, h⟩ := bind_some h
    obtain ⟨v45, hv45, h⟩ := bind_some h
    refine ht_seqR hn (El := [_, _, _, _, _, (43, .fl (.own 5) 1 (List.map (Value.int .u8) s33)), (44, .fl .shr 1 (List.map (Value.int .u8) text)), (45, .fl (.own 5) 1 (List.map (Value.int .u8) v42)), (43, .any), (46, .v (.agg (List.map (Value.int .u8) v43).toArray)), (11, .arr 37 (List.map (Value.int .u8) ((List.replicate 16 (0 : Int))))), (11, .arr 37 (List.map (Value.int .u8) v43))]) (init := [0, 1, 2, 3, 4]) (fin := [1, 2, 4, 11]) (sps := [⟨[], [3], [5], [(.slot 43)]⟩, ⟨[0], [], [6], [(.slot 44)]⟩, ⟨[6], [5], [8, 7], [(.slot 45)]⟩, ⟨[7, 1], [], [9], [(.slot 46)]⟩, ⟨[], [], [10], [(.slot 11)]⟩, ⟨[9], [10], [11], []⟩]) (es' := [(_, _), (_, _), (_, _), (11, .arr 37 (List.map (Value.int .u8) v43))]) (by kernel_rfl) rfl rfl
     ⟨st_plain rfl (op_move_take _ _ _ _ rfl),
     st_plain rfl (op_move _ _ _ _ rfl rfl),
     st_plain rfl (op_app _ _ _ _ _ el22 rfl rfl (map_len _) (map_len _) hv42 ((List.map_append).symm.trans (congrArg (List.map _) (app_eq hv42)))),
     st_plain rfl (op_callG _ _ 51 31 _ _ rfl Tryd.call31 rfl rfl (fun _ h => h) (ok_digest_Sum mx v42 _ hv43) rfl rfl),
     st_plain rfl (op_alloc_arr _ za37),
     st_plain rfl (op_storeA_arr _ _ _ _ (sz37.trans (congrArg some (ln_len hv45))) rfl rfl (ln_ones (fun _ => rfl) _) ((ln_len (f := Value.int .u8) hv44).symm.trans (ln_len (f := Value.int .u8) hv45))),
     trivial⟩ ?_
    refine pt_then ?_
    refine ht_seq ?_
    obtain ⟨v46, hv46, h⟩ := bind_some h
    obtain ⟨v47, hv47, h⟩ := bind_some h
    obtain ⟨v48, hv48, h⟩ := bind_some h
    obtain ⟨v49, hv49, h⟩ := bind_some h
    obtain ⟨v50, hv50, h⟩ := bind_some h
    refine ht_seqR hn (El := [_, _, _, _, (47, .fl (.own 5) 1 (List.map (Value.int .u8) s34)), (48, .fl .ro 1 (List.map (Value.int .u8) v43)), (11, .any), (49, .fl (.own 5) 1 (List.map (Value.int .u8) v47)), (47, .any), (50, .v (.agg (List.map (Value.int .u8) v48).toArray)), (4, .arr 37 (List.map (Value.int .u8) v48))]) (init := [0, 1, 2, 3]) (fin := [0, 10]) (sps := [⟨[], [2], [4], [(.slot 47)]⟩, ⟨[], [3], [6, 5], [(.slot 48)]⟩, ⟨[5], [4], [8, 7], [(.slot 49)]⟩, ⟨[7, 0], [], [9], [(.slot 50)]⟩, ⟨[9], [1], [10], []⟩]) (es' := [(_, _), (4, .arr 37 (List.map (Value.int .u8) v48))]) (by kernel_rfl) rfl rfl
     ⟨st_plain rfl (op_move_take _ _ _ _ rfl),
     st_plain rfl (op_slice_frz _ _ 11 16 _ Tryd.underlying37 sz5 rfl (ln_len hv46).symm (ln_ones (fun _ => rfl) _)),
     st_plain rfl (op_app _ _ _ _ _ el22 rfl rfl (map_len _) (map_len _) hv47 ((List.map_append).symm.trans (congrArg (List.map _) (app_eq hv47)))),
     st_plain rfl (op_callG _ _ 51 31 _ _ rfl Tryd.call31 rfl rfl (fun _ h => h) (ok_digest_Sum mx v47 _ hv48) rfl rfl),
     st_plain rfl (op_storeA_arr _ _ _ _ (sz37.trans (congrArg some (ln_len hv50))) rfl rfl (ln_ones (fun _ => rfl) _) ((ln_len (f := Value.int .u8) hv49).symm.trans (ln_len (f := Value.int .u8) hv50))),
     trivial⟩ ?_
    refine pt_then ?_
    refine ht_ret ?_
    obtain ⟨v51, hv51, h⟩ := bind_some h
    refine pt_pick [1] (by kernel_rfl) (es' := [(_, _)]) rfl ?_
    obtain rfl := Option.some.inj h
    exact pt_ret hio rfl (.cellR _ _ _ _ Tryd.underlying37 rfl (sz37.trans (congrArg some (ln_len hv51))) .nil) rfl rfl
   ·rintro u35 hl36 hr37 ⟨s29, s30, s31⟩ rr40 h ho38
    refine ht_seq ?_
    refine ht_seqR hn (El := [_, _, _, _, _, _, _, (30, .v (.bool ((decide (s31 < 64)))))]) (init := [0, 1, 2, 3, 4, 5, 6]) (fin := [0, 1, 2, 3, 4, 5, 6, 7]) (sps := [⟨[6], [], [7], [(.slot 30)]⟩]) (es' := [(_, _), (_, _), (_, _), (_, _), (_, _), (_, _), (_, _), (30, .v (.bool ((decide (s31 < 64)))))]) (by kernel_rfl) rfl rfl
     ⟨st_plain rfl (op_bin _ _ _ _ _ rfl rfl rfl),
     trivial⟩ ?_
    refine pt_then ?_
    refine ht_seq ?_
    refine ht_cond _ rfl (fun hb41 => ?_) (fun hb41 => ?_)
    ·have h := cond_t hb41 h
     refine ht_skip ?_
     refine pt_then ?_
     refine ht_seq ?_
     refine ht_block ?_
     refine ht_seq ?_
     obtain ⟨v18, hv18, h⟩ := bind_some h
     obtain ⟨v19, hv19, h⟩ := bind_some h
     refine ht_seqR hn (El := [_, _, _, _, _, _, _, _, (31, .v (.int .u8 v19)), (10, .v (.int .u8 v19))]) (init := [0, 1, 2, 3, 4, 5, 6, 7]) (fin := [0, 1, 2, 3, 4, 5, 6, 9]) (sps := [⟨[5, 6], [], [8], [(.slot 31)]⟩, ⟨[8], [], [9], [(.slot 10)]⟩]) (es' := [(_, _), (_, _), (_, _), (_, _), (_, _), (_, _), (_, _), (10, .v (.int .u8 v19))]) (by kernel_rfl) rfl rfl
      ⟨st_plain rfl (op_index_arr _ _ _ _ 64 v18 Tryd.underlying57 sz5 rfl (congrArg (fun j => AV.v (Value.int .i64 j)) (ix_ok hv18).1) (ix_ok hv18).2 (map_get1 hv19) ⟨_, Tryd.underlying5, rfl⟩),
      st_plain rfl (op_assign _ _ _ _ rfl rfl),
      trivial⟩ ?_
     refine pt_then ?_
     refine ht_seq ?_
     obtain ⟨v20, hv20, h⟩ := bind_some h
     obtain ⟨v21, hv21, h⟩ := bind_some h
     refine ht_seqR hn (El := (_ :: _ :: _ :: _ :: _ :: _ :: _ :: _ :: (32, .fl (.own 5) 1 (List.map (Value.int .u8) s29)) :: (33, .v (.int .u8 v19)) :: (34, .v (.int .u8 v20)) :: (35, .fl (.own 5) 1 (List.map (Value.int .u8) [v20])) :: (36, .fl (.own 5) 1 (List.map (Value.int .u8) v21)) :: (32, .any) :: (7, .fl (.own 5) 1 (List.map (Value.int .u8) v21)) :: [])) (init := [0, 1, 2, 3, 4, 5, 6, 7]) (fin := [0, 1, 2, 4, 5, 6, 7, 14]) (sps := [⟨[], [3], [8], [(.slot 32)]⟩, ⟨[7], [], [9], [(.slot 33)]⟩, ⟨[9], [], [10], [(.slot 34)]⟩, ⟨[10], [], [11], [(.slot 35)]⟩, ⟨[11], [8], [13, 12], [(.slot 36)]⟩, ⟨[], [12], [14], [(.slot 7)]⟩]) (es' := [(_, _), (_, _), (_, _), (_, _), (_, _), (_, _), (_, _), (7, .fl (.own 5) 1 (List.map (Value.int .u8) v21))]) (by kernel_rfl) rfl rfl
      ⟨st_plain rfl (op_move_take _ _ _ _ rfl),
      st_plain rfl (op_move _ _ _ _ rfl rfl),
      st_plain rfl (op_bin _ _ _ _ _ rfl rfl (ibind (f := Value.int .u8) (Option.some.inj hv20))),
      st_plain rfl (op_buildSlice _ _ 1 (.int .u8 0) (List.map (Value.int .u8) [v20]) [(0, .int .u8 v20)] Tryd.underlying22 sz5 zr5 (fun _ V w o a hv hes => by have e0 := rd_v hv hes (x := .tmp 34) rfl; simp only [List.map_toArray, List.map_cons, List.map_nil, e0]; try rfl) (litfill (by simp [Instr.fill, Value.cells]; rfl) (by simp [List.range, List.range.loop] <;> rfl)) (by simp [Value.oneCell']) rfl (by decide) (by decide) (by decide)),
      st_plain rfl (op_app _ _ _ _ _ el22 rfl rfl (map_len _) (map_len _) hv21 ((List.map_append).symm.trans (congrArg (List.map _) (app_eq hv21)))),
      st_plain rfl (op_assign_take _ _ _ _ rfl),
      trivial⟩ ?_
     refine pt_then ?_
     obtain ⟨v22, hv22, h⟩ := bind_some h
     obtain ⟨v23, hv23, h⟩ := bind_some h
     refine ht_seqR hn (El := (_ :: _ :: _ :: _ :: _ :: _ :: _ :: _ :: (37, .fl (.own 5) 1 (List.map (Value.int .u8) s30)) :: (38, .v (.int .u8 v19)) :: (39, .v (.int .u8 v22)) :: (40, .fl (.own 5) 1 (List.map (Value.int .u8) [v22])) :: (41, .fl (.own 5) 1 (List.map (Value.int .u8) v23)) :: (37, .any) :: (8, .fl (.own 5) 1 (List.map (Value.int .u8) v23)) :: [])) (init := [0, 1, 2, 3, 4, 5, 6, 7]) (fin := [0, 1, 2, 4, 5, 7, 14]) (sps := [⟨[], [3], [8], [(.slot 37)]⟩, ⟨[6], [], [9], [(.slot 38)]⟩, ⟨[9], [], [10], [(.slot 39)]⟩, ⟨[10], [], [11], [(.slot 40)]⟩, ⟨[11], [8], [13, 12], [(.slot 41)]⟩, ⟨[], [12], [14], [(.slot 8)]⟩]) (es' := [(_, _), (_, _), (_, _), (_, _), (_, _), (_, _), (8, .fl (.own 5) 1 (List.map (Value.int .u8) v23))]) (by kernel_rfl) rfl rfl
      ⟨st_plain rfl (op_move_take _ _ _ _ rfl),
      st_plain rfl (op_move _ _ _ _ rfl rfl),
      st_plain rfl (op_bin _ _ _ _ _ rfl rfl (ibind (f := Value.int .u8) (Option.some.inj hv22))),
      st_plain rfl (op_buildSlice _ _ 1 (.int .u8 0) (List.map (Value.int .u8) [v22]) [(0, .int .u8 v22)] Tryd.underlying22 sz5 zr5 (fun _ V w o a hv hes => by have e0 := rd_v hv hes (x := .tmp 39) rfl; simp only [List.map_toArray, List.map_cons, List.map_nil, e0]; try rfl) (litfill (by simp [Instr.fill, Value.cells]; rfl) (by simp [List.range, List.range.loop] <;> rfl)) (by simp [Value.oneCell']) rfl (by decide) (by decide) (by decide)),
      st_plain rfl (op_app _ _ _ _ _ el22 rfl rfl (map_len _) (map_len _) hv23 ((List.map_append).symm.trans (congrArg (List.map _) (app_eq hv23)))),
      st_plain rfl (op_assign_take _ _ _ _ rfl),
      trivial⟩ ?_
     refine pt_inb ?_
     refine pt_then ?_
     obtain ⟨v24, hv24, h⟩ := bind_some h
     refine ht_seqR hn (El := [_, _, _, _, _, _, _, (42, .v (.int .i64 v24)), (29, .v (.int .i64 v24))]) (init := [0, 1, 2, 3, 4, 5, 6]) (fin := [0, 1, 2, 3, 5, 6, 8]) (sps := [⟨[4], [], [7], [(.slot 42)]⟩, ⟨[7], [4], [8], [(.slot 29)]⟩]) (es' := [(_, _), (_, _), (_, _), (_, _), (_, _), (_, _), (29, .v (.int .i64 v24))]) (by kernel_rfl) rfl rfl
      ⟨st_plain rfl (op_bin _ _ _ _ _ rfl rfl (ibind (f := Value.int .i64) (Option.some.inj hv24))),
      st_plain rfl (LOp.drop [_] (op_move _ _ _ _ rfl rfl)),
      trivial⟩ ?_
     refine pt_pick [0, 1, 2, 4, 5, 3, 6] (by kernel_rfl) (es' := [(_, _), (_, _), (_, _), (_, _), (_, _), (_, _), (_, _)]) rfl ?_
     exact pt_next _ (Option.some.inj h).symm rfl
    ·have h := cond_f hb41 h
     refine ht_exit ?_
     refine pt_x_then ?_
     refine pt_x_then ?_
     refine pt_x_in ?_
     refine pt_pick [0, 1, 2, 3, 4] (by kernel_rfl) (es' := [(_, _), (_, _), (_, _), (_, _), (_, _)]) rfl ?_
     exact hl36 _ (ho38 _ (Option.some.inj h).symm).symm
  ·intro u9 h hl10 hr11
   refine ht_seq ?_
   refine ht_seqR hn (El := [_, _, _, _, _, (12, .fl .shr 1 (List.map (Value.int .u8) key)), (13, .v (.int .i64 (key.length : Int))), (14, .v (.bool ((decide (64 < (key.length : Int))))))]) (init := [0, 1, 2, 3, 4]) (fin := [0, 1, 2, 3, 4, 7]) (sps := [⟨[0], [], [5], [(.slot 12)]⟩, ⟨[5], [], [6], [(.slot 13)]⟩, ⟨[6], [], [7], [(.slot 14)]⟩]) (es' := [(_, _), (_, _), (_, _), (_, _), (_, _), (14, .v (.bool ((decide (64 < (key.length : Int))))))]) (by kernel_rfl) rfl rfl
    ⟨st_plain rfl (op_move _ _ _ _ rfl rfl),
    st_plain rfl (op_len_fl _ _ _ Tryd.underlying22 rfl (by decide) (map_len _)),
    st_plain rfl (op_bin _ _ _ _ _ rfl rfl rfl),
    trivial⟩ ?_
   refine pt_then ?_
   refine ht_cond _ rfl (fun hb12 => ?_) (fun hb12 => ?_)
   ·have h := cond_t hb12 h
    refine ht_seq ?_
    obtain ⟨v2, hv2, h⟩ := bind_some h
    obtain ⟨v3, hv3, h⟩ := bind_some h
    obtain ⟨v4, hv4, h⟩ := bind_some h
    refine ht_seqR hn (El := [_, _, _, _, _, _, (15, .fl .shr 1 (List.map (Value.int .u8) key)), (16, .v (.agg (List.map (Value.int .u8) v2).toArray)), (6, .arr 37 (List.map (Value.int .u8) ((List.replicate 16 (0 : Int))))), (6, .arr 37 (List.map (Value.int .u8) v2))]) (init := [0, 1, 2, 3, 4, 5]) (fin := [1, 2, 3, 4, 9]) (sps := [⟨[0], [], [6], [(.slot 15)]⟩, ⟨[6, 2], [], [7], [(.slot 16)]⟩, ⟨[], [], [8], [(.slot 6)]⟩, ⟨[7], [8], [9], []⟩]) (es' := [(_, _), (_, _), (_, _), (_, _), (6, .arr 37 (List.map (Value.int .u8) v2))]) (by kernel_rfl) rfl rfl
     ⟨st_plain rfl (op_move _ _ _ _ rfl rfl),
     st_plain rfl (op_callG _ _ 51 31 _ _ rfl Tryd.call31 rfl rfl (fun _ h => h) (ok_digest_Sum mx key _ hv2) rfl rfl),
     st_plain rfl (op_alloc_arr _ za37),
     st_plain rfl (op_storeA_arr _ _ _ _ (sz37.trans (congrArg some (ln_len hv4))) rfl rfl (ln_ones (fun _ => rfl) _) ((ln_len (f := Value.int .u8) hv3).symm.trans (ln_len (f := Value.int .u8) hv4))),
     trivial⟩ ?_
    refine pt_then ?_
    obtain ⟨v5, hv5, h⟩ := bind_some h
    obtain ⟨v6, hv6, h⟩ := bind_some h
    refine ht_anyR (by kernel_rfl) hn (El := [_, _, _, _, _, (17, .asl 5 64), (18, .fl .ro 1 (List.map (Value.int .u8) v2)), (6, .any), (19, .v (.int .i64 (copyN ((List.replicate 64 (0 : Int))) v2))), (5, .arr 57 (List.map (Value.int .u8) (copyL ((List.replicate 64 (0 : Int))) v2)))]) (init := [0, 1, 2, 3, 4]) (fin := [0, 1, 2, 9]) (sps := [⟨[3], [], [5], [(.slot 17)]⟩, ⟨[], [4], [7, 6], [(.slot 18)]⟩, ⟨[5, 6], [3], [9, 8], [(.slot 19)]⟩]) (es' := [(_, _), (_, _), (_, _), (5, .arr 57 (List.map (Value.int .u8) (copyL ((List.replicate 64 (0 : Int))) v2)))]) (by kernel_rfl) rfl rfl
     ⟨st_plain rfl (op_slice_asl _ _ 5 64 _ Tryd.underlying57 sz5 rfl (by decide)),
     st_plain rfl (op_slice_frz _ _ 6 16 _ Tryd.underlying37 sz5 rfl (ln_len hv5).symm (ln_ones (fun _ => rfl) _)),
     st_plain rfl (op_cp_arr _ _ _ _ _ _ _ _ Tryd.underlying22 sz5 rfl (ln_n hv6) rfl (by decide)),
     trivial⟩ ?_
    exact hl10 _ (Option.some.inj h).symm
   ·have h := cond_f hb12 h
    obtain ⟨v7, hv7, h⟩ := bind_some h
    refine ht_seqR hn (El := [_, _, _, _, _, _, (20, .asl 5 64), (21, .fl .shr 1 (List.map (Value.int .u8) key)), (22, .v (.int .i64 (copyN ((List.replicate 64 (0 : Int))) key))), (5, .arr 57 (List.map (Value.int .u8) (copyL ((List.replicate 64 (0 : Int))) key)))]) (init := [0, 1, 2, 3, 4, 5]) (fin := [1, 2, 3, 9]) (sps := [⟨[4], [], [6], [(.slot 20)]⟩, ⟨[0], [], [7], [(.slot 21)]⟩, ⟨[6, 7], [4], [9, 8], [(.slot 22)]⟩]) (es' := [(_, _), (_, _), (_, _), (5, .arr 57 (List.map (Value.int .u8) (copyL ((List.replicate 64 (0 : Int))) key)))]) (by kernel_rfl) rfl rfl
     ⟨st_plain rfl (op_slice_asl _ _ 5 64 _ Tryd.underlying57 sz5 rfl (by decide)),
     st_plain rfl (op_move _ _ _ _ rfl rfl),
     st_plain rfl (op_cp_arr _ _ _ _ _ _ _ _ Tryd.underlying22 sz5 rfl (ln_n hv7) rfl (by decide)),
     trivial⟩ ?_
    exact hl10 _ (Option.some.inj h).symm

set_option maxHeartbeats 1000000 in
theorem ok_cram_Hex (b : (List Int)) (r : ByteArray) (h : Sh.cram_Hex b = some r) : FnOK Tryd.prog 14 [.fl .shr 1 (List.map (Value.int .u8) b)] (.v (.string r)) := by
  unfold Sh.cram_Hex at h
  refine fn_ok Tryd.func14 rfl (Nat.le_of_ble_eq_true rfl) rfl rfl fun g0 hn hio => ?_
  refine ht_seq ?_
  refine ht_seqR hn (El := [_, (2, .v (.string (⟨#[]⟩ : ByteArray)))]) (init := [0]) (fin := [0]) (sps := [⟨[], [], [1], [(.slot 2)]⟩]) (es' := [(_, _)]) (by kernel_rfl) rfl rfl
   ⟨st_plain rfl (op_assign _ _ _ _ rfl rfl),
   trivial⟩ ?_
  refine pt_then ?_
  refine ht_seq ?_
  refine ht_seqR hn (El := [_, (3, .hid (bldT 48 5 false (List.map (Value.int .u8) ([] : List Int))))]) (init := [0]) (fin := [0, 1]) (sps := [⟨[], [], [1], [(.slot 3)]⟩]) (es' := [(_, _), (3, .hid (bldT 48 5 false (List.map (Value.int .u8) ([] : List Int))))]) (by kernel_rfl) rfl rfl
   ⟨st_plain rfl (LOp.bld0 (op_alloc _ _ zr48)),
   trivial⟩ ?_
  refine pt_then ?_
  refine ht_seq ?_
  refine ht_seq ?_
  refine ht_seqR hn (El := [_, _, (6, .fl .shr 1 (List.map (Value.int .u8) b)), (7, .v (.int .i64 (b.length : Int))), (8, .v (.int .i64 0))]) (init := [0, 1]) (fin := [1, 2, 3, 4]) (sps := [⟨[0], [], [2], [(.slot 6)]⟩, ⟨[2], [], [3], [(.slot 7)]⟩, ⟨[], [], [4], [(.slot 8)]⟩]) (es' := [(_, _), (6, .fl .shr 1 (List.map (Value.int .u8) b)), (7, .v (.int .i64 (b.length : Int))), (8, .v (.int .i64 0))]) (by kernel_rfl) rfl rfl
   ⟨st_plain rfl (op_move _ _ _ _ rfl rfl),
   st_plain rfl (op_len_fl _ _ _ Tryd.underlying22 rfl (by decide) (map_len _)),
   st_plain rfl (op_move _ _ _ _ rfl rfl),
   trivial⟩ ?_
  refine pt_then ?_
  refine ht_loopS h (fun ((s14, s15) : (List Int) × Int) => [(3, .hid (bldT 48 5 false (List.map (Value.int .u8) s14))), (6, .fl .shr 1 (List.map (Value.int .u8) b)), (7, .v (.int .i64 (b.length : Int))), (8, .v (.int .i64 s15))]) (fun (s17 : (List Int)) => [(3, .hid (bldT 48 5 false (List.map (Value.int .u8) s17)))]) ?_ ?_
  ·rintro s17 h
   refine pt_then ?_
   refine ht_seq ?_
   obtain ⟨v25, hv25, h⟩ := bind_some h
   refine ht_seqR hn (El := [_, (21, .v (.string v25)), (2, .v (.string v25))]) (init := [0]) (fin := [2]) (sps := [⟨[], [0], [1], [(.slot 21)]⟩, ⟨[1], [], [2], [(.slot 2)]⟩]) (es' := [(2, .v (.string v25))]) (by kernel_rfl) rfl rfl
    ⟨st_plain rfl (op_callPS _ _ _ _ 21 29 [.tmp 3] [] _ _ _ rfl Tryd.call29 rfl rfl rfl (ok_strings_Builder_String s17 _ hv25) (Nat.le_of_ble_eq_true rfl) rfl rfl rfl rfl rfl rfl rfl),
    st_plain rfl (op_assign _ _ _ _ rfl rfl),
    trivial⟩ ?_
   refine pt_then ?_
   refine ht_ret ?_
   obtain rfl := Option.some.inj h
   exact pt_ret hio rfl (.tmp _ _ .nil) rfl rfl
  ·rintro u18 hl19 hr20 ⟨s14, s15⟩ rr23 h ho21
   refine ht_seq ?_
   refine ht_seqR hn (El := [_, _, _, _, (9, .v (.bool ((decide (s15 < (b.length : Int))))))]) (init := [0, 1, 2, 3]) (fin := [0, 1, 2, 3, 4]) (sps := [⟨[3, 2], [], [4], [(.slot 9)]⟩]) (es' := [(_, _), (_, _), (_, _), (_, _), (9, .v (.bool ((decide (s15 < (b.length : Int))))))]) (by kernel_rfl) rfl rfl
    ⟨st_plain rfl (op_bin _ _ _ _ _ rfl rfl rfl),
    trivial⟩ ?_
   refine pt_then ?_
   refine ht_seq ?_
   refine ht_cond _ rfl (fun hb24 => ?_) (fun hb24 => ?_)
   ·have h := cond_t hb24 h
    refine ht_skip ?_
    refine pt_then ?_
    refine ht_seq ?_
    refine ht_block ?_
    refine ht_seq ?_
    obtain ⟨v2, hv2, h⟩ := bind_some h
    obtain ⟨v3, hv3, h⟩ := bind_some h
    refine ht_seqR hn (El := [_, _, _, _, _, (10, .eref (.slot 6) (v2 * 1)), (11, .v (.int .u8 v3)), (5, .v (.int .u8 v3))]) (init := [0, 1, 2, 3, 4]) (fin := [0, 1, 2, 3, 7]) (sps := [⟨[1, 3], [], [5], [(.slot 10)]⟩, ⟨[5, 1], [], [6], [(.slot 11)]⟩, ⟨[6], [], [7], [(.slot 5)]⟩]) (es' := [(_, _), (_, _), (_, _), (_, _), (5, .v (.int .u8 v3))]) (by kernel_rfl) rfl rfl
     ⟨st_plain rfl (op_ix _ _ _ _ _ _ _ _ Tryd.underlying22 sz5 (by decide) rfl rfl rfl (ix_ok hv2).1 (map_lt (ix_ok hv2).2) rfl),
     st_plain rfl (op_load_e _ _ _ _ _ _ Tryd.underlying5 rfl rfl rfl (map_get hv3)),
     st_plain rfl (op_assign _ _ _ _ rfl rfl),
     trivial⟩ ?_
    refine pt_then ?_
    refine ht_seq ?_
    obtain ⟨v4, hv4, h⟩ := bind_some h
    obtain ⟨v5, hv5, h⟩ := bind_some h
    obtain ⟨v6, hv6, h⟩ := bind_some h
    refine ht_seqR hn (El := [_, _, _, _, _, (12, .v (.int .u8 v3)), (13, .v (.int .u8 v4)), (14, .v (.int .u8 v5)), (15, .v (.nilIface)), (3, .hid (bldT 48 5 false (List.map (Value.int .u8) v6)))]) (init := [0, 1, 2, 3, 4]) (fin := [9, 1, 2, 3, 4]) (sps := [⟨[4], [], [5], [(.slot 12)]⟩, ⟨[5], [], [6], [(.slot 13)]⟩, ⟨[6], [], [7], [(.slot 14)]⟩, ⟨[7], [0], [9, 8], [(.slot 15)]⟩]) (es' := [(3, .hid (bldT 48 5 false (List.map (Value.int .u8) v6))), (_, _), (_, _), (_, _), (_, _)]) (by kernel_rfl) rfl rfl
     ⟨st_plain rfl (op_move _ _ _ _ rfl rfl),
     st_plain rfl (op_bin _ _ _ _ _ rfl rfl (shr_ok hv4)),
     st_plain rfl (op_chr _ _ _ v4 _ Tryd.underlying9 rfl rfl hv5),
     st_plain rfl (op_callPS _ _ _ _ 15 26 [.tmp 3] [.tmp 14] _ _ _ rfl Tryd.call26 rfl rfl rfl (ok_strings_Builder_WriteByte s14 v5 _ hv6) (Nat.le_of_ble_eq_true rfl) rfl rfl rfl rfl rfl rfl rfl),
     trivial⟩ ?_
    refine pt_then ?_
    obtain ⟨v7, hv7, h⟩ := bind_some h
    obtain ⟨v8, hv8, h⟩ := bind_some h
    obtain ⟨v9, hv9, h⟩ := bind_some h
    refine ht_seqR hn (El := [_, _, _, _, _, (16, .v (.int .u8 v3)), (17, .v (.int .u8 v7)), (18, .v (.int .u8 v8)), (19, .v (.nilIface)), (3, .hid (bldT 48 5 false (List.map (Value.int .u8) v9)))]) (init := [0, 1, 2, 3, 4]) (fin := [9, 1, 2, 3]) (sps := [⟨[4], [], [5], [(.slot 16)]⟩, ⟨[5], [], [6], [(.slot 17)]⟩, ⟨[6], [], [7], [(.slot 18)]⟩, ⟨[7], [0], [9, 8], [(.slot 19)]⟩]) (es' := [(3, .hid (bldT 48 5 false (List.map (Value.int .u8) v9))), (_, _), (_, _), (_, _)]) (by kernel_rfl) rfl rfl
     ⟨st_plain rfl (op_move _ _ _ _ rfl rfl),
     st_plain rfl (op_bin _ _ _ _ _ rfl rfl (ibind (f := Value.int .u8) (Option.some.inj hv7))),
     st_plain rfl (op_chr _ _ _ v7 _ Tryd.underlying9 rfl rfl hv8),
     st_plain rfl (op_callPS _ _ _ _ 19 26 [.tmp 3] [.tmp 18] _ _ _ rfl Tryd.call26 rfl rfl rfl (ok_strings_Builder_WriteByte v6 v8 _ hv9) (Nat.le_of_ble_eq_true rfl) rfl rfl rfl rfl rfl rfl rfl),
     trivial⟩ ?_
    refine pt_inb ?_
    refine pt_then ?_
    obtain ⟨v10, hv10, h⟩ := bind_some h
    refine ht_seqR hn (El := [_, _, _, _, (20, .v (.int .i64 v10)), (8, .v (.int .i64 v10))]) (init := [0, 1, 2, 3]) (fin := [0, 1, 2, 5]) (sps := [⟨[3], [], [4], [(.slot 20)]⟩, ⟨[4], [3], [5], [(.slot 8)]⟩]) (es' := [(_, _), (_, _), (_, _), (8, .v (.int .i64 v10))]) (by kernel_rfl) rfl rfl
     ⟨st_plain rfl (op_bin _ _ _ _ _ rfl rfl (ibind (f := Value.int .i64) (Option.some.inj hv10))),
     st_plain rfl (LOp.drop [_] (op_move _ _ _ _ rfl rfl)),
     trivial⟩ ?_
    exact pt_next _ (Option.some.inj h).symm rfl
   ·have h := cond_f hb24 h
    refine ht_exit ?_
    refine pt_x_then ?_
    refine pt_x_then ?_
    refine pt_x_in ?_
    refine pt_pick [0] (by kernel_rfl) (es' := [(_, _)]) rfl ?_
    exact hl19 _ (ho21 _ (Option.some.inj h).symm).symm

set_option maxHeartbeats 1000000 in
theorem ok_cram_Answer (mx : Int) (user : ByteArray) (secret : ByteArray) (challenge : ByteArray) (r : ByteArray) (h : Sh.cram_Answer user secret challenge = some r) : FnG Tryd.prog (GL mx) 17 [.v (.string user), .v (.string secret), .v (.string challenge)] (.v (.string r)) := by
  unfold Sh.cram_Answer at h
  refine fn_okG Tryd.func17 rfl (Nat.le_of_ble_eq_true rfl) rfl rfl fun g0 hn hio => ?_
  refine ht_seq ?_
  refine ht_seqR hn (El := [_, _, _, _, (6, .v (.string (⟨#[]⟩ : ByteArray)))]) (init := [0, 1, 2, 3]) (fin := [0, 1, 2, 3]) (sps := [⟨[], [], [4], [(.slot 6)]⟩]) (es' := [(_, _), (_, _), (_, _), (_, _)]) (by kernel_rfl) rfl rfl
   ⟨st_plain rfl (op_assign _ _ _ _ rfl rfl),
   trivial⟩ ?_
  refine pt_then ?_
  refine ht_seq ?_
  obtain ⟨v1, hv1, h⟩ := bind_some h
  obtain ⟨v2, hv2, h⟩ := bind_some h
  obtain ⟨v3, hv3, h⟩ := bind_some h
  obtain ⟨v4, hv4, h⟩ := bind_some h
  obtain ⟨v5, hv5, h⟩ := bind_some h
  refine ht_seqR hn (El := [_, _, _, _, (8, .v (.string secret)), (9, .fl .ro 1 (List.map (Value.int .u8) v1)), (10, .v (.string challenge)), (11, .fl .ro 1 (List.map (Value.int .u8) v2)), (12, .v (.agg (List.map (Value.int .u8) v3).toArray)), (7, .arr 37 (List.map (Value.int .u8) ((List.replicate 16 (0 : Int))))), (7, .arr 37 (List.map (Value.int .u8) v3))]) (init := [0, 1, 2, 3]) (fin := [0, 3, 10]) (sps := [⟨[1], [], [4], [(.slot 8)]⟩, ⟨[4], [], [5], [(.slot 9)]⟩, ⟨[2], [], [6], [(.slot 10)]⟩, ⟨[6], [], [7], [(.slot 11)]⟩, ⟨[5, 7, 3], [], [8], [(.slot 12)]⟩, ⟨[], [], [9], [(.slot 7)]⟩, ⟨[8], [9], [10], []⟩]) (es' := [(_, _), (_, _), (7, .arr 37 (List.map (Value.int .u8) v3))]) (by kernel_rfl) rfl rfl
   ⟨st_plain rfl (op_move _ _ _ _ rfl rfl),
   st_plain rfl ((Option.some.inj hv1) ▸ op_str_bytes _ _ _ secret Tryd.underlying9 Tryd.underlying22 Tryd.underlying5 rfl),
   st_plain rfl (op_move _ _ _ _ rfl rfl),
   st_plain rfl ((Option.some.inj hv2) ▸ op_str_bytes _ _ _ challenge Tryd.underlying9 Tryd.underlying22 Tryd.underlying5 rfl),
   st_plain rfl (op_callG _ _ 20 20 _ _ rfl Tryd.call20 rfl rfl (fun _ h => h) (ok_digest_Keyed mx v1 v2 _ hv3) rfl rfl),
   st_plain rfl (op_alloc_arr _ za37),
   st_plain rfl (op_storeA_arr _ _ _ _ (sz37.trans (congrArg some (ln_len hv5))) rfl rfl (ln_ones (fun _ => rfl) _) ((ln_len (f := Value.int .u8) hv4).symm.trans (ln_len (f := Value.int .u8) hv5))),
   trivial⟩ ?_
  refine pt_then ?_
  refine ht_seq ?_
  obtain ⟨v6, hv6, h⟩ := bind_some h
  obtain ⟨v7, hv7, h⟩ := bind_some h
  obtain ⟨v8, hv8, h⟩ := bind_some h
  obtain ⟨v9, hv9, h⟩ := bind_some h
  obtain ⟨v10, hv10, h⟩ := bind_some h
  obtain ⟨v11, hv11, h⟩ := bind_some h
  refine ht_seqR hn (El := [_, _, _, (13, .v (.string user)), (14, .v (.string v6)), (15, .fl .ro 1 (List.map (Value.int .u8) v3)), (7, .any), (16, .v (.string v8)), (17, .v (.string v9)), (18, .fl .ro 1 (List.map (Value.int .u8) v10)), (19, .v (.string v11)), (6, .v (.string v11))]) (init := [0, 1, 2]) (fin := [1, 11]) (sps := [⟨[0], [], [3], [(.slot 13)]⟩, ⟨[3], [], [4], [(.slot 14)]⟩, ⟨[], [2], [6, 5], [(.slot 15)]⟩, ⟨[5], [], [7], [(.slot 16)]⟩, ⟨[4, 7], [], [8], [(.slot 17)]⟩, ⟨[8], [], [9], [(.slot 18)]⟩, ⟨[9], [], [10], [(.slot 19)]⟩, ⟨[10], [], [11], [(.slot 6)]⟩]) (es' := [(_, _), (6, .v (.string v11))]) (by kernel_rfl) rfl rfl
   ⟨st_plain rfl (op_move _ _ _ _ rfl rfl),
   st_plain rfl (op_bin _ _ _ _ _ rfl rfl (cat_ok hv6)),
   st_plain rfl (op_slice_frz _ _ 7 16 _ Tryd.underlying37 sz5 rfl (ln_len hv7).symm (ln_ones (fun _ => rfl) _)),
   st_plain rfl (op_call _ _ 14 _ _ rfl Tryd.call14 rfl (ok_cram_Hex v3 _ hv8) rfl rfl),
   st_plain rfl (op_bin _ _ _ _ _ rfl rfl (cat_ok hv9)),
   st_plain rfl ((Option.some.inj hv10) ▸ op_str_bytes _ _ _ v9 Tryd.underlying9 Tryd.underlying22 Tryd.underlying5 rfl),
   st_plain rfl (op_call _ _ 12 _ _ rfl Tryd.call12 rfl (ok_cram_Encode v10 _ hv11) rfl rfl),
   st_plain rfl (op_assign _ _ _ _ rfl rfl),
   trivial⟩ ?_
  refine pt_then ?_
  refine ht_ret ?_
  refine pt_pick [1] (by kernel_rfl) (es' := [(_, _)]) rfl ?_
  obtain rfl := Option.some.inj h
  exact pt_ret hio rfl (.tmp _ _ .nil) rfl rfl

set_option maxHeartbeats 1000000 in
theorem ok_wherrylaw10_wakes (mx : Int) (r : Bool) (h : Sh.wherrylaw10_wakes  = some r) : FnG Tryd.prog (GL mx) 19 [] (.v (.bool r)) := by
  unfold Sh.wherrylaw10_wakes at h
  refine fn_okG Tryd.func19 rfl (Nat.le_of_ble_eq_true rfl) rfl rfl fun g0 hn hio => ?_
  refine ht_seq ?_
  refine ht_seqR hn (El := [_, (0, .v (.bool false))]) (init := [0]) (fin := [0]) (sps := [⟨[], [], [1], [(.slot 0)]⟩]) (es' := [(_, _)]) (by kernel_rfl) rfl rfl
   ⟨st_plain rfl (op_assign _ _ _ _ rfl rfl),
   trivial⟩ ?_
  refine pt_then ?_
  refine ht_seq ?_
  refine ht_joinS h (fun (s4 : Bool) => [(14, .glob (GL mx)), (0, .v (.bool s4))]) ?_ ?_
  ·rintro s4 h
   refine pt_then ?_
   refine ht_ret ?_
   refine pt_pick [1] (by kernel_rfl) (es' := [(_, _)]) rfl ?_
   obtain rfl := Option.some.inj h
   exact pt_ret hio rfl (.tmp _ _ .nil) rfl rfl
  ·intro u5 h hl6 hr7
   obtain ⟨v1, hv1, h⟩ := bind_some h
   refine cond_some h (fun hg1_2 h => ?_) (fun hg1_2 h => ?_)
   ·obtain ⟨v2, hv2, h⟩ := bind_some h
    refine cond_some h (fun hg1_8 h => ?_) (fun hg1_8 h => ?_)
    ·obtain ⟨v3, hv3, h⟩ := bind_some h
     refine ht_seqR hn (El := (_ :: (1, .v (.string v1)) :: (2, .v (.bool ((v1.toList == (⟨#[100, 71, 108, 116, 73, 71, 73, 53, 77, 84, 78, 104, 78, 106, 65, 121, 89, 122, 100, 108, 90, 71, 69, 51, 89, 84, 81, 53, 78, 87, 73, 48, 90, 84, 90, 108, 78, 122, 77, 122, 78, 71, 81, 122, 79, 68, 107, 119]⟩ : ByteArray).toList)))) :: (3, .v (.bool true)) :: (4, .fl (.own 5) 1 (List.map (Value.int .u8) [97])) :: (5, .fl .ro 1 (List.map (Value.int .u8) [97])) :: (6, .v (.string v2)) :: (7, .v (.bool ((v2.toList == (⟨#[89, 81, 61, 61]⟩ : ByteArray).toList)))) :: (8, .v (.bool ((v2.toList == (⟨#[89, 81, 61, 61]⟩ : ByteArray).toList)))) :: (9, .v (.bool true)) :: (10, .fl (.own 5) 1 (List.map (Value.int .u8) [171])) :: (11, .v (.string v3)) :: (12, .v (.bool ((v3.toList == (⟨#[97, 98]⟩ : ByteArray).toList)))) :: (13, .v (.bool ((v3.toList == (⟨#[97, 98]⟩ : ByteArray).toList)))) :: (0, .v (.bool ((v3.toList == (⟨#[97, 98]⟩ : ByteArray).toList)))) :: [])) (init := [0]) (fin := [0, 14]) (sps := [⟨[0], [], [1], [(.slot 1)]⟩, ⟨[1], [], [2], [(.slot 2)]⟩, ⟨[2], [], [3], [(.slot 3)]⟩, ⟨[3], [], [4], [(.slot 4)]⟩, ⟨[3], [4], [5], [(.slot 5)]⟩, ⟨[3, 5], [], [6], [(.slot 6)]⟩, ⟨[3, 6], [], [7], [(.slot 7)]⟩, ⟨[3, 7], [], [8], [(.slot 8)]⟩, ⟨[8], [], [9], [(.slot 9)]⟩, ⟨[9], [], [10], [(.slot 10)]⟩, ⟨[9, 10], [], [11], [(.slot 11)]⟩, ⟨[9, 11], [], [12], [(.slot 12)]⟩, ⟨[9, 12], [], [13], [(.slot 13)]⟩, ⟨[13], [], [14], [(.slot 0)]⟩]) (es' := [(_, _), (0, .v (.bool ((v3.toList == (⟨#[97, 98]⟩ : ByteArray).toList))))]) (by kernel_rfl) rfl rfl
      ⟨st_plain rfl (op_callG _ _ 14 17 _ _ rfl Tryd.call17 rfl rfl (fun _ h => h) (ok_cram_Answer mx (⟨#[116, 105, 109]⟩ : ByteArray) (⟨#[116, 97, 110, 115, 116, 97, 97, 102, 116, 97, 110, 115, 116, 97, 97, 102]⟩ : ByteArray) (⟨#[60, 49, 56, 57, 54, 46, 54, 57, 55, 49, 55, 48, 57, 53, 50, 64, 112, 111, 115, 116, 111, 102, 102, 105, 99, 101, 46, 114, 101, 115, 116, 111, 110, 46, 109, 99, 105, 46, 110, 101, 116, 62]⟩ : ByteArray) _ hv1) rfl rfl),
      st_plain rfl (op_bin _ _ _ _ _ rfl rfl rfl),
      st_plain rfl (op_move _ _ _ _ (congrArg (fun b => AV.v (Value.bool b)) hg1_2) rfl),
      st_run 2 3 true rfl rfl rfl (List.Mem.head _) (op_buildSlice _ _ 1 (.int .u8 0) (List.map (Value.int .u8) [97]) [(0, .int .u8 97)] Tryd.underlying22 sz5 zr5 (fun _ V w o a hv hes => by simp only [List.map_toArray, List.map_cons, List.map_nil]; try rfl) (litfill (by simp [Instr.fill, Value.cells]; rfl) (by simp [List.range, List.range.loop] <;> rfl)) (by simp [Value.oneCell']) rfl (by decide) (by decide) (by decide)),
      st_run 2 3 true rfl rfl rfl (List.Mem.head _) (op_conv_mark _ _ _ Tryd.underlying22 Tryd.underlying5 (by intro h; cases h)),
      st_run 2 3 true rfl rfl rfl (List.Mem.head _) (op_call _ _ 12 _ _ rfl Tryd.call12 rfl (ok_cram_Encode [97] _ hv2) rfl rfl),
      st_run 2 3 true rfl rfl rfl (List.Mem.head _) (op_bin _ _ _ _ _ rfl rfl rfl),
      st_plain rfl (op_pick _ _ true _ rfl rfl),
      st_plain rfl (op_move _ _ _ _ (congrArg (fun b => AV.v (Value.bool b)) hg1_8) rfl),
      st_run 8 9 true rfl rfl rfl (List.Mem.head _) (op_buildSlice _ _ 1 (.int .u8 0) (List.map (Value.int .u8) [171]) [(0, .int .u8 171)] Tryd.underlying22 sz5 zr5 (fun _ V w o a hv hes => by simp only [List.map_toArray, List.map_cons, List.map_nil]; try rfl) (litfill (by simp [Instr.fill, Value.cells]; rfl) (by simp [List.range, List.range.loop] <;> rfl)) (by simp [Value.oneCell']) rfl (by decide) (by decide) (by decide)),
      st_run 8 9 true rfl rfl rfl (List.Mem.head _) (op_call _ _ 14 _ _ rfl Tryd.call14 rfl (ok_cram_Hex [171] _ hv3) rfl rfl),
      st_run 8 9 true rfl rfl rfl (List.Mem.head _) (op_bin _ _ _ _ _ rfl rfl rfl),
      st_plain rfl (op_pick _ _ true _ rfl rfl),
      st_plain rfl (op_assign _ _ _ _ rfl rfl),
      trivial⟩ ?_
     exact hl6 _ (Option.some.inj h).symm
    ·refine ht_seqR hn (El := (_ :: (1, .v (.string v1)) :: (2, .v (.bool ((v1.toList == (⟨#[100, 71, 108, 116, 73, 71, 73, 53, 77, 84, 78, 104, 78, 106, 65, 121, 89, 122, 100, 108, 90, 71, 69, 51, 89, 84, 81, 53, 78, 87, 73, 48, 90, 84, 90, 108, 78, 122, 77, 122, 78, 71, 81, 122, 79, 68, 107, 119]⟩ : ByteArray).toList)))) :: (3, .v (.bool true)) :: (4, .fl (.own 5) 1 (List.map (Value.int .u8) [97])) :: (5, .fl .ro 1 (List.map (Value.int .u8) [97])) :: (6, .v (.string v2)) :: (7, .v (.bool ((v2.toList == (⟨#[89, 81, 61, 61]⟩ : ByteArray).toList)))) :: (8, .v (.bool ((v2.toList == (⟨#[89, 81, 61, 61]⟩ : ByteArray).toList)))) :: (9, .v (.bool false)) :: (10, .v undef) :: (11, .v undef) :: (12, .v undef) :: (13, .v (.bool false)) :: (0, .v (.bool false)) :: [])) (init := [0]) (fin := [0, 14]) (sps := [⟨[0], [], [1], [(.slot 1)]⟩, ⟨[1], [], [2], [(.slot 2)]⟩, ⟨[2], [], [3], [(.slot 3)]⟩, ⟨[3], [], [4], [(.slot 4)]⟩, ⟨[3], [4], [5], [(.slot 5)]⟩, ⟨[3, 5], [], [6], [(.slot 6)]⟩, ⟨[3, 6], [], [7], [(.slot 7)]⟩, ⟨[3, 7], [], [8], [(.slot 8)]⟩, ⟨[8], [], [9], [(.slot 9)]⟩, ⟨[9], [], [10], [(.slot 10)]⟩, ⟨[9], [], [11], [(.slot 11)]⟩, ⟨[9], [], [12], [(.slot 12)]⟩, ⟨[9], [], [13], [(.slot 13)]⟩, ⟨[13], [], [14], [(.slot 0)]⟩]) (es' := [(_, _), (0, .v (.bool false))]) (by kernel_rfl) rfl rfl
      ⟨st_plain rfl (op_callG _ _ 14 17 _ _ rfl Tryd.call17 rfl rfl (fun _ h => h) (ok_cram_Answer mx (⟨#[116, 105, 109]⟩ : ByteArray) (⟨#[116, 97, 110, 115, 116, 97, 97, 102, 116, 97, 110, 115, 116, 97, 97, 102]⟩ : ByteArray) (⟨#[60, 49, 56, 57, 54, 46, 54, 57, 55, 49, 55, 48, 57, 53, 50, 64, 112, 111, 115, 116, 111, 102, 102, 105, 99, 101, 46, 114, 101, 115, 116, 111, 110, 46, 109, 99, 105, 46, 110, 101, 116, 62]⟩ : ByteArray) _ hv1) rfl rfl),
      st_plain rfl (op_bin _ _ _ _ _ rfl rfl rfl),
      st_plain rfl (op_move _ _ _ _ (congrArg (fun b => AV.v (Value.bool b)) hg1_2) rfl),
      st_run 2 3 true rfl rfl rfl (List.Mem.head _) (op_buildSlice _ _ 1 (.int .u8 0) (List.map (Value.int .u8) [97]) [(0, .int .u8 97)] Tryd.underlying22 sz5 zr5 (fun _ V w o a hv hes => by simp only [List.map_toArray, List.map_cons, List.map_nil]; try rfl) (litfill (by simp [Instr.fill, Value.cells]; rfl) (by simp [List.range, List.range.loop] <;> rfl)) (by simp [Value.oneCell']) rfl (by decide) (by decide) (by decide)),
      st_run 2 3 true rfl rfl rfl (List.Mem.head _) (op_conv_mark _ _ _ Tryd.underlying22 Tryd.underlying5 (by intro h; cases h)),
      st_run 2 3 true rfl rfl rfl (List.Mem.head _) (op_call _ _ 12 _ _ rfl Tryd.call12 rfl (ok_cram_Encode [97] _ hv2) rfl rfl),
      st_run 2 3 true rfl rfl rfl (List.Mem.head _) (op_bin _ _ _ _ _ rfl rfl rfl),
      st_plain rfl (op_pick _ _ true _ rfl rfl),
      st_plain rfl (op_move _ _ _ _ (congrArg (fun b => AV.v (Value.bool b)) hg1_8) rfl),
      st_skip 8 9 _ true rfl rfl rfl rfl (List.Mem.head _),
      st_skip 8 9 _ true rfl rfl rfl rfl (List.Mem.head _),
      st_skip 8 9 _ true rfl rfl rfl rfl (List.Mem.head _),
      st_plain rfl (op_pick _ _ false _ rfl rfl),
      st_plain rfl (op_assign _ _ _ _ rfl rfl),
      trivial⟩ ?_
     exact hl6 _ (Option.some.inj h).symm
   ·refine ht_seqR hn (El := (_ :: (1, .v (.string v1)) :: (2, .v (.bool ((v1.toList == (⟨#[100, 71, 108, 116, 73, 71, 73, 53, 77, 84, 78, 104, 78, 106, 65, 121, 89, 122, 100, 108, 90, 71, 69, 51, 89, 84, 81, 53, 78, 87, 73, 48, 90, 84, 90, 108, 78, 122, 77, 122, 78, 71, 81, 122, 79, 68, 107, 119]⟩ : ByteArray).toList)))) :: (3, .v (.bool false)) :: (4, .v undef) :: (5, .v undef) :: (6, .v undef) :: (7, .v undef) :: (8, .v (.bool false)) :: (9, .v (.bool false)) :: (10, .v undef) :: (11, .v undef) :: (12, .v undef) :: (13, .v (.bool false)) :: (0, .v (.bool false)) :: [])) (init := [0]) (fin := [0, 14]) (sps := [⟨[0], [], [1], [(.slot 1)]⟩, ⟨[1], [], [2], [(.slot 2)]⟩, ⟨[2], [], [3], [(.slot 3)]⟩, ⟨[3], [], [4], [(.slot 4)]⟩, ⟨[3], [], [5], [(.slot 5)]⟩, ⟨[3], [], [6], [(.slot 6)]⟩, ⟨[3], [], [7], [(.slot 7)]⟩, ⟨[3], [], [8], [(.slot 8)]⟩, ⟨[8], [], [9], [(.slot 9)]⟩, ⟨[9], [], [10], [(.slot 10)]⟩, ⟨[9], [], [11], [(.slot 11)]⟩, ⟨[9], [], [12], [(.slot 12)]⟩, ⟨[9], [], [13], [(.slot 13)]⟩, ⟨[13], [], [14], [(.slot 0)]⟩]) (es' := [(_, _), (0, .v (.bool false))]) (by kernel_rfl) rfl rfl
     ⟨st_plain rfl (op_callG _ _ 14 17 _ _ rfl Tryd.call17 rfl rfl (fun _ h => h) (ok_cram_Answer mx (⟨#[116, 105, 109]⟩ : ByteArray) (⟨#[116, 97, 110, 115, 116, 97, 97, 102, 116, 97, 110, 115, 116, 97, 97, 102]⟩ : ByteArray) (⟨#[60, 49, 56, 57, 54, 46, 54, 57, 55, 49, 55, 48, 57, 53, 50, 64, 112, 111, 115, 116, 111, 102, 102, 105, 99, 101, 46, 114, 101, 115, 116, 111, 110, 46, 109, 99, 105, 46, 110, 101, 116, 62]⟩ : ByteArray) _ hv1) rfl rfl),
     st_plain rfl (op_bin _ _ _ _ _ rfl rfl rfl),
     st_plain rfl (op_move _ _ _ _ (congrArg (fun b => AV.v (Value.bool b)) hg1_2) rfl),
     st_skip 2 3 _ true rfl rfl rfl rfl (List.Mem.head _),
     st_skip 2 3 _ true rfl rfl rfl rfl (List.Mem.head _),
     st_skip 2 3 _ true rfl rfl rfl rfl (List.Mem.head _),
     st_skip 2 3 _ true rfl rfl rfl rfl (List.Mem.head _),
     st_plain rfl (op_pick _ _ false _ rfl rfl),
     st_plain rfl (op_move _ _ _ _ rfl rfl),
     st_skip 8 9 _ true rfl rfl rfl rfl (List.Mem.head _),
     st_skip 8 9 _ true rfl rfl rfl rfl (List.Mem.head _),
     st_skip 8 9 _ true rfl rfl rfl rfl (List.Mem.head _),
     st_plain rfl (op_pick _ _ false _ rfl rfl),
     st_plain rfl (op_assign _ _ _ _ rfl rfl),
     trivial⟩ ?_
    exact hl6 _ (Option.some.inj h).symm

set_option maxHeartbeats 1000000 in
theorem ok_wherrylaw10_digit (c : Int) (r : Int) (h : Sh.wherrylaw10_digit c = some r) : FnOK Tryd.prog 21 [.v (.int .u8 c)] (.v (.int .i64 r)) := by
  unfold Sh.wherrylaw10_digit at h
  refine fn_ok Tryd.func21 rfl (Nat.le_of_ble_eq_true rfl) rfl rfl fun g0 hn hio => ?_
  refine ht_seq ?_
  refine ht_seqR hn (El := [_, (2, .v (.int .i64 0))]) (init := [0]) (fin := [0]) (sps := [⟨[], [], [1], [(.slot 2)]⟩]) (es' := [(_, _)]) (by kernel_rfl) rfl rfl
   ⟨st_plain rfl (op_assign _ _ _ _ rfl rfl),
   trivial⟩ ?_
  refine pt_then ?_
  refine ht_seq ?_
  refine ht_block ?_
  refine ht_seq ?_
  refine ht_joinS h (fun (s1 : Bool) => [(0, .v (.int .u8 c)), (3, .v (.bool s1))]) ?_ ?_
  ·rintro s1 h
   refine pt_then ?_
   refine ht_cond _ rfl (fun hb5 => ?_) (fun hb5 => ?_)
   ·have h := cond_t hb5 h
    refine ht_seq ?_
    obtain ⟨v6, hv6, h⟩ := bind_some h
    obtain ⟨v7, hv7, h⟩ := bind_some h
    refine ht_seqR hn (El := [_, _, (10, .v (.int .u8 c)), (11, .v (.int .u8 v6)), (12, .v (.int .i64 v7)), (2, .v (.int .i64 v7))]) (init := [0, 1]) (fin := [5]) (sps := [⟨[0], [], [2], [(.slot 10)]⟩, ⟨[2], [], [3], [(.slot 11)]⟩, ⟨[3], [], [4], [(.slot 12)]⟩, ⟨[4], [], [5], [(.slot 2)]⟩]) (es' := [(2, .v (.int .i64 v7))]) (by kernel_rfl) rfl rfl
     ⟨st_plain rfl (op_move _ _ _ _ rfl rfl),
     st_plain rfl (op_bin _ _ _ _ _ rfl rfl (ibind (f := Value.int .u8) (Option.some.inj hv6))),
     st_plain rfl ((Option.some.inj hv7) ▸ op_conv _ _ _ Tryd.underlying5 Tryd.underlying3 rfl),
     st_plain rfl (op_assign _ _ _ _ rfl rfl),
     trivial⟩ ?_
    refine pt_then ?_
    refine ht_ret ?_
    refine pt_r_in ?_
    refine pt_r_then ?_
    obtain rfl := Option.some.inj h
    exact pt_ret hio rfl (.tmp _ _ .nil) rfl rfl
   ·have h := cond_f hb5 h
    refine ht_seq ?_
    refine ht_joinS h (fun (s8 : Bool) => [(0, .v (.int .u8 c)), (13, .v (.bool s8))]) ?_ ?_
    ·rintro s8 h
     refine pt_then ?_
     refine ht_cond _ rfl (fun hb12 => ?_) (fun hb12 => ?_)
     ·have h := cond_t hb12 h
      refine ht_seq ?_
      obtain ⟨v13, hv13, h⟩ := bind_some h
      obtain ⟨v14, hv14, h⟩ := bind_some h
      obtain ⟨v15, hv15, h⟩ := bind_some h
      refine ht_seqR hn (El := [_, _, (20, .v (.int .u8 c)), (21, .v (.int .u8 v13)), (22, .v (.int .i64 v14)), (23, .v (.int .i64 v15)), (2, .v (.int .i64 v15))]) (init := [0, 1]) (fin := [6]) (sps := [⟨[0], [], [2], [(.slot 20)]⟩, ⟨[2], [], [3], [(.slot 21)]⟩, ⟨[3], [], [4], [(.slot 22)]⟩, ⟨[4], [], [5], [(.slot 23)]⟩, ⟨[5], [], [6], [(.slot 2)]⟩]) (es' := [(2, .v (.int .i64 v15))]) (by kernel_rfl) rfl rfl
       ⟨st_plain rfl (op_move _ _ _ _ rfl rfl),
       st_plain rfl (op_bin _ _ _ _ _ rfl rfl (ibind (f := Value.int .u8) (Option.some.inj hv13))),
       st_plain rfl ((Option.some.inj hv14) ▸ op_conv _ _ _ Tryd.underlying5 Tryd.underlying3 rfl),
       st_plain rfl (op_bin _ _ _ _ _ rfl rfl (ibind (f := Value.int .i64) (Option.some.inj hv15))),
       st_plain rfl (op_assign _ _ _ _ rfl rfl),
       trivial⟩ ?_
      refine pt_then ?_
      refine ht_ret ?_
      refine pt_r_in ?_
      refine pt_r_then ?_
      obtain rfl := Option.some.inj h
      exact pt_ret hio rfl (.tmp _ _ .nil) rfl rfl
     ·have h := cond_f hb12 h
      refine ht_skip ?_
      refine pt_inb ?_
      refine pt_then ?_
      refine ht_seq ?_
      refine ht_seqR hn (El := [_, _, (2, .v (.int .i64 (-100)))]) (init := [0, 1]) (fin := [2]) (sps := [⟨[], [], [2], [(.slot 2)]⟩]) (es' := [(2, .v (.int .i64 (-100)))]) (by kernel_rfl) rfl rfl
       ⟨st_plain rfl (op_assign _ _ _ _ rfl rfl),
       trivial⟩ ?_
      refine pt_then ?_
      refine ht_ret ?_
      obtain rfl := Option.some.inj h
      exact pt_ret hio rfl (.tmp _ _ .nil) rfl rfl
    ·intro u9 h hl10 hr11
     refine cond_some h (fun hg3_2 h => ?_) (fun hg3_2 h => ?_)
     ·refine ht_seqR hn (El := [_, _, (14, .v (.int .u8 c)), (15, .v (.bool ((decide (97 ≤ c))))), (16, .v (.bool true)), (17, .v (.int .u8 c)), (18, .v (.bool ((decide (c ≤ 102))))), (19, .v (.bool ((decide (c ≤ 102))))), (13, .v (.bool ((decide (c ≤ 102)))))]) (init := [0, 1]) (fin := [0, 8]) (sps := [⟨[0], [], [2], [(.slot 14)]⟩, ⟨[2], [], [3], [(.slot 15)]⟩, ⟨[3], [], [4], [(.slot 16)]⟩, ⟨[4, 0], [], [5], [(.slot 17)]⟩, ⟨[4, 5], [], [6], [(.slot 18)]⟩, ⟨[4, 6], [], [7], [(.slot 19)]⟩, ⟨[7], [], [8], [(.slot 13)]⟩]) (es' := [(_, _), (13, .v (.bool ((decide (c ≤ 102)))))]) (by kernel_rfl) rfl rfl
       ⟨st_plain rfl (op_move _ _ _ _ rfl rfl),
       st_plain rfl (op_bin _ _ _ _ _ rfl rfl rfl),
       st_plain rfl (op_move _ _ _ _ (congrArg (fun b => AV.v (Value.bool b)) hg3_2) rfl),
       st_run 2 16 true rfl rfl rfl (List.Mem.head _) (op_move _ _ _ _ rfl rfl),
       st_run 2 16 true rfl rfl rfl (List.Mem.head _) (op_bin _ _ _ _ _ rfl rfl rfl),
       st_plain rfl (op_pick _ _ true _ rfl rfl),
       st_plain rfl (op_assign _ _ _ _ rfl rfl),
       trivial⟩ ?_
      exact hl10 _ (Option.some.inj h).symm
     ·refine ht_seqR hn (El := [_, _, (14, .v (.int .u8 c)), (15, .v (.bool ((decide (97 ≤ c))))), (16, .v (.bool false)), (17, .v undef), (18, .v undef), (19, .v (.bool false)), (13, .v (.bool false))]) (init := [0, 1]) (fin := [0, 8]) (sps := [⟨[0], [], [2], [(.slot 14)]⟩, ⟨[2], [], [3], [(.slot 15)]⟩, ⟨[3], [], [4], [(.slot 16)]⟩, ⟨[4], [], [5], [(.slot 17)]⟩, ⟨[4], [], [6], [(.slot 18)]⟩, ⟨[4], [], [7], [(.slot 19)]⟩, ⟨[7], [], [8], [(.slot 13)]⟩]) (es' := [(_, _), (13, .v (.bool false))]) (by kernel_rfl) rfl rfl
       ⟨st_plain rfl (op_move _ _ _ _ rfl rfl),
       st_plain rfl (op_bin _ _ _ _ _ rfl rfl rfl),
       st_plain rfl (op_move _ _ _ _ (congrArg (fun b => AV.v (Value.bool b)) hg3_2) rfl),
       st_skip 2 16 _ true rfl rfl rfl rfl (List.Mem.head _),
       st_skip 2 16 _ true rfl rfl rfl rfl (List.Mem.head _),
       st_plain rfl (op_pick _ _ false _ rfl rfl),
       st_plain rfl (op_assign _ _ _ _ rfl rfl),
       trivial⟩ ?_
      exact hl10 _ (Option.some.inj h).symm
  ·intro u2 h hl3 hr4
   refine cond_some h (fun hg1_2 h => ?_) (fun hg1_2 h => ?_)
   ·refine ht_seqR hn (El := [_, (4, .v (.int .u8 c)), (5, .v (.bool ((decide (48 ≤ c))))), (6, .v (.bool true)), (7, .v (.int .u8 c)), (8, .v (.bool ((decide (c ≤ 57))))), (9, .v (.bool ((decide (c ≤ 57))))), (3, .v (.bool ((decide (c ≤ 57)))))]) (init := [0]) (fin := [0, 7]) (sps := [⟨[0], [], [1], [(.slot 4)]⟩, ⟨[1], [], [2], [(.slot 5)]⟩, ⟨[2], [], [3], [(.slot 6)]⟩, ⟨[3, 0], [], [4], [(.slot 7)]⟩, ⟨[3, 4], [], [5], [(.slot 8)]⟩, ⟨[3, 5], [], [6], [(.slot 9)]⟩, ⟨[6], [], [7], [(.slot 3)]⟩]) (es' := [(_, _), (3, .v (.bool ((decide (c ≤ 57)))))]) (by kernel_rfl) rfl rfl
     ⟨st_plain rfl (op_move _ _ _ _ rfl rfl),
     st_plain rfl (op_bin _ _ _ _ _ rfl rfl rfl),
     st_plain rfl (op_move _ _ _ _ (congrArg (fun b => AV.v (Value.bool b)) hg1_2) rfl),
     st_run 2 6 true rfl rfl rfl (List.Mem.head _) (op_move _ _ _ _ rfl rfl),
     st_run 2 6 true rfl rfl rfl (List.Mem.head _) (op_bin _ _ _ _ _ rfl rfl rfl),
     st_plain rfl (op_pick _ _ true _ rfl rfl),
     st_plain rfl (op_assign _ _ _ _ rfl rfl),
     trivial⟩ ?_
    exact hl3 _ (Option.some.inj h).symm
   ·refine ht_seqR hn (El := [_, (4, .v (.int .u8 c)), (5, .v (.bool ((decide (48 ≤ c))))), (6, .v (.bool false)), (7, .v undef), (8, .v undef), (9, .v (.bool false)), (3, .v (.bool false))]) (init := [0]) (fin := [0, 7]) (sps := [⟨[0], [], [1], [(.slot 4)]⟩, ⟨[1], [], [2], [(.slot 5)]⟩, ⟨[2], [], [3], [(.slot 6)]⟩, ⟨[3], [], [4], [(.slot 7)]⟩, ⟨[3], [], [5], [(.slot 8)]⟩, ⟨[3], [], [6], [(.slot 9)]⟩, ⟨[6], [], [7], [(.slot 3)]⟩]) (es' := [(_, _), (3, .v (.bool false))]) (by kernel_rfl) rfl rfl
     ⟨st_plain rfl (op_move _ _ _ _ rfl rfl),
     st_plain rfl (op_bin _ _ _ _ _ rfl rfl rfl),
     st_plain rfl (op_move _ _ _ _ (congrArg (fun b => AV.v (Value.bool b)) hg1_2) rfl),
     st_skip 2 6 _ true rfl rfl rfl rfl (List.Mem.head _),
     st_skip 2 6 _ true rfl rfl rfl rfl (List.Mem.head _),
     st_plain rfl (op_pick _ _ false _ rfl rfl),
     st_plain rfl (op_assign _ _ _ _ rfl rfl),
     trivial⟩ ?_
    exact hl3 _ (Option.some.inj h).symm

end Go.Proofs.YtadkeipbkbkneaaDoor
