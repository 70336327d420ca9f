/-
  The model's runs are what is told in Lean.
-/
import Derived.Test.YtenfngliiibiiaaProg
import Derived.KernelRfl
import Derived.Test.YtenfngliiibiiaaOk2
set_option linter.unusedVariables false
namespace Go.Proofs.Ytenfngliiibiiaa
open Go.Abs Go.Abs.Sh

set_option maxHeartbeats 1000000 in
theorem ok_wherrylaw20_FrameFields (f : T_Frame) (r : Bool) (h : Sh.wherrylaw20_FrameFields f = some r) : FnOK Try.prog 7 [.agg [.v (.int .i64 f.Kind), .v (.int .i64 f.Number), .v (.int .i64 f.Offset), .v (.int .i64 f.Seq), .fl .shr 1 (List.map (Value.int .u8) f.Data)]] (.v (.bool r)) := by
  unfold Sh.wherrylaw20_FrameFields at h
  refine fn_ok Try.func7 rfl (Nat.le_of_ble_eq_true rfl) rfl rfl fun g0 hn hio => ?_
  refine ht_seq ?_
  refine ht_seqR hn (El := [_, (1, .box 24 [.v (.int .i64 f.Kind), .v (.int .i64 f.Number), .v (.int .i64 f.Offset), .v (.int .i64 f.Seq), .fl .shr 1 (List.map (Value.int .u8) f.Data)]), (2, .v (.bool false))]) (init := [0]) (fin := [1]) (sps := [⟨[0], [], [1], [(.slot 1)]⟩, ⟨[], [], [2], [(.slot 2)]⟩]) (es' := [(1, .box 24 [.v (.int .i64 f.Kind), .v (.int .i64 f.Number), .v (.int .i64 f.Offset), .v (.int .i64 f.Seq), .fl .shr 1 (List.map (Value.int .u8) f.Data)])]) (by kernel_rfl) rfl rfl
    ⟨st_plain rfl (op_box _ _ _ _ rfl rfl rfl),
      st_plain rfl (op_assign _ _ _ _ rfl rfl),
      trivial⟩ ?_
  refine pt_then ?_
  refine ht_seq ?_
  refine ht_seq ?_
  refine ht_joinS h (fun (s40 : Bool) => [(1, .box 24 [.v (.int .i64 f.Kind), .v (.int .i64 f.Number), .v (.int .i64 f.Offset), .v (.int .i64 f.Seq), .fl .shr 1 (List.map (Value.int .u8) f.Data)]), (13, .v (.bool s40))]) ?_ ?_
  · rintro s40 h
    refine pt_then ?_
    refine ht_cond _ rfl (fun hb44 => ?_) (fun hb44 => ?_)
    · have h := cond_t hb44 h
      refine ht_seq ?_
      refine ht_seqR hn (El := [_, _, (2, .v (.bool true))]) (init := [0, 1]) (fin := [2]) (sps := [⟨[], [], [2], [(.slot 2)]⟩]) (es' := [(2, .v (.bool true))]) (by kernel_rfl) rfl rfl
        ⟨st_plain rfl (op_assign _ _ _ _ rfl rfl),
          trivial⟩ ?_
      refine pt_then ?_
      refine ht_ret ?_
      refine pt_r_then ?_
      obtain rfl := Option.some.inj h
      exact pt_ret hio rfl (.tmp _ _ .nil) rfl rfl
    · have h := cond_f hb44 h
      refine ht_skip ?_
      refine pt_then ?_
      refine ht_seq ?_
      obtain ⟨v7, hv7, h⟩ := bind_some h
      refine ht_seqR hn (El := [_, _, (15, .agg [.v (.int .i64 f.Kind), .v (.int .i64 f.Number), .v (.int .i64 f.Offset), .v (.int .i64 f.Seq), .fl .shr 1 (List.map (Value.int .u8) f.Data)]), (16, .tup [.fl (.own 5) 1 (List.map (Value.int .u8) v7.1), .v (.int .i64 v7.2)]), (14, .tup [.fl (.own 5) 1 (List.map (Value.int .u8) v7.1), .v (.int .i64 v7.2)]), (17, .fl (.own 5) 1 (List.map (Value.int .u8) v7.1)), (14, .tup [.any, .v (.int .i64 v7.2)]), (18, .v (.int .i64 v7.2)), (3, .fl (.own 5) 1 (List.map (Value.int .u8) v7.1)), (4, .v (.int .i64 v7.2))]) (init := [0, 1]) (fin := [0, 8, 9]) (sps := [⟨[0], [], [2], [(.slot 15)]⟩, ⟨[2], [], [3], [(.slot 16)]⟩, ⟨[], [3], [4], [(.slot 14)]⟩, ⟨[], [4], [6, 5], [(.slot 17)]⟩, ⟨[6], [], [7], [(.slot 18)]⟩, ⟨[], [5], [8], [(.slot 3)]⟩, ⟨[7], [], [9], [(.slot 4)]⟩]) (es' := [(_, _), (3, .fl (.own 5) 1 (List.map (Value.int .u8) v7.1)), (4, .v (.int .i64 v7.2))]) (by kernel_rfl) rfl rfl
        ⟨st_plain rfl (op_loadA _ _ _ _ _ _ _ Try.underlying24 rfl sz24 rfl rfl (Nat.le_of_ble_eq_true rfl) rfl rfl),
          st_plain rfl (op_call _ _ 12 _ _ rfl Try.call12 rfl (ok_frame_Bytes f _ hv7) rfl rfl),
          st_plain rfl (op_move_take _ _ _ _ rfl),
          st_plain rfl (op_extract_take _ _ _ _ _ rfl (Nat.le_of_ble_eq_true rfl) rfl rfl (by decide) rfl),
          st_plain rfl (op_extract _ _ _ _ _ rfl rfl (Nat.le_of_ble_eq_true rfl) rfl rfl),
          st_plain rfl (op_assign_take _ _ _ _ rfl),
          st_plain rfl (op_assign _ _ _ _ rfl rfl),
          trivial⟩ ?_
      refine pt_frz 1 hio (es' := [(1, .box 24 [.v (.int .i64 f.Kind), .v (.int .i64 f.Number), .v (.int .i64 f.Offset), .v (.int .i64 f.Seq), .fl .shr 1 (List.map (Value.int .u8) f.Data)]), (3, .fl .ro 1 (List.map (Value.int .u8) v7.1)), (4, .v (.int .i64 v7.2))]) rfl ?_
      refine pt_then ?_
      refine ht_seq ?_
      refine ht_seq ?_
      refine ht_joinS h (fun (s45 : Bool) => [(1, .box 24 [.v (.int .i64 f.Kind), .v (.int .i64 f.Number), .v (.int .i64 f.Offset), .v (.int .i64 f.Seq), .fl .shr 1 (List.map (Value.int .u8) f.Data)]), (3, .fl .ro 1 (List.map (Value.int .u8) v7.1)), (29, .v (.bool s45))]) ?_ ?_
      · rintro s45 h
        refine pt_then ?_
        refine ht_cond _ rfl (fun hb49 => ?_) (fun hb49 => ?_)
        · have h := cond_t hb49 h
          refine ht_seq ?_
          refine ht_seqR hn (El := [_, _, _, (2, .v (.bool false))]) (init := [0, 1, 2]) (fin := [3]) (sps := [⟨[], [], [3], [(.slot 2)]⟩]) (es' := [(2, .v (.bool false))]) (by kernel_rfl) rfl rfl
            ⟨st_plain rfl (op_assign _ _ _ _ rfl rfl),
              trivial⟩ ?_
          refine pt_then ?_
          refine ht_ret ?_
          refine pt_r_then ?_
          obtain rfl := Option.some.inj h
          exact pt_ret hio rfl (.tmp _ _ .nil) rfl rfl
        · have h := cond_f hb49 h
          refine ht_skip ?_
          refine pt_then ?_
          refine ht_seq ?_
          refine ht_joinS h (fun (s53 : Bool) => [(2, .v (.bool s53))]) ?_ ?_
          · rintro s53 h
            refine pt_then ?_
            refine ht_ret ?_
            obtain rfl := Option.some.inj h
            exact pt_ret hio rfl (.tmp _ _ .nil) rfl rfl
          · intro u54 h hl55 hr56
            obtain ⟨v14, hv14, h⟩ := bind_some h
            obtain ⟨v15, hv15, h⟩ := bind_some h
            obtain ⟨v16, hv16, h⟩ := bind_some h
            refine cond_some h (fun hg6_7 h => ?_) (fun hg6_7 h => ?_)
            · obtain ⟨v17, hv17, h⟩ := bind_some h
              obtain ⟨v18, hv18, h⟩ := bind_some h
              obtain ⟨v19, hv19, h⟩ := bind_some h
              obtain ⟨v20, hv20, h⟩ := bind_some h
              obtain ⟨v21, hv21, h⟩ := bind_some h
              obtain ⟨v22, hv22, h⟩ := bind_some h
              obtain ⟨v23, hv23, h⟩ := bind_some h
              obtain ⟨v24, hv24, h⟩ := bind_some h
              refine cond_some h (fun hg6_22 h => ?_) (fun hg6_22 h => ?_)
              · obtain ⟨v25, hv25, h⟩ := bind_some h
                obtain ⟨v26, hv26, h⟩ := bind_some h
                obtain ⟨v27, hv27, h⟩ := bind_some h
                obtain ⟨v28, hv28, h⟩ := bind_some h
                obtain ⟨v29, hv29, h⟩ := bind_some h
                obtain ⟨v30, hv30, h⟩ := bind_some h
                obtain ⟨v31, hv31, h⟩ := bind_some h
                obtain ⟨v32, hv32, h⟩ := bind_some h
                refine cond_some h (fun hg6_37 h => ?_) (fun hg6_37 h => ?_)
                · obtain ⟨v33, hv33, h⟩ := bind_some h
                  obtain ⟨v34, hv34, h⟩ := bind_some h
                  obtain ⟨v35, hv35, h⟩ := bind_some h
                  refine cond_some h (fun hg6_46 h => ?_) (fun hg6_46 h => ?_)
                  · obtain ⟨v36, hv36, h⟩ := bind_some h
                    obtain ⟨v37, hv37, h⟩ := bind_some h
                    obtain ⟨v38, hv38, h⟩ := bind_some h
                    refine cond_some h (fun hg6_56 h => ?_) (fun hg6_56 h => ?_)
                    · obtain ⟨v39, hv39, h⟩ := bind_some h
                      obtain ⟨v50, hv50, h⟩ := bind_some h
                      obtain ⟨v51, hv51, h⟩ := bind_some h
                      refine cond_some h (fun hg6_67 h => ?_) (fun hg6_67 h => ?_)
                      · obtain ⟨v52, hv52, h⟩ := bind_some h
                        refine ht_anyR (by kernel_rfl) hn (El := (_ :: _ :: _ :: (30, .fl .ro 1 (List.map (Value.int .u8) v7.1)) :: (31, .eref (.slot 30) (v14 * 1)) :: (32, .v (.int .u8 v15)) :: (33, .v (.int .i64 v16)) :: (34, .ptr 1 0) :: (35, .v (.int .i64 f.Kind)) :: (36, .v (.bool (v16 == f.Kind))) :: (37, .v (.bool true)) :: (38, .fl .ro 1 (List.map (Value.int .u8) v7.1)) :: (39, .eref (.slot 38) (v17 * 1)) :: (40, .v (.int .u8 v18)) :: (41, .v (.int .i64 v19)) :: (42, .v (.int .i64 v20)) :: (43, .fl .ro 1 (List.map (Value.int .u8) v7.1)) :: (44, .eref (.slot 43) (v21 * 1)) :: (45, .v (.int .u8 v22)) :: (46, .v (.int .i64 v23)) :: (47, .v (.int .i64 v24)) :: (48, .ptr 1 1) :: (49, .v (.int .i64 f.Number)) :: (50, .v (.bool (v24 == f.Number))) :: (51, .v (.bool (v24 == f.Number))) :: (52, .v (.bool true)) :: (53, .fl .ro 1 (List.map (Value.int .u8) v7.1)) :: (54, .eref (.slot 53) (v25 * 1)) :: (55, .v (.int .u8 v26)) :: (56, .v (.int .i64 v27)) :: (57, .v (.int .i64 v28)) :: (58, .fl .ro 1 (List.map (Value.int .u8) v7.1)) :: (59, .eref (.slot 58) (v29 * 1)) :: (60, .v (.int .u8 v30)) :: (61, .v (.int .i64 v31)) :: (62, .v (.int .i64 v32)) :: (63, .ptr 1 2) :: (64, .v (.int .i64 f.Offset)) :: (65, .v (.bool (v32 == f.Offset))) :: (66, .v (.bool (v32 == f.Offset))) :: (67, .v (.bool true)) :: (68, .fl .ro 1 (List.map (Value.int .u8) v7.1)) :: (69, .eref (.slot 68) (v33 * 1)) :: (70, .v (.int .u8 v34)) :: (71, .v (.int .i64 v35)) :: (72, .ptr 1 3) :: (73, .v (.int .i64 f.Seq)) :: (74, .v (.bool (v35 == f.Seq))) :: (75, .v (.bool (v35 == f.Seq))) :: (76, .v (.bool true)) :: (77, .fl .ro 1 (List.map (Value.int .u8) v7.1)) :: (78, .eref (.slot 77) (v36 * 1)) :: (79, .v (.int .u8 v37)) :: (80, .v (.int .i64 v38)) :: (81, .ptr 1 4) :: (82, .fl .shr 1 (List.map (Value.int .u8) f.Data)) :: (83, .v (.int .i64 (f.Data.length : Int))) :: (84, .v (.bool ((v38 == (f.Data.length : Int))))) :: (85, .v (.bool ((v38 == (f.Data.length : Int))))) :: (86, .v (.bool true)) :: (87, .fl .ro 1 (List.map (Value.int .u8) v7.1)) :: (88, .ptr 1 4) :: (89, .fl .shr 1 (List.map (Value.int .u8) f.Data)) :: (90, .v (.int .i64 (f.Data.length : Int))) :: (91, .v (.int .i64 v39)) :: (92, .fl .ro 1 (List.map (Value.int .u8) v50)) :: (93, .ptr 1 4) :: (94, .fl .shr 1 (List.map (Value.int .u8) f.Data)) :: (95, .v (.bool v51)) :: (96, .v (.bool v51)) :: (97, .v (.bool true)) :: (98, .v (.bool v52)) :: (99, .v (.bool v52)) :: (2, .v (.bool v52)) :: [])) (init := [0, 1, 2]) (fin := [73]) (sps := (⟨[1], [], [3], [(.slot 30)]⟩ :: ⟨[3], [], [4], [(.slot 31)]⟩ :: ⟨[4, 3], [], [5], [(.slot 32)]⟩ :: ⟨[5], [], [6], [(.slot 33)]⟩ :: ⟨[0], [], [7], [(.slot 34)]⟩ :: ⟨[7, 0], [], [8], [(.slot 35)]⟩ :: ⟨[6, 8], [], [9], [(.slot 36)]⟩ :: ⟨[9], [], [10], [(.slot 37)]⟩ :: ⟨[10, 1], [], [11], [(.slot 38)]⟩ :: ⟨[10, 11], [], [12], [(.slot 39)]⟩ :: ⟨[10, 12, 11], [], [13], [(.slot 40)]⟩ :: ⟨[10, 13], [], [14], [(.slot 41)]⟩ :: ⟨[10, 14], [], [15], [(.slot 42)]⟩ :: ⟨[10, 1], [], [16], [(.slot 43)]⟩ :: ⟨[10, 16], [], [17], [(.slot 44)]⟩ :: ⟨[10, 17, 16], [], [18], [(.slot 45)]⟩ :: ⟨[10, 18], [], [19], [(.slot 46)]⟩ :: ⟨[10, 15, 19], [], [20], [(.slot 47)]⟩ :: ⟨[10, 0], [], [21], [(.slot 48)]⟩ :: ⟨[10, 21, 0], [], [22], [(.slot 49)]⟩ :: ⟨[10, 20, 22], [], [23], [(.slot 50)]⟩ :: ⟨[10, 23], [], [24], [(.slot 51)]⟩ :: ⟨[24], [], [25], [(.slot 52)]⟩ :: ⟨[25, 1], [], [26], [(.slot 53)]⟩ :: ⟨[25, 26], [], [27], [(.slot 54)]⟩ :: ⟨[25, 27, 26], [], [28], [(.slot 55)]⟩ :: ⟨[25, 28], [], [29], [(.slot 56)]⟩ :: ⟨[25, 29], [], [30], [(.slot 57)]⟩ :: ⟨[25, 1], [], [31], [(.slot 58)]⟩ :: ⟨[25, 31], [], [32], [(.slot 59)]⟩ :: ⟨[25, 32, 31], [], [33], [(.slot 60)]⟩ :: ⟨[25, 33], [], [34], [(.slot 61)]⟩ :: ⟨[25, 30, 34], [], [35], [(.slot 62)]⟩ :: ⟨[25, 0], [], [36], [(.slot 63)]⟩ :: ⟨[25, 36, 0], [], [37], [(.slot 64)]⟩ :: ⟨[25, 35, 37], [], [38], [(.slot 65)]⟩ :: ⟨[25, 38], [], [39], [(.slot 66)]⟩ :: ⟨[39], [], [40], [(.slot 67)]⟩ :: ⟨[40, 1], [], [41], [(.slot 68)]⟩ :: ⟨[40, 41], [], [42], [(.slot 69)]⟩ :: ⟨[40, 42, 41], [], [43], [(.slot 70)]⟩ :: ⟨[40, 43], [], [44], [(.slot 71)]⟩ :: ⟨[40, 0], [], [45], [(.slot 72)]⟩ :: ⟨[40, 45, 0], [], [46], [(.slot 73)]⟩ :: ⟨[40, 44, 46], [], [47], [(.slot 74)]⟩ :: ⟨[40, 47], [], [48], [(.slot 75)]⟩ :: ⟨[48], [], [49], [(.slot 76)]⟩ :: ⟨[49, 1], [], [50], [(.slot 77)]⟩ :: ⟨[49, 50], [], [51], [(.slot 78)]⟩ :: ⟨[49, 51, 50], [], [52], [(.slot 79)]⟩ :: ⟨[49, 52], [], [53], [(.slot 80)]⟩ :: ⟨[49, 0], [], [54], [(.slot 81)]⟩ :: ⟨[49, 54, 0], [], [55], [(.slot 82)]⟩ :: ⟨[49, 55], [], [56], [(.slot 83)]⟩ :: ⟨[49, 53, 56], [], [57], [(.slot 84)]⟩ :: ⟨[49, 57], [], [58], [(.slot 85)]⟩ :: ⟨[58], [], [59], [(.slot 86)]⟩ :: ⟨[59, 1], [], [60], [(.slot 87)]⟩ :: ⟨[59, 0], [], [61], [(.slot 88)]⟩ :: ⟨[59, 61, 0], [], [62], [(.slot 89)]⟩ :: ⟨[59, 62], [], [63], [(.slot 90)]⟩ :: ⟨[59, 63], [], [64], [(.slot 91)]⟩ :: ⟨[59, 60, 64], [], [65], [(.slot 92)]⟩ :: ⟨[59, 0], [], [66], [(.slot 93)]⟩ :: ⟨[59, 66, 0], [], [67], [(.slot 94)]⟩ :: ⟨[59, 65, 67], [], [68], [(.slot 95)]⟩ :: ⟨[59, 68], [], [69], [(.slot 96)]⟩ :: ⟨[69], [], [70], [(.slot 97)]⟩ :: ⟨[70], [], [71], [(.slot 98)]⟩ :: ⟨[70, 71], [], [72], [(.slot 99)]⟩ :: ⟨[72], [], [73], [(.slot 2)]⟩ :: [])) (es' := [(2, .v (.bool v52))]) (by kernel_rfl) rfl rfl
                          ⟨st_plain rfl (op_move _ _ _ _ rfl rfl),
                            st_plain rfl (op_ix _ _ _ _ _ _ _ _ Try.underlying22 sz5 (by decide) rfl rfl rfl (ix_ok hv14).1 (map_lt (ix_ok hv14).2) rfl),
                            st_plain rfl (op_load_e _ _ _ _ _ _ Try.underlying5 rfl rfl rfl (map_get hv15)),
                            st_plain rfl ((Option.some.inj hv16) ▸ op_conv _ _ _ Try.underlying5 Try.underlying3 rfl),
                            st_plain rfl (op_fieldAddr _ _ _ _ 1 0 _ Try.underlying24 rfl sz3 rfl rfl (by decide)),
                            st_plain rfl (op_load _ _ _ _ _ _ Try.underlying3 rfl rfl rfl (Nat.le_of_ble_eq_true rfl) rfl rfl rfl),
                            st_plain rfl (op_bin _ _ _ _ _ rfl rfl rfl),
                            st_plain rfl (op_move _ _ _ _ (congrArg (fun b => AV.v (Value.bool b)) hg6_7) rfl),
                            st_run 7 37 true rfl rfl rfl (List.Mem.head _) (op_move _ _ _ _ rfl rfl),
                            st_run 7 37 true rfl rfl rfl (List.Mem.head _) (op_ix _ _ _ _ _ _ _ _ Try.underlying22 sz5 (by decide) rfl rfl rfl (ix_ok hv17).1 (map_lt (ix_ok hv17).2) rfl),
                            st_run 7 37 true rfl rfl rfl (List.Mem.head _) (op_load_e _ _ _ _ _ _ Try.underlying5 rfl rfl rfl (map_get hv18)),
                            st_run 7 37 true rfl rfl rfl (List.Mem.head _) ((Option.some.inj hv19) ▸ op_conv _ _ _ Try.underlying5 Try.underlying3 rfl),
                            st_run 7 37 true rfl rfl rfl (List.Mem.head _) (op_bin _ _ _ _ _ rfl rfl (shl_ok hv20)),
                            st_run 7 37 true rfl rfl rfl (List.Mem.head _) (op_move _ _ _ _ rfl rfl),
                            st_run 7 37 true rfl rfl rfl (List.Mem.head _) (op_ix _ _ _ _ _ _ _ _ Try.underlying22 sz5 (by decide) rfl rfl rfl (ix_ok hv21).1 (map_lt (ix_ok hv21).2) rfl),
                            st_run 7 37 true rfl rfl rfl (List.Mem.head _) (op_load_e _ _ _ _ _ _ Try.underlying5 rfl rfl rfl (map_get hv22)),
                            st_run 7 37 true rfl rfl rfl (List.Mem.head _) ((Option.some.inj hv23) ▸ op_conv _ _ _ Try.underlying5 Try.underlying3 rfl),
                            st_run 7 37 true rfl rfl rfl (List.Mem.head _) (op_bin _ _ _ _ _ rfl rfl (ibind (f := Value.int .i64) (Option.some.inj hv24))),
                            st_run 7 37 true rfl rfl rfl (List.Mem.head _) (op_fieldAddr _ _ _ _ 1 0 _ Try.underlying24 rfl sz3 rfl rfl (by decide)),
                            st_run 7 37 true rfl rfl rfl (List.Mem.head _) (op_load _ _ _ _ _ _ Try.underlying3 rfl rfl rfl (Nat.le_of_ble_eq_true rfl) rfl rfl rfl),
                            st_run 7 37 true rfl rfl rfl (List.Mem.head _) (op_bin _ _ _ _ _ rfl rfl rfl),
                            st_plain rfl (op_pick _ _ true _ rfl rfl),
                            st_plain rfl (op_move _ _ _ _ (congrArg (fun b => AV.v (Value.bool b)) hg6_22) rfl),
                            st_run 22 52 true rfl rfl rfl (List.Mem.head _) (op_move _ _ _ _ rfl rfl),
                            st_run 22 52 true rfl rfl rfl (List.Mem.head _) (op_ix _ _ _ _ _ _ _ _ Try.underlying22 sz5 (by decide) rfl rfl rfl (ix_ok hv25).1 (map_lt (ix_ok hv25).2) rfl),
                            st_run 22 52 true rfl rfl rfl (List.Mem.head _) (op_load_e _ _ _ _ _ _ Try.underlying5 rfl rfl rfl (map_get hv26)),
                            st_run 22 52 true rfl rfl rfl (List.Mem.head _) ((Option.some.inj hv27) ▸ op_conv _ _ _ Try.underlying5 Try.underlying3 rfl),
                            st_run 22 52 true rfl rfl rfl (List.Mem.head _) (op_bin _ _ _ _ _ rfl rfl (shl_ok hv28)),
                            st_run 22 52 true rfl rfl rfl (List.Mem.head _) (op_move _ _ _ _ rfl rfl),
                            st_run 22 52 true rfl rfl rfl (List.Mem.head _) (op_ix _ _ _ _ _ _ _ _ Try.underlying22 sz5 (by decide) rfl rfl rfl (ix_ok hv29).1 (map_lt (ix_ok hv29).2) rfl),
                            st_run 22 52 true rfl rfl rfl (List.Mem.head _) (op_load_e _ _ _ _ _ _ Try.underlying5 rfl rfl rfl (map_get hv30)),
                            st_run 22 52 true rfl rfl rfl (List.Mem.head _) ((Option.some.inj hv31) ▸ op_conv _ _ _ Try.underlying5 Try.underlying3 rfl),
                            st_run 22 52 true rfl rfl rfl (List.Mem.head _) (op_bin _ _ _ _ _ rfl rfl (ibind (f := Value.int .i64) (Option.some.inj hv32))),
                            st_run 22 52 true rfl rfl rfl (List.Mem.head _) (op_fieldAddr _ _ _ _ 1 0 _ Try.underlying24 rfl sz3 rfl rfl (by decide)),
                            st_run 22 52 true rfl rfl rfl (List.Mem.head _) (op_load _ _ _ _ _ _ Try.underlying3 rfl rfl rfl (Nat.le_of_ble_eq_true rfl) rfl rfl rfl),
                            st_run 22 52 true rfl rfl rfl (List.Mem.head _) (op_bin _ _ _ _ _ rfl rfl rfl),
                            st_plain rfl (op_pick _ _ true _ rfl rfl),
                            st_plain rfl (op_move _ _ _ _ (congrArg (fun b => AV.v (Value.bool b)) hg6_37) rfl),
                            st_run 37 67 true rfl rfl rfl (List.Mem.head _) (op_move _ _ _ _ rfl rfl),
                            st_run 37 67 true rfl rfl rfl (List.Mem.head _) (op_ix _ _ _ _ _ _ _ _ Try.underlying22 sz5 (by decide) rfl rfl rfl (ix_ok hv33).1 (map_lt (ix_ok hv33).2) rfl),
                            st_run 37 67 true rfl rfl rfl (List.Mem.head _) (op_load_e _ _ _ _ _ _ Try.underlying5 rfl rfl rfl (map_get hv34)),
                            st_run 37 67 true rfl rfl rfl (List.Mem.head _) ((Option.some.inj hv35) ▸ op_conv _ _ _ Try.underlying5 Try.underlying3 rfl),
                            st_run 37 67 true rfl rfl rfl (List.Mem.head _) (op_fieldAddr _ _ _ _ 1 0 _ Try.underlying24 rfl sz3 rfl rfl (by decide)),
                            st_run 37 67 true rfl rfl rfl (List.Mem.head _) (op_load _ _ _ _ _ _ Try.underlying3 rfl rfl rfl (Nat.le_of_ble_eq_true rfl) rfl rfl rfl),
                            st_run 37 67 true rfl rfl rfl (List.Mem.head _) (op_bin _ _ _ _ _ rfl rfl rfl),
                            st_plain rfl (op_pick _ _ true _ rfl rfl),
                            st_plain rfl (op_move _ _ _ _ (congrArg (fun b => AV.v (Value.bool b)) hg6_46) rfl),
                            st_run 46 76 true rfl rfl rfl (List.Mem.head _) (op_move _ _ _ _ rfl rfl),
                            st_run 46 76 true rfl rfl rfl (List.Mem.head _) (op_ix _ _ _ _ _ _ _ _ Try.underlying22 sz5 (by decide) rfl rfl rfl (ix_ok hv36).1 (map_lt (ix_ok hv36).2) rfl),
                            st_run 46 76 true rfl rfl rfl (List.Mem.head _) (op_load_e _ _ _ _ _ _ Try.underlying5 rfl rfl rfl (map_get hv37)),
                            st_run 46 76 true rfl rfl rfl (List.Mem.head _) ((Option.some.inj hv38) ▸ op_conv _ _ _ Try.underlying5 Try.underlying3 rfl),
                            st_run 46 76 true rfl rfl rfl (List.Mem.head _) (op_fieldAddr _ _ _ _ 1 0 _ Try.underlying24 rfl sz22 rfl rfl (by decide)),
                            st_run 46 76 true rfl rfl rfl (List.Mem.head _) (op_load _ _ _ _ _ _ Try.underlying22 rfl rfl rfl (Nat.le_of_ble_eq_true rfl) rfl rfl rfl),
                            st_run 46 76 true rfl rfl rfl (List.Mem.head _) (op_len_fl _ _ _ Try.underlying22 rfl (by decide) (map_len _)),
                            st_run 46 76 true rfl rfl rfl (List.Mem.head _) (op_bin _ _ _ _ _ rfl rfl rfl),
                            st_plain rfl (op_pick _ _ true _ rfl rfl),
                            st_plain rfl (op_move _ _ _ _ (congrArg (fun b => AV.v (Value.bool b)) hg6_56) rfl),
                            st_run 56 86 true rfl rfl rfl (List.Mem.head _) (op_move _ _ _ _ rfl rfl),
                            st_run 56 86 true rfl rfl rfl (List.Mem.head _) (op_fieldAddr _ _ _ _ 1 0 _ Try.underlying24 rfl sz22 rfl rfl (by decide)),
                            st_run 56 86 true rfl rfl rfl (List.Mem.head _) (op_load _ _ _ _ _ _ Try.underlying22 rfl rfl rfl (Nat.le_of_ble_eq_true rfl) rfl rfl rfl),
                            st_run 56 86 true rfl rfl rfl (List.Mem.head _) (op_len_fl _ _ _ Try.underlying22 rfl (by decide) (map_len _)),
                            st_run 56 86 true rfl rfl rfl (List.Mem.head _) (op_bin _ _ _ _ _ rfl rfl (ibind (f := Value.int .i64) (Option.some.inj hv39))),
                            st_run 56 86 true rfl rfl rfl (List.Mem.head _) (op_sl _ _ _ 7 v39 _ Try.underlying22 sz5 rfl rfl ⟨_, rfl⟩ ⟨_, rfl⟩ hv50),
                            st_run 56 86 true rfl rfl rfl (List.Mem.head _) (op_fieldAddr _ _ _ _ 1 0 _ Try.underlying24 rfl sz22 rfl rfl (by decide)),
                            st_run 56 86 true rfl rfl rfl (List.Mem.head _) (op_load _ _ _ _ _ _ Try.underlying22 rfl rfl rfl (Nat.le_of_ble_eq_true rfl) rfl rfl rfl),
                            st_run 56 86 true rfl rfl rfl (List.Mem.head _) (op_call _ _ 17 _ _ rfl Try.call17 rfl (ok_wherrykeep_Bytes v50 f.Data _ hv51) rfl rfl),
                            st_plain rfl (op_pick _ _ true _ rfl rfl),
                            st_plain rfl (op_move _ _ _ _ (congrArg (fun b => AV.v (Value.bool b)) hg6_67) rfl),
                            st_run 67 97 true rfl rfl rfl (List.Mem.head _) (op_call _ _ 23 _ _ rfl Try.call23 rfl (ok_wherrylaw20_wakes  _ hv52) rfl rfl),
                            st_plain rfl (op_pick _ _ true _ rfl rfl),
                            st_plain rfl (op_assign _ _ _ _ rfl rfl),
                            trivial⟩ ?_
                        exact hl55 _ (Option.some.inj h).symm
                      · refine ht_anyR (by kernel_rfl) hn (El := (_ :: _ :: _ :: (30, .fl .ro 1 (List.map (Value.int .u8) v7.1)) :: (31, .eref (.slot 30) (v14 * 1)) :: (32, .v (.int .u8 v15)) :: (33, .v (.int .i64 v16)) :: (34, .ptr 1 0) :: (35, .v (.int .i64 f.Kind)) :: (36, .v (.bool (v16 == f.Kind))) :: (37, .v (.bool true)) :: (38, .fl .ro 1 (List.map (Value.int .u8) v7.1)) :: (39, .eref (.slot 38) (v17 * 1)) :: (40, .v (.int .u8 v18)) :: (41, .v (.int .i64 v19)) :: (42, .v (.int .i64 v20)) :: (43, .fl .ro 1 (List.map (Value.int .u8) v7.1)) :: (44, .eref (.slot 43) (v21 * 1)) :: (45, .v (.int .u8 v22)) :: (46, .v (.int .i64 v23)) :: (47, .v (.int .i64 v24)) :: (48, .ptr 1 1) :: (49, .v (.int .i64 f.Number)) :: (50, .v (.bool (v24 == f.Number))) :: (51, .v (.bool (v24 == f.Number))) :: (52, .v (.bool true)) :: (53, .fl .ro 1 (List.map (Value.int .u8) v7.1)) :: (54, .eref (.slot 53) (v25 * 1)) :: (55, .v (.int .u8 v26)) :: (56, .v (.int .i64 v27)) :: (57, .v (.int .i64 v28)) :: (58, .fl .ro 1 (List.map (Value.int .u8) v7.1)) :: (59, .eref (.slot 58) (v29 * 1)) :: (60, .v (.int .u8 v30)) :: (61, .v (.int .i64 v31)) :: (62, .v (.int .i64 v32)) :: (63, .ptr 1 2) :: (64, .v (.int .i64 f.Offset)) :: (65, .v (.bool (v32 == f.Offset))) :: (66, .v (.bool (v32 == f.Offset))) :: (67, .v (.bool true)) :: (68, .fl .ro 1 (List.map (Value.int .u8) v7.1)) :: (69, .eref (.slot 68) (v33 * 1)) :: (70, .v (.int .u8 v34)) :: (71, .v (.int .i64 v35)) :: (72, .ptr 1 3) :: (73, .v (.int .i64 f.Seq)) :: (74, .v (.bool (v35 == f.Seq))) :: (75, .v (.bool (v35 == f.Seq))) :: (76, .v (.bool true)) :: (77, .fl .ro 1 (List.map (Value.int .u8) v7.1)) :: (78, .eref (.slot 77) (v36 * 1)) :: (79, .v (.int .u8 v37)) :: (80, .v (.int .i64 v38)) :: (81, .ptr 1 4) :: (82, .fl .shr 1 (List.map (Value.int .u8) f.Data)) :: (83, .v (.int .i64 (f.Data.length : Int))) :: (84, .v (.bool ((v38 == (f.Data.length : Int))))) :: (85, .v (.bool ((v38 == (f.Data.length : Int))))) :: (86, .v (.bool true)) :: (87, .fl .ro 1 (List.map (Value.int .u8) v7.1)) :: (88, .ptr 1 4) :: (89, .fl .shr 1 (List.map (Value.int .u8) f.Data)) :: (90, .v (.int .i64 (f.Data.length : Int))) :: (91, .v (.int .i64 v39)) :: (92, .fl .ro 1 (List.map (Value.int .u8) v50)) :: (93, .ptr 1 4) :: (94, .fl .shr 1 (List.map (Value.int .u8) f.Data)) :: (95, .v (.bool v51)) :: (96, .v (.bool v51)) :: (97, .v (.bool false)) :: (98, .v undef) :: (99, .v (.bool false)) :: (2, .v (.bool false)) :: [])) (init := [0, 1, 2]) (fin := [73]) (sps := (⟨[1], [], [3], [(.slot 30)]⟩ :: ⟨[3], [], [4], [(.slot 31)]⟩ :: ⟨[4, 3], [], [5], [(.slot 32)]⟩ :: ⟨[5], [], [6], [(.slot 33)]⟩ :: ⟨[0], [], [7], [(.slot 34)]⟩ :: ⟨[7, 0], [], [8], [(.slot 35)]⟩ :: ⟨[6, 8], [], [9], [(.slot 36)]⟩ :: ⟨[9], [], [10], [(.slot 37)]⟩ :: ⟨[10, 1], [], [11], [(.slot 38)]⟩ :: ⟨[10, 11], [], [12], [(.slot 39)]⟩ :: ⟨[10, 12, 11], [], [13], [(.slot 40)]⟩ :: ⟨[10, 13], [], [14], [(.slot 41)]⟩ :: ⟨[10, 14], [], [15], [(.slot 42)]⟩ :: ⟨[10, 1], [], [16], [(.slot 43)]⟩ :: ⟨[10, 16], [], [17], [(.slot 44)]⟩ :: ⟨[10, 17, 16], [], [18], [(.slot 45)]⟩ :: ⟨[10, 18], [], [19], [(.slot 46)]⟩ :: ⟨[10, 15, 19], [], [20], [(.slot 47)]⟩ :: ⟨[10, 0], [], [21], [(.slot 48)]⟩ :: ⟨[10, 21, 0], [], [22], [(.slot 49)]⟩ :: ⟨[10, 20, 22], [], [23], [(.slot 50)]⟩ :: ⟨[10, 23], [], [24], [(.slot 51)]⟩ :: ⟨[24], [], [25], [(.slot 52)]⟩ :: ⟨[25, 1], [], [26], [(.slot 53)]⟩ :: ⟨[25, 26], [], [27], [(.slot 54)]⟩ :: ⟨[25, 27, 26], [], [28], [(.slot 55)]⟩ :: ⟨[25, 28], [], [29], [(.slot 56)]⟩ :: ⟨[25, 29], [], [30], [(.slot 57)]⟩ :: ⟨[25, 1], [], [31], [(.slot 58)]⟩ :: ⟨[25, 31], [], [32], [(.slot 59)]⟩ :: ⟨[25, 32, 31], [], [33], [(.slot 60)]⟩ :: ⟨[25, 33], [], [34], [(.slot 61)]⟩ :: ⟨[25, 30, 34], [], [35], [(.slot 62)]⟩ :: ⟨[25, 0], [], [36], [(.slot 63)]⟩ :: ⟨[25, 36, 0], [], [37], [(.slot 64)]⟩ :: ⟨[25, 35, 37], [], [38], [(.slot 65)]⟩ :: ⟨[25, 38], [], [39], [(.slot 66)]⟩ :: ⟨[39], [], [40], [(.slot 67)]⟩ :: ⟨[40, 1], [], [41], [(.slot 68)]⟩ :: ⟨[40, 41], [], [42], [(.slot 69)]⟩ :: ⟨[40, 42, 41], [], [43], [(.slot 70)]⟩ :: ⟨[40, 43], [], [44], [(.slot 71)]⟩ :: ⟨[40, 0], [], [45], [(.slot 72)]⟩ :: ⟨[40, 45, 0], [], [46], [(.slot 73)]⟩ :: ⟨[40, 44, 46], [], [47], [(.slot 74)]⟩ :: ⟨[40, 47], [], [48], [(.slot 75)]⟩ :: ⟨[48], [], [49], [(.slot 76)]⟩ :: ⟨[49, 1], [], [50], [(.slot 77)]⟩ :: ⟨[49, 50], [], [51], [(.slot 78)]⟩ :: ⟨[49, 51, 50], [], [52], [(.slot 79)]⟩ :: ⟨[49, 52], [], [53], [(.slot 80)]⟩ :: ⟨[49, 0], [], [54], [(.slot 81)]⟩ :: ⟨[49, 54, 0], [], [55], [(.slot 82)]⟩ :: ⟨[49, 55], [], [56], [(.slot 83)]⟩ :: ⟨[49, 53, 56], [], [57], [(.slot 84)]⟩ :: ⟨[49, 57], [], [58], [(.slot 85)]⟩ :: ⟨[58], [], [59], [(.slot 86)]⟩ :: ⟨[59, 1], [], [60], [(.slot 87)]⟩ :: ⟨[59, 0], [], [61], [(.slot 88)]⟩ :: ⟨[59, 61, 0], [], [62], [(.slot 89)]⟩ :: ⟨[59, 62], [], [63], [(.slot 90)]⟩ :: ⟨[59, 63], [], [64], [(.slot 91)]⟩ :: ⟨[59, 60, 64], [], [65], [(.slot 92)]⟩ :: ⟨[59, 0], [], [66], [(.slot 93)]⟩ :: ⟨[59, 66, 0], [], [67], [(.slot 94)]⟩ :: ⟨[59, 65, 67], [], [68], [(.slot 95)]⟩ :: ⟨[59, 68], [], [69], [(.slot 96)]⟩ :: ⟨[69], [], [70], [(.slot 97)]⟩ :: ⟨[70], [], [71], [(.slot 98)]⟩ :: ⟨[70], [], [72], [(.slot 99)]⟩ :: ⟨[72], [], [73], [(.slot 2)]⟩ :: [])) (es' := [(2, .v (.bool false))]) (by kernel_rfl) rfl rfl
                          ⟨st_plain rfl (op_move _ _ _ _ rfl rfl),
                            st_plain rfl (op_ix _ _ _ _ _ _ _ _ Try.underlying22 sz5 (by decide) rfl rfl rfl (ix_ok hv14).1 (map_lt (ix_ok hv14).2) rfl),
                            st_plain rfl (op_load_e _ _ _ _ _ _ Try.underlying5 rfl rfl rfl (map_get hv15)),
                            st_plain rfl ((Option.some.inj hv16) ▸ op_conv _ _ _ Try.underlying5 Try.underlying3 rfl),
                            st_plain rfl (op_fieldAddr _ _ _ _ 1 0 _ Try.underlying24 rfl sz3 rfl rfl (by decide)),
                            st_plain rfl (op_load _ _ _ _ _ _ Try.underlying3 rfl rfl rfl (Nat.le_of_ble_eq_true rfl) rfl rfl rfl),
                            st_plain rfl (op_bin _ _ _ _ _ rfl rfl rfl),
                            st_plain rfl (op_move _ _ _ _ (congrArg (fun b => AV.v (Value.bool b)) hg6_7) rfl),
                            st_run 7 37 true rfl rfl rfl (List.Mem.head _) (op_move _ _ _ _ rfl rfl),
                            st_run 7 37 true rfl rfl rfl (List.Mem.head _) (op_ix _ _ _ _ _ _ _ _ Try.underlying22 sz5 (by decide) rfl rfl rfl (ix_ok hv17).1 (map_lt (ix_ok hv17).2) rfl),
                            st_run 7 37 true rfl rfl rfl (List.Mem.head _) (op_load_e _ _ _ _ _ _ Try.underlying5 rfl rfl rfl (map_get hv18)),
                            st_run 7 37 true rfl rfl rfl (List.Mem.head _) ((Option.some.inj hv19) ▸ op_conv _ _ _ Try.underlying5 Try.underlying3 rfl),
                            st_run 7 37 true rfl rfl rfl (List.Mem.head _) (op_bin _ _ _ _ _ rfl rfl (shl_ok hv20)),
                            st_run 7 37 true rfl rfl rfl (List.Mem.head _) (op_move _ _ _ _ rfl rfl),
                            st_run 7 37 true rfl rfl rfl (List.Mem.head _) (op_ix _ _ _ _ _ _ _ _ Try.underlying22 sz5 (by decide) rfl rfl rfl (ix_ok hv21).1 (map_lt (ix_ok hv21).2) rfl),
                            st_run 7 37 true rfl rfl rfl (List.Mem.head _) (op_load_e _ _ _ _ _ _ Try.underlying5 rfl rfl rfl (map_get hv22)),
                            st_run 7 37 true rfl rfl rfl (List.Mem.head _) ((Option.some.inj hv23) ▸ op_conv _ _ _ Try.underlying5 Try.underlying3 rfl),
                            st_run 7 37 true rfl rfl rfl (List.Mem.head _) (op_bin _ _ _ _ _ rfl rfl (ibind (f := Value.int .i64) (Option.some.inj hv24))),
                            st_run 7 37 true rfl rfl rfl (List.Mem.head _) (op_fieldAddr _ _ _ _ 1 0 _ Try.underlying24 rfl sz3 rfl rfl (by decide)),
                            st_run 7 37 true rfl rfl rfl (List.Mem.head _) (op_load _ _ _ _ _ _ Try.underlying3 rfl rfl rfl (Nat.le_of_ble_eq_true rfl) rfl rfl rfl),
                            st_run 7 37 true rfl rfl rfl (List.Mem.head _) (op_bin _ _ _ _ _ rfl rfl rfl),
                            st_plain rfl (op_pick _ _ true _ rfl rfl),
                            st_plain rfl (op_move _ _ _ _ (congrArg (fun b => AV.v (Value.bool b)) hg6_22) rfl),
                            st_run 22 52 true rfl rfl rfl (List.Mem.head _) (op_move _ _ _ _ rfl rfl),
                            st_run 22 52 true rfl rfl rfl (List.Mem.head _) (op_ix _ _ _ _ _ _ _ _ Try.underlying22 sz5 (by decide) rfl rfl rfl (ix_ok hv25).1 (map_lt (ix_ok hv25).2) rfl),
                            st_run 22 52 true rfl rfl rfl (List.Mem.head _) (op_load_e _ _ _ _ _ _ Try.underlying5 rfl rfl rfl (map_get hv26)),
                            st_run 22 52 true rfl rfl rfl (List.Mem.head _) ((Option.some.inj hv27) ▸ op_conv _ _ _ Try.underlying5 Try.underlying3 rfl),
                            st_run 22 52 true rfl rfl rfl (List.Mem.head _) (op_bin _ _ _ _ _ rfl rfl (shl_ok hv28)),
                            st_run 22 52 true rfl rfl rfl (List.Mem.head _) (op_move _ _ _ _ rfl rfl),
                            st_run 22 52 true rfl rfl rfl (List.Mem.head _) (op_ix _ _ _ _ _ _ _ _ Try.underlying22 sz5 (by decide) rfl rfl rfl (ix_ok hv29).1 (map_lt (ix_ok hv29).2) rfl),
                            st_run 22 52 true rfl rfl rfl (List.Mem.head _) (op_load_e _ _ _ _ _ _ Try.underlying5 rfl rfl rfl (map_get hv30)),
                            st_run 22 52 true rfl rfl rfl (List.Mem.head _) ((Option.some.inj hv31) ▸ op_conv _ _ _ Try.underlying5 Try.underlying3 rfl),
                            st_run 22 52 true rfl rfl rfl (List.Mem.head _) (op_bin _ _ _ _ _ rfl rfl (ibind (f := Value.int .i64) (Option.some.inj hv32))),
                            st_run 22 52 true rfl rfl rfl (List.Mem.head _) (op_fieldAddr _ _ _ _ 1 0 _ Try.underlying24 rfl sz3 rfl rfl (by decide)),
                            st_run 22 52 true rfl rfl rfl (List.Mem.head _) (op_load _ _ _ _ _ _ Try.underlying3 rfl rfl rfl (Nat.le_of_ble_eq_true rfl) rfl rfl rfl),
                            st_run 22 52 true rfl rfl rfl (List.Mem.head _) (op_bin _ _ _ _ _ rfl rfl rfl),
                            st_plain rfl (op_pick _ _ true _ rfl rfl),
                            st_plain rfl (op_move _ _ _ _ (congrArg (fun b => AV.v (Value.bool b)) hg6_37) rfl),
                            st_run 37 67 true rfl rfl rfl (List.Mem.head _) (op_move _ _ _ _ rfl rfl),
                            st_run 37 67 true rfl rfl rfl (List.Mem.head _) (op_ix _ _ _ _ _ _ _ _ Try.underlying22 sz5 (by decide) rfl rfl rfl (ix_ok hv33).1 (map_lt (ix_ok hv33).2) rfl),
                            st_run 37 67 true rfl rfl rfl (List.Mem.head _) (op_load_e _ _ _ _ _ _ Try.underlying5 rfl rfl rfl (map_get hv34)),
                            st_run 37 67 true rfl rfl rfl (List.Mem.head _) ((Option.some.inj hv35) ▸ op_conv _ _ _ Try.underlying5 Try.underlying3 rfl),
                            st_run 37 67 true rfl rfl rfl (List.Mem.head _) (op_fieldAddr _ _ _ _ 1 0 _ Try.underlying24 rfl sz3 rfl rfl (by decide)),
                            st_run 37 67 true rfl rfl rfl (List.Mem.head _) (op_load _ _ _ _ _ _ Try.underlying3 rfl rfl rfl (Nat.le_of_ble_eq_true rfl) rfl rfl rfl),
                            st_run 37 67 true rfl rfl rfl (List.Mem.head _) (op_bin _ _ _ _ _ rfl rfl rfl),
                            st_plain rfl (op_pick _ _ true _ rfl rfl),
                            st_plain rfl (op_move _ _ _ _ (congrArg (fun b => AV.v (Value.bool b)) hg6_46) rfl),
                            st_run 46 76 true rfl rfl rfl (List.Mem.head _) (op_move _ _ _ _ rfl rfl),
                            st_run 46 76 true rfl rfl rfl (List.Mem.head _) (op_ix _ _ _ _ _ _ _ _ Try.underlying22 sz5 (by decide) rfl rfl rfl (ix_ok hv36).1 (map_lt (ix_ok hv36).2) rfl),
                            st_run 46 76 true rfl rfl rfl (List.Mem.head _) (op_load_e _ _ _ _ _ _ Try.underlying5 rfl rfl rfl (map_get hv37)),
                            st_run 46 76 true rfl rfl rfl (List.Mem.head _) ((Option.some.inj hv38) ▸ op_conv _ _ _ Try.underlying5 Try.underlying3 rfl),
                            st_run 46 76 true rfl rfl rfl (List.Mem.head _) (op_fieldAddr _ _ _ _ 1 0 _ Try.underlying24 rfl sz22 rfl rfl (by decide)),
                            st_run 46 76 true rfl rfl rfl (List.Mem.head _) (op_load _ _ _ _ _ _ Try.underlying22 rfl rfl rfl (Nat.le_of_ble_eq_true rfl) rfl rfl rfl),
                            st_run 46 76 true rfl rfl rfl (List.Mem.head _) (op_len_fl _ _ _ Try.underlying22 rfl (by decide) (map_len _)),
                            st_run 46 76 true rfl rfl rfl (List.Mem.head _) (op_bin _ _ _ _ _ rfl rfl rfl),
                            st_plain rfl (op_pick _ _ true _ rfl rfl),
                            st_plain rfl (op_move _ _ _ _ (congrArg (fun b => AV.v (Value.bool b)) hg6_56) rfl),
                            st_run 56 86 true rfl rfl rfl (List.Mem.head _) (op_move _ _ _ _ rfl rfl),
                            st_run 56 86 true rfl rfl rfl (List.Mem.head _) (op_fieldAddr _ _ _ _ 1 0 _ Try.underlying24 rfl sz22 rfl rfl (by decide)),
                            st_run 56 86 true rfl rfl rfl (List.Mem.head _) (op_load _ _ _ _ _ _ Try.underlying22 rfl rfl rfl (Nat.le_of_ble_eq_true rfl) rfl rfl rfl),
                            st_run 56 86 true rfl rfl rfl (List.Mem.head _) (op_len_fl _ _ _ Try.underlying22 rfl (by decide) (map_len _)),
                            st_run 56 86 true rfl rfl rfl (List.Mem.head _) (op_bin _ _ _ _ _ rfl rfl (ibind (f := Value.int .i64) (Option.some.inj hv39))),
                            st_run 56 86 true rfl rfl rfl (List.Mem.head _) (op_sl _ _ _ 7 v39 _ Try.underlying22 sz5 rfl rfl ⟨_, rfl⟩ ⟨_, rfl⟩ hv50),
                            st_run 56 86 true rfl rfl rfl (List.Mem.head _) (op_fieldAddr _ _ _ _ 1 0 _ Try.underlying24 rfl sz22 rfl rfl (by decide)),
                            st_run 56 86 true rfl rfl rfl (List.Mem.head _) (op_load _ _ _ _ _ _ Try.underlying22 rfl rfl rfl (Nat.le_of_ble_eq_true rfl) rfl rfl rfl),
                            st_run 56 86 true rfl rfl rfl (List.Mem.head _) (op_call _ _ 17 _ _ rfl Try.call17 rfl (ok_wherrykeep_Bytes v50 f.Data _ hv51) rfl rfl),
                            st_plain rfl (op_pick _ _ true _ rfl rfl),
                            st_plain rfl (op_move _ _ _ _ (congrArg (fun b => AV.v (Value.bool b)) hg6_67) rfl),
                            st_skip 67 97 _ true rfl rfl rfl rfl (List.Mem.head _),
                            st_plain rfl (op_pick _ _ false _ rfl rfl),
                            st_plain rfl (op_assign _ _ _ _ rfl rfl),
                            trivial⟩ ?_
                        exact hl55 _ (Option.some.inj h).symm
                    · refine ht_anyR (by kernel_rfl) hn (El := (_ :: _ :: _ :: (30, .fl .ro 1 (List.map (Value.int .u8) v7.1)) :: (31, .eref (.slot 30) (v14 * 1)) :: (32, .v (.int .u8 v15)) :: (33, .v (.int .i64 v16)) :: (34, .ptr 1 0) :: (35, .v (.int .i64 f.Kind)) :: (36, .v (.bool (v16 == f.Kind))) :: (37, .v (.bool true)) :: (38, .fl .ro 1 (List.map (Value.int .u8) v7.1)) :: (39, .eref (.slot 38) (v17 * 1)) :: (40, .v (.int .u8 v18)) :: (41, .v (.int .i64 v19)) :: (42, .v (.int .i64 v20)) :: (43, .fl .ro 1 (List.map (Value.int .u8) v7.1)) :: (44, .eref (.slot 43) (v21 * 1)) :: (45, .v (.int .u8 v22)) :: (46, .v (.int .i64 v23)) :: (47, .v (.int .i64 v24)) :: (48, .ptr 1 1) :: (49, .v (.int .i64 f.Number)) :: (50, .v (.bool (v24 == f.Number))) :: (51, .v (.bool (v24 == f.Number))) :: (52, .v (.bool true)) :: (53, .fl .ro 1 (List.map (Value.int .u8) v7.1)) :: (54, .eref (.slot 53) (v25 * 1)) :: (55, .v (.int .u8 v26)) :: (56, .v (.int .i64 v27)) :: (57, .v (.int .i64 v28)) :: (58, .fl .ro 1 (List.map (Value.int .u8) v7.1)) :: (59, .eref (.slot 58) (v29 * 1)) :: (60, .v (.int .u8 v30)) :: (61, .v (.int .i64 v31)) :: (62, .v (.int .i64 v32)) :: (63, .ptr 1 2) :: (64, .v (.int .i64 f.Offset)) :: (65, .v (.bool (v32 == f.Offset))) :: (66, .v (.bool (v32 == f.Offset))) :: (67, .v (.bool true)) :: (68, .fl .ro 1 (List.map (Value.int .u8) v7.1)) :: (69, .eref (.slot 68) (v33 * 1)) :: (70, .v (.int .u8 v34)) :: (71, .v (.int .i64 v35)) :: (72, .ptr 1 3) :: (73, .v (.int .i64 f.Seq)) :: (74, .v (.bool (v35 == f.Seq))) :: (75, .v (.bool (v35 == f.Seq))) :: (76, .v (.bool true)) :: (77, .fl .ro 1 (List.map (Value.int .u8) v7.1)) :: (78, .eref (.slot 77) (v36 * 1)) :: (79, .v (.int .u8 v37)) :: (80, .v (.int .i64 v38)) :: (81, .ptr 1 4) :: (82, .fl .shr 1 (List.map (Value.int .u8) f.Data)) :: (83, .v (.int .i64 (f.Data.length : Int))) :: (84, .v (.bool ((v38 == (f.Data.length : Int))))) :: (85, .v (.bool ((v38 == (f.Data.length : Int))))) :: (86, .v (.bool false)) :: (87, .v undef) :: (88, .v undef) :: (89, .v undef) :: (90, .v undef) :: (91, .v undef) :: (92, .v undef) :: (93, .v undef) :: (94, .v undef) :: (95, .v undef) :: (96, .v (.bool false)) :: (97, .v (.bool false)) :: (98, .v undef) :: (99, .v (.bool false)) :: (2, .v (.bool false)) :: [])) (init := [0, 1, 2]) (fin := [73]) (sps := (⟨[1], [], [3], [(.slot 30)]⟩ :: ⟨[3], [], [4], [(.slot 31)]⟩ :: ⟨[4, 3], [], [5], [(.slot 32)]⟩ :: ⟨[5], [], [6], [(.slot 33)]⟩ :: ⟨[0], [], [7], [(.slot 34)]⟩ :: ⟨[7, 0], [], [8], [(.slot 35)]⟩ :: ⟨[6, 8], [], [9], [(.slot 36)]⟩ :: ⟨[9], [], [10], [(.slot 37)]⟩ :: ⟨[10, 1], [], [11], [(.slot 38)]⟩ :: ⟨[10, 11], [], [12], [(.slot 39)]⟩ :: ⟨[10, 12, 11], [], [13], [(.slot 40)]⟩ :: ⟨[10, 13], [], [14], [(.slot 41)]⟩ :: ⟨[10, 14], [], [15], [(.slot 42)]⟩ :: ⟨[10, 1], [], [16], [(.slot 43)]⟩ :: ⟨[10, 16], [], [17], [(.slot 44)]⟩ :: ⟨[10, 17, 16], [], [18], [(.slot 45)]⟩ :: ⟨[10, 18], [], [19], [(.slot 46)]⟩ :: ⟨[10, 15, 19], [], [20], [(.slot 47)]⟩ :: ⟨[10, 0], [], [21], [(.slot 48)]⟩ :: ⟨[10, 21, 0], [], [22], [(.slot 49)]⟩ :: ⟨[10, 20, 22], [], [23], [(.slot 50)]⟩ :: ⟨[10, 23], [], [24], [(.slot 51)]⟩ :: ⟨[24], [], [25], [(.slot 52)]⟩ :: ⟨[25, 1], [], [26], [(.slot 53)]⟩ :: ⟨[25, 26], [], [27], [(.slot 54)]⟩ :: ⟨[25, 27, 26], [], [28], [(.slot 55)]⟩ :: ⟨[25, 28], [], [29], [(.slot 56)]⟩ :: ⟨[25, 29], [], [30], [(.slot 57)]⟩ :: ⟨[25, 1], [], [31], [(.slot 58)]⟩ :: ⟨[25, 31], [], [32], [(.slot 59)]⟩ :: ⟨[25, 32, 31], [], [33], [(.slot 60)]⟩ :: ⟨[25, 33], [], [34], [(.slot 61)]⟩ :: ⟨[25, 30, 34], [], [35], [(.slot 62)]⟩ :: ⟨[25, 0], [], [36], [(.slot 63)]⟩ :: ⟨[25, 36, 0], [], [37], [(.slot 64)]⟩ :: ⟨[25, 35, 37], [], [38], [(.slot 65)]⟩ :: ⟨[25, 38], [], [39], [(.slot 66)]⟩ :: ⟨[39], [], [40], [(.slot 67)]⟩ :: ⟨[40, 1], [], [41], [(.slot 68)]⟩ :: ⟨[40, 41], [], [42], [(.slot 69)]⟩ :: ⟨[40, 42, 41], [], [43], [(.slot 70)]⟩ :: ⟨[40, 43], [], [44], [(.slot 71)]⟩ :: ⟨[40, 0], [], [45], [(.slot 72)]⟩ :: ⟨[40, 45, 0], [], [46], [(.slot 73)]⟩ :: ⟨[40, 44, 46], [], [47], [(.slot 74)]⟩ :: ⟨[40, 47], [], [48], [(.slot 75)]⟩ :: ⟨[48], [], [49], [(.slot 76)]⟩ :: ⟨[49, 1], [], [50], [(.slot 77)]⟩ :: ⟨[49, 50], [], [51], [(.slot 78)]⟩ :: ⟨[49, 51, 50], [], [52], [(.slot 79)]⟩ :: ⟨[49, 52], [], [53], [(.slot 80)]⟩ :: ⟨[49, 0], [], [54], [(.slot 81)]⟩ :: ⟨[49, 54, 0], [], [55], [(.slot 82)]⟩ :: ⟨[49, 55], [], [56], [(.slot 83)]⟩ :: ⟨[49, 53, 56], [], [57], [(.slot 84)]⟩ :: ⟨[49, 57], [], [58], [(.slot 85)]⟩ :: ⟨[58], [], [59], [(.slot 86)]⟩ :: ⟨[59], [], [60], [(.slot 87)]⟩ :: ⟨[59], [], [61], [(.slot 88)]⟩ :: ⟨[59], [], [62], [(.slot 89)]⟩ :: ⟨[59], [], [63], [(.slot 90)]⟩ :: ⟨[59], [], [64], [(.slot 91)]⟩ :: ⟨[59], [], [65], [(.slot 92)]⟩ :: ⟨[59], [], [66], [(.slot 93)]⟩ :: ⟨[59], [], [67], [(.slot 94)]⟩ :: ⟨[59], [], [68], [(.slot 95)]⟩ :: ⟨[59], [], [69], [(.slot 96)]⟩ :: ⟨[69], [], [70], [(.slot 97)]⟩ :: ⟨[70], [], [71], [(.slot 98)]⟩ :: ⟨[70], [], [72], [(.slot 99)]⟩ :: ⟨[72], [], [73], [(.slot 2)]⟩ :: [])) (es' := [(2, .v (.bool false))]) (by kernel_rfl) rfl rfl
                        ⟨st_plain rfl (op_move _ _ _ _ rfl rfl),
                          st_plain rfl (op_ix _ _ _ _ _ _ _ _ Try.underlying22 sz5 (by decide) rfl rfl rfl (ix_ok hv14).1 (map_lt (ix_ok hv14).2) rfl),
                          st_plain rfl (op_load_e _ _ _ _ _ _ Try.underlying5 rfl rfl rfl (map_get hv15)),
                          st_plain rfl ((Option.some.inj hv16) ▸ op_conv _ _ _ Try.underlying5 Try.underlying3 rfl),
                          st_plain rfl (op_fieldAddr _ _ _ _ 1 0 _ Try.underlying24 rfl sz3 rfl rfl (by decide)),
                          st_plain rfl (op_load _ _ _ _ _ _ Try.underlying3 rfl rfl rfl (Nat.le_of_ble_eq_true rfl) rfl rfl rfl),
                          st_plain rfl (op_bin _ _ _ _ _ rfl rfl rfl),
                          st_plain rfl (op_move _ _ _ _ (congrArg (fun b => AV.v (Value.bool b)) hg6_7) rfl),
                          st_run 7 37 true rfl rfl rfl (List.Mem.head _) (op_move _ _ _ _ rfl rfl),
                          st_run 7 37 true rfl rfl rfl (List.Mem.head _) (op_ix _ _ _ _ _ _ _ _ Try.underlying22 sz5 (by decide) rfl rfl rfl (ix_ok hv17).1 (map_lt (ix_ok hv17).2) rfl),
                          st_run 7 37 true rfl rfl rfl (List.Mem.head _) (op_load_e _ _ _ _ _ _ Try.underlying5 rfl rfl rfl (map_get hv18)),
                          st_run 7 37 true rfl rfl rfl (List.Mem.head _) ((Option.some.inj hv19) ▸ op_conv _ _ _ Try.underlying5 Try.underlying3 rfl),
                          st_run 7 37 true rfl rfl rfl (List.Mem.head _) (op_bin _ _ _ _ _ rfl rfl (shl_ok hv20)),
                          st_run 7 37 true rfl rfl rfl (List.Mem.head _) (op_move _ _ _ _ rfl rfl),
                          st_run 7 37 true rfl rfl rfl (List.Mem.head _) (op_ix _ _ _ _ _ _ _ _ Try.underlying22 sz5 (by decide) rfl rfl rfl (ix_ok hv21).1 (map_lt (ix_ok hv21).2) rfl),
                          st_run 7 37 true rfl rfl rfl (List.Mem.head _) (op_load_e _ _ _ _ _ _ Try.underlying5 rfl rfl rfl (map_get hv22)),
                          st_run 7 37 true rfl rfl rfl (List.Mem.head _) ((Option.some.inj hv23) ▸ op_conv _ _ _ Try.underlying5 Try.underlying3 rfl),
                          st_run 7 37 true rfl rfl rfl (List.Mem.head _) (op_bin _ _ _ _ _ rfl rfl (ibind (f := Value.int .i64) (Option.some.inj hv24))),
                          st_run 7 37 true rfl rfl rfl (List.Mem.head _) (op_fieldAddr _ _ _ _ 1 0 _ Try.underlying24 rfl sz3 rfl rfl (by decide)),
                          st_run 7 37 true rfl rfl rfl (List.Mem.head _) (op_load _ _ _ _ _ _ Try.underlying3 rfl rfl rfl (Nat.le_of_ble_eq_true rfl) rfl rfl rfl),
                          st_run 7 37 true rfl rfl rfl (List.Mem.head _) (op_bin _ _ _ _ _ rfl rfl rfl),
                          st_plain rfl (op_pick _ _ true _ rfl rfl),
                          st_plain rfl (op_move _ _ _ _ (congrArg (fun b => AV.v (Value.bool b)) hg6_22) rfl),
                          st_run 22 52 true rfl rfl rfl (List.Mem.head _) (op_move _ _ _ _ rfl rfl),
                          st_run 22 52 true rfl rfl rfl (List.Mem.head _) (op_ix _ _ _ _ _ _ _ _ Try.underlying22 sz5 (by decide) rfl rfl rfl (ix_ok hv25).1 (map_lt (ix_ok hv25).2) rfl),
                          st_run 22 52 true rfl rfl rfl (List.Mem.head _) (op_load_e _ _ _ _ _ _ Try.underlying5 rfl rfl rfl (map_get hv26)),
                          st_run 22 52 true rfl rfl rfl (List.Mem.head _) ((Option.some.inj hv27) ▸ op_conv _ _ _ Try.underlying5 Try.underlying3 rfl),
                          st_run 22 52 true rfl rfl rfl (List.Mem.head _) (op_bin _ _ _ _ _ rfl rfl (shl_ok hv28)),
                          st_run 22 52 true rfl rfl rfl (List.Mem.head _) (op_move _ _ _ _ rfl rfl),
                          st_run 22 52 true rfl rfl rfl (List.Mem.head _) (op_ix _ _ _ _ _ _ _ _ Try.underlying22 sz5 (by decide) rfl rfl rfl (ix_ok hv29).1 (map_lt (ix_ok hv29).2) rfl),
                          st_run 22 52 true rfl rfl rfl (List.Mem.head _) (op_load_e _ _ _ _ _ _ Try.underlying5 rfl rfl rfl (map_get hv30)),
                          st_run 22 52 true rfl rfl rfl (List.Mem.head _) ((Option.some.inj hv31) ▸ op_conv _ _ _ Try.underlying5 Try.underlying3 rfl),
                          st_run 22 52 true rfl rfl rfl (List.Mem.head _) (op_bin _ _ _ _ _ rfl rfl (ibind (f := Value.int .i64) (Option.some.inj hv32))),
                          st_run 22 52 true rfl rfl rfl (List.Mem.head _) (op_fieldAddr _ _ _ _ 1 0 _ Try.underlying24 rfl sz3 rfl rfl (by decide)),
                          st_run 22 52 true rfl rfl rfl (List.Mem.head _) (op_load _ _ _ _ _ _ Try.underlying3 rfl rfl rfl (Nat.le_of_ble_eq_true rfl) rfl rfl rfl),
                          st_run 22 52 true rfl rfl rfl (List.Mem.head _) (op_bin _ _ _ _ _ rfl rfl rfl),
                          st_plain rfl (op_pick _ _ true _ rfl rfl),
                          st_plain rfl (op_move _ _ _ _ (congrArg (fun b => AV.v (Value.bool b)) hg6_37) rfl),
                          st_run 37 67 true rfl rfl rfl (List.Mem.head _) (op_move _ _ _ _ rfl rfl),
                          st_run 37 67 true rfl rfl rfl (List.Mem.head _) (op_ix _ _ _ _ _ _ _ _ Try.underlying22 sz5 (by decide) rfl rfl rfl (ix_ok hv33).1 (map_lt (ix_ok hv33).2) rfl),
                          st_run 37 67 true rfl rfl rfl (List.Mem.head _) (op_load_e _ _ _ _ _ _ Try.underlying5 rfl rfl rfl (map_get hv34)),
                          st_run 37 67 true rfl rfl rfl (List.Mem.head _) ((Option.some.inj hv35) ▸ op_conv _ _ _ Try.underlying5 Try.underlying3 rfl),
                          st_run 37 67 true rfl rfl rfl (List.Mem.head _) (op_fieldAddr _ _ _ _ 1 0 _ Try.underlying24 rfl sz3 rfl rfl (by decide)),
                          st_run 37 67 true rfl rfl rfl (List.Mem.head _) (op_load _ _ _ _ _ _ Try.underlying3 rfl rfl rfl (Nat.le_of_ble_eq_true rfl) rfl rfl rfl),
                          st_run 37 67 true rfl rfl rfl (List.Mem.head _) (op_bin _ _ _ _ _ rfl rfl rfl),
                          st_plain rfl (op_pick _ _ true _ rfl rfl),
                          st_plain rfl (op_move _ _ _ _ (congrArg (fun b => AV.v (Value.bool b)) hg6_46) rfl),
                          st_run 46 76 true rfl rfl rfl (List.Mem.head _) (op_move _ _ _ _ rfl rfl),
                          st_run 46 76 true rfl rfl rfl (List.Mem.head _) (op_ix _ _ _ _ _ _ _ _ Try.underlying22 sz5 (by decide) rfl rfl rfl (ix_ok hv36).1 (map_lt (ix_ok hv36).2) rfl),
                          st_run 46 76 true rfl rfl rfl (List.Mem.head _) (op_load_e _ _ _ _ _ _ Try.underlying5 rfl rfl rfl (map_get hv37)),
                          st_run 46 76 true rfl rfl rfl (List.Mem.head _) ((Option.some.inj hv38) ▸ op_conv _ _ _ Try.underlying5 Try.underlying3 rfl),
                          st_run 46 76 true rfl rfl rfl (List.Mem.head _) (op_fieldAddr _ _ _ _ 1 0 _ Try.underlying24 rfl sz22 rfl rfl (by decide)),
                          st_run 46 76 true rfl rfl rfl (List.Mem.head _) (op_load _ _ _ _ _ _ Try.underlying22 rfl rfl rfl (Nat.le_of_ble_eq_true rfl) rfl rfl rfl),
                          st_run 46 76 true rfl rfl rfl (List.Mem.head _) (op_len_fl _ _ _ Try.underlying22 rfl (by decide) (map_len _)),
                          st_run 46 76 true rfl rfl rfl (List.Mem.head _) (op_bin _ _ _ _ _ rfl rfl rfl),
                          st_plain rfl (op_pick _ _ true _ rfl rfl),
                          st_plain rfl (op_move _ _ _ _ (congrArg (fun b => AV.v (Value.bool b)) hg6_56) rfl),
                          st_skip 56 86 _ true rfl rfl rfl rfl (List.Mem.head _),
                          st_skip 56 86 _ true rfl rfl rfl rfl (List.Mem.head _),
                          st_skip 56 86 _ true rfl rfl rfl rfl (List.Mem.head _),
                          st_skip 56 86 _ true rfl rfl rfl rfl (List.Mem.head _),
                          st_skip 56 86 _ true rfl rfl rfl rfl (List.Mem.head _),
                          st_skip 56 86 _ true rfl rfl rfl rfl (List.Mem.head _),
                          st_skip 56 86 _ true rfl rfl rfl rfl (List.Mem.head _),
                          st_skip 56 86 _ true rfl rfl rfl rfl (List.Mem.head _),
                          st_skip 56 86 _ true rfl rfl rfl rfl (List.Mem.head _),
                          st_plain rfl (op_pick _ _ false _ rfl rfl),
                          st_plain rfl (op_move _ _ _ _ rfl rfl),
                          st_skip 67 97 _ true rfl rfl rfl rfl (List.Mem.head _),
                          st_plain rfl (op_pick _ _ false _ rfl rfl),
                          st_plain rfl (op_assign _ _ _ _ rfl rfl),
                          trivial⟩ ?_
                      exact hl55 _ (Option.some.inj h).symm
                  · refine ht_anyR (by kernel_rfl) hn (El := (_ :: _ :: _ :: (30, .fl .ro 1 (List.map (Value.int .u8) v7.1)) :: (31, .eref (.slot 30) (v14 * 1)) :: (32, .v (.int .u8 v15)) :: (33, .v (.int .i64 v16)) :: (34, .ptr 1 0) :: (35, .v (.int .i64 f.Kind)) :: (36, .v (.bool (v16 == f.Kind))) :: (37, .v (.bool true)) :: (38, .fl .ro 1 (List.map (Value.int .u8) v7.1)) :: (39, .eref (.slot 38) (v17 * 1)) :: (40, .v (.int .u8 v18)) :: (41, .v (.int .i64 v19)) :: (42, .v (.int .i64 v20)) :: (43, .fl .ro 1 (List.map (Value.int .u8) v7.1)) :: (44, .eref (.slot 43) (v21 * 1)) :: (45, .v (.int .u8 v22)) :: (46, .v (.int .i64 v23)) :: (47, .v (.int .i64 v24)) :: (48, .ptr 1 1) :: (49, .v (.int .i64 f.Number)) :: (50, .v (.bool (v24 == f.Number))) :: (51, .v (.bool (v24 == f.Number))) :: (52, .v (.bool true)) :: (53, .fl .ro 1 (List.map (Value.int .u8) v7.1)) :: (54, .eref (.slot 53) (v25 * 1)) :: (55, .v (.int .u8 v26)) :: (56, .v (.int .i64 v27)) :: (57, .v (.int .i64 v28)) :: (58, .fl .ro 1 (List.map (Value.int .u8) v7.1)) :: (59, .eref (.slot 58) (v29 * 1)) :: (60, .v (.int .u8 v30)) :: (61, .v (.int .i64 v31)) :: (62, .v (.int .i64 v32)) :: (63, .ptr 1 2) :: (64, .v (.int .i64 f.Offset)) :: (65, .v (.bool (v32 == f.Offset))) :: (66, .v (.bool (v32 == f.Offset))) :: (67, .v (.bool true)) :: (68, .fl .ro 1 (List.map (Value.int .u8) v7.1)) :: (69, .eref (.slot 68) (v33 * 1)) :: (70, .v (.int .u8 v34)) :: (71, .v (.int .i64 v35)) :: (72, .ptr 1 3) :: (73, .v (.int .i64 f.Seq)) :: (74, .v (.bool (v35 == f.Seq))) :: (75, .v (.bool (v35 == f.Seq))) :: (76, .v (.bool false)) :: (77, .v undef) :: (78, .v undef) :: (79, .v undef) :: (80, .v undef) :: (81, .v undef) :: (82, .v undef) :: (83, .v undef) :: (84, .v undef) :: (85, .v (.bool false)) :: (86, .v (.bool false)) :: (87, .v undef) :: (88, .v undef) :: (89, .v undef) :: (90, .v undef) :: (91, .v undef) :: (92, .v undef) :: (93, .v undef) :: (94, .v undef) :: (95, .v undef) :: (96, .v (.bool false)) :: (97, .v (.bool false)) :: (98, .v undef) :: (99, .v (.bool false)) :: (2, .v (.bool false)) :: [])) (init := [0, 1, 2]) (fin := [73]) (sps := (⟨[1], [], [3], [(.slot 30)]⟩ :: ⟨[3], [], [4], [(.slot 31)]⟩ :: ⟨[4, 3], [], [5], [(.slot 32)]⟩ :: ⟨[5], [], [6], [(.slot 33)]⟩ :: ⟨[0], [], [7], [(.slot 34)]⟩ :: ⟨[7, 0], [], [8], [(.slot 35)]⟩ :: ⟨[6, 8], [], [9], [(.slot 36)]⟩ :: ⟨[9], [], [10], [(.slot 37)]⟩ :: ⟨[10, 1], [], [11], [(.slot 38)]⟩ :: ⟨[10, 11], [], [12], [(.slot 39)]⟩ :: ⟨[10, 12, 11], [], [13], [(.slot 40)]⟩ :: ⟨[10, 13], [], [14], [(.slot 41)]⟩ :: ⟨[10, 14], [], [15], [(.slot 42)]⟩ :: ⟨[10, 1], [], [16], [(.slot 43)]⟩ :: ⟨[10, 16], [], [17], [(.slot 44)]⟩ :: ⟨[10, 17, 16], [], [18], [(.slot 45)]⟩ :: ⟨[10, 18], [], [19], [(.slot 46)]⟩ :: ⟨[10, 15, 19], [], [20], [(.slot 47)]⟩ :: ⟨[10, 0], [], [21], [(.slot 48)]⟩ :: ⟨[10, 21, 0], [], [22], [(.slot 49)]⟩ :: ⟨[10, 20, 22], [], [23], [(.slot 50)]⟩ :: ⟨[10, 23], [], [24], [(.slot 51)]⟩ :: ⟨[24], [], [25], [(.slot 52)]⟩ :: ⟨[25, 1], [], [26], [(.slot 53)]⟩ :: ⟨[25, 26], [], [27], [(.slot 54)]⟩ :: ⟨[25, 27, 26], [], [28], [(.slot 55)]⟩ :: ⟨[25, 28], [], [29], [(.slot 56)]⟩ :: ⟨[25, 29], [], [30], [(.slot 57)]⟩ :: ⟨[25, 1], [], [31], [(.slot 58)]⟩ :: ⟨[25, 31], [], [32], [(.slot 59)]⟩ :: ⟨[25, 32, 31], [], [33], [(.slot 60)]⟩ :: ⟨[25, 33], [], [34], [(.slot 61)]⟩ :: ⟨[25, 30, 34], [], [35], [(.slot 62)]⟩ :: ⟨[25, 0], [], [36], [(.slot 63)]⟩ :: ⟨[25, 36, 0], [], [37], [(.slot 64)]⟩ :: ⟨[25, 35, 37], [], [38], [(.slot 65)]⟩ :: ⟨[25, 38], [], [39], [(.slot 66)]⟩ :: ⟨[39], [], [40], [(.slot 67)]⟩ :: ⟨[40, 1], [], [41], [(.slot 68)]⟩ :: ⟨[40, 41], [], [42], [(.slot 69)]⟩ :: ⟨[40, 42, 41], [], [43], [(.slot 70)]⟩ :: ⟨[40, 43], [], [44], [(.slot 71)]⟩ :: ⟨[40, 0], [], [45], [(.slot 72)]⟩ :: ⟨[40, 45, 0], [], [46], [(.slot 73)]⟩ :: ⟨[40, 44, 46], [], [47], [(.slot 74)]⟩ :: ⟨[40, 47], [], [48], [(.slot 75)]⟩ :: ⟨[48], [], [49], [(.slot 76)]⟩ :: ⟨[49], [], [50], [(.slot 77)]⟩ :: ⟨[49], [], [51], [(.slot 78)]⟩ :: ⟨[49], [], [52], [(.slot 79)]⟩ :: ⟨[49], [], [53], [(.slot 80)]⟩ :: ⟨[49], [], [54], [(.slot 81)]⟩ :: ⟨[49], [], [55], [(.slot 82)]⟩ :: ⟨[49], [], [56], [(.slot 83)]⟩ :: ⟨[49], [], [57], [(.slot 84)]⟩ :: ⟨[49], [], [58], [(.slot 85)]⟩ :: ⟨[58], [], [59], [(.slot 86)]⟩ :: ⟨[59], [], [60], [(.slot 87)]⟩ :: ⟨[59], [], [61], [(.slot 88)]⟩ :: ⟨[59], [], [62], [(.slot 89)]⟩ :: ⟨[59], [], [63], [(.slot 90)]⟩ :: ⟨[59], [], [64], [(.slot 91)]⟩ :: ⟨[59], [], [65], [(.slot 92)]⟩ :: ⟨[59], [], [66], [(.slot 93)]⟩ :: ⟨[59], [], [67], [(.slot 94)]⟩ :: ⟨[59], [], [68], [(.slot 95)]⟩ :: ⟨[59], [], [69], [(.slot 96)]⟩ :: ⟨[69], [], [70], [(.slot 97)]⟩ :: ⟨[70], [], [71], [(.slot 98)]⟩ :: ⟨[70], [], [72], [(.slot 99)]⟩ :: ⟨[72], [], [73], [(.slot 2)]⟩ :: [])) (es' := [(2, .v (.bool false))]) (by kernel_rfl) rfl rfl
                      ⟨st_plain rfl (op_move _ _ _ _ rfl rfl),
                        st_plain rfl (op_ix _ _ _ _ _ _ _ _ Try.underlying22 sz5 (by decide) rfl rfl rfl (ix_ok hv14).1 (map_lt (ix_ok hv14).2) rfl),
                        st_plain rfl (op_load_e _ _ _ _ _ _ Try.underlying5 rfl rfl rfl (map_get hv15)),
                        st_plain rfl ((Option.some.inj hv16) ▸ op_conv _ _ _ Try.underlying5 Try.underlying3 rfl),
                        st_plain rfl (op_fieldAddr _ _ _ _ 1 0 _ Try.underlying24 rfl sz3 rfl rfl (by decide)),
                        st_plain rfl (op_load _ _ _ _ _ _ Try.underlying3 rfl rfl rfl (Nat.le_of_ble_eq_true rfl) rfl rfl rfl),
                        st_plain rfl (op_bin _ _ _ _ _ rfl rfl rfl),
                        st_plain rfl (op_move _ _ _ _ (congrArg (fun b => AV.v (Value.bool b)) hg6_7) rfl),
                        st_run 7 37 true rfl rfl rfl (List.Mem.head _) (op_move _ _ _ _ rfl rfl),
                        st_run 7 37 true rfl rfl rfl (List.Mem.head _) (op_ix _ _ _ _ _ _ _ _ Try.underlying22 sz5 (by decide) rfl rfl rfl (ix_ok hv17).1 (map_lt (ix_ok hv17).2) rfl),
                        st_run 7 37 true rfl rfl rfl (List.Mem.head _) (op_load_e _ _ _ _ _ _ Try.underlying5 rfl rfl rfl (map_get hv18)),
                        st_run 7 37 true rfl rfl rfl (List.Mem.head _) ((Option.some.inj hv19) ▸ op_conv _ _ _ Try.underlying5 Try.underlying3 rfl),
                        st_run 7 37 true rfl rfl rfl (List.Mem.head _) (op_bin _ _ _ _ _ rfl rfl (shl_ok hv20)),
                        st_run 7 37 true rfl rfl rfl (List.Mem.head _) (op_move _ _ _ _ rfl rfl),
                        st_run 7 37 true rfl rfl rfl (List.Mem.head _) (op_ix _ _ _ _ _ _ _ _ Try.underlying22 sz5 (by decide) rfl rfl rfl (ix_ok hv21).1 (map_lt (ix_ok hv21).2) rfl),
                        st_run 7 37 true rfl rfl rfl (List.Mem.head _) (op_load_e _ _ _ _ _ _ Try.underlying5 rfl rfl rfl (map_get hv22)),
                        st_run 7 37 true rfl rfl rfl (List.Mem.head _) ((Option.some.inj hv23) ▸ op_conv _ _ _ Try.underlying5 Try.underlying3 rfl),
                        st_run 7 37 true rfl rfl rfl (List.Mem.head _) (op_bin _ _ _ _ _ rfl rfl (ibind (f := Value.int .i64) (Option.some.inj hv24))),
                        st_run 7 37 true rfl rfl rfl (List.Mem.head _) (op_fieldAddr _ _ _ _ 1 0 _ Try.underlying24 rfl sz3 rfl rfl (by decide)),
                        st_run 7 37 true rfl rfl rfl (List.Mem.head _) (op_load _ _ _ _ _ _ Try.underlying3 rfl rfl rfl (Nat.le_of_ble_eq_true rfl) rfl rfl rfl),
                        st_run 7 37 true rfl rfl rfl (List.Mem.head _) (op_bin _ _ _ _ _ rfl rfl rfl),
                        st_plain rfl (op_pick _ _ true _ rfl rfl),
                        st_plain rfl (op_move _ _ _ _ (congrArg (fun b => AV.v (Value.bool b)) hg6_22) rfl),
                        st_run 22 52 true rfl rfl rfl (List.Mem.head _) (op_move _ _ _ _ rfl rfl),
                        st_run 22 52 true rfl rfl rfl (List.Mem.head _) (op_ix _ _ _ _ _ _ _ _ Try.underlying22 sz5 (by decide) rfl rfl rfl (ix_ok hv25).1 (map_lt (ix_ok hv25).2) rfl),
                        st_run 22 52 true rfl rfl rfl (List.Mem.head _) (op_load_e _ _ _ _ _ _ Try.underlying5 rfl rfl rfl (map_get hv26)),
                        st_run 22 52 true rfl rfl rfl (List.Mem.head _) ((Option.some.inj hv27) ▸ op_conv _ _ _ Try.underlying5 Try.underlying3 rfl),
                        st_run 22 52 true rfl rfl rfl (List.Mem.head _) (op_bin _ _ _ _ _ rfl rfl (shl_ok hv28)),
                        st_run 22 52 true rfl rfl rfl (List.Mem.head _) (op_move _ _ _ _ rfl rfl),
                        st_run 22 52 true rfl rfl rfl (List.Mem.head _) (op_ix _ _ _ _ _ _ _ _ Try.underlying22 sz5 (by decide) rfl rfl rfl (ix_ok hv29).1 (map_lt (ix_ok hv29).2) rfl),
                        st_run 22 52 true rfl rfl rfl (List.Mem.head _) (op_load_e _ _ _ _ _ _ Try.underlying5 rfl rfl rfl (map_get hv30)),
                        st_run 22 52 true rfl rfl rfl (List.Mem.head _) ((Option.some.inj hv31) ▸ op_conv _ _ _ Try.underlying5 Try.underlying3 rfl),
                        st_run 22 52 true rfl rfl rfl (List.Mem.head _) (op_bin _ _ _ _ _ rfl rfl (ibind (f := Value.int .i64) (Option.some.inj hv32))),
                        st_run 22 52 true rfl rfl rfl (List.Mem.head _) (op_fieldAddr _ _ _ _ 1 0 _ Try.underlying24 rfl sz3 rfl rfl (by decide)),
                        st_run 22 52 true rfl rfl rfl (List.Mem.head _) (op_load _ _ _ _ _ _ Try.underlying3 rfl rfl rfl (Nat.le_of_ble_eq_true rfl) rfl rfl rfl),
                        st_run 22 52 true rfl rfl rfl (List.Mem.head _) (op_bin _ _ _ _ _ rfl rfl rfl),
                        st_plain rfl (op_pick _ _ true _ rfl rfl),
                        st_plain rfl (op_move _ _ _ _ (congrArg (fun b => AV.v (Value.bool b)) hg6_37) rfl),
                        st_run 37 67 true rfl rfl rfl (List.Mem.head _) (op_move _ _ _ _ rfl rfl),
                        st_run 37 67 true rfl rfl rfl (List.Mem.head _) (op_ix _ _ _ _ _ _ _ _ Try.underlying22 sz5 (by decide) rfl rfl rfl (ix_ok hv33).1 (map_lt (ix_ok hv33).2) rfl),
                        st_run 37 67 true rfl rfl rfl (List.Mem.head _) (op_load_e _ _ _ _ _ _ Try.underlying5 rfl rfl rfl (map_get hv34)),
                        st_run 37 67 true rfl rfl rfl (List.Mem.head _) ((Option.some.inj hv35) ▸ op_conv _ _ _ Try.underlying5 Try.underlying3 rfl),
                        st_run 37 67 true rfl rfl rfl (List.Mem.head _) (op_fieldAddr _ _ _ _ 1 0 _ Try.underlying24 rfl sz3 rfl rfl (by decide)),
                        st_run 37 67 true rfl rfl rfl (List.Mem.head _) (op_load _ _ _ _ _ _ Try.underlying3 rfl rfl rfl (Nat.le_of_ble_eq_true rfl) rfl rfl rfl),
                        st_run 37 67 true rfl rfl rfl (List.Mem.head _) (op_bin _ _ _ _ _ rfl rfl rfl),
                        st_plain rfl (op_pick _ _ true _ rfl rfl),
                        st_plain rfl (op_move _ _ _ _ (congrArg (fun b => AV.v (Value.bool b)) hg6_46) rfl),
                        st_skip 46 76 _ true rfl rfl rfl rfl (List.Mem.head _),
                        st_skip 46 76 _ true rfl rfl rfl rfl (List.Mem.head _),
                        st_skip 46 76 _ true rfl rfl rfl rfl (List.Mem.head _),
                        st_skip 46 76 _ true rfl rfl rfl rfl (List.Mem.head _),
                        st_skip 46 76 _ true rfl rfl rfl rfl (List.Mem.head _),
                        st_skip 46 76 _ true rfl rfl rfl rfl (List.Mem.head _),
                        st_skip 46 76 _ true rfl rfl rfl rfl (List.Mem.head _),
                        st_skip 46 76 _ true rfl rfl rfl rfl (List.Mem.head _),
                        st_plain rfl (op_pick _ _ false _ rfl rfl),
                        st_plain rfl (op_move _ _ _ _ rfl rfl),
                        st_skip 56 86 _ true rfl rfl rfl rfl (List.Mem.head _),
                        st_skip 56 86 _ true rfl rfl rfl rfl (List.Mem.head _),
                        st_skip 56 86 _ true rfl rfl rfl rfl (List.Mem.head _),
                        st_skip 56 86 _ true rfl rfl rfl rfl (List.Mem.head _),
                        st_skip 56 86 _ true rfl rfl rfl rfl (List.Mem.head _),
                        st_skip 56 86 _ true rfl rfl rfl rfl (List.Mem.head _),
                        st_skip 56 86 _ true rfl rfl rfl rfl (List.Mem.head _),
                        st_skip 56 86 _ true rfl rfl rfl rfl (List.Mem.head _),
                        st_skip 56 86 _ true rfl rfl rfl rfl (List.Mem.head _),
                        st_plain rfl (op_pick _ _ false _ rfl rfl),
                        st_plain rfl (op_move _ _ _ _ rfl rfl),
                        st_skip 67 97 _ true rfl rfl rfl rfl (List.Mem.head _),
                        st_plain rfl (op_pick _ _ false _ rfl rfl),
                        st_plain rfl (op_assign _ _ _ _ rfl rfl),
                        trivial⟩ ?_
                    exact hl55 _ (Option.some.inj h).symm
                · refine ht_anyR (by kernel_rfl) hn (El := (_ :: _ :: _ :: (30, .fl .ro 1 (List.map (Value.int .u8) v7.1)) :: (31, .eref (.slot 30) (v14 * 1)) :: (32, .v (.int .u8 v15)) :: (33, .v (.int .i64 v16)) :: (34, .ptr 1 0) :: (35, .v (.int .i64 f.Kind)) :: (36, .v (.bool (v16 == f.Kind))) :: (37, .v (.bool true)) :: (38, .fl .ro 1 (List.map (Value.int .u8) v7.1)) :: (39, .eref (.slot 38) (v17 * 1)) :: (40, .v (.int .u8 v18)) :: (41, .v (.int .i64 v19)) :: (42, .v (.int .i64 v20)) :: (43, .fl .ro 1 (List.map (Value.int .u8) v7.1)) :: (44, .eref (.slot 43) (v21 * 1)) :: (45, .v (.int .u8 v22)) :: (46, .v (.int .i64 v23)) :: (47, .v (.int .i64 v24)) :: (48, .ptr 1 1) :: (49, .v (.int .i64 f.Number)) :: (50, .v (.bool (v24 == f.Number))) :: (51, .v (.bool (v24 == f.Number))) :: (52, .v (.bool true)) :: (53, .fl .ro 1 (List.map (Value.int .u8) v7.1)) :: (54, .eref (.slot 53) (v25 * 1)) :: (55, .v (.int .u8 v26)) :: (56, .v (.int .i64 v27)) :: (57, .v (.int .i64 v28)) :: (58, .fl .ro 1 (List.map (Value.int .u8) v7.1)) :: (59, .eref (.slot 58) (v29 * 1)) :: (60, .v (.int .u8 v30)) :: (61, .v (.int .i64 v31)) :: (62, .v (.int .i64 v32)) :: (63, .ptr 1 2) :: (64, .v (.int .i64 f.Offset)) :: (65, .v (.bool (v32 == f.Offset))) :: (66, .v (.bool (v32 == f.Offset))) :: (67, .v (.bool false)) :: (68, .v undef) :: (69, .v undef) :: (70, .v undef) :: (71, .v undef) :: (72, .v undef) :: (73, .v undef) :: (74, .v undef) :: (75, .v (.bool false)) :: (76, .v (.bool false)) :: (77, .v undef) :: (78, .v undef) :: (79, .v undef) :: (80, .v undef) :: (81, .v undef) :: (82, .v undef) :: (83, .v undef) :: (84, .v undef) :: (85, .v (.bool false)) :: (86, .v (.bool false)) :: (87, .v undef) :: (88, .v undef) :: (89, .v undef) :: (90, .v undef) :: (91, .v undef) :: (92, .v undef) :: (93, .v undef) :: (94, .v undef) :: (95, .v undef) :: (96, .v (.bool false)) :: (97, .v (.bool false)) :: (98, .v undef) :: (99, .v (.bool false)) :: (2, .v (.bool false)) :: [])) (init := [0, 1, 2]) (fin := [73]) (sps := (⟨[1], [], [3], [(.slot 30)]⟩ :: ⟨[3], [], [4], [(.slot 31)]⟩ :: ⟨[4, 3], [], [5], [(.slot 32)]⟩ :: ⟨[5], [], [6], [(.slot 33)]⟩ :: ⟨[0], [], [7], [(.slot 34)]⟩ :: ⟨[7, 0], [], [8], [(.slot 35)]⟩ :: ⟨[6, 8], [], [9], [(.slot 36)]⟩ :: ⟨[9], [], [10], [(.slot 37)]⟩ :: ⟨[10, 1], [], [11], [(.slot 38)]⟩ :: ⟨[10, 11], [], [12], [(.slot 39)]⟩ :: ⟨[10, 12, 11], [], [13], [(.slot 40)]⟩ :: ⟨[10, 13], [], [14], [(.slot 41)]⟩ :: ⟨[10, 14], [], [15], [(.slot 42)]⟩ :: ⟨[10, 1], [], [16], [(.slot 43)]⟩ :: ⟨[10, 16], [], [17], [(.slot 44)]⟩ :: ⟨[10, 17, 16], [], [18], [(.slot 45)]⟩ :: ⟨[10, 18], [], [19], [(.slot 46)]⟩ :: ⟨[10, 15, 19], [], [20], [(.slot 47)]⟩ :: ⟨[10, 0], [], [21], [(.slot 48)]⟩ :: ⟨[10, 21, 0], [], [22], [(.slot 49)]⟩ :: ⟨[10, 20, 22], [], [23], [(.slot 50)]⟩ :: ⟨[10, 23], [], [24], [(.slot 51)]⟩ :: ⟨[24], [], [25], [(.slot 52)]⟩ :: ⟨[25, 1], [], [26], [(.slot 53)]⟩ :: ⟨[25, 26], [], [27], [(.slot 54)]⟩ :: ⟨[25, 27, 26], [], [28], [(.slot 55)]⟩ :: ⟨[25, 28], [], [29], [(.slot 56)]⟩ :: ⟨[25, 29], [], [30], [(.slot 57)]⟩ :: ⟨[25, 1], [], [31], [(.slot 58)]⟩ :: ⟨[25, 31], [], [32], [(.slot 59)]⟩ :: ⟨[25, 32, 31], [], [33], [(.slot 60)]⟩ :: ⟨[25, 33], [], [34], [(.slot 61)]⟩ :: ⟨[25, 30, 34], [], [35], [(.slot 62)]⟩ :: ⟨[25, 0], [], [36], [(.slot 63)]⟩ :: ⟨[25, 36, 0], [], [37], [(.slot 64)]⟩ :: ⟨[25, 35, 37], [], [38], [(.slot 65)]⟩ :: ⟨[25, 38], [], [39], [(.slot 66)]⟩ :: ⟨[39], [], [40], [(.slot 67)]⟩ :: ⟨[40], [], [41], [(.slot 68)]⟩ :: ⟨[40], [], [42], [(.slot 69)]⟩ :: ⟨[40], [], [43], [(.slot 70)]⟩ :: ⟨[40], [], [44], [(.slot 71)]⟩ :: ⟨[40], [], [45], [(.slot 72)]⟩ :: ⟨[40], [], [46], [(.slot 73)]⟩ :: ⟨[40], [], [47], [(.slot 74)]⟩ :: ⟨[40], [], [48], [(.slot 75)]⟩ :: ⟨[48], [], [49], [(.slot 76)]⟩ :: ⟨[49], [], [50], [(.slot 77)]⟩ :: ⟨[49], [], [51], [(.slot 78)]⟩ :: ⟨[49], [], [52], [(.slot 79)]⟩ :: ⟨[49], [], [53], [(.slot 80)]⟩ :: ⟨[49], [], [54], [(.slot 81)]⟩ :: ⟨[49], [], [55], [(.slot 82)]⟩ :: ⟨[49], [], [56], [(.slot 83)]⟩ :: ⟨[49], [], [57], [(.slot 84)]⟩ :: ⟨[49], [], [58], [(.slot 85)]⟩ :: ⟨[58], [], [59], [(.slot 86)]⟩ :: ⟨[59], [], [60], [(.slot 87)]⟩ :: ⟨[59], [], [61], [(.slot 88)]⟩ :: ⟨[59], [], [62], [(.slot 89)]⟩ :: ⟨[59], [], [63], [(.slot 90)]⟩ :: ⟨[59], [], [64], [(.slot 91)]⟩ :: ⟨[59], [], [65], [(.slot 92)]⟩ :: ⟨[59], [], [66], [(.slot 93)]⟩ :: ⟨[59], [], [67], [(.slot 94)]⟩ :: ⟨[59], [], [68], [(.slot 95)]⟩ :: ⟨[59], [], [69], [(.slot 96)]⟩ :: ⟨[69], [], [70], [(.slot 97)]⟩ :: ⟨[70], [], [71], [(.slot 98)]⟩ :: ⟨[70], [], [72], [(.slot 99)]⟩ :: ⟨[72], [], [73], [(.slot 2)]⟩ :: [])) (es' := [(2, .v (.bool false))]) (by kernel_rfl) rfl rfl
                    ⟨st_plain rfl (op_move _ _ _ _ rfl rfl),
                      st_plain rfl (op_ix _ _ _ _ _ _ _ _ Try.underlying22 sz5 (by decide) rfl rfl rfl (ix_ok hv14).1 (map_lt (ix_ok hv14).2) rfl),
                      st_plain rfl (op_load_e _ _ _ _ _ _ Try.underlying5 rfl rfl rfl (map_get hv15)),
                      st_plain rfl ((Option.some.inj hv16) ▸ op_conv _ _ _ Try.underlying5 Try.underlying3 rfl),
                      st_plain rfl (op_fieldAddr _ _ _ _ 1 0 _ Try.underlying24 rfl sz3 rfl rfl (by decide)),
                      st_plain rfl (op_load _ _ _ _ _ _ Try.underlying3 rfl rfl rfl (Nat.le_of_ble_eq_true rfl) rfl rfl rfl),
                      st_plain rfl (op_bin _ _ _ _ _ rfl rfl rfl),
                      st_plain rfl (op_move _ _ _ _ (congrArg (fun b => AV.v (Value.bool b)) hg6_7) rfl),
                      st_run 7 37 true rfl rfl rfl (List.Mem.head _) (op_move _ _ _ _ rfl rfl),
                      st_run 7 37 true rfl rfl rfl (List.Mem.head _) (op_ix _ _ _ _ _ _ _ _ Try.underlying22 sz5 (by decide) rfl rfl rfl (ix_ok hv17).1 (map_lt (ix_ok hv17).2) rfl),
                      st_run 7 37 true rfl rfl rfl (List.Mem.head _) (op_load_e _ _ _ _ _ _ Try.underlying5 rfl rfl rfl (map_get hv18)),
                      st_run 7 37 true rfl rfl rfl (List.Mem.head _) ((Option.some.inj hv19) ▸ op_conv _ _ _ Try.underlying5 Try.underlying3 rfl),
                      st_run 7 37 true rfl rfl rfl (List.Mem.head _) (op_bin _ _ _ _ _ rfl rfl (shl_ok hv20)),
                      st_run 7 37 true rfl rfl rfl (List.Mem.head _) (op_move _ _ _ _ rfl rfl),
                      st_run 7 37 true rfl rfl rfl (List.Mem.head _) (op_ix _ _ _ _ _ _ _ _ Try.underlying22 sz5 (by decide) rfl rfl rfl (ix_ok hv21).1 (map_lt (ix_ok hv21).2) rfl),
                      st_run 7 37 true rfl rfl rfl (List.Mem.head _) (op_load_e _ _ _ _ _ _ Try.underlying5 rfl rfl rfl (map_get hv22)),
                      st_run 7 37 true rfl rfl rfl (List.Mem.head _) ((Option.some.inj hv23) ▸ op_conv _ _ _ Try.underlying5 Try.underlying3 rfl),
                      st_run 7 37 true rfl rfl rfl (List.Mem.head _) (op_bin _ _ _ _ _ rfl rfl (ibind (f := Value.int .i64) (Option.some.inj hv24))),
                      st_run 7 37 true rfl rfl rfl (List.Mem.head _) (op_fieldAddr _ _ _ _ 1 0 _ Try.underlying24 rfl sz3 rfl rfl (by decide)),
                      st_run 7 37 true rfl rfl rfl (List.Mem.head _) (op_load _ _ _ _ _ _ Try.underlying3 rfl rfl rfl (Nat.le_of_ble_eq_true rfl) rfl rfl rfl),
                      st_run 7 37 true rfl rfl rfl (List.Mem.head _) (op_bin _ _ _ _ _ rfl rfl rfl),
                      st_plain rfl (op_pick _ _ true _ rfl rfl),
                      st_plain rfl (op_move _ _ _ _ (congrArg (fun b => AV.v (Value.bool b)) hg6_22) rfl),
                      st_run 22 52 true rfl rfl rfl (List.Mem.head _) (op_move _ _ _ _ rfl rfl),
                      st_run 22 52 true rfl rfl rfl (List.Mem.head _) (op_ix _ _ _ _ _ _ _ _ Try.underlying22 sz5 (by decide) rfl rfl rfl (ix_ok hv25).1 (map_lt (ix_ok hv25).2) rfl),
                      st_run 22 52 true rfl rfl rfl (List.Mem.head _) (op_load_e _ _ _ _ _ _ Try.underlying5 rfl rfl rfl (map_get hv26)),
                      st_run 22 52 true rfl rfl rfl (List.Mem.head _) ((Option.some.inj hv27) ▸ op_conv _ _ _ Try.underlying5 Try.underlying3 rfl),
                      st_run 22 52 true rfl rfl rfl (List.Mem.head _) (op_bin _ _ _ _ _ rfl rfl (shl_ok hv28)),
                      st_run 22 52 true rfl rfl rfl (List.Mem.head _) (op_move _ _ _ _ rfl rfl),
                      st_run 22 52 true rfl rfl rfl (List.Mem.head _) (op_ix _ _ _ _ _ _ _ _ Try.underlying22 sz5 (by decide) rfl rfl rfl (ix_ok hv29).1 (map_lt (ix_ok hv29).2) rfl),
                      st_run 22 52 true rfl rfl rfl (List.Mem.head _) (op_load_e _ _ _ _ _ _ Try.underlying5 rfl rfl rfl (map_get hv30)),
                      st_run 22 52 true rfl rfl rfl (List.Mem.head _) ((Option.some.inj hv31) ▸ op_conv _ _ _ Try.underlying5 Try.underlying3 rfl),
                      st_run 22 52 true rfl rfl rfl (List.Mem.head _) (op_bin _ _ _ _ _ rfl rfl (ibind (f := Value.int .i64) (Option.some.inj hv32))),
                      st_run 22 52 true rfl rfl rfl (List.Mem.head _) (op_fieldAddr _ _ _ _ 1 0 _ Try.underlying24 rfl sz3 rfl rfl (by decide)),
                      st_run 22 52 true rfl rfl rfl (List.Mem.head _) (op_load _ _ _ _ _ _ Try.underlying3 rfl rfl rfl (Nat.le_of_ble_eq_true rfl) rfl rfl rfl),
                      st_run 22 52 true rfl rfl rfl (List.Mem.head _) (op_bin _ _ _ _ _ rfl rfl rfl),
                      st_plain rfl (op_pick _ _ true _ rfl rfl),
                      st_plain rfl (op_move _ _ _ _ (congrArg (fun b => AV.v (Value.bool b)) hg6_37) rfl),
                      st_skip 37 67 _ true rfl rfl rfl rfl (List.Mem.head _),
                      st_skip 37 67 _ true rfl rfl rfl rfl (List.Mem.head _),
                      st_skip 37 67 _ true rfl rfl rfl rfl (List.Mem.head _),
                      st_skip 37 67 _ true rfl rfl rfl rfl (List.Mem.head _),
                      st_skip 37 67 _ true rfl rfl rfl rfl (List.Mem.head _),
                      st_skip 37 67 _ true rfl rfl rfl rfl (List.Mem.head _),
                      st_skip 37 67 _ true rfl rfl rfl rfl (List.Mem.head _),
                      st_plain rfl (op_pick _ _ false _ rfl rfl),
                      st_plain rfl (op_move _ _ _ _ rfl rfl),
                      st_skip 46 76 _ true rfl rfl rfl rfl (List.Mem.head _),
                      st_skip 46 76 _ true rfl rfl rfl rfl (List.Mem.head _),
                      st_skip 46 76 _ true rfl rfl rfl rfl (List.Mem.head _),
                      st_skip 46 76 _ true rfl rfl rfl rfl (List.Mem.head _),
                      st_skip 46 76 _ true rfl rfl rfl rfl (List.Mem.head _),
                      st_skip 46 76 _ true rfl rfl rfl rfl (List.Mem.head _),
                      st_skip 46 76 _ true rfl rfl rfl rfl (List.Mem.head _),
                      st_skip 46 76 _ true rfl rfl rfl rfl (List.Mem.head _),
                      st_plain rfl (op_pick _ _ false _ rfl rfl),
                      st_plain rfl (op_move _ _ _ _ rfl rfl),
                      st_skip 56 86 _ true rfl rfl rfl rfl (List.Mem.head _),
                      st_skip 56 86 _ true rfl rfl rfl rfl (List.Mem.head _),
                      st_skip 56 86 _ true rfl rfl rfl rfl (List.Mem.head _),
                      st_skip 56 86 _ true rfl rfl rfl rfl (List.Mem.head _),
                      st_skip 56 86 _ true rfl rfl rfl rfl (List.Mem.head _),
                      st_skip 56 86 _ true rfl rfl rfl rfl (List.Mem.head _),
                      st_skip 56 86 _ true rfl rfl rfl rfl (List.Mem.head _),
                      st_skip 56 86 _ true rfl rfl rfl rfl (List.Mem.head _),
                      st_skip 56 86 _ true rfl rfl rfl rfl (List.Mem.head _),
                      st_plain rfl (op_pick _ _ false _ rfl rfl),
                      st_plain rfl (op_move _ _ _ _ rfl rfl),
                      st_skip 67 97 _ true rfl rfl rfl rfl (List.Mem.head _),
                      st_plain rfl (op_pick _ _ false _ rfl rfl),
                      st_plain rfl (op_assign _ _ _ _ rfl rfl),
                      trivial⟩ ?_
                  exact hl55 _ (Option.some.inj h).symm
              · refine ht_anyR (by kernel_rfl) hn (El := (_ :: _ :: _ :: (30, .fl .ro 1 (List.map (Value.int .u8) v7.1)) :: (31, .eref (.slot 30) (v14 * 1)) :: (32, .v (.int .u8 v15)) :: (33, .v (.int .i64 v16)) :: (34, .ptr 1 0) :: (35, .v (.int .i64 f.Kind)) :: (36, .v (.bool (v16 == f.Kind))) :: (37, .v (.bool true)) :: (38, .fl .ro 1 (List.map (Value.int .u8) v7.1)) :: (39, .eref (.slot 38) (v17 * 1)) :: (40, .v (.int .u8 v18)) :: (41, .v (.int .i64 v19)) :: (42, .v (.int .i64 v20)) :: (43, .fl .ro 1 (List.map (Value.int .u8) v7.1)) :: (44, .eref (.slot 43) (v21 * 1)) :: (45, .v (.int .u8 v22)) :: (46, .v (.int .i64 v23)) :: (47, .v (.int .i64 v24)) :: (48, .ptr 1 1) :: (49, .v (.int .i64 f.Number)) :: (50, .v (.bool (v24 == f.Number))) :: (51, .v (.bool (v24 == f.Number))) :: (52, .v (.bool false)) :: (53, .v undef) :: (54, .v undef) :: (55, .v undef) :: (56, .v undef) :: (57, .v undef) :: (58, .v undef) :: (59, .v undef) :: (60, .v undef) :: (61, .v undef) :: (62, .v undef) :: (63, .v undef) :: (64, .v undef) :: (65, .v undef) :: (66, .v (.bool false)) :: (67, .v (.bool false)) :: (68, .v undef) :: (69, .v undef) :: (70, .v undef) :: (71, .v undef) :: (72, .v undef) :: (73, .v undef) :: (74, .v undef) :: (75, .v (.bool false)) :: (76, .v (.bool false)) :: (77, .v undef) :: (78, .v undef) :: (79, .v undef) :: (80, .v undef) :: (81, .v undef) :: (82, .v undef) :: (83, .v undef) :: (84, .v undef) :: (85, .v (.bool false)) :: (86, .v (.bool false)) :: (87, .v undef) :: (88, .v undef) :: (89, .v undef) :: (90, .v undef) :: (91, .v undef) :: (92, .v undef) :: (93, .v undef) :: (94, .v undef) :: (95, .v undef) :: (96, .v (.bool false)) :: (97, .v (.bool false)) :: (98, .v undef) :: (99, .v (.bool false)) :: (2, .v (.bool false)) :: [])) (init := [0, 1, 2]) (fin := [73]) (sps := (⟨[1], [], [3], [(.slot 30)]⟩ :: ⟨[3], [], [4], [(.slot 31)]⟩ :: ⟨[4, 3], [], [5], [(.slot 32)]⟩ :: ⟨[5], [], [6], [(.slot 33)]⟩ :: ⟨[0], [], [7], [(.slot 34)]⟩ :: ⟨[7, 0], [], [8], [(.slot 35)]⟩ :: ⟨[6, 8], [], [9], [(.slot 36)]⟩ :: ⟨[9], [], [10], [(.slot 37)]⟩ :: ⟨[10, 1], [], [11], [(.slot 38)]⟩ :: ⟨[10, 11], [], [12], [(.slot 39)]⟩ :: ⟨[10, 12, 11], [], [13], [(.slot 40)]⟩ :: ⟨[10, 13], [], [14], [(.slot 41)]⟩ :: ⟨[10, 14], [], [15], [(.slot 42)]⟩ :: ⟨[10, 1], [], [16], [(.slot 43)]⟩ :: ⟨[10, 16], [], [17], [(.slot 44)]⟩ :: ⟨[10, 17, 16], [], [18], [(.slot 45)]⟩ :: ⟨[10, 18], [], [19], [(.slot 46)]⟩ :: ⟨[10, 15, 19], [], [20], [(.slot 47)]⟩ :: ⟨[10, 0], [], [21], [(.slot 48)]⟩ :: ⟨[10, 21, 0], [], [22], [(.slot 49)]⟩ :: ⟨[10, 20, 22], [], [23], [(.slot 50)]⟩ :: ⟨[10, 23], [], [24], [(.slot 51)]⟩ :: ⟨[24], [], [25], [(.slot 52)]⟩ :: ⟨[25], [], [26], [(.slot 53)]⟩ :: ⟨[25], [], [27], [(.slot 54)]⟩ :: ⟨[25], [], [28], [(.slot 55)]⟩ :: ⟨[25], [], [29], [(.slot 56)]⟩ :: ⟨[25], [], [30], [(.slot 57)]⟩ :: ⟨[25], [], [31], [(.slot 58)]⟩ :: ⟨[25], [], [32], [(.slot 59)]⟩ :: ⟨[25], [], [33], [(.slot 60)]⟩ :: ⟨[25], [], [34], [(.slot 61)]⟩ :: ⟨[25], [], [35], [(.slot 62)]⟩ :: ⟨[25], [], [36], [(.slot 63)]⟩ :: ⟨[25], [], [37], [(.slot 64)]⟩ :: ⟨[25], [], [38], [(.slot 65)]⟩ :: ⟨[25], [], [39], [(.slot 66)]⟩ :: ⟨[39], [], [40], [(.slot 67)]⟩ :: ⟨[40], [], [41], [(.slot 68)]⟩ :: ⟨[40], [], [42], [(.slot 69)]⟩ :: ⟨[40], [], [43], [(.slot 70)]⟩ :: ⟨[40], [], [44], [(.slot 71)]⟩ :: ⟨[40], [], [45], [(.slot 72)]⟩ :: ⟨[40], [], [46], [(.slot 73)]⟩ :: ⟨[40], [], [47], [(.slot 74)]⟩ :: ⟨[40], [], [48], [(.slot 75)]⟩ :: ⟨[48], [], [49], [(.slot 76)]⟩ :: ⟨[49], [], [50], [(.slot 77)]⟩ :: ⟨[49], [], [51], [(.slot 78)]⟩ :: ⟨[49], [], [52], [(.slot 79)]⟩ :: ⟨[49], [], [53], [(.slot 80)]⟩ :: ⟨[49], [], [54], [(.slot 81)]⟩ :: ⟨[49], [], [55], [(.slot 82)]⟩ :: ⟨[49], [], [56], [(.slot 83)]⟩ :: ⟨[49], [], [57], [(.slot 84)]⟩ :: ⟨[49], [], [58], [(.slot 85)]⟩ :: ⟨[58], [], [59], [(.slot 86)]⟩ :: ⟨[59], [], [60], [(.slot 87)]⟩ :: ⟨[59], [], [61], [(.slot 88)]⟩ :: ⟨[59], [], [62], [(.slot 89)]⟩ :: ⟨[59], [], [63], [(.slot 90)]⟩ :: ⟨[59], [], [64], [(.slot 91)]⟩ :: ⟨[59], [], [65], [(.slot 92)]⟩ :: ⟨[59], [], [66], [(.slot 93)]⟩ :: ⟨[59], [], [67], [(.slot 94)]⟩ :: ⟨[59], [], [68], [(.slot 95)]⟩ :: ⟨[59], [], [69], [(.slot 96)]⟩ :: ⟨[69], [], [70], [(.slot 97)]⟩ :: ⟨[70], [], [71], [(.slot 98)]⟩ :: ⟨[70], [], [72], [(.slot 99)]⟩ :: ⟨[72], [], [73], [(.slot 2)]⟩ :: [])) (es' := [(2, .v (.bool false))]) (by kernel_rfl) rfl rfl
                  ⟨st_plain rfl (op_move _ _ _ _ rfl rfl),
                    st_plain rfl (op_ix _ _ _ _ _ _ _ _ Try.underlying22 sz5 (by decide) rfl rfl rfl (ix_ok hv14).1 (map_lt (ix_ok hv14).2) rfl),
                    st_plain rfl (op_load_e _ _ _ _ _ _ Try.underlying5 rfl rfl rfl (map_get hv15)),
                    st_plain rfl ((Option.some.inj hv16) ▸ op_conv _ _ _ Try.underlying5 Try.underlying3 rfl),
                    st_plain rfl (op_fieldAddr _ _ _ _ 1 0 _ Try.underlying24 rfl sz3 rfl rfl (by decide)),
                    st_plain rfl (op_load _ _ _ _ _ _ Try.underlying3 rfl rfl rfl (Nat.le_of_ble_eq_true rfl) rfl rfl rfl),
                    st_plain rfl (op_bin _ _ _ _ _ rfl rfl rfl),
                    st_plain rfl (op_move _ _ _ _ (congrArg (fun b => AV.v (Value.bool b)) hg6_7) rfl),
                    st_run 7 37 true rfl rfl rfl (List.Mem.head _) (op_move _ _ _ _ rfl rfl),
                    st_run 7 37 true rfl rfl rfl (List.Mem.head _) (op_ix _ _ _ _ _ _ _ _ Try.underlying22 sz5 (by decide) rfl rfl rfl (ix_ok hv17).1 (map_lt (ix_ok hv17).2) rfl),
                    st_run 7 37 true rfl rfl rfl (List.Mem.head _) (op_load_e _ _ _ _ _ _ Try.underlying5 rfl rfl rfl (map_get hv18)),
                    st_run 7 37 true rfl rfl rfl (List.Mem.head _) ((Option.some.inj hv19) ▸ op_conv _ _ _ Try.underlying5 Try.underlying3 rfl),
                    st_run 7 37 true rfl rfl rfl (List.Mem.head _) (op_bin _ _ _ _ _ rfl rfl (shl_ok hv20)),
                    st_run 7 37 true rfl rfl rfl (List.Mem.head _) (op_move _ _ _ _ rfl rfl),
                    st_run 7 37 true rfl rfl rfl (List.Mem.head _) (op_ix _ _ _ _ _ _ _ _ Try.underlying22 sz5 (by decide) rfl rfl rfl (ix_ok hv21).1 (map_lt (ix_ok hv21).2) rfl),
                    st_run 7 37 true rfl rfl rfl (List.Mem.head _) (op_load_e _ _ _ _ _ _ Try.underlying5 rfl rfl rfl (map_get hv22)),
                    st_run 7 37 true rfl rfl rfl (List.Mem.head _) ((Option.some.inj hv23) ▸ op_conv _ _ _ Try.underlying5 Try.underlying3 rfl),
                    st_run 7 37 true rfl rfl rfl (List.Mem.head _) (op_bin _ _ _ _ _ rfl rfl (ibind (f := Value.int .i64) (Option.some.inj hv24))),
                    st_run 7 37 true rfl rfl rfl (List.Mem.head _) (op_fieldAddr _ _ _ _ 1 0 _ Try.underlying24 rfl sz3 rfl rfl (by decide)),
                    st_run 7 37 true rfl rfl rfl (List.Mem.head _) (op_load _ _ _ _ _ _ Try.underlying3 rfl rfl rfl (Nat.le_of_ble_eq_true rfl) rfl rfl rfl),
                    st_run 7 37 true rfl rfl rfl (List.Mem.head _) (op_bin _ _ _ _ _ rfl rfl rfl),
                    st_plain rfl (op_pick _ _ true _ rfl rfl),
                    st_plain rfl (op_move _ _ _ _ (congrArg (fun b => AV.v (Value.bool b)) hg6_22) rfl),
                    st_skip 22 52 _ true rfl rfl rfl rfl (List.Mem.head _),
                    st_skip 22 52 _ true rfl rfl rfl rfl (List.Mem.head _),
                    st_skip 22 52 _ true rfl rfl rfl rfl (List.Mem.head _),
                    st_skip 22 52 _ true rfl rfl rfl rfl (List.Mem.head _),
                    st_skip 22 52 _ true rfl rfl rfl rfl (List.Mem.head _),
                    st_skip 22 52 _ true rfl rfl rfl rfl (List.Mem.head _),
                    st_skip 22 52 _ true rfl rfl rfl rfl (List.Mem.head _),
                    st_skip 22 52 _ true rfl rfl rfl rfl (List.Mem.head _),
                    st_skip 22 52 _ true rfl rfl rfl rfl (List.Mem.head _),
                    st_skip 22 52 _ true rfl rfl rfl rfl (List.Mem.head _),
                    st_skip 22 52 _ true rfl rfl rfl rfl (List.Mem.head _),
                    st_skip 22 52 _ true rfl rfl rfl rfl (List.Mem.head _),
                    st_skip 22 52 _ true rfl rfl rfl rfl (List.Mem.head _),
                    st_plain rfl (op_pick _ _ false _ rfl rfl),
                    st_plain rfl (op_move _ _ _ _ rfl rfl),
                    st_skip 37 67 _ true rfl rfl rfl rfl (List.Mem.head _),
                    st_skip 37 67 _ true rfl rfl rfl rfl (List.Mem.head _),
                    st_skip 37 67 _ true rfl rfl rfl rfl (List.Mem.head _),
                    st_skip 37 67 _ true rfl rfl rfl rfl (List.Mem.head _),
                    st_skip 37 67 _ true rfl rfl rfl rfl (List.Mem.head _),
                    st_skip 37 67 _ true rfl rfl rfl rfl (List.Mem.head _),
                    st_skip 37 67 _ true rfl rfl rfl rfl (List.Mem.head _),
                    st_plain rfl (op_pick _ _ false _ rfl rfl),
                    st_plain rfl (op_move _ _ _ _ rfl rfl),
                    st_skip 46 76 _ true rfl rfl rfl rfl (List.Mem.head _),
                    st_skip 46 76 _ true rfl rfl rfl rfl (List.Mem.head _),
                    st_skip 46 76 _ true rfl rfl rfl rfl (List.Mem.head _),
                    st_skip 46 76 _ true rfl rfl rfl rfl (List.Mem.head _),
                    st_skip 46 76 _ true rfl rfl rfl rfl (List.Mem.head _),
                    st_skip 46 76 _ true rfl rfl rfl rfl (List.Mem.head _),
                    st_skip 46 76 _ true rfl rfl rfl rfl (List.Mem.head _),
                    st_skip 46 76 _ true rfl rfl rfl rfl (List.Mem.head _),
                    st_plain rfl (op_pick _ _ false _ rfl rfl),
                    st_plain rfl (op_move _ _ _ _ rfl rfl),
                    st_skip 56 86 _ true rfl rfl rfl rfl (List.Mem.head _),
                    st_skip 56 86 _ true rfl rfl rfl rfl (List.Mem.head _),
                    st_skip 56 86 _ true rfl rfl rfl rfl (List.Mem.head _),
                    st_skip 56 86 _ true rfl rfl rfl rfl (List.Mem.head _),
                    st_skip 56 86 _ true rfl rfl rfl rfl (List.Mem.head _),
                    st_skip 56 86 _ true rfl rfl rfl rfl (List.Mem.head _),
                    st_skip 56 86 _ true rfl rfl rfl rfl (List.Mem.head _),
                    st_skip 56 86 _ true rfl rfl rfl rfl (List.Mem.head _),
                    st_skip 56 86 _ true rfl rfl rfl rfl (List.Mem.head _),
                    st_plain rfl (op_pick _ _ false _ rfl rfl),
                    st_plain rfl (op_move _ _ _ _ rfl rfl),
                    st_skip 67 97 _ true rfl rfl rfl rfl (List.Mem.head _),
                    st_plain rfl (op_pick _ _ false _ rfl rfl),
                    st_plain rfl (op_assign _ _ _ _ rfl rfl),
                    trivial⟩ ?_
                exact hl55 _ (Option.some.inj h).symm
            · refine ht_anyR (by kernel_rfl) hn (El := (_ :: _ :: _ :: (30, .fl .ro 1 (List.map (Value.int .u8) v7.1)) :: (31, .eref (.slot 30) (v14 * 1)) :: (32, .v (.int .u8 v15)) :: (33, .v (.int .i64 v16)) :: (34, .ptr 1 0) :: (35, .v (.int .i64 f.Kind)) :: (36, .v (.bool (v16 == f.Kind))) :: (37, .v (.bool false)) :: (38, .v undef) :: (39, .v undef) :: (40, .v undef) :: (41, .v undef) :: (42, .v undef) :: (43, .v undef) :: (44, .v undef) :: (45, .v undef) :: (46, .v undef) :: (47, .v undef) :: (48, .v undef) :: (49, .v undef) :: (50, .v undef) :: (51, .v (.bool false)) :: (52, .v (.bool false)) :: (53, .v undef) :: (54, .v undef) :: (55, .v undef) :: (56, .v undef) :: (57, .v undef) :: (58, .v undef) :: (59, .v undef) :: (60, .v undef) :: (61, .v undef) :: (62, .v undef) :: (63, .v undef) :: (64, .v undef) :: (65, .v undef) :: (66, .v (.bool false)) :: (67, .v (.bool false)) :: (68, .v undef) :: (69, .v undef) :: (70, .v undef) :: (71, .v undef) :: (72, .v undef) :: (73, .v undef) :: (74, .v undef) :: (75, .v (.bool false)) :: (76, .v (.bool false)) :: (77, .v undef) :: (78, .v undef) :: (79, .v undef) :: (80, .v undef) :: (81, .v undef) :: (82, .v undef) :: (83, .v undef) :: (84, .v undef) :: (85, .v (.bool false)) :: (86, .v (.bool false)) :: (87, .v undef) :: (88, .v undef) :: (89, .v undef) :: (90, .v undef) :: (91, .v undef) :: (92, .v undef) :: (93, .v undef) :: (94, .v undef) :: (95, .v undef) :: (96, .v (.bool false)) :: (97, .v (.bool false)) :: (98, .v undef) :: (99, .v (.bool false)) :: (2, .v (.bool false)) :: [])) (init := [0, 1, 2]) (fin := [73]) (sps := (⟨[1], [], [3], [(.slot 30)]⟩ :: ⟨[3], [], [4], [(.slot 31)]⟩ :: ⟨[4, 3], [], [5], [(.slot 32)]⟩ :: ⟨[5], [], [6], [(.slot 33)]⟩ :: ⟨[0], [], [7], [(.slot 34)]⟩ :: ⟨[7, 0], [], [8], [(.slot 35)]⟩ :: ⟨[6, 8], [], [9], [(.slot 36)]⟩ :: ⟨[9], [], [10], [(.slot 37)]⟩ :: ⟨[10], [], [11], [(.slot 38)]⟩ :: ⟨[10], [], [12], [(.slot 39)]⟩ :: ⟨[10], [], [13], [(.slot 40)]⟩ :: ⟨[10], [], [14], [(.slot 41)]⟩ :: ⟨[10], [], [15], [(.slot 42)]⟩ :: ⟨[10], [], [16], [(.slot 43)]⟩ :: ⟨[10], [], [17], [(.slot 44)]⟩ :: ⟨[10], [], [18], [(.slot 45)]⟩ :: ⟨[10], [], [19], [(.slot 46)]⟩ :: ⟨[10], [], [20], [(.slot 47)]⟩ :: ⟨[10], [], [21], [(.slot 48)]⟩ :: ⟨[10], [], [22], [(.slot 49)]⟩ :: ⟨[10], [], [23], [(.slot 50)]⟩ :: ⟨[10], [], [24], [(.slot 51)]⟩ :: ⟨[24], [], [25], [(.slot 52)]⟩ :: ⟨[25], [], [26], [(.slot 53)]⟩ :: ⟨[25], [], [27], [(.slot 54)]⟩ :: ⟨[25], [], [28], [(.slot 55)]⟩ :: ⟨[25], [], [29], [(.slot 56)]⟩ :: ⟨[25], [], [30], [(.slot 57)]⟩ :: ⟨[25], [], [31], [(.slot 58)]⟩ :: ⟨[25], [], [32], [(.slot 59)]⟩ :: ⟨[25], [], [33], [(.slot 60)]⟩ :: ⟨[25], [], [34], [(.slot 61)]⟩ :: ⟨[25], [], [35], [(.slot 62)]⟩ :: ⟨[25], [], [36], [(.slot 63)]⟩ :: ⟨[25], [], [37], [(.slot 64)]⟩ :: ⟨[25], [], [38], [(.slot 65)]⟩ :: ⟨[25], [], [39], [(.slot 66)]⟩ :: ⟨[39], [], [40], [(.slot 67)]⟩ :: ⟨[40], [], [41], [(.slot 68)]⟩ :: ⟨[40], [], [42], [(.slot 69)]⟩ :: ⟨[40], [], [43], [(.slot 70)]⟩ :: ⟨[40], [], [44], [(.slot 71)]⟩ :: ⟨[40], [], [45], [(.slot 72)]⟩ :: ⟨[40], [], [46], [(.slot 73)]⟩ :: ⟨[40], [], [47], [(.slot 74)]⟩ :: ⟨[40], [], [48], [(.slot 75)]⟩ :: ⟨[48], [], [49], [(.slot 76)]⟩ :: ⟨[49], [], [50], [(.slot 77)]⟩ :: ⟨[49], [], [51], [(.slot 78)]⟩ :: ⟨[49], [], [52], [(.slot 79)]⟩ :: ⟨[49], [], [53], [(.slot 80)]⟩ :: ⟨[49], [], [54], [(.slot 81)]⟩ :: ⟨[49], [], [55], [(.slot 82)]⟩ :: ⟨[49], [], [56], [(.slot 83)]⟩ :: ⟨[49], [], [57], [(.slot 84)]⟩ :: ⟨[49], [], [58], [(.slot 85)]⟩ :: ⟨[58], [], [59], [(.slot 86)]⟩ :: ⟨[59], [], [60], [(.slot 87)]⟩ :: ⟨[59], [], [61], [(.slot 88)]⟩ :: ⟨[59], [], [62], [(.slot 89)]⟩ :: ⟨[59], [], [63], [(.slot 90)]⟩ :: ⟨[59], [], [64], [(.slot 91)]⟩ :: ⟨[59], [], [65], [(.slot 92)]⟩ :: ⟨[59], [], [66], [(.slot 93)]⟩ :: ⟨[59], [], [67], [(.slot 94)]⟩ :: ⟨[59], [], [68], [(.slot 95)]⟩ :: ⟨[59], [], [69], [(.slot 96)]⟩ :: ⟨[69], [], [70], [(.slot 97)]⟩ :: ⟨[70], [], [71], [(.slot 98)]⟩ :: ⟨[70], [], [72], [(.slot 99)]⟩ :: ⟨[72], [], [73], [(.slot 2)]⟩ :: [])) (es' := [(2, .v (.bool false))]) (by kernel_rfl) rfl rfl
                ⟨st_plain rfl (op_move _ _ _ _ rfl rfl),
                  st_plain rfl (op_ix _ _ _ _ _ _ _ _ Try.underlying22 sz5 (by decide) rfl rfl rfl (ix_ok hv14).1 (map_lt (ix_ok hv14).2) rfl),
                  st_plain rfl (op_load_e _ _ _ _ _ _ Try.underlying5 rfl rfl rfl (map_get hv15)),
                  st_plain rfl ((Option.some.inj hv16) ▸ op_conv _ _ _ Try.underlying5 Try.underlying3 rfl),
                  st_plain rfl (op_fieldAddr _ _ _ _ 1 0 _ Try.underlying24 rfl sz3 rfl rfl (by decide)),
                  st_plain rfl (op_load _ _ _ _ _ _ Try.underlying3 rfl rfl rfl (Nat.le_of_ble_eq_true rfl) rfl rfl rfl),
                  st_plain rfl (op_bin _ _ _ _ _ rfl rfl rfl),
                  st_plain rfl (op_move _ _ _ _ (congrArg (fun b => AV.v (Value.bool b)) hg6_7) rfl),
                  st_skip 7 37 _ true rfl rfl rfl rfl (List.Mem.head _),
                  st_skip 7 37 _ true rfl rfl rfl rfl (List.Mem.head _),
                  st_skip 7 37 _ true rfl rfl rfl rfl (List.Mem.head _),
                  st_skip 7 37 _ true rfl rfl rfl rfl (List.Mem.head _),
                  st_skip 7 37 _ true rfl rfl rfl rfl (List.Mem.head _),
                  st_skip 7 37 _ true rfl rfl rfl rfl (List.Mem.head _),
                  st_skip 7 37 _ true rfl rfl rfl rfl (List.Mem.head _),
                  st_skip 7 37 _ true rfl rfl rfl rfl (List.Mem.head _),
                  st_skip 7 37 _ true rfl rfl rfl rfl (List.Mem.head _),
                  st_skip 7 37 _ true rfl rfl rfl rfl (List.Mem.head _),
                  st_skip 7 37 _ true rfl rfl rfl rfl (List.Mem.head _),
                  st_skip 7 37 _ true rfl rfl rfl rfl (List.Mem.head _),
                  st_skip 7 37 _ true rfl rfl rfl rfl (List.Mem.head _),
                  st_plain rfl (op_pick _ _ false _ rfl rfl),
                  st_plain rfl (op_move _ _ _ _ rfl rfl),
                  st_skip 22 52 _ true rfl rfl rfl rfl (List.Mem.head _),
                  st_skip 22 52 _ true rfl rfl rfl rfl (List.Mem.head _),
                  st_skip 22 52 _ true rfl rfl rfl rfl (List.Mem.head _),
                  st_skip 22 52 _ true rfl rfl rfl rfl (List.Mem.head _),
                  st_skip 22 52 _ true rfl rfl rfl rfl (List.Mem.head _),
                  st_skip 22 52 _ true rfl rfl rfl rfl (List.Mem.head _),
                  st_skip 22 52 _ true rfl rfl rfl rfl (List.Mem.head _),
                  st_skip 22 52 _ true rfl rfl rfl rfl (List.Mem.head _),
                  st_skip 22 52 _ true rfl rfl rfl rfl (List.Mem.head _),
                  st_skip 22 52 _ true rfl rfl rfl rfl (List.Mem.head _),
                  st_skip 22 52 _ true rfl rfl rfl rfl (List.Mem.head _),
                  st_skip 22 52 _ true rfl rfl rfl rfl (List.Mem.head _),
                  st_skip 22 52 _ true rfl rfl rfl rfl (List.Mem.head _),
                  st_plain rfl (op_pick _ _ false _ rfl rfl),
                  st_plain rfl (op_move _ _ _ _ rfl rfl),
                  st_skip 37 67 _ true rfl rfl rfl rfl (List.Mem.head _),
                  st_skip 37 67 _ true rfl rfl rfl rfl (List.Mem.head _),
                  st_skip 37 67 _ true rfl rfl rfl rfl (List.Mem.head _),
                  st_skip 37 67 _ true rfl rfl rfl rfl (List.Mem.head _),
                  st_skip 37 67 _ true rfl rfl rfl rfl (List.Mem.head _),
                  st_skip 37 67 _ true rfl rfl rfl rfl (List.Mem.head _),
                  st_skip 37 67 _ true rfl rfl rfl rfl (List.Mem.head _),
                  st_plain rfl (op_pick _ _ false _ rfl rfl),
                  st_plain rfl (op_move _ _ _ _ rfl rfl),
                  st_skip 46 76 _ true rfl rfl rfl rfl (List.Mem.head _),
                  st_skip 46 76 _ true rfl rfl rfl rfl (List.Mem.head _),
                  st_skip 46 76 _ true rfl rfl rfl rfl (List.Mem.head _),
                  st_skip 46 76 _ true rfl rfl rfl rfl (List.Mem.head _),
                  st_skip 46 76 _ true rfl rfl rfl rfl (List.Mem.head _),
                  st_skip 46 76 _ true rfl rfl rfl rfl (List.Mem.head _),
                  st_skip 46 76 _ true rfl rfl rfl rfl (List.Mem.head _),
                  st_skip 46 76 _ true rfl rfl rfl rfl (List.Mem.head _),
                  st_plain rfl (op_pick _ _ false _ rfl rfl),
                  st_plain rfl (op_move _ _ _ _ rfl rfl),
                  st_skip 56 86 _ true rfl rfl rfl rfl (List.Mem.head _),
                  st_skip 56 86 _ true rfl rfl rfl rfl (List.Mem.head _),
                  st_skip 56 86 _ true rfl rfl rfl rfl (List.Mem.head _),
                  st_skip 56 86 _ true rfl rfl rfl rfl (List.Mem.head _),
                  st_skip 56 86 _ true rfl rfl rfl rfl (List.Mem.head _),
                  st_skip 56 86 _ true rfl rfl rfl rfl (List.Mem.head _),
                  st_skip 56 86 _ true rfl rfl rfl rfl (List.Mem.head _),
                  st_skip 56 86 _ true rfl rfl rfl rfl (List.Mem.head _),
                  st_skip 56 86 _ true rfl rfl rfl rfl (List.Mem.head _),
                  st_plain rfl (op_pick _ _ false _ rfl rfl),
                  st_plain rfl (op_move _ _ _ _ rfl rfl),
                  st_skip 67 97 _ true rfl rfl rfl rfl (List.Mem.head _),
                  st_plain rfl (op_pick _ _ false _ rfl rfl),
                  st_plain rfl (op_assign _ _ _ _ rfl rfl),
                  trivial⟩ ?_
              exact hl55 _ (Option.some.inj h).symm
      · intro u46 h hl47 hr48
        refine cond_some h (fun hg4_2 h => ?_) (fun hg4_2 h => ?_)
        · refine ht_seqR hn (El := [_, _, _, (19, .v (.int .i64 v7.2)), (20, .v (.bool (v7.2 != 0))), (21, .v (.bool true)), (22, .v undef), (23, .v undef), (24, .v undef), (25, .v undef), (26, .v undef), (27, .v undef), (28, .v undef), (29, .v (.bool true))]) (init := [0, 1, 2]) (fin := [0, 1, 13]) (sps := [⟨[2], [], [3], [(.slot 19)]⟩, ⟨[3], [], [4], [(.slot 20)]⟩, ⟨[4], [], [5], [(.slot 21)]⟩, ⟨[5], [], [6], [(.slot 22)]⟩, ⟨[5], [], [7], [(.slot 23)]⟩, ⟨[5], [], [8], [(.slot 24)]⟩, ⟨[5], [], [9], [(.slot 25)]⟩, ⟨[5], [], [10], [(.slot 26)]⟩, ⟨[5], [], [11], [(.slot 27)]⟩, ⟨[5], [], [12], [(.slot 28)]⟩, ⟨[5], [], [13], [(.slot 29)]⟩]) (es' := [(_, _), (_, _), (29, .v (.bool true))]) (by kernel_rfl) rfl rfl
            ⟨st_plain rfl (op_move _ _ _ _ rfl rfl),
              st_plain rfl (op_bin _ _ _ _ _ rfl rfl rfl),
              st_plain rfl (op_move _ _ _ _ (congrArg (fun b => AV.v (Value.bool b)) hg4_2) rfl),
              st_skip 2 21 _ false rfl rfl rfl rfl (List.Mem.head _),
              st_skip 2 21 _ false rfl rfl rfl rfl (List.Mem.head _),
              st_skip 2 21 _ false rfl rfl rfl rfl (List.Mem.head _),
              st_skip 2 21 _ false rfl rfl rfl rfl (List.Mem.head _),
              st_skip 2 21 _ false rfl rfl rfl rfl (List.Mem.head _),
              st_skip 2 21 _ false rfl rfl rfl rfl (List.Mem.head _),
              st_skip 2 21 _ false rfl rfl rfl rfl (List.Mem.head _),
              st_plain rfl (op_pick _ _ true _ rfl rfl),
              trivial⟩ ?_
          exact hl47 _ (Option.some.inj h).symm
        · obtain ⟨v8, hv8, h⟩ := bind_some h
          refine ht_seqR hn (El := [_, _, _, (19, .v (.int .i64 v7.2)), (20, .v (.bool (v7.2 != 0))), (21, .v (.bool false)), (22, .fl .ro 1 (List.map (Value.int .u8) v7.1)), (23, .v (.int .i64 (v7.1.length : Int))), (24, .ptr 1 4), (25, .fl .shr 1 (List.map (Value.int .u8) f.Data)), (26, .v (.int .i64 (f.Data.length : Int))), (27, .v (.int .i64 v8)), (28, .v (.bool (((v7.1.length : Int) != v8)))), (29, .v (.bool (((v7.1.length : Int) != v8))))]) (init := [0, 1, 2]) (fin := [0, 1, 13]) (sps := [⟨[2], [], [3], [(.slot 19)]⟩, ⟨[3], [], [4], [(.slot 20)]⟩, ⟨[4], [], [5], [(.slot 21)]⟩, ⟨[5, 1], [], [6], [(.slot 22)]⟩, ⟨[5, 6], [], [7], [(.slot 23)]⟩, ⟨[5, 0], [], [8], [(.slot 24)]⟩, ⟨[5, 8, 0], [], [9], [(.slot 25)]⟩, ⟨[5, 9], [], [10], [(.slot 26)]⟩, ⟨[5, 10], [], [11], [(.slot 27)]⟩, ⟨[5, 7, 11], [], [12], [(.slot 28)]⟩, ⟨[5, 12], [], [13], [(.slot 29)]⟩]) (es' := [(_, _), (_, _), (29, .v (.bool (((v7.1.length : Int) != v8))))]) (by kernel_rfl) rfl rfl
            ⟨st_plain rfl (op_move _ _ _ _ rfl rfl),
              st_plain rfl (op_bin _ _ _ _ _ rfl rfl rfl),
              st_plain rfl (op_move _ _ _ _ (congrArg (fun b => AV.v (Value.bool b)) hg4_2) rfl),
              st_run 2 21 false rfl rfl rfl (List.Mem.head _) (op_move _ _ _ _ rfl rfl),
              st_run 2 21 false rfl rfl rfl (List.Mem.head _) (op_len_fl _ _ _ Try.underlying22 rfl (by decide) (map_len _)),
              st_run 2 21 false rfl rfl rfl (List.Mem.head _) (op_fieldAddr _ _ _ _ 1 0 _ Try.underlying24 rfl sz22 rfl rfl (by decide)),
              st_run 2 21 false rfl rfl rfl (List.Mem.head _) (op_load _ _ _ _ _ _ Try.underlying22 rfl rfl rfl (Nat.le_of_ble_eq_true rfl) rfl rfl rfl),
              st_run 2 21 false rfl rfl rfl (List.Mem.head _) (op_len_fl _ _ _ Try.underlying22 rfl (by decide) (map_len _)),
              st_run 2 21 false rfl rfl rfl (List.Mem.head _) (op_bin _ _ _ _ _ rfl rfl (ibind (f := Value.int .i64) (Option.some.inj hv8))),
              st_run 2 21 false rfl rfl rfl (List.Mem.head _) (op_bin _ _ _ _ _ rfl rfl rfl),
              st_plain rfl (op_pick _ _ false _ rfl rfl),
              trivial⟩ ?_
          exact hl47 _ (Option.some.inj h).symm
  · intro u41 h hl42 hr43
    refine cond_some h (fun hg1_4 h => ?_) (fun hg1_4 h => ?_)
    · refine ht_seqR hn (El := [_, (5, .ptr 1 4), (6, .fl .shr 1 (List.map (Value.int .u8) f.Data)), (7, .v (.int .i64 (f.Data.length : Int))), (8, .v (.bool ((decide (300 < (f.Data.length : Int)))))), (9, .v (.bool true)), (10, .v undef), (11, .v undef), (12, .v undef), (13, .v (.bool true))]) (init := [0]) (fin := [0, 9]) (sps := [⟨[0], [], [1], [(.slot 5)]⟩, ⟨[1, 0], [], [2], [(.slot 6)]⟩, ⟨[2], [], [3], [(.slot 7)]⟩, ⟨[3], [], [4], [(.slot 8)]⟩, ⟨[4], [], [5], [(.slot 9)]⟩, ⟨[5], [], [6], [(.slot 10)]⟩, ⟨[5], [], [7], [(.slot 11)]⟩, ⟨[5], [], [8], [(.slot 12)]⟩, ⟨[5], [], [9], [(.slot 13)]⟩]) (es' := [(_, _), (13, .v (.bool true))]) (by kernel_rfl) rfl rfl
        ⟨st_plain rfl (op_fieldAddr _ _ _ _ 1 0 _ Try.underlying24 rfl sz22 rfl rfl (by decide)),
          st_plain rfl (op_load _ _ _ _ _ _ Try.underlying22 rfl rfl rfl (Nat.le_of_ble_eq_true rfl) rfl rfl rfl),
          st_plain rfl (op_len_fl _ _ _ Try.underlying22 rfl (by decide) (map_len _)),
          st_plain rfl (op_bin _ _ _ _ _ rfl rfl rfl),
          st_plain rfl (op_move _ _ _ _ (congrArg (fun b => AV.v (Value.bool b)) hg1_4) rfl),
          st_skip 4 9 _ false rfl rfl rfl rfl (List.Mem.head _),
          st_skip 4 9 _ false rfl rfl rfl rfl (List.Mem.head _),
          st_skip 4 9 _ false rfl rfl rfl rfl (List.Mem.head _),
          st_plain rfl (op_pick _ _ true _ rfl rfl),
          trivial⟩ ?_
      exact hl42 _ (Option.some.inj h).symm
    · obtain ⟨v1, hv1, h⟩ := bind_some h
      refine ht_seqR hn (El := [_, (5, .ptr 1 4), (6, .fl .shr 1 (List.map (Value.int .u8) f.Data)), (7, .v (.int .i64 (f.Data.length : Int))), (8, .v (.bool ((decide (300 < (f.Data.length : Int)))))), (9, .v (.bool false)), (10, .agg [.v (.int .i64 f.Kind), .v (.int .i64 f.Number), .v (.int .i64 f.Offset), .v (.int .i64 f.Seq), .fl .shr 1 (List.map (Value.int .u8) f.Data)]), (11, .v (.bool v1)), (12, .v (.bool (!v1))), (13, .v (.bool (!v1)))]) (init := [0]) (fin := [0, 9]) (sps := [⟨[0], [], [1], [(.slot 5)]⟩, ⟨[1, 0], [], [2], [(.slot 6)]⟩, ⟨[2], [], [3], [(.slot 7)]⟩, ⟨[3], [], [4], [(.slot 8)]⟩, ⟨[4], [], [5], [(.slot 9)]⟩, ⟨[5, 0], [], [6], [(.slot 10)]⟩, ⟨[5, 6], [], [7], [(.slot 11)]⟩, ⟨[5, 7], [], [8], [(.slot 12)]⟩, ⟨[5, 8], [], [9], [(.slot 13)]⟩]) (es' := [(_, _), (13, .v (.bool (!v1)))]) (by kernel_rfl) rfl rfl
        ⟨st_plain rfl (op_fieldAddr _ _ _ _ 1 0 _ Try.underlying24 rfl sz22 rfl rfl (by decide)),
          st_plain rfl (op_load _ _ _ _ _ _ Try.underlying22 rfl rfl rfl (Nat.le_of_ble_eq_true rfl) rfl rfl rfl),
          st_plain rfl (op_len_fl _ _ _ Try.underlying22 rfl (by decide) (map_len _)),
          st_plain rfl (op_bin _ _ _ _ _ rfl rfl rfl),
          st_plain rfl (op_move _ _ _ _ (congrArg (fun b => AV.v (Value.bool b)) hg1_4) rfl),
          st_run 4 9 false rfl rfl rfl (List.Mem.head _) (op_loadA _ _ _ _ _ _ _ Try.underlying24 rfl sz24 rfl rfl (Nat.le_of_ble_eq_true rfl) rfl rfl),
          st_run 4 9 false rfl rfl rfl (List.Mem.head _) (op_call _ _ 15 _ _ rfl Try.call15 rfl (ok_wherryref18_Frame f _ hv1) rfl rfl),
          st_run 4 9 false rfl rfl rfl (List.Mem.head _) (op_un _ _ _ _ rfl rfl),
          st_plain rfl (op_pick _ _ false _ rfl rfl),
          trivial⟩ ?_
      exact hl42 _ (Option.some.inj h).symm

set_option maxHeartbeats 1000000 in
theorem ok_wherrykeep_TwinFrame (f : T_Frame) (r : T_Frame) (h : Sh.wherrykeep_TwinFrame f = some r) : FnOK Try.prog 10 [.agg [.v (.int .i64 f.Kind), .v (.int .i64 f.Number), .v (.int .i64 f.Offset), .v (.int .i64 f.Seq), .fl .shr 1 (List.map (Value.int .u8) f.Data)]] (.agg [.v (.int .i64 r.Kind), .v (.int .i64 r.Number), .v (.int .i64 r.Offset), .v (.int .i64 r.Seq), .fl (.own 5) 1 (List.map (Value.int .u8) r.Data)]) := by
  unfold Sh.wherrykeep_TwinFrame at h
  refine fn_ok Try.func10 rfl (Nat.le_of_ble_eq_true rfl) rfl rfl fun g0 hn hio => ?_
  refine ht_seq ?_
  refine ht_seqR hn (El := [_, (1, .box 24 [.v (.int .i64 f.Kind), .v (.int .i64 f.Number), .v (.int .i64 f.Offset), .v (.int .i64 f.Seq), .fl .shr 1 (List.map (Value.int .u8) f.Data)]), (2, .box 24 [.v (.int .i64 0), .v (.int .i64 0), .v (.int .i64 0), .v (.int .i64 0), .v (.slice none 0 0)])]) (init := [0]) (fin := [1, 2]) (sps := [⟨[0], [], [1], [(.slot 1)]⟩, ⟨[], [], [2], [(.slot 2)]⟩]) (es' := [(1, .box 24 [.v (.int .i64 f.Kind), .v (.int .i64 f.Number), .v (.int .i64 f.Offset), .v (.int .i64 f.Seq), .fl .shr 1 (List.map (Value.int .u8) f.Data)]), (2, .box 24 [.v (.int .i64 0), .v (.int .i64 0), .v (.int .i64 0), .v (.int .i64 0), .v (.slice none 0 0)])]) (by kernel_rfl) rfl rfl
    ⟨st_plain rfl (op_box _ _ _ _ rfl rfl rfl),
      st_plain rfl (op_alloc _ _ zr24),
      trivial⟩ ?_
  refine pt_then ?_
  refine ht_seq ?_
  obtain ⟨v1, hv1, h⟩ := bind_some h
  refine ht_seqR hn (El := [_, _, (3, .ptr 1 4), (4, .fl .shr 1 (List.map (Value.int .u8) f.Data)), (5, .fl (.own 5) 1 (List.map (Value.int .u8) v1)), (6, .ptr 1 4), (1, .box 24 [.v (.int .i64 f.Kind), .v (.int .i64 f.Number), .v (.int .i64 f.Offset), .v (.int .i64 f.Seq), .fl (.own 5) 1 (List.map (Value.int .u8) v1)])]) (init := [0, 1]) (fin := [6, 1]) (sps := [⟨[0], [], [2], [(.slot 3)]⟩, ⟨[2, 0], [], [3], [(.slot 4)]⟩, ⟨[3], [], [4], [(.slot 5)]⟩, ⟨[0], [], [5], [(.slot 6)]⟩, ⟨[5], [4, 0], [6], [.cell 1 4]⟩]) (es' := [(1, .box 24 [.v (.int .i64 f.Kind), .v (.int .i64 f.Number), .v (.int .i64 f.Offset), .v (.int .i64 f.Seq), .fl (.own 5) 1 (List.map (Value.int .u8) v1)]), (_, _)]) (by kernel_rfl) rfl rfl
    ⟨st_plain rfl (op_fieldAddr _ _ _ _ 1 0 _ Try.underlying24 rfl sz22 rfl rfl (by decide)),
      st_plain rfl (op_load _ _ _ _ _ _ Try.underlying22 rfl rfl rfl (Nat.le_of_ble_eq_true rfl) rfl rfl rfl),
      st_plain rfl (op_call _ _ 11 _ _ rfl Try.call11 rfl (ok_wherrykeep_Twin f.Data _ hv1) rfl rfl),
      st_plain rfl (op_fieldAddr _ _ _ _ 1 0 _ Try.underlying24 rfl sz22 rfl rfl (by decide)),
      st_plain rfl (op_store_take _ _ _ _ _ _ _ _ sz22 rfl rfl rfl (Nat.le_of_ble_eq_true rfl) rfl rfl),
      trivial⟩ ?_
  refine pt_then ?_
  refine ht_seq ?_
  refine ht_seqR hn (El := [_, _, (7, .agg [.v (.int .i64 f.Kind), .v (.int .i64 f.Number), .v (.int .i64 f.Offset), .v (.int .i64 f.Seq), .fl (.own 5) 1 (List.map (Value.int .u8) v1)]), (2, .box 24 [.v (.int .i64 f.Kind), .v (.int .i64 f.Number), .v (.int .i64 f.Offset), .v (.int .i64 f.Seq), .fl (.own 5) 1 (List.map (Value.int .u8) v1)])]) (init := [0, 1]) (fin := [3]) (sps := [⟨[], [0], [2], [(.slot 7)]⟩, ⟨[], [2, 1], [3], [.cell 2 0, .cell 2 1, .cell 2 2, .cell 2 3, .cell 2 4]⟩]) (es' := [(2, .box 24 [.v (.int .i64 f.Kind), .v (.int .i64 f.Number), .v (.int .i64 f.Offset), .v (.int .i64 f.Seq), .fl (.own 5) 1 (List.map (Value.int .u8) v1)])]) (by kernel_rfl) rfl rfl
    ⟨st_plain rfl (op_loadA_take _ _ _ _ Try.underlying24 rfl sz24 rfl rfl),
      st_plain rfl (op_store_take _ _ _ _ _ _ _ _ sz24 rfl rfl rfl (Nat.le_of_ble_eq_true rfl) rfl rfl),
      trivial⟩ ?_
  refine pt_then ?_
  refine ht_ret ?_
  obtain rfl := Option.some.inj h
  exact pt_ret hio rfl (.cellA _ _ _ _ Try.underlying24 rfl sz24 .nil) rfl rfl

set_option maxHeartbeats 1000000 in
theorem ok_wherrylaw20_FrameWrong (f : T_Frame) (how : Int) (r : Bool) (h : Sh.wherrylaw20_FrameWrong f how = some r) : FnOK Try.prog 8 [.agg [.v (.int .i64 f.Kind), .v (.int .i64 f.Number), .v (.int .i64 f.Offset), .v (.int .i64 f.Seq), .fl .shr 1 (List.map (Value.int .u8) f.Data)], .v (.int .i64 how)] (.v (.bool r)) := by
  unfold Sh.wherrylaw20_FrameWrong at h
  refine fn_ok Try.func8 rfl (Nat.le_of_ble_eq_true rfl) rfl rfl fun g0 hn hio => ?_
  refine ht_seq ?_
  refine ht_seqR hn (El := [_, _, (2, .box 24 [.v (.int .i64 f.Kind), .v (.int .i64 f.Number), .v (.int .i64 f.Offset), .v (.int .i64 f.Seq), .fl .shr 1 (List.map (Value.int .u8) f.Data)]), (4, .v (.bool false))]) (init := [0, 1]) (fin := [1, 2]) (sps := [⟨[0], [], [2], [(.slot 2)]⟩, ⟨[], [], [3], [(.slot 4)]⟩]) (es' := [(_, _), (2, .box 24 [.v (.int .i64 f.Kind), .v (.int .i64 f.Number), .v (.int .i64 f.Offset), .v (.int .i64 f.Seq), .fl .shr 1 (List.map (Value.int .u8) f.Data)])]) (by kernel_rfl) rfl rfl
    ⟨st_plain rfl (op_box _ _ _ _ rfl rfl rfl),
      st_plain rfl (op_assign _ _ _ _ rfl rfl),
      trivial⟩ ?_
  refine pt_then ?_
  refine ht_seq ?_
  refine ht_seq ?_
  refine ht_joinS h (fun (s2 : Bool) => [(1, .v (.int .i64 how)), (2, .box 24 [.v (.int .i64 f.Kind), .v (.int .i64 f.Number), .v (.int .i64 f.Offset), .v (.int .i64 f.Seq), .fl .shr 1 (List.map (Value.int .u8) f.Data)]), (16, .v (.bool s2))]) ?_ ?_
  · rintro s2 h
    refine pt_then ?_
    refine ht_cond _ rfl (fun hb6 => ?_) (fun hb6 => ?_)
    · have h := cond_t hb6 h
      refine ht_seq ?_
      refine ht_seqR hn (El := [_, _, _, (4, .v (.bool true))]) (init := [0, 1, 2]) (fin := [3]) (sps := [⟨[], [], [3], [(.slot 4)]⟩]) (es' := [(4, .v (.bool true))]) (by kernel_rfl) rfl rfl
        ⟨st_plain rfl (op_assign _ _ _ _ rfl rfl),
          trivial⟩ ?_
      refine pt_then ?_
      refine ht_ret ?_
      refine pt_r_then ?_
      obtain rfl := Option.some.inj h
      exact pt_ret hio rfl (.tmp _ _ .nil) rfl rfl
    · have h := cond_f hb6 h
      refine ht_skip ?_
      refine pt_then ?_
      refine ht_seq ?_
      obtain ⟨v7, hv7, h⟩ := bind_some h
      refine ht_seqR hn (El := [_, _, _, (17, .agg [.v (.int .i64 f.Kind), .v (.int .i64 f.Number), .v (.int .i64 f.Offset), .v (.int .i64 f.Seq), .fl .shr 1 (List.map (Value.int .u8) f.Data)]), (18, .agg [.v (.int .i64 v7.Kind), .v (.int .i64 v7.Number), .v (.int .i64 v7.Offset), .v (.int .i64 v7.Seq), .fl (.own 5) 1 (List.map (Value.int .u8) v7.Data)]), (5, .box 24 [.v (.int .i64 0), .v (.int .i64 0), .v (.int .i64 0), .v (.int .i64 0), .v (.slice none 0 0)]), (5, .box 24 [.v (.int .i64 v7.Kind), .v (.int .i64 v7.Number), .v (.int .i64 v7.Offset), .v (.int .i64 v7.Seq), .fl (.own 5) 1 (List.map (Value.int .u8) v7.Data)])]) (init := [0, 1, 2]) (fin := [0, 1, 6]) (sps := [⟨[1], [], [3], [(.slot 17)]⟩, ⟨[3], [], [4], [(.slot 18)]⟩, ⟨[], [], [5], [(.slot 5)]⟩, ⟨[], [4, 5], [6], [.cell 5 0, .cell 5 1, .cell 5 2, .cell 5 3, .cell 5 4]⟩]) (es' := [(_, _), (_, _), (5, .box 24 [.v (.int .i64 v7.Kind), .v (.int .i64 v7.Number), .v (.int .i64 v7.Offset), .v (.int .i64 v7.Seq), .fl (.own 5) 1 (List.map (Value.int .u8) v7.Data)])]) (by kernel_rfl) rfl rfl
        ⟨st_plain rfl (op_loadA _ _ _ _ _ _ _ Try.underlying24 rfl sz24 rfl rfl (Nat.le_of_ble_eq_true rfl) rfl rfl),
          st_plain rfl (op_call _ _ 10 _ _ rfl Try.call10 rfl (ok_wherrykeep_TwinFrame f _ hv7) rfl rfl),
          st_plain rfl (op_alloc _ _ zr24),
          st_plain rfl (op_store_take _ _ _ _ _ _ _ _ sz24 rfl rfl rfl (Nat.le_of_ble_eq_true rfl) rfl rfl),
          trivial⟩ ?_
      refine pt_then ?_
      refine ht_seq ?_
      refine ht_joinS h (fun ((s50, s51, s52, s53, s54) : Int × Int × Int × Int × (List Int)) => [(2, .box 24 [.v (.int .i64 f.Kind), .v (.int .i64 f.Number), .v (.int .i64 f.Offset), .v (.int .i64 f.Seq), .fl .shr 1 (List.map (Value.int .u8) f.Data)]), (5, .box 24 [.v (.int .i64 s50), .v (.int .i64 s51), .v (.int .i64 s52), .v (.int .i64 s53), .fl (.own 5) 1 (List.map (Value.int .u8) s54)])]) ?_ ?_
      · rintro ⟨s50, s51, s52, s53, s54⟩ h
        refine pt_then ?_
        refine ht_seq ?_
        obtain ⟨v98, hv98, h⟩ := bind_some h
        refine ht_seqR hn (El := [_, _, (62, .agg [.v (.int .i64 s50), .v (.int .i64 s51), .v (.int .i64 s52), .v (.int .i64 s53), .same (.cell 5 4)]), (63, .tup [.fl (.own 5) 1 (List.map (Value.int .u8) v98.1), .v (.int .i64 v98.2)]), (61, .tup [.fl (.own 5) 1 (List.map (Value.int .u8) v98.1), .v (.int .i64 v98.2)]), (64, .fl (.own 5) 1 (List.map (Value.int .u8) v98.1)), (61, .tup [.any, .v (.int .i64 v98.2)]), (65, .v (.int .i64 v98.2)), (6, .fl (.own 5) 1 (List.map (Value.int .u8) v98.1)), (7, .v (.int .i64 v98.2))]) (init := [0, 1]) (fin := [0, 1, 8, 9]) (sps := [⟨[1], [], [2], [(.slot 62)]⟩, ⟨[2, 1], [], [3], [(.slot 63)]⟩, ⟨[], [3], [4], [(.slot 61)]⟩, ⟨[], [4], [6, 5], [(.slot 64)]⟩, ⟨[6], [], [7], [(.slot 65)]⟩, ⟨[], [5], [8], [(.slot 6)]⟩, ⟨[7], [], [9], [(.slot 7)]⟩]) (es' := [(_, _), (_, _), (6, .fl (.own 5) 1 (List.map (Value.int .u8) v98.1)), (7, .v (.int .i64 v98.2))]) (by kernel_rfl) rfl rfl
          ⟨st_plain rfl (op_loadA _ _ _ _ _ _ _ Try.underlying24 rfl sz24 rfl rfl (Nat.le_of_ble_eq_true rfl) rfl rfl),
            st_plain rfl (op_call _ _ 12 _ _ rfl Try.call12 rfl (ok_frame_Bytes (T_Frame.mk s50 s51 s52 s53 s54) _ hv98) rfl rfl),
            st_plain rfl (op_move_take _ _ _ _ rfl),
            st_plain rfl (op_extract_take _ _ _ _ _ rfl (Nat.le_of_ble_eq_true rfl) rfl rfl (by decide) rfl),
            st_plain rfl (op_extract _ _ _ _ _ rfl rfl (Nat.le_of_ble_eq_true rfl) rfl rfl),
            st_plain rfl (op_assign_take _ _ _ _ rfl),
            st_plain rfl (op_assign _ _ _ _ rfl rfl),
            trivial⟩ ?_
        refine pt_then ?_
        refine ht_seq ?_
        refine ht_joinS h (fun (s102 : Bool) => [(4, .v (.bool s102))]) ?_ ?_
        · rintro s102 h
          refine pt_then ?_
          refine ht_ret ?_
          obtain rfl := Option.some.inj h
          exact pt_ret hio rfl (.tmp _ _ .nil) rfl rfl
        · intro u103 h hl104 hr105
          obtain ⟨v99, hv99, h⟩ := bind_some h
          refine cond_some h (fun hg23_3 h => ?_) (fun hg23_3 h => ?_)
          · obtain ⟨v100, hv100, h⟩ := bind_some h
            refine cond_some h (fun hg23_8 h => ?_) (fun hg23_8 h => ?_)
            · refine cond_some h (fun hg23_12 h => ?_) (fun hg23_12 h => ?_)
              · refine cond_some h (fun hg23_17 h => ?_) (fun hg23_17 h => ?_)
                · obtain ⟨v101, hv101, h⟩ := bind_some h
                  refine ht_seqR hn (El := (_ :: _ :: _ :: _ :: (66, .agg [.v (.int .i64 f.Kind), .v (.int .i64 f.Number), .v (.int .i64 f.Offset), .v (.int .i64 f.Seq), .fl .shr 1 (List.map (Value.int .u8) f.Data)]) :: (67, .v (.int .i64 v99)) :: (68, .v (.bool (v99 == 0))) :: (69, .v (.bool true)) :: (70, .agg [.v (.int .i64 s50), .v (.int .i64 s51), .v (.int .i64 s52), .v (.int .i64 s53), .fl (.own 5) 1 (List.map (Value.int .u8) s54)]) :: (71, .v (.int .i64 v100)) :: (72, .v (.bool (v100 == 1))) :: (73, .v (.bool (v100 == 1))) :: (74, .v (.bool true)) :: (75, .v (.int .i64 v98.2)) :: (76, .v (.bool (v98.2 == 1))) :: (77, .v (.bool (v98.2 == 1))) :: (78, .v (.bool true)) :: (79, .fl (.own 5) 1 (List.map (Value.int .u8) v98.1)) :: (80, .v (.int .i64 (v98.1.length : Int))) :: (81, .v (.bool (((v98.1.length : Int) == 0)))) :: (82, .v (.bool (((v98.1.length : Int) == 0)))) :: (83, .v (.bool true)) :: (84, .v (.bool v101)) :: (85, .v (.bool v101)) :: (4, .v (.bool v101)) :: [])) (init := [0, 1, 2, 3]) (fin := [24]) (sps := (⟨[0], [], [4], [(.slot 66)]⟩ :: ⟨[4], [], [5], [(.slot 67)]⟩ :: ⟨[5], [], [6], [(.slot 68)]⟩ :: ⟨[6], [], [7], [(.slot 69)]⟩ :: ⟨[7], [1], [8], [(.slot 70)]⟩ :: ⟨[7, 8], [], [9], [(.slot 71)]⟩ :: ⟨[7, 9], [], [10], [(.slot 72)]⟩ :: ⟨[7, 10], [], [11], [(.slot 73)]⟩ :: ⟨[11], [], [12], [(.slot 74)]⟩ :: ⟨[12, 3], [], [13], [(.slot 75)]⟩ :: ⟨[12, 13], [], [14], [(.slot 76)]⟩ :: ⟨[12, 14], [], [15], [(.slot 77)]⟩ :: ⟨[15], [], [16], [(.slot 78)]⟩ :: ⟨[16], [2], [17], [(.slot 79)]⟩ :: ⟨[16, 17], [], [18], [(.slot 80)]⟩ :: ⟨[16, 18], [], [19], [(.slot 81)]⟩ :: ⟨[16, 19], [], [20], [(.slot 82)]⟩ :: ⟨[20], [], [21], [(.slot 83)]⟩ :: ⟨[21], [], [22], [(.slot 84)]⟩ :: ⟨[21, 22], [], [23], [(.slot 85)]⟩ :: ⟨[23], [], [24], [(.slot 4)]⟩ :: [])) (es' := [(4, .v (.bool v101))]) (by kernel_rfl) rfl rfl
                    ⟨st_plain rfl (op_loadA _ _ _ _ _ _ _ Try.underlying24 rfl sz24 rfl rfl (Nat.le_of_ble_eq_true rfl) rfl rfl),
                      st_plain rfl (op_call _ _ 16 _ _ rfl Try.call16 rfl (ok_frame_Check f _ hv99) rfl rfl),
                      st_plain rfl (op_bin _ _ _ _ _ rfl rfl rfl),
                      st_plain rfl (op_move _ _ _ _ (congrArg (fun b => AV.v (Value.bool b)) hg23_3) rfl),
                      st_run 3 69 true rfl rfl rfl (List.Mem.head _) (op_loadA_take _ _ _ _ Try.underlying24 rfl sz24 rfl rfl),
                      st_run 3 69 true rfl rfl rfl (List.Mem.head _) (op_call _ _ 16 _ _ rfl Try.call16 rfl (ok_frame_Check (T_Frame.mk s50 s51 s52 s53 s54) _ hv100) rfl rfl),
                      st_run 3 69 true rfl rfl rfl (List.Mem.head _) (op_bin _ _ _ _ _ rfl rfl rfl),
                      st_plain rfl (op_pick _ _ true _ rfl rfl),
                      st_plain rfl (op_move _ _ _ _ (congrArg (fun b => AV.v (Value.bool b)) hg23_8) rfl),
                      st_run 8 74 true rfl rfl rfl (List.Mem.head _) (op_move _ _ _ _ rfl rfl),
                      st_run 8 74 true rfl rfl rfl (List.Mem.head _) (op_bin _ _ _ _ _ rfl rfl rfl),
                      st_plain rfl (op_pick _ _ true _ rfl rfl),
                      st_plain rfl (op_move _ _ _ _ (congrArg (fun b => AV.v (Value.bool b)) hg23_12) rfl),
                      st_run 12 78 true rfl rfl rfl (List.Mem.head _) (op_move_take _ _ _ _ rfl),
                      st_run 12 78 true rfl rfl rfl (List.Mem.head _) (op_len_fl _ _ _ Try.underlying22 rfl (by decide) (map_len _)),
                      st_run 12 78 true rfl rfl rfl (List.Mem.head _) (op_bin _ _ _ _ _ rfl rfl rfl),
                      st_plain rfl (op_pick _ _ true _ rfl rfl),
                      st_plain rfl (op_move _ _ _ _ (congrArg (fun b => AV.v (Value.bool b)) hg23_17) rfl),
                      st_run 17 83 true rfl rfl rfl (List.Mem.head _) (op_call _ _ 23 _ _ rfl Try.call23 rfl (ok_wherrylaw20_wakes  _ hv101) rfl rfl),
                      st_plain rfl (op_pick _ _ true _ rfl rfl),
                      st_plain rfl (op_assign _ _ _ _ rfl rfl),
                      trivial⟩ ?_
                  exact hl104 _ (Option.some.inj h).symm
                · refine ht_seqR hn (El := (_ :: _ :: _ :: _ :: (66, .agg [.v (.int .i64 f.Kind), .v (.int .i64 f.Number), .v (.int .i64 f.Offset), .v (.int .i64 f.Seq), .fl .shr 1 (List.map (Value.int .u8) f.Data)]) :: (67, .v (.int .i64 v99)) :: (68, .v (.bool (v99 == 0))) :: (69, .v (.bool true)) :: (70, .agg [.v (.int .i64 s50), .v (.int .i64 s51), .v (.int .i64 s52), .v (.int .i64 s53), .fl (.own 5) 1 (List.map (Value.int .u8) s54)]) :: (71, .v (.int .i64 v100)) :: (72, .v (.bool (v100 == 1))) :: (73, .v (.bool (v100 == 1))) :: (74, .v (.bool true)) :: (75, .v (.int .i64 v98.2)) :: (76, .v (.bool (v98.2 == 1))) :: (77, .v (.bool (v98.2 == 1))) :: (78, .v (.bool true)) :: (79, .fl (.own 5) 1 (List.map (Value.int .u8) v98.1)) :: (80, .v (.int .i64 (v98.1.length : Int))) :: (81, .v (.bool (((v98.1.length : Int) == 0)))) :: (82, .v (.bool (((v98.1.length : Int) == 0)))) :: (83, .v (.bool false)) :: (84, .v undef) :: (85, .v (.bool false)) :: (4, .v (.bool false)) :: [])) (init := [0, 1, 2, 3]) (fin := [24]) (sps := (⟨[0], [], [4], [(.slot 66)]⟩ :: ⟨[4], [], [5], [(.slot 67)]⟩ :: ⟨[5], [], [6], [(.slot 68)]⟩ :: ⟨[6], [], [7], [(.slot 69)]⟩ :: ⟨[7], [1], [8], [(.slot 70)]⟩ :: ⟨[7, 8], [], [9], [(.slot 71)]⟩ :: ⟨[7, 9], [], [10], [(.slot 72)]⟩ :: ⟨[7, 10], [], [11], [(.slot 73)]⟩ :: ⟨[11], [], [12], [(.slot 74)]⟩ :: ⟨[12, 3], [], [13], [(.slot 75)]⟩ :: ⟨[12, 13], [], [14], [(.slot 76)]⟩ :: ⟨[12, 14], [], [15], [(.slot 77)]⟩ :: ⟨[15], [], [16], [(.slot 78)]⟩ :: ⟨[16], [2], [17], [(.slot 79)]⟩ :: ⟨[16, 17], [], [18], [(.slot 80)]⟩ :: ⟨[16, 18], [], [19], [(.slot 81)]⟩ :: ⟨[16, 19], [], [20], [(.slot 82)]⟩ :: ⟨[20], [], [21], [(.slot 83)]⟩ :: ⟨[21], [], [22], [(.slot 84)]⟩ :: ⟨[21], [], [23], [(.slot 85)]⟩ :: ⟨[23], [], [24], [(.slot 4)]⟩ :: [])) (es' := [(4, .v (.bool false))]) (by kernel_rfl) rfl rfl
                    ⟨st_plain rfl (op_loadA _ _ _ _ _ _ _ Try.underlying24 rfl sz24 rfl rfl (Nat.le_of_ble_eq_true rfl) rfl rfl),
                      st_plain rfl (op_call _ _ 16 _ _ rfl Try.call16 rfl (ok_frame_Check f _ hv99) rfl rfl),
                      st_plain rfl (op_bin _ _ _ _ _ rfl rfl rfl),
                      st_plain rfl (op_move _ _ _ _ (congrArg (fun b => AV.v (Value.bool b)) hg23_3) rfl),
                      st_run 3 69 true rfl rfl rfl (List.Mem.head _) (op_loadA_take _ _ _ _ Try.underlying24 rfl sz24 rfl rfl),
                      st_run 3 69 true rfl rfl rfl (List.Mem.head _) (op_call _ _ 16 _ _ rfl Try.call16 rfl (ok_frame_Check (T_Frame.mk s50 s51 s52 s53 s54) _ hv100) rfl rfl),
                      st_run 3 69 true rfl rfl rfl (List.Mem.head _) (op_bin _ _ _ _ _ rfl rfl rfl),
                      st_plain rfl (op_pick _ _ true _ rfl rfl),
                      st_plain rfl (op_move _ _ _ _ (congrArg (fun b => AV.v (Value.bool b)) hg23_8) rfl),
                      st_run 8 74 true rfl rfl rfl (List.Mem.head _) (op_move _ _ _ _ rfl rfl),
                      st_run 8 74 true rfl rfl rfl (List.Mem.head _) (op_bin _ _ _ _ _ rfl rfl rfl),
                      st_plain rfl (op_pick _ _ true _ rfl rfl),
                      st_plain rfl (op_move _ _ _ _ (congrArg (fun b => AV.v (Value.bool b)) hg23_12) rfl),
                      st_run 12 78 true rfl rfl rfl (List.Mem.head _) (op_move_take _ _ _ _ rfl),
                      st_run 12 78 true rfl rfl rfl (List.Mem.head _) (op_len_fl _ _ _ Try.underlying22 rfl (by decide) (map_len _)),
                      st_run 12 78 true rfl rfl rfl (List.Mem.head _) (op_bin _ _ _ _ _ rfl rfl rfl),
                      st_plain rfl (op_pick _ _ true _ rfl rfl),
                      st_plain rfl (op_move _ _ _ _ (congrArg (fun b => AV.v (Value.bool b)) hg23_17) rfl),
                      st_skip 17 83 _ true rfl rfl rfl rfl (List.Mem.head _),
                      st_plain rfl (op_pick _ _ false _ rfl rfl),
                      st_plain rfl (op_assign _ _ _ _ rfl rfl),
                      trivial⟩ ?_
                  exact hl104 _ (Option.some.inj h).symm
              · refine ht_seqR hn (El := (_ :: _ :: _ :: _ :: (66, .agg [.v (.int .i64 f.Kind), .v (.int .i64 f.Number), .v (.int .i64 f.Offset), .v (.int .i64 f.Seq), .fl .shr 1 (List.map (Value.int .u8) f.Data)]) :: (67, .v (.int .i64 v99)) :: (68, .v (.bool (v99 == 0))) :: (69, .v (.bool true)) :: (70, .agg [.v (.int .i64 s50), .v (.int .i64 s51), .v (.int .i64 s52), .v (.int .i64 s53), .fl (.own 5) 1 (List.map (Value.int .u8) s54)]) :: (71, .v (.int .i64 v100)) :: (72, .v (.bool (v100 == 1))) :: (73, .v (.bool (v100 == 1))) :: (74, .v (.bool true)) :: (75, .v (.int .i64 v98.2)) :: (76, .v (.bool (v98.2 == 1))) :: (77, .v (.bool (v98.2 == 1))) :: (78, .v (.bool false)) :: (79, .v undef) :: (80, .v undef) :: (81, .v undef) :: (82, .v (.bool false)) :: (83, .v (.bool false)) :: (84, .v undef) :: (85, .v (.bool false)) :: (4, .v (.bool false)) :: [])) (init := [0, 1, 2, 3]) (fin := [24]) (sps := (⟨[0], [], [4], [(.slot 66)]⟩ :: ⟨[4], [], [5], [(.slot 67)]⟩ :: ⟨[5], [], [6], [(.slot 68)]⟩ :: ⟨[6], [], [7], [(.slot 69)]⟩ :: ⟨[7], [1], [8], [(.slot 70)]⟩ :: ⟨[7, 8], [], [9], [(.slot 71)]⟩ :: ⟨[7, 9], [], [10], [(.slot 72)]⟩ :: ⟨[7, 10], [], [11], [(.slot 73)]⟩ :: ⟨[11], [], [12], [(.slot 74)]⟩ :: ⟨[12, 3], [], [13], [(.slot 75)]⟩ :: ⟨[12, 13], [], [14], [(.slot 76)]⟩ :: ⟨[12, 14], [], [15], [(.slot 77)]⟩ :: ⟨[15], [], [16], [(.slot 78)]⟩ :: ⟨[16], [], [17], [(.slot 79)]⟩ :: ⟨[16], [], [18], [(.slot 80)]⟩ :: ⟨[16], [], [19], [(.slot 81)]⟩ :: ⟨[16], [], [20], [(.slot 82)]⟩ :: ⟨[20], [], [21], [(.slot 83)]⟩ :: ⟨[21], [], [22], [(.slot 84)]⟩ :: ⟨[21], [], [23], [(.slot 85)]⟩ :: ⟨[23], [], [24], [(.slot 4)]⟩ :: [])) (es' := [(4, .v (.bool false))]) (by kernel_rfl) rfl rfl
                  ⟨st_plain rfl (op_loadA _ _ _ _ _ _ _ Try.underlying24 rfl sz24 rfl rfl (Nat.le_of_ble_eq_true rfl) rfl rfl),
                    st_plain rfl (op_call _ _ 16 _ _ rfl Try.call16 rfl (ok_frame_Check f _ hv99) rfl rfl),
                    st_plain rfl (op_bin _ _ _ _ _ rfl rfl rfl),
                    st_plain rfl (op_move _ _ _ _ (congrArg (fun b => AV.v (Value.bool b)) hg23_3) rfl),
                    st_run 3 69 true rfl rfl rfl (List.Mem.head _) (op_loadA_take _ _ _ _ Try.underlying24 rfl sz24 rfl rfl),
                    st_run 3 69 true rfl rfl rfl (List.Mem.head _) (op_call _ _ 16 _ _ rfl Try.call16 rfl (ok_frame_Check (T_Frame.mk s50 s51 s52 s53 s54) _ hv100) rfl rfl),
                    st_run 3 69 true rfl rfl rfl (List.Mem.head _) (op_bin _ _ _ _ _ rfl rfl rfl),
                    st_plain rfl (op_pick _ _ true _ rfl rfl),
                    st_plain rfl (op_move _ _ _ _ (congrArg (fun b => AV.v (Value.bool b)) hg23_8) rfl),
                    st_run 8 74 true rfl rfl rfl (List.Mem.head _) (op_move _ _ _ _ rfl rfl),
                    st_run 8 74 true rfl rfl rfl (List.Mem.head _) (op_bin _ _ _ _ _ rfl rfl rfl),
                    st_plain rfl (op_pick _ _ true _ rfl rfl),
                    st_plain rfl (op_move _ _ _ _ (congrArg (fun b => AV.v (Value.bool b)) hg23_12) rfl),
                    st_skip 12 78 _ true rfl rfl rfl rfl (List.Mem.head _),
                    st_skip 12 78 _ true rfl rfl rfl rfl (List.Mem.head _),
                    st_skip 12 78 _ true rfl rfl rfl rfl (List.Mem.head _),
                    st_plain rfl (op_pick _ _ false _ rfl rfl),
                    st_plain rfl (op_move _ _ _ _ rfl rfl),
                    st_skip 17 83 _ true rfl rfl rfl rfl (List.Mem.head _),
                    st_plain rfl (op_pick _ _ false _ rfl rfl),
                    st_plain rfl (op_assign _ _ _ _ rfl rfl),
                    trivial⟩ ?_
                exact hl104 _ (Option.some.inj h).symm
            · refine ht_seqR hn (El := (_ :: _ :: _ :: _ :: (66, .agg [.v (.int .i64 f.Kind), .v (.int .i64 f.Number), .v (.int .i64 f.Offset), .v (.int .i64 f.Seq), .fl .shr 1 (List.map (Value.int .u8) f.Data)]) :: (67, .v (.int .i64 v99)) :: (68, .v (.bool (v99 == 0))) :: (69, .v (.bool true)) :: (70, .agg [.v (.int .i64 s50), .v (.int .i64 s51), .v (.int .i64 s52), .v (.int .i64 s53), .fl (.own 5) 1 (List.map (Value.int .u8) s54)]) :: (71, .v (.int .i64 v100)) :: (72, .v (.bool (v100 == 1))) :: (73, .v (.bool (v100 == 1))) :: (74, .v (.bool false)) :: (75, .v undef) :: (76, .v undef) :: (77, .v (.bool false)) :: (78, .v (.bool false)) :: (79, .v undef) :: (80, .v undef) :: (81, .v undef) :: (82, .v (.bool false)) :: (83, .v (.bool false)) :: (84, .v undef) :: (85, .v (.bool false)) :: (4, .v (.bool false)) :: [])) (init := [0, 1, 2, 3]) (fin := [24]) (sps := (⟨[0], [], [4], [(.slot 66)]⟩ :: ⟨[4], [], [5], [(.slot 67)]⟩ :: ⟨[5], [], [6], [(.slot 68)]⟩ :: ⟨[6], [], [7], [(.slot 69)]⟩ :: ⟨[7], [1], [8], [(.slot 70)]⟩ :: ⟨[7, 8], [], [9], [(.slot 71)]⟩ :: ⟨[7, 9], [], [10], [(.slot 72)]⟩ :: ⟨[7, 10], [], [11], [(.slot 73)]⟩ :: ⟨[11], [], [12], [(.slot 74)]⟩ :: ⟨[12], [], [13], [(.slot 75)]⟩ :: ⟨[12], [], [14], [(.slot 76)]⟩ :: ⟨[12], [], [15], [(.slot 77)]⟩ :: ⟨[15], [], [16], [(.slot 78)]⟩ :: ⟨[16], [], [17], [(.slot 79)]⟩ :: ⟨[16], [], [18], [(.slot 80)]⟩ :: ⟨[16], [], [19], [(.slot 81)]⟩ :: ⟨[16], [], [20], [(.slot 82)]⟩ :: ⟨[20], [], [21], [(.slot 83)]⟩ :: ⟨[21], [], [22], [(.slot 84)]⟩ :: ⟨[21], [], [23], [(.slot 85)]⟩ :: ⟨[23], [], [24], [(.slot 4)]⟩ :: [])) (es' := [(4, .v (.bool false))]) (by kernel_rfl) rfl rfl
                ⟨st_plain rfl (op_loadA _ _ _ _ _ _ _ Try.underlying24 rfl sz24 rfl rfl (Nat.le_of_ble_eq_true rfl) rfl rfl),
                  st_plain rfl (op_call _ _ 16 _ _ rfl Try.call16 rfl (ok_frame_Check f _ hv99) rfl rfl),
                  st_plain rfl (op_bin _ _ _ _ _ rfl rfl rfl),
                  st_plain rfl (op_move _ _ _ _ (congrArg (fun b => AV.v (Value.bool b)) hg23_3) rfl),
                  st_run 3 69 true rfl rfl rfl (List.Mem.head _) (op_loadA_take _ _ _ _ Try.underlying24 rfl sz24 rfl rfl),
                  st_run 3 69 true rfl rfl rfl (List.Mem.head _) (op_call _ _ 16 _ _ rfl Try.call16 rfl (ok_frame_Check (T_Frame.mk s50 s51 s52 s53 s54) _ hv100) rfl rfl),
                  st_run 3 69 true rfl rfl rfl (List.Mem.head _) (op_bin _ _ _ _ _ rfl rfl rfl),
                  st_plain rfl (op_pick _ _ true _ rfl rfl),
                  st_plain rfl (op_move _ _ _ _ (congrArg (fun b => AV.v (Value.bool b)) hg23_8) rfl),
                  st_skip 8 74 _ true rfl rfl rfl rfl (List.Mem.head _),
                  st_skip 8 74 _ true rfl rfl rfl rfl (List.Mem.head _),
                  st_plain rfl (op_pick _ _ false _ rfl rfl),
                  st_plain rfl (op_move _ _ _ _ rfl rfl),
                  st_skip 12 78 _ true rfl rfl rfl rfl (List.Mem.head _),
                  st_skip 12 78 _ true rfl rfl rfl rfl (List.Mem.head _),
                  st_skip 12 78 _ true rfl rfl rfl rfl (List.Mem.head _),
                  st_plain rfl (op_pick _ _ false _ rfl rfl),
                  st_plain rfl (op_move _ _ _ _ rfl rfl),
                  st_skip 17 83 _ true rfl rfl rfl rfl (List.Mem.head _),
                  st_plain rfl (op_pick _ _ false _ rfl rfl),
                  st_plain rfl (op_assign _ _ _ _ rfl rfl),
                  trivial⟩ ?_
              exact hl104 _ (Option.some.inj h).symm
          · refine ht_seqR hn (El := (_ :: _ :: _ :: _ :: (66, .agg [.v (.int .i64 f.Kind), .v (.int .i64 f.Number), .v (.int .i64 f.Offset), .v (.int .i64 f.Seq), .fl .shr 1 (List.map (Value.int .u8) f.Data)]) :: (67, .v (.int .i64 v99)) :: (68, .v (.bool (v99 == 0))) :: (69, .v (.bool false)) :: (70, .v undef) :: (71, .v undef) :: (72, .v undef) :: (73, .v (.bool false)) :: (74, .v (.bool false)) :: (75, .v undef) :: (76, .v undef) :: (77, .v (.bool false)) :: (78, .v (.bool false)) :: (79, .v undef) :: (80, .v undef) :: (81, .v undef) :: (82, .v (.bool false)) :: (83, .v (.bool false)) :: (84, .v undef) :: (85, .v (.bool false)) :: (4, .v (.bool false)) :: [])) (init := [0, 1, 2, 3]) (fin := [24]) (sps := (⟨[0], [], [4], [(.slot 66)]⟩ :: ⟨[4], [], [5], [(.slot 67)]⟩ :: ⟨[5], [], [6], [(.slot 68)]⟩ :: ⟨[6], [], [7], [(.slot 69)]⟩ :: ⟨[7], [], [8], [(.slot 70)]⟩ :: ⟨[7], [], [9], [(.slot 71)]⟩ :: ⟨[7], [], [10], [(.slot 72)]⟩ :: ⟨[7], [], [11], [(.slot 73)]⟩ :: ⟨[11], [], [12], [(.slot 74)]⟩ :: ⟨[12], [], [13], [(.slot 75)]⟩ :: ⟨[12], [], [14], [(.slot 76)]⟩ :: ⟨[12], [], [15], [(.slot 77)]⟩ :: ⟨[15], [], [16], [(.slot 78)]⟩ :: ⟨[16], [], [17], [(.slot 79)]⟩ :: ⟨[16], [], [18], [(.slot 80)]⟩ :: ⟨[16], [], [19], [(.slot 81)]⟩ :: ⟨[16], [], [20], [(.slot 82)]⟩ :: ⟨[20], [], [21], [(.slot 83)]⟩ :: ⟨[21], [], [22], [(.slot 84)]⟩ :: ⟨[21], [], [23], [(.slot 85)]⟩ :: ⟨[23], [], [24], [(.slot 4)]⟩ :: [])) (es' := [(4, .v (.bool false))]) (by kernel_rfl) rfl rfl
              ⟨st_plain rfl (op_loadA _ _ _ _ _ _ _ Try.underlying24 rfl sz24 rfl rfl (Nat.le_of_ble_eq_true rfl) rfl rfl),
                st_plain rfl (op_call _ _ 16 _ _ rfl Try.call16 rfl (ok_frame_Check f _ hv99) rfl rfl),
                st_plain rfl (op_bin _ _ _ _ _ rfl rfl rfl),
                st_plain rfl (op_move _ _ _ _ (congrArg (fun b => AV.v (Value.bool b)) hg23_3) rfl),
                st_skip 3 69 _ true rfl rfl rfl rfl (List.Mem.head _),
                st_skip 3 69 _ true rfl rfl rfl rfl (List.Mem.head _),
                st_skip 3 69 _ true rfl rfl rfl rfl (List.Mem.head _),
                st_plain rfl (op_pick _ _ false _ rfl rfl),
                st_plain rfl (op_move _ _ _ _ rfl rfl),
                st_skip 8 74 _ true rfl rfl rfl rfl (List.Mem.head _),
                st_skip 8 74 _ true rfl rfl rfl rfl (List.Mem.head _),
                st_plain rfl (op_pick _ _ false _ rfl rfl),
                st_plain rfl (op_move _ _ _ _ rfl rfl),
                st_skip 12 78 _ true rfl rfl rfl rfl (List.Mem.head _),
                st_skip 12 78 _ true rfl rfl rfl rfl (List.Mem.head _),
                st_skip 12 78 _ true rfl rfl rfl rfl (List.Mem.head _),
                st_plain rfl (op_pick _ _ false _ rfl rfl),
                st_plain rfl (op_move _ _ _ _ rfl rfl),
                st_skip 17 83 _ true rfl rfl rfl rfl (List.Mem.head _),
                st_plain rfl (op_pick _ _ false _ rfl rfl),
                st_plain rfl (op_assign _ _ _ _ rfl rfl),
                trivial⟩ ?_
            exact hl104 _ (Option.some.inj h).symm
      · intro u55 h hl56 hr57
        refine ht_seq ?_
        obtain ⟨v8, hv8, h⟩ := bind_some h
        obtain ⟨v9, hv9, h⟩ := bind_some h
        refine ht_seqR hn (El := [_, _, _, (19, .v (.int .i64 how)), (20, .v (.int .u64 v8)), (21, .v (.int .u64 v9))]) (init := [0, 1, 2]) (fin := [1, 2, 5]) (sps := [⟨[0], [], [3], [(.slot 19)]⟩, ⟨[3], [], [4], [(.slot 20)]⟩, ⟨[4], [], [5], [(.slot 21)]⟩]) (es' := [(_, _), (_, _), (21, .v (.int .u64 v9))]) (by kernel_rfl) rfl rfl
          ⟨st_plain rfl (op_move _ _ _ _ rfl rfl),
            st_plain rfl ((Option.some.inj hv8) ▸ op_conv _ _ _ Try.underlying3 Try.underlying43 rfl),
            st_plain rfl (op_bin _ _ _ _ _ rfl rfl (rem_ok hv9)),
            trivial⟩ ?_
        refine pt_then ?_
        refine ht_joinS h (fun ((s74, s75, s76, s77, s78) : Int × Int × Int × Int × (List Int)) => [(2, .box 24 [.v (.int .i64 f.Kind), .v (.int .i64 f.Number), .v (.int .i64 f.Offset), .v (.int .i64 f.Seq), .fl .shr 1 (List.map (Value.int .u8) f.Data)]), (5, .box 24 [.v (.int .i64 s74), .v (.int .i64 s75), .v (.int .i64 s76), .v (.int .i64 s77), .fl (.own 5) 1 (List.map (Value.int .u8) s78)])]) ?_ ?_
        · rintro ⟨s74, s75, s76, s77, s78⟩ h
          exact hl56 _ (Option.some.inj h).symm
        · intro u79 h hl80 hr81
          refine ht_block ?_
          refine ht_seq ?_
          refine ht_seqR hn (El := [_, _, _, (33, .v (.bool (v9 == 0))), (32, .v (.bool (v9 == 0)))]) (init := [0, 1, 2]) (fin := [0, 1, 2, 4]) (sps := [⟨[2], [], [3], [(.slot 33)]⟩, ⟨[3], [], [4], [(.slot 32)]⟩]) (es' := [(_, _), (_, _), (_, _), (32, .v (.bool (v9 == 0)))]) (by kernel_rfl) rfl rfl
            ⟨st_plain rfl (op_bin _ _ _ _ _ rfl rfl rfl),
              st_plain rfl (op_assign _ _ _ _ rfl rfl),
              trivial⟩ ?_
          refine pt_then ?_
          refine ht_cond _ rfl (fun hb82 => ?_) (fun hb82 => ?_)
          · have h := cond_t hb82 h
            refine ht_seqR hn (El := [_, _, _, _, (34, .ptr 5 0), (5, .box 24 [.v (.int .i64 6), .v (.int .i64 v7.Number), .v (.int .i64 v7.Offset), .v (.int .i64 v7.Seq), .fl (.own 5) 1 (List.map (Value.int .u8) v7.Data)])]) (init := [0, 1, 2, 3]) (fin := [0, 5]) (sps := [⟨[1], [], [4], [(.slot 34)]⟩, ⟨[4], [1], [5], [.cell 5 0]⟩]) (es' := [(_, _), (5, .box 24 [.v (.int .i64 6), .v (.int .i64 v7.Number), .v (.int .i64 v7.Offset), .v (.int .i64 v7.Seq), .fl (.own 5) 1 (List.map (Value.int .u8) v7.Data)])]) (by kernel_rfl) rfl rfl
              ⟨st_plain rfl (op_fieldAddr _ _ _ _ 5 0 _ Try.underlying24 rfl sz3 rfl rfl (by decide)),
                st_plain rfl (op_store _ _ _ _ _ _ _ _ sz3 rfl rfl rfl rfl (Nat.le_of_ble_eq_true rfl) rfl rfl),
                trivial⟩ ?_
            refine pt_inb ?_
            exact hl80 _ (Option.some.inj h).symm
          · have h := cond_f hb82 h
            refine ht_seq ?_
            refine ht_seqR hn (El := [_, _, _, _, (36, .v (.bool (v9 == 1))), (35, .v (.bool (v9 == 1)))]) (init := [0, 1, 2, 3]) (fin := [0, 1, 2, 5]) (sps := [⟨[2], [], [4], [(.slot 36)]⟩, ⟨[4], [], [5], [(.slot 35)]⟩]) (es' := [(_, _), (_, _), (_, _), (35, .v (.bool (v9 == 1)))]) (by kernel_rfl) rfl rfl
              ⟨st_plain rfl (op_bin _ _ _ _ _ rfl rfl rfl),
                st_plain rfl (op_assign _ _ _ _ rfl rfl),
                trivial⟩ ?_
            refine pt_then ?_
            refine ht_cond _ rfl (fun hb83 => ?_) (fun hb83 => ?_)
            · have h := cond_t hb83 h
              refine ht_seqR hn (El := [_, _, _, _, (37, .ptr 5 1), (5, .box 24 [.v (.int .i64 v7.Kind), .v (.int .i64 0), .v (.int .i64 v7.Offset), .v (.int .i64 v7.Seq), .fl (.own 5) 1 (List.map (Value.int .u8) v7.Data)])]) (init := [0, 1, 2, 3]) (fin := [0, 5]) (sps := [⟨[1], [], [4], [(.slot 37)]⟩, ⟨[4], [1], [5], [.cell 5 1]⟩]) (es' := [(_, _), (5, .box 24 [.v (.int .i64 v7.Kind), .v (.int .i64 0), .v (.int .i64 v7.Offset), .v (.int .i64 v7.Seq), .fl (.own 5) 1 (List.map (Value.int .u8) v7.Data)])]) (by kernel_rfl) rfl rfl
                ⟨st_plain rfl (op_fieldAddr _ _ _ _ 5 0 _ Try.underlying24 rfl sz3 rfl rfl (by decide)),
                  st_plain rfl (op_store _ _ _ _ _ _ _ _ sz3 rfl rfl rfl rfl (Nat.le_of_ble_eq_true rfl) rfl rfl),
                  trivial⟩ ?_
              refine pt_inb ?_
              exact hl80 _ (Option.some.inj h).symm
            · have h := cond_f hb83 h
              refine ht_seq ?_
              refine ht_seqR hn (El := [_, _, _, _, (39, .v (.bool (v9 == 2))), (38, .v (.bool (v9 == 2)))]) (init := [0, 1, 2, 3]) (fin := [0, 1, 2, 5]) (sps := [⟨[2], [], [4], [(.slot 39)]⟩, ⟨[4], [], [5], [(.slot 38)]⟩]) (es' := [(_, _), (_, _), (_, _), (38, .v (.bool (v9 == 2)))]) (by kernel_rfl) rfl rfl
                ⟨st_plain rfl (op_bin _ _ _ _ _ rfl rfl rfl),
                  st_plain rfl (op_assign _ _ _ _ rfl rfl),
                  trivial⟩ ?_
              refine pt_then ?_
              refine ht_cond _ rfl (fun hb84 => ?_) (fun hb84 => ?_)
              · have h := cond_t hb84 h
                refine ht_seqR hn (El := [_, _, _, _, (40, .ptr 5 1), (5, .box 24 [.v (.int .i64 v7.Kind), .v (.int .i64 65536), .v (.int .i64 v7.Offset), .v (.int .i64 v7.Seq), .fl (.own 5) 1 (List.map (Value.int .u8) v7.Data)])]) (init := [0, 1, 2, 3]) (fin := [0, 5]) (sps := [⟨[1], [], [4], [(.slot 40)]⟩, ⟨[4], [1], [5], [.cell 5 1]⟩]) (es' := [(_, _), (5, .box 24 [.v (.int .i64 v7.Kind), .v (.int .i64 65536), .v (.int .i64 v7.Offset), .v (.int .i64 v7.Seq), .fl (.own 5) 1 (List.map (Value.int .u8) v7.Data)])]) (by kernel_rfl) rfl rfl
                  ⟨st_plain rfl (op_fieldAddr _ _ _ _ 5 0 _ Try.underlying24 rfl sz3 rfl rfl (by decide)),
                    st_plain rfl (op_store _ _ _ _ _ _ _ _ sz3 rfl rfl rfl rfl (Nat.le_of_ble_eq_true rfl) rfl rfl),
                    trivial⟩ ?_
                refine pt_inb ?_
                exact hl80 _ (Option.some.inj h).symm
              · have h := cond_f hb84 h
                refine ht_seq ?_
                refine ht_seqR hn (El := [_, _, _, _, (42, .v (.bool (v9 == 3))), (41, .v (.bool (v9 == 3)))]) (init := [0, 1, 2, 3]) (fin := [0, 1, 2, 5]) (sps := [⟨[2], [], [4], [(.slot 42)]⟩, ⟨[4], [], [5], [(.slot 41)]⟩]) (es' := [(_, _), (_, _), (_, _), (41, .v (.bool (v9 == 3)))]) (by kernel_rfl) rfl rfl
                  ⟨st_plain rfl (op_bin _ _ _ _ _ rfl rfl rfl),
                    st_plain rfl (op_assign _ _ _ _ rfl rfl),
                    trivial⟩ ?_
                refine pt_then ?_
                refine ht_cond _ rfl (fun hb85 => ?_) (fun hb85 => ?_)
                · have h := cond_t hb85 h
                  refine ht_seq ?_
                  refine ht_joinS h (fun (s86 : Bool) => [(2, .box 24 [.v (.int .i64 f.Kind), .v (.int .i64 f.Number), .v (.int .i64 f.Offset), .v (.int .i64 f.Seq), .fl .shr 1 (List.map (Value.int .u8) f.Data)]), (5, .box 24 [.v (.int .i64 v7.Kind), .v (.int .i64 v7.Number), .v (.int .i64 v7.Offset), .v (.int .i64 v7.Seq), .fl (.own 5) 1 (List.map (Value.int .u8) v7.Data)]), (50, .v (.bool s86))]) ?_ ?_
                  · rintro s86 h
                    refine pt_then ?_
                    refine ht_cond _ rfl (fun hb90 => ?_) (fun hb90 => ?_)
                    · have h := cond_t hb90 h
                      refine ht_seqR hn (El := [_, _, _, (51, .ptr 5 3), (5, .box 24 [.v (.int .i64 v7.Kind), .v (.int .i64 v7.Number), .v (.int .i64 v7.Offset), .v (.int .i64 8), .fl (.own 5) 1 (List.map (Value.int .u8) v7.Data)])]) (init := [0, 1, 2]) (fin := [0, 4]) (sps := [⟨[1], [], [3], [(.slot 51)]⟩, ⟨[3], [1], [4], [.cell 5 3]⟩]) (es' := [(_, _), (5, .box 24 [.v (.int .i64 v7.Kind), .v (.int .i64 v7.Number), .v (.int .i64 v7.Offset), .v (.int .i64 8), .fl (.own 5) 1 (List.map (Value.int .u8) v7.Data)])]) (by kernel_rfl) rfl rfl
                        ⟨st_plain rfl (op_fieldAddr _ _ _ _ 5 0 _ Try.underlying24 rfl sz3 rfl rfl (by decide)),
                          st_plain rfl (op_store _ _ _ _ _ _ _ _ sz3 rfl rfl rfl rfl (Nat.le_of_ble_eq_true rfl) rfl rfl),
                          trivial⟩ ?_
                      refine pt_inb ?_
                      exact hl80 _ (Option.some.inj h).symm
                    · have h := cond_f hb90 h
                      refine ht_seqR hn (El := [_, _, _, (52, .ptr 5 3), (5, .box 24 [.v (.int .i64 v7.Kind), .v (.int .i64 v7.Number), .v (.int .i64 v7.Offset), .v (.int .i64 1), .fl (.own 5) 1 (List.map (Value.int .u8) v7.Data)])]) (init := [0, 1, 2]) (fin := [0, 4]) (sps := [⟨[1], [], [3], [(.slot 52)]⟩, ⟨[3], [1], [4], [.cell 5 3]⟩]) (es' := [(_, _), (5, .box 24 [.v (.int .i64 v7.Kind), .v (.int .i64 v7.Number), .v (.int .i64 v7.Offset), .v (.int .i64 1), .fl (.own 5) 1 (List.map (Value.int .u8) v7.Data)])]) (by kernel_rfl) rfl rfl
                        ⟨st_plain rfl (op_fieldAddr _ _ _ _ 5 0 _ Try.underlying24 rfl sz3 rfl rfl (by decide)),
                          st_plain rfl (op_store _ _ _ _ _ _ _ _ sz3 rfl rfl rfl rfl (Nat.le_of_ble_eq_true rfl) rfl rfl),
                          trivial⟩ ?_
                      refine pt_inb ?_
                      exact hl80 _ (Option.some.inj h).symm
                  · intro u87 h hl88 hr89
                    refine cond_some h (fun hg15_3 h => ?_) (fun hg15_3 h => ?_)
                    · refine ht_seqR hn (El := [_, _, _, _, (43, .ptr 2 0), (44, .v (.int .i64 f.Kind)), (45, .v (.bool (f.Kind == 3))), (46, .v (.bool true)), (47, .v undef), (48, .v undef), (49, .v undef), (50, .v (.bool true))]) (init := [0, 1, 2, 3]) (fin := [0, 1, 11]) (sps := [⟨[0], [], [4], [(.slot 43)]⟩, ⟨[4, 0], [], [5], [(.slot 44)]⟩, ⟨[5], [], [6], [(.slot 45)]⟩, ⟨[6], [], [7], [(.slot 46)]⟩, ⟨[7], [], [8], [(.slot 47)]⟩, ⟨[7], [], [9], [(.slot 48)]⟩, ⟨[7], [], [10], [(.slot 49)]⟩, ⟨[7], [], [11], [(.slot 50)]⟩]) (es' := [(_, _), (_, _), (50, .v (.bool true))]) (by kernel_rfl) rfl rfl
                        ⟨st_plain rfl (op_fieldAddr _ _ _ _ 2 0 _ Try.underlying24 rfl sz3 rfl rfl (by decide)),
                          st_plain rfl (op_load _ _ _ _ _ _ Try.underlying3 rfl rfl rfl (Nat.le_of_ble_eq_true rfl) rfl rfl rfl),
                          st_plain rfl (op_bin _ _ _ _ _ rfl rfl rfl),
                          st_plain rfl (op_move _ _ _ _ (congrArg (fun b => AV.v (Value.bool b)) hg15_3) rfl),
                          st_skip 3 46 _ false rfl rfl rfl rfl (List.Mem.head _),
                          st_skip 3 46 _ false rfl rfl rfl rfl (List.Mem.head _),
                          st_skip 3 46 _ false rfl rfl rfl rfl (List.Mem.head _),
                          st_plain rfl (op_pick _ _ true _ rfl rfl),
                          trivial⟩ ?_
                      exact hl88 _ (Option.some.inj h).symm
                    · refine ht_seqR hn (El := [_, _, _, _, (43, .ptr 2 0), (44, .v (.int .i64 f.Kind)), (45, .v (.bool (f.Kind == 3))), (46, .v (.bool false)), (47, .ptr 2 0), (48, .v (.int .i64 f.Kind)), (49, .v (.bool (f.Kind == 4))), (50, .v (.bool (f.Kind == 4)))]) (init := [0, 1, 2, 3]) (fin := [0, 1, 11]) (sps := [⟨[0], [], [4], [(.slot 43)]⟩, ⟨[4, 0], [], [5], [(.slot 44)]⟩, ⟨[5], [], [6], [(.slot 45)]⟩, ⟨[6], [], [7], [(.slot 46)]⟩, ⟨[7, 0], [], [8], [(.slot 47)]⟩, ⟨[7, 8, 0], [], [9], [(.slot 48)]⟩, ⟨[7, 9], [], [10], [(.slot 49)]⟩, ⟨[7, 10], [], [11], [(.slot 50)]⟩]) (es' := [(_, _), (_, _), (50, .v (.bool (f.Kind == 4)))]) (by kernel_rfl) rfl rfl
                        ⟨st_plain rfl (op_fieldAddr _ _ _ _ 2 0 _ Try.underlying24 rfl sz3 rfl rfl (by decide)),
                          st_plain rfl (op_load _ _ _ _ _ _ Try.underlying3 rfl rfl rfl (Nat.le_of_ble_eq_true rfl) rfl rfl rfl),
                          st_plain rfl (op_bin _ _ _ _ _ rfl rfl rfl),
                          st_plain rfl (op_move _ _ _ _ (congrArg (fun b => AV.v (Value.bool b)) hg15_3) rfl),
                          st_run 3 46 false rfl rfl rfl (List.Mem.head _) (op_fieldAddr _ _ _ _ 2 0 _ Try.underlying24 rfl sz3 rfl rfl (by decide)),
                          st_run 3 46 false rfl rfl rfl (List.Mem.head _) (op_load _ _ _ _ _ _ Try.underlying3 rfl rfl rfl (Nat.le_of_ble_eq_true rfl) rfl rfl rfl),
                          st_run 3 46 false rfl rfl rfl (List.Mem.head _) (op_bin _ _ _ _ _ rfl rfl rfl),
                          st_plain rfl (op_pick _ _ false _ rfl rfl),
                          trivial⟩ ?_
                      exact hl88 _ (Option.some.inj h).symm
                · have h := cond_f hb85 h
                  refine ht_seq ?_
                  refine ht_seqR hn (El := [_, _, _, _, (54, .v (.bool (v9 == 4))), (53, .v (.bool (v9 == 4)))]) (init := [0, 1, 2, 3]) (fin := [0, 1, 5]) (sps := [⟨[2], [], [4], [(.slot 54)]⟩, ⟨[4], [], [5], [(.slot 53)]⟩]) (es' := [(_, _), (_, _), (53, .v (.bool (v9 == 4)))]) (by kernel_rfl) rfl rfl
                    ⟨st_plain rfl (op_bin _ _ _ _ _ rfl rfl rfl),
                      st_plain rfl (op_assign _ _ _ _ rfl rfl),
                      trivial⟩ ?_
                  refine pt_then ?_
                  refine ht_cond _ rfl (fun hb91 => ?_) (fun hb91 => ?_)
                  · have h := cond_t hb91 h
                    refine ht_seq ?_
                    refine ht_seqR hn (El := [_, _, _, (55, .ptr 2 0), (56, .v (.int .i64 f.Kind)), (57, .v (.bool (f.Kind == 3)))]) (init := [0, 1, 2]) (fin := [0, 1, 5]) (sps := [⟨[0], [], [3], [(.slot 55)]⟩, ⟨[3, 0], [], [4], [(.slot 56)]⟩, ⟨[4], [], [5], [(.slot 57)]⟩]) (es' := [(_, _), (_, _), (57, .v (.bool (f.Kind == 3)))]) (by kernel_rfl) rfl rfl
                      ⟨st_plain rfl (op_fieldAddr _ _ _ _ 2 0 _ Try.underlying24 rfl sz3 rfl rfl (by decide)),
                        st_plain rfl (op_load _ _ _ _ _ _ Try.underlying3 rfl rfl rfl (Nat.le_of_ble_eq_true rfl) rfl rfl rfl),
                        st_plain rfl (op_bin _ _ _ _ _ rfl rfl rfl),
                        trivial⟩ ?_
                    refine pt_then ?_
                    refine ht_cond _ rfl (fun hb92 => ?_) (fun hb92 => ?_)
                    · have h := cond_t hb92 h
                      refine ht_seqR hn (El := [_, _, _, (58, .ptr 5 4), (5, .box 24 [.v (.int .i64 v7.Kind), .v (.int .i64 v7.Number), .v (.int .i64 v7.Offset), .v (.int .i64 v7.Seq), .v (.slice none 0 0)])]) (init := [0, 1, 2]) (fin := [0, 4]) (sps := [⟨[1], [], [3], [(.slot 58)]⟩, ⟨[3], [1], [4], [.cell 5 4]⟩]) (es' := [(_, _), (5, .box 24 [.v (.int .i64 v7.Kind), .v (.int .i64 v7.Number), .v (.int .i64 v7.Offset), .v (.int .i64 v7.Seq), .v (.slice none 0 0)])]) (by kernel_rfl) rfl rfl
                        ⟨st_plain rfl (op_fieldAddr _ _ _ _ 5 0 _ Try.underlying24 rfl sz22 rfl rfl (by decide)),
                          st_plain rfl (op_store _ _ _ _ _ _ _ _ sz22 rfl rfl rfl rfl (Nat.le_of_ble_eq_true rfl) rfl rfl),
                          trivial⟩ ?_
                      refine pt_inb ?_
                      refine pt_sub (fs := [(2, .box 24 [.v (.int .i64 f.Kind), .v (.int .i64 f.Number), .v (.int .i64 f.Offset), .v (.int .i64 f.Seq), .fl .shr 1 (List.map (Value.int .u8) f.Data)]), (5, .box 24 [.v (.int .i64 v7.Kind), .v (.int .i64 v7.Number), .v (.int .i64 v7.Offset), .v (.int .i64 v7.Seq), .fl (.own 5) 1 (List.map (Value.int .u8) [])])]) (.same _ (.box _ _ (subs_cons (sub_refl _) (subs_cons (sub_refl _) (subs_cons (sub_refl _) (subs_cons (sub_refl _) (subs_cons (sub_nil 5 1) (subs_nil)))))) rfl .nil)) ?_
                      exact hl80 _ (Option.some.inj h).symm
                    · have h := cond_f hb92 h
                      refine ht_seqR hn (El := [_, _, _, (59, .fl (.own 5) 1 (List.map (Value.int .u8) [1])), (60, .ptr 5 4), (5, .box 24 [.v (.int .i64 v7.Kind), .v (.int .i64 v7.Number), .v (.int .i64 v7.Offset), .v (.int .i64 v7.Seq), .fl (.own 5) 1 (List.map (Value.int .u8) [1])])]) (init := [0, 1, 2]) (fin := [0, 5]) (sps := [⟨[], [], [3], [(.slot 59)]⟩, ⟨[1], [], [4], [(.slot 60)]⟩, ⟨[4], [3, 1], [5], [.cell 5 4]⟩]) (es' := [(_, _), (5, .box 24 [.v (.int .i64 v7.Kind), .v (.int .i64 v7.Number), .v (.int .i64 v7.Offset), .v (.int .i64 v7.Seq), .fl (.own 5) 1 (List.map (Value.int .u8) [1])])]) (by kernel_rfl) rfl rfl
                        ⟨st_plain rfl (op_buildSlice _ _ 1 (.int .u8 0) (List.map (Value.int .u8) [1]) [(0, .int .u8 1)] Try.underlying22 sz5 zr5 (fun _ V w o a hv hes => by simp only [List.map_toArray, List.map_cons, List.map_nil]; try rfl) (litfill (by simp [Instr.fill, Value.cells]; rfl) (by simp [List.range, List.range.loop])) (by simp [Value.oneCell']) rfl (by decide) (by decide) (by decide)),
                          st_plain rfl (op_fieldAddr _ _ _ _ 5 0 _ Try.underlying24 rfl sz22 rfl rfl (by decide)),
                          st_plain rfl (op_store_take _ _ _ _ _ _ _ _ sz22 rfl rfl rfl (Nat.le_of_ble_eq_true rfl) rfl rfl),
                          trivial⟩ ?_
                      refine pt_inb ?_
                      exact hl80 _ (Option.some.inj h).symm
                  · have h := cond_f hb91 h
                    refine ht_seq ?_
                    refine ht_joinS h (fun (s93 : Bool) => [(2, .box 24 [.v (.int .i64 f.Kind), .v (.int .i64 f.Number), .v (.int .i64 f.Offset), .v (.int .i64 f.Seq), .fl .shr 1 (List.map (Value.int .u8) f.Data)]), (5, .box 24 [.v (.int .i64 v7.Kind), .v (.int .i64 v7.Number), .v (.int .i64 v7.Offset), .v (.int .i64 v7.Seq), .fl (.own 5) 1 (List.map (Value.int .u8) v7.Data)]), (29, .v (.bool s93))]) ?_ ?_
                    · rintro s93 h
                      refine pt_then ?_
                      refine ht_cond _ rfl (fun hb97 => ?_) (fun hb97 => ?_)
                      · have h := cond_t hb97 h
                        refine ht_seqR hn (El := [_, _, _, (30, .ptr 5 2), (5, .box 24 [.v (.int .i64 v7.Kind), .v (.int .i64 v7.Number), .v (.int .i64 1), .v (.int .i64 v7.Seq), .fl (.own 5) 1 (List.map (Value.int .u8) v7.Data)])]) (init := [0, 1, 2]) (fin := [0, 4]) (sps := [⟨[1], [], [3], [(.slot 30)]⟩, ⟨[3], [1], [4], [.cell 5 2]⟩]) (es' := [(_, _), (5, .box 24 [.v (.int .i64 v7.Kind), .v (.int .i64 v7.Number), .v (.int .i64 1), .v (.int .i64 v7.Seq), .fl (.own 5) 1 (List.map (Value.int .u8) v7.Data)])]) (by kernel_rfl) rfl rfl
                          ⟨st_plain rfl (op_fieldAddr _ _ _ _ 5 0 _ Try.underlying24 rfl sz3 rfl rfl (by decide)),
                            st_plain rfl (op_store _ _ _ _ _ _ _ _ sz3 rfl rfl rfl rfl (Nat.le_of_ble_eq_true rfl) rfl rfl),
                            trivial⟩ ?_
                        refine pt_inb ?_
                        exact hl80 _ (Option.some.inj h).symm
                      · have h := cond_f hb97 h
                        refine ht_seqR hn (El := [_, _, _, (31, .ptr 5 2), (5, .box 24 [.v (.int .i64 v7.Kind), .v (.int .i64 v7.Number), .v (.int .i64 5001), .v (.int .i64 v7.Seq), .fl (.own 5) 1 (List.map (Value.int .u8) v7.Data)])]) (init := [0, 1, 2]) (fin := [0, 4]) (sps := [⟨[1], [], [3], [(.slot 31)]⟩, ⟨[3], [1], [4], [.cell 5 2]⟩]) (es' := [(_, _), (5, .box 24 [.v (.int .i64 v7.Kind), .v (.int .i64 v7.Number), .v (.int .i64 5001), .v (.int .i64 v7.Seq), .fl (.own 5) 1 (List.map (Value.int .u8) v7.Data)])]) (by kernel_rfl) rfl rfl
                          ⟨st_plain rfl (op_fieldAddr _ _ _ _ 5 0 _ Try.underlying24 rfl sz3 rfl rfl (by decide)),
                            st_plain rfl (op_store _ _ _ _ _ _ _ _ sz3 rfl rfl rfl rfl (Nat.le_of_ble_eq_true rfl) rfl rfl),
                            trivial⟩ ?_
                        refine pt_inb ?_
                        exact hl80 _ (Option.some.inj h).symm
                    · intro u94 h hl95 hr96
                      refine cond_some h (fun hg5_3 h => ?_) (fun hg5_3 h => ?_)
                      · refine ht_seqR hn (El := [_, _, _, (22, .ptr 2 0), (23, .v (.int .i64 f.Kind)), (24, .v (.bool (f.Kind == 4))), (25, .v (.bool true)), (26, .v undef), (27, .v undef), (28, .v undef), (29, .v (.bool true))]) (init := [0, 1, 2]) (fin := [0, 1, 10]) (sps := [⟨[0], [], [3], [(.slot 22)]⟩, ⟨[3, 0], [], [4], [(.slot 23)]⟩, ⟨[4], [], [5], [(.slot 24)]⟩, ⟨[5], [], [6], [(.slot 25)]⟩, ⟨[6], [], [7], [(.slot 26)]⟩, ⟨[6], [], [8], [(.slot 27)]⟩, ⟨[6], [], [9], [(.slot 28)]⟩, ⟨[6], [], [10], [(.slot 29)]⟩]) (es' := [(_, _), (_, _), (29, .v (.bool true))]) (by kernel_rfl) rfl rfl
                          ⟨st_plain rfl (op_fieldAddr _ _ _ _ 2 0 _ Try.underlying24 rfl sz3 rfl rfl (by decide)),
                            st_plain rfl (op_load _ _ _ _ _ _ Try.underlying3 rfl rfl rfl (Nat.le_of_ble_eq_true rfl) rfl rfl rfl),
                            st_plain rfl (op_bin _ _ _ _ _ rfl rfl rfl),
                            st_plain rfl (op_move _ _ _ _ (congrArg (fun b => AV.v (Value.bool b)) hg5_3) rfl),
                            st_skip 3 25 _ false rfl rfl rfl rfl (List.Mem.head _),
                            st_skip 3 25 _ false rfl rfl rfl rfl (List.Mem.head _),
                            st_skip 3 25 _ false rfl rfl rfl rfl (List.Mem.head _),
                            st_plain rfl (op_pick _ _ true _ rfl rfl),
                            trivial⟩ ?_
                        exact hl95 _ (Option.some.inj h).symm
                      · refine ht_seqR hn (El := [_, _, _, (22, .ptr 2 0), (23, .v (.int .i64 f.Kind)), (24, .v (.bool (f.Kind == 4))), (25, .v (.bool false)), (26, .ptr 2 0), (27, .v (.int .i64 f.Kind)), (28, .v (.bool (f.Kind == 5))), (29, .v (.bool (f.Kind == 5)))]) (init := [0, 1, 2]) (fin := [0, 1, 10]) (sps := [⟨[0], [], [3], [(.slot 22)]⟩, ⟨[3, 0], [], [4], [(.slot 23)]⟩, ⟨[4], [], [5], [(.slot 24)]⟩, ⟨[5], [], [6], [(.slot 25)]⟩, ⟨[6, 0], [], [7], [(.slot 26)]⟩, ⟨[6, 7, 0], [], [8], [(.slot 27)]⟩, ⟨[6, 8], [], [9], [(.slot 28)]⟩, ⟨[6, 9], [], [10], [(.slot 29)]⟩]) (es' := [(_, _), (_, _), (29, .v (.bool (f.Kind == 5)))]) (by kernel_rfl) rfl rfl
                          ⟨st_plain rfl (op_fieldAddr _ _ _ _ 2 0 _ Try.underlying24 rfl sz3 rfl rfl (by decide)),
                            st_plain rfl (op_load _ _ _ _ _ _ Try.underlying3 rfl rfl rfl (Nat.le_of_ble_eq_true rfl) rfl rfl rfl),
                            st_plain rfl (op_bin _ _ _ _ _ rfl rfl rfl),
                            st_plain rfl (op_move _ _ _ _ (congrArg (fun b => AV.v (Value.bool b)) hg5_3) rfl),
                            st_run 3 25 false rfl rfl rfl (List.Mem.head _) (op_fieldAddr _ _ _ _ 2 0 _ Try.underlying24 rfl sz3 rfl rfl (by decide)),
                            st_run 3 25 false rfl rfl rfl (List.Mem.head _) (op_load _ _ _ _ _ _ Try.underlying3 rfl rfl rfl (Nat.le_of_ble_eq_true rfl) rfl rfl rfl),
                            st_run 3 25 false rfl rfl rfl (List.Mem.head _) (op_bin _ _ _ _ _ rfl rfl rfl),
                            st_plain rfl (op_pick _ _ false _ rfl rfl),
                            trivial⟩ ?_
                        exact hl95 _ (Option.some.inj h).symm
  · intro u3 h hl4 hr5
    refine cond_some h (fun hg1_4 h => ?_) (fun hg1_4 h => ?_)
    · refine ht_seqR hn (El := [_, _, (8, .ptr 2 4), (9, .fl .shr 1 (List.map (Value.int .u8) f.Data)), (10, .v (.int .i64 (f.Data.length : Int))), (11, .v (.bool ((decide (300 < (f.Data.length : Int)))))), (12, .v (.bool true)), (13, .v undef), (14, .v undef), (15, .v undef), (16, .v (.bool true))]) (init := [0, 1]) (fin := [0, 1, 10]) (sps := [⟨[1], [], [2], [(.slot 8)]⟩, ⟨[2, 1], [], [3], [(.slot 9)]⟩, ⟨[3], [], [4], [(.slot 10)]⟩, ⟨[4], [], [5], [(.slot 11)]⟩, ⟨[5], [], [6], [(.slot 12)]⟩, ⟨[6], [], [7], [(.slot 13)]⟩, ⟨[6], [], [8], [(.slot 14)]⟩, ⟨[6], [], [9], [(.slot 15)]⟩, ⟨[6], [], [10], [(.slot 16)]⟩]) (es' := [(_, _), (_, _), (16, .v (.bool true))]) (by kernel_rfl) rfl rfl
        ⟨st_plain rfl (op_fieldAddr _ _ _ _ 2 0 _ Try.underlying24 rfl sz22 rfl rfl (by decide)),
          st_plain rfl (op_load _ _ _ _ _ _ Try.underlying22 rfl rfl rfl (Nat.le_of_ble_eq_true rfl) rfl rfl rfl),
          st_plain rfl (op_len_fl _ _ _ Try.underlying22 rfl (by decide) (map_len _)),
          st_plain rfl (op_bin _ _ _ _ _ rfl rfl rfl),
          st_plain rfl (op_move _ _ _ _ (congrArg (fun b => AV.v (Value.bool b)) hg1_4) rfl),
          st_skip 4 12 _ false rfl rfl rfl rfl (List.Mem.head _),
          st_skip 4 12 _ false rfl rfl rfl rfl (List.Mem.head _),
          st_skip 4 12 _ false rfl rfl rfl rfl (List.Mem.head _),
          st_plain rfl (op_pick _ _ true _ rfl rfl),
          trivial⟩ ?_
      exact hl4 _ (Option.some.inj h).symm
    · obtain ⟨v1, hv1, h⟩ := bind_some h
      refine ht_seqR hn (El := [_, _, (8, .ptr 2 4), (9, .fl .shr 1 (List.map (Value.int .u8) f.Data)), (10, .v (.int .i64 (f.Data.length : Int))), (11, .v (.bool ((decide (300 < (f.Data.length : Int)))))), (12, .v (.bool false)), (13, .agg [.v (.int .i64 f.Kind), .v (.int .i64 f.Number), .v (.int .i64 f.Offset), .v (.int .i64 f.Seq), .fl .shr 1 (List.map (Value.int .u8) f.Data)]), (14, .v (.bool v1)), (15, .v (.bool (!v1))), (16, .v (.bool (!v1)))]) (init := [0, 1]) (fin := [0, 1, 10]) (sps := [⟨[1], [], [2], [(.slot 8)]⟩, ⟨[2, 1], [], [3], [(.slot 9)]⟩, ⟨[3], [], [4], [(.slot 10)]⟩, ⟨[4], [], [5], [(.slot 11)]⟩, ⟨[5], [], [6], [(.slot 12)]⟩, ⟨[6, 1], [], [7], [(.slot 13)]⟩, ⟨[6, 7], [], [8], [(.slot 14)]⟩, ⟨[6, 8], [], [9], [(.slot 15)]⟩, ⟨[6, 9], [], [10], [(.slot 16)]⟩]) (es' := [(_, _), (_, _), (16, .v (.bool (!v1)))]) (by kernel_rfl) rfl rfl
        ⟨st_plain rfl (op_fieldAddr _ _ _ _ 2 0 _ Try.underlying24 rfl sz22 rfl rfl (by decide)),
          st_plain rfl (op_load _ _ _ _ _ _ Try.underlying22 rfl rfl rfl (Nat.le_of_ble_eq_true rfl) rfl rfl rfl),
          st_plain rfl (op_len_fl _ _ _ Try.underlying22 rfl (by decide) (map_len _)),
          st_plain rfl (op_bin _ _ _ _ _ rfl rfl rfl),
          st_plain rfl (op_move _ _ _ _ (congrArg (fun b => AV.v (Value.bool b)) hg1_4) rfl),
          st_run 4 12 false rfl rfl rfl (List.Mem.head _) (op_loadA _ _ _ _ _ _ _ Try.underlying24 rfl sz24 rfl rfl (Nat.le_of_ble_eq_true rfl) rfl rfl),
          st_run 4 12 false rfl rfl rfl (List.Mem.head _) (op_call _ _ 15 _ _ rfl Try.call15 rfl (ok_wherryref18_Frame f _ hv1) rfl rfl),
          st_run 4 12 false rfl rfl rfl (List.Mem.head _) (op_un _ _ _ _ rfl rfl),
          st_plain rfl (op_pick _ _ false _ rfl rfl),
          trivial⟩ ?_
      exact hl4 _ (Option.some.inj h).symm

end Go.Proofs.Ytenfngliiibiiaa
