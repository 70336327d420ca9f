/-
  The model's runs are what is told in Lean.
-/
import Derived.Test.YtegjndibgnnpcaaProg
import Derived.KernelRfl
import Derived.Test.YtegjndibgnnpcaaShelf
import Derived.Test.YtegjndibgnnpcaaOkc2
set_option linter.unusedVariables false
set_option linter.unusedSimpArgs false
namespace Go.Proofs.Ytegjndibgnnpcaa
open Go.Abs Go.Abs.Sh

set_option maxHeartbeats 1000000 in
theorem ok_wherrylaw13_AnswerMixed (mx : Int) (code : Int) (how : Int) (r : Bool) (h : Sh.wherrylaw13_AnswerMixed code how = some r) : FnG Try.prog (GL mx) 7 [.v (.int .i64 code), .v (.int .i64 how)] (.v (.bool r)) := by
  unfold Sh.wherrylaw13_AnswerMixed at h
  refine fn_okG Try.func7 rfl (Nat.le_of_ble_eq_true rfl) rfl rfl fun g0 hn hio => ?_
  refine ht_seq ?_
  refine ht_seqR hn (El := [_, _, _, (4, .v (.bool false))]) (init := [0, 1, 2]) (fin := [0, 1, 2]) (sps := [⟨[], [], [3], [(.slot 4)]⟩]) (es' := [(_, _), (_, _), (_, _)]) (by kernel_rfl) rfl rfl
   ⟨st_plain rfl (op_assign _ _ _ _ rfl rfl),
   trivial⟩ ?_
  refine pt_then ?_
  refine ht_seq ?_
  obtain ⟨v1, hv1, h⟩ := bind_some h
  obtain ⟨v2, hv2, h⟩ := bind_some h
  obtain ⟨v3, hv3, h⟩ := bind_some h
  obtain ⟨v4, hv4, h⟩ := bind_some h
  refine ht_seqR hn (El := [_, _, _, (14, .v (.int .i64 code)), (15, .v (.int .u64 v1)), (16, .v (.int .u64 v2)), (17, .v (.int .i64 v3)), (18, .v (.int .i64 v4)), (0, .v (.int .i64 v4))]) (init := [0, 1, 2]) (fin := [1, 2, 8]) (sps := [⟨[0], [], [3], [(.slot 14)]⟩, ⟨[3], [], [4], [(.slot 15)]⟩, ⟨[4], [], [5], [(.slot 16)]⟩, ⟨[5], [], [6], [(.slot 17)]⟩, ⟨[6], [], [7], [(.slot 18)]⟩, ⟨[7], [0], [8], [(.slot 0)]⟩]) (es' := [(_, _), (_, _), (0, .v (.int .i64 v4))]) (by kernel_rfl) rfl rfl
   ⟨st_plain rfl (op_move _ _ _ _ rfl rfl),
   st_plain rfl ((Option.some.inj hv1) ▸ op_conv _ _ _ Try.underlying3 Try.underlying43 rfl),
   st_plain rfl (op_bin _ _ _ _ _ rfl rfl (rem_ok hv2)),
   st_plain rfl ((Option.some.inj hv3) ▸ op_conv _ _ _ Try.underlying43 Try.underlying3 rfl),
   st_plain rfl (op_bin _ _ _ _ _ rfl rfl (ibind (f := Value.int .i64) (Option.some.inj hv4))),
   st_plain rfl (LOp.drop [_] (op_assign _ _ _ _ rfl rfl)),
   trivial⟩ ?_
  refine pt_then ?_
  refine ht_seq ?_
  obtain ⟨v5, hv5, h⟩ := bind_some h
  refine ht_seqR hn (El := [_, _, _, (19, .v (.int .i64 v4)), (20, .v (.string v5)), (5, .v (.string v5))]) (init := [0, 1, 2]) (fin := [0, 1, 2, 5]) (sps := [⟨[2], [], [3], [(.slot 19)]⟩, ⟨[3], [], [4], [(.slot 20)]⟩, ⟨[4], [], [5], [(.slot 5)]⟩]) (es' := [(_, _), (_, _), (_, _), (5, .v (.string v5))]) (by kernel_rfl) rfl rfl
   ⟨st_plain rfl (op_move _ _ _ _ rfl rfl),
   st_plain rfl (op_call _ _ 20 _ _ rfl Try.call20 rfl (ok_wherryref11_Digits v4 _ hv5) rfl rfl),
   st_plain rfl (op_assign _ _ _ _ rfl rfl),
   trivial⟩ ?_
  refine pt_then ?_
  refine ht_seq ?_
  obtain ⟨v6, hv6, h⟩ := bind_some h
  obtain ⟨v7, hv7, h⟩ := bind_some h
  refine ht_seqR hn (El := [_, _, _, _, (21, .v (.int .i64 v4)), (22, .v (.int .i64 v6)), (23, .v (.string v7)), (6, .v (.string v7))]) (init := [0, 1, 2, 3]) (fin := [0, 1, 2, 3, 7]) (sps := [⟨[2], [], [4], [(.slot 21)]⟩, ⟨[4], [], [5], [(.slot 22)]⟩, ⟨[5], [], [6], [(.slot 23)]⟩, ⟨[6], [], [7], [(.slot 6)]⟩]) (es' := [(_, _), (_, _), (_, _), (_, _), (6, .v (.string v7))]) (by kernel_rfl) rfl rfl
   ⟨st_plain rfl (op_move _ _ _ _ rfl rfl),
   st_plain rfl (op_bin _ _ _ _ _ rfl rfl (ibind (f := Value.int .i64) (Option.some.inj hv6))),
   st_plain rfl (op_call _ _ 20 _ _ rfl Try.call20 rfl (ok_wherryref11_Digits v6 _ hv7) rfl rfl),
   st_plain rfl (op_assign _ _ _ _ rfl rfl),
   trivial⟩ ?_
  refine pt_then ?_
  refine ht_seq ?_
  obtain ⟨v8, hv8, h⟩ := bind_some h
  obtain ⟨v9, hv9, h⟩ := bind_some h
  obtain ⟨v10, hv10, h⟩ := bind_some h
  obtain ⟨v11, hv11, h⟩ := bind_some h
  obtain ⟨v12, hv12, h⟩ := bind_some h
  obtain ⟨v13, hv13, h⟩ := bind_some h
  obtain ⟨v14, hv14, h⟩ := bind_some h
  obtain ⟨v15, hv15, h⟩ := bind_some h
  obtain ⟨v16, hv16, h⟩ := bind_some h
  obtain ⟨v17, hv17, h⟩ := bind_some h
  obtain ⟨v18, hv18, h⟩ := bind_some h
  obtain ⟨v19, hv19, h⟩ := bind_some h
  refine ht_seqR hn (El := (_ :: _ :: _ :: _ :: _ :: (24, .v (.string v5)) :: (25, .v (.string v8)) :: (26, .v (.string v7)) :: (27, .v (.string v9)) :: (28, .v (.string v10)) :: (29, .v (.string v5)) :: (30, .v (.string v11)) :: (31, .v (.string v5)) :: (32, .v (.string v12)) :: (33, .v (.string v5)) :: (34, .v (.string v13)) :: (35, .v (.string v5)) :: (36, .v (.string v14)) :: (37, .v (.string v5)) :: (38, .v (.string v15)) :: (39, .v (.string v16)) :: (40, .v (.string v5)) :: (41, .v (.string v17)) :: (42, .v (.string v5)) :: (43, .v (.string v18)) :: (44, .v (.string v19)) :: (45, .fl (.own 9) 1 (List.map Value.string [v10, v11, v12, v13, v14, v16, v17, v19])) :: (7, .fl (.own 9) 1 (List.map Value.string [v10, v11, v12, v13, v14, v16, v17, v19])) :: [])) (init := [0, 1, 2, 3, 4]) (fin := [0, 1, 2, 3, 27]) (sps := (⟨[3], [], [5], [(.slot 24)]⟩ :: ⟨[5], [], [6], [(.slot 25)]⟩ :: ⟨[4], [], [7], [(.slot 26)]⟩ :: ⟨[6, 7], [], [8], [(.slot 27)]⟩ :: ⟨[8], [], [9], [(.slot 28)]⟩ :: ⟨[3], [], [10], [(.slot 29)]⟩ :: ⟨[10], [], [11], [(.slot 30)]⟩ :: ⟨[3], [], [12], [(.slot 31)]⟩ :: ⟨[12], [], [13], [(.slot 32)]⟩ :: ⟨[3], [], [14], [(.slot 33)]⟩ :: ⟨[14], [], [15], [(.slot 34)]⟩ :: ⟨[3], [], [16], [(.slot 35)]⟩ :: ⟨[16], [], [17], [(.slot 36)]⟩ :: ⟨[3], [], [18], [(.slot 37)]⟩ :: ⟨[18], [], [19], [(.slot 38)]⟩ :: ⟨[19], [], [20], [(.slot 39)]⟩ :: ⟨[3], [], [21], [(.slot 40)]⟩ :: ⟨[21], [], [22], [(.slot 41)]⟩ :: ⟨[3], [], [23], [(.slot 42)]⟩ :: ⟨[23], [], [24], [(.slot 43)]⟩ :: ⟨[24], [], [25], [(.slot 44)]⟩ :: ⟨[9, 11, 13, 15, 17, 20, 22, 25], [], [26], [(.slot 45)]⟩ :: ⟨[], [26], [27], [(.slot 7)]⟩ :: [])) (es' := [(_, _), (_, _), (_, _), (_, _), (7, .fl (.own 9) 1 (List.map Value.string [v10, v11, v12, v13, v14, v16, v17, v19]))]) (by kernel_rfl) rfl rfl
   ⟨st_plain rfl (op_move _ _ _ _ rfl rfl),
   st_plain rfl (op_bin _ _ _ _ _ rfl rfl (cat_ok hv8)),
   st_plain rfl (op_move _ _ _ _ rfl rfl),
   st_plain rfl (op_bin _ _ _ _ _ rfl rfl (cat_ok hv9)),
   st_plain rfl (op_bin _ _ _ _ _ rfl rfl (cat_ok hv10)),
   st_plain rfl (op_move _ _ _ _ rfl rfl),
   st_plain rfl (op_bin _ _ _ _ _ rfl rfl (cat_ok hv11)),
   st_plain rfl (op_move _ _ _ _ rfl rfl),
   st_plain rfl (op_bin _ _ _ _ _ rfl rfl (cat_ok hv12)),
   st_plain rfl (op_move _ _ _ _ rfl rfl),
   st_plain rfl (op_bin _ _ _ _ _ rfl rfl (cat_ok hv13)),
   st_plain rfl (op_move _ _ _ _ rfl rfl),
   st_plain rfl (op_bin _ _ _ _ _ rfl rfl (cat_ok hv14)),
   st_plain rfl (op_move _ _ _ _ rfl rfl),
   st_plain rfl (op_bin _ _ _ _ _ rfl rfl (cat_ok hv15)),
   st_plain rfl (op_bin _ _ _ _ _ rfl rfl (cat_ok hv16)),
   st_plain rfl (op_move _ _ _ _ rfl rfl),
   st_plain rfl (op_bin _ _ _ _ _ rfl rfl (cat_ok hv17)),
   st_plain rfl (op_move _ _ _ _ rfl rfl),
   st_plain rfl (op_bin _ _ _ _ _ rfl rfl (cat_ok hv18)),
   st_plain rfl (op_bin _ _ _ _ _ rfl rfl (cat_ok hv19)),
   st_plain rfl (op_buildSlice _ _ 1 (.string ByteArray.empty) (List.map Value.string [v10, v11, v12, v13, v14, v16, v17, v19]) [(0, .string v10), (1, .string v11), (2, .string v12), (3, .string v13), (4, .string v14), (5, .string v16), (6, .string v17), (7, .string v19)] Try.underlying22 sz9 zr9 (fun _ V w o a hv hes => by have e0 := rd_v hv hes (x := .tmp 28) rfl; have e1 := rd_v hv hes (x := .tmp 30) rfl; have e2 := rd_v hv hes (x := .tmp 32) rfl; have e3 := rd_v hv hes (x := .tmp 34) rfl; have e4 := rd_v hv hes (x := .tmp 36) rfl; have e5 := rd_v hv hes (x := .tmp 39) rfl; have e6 := rd_v hv hes (x := .tmp 41) rfl; have e7 := rd_v hv hes (x := .tmp 44) rfl; simp only [List.map_toArray, List.map_cons, List.map_nil, e0, e1, e2, e3, e4, e5, e6, e7]; try rfl) (litfill (by simp [Instr.fill, Value.cells]; rfl) (by simp [List.range, List.range.loop])) (by simp [Value.oneCell']) rfl (by decide) (by decide) (by decide)),
   st_plain rfl (op_assign_take _ _ _ _ rfl),
   trivial⟩ ?_
  refine pt_then ?_
  refine ht_seq ?_
  obtain ⟨v20, hv20, h⟩ := bind_some h
  obtain ⟨v21, hv21, h⟩ := bind_some h
  obtain ⟨v22, hv22, h⟩ := bind_some h
  obtain ⟨v23, hv23, h⟩ := bind_some h
  obtain ⟨v24, hv24, h⟩ := bind_some h
  obtain ⟨v25, hv25, h⟩ := bind_some h
  obtain ⟨v26, hv26, h⟩ := bind_some h
  refine ht_seqR hn (El := (_ :: _ :: _ :: _ :: _ :: (47, .fl (.own 9) 1 (List.map Value.string [v10, v11, v12, v13, v14, v16, v17, v19])) :: (48, .v (.int .i64 how)) :: (49, .v (.int .u64 v20)) :: (50, .v (.int .u64 v21)) :: (51, .v (.int .i64 v22)) :: (52, .eref (.slot 47) (v23 * 1)) :: (53, .v (.string v24)) :: (54, .fl .ro 1 (List.map (Value.int .u8) v25)) :: (55, .tup [.agg [.v (.int .i64 v26.1.Code), .fl (.own 9) 1 (List.map Value.string v26.1.Lines)], .v (.int .i64 v26.2.1), .v (.int .i64 v26.2.2)]) :: (46, .tup [.agg [.v (.int .i64 v26.1.Code), .fl (.own 9) 1 (List.map Value.string v26.1.Lines)], .v (.int .i64 v26.2.1), .v (.int .i64 v26.2.2)]) :: (56, .agg [.v (.int .i64 v26.1.Code), .fl (.own 9) 1 (List.map Value.string v26.1.Lines)]) :: (46, .tup [.any, .v (.int .i64 v26.2.1), .v (.int .i64 v26.2.2)]) :: (57, .v (.int .i64 v26.2.1)) :: (58, .v (.int .i64 v26.2.2)) :: (8, .box 24 [.v (.int .i64 0), .v (.slice none 0 0)]) :: (8, .box 24 [.v (.int .i64 v26.1.Code), .fl (.own 9) 1 (List.map Value.string v26.1.Lines)]) :: (9, .v (.int .i64 v26.2.1)) :: (10, .v (.int .i64 v26.2.2)) :: [])) (init := [0, 1, 2, 3, 4]) (fin := [1, 2, 3, 20, 21, 22]) (sps := (⟨[], [4], [5], [(.slot 47)]⟩ :: ⟨[0], [], [6], [(.slot 48)]⟩ :: ⟨[6], [], [7], [(.slot 49)]⟩ :: ⟨[7], [], [8], [(.slot 50)]⟩ :: ⟨[8], [], [9], [(.slot 51)]⟩ :: ⟨[5, 9], [], [10], [(.slot 52)]⟩ :: ⟨[10, 5], [], [11], [(.slot 53)]⟩ :: ⟨[11], [], [12], [(.slot 54)]⟩ :: ⟨[12, 1], [], [13], [(.slot 55)]⟩ :: ⟨[], [13], [14], [(.slot 46)]⟩ :: ⟨[], [14], [16, 15], [(.slot 56)]⟩ :: ⟨[16], [], [17], [(.slot 57)]⟩ :: ⟨[16], [], [18], [(.slot 58)]⟩ :: ⟨[], [], [19], [(.slot 8)]⟩ :: ⟨[], [15, 19], [20], [.cell 8 0, .cell 8 1]⟩ :: ⟨[17], [], [21], [(.slot 9)]⟩ :: ⟨[18], [], [22], [(.slot 10)]⟩ :: [])) (es' := [(_, _), (_, _), (_, _), (8, .box 24 [.v (.int .i64 v26.1.Code), .fl (.own 9) 1 (List.map Value.string v26.1.Lines)]), (9, .v (.int .i64 v26.2.1)), (10, .v (.int .i64 v26.2.2))]) (by kernel_rfl) rfl rfl
   ⟨st_plain rfl (op_move_take _ _ _ _ rfl),
   st_plain rfl (op_move _ _ _ _ rfl rfl),
   st_plain rfl ((Option.some.inj hv20) ▸ op_conv _ _ _ Try.underlying3 Try.underlying43 rfl),
   st_plain rfl (op_bin _ _ _ _ _ rfl rfl (rem_ok hv21)),
   st_plain rfl ((Option.some.inj hv22) ▸ op_conv _ _ _ Try.underlying43 Try.underlying3 rfl),
   st_plain rfl (op_ix _ _ _ _ _ _ _ _ Try.underlying22 sz9 (by decide) rfl rfl rfl (ix_ok hv23).1 (map_lt (ix_ok hv23).2) rfl),
   st_plain rfl (op_load_e _ _ _ _ _ _ Try.underlying9 rfl rfl rfl (map_get hv24)),
   st_plain rfl ((Option.some.inj hv25) ▸ op_str_bytes _ _ _ v24 Try.underlying9 Try.underlying25 Try.underlying5 rfl),
   st_plain rfl (op_callG _ _ 104 11 _ _ rfl Try.call11 rfl rfl (fun _ h => h) (ok_answer_Read mx v25 _ hv26) rfl rfl),
   st_plain rfl (op_move_take _ _ _ _ rfl),
   st_plain rfl (op_extract_take _ _ _ _ _ rfl (Nat.le_of_ble_eq_true rfl) rfl rfl (by decide) rfl),
   st_plain rfl (op_extract _ _ _ _ _ rfl rfl (Nat.le_of_ble_eq_true rfl) rfl rfl),
   st_plain rfl (op_extract _ _ _ _ _ rfl rfl (Nat.le_of_ble_eq_true rfl) rfl rfl),
   st_plain rfl (op_alloc _ _ zr24),
   st_plain rfl (op_store_take _ _ _ _ _ _ _ _ sz24 rfl rfl rfl (Nat.le_of_ble_eq_true rfl) rfl rfl),
   st_plain rfl (op_assign _ _ _ _ rfl rfl),
   st_plain rfl (op_assign _ _ _ _ rfl rfl),
   trivial⟩ ?_
  refine pt_then ?_
  refine ht_seq ?_
  obtain ⟨v27, hv27, h⟩ := bind_some h
  obtain ⟨v28, hv28, h⟩ := bind_some h
  obtain ⟨v29, hv29, h⟩ := bind_some h
  obtain ⟨v30, hv30, h⟩ := bind_some h
  obtain ⟨v31, hv31, h⟩ := bind_some h
  refine ht_seqR hn (El := (_ :: _ :: _ :: _ :: _ :: _ :: (60, .v (.string v5)) :: (61, .v (.string v27)) :: (62, .v (.string v5)) :: (63, .v (.string v28)) :: (64, .v (.string v29)) :: (65, .fl .ro 1 (List.map (Value.int .u8) v30)) :: (66, .tup [.agg [.v (.int .i64 v31.1.Code), .fl (.own 9) 1 (List.map Value.string v31.1.Lines)], .v (.int .i64 v31.2.1), .v (.int .i64 v31.2.2)]) :: (59, .tup [.agg [.v (.int .i64 v31.1.Code), .fl (.own 9) 1 (List.map Value.string v31.1.Lines)], .v (.int .i64 v31.2.1), .v (.int .i64 v31.2.2)]) :: (67, .agg [.v (.int .i64 v31.1.Code), .fl (.own 9) 1 (List.map Value.string v31.1.Lines)]) :: (59, .tup [.any, .v (.int .i64 v31.2.1), .v (.int .i64 v31.2.2)]) :: (68, .v (.int .i64 v31.2.1)) :: (69, .v (.int .i64 v31.2.2)) :: (11, .box 24 [.v (.int .i64 0), .v (.slice none 0 0)]) :: (11, .box 24 [.v (.int .i64 v31.1.Code), .fl (.own 9) 1 (List.map Value.string v31.1.Lines)]) :: (12, .v (.int .i64 v31.2.1)) :: (13, .v (.int .i64 v31.2.2)) :: [])) (init := [0, 1, 2, 3, 4, 5]) (fin := [0, 1, 3, 4, 5, 19, 20, 21]) (sps := (⟨[2], [], [6], [(.slot 60)]⟩ :: ⟨[6], [], [7], [(.slot 61)]⟩ :: ⟨[2], [], [8], [(.slot 62)]⟩ :: ⟨[7, 8], [], [9], [(.slot 63)]⟩ :: ⟨[9], [], [10], [(.slot 64)]⟩ :: ⟨[10], [], [11], [(.slot 65)]⟩ :: ⟨[11, 0], [], [12], [(.slot 66)]⟩ :: ⟨[], [12], [13], [(.slot 59)]⟩ :: ⟨[], [13], [15, 14], [(.slot 67)]⟩ :: ⟨[15], [], [16], [(.slot 68)]⟩ :: ⟨[15], [], [17], [(.slot 69)]⟩ :: ⟨[], [], [18], [(.slot 11)]⟩ :: ⟨[], [14, 18], [19], [.cell 11 0, .cell 11 1]⟩ :: ⟨[16], [], [20], [(.slot 12)]⟩ :: ⟨[17], [], [21], [(.slot 13)]⟩ :: [])) (es' := [(_, _), (_, _), (_, _), (_, _), (_, _), (11, .box 24 [.v (.int .i64 v31.1.Code), .fl (.own 9) 1 (List.map Value.string v31.1.Lines)]), (12, .v (.int .i64 v31.2.1)), (13, .v (.int .i64 v31.2.2))]) (by kernel_rfl) rfl rfl
   ⟨st_plain rfl (op_move _ _ _ _ rfl rfl),
   st_plain rfl (op_bin _ _ _ _ _ rfl rfl (cat_ok hv27)),
   st_plain rfl (op_move _ _ _ _ rfl rfl),
   st_plain rfl (op_bin _ _ _ _ _ rfl rfl (cat_ok hv28)),
   st_plain rfl (op_bin _ _ _ _ _ rfl rfl (cat_ok hv29)),
   st_plain rfl ((Option.some.inj hv30) ▸ op_str_bytes _ _ _ v29 Try.underlying9 Try.underlying25 Try.underlying5 rfl),
   st_plain rfl (op_callG _ _ 104 11 _ _ rfl Try.call11 rfl rfl (fun _ h => h) (ok_answer_Read mx v30 _ hv31) rfl rfl),
   st_plain rfl (op_move_take _ _ _ _ rfl),
   st_plain rfl (op_extract_take _ _ _ _ _ rfl (Nat.le_of_ble_eq_true rfl) rfl rfl (by decide) rfl),
   st_plain rfl (op_extract _ _ _ _ _ rfl rfl (Nat.le_of_ble_eq_true rfl) rfl rfl),
   st_plain rfl (op_extract _ _ _ _ _ rfl rfl (Nat.le_of_ble_eq_true rfl) rfl rfl),
   st_plain rfl (op_alloc _ _ zr24),
   st_plain rfl (op_store_take _ _ _ _ _ _ _ _ sz24 rfl rfl rfl (Nat.le_of_ble_eq_true rfl) rfl rfl),
   st_plain rfl (op_assign _ _ _ _ rfl rfl),
   st_plain rfl (op_assign _ _ _ _ rfl rfl),
   trivial⟩ ?_
  refine pt_then ?_
  refine ht_seq ?_
  refine ht_joinS h (fun (s33 : Bool) => [(104, .glob (GL mx)), (4, .v (.bool s33))]) ?_ ?_
  ·rintro s33 h
   refine pt_then ?_
   refine ht_ret ?_
   refine pt_pick [1] (by kernel_rfl) (es' := [(_, _)]) rfl ?_
   obtain rfl := Option.some.inj h
   exact pt_ret hio rfl (.tmp _ _ .nil) rfl rfl
  ·intro u34 h hl35 hr36
   refine cond_some h (fun hg7_2 h => ?_) (fun hg7_2 h => ?_)
   ·refine cond_some h (fun hg7_6 h => ?_) (fun hg7_6 h => ?_)
    ·refine cond_some h (fun hg7_11 h => ?_) (fun hg7_11 h => ?_)
     ·refine cond_some h (fun hg7_15 h => ?_) (fun hg7_15 h => ?_)
      ·refine cond_some h (fun hg7_19 h => ?_) (fun hg7_19 h => ?_)
       ·refine cond_some h (fun hg7_25 h => ?_) (fun hg7_25 h => ?_)
        ·refine cond_some h (fun hg7_31 h => ?_) (fun hg7_31 h => ?_)
         ·obtain ⟨v32, hv32, h⟩ := bind_some h
          refine ht_seqR hn (El := (_ :: _ :: _ :: _ :: _ :: _ :: _ :: _ :: (70, .v (.int .i64 v26.2.2)) :: (71, .v (.bool (v26.2.2 == 3))) :: (72, .v (.bool true)) :: (73, .v (.int .i64 v26.2.1)) :: (74, .v (.bool (v26.2.1 == 0))) :: (75, .v (.bool (v26.2.1 == 0))) :: (76, .v (.bool true)) :: (77, .ptr 8 0) :: (78, .v (.int .i64 v26.1.Code)) :: (79, .v (.bool (v26.1.Code == 0))) :: (80, .v (.bool (v26.1.Code == 0))) :: (81, .v (.bool true)) :: (82, .v (.int .i64 v31.2.2)) :: (83, .v (.bool (v31.2.2 == 0))) :: (84, .v (.bool (v31.2.2 == 0))) :: (85, .v (.bool true)) :: (86, .v (.int .i64 v31.2.1)) :: (87, .v (.bool (v31.2.1 == 14))) :: (88, .v (.bool (v31.2.1 == 14))) :: (89, .v (.bool true)) :: (90, .ptr 11 0) :: (91, .v (.int .i64 v31.1.Code)) :: (92, .v (.int .i64 v4)) :: (93, .v (.bool (v31.1.Code == v4))) :: (94, .v (.bool (v31.1.Code == v4))) :: (95, .v (.bool true)) :: (96, .ptr 11 1) :: (97, .same (.cell 11 1)) :: (98, .v (.int .i64 (v31.1.Lines.length : Int))) :: (99, .v (.bool (((v31.1.Lines.length : Int) == 2)))) :: (100, .v (.bool (((v31.1.Lines.length : Int) == 2)))) :: (101, .v (.bool true)) :: (102, .v (.bool v32)) :: (103, .v (.bool v32)) :: (4, .v (.bool v32)) :: [])) (init := [0, 1, 2, 3, 4, 5, 6, 7]) (fin := [0, 42]) (sps := (⟨[4], [], [8], [(.slot 70)]⟩ :: ⟨[8], [], [9], [(.slot 71)]⟩ :: ⟨[9], [], [10], [(.slot 72)]⟩ :: ⟨[10, 3], [], [11], [(.slot 73)]⟩ :: ⟨[10, 11], [], [12], [(.slot 74)]⟩ :: ⟨[10, 12], [], [13], [(.slot 75)]⟩ :: ⟨[13], [], [14], [(.slot 76)]⟩ :: ⟨[14, 2], [], [15], [(.slot 77)]⟩ :: ⟨[14, 15, 2], [], [16], [(.slot 78)]⟩ :: ⟨[14, 16], [], [17], [(.slot 79)]⟩ :: ⟨[14, 17], [], [18], [(.slot 80)]⟩ :: ⟨[18], [], [19], [(.slot 81)]⟩ :: ⟨[19, 7], [], [20], [(.slot 82)]⟩ :: ⟨[19, 20], [], [21], [(.slot 83)]⟩ :: ⟨[19, 21], [], [22], [(.slot 84)]⟩ :: ⟨[22], [], [23], [(.slot 85)]⟩ :: ⟨[23, 6], [], [24], [(.slot 86)]⟩ :: ⟨[23, 24], [], [25], [(.slot 87)]⟩ :: ⟨[23, 25], [], [26], [(.slot 88)]⟩ :: ⟨[26], [], [27], [(.slot 89)]⟩ :: ⟨[27, 5], [], [28], [(.slot 90)]⟩ :: ⟨[27, 28, 5], [], [29], [(.slot 91)]⟩ :: ⟨[27, 1], [], [30], [(.slot 92)]⟩ :: ⟨[27, 29, 30], [], [31], [(.slot 93)]⟩ :: ⟨[27, 31], [], [32], [(.slot 94)]⟩ :: ⟨[32], [], [33], [(.slot 95)]⟩ :: ⟨[33, 5], [], [34], [(.slot 96)]⟩ :: ⟨[33, 34, 5], [], [35], [(.slot 97)]⟩ :: ⟨[33, 35, 5], [], [36], [(.slot 98)]⟩ :: ⟨[33, 36], [], [37], [(.slot 99)]⟩ :: ⟨[33, 37], [], [38], [(.slot 100)]⟩ :: ⟨[38], [], [39], [(.slot 101)]⟩ :: ⟨[39, 0], [], [40], [(.slot 102)]⟩ :: ⟨[39, 40], [], [41], [(.slot 103)]⟩ :: ⟨[41], [], [42], [(.slot 4)]⟩ :: [])) (es' := [(_, _), (4, .v (.bool v32))]) (by kernel_rfl) rfl rfl
           ⟨st_plain rfl (op_move _ _ _ _ rfl rfl),
           st_plain rfl (op_bin _ _ _ _ _ rfl rfl rfl),
           st_plain rfl (op_move _ _ _ _ (congrArg (fun b => AV.v (Value.bool b)) hg7_2) rfl),
           st_run 2 72 true rfl rfl rfl (List.Mem.head _) (op_move _ _ _ _ rfl rfl),
           st_run 2 72 true rfl rfl rfl (List.Mem.head _) (op_bin _ _ _ _ _ rfl rfl rfl),
           st_plain rfl (op_pick _ _ true _ rfl rfl),
           st_plain rfl (op_move _ _ _ _ (congrArg (fun b => AV.v (Value.bool b)) hg7_6) rfl),
           st_run 6 76 true rfl rfl rfl (List.Mem.head _) (op_fieldAddr _ _ _ _ 8 0 _ Try.underlying24 rfl sz3 rfl rfl (by decide)),
           st_run 6 76 true rfl rfl rfl (List.Mem.head _) (op_load _ _ _ _ _ _ Try.underlying3 rfl rfl rfl (Nat.le_of_ble_eq_true rfl) rfl rfl rfl),
           st_run 6 76 true rfl rfl rfl (List.Mem.head _) (op_bin _ _ _ _ _ rfl rfl rfl),
           st_plain rfl (op_pick _ _ true _ rfl rfl),
           st_plain rfl (op_move _ _ _ _ (congrArg (fun b => AV.v (Value.bool b)) hg7_11) rfl),
           st_run 11 81 true rfl rfl rfl (List.Mem.head _) (op_move _ _ _ _ rfl rfl),
           st_run 11 81 true rfl rfl rfl (List.Mem.head _) (op_bin _ _ _ _ _ rfl rfl rfl),
           st_plain rfl (op_pick _ _ true _ rfl rfl),
           st_plain rfl (op_move _ _ _ _ (congrArg (fun b => AV.v (Value.bool b)) hg7_15) rfl),
           st_run 15 85 true rfl rfl rfl (List.Mem.head _) (op_move _ _ _ _ rfl rfl),
           st_run 15 85 true rfl rfl rfl (List.Mem.head _) (op_bin _ _ _ _ _ rfl rfl rfl),
           st_plain rfl (op_pick _ _ true _ rfl rfl),
           st_plain rfl (op_move _ _ _ _ (congrArg (fun b => AV.v (Value.bool b)) hg7_19) rfl),
           st_run 19 89 true rfl rfl rfl (List.Mem.head _) (op_fieldAddr _ _ _ _ 11 0 _ Try.underlying24 rfl sz3 rfl rfl (by decide)),
           st_run 19 89 true rfl rfl rfl (List.Mem.head _) (op_load _ _ _ _ _ _ Try.underlying3 rfl rfl rfl (Nat.le_of_ble_eq_true rfl) rfl rfl rfl),
           st_run 19 89 true rfl rfl rfl (List.Mem.head _) (op_move _ _ _ _ rfl rfl),
           st_run 19 89 true rfl rfl rfl (List.Mem.head _) (op_bin _ _ _ _ _ rfl rfl rfl),
           st_plain rfl (op_pick _ _ true _ rfl rfl),
           st_plain rfl (op_move _ _ _ _ (congrArg (fun b => AV.v (Value.bool b)) hg7_25) rfl),
           st_run 25 95 true rfl rfl rfl (List.Mem.head _) (op_fieldAddr _ _ _ _ 11 0 _ Try.underlying24 rfl sz22 rfl rfl (by decide)),
           st_run 25 95 true rfl rfl rfl (List.Mem.head _) (op_load _ _ _ _ _ _ Try.underlying22 rfl rfl rfl (Nat.le_of_ble_eq_true rfl) rfl rfl rfl),
           st_run 25 95 true rfl rfl rfl (List.Mem.head _) (op_len_fl _ _ _ Try.underlying22 rfl (by decide) (map_len _)),
           st_run 25 95 true rfl rfl rfl (List.Mem.head _) (op_bin _ _ _ _ _ rfl rfl rfl),
           st_plain rfl (op_pick _ _ true _ rfl rfl),
           st_plain rfl (op_move _ _ _ _ (congrArg (fun b => AV.v (Value.bool b)) hg7_31) rfl),
           st_run 31 101 true rfl rfl rfl (List.Mem.head _) (op_callG _ _ 104 19 _ _ rfl Try.call19 rfl rfl (fun _ h => h) (ok_wherrylaw13_wakes mx  _ hv32) rfl rfl),
           st_plain rfl (op_pick _ _ true _ rfl rfl),
           st_plain rfl (op_assign _ _ _ _ rfl rfl),
           trivial⟩ ?_
          exact hl35 _ (Option.some.inj h).symm
         ·refine ht_seqR hn (El := (_ :: _ :: _ :: _ :: _ :: _ :: _ :: _ :: (70, .v (.int .i64 v26.2.2)) :: (71, .v (.bool (v26.2.2 == 3))) :: (72, .v (.bool true)) :: (73, .v (.int .i64 v26.2.1)) :: (74, .v (.bool (v26.2.1 == 0))) :: (75, .v (.bool (v26.2.1 == 0))) :: (76, .v (.bool true)) :: (77, .ptr 8 0) :: (78, .v (.int .i64 v26.1.Code)) :: (79, .v (.bool (v26.1.Code == 0))) :: (80, .v (.bool (v26.1.Code == 0))) :: (81, .v (.bool true)) :: (82, .v (.int .i64 v31.2.2)) :: (83, .v (.bool (v31.2.2 == 0))) :: (84, .v (.bool (v31.2.2 == 0))) :: (85, .v (.bool true)) :: (86, .v (.int .i64 v31.2.1)) :: (87, .v (.bool (v31.2.1 == 14))) :: (88, .v (.bool (v31.2.1 == 14))) :: (89, .v (.bool true)) :: (90, .ptr 11 0) :: (91, .v (.int .i64 v31.1.Code)) :: (92, .v (.int .i64 v4)) :: (93, .v (.bool (v31.1.Code == v4))) :: (94, .v (.bool (v31.1.Code == v4))) :: (95, .v (.bool true)) :: (96, .ptr 11 1) :: (97, .same (.cell 11 1)) :: (98, .v (.int .i64 (v31.1.Lines.length : Int))) :: (99, .v (.bool (((v31.1.Lines.length : Int) == 2)))) :: (100, .v (.bool (((v31.1.Lines.length : Int) == 2)))) :: (101, .v (.bool false)) :: (102, .v undef) :: (103, .v (.bool false)) :: (4, .v (.bool false)) :: [])) (init := [0, 1, 2, 3, 4, 5, 6, 7]) (fin := [0, 42]) (sps := (⟨[4], [], [8], [(.slot 70)]⟩ :: ⟨[8], [], [9], [(.slot 71)]⟩ :: ⟨[9], [], [10], [(.slot 72)]⟩ :: ⟨[10, 3], [], [11], [(.slot 73)]⟩ :: ⟨[10, 11], [], [12], [(.slot 74)]⟩ :: ⟨[10, 12], [], [13], [(.slot 75)]⟩ :: ⟨[13], [], [14], [(.slot 76)]⟩ :: ⟨[14, 2], [], [15], [(.slot 77)]⟩ :: ⟨[14, 15, 2], [], [16], [(.slot 78)]⟩ :: ⟨[14, 16], [], [17], [(.slot 79)]⟩ :: ⟨[14, 17], [], [18], [(.slot 80)]⟩ :: ⟨[18], [], [19], [(.slot 81)]⟩ :: ⟨[19, 7], [], [20], [(.slot 82)]⟩ :: ⟨[19, 20], [], [21], [(.slot 83)]⟩ :: ⟨[19, 21], [], [22], [(.slot 84)]⟩ :: ⟨[22], [], [23], [(.slot 85)]⟩ :: ⟨[23, 6], [], [24], [(.slot 86)]⟩ :: ⟨[23, 24], [], [25], [(.slot 87)]⟩ :: ⟨[23, 25], [], [26], [(.slot 88)]⟩ :: ⟨[26], [], [27], [(.slot 89)]⟩ :: ⟨[27, 5], [], [28], [(.slot 90)]⟩ :: ⟨[27, 28, 5], [], [29], [(.slot 91)]⟩ :: ⟨[27, 1], [], [30], [(.slot 92)]⟩ :: ⟨[27, 29, 30], [], [31], [(.slot 93)]⟩ :: ⟨[27, 31], [], [32], [(.slot 94)]⟩ :: ⟨[32], [], [33], [(.slot 95)]⟩ :: ⟨[33, 5], [], [34], [(.slot 96)]⟩ :: ⟨[33, 34, 5], [], [35], [(.slot 97)]⟩ :: ⟨[33, 35, 5], [], [36], [(.slot 98)]⟩ :: ⟨[33, 36], [], [37], [(.slot 99)]⟩ :: ⟨[33, 37], [], [38], [(.slot 100)]⟩ :: ⟨[38], [], [39], [(.slot 101)]⟩ :: ⟨[39], [], [40], [(.slot 102)]⟩ :: ⟨[39], [], [41], [(.slot 103)]⟩ :: ⟨[41], [], [42], [(.slot 4)]⟩ :: [])) (es' := [(_, _), (4, .v (.bool false))]) (by kernel_rfl) rfl rfl
           ⟨st_plain rfl (op_move _ _ _ _ rfl rfl),
           st_plain rfl (op_bin _ _ _ _ _ rfl rfl rfl),
           st_plain rfl (op_move _ _ _ _ (congrArg (fun b => AV.v (Value.bool b)) hg7_2) rfl),
           st_run 2 72 true rfl rfl rfl (List.Mem.head _) (op_move _ _ _ _ rfl rfl),
           st_run 2 72 true rfl rfl rfl (List.Mem.head _) (op_bin _ _ _ _ _ rfl rfl rfl),
           st_plain rfl (op_pick _ _ true _ rfl rfl),
           st_plain rfl (op_move _ _ _ _ (congrArg (fun b => AV.v (Value.bool b)) hg7_6) rfl),
           st_run 6 76 true rfl rfl rfl (List.Mem.head _) (op_fieldAddr _ _ _ _ 8 0 _ Try.underlying24 rfl sz3 rfl rfl (by decide)),
           st_run 6 76 true rfl rfl rfl (List.Mem.head _) (op_load _ _ _ _ _ _ Try.underlying3 rfl rfl rfl (Nat.le_of_ble_eq_true rfl) rfl rfl rfl),
           st_run 6 76 true rfl rfl rfl (List.Mem.head _) (op_bin _ _ _ _ _ rfl rfl rfl),
           st_plain rfl (op_pick _ _ true _ rfl rfl),
           st_plain rfl (op_move _ _ _ _ (congrArg (fun b => AV.v (Value.bool b)) hg7_11) rfl),
           st_run 11 81 true rfl rfl rfl (List.Mem.head _) (op_move _ _ _ _ rfl rfl),
           st_run 11 81 true rfl rfl rfl (List.Mem.head _) (op_bin _ _ _ _ _ rfl rfl rfl),
           st_plain rfl (op_pick _ _ true _ rfl rfl),
           st_plain rfl (op_move _ _ _ _ (congrArg (fun b => AV.v (Value.bool b)) hg7_15) rfl),
           st_run 15 85 true rfl rfl rfl (List.Mem.head _) (op_move _ _ _ _ rfl rfl),
           st_run 15 85 true rfl rfl rfl (List.Mem.head _) (op_bin _ _ _ _ _ rfl rfl rfl),
           st_plain rfl (op_pick _ _ true _ rfl rfl),
           st_plain rfl (op_move _ _ _ _ (congrArg (fun b => AV.v (Value.bool b)) hg7_19) rfl),
           st_run 19 89 true rfl rfl rfl (List.Mem.head _) (op_fieldAddr _ _ _ _ 11 0 _ Try.underlying24 rfl sz3 rfl rfl (by decide)),
           st_run 19 89 true rfl rfl rfl (List.Mem.head _) (op_load _ _ _ _ _ _ Try.underlying3 rfl rfl rfl (Nat.le_of_ble_eq_true rfl) rfl rfl rfl),
           st_run 19 89 true rfl rfl rfl (List.Mem.head _) (op_move _ _ _ _ rfl rfl),
           st_run 19 89 true rfl rfl rfl (List.Mem.head _) (op_bin _ _ _ _ _ rfl rfl rfl),
           st_plain rfl (op_pick _ _ true _ rfl rfl),
           st_plain rfl (op_move _ _ _ _ (congrArg (fun b => AV.v (Value.bool b)) hg7_25) rfl),
           st_run 25 95 true rfl rfl rfl (List.Mem.head _) (op_fieldAddr _ _ _ _ 11 0 _ Try.underlying24 rfl sz22 rfl rfl (by decide)),
           st_run 25 95 true rfl rfl rfl (List.Mem.head _) (op_load _ _ _ _ _ _ Try.underlying22 rfl rfl rfl (Nat.le_of_ble_eq_true rfl) rfl rfl rfl),
           st_run 25 95 true rfl rfl rfl (List.Mem.head _) (op_len_fl _ _ _ Try.underlying22 rfl (by decide) (map_len _)),
           st_run 25 95 true rfl rfl rfl (List.Mem.head _) (op_bin _ _ _ _ _ rfl rfl rfl),
           st_plain rfl (op_pick _ _ true _ rfl rfl),
           st_plain rfl (op_move _ _ _ _ (congrArg (fun b => AV.v (Value.bool b)) hg7_31) rfl),
           st_skip 31 101 _ true rfl rfl rfl rfl (List.Mem.head _),
           st_plain rfl (op_pick _ _ false _ rfl rfl),
           st_plain rfl (op_assign _ _ _ _ rfl rfl),
           trivial⟩ ?_
          exact hl35 _ (Option.some.inj h).symm
        ·refine ht_seqR hn (El := (_ :: _ :: _ :: _ :: _ :: _ :: _ :: _ :: (70, .v (.int .i64 v26.2.2)) :: (71, .v (.bool (v26.2.2 == 3))) :: (72, .v (.bool true)) :: (73, .v (.int .i64 v26.2.1)) :: (74, .v (.bool (v26.2.1 == 0))) :: (75, .v (.bool (v26.2.1 == 0))) :: (76, .v (.bool true)) :: (77, .ptr 8 0) :: (78, .v (.int .i64 v26.1.Code)) :: (79, .v (.bool (v26.1.Code == 0))) :: (80, .v (.bool (v26.1.Code == 0))) :: (81, .v (.bool true)) :: (82, .v (.int .i64 v31.2.2)) :: (83, .v (.bool (v31.2.2 == 0))) :: (84, .v (.bool (v31.2.2 == 0))) :: (85, .v (.bool true)) :: (86, .v (.int .i64 v31.2.1)) :: (87, .v (.bool (v31.2.1 == 14))) :: (88, .v (.bool (v31.2.1 == 14))) :: (89, .v (.bool true)) :: (90, .ptr 11 0) :: (91, .v (.int .i64 v31.1.Code)) :: (92, .v (.int .i64 v4)) :: (93, .v (.bool (v31.1.Code == v4))) :: (94, .v (.bool (v31.1.Code == v4))) :: (95, .v (.bool false)) :: (96, .v undef) :: (97, .v undef) :: (98, .v undef) :: (99, .v undef) :: (100, .v (.bool false)) :: (101, .v (.bool false)) :: (102, .v undef) :: (103, .v (.bool false)) :: (4, .v (.bool false)) :: [])) (init := [0, 1, 2, 3, 4, 5, 6, 7]) (fin := [0, 42]) (sps := (⟨[4], [], [8], [(.slot 70)]⟩ :: ⟨[8], [], [9], [(.slot 71)]⟩ :: ⟨[9], [], [10], [(.slot 72)]⟩ :: ⟨[10, 3], [], [11], [(.slot 73)]⟩ :: ⟨[10, 11], [], [12], [(.slot 74)]⟩ :: ⟨[10, 12], [], [13], [(.slot 75)]⟩ :: ⟨[13], [], [14], [(.slot 76)]⟩ :: ⟨[14, 2], [], [15], [(.slot 77)]⟩ :: ⟨[14, 15, 2], [], [16], [(.slot 78)]⟩ :: ⟨[14, 16], [], [17], [(.slot 79)]⟩ :: ⟨[14, 17], [], [18], [(.slot 80)]⟩ :: ⟨[18], [], [19], [(.slot 81)]⟩ :: ⟨[19, 7], [], [20], [(.slot 82)]⟩ :: ⟨[19, 20], [], [21], [(.slot 83)]⟩ :: ⟨[19, 21], [], [22], [(.slot 84)]⟩ :: ⟨[22], [], [23], [(.slot 85)]⟩ :: ⟨[23, 6], [], [24], [(.slot 86)]⟩ :: ⟨[23, 24], [], [25], [(.slot 87)]⟩ :: ⟨[23, 25], [], [26], [(.slot 88)]⟩ :: ⟨[26], [], [27], [(.slot 89)]⟩ :: ⟨[27, 5], [], [28], [(.slot 90)]⟩ :: ⟨[27, 28, 5], [], [29], [(.slot 91)]⟩ :: ⟨[27, 1], [], [30], [(.slot 92)]⟩ :: ⟨[27, 29, 30], [], [31], [(.slot 93)]⟩ :: ⟨[27, 31], [], [32], [(.slot 94)]⟩ :: ⟨[32], [], [33], [(.slot 95)]⟩ :: ⟨[33], [], [34], [(.slot 96)]⟩ :: ⟨[33], [], [35], [(.slot 97)]⟩ :: ⟨[33], [], [36], [(.slot 98)]⟩ :: ⟨[33], [], [37], [(.slot 99)]⟩ :: ⟨[33], [], [38], [(.slot 100)]⟩ :: ⟨[38], [], [39], [(.slot 101)]⟩ :: ⟨[39], [], [40], [(.slot 102)]⟩ :: ⟨[39], [], [41], [(.slot 103)]⟩ :: ⟨[41], [], [42], [(.slot 4)]⟩ :: [])) (es' := [(_, _), (4, .v (.bool false))]) (by kernel_rfl) rfl rfl
          ⟨st_plain rfl (op_move _ _ _ _ rfl rfl),
          st_plain rfl (op_bin _ _ _ _ _ rfl rfl rfl),
          st_plain rfl (op_move _ _ _ _ (congrArg (fun b => AV.v (Value.bool b)) hg7_2) rfl),
          st_run 2 72 true rfl rfl rfl (List.Mem.head _) (op_move _ _ _ _ rfl rfl),
          st_run 2 72 true rfl rfl rfl (List.Mem.head _) (op_bin _ _ _ _ _ rfl rfl rfl),
          st_plain rfl (op_pick _ _ true _ rfl rfl),
          st_plain rfl (op_move _ _ _ _ (congrArg (fun b => AV.v (Value.bool b)) hg7_6) rfl),
          st_run 6 76 true rfl rfl rfl (List.Mem.head _) (op_fieldAddr _ _ _ _ 8 0 _ Try.underlying24 rfl sz3 rfl rfl (by decide)),
          st_run 6 76 true rfl rfl rfl (List.Mem.head _) (op_load _ _ _ _ _ _ Try.underlying3 rfl rfl rfl (Nat.le_of_ble_eq_true rfl) rfl rfl rfl),
          st_run 6 76 true rfl rfl rfl (List.Mem.head _) (op_bin _ _ _ _ _ rfl rfl rfl),
          st_plain rfl (op_pick _ _ true _ rfl rfl),
          st_plain rfl (op_move _ _ _ _ (congrArg (fun b => AV.v (Value.bool b)) hg7_11) rfl),
          st_run 11 81 true rfl rfl rfl (List.Mem.head _) (op_move _ _ _ _ rfl rfl),
          st_run 11 81 true rfl rfl rfl (List.Mem.head _) (op_bin _ _ _ _ _ rfl rfl rfl),
          st_plain rfl (op_pick _ _ true _ rfl rfl),
          st_plain rfl (op_move _ _ _ _ (congrArg (fun b => AV.v (Value.bool b)) hg7_15) rfl),
          st_run 15 85 true rfl rfl rfl (List.Mem.head _) (op_move _ _ _ _ rfl rfl),
          st_run 15 85 true rfl rfl rfl (List.Mem.head _) (op_bin _ _ _ _ _ rfl rfl rfl),
          st_plain rfl (op_pick _ _ true _ rfl rfl),
          st_plain rfl (op_move _ _ _ _ (congrArg (fun b => AV.v (Value.bool b)) hg7_19) rfl),
          st_run 19 89 true rfl rfl rfl (List.Mem.head _) (op_fieldAddr _ _ _ _ 11 0 _ Try.underlying24 rfl sz3 rfl rfl (by decide)),
          st_run 19 89 true rfl rfl rfl (List.Mem.head _) (op_load _ _ _ _ _ _ Try.underlying3 rfl rfl rfl (Nat.le_of_ble_eq_true rfl) rfl rfl rfl),
          st_run 19 89 true rfl rfl rfl (List.Mem.head _) (op_move _ _ _ _ rfl rfl),
          st_run 19 89 true rfl rfl rfl (List.Mem.head _) (op_bin _ _ _ _ _ rfl rfl rfl),
          st_plain rfl (op_pick _ _ true _ rfl rfl),
          st_plain rfl (op_move _ _ _ _ (congrArg (fun b => AV.v (Value.bool b)) hg7_25) rfl),
          st_skip 25 95 _ true rfl rfl rfl rfl (List.Mem.head _),
          st_skip 25 95 _ true rfl rfl rfl rfl (List.Mem.head _),
          st_skip 25 95 _ true rfl rfl rfl rfl (List.Mem.head _),
          st_skip 25 95 _ true rfl rfl rfl rfl (List.Mem.head _),
          st_plain rfl (op_pick _ _ false _ rfl rfl),
          st_plain rfl (op_move _ _ _ _ rfl rfl),
          st_skip 31 101 _ true rfl rfl rfl rfl (List.Mem.head _),
          st_plain rfl (op_pick _ _ false _ rfl rfl),
          st_plain rfl (op_assign _ _ _ _ rfl rfl),
          trivial⟩ ?_
         exact hl35 _ (Option.some.inj h).symm
       ·refine ht_seqR hn (El := (_ :: _ :: _ :: _ :: _ :: _ :: _ :: _ :: (70, .v (.int .i64 v26.2.2)) :: (71, .v (.bool (v26.2.2 == 3))) :: (72, .v (.bool true)) :: (73, .v (.int .i64 v26.2.1)) :: (74, .v (.bool (v26.2.1 == 0))) :: (75, .v (.bool (v26.2.1 == 0))) :: (76, .v (.bool true)) :: (77, .ptr 8 0) :: (78, .v (.int .i64 v26.1.Code)) :: (79, .v (.bool (v26.1.Code == 0))) :: (80, .v (.bool (v26.1.Code == 0))) :: (81, .v (.bool true)) :: (82, .v (.int .i64 v31.2.2)) :: (83, .v (.bool (v31.2.2 == 0))) :: (84, .v (.bool (v31.2.2 == 0))) :: (85, .v (.bool true)) :: (86, .v (.int .i64 v31.2.1)) :: (87, .v (.bool (v31.2.1 == 14))) :: (88, .v (.bool (v31.2.1 == 14))) :: (89, .v (.bool false)) :: (90, .v undef) :: (91, .v undef) :: (92, .v undef) :: (93, .v undef) :: (94, .v (.bool false)) :: (95, .v (.bool false)) :: (96, .v undef) :: (97, .v undef) :: (98, .v undef) :: (99, .v undef) :: (100, .v (.bool false)) :: (101, .v (.bool false)) :: (102, .v undef) :: (103, .v (.bool false)) :: (4, .v (.bool false)) :: [])) (init := [0, 1, 2, 3, 4, 5, 6, 7]) (fin := [0, 42]) (sps := (⟨[4], [], [8], [(.slot 70)]⟩ :: ⟨[8], [], [9], [(.slot 71)]⟩ :: ⟨[9], [], [10], [(.slot 72)]⟩ :: ⟨[10, 3], [], [11], [(.slot 73)]⟩ :: ⟨[10, 11], [], [12], [(.slot 74)]⟩ :: ⟨[10, 12], [], [13], [(.slot 75)]⟩ :: ⟨[13], [], [14], [(.slot 76)]⟩ :: ⟨[14, 2], [], [15], [(.slot 77)]⟩ :: ⟨[14, 15, 2], [], [16], [(.slot 78)]⟩ :: ⟨[14, 16], [], [17], [(.slot 79)]⟩ :: ⟨[14, 17], [], [18], [(.slot 80)]⟩ :: ⟨[18], [], [19], [(.slot 81)]⟩ :: ⟨[19, 7], [], [20], [(.slot 82)]⟩ :: ⟨[19, 20], [], [21], [(.slot 83)]⟩ :: ⟨[19, 21], [], [22], [(.slot 84)]⟩ :: ⟨[22], [], [23], [(.slot 85)]⟩ :: ⟨[23, 6], [], [24], [(.slot 86)]⟩ :: ⟨[23, 24], [], [25], [(.slot 87)]⟩ :: ⟨[23, 25], [], [26], [(.slot 88)]⟩ :: ⟨[26], [], [27], [(.slot 89)]⟩ :: ⟨[27], [], [28], [(.slot 90)]⟩ :: ⟨[27], [], [29], [(.slot 91)]⟩ :: ⟨[27], [], [30], [(.slot 92)]⟩ :: ⟨[27], [], [31], [(.slot 93)]⟩ :: ⟨[27], [], [32], [(.slot 94)]⟩ :: ⟨[32], [], [33], [(.slot 95)]⟩ :: ⟨[33], [], [34], [(.slot 96)]⟩ :: ⟨[33], [], [35], [(.slot 97)]⟩ :: ⟨[33], [], [36], [(.slot 98)]⟩ :: ⟨[33], [], [37], [(.slot 99)]⟩ :: ⟨[33], [], [38], [(.slot 100)]⟩ :: ⟨[38], [], [39], [(.slot 101)]⟩ :: ⟨[39], [], [40], [(.slot 102)]⟩ :: ⟨[39], [], [41], [(.slot 103)]⟩ :: ⟨[41], [], [42], [(.slot 4)]⟩ :: [])) (es' := [(_, _), (4, .v (.bool false))]) (by kernel_rfl) rfl rfl
         ⟨st_plain rfl (op_move _ _ _ _ rfl rfl),
         st_plain rfl (op_bin _ _ _ _ _ rfl rfl rfl),
         st_plain rfl (op_move _ _ _ _ (congrArg (fun b => AV.v (Value.bool b)) hg7_2) rfl),
         st_run 2 72 true rfl rfl rfl (List.Mem.head _) (op_move _ _ _ _ rfl rfl),
         st_run 2 72 true rfl rfl rfl (List.Mem.head _) (op_bin _ _ _ _ _ rfl rfl rfl),
         st_plain rfl (op_pick _ _ true _ rfl rfl),
         st_plain rfl (op_move _ _ _ _ (congrArg (fun b => AV.v (Value.bool b)) hg7_6) rfl),
         st_run 6 76 true rfl rfl rfl (List.Mem.head _) (op_fieldAddr _ _ _ _ 8 0 _ Try.underlying24 rfl sz3 rfl rfl (by decide)),
         st_run 6 76 true rfl rfl rfl (List.Mem.head _) (op_load _ _ _ _ _ _ Try.underlying3 rfl rfl rfl (Nat.le_of_ble_eq_true rfl) rfl rfl rfl),
         st_run 6 76 true rfl rfl rfl (List.Mem.head _) (op_bin _ _ _ _ _ rfl rfl rfl),
         st_plain rfl (op_pick _ _ true _ rfl rfl),
         st_plain rfl (op_move _ _ _ _ (congrArg (fun b => AV.v (Value.bool b)) hg7_11) rfl),
         st_run 11 81 true rfl rfl rfl (List.Mem.head _) (op_move _ _ _ _ rfl rfl),
         st_run 11 81 true rfl rfl rfl (List.Mem.head _) (op_bin _ _ _ _ _ rfl rfl rfl),
         st_plain rfl (op_pick _ _ true _ rfl rfl),
         st_plain rfl (op_move _ _ _ _ (congrArg (fun b => AV.v (Value.bool b)) hg7_15) rfl),
         st_run 15 85 true rfl rfl rfl (List.Mem.head _) (op_move _ _ _ _ rfl rfl),
         st_run 15 85 true rfl rfl rfl (List.Mem.head _) (op_bin _ _ _ _ _ rfl rfl rfl),
         st_plain rfl (op_pick _ _ true _ rfl rfl),
         st_plain rfl (op_move _ _ _ _ (congrArg (fun b => AV.v (Value.bool b)) hg7_19) rfl),
         st_skip 19 89 _ true rfl rfl rfl rfl (List.Mem.head _),
         st_skip 19 89 _ true rfl rfl rfl rfl (List.Mem.head _),
         st_skip 19 89 _ true rfl rfl rfl rfl (List.Mem.head _),
         st_skip 19 89 _ true rfl rfl rfl rfl (List.Mem.head _),
         st_plain rfl (op_pick _ _ false _ rfl rfl),
         st_plain rfl (op_move _ _ _ _ rfl rfl),
         st_skip 25 95 _ true rfl rfl rfl rfl (List.Mem.head _),
         st_skip 25 95 _ true rfl rfl rfl rfl (List.Mem.head _),
         st_skip 25 95 _ true rfl rfl rfl rfl (List.Mem.head _),
         st_skip 25 95 _ true rfl rfl rfl rfl (List.Mem.head _),
         st_plain rfl (op_pick _ _ false _ rfl rfl),
         st_plain rfl (op_move _ _ _ _ rfl rfl),
         st_skip 31 101 _ true rfl rfl rfl rfl (List.Mem.head _),
         st_plain rfl (op_pick _ _ false _ rfl rfl),
         st_plain rfl (op_assign _ _ _ _ rfl rfl),
         trivial⟩ ?_
        exact hl35 _ (Option.some.inj h).symm
      ·refine ht_seqR hn (El := (_ :: _ :: _ :: _ :: _ :: _ :: _ :: _ :: (70, .v (.int .i64 v26.2.2)) :: (71, .v (.bool (v26.2.2 == 3))) :: (72, .v (.bool true)) :: (73, .v (.int .i64 v26.2.1)) :: (74, .v (.bool (v26.2.1 == 0))) :: (75, .v (.bool (v26.2.1 == 0))) :: (76, .v (.bool true)) :: (77, .ptr 8 0) :: (78, .v (.int .i64 v26.1.Code)) :: (79, .v (.bool (v26.1.Code == 0))) :: (80, .v (.bool (v26.1.Code == 0))) :: (81, .v (.bool true)) :: (82, .v (.int .i64 v31.2.2)) :: (83, .v (.bool (v31.2.2 == 0))) :: (84, .v (.bool (v31.2.2 == 0))) :: (85, .v (.bool false)) :: (86, .v undef) :: (87, .v undef) :: (88, .v (.bool false)) :: (89, .v (.bool false)) :: (90, .v undef) :: (91, .v undef) :: (92, .v undef) :: (93, .v undef) :: (94, .v (.bool false)) :: (95, .v (.bool false)) :: (96, .v undef) :: (97, .v undef) :: (98, .v undef) :: (99, .v undef) :: (100, .v (.bool false)) :: (101, .v (.bool false)) :: (102, .v undef) :: (103, .v (.bool false)) :: (4, .v (.bool false)) :: [])) (init := [0, 1, 2, 3, 4, 5, 6, 7]) (fin := [0, 42]) (sps := (⟨[4], [], [8], [(.slot 70)]⟩ :: ⟨[8], [], [9], [(.slot 71)]⟩ :: ⟨[9], [], [10], [(.slot 72)]⟩ :: ⟨[10, 3], [], [11], [(.slot 73)]⟩ :: ⟨[10, 11], [], [12], [(.slot 74)]⟩ :: ⟨[10, 12], [], [13], [(.slot 75)]⟩ :: ⟨[13], [], [14], [(.slot 76)]⟩ :: ⟨[14, 2], [], [15], [(.slot 77)]⟩ :: ⟨[14, 15, 2], [], [16], [(.slot 78)]⟩ :: ⟨[14, 16], [], [17], [(.slot 79)]⟩ :: ⟨[14, 17], [], [18], [(.slot 80)]⟩ :: ⟨[18], [], [19], [(.slot 81)]⟩ :: ⟨[19, 7], [], [20], [(.slot 82)]⟩ :: ⟨[19, 20], [], [21], [(.slot 83)]⟩ :: ⟨[19, 21], [], [22], [(.slot 84)]⟩ :: ⟨[22], [], [23], [(.slot 85)]⟩ :: ⟨[23], [], [24], [(.slot 86)]⟩ :: ⟨[23], [], [25], [(.slot 87)]⟩ :: ⟨[23], [], [26], [(.slot 88)]⟩ :: ⟨[26], [], [27], [(.slot 89)]⟩ :: ⟨[27], [], [28], [(.slot 90)]⟩ :: ⟨[27], [], [29], [(.slot 91)]⟩ :: ⟨[27], [], [30], [(.slot 92)]⟩ :: ⟨[27], [], [31], [(.slot 93)]⟩ :: ⟨[27], [], [32], [(.slot 94)]⟩ :: ⟨[32], [], [33], [(.slot 95)]⟩ :: ⟨[33], [], [34], [(.slot 96)]⟩ :: ⟨[33], [], [35], [(.slot 97)]⟩ :: ⟨[33], [], [36], [(.slot 98)]⟩ :: ⟨[33], [], [37], [(.slot 99)]⟩ :: ⟨[33], [], [38], [(.slot 100)]⟩ :: ⟨[38], [], [39], [(.slot 101)]⟩ :: ⟨[39], [], [40], [(.slot 102)]⟩ :: ⟨[39], [], [41], [(.slot 103)]⟩ :: ⟨[41], [], [42], [(.slot 4)]⟩ :: [])) (es' := [(_, _), (4, .v (.bool false))]) (by kernel_rfl) rfl rfl
        ⟨st_plain rfl (op_move _ _ _ _ rfl rfl),
        st_plain rfl (op_bin _ _ _ _ _ rfl rfl rfl),
        st_plain rfl (op_move _ _ _ _ (congrArg (fun b => AV.v (Value.bool b)) hg7_2) rfl),
        st_run 2 72 true rfl rfl rfl (List.Mem.head _) (op_move _ _ _ _ rfl rfl),
        st_run 2 72 true rfl rfl rfl (List.Mem.head _) (op_bin _ _ _ _ _ rfl rfl rfl),
        st_plain rfl (op_pick _ _ true _ rfl rfl),
        st_plain rfl (op_move _ _ _ _ (congrArg (fun b => AV.v (Value.bool b)) hg7_6) rfl),
        st_run 6 76 true rfl rfl rfl (List.Mem.head _) (op_fieldAddr _ _ _ _ 8 0 _ Try.underlying24 rfl sz3 rfl rfl (by decide)),
        st_run 6 76 true rfl rfl rfl (List.Mem.head _) (op_load _ _ _ _ _ _ Try.underlying3 rfl rfl rfl (Nat.le_of_ble_eq_true rfl) rfl rfl rfl),
        st_run 6 76 true rfl rfl rfl (List.Mem.head _) (op_bin _ _ _ _ _ rfl rfl rfl),
        st_plain rfl (op_pick _ _ true _ rfl rfl),
        st_plain rfl (op_move _ _ _ _ (congrArg (fun b => AV.v (Value.bool b)) hg7_11) rfl),
        st_run 11 81 true rfl rfl rfl (List.Mem.head _) (op_move _ _ _ _ rfl rfl),
        st_run 11 81 true rfl rfl rfl (List.Mem.head _) (op_bin _ _ _ _ _ rfl rfl rfl),
        st_plain rfl (op_pick _ _ true _ rfl rfl),
        st_plain rfl (op_move _ _ _ _ (congrArg (fun b => AV.v (Value.bool b)) hg7_15) rfl),
        st_skip 15 85 _ true rfl rfl rfl rfl (List.Mem.head _),
        st_skip 15 85 _ true rfl rfl rfl rfl (List.Mem.head _),
        st_plain rfl (op_pick _ _ false _ rfl rfl),
        st_plain rfl (op_move _ _ _ _ rfl rfl),
        st_skip 19 89 _ true rfl rfl rfl rfl (List.Mem.head _),
        st_skip 19 89 _ true rfl rfl rfl rfl (List.Mem.head _),
        st_skip 19 89 _ true rfl rfl rfl rfl (List.Mem.head _),
        st_skip 19 89 _ true rfl rfl rfl rfl (List.Mem.head _),
        st_plain rfl (op_pick _ _ false _ rfl rfl),
        st_plain rfl (op_move _ _ _ _ rfl rfl),
        st_skip 25 95 _ true rfl rfl rfl rfl (List.Mem.head _),
        st_skip 25 95 _ true rfl rfl rfl rfl (List.Mem.head _),
        st_skip 25 95 _ true rfl rfl rfl rfl (List.Mem.head _),
        st_skip 25 95 _ true rfl rfl rfl rfl (List.Mem.head _),
        st_plain rfl (op_pick _ _ false _ rfl rfl),
        st_plain rfl (op_move _ _ _ _ rfl rfl),
        st_skip 31 101 _ true rfl rfl rfl rfl (List.Mem.head _),
        st_plain rfl (op_pick _ _ false _ rfl rfl),
        st_plain rfl (op_assign _ _ _ _ rfl rfl),
        trivial⟩ ?_
       exact hl35 _ (Option.some.inj h).symm
     ·refine ht_seqR hn (El := (_ :: _ :: _ :: _ :: _ :: _ :: _ :: _ :: (70, .v (.int .i64 v26.2.2)) :: (71, .v (.bool (v26.2.2 == 3))) :: (72, .v (.bool true)) :: (73, .v (.int .i64 v26.2.1)) :: (74, .v (.bool (v26.2.1 == 0))) :: (75, .v (.bool (v26.2.1 == 0))) :: (76, .v (.bool true)) :: (77, .ptr 8 0) :: (78, .v (.int .i64 v26.1.Code)) :: (79, .v (.bool (v26.1.Code == 0))) :: (80, .v (.bool (v26.1.Code == 0))) :: (81, .v (.bool false)) :: (82, .v undef) :: (83, .v undef) :: (84, .v (.bool false)) :: (85, .v (.bool false)) :: (86, .v undef) :: (87, .v undef) :: (88, .v (.bool false)) :: (89, .v (.bool false)) :: (90, .v undef) :: (91, .v undef) :: (92, .v undef) :: (93, .v undef) :: (94, .v (.bool false)) :: (95, .v (.bool false)) :: (96, .v undef) :: (97, .v undef) :: (98, .v undef) :: (99, .v undef) :: (100, .v (.bool false)) :: (101, .v (.bool false)) :: (102, .v undef) :: (103, .v (.bool false)) :: (4, .v (.bool false)) :: [])) (init := [0, 1, 2, 3, 4, 5, 6, 7]) (fin := [0, 42]) (sps := (⟨[4], [], [8], [(.slot 70)]⟩ :: ⟨[8], [], [9], [(.slot 71)]⟩ :: ⟨[9], [], [10], [(.slot 72)]⟩ :: ⟨[10, 3], [], [11], [(.slot 73)]⟩ :: ⟨[10, 11], [], [12], [(.slot 74)]⟩ :: ⟨[10, 12], [], [13], [(.slot 75)]⟩ :: ⟨[13], [], [14], [(.slot 76)]⟩ :: ⟨[14, 2], [], [15], [(.slot 77)]⟩ :: ⟨[14, 15, 2], [], [16], [(.slot 78)]⟩ :: ⟨[14, 16], [], [17], [(.slot 79)]⟩ :: ⟨[14, 17], [], [18], [(.slot 80)]⟩ :: ⟨[18], [], [19], [(.slot 81)]⟩ :: ⟨[19], [], [20], [(.slot 82)]⟩ :: ⟨[19], [], [21], [(.slot 83)]⟩ :: ⟨[19], [], [22], [(.slot 84)]⟩ :: ⟨[22], [], [23], [(.slot 85)]⟩ :: ⟨[23], [], [24], [(.slot 86)]⟩ :: ⟨[23], [], [25], [(.slot 87)]⟩ :: ⟨[23], [], [26], [(.slot 88)]⟩ :: ⟨[26], [], [27], [(.slot 89)]⟩ :: ⟨[27], [], [28], [(.slot 90)]⟩ :: ⟨[27], [], [29], [(.slot 91)]⟩ :: ⟨[27], [], [30], [(.slot 92)]⟩ :: ⟨[27], [], [31], [(.slot 93)]⟩ :: ⟨[27], [], [32], [(.slot 94)]⟩ :: ⟨[32], [], [33], [(.slot 95)]⟩ :: ⟨[33], [], [34], [(.slot 96)]⟩ :: ⟨[33], [], [35], [(.slot 97)]⟩ :: ⟨[33], [], [36], [(.slot 98)]⟩ :: ⟨[33], [], [37], [(.slot 99)]⟩ :: ⟨[33], [], [38], [(.slot 100)]⟩ :: ⟨[38], [], [39], [(.slot 101)]⟩ :: ⟨[39], [], [40], [(.slot 102)]⟩ :: ⟨[39], [], [41], [(.slot 103)]⟩ :: ⟨[41], [], [42], [(.slot 4)]⟩ :: [])) (es' := [(_, _), (4, .v (.bool false))]) (by kernel_rfl) rfl rfl
       ⟨st_plain rfl (op_move _ _ _ _ rfl rfl),
       st_plain rfl (op_bin _ _ _ _ _ rfl rfl rfl),
       st_plain rfl (op_move _ _ _ _ (congrArg (fun b => AV.v (Value.bool b)) hg7_2) rfl),
       st_run 2 72 true rfl rfl rfl (List.Mem.head _) (op_move _ _ _ _ rfl rfl),
       st_run 2 72 true rfl rfl rfl (List.Mem.head _) (op_bin _ _ _ _ _ rfl rfl rfl),
       st_plain rfl (op_pick _ _ true _ rfl rfl),
       st_plain rfl (op_move _ _ _ _ (congrArg (fun b => AV.v (Value.bool b)) hg7_6) rfl),
       st_run 6 76 true rfl rfl rfl (List.Mem.head _) (op_fieldAddr _ _ _ _ 8 0 _ Try.underlying24 rfl sz3 rfl rfl (by decide)),
       st_run 6 76 true rfl rfl rfl (List.Mem.head _) (op_load _ _ _ _ _ _ Try.underlying3 rfl rfl rfl (Nat.le_of_ble_eq_true rfl) rfl rfl rfl),
       st_run 6 76 true rfl rfl rfl (List.Mem.head _) (op_bin _ _ _ _ _ rfl rfl rfl),
       st_plain rfl (op_pick _ _ true _ rfl rfl),
       st_plain rfl (op_move _ _ _ _ (congrArg (fun b => AV.v (Value.bool b)) hg7_11) rfl),
       st_skip 11 81 _ true rfl rfl rfl rfl (List.Mem.head _),
       st_skip 11 81 _ true rfl rfl rfl rfl (List.Mem.head _),
       st_plain rfl (op_pick _ _ false _ rfl rfl),
       st_plain rfl (op_move _ _ _ _ rfl rfl),
       st_skip 15 85 _ true rfl rfl rfl rfl (List.Mem.head _),
       st_skip 15 85 _ true rfl rfl rfl rfl (List.Mem.head _),
       st_plain rfl (op_pick _ _ false _ rfl rfl),
       st_plain rfl (op_move _ _ _ _ rfl rfl),
       st_skip 19 89 _ true rfl rfl rfl rfl (List.Mem.head _),
       st_skip 19 89 _ true rfl rfl rfl rfl (List.Mem.head _),
       st_skip 19 89 _ true rfl rfl rfl rfl (List.Mem.head _),
       st_skip 19 89 _ true rfl rfl rfl rfl (List.Mem.head _),
       st_plain rfl (op_pick _ _ false _ rfl rfl),
       st_plain rfl (op_move _ _ _ _ rfl rfl),
       st_skip 25 95 _ true rfl rfl rfl rfl (List.Mem.head _),
       st_skip 25 95 _ true rfl rfl rfl rfl (List.Mem.head _),
       st_skip 25 95 _ true rfl rfl rfl rfl (List.Mem.head _),
       st_skip 25 95 _ true rfl rfl rfl rfl (List.Mem.head _),
       st_plain rfl (op_pick _ _ false _ rfl rfl),
       st_plain rfl (op_move _ _ _ _ rfl rfl),
       st_skip 31 101 _ true rfl rfl rfl rfl (List.Mem.head _),
       st_plain rfl (op_pick _ _ false _ rfl rfl),
       st_plain rfl (op_assign _ _ _ _ rfl rfl),
       trivial⟩ ?_
      exact hl35 _ (Option.some.inj h).symm
    ·refine ht_seqR hn (El := (_ :: _ :: _ :: _ :: _ :: _ :: _ :: _ :: (70, .v (.int .i64 v26.2.2)) :: (71, .v (.bool (v26.2.2 == 3))) :: (72, .v (.bool true)) :: (73, .v (.int .i64 v26.2.1)) :: (74, .v (.bool (v26.2.1 == 0))) :: (75, .v (.bool (v26.2.1 == 0))) :: (76, .v (.bool false)) :: (77, .v undef) :: (78, .v undef) :: (79, .v undef) :: (80, .v (.bool false)) :: (81, .v (.bool false)) :: (82, .v undef) :: (83, .v undef) :: (84, .v (.bool false)) :: (85, .v (.bool false)) :: (86, .v undef) :: (87, .v undef) :: (88, .v (.bool false)) :: (89, .v (.bool false)) :: (90, .v undef) :: (91, .v undef) :: (92, .v undef) :: (93, .v undef) :: (94, .v (.bool false)) :: (95, .v (.bool false)) :: (96, .v undef) :: (97, .v undef) :: (98, .v undef) :: (99, .v undef) :: (100, .v (.bool false)) :: (101, .v (.bool false)) :: (102, .v undef) :: (103, .v (.bool false)) :: (4, .v (.bool false)) :: [])) (init := [0, 1, 2, 3, 4, 5, 6, 7]) (fin := [0, 42]) (sps := (⟨[4], [], [8], [(.slot 70)]⟩ :: ⟨[8], [], [9], [(.slot 71)]⟩ :: ⟨[9], [], [10], [(.slot 72)]⟩ :: ⟨[10, 3], [], [11], [(.slot 73)]⟩ :: ⟨[10, 11], [], [12], [(.slot 74)]⟩ :: ⟨[10, 12], [], [13], [(.slot 75)]⟩ :: ⟨[13], [], [14], [(.slot 76)]⟩ :: ⟨[14], [], [15], [(.slot 77)]⟩ :: ⟨[14], [], [16], [(.slot 78)]⟩ :: ⟨[14], [], [17], [(.slot 79)]⟩ :: ⟨[14], [], [18], [(.slot 80)]⟩ :: ⟨[18], [], [19], [(.slot 81)]⟩ :: ⟨[19], [], [20], [(.slot 82)]⟩ :: ⟨[19], [], [21], [(.slot 83)]⟩ :: ⟨[19], [], [22], [(.slot 84)]⟩ :: ⟨[22], [], [23], [(.slot 85)]⟩ :: ⟨[23], [], [24], [(.slot 86)]⟩ :: ⟨[23], [], [25], [(.slot 87)]⟩ :: ⟨[23], [], [26], [(.slot 88)]⟩ :: ⟨[26], [], [27], [(.slot 89)]⟩ :: ⟨[27], [], [28], [(.slot 90)]⟩ :: ⟨[27], [], [29], [(.slot 91)]⟩ :: ⟨[27], [], [30], [(.slot 92)]⟩ :: ⟨[27], [], [31], [(.slot 93)]⟩ :: ⟨[27], [], [32], [(.slot 94)]⟩ :: ⟨[32], [], [33], [(.slot 95)]⟩ :: ⟨[33], [], [34], [(.slot 96)]⟩ :: ⟨[33], [], [35], [(.slot 97)]⟩ :: ⟨[33], [], [36], [(.slot 98)]⟩ :: ⟨[33], [], [37], [(.slot 99)]⟩ :: ⟨[33], [], [38], [(.slot 100)]⟩ :: ⟨[38], [], [39], [(.slot 101)]⟩ :: ⟨[39], [], [40], [(.slot 102)]⟩ :: ⟨[39], [], [41], [(.slot 103)]⟩ :: ⟨[41], [], [42], [(.slot 4)]⟩ :: [])) (es' := [(_, _), (4, .v (.bool false))]) (by kernel_rfl) rfl rfl
      ⟨st_plain rfl (op_move _ _ _ _ rfl rfl),
      st_plain rfl (op_bin _ _ _ _ _ rfl rfl rfl),
      st_plain rfl (op_move _ _ _ _ (congrArg (fun b => AV.v (Value.bool b)) hg7_2) rfl),
      st_run 2 72 true rfl rfl rfl (List.Mem.head _) (op_move _ _ _ _ rfl rfl),
      st_run 2 72 true rfl rfl rfl (List.Mem.head _) (op_bin _ _ _ _ _ rfl rfl rfl),
      st_plain rfl (op_pick _ _ true _ rfl rfl),
      st_plain rfl (op_move _ _ _ _ (congrArg (fun b => AV.v (Value.bool b)) hg7_6) rfl),
      st_skip 6 76 _ true rfl rfl rfl rfl (List.Mem.head _),
      st_skip 6 76 _ true rfl rfl rfl rfl (List.Mem.head _),
      st_skip 6 76 _ true rfl rfl rfl rfl (List.Mem.head _),
      st_plain rfl (op_pick _ _ false _ rfl rfl),
      st_plain rfl (op_move _ _ _ _ rfl rfl),
      st_skip 11 81 _ true rfl rfl rfl rfl (List.Mem.head _),
      st_skip 11 81 _ true rfl rfl rfl rfl (List.Mem.head _),
      st_plain rfl (op_pick _ _ false _ rfl rfl),
      st_plain rfl (op_move _ _ _ _ rfl rfl),
      st_skip 15 85 _ true rfl rfl rfl rfl (List.Mem.head _),
      st_skip 15 85 _ true rfl rfl rfl rfl (List.Mem.head _),
      st_plain rfl (op_pick _ _ false _ rfl rfl),
      st_plain rfl (op_move _ _ _ _ rfl rfl),
      st_skip 19 89 _ true rfl rfl rfl rfl (List.Mem.head _),
      st_skip 19 89 _ true rfl rfl rfl rfl (List.Mem.head _),
      st_skip 19 89 _ true rfl rfl rfl rfl (List.Mem.head _),
      st_skip 19 89 _ true rfl rfl rfl rfl (List.Mem.head _),
      st_plain rfl (op_pick _ _ false _ rfl rfl),
      st_plain rfl (op_move _ _ _ _ rfl rfl),
      st_skip 25 95 _ true rfl rfl rfl rfl (List.Mem.head _),
      st_skip 25 95 _ true rfl rfl rfl rfl (List.Mem.head _),
      st_skip 25 95 _ true rfl rfl rfl rfl (List.Mem.head _),
      st_skip 25 95 _ true rfl rfl rfl rfl (List.Mem.head _),
      st_plain rfl (op_pick _ _ false _ rfl rfl),
      st_plain rfl (op_move _ _ _ _ rfl rfl),
      st_skip 31 101 _ true rfl rfl rfl rfl (List.Mem.head _),
      st_plain rfl (op_pick _ _ false _ rfl rfl),
      st_plain rfl (op_assign _ _ _ _ rfl rfl),
      trivial⟩ ?_
     exact hl35 _ (Option.some.inj h).symm
   ·refine ht_seqR hn (El := (_ :: _ :: _ :: _ :: _ :: _ :: _ :: _ :: (70, .v (.int .i64 v26.2.2)) :: (71, .v (.bool (v26.2.2 == 3))) :: (72, .v (.bool false)) :: (73, .v undef) :: (74, .v undef) :: (75, .v (.bool false)) :: (76, .v (.bool false)) :: (77, .v undef) :: (78, .v undef) :: (79, .v undef) :: (80, .v (.bool false)) :: (81, .v (.bool false)) :: (82, .v undef) :: (83, .v undef) :: (84, .v (.bool false)) :: (85, .v (.bool false)) :: (86, .v undef) :: (87, .v undef) :: (88, .v (.bool false)) :: (89, .v (.bool false)) :: (90, .v undef) :: (91, .v undef) :: (92, .v undef) :: (93, .v undef) :: (94, .v (.bool false)) :: (95, .v (.bool false)) :: (96, .v undef) :: (97, .v undef) :: (98, .v undef) :: (99, .v undef) :: (100, .v (.bool false)) :: (101, .v (.bool false)) :: (102, .v undef) :: (103, .v (.bool false)) :: (4, .v (.bool false)) :: [])) (init := [0, 1, 2, 3, 4, 5, 6, 7]) (fin := [0, 42]) (sps := (⟨[4], [], [8], [(.slot 70)]⟩ :: ⟨[8], [], [9], [(.slot 71)]⟩ :: ⟨[9], [], [10], [(.slot 72)]⟩ :: ⟨[10], [], [11], [(.slot 73)]⟩ :: ⟨[10], [], [12], [(.slot 74)]⟩ :: ⟨[10], [], [13], [(.slot 75)]⟩ :: ⟨[13], [], [14], [(.slot 76)]⟩ :: ⟨[14], [], [15], [(.slot 77)]⟩ :: ⟨[14], [], [16], [(.slot 78)]⟩ :: ⟨[14], [], [17], [(.slot 79)]⟩ :: ⟨[14], [], [18], [(.slot 80)]⟩ :: ⟨[18], [], [19], [(.slot 81)]⟩ :: ⟨[19], [], [20], [(.slot 82)]⟩ :: ⟨[19], [], [21], [(.slot 83)]⟩ :: ⟨[19], [], [22], [(.slot 84)]⟩ :: ⟨[22], [], [23], [(.slot 85)]⟩ :: ⟨[23], [], [24], [(.slot 86)]⟩ :: ⟨[23], [], [25], [(.slot 87)]⟩ :: ⟨[23], [], [26], [(.slot 88)]⟩ :: ⟨[26], [], [27], [(.slot 89)]⟩ :: ⟨[27], [], [28], [(.slot 90)]⟩ :: ⟨[27], [], [29], [(.slot 91)]⟩ :: ⟨[27], [], [30], [(.slot 92)]⟩ :: ⟨[27], [], [31], [(.slot 93)]⟩ :: ⟨[27], [], [32], [(.slot 94)]⟩ :: ⟨[32], [], [33], [(.slot 95)]⟩ :: ⟨[33], [], [34], [(.slot 96)]⟩ :: ⟨[33], [], [35], [(.slot 97)]⟩ :: ⟨[33], [], [36], [(.slot 98)]⟩ :: ⟨[33], [], [37], [(.slot 99)]⟩ :: ⟨[33], [], [38], [(.slot 100)]⟩ :: ⟨[38], [], [39], [(.slot 101)]⟩ :: ⟨[39], [], [40], [(.slot 102)]⟩ :: ⟨[39], [], [41], [(.slot 103)]⟩ :: ⟨[41], [], [42], [(.slot 4)]⟩ :: [])) (es' := [(_, _), (4, .v (.bool false))]) (by kernel_rfl) rfl rfl
     ⟨st_plain rfl (op_move _ _ _ _ rfl rfl),
     st_plain rfl (op_bin _ _ _ _ _ rfl rfl rfl),
     st_plain rfl (op_move _ _ _ _ (congrArg (fun b => AV.v (Value.bool b)) hg7_2) rfl),
     st_skip 2 72 _ true rfl rfl rfl rfl (List.Mem.head _),
     st_skip 2 72 _ true rfl rfl rfl rfl (List.Mem.head _),
     st_plain rfl (op_pick _ _ false _ rfl rfl),
     st_plain rfl (op_move _ _ _ _ rfl rfl),
     st_skip 6 76 _ true rfl rfl rfl rfl (List.Mem.head _),
     st_skip 6 76 _ true rfl rfl rfl rfl (List.Mem.head _),
     st_skip 6 76 _ true rfl rfl rfl rfl (List.Mem.head _),
     st_plain rfl (op_pick _ _ false _ rfl rfl),
     st_plain rfl (op_move _ _ _ _ rfl rfl),
     st_skip 11 81 _ true rfl rfl rfl rfl (List.Mem.head _),
     st_skip 11 81 _ true rfl rfl rfl rfl (List.Mem.head _),
     st_plain rfl (op_pick _ _ false _ rfl rfl),
     st_plain rfl (op_move _ _ _ _ rfl rfl),
     st_skip 15 85 _ true rfl rfl rfl rfl (List.Mem.head _),
     st_skip 15 85 _ true rfl rfl rfl rfl (List.Mem.head _),
     st_plain rfl (op_pick _ _ false _ rfl rfl),
     st_plain rfl (op_move _ _ _ _ rfl rfl),
     st_skip 19 89 _ true rfl rfl rfl rfl (List.Mem.head _),
     st_skip 19 89 _ true rfl rfl rfl rfl (List.Mem.head _),
     st_skip 19 89 _ true rfl rfl rfl rfl (List.Mem.head _),
     st_skip 19 89 _ true rfl rfl rfl rfl (List.Mem.head _),
     st_plain rfl (op_pick _ _ false _ rfl rfl),
     st_plain rfl (op_move _ _ _ _ rfl rfl),
     st_skip 25 95 _ true rfl rfl rfl rfl (List.Mem.head _),
     st_skip 25 95 _ true rfl rfl rfl rfl (List.Mem.head _),
     st_skip 25 95 _ true rfl rfl rfl rfl (List.Mem.head _),
     st_skip 25 95 _ true rfl rfl rfl rfl (List.Mem.head _),
     st_plain rfl (op_pick _ _ false _ rfl rfl),
     st_plain rfl (op_move _ _ _ _ rfl rfl),
     st_skip 31 101 _ true rfl rfl rfl rfl (List.Mem.head _),
     st_plain rfl (op_pick _ _ false _ rfl rfl),
     st_plain rfl (op_assign _ _ _ _ rfl rfl),
     trivial⟩ ?_
    exact hl35 _ (Option.some.inj h).symm

end Go.Proofs.Ytegjndibgnnpcaa
