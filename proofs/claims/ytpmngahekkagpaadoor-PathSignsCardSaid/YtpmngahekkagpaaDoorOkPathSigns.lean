/-
  The model's runs are what is told in Lean.
-/
import Derived.Test.YtpmngahekkagpaaDoorProg
import Derived.KernelRfl
import Derived.Test.YtpmngahekkagpaaDoorShelf
import Derived.Test.YtpmngahekkagpaaDoorOkc3
set_option linter.unusedVariables false
set_option linter.unusedSimpArgs false
namespace Go.Proofs.YtpmngahekkagpaaDoor
open Go.Abs Go.Abs.Sh

set_option maxHeartbeats 1000000 in
theorem ok_wherrylaw11_PathSigns (mx : Int) (c : Int) (p : T_Path) (r : Bool) (h : Sh.wherrylaw11_PathSigns c p = some r) : FnG Tryd.prog (GL mx) 8 [.v (.int .u8 c), .agg [.v (.bool p.Null), .v (.string p.Local), .v (.string p.Domain)]] (.v (.bool r)) := by
  unfold Sh.wherrylaw11_PathSigns at h
  refine fn_okG Tryd.func8 rfl (Nat.le_of_ble_eq_true rfl) rfl rfl fun g0 hn hio => ?_
  refine ht_seq ?_
  refine ht_seqR hn (El := [_, _, _, (3, .box 23 [.v (.bool p.Null), .v (.string p.Local), .v (.string p.Domain)]), (4, .v (.bool false))]) (init := [0, 1, 2]) (fin := [0, 2, 3]) (sps := [⟨[1], [], [3], [(.slot 3)]⟩, ⟨[], [], [4], [(.slot 4)]⟩]) (es' := [(_, _), (_, _), (3, .box 23 [.v (.bool p.Null), .v (.string p.Local), .v (.string p.Domain)])]) (by kernel_rfl) rfl rfl
   ⟨st_plain rfl (op_box _ _ _ _ rfl rfl rfl),
   st_plain rfl (op_assign _ _ _ _ rfl rfl),
   trivial⟩ ?_
  refine pt_then ?_
  refine ht_seq ?_
  refine ht_seq ?_
  refine ht_joinS h (fun (s3 : Bool) => [(0, .v (.int .u8 c)), (102, .glob (GL mx)), (3, .box 23 [.v (.bool p.Null), .v (.string p.Local), .v (.string p.Domain)]), (27, .v (.bool s3))]) ?_ ?_
  ·rintro s3 h
   refine pt_then ?_
   refine ht_cond _ rfl (fun hb7 => ?_) (fun hb7 => ?_)
   ·have h := cond_t hb7 h
    refine ht_seq ?_
    refine ht_seqR hn (El := [_, _, _, _, (4, .v (.bool true))]) (init := [0, 1, 2, 3]) (fin := [1, 4]) (sps := [⟨[], [], [4], [(.slot 4)]⟩]) (es' := [(_, _), (4, .v (.bool true))]) (by kernel_rfl) rfl rfl
     ⟨st_plain rfl (op_assign _ _ _ _ rfl rfl),
     trivial⟩ ?_
    refine pt_then ?_
    refine ht_ret ?_
    refine pt_pick [1] (by kernel_rfl) (es' := [(_, _)]) rfl ?_
    refine pt_r_then ?_
    obtain rfl := Option.some.inj h
    exact pt_ret hio rfl (.tmp _ _ .nil) rfl rfl
   ·have h := cond_f hb7 h
    refine ht_skip ?_
    refine pt_then ?_
    refine ht_seq ?_
    obtain ⟨v8, hv8, h⟩ := bind_some h
    obtain ⟨v9, hv9, h⟩ := bind_some h
    obtain ⟨v10, hv10, h⟩ := bind_some h
    refine ht_seqR hn (El := [_, _, _, _, (28, .v (.int .u8 c)), (29, .fl (.own 5) 1 (List.map (Value.int .u8) [c])), (30, .v (.string v8)), (31, .v (.string v9)), (32, .v (.string v10)), (33, .agg [.v (.bool false), .v (.string v10), .v (.string (⟨#[120]⟩ : ByteArray))]), (5, .box 23 [.v (.bool false), .v (.string (⟨#[]⟩ : ByteArray)), .v (.string (⟨#[]⟩ : ByteArray))]), (5, .box 23 [.v (.bool false), .v (.string v10), .v (.string (⟨#[120]⟩ : ByteArray))])]) (init := [0, 1, 2, 3]) (fin := [1, 2, 11]) (sps := [⟨[0], [], [4], [(.slot 28)]⟩, ⟨[4], [], [5], [(.slot 29)]⟩, ⟨[5], [], [6], [(.slot 30)]⟩, ⟨[6], [], [7], [(.slot 31)]⟩, ⟨[7], [], [8], [(.slot 32)]⟩, ⟨[8], [], [9], [(.slot 33)]⟩, ⟨[], [], [10], [(.slot 5)]⟩, ⟨[9], [10], [11], [.cell 5 0, .cell 5 1, .cell 5 2]⟩]) (es' := [(_, _), (_, _), (5, .box 23 [.v (.bool false), .v (.string v10), .v (.string (⟨#[120]⟩ : ByteArray))])]) (by kernel_rfl) rfl rfl
     ⟨st_plain rfl (op_move _ _ _ _ rfl rfl),
     st_plain rfl (op_buildSlice _ _ 1 (.int .u8 0) (List.map (Value.int .u8) [c]) [(0, .int .u8 c)] Tryd.underlying43 sz5 zr5 (fun _ V w o a hv hes => by have e0 := rd_v hv hes (x := .tmp 28) rfl; simp only [List.map_toArray, List.map_cons, List.map_nil, e0]; try rfl) (litfill (by simp [Instr.fill, Value.cells]; rfl) (by simp [List.range, List.range.loop])) (by simp [Value.oneCell']) rfl (by decide) (by decide) (by decide)),
     st_plain rfl ((Option.some.inj hv8) ▸ op_bytes_str _ _ _ [c] Tryd.underlying43 Tryd.underlying9 Tryd.underlying5 rfl),
     st_plain rfl (op_bin _ _ _ _ _ rfl rfl (cat_ok hv9)),
     st_plain rfl (op_bin _ _ _ _ _ rfl rfl (cat_ok hv10)),
     st_plain rfl (op_build _ _ _ _ [1, 1, 1] _ _ Tryd.underlying23 zr23 (fs23 _ Tryd.underlying23) (.copy _ (.copy _ Src.nil)) rfl rfl rfl),
     st_plain rfl (op_alloc _ _ zr23),
     st_plain rfl (op_store _ _ _ _ _ _ _ _ sz23 rfl rfl rfl rfl (Nat.le_of_ble_eq_true rfl) rfl rfl),
     trivial⟩ ?_
    refine pt_then ?_
    refine ht_seq ?_
    refine ht_seq ?_
    obtain ⟨v11, hv11, h⟩ := bind_some h
    obtain ⟨v12, hv12, h⟩ := bind_some h
    obtain ⟨v13, hv13, h⟩ := bind_some h
    refine ht_anyR (by kernel_rfl) hn (El := [_, _, _, (34, .agg [.v (.bool false), .v (.string v10), .v (.string (⟨#[120]⟩ : ByteArray))]), (35, .v (.int .i64 v11)), (36, .v (.bool (v11 == 0))), (37, .agg [.v (.bool false), .v (.string v10), .v (.string (⟨#[120]⟩ : ByteArray))]), (38, .v (.bool v12)), (39, .v (.bool ((!((v11 == 0) == v12)))))]) (init := [0, 1, 2]) (fin := [0, 1, 8]) (sps := [⟨[2], [], [3], [(.slot 34)]⟩, ⟨[3, 0], [], [4], [(.slot 35)]⟩, ⟨[4], [], [5], [(.slot 36)]⟩, ⟨[2], [], [6], [(.slot 37)]⟩, ⟨[6], [], [7], [(.slot 38)]⟩, ⟨[5, 7], [], [8], [(.slot 39)]⟩]) (es' := [(_, _), (_, _), (39, .v (.bool ((!((v11 == 0) == v12)))))]) (by kernel_rfl) rfl rfl
     ⟨st_plain rfl (op_loadA _ _ _ _ _ _ _ Tryd.underlying23 rfl sz23 rfl rfl (Nat.le_of_ble_eq_true rfl) rfl rfl),
     st_plain rfl (op_callG _ _ 102 13 _ _ rfl Tryd.call13 rfl rfl (fun _ h => h) (ok_path_Check mx ((T_Path.mk false v10 (⟨#[120]⟩ : ByteArray))) _ hv11) rfl rfl),
     st_plain rfl (op_bin _ _ _ _ _ rfl rfl rfl),
     st_plain rfl (op_loadA _ _ _ _ _ _ _ Tryd.underlying23 rfl sz23 rfl rfl (Nat.le_of_ble_eq_true rfl) rfl rfl),
     st_plain rfl (op_call _ _ 12 _ _ rfl Tryd.call12 rfl (ok_wherryref11_Path ((T_Path.mk false v10 (⟨#[120]⟩ : ByteArray))) _ hv12) rfl rfl),
     st_plain rfl (op_bne _ _ _ _ Tryd.underlying4 rfl rfl),
     trivial⟩ ?_
    refine pt_then ?_
    refine ht_cond _ rfl (fun hb14 => ?_) (fun hb14 => ?_)
    ·have h := cond_t hb14 h
     refine ht_seq ?_
     refine ht_seqR hn (El := [_, _, _, (4, .v (.bool false))]) (init := [0, 1, 2]) (fin := [0, 3]) (sps := [⟨[], [], [3], [(.slot 4)]⟩]) (es' := [(_, _), (4, .v (.bool false))]) (by kernel_rfl) rfl rfl
      ⟨st_plain rfl (op_assign _ _ _ _ rfl rfl),
      trivial⟩ ?_
     refine pt_then ?_
     refine ht_ret ?_
     refine pt_pick [1] (by kernel_rfl) (es' := [(_, _)]) rfl ?_
     refine pt_r_then ?_
     obtain rfl := Option.some.inj h
     exact pt_ret hio rfl (.tmp _ _ .nil) rfl rfl
    ·have h := cond_f hb14 h
     refine ht_skip ?_
     refine pt_then ?_
     refine ht_seq ?_
     obtain ⟨v15, hv15, h⟩ := bind_some h
     refine ht_seqR hn (El := [_, _, _, (40, .agg [.v (.bool p.Null), .v (.string p.Local), .v (.string p.Domain)]), (41, .v (.string v15)), (6, .v (.string v15))]) (init := [0, 1, 2]) (fin := [0, 1, 5]) (sps := [⟨[1], [], [3], [(.slot 40)]⟩, ⟨[3], [], [4], [(.slot 41)]⟩, ⟨[4], [], [5], [(.slot 6)]⟩]) (es' := [(_, _), (_, _), (6, .v (.string v15))]) (by kernel_rfl) rfl rfl
      ⟨st_plain rfl (op_loadA _ _ _ _ _ _ _ Tryd.underlying23 rfl sz23 rfl rfl (Nat.le_of_ble_eq_true rfl) rfl rfl),
      st_plain rfl (op_call _ _ 17 _ _ rfl Tryd.call17 rfl (ok_wherryref11_Text p _ hv15) rfl rfl),
      st_plain rfl (op_assign _ _ _ _ rfl rfl),
      trivial⟩ ?_
     refine pt_then ?_
     refine ht_seq ?_
     obtain ⟨v16, hv16, h⟩ := bind_some h
     obtain ⟨v17, hv17, h⟩ := bind_some h
     obtain ⟨v18, hv18, h⟩ := bind_some h
     obtain ⟨v19, hv19, h⟩ := bind_some h
     obtain ⟨v20, hv20, h⟩ := bind_some h
     obtain ⟨v21, hv21, h⟩ := bind_some h
     obtain ⟨v22, hv22, h⟩ := bind_some h
     obtain ⟨v23, hv23, h⟩ := bind_some h
     obtain ⟨v24, hv24, h⟩ := bind_some h
     obtain ⟨v25, hv25, h⟩ := bind_some h
     obtain ⟨v26, hv26, h⟩ := bind_some h
     obtain ⟨v27, hv27, h⟩ := bind_some h
     obtain ⟨v28, hv28, h⟩ := bind_some h
     obtain ⟨v29, hv29, h⟩ := bind_some h
     obtain ⟨v30, hv30, h⟩ := bind_some h
     obtain ⟨v31, hv31, h⟩ := bind_some h
     obtain ⟨v32, hv32, h⟩ := bind_some h
     refine ht_anyR (by kernel_rfl) hn (El := (_ :: _ :: _ :: (42, .v (.string v15)) :: (43, .v (.string v16)) :: (44, .v (.string v15)) :: (45, .v (.string v15)) :: (46, .v (.int .i64 (v15.size : Int))) :: (47, .v (.int .i64 v17)) :: (48, .v (.string v18)) :: (49, .v (.string v15)) :: (50, .v (.string v19)) :: (51, .v (.string v15)) :: (52, .v (.string v20)) :: (53, .v (.string v15)) :: (54, .v (.string v21)) :: (55, .ptr 3 1) :: (56, .v (.string p.Local)) :: (57, .v (.string v22)) :: (58, .ptr 3 2) :: (59, .v (.string p.Domain)) :: (60, .v (.string v23)) :: (61, .v (.string v24)) :: (62, .ptr 3 1) :: (63, .v (.string p.Local)) :: (64, .v (.string v25)) :: (65, .v (.string v26)) :: (66, .ptr 3 2) :: (67, .v (.string p.Domain)) :: (68, .v (.string v27)) :: (69, .v (.string v28)) :: (70, .ptr 3 2) :: (71, .v (.string p.Domain)) :: (72, .v (.string v29)) :: (73, .v (.string v30)) :: (74, .ptr 3 1) :: (75, .v (.string p.Local)) :: (76, .v (.string v31)) :: (77, .v (.string v32)) :: (78, .fl (.own 9) 1 (List.map Value.string [v16, v18, v19, v20, v21, v24, v28, v30, v32])) :: (7, .fl (.own 9) 1 (List.map Value.string [v16, v18, v19, v20, v21, v24, v28, v30, v32])) :: [])) (init := [0, 1, 2]) (fin := [0, 40]) (sps := (⟨[2], [], [3], [(.slot 42)]⟩ :: ⟨[3], [], [4], [(.slot 43)]⟩ :: ⟨[2], [], [5], [(.slot 44)]⟩ :: ⟨[2], [], [6], [(.slot 45)]⟩ :: ⟨[6], [], [7], [(.slot 46)]⟩ :: ⟨[7], [], [8], [(.slot 47)]⟩ :: ⟨[5, 8], [], [9], [(.slot 48)]⟩ :: ⟨[2], [], [10], [(.slot 49)]⟩ :: ⟨[10], [], [11], [(.slot 50)]⟩ :: ⟨[2], [], [12], [(.slot 51)]⟩ :: ⟨[12], [], [13], [(.slot 52)]⟩ :: ⟨[2], [], [14], [(.slot 53)]⟩ :: ⟨[14], [], [15], [(.slot 54)]⟩ :: ⟨[1], [], [16], [(.slot 55)]⟩ :: ⟨[16, 1], [], [17], [(.slot 56)]⟩ :: ⟨[17], [], [18], [(.slot 57)]⟩ :: ⟨[1], [], [19], [(.slot 58)]⟩ :: ⟨[19, 1], [], [20], [(.slot 59)]⟩ :: ⟨[18, 20], [], [21], [(.slot 60)]⟩ :: ⟨[21], [], [22], [(.slot 61)]⟩ :: ⟨[1], [], [23], [(.slot 62)]⟩ :: ⟨[23, 1], [], [24], [(.slot 63)]⟩ :: ⟨[24], [], [25], [(.slot 64)]⟩ :: ⟨[25], [], [26], [(.slot 65)]⟩ :: ⟨[1], [], [27], [(.slot 66)]⟩ :: ⟨[27, 1], [], [28], [(.slot 67)]⟩ :: ⟨[26, 28], [], [29], [(.slot 68)]⟩ :: ⟨[29], [], [30], [(.slot 69)]⟩ :: ⟨[1], [], [31], [(.slot 70)]⟩ :: ⟨[31, 1], [], [32], [(.slot 71)]⟩ :: ⟨[32], [], [33], [(.slot 72)]⟩ :: ⟨[33], [], [34], [(.slot 73)]⟩ :: ⟨[1], [], [35], [(.slot 74)]⟩ :: ⟨[35, 1], [], [36], [(.slot 75)]⟩ :: ⟨[36], [], [37], [(.slot 76)]⟩ :: ⟨[37], [], [38], [(.slot 77)]⟩ :: ⟨[4, 9, 11, 13, 15, 22, 30, 34, 38], [], [39], [(.slot 78)]⟩ :: ⟨[], [39], [40], [(.slot 7)]⟩ :: [])) (es' := [(_, _), (7, .fl (.own 9) 1 (List.map Value.string [v16, v18, v19, v20, v21, v24, v28, v30, v32]))]) (by kernel_rfl) rfl rfl
      ⟨st_plain rfl (op_move _ _ _ _ rfl rfl),
      st_plain rfl (op_substr _ _ _ 1 (v15.size : Int) _ Tryd.underlying9 rfl ⟨_, rfl⟩ rfl hv16),
      st_plain rfl (op_move _ _ _ _ rfl rfl),
      st_plain rfl (op_move _ _ _ _ rfl rfl),
      st_plain rfl (op_len_str _ _ _ Tryd.underlying9 rfl),
      st_plain rfl (op_bin _ _ _ _ _ rfl rfl (ibind (f := Value.int .i64) (Option.some.inj hv17))),
      st_plain rfl (op_substr _ _ _ 0 v17 _ Tryd.underlying9 rfl rfl ⟨_, rfl⟩ hv18),
      st_plain rfl (op_move _ _ _ _ rfl rfl),
      st_plain rfl (op_bin _ _ _ _ _ rfl rfl (cat_ok hv19)),
      st_plain rfl (op_move _ _ _ _ rfl rfl),
      st_plain rfl (op_bin _ _ _ _ _ rfl rfl (cat_ok hv20)),
      st_plain rfl (op_move _ _ _ _ rfl rfl),
      st_plain rfl (op_bin _ _ _ _ _ rfl rfl (cat_ok hv21)),
      st_plain rfl (op_fieldAddr _ _ _ _ 3 0 _ Tryd.underlying23 rfl sz9 rfl rfl (by decide)),
      st_plain rfl (op_load _ _ _ _ _ _ Tryd.underlying9 rfl rfl rfl (Nat.le_of_ble_eq_true rfl) rfl rfl rfl),
      st_plain rfl (op_bin _ _ _ _ _ rfl rfl (cat_ok hv22)),
      st_plain rfl (op_fieldAddr _ _ _ _ 3 0 _ Tryd.underlying23 rfl sz9 rfl rfl (by decide)),
      st_plain rfl (op_load _ _ _ _ _ _ Tryd.underlying9 rfl rfl rfl (Nat.le_of_ble_eq_true rfl) rfl rfl rfl),
      st_plain rfl (op_bin _ _ _ _ _ rfl rfl (cat_ok hv23)),
      st_plain rfl (op_bin _ _ _ _ _ rfl rfl (cat_ok hv24)),
      st_plain rfl (op_fieldAddr _ _ _ _ 3 0 _ Tryd.underlying23 rfl sz9 rfl rfl (by decide)),
      st_plain rfl (op_load _ _ _ _ _ _ Tryd.underlying9 rfl rfl rfl (Nat.le_of_ble_eq_true rfl) rfl rfl rfl),
      st_plain rfl (op_bin _ _ _ _ _ rfl rfl (cat_ok hv25)),
      st_plain rfl (op_bin _ _ _ _ _ rfl rfl (cat_ok hv26)),
      st_plain rfl (op_fieldAddr _ _ _ _ 3 0 _ Tryd.underlying23 rfl sz9 rfl rfl (by decide)),
      st_plain rfl (op_load _ _ _ _ _ _ Tryd.underlying9 rfl rfl rfl (Nat.le_of_ble_eq_true rfl) rfl rfl rfl),
      st_plain rfl (op_bin _ _ _ _ _ rfl rfl (cat_ok hv27)),
      st_plain rfl (op_bin _ _ _ _ _ rfl rfl (cat_ok hv28)),
      st_plain rfl (op_fieldAddr _ _ _ _ 3 0 _ Tryd.underlying23 rfl sz9 rfl rfl (by decide)),
      st_plain rfl (op_load _ _ _ _ _ _ Tryd.underlying9 rfl rfl rfl (Nat.le_of_ble_eq_true rfl) rfl rfl rfl),
      st_plain rfl (op_bin _ _ _ _ _ rfl rfl (cat_ok hv29)),
      st_plain rfl (op_bin _ _ _ _ _ rfl rfl (cat_ok hv30)),
      st_plain rfl (op_fieldAddr _ _ _ _ 3 0 _ Tryd.underlying23 rfl sz9 rfl rfl (by decide)),
      st_plain rfl (op_load _ _ _ _ _ _ Tryd.underlying9 rfl rfl rfl (Nat.le_of_ble_eq_true rfl) rfl rfl rfl),
      st_plain rfl (op_bin _ _ _ _ _ rfl rfl (cat_ok hv31)),
      st_plain rfl (op_bin _ _ _ _ _ rfl rfl (cat_ok hv32)),
      st_plain rfl (op_buildSlice _ _ 1 (.string ByteArray.empty) (List.map Value.string [v16, v18, v19, v20, v21, v24, v28, v30, v32]) [(0, .string v16), (1, .string v18), (2, .string v19), (3, .string v20), (4, .string v21), (5, .string v24), (6, .string v28), (7, .string v30), (8, .string v32)] Tryd.underlying47 sz9 zr9 (fun _ V w o a hv hes => by have e0 := rd_v hv hes (x := .tmp 43) rfl; have e1 := rd_v hv hes (x := .tmp 48) rfl; have e2 := rd_v hv hes (x := .tmp 50) rfl; have e3 := rd_v hv hes (x := .tmp 52) rfl; have e4 := rd_v hv hes (x := .tmp 54) rfl; have e5 := rd_v hv hes (x := .tmp 61) rfl; have e6 := rd_v hv hes (x := .tmp 69) rfl; have e7 := rd_v hv hes (x := .tmp 73) rfl; have e8 := rd_v hv hes (x := .tmp 77) rfl; simp only [List.map_toArray, List.map_cons, List.map_nil, e0, e1, e2, e3, e4, e5, e6, e7, e8]; try rfl) (litfill (by simp [Instr.fill, Value.cells]; rfl) (by simp [List.range, List.range.loop])) (by simp [Value.oneCell']) rfl (by decide) (by decide) (by decide)),
      st_plain rfl (op_assign_take _ _ _ _ rfl),
      trivial⟩ ?_
     refine pt_then ?_
     refine ht_seq ?_
     refine ht_seq ?_
     refine ht_seqR hn (El := [_, _, (8, .v (.int .i64 0))]) (init := [0, 1]) (fin := [0, 1, 2]) (sps := [⟨[], [], [2], [(.slot 8)]⟩]) (es' := [(_, _), (_, _), (8, .v (.int .i64 0))]) (by kernel_rfl) rfl rfl
      ⟨st_plain rfl (op_assign _ _ _ _ rfl rfl),
      trivial⟩ ?_
     refine pt_then ?_
     refine ht_loopS h (fun (s51 : Int) => [(102, .glob (GL mx)), (7, .fl (.own 9) 1 (List.map Value.string [v16, v18, v19, v20, v21, v24, v28, v30, v32])), (8, .v (.int .i64 s51))]) (fun (() : Unit) => [(102, .glob (GL mx))]) ?_ ?_
     ·rintro ⟨⟩ h
      refine pt_then ?_
      refine ht_seq ?_
      obtain ⟨v70, hv70, h⟩ := bind_some h
      refine ht_seqR hn (El := [_, (101, .v (.bool v70)), (4, .v (.bool v70))]) (init := [0]) (fin := [0, 2]) (sps := [⟨[0], [], [1], [(.slot 101)]⟩, ⟨[1], [], [2], [(.slot 4)]⟩]) (es' := [(_, _), (4, .v (.bool v70))]) (by kernel_rfl) rfl rfl
       ⟨st_plain rfl (op_callG _ _ 102 24 _ _ rfl Tryd.call24 rfl rfl (fun _ h => h) (ok_wherrylaw11_wakes mx  _ hv70) rfl rfl),
       st_plain rfl (op_assign _ _ _ _ rfl rfl),
       trivial⟩ ?_
      refine pt_then ?_
      refine ht_ret ?_
      refine pt_pick [1] (by kernel_rfl) (es' := [(_, _)]) rfl ?_
      obtain rfl := Option.some.inj h
      exact pt_ret hio rfl (.tmp _ _ .nil) rfl rfl
     ·rintro u58 hl59 hr60 s51 rr63 h ho61
      refine ht_seq ?_
      refine ht_seq ?_
      refine ht_seqR hn (El := [_, _, _, (79, .v (.int .i64 s51)), (80, .same (.slot 7)), (81, .v (.int .i64 ([v16, v18, v19, v20, v21, v24, v28, v30, v32].length : Int))), (82, .v (.bool ((decide (s51 < ([v16, v18, v19, v20, v21, v24, v28, v30, v32].length : Int))))))]) (init := [0, 1, 2]) (fin := [0, 1, 2, 6]) (sps := [⟨[2], [], [3], [(.slot 79)]⟩, ⟨[1], [], [4], [(.slot 80)]⟩, ⟨[4, 1], [], [5], [(.slot 81)]⟩, ⟨[3, 5], [], [6], [(.slot 82)]⟩]) (es' := [(_, _), (_, _), (_, _), (82, .v (.bool ((decide (s51 < ([v16, v18, v19, v20, v21, v24, v28, v30, v32].length : Int))))))]) (by kernel_rfl) rfl rfl
       ⟨st_plain rfl (op_move _ _ _ _ rfl rfl),
       st_plain rfl (op_move _ _ _ _ rfl rfl),
       st_plain rfl (op_len_fl _ _ _ Tryd.underlying47 rfl (by decide) (map_len _)),
       st_plain rfl (op_bin _ _ _ _ _ rfl rfl rfl),
       trivial⟩ ?_
      refine pt_then ?_
      refine ht_cond _ rfl (fun hb64 => ?_) (fun hb64 => ?_)
      ·have h := cond_t hb64 h
       refine ht_skip ?_
       refine pt_then ?_
       refine ht_seq ?_
       refine ht_block ?_
       refine ht_seq ?_
       obtain ⟨v34, hv34, h⟩ := bind_some h
       obtain ⟨v35, hv35, h⟩ := bind_some h
       obtain ⟨v36, hv36, h⟩ := bind_some h
       refine ht_seqR hn (El := (_ :: _ :: _ :: _ :: (86, .same (.slot 7)) :: (87, .v (.int .i64 s51)) :: (88, .eref (.slot 7) (v34 * 1)) :: (89, .v (.string v35)) :: (90, .tup [.agg [.v (.bool v36.1.Null), .v (.string v36.1.Local), .v (.string v36.1.Domain)], .v (.int .i64 v36.2)]) :: (85, .tup [.agg [.v (.bool v36.1.Null), .v (.string v36.1.Local), .v (.string v36.1.Domain)], .v (.int .i64 v36.2)]) :: (91, .agg [.v (.bool v36.1.Null), .v (.string v36.1.Local), .v (.string v36.1.Domain)]) :: (92, .v (.int .i64 v36.2)) :: (9, .box 23 [.v (.bool false), .v (.string (⟨#[]⟩ : ByteArray)), .v (.string (⟨#[]⟩ : ByteArray))]) :: (9, .box 23 [.v (.bool v36.1.Null), .v (.string v36.1.Local), .v (.string v36.1.Domain)]) :: (10, .v (.int .i64 v36.2)) :: [])) (init := [0, 1, 2, 3]) (fin := [0, 1, 2, 13, 14]) (sps := [⟨[1], [], [4], [(.slot 86)]⟩, ⟨[2], [], [5], [(.slot 87)]⟩, ⟨[4, 1, 5], [], [6], [(.slot 88)]⟩, ⟨[6, 1], [], [7], [(.slot 89)]⟩, ⟨[7, 0], [], [8], [(.slot 90)]⟩, ⟨[], [8], [9], [(.slot 85)]⟩, ⟨[9], [], [10], [(.slot 91)]⟩, ⟨[9], [], [11], [(.slot 92)]⟩, ⟨[], [], [12], [(.slot 9)]⟩, ⟨[10], [12], [13], [.cell 9 0, .cell 9 1, .cell 9 2]⟩, ⟨[11], [], [14], [(.slot 10)]⟩]) (es' := [(_, _), (_, _), (_, _), (9, .box 23 [.v (.bool v36.1.Null), .v (.string v36.1.Local), .v (.string v36.1.Domain)]), (10, .v (.int .i64 v36.2))]) (by kernel_rfl) rfl rfl
        ⟨st_plain rfl (op_move _ _ _ _ rfl rfl),
        st_plain rfl (op_move _ _ _ _ rfl rfl),
        st_plain rfl (op_ix _ _ _ _ _ _ _ _ Tryd.underlying47 sz9 (by decide) rfl rfl rfl (ix_ok hv34).1 (map_lt (ix_ok hv34).2) rfl),
        st_plain rfl (op_load_e _ _ _ _ _ _ Tryd.underlying9 rfl rfl rfl (map_get hv35)),
        st_plain rfl (op_callG _ _ 102 9 _ _ rfl Tryd.call9 rfl rfl (fun _ h => h) (ok_path_Parse mx v35 _ hv36) rfl rfl),
        st_plain rfl (op_move_take _ _ _ _ rfl),
        st_plain rfl (op_extract_no _ _ _ _ _ _ rfl rfl (Nat.le_of_ble_eq_true rfl) rfl rfl),
        st_plain rfl (op_extract _ _ _ _ _ rfl rfl (Nat.le_of_ble_eq_true rfl) rfl rfl),
        st_plain rfl (op_alloc _ _ zr23),
        st_plain rfl (op_store _ _ _ _ _ _ _ _ sz23 rfl rfl rfl rfl (Nat.le_of_ble_eq_true rfl) rfl rfl),
        st_plain rfl (op_assign _ _ _ _ rfl rfl),
        trivial⟩ ?_
       refine pt_then ?_
       refine ht_seq ?_
       refine ht_joinS h (fun (s65 : Bool) => [(102, .glob (GL mx)), (7, .fl (.own 9) 1 (List.map Value.string [v16, v18, v19, v20, v21, v24, v28, v30, v32])), (8, .v (.int .i64 s51)), (100, .v (.bool s65))]) ?_ ?_
       ·rintro s65 h
        refine pt_then ?_
        refine ht_cond _ rfl (fun hb69 => ?_) (fun hb69 => ?_)
        ·have h := cond_t hb69 h
         refine ht_seq ?_
         refine ht_seqR hn (El := [_, _, _, _, (4, .v (.bool false))]) (init := [0, 1, 2, 3]) (fin := [0, 4]) (sps := [⟨[], [], [4], [(.slot 4)]⟩]) (es' := [(_, _), (4, .v (.bool false))]) (by kernel_rfl) rfl rfl
          ⟨st_plain rfl (op_assign _ _ _ _ rfl rfl),
          trivial⟩ ?_
         refine pt_then ?_
         refine ht_ret ?_
         refine pt_pick [1] (by kernel_rfl) (es' := [(_, _)]) rfl ?_
         refine pt_r_in ?_
         refine pt_r_then ?_
         refine pt_r_then ?_
         refine pt_r_in ?_
         refine pt_r_then ?_
         have h := hr60 _ (ho61 _ (Option.some.inj h).symm).symm
         obtain rfl := Option.some.inj h
         exact pt_ret hio rfl (.tmp _ _ .nil) rfl rfl
        ·have h := cond_f hb69 h
         refine ht_skip ?_
         refine pt_inb ?_
         refine pt_then ?_
         obtain ⟨v43, hv43, h⟩ := bind_some h
         refine ht_seqR hn (El := [_, _, _, _, (83, .v (.int .i64 s51)), (84, .v (.int .i64 v43)), (8, .v (.int .i64 v43))]) (init := [0, 1, 2, 3]) (fin := [0, 1, 6]) (sps := [⟨[2], [], [4], [(.slot 83)]⟩, ⟨[4], [], [5], [(.slot 84)]⟩, ⟨[5], [2], [6], [(.slot 8)]⟩]) (es' := [(_, _), (_, _), (8, .v (.int .i64 v43))]) (by kernel_rfl) rfl rfl
          ⟨st_plain rfl (op_move _ _ _ _ rfl rfl),
          st_plain rfl (op_bin _ _ _ _ _ rfl rfl (ibind (f := Value.int .i64) (Option.some.inj hv43))),
          st_plain rfl (LOp.drop [_] (op_assign _ _ _ _ rfl rfl)),
          trivial⟩ ?_
         exact pt_next _ (Option.some.inj h).symm rfl
       ·intro u66 h hl67 hr68
        refine cond_some h (fun hg12_2 h => ?_) (fun hg12_2 h => ?_)
        ·refine ht_seqR hn (El := [_, _, _, _, _, (93, .v (.int .i64 v36.2)), (94, .v (.bool (v36.2 != 5))), (95, .v (.bool true)), (96, .v undef), (97, .v undef), (98, .v undef), (99, .v undef), (100, .v (.bool true))]) (init := [0, 1, 2, 3, 4]) (fin := [0, 1, 2, 12]) (sps := [⟨[4], [], [5], [(.slot 93)]⟩, ⟨[5], [], [6], [(.slot 94)]⟩, ⟨[6], [], [7], [(.slot 95)]⟩, ⟨[7], [], [8], [(.slot 96)]⟩, ⟨[7], [], [9], [(.slot 97)]⟩, ⟨[7], [], [10], [(.slot 98)]⟩, ⟨[7], [], [11], [(.slot 99)]⟩, ⟨[7], [], [12], [(.slot 100)]⟩]) (es' := [(_, _), (_, _), (_, _), (100, .v (.bool true))]) (by kernel_rfl) rfl rfl
          ⟨st_plain rfl (op_move _ _ _ _ rfl rfl),
          st_plain rfl (op_bin _ _ _ _ _ rfl rfl rfl),
          st_plain rfl (op_move _ _ _ _ (congrArg (fun b => AV.v (Value.bool b)) hg12_2) rfl),
          st_skip 2 95 _ false rfl rfl rfl rfl (List.Mem.head _),
          st_skip 2 95 _ false rfl rfl rfl rfl (List.Mem.head _),
          st_skip 2 95 _ false rfl rfl rfl rfl (List.Mem.head _),
          st_skip 2 95 _ false rfl rfl rfl rfl (List.Mem.head _),
          st_plain rfl (op_pick _ _ true _ rfl rfl),
          trivial⟩ ?_
         exact hl67 _ (Option.some.inj h).symm
        ·obtain ⟨v37, hv37, h⟩ := bind_some h
         refine ht_seqR hn (El := [_, _, _, _, _, (93, .v (.int .i64 v36.2)), (94, .v (.bool (v36.2 != 5))), (95, .v (.bool false)), (96, .agg [.v (.bool v36.1.Null), .v (.string v36.1.Local), .v (.string v36.1.Domain)]), (97, .agg [.v (.bool false), .v (.string (⟨#[]⟩ : ByteArray)), .v (.string (⟨#[]⟩ : ByteArray))]), (98, .v (.bool v37)), (99, .v (.bool (!v37))), (100, .v (.bool (!v37)))]) (init := [0, 1, 2, 3, 4]) (fin := [0, 1, 2, 12]) (sps := [⟨[4], [], [5], [(.slot 93)]⟩, ⟨[5], [], [6], [(.slot 94)]⟩, ⟨[6], [], [7], [(.slot 95)]⟩, ⟨[7, 3], [], [8], [(.slot 96)]⟩, ⟨[7], [], [9], [(.slot 97)]⟩, ⟨[7, 8, 9], [], [10], [(.slot 98)]⟩, ⟨[7, 10], [], [11], [(.slot 99)]⟩, ⟨[7, 11], [], [12], [(.slot 100)]⟩]) (es' := [(_, _), (_, _), (_, _), (100, .v (.bool (!v37)))]) (by kernel_rfl) rfl rfl
          ⟨st_plain rfl (op_move _ _ _ _ rfl rfl),
          st_plain rfl (op_bin _ _ _ _ _ rfl rfl rfl),
          st_plain rfl (op_move _ _ _ _ (congrArg (fun b => AV.v (Value.bool b)) hg12_2) rfl),
          st_run 2 95 false rfl rfl rfl (List.Mem.head _) (op_loadA _ _ _ _ _ _ _ Tryd.underlying23 rfl sz23 rfl rfl (Nat.le_of_ble_eq_true rfl) rfl rfl),
          st_run 2 95 false rfl rfl rfl (List.Mem.head _) (op_build _ _ _ _ [1, 1, 1] _ _ Tryd.underlying23 zr23 (fs23 _ Tryd.underlying23) Src.nil rfl rfl rfl),
          st_run 2 95 false rfl rfl rfl (List.Mem.head _) (op_call _ _ 16 _ _ rfl Tryd.call16 rfl (ok_wherrykeep_Path v36.1 ((T_Path.mk false (⟨#[]⟩ : ByteArray) (⟨#[]⟩ : ByteArray))) _ hv37) rfl rfl),
          st_run 2 95 false rfl rfl rfl (List.Mem.head _) (op_un _ _ _ _ rfl rfl),
          st_plain rfl (op_pick _ _ false _ rfl rfl),
          trivial⟩ ?_
         exact hl67 _ (Option.some.inj h).symm
      ·have h := cond_f hb64 h
       refine ht_exit ?_
       refine pt_x_then ?_
       refine pt_x_then ?_
       refine pt_x_in ?_
       refine pt_pick [0] (by kernel_rfl) (es' := [(_, _)]) rfl ?_
       exact hl59 _ (ho61 _ (Option.some.inj h).symm).symm
  ·intro u4 h hl5 hr6
   obtain ⟨v1, hv1, h⟩ := bind_some h
   refine cond_some h (fun hg1_8 h => ?_) (fun hg1_8 h => ?_)
   ·refine ht_seqR hn (El := (_ :: _ :: _ :: (11, .ptr 3 1) :: (12, .v (.string p.Local)) :: (13, .v (.int .i64 (p.Local.size : Int))) :: (14, .ptr 3 2) :: (15, .v (.string p.Domain)) :: (16, .v (.int .i64 (p.Domain.size : Int))) :: (17, .v (.int .i64 v1)) :: (18, .v (.bool ((decide (300 < v1))))) :: (19, .v (.bool true)) :: (20, .v undef) :: (21, .v undef) :: (22, .v undef) :: (23, .v (.bool true)) :: (24, .v (.bool true)) :: (25, .v undef) :: (26, .v undef) :: (27, .v (.bool true)) :: [])) (init := [0, 1, 2]) (fin := [0, 1, 2, 19]) (sps := (⟨[2], [], [3], [(.slot 11)]⟩ :: ⟨[3, 2], [], [4], [(.slot 12)]⟩ :: ⟨[4], [], [5], [(.slot 13)]⟩ :: ⟨[2], [], [6], [(.slot 14)]⟩ :: ⟨[6, 2], [], [7], [(.slot 15)]⟩ :: ⟨[7], [], [8], [(.slot 16)]⟩ :: ⟨[5, 8], [], [9], [(.slot 17)]⟩ :: ⟨[9], [], [10], [(.slot 18)]⟩ :: ⟨[10], [], [11], [(.slot 19)]⟩ :: ⟨[11], [], [12], [(.slot 20)]⟩ :: ⟨[11], [], [13], [(.slot 21)]⟩ :: ⟨[11], [], [14], [(.slot 22)]⟩ :: ⟨[11], [], [15], [(.slot 23)]⟩ :: ⟨[15], [], [16], [(.slot 24)]⟩ :: ⟨[16], [], [17], [(.slot 25)]⟩ :: ⟨[16], [], [18], [(.slot 26)]⟩ :: ⟨[16], [], [19], [(.slot 27)]⟩ :: [])) (es' := [(_, _), (_, _), (_, _), (27, .v (.bool true))]) (by kernel_rfl) rfl rfl
     ⟨st_plain rfl (op_fieldAddr _ _ _ _ 3 0 _ Tryd.underlying23 rfl sz9 rfl rfl (by decide)),
     st_plain rfl (op_load _ _ _ _ _ _ Tryd.underlying9 rfl rfl rfl (Nat.le_of_ble_eq_true rfl) rfl rfl rfl),
     st_plain rfl (op_len_str _ _ _ Tryd.underlying9 rfl),
     st_plain rfl (op_fieldAddr _ _ _ _ 3 0 _ Tryd.underlying23 rfl sz9 rfl rfl (by decide)),
     st_plain rfl (op_load _ _ _ _ _ _ Tryd.underlying9 rfl rfl rfl (Nat.le_of_ble_eq_true rfl) rfl rfl rfl),
     st_plain rfl (op_len_str _ _ _ Tryd.underlying9 rfl),
     st_plain rfl (op_bin _ _ _ _ _ rfl rfl (ibind (f := Value.int .i64) (Option.some.inj hv1))),
     st_plain rfl (op_bin _ _ _ _ _ rfl rfl rfl),
     st_plain rfl (op_move _ _ _ _ (congrArg (fun b => AV.v (Value.bool b)) hg1_8) rfl),
     st_skip 8 19 _ false rfl rfl rfl rfl (List.Mem.head _),
     st_skip 8 19 _ false rfl rfl rfl rfl (List.Mem.head _),
     st_skip 8 19 _ false rfl rfl rfl rfl (List.Mem.head _),
     st_plain rfl (op_pick _ _ true _ rfl rfl),
     st_plain rfl (op_move _ _ _ _ rfl rfl),
     st_skip 13 24 _ false rfl rfl rfl rfl (List.Mem.head _),
     st_skip 13 24 _ false rfl rfl rfl rfl (List.Mem.head _),
     st_plain rfl (op_pick _ _ true _ rfl rfl),
     trivial⟩ ?_
    exact hl5 _ (Option.some.inj h).symm
   ·obtain ⟨v2, hv2, h⟩ := bind_some h
    refine cond_some h (fun hg1_13 h => ?_) (fun hg1_13 h => ?_)
    ·refine ht_seqR hn (El := (_ :: _ :: _ :: (11, .ptr 3 1) :: (12, .v (.string p.Local)) :: (13, .v (.int .i64 (p.Local.size : Int))) :: (14, .ptr 3 2) :: (15, .v (.string p.Domain)) :: (16, .v (.int .i64 (p.Domain.size : Int))) :: (17, .v (.int .i64 v1)) :: (18, .v (.bool ((decide (300 < v1))))) :: (19, .v (.bool false)) :: (20, .agg [.v (.bool p.Null), .v (.string p.Local), .v (.string p.Domain)]) :: (21, .v (.bool v2)) :: (22, .v (.bool (!v2))) :: (23, .v (.bool (!v2))) :: (24, .v (.bool true)) :: (25, .v undef) :: (26, .v undef) :: (27, .v (.bool true)) :: [])) (init := [0, 1, 2]) (fin := [0, 1, 2, 19]) (sps := (⟨[2], [], [3], [(.slot 11)]⟩ :: ⟨[3, 2], [], [4], [(.slot 12)]⟩ :: ⟨[4], [], [5], [(.slot 13)]⟩ :: ⟨[2], [], [6], [(.slot 14)]⟩ :: ⟨[6, 2], [], [7], [(.slot 15)]⟩ :: ⟨[7], [], [8], [(.slot 16)]⟩ :: ⟨[5, 8], [], [9], [(.slot 17)]⟩ :: ⟨[9], [], [10], [(.slot 18)]⟩ :: ⟨[10], [], [11], [(.slot 19)]⟩ :: ⟨[11, 2], [], [12], [(.slot 20)]⟩ :: ⟨[11, 12], [], [13], [(.slot 21)]⟩ :: ⟨[11, 13], [], [14], [(.slot 22)]⟩ :: ⟨[11, 14], [], [15], [(.slot 23)]⟩ :: ⟨[15], [], [16], [(.slot 24)]⟩ :: ⟨[16], [], [17], [(.slot 25)]⟩ :: ⟨[16], [], [18], [(.slot 26)]⟩ :: ⟨[16], [], [19], [(.slot 27)]⟩ :: [])) (es' := [(_, _), (_, _), (_, _), (27, .v (.bool true))]) (by kernel_rfl) rfl rfl
      ⟨st_plain rfl (op_fieldAddr _ _ _ _ 3 0 _ Tryd.underlying23 rfl sz9 rfl rfl (by decide)),
      st_plain rfl (op_load _ _ _ _ _ _ Tryd.underlying9 rfl rfl rfl (Nat.le_of_ble_eq_true rfl) rfl rfl rfl),
      st_plain rfl (op_len_str _ _ _ Tryd.underlying9 rfl),
      st_plain rfl (op_fieldAddr _ _ _ _ 3 0 _ Tryd.underlying23 rfl sz9 rfl rfl (by decide)),
      st_plain rfl (op_load _ _ _ _ _ _ Tryd.underlying9 rfl rfl rfl (Nat.le_of_ble_eq_true rfl) rfl rfl rfl),
      st_plain rfl (op_len_str _ _ _ Tryd.underlying9 rfl),
      st_plain rfl (op_bin _ _ _ _ _ rfl rfl (ibind (f := Value.int .i64) (Option.some.inj hv1))),
      st_plain rfl (op_bin _ _ _ _ _ rfl rfl rfl),
      st_plain rfl (op_move _ _ _ _ (congrArg (fun b => AV.v (Value.bool b)) hg1_8) rfl),
      st_run 8 19 false rfl rfl rfl (List.Mem.head _) (op_loadA _ _ _ _ _ _ _ Tryd.underlying23 rfl sz23 rfl rfl (Nat.le_of_ble_eq_true rfl) rfl rfl),
      st_run 8 19 false rfl rfl rfl (List.Mem.head _) (op_call _ _ 12 _ _ rfl Tryd.call12 rfl (ok_wherryref11_Path p _ hv2) rfl rfl),
      st_run 8 19 false rfl rfl rfl (List.Mem.head _) (op_un _ _ _ _ rfl rfl),
      st_plain rfl (op_pick _ _ false _ rfl rfl),
      st_plain rfl (op_move _ _ _ _ (congrArg (fun b => AV.v (Value.bool b)) hg1_13) rfl),
      st_skip 13 24 _ false rfl rfl rfl rfl (List.Mem.head _),
      st_skip 13 24 _ false rfl rfl rfl rfl (List.Mem.head _),
      st_plain rfl (op_pick _ _ true _ rfl rfl),
      trivial⟩ ?_
     exact hl5 _ (Option.some.inj h).symm
    ·refine ht_seqR hn (El := (_ :: _ :: _ :: (11, .ptr 3 1) :: (12, .v (.string p.Local)) :: (13, .v (.int .i64 (p.Local.size : Int))) :: (14, .ptr 3 2) :: (15, .v (.string p.Domain)) :: (16, .v (.int .i64 (p.Domain.size : Int))) :: (17, .v (.int .i64 v1)) :: (18, .v (.bool ((decide (300 < v1))))) :: (19, .v (.bool false)) :: (20, .agg [.v (.bool p.Null), .v (.string p.Local), .v (.string p.Domain)]) :: (21, .v (.bool v2)) :: (22, .v (.bool (!v2))) :: (23, .v (.bool (!v2))) :: (24, .v (.bool false)) :: (25, .ptr 3 0) :: (26, .v (.bool p.Null)) :: (27, .v (.bool p.Null)) :: [])) (init := [0, 1, 2]) (fin := [0, 1, 2, 19]) (sps := (⟨[2], [], [3], [(.slot 11)]⟩ :: ⟨[3, 2], [], [4], [(.slot 12)]⟩ :: ⟨[4], [], [5], [(.slot 13)]⟩ :: ⟨[2], [], [6], [(.slot 14)]⟩ :: ⟨[6, 2], [], [7], [(.slot 15)]⟩ :: ⟨[7], [], [8], [(.slot 16)]⟩ :: ⟨[5, 8], [], [9], [(.slot 17)]⟩ :: ⟨[9], [], [10], [(.slot 18)]⟩ :: ⟨[10], [], [11], [(.slot 19)]⟩ :: ⟨[11, 2], [], [12], [(.slot 20)]⟩ :: ⟨[11, 12], [], [13], [(.slot 21)]⟩ :: ⟨[11, 13], [], [14], [(.slot 22)]⟩ :: ⟨[11, 14], [], [15], [(.slot 23)]⟩ :: ⟨[15], [], [16], [(.slot 24)]⟩ :: ⟨[16, 2], [], [17], [(.slot 25)]⟩ :: ⟨[16, 17, 2], [], [18], [(.slot 26)]⟩ :: ⟨[16, 18], [], [19], [(.slot 27)]⟩ :: [])) (es' := [(_, _), (_, _), (_, _), (27, .v (.bool p.Null))]) (by kernel_rfl) rfl rfl
      ⟨st_plain rfl (op_fieldAddr _ _ _ _ 3 0 _ Tryd.underlying23 rfl sz9 rfl rfl (by decide)),
      st_plain rfl (op_load _ _ _ _ _ _ Tryd.underlying9 rfl rfl rfl (Nat.le_of_ble_eq_true rfl) rfl rfl rfl),
      st_plain rfl (op_len_str _ _ _ Tryd.underlying9 rfl),
      st_plain rfl (op_fieldAddr _ _ _ _ 3 0 _ Tryd.underlying23 rfl sz9 rfl rfl (by decide)),
      st_plain rfl (op_load _ _ _ _ _ _ Tryd.underlying9 rfl rfl rfl (Nat.le_of_ble_eq_true rfl) rfl rfl rfl),
      st_plain rfl (op_len_str _ _ _ Tryd.underlying9 rfl),
      st_plain rfl (op_bin _ _ _ _ _ rfl rfl (ibind (f := Value.int .i64) (Option.some.inj hv1))),
      st_plain rfl (op_bin _ _ _ _ _ rfl rfl rfl),
      st_plain rfl (op_move _ _ _ _ (congrArg (fun b => AV.v (Value.bool b)) hg1_8) rfl),
      st_run 8 19 false rfl rfl rfl (List.Mem.head _) (op_loadA _ _ _ _ _ _ _ Tryd.underlying23 rfl sz23 rfl rfl (Nat.le_of_ble_eq_true rfl) rfl rfl),
      st_run 8 19 false rfl rfl rfl (List.Mem.head _) (op_call _ _ 12 _ _ rfl Tryd.call12 rfl (ok_wherryref11_Path p _ hv2) rfl rfl),
      st_run 8 19 false rfl rfl rfl (List.Mem.head _) (op_un _ _ _ _ rfl rfl),
      st_plain rfl (op_pick _ _ false _ rfl rfl),
      st_plain rfl (op_move _ _ _ _ (congrArg (fun b => AV.v (Value.bool b)) hg1_13) rfl),
      st_run 13 24 false rfl rfl rfl (List.Mem.head _) (op_fieldAddr _ _ _ _ 3 0 _ Tryd.underlying23 rfl sz4 rfl rfl (by decide)),
      st_run 13 24 false rfl rfl rfl (List.Mem.head _) (op_load _ _ _ _ _ _ Tryd.underlying4 rfl rfl rfl (Nat.le_of_ble_eq_true rfl) rfl rfl rfl),
      st_plain rfl (op_pick _ _ false _ rfl rfl),
      trivial⟩ ?_
     exact hl5 _ (Option.some.inj h).symm

end Go.Proofs.YtpmngahekkagpaaDoor
